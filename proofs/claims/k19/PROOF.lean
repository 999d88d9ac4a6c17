import PyProof.Rows.All
import Wide.All
import OpenK.AllK
import Wide.FinOn
import Lean
import PyProof.EqAt
import PyProof.EqKinds
import PyProof.TupleCall
import PyProof.ExcClass2
import PyProof.StationsW
import PyProof.RulesAs
import PyProof.ExcArgs
import PyProof.InstStoreFacts
import PyProof.ExcStrCall
import PyProof.ExcBaseAll.ValueError
import PyProof.StrWalks
import PyProof.ConsumeWalk
import PyProof.StrLawsIn
import KE.KTab
import PyProof.CompFree
import PyProof.NeKinds
import PyProof.CompMap
import KE.KDictOf
import KE.KRevIter
import PyProof.WalksEnum
import PyProof.ListRange
import PyProof.ZipIter
import PyProof.Rows.Range3
import PyProof.CompUse
import PyProof.Draws
import KE.KDictList
import PyProof.DictIter
import PyProof.DictWalks
import PySem.Challenge.RW_plainspeak_k19_whole_last_places_and_dep
set_option hygiene false
local macro_rules| `(tactic|walk_at "s")=> `(tactic|exact⟨rfl,rfl,rfl,by decide+kernel,rfl,by decide+kernel,by decide+kernel⟩)
local macro_rules| `(tactic|walk_at "d")=> `(tactic|dsimp only[xD,List.set])
local macro_rules| `(tactic|walk_at "e")=> `(tactic|try dsimp only[oG])
local macro_rules| `(tactic|walk_at "b1")=> `(tactic|exact fun F=>F.binds fun _ _ _ _ _ _ s us _ hl=>by obtain⟨a0,rfl⟩:=us1 hl;exact .of_eq rfl)
local macro_rules| `(tactic|walk_at "b2")=> `(tactic|exact fun F=>F.binds fun _ _ _ _ _ _ s us _ hl=>by obtain⟨a0,a1,rfl⟩:=us2 hl;exact .of_eq rfl)
local macro_rules| `(tactic|walk_at "b3")=> `(tactic|exact fun F=>F.binds fun _ _ _ _ _ _ s us _ hl=>by obtain⟨a0,a1,a2,rfl⟩:=us3 hl;exact .of_eq rfl)
local macro_rules| `(tactic|walk_at "b4")=> `(tactic|exact fun F=>F.binds fun _ _ _ _ _ _ s us _ hl=>by obtain⟨a0,a1,a2,a3,rfl⟩:=us4 hl;exact .of_eq rfl)
set_option hygiene true
abbrev Fg:=PySem.W.Frag
abbrev aq0:=@PySem.F.plainAttrs_list
abbrev aq1:=@PySem.F.slot_list_append
abbrev aq2:=@PySem.F.type_list_append
abbrev aq3:=@PySem.F.slot_list_pop
abbrev aq4:=@PySem.F.type_list_pop
abbrev aq5:=@Option.bind_eq_some_iff
abbrev aq6:=@Option.map_eq_some_iff
abbrev aq7:=@Nat.le_refl
abbrev aq8:=@PySem.Heap.lt_size
abbrev aq9:=@Nat.ne_of_lt
abbrev aq10:=@List.mem_cons_of_mem
abbrev aq11:=@List.mem_append_right
abbrev aq16:=@PySem.boot_len
abbrev aq17:=@PyProof.Rows.KTD.datumAt
namespace PySem.W.Fast
def tw2581040873403900861:=0
def tw14552478905954117212:=0
def tw17153804098141969667:=0
def tw9091142460829226824:=0
def tw11647565040382776932:=0
def tw746879220906013115:=0
def tw10287865018743782007:=0
def tw4588994511811726046:=0
def tw15856506738878440620:=0
def tw5895349913533192845:=0
def tw13321971496630059267:=0
def tw17919691767343561:=0
def tw2201626011073690146:=0
def tw1241687829011981715:=0
def tw16163698345879091128:=0
def tw14362447313846833386:=0
def tw14098753934958688442:=0
def tw8217229961732268064:=0
def tw16177002540414196738:=0
def tw17750484919379224945:=0
def tw13976155937787484661:=0
def tw3928926049466468673:=0
def tw11395156370029774301:=0
def tw7698501687274891094:=0
def tw12469391620926712754:=0
def tw16975620958877745520:=0
def tw11257533378030635950:=0
def tw13593865074053361653:=0
def tw7042794769419811174:=0
def tw16466933636703869427:=0
def tw4008963804960118890:=0
def tw2852096833040084074:=0
def tw13627246172181966774:=0
def tw13512851367470849600:=0
def tw15174904109654845896:=0
def tw73461629807855842:=0
def tw15858653758042005291:=0
def tw11446930853973989071:=0
def tw4646708875544586197:=0
def tw1076223571942768414:=0
def tw14613407114561571108:=0
def tw15715662423883721297:=0
def tw13528211183007991307:=0
def tw15883619302847493443:=0
def tw10958855672273925853:=0
def tw12311001279506155632:=0
def tw18025979730008928183:=0
def tw6760763615246291601:=0
def tw17527436725076332179:=0
def tw11410010106036963753:=0
def tw2233140251794704496:=0
def tw7443771347069992086:=0
def tw12226432218877582353:=0
def tw3919964143451962679:=0
def tw11271235266143502833:=0
def tw14437238765641365387:=0
def tw15232543775636239183:=0
def tw3142968633219422065:=0
def tw5519188901288996870:=0
def tw6334678315250627421:=0
def tw17676955080678245085:=0
def tw3659076947524798333:=0
def tw11386784696288155350:=0
def tw11775786277782620617:=0
def tw17475642722828444123:=0
def tw10653654741744180493:=0
def tw4038763761130863205:=0
def tw4843784122653655562:=0
def tw3563370404445126317:=0
def tw15412834006399230848:=0
def tw17205068029098801373:=0
def tw8215870957061719237:=0
def tw18279355269148737305:=0
def tw11480476134091200944:=0
def tw7476644113254894274:=0
def tw11530531529627794897:=0
def tw12555445411618423717:=0
def tw7154143171741746246:=0
def tw1115251572593943211:=0
def tw2291659637860083789:=0
def tw8827414356342461859:=0
def tw12568684114860970864:=0
def tw1185480512439182771:=0
def tw2972892737451400980:=0
def tw8469921345765735543:=0
def tw16018930998464067560:=0
def tw10968662204387174247:=0
def tw13714210876255563826:=0
def tw5196964342998220728:=0
def tw10773823496058938890:=0
def tw612714524122888759:=0
def tw16539594526658892253:=0
def tw1804384300292475694:=0
def tw9312210187368889449:=0
def tw10132042575562281066:=0
def tw15462871141690820568:=0
def tw1212136612368028706:=0
def tw14932061803757056387:=0
def tw9402362143945187593:=0
def tw17915723731677958620:=0
def tw6928583325953930902:=0
def tw2910634500367910484:=0
def tw7988940304816472656:=0
def tw17715574309075984043:=0
def tw3861103272173584723:=0
def tw539073199286336508:=0
def tw9361006927064514639:=0
def tw13063627083737558656:=0
def tw13992610271085473519:=0
def tw1453650775564265605:=0
def tw2718546465617278333:=0
def tw3782005154309541915:=0
def tw8462324494553771800:=0
def tw16166501801849992681:=0
def tw18089505250250920879:=0
def tw11809370905995955055:=0
def tw17646406087484193215:=0
def tw15416040581851784488:=0
def tw10668713027067825415:=0
def tw11705744208293144658:=0
def tw2404415949222546610:=0
def tw546813342357454773:=0
def tw15415794520609012008:=0
def tw8179312337646854350:=0
def tw13372284403762457053:=0
def tw12479618420176211590:=0
def tw889609956072655188:=0
def tw3650115856792687325:=0
def tw9777275856916602161:=0
def tw1463825376435986703:=0
def tw3823005666214064830:=0
def tw11340747582987255715:=0
def tw18317261027253107308:=0
def tw16669152464207512042:=0
def tw8395181084319440220:=0
def tw6999713291502579931:=0
def tw3213377141545415574:=0
def tw17369429393067261476:=0
def tw12876033205690036555:=0
def tw17266984689030711080:=0
def tw10143346625094442602:=0
def tw8505878101778360249:=0
def tw2282925881863271385:=0
def tw6021051749858290026:=0
def tw14059645194624315052:=0
def tw16613570053028483418:=0
def tw2269648365362126067:=0
def tw5024789572169802091:=0
def tw1313275559106167564:=0
def tw2770925473797796047:=0
def tw723508882951464282:=0
def tw9913400686483068189:=0
def tw12045615406218588037:=0
def tw9018871773230706038:=0
def tw10881243976008677421:=0
def tw3909974418704987307:=0
def tw11537868494128261576:=0
def tw15674963061918468042:=0
def tw14910642847974173980:=0
def tw4167501307013009280:=0
def tw1282691103774005867:=0
def tw11926848799410176860:=0
def tw6669927341632095328:=0
def tw79424964059713787:=0
def tw370994104957919833:=0
def tw3764916431176348044:=0
def tw14261458167493329067:=0
def tw17778552068444695678:=0
def tw16799064363354314070:=0
def tw1341800659131263381:=0
def tw1749272023457170198:=0
def tw3180379967638427789:=0
def tw702183266968619311:=0
def tw2137430213531638977:=0
def tw10039697038420105896:=0
def tw1661893335067549373:=0
def tw12648529227148734121:=0
def tw11180506957916085565:=0
def tw4166508251416735783:=0
def tw16876302205737696326:=0
def tw16614080473174566800:=0
def tw10439931287378449058:=0
def tw16160725974942841160:=0
def tw3962337365634472422:=0
def tw4187284076388528117:=0
def tw4437535868428262935:=0
def tw8255451997424369731:=0
def tw16319703669946754074:=0
def tw6293012671689749623:=0
def tw14859090992909497368:=0
def tw6423502335282512541:=0
def tw16412270063807091187:=0
def tw4457821858878075509:=0
def tw8983143519401797800:=0
def tw17981740836860351723:=0
def tw9421676926884767296:=0
def tw4122247191979343637:=0
def tw8287288588360096441:=0
def tw4164814379633405791:=0
def tw5750374552778924871:=0
def tw3647651297037983929:=0
def tw10773247791178021223:=0
def tw18280267078548146241:=0
def tw11947492012981671288:=0
def tw10554925909685847009:=0
def tw6412129502813819743:=0
def tw15328808858984124430:=0
def tw6674828688780966764:=0
def tw1752319759095659532:=0
def tw12576058784666029983:=0
def tw7689837105679302348:=0
def tw5371377034355837656:=0
def tw13077342155702628945:=0
def tw1917275387675996020:=0
def tw16612700738099150557:=0
def tw2394364312993808071:=0
def tw17821832142487011004:=0
def tw14658795653260166713:=0
def tw17378159660926521720:=0
def tw4083922499298002526:=0
def tw8551127794724182564:=0
def tw15941850454856991918:=0
def tw8796893067723989038:=0
def tw1555129890810199845:=0
def tw7577999978506989312:=0
def tw13370513562445415146:=0
def tw2876623247789191222:=0
def tw10306746563119237576:=0
def tw513069887118685010:=0
def tw4521825841895434075:=0
def tw17505445741886164234:=0
def tw14054253287542170497:=0
def tw5222087843308506630:=0
def tw8064483225359202562:=0
def tw3350675553000892862:=0
def tw5633609970285857954:=0
def tw11517094583843725250:=0
def tw10456641308516487594:=0
def tw2228282316878637200:=0
def tw10058559839727896805:=0
def tw11184869280049998930:=0
def tw10835999499221726586:=0
def tw9838345356178147375:=0
def tw10738352065433571356:=0
def tw17161140223659763544:=0
def tw1997991744198870552:=0
def tw3042712084333850190:=0
def tw15444789433623375291:=0
def tw11618491874257442707:=0
def tw5240099451057646156:=0
def tw777253336941168335:=0
def tw6593160387506418033:=0
def tw16132987392140179085:=0
def tw18157483721472115736:=0
def tw18378973437692311613:=0
def tw9766691104222820989:=0
def tw11520610827689779892:=0
def tw1553602572278475767:=0
def tw4660448818112011133:=0
def tw1461307065172748337:=0
def tw8176401624158664797:=0
def tw12555119945721227242:=0
def tw15391350600487074823:=0
def tw7661411023459552927:=0
def tw14882054592292877557:=0
def tw16197388407327006469:=0
def tw14375908395590721880:=0
def tw10051177609276534158:=0
def tw4345597309733976436:=0
def tw1461136439095088761:=0
def tw12213940784447307044:=0
def tw2013508702449764909:=0
def tw7506257737339744312:=0
def tw4955549255973296500:=0
def tw13216025089033190937:=0
def tw17979512525341271755:=0
def tw786286834594673923:=0
def tw6978907359142714107:=0
def tw391909529908319242:=0
def tw7819837929307531598:=0
def tw16797689164599313743:=0
def tw7438324172358273158:=0
def tw13156516740745891772:=0
def tw6286309215166976373:=0
def tw17374527133937611419:=0
def tw14922010587773513554:=0
def tw18197871820129104980:=0
def tw11078620235957379211:=0
def tw6930582734265016252:=0
def tw13846611880668035750:=0
def tw4864338305147555850:=0
def tw11541883610106959261:=0
def tw12934345143050127860:=0
def tw3244786443256377431:=0
def tw5165109919298826505:=0
def tw7289426333365854968:=0
def tw12994274810561369268:=0
def tw13871216806446070059:=0
def tw5751306742680154851:=0
def tw12914927705076203901:=0
def tw4895899805524689642:=0
def tw6743625956353265020:=0
def tw5441128254985813341:=0
def tw4870578069964111412:=0
def tw18088728191338629451:=0
def tw8703649360667433068:=0
def tw15623775980775077613:=0
def tw9503596126876225083:=0
def tw6883350804576400085:=0
def tw3700788591203622704:=0
def tw650847596731510203:=0
def tw3258170113827888397:=0
def tw758302449183629897:=0
def tw14991184387955191458:=0
def tw1461756808813288831:=0
def tw7025743121917051762:=0
def tw6020997860487386941:=0
def tw5894478673231226885:=0
def tw11930379071670423727:=0
def tw18027567426086750042:=0
def tw7467402279027661275:=0
def tw126247724441567155:=0
def tw6712876203948223872:=0
def tw10410696943001779090:=0
def tw9499375405812462043:=0
def tw10360289667901230543:=0
def tw12806940729560925509:=0
def tw12507946476598120478:=0
def tw8218363308339734646:=0
def tw1144345138803589496:=0
def tw8973648005697295958:=0
def tw2224023330850083364:=0
def tw14955683395977340979:=0
def tw12144175414999033329:=0
def tw15102315003346791070:=0
def tw1816796782663328956:=0
def tw2148884860449234444:=0
def tw5901939940940965205:=0
def tw11637207501291471614:=0
def tw2392276741535202362:=0
def tw9964880044923226088:=0
def tw1465636411926497120:=0
def tw4874332644194289611:=0
def tw15184436386516840581:=0
def tw1408502520860739499:=0
def tw14623888131423172519:=0
def tw5359671282383488872:=0
def tw1891546072283033561:=0
def tw5626492697431480922:=0
def tw6907083401020198376:=0
def tw3155354496291888229:=0
def tw2638652219982788751:=0
def tw1807007986635774855:=0
def tw1056681812497165676:=0
def tw2582564574427090487:=0
def tw9220443348507305798:=0
def tw203143515014352494:=0
def tw14526788921090146464:=0
def tw3815547465755789524:=0
def tw9846733201107464277:=0
def tw15304539877842150543:=0
def tw3058211203026089852:=0
def tw10128715430385694700:=0
def tw5067180648080227019:=0
def tw15074519040841223565:=0
def tw9852572197401225221:=0
def tw11119879426688491093:=0
def tw9917513828700818379:=0
def tw11627308895377013723:=0
def tw8100120120063469663:=0
def tw5995507247667246955:=0
def tw17358842050019930355:=0
def tw11299588461322176893:=0
def tw9040576055255088352:=0
def tw16236248331551808342:=0
def tw4534684127680279985:=0
def tw13901520504258783151:=0
def tw11693738118520521891:=0
def tw16198550133368666008:=0
def tw6635737135617051362:=0
def tw3447177498168729467:=0
def tw11865253059473321534:=0
def tw15542269764775057032:=0
def tw17694410817083071232:=0
def tw13891997233099465090:=0
def tw1498978835171819956:=0
def tw2956450258798581996:=0
def tw3138401448493777711:=0
def tw2478990348495115751:=0
def tw17088838682230394484:=0
def tw2574656487188419444:=0
def tw7916145193735360522:=0
def tw11570656039226718966:=0
def tw3468291498469613946:=0
def tw2404684476535215730:=0
def tw7496607357842017003:=0
def tw6528835379861281848:=0
def tw8670389662913099560:=0
def tw7778523497104618688:=0
def tw5523300975528457454:=0
def tw15447211559069483389:=0
def tw17453271970878118340:=0
def tw4373240111771910524:=0
def tw841022759524775847:=0
def tw8304300181691653185:=0
def tw16557547802463495495:=0
def tw543181528427450291:=0
def tw16436269832430426307:=0
def tw17219309262738364541:=0
def tw7191444014289532368:=0
def tw10604601499826586663:=0
def tw3614075780625403415:=0
def tw6673729120894019158:=0
def tw2906768466983092185:=0
def tw5365373014259390299:=0
def tw13635489688853800423:=0
def tw2124322931812151788:=0
def tw4193428213514453747:=0
def tw8860334436277507678:=0
def tw10784162159560283114:=0
def tw13833590361511572576:=0
def tw1636251710393283614:=0
def tw14007494720528925850:=0
def tw15638304401643507409:=0
def tw8668871690103279124:=0
def tw7909267636530683981:=0
def tw16840838583892698932:=0
def tw10119970208544118192:=0
def tw14620540052135382344:=0
def tw15058975442960671752:=0
def tw3355129808060037946:=0
def tw17973171074260867283:=0
def tw15251464783089831318:=0
def tw18386649199128594865:=0
def tw2408276304537779548:=0
def tw10120863768099285826:=0
def tw17074735285696130924:=0
def tw12333373457089244425:=0
def tw8929639334029244872:=0
def tw17393013193106540921:=0
def tw5924914015486556558:=0
def tw5793691403181491566:=0
def tw4993300961501916772:=0
def tw6312039914528678397:=0
def tw1571357237033686655:=0
def tw14137014905649240627:=0
def tw3066861369029193799:=0
def tw11330786047404277972:=0
def tw15246576843612584683:=0
def tw7490530687873988411:=0
def tw17199516605783879806:=0
def tw7200518030161087734:=0
def tw9759209976057665898:=0
def tw15280106718130528180:=0
def tw17010388275395142254:=0
def tw9702545754825714858:=0
def tw522038048815302401:=0
def tw6979206447651514100:=0
def tw9115534218102733936:=0
def tw6831242018322758742:=0
def tw12970851728938188198:=0
def tw7193370375693589805:=0
def tw18365928922937301874:=0
def tw13920857131078788236:=0
def tw143747411653977772:=0
def tw1795413710748833570:=0
def tw2250487504379834360:=0
def tw7592954202214463201:=0
def tw18061675728425122261:=0
def tw9575006761274572824:=0
def tw2492408421539495586:=0
def tw14396871933093691359:=0
def tw6444776364142228842:=0
def tw3057407722046356206:=0
def tw4665936536183824721:=0
def tw12537427534441745852:=0
def tw8437975771162629061:=0
def tw13431594344159040775:=0
def tw1903693041736722911:=0
def tw6085574145674728942:=0
def tw14115639654410732377:=0
def tw13153386945656396518:=0
def tw7938913263586069189:=0
def tw13915434545221727897:=0
def tw8789740759344434066:=0
def tw692485281146966466:=0
def tw5855740141834800439:=0
def tw8245916023058816901:=0
def tw1505466762528810418:=0
def tw9630845703271139065:=0
def tw6328941965906626724:=0
def tw13661186881214236344:=0
def tw3487967362780180380:=0
def tw12389307078439592323:=0
def tw17681058513951709705:=0
def tw2235322848314379890:=0
def tw15549310022798958839:=0
def tw3725717494663130572:=0
def tw3502087467728874609:=0
def tw12859606518139654138:=0
def tw379619993192097790:=0
def tw12015291495337404898:=0
def tw14739312690209022027:=0
def tw4723895515146342769:=0
def tw2138857962251956328:=0
def tw6925333318946111088:=0
def tw17415644047758636466:=0
def tw16701820472831178956:=0
def tw10259006235921454051:=0
def tw3109700903922046522:=0
def tw7275953106074060502:=0
def tw522577823398545860:=0
def tw1982092791551664507:=0
def tw16299294519479524055:=0
def tw7037173180224461178:=0
def tw17865936740598263084:=0
def tw13025712750516613981:=0
def tw15100706056550054075:=0
def tw3027082821000413596:=0
def tw2648867914061997977:=0
def tw7274760993984429695:=0
def tw5024744695793864498:=0
def tw11643074386259977674:=0
def tw5251253546367094401:=0
def tw11080279163000481054:=0
def tw17428296781963899000:=0
def tw17638775312355790070:=0
def tw10967763429555279897:=0
def tw3509964747134051645:=0
def tw15628935486941773093:=0
def tw11526553582181384988:=0
def tw4001357462433894503:=0
def tw10722873251044956175:=0
def tw736512076614131690:=0
def tw4863531947003896296:=0
def tw16426195559600802044:=0
def tw14360671903387938865:=0
def tw9217481140577598707:=0
def tw14530826348990024279:=0
def tw1790102875781580177:=0
def tw7640751532988932651:=0
def tw13580214617984807363:=0
def tw16928872458321664095:=0
def tw12937369478902964493:=0
def tw1372218934790963704:=0
def tw2709435841404957732:=0
def tw13218900272836074184:=0
def tw12454860562029599706:=0
def tw4585416288588270920:=0
def tw7827894725255066299:=0
def tw8701382093104587453:=0
def tw5912778710785785589:=0
def tw12961149559327027772:=0
def tw4904445713223759354:=0
def tw17914719134116048466:=0
def tw7321332278247032827:=0
def tw4064154383758731501:=0
def tw7179471002923556971:=0
def tw10570862043304443616:=0
def tw15705996031772595268:=0
def tw13510676557645438750:=0
def tw15933619220154196227:=0
end PySem.W.Fast
set_option Elab.async false
set_option linter.all false
set_option maxRecDepth 100000
namespace L2
open PySem PySem.Spec PyProof.Rows
abbrev Key:=Sum Int Str
def oJ:Key->Value->Bool
 | .inl k,v=>Value.isInt k v
 | .inr x,v=>Value.isStrOf x v
def zI5(w:World):Key->Int
 | .inl k=>hashInt k
 | .inr x=>hashStr w x
theorem jC:∀{k:Key}{v:Value},oJ k v=true->(∃i t,k=Sum.inl i/\v=Value.int i t)\/(∃x t,k=Sum.inr x/\v=Value.str x t)
 | .inl i,v,h=>by
  obtain⟨t,e⟩:=Value.isInt_shape (k:=i) (v:=v) h
  exact .inl ⟨i,t,rfl,e⟩
 | .inr x,v,h=>by
  obtain⟨t,e⟩:=Value.isStrOf_shape (x:=x) (v:=v) h
  exact .inr ⟨x,t,rfl,e⟩
theorem sB(i:Int)(t:Tok):oJ (.inl i) (.int i t)=true:=by simp[oJ,Value.isInt]
theorem sD(x:Str)(t:Tok):oJ (.inr x) (.str x t)=true:=by simp[oJ,Value.isStrOf]
theorem qP3(a b:Int):decide ((Sum.inl a:Key)=Sum.inl b)=(a==b):=by
 by_cases e:a=b
 ·subst e;simp
 ·have h:¬(Sum.inl a:Key)=Sum.inl b:=fun q=>e (Sum.inl.inj q)
  rw[decide_eq_false h]
  exact(beq_eq_false_iff_ne.mpr e).symm
theorem qP4(a b:Str):decide ((Sum.inr a:Key)=Sum.inr b)=decide (a=b):=by
 by_cases e:a=b
 ·subst e;simp
 ·have h:¬(Sum.inr a:Key)=Sum.inr b:=fun q=>e (Sum.inr.inj q)
  rw[decide_eq_false h,decide_eq_false e]
theorem qP5(a:Int)(b:Str):decide ((Sum.inl a:Key)=Sum.inr b)=false:=decide_eq_false (fun q=>nomatch q)
theorem qP6(a:Str)(b:Int):decide ((Sum.inr a:Key)=Sum.inl b)=false:=decide_eq_false (fun q=>nomatch q)
def jQ(prog:Program)(w:World):PySem.KeyKind prog w Key where
 is:=oJ
 hash:=zI5 w
 inj:=fun v a b ha hb=>by
  rcases jC ha with⟨i,t,rfl,rfl⟩|⟨x,t,rfl,rfl⟩
  ·rcases jC hb with⟨j,u,rfl,e⟩|⟨y,u,rfl,e⟩
   ·injection e with e1 _;rw[e1]
   ·exact nomatch e
  ·rcases jC hb with⟨j,u,rfl,e⟩|⟨y,u,rfl,e⟩
   ·exact nomatch e
   ·injection e with e1 _;rw[e1]
 byValue:=fun k v h=>by
  rcases jC h with⟨i,t,rfl,rfl⟩|⟨x,t,rfl,rfl⟩<;>rfl
 pyHash:=fun hv h=>by
  rcases jC hv with⟨i,t,rfl,rfl⟩|⟨x,t,rfl,rfl⟩
  ·exact wpAny_pyHash_int h
  ·exact wpAny_pyHash_str h
 eqBool:=fun hu hv h=>by
  rcases jC hu with⟨i,t,rfl,rfl⟩|⟨x,t,rfl,rfl⟩
  ·rcases jC hv with⟨j,u,rfl,rfl⟩|⟨y,u,rfl,rfl⟩
   ·rw[qP3]at h;exact wpAny_eqBool_int h
   ·rw[qP5]at h;exact SeqAt.EqAt.int_str i t y u _ _ _ _ h
  ·rcases jC hv with⟨j,u,rfl,rfl⟩|⟨y,u,rfl,rfl⟩
   ·rw[qP6]at h;exact SeqAt.EqAt.str_int x t j u _ _ _ _ h
   ·rw[qP4]at h;exact wpAny_eqBool_str h
 «strs»:=fun k x t v h=>by
  rcases jC h with⟨i,u,rfl,e⟩|⟨y,u,rfl,e⟩
  ·exact nomatch e
  ·injection e with e1 _
   subst e1
   cases v<;>rfl
theorem bL(prog:Program)(w:World)(k:Key)(v:Value):(jQ prog w).is k v=oJ k v:=rfl
theorem gM(prog:Program)(w:World)(i:Int)(t:Tok):(jQ prog w).is (.inl i) (.int i t)=true:=sB i t
theorem gN(prog:Program)(w:World)(x:Str)(t:Tok):(jQ prog w).is (.inr x) (.str x t)=true:=sD x t
inductive V where
 |non|bl (b:Bool)|int (i:Int)|str (x:Str)|byt (b:Array UInt8)|flt (b:UInt64)|ref (a:Addr)|ty (n:String)
 deriving DecidableEq
def zU:V->Value->Prop
 | .non,u=>u=Value.none
 | .bl b,u=>u=Value.bool b
 | .int i,u=>∃t,u=Value.int i t
 | .str x,u=>∃t,u=Value.str x t
 | .byt b,u=>∃t,u=Value.bytes b t
 | .flt b,u=>∃t,u=Value.float b t
 | .ref a,u=>u=Value.ref a
 | .ty n,u=>u=Value.type n
abbrev Vals:List V->List Value->Prop:=Paired zU
theorem Vals.length{xs:List V}{us:List Value}(r:Vals xs us):xs.length=us.length:=Paired.length r
theorem Vals.get:∀{xs:List V}{us:List Value}{i:Nat}{x:V},Vals xs us->xs[i]? =some x->∃u,us[i]? =some u/\zU x u
 |_,_,_,_,.nil,e=>by simp at e
 |_,_,0,_,.cons r _,e=>by simp at e;subst e;exact⟨_,rfl,r⟩
 |_,_,i+1,x,.cons _ t,e=>by
  obtain⟨u,h1,h2⟩:=Vals.get (i:=i) (x:=x) t (by simpa using e)
  exact⟨u,by simpa using h1,h2⟩
theorem Vals.append:∀{xs ys:List V}{us ws:List Value},Vals xs us->Vals ys ws->Vals (xs++ys) (us++ws)
 |_,_,_,_,.nil,s=>s
 |_,_,_,_,.cons r t,s=>.cons r (Vals.append t s)
theorem Vals.take:∀{xs:List V}{us:List Value}(n:Nat),Vals xs us->Vals (xs.take n) (us.take n)
 |_,_,0,_=>.nil
 |_,_,_+1,.nil=>.nil
 |_,_,n+1,.cons r t=>.cons r (Vals.take n t)
theorem Vals.drop:∀{xs:List V}{us:List Value}(n:Nat),Vals xs us->Vals (xs.drop n) (us.drop n)
 |_,_,0,r=>r
 |_,_,_+1,.nil=>.nil
 |_,_,n+1,.cons _ t=>Vals.drop n t
def wK:Option V->Option Value->Prop
 |some v,some u=>zU v u
 |none,none=>True
 |_,_=>False
def KV{κ:Type}:List (κ×V)->List (κ×Value)->Prop:=Paired fun(p:κ×V)(q:κ×Value)=>p.1=q.1/\zU p.2 q.2
def kV:Key->V
 | .inl i=>.int i
 | .inr x=>.str x
inductive HO where
 |lst (xs:List V)
 |tup (xs:List V)
 |dK (kvs:List (Key×V))|dT (kvs:List (List Key×V))
 |set (S:Int->Bool) (n:Nat)
 |ins (C dx:Addr) (fs:List (Str×V))
 |own (x:Addr)
 |xd (fs:List (Str×V))
 |met (f x:Addr)
 |rng (lo hi:Int)
 |frz (o:Obj) (u:HO)
 |tbl (ps:Array Value)
 |ext (φ:Heap->Prop)
abbrev Hp:=Addr->Option HO
def upd(H:Hp)(a:Addr)(o:HO):Hp:=fun b=>if b=a then some o else H b
theorem qX{H:Hp}{a:Addr}{o:HO}:upd H a o a=some o:=by unfold upd;rw[if_pos rfl]
theorem qH{H:Hp}{a b:Addr}{o:HO}(h:b≠a):upd H a o b=H b:=by unfold upd;rw[if_neg h]
theorem pD{H:Hp}{a:Addr}{o u:HO}:upd (upd H a o) a u=upd H a u:=by
 funext b;unfold upd;split<;>rfl
theorem xB{H:Hp}{a b:Addr}{o u:HO}(h:H a=some o)(h':H b=some u)(d:o≠u):a≠b:=by
 intro e;subst e;rw[h]at h';exact d (Option.some.inj h')
theorem zV{H:Hp}{a b:Addr}{o:HO}(h:H a=some o)(h':H b=none):a≠b:=by
 intro e;subst e;rw[h]at h';cases h'
section
variable (P:Program) (w:World)
def jA(H:Hp)(h:Heap)(a:Addr):HO->Prop
 | .lst xs=>xs.length<=sizeLine/\∃(its:List Value)(n:Nat),Vals xs its/\h.get? a=some {cls:=.type "list",data:=.seq its.toArray n}
 | .tup xs=>xs.length<=sizeLine/\∃its:List Value,Vals xs its/\IsTup h a its.toArray
 | .dK kvs=>kvs.length<=sizeLine/\(a==sysModules)=false/\∃vs,KV kvs vs/\h.DictOf (jQ P w) a vs
 | .dT kvs=>kvs.length<=sizeLine/\(a==sysModules)=false/\∃xs:List (List Key×Addr×Value),
   Paired (fun(p:List Key×V)(q:List Key×Addr×Value)=>p.1=q.1/\H q.2.1=some (.tup (p.1.map kV))/\zU p.2 q.2.2) kvs xs/\
   ∃o es ep,h.get? a=some o/\o.ExactDict/\o.data= .dict es ep/\es.toList=xs.map (entryOfKey (tupleKind (jQ P w)))/\(xs.map (·.1)).Nodup
 | .set S n=>h.SetOf (intKind P w) a S n
 | .ins C dx fs=>H dx=some (.own a)/\fs.length<=1000/\dx≠a/\h.get? a=some (PySem.W.instObj C dx)/\
   ∃mA,h.Ns1 dx mA/\(∀f,wK (fs.lookup f) (mA f))/\PySem.Within mA (fs.map (·.1))
 | .own _=>∃o,h.get? a=some o
 | .xd fs=>∃mA,h.Ns1 a mA/\∀f,wK (fs.lookup f) (mA f)
 | .rng lo hi=>∃t u v,h.get? a=some {cls:=.type "range",data:=.fields #[.int lo t,.int hi u,.int 1 v]}
 | .frz o u=>h.get? a=some o/\jA H h a u
 | .tbl ps=>h.get? a=some {cls:=.none,data:=.fields ps}
 | .met f x=>h.get? a=some (PySem.W.methodObj (.ref f) (.ref x))
 | .ext φ=>φ h/\(∃o,h.get? a=some o)/\∀h1 h2:Heap,φ h1->(∀o,h1.get? a=some o->h2.get? a=some o)->φ h2
def HOk(H:Hp)(h:Heap):Prop:=∀a o,H a=some o->jA P w H h a o
end
section
variable {P:Program} {w:World} {H H':Hp} {h h':Heap} {a:Addr} {o:HO}
theorem jA.lt(x:jA P w H h a o):a<h.objs.size:=by
 cases o with
 |lst xs=>obtain⟨_,_,_,_,e⟩:=x;exact aq8 e
 |tup xs=>obtain⟨_,_,_,p⟩:=x;exact p.lt
 |dK kvs=>obtain⟨_,_,_,_,o,_,_,e,_⟩:=x;exact aq8 e
 |dT kvs=>obtain⟨_,_,_,_,o,_,_,e,_⟩:=x;exact aq8 e
 |set S n=>obtain⟨o,_,_,_,e,_⟩:=x;exact aq8 e
 |ins C dx fs=>obtain⟨_,_,_,e,_⟩:=x;exact aq8 e
 |own y=>obtain⟨_,e⟩:=x;exact aq8 e
 |xd fs=>obtain⟨_,⟨_,_,_,e,_⟩,_⟩:=x;exact aq8 e
 |rng lo hi=>obtain⟨_,_,_,e⟩:=x;exact aq8 e
 |frz ob u=>obtain⟨e,_⟩:=x;exact aq8 e
 |tbl ps=>exact aq8 (show h.get? a=some _ from x)
 |met f y=>exact aq8 (show h.get? a=some _ from x)
 |ext φ=>obtain⟨_,⟨_,e⟩,_⟩:=x;exact aq8 e
theorem Paired.mapP{α β:Type}{F G:α->β->Prop}:∀{l₁:List α}{l₂:List β},Paired F l₁ l₂->(∀a b,F a b->G a b)->Paired G l₁ l₂
 |_,_,.nil,_=>.nil
 |_,_,.cons r t,f=>.cons (f _ _ r) (Paired.mapP t f)
theorem jA.stay(x:jA P w H h a o)(k:∀b u,(b=a\/H b=some (.own a))->h.get? b=some u->h'.get? b=some u)
  (ho:∀b,H b=some (.own a)->H' b=some (.own a))(ht:∀b xs,H b=some (.tup xs)->H' b=some (.tup xs)):jA P w H' h' a o:=by
 induction o with
 |lst xs=>obtain⟨z,its,n,r,e⟩:=x;exact⟨z,its,n,r,k _ _ (.inl rfl) e⟩
 |tup xs=>obtain⟨z,its,r,ob,e,c⟩:=x;exact⟨z,its,r,ob,k _ _ (.inl rfl) e,c⟩
 |dK kvs=>obtain⟨z,y,vs,r,ob,es,ep,e,c⟩:=x;exact⟨z,y,vs,r,ob,es,ep,k _ _ (.inl rfl) e,c⟩
 |dT kvs=>
  obtain⟨z,y,xs,r,ob,es,ep,e,c⟩:=x
  exact⟨z,y,xs,Paired.mapP r fun p q z=>⟨z.1,ht _ _ z.2.1,z.2.2⟩,ob,es,ep,k _ _ (.inl rfl) e,c⟩
 |set S n=>obtain⟨ob,es,ep,t,e,c⟩:=x;exact⟨ob,es,ep,t,k _ _ (.inl rfl) e,c⟩
 |ins C dx fs=>
  obtain⟨d,z,ne,e,mA,⟨od,es,ep,e2,c⟩,r⟩:=x
  exact⟨ho _ d,z,ne,k _ _ (.inl rfl) e,mA,⟨od,es,ep,k _ _ (.inr d) e2,c⟩,r⟩
 |own y=>obtain⟨ob,e⟩:=x;exact⟨ob,k _ _ (.inl rfl) e⟩
 |xd fs=>obtain⟨mA,⟨od,es,ep,e,c⟩,r⟩:=x;exact⟨mA,⟨od,es,ep,k _ _ (.inl rfl) e,c⟩,r⟩
 |rng lo hi=>obtain⟨t,u,v,e⟩:=x;exact⟨t,u,v,k _ _ (.inl rfl) e⟩
 |frz ob u ih=>obtain⟨e,q⟩:=x;exact⟨k _ _ (.inl rfl) e,ih q⟩
 |tbl ps=>
  have e:h.get? a=some {cls:=.none,data:=.fields ps}:=x
  show h'.get? a=some {cls:=.none,data:=.fields ps}
  exact k a _ (.inl rfl) e
 |met f y=>
  have e:h.get? a=some (PySem.W.methodObj (.ref f) (.ref y)):=x
  show h'.get? a=some (PySem.W.methodObj (.ref f) (.ref y))
  exact k a _ (.inl rfl) e
 |ext φ=>obtain⟨p,⟨o,e⟩,st⟩:=x;exact⟨st _ _ p fun o q=>k _ _ (.inl rfl) q,⟨o,k _ _ (.inl rfl) e⟩,st⟩
theorem HOk.lt(x:HOk P w H h)(e:H a=some o):a<h.objs.size:=(x a o e).lt
theorem HOk.fresh(x:HOk P w H h)(e:h.objs.size<=a):H a=none:=by
 cases q:H a with
 |none=>rfl
 |some u=>exact absurd (Nat.lt_of_lt_of_le (x.lt q) e) (Nat.lt_irrefl _)
theorem HOk.kept(x:HOk P w H h)(k:∀b u,h.get? b=some u->h'.get? b=some u):HOk P w H h':=fun a o e=>
 (x a o e).stay (fun b u _ q=>k b u q) (fun _ q=>q) fun _ _ q=>q
theorem HOk.laid(x:HOk P w H h)(k:∀b u,h.get? b=some u->h'.get? b=some u)(hp:h.objs.size<=a)(new:jA P w (upd H a o) h' a o):HOk P w (upd H a o) h':=fun b u e=>by
 have hn:=x.fresh hp
 by_cases hb:b=a
 ·subst hb;rw[qX]at e;cases e;exact new
 ·rw[qH hb]at e
  exact(x b u e).stay (fun c v _ q=>k c v q) (fun c q=>by rw[qH (zV q hn)];exact q) fun c xs q=>by rw[qH (zV q hn)];exact q
end
def Rd(H:Hp)(a:Addr)(u:HO):Prop:=H a=some u\/∃o,H a=some (.frz o u)
theorem Rd.ok{P:Program}{w:World}{H:Hp}{h:Heap}{a:Addr}{u:HO}(r:Rd H a u)(x:HOk P w H h):jA P w H h a u:=by
 rcases r with r|⟨o,r⟩
 ·exact x a u r
 ·obtain⟨_,q⟩:=x a _ r
  exact q
def Mut:Option HO->Prop
 |some (.lst _)=>True
 |some (.dK _)=>True
 |some (.dT _)=>True
 |some (.set _ _)=>True
 |some (.ins _ _ _)=>True
 |some (.ext _)=>True
 |_=>False
section
variable {P:Program} {w:World} {H:Hp} {h h':Heap} {x e:Addr} {o':HO}
theorem HOk.write(ok:HOk P w H h)(mu:Mut (H x))(he:e=x\/H e=some (.own x))(k:∀b u,b≠e->h.get? b=some u->h'.get? b=some u)(heo:∃u,h'.get? e=some u)
  (new:jA P w (upd H x o') h' x o'):HOk P w (upd H x o') h':=fun b u q=>by
 have nown:∀c y,H c=some (.own y)->c≠x:=fun c y r z=>by subst z;rw[r]at mu;exact mu
 have ntup:∀c xs,H c=some (.tup xs)->c≠x:=fun c xs r z=>by subst z;rw[r]at mu;exact mu
 by_cases hb:b=x
 ·subst hb;rw[qX]at q;cases q;exact new
 ·rw[qH hb]at q
  by_cases hbe:b=e
  ·have q':H b=some (.own x):=by
    rcases he with z|z
    ·exact absurd (hbe.trans z) hb
    ·rw[hbe];exact z
   rw[q]at q';cases q'
   obtain⟨v,hv⟩:=heo
   exact⟨v,by rw[hbe];exact hv⟩
  ·refine(ok b u q).stay (fun c v hc r=>k c v ?_ r) (fun c r=>by rw[qH (nown c b r)];exact r) fun c xs r=>by rw[qH (ntup c xs r)];exact r
   rcases hc with rfl|hc
   ·exact hbe
   ·rintro rfl
    rcases he with z|z
    ·exact nown c b hc z
    ·rw[hc]at z;cases z;exact hb rfl
end
structure Un(fs ex:List Addr)(H H':Hp)(h h':Heap):Prop where
 keep:∀b o,h.get? b=some o->H b=none->b∉fs->b∉ex->h'.get? b=some o
 slot:∀b o,h.get? b=some o->H b=none->b∈fs->b∉ex->∃sl,h'.get? b=some {o with slots:=sl}
 free:∀b o,h.get? b=some o->H b=none->b∉ex->H' b=none
 there:∀b o,h.get? b=some o->b∉ex->∃o',h'.get? b=some o'
 tups:∀b xs,H b=some (.tup xs)->H' b=some (.tup xs)
 frzs:∀b o u,H b=some (.frz o u)->H' b=some (.frz o u)
 tbls:∀b ps,H b=some (.tbl ps)->∃more,H' b=some (.tbl (ps++more))
section
variable {fs fs' ex ex':List Addr} {H H1 H2:Hp} {h h1 h2 h':Heap} {a x e:Addr} {o:HO}
theorem Un.any(u:Un fs ex H H1 h h1){b:Addr}{ob:Obj}(q:h.get? b=some ob)(n:H b=none)(hx:b∉ex):∃sl,h1.get? b=some {ob with slots:=sl}:=by
 by_cases hb:b∈fs
 ·exact u.slot b ob q n hb hx
 ·exact⟨ob.slots,u.keep b ob q n hb hx⟩
theorem Un.kept(k:∀b u,h.get? b=some u->h'.get? b=some u):Un fs ex H H h h':=
 ⟨fun b ob q _ _ _=>k b ob q,fun b ob q _ _ _=>⟨ob.slots,k b ob q⟩,fun _ _ _ n _=>n,fun b ob q _=>⟨ob,k b ob q⟩,fun _ _ q=>q,fun _ _ _ q=>q,fun _ ps q=>⟨#[],by rw[q];simp⟩⟩
theorem Un.refl:Un fs ex H H h h:=Un.kept fun _ _ q=>q
theorem Un.laid(k:∀b u,h.get? b=some u->h'.get? b=some u)(hp:h.objs.size<=a)(hn:H a=none):Un fs ex H (upd H a o) h h' where
 keep:=fun b u q _ _ _=>k b u q
 slot:=fun b u q _ _ _=>⟨u.slots,k b u q⟩
 free:=fun b u q n _=>by rw[qH (aq9 (Nat.lt_of_lt_of_le (aq8 q) hp))];exact n
 there:=fun b u q _=>⟨u,k b u q⟩
 tups:=fun b xs q=>by rw[qH (zV q hn)];exact q
 frzs:=fun b u xs q=>by rw[qH (zV q hn)];exact q
 tbls:=fun b ps q=>⟨#[],by rw[qH (zV q hn),q];simp⟩
theorem Un.write(mu:Mut (H x))(he:e=x\/H e=some (.own x))(k:∀b u,b≠e->h.get? b=some u->h'.get? b=some u)(heo:∃u,h'.get? e=some u):Un fs ex H (upd H x o) h h':=by
 have hx:∀b,H b=none->b≠x:=fun b n z=>by subst z;rw[n]at mu;exact mu
 have hb:∀b,H b=none->b≠e:=fun b n z=>by
  subst z
  rcases he with r|r
  ·exact hx b n r
  ·rw[n]at r;cases r
 have hm:∀b u,H b=some u->¬Mut (some u)->b≠x:=fun b u q nm z=>by subst z;rw[q]at mu;exact nm mu
 refine⟨fun b u q n _ _=>k b u (hb b n) q,fun b u q n _ _=>⟨u.slots,k b u (hb b n) q⟩,fun b u q n _=>by rw[qH (hx b n)];exact n,fun b u q _=>?_,
  fun b xs q=>by rw[qH (hm b _ q fun z=>z)];exact q,fun b u xs q=>by rw[qH (hm b _ q fun z=>z)];exact q,fun b ps q=>⟨#[],by rw[qH (hm b _ q fun z=>z),q];simp⟩⟩
 by_cases hbe:b=e
 ·subst hbe;exact heo
 ·exact⟨u,k b u hbe q⟩
end
def trk(h:Heap)(H:Hp):List Addr:=(List.range h.objs.size).filter fun a=>(H a).isSome
def cF(h:Heap)(H:Hp):Heap:=PySem.W.hideAll h (trk h H)
theorem sH(h:Heap)(H:Hp):(cF h H).objs.size=h.objs.size:=PySem.W.hideAll_size _ _
theorem aB{h:Heap}{H:Hp}{b:Addr}{o:Obj}(e:h.get? b=some o)(n:H b=none):(cF h H).get? b=some o:=
 PySem.W.hideAll_get _ e fun hm=>by
  have q:(H b).isSome=true:=(List.mem_filter.mp hm).2
  rw[n]at q;simp at q
theorem qO3{h:Heap}{H:Hp}{b:Addr}{o:Obj}(e:(cF h H).get? b=some o):h.get? b=some o/\H b=none:=by
 have e':h.get? b=some o:=PySem.W.of_hideAll (trk h H) e
 refine⟨e',?_⟩
 cases q:H b with
 |none=>rfl
 |some x=>
  have hm:b∈trk h H:=List.mem_filter.mpr ⟨List.mem_range.mpr (aq8 e'),by simp[q]⟩
  have z:(cF h H).get? b=none:=PySem.W.hideAll_none (trk h H) hm
  rw[z]at e;cases e
def allNews(g h:Heap)(L:Addr):List (Addr×Obj):=(List.range h.objs.size).filterMap fun a=>if a=L\/(g.get? a).isSome=true then none else(h.get? a).map fun o=>(a,o)
def rest(g h:Heap)(L d:Addr):List (Addr×Obj):=(allNews g h L).filter fun p=>decide (p.1≠d)
structure Mod(K:Fg)(mg:Str->Option Value)(base:Heap):Prop where
 kin:K.In base
 glob:base.Ns mainGlobals mg
 blt:∃mb,base.Ns builtinsNs mb/\∀x:Str,x≠"__name__"->mb x=bootBuiltins x
 nolimit:base.NoLimit
structure Cx where
 prog:Program
 w:World
 K:Fg
 mg:Str->Option Value
 base:Heap
 A:Around
 N:List Str
 s₀:Shared
 H₀:Hp
 env:Env
 outer:List Env
 stack:List Env
 ex:List Addr
 fn:Str->Bool
 calm:Bool
 pn:List (Addr×Obj)
 xe:Value->Shared->Prop
def frs(l:List Env):List Addr:=l.filterMap (·.frame)
abbrev Cx.fs(X:Cx):List Addr:=frs X.outer
def Vis(sc:Scope)(x:Str):Prop:=sc.names.lookup x=some .local\/sc.names.lookup x=some .cell\/sc.names.lookup x=some .free
def Loc(sc:Scope)(x:Str):Prop:=sc.names.lookup x=some .local\/sc.names.lookup x=some .cell
def Look(env:Env)(h:Heap)(m:Str->Option Value)(x:Str)(u:Value):Prop:=
 (env.kindOf x=some .local/\m x=some u)\/((env.kindOf x=some .cell\/env.kindOf x=some .free)/\∃c,env.cells.lookup x=some c/\h.IsCell c (some u))
structure Cx.Ok(X:Cx):Prop where
 mod:Mod X.K X.mg X.base
 kind:X.env.scope.kind= .function
 glob:X.env.globals=mainGlobals
 blt:X.env.builtins=builtinsNs
 above:X.s₀.heap.objs.size<=X.env.locals
 inj:∀x y c,X.env.cells.lookup x=some c->X.env.cells.lookup y=some c->x=y
 has:∀x,(X.env.kindOf x=some .cell\/X.env.kindOf x=some .free)->∃c,X.env.cells.lookup x=some c
 cab:∀x c,X.fn x=true->X.env.cells.lookup x=some c->X.s₀.heap.objs.size<=c
 hd:X.calm=true->X.A.handled=none
 frames:X.A.frames=some X.stack
 stk:X.stack=X.outer\/(X.stack=X.env::X.outer/\X.env.frame=some X.env.locals)
 exf:∀b∈X.ex,b≠X.env.locals/\∀x c,X.env.cells.lookup x=some c->c≠b
 bs:∀b o,X.base.get? b=some o->X.s₀.heap.get? b=some o/\X.H₀ b=none
 bsz:X.base.objs.size<=X.s₀.heap.objs.size
 noex:∀b o,X.base.get? b=some o->b∉X.ex
 exfs:∀b∈X.ex,b∉X.fs
 funs:X.s₀.heap.FunFrames X.base X.outer
 frf:∀b∈X.fs,X.H₀ b=none
structure Inv(X:Cx)(pins:List (Addr×Obj))(σ:List (Option V))(H:Hp)(s:Shared):Prop where
 ok:X.Ok
 os:s.os=X.s₀.os
 bare:AllBare s.gens
 base:Un X.fs X.ex X.H₀ H X.s₀.heap s.heap
 loc:∃m,s.heap.Ns X.env.locals m/\∀(i:Nat)(x:Str)(v:V),X.N[i]? =some x->σ[i]? =some (some v)->Vis X.env.scope x->∃u,zU v u/\Look X.env s.heap m x u
 cell:∀x c,X.env.cells.lookup x=some c->∃v,s.heap.IsCell c v
 free:H X.env.locals=none
 freeC:∀x c,X.env.cells.lookup x=some c->H c=none
 pin:∀p∈X.pn++pins,s.heap.get? p.1=some p.2/\H p.1=none/\p.1≠X.env.locals/\p.1∉X.fs/\∀v,p.2.data≠ .cell v
 hok:HOk X.prog X.w H s.heap
 len:σ.length=X.N.length
section
variable {X:Cx} {pins:List (Addr×Obj)} {σ:List (Option V)} {H H':Hp} {s:Shared} {h':Heap}
theorem Cx.Ok.nofr(ok:X.Ok){b:Addr}{o:Obj}(e:X.base.get? b=some o):b∉X.fs:=fun hb=>by
 have :=(ok.funs.mem hb).1
 rw[e]at this;cases this
theorem Inv.bs(I:Inv X pins σ H s):∀b o,X.base.get? b=some o->s.heap.get? b=some o/\H b=none:=fun b o e=>
 ⟨I.base.keep b o (I.ok.bs b o e).1 (I.ok.bs b o e).2 (I.ok.nofr e) (I.ok.noex b o e),I.base.free b o (I.ok.bs b o e).1 (I.ok.bs b o e).2 (I.ok.noex b o e)⟩
theorem Inv.bk(I:Inv X pins σ H s):∀b o,X.base.get? b=some o->s.heap.get? b=some o:=fun b o e=>(I.bs b o e).1
theorem Inv.mod(I:Inv X pins σ H s):Mod X.K X.mg X.base:=I.ok.mod
theorem Inv.kIn(I:Inv X pins σ H s):X.K.In s.heap:=I.ok.mod.kin.keeps I.bk
theorem Inv.lt(I:Inv X pins σ H s):X.env.locals<s.heap.objs.size:=let⟨_,hn,_⟩:=I.loc;hn.lt
theorem Inv.sz(I:Inv X pins σ H s):X.s₀.heap.objs.size<=s.heap.objs.size:=Nat.le_trans I.ok.above (Nat.le_of_lt I.lt)
theorem Inv.nofs(I:Inv X pins σ H s){a:Addr}(h:s.heap.objs.size<=a):a∉X.fs:=fun hb=>by
 obtain⟨_,o,ho,_⟩:=I.ok.funs.mem hb
 exact absurd (Nat.lt_of_lt_of_le (aq8 ho) (Nat.le_trans I.sz h)) (Nat.lt_irrefl _)
theorem Inv.cne(I:Inv X pins σ H s):∀x c,X.env.cells.lookup x=some c->c≠X.env.locals:=fun x c e z=>by
 obtain⟨v,o,ho,hd⟩:=I.cell x c e
 obtain⟨m,⟨o',es,ep,ho',hd',_⟩,_⟩:=I.loc
 rw[z,ho']at ho;cases ho;rw[hd']at hd;cases hd
theorem Inv.funs(I:Inv X pins σ H s):s.heap.FunFrames X.base X.outer:=by
 have all:∀(l:List Env),(∀b∈frs l,b∈X.fs)->X.s₀.heap.FunFrames X.base l->s.heap.FunFrames X.base l:=by
  intro l
  induction l with
  |nil=>intro _ _;trivial
  |cons env r ih=>
   intro hs hl
   obtain⟨hk,⟨L,o,hf,hn,ho,hd⟩,hr⟩:=hl
   have hL:L∈X.fs:=hs L (by unfold frs;rw[List.filterMap_cons,hf];exact List.mem_cons_self)
   obtain⟨sl,e⟩:=I.base.slot L o ho (I.ok.frf L hL) hL fun z=>I.ok.exfs L z hL
   exact⟨hk,⟨L,_,hf,hn,e,hd⟩,ih (fun b hb=>hs b (by unfold frs;rw[List.filterMap_cons,hf];exact aq10 _ hb)) hr⟩
 exact all X.outer (fun _ hb=>hb) I.ok.funs
theorem Inv.stack(I:Inv X pins σ H s):s.heap.FunFrames X.base X.stack:=by
 rcases I.ok.stk with e|⟨e,hf⟩
 ·rw[e];exact I.funs
 ·rw[e]
  obtain⟨m,hn,_⟩:=I.loc
  refine .cons (by rw[I.ok.kind];decide) hf hn ?_ I.funs
  exact Heap.get?_none_of_le (Nat.le_trans I.ok.bsz I.ok.above)
theorem Inv.stkSub(I:Inv X pins σ H s):∀b∈frs X.stack,b∈X.env.locals::X.fs:=fun b hb=>by
 rcases I.ok.stk with e|⟨e,hf⟩
 ·rw[e]at hb;exact aq10 _ hb
 ·rw[e]at hb
  unfold frs at hb
  rw[List.filterMap_cons,hf]at hb
  exact hb
theorem Inv.stkFree(I:Inv X pins σ H s):∀b∈frs X.stack,H b=none:=fun b hb=>by
 rcases List.mem_cons.mp (I.stkSub b hb)with e|hb
 ·rw[e];exact I.free
 ·obtain⟨_,o,ho,_⟩:=I.ok.funs.mem hb
  exact I.base.free b o ho (I.ok.frf b hb) fun z=>I.ok.exfs b z hb
theorem Inv.step{g':Array GenState}{t':Nat}{d':Drawn}{ch:List Addr}(I:Inv X pins σ H s)
  (hch:∀b∈ch,(b∈X.ex\/X.s₀.heap.objs.size<=b)/\b≠X.env.locals/\(∀x c,X.env.cells.lookup x=some c->c≠b)/\∀p∈X.pn++pins,p.1≠b)
  (keep:∀b o,b≠X.env.locals->b∉X.fs->b∉ch->s.heap.get? b=some o->H b=none->h'.get? b=some o)
  (slot:∀b o,b≠X.env.locals->b∈X.fs->b∉ch->s.heap.get? b=some o->H b=none->∃sl,h'.get? b=some {o with slots:=sl})(free:∀b o,b∉ch->s.heap.get? b=some o->H b=none->H' b=none)
  (there:∀b o,b∉ch->s.heap.get? b=some o->∃o',h'.get? b=some o')
  (tups:∀b xs,H b=some (.tup xs)->H' b=some (.tup xs))(frzs:∀b o u,H b=some (.frz o u)->H' b=some (.frz o u))(tbls:∀b ps,H b=some (.tbl ps)->∃more,H' b=some (.tbl (ps++more)))
  (ns:∀m,s.heap.Ns X.env.locals m->h'.Ns X.env.locals m)(hok:HOk X.prog X.w H' h')(hg:AllBare g'):
  Inv X pins σ H' {s with heap:=h',gens:=g',drawn:=d',toks:=t'}:=by
 have neL:∀b o,X.s₀.heap.get? b=some o->b≠X.env.locals:=fun b o e=>aq9 (Nat.lt_of_lt_of_le (aq8 e) I.ok.above)
 have neC:∀b o,X.s₀.heap.get? b=some o->b∉X.ex->b∉ch:=fun b o e hx hb=>by
  rcases(hch b hb).1 with z|z
  ·exact hx z
  ·exact absurd (Nat.lt_of_lt_of_le (aq8 e) z) (Nat.lt_irrefl _)
 have cellK:∀x c,X.env.cells.lookup x=some c->∀v,s.heap.IsCell c v->h'.IsCell c v:=fun x c e v⟨o,ho,hd⟩=>by
  have nch:c∉ch:=fun z=>(hch c z).2.2.1 x c e rfl
  by_cases hc:c∈X.fs
  ·obtain⟨sl,q⟩:=slot c o (I.cne x c e) hc nch ho (I.freeC x c e)
   exact⟨_,q,hd⟩
  ·exact⟨o,keep c o (I.cne x c e) hc nch ho (I.freeC x c e),hd⟩
 refine⟨I.ok,I.os,hg,⟨fun b o e n hb hx=>?_,fun b o e n hb hx=>?_,fun b o e n hx=>?_,fun b o e hx=>?_,fun b xs e=>tups b xs (I.base.tups b xs e),fun b o xs e=>frzs b o xs (I.base.frzs b o xs e),fun b ps e=>?_⟩,?_,fun x c e=>?_,?_,fun x c e=>?_,fun p hp=>?_,hok,I.len⟩
 ·exact keep b o (neL b o e) hb (neC b o e hx) (I.base.keep b o e n hb hx) (I.base.free b o e n hx)
 ·obtain⟨sl,e1⟩:=I.base.slot b o e n hb hx
  obtain⟨sl',e2⟩:=slot b _ (neL b o e) hb (neC b o e hx) e1 (I.base.free b o e n hx)
  exact⟨sl',e2⟩
 ·obtain⟨o',e1⟩:=I.base.there b o e hx
  exact free b o' (neC b o e hx) e1 (I.base.free b o e n hx)
 ·obtain⟨o',e1⟩:=I.base.there b o e hx
  exact there b o' (neC b o e hx) e1
 ·obtain⟨m1,e1⟩:=I.base.tbls b ps e
  obtain⟨m2,e2⟩:=tbls b _ e1
  exact⟨m1++m2,by rw[e2,Array.append_assoc]⟩
 ·obtain⟨m,hn,hl⟩:=I.loc
  refine⟨m,ns m hn,fun i x v e1 e2 e3=>?_⟩
  obtain⟨u,r,l⟩:=hl i x v e1 e2 e3
  refine⟨u,r,?_⟩
  rcases l with l|⟨k,c,e,z⟩
  ·exact .inl l
  ·exact .inr ⟨k,c,e,cellK x c e _ z⟩
 ·obtain⟨v,z⟩:=I.cell x c e
  exact⟨v,cellK x c e v z⟩
 ·obtain⟨m,⟨o,_,_,ho,_⟩,_⟩:=I.loc
  exact free _ o (fun z=>(hch _ z).2.1 rfl) ho I.free
 ·obtain⟨v,o,ho,hd⟩:=I.cell x c e
  exact free c o (fun z=>(hch c z).2.2.1 x c e rfl) ho (I.freeC x c e)
 ·obtain⟨e,n,ne,nf,d⟩:=I.pin p hp
  have nch:p.1∉ch:=fun z=>(hch p.1 z).2.2.2 p hp rfl
  exact⟨keep p.1 p.2 ne nf nch e n,free p.1 p.2 nch e n,ne,nf,d⟩
theorem Inv.un{t':Nat}(I:Inv X pins σ H s)(u:Un X.fs [] H H' s.heap h')(hok:HOk X.prog X.w H' h'):Inv X pins σ H' {s with heap:=h',toks:=t'}:=by
 obtain⟨m,⟨o,es,ep,ho,r⟩,_⟩:=id I.loc
 obtain⟨sl,hL⟩:=u.any ho I.free (by simp)
 exact I.step (g':=s.gens) (d':=s.drawn) (ch:=[]) (fun _ z=>nomatch z) (fun b o _ hb _ e n=>u.keep b o e n hb (by simp)) (fun b o _ hb _ e n=>u.slot b o e n hb (by simp)) (fun b o _ e n=>u.free b o e n (by simp)) (fun b o _ e=>u.there b o e (by simp)) u.tups u.frzs u.tbls (fun m' hm=>by
  obtain⟨o',es',ep',ho',r'⟩:=hm
  rw[ho]at ho';cases ho'
  exact⟨_,es',ep',hL,r'⟩) hok I.bare
theorem Inv.call{g':Array GenState}{t':Nat}{d':Drawn}{ch:List Addr}(I:Inv X pins σ H s)(u:Un (frs X.stack) ch H H' s.heap h')(hok:HOk X.prog X.w H' h')(hg:AllBare g')
  (hch:∀b∈ch,(b∈X.ex\/X.s₀.heap.objs.size<=b)/\b≠X.env.locals/\(∀x c,X.env.cells.lookup x=some c->c≠b)/\∀p∈X.pn++pins,p.1≠b):
  Inv X pins σ H' {s with heap:=h',gens:=g',drawn:=d',toks:=t'}:=by
 obtain⟨m,⟨o,es,ep,ho,r⟩,_⟩:=id I.loc
 obtain⟨sl,hL⟩:=u.any ho I.free fun z=>(hch _ z).2.1 rfl
 exact I.step (ch:=ch) hch (fun b o hL hb hc e n=>u.keep b o e n (fun z=>(List.mem_cons.mp (I.stkSub b z)).elim hL hb) hc) (fun b o _ _ hc e n=>u.any e n hc) (fun b o hc e n=>u.free b o e n hc) (fun b o hc e=>u.there b o e hc) u.tups u.frzs u.tbls (fun m' hm=>by
  obtain⟨o',es',ep',ho',r'⟩:=hm
  rw[ho]at ho';cases ho'
  exact⟨_,es',ep',hL,r'⟩) hok hg
theorem Inv.turned{t':Nat}{it:Addr}(I:Inv X pins σ H s)(k:∀b o,b≠it->s.heap.get? b=some o->h'.get? b=some o)(hn:H it=none)(hL:it≠X.env.locals)
  (h1:it∈X.ex\/X.s₀.heap.objs.size<=it)(h2:∀x c,X.env.cells.lookup x=some c->c≠it)(h3:∀p∈X.pn++pins,p.1≠it):Inv X pins σ H {s with heap:=h',toks:=t'}:=by
 have nit:∀b u,H b=some u->b≠it:=fun b u e z=>by rw[z,hn]at e;cases e
 refine I.step (g':=s.gens) (d':=s.drawn) (ch:=[it]) (fun b hb=>?_) (fun b o _ _ hc e _=>k b o (fun z=>hc (by simp[z])) e) (fun b o _ _ hc e _=>⟨o.slots,k b o (fun z=>hc (by simp[z])) e⟩) (fun _ _ _ _ n=>n)
  (fun b o hc e=>⟨o,k b o (fun z=>hc (by simp[z])) e⟩) (fun _ _ e=>e) (fun _ _ _ e=>e) (fun b ps e=>⟨#[],by rw[e];simp⟩) (fun m hm=>?_) (fun b u e=>?_) I.bare
 ·have e:b=it:=by simpa using hb
  subst e
  exact⟨h1,hL,h2,h3⟩
 ·obtain⟨o,es,ep,ho,r⟩:=hm
  exact⟨o,es,ep,k _ o (Ne.symm hL) ho,r⟩
 ·refine(I.hok b u e).stay (fun c v hc q=>k c v ?_ q) (fun _ q=>q) fun _ _ q=>q
  rcases hc with z|z
  ·rw[z];exact nit b u e
  ·exact nit c _ z
theorem Inv.tok(I:Inv X pins σ H s)(t:Nat):Inv X pins σ H {s with toks:=t}:=I.un (h':=s.heap) (t':=t) Un.refl I.hok
theorem Inv.kept{t':Nat}(I:Inv X pins σ H s)(k:∀b u,s.heap.get? b=some u->h'.get? b=some u):Inv X pins σ H {s with heap:=h',toks:=t'}:=I.un (Un.kept k) (I.hok.kept k)
theorem Inv.laid{a:Addr}{o:HO}{t':Nat}(I:Inv X pins σ H s)(k:∀b u,s.heap.get? b=some u->h'.get? b=some u)(hp:s.heap.objs.size<=a)(new:jA X.prog X.w (upd H a o) h' a o):
  Inv X pins σ (upd H a o) {s with heap:=h',toks:=t'}:=I.un (Un.laid k hp (I.hok.fresh hp)) (I.hok.laid k hp new)
theorem Inv.write{x e:Addr}{o:HO}{t':Nat}(I:Inv X pins σ H s)(mu:Mut (H x))(he:e=x\/H e=some (.own x))(k:∀b u,b≠e->s.heap.get? b=some u->h'.get? b=some u)(heo:∃u,h'.get? e=some u)
  (new:jA X.prog X.w (upd H x o) h' x o):Inv X pins σ (upd H x o) {s with heap:=h',toks:=t'}:=I.un (Un.write mu he k heo) (I.hok.write mu he k heo new)
theorem Inv.pins_of{pins':List (Addr×Obj)}(I:Inv X pins σ H s)(h:∀p∈pins',s.heap.get? p.1=some p.2/\H p.1=none/\p.1≠X.env.locals/\p.1∉X.fs/\∀v,p.2.data≠ .cell v):Inv X pins' σ H s:=
 ⟨I.ok,I.os,I.bare,I.base,I.loc,I.cell,I.free,I.freeC,fun p hp=>(List.mem_append.mp hp).elim (fun z=>I.pin p (List.mem_append_left _ z)) (h p),I.hok,I.len⟩
theorem gF{N:List Str}(hN:N.Nodup){i j:Nat}{x:Str}(a:N[i]? =some x)(b:N[j]? =some x):i=j:=by
 obtain⟨h1,e1⟩:=List.getElem?_eq_some_iff.mp a
 obtain⟨h2,e2⟩:=List.getElem?_eq_some_iff.mp b
 exact(List.getElem_inj hN).mp (e1.trans e2.symm)
theorem sP{M:Model}{A:Around}{E:Value->Shared->Prop}{i:Nat}{x:Str}{v:V}{u:Value}{Q:Unit->Shared->Prop}(I:Inv X pins σ H s)(hN:X.N.Nodup)(hi:X.N[i]? =some x)(hx:Loc X.env.scope x)(r:zU v u)
  (h:∀s',Inv X pins (σ.set i (some v)) H s'->(∃a,Heap.SameBut a s.heap s'.heap/\(a=X.env.locals\/X.env.cells.lookup x=some a))->Q () s')(hf:X.fn x=true\/X.env.scope.names.lookup x=some .local:=by first|exact .inl rfl|exact .inr rfl|assumption):wpAny M A (storeName X.env x u) Q E s:=by
 obtain⟨m,hn,hl⟩:=id I.loc
 have hcls:(X.env.scope.kind== .class||(X.env.scope.kind== .module&&X.env.locals !=X.env.globals))=false:=by rw[I.ok.kind];rfl
 have hiσ:i<σ.length:=by rw[I.len];exact(List.getElem?_eq_some_iff.mp hi).1
 have cne:=I.cne
 have tracked:∀{a:Addr}{h':Heap},(∃o,s.heap.get? a=some o/\H a=none)->Heap.SameBut a s.heap h'->HOk X.prog X.w H h':=fun {a h'}ha hs b ob e=>by
  obtain⟨_,_,hfree⟩:=ha
  refine(I.hok b ob e).stay (fun c w' hc q=>(hs.2 c ?_).trans q) (fun _ q=>q) fun _ _ q=>q
  rintro rfl
  rcases hc with rfl|hc
  ·rw[hfree]at e;cases e
  ·rw[hfree]at hc;cases hc
 rcases hx with hk|hk
 ·refine wpAny_storeName_local hk hn (fun h' hn' hs=>?_) hcls
  obtain⟨oL,_,_,hoL,_⟩:=id hn
  refine h _ ⟨I.ok,I.os,I.bare,⟨fun b o e n hb hx=>?_,fun b o e n hb hx=>?_,I.base.free,fun b o e hx=>?_,I.base.tups,I.base.frzs,I.base.tbls⟩,⟨_,hn',fun j y v' e1 e2 e3=>?_⟩,fun y c e=>?_,I.free,I.freeC,fun p hp=>?_,tracked ⟨oL,hoL,I.free⟩ hs,by simpa using I.len⟩ ⟨_,hs,.inl rfl⟩
  ·exact(hs.2 b (aq9 (Nat.lt_of_lt_of_le (aq8 e) I.ok.above))).trans (I.base.keep b o e n hb hx)
  ·obtain⟨sl,e1⟩:=I.base.slot b o e n hb hx
   exact⟨sl,(hs.2 b (aq9 (Nat.lt_of_lt_of_le (aq8 e) I.ok.above))).trans e1⟩
  ·obtain⟨o',e1⟩:=I.base.there b o e hx
   exact⟨o',(hs.2 b (aq9 (Nat.lt_of_lt_of_le (aq8 e) I.ok.above))).trans e1⟩
  ·by_cases hj:j=i
   ·subst hj
    rw[hi]at e1;cases e1
    rw[List.getElem?_set_self hiσ]at e2
    cases e2
    exact⟨u,r,.inl ⟨hk,by simp⟩⟩
   ·rw[List.getElem?_set_ne (Ne.symm hj)]at e2
    obtain⟨u',r',q⟩:=hl j y v' e1 e2 e3
    refine⟨u',r',?_⟩
    rcases q with⟨k,e⟩|⟨k,c,e,z⟩
    ·refine .inl ⟨k,?_⟩
     have :y≠x:=fun e=>hj (gF hN e1 (e▸hi))
     simp[this,e]
    ·exact .inr ⟨k,c,e,z.sameBut hs (cne y c e)⟩
  ·obtain⟨w',z⟩:=I.cell y c e
   exact⟨w',z.sameBut hs (cne y c e)⟩
  ·obtain⟨e,n,ne,nf,d⟩:=I.pin p hp
   exact⟨(hs.2 p.1 ne).trans e,n,ne,nf,d⟩
 ·have hfn:X.fn x=true:=by
   rcases hf with z|z
   ·exact z
   ·rw[z]at hk;cases hk
  obtain⟨c,hc⟩:=I.ok.has x (.inl hk)
  obtain⟨w',z⟩:=I.cell x c hc
  refine wpAny_storeName_cell I.ok.kind hk hc z (fun h' hc' hs=>?_)
  obtain⟨oc,hoc,hocd⟩:=id z
  refine h {s with heap:=h'} ⟨I.ok,I.os,I.bare,⟨fun b o e n hb hx=>?_,fun b o e n hb hx=>?_,I.base.free,fun b o e hx=>?_,I.base.tups,I.base.frzs,I.base.tbls⟩,⟨m,hn.sameBut hs (Ne.symm (cne x c hc)),fun j y v' e1 e2 e3=>?_⟩,fun y c' e=>?_,I.free,I.freeC,fun p hp=>?_,tracked ⟨oc,hoc,I.freeC x c hc⟩ hs,by simpa using I.len⟩ ⟨c,hs,.inr hc⟩
  ·exact(hs.2 b (aq9 (Nat.lt_of_lt_of_le (aq8 e) (I.ok.cab x c hfn hc)))).trans (I.base.keep b o e n hb hx)
  ·obtain⟨sl,e1⟩:=I.base.slot b o e n hb hx
   exact⟨sl,(hs.2 b (aq9 (Nat.lt_of_lt_of_le (aq8 e) (I.ok.cab x c hfn hc)))).trans e1⟩
  ·obtain⟨o',e1⟩:=I.base.there b o e hx
   exact⟨o',(hs.2 b (aq9 (Nat.lt_of_lt_of_le (aq8 e) (I.ok.cab x c hfn hc)))).trans e1⟩
  ·by_cases hj:j=i
   ·subst hj
    rw[hi]at e1;cases e1
    rw[List.getElem?_set_self hiσ]at e2
    cases e2
    exact⟨u,r,.inr ⟨.inl hk,c,hc,hc'⟩⟩
   ·rw[List.getElem?_set_ne (Ne.symm hj)]at e2
    obtain⟨u',r',q⟩:=hl j y v' e1 e2 e3
    refine⟨u',r',?_⟩
    rcases q with q|⟨k,c',e,z'⟩
    ·exact .inl q
    ·refine .inr ⟨k,c',e,z'.sameBut hs ?_⟩
     rintro rfl
     exact hj (gF hN e1 (I.ok.inj _ _ _ e hc▸hi))
  ·by_cases hcc:c'=c
   ·subst hcc;exact⟨_,hc'⟩
   ·obtain⟨w2,z2⟩:=I.cell y c' e
    exact⟨w2,z2.sameBut hs hcc⟩
  ·obtain⟨e,n,ne,nf,d⟩:=I.pin p hp
   refine⟨(hs.2 p.1 ?_).trans e,n,ne,nf,d⟩
   intro q
   rw[q,hoc]at e
   have q':oc=p.2:=Option.some.inj e
   exact d w' (by rw[<-q'];exact hocd)
theorem oX{M:Model}{A:Around}{E:Value->Shared->Prop}{i:Nat}{x:Str}{v:V}{u:Value}{Q:Unit->Shared->Prop}(I:Inv X pins σ H s)(hN:X.N.Nodup)(hi:X.N[i]? =some x)(hx:Loc X.env.scope x)(r:zU v u)
  (h:∀s',Inv X pins (σ.set i (some v)) H s'->Q () s')(hf:X.fn x=true\/X.env.scope.names.lookup x=some .local:=by first|exact .inl rfl|exact .inr rfl|assumption):wpAny M A (storeName X.env x u) Q E s:=
 sP I hN hi hx r (fun s' I' _=>h s' I') hf
theorem Inv.call'{s':Shared}{ch:List Addr}(I:Inv X pins σ H s)(ho:s'.os=s.os)(u:Un (frs X.stack) ch H H' s.heap s'.heap)(hok:HOk X.prog X.w H' s'.heap)(hg:AllBare s'.gens)
  (hch:∀b∈ch,(b∈X.ex\/X.s₀.heap.objs.size<=b)/\b≠X.env.locals/\(∀x c,X.env.cells.lookup x=some c->c≠b)/\∀p∈X.pn++pins,p.1≠b):Inv X pins σ H' s':=by
 obtain⟨h',g',d',t',o'⟩:=s'
 have e:o'=s.os:=ho
 subst e
 exact I.call (g':=g') (t':=t') (d':=d') u hok hg hch
end
abbrev XK:=Value->Option Addr->Hp->Prop
abbrev St:=List (Option V)
abbrev VK:=V->Hp->Prop
abbrev TE:=St->Hp->VK->Prop
abbrev TT:=St->Hp->(Bool->Hp->Prop)->Prop
abbrev TA:=St->Hp->(List V->Hp->Prop)->Prop
structure Ends where
 nx:St->Hp->Prop
 rt:VK
 bk:St->Hp->Prop:=fun _ _=>False
 ct:St->Hp->Prop:=fun _ _=>False
abbrev TS:=Ends->St->Hp->Prop
inductive EP(X:Cx)(pins:List (Addr×Obj))(σ:St)(Q:VK)(u:Value)(s':Shared):Prop
 |mk (v:V) (H':Hp) (a_0:Inv X pins σ H' s') (a_1:zU v u) (a_2:Q v H'):EP X pins σ Q u s'
inductive TP(X:Cx)(pins:List (Addr×Obj))(σ:St)(Q:Bool->Hp->Prop)(b:Bool)(s':Shared):Prop
 |mk (H':Hp) (a_0:Inv X pins σ H' s') (a_1:Q b H'):TP X pins σ Q b s'
inductive AP(X:Cx)(pins:List (Addr×Obj))(σ:St)(Q:List V->Hp->Prop)(us:List Value)(s':Shared):Prop
 |mk (vs:List V) (H':Hp) (a_0:Inv X pins σ H' s') (a_1:Vals vs us) (a_2:Q vs H'):AP X pins σ Q us s'
def SP(X:Cx)(pins:List (Addr×Obj))(D:Ends)(f:Flow)(s':Shared):Prop:=
 match f with
 | .next=>∃σ' H',Inv X pins σ' H' s'/\D.nx σ' H'
 | .brk=>∃σ' H',Inv X pins σ' H' s'/\D.bk σ' H'
 | .cont=>∃σ' H',Inv X pins σ' H' s'/\D.ct σ' H'
 | .ret u=>∃v σ' H',Inv X pins σ' H' s'/\zU v u/\D.rt v H'
def PE(X:Cx)(e:Expr)(t:TE):Prop:=
 ∀(pins:List (Addr×Obj))(s:Shared)(σ:St)(H:Hp)(Q:VK),Inv X pins σ H s->t σ H Q->wpAny (model X.prog X.w) X.A (eval e X.env) (EP X pins σ Q) X.xe s
def PT(X:Cx)(e:Expr)(t:TT):Prop:=
 ∀(pins:List (Addr×Obj))(s:Shared)(σ:St)(H:Hp)(Q:Bool->Hp->Prop),Inv X pins σ H s->t σ H Q->wpAny (model X.prog X.w) X.A (isTrue e X.env (eval e X.env)) (TP X pins σ Q) X.xe s
def PW(X:Cx)(e:Expr)(t:TT):Prop:=
 ∀(whole:Sem Value)(pins:List (Addr×Obj))(s:Shared)(σ:St)(H:Hp)(Q:Bool->Hp->Prop),Inv X pins σ H s->t σ H Q->wpAny (model X.prog X.w) X.A (isTrue e X.env whole) (TP X pins σ Q) X.xe s
theorem PW.pt{X:Cx}{e:Expr}{t:TT}(h:PW X e t):PT X e t:=h _
def PA(X:Cx)(es:List Expr)(t:TA):Prop:=
 ∀(pos:Pos)(pins:List (Addr×Obj))(s:Shared)(σ:St)(H:Hp)(Q:List V->Hp->Prop),Inv X pins σ H s->t σ H Q->wpAny (model X.prog X.w) X.A (spliced (backTo pos (starEach es X.env))) (AP X pins σ Q) X.xe s
def PS(X:Cx)(st:Stmt)(t:TS):Prop:=
 ∀(pins:List (Addr×Obj))(s:Shared)(σ:St)(H:Hp)(D:Ends),Inv X pins σ H s->t D σ H->wpAny (model X.prog X.w) X.A (exec st X.env) (SP X pins D) X.xe s
def PSs(X:Cx)(st:List Stmt)(t:TS):Prop:=
 ∀(pins:List (Addr×Obj))(s:Shared)(σ:St)(H:Hp)(D:Ends),Inv X pins σ H s->t D σ H->wpAny (model X.prog X.w) X.A (execs st X.env) (SP X pins D) X.xe s
theorem thn{α:Type}{t:Sem α}{Q Q':α->Shared->Prop}{M:Model}{A:Around}{E:Value->Shared->Prop}{s:Shared}(h:wpAny M A t Q E s)(hQ:∀a s,Q a s->Q' a s):wpAny M A t Q' E s:=wpAny_mono h hQ fun _ _ x=>x
section
variable {X:Cx}
theorem bin{a b:Expr}{ta tb:TE}(ha:PE X a ta)(hb:PE X b tb){pins:List (Addr×Obj)}{s:Shared}{σ:St}{H:Hp}{R:V->V->Hp->Prop}(I:Inv X pins σ H s)(h:ta σ H fun x H1=>tb σ H1 fun y H2=>R x y H2)
  {α:Type}{Q:α->Shared->Prop}{f:Value->Value->Sem α}
  (hf:∀v u s2 x y H2,Inv X pins σ H2 s2->zU x v->zU y u->R x y H2->wpAny (model X.prog X.w) X.A (f v u) Q X.xe s2):
  wpAny (model X.prog X.w) X.A (eval a X.env) (fun v s₁=>wpAny (model X.prog X.w) X.A (eval b X.env) (fun u s₂=>wpAny (model X.prog X.w) X.A (f v u) Q X.xe s₂) X.xe s₁) X.xe s:=by
 refine thn (ha pins s σ H _ I h) fun v s1⟨x,H1,I1,r1,q1⟩=>?_
 refine thn (hb pins s1 σ H1 _ I1 q1) fun u s2⟨y,H2,I2,r2,q2⟩=>?_
 exact hf v u s2 x y H2 I2 r1 r2 q2
inductive qN1(i:Nat)(σ:St)(H:Hp)(Q:VK):Prop
 |mk (v:_) (a_0:σ[i]? =some (some v)) (a_1:Q v H):qN1 i σ H Q
def jY(i:Nat):TE:=fun σ H Q=>qN1 i σ H Q
def tC(v:V):TE:=fun _ H Q=>Q v H
theorem qP7{i:Nat}{x:Str}{pos:Pos}(hN:X.N[i]? =some x)(hv:Vis X.env.scope x)(hd:(x==("__debug__":Str))=false:=by decide)(hcd:(x==("__classdict__":Str))=false:=by decide):PE X (.Name x pos) (jY i):=by
 intro pins s σ H Q I h
 obtain⟨v,e,h⟩:=h
 obtain⟨m,hn,hl⟩:=I.loc
 obtain⟨u,r,l⟩:=hl i x v hN e hv
 have fin:EP X pins σ Q u s:=⟨v,H,I,r,h⟩
 rcases l with⟨hk,hm⟩|⟨hk,c,hc,hcell⟩
 ·exact wpAny_Name (wpAny_loadName_local I.ok.kind hk hn hm fin) hd
 ·rcases hk with hk|hk
  ·exact wpAny_Name (wpAny_loadName_cell I.ok.kind hk hc hcell fin) hd
  ·exact wpAny_Name (wpAny_loadName_free I.ok.kind hk hc hcell fin hcd) hd
theorem qV{i j pos}:PE X (.Constant (.int i) j pos) (tC (.int i)):=fun _ _ _ H _ I h=>wpAny_Constant_int ⟨.int i,H,I.tok _,⟨_,rfl⟩,h⟩
theorem vM{b j pos}:PE X (.Constant (.bool b) j pos) (tC (.bl b)):=fun _ _ _ H _ I h=>Constant_bool ⟨.bl b,H,I,rfl,h⟩
theorem qC{x j pos}:PE X (.Constant (.str x) j pos) (tC (.str x)):=fun _ _ _ H _ I h=>Calls.Constant_str ⟨.str x,H,I.tok _,⟨_,rfl⟩,h⟩
def Gl(X:Cx)(x:Str):Prop:=X.env.kindOf x=some .globalImplicit
theorem cH{E:Value->Shared->Prop}{pins:List (Addr×Obj)}{s:Shared}{σ:St}{H:Hp}{x:Str}{u:Value}{pos:Pos}{Q:Value->Shared->Prop}(I:Inv X pins σ H s)(hg:Gl X x)(hm:X.mg x=some u)(h:Q u s)
  (hd:(x==("__debug__":Str))=false:=by decide):wpAny (model X.prog X.w) X.A (eval (.Name x pos) X.env) Q E s:=
 Calls.Name_function_global I.ok.kind hg (Calls.loadGlobal_global (by rw[I.ok.glob];exact I.mod.glob.keeps I.bk) hm h) hd
theorem vZ{E:Value->Shared->Prop}{pins:List (Addr×Obj)}{s:Shared}{σ:St}{H:Hp}{x:Str}{u:Value}{pos:Pos}{Q:Value->Shared->Prop}(I:Inv X pins σ H s)(hg:Gl X x)(hm:X.mg x=none)(hv:bootBuiltins x=some u)(h:Q u s)
  (hn:x≠"__name__":=by decide)(hd:(x==("__debug__":Str))=false:=by decide):wpAny (model X.prog X.w) X.A (eval (.Name x pos) X.env) Q E s:=by
 obtain⟨mb,h1,h2⟩:=I.mod.blt
 exact Calls.Name_function_global I.ok.kind hg (Calls.loadGlobal_builtin (by rw[I.ok.glob];exact I.mod.glob.keeps I.bk) hm (by rw[I.ok.blt];exact h1.keeps I.bk) ((h2 x hn).trans hv) h) hd
theorem zR{x:Str}{v:V}{u:Value}{pos:Pos}(hg:Gl X x)(hm:X.mg x=some u)(r:zU v u)(hd:(x==("__debug__":Str))=false:=by decide):PE X (.Name x pos) (tC v):=
 fun _ _ _ H _ I h=>cH I hg hm ⟨v,H,I,r,h⟩ hd
theorem cP{x:Str}{v:V}{u:Value}{pos:Pos}(hg:Gl X x)(hm:X.mg x=none)(hv:bootBuiltins x=some u)(r:zU v u)(hn:x≠"__name__":=by decide)(hd:(x==("__debug__":Str))=false:=by decide):PE X (.Name x pos) (tC v):=
 fun _ _ _ H _ I h=>vZ I hg hm hv ⟨v,H,I,r,h⟩ hn hd
variable {a b:Expr} {ta tb:TE} {pos:Pos}
def PC(X:Cx)(op:CmpOp)(a b:Expr)(t:TE):Prop:=
 ∀(pins:List (Addr×Obj))(s:Shared)(σ:St)(H:Hp)(Q:VK),Inv X pins σ H s->t σ H Q->
  wpAny (model X.prog X.w) X.A (eval a X.env) (fun v s₁=>wpAny (model X.prog X.w) X.A (eval b X.env) (fun u s₂=>wpAny (model X.prog X.w) X.A (compareOp op v u) (EP X pins σ Q) X.xe s₂) X.xe s₁) X.xe s
inductive tB_(Q:Bool->Hp->Prop)(x:V)(H1:Hp):Prop
 |mk (c:_) (a_0:x= .bl c) (a_1:Q c H1):tB_ Q x H1
def tB(t:TE):TT:=fun σ H Q=>t σ H fun x H1=>tB_ Q x H1
theorem qP8{op:CmpOp}{t:TE}(h:PC X op a b t)(h1:behindInMarks op b=false:=by first|exact nobehind _ (by decide) (by decide)|rfl):PT X (.Compare a [op] [b] pos) (tB t):=by
 intro pins s σ H Q I hw
 refine wpAny_isTrue_Compare1 (thn (h pins s σ H _ I hw) fun v s1 h1=>thn h1 fun u s2 h2=>thn h2 fun c s3⟨x,H1,I1,r1,q1⟩=>?_) h1
 obtain⟨d,rfl,q⟩:=q1
 cases r1
 exact wpAny_truthy_bool ⟨H1,I1,q⟩
theorem jE{e:Expr}{t:TE}(h:PE X e t)(he:∀whole,isTrue e X.env whole=(do let v<-whole;standAt e.pos;holding [v] (truthy v)):=by intro _;rfl):PT X e (tB t):=by
 intro pins s σ H Q I hw
 refine isTrue_plain (thn (h pins s σ H _ I hw) fun v s1⟨x,H1,I1,r1,q1⟩=>?_) (he _)
 obtain⟨d,rfl,q⟩:=q1
 cases r1
 exact wpAny_truthy_bool ⟨H1,I1,q⟩
variable {tA tB':TT} {rest:List Expr}
def qO4(t u:TT):TT:=fun σ H Q=>t σ H fun c H1=>if c=true then u σ H1 Q else Q false H1
def tOr(t u:TT):TT:=fun σ H Q=>t σ H fun c H1=>if c=true then Q true H1 else u σ H1 Q
def qO5(t:TT):TT:=fun σ H Q=>t σ H fun c H1=>Q (!c) H1
theorem uS(ha:PT X a tA):PW X (.BoolOp .And [a] pos) tA:=by
 intro wh pins s σ H Q I h
 refine isTrue_and (thn (ha pins s σ H Q I h) fun c s1 e=>?_)
 cases c with
 |true=>exact isTrue_and_nil e
 |false=>exact e
theorem aD(ha:PT X a tA):PW X (.BoolOp .Or [a] pos) tA:=by
 intro wh pins s σ H Q I h
 refine isTrue_or (thn (ha pins s σ H Q I h) fun c s1 e=>?_)
 cases c with
 |false=>exact isTrue_or_nil e
 |true=>exact e
theorem cR(ha:PT X a tA)(hb:PW X (.BoolOp .And (b::rest) pos) tB'):PW X (.BoolOp .And (a::b::rest) pos) (qO4 tA tB'):=by
 intro wh pins s σ H Q I h
 refine isTrue_and (thn (ha pins s σ H _ I h) fun c s1⟨H1,I1,q1⟩=>?_)
 cases c with
 |true=>exact hb wh pins s1 σ H1 Q I1 q1
 |false=>exact⟨H1,I1,q1⟩
theorem qN2(ha:PT X a tA)(hb:PW X (.BoolOp .Or (b::rest) pos) tB'):PW X (.BoolOp .Or (a::b::rest) pos) (tOr tA tB'):=by
 intro wh pins s σ H Q I h
 refine isTrue_or (thn (ha pins s σ H _ I h) fun c s1⟨H1,I1,q1⟩=>?_)
 cases c with
 |true=>exact⟨H1,I1,q1⟩
 |false=>exact hb wh pins s1 σ H1 Q I1 q1
theorem wU(ha:PT X a tA):PT X (.UnaryOp .Not a pos) (qO5 tA):=by
 intro pins s σ H Q I h
 exact isTrue_not (thn (ha pins s σ H (fun c H1=>Q (!c) H1) I h) fun c s1⟨H1,I1,q1⟩=>⟨H1,I1,q1⟩)
inductive aF(tb:TE)(σ:St)(Q:VK)(x:V)(H1:Hp):Prop
 |mk (c:_) (a_0:x= .bl c) (a_1:if c=true then tb σ H1 Q else Q (.bl false) H1):aF tb σ Q x H1
def zK0(ta tb:TE):TE:=fun σ H Q=>ta σ H fun x H1=>aF tb σ Q x H1
inductive aH(Q:VK)(x:V)(H1:Hp):Prop
 |mk (c:_) (a_0:x= .bl c) (a_1:Q (.bl (!c)) H1):aH Q x H1
def zK1(ta:TE):TE:=fun σ H Q=>ta σ H fun x H1=>aH Q x H1
theorem bG{op}{t:TE}(h:PE X a t):PE X (.BoolOp op [a] pos) t:=fun pins s σ H Q I hw=>BoolOp_one (h pins s σ H Q I hw)
theorem bN(ha:PE X a ta)(hb:PE X (.BoolOp .And (b::rest) pos) tb):PE X (.BoolOp .And (a::b::rest) pos) (zK0 ta tb):=by
 intro pins s σ H Q I h
 refine BoolOp_and (thn (ha pins s σ H _ I h) fun v s1⟨x,H1,I1,r1,q1⟩=>?_)
 obtain⟨c,rfl,q1⟩:=q1
 cases r1
 refine wpAny_truthy_bool ?_
 cases c with
 |true=>exact hb pins s1 σ H1 Q I1 q1
 |false=>exact⟨.bl false,H1,I1,rfl,q1⟩
theorem qP9(ha:PE X a ta):PE X (.UnaryOp .Not a pos) (zK1 ta):=by
 intro pins s σ H Q I h
 refine UnaryOp_ (thn (ha pins s σ H _ I h) fun v s1⟨x,H1,I1,r1,q1⟩=>?_)
 obtain⟨c,rfl,q1⟩:=q1
 cases r1
 exact not_of (wpAny_truthy_bool ⟨.bl (!c),H1,I1,rfl,q1⟩)
def tIf(t:TT)(ta tb:TE):TE:=fun σ H Q=>t σ H fun c H1=>if c=true then ta σ H1 Q else tb σ H1 Q
theorem kF{c:Expr}(hc:PT X c tA)(ha:PE X a ta)(hb:PE X b tb):PE X (.IfExp c a b pos) (tIf tA ta tb):=by
 intro pins s σ H Q I h
 refine wpAny_IfExp (thn (hc pins s σ H _ I h) fun d s1⟨H1,I1,q1⟩=>?_)
 cases d with
 |true=>exact ha pins s1 σ H1 Q I1 q1
 |false=>exact hb pins s1 σ H1 Q I1 q1
end
def zH(K:Fg)(H:Hp)(a:Addr)(xs:List V):Prop:=
 Rd H a (.lst xs)\/
  ∃(o:Obj)(its:Array Value)(n:Nat),K.lookup a=some o/\o.cls= .type "list"/\o.dict=none/\o.data= .seq its n/\its.size<=sizeLine/\Vals xs its.toList
def zO(K:Fg)(H:Hp)(a:Addr)(xs:List V):Prop:=
 Rd H a (.tup xs)\/
  ∃(o:Obj)(its:Array Value)(n:Nat),K.lookup a=some o/\o.cls= .type "tuple"/\o.data= .seq its n/\its.size<=sizeLine/\Vals xs its.toList
def zI6:Value->Option V
 | .none=>some .non
 | .bool b=>some (.bl b)
 | .int i _=>some (.int i)
 | .str x _=>some (.str x)
 | .bytes b _=>some (.byt b)
 | .float b _=>some (.flt b)
 | .ref a=>some (.ref a)
 | .type n=>some (.ty n)
 |_=>none
theorem zU.abs{x:V}{u:Value}(r:zU x u):zI6 u=some x:=by
 cases x with
 |non=>cases r;rfl
 |bl _=>cases r;rfl
 |int _=>obtain⟨t,rfl⟩:=r;rfl
 |str _=>obtain⟨t,rfl⟩:=r;rfl
 |byt _=>obtain⟨t,rfl⟩:=r;rfl
 |flt _=>obtain⟨t,rfl⟩:=r;rfl
 |ref _=>cases r;rfl
 |ty _=>cases r;rfl
theorem zU.inj{x y:V}{u:Value}(r:zU x u)(q:zU y u):x=y:=Option.some.inj (r.abs.symm.trans q.abs)
theorem Vals.inj:∀{xs ys:List V}{us:List Value},Vals xs us->Vals ys us->xs=ys
 |_,_,_,.nil,.nil=>rfl
 |_,_,_,.cons r t,.cons r' t'=>by rw[r.inj r',Vals.inj t t']
section
variable {X:Cx} {pins:List (Addr×Obj)} {σ:St} {H:Hp} {s:Shared} {a:Addr} {xs ys:List V}
theorem zH.of{K:Fg}(h:H a=some (.lst xs)):zH K H a xs:=.inl (.inl h)
theorem zO.of{K:Fg}(h:H a=some (.tup xs)):zO K H a xs:=.inl (.inl h)
theorem Inv.list(I:Inv X pins σ H s)(h:zH X.K H a xs):∃its:List Value,Vals xs its/\PlainL s.heap a its.toArray/\xs.length<=sizeLine:=by
 rcases h with h|⟨o,its,n,hk,hc,hd,hs,hz,r⟩
 ·obtain⟨z,its,n,r,e⟩:=h.ok I.hok
  exact⟨its,r,⟨_,n,e,rfl,rfl,rfl⟩,z⟩
 ·refine⟨its.toList,r,⟨o,n,I.kIn a o hk,hc,hd,by simpa using hs⟩,?_⟩
  have e:=r.length
  simp only[Array.length_toList]at e
  omega
theorem Inv.tuple(I:Inv X pins σ H s)(h:zO X.K H a xs):∃its:List Value,Vals xs its/\IsTup s.heap a its.toArray/\xs.length<=sizeLine:=by
 rcases h with h|⟨o,its,n,hk,hc,hs,hz,r⟩
 ·obtain⟨z,its,r,p⟩:=h.ok I.hok
  exact⟨its,r,p,z⟩
 ·refine⟨its.toList,r,⟨o,I.kIn a o hk,hc,n,by simpa using hs⟩,?_⟩
  have e:=r.length
  simp only[Array.length_toList]at e
  omega
theorem Inv.list_inj(I:Inv X pins σ H s)(h:zH X.K H a xs)(h':zH X.K H a ys):xs=ys:=by
 obtain⟨its,r,⟨o,n,e,_,_,d⟩,_⟩:=I.list h
 obtain⟨its',r',⟨o',n',e',_,_,d'⟩,_⟩:=I.list h'
 rw[e]at e';cases e'
 rw[d]at d'
 injection d' with d1 _
 have :its=its':=by simpa using congrArg Array.toList d1
 subst this
 exact r.inj r'
theorem Inv.tuple_inj(I:Inv X pins σ H s)(h:zO X.K H a xs)(h':zO X.K H a ys):xs=ys:=by
 obtain⟨its,r,⟨o,e,_,n,d⟩,_⟩:=I.tuple h
 obtain⟨its',r',⟨o',e',_,n',d'⟩,_⟩:=I.tuple h'
 rw[e]at e';cases e'
 rw[d]at d'
 injection d' with d1 _
 have :its=its':=by simpa using congrArg Array.toList d1
 subst this
 exact r.inj r'
end
abbrev Cx.wish(X:Cx)(E:Value->Shared->Prop):Cx:={X with xe:=E}
abbrev Cx.nox(X:Cx):Cx:=X.wish fun _ _=>False
theorem Cx.Ok.wish{X:Cx}(ok:X.Ok)(E:Value->Shared->Prop):(X.wish E).Ok:=
 ⟨ok.mod,ok.kind,ok.glob,ok.blt,ok.above,ok.inj,ok.has,ok.cab,ok.hd,ok.frames,ok.stk,ok.exf,ok.bs,ok.bsz,ok.noex,ok.exfs,ok.funs,ok.frf⟩
theorem Cx.Ok.unwish{X:Cx}{E:Value->Shared->Prop}(ok:(X.wish E).Ok):X.Ok:=
 ⟨ok.mod,ok.kind,ok.glob,ok.blt,ok.above,ok.inj,ok.has,ok.cab,ok.hd,ok.frames,ok.stk,ok.exf,ok.bs,ok.bsz,ok.noex,ok.exfs,ok.funs,ok.frf⟩
section
variable {X:Cx} {pins:List (Addr×Obj)} {σ:St} {H:Hp} {s:Shared} {E:Value->Shared->Prop}
theorem Inv.wish(I:Inv X pins σ H s)(E:Value->Shared->Prop):Inv (X.wish E) pins σ H s:=⟨I.ok.wish E,I.os,I.bare,I.base,I.loc,I.cell,I.free,I.freeC,I.pin,I.hok,I.len⟩
theorem Inv.unwish(I:Inv (X.wish E) pins σ H s):Inv X pins σ H s:=⟨I.ok.unwish,I.os,I.bare,I.base,I.loc,I.cell,I.free,I.freeC,I.pin,I.hok,I.len⟩
theorem SP.unwish{D:Ends}{f:Flow}{s':Shared}(h:SP (X.wish E) pins D f s'):SP X pins D f s':=by
 cases f with
 |next=>obtain⟨σ',H',I,q⟩:=h;exact⟨σ',H',I.unwish,q⟩
 |brk=>obtain⟨σ',H',I,q⟩:=h;exact⟨σ',H',I.unwish,q⟩
 |cont=>obtain⟨σ',H',I,q⟩:=h;exact⟨σ',H',I.unwish,q⟩
 |ret u=>obtain⟨v,σ',H',I,r,q⟩:=h;exact⟨v,σ',H',I.unwish,r,q⟩
theorem PSs.nox{st:List Stmt}{t:TS}(h:PSs X.nox st t):PSs X st t:=fun pins s σ H D I hw=>
 wpAny_mono (h pins s σ H D (I.wish _) hw) (fun _ _ q=>q.unwish) fun _ _ z=>False.elim z
end
section
variable {X:Cx} {st:Stmt} {rest:List Stmt} {t u:TS} {e:Expr} {te:TE} {pos:Pos}
def gH:TS:=fun D σ H=>D.nx σ H
def iG(t u:TS):TS:=fun D σ H=>t {D with nx:=u D} σ H
theorem zQ:PSs X [] gH:=fun _ _ σ H _ I h=>wpAny_execs_nil ⟨σ,H,I,h⟩
theorem qZ(h1:PS X st t)(h2:PSs X rest u):PSs X (st::rest) (iG t u):=by
 intro pins s σ H D I h
 refine wpAny_execs_cons (thn (h1 pins s σ H {D with nx:=u D} I h) fun f s1 q=>?_)
 cases f with
 |next=>
  obtain⟨σ',H',I',q⟩:=q
  exact h2 pins s1 σ' H' D I' q
 |ret v=>exact q
 |brk=>exact q
 |cont=>exact q
theorem qK(h1:PS X st t):PSs X [st] t:=by
 intro pins s σ H D I h
 refine wpAny_execs_cons (thn (h1 pins s σ H D I h) fun f s1 q=>?_)
 cases f with
 |next=>exact wpAny_execs_nil q
 |ret v=>exact q
 |brk=>exact q
 |cont=>exact q
theorem Inv.quiet{pins:List (Addr×Obj)}{σ:St}{H:Hp}{s:Shared}(I:Inv X pins σ H s):interactive X.env=false:=by simp[interactive,I.ok.kind]
def aP(te:TE):TS:=fun D σ H=>te σ H fun _ H1=>D.nx σ H1
theorem qN(he:PE X e te)(hs:swapsWith e none pos.line X.env=pure false:=by rfl):PS X (.Expr e pos) (aP te):=by
 intro pins s σ H D I h
 exact wpAny_Expr_any (thn (he pins s σ H _ I h) fun v s1⟨x,H1,I1,r1,q1⟩=>⟨σ,H1,I1,q1⟩) I.quiet hs
def qO6(te:TE):TS:=fun D σ H=>te σ H D.rt
theorem qM(he:PE X e te):PS X (.Return (some e) pos) (qO6 te):=by
 intro pins s σ H D I h
 exact wpAny_Return_some (thn (he pins s σ H _ I h) fun v s1⟨x,H1,I1,r1,q1⟩=>⟨x,σ,H1,I1,r1,q1⟩)
def zK2:TS:=fun D _ H=>D.rt .non H
theorem qO7:PS X (.Return none pos) zK2:=fun _ _ σ H _ I h=>wpAny_Return_none ⟨.non,σ,H,I,rfl,h⟩
def bD(c:TT)(t u:TS):TS:=fun D σ H=>c σ H fun b H1=>if b=true then t D σ H1 else u D σ H1
theorem zC{c:Expr}{a b:List Stmt}{tc:TT}(hc:PT X c tc)(ha:PSs X a t)(hb:PSs X b u):PS X (.If c a b pos) (bD tc t u):=by
 intro pins s σ H D I h
 refine wpAny_If (thn (hc pins s σ H _ I h) fun d s1⟨H1,I1,q1⟩=>?_)
 cases d with
 |true=>exact ha pins s1 σ H1 D I1 q1
 |false=>exact hb pins s1 σ H1 D I1 q1
def qPq:TS:=fun _ _ _=>False
theorem jF{sts:List Stmt}:PSs X sts qPq:=fun _ _ _ _ _ _ h=>h.elim
end
abbrev TG:=V->St->Hp->(St->Hp->Prop)->Prop
abbrev TGs:=List V->St->Hp->(St->Hp->Prop)->Prop
def PG(X:Cx)(target:Expr)(t:TG):Prop:=
 ∀(pins:List (Addr×Obj))(s:Shared)(σ:St)(H:Hp)(v:V)(u:Value)(Q:St->Hp->Prop),Inv X pins σ H s->zU v u->t v σ H Q->
  wpAny (model X.prog X.w) X.A (assign target X.env u) (fun _ s'=>∃σ' H',Inv X pins σ' H' s'/\Q σ' H') X.xe s
def PGs(X:Cx)(ts:List Expr)(t:TGs):Prop:=
 ∀(pins:List (Addr×Obj))(s:Shared)(σ:St)(H:Hp)(vs:List V)(us:List Value)(Q:St->Hp->Prop),Inv X pins σ H s->Vals vs us->t vs σ H Q->
  wpAny (model X.prog X.w) X.A (assignInOrder ((assignEach ts X.env).map (·.2)) us) (fun _ s'=>∃σ' H',Inv X pins σ' H' s'/\Q σ' H') X.xe s
abbrev TIp:=V->V->Hp->VK->Prop
def PIp(X:Cx)(op:Operator)(t:TIp):Prop:=
 ∀(pins:List (Addr×Obj))(s:Shared)(σ:St)(H:Hp)(x y:V)(v u:Value)(Q:VK),Inv X pins σ H s->zU x v->zU y u->t x y H Q->
  wpAny (model X.prog X.w) X.A (inplaceOp op v u) (EP X pins σ Q) X.xe s
section
variable {X:Cx} {pos:Pos}
def xD(i:Nat):TG:=fun v σ H Q=>Q (σ.set i (some v)) H
theorem zA{i:Nat}{x:Str}(hN:X.N.Nodup)(hi:X.N[i]? =some x)(hx:Loc X.env.scope x)(hf:X.fn x=true\/X.env.scope.names.lookup x=some .local:=by first|exact .inl rfl|exact .inr rfl|assumption):PG X (.Name x pos) (xD i):=by
 intro pins s σ H v u Q I r h
 exact wpAny_assign_Name (oX I hN hi hx r (fun s' I'=>⟨_,H,I',h⟩) hf)
def qPz:TGs:=fun vs σ H Q=>vs=[]/\Q σ H
inductive aR(t:TG)(u:TGs)(vs:List V)(σ:St)(H:Hp)(Q:St->Hp->Prop):Prop
 |mk (v:_) (r:_) (a_0:vs=v::r) (a_1:t v σ H fun σ' H'=>u r σ' H' Q):aR t u vs σ H Q
def gP(t:TG)(u:TGs):TGs:=fun vs σ H Q=>aR t u vs σ H Q
theorem vJ:PGs X [] qPz:=by
 intro pins s σ H vs us Q I r h
 obtain⟨e,h⟩:=h
 subst e
 cases r
 exact assignInOrder_nil ⟨σ,H,I,h⟩
theorem jL{e:Expr}{es:List Expr}{t:TG}{u:TGs}(h1:PG X e t)(h2:PGs X es u)
  (hs:(assignEach (e::es) X.env).map (·.2)=assign e X.env::(assignEach es X.env).map (·.2):=by rfl):PGs X (e::es) (gP t u):=by
 intro pins s σ H vs us Q I r h
 obtain⟨v,vr,e1,h⟩:=h
 subst e1
 cases r with
 |cons r rr=>
  rw[hs]
  refine assignInOrder_cons (thn (h1 pins s σ H _ _ _ I r h) fun _ s1⟨σ1,H1,I1,q1⟩=>?_)
  exact h2 pins s1 σ1 H1 _ _ Q I1 rr q1
inductive qN3(K:Fg)(n:Nat)(t:TGs)(v:V)(σ:St)(H:Hp)(Q:St->Hp->Prop):Prop
 |mk (a:_) (xs:_) (a_0:v= .ref a) (a_1:zO K H a xs) (a_2:xs.length=n) (a_3:t xs σ H Q):qN3 K n t v σ H Q
def qPj(K:Fg)(n:Nat)(t:TGs):TG:=fun v σ H Q=>qN3 K n t v σ H Q
theorem wO{es:List Expr}{k:Nat}{t:TGs}{n:Nat}(hc:X.calm=true)(h:PGs X es t)
  (hn:(assignEach es X.env).length=n:=by rfl)(hst:(assignEach es X.env).findIdx? (·.1)=none:=by rfl):PG X (.Tuple es k pos) (qPj X.K n t):=by
 intro pins s σ H v u Q I r hw
 obtain⟨a,xs,e1,hq,hl,hw⟩:=hw
 subst e1
 cases r
 obtain⟨its,rv,ht,hz⟩:=I.tuple hq
 refine assign_Tuple_tuple (I.ok.hd hc) ht (by simp[hn,<-hl,rv.length]) hst fun h' hx=>?_
 have I1:Inv X pins σ H {s with heap:=h'}:=I.kept (t':=s.toks) fun b o e=>hx b o (aq9 (aq8 e)) e
 exact h pins _ σ H xs _ Q I1 (by simpa using rv) hw
def cS(te:TE)(g:TG):TS:=fun D σ H=>te σ H fun x H1=>g x σ H1 D.nx
theorem bP{tg e:Expr}{te:TE}{g:TG}(he:PE X e te)(hg:PG X tg g)(hs:swapsWithSole [tg] e pos.line X.env=pure false:=by rfl)(hw:swappedStores [tg] e X.env=pure none:=by rfl)
  (h1:(assignEach [tg] X.env).map (·.2)=[assign tg X.env]:=by rfl):PS X (.Assign [tg] e pos) (cS te g):=by
 intro pins s σ H D I h
 refine wpAny_Assign_stores (thn (he pins s σ H _ I h) fun v s1⟨x,H1,I1,r1,q1⟩=>?_) hs hw
 rw[h1]
 exact thn (hg pins s1 σ H1 x v _ I1 r1 q1) fun _ s2 q=>q
theorem qB{i:Nat}{x:Str}{e:Expr}{te:TE}{pos':Pos}(hN:X.N.Nodup)(hi:X.N[i]? =some x)(hx:Loc X.env.scope x)(he:PE X e te)(hs:swapsWith e (some (.Name x pos')) pos.line X.env=pure false:=by rfl)(hf:X.fn x=true\/X.env.scope.names.lookup x=some .local:=by first|exact .inl rfl|exact .inr rfl|assumption):
  PS X (.Assign [.Name x pos'] e pos) (cS te (xD i)):=by
 intro pins s σ H D I h
 refine wpAny_Assign_Name (thn (he pins s σ H _ I h) fun v s1⟨y,H1,I1,r1,q1⟩=>?_) hs
 exact oX I1 hN hi hx r1 (fun s2 I2=>⟨_,H1,I2,q1⟩) hf
inductive qN4(i:Nat)(te:TE)(ti:TIp)(N_:St->Hp->Prop)(σ:St)(H:Hp):Prop
 |mk (x:_) (a_0:σ[i]? =some (some x)) (a_1:te σ H fun y H1=>ti x y H1 fun z H2=>N_ (σ.set i (some z)) H2):qN4 i te ti N_ σ H
def zI7(i:Nat)(te:TE)(ti:TIp):TS:=fun D σ H=>qN4 i te ti D.nx σ H
theorem aS{i:Nat}{x:Str}{e:Expr}{te:TE}{op:Operator}{ti:TIp}{pos':Pos}(hN:X.N.Nodup)(hi:X.N[i]? =some x)(hx:Loc X.env.scope x)(he:PE X e te)(ho:PIp X op ti)(hf:X.fn x=true\/X.env.scope.names.lookup x=some .local:=by first|exact .inl rfl|exact .inr rfl|assumption):
  PS X (.AugAssign (.Name x pos') op e pos) (zI7 i te ti):=by
 intro pins s σ H D I h
 obtain⟨v,e1,h⟩:=h
 obtain⟨m,hn,hl⟩:=I.loc
 have vis:Vis X.env.scope x:=by rcases hx with k|k;exact .inl k;exact .inr (.inl k)
 obtain⟨u,r,l⟩:=hl i x v hi e1 vis
 refine wpAny_AugAssign_Name ?_
 have go:wpAny (model X.prog X.w) X.A (eval e X.env) (fun w s₂=>wpAny (model X.prog X.w) X.A (inplaceOp op u w) (fun r s₃=>wpAny (model X.prog X.w) X.A (storeName X.env x r) (fun _=>SP X pins D .next) X.xe s₃) X.xe s₂) X.xe s:=by
  refine thn (he pins s σ H _ I h) fun w s1⟨y,H1,I1,r1,q1⟩=>?_
  refine thn (ho pins s1 σ H1 v y u w _ I1 r r1 q1) fun z s2⟨zv,H2,I2,r2,q2⟩=>?_
  exact oX I2 hN hi hx r2 (fun s3 I3=>⟨_,H2,I3,q2⟩) hf
 rcases l with⟨hk,hm⟩|⟨hk,c,hc,hcell⟩
 ·exact wpAny_loadName_local I.ok.kind hk hn hm go
 ·rcases hk with hk|hk
  ·exact wpAny_loadName_cell I.ok.kind hk hc hcell go
  ·rcases hx with k|k
   ·have :X.env.scope.names.lookup x=some .free:=hk
    rw[k]at this;cases this
   ·have :X.env.scope.names.lookup x=some .free:=hk
    rw[k]at this;cases this
def ipI(f:Int->Int->Int):TIp:=fun x y H Q=>∃i j,x= .int i/\y= .int j/\Q (.int (f i j)) H
theorem aT:PIp X .Sub (ipI fun i j=>i-j):=by
 intro pins s σ H x y v u Q I r1 r2 h
 obtain⟨i,j,e1,e2,q⟩:=h
 subst e1;subst e2
 obtain⟨t,rfl⟩:=r1
 obtain⟨t',rfl⟩:=r2
 exact isub_int ⟨.int _,H,I.tok _,⟨_,rfl⟩,q⟩
end
section
variable {X:Cx} {pos:Pos}
def qR0(c:TT)(tb:TS):TS:=fun D σ H=>∃W:Nat->St->Hp->Prop,(∃m,W m σ H)/\∀m σ H,W m σ H->
 c σ H fun b H1=>if b=true then∃N:St->Hp->Prop,(∀σ' H',N σ' H'->∃m',m'<m/\W m' σ' H')/\tb {D with nx:=N,ct:=N,bk:=D.nx} σ H1 else D.nx σ H1
theorem wS{c:Expr}{body:List Stmt}{tc:TT}{tb:TS}(hp:PassesOwn (model X.prog X.w) X.A X.env X.xe)(hc:PT X c tc)(hb:PSs X body tb):PS X (.While c body [] pos) (qR0 tc tb):=by
 intro pins s σ H D I h
 obtain⟨W,⟨m0,w0⟩,turn⟩:=h
 refine wpAny_While (codeAny_whileLoop (fun n s'=>∃σ' H',Inv X pins σ' H' s'/\W n σ' H') ?_ m0 ⟨σ,H,I,w0⟩)
 rintro n s1 ⟨σ1,H1,I1,w1⟩
 refine wpAny_passesOwn hp (thn (hc pins s1 σ1 H1 _ I1 (turn n σ1 H1 w1)) fun b s2⟨H2,I2,q2⟩=>?_)
 cases b with
 |true=>
  obtain⟨N,hN,q2⟩:=q2
  rw[if_pos rfl]
  refine wpAny_passesOwn hp (thn (hb pins s2 σ1 H2 _ I2 q2) fun f s3 q3=>?_)
  cases f with
  |next=>
   obtain⟨σ3,H3,I3,n3⟩:=q3
   obtain⟨m',hm,w3⟩:=hN σ3 H3 n3
   exact⟨m',hm,σ3,H3,I3,w3⟩
  |cont=>
   obtain⟨σ3,H3,I3,n3⟩:=q3
   obtain⟨m',hm,w3⟩:=hN σ3 H3 n3
   exact⟨m',hm,σ3,H3,I3,w3⟩
  |brk=>exact q3
  |ret v=>exact q3
 |false=>
  rw[if_neg Bool.false_ne_true]
  exact wpAny_execs_nil ⟨σ1,H2,I2,q2⟩
end
structure It where
 go:Nat->Hp->Prop
 yld:Nat->Hp->V->Hp->Prop
 stop:Nat->Hp->Prop
def vL(X:Cx)(pins:List (Addr×Obj))(H:Hp)(b:Addr):Prop:=
 H b=none/\b≠X.env.locals/\b∉X.fs/\(b∈X.ex\/X.s₀.heap.objs.size<=b)/\(∀x c,X.env.cells.lookup x=some c->c≠b)/\∀p∈X.pn++pins,p.1≠b
theorem Inv.fpOk{X:Cx}{pins:List (Addr×Obj)}{σ:St}{H H':Hp}{s:Shared}{b:Addr}(I:Inv X pins σ H s)(hb:s.heap.objs.size<=b)(hn:H' b=none):vL X pins H' b:=by
 refine⟨hn,Nat.ne_of_gt (Nat.lt_of_lt_of_le I.lt hb),I.nofs hb,.inr (Nat.le_trans I.sz hb),fun x c e z=>?_,fun p hp z=>?_⟩
 ·obtain⟨v,q⟩:=I.cell x c e
  exact absurd (Nat.lt_of_lt_of_le q.lt (by rw[z];exact hb)) (Nat.lt_irrefl _)
 ·exact absurd (Nat.lt_of_lt_of_le (aq8 (I.pin p hp).1) (by rw[z];exact hb)) (Nat.lt_irrefl _)
structure Turn(P:Program)(w:World)(K:Fg)(tg:Expr)(J:It)(fp:List Addr)(it:Addr)(tn:Nat->Heap->Prop):Prop where
 mem:it∈fp
 obj:∀i h,tn i h->∀b∈fp,∃o,h.get? b=some o/\∀v,o.data≠ .cell v
 keep:∀i h h',tn i h->(∀b∈fp,∀o,h.get? b=some o->h'.get? b=some o)->tn i h'
 item:∀(X:Cx),X.prog=P->X.w=w->X.K=K->X.calm=true->∀(i:Nat)(pins:List (Addr×Obj))(s:Shared)(σ:St)(H:Hp)(E:Value->Shared->Prop),Inv X pins σ H s->(∀b∈fp,vL X pins H b)->tn i s.heap->J.go i H->
  wpAny (model P w) X.A (pyNext (.ref it)) (fun r s1=>∃u,r=some u/\
   wpAny (model P w) X.A (letOwnedTupleGo tg (.ref it) u) (fun _ s2=>∃x H',Inv X pins σ H' s2/\zU x u/\J.yld i H x H'/\tn (i+1) s2.heap/\∀b∈fp,H' b=none) E s1) E s
 done:∀(X:Cx),X.prog=P->X.w=w->X.K=K->X.calm=true->∀(i:Nat)(pins:List (Addr×Obj))(s:Shared)(σ:St)(H:Hp)(E:Value->Shared->Prop),Inv X pins σ H s->(∀b∈fp,vL X pins H b)->tn i s.heap->J.stop i H->
  wpAny (model P w) X.A (pyNext (.ref it)) (fun r s1=>r=none/\Inv X pins σ H s1) E s
 self:∀(A:Around)(i:Nat)(s:Shared)(Q:Value->Shared->Prop)(E:Value->Shared->Prop),tn i s.heap->Q (.ref it) s->wpAny (model P w) A (pyIter (.ref it)) Q E s
abbrev TI:=St->Hp->(It->Hp->Prop)->Prop
inductive PIE(X:Cx)(pins:List (Addr×Obj))(σ:St)(tg:Expr)(R:It->Hp->Prop)(itv:Value)(s2:Shared):Prop
 |mk (it:Addr) (fp:List Addr) (tn:Nat->Heap->Prop) (J:It) (H':Hp) (a_0:itv= .ref it) (a_1:Inv X pins σ H' s2) (a_2:Turn X.prog X.w X.K tg J fp it tn) (a_3:tn 0 s2.heap) (a_4:∀b∈fp,vL X pins H' b) (a_5:R J H'):PIE X pins σ tg R itv s2
def PI(X:Cx)(tg iter:Expr)(wi:TI):Prop:=
 ∀(pins:List (Addr×Obj))(s:Shared)(σ:St)(H:Hp)(R:It->Hp->Prop),Inv X pins σ H s->wi σ H R->
  wpAny (model X.prog X.w) X.A (eval iter X.env) (fun v s1=>wpAny (model X.prog X.w) X.A (pyIter v) (PIE X pins σ tg R) X.xe s1) X.xe s
theorem aA{M:Model}{A:Around}{E:Value->Shared->Prop}{s:Shared}{tg:Expr}{it:Addr}{u:Value}{o:Obj}{n:String}{vs:Array Value}{Q:Unit->Shared->Prop}(ho:s.heap.get? it=some o)(hc:o.cls= .type n)(hd:o.data= .fields vs)
  (hn:["enumerate","zip","dict_itemiterator","dict_reverseitemiterator","odict_iterator","itertools.zip_longest","itertools.pairwise"].contains n=false)(hQ:Q () s):wpAny M A (letOwnedTupleGo tg (.ref it) u) Q E s:=by
 unfold letOwnedTupleGo
 cases tg<;>first
  |exact wpAny_pure hQ
  |(cases u<;>first
    |exact wpAny_pure hQ
    |(refine wpAny_bind (wpAny_load ho ?_)
      rw[hc,hd]
      show wpAny M A (if(["enumerate","zip","dict_itemiterator","dict_reverseitemiterator","odict_iterator","itertools.zip_longest","itertools.pairwise"].contains n&&vs[0]? ==some (rawInt _))=true then _ else _) Q E s
      rw[if_neg (by intro h;rw[hn,Bool.false_and]at h;cases h)]
      exact wpAny_pure hQ))
def Itl(K:Fg)(a:Addr):It:=
 ⟨fun i H=>∃xs x,zH K H a xs/\xs[i]? =some x,fun i H x H'=>H'=H/\∀xs,zH K H a xs->xs[i]? =some x,fun i H=>∃xs,zH K H a xs/\xs.length<=i⟩
def Itt(K:Fg)(a:Addr):It:=
 ⟨fun i H=>∃xs x,zO K H a xs/\xs[i]? =some x,fun i H x H'=>H'=H/\∀xs,zO K H a xs->xs[i]? =some x,fun i H=>∃xs,zO K H a xs/\xs.length<=i⟩
def Itr(lo:Int)(n:Nat):It:=⟨fun i _=>i<n,fun i H x H'=>H'=H/\x= .int (lo+i),fun i _=>n<=i⟩
theorem sR{P:Program}{w:World}{K:Fg}{tg:Expr}(a it:Addr):Turn P w K tg (Itl K a) [it] it (fun i h=>h.IsListIter it a i)where
 mem:=by simp
 obj:=fun i h st b hb=>by
  have e:b=it:=by simpa using hb
  subst e
  obtain⟨o,e,c,d⟩:=st
  exact⟨o,e,fun v z=>by rw[d]at z;cases z⟩
 keep:=fun i h h' st k=>st.at fun o e=>k it (by simp) o e
 item:=by
  intro X hP hw hK hc i pins s σ H E I hf st hg
  subst hP hw hK
  obtain⟨xs,x,hq,hx⟩:=hg
  obtain⟨its,rv,p,hz⟩:=I.list hq
  obtain⟨u,hu,ru⟩:=rv.get hx
  obtain⟨f0,f1,f2,f3,f4,f5⟩:=hf it (by simp)
  refine wpAny_pyNext_list_item st p.isList (x:=u) (by simpa using hu) fun h' st' sb=>?_
  have I1:Inv X pins σ H {s with heap:=h'}:=I.turned (t':=s.toks) (fun b o hb e=>(sb.2 b hb).trans e) f0 f1 f3 f4 f5
  obtain⟨o,e,c,d⟩:=id st'
  exact⟨u,rfl,aA (s:={s with heap:=h'}) e c d (by decide) ⟨x,H,I1,ru,⟨rfl,fun ys hy=>by rw[I.list_inj hy hq];exact hx⟩,st',fun b hb=>(hf b hb).1⟩⟩
 done:=by
  intro X hP hw hK hc i pins s σ H E I hf st hg
  subst hP hw hK
  obtain⟨xs,hq,hx⟩:=hg
  obtain⟨its,rv,p,hz⟩:=I.list hq
  obtain⟨f0,f1,f2,f3,f4,f5⟩:=hf it (by simp)
  have hl:=rv.length
  exact wpAny_pyNext_list_end (I.ok.hd hc) st p.isList (by simp;omega) fun h' eb=>⟨rfl,I.turned (t':=s.toks) (fun b o hb e=>eb b o hb e) f0 f1 f3 f4 f5⟩
 self:=fun _ _ _ _ _ st h=>wpAny_pyIter_listiter st h
theorem bA{P:Program}{w:World}{K:Fg}{tg:Expr}(a it:Addr):Turn P w K tg (Itt K a) [it] it (fun i h=>h.IsTupleIter it a i)where
 mem:=by simp
 obj:=fun i h st b hb=>by
  have e:b=it:=by simpa using hb
  subst e
  obtain⟨o,e,c,d⟩:=st
  exact⟨o,e,fun v z=>by rw[d]at z;cases z⟩
 keep:=fun i h h' st k=>st.at fun o e=>k it (by simp) o e
 item:=by
  intro X hP hw hK hc i pins s σ H E I hf st hg
  subst hP hw hK
  obtain⟨xs,x,hq,hx⟩:=hg
  obtain⟨its,rv,p,hz⟩:=I.tuple hq
  obtain⟨u,hu,ru⟩:=rv.get hx
  obtain⟨f0,f1,f2,f3,f4,f5⟩:=hf it (by simp)
  refine wpAny_pyNext_tuple_item st (show s.heap.IsTuple a its.toArray from p) (x:=u) (by simpa using hu) fun h' st' sb=>?_
  have I1:Inv X pins σ H {s with heap:=h'}:=I.turned (t':=s.toks) (fun b o hb e=>(sb.2 b hb).trans e) f0 f1 f3 f4 f5
  obtain⟨o,e,c,d⟩:=id st'
  exact⟨u,rfl,aA (s:={s with heap:=h'}) e c d (by decide) ⟨x,H,I1,ru,⟨rfl,fun ys hy=>by rw[I.tuple_inj hy hq];exact hx⟩,st',fun b hb=>(hf b hb).1⟩⟩
 done:=by
  intro X hP hw hK hc i pins s σ H E I hf st hg
  subst hP hw hK
  obtain⟨xs,hq,hx⟩:=hg
  obtain⟨its,rv,p,hz⟩:=I.tuple hq
  obtain⟨f0,f1,f2,f3,f4,f5⟩:=hf it (by simp)
  have hl:=rv.length
  exact wpAny_pyNext_tuple_end (I.ok.hd hc) st (show s.heap.IsTuple a its.toArray from p) (by simp;omega) fun h' eb=>⟨rfl,I.turned (t':=s.toks) (fun b o hb e=>eb b o hb e) f0 f1 f3 f4 f5⟩
 self:=fun _ _ _ _ _ st h=>wpAny_pyIter_tupleiter st h
theorem bE{P:Program}{w:World}{K:Fg}{tg:Expr}(it:Addr)(lo:Int)(n:Nat):Turn P w K tg (Itr lo n) [it] it (fun i h=>IsRangeIter h it (lo+(i:Nat)*1) ((n:Int)-(i:Nat)) 1)where
 mem:=by simp
 obj:=fun i h st b hb=>by
  have e:b=it:=by simpa using hb
  subst e
  exact⟨_,st,fun v z=>by
   have z':Data.fields _=Data.cell v:=z
   cases z'⟩
 keep:=fun i h h' st k=>k it (by simp) _ st
 item:=by
  intro X hP hw hK hc i pins s σ H E I hf st hg
  subst hP hw hK
  obtain⟨f0,f1,f2,f3,f4,f5⟩:=hf it (by simp)
  have W:=Walks.range (prog:=X.prog) (w:=X.w) (I.ok.hd hc) it lo 1 n
  refine W.item i s _ _ hg st fun v h' tk hv st' kk=>?_
  obtain⟨t,rfl⟩:=hv
  have I1:Inv X pins σ H {s with heap:=h',toks:=tk}:=I.turned (fun b o hb e=>kk b o (by simpa using hb) e) f0 f1 f3 f4 f5
  refine⟨_,rfl,aA (s:={s with heap:=h',toks:=tk}) (n:="range_iterator") st' rfl rfl (by decide) ⟨.int (lo+i),H,I1,⟨t,?_⟩,⟨rfl,rfl⟩,st',fun b hb=>(hf b hb).1⟩⟩
  rw[Int.mul_one]
 done:=by
  intro X hP hw hK hc i pins s σ H E I hf st hg
  subst hP hw hK
  obtain⟨f0,f1,f2,f3,f4,f5⟩:=hf it (by simp)
  exact wpAny_pyNext_range_end (I.ok.hd hc) st (by have :n<=i:=hg;omega) fun h' eb=>⟨rfl,I.turned (t':=s.toks) (fun b o hb e=>eb b o hb e) f0 f1 f3 f4 f5⟩
 self:=fun _ _ _ _ _ st h=>wpAny_pyIter_rangeiter st h
section
variable {X:Cx} {tg:Expr}
def zK3(K:Fg)(tl:TE):TI:=fun σ H R=>tl σ H fun x H1=>∃a,x= .ref a/\(∃xs,zH K H1 a xs)/\R (Itl K a) H1
def zI8(K:Fg)(tl:TE):TI:=fun σ H R=>tl σ H fun x H1=>∃a,x= .ref a/\(∃xs,zO K H1 a xs)/\R (Itt K a) H1
theorem cT{l:Expr}{tl:TE}(hl:PE X l tl):PI X tg l (zK3 X.K tl):=by
 intro pins s σ H R I h
 refine thn (hl pins s σ H _ I h) fun v s1⟨x,H1,I1,r1,q1⟩=>?_
 obtain⟨a,e,⟨xs,hq⟩,q⟩:=q1
 subst e
 cases r1
 obtain⟨its,rv,p,hz⟩:=I1.list hq
 refine wpAny_pyIter_list p.isList ?_
 refine⟨s1.heap.objs.size,[s1.heap.objs.size],_,_,H1,rfl,I1.kept (t':=s1.toks) fun b o e=>Heap.get?_push_of_some _ e,sR a _,⟨_,Heap.get?_push_size _ rfl,rfl,rfl⟩,fun b hb=>?_,q⟩
 have e:b=s1.heap.objs.size:=by simpa using hb
 subst e
 exact I1.fpOk (aq7 _) (I1.hok.fresh (aq7 _))
theorem qR1{l:Expr}{tl:TE}(hl:PE X l tl):PI X tg l (zI8 X.K tl):=by
 intro pins s σ H R I h
 refine thn (hl pins s σ H _ I h) fun v s1⟨x,H1,I1,r1,q1⟩=>?_
 obtain⟨a,e,⟨xs,hq⟩,q⟩:=q1
 subst e
 cases r1
 obtain⟨its,rv,p,hz⟩:=I1.tuple hq
 refine wpAny_pyIter_tuple (show s1.heap.IsTuple a its.toArray from p) ?_
 refine⟨s1.heap.objs.size,[s1.heap.objs.size],_,_,H1,rfl,I1.kept (t':=s1.toks) fun b o e=>Heap.get?_push_of_some _ e,bA a _,⟨_,Heap.get?_push_size _ rfl,rfl,rfl⟩,fun b hb=>?_,q⟩
 have e:b=s1.heap.objs.size:=by simpa using hb
 subst e
 exact I1.fpOk (aq7 _) (I1.hok.fresh (aq7 _))
theorem aE{pins:List (Addr×Obj)}{σ:St}{H:Hp}{s:Shared}{R:It->Hp->Prop}{E:Value->Shared->Prop}{lo hi:Int}{t u v:Tok}{tk:Nat}(I:Inv X pins σ H s)(h1: -(2^62)<=lo)(h2:lo<2^62)(h3: -(2^62)<=hi)(h4:hi<2^62)
  (q:R (Itr lo (hi-lo).toNat) H):wpAny (model X.prog X.w) X.A (pyIter (.ref s.heap.objs.size)) (PIE X pins σ tg R) E {s with heap:=s.heap.push {cls:=.type "range",data:=.fields #[.int lo t,.int hi u,.int 1 v]},toks:=tk}:=by
 refine wpAny_pyIter_range (IsRange.new ..) (small_one h1 h2 h3 h4) ?_
 have I1:Inv X pins σ H {s with heap:=s.heap.push {cls:=.type "range",data:=.fields #[.int lo t,.int hi u,.int 1 v]},toks:=tk}:=I.kept fun b o e=>Heap.get?_push_of_some _ e
 refine⟨(s.heap.push {cls:=.type "range",data:=.fields #[.int lo t,.int hi u,.int 1 v]}).objs.size,[(s.heap.push {cls:=.type "range",data:=.fields #[.int lo t,.int hi u,.int 1 v]}).objs.size],_,_,H,rfl,
  I1.kept (t':=tk) fun b o e=>Heap.get?_push_of_some _ e,bE _ lo (hi-lo).toNat,?_,fun b hb=>?_,q⟩
 ·have e1:lo+((0:Nat):Int)*1=lo:=by simp
  have e2:(((hi-lo).toNat:Nat):Int)-((0:Nat):Int)=Builtin.Range.rangeSize lo hi 1:=by rw[rangeSize_one];split<;>omega
  show IsRangeIter _ _ (lo+((0:Nat):Int)*1) ((((hi-lo).toNat:Nat):Int)-((0:Nat):Int)) 1
  rw[e1,e2]
  exact Heap.get?_push_size _ rfl
 ·have e:b=(s.heap.push {cls:=.type "range",data:=.fields #[.int lo t,.int hi u,.int 1 v]}).objs.size:=by simpa using hb
  subst e
  exact I1.fpOk (aq7 _) (I1.hok.fresh (aq7 _))
def zK4(ta:TA):TI:=fun σ H R=>ta σ H fun vs H1=>∃j:Int,vs=[.int j]/\ -(2^62)<=j/\j<2^62/\R (Itr 0 j.toNat) H1
theorem iD{a:Expr}{ta:TA}{p pos:Pos}(hg:Gl X "range")(hm:X.mg "range"=none)(ha:PA X [a] ta)(hs:starEach [a] X.env=[(false,eval a X.env)]:=by rfl):PI X tg (.Call (.Name "range" p) [a] [] pos) (zK4 ta):=by
 intro pins s σ H R I h
 refine Call_ (vZ I hg hm boot_range (PyProof.Rows.callWith_type1 (thn (ha pos pins s σ H _ I h) fun us s1⟨vs,H1,I1,r1,q1⟩=>?_) hs rfl))
 obtain⟨j,e,q1,q2,q⟩:=q1
 subst e
 cases r1 with
 |cons r rr=>
  cases rr
  obtain⟨t,rfl⟩:=r
  exact call_range_1 (aE I1 (by omega) (by omega) q1 q2 (by simpa using q))
def zI9(wi:TI)(g:TG)(tb:TS):TS:=fun D σ H=>wi σ H fun J H1=>∃W:Nat->Nat->St->Hp->Prop,(∃m,W 0 m σ H1)/\∀i m σ H,W i m σ H->
 (J.stop i H/\D.nx σ H)\/(J.go i H/\∃N:St->Hp->Prop,(∀σ' H',N σ' H'->∃m',m'<m/\W (i+1) m' σ' H')/\∀x H',J.yld i H x H'->g x σ H' fun σ2 H2=>tb {D with nx:=N,ct:=N,bk:=D.nx} σ2 H2)
def yR(fp:List Addr)(h:Heap):List (Addr×Obj):=fp.filterMap fun b=>(h.get? b).map fun o=>(b,o)
theorem xG{fp:List Addr}{h:Heap}{b:Addr}{o:Obj}(hb:b∈fp)(e:h.get? b=some o):(b,o)∈yR fp h:=List.mem_filterMap.mpr ⟨b,hb,by rw[e];rfl⟩
theorem sS{fp:List Addr}{h:Heap}{p:Addr×Obj}(hp:p∈yR fp h):p.1∈fp/\h.get? p.1=some p.2:=by
 obtain⟨b,hb,e⟩:=List.mem_filterMap.mp hp
 cases q:h.get? b with
 |none=>rw[q]at e;cases e
 |some o=>
  rw[q]at e
  have e':(b,o)=p:=Option.some.inj e
  subst e'
  exact⟨hb,q⟩
theorem Inv.pinned{pins:List (Addr×Obj)}{σ:St}{H:Hp}{s:Shared}{fp:List Addr}(I:Inv X pins σ H s)(hf:∀b∈fp,vL X pins H b)(ho:∀b∈fp,∃o,s.heap.get? b=some o/\∀v,o.data≠ .cell v):Inv X (pins++yR fp s.heap) σ H s:=
 I.pins_of fun p hp=>(List.mem_append.mp hp).elim (fun z=>I.pin p (aq11 _ z)) fun z=>by
  obtain⟨hb,e⟩:=sS z
  obtain⟨f0,f1,f2,_⟩:=hf p.1 hb
  obtain⟨o,e',d⟩:=ho p.1 hb
  rw[e]at e';cases e'
  exact⟨e,f0,f1,f2,d⟩
theorem Inv.unpinned{pins pl:List (Addr×Obj)}{σ:St}{H:Hp}{s:Shared}(I:Inv X (pins++pl) σ H s):Inv X pins σ H s:=I.pins_of fun p hp=>I.pin p (aq11 _ (List.mem_append_left _ hp))
theorem yS{iter:Expr}{body:List Stmt}{wi:TI}{g:TG}{tb:TS}{pos:Pos}(hp:PassesOwn (model X.prog X.w) X.A X.env X.xe)(hc:X.calm=true)(hi:PI X tg iter wi)(hg:PG X tg g)(hb:PSs X body tb)
  (hs:∀x,foldedSetIterable iter X.env x=pure x:=by intro _;rfl):PS X (.For tg iter body [] pos) (zI9 wi g tb):=by
 intro pins s σ H D I h
 refine wpAny_For (thn (hi pins s σ H _ I h) fun v s1 h1=>thn h1 fun itv s2 h2=>?_) hs
 obtain⟨it,fp,tn,J,H2,e,I2,T,st2,f2,W,⟨m0,w0⟩,turn⟩:=h2
 subst e
 have stat:∀{H':Hp},(∀b∈fp,H' b=none)->∀b∈fp,vL X pins H' b:=fun hn b hb=>⟨hn b hb,(f2 b hb).2⟩
 refine codeAny_forLoop_any (fun n s'=>∃i σ' H',Inv X pins σ' H' s'/\tn i s'.heap/\(∀b∈fp,H' b=none)/\W i n σ' H') ?_ m0 ⟨0,σ,H2,I2,st2,fun b hb=>(f2 b hb).1,w0⟩
 rintro n s3 ⟨i,σ3,H3,I3,st3,fr3,w3⟩
 rcases turn i n σ3 H3 w3 with⟨stop,qn⟩|⟨go,N,hN,step⟩
 ·refine wpAny_passesOwn hp (thn (T.done X rfl rfl rfl hc i pins s3 σ3 H3 X.xe I3 (stat fr3) st3 stop) fun r s4⟨hr,I4⟩=>?_)
  subst hr
  exact wpAny_execs_nil ⟨σ3,H3,I4,qn⟩
 ·refine wpAny_passesOwn hp (thn (T.item X rfl rfl rfl hc i pins s3 σ3 H3 X.xe I3 (stat fr3) st3 go) fun r s4⟨u,hr,h4⟩=>?_)
  subst hr
  refine wpAny_passesOwn hp (thn h4 fun _ s5⟨x,H5,I5,r5,y5,st5,fr5⟩=>?_)
  have I5':=I5.pinned (stat fr5) (T.obj _ _ st5)
  refine wpAny_passesOwn hp (thn (hg _ s5 σ3 H5 x u _ I5' r5 (step x H5 y5)) fun _ s6⟨σ6,H6,I6,q6⟩=>?_)
  refine wpAny_passesOwn hp (thn (hb _ s6 σ6 H6 _ I6 q6) fun f s7 q7=>?_)
  have again:∀{σ7:St}{H7:Hp},Inv X (pins++yR fp s5.heap) σ7 H7 s7->N σ7 H7->∃m,m<n/\∃i σ' H',Inv X pins σ' H' s7/\tn i s7.heap/\(∀b∈fp,H' b=none)/\W i m σ' H':=fun {σ7 H7}I7 n7=>by
   obtain⟨m',hm,w7⟩:=hN σ7 H7 n7
   refine⟨m',hm,i+1,σ7,H7,I7.unpinned,T.keep _ _ _ st5 fun b hb o e=>(I7.pin (b,o) (aq11 _ (aq11 _ (xG hb e)))).1,fun b hb=>?_,w7⟩
   obtain⟨o,e,d⟩:=T.obj _ _ st5 b hb
   exact(I7.pin (b,o) (aq11 _ (aq11 _ (xG hb e)))).2.1
  cases f with
  |next=>obtain⟨σ7,H7,I7,n7⟩:=q7;exact again I7 n7
  |cont=>obtain⟨σ7,H7,I7,n7⟩:=q7;exact again I7 n7
  |brk=>obtain⟨σ7,H7,I7,q7⟩:=q7;exact⟨σ7,H7,I7.unpinned,q7⟩
  |ret v=>obtain⟨x7,σ7,H7,I7,r7,q7⟩:=q7;exact⟨x7,σ7,H7,I7.unpinned,r7,q7⟩
end
theorem eQ{K:Fg}{a:Addr}{xs:List V}{g:TG}{tb:TS}{D:Ends}{σ:St}{H:Hp}(Pv:Nat->St->Hp->Prop)(h0:Pv 0 σ H)(hl:∀i σ H,i<=xs.length->Pv i σ H->zH K H a xs)
  (hs:∀i x σ H,xs[i]? =some x->Pv i σ H->g x σ H fun σ2 H2=>tb {D with nx:=Pv (i+1),ct:=Pv (i+1),bk:=D.nx} σ2 H2)(hd:∀σ H,Pv xs.length σ H->D.nx σ H):
  ∃W:Nat->Nat->St->Hp->Prop,(∃m,W 0 m σ H)/\∀i m σ H,W i m σ H->
   ((Itl K a).stop i H/\D.nx σ H)\/((Itl K a).go i H/\∃N:St->Hp->Prop,(∀σ' H',N σ' H'->∃m',m'<m/\W (i+1) m' σ' H')/\∀x H',(Itl K a).yld i H x H'->g x σ H' fun σ2 H2=>tb {D with nx:=N,ct:=N,bk:=D.nx} σ2 H2):=by
 refine⟨fun i m σ H=>m=xs.length-i/\i<=xs.length/\Pv i σ H,⟨xs.length,by simp,Nat.zero_le _,h0⟩,?_⟩
 rintro i m σ H ⟨rfl,hi,p⟩
 have q:=hl i σ H hi p
 by_cases hlt:i<xs.length
 ·refine .inr ⟨⟨xs,xs[i],q,by simp[hlt]⟩,Pv (i+1),fun σ' H' p'=>⟨xs.length-(i+1),by omega,rfl,hlt,p'⟩,fun x H' y=>?_⟩
  obtain⟨e,y⟩:=y
  subst e
  exact hs i x σ _ (y xs q) p
 ·have e:i=xs.length:=by omega
  subst e
  exact .inl ⟨⟨xs,q,aq7 _⟩,hd σ H p⟩
theorem iF{lo:Int}{n:Nat}{g:TG}{tb:TS}{D:Ends}{σ:St}{H:Hp}(Pv:Nat->St->Hp->Prop)(h0:Pv 0 σ H)
  (hs:∀i σ H,i<n->Pv i σ H->g (.int (lo+i)) σ H fun σ2 H2=>tb {D with nx:=Pv (i+1),ct:=Pv (i+1),bk:=D.nx} σ2 H2)(hd:∀σ H,Pv n σ H->D.nx σ H):
  ∃W:Nat->Nat->St->Hp->Prop,(∃m,W 0 m σ H)/\∀i m σ H,W i m σ H->
   ((Itr lo n).stop i H/\D.nx σ H)\/((Itr lo n).go i H/\∃N:St->Hp->Prop,(∀σ' H',N σ' H'->∃m',m'<m/\W (i+1) m' σ' H')/\∀x H',(Itr lo n).yld i H x H'->g x σ H' fun σ2 H2=>tb {D with nx:=N,ct:=N,bk:=D.nx} σ2 H2):=by
 refine⟨fun i m σ H=>m=n-i/\i<=n/\Pv i σ H,⟨n,by simp,Nat.zero_le _,h0⟩,?_⟩
 rintro i m σ H ⟨rfl,hi,p⟩
 by_cases hlt:i<n
 ·refine .inr ⟨hlt,Pv (i+1),fun σ' H' p'=>⟨n-(i+1),by omega,rfl,hlt,p'⟩,fun x H' y=>?_⟩
  obtain⟨e,y⟩:=y
  subst e y
  exact hs i σ _ hlt p
 ·have e:i=n:=by omega
  subst e
  exact .inl ⟨aq7 _,hd σ H p⟩
abbrev R2:=V->V->Hp->VK->Prop
def uO(X:Cx)(f:Value->Value->Sem Value)(r:R2):Prop:=
 ∀(pins:List (Addr×Obj))(s:Shared)(σ:St)(H:Hp)(x y:V)(v u:Value)(Q:VK),Inv X pins σ H s->zU x v->zU y u->r x y H Q->
  wpAny (model X.prog X.w) X.A (f v u) (EP X pins σ Q) X.xe s
def UnR(X:Cx)(f:Value->Sem Value)(r:V->Hp->VK->Prop):Prop:=
 ∀(pins:List (Addr×Obj))(s:Shared)(σ:St)(H:Hp)(x:V)(v:Value)(Q:VK),Inv X pins σ H s->zU x v->r x H Q->
  wpAny (model X.prog X.w) X.A (f v) (EP X pins σ Q) X.xe s
def kO(X:Cx)(f:Value)(r:List V->Hp->VK->Prop):Prop:=
 ∀(pins:List (Addr×Obj))(s:Shared)(σ:St)(H:Hp)(xs:List V)(us:List Value)(Q:VK),Inv X pins σ H s->Vals xs us->r xs H Q->
  wpAny (model X.prog X.w) X.A (call f us) (EP X pins σ Q) X.xe s
def zIz(X:Cx)(r:V->Hp->(Bool->Hp->Prop)->Prop):Prop:=
 ∀(pins:List (Addr×Obj))(s:Shared)(σ:St)(H:Hp)(x:V)(v:Value)(Q:Bool->Hp->Prop),Inv X pins σ H s->zU x v->r x H Q->
  wpAny (model X.prog X.w) X.A (truthy v) (TP X pins σ Q) X.xe s
def bC(r:R2)(ta tb:TE):TE:=fun σ H Q=>ta σ H fun x H1=>tb σ H1 fun y H2=>r x y H2 Q
def tUn(r:V->Hp->VK->Prop)(ta:TE):TE:=fun σ H Q=>ta σ H fun x H1=>r x H1 Q
inductive rI_(C:Int->Int->Prop)(g:Int->Int->V)(x:V)(y:V)(H:Hp)(Q:VK):Prop
 |mk (i:_) (j:_) (a_0:x= .int i) (a_1:y= .int j) (a_2:C i j) (a_3:Q (g i j) H):rI_ C g x y H Q
def rI(C:Int->Int->Prop)(g:Int->Int->V):R2:=fun x y H Q=>rI_ C g x y H Q
inductive zK5(g:Int->Int->V)(x:V)(y:V)(H:Hp)(Q:VK):Prop
 |mk (i:_) (j:_) (a_0:x= .int i) (a_1:y= .int j) (a_2:Q (g i j) H):zK5 g x y H Q
def sT(g:Int->Int->V):R2:=fun x y H Q=>zK5 g x y H Q
inductive rU_(g:Int->V)(x:V)(H:Hp)(Q:VK):Prop
 |mk (i:_) (a_0:x= .int i) (a_1:Q (g i) H):rU_ g x H Q
def rU(g:Int->V):V->Hp->VK->Prop:=fun x H Q=>rU_ g x H Q
section
variable {X:Cx} {a b c:Expr} {ta tb tc:TE} {pos:Pos}
theorem qR2(ha:PE X a ta)(hb:PE X b tb){pins:List (Addr×Obj)}{s:Shared}{σ:St}{H:Hp}{R:V->V->Hp->Prop}(I:Inv X pins σ H s)
  (h:ta σ H fun x H1=>tb σ H1 fun y H2=>R x y H2){Q:Value->Shared->Prop}{f:Value->Value->Sem Value}
  (hf:∀v u s2 x y H2,Inv X pins σ H2 s2->zU x v->zU y u->R x y H2->wpAny (model X.prog X.w) X.A (f v u) Q X.xe s2):
  wpAny (model X.prog X.w) X.A (eval a X.env) (fun v s₁=>wpAny (model X.prog X.w) X.A (eval b X.env) (fun u s₂=>wpAny (model X.prog X.w) X.A (f v u) Q X.xe s₂) X.xe s₁) X.xe s:=by
 refine thn (ha pins s σ H _ I h) fun v s1⟨x,H1,I1,r1,q1⟩=>?_
 refine thn (hb pins s1 σ H1 _ I1 q1) fun u s2⟨y,H2,I2,r2,q2⟩=>?_
 exact hf v u s2 x y H2 I2 r1 r2 q2
theorem zX{op:Operator}{r:R2}(ho:uO X (binaryOp op) r)(ha:PE X a ta)(hb:PE X b tb):PE X (.BinOp a op b pos) (bC r ta tb):=by
 intro pins s σ H Q I h
 exact wpAny_BinOp (qR2 ha hb I h fun v u s2 x y H2 I2 rx ry q=>ho pins s2 σ H2 x y v u Q I2 rx ry q)
theorem iH{op:UnaryOp}{r:V->Hp->VK->Prop}(ho:UnR X (unaryOp op) r)(ha:PE X a ta):PE X (.UnaryOp op a pos) (tUn r ta):=by
 intro pins s σ H Q I h
 exact UnaryOp_ (thn (ha pins s σ H _ I h) fun v s1⟨x,H1,I1,r1,q1⟩=>ho pins s1 σ H1 x v Q I1 r1 q1)
theorem opI{f:Value->Value->Sem Value}{C:Int->Int->Prop}{g:Int->Int->Int}
  (rule:∀(i j:Int)(t u:Tok)(s:Shared)(Q:Value->Shared->Prop)(E:Value->Shared->Prop),C i j->Q (.int (g i j) s.toks) {s with toks:=s.toks+1}->wpAny (model X.prog X.w) X.A (f (.int i t) (.int j u)) Q E s):
  uO X f (rI C fun i j=>.int (g i j)):=by
 intro pins s σ H x y v u Q I rx ry h
 obtain⟨i,j,rfl,rfl,hc,q⟩:=h
 obtain⟨t,rfl⟩:=rx
 obtain⟨t',rfl⟩:=ry
 exact rule i j t t' s _ _ hc ⟨.int (g i j),H,I.tok _,⟨_,rfl⟩,q⟩
theorem zK7{f:Value->Value->Sem Value}{g:Int->Int->Int}
  (rule:∀(i j:Int)(t u:Tok)(s:Shared)(Q:Value->Shared->Prop)(E:Value->Shared->Prop),Q (.int (g i j) s.toks) {s with toks:=s.toks+1}->wpAny (model X.prog X.w) X.A (f (.int i t) (.int j u)) Q E s):
  uO X f (sT fun i j=>.int (g i j)):=by
 intro pins s σ H x y v u Q I rx ry h
 obtain⟨i,j,rfl,rfl,q⟩:=h
 obtain⟨t,rfl⟩:=rx
 obtain⟨t',rfl⟩:=ry
 exact rule i j t t' s _ _ ⟨.int (g i j),H,I.tok _,⟨_,rfl⟩,q⟩
theorem qR3{f:Value->Value->Sem Value}{g:Int->Int->Bool}
  (rule:∀(i j:Int)(t u:Tok)(s:Shared)(Q:Value->Shared->Prop)(E:Value->Shared->Prop),Q (.bool (g i j)) s->wpAny (model X.prog X.w) X.A (f (.int i t) (.int j u)) Q E s):
  uO X f (sT fun i j=>.bl (g i j)):=by
 intro pins s σ H x y v u Q I rx ry h
 obtain⟨i,j,rfl,rfl,q⟩:=h
 obtain⟨t,rfl⟩:=rx
 obtain⟨t',rfl⟩:=ry
 exact rule i j t t' s _ _ ⟨.bl (g i j),H,I,rfl,q⟩
def CDiv(i j:Int):Prop:=0<j/\j<1073741824
def CMul(i j:Int):Prop:=(-(2^64)<i/\i<2^64)\/(-(2^64)<j/\j<2^64)
theorem CMul.ok{i j:Int}(h:CMul i j):IntMulOk i j:=by
 rcases h with⟨h1,h2⟩|⟨h1,h2⟩
 ·exact .of_left (intBits_le_64 h1 h2)
 ·exact .of_right (intBits_le_64 h1 h2)
theorem xF:uO X (binaryOp .Add) (sT fun i j=>.int (i+j)):=zK7 fun _ _ _ _ _ _ _ q=>add_int q
theorem cA:uO X (binaryOp .Sub) (sT fun i j=>.int (i-j)):=zK7 fun _ _ _ _ _ _ _ q=>sub_int q
theorem yT:uO X (binaryOp .Mult) (rI CMul fun i j=>.int (i*j)):=opI fun _ _ _ _ _ _ _ hc q=>mul_int q hc.ok
theorem vX:uO X (binaryOp .FloorDiv) (rI CDiv fun i j=>.int (i/j)):=opI fun i j _ _ _ _ _ hc q=>by
 have h1:(0:Int)<j:=hc.1
 have h2:j<1073741824:=hc.2
 exact floordiv_int (by omega) (by rw[Int.fdiv_eq_ediv_of_nonneg i (by omega)];exact q) (.inl (PyProof.noPylong_small (by omega)))
theorem xY:uO X (binaryOp .Mod) (rI (fun _ j=>0<j) fun i j=>.int (i%j)):=opI fun i j _ _ _ _ _ hc q=>by
 have h1:(0:Int)<j:=hc
 exact mod_int' (by omega) (by rw[Int.fmod_eq_emod_of_nonneg i (by omega)];exact q)
theorem unI{f:Value->Sem Value}{g:Int->Int}
  (rule:∀(i:Int)(t:Tok)(s:Shared)(Q:Value->Shared->Prop)(E:Value->Shared->Prop),Q (.int (g i) s.toks) {s with toks:=s.toks+1}->wpAny (model X.prog X.w) X.A (f (.int i t)) Q E s):
  UnR X f (rU fun i=>.int (g i)):=by
 intro pins s σ H x v Q I rx h
 obtain⟨i,rfl,q⟩:=h
 obtain⟨t,rfl⟩:=rx
 exact rule i t s _ _ ⟨.int (g i),H,I.tok _,⟨_,rfl⟩,q⟩
theorem yA:UnR X (unaryOp .USub) (rU fun i=>.int (-i)):=unI fun _ _ _ _ _ q=>neg_int q
end
def scal:V->V->Bool
 | .non,.non=>true| .non,.int _=>true| .int _,.non=>true| .non,.bl _=>true| .bl _,.non=>true| .non,.str _=>true| .str _,.non=>true
 | .int _,.int _=>true| .bl _,.bl _=>true| .str _,.str _=>true| .byt _,.byt _=>true
 | .int _,.str _=>true| .str _,.int _=>true| .bl _,.str _=>true| .str _,.bl _=>true
 |_,_=>false
def rEq:R2:=fun x y H Q=>scal x y=true/\Q (.bl (decide (x=y))) H
def rNe:R2:=fun x y H Q=>scal x y=true/\Q (.bl (!decide (x=y))) H
theorem pF{i j:Int}:decide (V.int i=V.int j)=(i==j):=by
 rw[Bool.eq_iff_iff]
 simp
theorem eZ{i j:Bool}:decide (V.bl i=V.bl j)=(i==j):=by
 rw[Bool.eq_iff_iff]
 simp
theorem pH{i j:Str}:decide (V.str i=V.str j)=(i==j):=by
 rw[Bool.eq_iff_iff]
 simp
theorem pP{i j:Array UInt8}:decide (V.byt i=V.byt j)=(i.toList==j.toList):=by
 rw[Bool.eq_iff_iff]
 cases i
 cases j
 simp
section
variable {X:Cx} {a b c:Expr} {ta tb tc:TE} {pos:Pos}
theorem zP{pins:List (Addr×Obj)}{σ:St}{H:Hp}{s:Shared}{Q:VK}{k k':Bool}(I:Inv X pins σ H s)(q:Q (.bl k) H)(e:k=k'):EP X pins σ Q (.bool k') s:=by
 subst e
 exact⟨.bl k,H,I,rfl,q⟩
theorem jB:uO X (compareOp .Eq) rEq:=by
 intro pins s σ H x y v u Q I rx ry h
 obtain⟨hs,q⟩:=h
 cases x with
 |non=>
  cases rx
  cases y with
  |non=>cases ry;exact PySem.EqNone.eq_none_none (zP I q (by simp))
  |bl j=>cases ry;exact PySem.EqNone.eq_none_bool (zP I q (by simp))
  |int j=>obtain⟨t',rfl⟩:=ry;exact PySem.EqNone.eq_none_int (zP I q (by simp))
  |str j=>obtain⟨t',rfl⟩:=ry;exact PySem.EqNone.eq_none_str (zP I q (by simp))
  |_=>exact absurd (show false=true from hs) Bool.false_ne_true
 |bl i=>
  cases rx
  cases y with
  |non=>cases ry;exact PySem.EqNone.eq_bool_none (zP I q (by simp))
  |bl j=>cases ry;exact eq_bool (zP I q eZ)
  |str j=>obtain⟨t',rfl⟩:=ry;exact PySem.EqMixed.eq_bool_str (zP I q (by simp))
  |_=>exact absurd (show false=true from hs) Bool.false_ne_true
 |int i=>
  obtain⟨t,rfl⟩:=rx
  cases y with
  |non=>cases ry;exact PySem.EqNone.eq_int_none (zP I q (by simp))
  |int j=>obtain⟨t',rfl⟩:=ry;exact eq_int (zP I q pF)
  |str j=>obtain⟨t',rfl⟩:=ry;exact PySem.EqMixed.eq_int_str (zP I q (by simp))
  |_=>exact absurd (show false=true from hs) Bool.false_ne_true
 |str i=>
  obtain⟨t,rfl⟩:=rx
  cases y with
  |non=>cases ry;exact PySem.EqNone.eq_str_none (zP I q (by simp))
  |bl j=>cases ry;exact PySem.EqMixed.eq_str_bool (zP I q (by simp))
  |int j=>obtain⟨t',rfl⟩:=ry;exact PySem.EqMixed.eq_str_int (zP I q (by simp))
  |str j=>obtain⟨t',rfl⟩:=ry;exact eq_str (zP I q pH)
  |_=>exact absurd (show false=true from hs) Bool.false_ne_true
 |byt i=>
  obtain⟨t,rfl⟩:=rx
  cases y with
  |byt j=>obtain⟨t',rfl⟩:=ry;exact PySem.W.eq_bytes (zP I q pP)
  |_=>exact absurd (show false=true from hs) Bool.false_ne_true
 |_=>cases y<;>exact absurd (show false=true from hs) Bool.false_ne_true
theorem eJ:uO X (compareOp .NotEq) rNe:=by
 intro pins s σ H x y v u Q I rx ry h
 obtain⟨hs,q⟩:=h
 cases x with
 |non=>
  cases rx
  cases y with
  |non=>cases ry;exact PySem.EqNone.ne_none_none (zP I q (by simp))
  |bl j=>cases ry;exact PySem.EqNone.ne_none_bool (zP I q (by simp))
  |int j=>obtain⟨t',rfl⟩:=ry;exact PySem.EqNone.ne_none_int (zP I q (by simp))
  |str j=>obtain⟨t',rfl⟩:=ry;exact PySem.EqNone.ne_none_str (zP I q (by simp))
  |_=>exact absurd (show false=true from hs) Bool.false_ne_true
 |bl i=>
  cases rx
  cases y with
  |non=>cases ry;exact PySem.EqNone.ne_bool_none (zP I q (by simp))
  |bl j=>cases ry;exact ne_bool (zP I q (congrArg not eZ))
  |str j=>obtain⟨t',rfl⟩:=ry;exact PySem.EqMixed.ne_bool_str (zP I q (by simp))
  |_=>exact absurd (show false=true from hs) Bool.false_ne_true
 |int i=>
  obtain⟨t,rfl⟩:=rx
  cases y with
  |non=>cases ry;exact PySem.EqNone.ne_int_none (zP I q (by simp))
  |int j=>obtain⟨t',rfl⟩:=ry;exact ne_int (zP I q (congrArg not pF))
  |str j=>obtain⟨t',rfl⟩:=ry;exact PySem.EqMixed.ne_int_str (zP I q (by simp))
  |_=>exact absurd (show false=true from hs) Bool.false_ne_true
 |str i=>
  obtain⟨t,rfl⟩:=rx
  cases y with
  |non=>cases ry;exact PySem.EqNone.ne_str_none (zP I q (by simp))
  |bl j=>cases ry;exact PySem.EqMixed.ne_str_bool (zP I q (by simp))
  |int j=>obtain⟨t',rfl⟩:=ry;exact PySem.EqMixed.ne_str_int (zP I q (by simp))
  |str j=>obtain⟨t',rfl⟩:=ry;exact ne_str (zP I q (congrArg not pH))
  |_=>exact absurd (show false=true from hs) Bool.false_ne_true
 |byt i=>
  obtain⟨t,rfl⟩:=rx
  cases y with
  |byt j=>obtain⟨t',rfl⟩:=ry;exact PySem.W.ne_bytes (zP I q (congrArg not pP))
  |_=>exact absurd (show false=true from hs) Bool.false_ne_true
 |_=>cases y<;>exact absurd (show false=true from hs) Bool.false_ne_true
theorem oK:uO X (compareOp .Lt) (sT fun i j=>.bl (decide (i<j))):=qR3 fun _ _ _ _ _ _ _ q=>lt_int q
theorem iP:uO X (compareOp .Gt) (sT fun i j=>.bl (decide (j<i))):=qR3 fun _ _ _ _ _ _ _ q=>gt_int q
theorem qN5:uO X (compareOp .GtE) (sT fun i j=>.bl (decide (j<=i))):=qR3 fun _ _ _ _ _ _ _ q=>ge_int q
theorem nomark(b:Expr){op:CmpOp}(h:op≠ .In:=by decide)(h2:op≠ .NotIn:=by decide):behindInMarks op b=false:=by
 have e1:(op==CmpOp.In)=false:=by cases op<;>first|rfl|exact absurd rfl h
 have e2:(op==CmpOp.NotIn)=false:=by cases op<;>first|rfl|exact absurd rfl h2
 cases b<;>simp[behindInMarks,e1,e2]
theorem jZ{op:CmpOp}{r:R2}(ho:uO X (compareOp op) r)(ha:PE X a ta)(hb:PE X b tb)(hm:behindInMarks op b=false):PE X (.Compare a [op] [b] pos) (bC r ta tb):=by
 intro pins s σ H Q I h
 exact wpAny_Compare1 (qR2 ha hb I h fun v u s2 x y H2 I2 rx ry q=>ho pins s2 σ H2 x y v u Q I2 rx ry q) hm
inductive eX(Q:Bool->Hp->Prop)(x:V)(H':Hp):Prop
 |mk (k:_) (a_0:x= .bl k) (a_1:Q k H'):eX Q x H'
def gR(t:TE):TT:=fun σ H Q=>t σ H fun x H'=>eX Q x H'
theorem qE{op:CmpOp}{r:R2}(ho:uO X (compareOp op) r)(ha:PE X a ta)(hb:PE X b tb)(hm:behindInMarks op b=false):PT X (.Compare a [op] [b] pos) (gR (bC r ta tb)):=by
 intro pins s σ H Q I h
 refine wpAny_isTrue_Compare1 (thn (ha pins s σ H _ I h) fun v s1⟨x,H1,I1,r1,q1⟩=>thn (hb pins s1 σ H1 _ I1 q1) fun u s2⟨y,H2,I2,r2,q2⟩=>
  thn (ho pins s2 σ H2 x y v u _ I2 r1 r2 q2) fun c s3⟨z,H3,I3,r3,k,e,q3⟩=>?_) hm
 subst e
 cases r3
 exact wpAny_truthy_bool ⟨H3,I3,q3⟩
def zK8(K:Fg)(x:V)(H:Hp)(k:Bool):Prop:=
 match x with
 | .non=>k=false
 | .bl b=>k=b
 | .int i=>k=(i !=0)
 | .str y=>y.length<=sizeLine/\k=((y.length:Int) !=0)
 | .byt y=>y.size<=sizeLine/\k=((y.size:Int) !=0)
 | .ref p=>(∃xs,zH K H p xs/\k= !xs.isEmpty)\/(∃xs,zO K H p xs/\k= !xs.isEmpty)\/∃kvs,H p=some (.dK kvs)/\k= !kvs.isEmpty
 |_=>False
theorem dQ{κ:Type}{kvs:List (κ×V)}{vs:List (κ×Value)}(r:KV kvs vs):(!vs.isEmpty)= !kvs.isEmpty:=by
 cases r<;>rfl
theorem oV{xs:List V}{its:List Value}(r:Vals xs its):(!its.toArray.isEmpty)= !xs.isEmpty:=by
 cases r<;>simp
theorem line63:(sizeLine:Nat)<2^63:=by rw[sizeLine_eq];decide
theorem qR4:zIz X (fun x H Q=>∃k,zK8 X.K x H k/\Q k H):=by
 intro pins s σ H x v Q I rx h
 obtain⟨k,e,q⟩:=h
 have hl:=line63
 have hs:sizeLine=16777216:=sizeLine_eq
 cases x with
 |non=>
  cases rx
  have e':k=false:=e
  subst e'
  exact truthy_none ⟨H,I,q⟩
 |bl b=>
  cases rx
  have e':k=b:=e
  subst e'
  exact wpAny_truthy_bool ⟨H,I,q⟩
 |int i=>
  obtain⟨t,rfl⟩:=rx
  have e':k=(i !=0):=e
  subst e'
  exact PySem.P.truthy_int ⟨H,I,q⟩
 |str y=>
  obtain⟨t,rfl⟩:=rx
  obtain⟨hy,e'⟩:y.length<=sizeLine/\k=((y.length:Int) !=0):=e
  subst e'
  exact PySem.P.truthy_str (by omega) ⟨H,I.tok _,q⟩
 |byt y=>
  obtain⟨t,rfl⟩:=rx
  obtain⟨hy,e'⟩:y.size<=sizeLine/\k=((y.size:Int) !=0):=e
  subst e'
  exact PySem.W.truthy_bytes (by omega) ⟨H,I.tok _,q⟩
 |ref p=>
  cases rx
  have e':(∃xs,zH X.K H p xs/\k= !xs.isEmpty)\/(∃xs,zO X.K H p xs/\k= !xs.isEmpty)\/∃kvs,H p=some (.dK kvs)/\k= !kvs.isEmpty:=e
  rcases e' with⟨xs,hx,e'⟩|⟨xs,hx,e'⟩|⟨kvs,hx,e'⟩
  ·subst e'
   obtain⟨its,r,pl,hz⟩:=I.list hx
   have hlen:=r.length
   exact wpAny_truthy_list pl.isList (by simp only[List.size_toArray];omega) ⟨H,I.tok _,by rw[oV r];exact q⟩
  ·subst e'
   obtain⟨its,r,pl,hz⟩:=I.tuple hx
   have hlen:=r.length
   exact truthy_tuple pl (by simp only[List.size_toArray];omega) ⟨H,I.tok _,by rw[oV r];exact q⟩
  ·subst e'
   obtain⟨hz,hS,vs,r,m⟩:kvs.length<=sizeLine/\(p==sysModules)=false/\∃vs,KV kvs vs/\s.heap.DictOf (jQ X.prog X.w) p vs:=I.hok p _ hx
   have hlen:kvs.length=vs.length:=Paired.length r
   exact wpAny_truthy_dict hS m (by omega) ⟨H,I.tok _,by rw[dQ r];exact q⟩
 |_=>exact(show False from e).elim
theorem oW(ha:PE X a ta)(he:∀whole,isTrue a X.env whole=(do let v<-whole;standAt a.pos;holding [v] (truthy v))):
  PT X a (fun σ H Q=>ta σ H fun x H'=>∃k,zK8 X.K x H' k/\Q k H'):=by
 intro pins s σ H Q I h
 exact isTrue_plain (thn (ha pins s σ H _ I h) fun v s1⟨x,H1,I1,r1,q1⟩=>qR4 pins s1 σ H1 x v Q I1 r1 q1) (he _)
theorem vals1{x:V}{us:List Value}(r:Vals [x] us):∃u,us=[u]/\zU x u:=by
 cases r with
 |cons r1 r2=>cases r2;exact⟨_,rfl,r1⟩
theorem vals2{x y:V}{us:List Value}(r:Vals [x,y] us):∃u w',us=[u,w']/\zU x u/\zU y w':=by
 cases r with
 |cons r1 r2=>
  cases r2 with
  |cons r3 r4=>cases r4;exact⟨_,_,rfl,r1,r3⟩
theorem wT:kO X (.builtin "abs") (fun xs H Q=>∃i,xs=[.int i]/\Q (.int (if i<0 then -i else i)) H):=by
 intro pins s σ H xs us Q I r h
 obtain⟨i,rfl,q⟩:=h
 obtain⟨u,rfl,t,rfl⟩:=vals1 r
 exact call_abs_int fun u tk=>⟨.int (if i<0 then -i else i),H,I.tok _,⟨_,rfl⟩,q⟩
theorem sA(hc:X.calm=true):kO X (.builtin "max") (fun xs H Q=>∃i j,xs=[.int i,.int j]/\Q (.int (if j>i then j else i)) H):=by
 intro pins s σ H xs us Q I r h
 obtain⟨i,j,rfl,q⟩:=h
 obtain⟨u,w',rfl,⟨t,rfl⟩,⟨t',rfl⟩⟩:=vals2 r
 refine max_two_ints (I.ok.hd hc) fun h' tk k=>⟨_,H,I.kept k,?_,q⟩
 by_cases hj:j>i
 ·rw[if_pos hj,if_pos hj];exact⟨_,rfl⟩
 ·rw[if_neg hj,if_neg hj];exact⟨_,rfl⟩
theorem tQ(hc:X.calm=true):kO X (.builtin "min") (fun xs H Q=>∃i j,xs=[.int i,.int j]/\Q (.int (if j<i then j else i)) H):=by
 intro pins s σ H xs us Q I r h
 obtain⟨i,j,rfl,q⟩:=h
 obtain⟨u,w',rfl,⟨t,rfl⟩,⟨t',rfl⟩⟩:=vals2 r
 refine min_two_ints (I.ok.hd hc) fun h' tk k=>⟨_,H,I.kept k,?_,q⟩
 by_cases hj:j<i
 ·rw[if_pos hj,if_pos hj];exact⟨_,rfl⟩
 ·rw[if_neg hj,if_neg hj];exact⟨_,rfl⟩
theorem iR:kO X (.type "int") (fun xs H Q=>(∃i,xs=[.int i]/\Q (.int i) H)\/∃k,xs=[.bl k]/\Q (.int (if k then 1 else 0)) H):=by
 intro pins s σ H xs us Q I r h
 rcases h with⟨i,rfl,q⟩|⟨k,rfl,q⟩
 ·obtain⟨u,rfl,t,rfl⟩:=vals1 r
  exact call_int_int ⟨.int i,H,I,⟨_,rfl⟩,q⟩
 ·obtain⟨u,rfl,r1⟩:=vals1 r
  cases r1
  exact call_int_bool ⟨.int (if k then 1 else 0),H,I.tok _,⟨_,rfl⟩,q⟩
theorem cE:kO X (.type "str") (fun xs H Q=>∃i,xs=[.int i]/\i.natAbs.log2<1920/\Q (.str (toString i)) H):=by
 intro pins s σ H xs us Q I r h
 obtain⟨i,rfl,hz,q⟩:=h
 obtain⟨u,rfl,t,rfl⟩:=vals1 r
 exact PySem.P.str_of_int hz ⟨.str _,H,I.tok _,⟨_,rfl⟩,q⟩
end
structure dZ(h:Heap)(x dx C:Addr)(mA:Str->Option Value):Prop where
 obj:h.get? x=some (PySem.W.instObj C dx)
 ns:h.Ns1 dx mA
 ne:dx≠x
theorem tZ{h:Heap}{dx:Addr}{mA:Str->Option Value}(n:h.Ns1 dx mA):∃od,h.get? dx=some od/\∀name,PySem.W.lookIn name od=some (mA name):=by
 obtain⟨o,es,ep,ho,hd,hk,_,hm⟩:=n
 refine⟨o,ho,fun name=>?_⟩
 have e:=hm name
 unfold nsFind findBy at e
 rw[<-Array.find?_toList]at e
 unfold PySem.W.lookIn
 rw[hd]
 dsimp only
 split
 ·rename_i y q
  rw[q]at e
  exact congrArg some e
 ·rename_i q
  rw[q]at e
  have a:es.toList.any (·.refKey)=false:=by
   rw[List.any_eq_false]
   intro y hy
   obtain⟨z,t,hkey⟩:=hk y (Array.mem_toList_iff.mp hy)
   simp[DictEntry.refKey,hkey]
  have a':¬es.toList.any (·.refKey)=true:=by rw[a];exact Bool.false_ne_true
  rw[if_neg a']
  exact congrArg some e
theorem dZ.look{h:Heap}{x dx C:Addr}{mA:Str->Option Value}(I:dZ h x dx C mA):∃od,PySem.W.InstAt h x (PySem.W.instObj C dx) C (some od)/\∀name,PySem.W.lookIn name od=some (mA name):=
 let⟨od,ho,hl⟩:=tZ I.ns
 ⟨od,⟨I.obj,rfl,rfl,ho⟩,hl⟩
section
variable {prog:Program} {w:World} {A:Around} {E:Value->Shared->Prop} {s:Shared} {K:Fg} {x dx C f:Addr} {mA:Str->Option Value} {name:Str} {v:Value}
theorem qO8{expr:Bool}{Q:Value->Shared->Prop}(X:K.In s.heap)(I:dZ s.heap x dx C mA)(hg:PySem.W.plainGet K C name=true)(hh:PySem.W.hasDictIn K C=true)
  (ha:PySem.W.findIn K (.ref C) name=some none)(hv:mA name=some v)(hv':PySem.W.handedIn v=true)(h:Q v {s with toks:=s.toks+1}):
  wpAny (model prog w) A (getAttr (.ref x) name expr) Q E s:=by
 obtain⟨od,J,hl⟩:=I.look
 exact PySem.W.get_value X J (PySem.W.plainGet_of hg).1 (PySem.W.findObj_own hh ha rfl (by rw[hl,hv])) hv' h
theorem eK{pl:Sem Bool}{Q:Value×List Value->Shared->Prop}(X:K.In s.heap)(I:dZ s.heap x dx C mA)(hg:PySem.W.plainGet K C name=true)
  (hf:PySem.W.findIn K (.ref C) name=some (some (.ref f)))(ht:PySem.W.isFn K (.ref f)=true)(hv:mA name=none)(h:Q (.ref f,[.ref x]) s):
  wpAny (model prog w) A (getMethod (.ref x) name pl) Q E s:=by
 obtain⟨od,J,hl⟩:=I.look
 exact PySem.W.method_fn X J (PySem.W.plainGet_of hg).1 (PySem.W.plainGet_of hg).2 hf (beq_iff_eq.mp ht) (by show(PySem.W.lookIn name od).map (·.isSome)=some false;rw[hl,hv];rfl) h
theorem qO9{ns:List Str}{Q:Unit->Shared->Prop}(X:K.In s.heap)(I:dZ s.heap x dx C mA)
  (hs:PySem.W.findIn K (.ref C) "__setattr__"=some (some (.builtin "object.__setattr__")))(hp:PySem.W.plainOver K C=true)(ht:PySem.W.takerIn K C name=some none)(hh:PySem.W.hasDictIn K C=true)
  (hw:PySem.Within mA ns)(hsz:ns.length<=sizeLine)
  (h:∀h',dZ h' x dx C (fun y=>if y=name then some v else mA y)->Heap.SameBut dx s.heap h'->Q () {s with heap:=h',toks:=s.toks+2}):
  wpAny (model prog w) A (setAttr (.ref x) name v) Q E s:=by
 obtain⟨od,J,hl⟩:=I.look
 refine PySem.W.set_plain X J hs (PySem.W.osa_open (s:={s with toks:=s.toks+1}) (r:=none) X J hp ht fun b=>?_)
 obtain⟨cd,hc,hd'⟩:=PySem.W.any_some hh
 have hx:s.heap.get? x=some ⟨.ref C,some dx,.plain,#[]⟩:=I.obj
 refine wpAny_bind (wpAny_pure (wpAny_bind (wpAny_bind (wpAny_loadPart hx (wpAny_bind (PySem.W.Looks.here (s:={s with toks:=s.toks+1}) (PySem.W.looks_clsIn X hc) ?_))))))
 rw[hd']
 refine wpAny_pure (a:=some dx) (wpAny_bind (wpAny_pure (wpAny_bind ?_)))
 refine wpAny_nsSet1 (s:={s with toks:=s.toks+1}) I.ns fun h' hn2 hs2=>?_
 obtain⟨oD,esD,epD,hoD,hdD,hcD⟩:=hn2.count (PySem.Within.cons name v hw)
 refine wpAny_bind (wpAny_lookBehind hoD (by rw[hdD];exact pastItsLine_dict (Nat.le_trans hcD (by rw[List.length_cons];omega))) ?_)
 exact wpAny_pure (h _ ⟨(hs2.2 _ (Ne.symm I.ne)).trans I.obj,hn2,I.ne⟩ hs2)
theorem eV{R:Result->Shared->Prop}{vs:List Value}{kw:List (Str×Value)}(X:K.In s.heap)(hm:PySem.W.makesIn K C=true)
  (hi:PySem.W.findIn K (.ref C) "__init__"=some (some (.ref f)))(hf:PySem.W.typeIn K (.ref f)=some (.type "function"))
  (h:codeAny (model prog w) (A.under (.builtin "type.__call__" ⟨.ref C::vs,kw⟩)) (.call (.ref f) ⟨.ref (s.heap.objs.size+1)::vs,kw⟩) (PySem.W.InitBack (s.heap.objs.size+1) R)
   {s with heap:=(s.heap.push PySem.W.emptyDict).push (PySem.W.instObj C s.heap.objs.size)}):
  codeAny (model prog w) A (.call (.ref C) ⟨vs,kw⟩) R s:=by
 obtain⟨hh,g,d,t,os⟩:=s
 exact PySem.W.make_core (PySem.W.makes_of X hm) (PySem.W.looks_findIn X hi) (fun self=>PySem.W.bind_fn X self hf) (.inl rfl) h
end
def xM(f:Str)(v:V):List (Str×V)->List (Str×V)
 |[]=>[(f,v)]
 |(g,x)::r=>if g=f then(g,v)::r else(g,x)::xM f v r
theorem uI(f g:Str)(v:V):∀fs:List (Str×V),(xM f v fs).lookup g=if g=f then some v else fs.lookup g
 |[]=>by
  show List.lookup g [(f,v)]=_
  by_cases h:g=f
  ·have hb:(g==f)=true:=beq_iff_eq.mpr h
   simp only[List.lookup,hb,if_pos h]
  ·have hb:(g==f)=false:=beq_eq_false_iff_ne.mpr h
   simp only[List.lookup,hb,if_neg h]
 |(k,x)::r=>by
  have ih:=uI f g v r
  rw[show xM f v ((k,x)::r)=(if k=f then(k,v)::r else(k,x)::xM f v r)from rfl]
  by_cases hk:k=f
  ·rw[if_pos hk]
   by_cases h:g=k
   ·have hb:(g==k)=true:=beq_iff_eq.mpr h
    simp only[List.lookup,hb,if_pos (h.trans hk)]
   ·have hb:(g==k)=false:=beq_eq_false_iff_ne.mpr h
    simp only[List.lookup,hb,if_neg (fun e:g=f=>h (e.trans hk.symm))]
  ·rw[if_neg hk]
   by_cases h:g=k
   ·have hb:(g==k)=true:=beq_iff_eq.mpr h
    simp only[List.lookup,hb,if_neg (fun e:g=f=>hk (h.symm.trans e))]
   ·have hb:(g==k)=false:=beq_eq_false_iff_ne.mpr h
    simp only[List.lookup,hb]
    exact ih
theorem yE(f:Str)(v:V):∀fs:List (Str×V),f∈(xM f v fs).map (·.1)/\∀g,g∈fs.map (·.1)->g∈(xM f v fs).map (·.1)
 |[]=>⟨by simp[xM],fun g h=>by simp at h⟩
 |(k,x)::r=>by
  obtain⟨i1,i2⟩:=yE f v r
  rw[show xM f v ((k,x)::r)=(if k=f then(k,v)::r else(k,x)::xM f v r)from rfl]
  by_cases hk:k=f
  ·rw[if_pos hk]
   subst hk
   exact⟨by simp,fun g h=>by simpa using h⟩
  ·rw[if_neg hk]
   refine⟨?_,fun g h=>?_⟩
   ·rw[List.map_cons]
    exact aq10 _ i1
   ·rw[List.map_cons]at h⊢
    rcases List.mem_cons.mp h with e|e
    ·exact List.mem_cons.mpr (.inl e)
    ·exact aq10 _ (i2 g e)
theorem uC(f:Str)(v:V):∀fs:List (Str×V),(xM f v fs).length<=fs.length+1
 |[]=>by simp[xM]
 |(k,x)::r=>by
  have ih:=uC f v r
  rw[show xM f v ((k,x)::r)=(if k=f then(k,v)::r else(k,x)::xM f v r)from rfl]
  by_cases hk:k=f
  ·rw[if_pos hk,List.length_cons,List.length_cons];omega
  ·rw[if_neg hk,List.length_cons,List.length_cons];omega
theorem wK.some_of{v:V}{o:Option Value}(r:wK (some v) o):∃u,o=some u/\zU v u:=by
 cases o with
 |none=>exact(show False from r).elim
 |some u=>exact⟨u,rfl,r⟩
theorem wK.none_of{o:Option Value}(r:wK none o):o=none:=by
 cases o with
 |none=>rfl
 |some u=>exact(show False from r).elim
theorem tJ{v:V}{u:Value}(r:zU v u):PySem.W.handedIn u=true:=by
 cases v with
 |non=>cases (show u=Value.none from r);rfl
 |bl b=>cases (show u=Value.bool b from r);rfl
 |int i=>obtain⟨t,e⟩:=(show∃t,u=Value.int i t from r);cases e;rfl
 |str x=>obtain⟨t,e⟩:=(show∃t,u=Value.str x t from r);cases e;rfl
 |byt b=>obtain⟨t,e⟩:=(show∃t,u=Value.bytes b t from r);cases e;rfl
 |flt b=>obtain⟨t,e⟩:=(show∃t,u=Value.float b t from r);cases e;rfl
 |ref a=>cases (show u=Value.ref a from r);rfl
 |ty n=>cases (show u=Value.type n from r);rfl
section
variable {P:Program} {w:World} {H H':Hp} {h h':Heap} {a C dx:Addr} {fs fs':List (Str×V)}
theorem lQ(hok:HOk P w H h)(e:H a=some (.ins C dx fs)):∃mA,dZ h a dx C mA/\(∀f,wK (fs.lookup f) (mA f))/\PySem.Within mA (fs.map (·.1))/\fs.length<=1000/\H dx=some (.own a):=by
 obtain⟨d,z,ne,ob,mA,n,r,q⟩:=(show jA P w H h a (.ins C dx fs)from hok a _ e)
 exact⟨mA,⟨ob,n,ne⟩,r,q,z,d⟩
end
structure Cls(K:Fg)(C:Addr):Prop where
 pg:PySem.W.plainGet K C Str.empty=true
 hd:PySem.W.hasDictIn K C=true
 po:PySem.W.plainOver K C=true
 sa:PySem.W.findIn K (.ref C) "__setattr__"=some (some (.builtin "object.__setattr__"))
theorem Cls.get{K:Fg}{C:Addr}(c:Cls K C)(f:Str):PySem.W.plainGet K C f=true:=c.pg
def jH(K:Fg)(C:Addr)(f:Str):Prop:=PySem.W.findIn K (.ref C) f=some none
theorem jH.taker{K:Fg}{C:Addr}{f:Str}(n:jH K C f):PySem.W.takerIn K C f=some none:=by
 unfold PySem.W.takerIn
 rw[show PySem.W.findIn K (.ref C) f=some none from n]
 rfl
structure Meth(K:Fg)(C:Addr)(m:Str)(f:Addr):Prop where
 at_:PySem.W.findIn K (.ref C) m=some (some (.ref f))
 fn:PySem.W.isFn K (.ref f)=true
 kp:PySem.W.keepIn K (.ref f)=true
section
variable {X:Cx} {pins:List (Addr×Obj)} {σ:St} {H:Hp} {s:Shared} {a C dx:Addr} {fs:List (Str×V)} {f:Str} {v:V} {A:Around} {E:Value->Shared->Prop}
theorem oY{b:Bool}{Q:Value->Shared->Prop}(I:Inv X pins σ H s)(e:H a=some (.ins C dx fs))(c:Cls X.K C)(n:jH X.K C f)(l:fs.lookup f=some v)
  (h:∀u s',Inv X pins σ H s'->zU v u->Q u s'):wpAny (model X.prog X.w) A (getAttr (.ref a) f b) Q E s:=by
 obtain⟨mA,O,r,_,_,_⟩:=lQ I.hok e
 obtain⟨u,hu,ru⟩:=wK.some_of (v:=v) (o:=mA f) (by rw[<-l];exact r f)
 exact qO8 I.kIn O (c.get f) c.hd n hu (tJ ru) (h u _ (I.tok _) ru)
theorem wI{m:Str}{g:Addr}{pl:Sem Bool}{Q:Value×List Value->Shared->Prop}(I:Inv X pins σ H s)(e:H a=some (.ins C dx fs))(c:Cls X.K C)(k:Meth X.K C m g)(l:fs.lookup m=none)
  (h:Q (.ref g,[.ref a]) s):wpAny (model X.prog X.w) A (getMethod (.ref a) m pl) Q E s:=by
 obtain⟨mA,O,r,_,_,_⟩:=lQ I.hok e
 have hn:mA m=none:=wK.none_of (by rw[<-l];exact r m)
 exact eK I.kIn O (c.get m) k.at_ k.fn hn h
theorem oU{y:V}{u:Value}{Q:Unit->Shared->Prop}(I:Inv X pins σ H s)(e:H a=some (.ins C dx fs))(c:Cls X.K C)(n:jH X.K C f)(hl:fs.length<1000)(ry:zU y u)
  (h:∀s',Inv X pins σ (upd H a (.ins C dx (xM f y fs))) s'->Q () s'):wpAny (model X.prog X.w) A (setAttr (.ref a) f u) Q E s:=by
 obtain⟨mA,O,r,wi,_,ho⟩:=lQ I.hok e
 have hz:(fs.map (·.1)).length<=sizeLine:=by rw[List.length_map,sizeLine_eq];omega
 refine qO9 I.kIn O c.sa c.po n.taker c.hd wi hz fun h' O' sb=>h _ ?_
 have hd:∃o,h'.get? dx=some o:=let⟨o,_,_,e',_⟩:=O'.ns;⟨o,e'⟩
 refine I.write (x:=a) (e:=dx) (by rw[e];exact True.intro) (.inr ho) (fun b q hb z=>(sb.2 b hb).trans z) hd ?_
 refine⟨by rw[qH O.ne];exact ho,?_,O.ne,O'.obj,_,O'.ns,fun g=>?_,fun g hg=>?_⟩
 ·have :=uC f y fs;omega
 ·show wK ((xM f y fs).lookup g) (if g=f then some u else mA g)
  rw[uI]
  by_cases q:g=f
  ·rw[if_pos q,if_pos q];exact ry
  ·rw[if_neg q,if_neg q];exact r g
 ·by_cases q:g=f
  ·rw[q];exact(yE f y fs).1
  ·refine(yE f y fs).2 g (wi g fun z=>hg ?_)
   show(if g=f then some u else mA g)=none
   rw[if_neg q];exact z
theorem Inv.made(I:Inv X pins σ H s):Inv X pins σ (upd (upd H s.heap.objs.size (.own (s.heap.objs.size+1))) (s.heap.objs.size+1) (.ins C s.heap.objs.size []))
  {s with heap:=(s.heap.push PySem.W.emptyDict).push (PySem.W.instObj C s.heap.objs.size)}:=by
 have e1:(s.heap.push PySem.W.emptyDict).get? s.heap.objs.size=some PySem.W.emptyDict:=Heap.get?_push_size s.heap rfl
 have e2:((s.heap.push PySem.W.emptyDict).push (PySem.W.instObj C s.heap.objs.size)).get? (s.heap.objs.size+1)=some (PySem.W.instObj C s.heap.objs.size):=by
  have :=Heap.get?_push_size (s.heap.push PySem.W.emptyDict) (o:=PySem.W.instObj C s.heap.objs.size) rfl
  rwa [Heap.size_push]at this
 have e3:(s.heap.push PySem.W.emptyDict).Ns s.heap.objs.size (fun _=>none):=⟨PySem.W.emptyDict,#[],_,e1,rfl,(fun e he=>absurd he (by simp)),fun _=>rfl⟩
 have I1:=I.laid (a:=s.heap.objs.size) (o:=.own (s.heap.objs.size+1)) (h':=s.heap.push PySem.W.emptyDict) (t':=s.toks) (fun b u q=>Heap.get?_push_of_some _ q) (aq7 _) ⟨_,e1⟩
 refine I1.laid (a:=s.heap.objs.size+1) (o:=.ins C s.heap.objs.size []) (t':=s.toks) (fun b u q=>Heap.get?_push_of_some _ q) (Nat.le_of_eq (Heap.size_push _ _)) ?_
 have ne:s.heap.objs.size≠s.heap.objs.size+1:=aq9 (Nat.lt_succ_self _)
 refine⟨by rw[qH ne,qX],Nat.zero_le _,ne,e2,fun _=>none,(Heap.Ns1.of_empty e3).at fun o q=>Heap.get?_push_of_some _ q,fun _=>True.intro,fun y hy=>absurd rfl hy⟩
theorem qOq{prog:Program}{w:World}{env:Env}{e:Expr}{f:Str}{pos:Pos}{s:Shared}{Q:Value->Shared->Prop}(hb:attributeBase e f env (eval e env)=eval e env)
  (h:wpAny (model prog w) A (eval e env) (fun o s₁=>wpAny (model prog w) A (getAttr o f true) Q E s₁) E s):wpAny (model prog w) A (eval (.Attribute e f pos) env) Q E s:=
 Attribute_any_ h (by rw[arm_eval_Attribute,hb])
end
inductive qN6(K:Fg)(f:Str)(Q:VK)(x:V)(H1:Hp):Prop
 |mk (a:_) (C:_) (dx:_) (fs:_) (v:_) (a_0:x= .ref a) (a_1:H1 a=some (.ins C dx fs)) (a_2:Cls K C) (a_3:jH K C f) (a_4:fs.lookup f=some v) (a_5:Q v H1):qN6 K f Q x H1
def gS(K:Fg)(ta:TE)(f:Str):TE:=fun σ H Q=>ta σ H fun x H1=>qN6 K f Q x H1
inductive qN7(K:Fg)(f:Str)(N_:St->Hp->Prop)(σ:St)(y:V)(x:V)(H2:Hp):Prop
 |mk (a:_) (C:_) (dx:_) (fs:_) (a_0:x= .ref a) (a_1:H2 a=some (.ins C dx fs)) (a_2:Cls K C) (a_3:jH K C f) (a_4:fs.length<1000) (a_5:N_ σ (upd H2 a (.ins C dx (xM f y fs)))):qN7 K f N_ σ y x H2
def qR5(K:Fg)(ta tv:TE)(f:Str):TS:=fun D σ H=>tv σ H fun y H1=>ta σ H1 fun x H2=>qN7 K f D.nx σ y x H2
def zK9(X:Cx)(op:Operator)(rd:V->V->Hp->VK->Prop):Prop:=
 ∀(pins:List (Addr×Obj))(s:Shared)(σ:St)(H:Hp)(x y:V)(u v:Value)(Q:VK),Inv X pins σ H s->zU x u->zU y v->rd x y H Q->wpAny (model X.prog X.w) X.A (inplaceOp op u v) (EP X pins σ Q) X.xe s
inductive gT(K:Fg)(tv:TE)(rd:V->V->Hp->VK->Prop)(f:Str)(N_:St->Hp->Prop)(σ:St)(x:V)(H1:Hp):Prop
 |mk (a:_) (C:_) (dx:_) (fs:_) (v:_) (a_0:x= .ref a) (a_1:H1 a=some (.ins C dx fs)) (a_2:Cls K C) (a_3:jH K C f) (a_4:fs.lookup f=some v) (a_5:tv σ H1 fun y H2=>rd v y H2 fun z H3=>∃dx' fs',H3 a=some (.ins C dx' fs')/\fs'.length<1000/\N_ σ (upd H3 a (.ins C dx' (xM f z fs')))):gT K tv rd f N_ σ x H1
def pR(K:Fg)(ta tv:TE)(rd:V->V->Hp->VK->Prop)(f:Str):TS:=fun D σ H=>ta σ H fun x H1=>gT K tv rd f D.nx σ x H1
section
variable {X:Cx} {o e value:Expr} {f:Str} {pos pos' tpos:Pos} {ta tv:TE}
theorem qR(he:PE X e ta)(hb:attributeBase e f X.env (eval e X.env)=eval e X.env):PE X (.Attribute e f pos) (gS X.K ta f):=by
 intro pins s σ H Q I h
 refine qOq hb (thn (he pins s σ H _ I h) fun u s1⟨x,H1,I1,rx,a,C,dx,fs,v,ex,ea,c,n,l,q⟩=>?_)
 subst ex
 obtain rfl:u=Value.ref a:=rx
 exact oY I1 ea c n l fun u' s2 I2 ru=>⟨v,H1,I2,ru,q⟩
theorem jP(ha:PE X o ta)(hv:PE X value tv)(hs:swapsWith value (some (.Attribute o f pos')) pos.line X.env=pure false):PS X (.Assign [.Attribute o f pos'] value pos) (qR5 X.K ta tv f):=by
 intro pins s σ H D I h
 refine plainObj_wpAny_Assign_Attribute (thn (hv pins s σ H _ I h) fun u s1⟨y,H1,I1,ry,q⟩=>thn (ha pins s1 σ H1 _ I1 q) fun ov s2⟨x,H2,I2,rx,a,C,dx,fs,ex,ea,c,n,l,q2⟩=>?_) hs
 subst ex
 obtain rfl:ov=Value.ref a:=rx
 exact oU I2 ea c n l ry fun s3 I3=>⟨σ,_,I3,q2⟩
theorem kH{op:Operator}{rd:V->V->Hp->VK->Prop}(ha:PE X o ta)(hv:PE X value tv)(hop:zK9 X op rd):PS X (.AugAssign (.Attribute o f tpos) op value pos) (pR X.K ta tv rd f):=by
 intro pins s σ H D I h
 refine wpAny_AugAssign_AttributeAny (thn (ha pins s σ H _ I h) fun ov s1⟨x,H1,I1,rx,a,C,dx,fs,v,ex,ea,c,n,l,q⟩=>?_)
 subst ex
 obtain rfl:ov=Value.ref a:=rx
 refine oY I1 ea c n l fun u s2 I2 ru=>thn (hv pins s2 σ H1 _ I2 q) fun w3 s3⟨y,H2,I3,ry,q3⟩=>thn (hop pins s3 σ H2 v y u w3 _ I3 ru ry q3) fun w4 s4⟨z,H3,I4,rz,dx',fs',ea',l',q4⟩=>?_
 exact oU I4 ea' c n l' rz fun s5 I5=>⟨σ,_,I5,q4⟩
inductive qN8(x:V)(y:V)(H:Hp)(Q:VK):Prop
 |mk (i:_) (j:_) (a_0:x= .int i) (a_1:y= .int j) (a_2:Q (.int (i+j)) H):qN8 x y H Q
def qOz:V->V->Hp->VK->Prop:=fun x y H Q=>qN8 x y H Q
theorem oO:zK9 X .Add qOz:=by
 rintro pins s σ H x y u v Q I rx ry ⟨i,j,rfl,rfl,q⟩
 obtain⟨t,rfl⟩:=(show∃t,u=Value.int i t from rx)
 obtain⟨t',rfl⟩:=(show∃t',v=Value.int j t' from ry)
 exact PyProof.Rows.iadd_int ⟨.int (i+j),H,I.tok _,⟨_,rfl⟩,q⟩
theorem methcall_of{pl:Sem Bool}{m:Str}{apos:Pos}{args:List Expr}{pins:List (Addr×Obj)}{s:Shared}{σ:St}{H:Hp}{Q:Value->Shared->Prop}{te:TE}(he:PE X e te)(I:Inv X pins σ H s)
  (h:te σ H fun x H1=>∃a C dx fs g,x= .ref a/\H1 a=some (.ins C dx fs)/\Cls X.K C/\Meth X.K C m g/\fs.lookup m=none/\
   ∀s1,Inv X pins σ H1 s1->wpAny (model X.prog X.w) X.A (callWith pos (.ref g) [.ref a] (backTo pos (starEach args X.env)) (backToKw pos (keywordEach [] X.env))) Q X.xe s1)
  (ht:eval (.Call (.Attribute e m apos) args [] pos) X.env=(do
   let ov<-eval e X.env
   standAt apos.atName
   let(f,first)<-holding [ov] (getMethod ov m pl)
   callWith pos f first (backTo pos (starEach args X.env)) (backToKw pos (keywordEach [] X.env)))):
  wpAny (model X.prog X.w) X.A (eval (.Call (.Attribute e m apos) args [] pos) X.env) Q X.xe s:=by
 refine PySem.W.methodCall_KW (pl:=pl) (thn (he pins s σ H _ I h) fun u s1⟨x,H1,I1,rx,a,C,dx,fs,g,ex,ea,c,k,l,q⟩=>?_) ht
 subst ex
 obtain rfl:u=Value.ref a:=rx
 exact wI I1 ea c k l (q s1 I1)
end
section
variable {X:Cx} {pins:List (Addr×Obj)} {σ:St} {H:Hp} {s:Shared} {A:Around} {E:Value->Shared->Prop} {Q:Value->Shared->Prop} {c:Value} {b:Bool}
end
structure Room(k:Nat)(A:Around):Prop where
 hd:A.handled=none
 dp:A.depth+3*k+5<recursionLimit
 un:A.units+16*k+200<cLine
theorem Room.mono{j k:Nat}{A:Around}(r:Room k A)(h:j<=k):Room j A:=⟨r.hd,by have :=r.dp;omega,by have :=r.un;omega⟩
theorem Room.deeper{k:Nat}{A:Around}(r:Room (k+1) A)(env:Env):Room k (A.deeper env):=
 ⟨r.hd,by have :=r.dp;show A.depth+1+3*k+5<_;omega,by have :=r.un;show A.units+3+16*k+200<_;omega⟩
theorem dJ{A:Around}{C:Addr}{us:List Value}{kw:List (Str×Value)}:(A.under (.builtin "type.__call__" ⟨.ref C::us,kw⟩)).depth=A.depth+1:=by
 first|rfl|simp[Around.under,Code.weight,Code.isCreation,Code.isGuard,Code.isCaller,Code.frames,Code.isFrame,guardIds]
theorem dW{A:Around}{C:Addr}{us:List Value}{kw:List (Str×Value)}:(A.under (.builtin "type.__call__" ⟨.ref C::us,kw⟩)).units=A.units+1:=by
 first|rfl|simp[Around.under,Code.cUnits,Code.frames,Code.isFrame]
theorem Room.make{k:Nat}{A:Around}(r:Room (k+1) A)(C:Addr)(us:List Value)(kw:List (Str×Value)):Room k (A.under (.builtin "type.__call__" ⟨.ref C::us,kw⟩)):=
 ⟨r.hd,by have :=r.dp;rw[dJ];omega,by have :=r.un;rw[dW];omega⟩
theorem Room.depth{k:Nat}{A:Around}(r:Room k A):A.depth<recursionLimit:=by have :=r.dp;omega
theorem Room.units0{k:Nat}{A:Around}(r:Room k A):A.units<cLine:=by have :=r.un;omega
def wC:TA:=fun _ H Q=>Q [] H
def xO(ta:TE)(tr:TA):TA:=fun σ H Q=>ta σ H fun x H1=>tr σ H1 fun xs H2=>Q (x::xs) H2
section
variable {X:Cx} {e:Expr} {es:List Expr} {te:TE} {t:TA} {pos:Pos}
theorem qJ:PA X [] wC:=fun _ _ _ _ H Q I h=>Calls.spliced_nil ⟨[],H,I,.nil,h⟩
theorem qQ(ha:PE X e te)(hr:PA X es t)(hs:starEach (e::es) X.env=(false,eval e X.env)::starEach es X.env:=by rfl):PA X (e::es) (xO te t):=by
 intro pos pins s σ H Q I h
 rw[hs]
 show wpAny _ _ (spliced ((false,eval e X.env)::backTo pos (starEach es X.env))) _ _ s
 refine Calls.spliced_cons (thn (ha pins s σ H _ I h) fun u s1⟨x,H1,I1,r1,q1⟩=>?_)
 exact thn (hr pos pins s1 σ H1 _ I1 q1) fun us s2⟨xs,H2,I2,r2,q2⟩=>⟨x::xs,H2,I2,.cons r1 r2,q2⟩
def qR6(t:TA):TE:=fun σ H Q=>t σ H fun xs H1=>xs.length<=sizeLine/\∀p,H1 p=none->Q (.ref p) (upd H1 p (.tup xs))
def qR7(t:TA):TE:=fun σ H Q=>t σ H fun xs H1=>xs.length<=sizeLine/\∀p,H1 p=none->Q (.ref p) (upd H1 p (.lst xs))
theorem zF{x1}(h:PA X es t):PE X (.Tuple es x1 pos) (qR6 t):=by
 intro pins s σ H Q I hq
 refine wpAny_Tuple_spliced (thn (h pos pins s σ H _ I hq) fun us s1⟨xs,H1,I1,r,z,q⟩=>⟨by rw[<-r.length];exact z,?_⟩)
 have hf:H1 s1.heap.objs.size=none:=I1.hok.fresh (aq7 _)
 refine⟨.ref s1.heap.objs.size,upd H1 s1.heap.objs.size (.tup xs),I1.laid (t':=s1.toks) (fun b u e=>Heap.get?_push_of_some _ e) (aq7 _) ?_,rfl,q _ hf⟩
 exact⟨z,us,r,⟨_,Heap.get?_push_size _ rfl,rfl,_,rfl⟩⟩
theorem jX(h:PA X es t):PE X (.List es pos) (qR7 t):=by
 intro pins s σ H Q I hq
 refine wpAny_List_spliced (thn (h pos pins s σ H _ I hq) fun us s1⟨xs,H1,I1,r,z,q⟩=>⟨by rw[<-r.length];exact z,?_⟩)
 have hf:H1 s1.heap.objs.size=none:=I1.hok.fresh (aq7 _)
 refine⟨.ref s1.heap.objs.size,upd H1 s1.heap.objs.size (.lst xs),I1.laid (t':=s1.toks) (fun b u e=>Heap.get?_push_of_some _ e) (aq7 _) ?_,rfl,q _ hf⟩
 exact⟨z,us,0,r,Heap.get?_push_size _ rfl⟩
end
abbrev Sp:=List V->Hp->VK->XK->Prop
abbrev CXT:=List Env->Hp->Shared->XK->Value->Shared->Prop
structure Env0(P:Program)(w:World)(K:Fg)(mg:Str->Option Value)(base:Heap)(A:Around)(outer:List Env)(s:Shared)(H:Hp):Prop where
 frames:A.frames=some outer
 mod:Mod K mg base
 bs:∀b o,base.get? b=some o->s.heap.get? b=some o/\H b=none
 bsz:base.objs.size<=s.heap.objs.size
 funs:s.heap.FunFrames base outer
 frf:∀b∈frs outer,H b=none
 hok:HOk P w H s.heap
 bare:AllBare s.gens
def CE(outer:List Env)(P:Program)(w:World)(H:Hp)(s:Shared)(Q:VK)(u:Value)(s':Shared):Prop:=
 ∃v H',s'.os=s.os/\AllBare s'.gens/\Un (frs outer) [] H H' s.heap s'.heap/\HOk P w H' s'.heap/\zU v u/\Q v H'
def CR(CX:CXT)(outer:List Env)(P:Program)(w:World)(H:Hp)(s:Shared)(Q:VK)(E:XK)(r:Result)(s':Shared):Prop:=
 match r with
 | .ok (.ret u)=>CE outer P w H s Q u s'
 | .ok _=>False
 | .error e=>CX outer H s E e s'
structure qS(P:Program)(w:World)(K:Fg)(mg:Str->Option Value)(base:Heap)(CX:CXT)(k:Nat)(f:Addr)(fd:FuncData)(ps:List Str)(sp:Sp):Prop where
 len:∀vs H Q E,sp vs H Q E->vs.length=ps.length
 run:∀(A:Around)(outer:List Env)(s:Shared)(H:Hp)(args:Args)(us:List Value)(vs:List V)(Q:VK)(E:XK),Room k A->Env0 P w K mg base A outer s H->BindsTo s fd args (ps.zip us)->Vals vs us->sp vs H Q E->
  codeAny (model P w) A (.call (.ref f) args) (CR CX outer P w H s Q E) s
theorem Env0.make{P:Program}{w:World}{K:Fg}{mg:Str->Option Value}{base:Heap}{A:Around}{outer:List Env}{s:Shared}{H:Hp}(e:Env0 P w K mg base A outer s H)(C:Addr)(us:List Value)(kw:List (Str×Value)):
  Env0 P w K mg base (A.under (.builtin "type.__call__" ⟨.ref C::us,kw⟩)) outer s H:=⟨by first|exact e.frames|(simpa[Around.under,Code.envs,Code.isFrame,pushEnvs]using e.frames),e.mod,e.bs,e.bsz,e.funs,e.frf,e.hok,e.bare⟩
section
variable {X:Cx} {pins:List (Addr×Obj)} {σ:St} {H:Hp} {s s':Shared}
theorem Inv.env0(I:Inv X pins σ H s):Env0 X.prog X.w X.K X.mg X.base X.A X.stack s H:=
 ⟨I.ok.frames,I.ok.mod,I.bs,Nat.le_trans I.ok.bsz I.sz,I.stack,I.stkFree,I.hok,I.bare⟩
theorem Inv.after{Q:VK}{u:Value}(I:Inv X pins σ H s)(h:CE X.stack X.prog X.w H s Q u s'):EP X pins σ Q u s':=by
 obtain⟨v,H',os,bare,un,hok,r,q⟩:=h
 obtain⟨hh,g,d,t,os'⟩:=s'
 obtain rfl:os'=s.os:=os
 exact⟨v,H',I.call (h':=hh) (g':=g) (d':=d) (t':=t) (ch:=[]) un hok bare (fun b z=>absurd z (by simp)),r,q⟩
end
def oI(sp:Sp)(dvs:List V)(E:XK)(t:TA):TE:=fun σ H Q=>t σ H fun vs H1=>sp (vs++dvs) H1 Q E
inductive eW(C:Addr)(m:Str)(sp:Sp)(dvs:List V)(E:XK)(t:TA)(σ:St)(Q:VK)(x:V)(H1:Hp):Prop
 |mk (a:_) (dx:_) (fs:_) (a_0:x= .ref a) (a_1:H1 a=some (.ins C dx fs)) (a_2:fs.lookup m=none) (a_3:t σ H1 fun vs H2=>sp (x::(vs++dvs)) H2 Q E):eW C m sp dvs E t σ Q x H1
def qN9(C:Addr)(m:Str)(sp:Sp)(dvs:List V)(E:XK)(ta:TE)(t:TA):TE:=fun σ H Q=>ta σ H fun x H1=>eW C m sp dvs E t σ Q x H1
def zKq(C:Addr)(sp:Sp)(dvs:List V)(E:XK)(t:TA):TE:=fun σ H Q=>t σ H fun vs H1=>∀x dx,H1 x=none->H1 dx=none->dx≠x->
 sp (.ref x::(vs++dvs)) (upd (upd H1 dx (.own x)) x (.ins C dx [])) (fun v H2=>v= .non/\Q (.ref x) H2) E
def Binds(K:Fg)(fd:FuncData)(ps:List Str)(ds:List Value):Prop:=
 ∀(s:Shared)(us:List Value),K.In s.heap->(us++ds).length=ps.length->BindsTo s fd ⟨us,[]⟩ (ps.zip (us++ds))
def Passes(CX:CXT)(X:Cx)(E:XK):Prop:=∀(pins:List (Addr×Obj))(σ:St)(H:Hp)(s:Shared)(e:Value)(s':Shared),Inv X pins σ H s->CX X.stack H s E e s'->X.xe e s'
section
variable {X:Cx} {CX:CXT} {k:Nat} {f C:Addr} {fd:FuncData} {ps:List Str} {sp:Sp} {dvs:List V} {ds:List Value} {E:XK} {x m:Str} {p pos apos:Pos} {e o:Expr} {es:List Expr} {ta:TE} {t:TA}
theorem lZ{pins:List (Addr×Obj)}{σ:St}{H:Hp}{s:Shared}{Q:VK}{us:List Value}{vs:List V}(F:qS X.prog X.w X.K X.mg X.base CX k f fd ps sp)(hr:Room k X.A)(hb:Binds X.K fd ps ds)(hd:Vals dvs ds)(hx:Passes CX X E)
  (I:Inv X pins σ H s)(r:Vals vs us)(h:sp (vs++dvs) H Q E):wpAny (model X.prog X.w) X.A (call (.ref f) us) (EP X pins σ Q) X.xe s:=by
 have r2:Vals (vs++dvs) (us++ds):=r.append hd
 have hl:(us++ds).length=ps.length:=by rw[<-r2.length];exact F.len _ _ _ _ h
 refine wpAny_call (codeAny_mono (F.run X.A X.stack s H ⟨us,[]⟩ (us++ds) (vs++dvs) Q E hr I.env0 (hb s us I.kIn hl) r2 h) fun r s' hq=>?_)
 cases r with
 |error e=>exact hx pins σ H s e s' I hq
 |ok fl=>
  cases fl with
  |ret u=>exact I.after hq
  |next=>exact False.elim hq
  |brk=>exact False.elim hq
  |cont=>exact False.elim hq
theorem vK(F:qS X.prog X.w X.K X.mg X.base CX k f fd ps sp)(hr:Room k X.A)(hg:Gl X x)(hm:X.mg x=some (.ref f))(hk:PySem.W.keepIn X.K (.ref f)=true)(hb:Binds X.K fd ps ds)(hd:Vals dvs ds)(hx:Passes CX X E)
  (ha:PA X (e::es) t)(hdb:(x==("__debug__":Str))=false:=by decide)(he:starEach (e::es) X.env=(false,eval e X.env)::starEach es X.env:=by rfl)(hpl:(backTo pos (starEach es X.env)).any (·.1)=false:=by rfl):
  PE X (.Call (.Name x p) (e::es) [] pos) (oI sp dvs E t):=by
 intro pins s σ H Q I h
 refine wpAny_Call_Name_kw (cH I hg hm ?_ hdb)
 refine PySem.W.callWith_K (h₀:=X.base) I.ok.mod.kin hk (thn (ha pos pins s σ H _ I h) fun us s1⟨vs,H1,I1,r,q⟩=>⟨I1.kIn,?_⟩) he hpl
 exact lZ F hr hb hd hx I1 r q
theorem wA{pl:Sem Bool}(he:PE X o ta)(c:Cls X.K C)(hm:Meth X.K C m f)(F:qS X.prog X.w X.K X.mg X.base CX k f fd ps sp)(hr:Room k X.A)(hb:Binds X.K fd ps ds)(hd:Vals dvs ds)(hx:Passes CX X E)(ha:PA X (e::es) t)
  (hst:starEach (e::es) X.env=(false,eval e X.env)::starEach es X.env:=by rfl)(hpl:(backTo pos (starEach es X.env)).any (·.1)=false:=by rfl)
  (ht:eval (.Call (.Attribute o m apos) (e::es) [] pos) X.env=(do
   let ov<-eval o X.env
   standAt apos.atName
   let(f,first)<-holding [ov] (getMethod ov m pl)
   callWith pos f first (backTo pos (starEach (e::es) X.env)) (backToKw pos (keywordEach [] X.env))):=by rfl):
  PE X (.Call (.Attribute o m apos) (e::es) [] pos) (qN9 C m sp dvs E ta t):=by
 intro pins s σ H Q I h
 refine PySem.W.methodCall_KW (pl:=pl) (thn (he pins s σ H _ I h) fun u s1⟨x,H1,I1,rx,a,dx,fs,ex,ea,l,q⟩=>?_) ht
 subst ex
 obtain rfl:u=Value.ref a:=rx
 refine wI I1 ea c hm l ?_
 refine PySem.W.callWith_K (first:=[.ref a]) (h₀:=X.base) I.ok.mod.kin hm.kp (thn (ha pos pins s1 σ H1 _ I1 q) fun us s2⟨vs,H2,I2,r,q2⟩=>⟨I2.kIn,?_⟩) hst hpl
 exact lZ (us:=.ref a::us) (vs:=.ref a::vs) F hr hb hd hx I2 (.cons rfl r) q2
theorem wE{pl:Sem Bool}(he:PE X o ta)(c:Cls X.K C)(hm:Meth X.K C m f)(F:qS X.prog X.w X.K X.mg X.base CX k f fd ps sp)(hr:Room k X.A)(hb:Binds X.K fd ps ds)(hd:Vals dvs ds)(hx:Passes CX X E)
  (ht:eval (.Call (.Attribute o m apos) [] [] pos) X.env=(do
   let ov<-eval o X.env
   standAt apos.atName
   let(f,first)<-holding [ov] (getMethod ov m pl)
   callWith pos f first (backTo pos (starEach [] X.env)) (backToKw pos (keywordEach [] X.env))):=by rfl):
  PE X (.Call (.Attribute o m apos) [] [] pos) (qN9 C m sp dvs E ta wC):=by
 intro pins s σ H Q I h
 refine PySem.W.methodCall_KW (pl:=pl) (thn (he pins s σ H _ I h) fun u s1⟨x,H1,I1,rx,a,dx,fs,ex,ea,l,q⟩=>?_) ht
 subst ex
 obtain rfl:u=Value.ref a:=rx
 refine wI I1 ea c hm l ?_
 exact PySem.W.callWith_K0 (first:=[.ref a]) I1.kIn hm.kp (lZ (us:=[.ref a]) (vs:=[.ref a]) F hr hb hd hx I1 (.cons rfl .nil) q)
structure Mk(K:Fg)(C f:Addr):Prop where
 makes:PySem.W.makesIn K C=true
 init:PySem.W.findIn K (.ref C) "__init__"=some (some (.ref f))
 fn:PySem.W.isFn K (.ref f)=true
 kp:PySem.W.keepIn K (.ref C)=true
theorem eY{pins:List (Addr×Obj)}{σ:St}{H:Hp}{s:Shared}{Q:VK}{us:List Value}{vs:List V}(M:Mk X.K C f)(F:qS X.prog X.w X.K X.mg X.base CX k f fd ps sp)(hr:Room (k+1) X.A)(hb:Binds X.K fd ps ds)(hd:Vals dvs ds)
  (hx:Passes CX X E)(I:Inv X pins σ H s)(r:Vals vs us)
  (h:∀x dx,H x=none->H dx=none->dx≠x->sp (.ref x::(vs++dvs)) (upd (upd H dx (.own x)) x (.ins C dx [])) (fun v H2=>v= .non/\Q (.ref x) H2) E):
  wpAny (model X.prog X.w) X.A (call (.ref C) us) (EP X pins σ Q) X.xe s:=by
 have hq:=h (s.heap.objs.size+1) s.heap.objs.size (I.hok.fresh (Nat.le_succ _)) (I.hok.fresh (aq7 _)) (aq9 (Nat.lt_succ_self _))
 have I2:=Inv.made (C:=C) I
 have r2:Vals (V.ref (s.heap.objs.size+1)::(vs++dvs)) (Value.ref (s.heap.objs.size+1)::(us++ds)):=.cons rfl (r.append hd)
 have hl:(Value.ref (s.heap.objs.size+1)::us++ds).length=ps.length:=by
  have e:=r2.length
  rw[F.len _ _ _ _ hq]at e
  exact e.symm
 refine wpAny_call (eV (f:=f) I.kIn M.makes M.init (beq_iff_eq.mp M.fn) (codeAny_mono (F.run _ X.stack _ _ ⟨Value.ref (s.heap.objs.size+1)::us,[]⟩ (Value.ref (s.heap.objs.size+1)::(us++ds)) _ _ E (hr.make C us [])
  (I2.env0.make C us []) (hb _ (Value.ref (s.heap.objs.size+1)::us) I2.kIn hl) r2 hq) fun r s' hq'=>?_))
 cases r with
 |error e=>exact hx pins σ _ _ e s' I2 hq'
 |ok fl=>
  cases fl with
  |ret u=>
   obtain⟨v,H',I3,rv,ev,q3⟩:=I2.after hq'
   subst ev
   exact⟨rv,⟨V.ref (s.heap.objs.size+1),H',I3,rfl,q3⟩⟩
  |next=>exact False.elim hq'
  |brk=>exact False.elim hq'
  |cont=>exact False.elim hq'
theorem pS(M:Mk X.K C f)(F:qS X.prog X.w X.K X.mg X.base CX k f fd ps sp)(hr:Room (k+1) X.A)(hg:Gl X x)(hm:X.mg x=some (.ref C))(hb:Binds X.K fd ps ds)(hd:Vals dvs ds)(hx:Passes CX X E)
  (ha:PA X (e::es) t)(hdb:(x==("__debug__":Str))=false:=by decide)(he:starEach (e::es) X.env=(false,eval e X.env)::starEach es X.env:=by rfl)(hpl:(backTo pos (starEach es X.env)).any (·.1)=false:=by rfl):
  PE X (.Call (.Name x p) (e::es) [] pos) (zKq C sp dvs E t):=by
 intro pins s σ H Q I h
 refine wpAny_Call_Name_kw (cH I hg hm ?_ hdb)
 refine PySem.W.callWith_K (h₀:=X.base) I.ok.mod.kin M.kp (thn (ha pos pins s σ H _ I h) fun us s1⟨vs,H1,I1,r,q⟩=>⟨I1.kIn,?_⟩) he hpl
 exact eY M F hr hb hd hx I1 r q
end
section
variable {X:Cx} {CX:CXT} {k:Nat} {f C:Addr} {fd:FuncData} {ps ks:List Str} {sp:Sp} {E:XK} {x m:Str} {p pos apos kpos:Pos} {e o:Expr} {es:List Expr} {kws:List Keyword} {te ta:TE} {t tk:TA} {nm:Option Str}
variable {g:List Value->List Value->List Value} {gV:List V->List V->List V}
end
structure qO(N P:List Str)(sc:Scope):Prop where
 kind:sc.kind= .function
 co:sc.isCoroutine=false
 gen:sc.isGenerator=false
 nd:N.Nodup
 pre:N.take P.length=P
 par:∀x∈P,sc.names.lookup x=some .local\/sc.names.lookup x=some .cell
 nofree:∀y∈sc.names,y.2≠ .free
theorem iS{kindOf:Str->Option NameKind}{x:Str}:∀{binds:List (Str×Value)}{m:Str->Option Value},(∀v,(x,v)∉binds)->bindL kindOf binds m x=m x
 |[],_,_=>rfl
 |(n,v)::r,m,h=>by
  unfold bindL
  rw[iS fun w hw=>h w (aq10 _ hw)]
  split
  ·have :x≠n:=by rintro rfl;exact h v List.mem_cons_self
   simp[this]
  ·rfl
theorem iT{kindOf:Str->Option NameKind}{x:Str}:∀{binds:List (Str×Value)}{m:Str->Option Value},(∀v,(x,v)∉binds)->bindC kindOf binds m x=m x
 |[],_,_=>rfl
 |(n,v)::r,m,h=>by
  unfold bindC
  rw[iT fun w hw=>h w (aq10 _ hw)]
  split
  ·rfl
  ·have :x≠n:=by rintro rfl;exact h v List.mem_cons_self
   simp[this]
theorem iA{kindOf:Str->Option NameKind}{x:Str}{v:Value}:∀{P:List Str}{vs:List Value}{i:Nat}{m:Str->Option Value},P.Nodup->P[i]? =some x->vs[i]? =some v->kindOf x=some .local->
  bindL kindOf (P.zip vs) m x=some v
 |[],_,_,_,_,h,_,_=>by simp at h
 |_::_,[],_,_,_,_,h,_=>by simp at h
 |p::P,w::vs,0,m,nd,h1,h2,hk=>by
  simp at h1 h2;subst h1;subst h2
  show bindL kindOf ((p,w)::P.zip vs) m p=_
  unfold bindL
  rw[iS fun v hv=>(List.nodup_cons.mp nd).1 (List.of_mem_zip hv).1,if_pos hk]
  simp
 |p::P,w::vs,i+1,m,nd,h1,h2,hk=>by
  show bindL kindOf ((p,w)::P.zip vs) m x=_
  unfold bindL
  exact iA (i:=i) (List.nodup_cons.mp nd).2 (by simpa using h1) (by simpa using h2) hk
theorem iE{kindOf:Str->Option NameKind}{x:Str}{v:Value}:∀{P:List Str}{vs:List Value}{i:Nat}{m:Str->Option Value},P.Nodup->P[i]? =some x->vs[i]? =some v->kindOf x≠some .local->
  bindC kindOf (P.zip vs) m x=some v
 |[],_,_,_,_,h,_,_=>by simp at h
 |_::_,[],_,_,_,_,h,_=>by simp at h
 |p::P,w::vs,0,m,nd,h1,h2,hk=>by
  simp at h1 h2;subst h1;subst h2
  show bindC kindOf ((p,w)::P.zip vs) m p=_
  unfold bindC
  rw[iT fun v hv=>(List.nodup_cons.mp nd).1 (List.of_mem_zip hv).1,if_neg hk]
  simp
 |p::P,w::vs,i+1,m,nd,h1,h2,hk=>by
  show bindC kindOf ((p,w)::P.zip vs) m x=_
  unfold bindC
  exact iE (i:=i) (List.nodup_cons.mp nd).2 (by simpa using h1) (by simpa using h2) hk
def start(N:List Str)(vs:List V):St:=vs.map some++List.replicate (N.length-vs.length) none
def oG(CX:CXT)(P:Program)(w:World)(K:Fg)(mg:Str->Option Value)(base:Heap)(N:List Str)(qual:Str)(scope:Scope)(f:Addr)(cd:Value)(A:Around)(outer:List Env)(s:Shared)(H:Hp)(E:XK):Cx where
 prog:=P
 w:=w
 K:=K
 mg:=mg
 base:=base
 A:=A.deeper (envOfC qual scope s.heap.objs.size f cd)
 N:=N
 s₀:=s
 H₀:=H
 env:=envOfC qual scope s.heap.objs.size f cd
 outer:=outer
 stack:=envOfC qual scope s.heap.objs.size f cd::outer
 ex:=[]
 calm:=true
 fn:=fun _=>true
 pn:=[]
 xe:=fun e s'=>wpAny (model P w) (A.deeper (envOfC qual scope s.heap.objs.size f cd)) (leaving (envOfC qual scope s.heap.objs.size f cd) e) (fun _ s''=>CX outer H s E e s'') (fun e' s''=>CX outer H s E e' s'') s'
theorem gA{sc:Scope}{n:Nat}{x:Str}(h:sc.names.lookup x=some .cell):∃c,(cellsFrom n sc.names []).lookup x=some c:=by
 have q:=PySem.W.cellsFrom_some sc.names n [] (.inl h)
 exact Option.isSome_iff_exists.mp q
theorem tX{CX:CXT}{P:Program}{w:World}{K:Fg}{mg:Str->Option Value}{base:Heap}{N ps:List Str}{qual:Str}{scope:Scope}{f:Addr}{cd:Value}{A:Around}{outer:List Env}{s s1:Shared}{H:Hp}{E:XK}{us:List Value}{vs:List V}
  (S:qO N ps scope)(hd:A.handled=none)(e0:Env0 P w K mg base A outer s H)(hl:vs.length=ps.length)(r:Vals vs us)
  (x:InCallC s s.heap.objs.size (bindL (envOfC qual scope s.heap.objs.size f cd).kindOf (ps.zip us) fun _=>none) (cellsFrom (s.heap.objs.size+1) scope.names []) (bindC (envOfC qual scope s.heap.objs.size f cd).kindOf (ps.zip us) fun _=>none) s1):
  Inv (oG CX P w K mg base N qual scope f cd A outer s H E) [] (start N vs) H s1:=by
 have hpl:ps.length<=N.length:=by have :=congrArg List.length S.pre;rw[List.length_take]at this;omega
 obtain⟨h1,tk,rfl,hk⟩:=x.done
 have noA:∀b:Addr,b∉(oG CX P w K mg base N qual scope f cd A outer s H E).ex:=fun b z=>absurd (show b∈([]:List Addr)from z) (by simp)
 refine⟨⟨e0.mod,S.kind,rfl,rfl,aq7 _,fun y z c h1 h2=>?_,fun y hy=>?_,fun y c _ h=>?_,fun _=>hd,Around.frames_deeper e0.frames,.inr ⟨rfl,rfl⟩,fun b z=>absurd z (noA b),e0.bs,e0.bsz,fun b _ _=>noA b,fun b z=>absurd z (noA b),e0.funs,e0.frf⟩,
  rfl,e0.bare,Un.kept hk,⟨_,x.toInCall.ns,fun i y v h1 h2 h3=>?_⟩,fun y c h=>⟨_,x.cell y c h⟩,e0.hok.fresh (aq7 _),fun y c h=>?_,fun p hp=>absurd (show p∈([]:List (Addr×Obj))from hp) (by simp),e0.hok.kept hk,?_⟩
 ·exact name_of_addr x.apart (PySem.mem_of_lookup h1) (PySem.mem_of_lookup h2)
 ·have hy:scope.names.lookup y=some .cell\/scope.names.lookup y=some .free:=hy
  rcases hy with hy|hy
  ·exact gA hy
  ·exact absurd rfl (S.nofree _ (PySem.mem_of_lookup hy))
 ·exact Nat.le_of_lt (x.above y c (PySem.mem_of_lookup h))
 ·have hi:i<vs.length:=by
   unfold start at h2
   by_cases hi:i<vs.length
   ·exact hi
   ·rw[List.getElem?_append_right (by simpa using hi)]at h2
    rw[List.getElem?_replicate]at h2
    split at h2<;>cases h2
  have ha:vs[i]? =some v:=by
   unfold start at h2
   rw[List.getElem?_append_left (by simpa using hi),List.getElem?_map]at h2
   cases e:vs[i]?with
   |none=>rw[e]at h2;cases h2
   |some a=>rw[e]at h2;cases h2;rfl
  obtain⟨u,hu,rv⟩:=r.get ha
  have hp:ps[i]? =some y:=by
   rw[<-S.pre,List.getElem?_take_of_lt (by omega)];exact h1
  have ndP:ps.Nodup:=by rw[<-S.pre];exact S.nd.sublist (List.take_sublist _ _)
  refine⟨u,rv,?_⟩
  rcases S.par y (List.mem_of_getElem? hp)with k|k
  ·exact .inl ⟨k,iA ndP hp hu k⟩
  ·obtain⟨c,e⟩:=gA (n:=s.heap.objs.size+1) k
   refine .inr ⟨.inl k,c,e,?_⟩
   have q:=x.cell y c e
   rw[iE ndP hp hu (by show scope.names.lookup y≠_;rw[k];decide)]at q
   exact q
 ·exact e0.hok.fresh (Nat.le_of_lt (x.above y c (PySem.mem_of_lookup h)))
 ·unfold start
  show _=N.length
  rw[List.length_append,List.length_map,List.length_replicate]
  omega
theorem zKz{CX:CXT}{P:Program}{w:World}{K:Fg}{mg:Str->Option Value}{base:Heap}{k:Nat}{f:Addr}{name qual:Str}{params:Arguments}{body:List Stmt}{scope:Scope}{dV kV doc pm cdv ct oc:Value}{an od:Option Addr}
  {osl:Array (Option Value)}{N ps:List Str}{sp:Sp}(lk:K.lookup f=some ⟨oc,od,.func (PySem.W.fnOf name qual params body scope dV kV doc pm an cdv ct),osl⟩)(hcd:PySem.W.codeIn K cdv qual=true)(S:qO N ps scope)
  (len:∀vs H Q E,sp vs H Q E->vs.length=ps.length)
  (hbody:∀(A:Around)(outer:List Env)(s:Shared)(H:Hp)(vs:List V)(Q:VK)(E:XK),Room k (A.deeper (envOfC qual scope s.heap.objs.size f cdv))->sp vs H Q E->
   ∃t,PSs (oG CX P w K mg base N qual scope f cdv A outer s H E) body t/\t {nx:=fun _ H'=>Q .non H',rt:=Q} (start N vs) H):
  qS P w K mg base CX (k+1) f (PySem.W.fnOf name qual params body scope dV kV doc pm an cdv ct) ps sp:=by
 refine⟨len,fun A outer s H args us vs Q E hr e0 hb r hsp=>?_⟩
 have hl:=len _ _ _ _ hsp
 have KX:K.In s.heap:=e0.mod.kin.keeps fun b o e=>(e0.bs b o e).1
 have lim:s.heap.NoLimit:=e0.mod.nolimit.keeps fun b o e=>(e0.bs b o e).1
 have hkind:∀y∈ps.zip us,scope.names.lookup y.1=some .local\/(scope.names.lookup y.1=some .cell/\((cellsFrom (s.heap.objs.size+1) scope.names []).lookup y.1).isSome=true):=fun⟨n,v⟩hy=>by
  rcases S.par n (List.of_mem_zip hy).1 with q|q
  ·exact .inl q
  ·exact .inr ⟨q,PySem.W.cellsFrom_some _ _ _ (.inl q)⟩
 refine codeAny_call_function hr.depth (KX _ _ lk) rfl S.co S.gen rfl (PySem.W.codeRec_of KX hcd) (hb _ _ _ _ ?_)
 refine wpAny_newFunctionEnv_cells S.kind hkind fun env he s1 x=>?_
 subst he
 refine⟨lim.keeps x.toInCall.keep,codeAny_func ?_⟩
 obtain⟨t,ht,hq⟩:=hbody A outer s H vs Q E (hr.deeper _) hsp
 have I:Inv (oG CX P w K mg base N qual scope f cdv A outer s H E) [] (start N vs) H s1:=tX S hr.hd e0 hl r x
 refine wpAny_mono (ht [] s1 (start N vs) H _ I hq) (fun fl s' hs=>?_) fun e s' hs=>hs
 have fin:∀{σ':St}{H':Hp}{v:V}{u:Value},Inv (oG CX P w K mg base N qual scope f cdv A outer s H E) [] σ' H' s'->zU v u->Q v H'->CE outer P w H s Q u s':=
  fun {σ' H' v u}J rv q=>⟨v,H',J.os,J.bare,J.base,J.hok,rv,q⟩
 cases fl with
 |ret u=>
  obtain⟨v,σ',H',J,rv,q⟩:=hs
  exact fin J rv q
 |next=>
  obtain⟨σ',H',J,q⟩:=hs
  exact fin (v:=V.non) (u:=Value.none) J rfl q
 |brk=>
  obtain⟨_,_,_,q⟩:=hs
  exact False.elim q
 |cont=>
  obtain⟨_,_,_,q⟩:=hs
  exact False.elim q
section
variable {X:Cx} {x:Str} {p pos:Pos} {e:Expr} {es:List Expr} {t:TA} {id T:String} {r:List V->Hp->VK->Prop}
def tCB(r:List V->Hp->VK->Prop)(t:TA):TE:=fun σ H Q=>t σ H fun vs H1=>r vs H1 Q
theorem zI(hc:kO X (.builtin id) r)(hg:Gl X x)(hm:X.mg x=none)(hv:bootBuiltins x=some (.builtin id))(ha:PA X (e::es) t)(hn:x≠"__name__":=by decide)(hdb:(x==("__debug__":Str))=false:=by decide)
  (he:starEach (e::es) X.env=(false,eval e X.env)::starEach es X.env:=by rfl)(hpl:(backTo pos (starEach es X.env)).any (·.1)=false:=by rfl):PE X (.Call (.Name x p) (e::es) [] pos) (tCB r t):=by
 intro pins s σ H Q I h
 refine wpAny_Call_Name_kw (vZ I hg hm hv ?_ hn hdb)
 exact PyProof.Rows.callWith_builtin1 (thn (ha pos pins s σ H _ I h) fun us s1⟨vs,H1,I1,r1,q1⟩=>hc pins s1 σ H1 vs us Q I1 r1 q1) he hpl
theorem xW(hc:kO X (.type T) r)(hg:Gl X x)(hm:X.mg x=none)(hv:bootBuiltins x=some (.type T))(ha:PA X (e::es) t)(hn:x≠"__name__":=by decide)(hdb:(x==("__debug__":Str))=false:=by decide)
  (he:starEach (e::es) X.env=(false,eval e X.env)::starEach es X.env:=by rfl)(hpl:(backTo pos (starEach es X.env)).any (·.1)=false:=by rfl):PE X (.Call (.Name x p) (e::es) [] pos) (tCB r t):=by
 intro pins s σ H Q I h
 refine wpAny_Call_Name_kw (vZ I hg hm hv ?_ hn hdb)
 exact PyProof.Rows.callWith_type1 (thn (ha pos pins s σ H _ I h) fun us s1⟨vs,H1,I1,r1,q1⟩=>hc pins s1 σ H1 vs us Q I1 r1 q1) he hpl
end
end L2
namespace HT
open PySem PyProof.Rows
section
open PySem.SeqAt
open PySem.AutoSeq1 (wpAny_loadPart')
open PySem.MeetsSeq PySem.MeetsSeq2 PySem.MeetsSeq3
end
section
variable {prog:Program} {w:World} {A:Around} {E:Value->Shared->Prop} {s:Shared}
def sIx(n d:Nat):Option Int->Nat
 |none=>d
 |some v=>if v<0 then(v+(n:Int)).toNat else min v.toNat n
theorem sIx_none(n d:Nat):sIx n d none=d:=rfl
theorem qR8(n d:Nat)(hd:d<=n)(o:Option Int):sIx n d o<=n:=by
 cases o with
 |none=>exact hd
 |some v=>
  show(if v<0 then(v+(n:Int)).toNat else min v.toNat n)<=n
  by_cases hv:v<0
  ·rw[if_pos hv];omega
  ·rw[if_neg hv];exact Nat.min_le_right _ _
theorem pT(v:Int)(n d:Nat):(if v<0 then max (v+(n:Int)) 0 else min v (n:Int))=((sIx n d (some v):Nat):Int):=by
 show(if v<0 then max (v+(n:Int)) 0 else min v (n:Int))=(((if v<0 then(v+(n:Int)).toNat else min v.toNat n):Nat):Int)
 by_cases hv:v<0
 ·simp only[if_pos hv];omega
 ·simp only[if_neg hv];omega
theorem dY(lo hi:Option Int)(n:Nat):Builtin.Slice.sliceAdjust lo hi 1 (n:Int)=(((sIx n 0 lo:Nat):Int),((sIx n n hi:Nat):Int)):=by
 have h1:¬((1:Int)<0):=by omega
 unfold Builtin.Slice.sliceAdjust
 simp only[h1,if_false]
 refine Prod.ext ?_ ?_
 ·cases lo with
  |none=>rfl
  |some v=>exact pT v n 0
 ·cases hi with
  |none=>rfl
  |some v=>exact pT v n n
theorem dU(i j:Nat):Builtin.Slice.slicePlaces (i:Int) (j:Int) 1=j-i:=by
 unfold Builtin.Slice.slicePlaces
 have h1:(1:Int)>0:=by omega
 simp only[h1,if_true,Int.ediv_one]
 split<;>omega
theorem oM{v:Value}{o:Option Int}{Q:Option Int->Shared->Prop}(p:IsPart v o)(h:Q o s):wpAny (model prog w) A (Builtin.Slice.slicePartIndex v) Q E s:=by
 cases p with
 |none=>exact slicePart_none h
 |int i t=>exact slicePart_int h
theorem uQ{sl:Addr}{vl vu:Value}{lo hi:Option Int}{n:Nat}{Q:Int×Int×Nat->Shared->Prop}(hs:s.heap.IsSliceOf sl vl vu .none)(pl:IsPart vl lo)(pu:IsPart vu hi)
  (h:Q (((sIx n 0 lo:Nat):Int),1,sIx n n hi-sIx n 0 lo) s):wpAny (model prog w) A (Builtin.Slice.sliceApplied (.ref sl) (pure (n:Int))) Q E s:=by
 obtain⟨os,hos,hcs,hds⟩:=id hs
 unfold Builtin.Slice.sliceApplied Builtin.Slice.sliceFields
 refine wpAny_bind (wpAny_bind (wpAny_field hos hds (x:=vl) rfl (wpAny_bind (wpAny_field hos hds (x:=vu) rfl (wpAny_bind (wpAny_field hos hds (x:=.none) rfl (wpAny_pure ?_)))))))
 refine wpAny_bind (slicePart_none ?_)
 show wpAny _ _ (if((1:Int)==0)=true then _ else _) _ _ s
 rw[if_neg (by decide)]
 refine wpAny_bind (oM pl (wpAny_bind (oM pu (wpAny_bind (wpAny_pure ?_)))))
 show wpAny _ _ (match Builtin.Slice.sliceAdjust lo hi 1 (n:Int)with |(lo,hi)=>pure (lo,(1:Int),Builtin.Slice.slicePlaces lo hi 1)) _ _ s
 rw[dY lo hi n]
 show wpAny _ _ (pure (((sIx n 0 lo:Nat):Int),(1:Int),Builtin.Slice.slicePlaces ((sIx n 0 lo:Nat):Int) ((sIx n n hi:Nat):Int) 1)) _ _ s
 rw[dU]
 exact wpAny_pure h
theorem eU(xs:Array Value)(i k:Nat):((List.range k).filterMap fun(m:Nat)=>xs[((i:Int)+(m:Int)*1).toNat]?).toArray=((xs.toList.drop i).take k).toArray:=by
 have e:(fun(m:Nat)=>xs[((i:Int)+(m:Int)*1).toNat]?)=fun m=>xs[i+m]? :=by
  funext m
  have :((i:Int)+(m:Int)*1).toNat=i+m:=by omega
  rw[this]
 rw[e]
 have :=pick_run xs i k
 rw[List.filterMap_map]at this
 have e2:((fun x=>xs[x]?)∘fun x=>i+x)=fun m=>xs[i+m]? :=rfl
 rw[e2]at this
 rw[this]
theorem getItem_tuple_cut{t sl:Addr}{items:Array Value}{vl vu:Value}{lo hi:Option Int}{Q:Value->Shared->Prop}(ht:IsTup s.heap t items)(hs:s.heap.IsSliceOf sl vl vu .none)(pl:IsPart vl lo)(pu:IsPart vu hi)
  (hw:¬(sIx items.size 0 lo=0/\sIx items.size items.size hi=items.size))
  (h:Q (.ref s.heap.objs.size) {s with heap:=s.heap.push {cls:=.type "tuple",data:=.seq ((items.toList.drop (sIx items.size 0 lo)).take (sIx items.size items.size hi-sIx items.size 0 lo)).toArray}})
  (hsz:items.size<=sizeLine):wpAny (model prog w) A (getItem (.ref t) (.ref sl)) Q E s:=by
 have htake:sizeOk (.seq ((items.toList.drop (sIx items.size 0 lo)).take (sIx items.size items.size hi-sIx items.size 0 lo)).toArray):=by
  show((items.toList.drop (sIx items.size 0 lo)).take (sIx items.size items.size hi-sIx items.size 0 lo)).toArray.size<=sizeLine
  rw[List.size_toArray,List.length_take,List.length_drop,Array.length_toList]
  omega
 have hj:sIx items.size items.size hi<=items.size:=qR8 _ _ (aq7 _) hi
 obtain⟨os,hos,hcs,hds⟩:=id hs
 have hTs:s.TypeIs (.ref sl) "slice":=⟨os,hos,hcs⟩
 unfold getItem
 try with_reducible refine wpAny_holding ?_
 first|refine wpAny_bind (wpAny_pure ?_)|skip
 refine wpAny_bind (wpAny_sequenceKey ht.typeIs (by decide) ?_)
 refine wpAny_bind (wpAny_callSpecial?_slot (name:=Str.ofString "__getitem__") ht.typeIs PyProof.Rows.slot_tuple_getitem
  (wpAny_call_entry PyProof.Rows.slot_tuple_getitem ht.typeIs entry_tuple_getitem ?_ (args_tuple_getitem _ _)))
 show wpAny _ _ (Builtin.Tuple.tupleItemsOf (.ref t)>>=_) _ _ s
 refine wpAny_bind (tupleItemsOf_ ht ?_)
 refine wpAny_bind (wpAny_typeOf hTs ?_)
 rw[if_pos (by decide)]
 refine wpAny_bind (uQ hs pl pu ?_)
 have hno:¬((((sIx items.size 0 lo:Nat):Int)==0&&(1:Int)==1&&(sIx items.size items.size hi-sIx items.size 0 lo)==items.size)=true):=by
  intro q
  rw[Bool.and_eq_true,Bool.and_eq_true]at q
  have q1:((sIx items.size 0 lo:Nat):Int)=0:=eq_of_beq q.1.1
  have q2:sIx items.size items.size hi-sIx items.size 0 lo=items.size:=eq_of_beq q.2
  exact hw ⟨by omega,by omega⟩
 show wpAny _ _ (if(((sIx items.size 0 lo:Nat):Int)==0&&(1:Int)==1&&(sIx items.size items.size hi-sIx items.size 0 lo)==items.size)=true then _ else _) _ _ s
 rw[if_neg hno,eU]
 first
  |exact wpAny_bind (m:=Builtin.Tuple.tupleExact _) (wpAny_newObj_type (wpAny_pure ⟨_,rfl,wpAny_pure h⟩) htake)
  |exact wpAny_bind (m:=Builtin.Tuple.tupleExact _) (wpAny_newObj_type (wpAny_bind (wpAny_pure (wpAny_pure ⟨_,rfl,wpAny_pure h⟩))) htake)
  |exact wpAny_bind (wpAny_bind (m:=Builtin.Tuple.tupleExact _) (wpAny_newObj_type (wpAny_pure (wpAny_pure ⟨_,rfl,wpAny_pure h⟩)) htake))
  |exact wpAny_bind (wpAny_bind (m:=Builtin.Tuple.tupleExact _) (wpAny_newObj_type (wpAny_pure ⟨_,rfl,wpAny_pure h⟩) htake))
end
end HT
namespace L2
open PySem PySem.Spec PyProof.Rows
abbrev TO:=St->Hp->(Option Int->Hp->Prop)->Prop
def PO(X:Cx)(e:Option Expr)(t:TO):Prop:=
 ∀(pins:List (Addr×Obj))(s:Shared)(σ:St)(H:Hp)(Q:Option Int->Hp->Prop),Inv X pins σ H s->t σ H Q->
  wpAny (model X.prog X.w) X.A (evalPart e X.env) (fun u s'=>∃o H',Inv X pins σ H' s'/\IsPart u o/\Q o H') X.xe s
def qOj:TO:=fun _ H Q=>Q none H
def zKj(t:TE):TO:=fun σ H Q=>t σ H fun x H1=>∃i,x= .int i/\Q (some i) H1
section
variable {X:Cx} {e:Expr} {te:TE} {lo hi:Option Expr} {tl th:TO} {pos p2:Pos}
theorem lJ:PO X none qOj:=by
 intro pins s σ H Q I h
 rw[evalPart_none]
 exact wpAny_pure ⟨none,H,I,.none,h⟩
theorem lX(h:PE X e te):PO X (some e) (zKj te):=by
 intro pins s σ H Q I hw
 rw[evalPart_some]
 refine thn (h pins s σ H _ I hw) fun u s1⟨x,H1,I1,r1,q1⟩=>?_
 obtain⟨i,rfl,q⟩:=q1
 obtain⟨t,rfl⟩:=r1
 exact⟨some i,H1,I1,.int i t,q⟩
def SlR(X:Cx)(r:V->Option Int->Option Int->Hp->VK->Prop):Prop:=
 ∀(pins:List (Addr×Obj))(s:Shared)(σ:St)(H:Hp)(x:V)(v vl vu:Value)(lo hi:Option Int)(sl:Addr)(Q:VK),Inv X pins σ H s->zU x v->s.heap.IsSliceOf sl vl vu .none->IsPart vl lo->IsPart vu hi->r x lo hi H Q->
  ∃T id,typeLookup (.type T) "__getitem__"=pure (some (.builtin id))/\s.TypeIs v T/\wpAny (model X.prog X.w) X.A (getItem v (.ref sl)) (EP X pins σ Q) X.xe s
def tSl(r:V->Option Int->Option Int->Hp->VK->Prop)(te:TE)(tl th:TO):TE:=fun σ H Q=>te σ H fun x H1=>tl σ H1 fun l H2=>th σ H2 fun u H3=>r x l u H3 Q
theorem oN{r:V->Option Int->Option Int->Hp->VK->Prop}(hr:SlR X r)(he:PE X e te)(hl:PO X lo tl)(hu:PO X hi th):PE X (.Subscript e (.Slice lo hi none p2) pos) (tSl r te tl th):=by
 intro pins s σ H Q I h
 refine Subscript_ (thn (he pins s σ H _ I h) fun v s1⟨x,H1,I1,r1,q1⟩=>?_)
 refine wpAny_Slice (thn (hl pins s1 σ H1 _ I1 q1) fun vl s2⟨l,H2,I2,pl,q2⟩=>thn (hu pins s2 σ H2 _ I2 q2) fun vu s3⟨u,H3,I3,pu,q3⟩=>?_)
 rw[evalPart_none]
 refine wpAny_pure ?_
 have I4:Inv X pins σ H3 {s3 with heap:=s3.heap.push {cls:=.type "slice",data:=.fields #[vl,vu,.none]}}:=I3.kept (t':=s3.toks) fun b ob q=>Heap.get?_push_of_some _ q
 obtain⟨T,id,hT,ht,hg⟩:=hr pins {s3 with heap:=s3.heap.push {cls:=.type "slice",data:=.fields #[vl,vu,.none]}} σ H3 x v vl vu l u s3.heap.objs.size Q I4 r1 (Heap.IsSliceOf.new ..) pl pu q3
 show wpAny (model X.prog X.w) X.A (subscriptTail e (.Slice lo hi none p2) v (.ref s3.heap.objs.size)) (EP X pins σ Q) X.xe {s3 with heap:=s3.heap.push {cls:=.type "slice",data:=.fields #[vl,vu,.none]}}
 exact tail_any (ops:=[.ref s3.heap.objs.size,v]) ht hT hg (by with_unfolding_all rfl)
def oB(xs:List V)(lo hi:Option Int):List V:=(xs.drop (HT.sIx xs.length 0 lo)).take (HT.sIx xs.length xs.length hi-HT.sIx xs.length 0 lo)
theorem uL(xs:List V)(lo hi:Option Int):(oB xs lo hi).length<=xs.length:=by
 unfold oB
 rw[List.length_take,List.length_drop]
 omega
def zC1(K:Fg):V->Option Int->Option Int->Hp->VK->Prop:=fun x lo hi H Q=>∃a xs,x= .ref a/\zO K H a xs/\
 ¬(HT.sIx xs.length 0 lo=0/\HT.sIx xs.length xs.length hi=xs.length)/\∀p,H p=none->Q (.ref p) (upd H p (.tup (oB xs lo hi)))
theorem eO:SlR X (zC1 X.K):=by
 intro pins s σ H x v vl vu lo hi sl Q I rx hs pl pu h
 obtain⟨a,xs,rfl,hx,hw,q⟩:=h
 cases rx
 obtain⟨its,r,ht,hz⟩:=I.tuple hx
 have hlen:its.toArray.size=xs.length:=by rw[List.size_toArray];exact r.length.symm
 refine⟨"tuple",_,PyProof.Rows.slot_tuple_getitem.lookup,ht.typeIs,?_⟩
 refine HT.getItem_tuple_cut ht hs pl pu (by rw[hlen];exact hw) ?_ (by rw[hlen];exact hz)
 rw[hlen]
 refine⟨.ref s.heap.objs.size,_,I.laid (t':=s.toks) (o:=.tup (oB xs lo hi)) (fun b ob q=>Heap.get?_push_of_some _ q) (aq7 _) ?_,rfl,q _ (I.hok.fresh (aq7 _))⟩
 exact⟨Nat.le_trans (uL xs lo hi) hz,_,(r.drop (HT.sIx xs.length 0 lo)).take (HT.sIx xs.length xs.length hi-HT.sIx xs.length 0 lo),IsTup.new _ _⟩
end
def ixN(n:Nat)(i:Int):Option Nat:=if 0<=i then(if i<n then some i.toNat else none)else if -(n:Int)<=i then some (i+n).toNat else none
def dO{α:Type}(xs:List α)(i:Int):Option α:=(ixN xs.length i).bind fun j=>xs[j]?
theorem qI0{n:Nat}{i:Int}{j:Nat}(h:ixN n i=some j):seqIndex? i n=some j/\j<n/\ -(n:Int)<=i/\i<n:=by
 unfold ixN at h
 by_cases h0:0<=i
 ·rw[if_pos h0]at h
  by_cases h1:i<n
  ·rw[if_pos h1]at h
   have e:i.toNat=j:=Option.some.inj h
   exact⟨by rw[seqIndex_of h0 h1,e],by omega,by omega,h1⟩
  ·rw[if_neg h1]at h;cases h
 ·rw[if_neg h0]at h
  by_cases h1: -(n:Int)<=i
  ·rw[if_pos h1]at h
   have e:(i+n).toNat=j:=Option.some.inj h
   exact⟨by rw[seqIndex_neg (by omega) h1,e],by omega,h1,by omega⟩
  ·rw[if_neg h1]at h;cases h
theorem pA{α:Type}{xs:List α}{i:Int}{v:α}(h:dO xs i=some v):∃j,seqIndex? i xs.length=some j/\xs[j]? =some v/\j<xs.length/\ -(xs.length:Int)<=i/\i<xs.length:=by
 unfold dO at h
 cases e:ixN xs.length i with
 |none=>rw[e]at h;cases h
 |some j=>
  rw[e]at h
  obtain⟨h1,h2,h3,h4⟩:=qI0 e
  exact⟨j,h1,h,h2,h3,h4⟩
theorem qY{α:Type}{xs:List α}{j:Nat}{v:α}(h:xs[j]? =some v):dO xs (j:Int)=some v:=by
 have hj:j<xs.length:=(List.getElem?_eq_some_iff.mp h).1
 have e:ixN xs.length (j:Int)=some j:=by
  unfold ixN
  rw[if_pos (by omega),if_pos (by omega)];simp
 unfold dO;rw[e];exact h
theorem yQ{α:Type}(xs:List α)(v:α):dO (xs++[v]) (-1)=some v:=by
 have hl:(xs++[v]).length=xs.length+1:=by simp
 have e:ixN (xs++[v]).length (-1)=some xs.length:=by
  unfold ixN
  rw[hl,if_neg (by decide),if_pos (by omega)]
  congr 1
  omega
 unfold dO
 rw[e]
 show(xs++[v])[xs.length]? =some v
 simp
def qI1(b:Expr):Prop:=∀o i,subscripted b false o i=operate [o,i] (getItem o i)
def IxR(X:Cx)(r:R2):Prop:=
 ∀(value slice:Expr)(pins:List (Addr×Obj))(s:Shared)(σ:St)(H:Hp)(x y:V)(v u:Value)(Q:VK),Inv X pins σ H s->zU x v->zU y u->r x y H Q->
  subscripted slice false v u=operate [v,u] (getItem v u)->wpAny (model X.prog X.w) X.A (subscriptTail value slice v u) (EP X pins σ Q) X.xe s
def MtR(X:Cx)(id:String)(r:V->List V->Hp->VK->Prop):Prop:=
 ∀(pins:List (Addr×Obj))(s:Shared)(σ:St)(H:Hp)(x:V)(xs:List V)(v:Value)(us:List Value)(Q:VK),Inv X pins σ H s->zU x v->Vals xs us->r x xs H Q->
  wpAny (model X.prog X.w) X.A (call (.builtin id) (v::us)) (EP X pins σ Q) X.xe s
section
variable {X:Cx} {a b:Expr} {ta tb:TE} {pos:Pos}
theorem qL{r:R2}(hr:IxR X r)(ha:PE X a ta)(hb:PE X b tb)(hs:qI1 b):PE X (.Subscript a b pos) (bC r ta tb):=by
 intro pins s σ H Q I h
 exact Subscript_ (qR2 ha hb I h fun v u s2 x y H2 I2 rx ry q=>hr a b pins s2 σ H2 x y v u Q I2 rx ry q (hs _ _))
inductive qNq(K:Fg)(x:V)(y:V)(H:Hp)(Q:VK):Prop
 |mk (p:_) (xs:_) (i:_) (v:_) (a_0:x= .ref p) (a_1:y= .int i) (a_2:zH K H p xs) (a_3:dO xs i=some v) (a_4:Q v H):qNq K x y H Q
def zC2(K:Fg):R2:=fun x y H Q=>qNq K x y H Q
inductive qNz(K:Fg)(x:V)(y:V)(H:Hp)(Q:VK):Prop
 |mk (p:_) (xs:_) (i:_) (v:_) (a_0:x= .ref p) (a_1:y= .int i) (a_2:zO K H p xs) (a_3:dO xs i=some v) (a_4:Q v H):qNz K x y H Q
def zC3(K:Fg):R2:=fun x y H Q=>qNz K x y H Q
theorem zJ:IxR X (zC2 X.K):=by
 intro value slice pins s σ H x y v u Q I rx ry h hs
 obtain⟨p,xs,i,z,rfl,rfl,hq,he,q⟩:=h
 cases rx
 obtain⟨t,rfl⟩:=ry
 obtain⟨its,r,pl,hz⟩:=I.list hq
 obtain⟨j,h1,h2,h3,h4,h5⟩:=pA he
 obtain⟨w,ew,rw'⟩:=r.get h2
 have hl:=r.length
 have hn:=line63
 have fin:EP X pins σ Q w s:=⟨z,H,I,rw',q⟩
 by_cases h0:0<=i
 ·have hj:i.toNat=j:=by
   rw[seqIndex_of h0 h5]at h1
   exact Option.some.inj h1
  exact item_listR pl.isList h0 (by omega) (by rw[hj];simpa using ew) fin hs
 ·have hj:(i+(its.toArray.size:Int)).toNat=j:=by
   rw[seqIndex_neg (by omega) h4]at h1
   rw[List.size_toArray,<-hl]
   exact Option.some.inj h1
  exact subscriptTail_builtinR (x:=w) pl.isList.typeIs slot_list_getitem.lookup
   (wpAny_getItem_list_neg (Q:=fun r s'=>r=w/\EP X pins σ Q r s') pl.isList (by omega) (by rw[List.size_toArray]<;>omega) (by omega) (by rw[hj];simpa using ew) ⟨rfl,fin⟩) hs
theorem qP:IxR X (zC3 X.K):=by
 intro value slice pins s σ H x y v u Q I rx ry h hs
 obtain⟨p,xs,i,z,rfl,rfl,hq,he,q⟩:=h
 cases rx
 obtain⟨t,rfl⟩:=ry
 obtain⟨its,r,pl,hz⟩:=I.tuple hq
 obtain⟨j,h1,h2,h3,h4,h5⟩:=pA he
 obtain⟨w,ew,rw'⟩:=r.get h2
 have hl:=r.length
 have hn:=line63
 have fin:EP X pins σ Q w s:=⟨z,H,I,rw',q⟩
 exact subscriptTail_builtinR (x:=w) pl.typeIs slot_tuple_getitem.lookup
  (getItem_tuple (j:=j) (Q:=fun r s'=>r=w/\EP X pins σ Q r s') pl (by omega) (by omega) (by rw[List.size_toArray,<-hl];exact h1) (by simpa using ew) ⟨rfl,fin⟩) hs
theorem lK(lo hi:Option Int)(n:Nat):(sliceBounds lo hi none n).1=((HT.sIx n 0 lo:Nat):Int)/\(sliceBounds lo hi none n).2.1=((HT.sIx n n hi:Nat):Int)/\(sliceBounds lo hi none n).2.2=1:=by
 refine⟨?_,?_,rfl⟩
 ·cases lo with
  |none=>simp[sliceBounds,HT.sIx]
  |some i=>
   simp only[sliceBounds,HT.sIx,Option.getD_none,show(1:Int)>0 by decide,if_true]
   by_cases h:i<0
   ·simp only[h,if_true]<;>omega
   ·simp only[h,if_false]<;>omega
 ·cases hi with
  |none=>simp[sliceBounds,HT.sIx]
  |some i=>
   simp only[sliceBounds,HT.sIx,Option.getD_none,show(1:Int)>0 by decide,if_true]
   by_cases h:i<0
   ·simp only[h,if_true]<;>omega
   ·simp only[h,if_false]<;>omega
theorem iM(its:List Value)(lo hi:Option Int):slicePick its.toArray lo hi none=((its.drop (HT.sIx its.length 0 lo)).take (HT.sIx its.length its.length hi-HT.sIx its.length 0 lo)).toArray:=by
 obtain⟨h1,h2,h3⟩:=lK lo hi its.toArray.size
 unfold slicePick
 rw[h1,h2,h3]
 simp only[sliceRange_one,pick_run,List.size_toArray]<;>rfl
def zC4(K:Fg):V->Option Int->Option Int->Hp->VK->Prop:=fun x lo hi H Q=>∃a xs,x= .ref a/\zH K H a xs/\∀p,H p=none->Q (.ref p) (upd H p (.lst (oB xs lo hi)))
theorem qI2:SlR X (zC4 X.K):=by
 intro pins s σ H x v vl vu lo hi sl Q I rx hs pl pu h
 obtain⟨a,xs,rfl,hx,q⟩:=h
 cases rx
 obtain⟨its,r,ht,hz⟩:=I.list hx
 have hlen:=r.length
 refine⟨"list",_,slot_list_getitem.lookup,ht.isList.typeIs,?_⟩
 refine wpAny_getItem_list_slice ht.isList hs pl pu .none (by simp) ?_ (by rw[List.size_toArray]<;>omega)
 rw[iM,<-hlen]
 refine⟨.ref s.heap.objs.size,_,I.laid (t':=s.toks) (o:=.lst (oB xs lo hi)) (fun b ob q=>Heap.get?_push_of_some _ q) (aq7 _) ?_,rfl,q _ (I.hok.fresh (aq7 _))⟩
 exact⟨Nat.le_trans (uL xs lo hi) hz,_,0,(r.drop (HT.sIx xs.length 0 lo)).take (HT.sIx xs.length xs.length hi-HT.sIx xs.length 0 lo),Heap.get?_push_size _ rfl⟩
def yZ:V->Bool
 | .non=>true
 | .bl _=>true
 | .int _=>true
 | .str _=>true
 |_=>false
def eqV:V->V->Bool
 | .non,.non=>true
 | .bl a,.bl b=>a==b
 | .bl a,.int b=>(if a then 1 else 0)==b
 | .int a,.bl b=>a==(if b then 1 else 0)
 | .int a,.int b=>a==b
 | .str a,.str b=>a==b
 |_,_=>false
theorem qR9{A:Around}{s:Shared}{y x:V}{u v:Value}(ry:zU y u)(rx:zU x v)(fy:yZ y=true)(fx:yZ x=true):SeqAt.EqAt A s u v (eqV y x):=by
 cases y with
 |non=>
  cases ry
  cases x with
  |non=>cases rx;exact SeqAt.EqAt.same _
  |bl b=>cases rx;exact SeqAt.EqAt.none_bool b
  |int b=>obtain⟨t,rfl⟩:=rx;exact SeqAt.EqAt.none_int b t
  |str b=>obtain⟨t,rfl⟩:=rx;exact SeqAt.EqAt.none_str b t
  |_=>exact absurd (show false=true from fx) Bool.false_ne_true
 |bl a=>
  cases ry
  cases x with
  |non=>cases rx;exact SeqAt.EqAt.bool_none a
  |bl b=>cases rx;exact SeqAt.EqAt.bool_bool a b
  |int b=>obtain⟨t,rfl⟩:=rx;exact SeqAt.EqAt.bool_int a b t
  |str b=>obtain⟨t,rfl⟩:=rx;exact SeqAt.EqAt.bool_str a b t
  |_=>exact absurd (show false=true from fx) Bool.false_ne_true
 |int a=>
  obtain⟨t',rfl⟩:=ry
  cases x with
  |non=>cases rx;exact SeqAt.EqAt.int_none a t'
  |bl b=>cases rx;exact SeqAt.EqAt.int_bool a t' b
  |int b=>obtain⟨t,rfl⟩:=rx;exact SeqAt.EqAt.int_int a t' b t
  |str b=>obtain⟨t,rfl⟩:=rx;exact SeqAt.EqAt.int_str a t' b t
  |_=>exact absurd (show false=true from fx) Bool.false_ne_true
 |str a=>
  obtain⟨t',rfl⟩:=ry
  cases x with
  |non=>cases rx;exact SeqAt.EqAt.str_none a t'
  |bl b=>cases rx;exact SeqAt.EqAt.str_bool a t' b
  |int b=>obtain⟨t,rfl⟩:=rx;exact SeqAt.EqAt.str_int a t' b t
  |str b=>obtain⟨t,rfl⟩:=rx;exact SeqAt.EqAt.str_str a t' b t
  |_=>exact absurd (show false=true from fx) Bool.false_ne_true
 |_=>exact absurd (show false=true from fy) Bool.false_ne_true
def dL(x:V)(u:Value):Bool:=match u with
 | .none=>eqV .non x
 | .bool b=>eqV (.bl b) x
 | .int i _=>eqV (.int i) x
 | .str z _=>eqV (.str z) x
 |_=>false
theorem eI{x y:V}{u:Value}(r:zU y u)(f:yZ y=true):dL x u=eqV y x:=by
 cases y with
 |non=>cases r;rfl
 |bl b=>cases r;rfl
 |int i=>obtain⟨t,rfl⟩:=r;rfl
 |str z=>obtain⟨t,rfl⟩:=r;rfl
 |_=>exact absurd (show false=true from f) Bool.false_ne_true
theorem yJ{x:V}:∀{xs:List V}{us:List Value},Vals xs us->xs.all yZ=true->us.any (dL x)=xs.any fun y=>eqV y x
 |_,_,.nil,_=>rfl
 |y::xs,u::us,.cons r t,f=>by
  rw[List.all_cons,Bool.and_eq_true]at f
  rw[List.any_cons,List.any_cons,eI r f.1,yJ t f.2]
theorem vN{A:Around}{s:Shared}{x:V}{v:Value}(rx:zU x v)(fx:yZ x=true):∀{xs:List V}{us:List Value},Vals xs us->xs.all yZ=true->∀u∈us,SeqAt.EqAt A s u v (dL x u)
 |_,_,.nil,_=>fun u hu=>by cases hu
 |y::xs,u::us,.cons r t,f=>fun u' hu=>by
  rw[List.all_cons,Bool.and_eq_true]at f
  rcases List.mem_cons.mp hu with rfl|hu
  ·rw[eI r f.1];exact qR9 r rx f.1 fx
  ·exact vN rx fx t f.2 u' hu
def dG(x:V)(xs:List V):Bool:=xs.any fun y=>eqV y x
inductive zV0(K:Fg)(neg:Bool)(x:V)(y:V)(H:Hp)(Q:VK):Prop
 |mk (p:_) (xs:_) (a_0:y= .ref p) (a_1:(zH K H p xs\/zO K H p xs)) (a_2:yZ x=true) (a_3:xs.all yZ=true) (a_4:Q (.bl (if neg then !dG x xs else dG x xs)) H):zV0 K neg x y H Q
def rIn(K:Fg)(neg:Bool):R2:=fun x y H Q=>zV0 K neg x y H Q
theorem wQ:uO X (compareOp .In) (rIn X.K false):=by
 intro pins s σ H x y v u Q I rx ry h
 obtain⟨p,xs,rfl,hq,fx,fs,q⟩:=h
 cases ry
 rcases hq with hq|hq
 ·obtain⟨its,r,pl,hz⟩:=I.list hq
  refine SeqAt.in_listAt (dL x) pl.isList (fun w hw=>vN rx fx r fs w (by simpa using hw)) ⟨.bl _,H,I,rfl,?_⟩
  rw[show its.toArray.any (dL x)=its.any (dL x) by simp,yJ r fs]
  exact q
 ·obtain⟨its,r,pl,hz⟩:=I.tuple hq
  refine SeqAt.in_tupleAt (dL x) pl (fun w hw=>vN rx fx r fs w (by simpa using hw)) ⟨.bl _,H,I,rfl,?_⟩
  rw[show its.toArray.any (dL x)=its.any (dL x) by simp,yJ r fs]
  exact q
theorem lV:uO X (compareOp .NotIn) (rIn X.K true):=by
 intro pins s σ H x y v u Q I rx ry h
 obtain⟨p,xs,rfl,hq,fx,fs,q⟩:=h
 cases ry
 rcases hq with hq|hq
 ·obtain⟨its,r,pl,hz⟩:=I.list hq
  refine SeqAt.notIn_listAt (dL x) pl.isList (fun w hw=>vN rx fx r fs w (by simpa using hw)) ⟨.bl _,H,I,rfl,?_⟩
  rw[show its.toArray.any (dL x)=its.any (dL x) by simp,yJ r fs]
  exact q
 ·obtain⟨its,r,pl,hz⟩:=I.tuple hq
  refine SeqAt.notIn_tupleAt (dL x) pl (fun w hw=>vN rx fx r fs w (by simpa using hw)) ⟨.bl _,H,I,rfl,?_⟩
  rw[show its.toArray.any (dL x)=its.any (dL x) by simp,yJ r fs]
  exact q
inductive eC(K:Fg)(xs:List V)(H:Hp)(Q:VK):Prop
 |mk (p:Addr) (ys:List V) (a_0:xs=[.ref p]) (a_1:zH K H p ys\/zO K H p ys) (a_2:Q (.int ys.length) H):eC K xs H Q
theorem zG:kO X (.builtin "len") (fun xs H Q=>eC X.K xs H Q):=by
 intro pins s σ H xs us Q I r h
 obtain⟨p,ys,rfl,hq,q⟩:=h
 obtain⟨u,rfl,rx⟩:=vals1 r
 cases rx
 have hn:=line63
 rcases hq with hq|hq
 ·obtain⟨its,r',pl,hz⟩:=I.list hq
  have hlen:=r'.length
  exact Calls.call_len_list pl.isList (by simp only[List.size_toArray]<;>omega) ⟨.int ys.length,H,I.tok _,⟨s.toks+1,by rw[List.size_toArray,hlen]⟩,q⟩
 ·obtain⟨its,r',pl,hz⟩:=I.tuple hq
  have hlen:=r'.length
  exact len_tuple pl (by simp only[List.size_toArray]<;>omega) ⟨.int ys.length,H,I.tok _,⟨s.toks+1,by rw[List.size_toArray,hlen]⟩,q⟩
theorem lW:kO X (.builtin "len") (fun xs H Q=>∃z,xs=[.str z]/\z.length<=sizeLine/\Q (.int z.length) H):=by
 intro pins s σ H xs us Q I r h
 obtain⟨z,rfl,hz,q⟩:=h
 obtain⟨u,rfl,t,rfl⟩:=vals1 r
 have hn:=line63
 exact len_str (by omega) ⟨.int z.length,H,I.tok _,⟨_,rfl⟩,q⟩
theorem yX:kO X (.type "list") (fun xs H Q=>∃p ys,xs=[.ref p]/\(zH X.K H p ys\/zO X.K H p ys)/\∀l,H l=none->Q (.ref l) (upd H l (.lst ys))):=by
 intro pins s σ H xs us Q I r h
 obtain⟨p,ys,rfl,hq,q⟩:=h
 obtain⟨u,rfl,rx⟩:=vals1 r
 cases rx
 have fin:∀(its:List Value),Vals ys its->ys.length<=sizeLine->∀(h':Heap)(c':Nat),(∀b o',s.heap.get? b=some o'->h'.get? b=some o')->
   h'.get? s.heap.objs.size=some {cls:=.type "list",dict:=none,data:=.seq its.toArray c',slots:= #[]}->EP X pins σ Q (.ref s.heap.objs.size) {s with heap:=h'}:=fun its r' hz h' c' kp e=>
  ⟨.ref s.heap.objs.size,_,I.laid (t':=s.toks) kp (aq7 _) (show jA X.prog X.w _ h' _ (.lst ys)from⟨hz,its,c',r',e⟩),rfl,q _ (I.hok.fresh (aq7 _))⟩
 rcases hq with hq|hq
 ·obtain⟨its,r',pl,hz⟩:=I.list hq
  have hlen:=r'.length
  obtain⟨o,ho,hc,n,hd⟩:=pl.isList
  exact call_list_seq p (.inl rfl) ho hc hd (fun h' c' kp e=>fin its r' hz h' c' kp e) (by simp only[List.size_toArray]<;>omega)
 ·obtain⟨its,r',pl,hz⟩:=I.tuple hq
  have hlen:=r'.length
  obtain⟨o,ho,hc,n,hd⟩:=pl
  exact call_list_seq p (.inr rfl) ho hc hd (fun h' c' kp e=>fin its r' hz h' c' kp e) (by simp only[List.size_toArray]<;>omega)
theorem wW:kO X (.type "tuple") (fun xs H Q=>∃p ys,xs=[.ref p]/\((zH X.K H p ys/\∀l,H l=none->Q (.ref l) (upd H l (.tup ys)))\/(zO X.K H p ys/\Q (.ref p) H))):=by
 intro pins s σ H xs us Q I r h
 obtain⟨p,ys,rfl,h⟩:=h
 obtain⟨u,rfl,rx⟩:=vals1 r
 cases rx
 rcases h with⟨hq,q⟩|⟨hq,q⟩
 ·obtain⟨its,r',pl,hz⟩:=I.list hq
  have hlen:=r'.length
  refine call_tuple_list pl.isList (fun h' kp=>?_) (by simp only[List.size_toArray]<;>omega)
  have I1:Inv X pins σ H {s with heap:=h'}:=I.kept (t':=s.toks) kp
  have I2:Inv X pins σ (upd H h'.objs.size (.tup ys)) {s with heap:=h'.push {cls:=.type "tuple",data:=.seq its.toArray}}:=
   I1.laid (t':=s.toks) (fun b o e=>Heap.get?_push_of_some _ e) (aq7 _) (show jA X.prog X.w _ _ _ (.tup ys)from⟨hz,its,r',IsTup.new _ _⟩)
  exact⟨.ref h'.objs.size,_,I2,rfl,q _ (I1.hok.fresh (aq7 _))⟩
 ·obtain⟨its,r',pl,hz⟩:=I.tuple hq
  exact call_tuple_same pl ⟨.ref p,H,I,rfl,q⟩
def tyV(K:Fg)(T:String)(x:V)(H:Hp):Prop:=match x with
 | .str _=>T="str"
 | .int _=>T="int"
 | .ref p=>(T="list"/\∃xs,zH K H p xs)\/(T="tuple"/\∃o,K.lookup p=some o/\o.cls= .type "tuple"/\o.dict=none)\/
   (T="dict"/\((∃kvs,H p=some (.dK kvs))\/∃kvs,H p=some (.dT kvs)))\/(T="set"/\∃S n,H p=some (.set S n))
 |_=>False
theorem eL{pins:List (Addr×Obj)}{σ:St}{H:Hp}{s:Shared}{T:String}{x:V}{v:Value}(I:Inv X pins σ H s)(r:zU x v)(ty:tyV X.K T x H):
  s.TypeIs v T/\∀a,v= .ref a->∃ob,s.heap.get? a=some ob/\ob.dict=none:=by
 cases x with
 |str z=>
  obtain⟨t,rfl⟩:=r
  cases (show T="str" from ty)
  exact⟨typeIs_str s z t,fun _ e=>nomatch e⟩
 |int i=>
  obtain⟨t,rfl⟩:=r
  cases (show T="int" from ty)
  exact⟨typeIs_int s i t,fun _ e=>nomatch e⟩
 |ref p=>
  cases r
  rcases ty with⟨rfl,xs,hq⟩|⟨rfl,o,hk,hc,hd⟩|⟨rfl,hk⟩|⟨rfl,S,n,hk⟩
  ·obtain⟨its,_,pl,_⟩:=I.list hq
   refine⟨pl.isList.typeIs,fun a e=>?_⟩
   cases e
   obtain⟨o,n,e,c,hd,_⟩:=pl
   exact⟨o,e,hd⟩
  ·refine⟨⟨o,I.kIn p o hk,hc⟩,fun a e=>?_⟩
   cases e
   exact⟨o,I.kIn _ o hk,hd⟩
  ·have z:∃o,s.heap.get? p=some o/\o.ExactDict:=by
    rcases hk with⟨kvs,hk⟩|⟨kvs,hk⟩
    ·obtain⟨_,_,_,_,o,_,_,e,ex,_⟩:=I.hok p _ hk
     exact⟨o,e,ex⟩
    ·obtain⟨_,_,_,_,o,_,_,e,ex,_⟩:=I.hok p _ hk
     exact⟨o,e,ex⟩
   obtain⟨o,e,ex⟩:=z
   refine⟨⟨o,e,ex.1⟩,fun a e2=>?_⟩
   cases e2
   exact⟨o,e,ex.2.1⟩
  ·obtain⟨o,_,_,_,e,ex,_⟩:=I.hok p _ hk
   refine⟨⟨o,e,ex.1⟩,fun a e2=>?_⟩
   cases e2
   exact⟨o,e,ex.2.1⟩
 |_=>exact False.elim ty
def eG(K:Fg)(T:String)(r:V->List V->Hp->VK->Prop)(to:TE):TE:=fun σ H Q=>to σ H fun x H1=>tyV K T x H1/\r x [] H1 Q
def tBM(K:Fg)(T:String)(r:V->List V->Hp->VK->Prop)(to:TE)(t:TA):TE:=fun σ H Q=>to σ H fun x H1=>tyV K T x H1/\t σ H1 fun xs H2=>r x xs H2 Q
variable {o e:Expr} {es:List Expr} {to:TE} {t:TA} {name:Str} {apos cpos:Pos} {T id:String} {r:V->List V->Hp->VK->Prop}
theorem xQ(pa:PlainAttrs T)(slot:Slot T name id)(hty:typeOf (.builtin id)=pure (.type "method_descriptor"))(hm:MtR X id r)(ho:PE X o to)
  (hbase:attributeBase o name X.env (eval o X.env)=eval o X.env:=by rfl)(hline:(apos.endLine==cpos.line)=true:=by rfl):PE X (.Call (.Attribute o name apos) [] [] cpos) (eG X.K T r to):=by
 intro pins s σ H Q I h
 refine wpAny_Call_method0_late hbase hline (thn (ho pins s σ H _ I h) fun v s1⟨x,H1,I1,r1,ty,q1⟩=>?_)
 obtain⟨h1,h2⟩:=eL I1 r1 ty
 exact⟨T,id,pa,slot,hty,h1,h2,Calls.callWith_builtin rfl (PySem.evalArgs_none (hm pins s1 σ H1 x [] v [] Q I1 r1 .nil q1))⟩
theorem jJ(pa:PlainAttrs T)(slot:Slot T name id)(hty:typeOf (.builtin id)=pure (.type "method_descriptor"))(hm:MtR X id r)(ho:PE X o to)(ha:PA X (e::es) t)
  (hbase:attributeBase o name X.env (eval o X.env)=eval o X.env:=by rfl)
  (hfew:((backTo cpos (starEach (e::es) X.env)).all (fun x=> !x.1)&&(backToKw cpos (keywordEach [] X.env)).all (fun x=>x.1.isSome)
   &&decide ((e::es).length+([]:List Keyword).length+(if([]:List Keyword).isEmpty then 0 else 1)<30))=true:=by rfl)
  (hline:(apos.endLine==cpos.line)=true:=by rfl)(hs:starEach (e::es) X.env=(false,eval e X.env)::starEach es X.env:=by rfl)(hplain:(backTo cpos (starEach es X.env)).any (·.1)=false:=by rfl):
  PE X (.Call (.Attribute o name apos) (e::es) [] cpos) (tBM X.K T r to t):=by
 intro pins s σ H Q I h
 refine wpAny_Call_method_late hbase hfew hline rfl (thn (ho pins s σ H _ I h) fun v s1⟨x,H1,I1,r1,ty,q1⟩=>?_)
 obtain⟨h1,h2⟩:=eL I1 r1 ty
 refine⟨T,id,pa,slot,hty,h1,h2,?_⟩
 have hA:=ha cpos pins s1 σ H1 _ I1 q1
 rw[hs]at hA⊢
 refine Calls.callWith_builtin (by show(false||(backTo cpos (starEach es X.env)).any (·.1))=false;rw[hplain]<;>rfl) (Calls.evalArgs_plain ?_)
 exact thn hA fun us s2⟨vs,H2,I2,r2,q2⟩=>hm pins s2 σ H2 x vs v us Q I2 r1 r2 q2
end
def MtM(X:Cx)(id:String)(r:V->List V->Hp->VK->Prop):Prop:=
 ∀(pins:List (Addr×Obj))(s:Shared)(σ:St)(H:Hp)(x:V)(xs:List V)(v:Value)(us:List Value)(Q:VK),Inv X pins σ H s->zU x v->Vals xs us->r x xs H Q->
  wpAny (model X.prog X.w) X.A (call (.builtin id) (v::us)) (EP X pins σ Q) X.xe s
theorem Vals.one:∀{x:V}{us:List Value},Vals [x] us->∃u,us=[u]/\zU x u
 |_,_,.cons r .nil=>⟨_,rfl,r⟩
theorem Vals.two:∀{x y:V}{us:List Value},Vals [x,y] us->∃u v,us=[u,v]/\zU x u/\zU y v
 |_,_,_,.cons r (.cons q .nil)=>⟨_,_,rfl,r,q⟩
theorem Vals.zero:∀{us:List Value},Vals [] us->us=[]
 |_,.nil=>rfl
theorem Vals.dropLast{xs:List V}{us:List Value}(h:Vals xs us):Vals xs.dropLast us.dropLast:=by
 induction h with
 |nil=>exact .nil
 |cons r t ih=>
  cases t with
  |nil=>exact .nil
  |cons q t'=>exact .cons r ih
theorem Vals.reverse{xs:List V}{us:List Value}(h:Vals xs us):Vals xs.reverse us.reverse:=by
 induction h with
 |nil=>exact .nil
 |cons r t ih=>rw[List.reverse_cons,List.reverse_cons];exact Vals.append ih (.cons r .nil)
theorem dM{α:Type}(l:List α):l.eraseIdx (l.length-1)=l.dropLast:=by
 induction l with
 |nil=>rfl
 |cons a r ih=>
  cases r with
  |nil=>rfl
  |cons b r=>
   have e:(a::b::r).length-1=((b::r).length-1)+1:=by
    have h1:(a::b::r).length=r.length+2:=rfl
    have h2:(b::r).length=r.length+1:=rfl
    omega
   rw[e,List.eraseIdx_cons_succ,ih]
   all_goals rfl
section
variable {X:Cx} {pins:List (Addr×Obj)} {σ:St} {H:Hp} {s:Shared} {l b:Addr} {xs ys zs:List V}
theorem Inv.lset{its its':List Value}{n:Nat}{f:Array Value->Array Value}{t':Nat}(I:Inv X pins σ H s)(hH:H l=some (.lst xs))
  (e:s.heap.get? l=some {cls:=.type "list",data:=.seq its.toArray n})(hf:f its.toArray=its'.toArray)(hv:Vals ys its')(hz:ys.length<=sizeLine):
  Inv X pins σ (upd H l (.lst ys)) {s with heap:=s.heap.update l (Obj.mapSeq f),toks:=t'}:=by
 have q:=PySem.IsL.update e f
 rw[hf]at q
 refine I.write (x:=l) (e:=l) (by rw[hH];exact trivial) (.inl rfl) (fun b' u hb hu=>(Heap.get?_update_other s.heap (Obj.mapSeq f) (Ne.symm hb)).trans hu) ⟨_,q⟩ ?_
 exact⟨hz,its',_,hv,q⟩
theorem Inv.lnew{its:List Value}{t':Nat}(I:Inv X pins σ H s)(hv:Vals ys its)(hz:ys.length<=sizeLine):
  Inv X pins σ (upd H s.heap.objs.size (.lst ys)) {s with heap:=s.heap.push {cls:=.type "list",data:=.seq its.toArray},toks:=t'}:=
 I.laid (fun _ _ q=>Heap.get?_push_of_some _ q) (aq7 _) ⟨hz,its,0,hv,Heap.get?_push_size _ rfl⟩
theorem Inv.fresh(I:Inv X pins σ H s):H s.heap.objs.size=none:=I.hok.fresh (aq7 _)
theorem Inv.lstM(I:Inv X pins σ H s)(hH:H l=some (.lst xs)):xs.length<=sizeLine/\∃(its:List Value)(n:Nat),Vals xs its/\xs.length=its.length/\s.heap.get? l=some {cls:=.type "list",data:=.seq its.toArray n}:=by
 obtain⟨z,its,n,r,e⟩:=I.hok l _ hH
 exact⟨z,its,n,r,r.length,e⟩
theorem mQ{n:Nat}(h:n<=sizeLine):Builtin.List.listTooLong n=false:=by
 unfold Builtin.List.listTooLong
 exact decide_eq_false (by omega)
end
section
variable {X:Cx}
inductive mZ(x:V)(vs:List V)(H:Hp)(Q:VK):Prop
 |mk (l:_) (xs:_) (y:_) (a_0:x= .ref l) (a_1:vs=[y]) (a_2:H l=some (.lst xs)) (a_3:xs.length<sizeLine) (a_4:Q .non (upd H l (.lst (xs++[y])))):mZ x vs H Q
def vV:V->List V->Hp->VK->Prop:=fun x vs H Q=>mZ x vs H Q
theorem qA:MtM X "list.append" vV:=by
 intro pins s σ H x vs v us Q I rx rv h
 obtain⟨l,xs,y,rfl,rfl,hH,hz,q⟩:=h
 cases rx
 obtain⟨u,rfl,ru⟩:=rv.one
 obtain⟨z,its,n,r,hl,e⟩:=I.lstM hH
 refine call_meets F.slot_list_append ⟨_,e,rfl⟩ F.entry_list_append (F.args_list_append_2 _ _) (PySem.list_append l its.toArray n u (by rw[List.size_toArray];omega)) ⟨e,?_⟩
 refine⟨.non,_,I.lset (its':=its++[u]) hH e (by simp) (r.append (.cons ru .nil)) ?_,rfl,q⟩
 rw[List.length_append,List.length_singleton]
 omega
inductive mJ(x:V)(vs:List V)(H:Hp)(Q:VK):Prop
 |mk (l:_) (b:_) (xs:_) (zs:_) (a_0:x= .ref l) (a_1:vs=[.ref b]) (a_2:H l=some (.lst xs)) (a_3:H b=some (.lst zs)) (a_4:xs.length+zs.length<=sizeLine) (a_5:Q .non (upd H l (.lst (xs++zs)))):mJ x vs H Q
def pE:V->List V->Hp->VK->Prop:=fun x vs H Q=>mJ x vs H Q
theorem cQ:MtM X "list.extend" pE:=by
 intro pins s σ H x vs v us Q I rx rv h
 obtain⟨l,b,xs,zs,rfl,rfl,hH,hB,hz,q⟩:=h
 cases rx
 obtain⟨u,rfl,ru⟩:=rv.one
 cases ru
 obtain⟨z,its,n,r,hl,e⟩:=I.lstM hH
 obtain⟨z2,its2,n2,r2,hl2,e2⟩:=I.lstM hB
 have hsz:its.toArray.size+its2.toArray.size<=sizeLine:=by rw[List.size_toArray,List.size_toArray];omega
 have hlong:¬(!its.toArray.isEmpty&&Builtin.List.listTooLong (its.toArray.size+its2.toArray.size))=true:=by
  rw[mQ hsz,Bool.and_false]
  exact Bool.false_ne_true
 refine call_meets F.slot_list_extend ⟨_,e,rfl⟩ F.entry_list_extend (F.args_list_extend_2 _ _)
  (AutoSeq1.list_extend_list_list_0 l its.toArray n b its2.toArray n2 hlong (by rw[List.size_toArray];omega) (by omega)) ⟨e,e2,?_⟩
 refine⟨.non,_,I.lset (its':=its++its2) hH e (by simp) (r.append r2) ?_,rfl,q⟩
 rw[List.length_append]
 omega
inductive qNj(x:V)(vs:List V)(H:Hp)(Q:VK):Prop
 |mk (l:_) (xs:_) (y:_) (a_0:x= .ref l) (a_1:vs=[]) (a_2:H l=some (.lst xs)) (a_3:xs[xs.length-1]? =some y) (a_4:Q y (upd H l (.lst xs.dropLast))):qNj x vs H Q
def eM:V->List V->Hp->VK->Prop:=fun x vs H Q=>qNj x vs H Q
theorem xZ:MtM X "list.pop" eM:=by
 intro pins s σ H x vs v us Q I rx rv h
 obtain⟨l,xs,y,rfl,rfl,hH,hy,q⟩:=h
 cases rx
 have hus:=rv.zero
 subst hus
 obtain⟨z,its,n,r,hl,e⟩:=I.lstM hH
 obtain⟨u,hu,ru⟩:=r.get hy
 have hy':its.toArray[its.toArray.size-1]? =some u:=by
  show its.toArray[its.length-1]? =some u
  rw[<-Array.getElem?_toList,<-hl]
  exact hu
 refine call_meets F.slot_list_pop ⟨_,e,rfl⟩ F.entry_list_pop (F.args_list_pop_1 _) (MeetsSeq.list_pop_last l its.toArray n u hy' (by rw[List.size_toArray];omega)) ⟨e,?_⟩
 refine⟨y,_,I.lset (its':=its.dropLast) hH e ?_ r.dropLast ?_,ru,q⟩
 ·show its.toArray.eraseIdxIfInBounds (its.toArray.size-1)=its.dropLast.toArray
  rw[List.size_toArray,List.eraseIdxIfInBounds_toArray,dM]
 ·rw[List.length_dropLast]
  omega
inductive qB0(x:V)(y:V)(H:Hp)(Q:VK):Prop
 |mk (l:_) (b:_) (xs:_) (zs:_) (a_0:x= .ref l) (a_1:y= .ref b) (a_2:H l=some (.lst xs)) (a_3:H b=some (.lst zs)) (a_4:xs.length+zs.length<=sizeLine) (a_5:∀p,H p=none->Q (.ref p) (upd H p (.lst (xs++zs)))):qB0 x y H Q
def tK:R2:=fun x y H Q=>qB0 x y H Q
theorem kG:uO X (binaryOp .Add) tK:=by
 intro pins s σ H x y v u Q I rx ry h
 obtain⟨l,b,xs,zs,rfl,rfl,hH,hB,hz,q⟩:=h
 cases rx
 cases ry
 obtain⟨z,its,n,r,hl,e⟩:=I.lstM hH
 obtain⟨z2,its2,n2,r2,hl2,e2⟩:=I.lstM hB
 refine PySem.P.add_list e e2 ?_ (by rw[List.size_toArray,List.size_toArray];omega)
 have ea:its.toArray++its2.toArray=(its++its2).toArray:=by simp
 rw[ea]
 exact⟨.ref _,_,I.lnew (t':=s.toks) (r.append r2) (by rw[List.length_append];omega),rfl,q _ I.fresh⟩
end
section
variable {prog:Program} {w:World} {A:Around} {E:Value->Shared->Prop} {s:Shared}
set_option maxRecDepth 100000 in
end
section
variable {X:Cx}
end
end L2
namespace Att
open PySem PySem.W PySem.Calls PyProof.Rows
theorem uP{P:Params}{h:Heap}:∀(ns:List Int)(vs:List Value),WellAll P h vs (ns.map WData.int)->IntsAre vs ns:=by
 intro ns
 induction ns with
 |nil=>
  intro vs w
  rw[List.map_nil]at w
  cases w
  exact .nil
 |cons n ns ih=>
  intro vs w
  rw[List.map_cons]at w
  cases w with
  |cons a b=>
   cases a
   exact .cons _ _ (ih _ b)
theorem tV{l:OpenLaw}{n:Nat}(hn:l.most=some n){P:Params}{h:Heap}{args:List WData}{vals:List Value}
  (hpre:l.row.toRowW.claim.pre args=true)(hwl:WellAll P h vals args):
  ∃a vs ns,vals=[Value.ref a]/\args=[WData.list (ns.map WData.int)]/\h.get? a=some {cls:=.type "list",data:=.seq vs.toArray}/\IntsAre vs ns/\ns.length<=n:=by
 have hsh:WShape.hasAll [] args [.list .int]=true:=(pre_splitW hpre).1
 have hc:l.pre.holds [] {args:=args}=true:=(pre_splitW hpre).2
 obtain⟨d,r,rfl,h1,h2⟩:=hasAllW_cons hsh
 obtain rfl:=hasAllW_nil h2
 obtain⟨xs,rfl,h3⟩:=hasW_list h1
 obtain⟨ns,rfl⟩:=items_int h3
 have hlen:ns.length<=n:=by
  unfold OpenLaw.pre at hc
  have h4:(WTm.not (.lt (.lit (.int (n:Int))) (.len (.arg 0)))).holds [] {args:=[.list (ns.map .int)]}=true:=by
   have h4:=(holds_andW hc).1
   rw[hn]at h4
   exact h4
  have h5:=condW_of h4 (w_not (w_lt w_lit (w_len_list (w_arg rfl))))
  rw[List.length_map]at h5
  refine Nat.le_of_not_lt fun q=>?_
  have q':(n:Int)<((ns.length:Nat):Int):=by omega
  first
   |(rw[decide_eq_true q']at h5;exact absurd h5 (by decide))
   |(simp at h5;omega)
 cases hwl with
 |cons w1 w2=>
  cases w2
  cases w1 with
  |list ho hall=>exact⟨_,_,ns,rfl,rfl,ho,uP ns _ hall,hlen⟩
theorem tW(l:OpenLaw)(args:List WData):l.row.toRowW.claim.post args (.bool true) args=true:=
 postW_of (r:=l.row.toRowW) (X:=(true==true))
  (show WShape.has [] (.bool true) .bool=true by first|rfl|decide|simp[WShape.has,WShape.arms,WShape.armsAll])
  (show(WTm.eq .res (.lit (.bool true))).value [] {args:=args,res:=some (.bool true),after:=args}=some (.bool (true==true))from w_eq_bool (w_res rfl) w_lit) rfl
theorem attach_call{l:OpenLaw}{n:Nat}{q:Program}{loose:List Str}{XP:(Str->Option Value)->Heap->Prop}{YP:World->Heap->Prop}{d:DefRec}
  (hn:l.most=some n)(hdf:d.params.defaults=[])
  (call:∀(w:World)(s₀ s₁:Shared)(mg mb:Str->Option Value)(fa:Addr)(o:Obj)(pm cd doc:Value)(a:Addr)(vs:List Value)(ns:List Int),
   Ground q loose [] XP w s₀ mg mb s₁.heap->YP w s₁.heap->
   s₁.heap.get? fa=some o->o.data= .func (docDef d.name d.params d.body d.scope pm cd doc)->s₁.heap.CodeRec cd d.name->mg d.name=some (.ref fa)->
   s₁.heap.get? a=some {cls:=.type "list",data:=.seq vs.toArray}->IntsAre vs ns->ns.length<=n->s₁.gens= #[]->
   codeAny (model l.prog w) callerA (.call (.ref fa) ⟨[.ref a],[]⟩) (fun r s'=>r= .ok (.ret (.bool true))/\OldK s₁.heap s'.heap/\s'.os=s₁.os/\AllBare s'.gens) s₁):
  WalkO q loose XP YP l.row.toRowW d [] (fun f vs=>PySem.call f vs):=by
 intro w s₀ s₁ mg mb G Y fa o pm cd doc dV kV ho hd hcd hD hmg hg args vals as hpre hlay hrd hwl hlo
 obtain rfl:dV= .none:=Dflts.none hD hdf
 obtain rfl:kV= .none:=Dflts.noKw hD
 obtain⟨a,vs,ns,rfl,rfl,hobj,hints,hlen⟩:=tV hn hpre hwl
 refine enter_call (codeAny_mono (call w s₀ s₁ mg mb fa o pm cd doc a vs ns G Y ho (fd_plain hd) hcd hmg hobj hints hlen hg) fun r s' hq=>?_)
 obtain⟨rfl,h2,h3,h4⟩:=hq
 exact⟨.inl ⟨.bool true,.bool true,[],rfl,fun _=>rfl,.bool true,tW l _,fun _=>⟨List.Pairwise.nil,fun _ hm=>(nomatch hm)⟩⟩,h2,h3,h4⟩
section
variable {prog:Program} {w:World} {A:Around} {E:Value->Shared->Prop} {s:Shared} {K:Frag}
end
end Att
namespace L2
open PySem PySem.Spec PyProof.Rows
theorem cZ:∀{vs:List Value}{ns:List Int},IntsAre vs ns->Vals (ns.map V.int) vs
 |_,_,.nil=>.nil
 |_,_,.cons n t h=>.cons ⟨t,rfl⟩ (cZ h)
def Only(H:Hp):Prop:=∀b,H b=none\/∃o xs,H b=some (.frz o (.lst xs))
theorem eN{P:Program}{w:World}{K:Fg}{mg mb:Str->Option Value}{CX:CXT}{k:Nat}{fa a:Addr}{fd:FuncData}{x:Str}{sp:Sp}{s₁:Shared}{vs:List Value}{ns:List Int}
  (KX:K.In s₁.heap)(hns:s₁.heap.Ns mainGlobals mg)(hb:s₁.heap.Ns builtinsNs mb)(hbb:∀x:Str,x≠"__name__"->mb x=bootBuiltins x)(hlim:s₁.heap.NoLimit)(hg:s₁.gens= #[])
  (ha:s₁.heap.get? a=some {cls:=.type "list",data:=.seq vs.toArray})(hi:IntsAre vs ns)(hl:ns.length<=sizeLine)(hr:Room k callerA)
  (F:∀base:Heap,K.In base->base.Ns mainGlobals mg->qS P w K mg base CX k fa fd [x] sp)(hbind:∀(s:Shared)(u:Value),BindsTo s fd ⟨[u],[]⟩ [(x,u)])
  (hsp:∀H:Hp,Only H->zH K H a (ns.map V.int)->sp [.ref a] H (fun v _=>v= .bl true) fun _ _ _=>False)
  (hCX:∀H e s',CX [] H s₁ (fun _ _ _=>False) e s'->False):
  codeAny (model P w) callerA (.call (.ref fa) ⟨[.ref a],[]⟩) (fun r s'=>r= .ok (.ret (.bool true))/\OldK s₁.heap s'.heap/\s'.os=s₁.os/\AllBare s'.gens) s₁:=by
 have rv:=cZ hi
 have lenV:=hi.length
 have core:∀H:Hp,Only H->zH K H a (ns.map V.int)->HOk P w H s₁.heap->(∀b,H b≠none->b=a)->(H a≠none->K.lookup a=none)->
   codeAny (model P w) callerA (.call (.ref fa) ⟨[.ref a],[]⟩) (fun r s'=>r= .ok (.ret (.bool true))/\OldK s₁.heap s'.heap/\s'.os=s₁.os/\AllBare s'.gens) s₁:=by
  intro H hO hS hok hA hK
  have base_of:∀{b:Addr}{o:Obj},s₁.heap.get? b=some o->H b=none->(cF s₁.heap H).get? b=some o:=fun e n=>aB e n
  have noA:∀{b:Addr}{o:Obj}{es:Array DictEntry}{ep:Nat},s₁.heap.get? b=some o->o.data= .dict es ep->H b=none:=fun {b o es ep}e d=>by
   cases q:H b with
   |none=>rfl
   |some u=>
    have e':b=a:=hA b (by rw[q];simp)
    subst e'
    rw[ha]at e;cases e
    have d':Data.seq vs.toArray _=Data.dict es ep:=d
    cases d'
  have nsK:∀{b:Addr}{m:Str->Option Value},s₁.heap.Ns b m->(cF s₁.heap H).Ns b m:=fun {b m}⟨o,es,ep,e,d,r⟩=>⟨o,es,ep,base_of e (noA e d),d,r⟩
  have hKb:K.In (cF s₁.heap H):=fun b o e=>base_of (KX b o e) (by
   cases q:H b with
   |none=>rfl
   |some u=>
    have e':b=a:=hA b (by rw[q];simp)
    subst e'
    rw[hK (by rw[q];simp)]at e;cases e)
  have hM:Mod K mg (cF s₁.heap H):=⟨hKb,nsK hns,⟨mb,nsK hb,hbb⟩,let⟨mc,h1,h2⟩:=hlim;⟨mc,nsK h1,h2⟩⟩
  have e0:Env0 P w K mg (cF s₁.heap H) callerA [] s₁ H:=⟨rfl,hM,fun b o e=>qO3 e,Nat.le_of_eq (sH _ _),trivial,fun b hb=>absurd (show b∈([]:List Addr)from hb) (by simp),hok,.of_eq hg⟩
  refine codeAny_mono ((F _ hKb (nsK hns)).run callerA [] s₁ H ⟨[.ref a],[]⟩ [.ref a] [.ref a] _ _ hr e0 (hbind s₁ (.ref a)) (.cons rfl .nil) (hsp H hO hS)) fun r s' h=>?_
  cases r with
  |error e=>exact(hCX H e s' h).elim
  |ok fl=>
   cases fl with
   |next=>exact False.elim h
   |brk=>exact False.elim h
   |cont=>exact False.elim h
   |ret u=>
    obtain⟨v,H',os,bare,un,hok',r',q⟩:=h
    have q':v= .bl true:=q
    subst q'
    obtain rfl:u=Value.bool true:=r'
    refine⟨rfl,OldK.of_keep fun b o e=>?_,os,bare⟩
    cases q:H b with
    |none=>exact un.keep b o e q (by intro z;exact absurd (show b∈([]:List Addr)from z) (by simp)) (by simp)
    |some u=>
     rcases hO b with z|⟨ob,xs,z⟩
     ·rw[q]at z;cases z
     ·have z2:=un.frzs b ob _ z
      obtain⟨e1,_⟩:=hok b _ z
      obtain⟨e2,_⟩:=hok' b _ z2
      rw[e]at e1;cases e1
      exact e2
 cases hk:K.lookup a with
 |some o=>
  have e:=KX a o hk
  rw[ha]at e
  cases e
  refine core (fun _=>none) (fun _=>.inl rfl) (.inr ⟨_,vs.toArray,_,hk,rfl,rfl,rfl,by rw[List.size_toArray,lenV];exact hl,by simpa using rv⟩) (fun b u z=>by have z':(none:Option HO)=some u:=z;cases z') (fun b z=>absurd rfl z) fun z=>absurd rfl z
 |none=>
  refine core (fun b=>if b=a then some (.frz {cls:=.type "list",data:=.seq vs.toArray} (.lst (ns.map V.int)))else none) (fun b=>?_) (.inl (.inr ⟨{cls:=.type "list",data:=.seq vs.toArray},if_pos rfl⟩)) (fun b u z=>?_) (fun b z=>?_) fun _=>hk
  ·by_cases hb:b=a
   ·exact .inr ⟨_,_,if_pos hb⟩
   ·exact .inl (if_neg hb)
  ·by_cases hb:b=a
   ·have z':=(if_pos hb).symm.trans z
    cases z'
    subst hb
    exact⟨ha,by rw[List.length_map];exact hl,vs,_,rv,ha⟩
   ·have z':=(if_neg hb).symm.trans z
    cases z'
  ·by_cases hb:b=a
   ·exact hb
   ·exact absurd (if_neg hb) z
theorem qI3{l:PySem.W.OpenLaw}{n k:Nat}{q:Program}{loose:List Str}{XP:(Str->Option Value)->Heap->Prop}{YP:World->Heap->Prop}{d:DefRec}{K:Params->Fg}{CX:World->CXT}{sp:World->Sp}{x:Str}
  (hn:l.most=some n)(hn2:n<=sizeLine)(hdf:d.params.defaults=[])(hr:Room k callerA)
  (hY:∀(w:World)(h:Heap),YP w h->(K w.params).In h)
  (F:∀(w:World)(mg:Str->Option Value)(fa:Addr)(h:Heap),(K w.params).In h->h.Ns mainGlobals mg->mg d.name=some (.ref fa)->
   ∃fd:FuncData,(∀(s:Shared)(u:Value),BindsTo s fd ⟨[u],[]⟩ [(x,u)])/\
    ∀base:Heap,(K w.params).In base->base.Ns mainGlobals mg->qS l.prog w (K w.params) mg base (CX w) k fa fd [x] (sp w))
  (hsp:∀(w:World)(H:Hp)(a:Addr)(ns:List Int),ns.length<=n->Only H->zH (K w.params) H a (ns.map V.int)->sp w [.ref a] H (fun v _=>v= .bl true) fun _ _ _=>False)
  (hCX:∀(w:World)(H:Hp)(s:Shared)(e:Value)(s':Shared),CX w [] H s (fun _ _ _=>False) e s'->False):
  PySem.W.WalkO q loose XP YP l.row.toRowW d [] (fun f vs=>PySem.call f vs):=by
 refine Att.attach_call hn hdf fun w s₀ s₁ mg mb fa o pm cd doc a vs ns G Y ho hd hcd hmg hobj hints hlen hg=>?_
 have KX:=hY w _ Y
 obtain⟨fd,hb,hF⟩:=F w mg fa _ KX G.T.g hmg
 exact eN KX G.T.g G.T.b G.T.builtins G.T.nolimit hg hobj hints (Nat.le_trans hlen hn2) hr hF hb (fun H hO hS=>hsp w H a ns hlen hO hS) fun H e s'=>hCX w H s₁ e s'
def vW(s:Stmt)(j:Nat):Stmt:=match s with
 | .ClassDef _ _ _ body _ _ _ _ _ _ _=>body.getD j (.Pass ⟨0,0,0,0⟩)
 |_=>.Pass ⟨0,0,0,0⟩
def lY(s:Stmt):Arguments:=match s with
 | .FunctionDef _ a _ _ _ _ _ _ _ _=>a
 |_=>{posonlyargs:=[],args:=[],vararg:=none,kwonlyargs:=[],kw_defaults:=[],kwarg:=none,defaults:=[]}
def kL(s:Stmt):List Stmt:=match s with
 | .FunctionDef _ _ b _ _ _ _ _ _ _=>b
 |_=>[]
def qU(s:Stmt):Scope:=match s with
 | .FunctionDef _ _ _ _ _ _ sc _ _ _=>sc
 |_=>{kind:=.function,names:=[],isGenerator:=false,isCoroutine:=false}
abbrev E0:XK:=fun _ _ _=>False
section
variable {P:Program} {w:World} {K:Fg} {mg:Str->Option Value} {base:Heap}
end
section
variable {X:Cx}
theorem pv(i:Nat){x:Str}{pos:Pos}(hN:X.N[i]? =some x:=by rfl)(hv:Vis X.env.scope x:=by first|exact Or.inl rfl|exact Or.inr (Or.inl rfl)|exact Or.inr (Or.inr rfl))(hd:(x==("__debug__":Str))=false:=by decide)
  (hcd:(x==("__classdict__":Str))=false:=by decide):PE X (.Name x pos) (jY i):=qP7 hN hv hd hcd
end
theorem jO{A B:Prop}(h:B):if false=true then A else B:=by
 rw[if_neg Bool.false_ne_true]
 exact h
theorem jN{A B:Prop}(h:A):if true=true then A else B:=by
 rw[if_pos rfl]
 exact h
theorem ite2{c A B:Prop}[Decidable c](h1:c->A)(h2:¬c->B):if c then A else B:=by
 by_cases h:c
 ·rw[if_pos h]
  exact h1 h
 ·rw[if_neg h]
  exact h2 h
theorem qB1{c A B:Prop}[Decidable c](hc:c)(h:B):if(!decide c)=true then A else B:=by
 rw[decide_eq_true hc]
 exact jO h
def Same(H H':Hp):Prop:=∀b o,H b=some o->H' b=some o
theorem Same.refl(H:Hp):Same H H:=fun _ _ h=>h
theorem Same.trans{H H1 H2:Hp}(a:Same H H1)(b:Same H1 H2):Same H H2:=fun c o h=>b c o (a c o h)
theorem Same.seq{K:Fg}{H H':Hp}{a:Addr}{xs:List V}(e:Same H H')(h:zH K H a xs):zH K H' a xs:=by
 rcases h with(h|⟨o,h⟩)|h
 ·exact .inl (.inl (e _ _ h))
 ·exact .inl (.inr ⟨o,e _ _ h⟩)
 ·exact .inr h
end L2
namespace XA
open PySem
section
variable {prog:Program} {w:World} {A:Around} {E:Value->Shared->Prop} {h:Heap} {g:Array GenState} {d:Drawn} {t:Nat} {os:OsState}
variable {nm q:Str} {C N:Addr} {bs bm bmB:List Value} {hdct:Bool} {sn:List Str} {sub:List Value} {ab:Bool} {col:Option Bool} {dd:Option Addr} {k0 k1 k2 k3 k5:Option Value} {B newId initId:String}
end
structure Fly(h:Heap)(e:Addr)(c:Value)(d:Option Addr)(a0:Value)(ot:Option Addr)(fl:Value):Prop where
 obj:∃vs sl,h.get? e=some {cls:=c,dict:=d,data:=.fields vs,slots:=sl}/\vs.size=6/\vs[0]? =some a0/\vs[1]? =some (ot.elim Value.none Value.ref)
 tb:∀T,ot=some T->T≠e/\∃oT ts,h.get? T=some oT/\oT.data= .fields ts/\ts[3]? =some fl
section
variable {M:Model} {A:Around} {E:Value->Shared->Prop} {s:Shared} {e:Addr} {c a0 fl:Value} {d ot:Option Addr} {T:Addr}
end
section
variable {M:Model} {A:Around} {E:Value->Shared->Prop} {env:Env}
variable {nm q:Str} {C N:Addr} {bs bm bmB:List Value} {hdct:Bool} {sn:List Str} {sub:List Value} {ab:Bool} {col:Option Bool} {dd:Option Addr} {k0 k1 k2 k3 k5:Option Value} {B newId initId:String}
end
section
variable {M:Model} {A:Around} {E:Value->Shared->Prop}
variable {nm q:Str} {C N:Addr} {bs bm:List Value} {hdct:Bool} {sn:List Str} {sub:List Value} {ab:Bool} {col:Option Bool} {dd:Option Addr} {k0 k1 k2 k3 k5:Option Value} {newId:String}
variable {nm' q':Str} {D N':Addr} {bs' bm':List Value} {hdct':Bool} {sn':List Str} {sub':List Value} {ab':Bool} {col':Option Bool} {dd':Option Addr} {j0 j1 j2 j3 j5:Option Value} {newId':String}
end
section
variable {prog:Program} {w:World} {A:Around} {E:Value->Shared->Prop} {s:Shared} {env:Env}
end
end XA
set_option maxHeartbeats 4000000
namespace L2
open PySem PySem.Spec PyProof.Rows
def ExO(nw:Bool)(C t:Addr)(d:Option Addr)(e:Addr):HO:=.ext fun h=>
 ∃vs sl,h.get? e=some {cls:=.ref C,dict:=d,data:=.fields vs,slots:=sl}/\vs.size=6/\vs[0]? =some (.ref t)/\(nw=true->vs[1]? =some .none)
def CXE(P:Program)(w:World):CXT:=fun outer H s E x s'=>∃(e C t T:Addr)(d:Option Addr)(H':Hp),x= .ref e/\s'.os=s.os/\AllBare s'.gens/\Un (frs outer) [] H H' s.heap s'.heap/\HOk P w H' s'.heap/\
 H' e=some (ExO false C t d e)/\s.heap.get? e=none/\s.heap.objs.size<=T/\H' T=none/\XA.Fly s'.heap e (.ref C) d (.ref t) (some T) .none/\E (.ref C) (some e) H'
section
variable {P:Program} {w:World} {K:Fg} {mg:Str->Option Value} {base:Heap} {N:List Str} {qual:Str} {scope:Scope} {f:Addr} {cd:Value} {A:Around} {outer:List Env} {s0:Shared} {H0:Hp} {E:XK}
end
end L2
namespace XA
open PySem Builtin Builtin.ObjectAttr
section
variable {M:Model} {A:Around} {E:Value->Shared->Prop} {h:Heap} {g:Array GenState} {d:Drawn} {t:Nat} {os:OsState} {e:Addr} {o:Obj}
end
section
variable {prog:Program} {w:World} {A:Around} {E:Value->Shared->Prop} {h:Heap} {g:Array GenState} {d:Drawn} {t:Nat} {os:OsState}
variable {C e:Addr} {l:List Value} {vs:Array Value} {sl:Array (Option Value)} {name:Str} {v:Value}
end
open Builtin.BaseException Builtin.Str
section
variable {prog:Program} {w:World} {A:Around} {E:Value->Shared->Prop} {h:Heap} {g:Array GenState} {d:Drawn} {t:Nat} {os:OsState}
variable {C e:Addr} {l:List Value} {vs:Array Value} {sl:Array (Option Value)} {name:Str} {v:Value} {B newId initId:String} {bmB:List Value} {dd:Option Addr}
end
end XA
namespace L2
open PySem PySem.Spec PyProof.Rows
section
variable {X:Cx} {CX:CXT} {k:Nat} {f C:Addr} {fd:FuncData} {ps:List Str} {sp:Sp} {dvs:List V} {ds:List Value} {E:XK} {x m:Str} {p pos apos:Pos} {e o:Expr} {es:List Expr} {ta:TE} {t:TA} {bm:List Value}
end
section
variable {P:Program} {w:World} {K:Fg} {mg:Str->Option Value} {base:Heap} {N:List Str} {qual:Str} {scope:Scope} {f:Addr} {cd:Value} {A:Around} {outer:List Env} {s0:Shared} {H0:Hp} {E:XK}
end
section
variable {X:Cx} {C S:Addr} {x m:Str} {p pos apos:Pos} {e o value:Expr} {es:List Expr} {ta tv:TE} {t:TA} {bm:List Value} {name:Str} {pos':Pos}
end
open Builtin Builtin.ObjectAttr
section
variable {prog:Program} {w:World} {A:Around} {E:Value->Shared->Prop} {K:Fg} {C e:Addr} {bm:List Value} {ox:Obj} {od:Option Obj}
end
section
variable {X:Cx}
end
end L2
namespace L2
open PySem PySem.Spec PyProof.Rows PyProof
section
variable {X:Cx}
theorem qI4:uO X (binaryOp .Mult) (rI IntMulOk fun i j=>.int (i*j)):=opI fun _ _ _ _ _ _ _ hc q=>mul_int q hc
theorem dN{ys:List Str}:∀{us:List Value},Vals (ys.map V.str) us->StrsAre us ys:=by
 induction ys with
 |nil=>intro us r;rw[List.map_nil]at r;cases r;exact .nil
 |cons n ns ih=>
  intro us r
  rw[List.map_cons]at r
  cases r with
  |cons r1 r2=>
   obtain⟨t,e⟩:=r1
   subst e
   exact .cons n t (ih r2)
theorem qI5:MtR X "str.join" (fun x xs H Q=>∃(z:Str)(p:Addr)(ys:List Str),x= .str z/\xs=[.ref p]/\zH X.K H p (ys.map V.str)/\z.length<=16/\(ys.map (·.length)).sum+ys.length<=1048576/\Q (.str (Txt.join z ys)) H):=by
 intro pins s σ H x xs v us Q I rx rs h
 obtain⟨z,p,ys,rfl,rfl,hq,h1,h2,q⟩:=h
 obtain⟨t,rfl⟩:=rx
 obtain⟨u,rfl,e⟩:=vals1 rs
 cases e
 obtain⟨its,r,pl,hz⟩:=I.list hq
 exact join_listW pl.isList (dN r) h1 h2 fun t' k=>⟨.str _,H,I.tok _,⟨_,rfl⟩,q⟩
theorem eB(hu:X.A.units<cLine):uO X (compareOp .Eq) (fun x y H Q=>∃p q xs,x= .ref p/\y= .ref q/\zH X.K H p xs/\zH X.K H q []/\Q (.bl xs.isEmpty) H):=by
 intro pins s σ H x y v u Q I rx ry h
 obtain⟨p,q',xs,rfl,rfl,h1,h2,q⟩:=h
 cases rx
 cases ry
 obtain⟨its,r1,p1,_⟩:=I.list h1
 obtain⟨its2,r2,p2,_⟩:=I.list h2
 cases r2
 cases r1 with
 |nil=>exact SeqAt.eq_listAt (e:=fun _=>true) p1.isList p2.isList rfl hu (fun j h _=>absurd h (by simp)) ⟨.bl true,H,I,rfl,q⟩
 |cons a b=>exact SeqAt.eq_list_lengthsAt p1.isList p2.isList (by simp) hu ⟨.bl false,H,I,rfl,q⟩
end
def uR(K:Fg)(a:Addr)(D:List (Str×V)):Prop:=
 (a==sysModules)=false/\∃o es ep,K.lookup a=some o/\o.ExactDict/\o.data= .dict es ep/\KTD.Rows zU es.toList D
section
variable {prog:Program} {w:World} {A:Around} {E:Value->Shared->Prop} {s:Shared} {a:Addr} {o:Obj} {es:Array DictEntry} {ep:Nat} {D:List (Str×V)} {k:Str} {tk:Tok}
theorem mX{Q:Option Value->Shared->Prop}(ho:s.heap.get? a=some o)(hd:o.data= .dict es ep)(hr:KTD.Rows zU es.toList D)
  (yes:∀v u,KTD.datumAt k D=some v->zU v u->Q (some u) {s with toks:=s.toks+1})(no:KTD.datumAt k D=none->Q none {s with toks:=s.toks+1}):
  wpAny (model prog w) A (dictGet a (.str k tk)) Q E s:=by
 have all:(es.all fun e=>isExactStrKey e.key)=true:=by
  obtain⟨l⟩:=es
  simpa using hr.exact
 have val:Q ((es.toList.find? fun e=>e.key.isStr k).map (·.val)) {s with toks:=s.toks+1}:=by
  cases q:KTD.datumAt k D with
  |some v=>
   obtain⟨u,hu,ru⟩:=hr.find_some q
   rw[hu];exact yes v u q ru
  |none=>rw[hr.find_none q];exact no q
 have same:(es.toList.find? fun e=>e.key.isStr k).map (·.val)=findBy (fun k v=>v.isStr k) es k:=by
  obtain⟨l⟩:=es
  simp[findBy]
 rw[same,findBy_of_findIdx?]at val
 unfold dictGet
 with_reducible refine wpAny_holding ?_
 refine wpAny_bind (wpAny_pyHash_str (wpAny_bind ?_))
 refine KTD.kt_dictFind_strs (s:={s with toks:=s.toks+1}) ho hd all ?_
 cases q:es.findIdx? fun e=>e.key.isStr k with
 |none=>
  rw[q]at val
  exact wpAny_pure val
 |some i=>
  rw[q]at val
  exact wpAny_bind (wpAny_dictEntries (s:={s with toks:=s.toks+1}) ho hd (wpAny_pure val))
theorem qI6{Q:Value->Shared->Prop}(lo:(a==sysModules)=false)(ho:s.heap.get? a=some o)(hc:o.ExactDict)(hd:o.data= .dict es ep)(hr:KTD.Rows zU es.toList D)
  (h:Q (.bool (KTD.inKeys k D)) {s with toks:=s.toks+1}):wpAny (model prog w) A (call (.builtin "dict.__contains__") [.ref a,.str k tk]) Q E s:=by
 refine wpAny_call_entry slot_dict_contains ⟨o,ho,hc.1⟩ entry_dict_contains ?_ (args_dict_contains _ _)
 show wpAny _ _ (dictGet a (.str k tk)>>=_) _ _ s
 refine wpAny_bind (mX ho hd hr (fun v u e _=>?_) fun e=>?_)
 ·have hb:KTD.inKeys k D=true:=by rw[<-KTD.isSome_datumAt,e];rfl
  rw[hb]at h
  exact wpAny_pure ⟨_,rfl,h⟩
 ·have hb:KTD.inKeys k D=false:=by rw[<-KTD.isSome_datumAt,e];rfl
  rw[hb]at h
  show wpAny _ _ (Builtin.Dict.pendingKey? a (.str k tk)>>=_) _ _ _
  exact wpAny_bind (wpAny_pendingKey_other lo (wpAny_pure ⟨_,rfl,h⟩))
end
section
variable {X:Cx}
theorem oF:uO X (compareOp .In) (fun x y H Q=>∃k a D,x= .str k/\y= .ref a/\uR X.K a D/\Q (.bl (KTD.inKeys k D)) H):=by
 intro pins s σ H x y v u Q I rx ry h
 obtain⟨k,a,D,rfl,rfl,⟨lo,o,es,ep,lk,hc,hd,hr⟩,q⟩:=h
 obtain⟨t,rfl⟩:=rx
 cases ry
 have ho:=I.kIn _ _ lk
 exact In_slot ⟨o,ho,hc.1⟩ slot_dict_contains (qI6 lo ho hc hd hr (wpAny_truthy_bool ⟨.bl _,H,I.tok _,rfl,q⟩))
theorem uZ:IxR X (fun x y H Q=>∃k a D v,x= .ref a/\y= .str k/\uR X.K a D/\KTD.datumAt k D=some v/\Q v H):=by
 intro value slice pins s σ H x y v u Q I rx ry h hs
 obtain⟨k,a,D,z,rfl,rfl,⟨lo,o,es,ep,lk,hc,hd,hr⟩,hk,q⟩:=h
 cases rx
 obtain⟨t,rfl⟩:=ry
 have ho:=I.kIn _ _ lk
 obtain⟨u0,hu0,ru0⟩:=hr.find_some hk
 refine subscriptTail_builtinR (x:=u0) (T:="dict") ⟨o,ho,hc.1⟩ slot_dict_getitem.lookup (getItem_slot (T:="dict") ⟨o,ho,hc.1⟩ (by decide) slot_dict_getitem ?_) hs
 refine wpAny_call_entry slot_dict_getitem ⟨o,ho,hc.1⟩ entry_dict_getitem ?_ (args_dict_getitem _ _)
 show wpAny _ _ (dictGet a (.str k t)>>=_) _ _ s
 have all:(es.all fun e=>isExactStrKey e.key)=true:=by
  obtain⟨l⟩:=es
  simpa using hr.exact
 have same:(es.toList.find? fun e=>e.key.isStr k).map (·.val)=findBy (fun k v=>v.isStr k) es k:=by
  obtain⟨l⟩:=es
  simp[findBy]
 rw[same,findBy_of_findIdx?]at hu0
 refine wpAny_bind ?_
 unfold dictGet
 with_reducible refine wpAny_holding ?_
 refine wpAny_bind (wpAny_pyHash_str (wpAny_bind ?_))
 refine KTD.kt_dictFind_strs (s:={s with toks:=s.toks+1}) ho hd all ?_
 cases e:es.findIdx? fun e=>e.key.isStr k with
 |none=>rw[e]at hu0;cases hu0
 |some i=>
  rw[e]at hu0
  refine wpAny_bind (wpAny_dictEntries (s:={s with toks:=s.toks+1}) ho hd (wpAny_pure ?_))
  have e2:es[i]?.map (·.val)=some u0:=hu0
  rw[e2]
  exact wpAny_pure ⟨_,rfl,rfl,z,H,I.tok _,ru0,q⟩
end
def kD(X:Cx)(scope:Scope)(cl:List (Str×Addr))(Nb:List Str)(C:Addr)(s:Shared)(H:Hp)(fp:List Addr)(pins:List (Addr×Obj)):Cx:=
 {X with env:=compEnvC scope cl C X.env,N:=Nb,s₀:=s,H₀:=H,outer:=X.stack,ex:=fp,fn:=fun _=>false,pn:=X.pn++pins,xe:=fun _ _=>False}
section
variable {X:Cx} {scope:Scope} {cl:List (Str×Addr)} {x:Str} {rest:List Str} {ix:List Nat}
theorem uG(g:Str->NameKind->NameKind):∀(names:List (Str×NameKind))(y:Str),(names.map fun p=>(p.1,g p.1 p.2)).lookup y=(names.lookup y).map (g y)
 |[],_=>rfl
 |(n,k)::r,y=>by
  have ih:=uG g r y
  rw[List.map_cons]
  cases hy:y==n with
  |true=>
   have e:y=n:=beq_iff_eq.mp hy
   subst e
   simp only[List.lookup_cons,beq_self_eq_true,Option.map_some]
  |false=>simp only[List.lookup_cons,hy];exact ih
theorem vB(env:Env)(names:List (Str×NameKind))(y:Str):
  (names.map fun(n,k)=>if(k==NameKind.free&&env.scope.kind== .function&&env.kindOf n==some .cell)then(n,NameKind.cell)else(n,k)).lookup y=
   (names.lookup y).map fun k=>if(k==NameKind.free&&env.scope.kind== .function&&env.kindOf y==some .cell)then NameKind.cell else k:=by
 rw[<-uG (fun y k=>if(k==NameKind.free&&env.scope.kind== .function&&env.kindOf y==some .cell)then NameKind.cell else k)]
 congr 1
 refine List.map_congr_left fun p _=>?_
 obtain⟨n,k⟩:=p
 dsimp only
 split<;>rfl
theorem yV{C:Addr}{y:Str}{k:NameKind}(h:(compEnvC scope cl C X.env).kindOf y=some k)(hk:k= .cell\/k= .free)(hcell:∀y∈scope.names,y.2≠ .cell):scope.names.lookup y=some .free:=by
 have e:(compEnvC scope cl C X.env).kindOf y=(scope.names.lookup y).map fun k=>if(k==NameKind.free&&X.env.scope.kind== .function&&X.env.kindOf y==some .cell)then NameKind.cell else k:=vB X.env scope.names y
 rw[e]at h
 cases q:scope.names.lookup y with
 |none=>rw[q]at h;cases h
 |some k0=>
  rw[q]at h
  simp only[Option.map_some,Option.some.injEq]at h
  by_cases hc:(k0==NameKind.free&&X.env.scope.kind== .function&&X.env.kindOf y==some .cell)=true
  ·have :k0= .free:=by
    rw[Bool.and_eq_true,Bool.and_eq_true]at hc
    exact beq_iff_eq.mp hc.1.1
   rw[this]
  ·rw[if_neg hc]at h
   subst h
   rcases hk with rfl|rfl
   ·exact absurd rfl (hcell (y,.cell) (PySem.mem_of_lookup q))
   ·rfl
theorem mW{σ:St}:∀{ix:List Nat}{j i:Nat},ix[j]? =some i->(ix.map fun i=>σ.getD i none)[j]? =some (σ.getD i none):=fun {ix j i}h=>by
 rw[List.getElem?_map,h];rfl
end
section
variable {X:Cx} {CX:CXT} {k:Nat} {f C:Addr} {fd:FuncData} {ps:List Str} {sp:Sp} {dvs:List V} {ds:List Value} {E:XK} {x m:Str} {p pos apos:Pos} {e o:Expr} {es:List Expr} {ta:TE} {t:TA}
end
structure zZ(K:Fg)(x qual:Str)(st:Stmt)(dV:Value)(f:Addr)(fd:FuncData):Prop where
 ex:∃(oc:Value)(od:Option Addr)(kV doc pm:Value)(an:Option Addr)(cdv ct:Value)(osl:Array (Option Value)),
  fd=PySem.W.fnOf x qual (lY st) (kL st) (qU st) dV kV doc pm an cdv ct/\K.lookup f=some ⟨oc,od,.func fd,osl⟩/\PySem.W.codeIn K cdv qual=true
 kp:PySem.W.keepIn K (.ref f)=true
section
variable {P:Program} {w:World} {K:Fg} {mg:Str->Option Value} {base:Heap} {x qual:Str} {st:Stmt} {dV:Value} {f:Addr} {fd:FuncData} {N ps:List Str} {k:Nat} {sp:Sp}
theorem zS{X:Cx}:Passes (CXE P w) X E0:=fun _ _ _ _ _ _ _ h=>by
 obtain⟨_,_,_,_,_,_,_,_,_,_,_,_,_,_,_,_,z⟩:=h
 exact z.elim
theorem zZ.okE(F:zZ K x qual st dV f fd)(S:qO N ps (qU st))(len:∀vs H Q E,sp vs H Q E->vs.length=ps.length)
  (hbody:∀(cdv:Value)(A:Around)(outer:List Env)(s:Shared)(H:Hp)(vs:List V)(Q:VK)(E:XK),Room k (A.deeper (envOfC qual (qU st) s.heap.objs.size f cdv))->sp vs H Q E->
   ∃t,PSs (oG (CXE P w) P w K mg base N qual (qU st) f cdv A outer s H E) (kL st) t/\t {nx:=fun _ H'=>Q .non H',rt:=Q} (start N vs) H):qS P w K mg base (CXE P w) (k+1) f fd ps sp:=by
 obtain⟨oc,od,kV,doc,pm,an,cdv,ct,osl,rfl,lk,hcd⟩:=F.ex
 exact zKz lk hcd S len fun A outer s H vs Q E hr hsp=>hbody cdv A outer s H vs Q E hr hsp
theorem zZ.ok0(F:zZ K x qual st dV f fd)(S:qO N ps (qU st))(len:∀vs H Q E,sp vs H Q E->vs.length=ps.length)
  (hbody:∀(cdv:Value)(A:Around)(outer:List Env)(s:Shared)(H:Hp)(vs:List V)(Q:VK)(E:XK),Room k (A.deeper (envOfC qual (qU st) s.heap.objs.size f cdv))->sp vs H Q E->
   ∃t,PSs (oG (CXE P w) P w K mg base N qual (qU st) f cdv A outer s H E).nox (kL st) t/\t {nx:=fun _ H'=>Q .non H',rt:=Q} (start N vs) H):qS P w K mg base (CXE P w) (k+1) f fd ps sp:=
 F.okE S len fun cdv A outer s H vs Q E hr hsp=>let⟨t,h,q⟩:=hbody cdv A outer s H vs Q E hr hsp;⟨t,h.nox,q⟩
theorem zZ.binds{ds:List Value}(F:zZ K x qual st dV f fd)
  (h:∀(kV doc pm:Value)(an:Option Addr)(cdv ct:Value)(s:Shared)(us:List Value),K.In s.heap->(us++ds).length=ps.length->BindsTo s (PySem.W.fnOf x qual (lY st) (kL st) (qU st) dV kV doc pm an cdv ct) ⟨us,[]⟩ (ps.zip (us++ds))):Binds K fd ps ds:=by
 obtain⟨oc,od,kV,doc,pm,an,cdv,ct,osl,rfl,lk,hcd⟩:=F.ex
 exact fun s us X hl=>h kV doc pm an cdv ct s us X hl
end
section
variable {X:Cx} {k:Nat} {f:Addr} {fd:FuncData} {ps:List Str} {sp:Sp} {dvs:List V} {ds:List Value} {E:XK} {x:Str} {p pos:Pos} {e:Expr} {es:List Expr} {t:TA}
end
section
variable {X:Cx} {pins:List (Addr×Obj)} {σ:St} {H:Hp} {s:Shared} {e C t T:Addr} {d:Option Addr} {Q:Unit->Shared->Prop} {E:Value->Shared->Prop}
end
section
variable {X:Cx}
end
end L2
namespace L2
open PySem PySem.Spec PyProof.Rows
section
variable {κ:Type} [DecidableEq κ]
def kX(kvs:List (κ×V))(k:κ):Option V:=(kvs.find? fun kv=>decide (kv.1=k)).map (·.2)
def kM(kvs:List (κ×V))(k:κ)(v:V):List (κ×V):=
 if(kvs.any fun kv=>decide (kv.1=k))=true then kvs.map (fun kv=>if kv.1=k then(kv.1,v)else kv)else kvs++[(k,v)]
theorem valV_nil{k:κ}:kX ([]:List (κ×V)) k=none:=rfl
theorem xJ{p:κ×V}{r:List (κ×V)}{k:κ}(e:p.1=k):kX (p::r) k=some p.2:=by simp[kX,List.find?_cons,e]
theorem xX{p:κ×V}{r:List (κ×V)}{k:κ}(e:¬p.1=k):kX (p::r) k=kX r k:=by simp[kX,List.find?_cons,e]
theorem yW(k:κ):∀kvs:List (κ×V),(kvs.any fun kv=>decide (kv.1=k))=(kX kvs k).isSome
 |[]=>rfl
 |p::r=>by
  rw[List.any_cons]
  by_cases e:p.1=k
  ·simp only[xJ e,decide_eq_true e,Bool.true_or,Option.isSome_some]
  ·rw[xX e,decide_eq_false e,Bool.false_or];exact yW k r
theorem mY(k j:κ)(y:V):∀kvs:List (κ×V),kX (kvs.map fun kv=>if kv.1=k then(kv.1,y)else kv) j=(kX kvs j).map fun x=>if j=k then y else x
 |[]=>rfl
 |p::r=>by
  have ih:=mY k j y r
  rw[List.map_cons]
  by_cases h:p.1=k
  ·rw[if_pos h]
   by_cases e:p.1=j
   ·rw[xJ (p:=(p.1,y)) e,xJ e,Option.map_some,if_pos (e.symm.trans h)]
   ·rw[xX (p:=(p.1,y)) e,xX e,ih]
  ·rw[if_neg h]
   by_cases e:p.1=j
   ·rw[xJ (p:=p) e,xJ e,Option.map_some,if_neg (fun z=>h (e.trans z))]
   ·rw[xX (p:=p) e,xX e,ih]
theorem cJ(k j:κ)(y:V):∀kvs:List (κ×V),kX kvs k=none->kX (kvs++[(k,y)]) j=if j=k then some y else kX kvs j
 |[],_=>by
  by_cases e:k=j
  ·rw[if_pos e.symm];exact xJ (p:=(k,y)) e
  ·rw[if_neg (fun z=>e z.symm)];exact xX (p:=(k,y)) e
 |p::r,hn=>by
  rw[List.cons_append]
  have hk:¬p.1=k:=fun z=>by rw[xJ z]at hn;cases hn
  rw[xX hk]at hn
  have ih:=cJ k j y r hn
  by_cases e:p.1=j
  ·rw[xJ e,xJ e,if_neg (fun z=>hk (e.trans z))]
  ·rw[xX e,xX e,ih]
theorem oH(kvs:List (κ×V))(k j:κ)(y:V):kX (kM kvs k y) j=if j=k then some y else kX kvs j:=by
 unfold kM
 by_cases a:(kvs.any fun kv=>decide (kv.1=k))=true
 ·rw[if_pos a,mY]
  rw[yW]at a
  by_cases e:j=k
  ·obtain⟨x,hx⟩:=Option.isSome_iff_exists.mp a
   rw[if_pos e,e,hx,Option.map_some,if_pos rfl]
  ·rw[if_neg e]
   cases kX kvs j with
   |none=>rfl
   |some x=>rw[Option.map_some,if_neg e]
 ·rw[if_neg a]
  refine cJ k j y kvs ?_
  rw[yW]at a
  cases q:kX kvs k with
  |none=>rfl
  |some x=>rw[q]at a;exact(a rfl).elim
theorem kK(kvs:List (κ×V))(k:κ)(v:V):(kM kvs k v).length<=kvs.length+1:=by
 unfold kM
 split
 ·rw[List.length_map];omega
 ·rw[List.length_append,List.length_cons,List.length_nil];omega
theorem wK.isSome_eq{o:Option V}{u:Option Value}(r:wK o u):o.isSome=u.isSome:=by
 cases o with
 |none=>cases u with
  |none=>rfl
  |some _=>exact(show False from r).elim
 |some _=>cases u with
  |none=>exact(show False from r).elim
  |some _=>rfl
theorem KV.val{kvs:List (κ×V)}{vs:List (κ×Value)}(r:KV kvs vs)(k:κ):wK (kX kvs k) (valueAt vs k):=by
 unfold KV at r
 induction r with
 |nil=>exact True.intro
 | @cons p q ps qs h t ih=>
  obtain⟨h1,h2⟩:=h
  by_cases e:p.1=k
  ·have e':q.1=k:=h1.symm.trans e
   have b:valueAt (q::qs) k=some q.2:=by simp[valueAt,List.find?_cons,e']
   rw[xJ e,b];exact h2
  ·have e':¬q.1=k:=fun z=>e (h1.trans z)
   have b:valueAt (q::qs) k=valueAt qs k:=by simp[valueAt,List.find?_cons,e']
   rw[xX e,b];exact ih
theorem KV.any{kvs:List (κ×V)}{vs:List (κ×Value)}(r:KV kvs vs)(k:κ):(kvs.any fun kv=>decide (kv.1=k))=vs.any fun kv=>decide (kv.1=k):=by
 unfold KV at r
 induction r with
 |nil=>rfl
 |cons h t ih=>rw[List.any_cons,List.any_cons,ih,h.1]
theorem KV.repl{kvs:List (κ×V)}{vs:List (κ×Value)}(r:KV kvs vs)(k:κ){y:V}{u:Value}(ry:zU y u):
  KV (kvs.map fun kv=>if kv.1=k then(kv.1,y)else kv) (vs.map fun kv=>if kv.1=k then(kv.1,u)else kv):=by
 unfold KV at r⊢
 induction r with
 |nil=>exact .nil
 | @cons p q ps qs h t ih=>
  rw[List.map_cons,List.map_cons]
  refine .cons ?_ ih
  obtain⟨h1,h2⟩:=h
  by_cases e:p.1=k
  ·rw[if_pos e,if_pos (h1.symm.trans e)];exact⟨h1,ry⟩
  ·rw[if_neg e,if_neg (fun z=>e (h1.trans z))];exact⟨h1,h2⟩
theorem KV.put{kvs:List (κ×V)}{vs:List (κ×Value)}(r:KV kvs vs)(k:κ){y:V}{u:Value}(ry:zU y u):KV (kM kvs k y) (stored vs k u):=by
 unfold kM stored
 rw[r.any k]
 by_cases e:(vs.any fun kv=>decide (kv.1=k))=true
 ·rw[if_pos e,if_pos e];exact r.repl k ry
 ·rw[if_neg e,if_neg e];exact Paired.snoc r ⟨rfl,ry⟩
theorem KV.length{kvs:List (κ×V)}{vs:List (κ×Value)}(r:KV kvs vs):kvs.length=vs.length:=Paired.length r
end
theorem rQ{P:Program}{w:World}{k:Key}{u:Value}(r:zU (kV k) u):(jQ P w).is k u=true:=by
 cases k with
 |inl i=>obtain⟨t,e⟩:=(show∃t,u=Value.int i t from r);subst e;exact gM P w i t
 |inr x=>obtain⟨t,e⟩:=(show∃t,u=Value.str x t from r);subst e;exact gN P w x t
theorem cX{P:Program}{w:World}:∀{ks:List Key}{us:List Value},Vals (ks.map kV) us->ItemsAre (jQ P w) ks us
 |[],_,r=>by rw[List.map_nil]at r;cases r;exact .nil
 |k::ks,_,r=>by
  rw[List.map_cons]at r
  cases r with
  |cons h t=>exact .cons (rQ h) (cX t)
abbrev KT(H:Hp):List (List Key×V)->List (List Key×Addr×Value)->Prop:=Paired fun p q=>p.1=q.1/\H q.2.1=some (.tup (p.1.map kV))/\zU p.2 q.2.2
theorem KT.val{H:Hp}{kvs:List (List Key×V)}{xs:List (List Key×Addr×Value)}(r:KT H kvs xs)(k:List Key):wK (kX kvs k) ((atKey xs k).map (·.2)):=by
 induction r with
 |nil=>exact True.intro
 | @cons p q ps qs h t ih=>
  obtain⟨h1,_,h2⟩:=h
  by_cases e:p.1=k
  ·have e':q.1=k:=h1.symm.trans e
   have b:atKey (q::qs) k=some q.2:=by simp[atKey,List.find?_cons,e']
   rw[xJ e,b];exact h2
  ·have e':¬q.1=k:=fun z=>e (h1.trans z)
   have b:atKey (q::qs) k=atKey qs k:=by simp[atKey,List.find?_cons,e']
   rw[xX e,b];exact ih
theorem KT.repl{H:Hp}{kvs:List (List Key×V)}{xs:List (List Key×Addr×Value)}(r:KT H kvs xs)(k:List Key){y:V}{u:Value}(ry:zU y u):
  KT H (kvs.map fun kv=>if kv.1=k then(kv.1,y)else kv) (xs.map (putAt k u)):=by
 induction r with
 |nil=>exact .nil
 | @cons p q ps qs h t ih=>
  rw[List.map_cons,List.map_cons]
  refine .cons ?_ ih
  obtain⟨h1,h2,h3⟩:=h
  unfold putAt
  by_cases e:p.1=k
  ·rw[if_pos e,if_pos (h1.symm.trans e)];exact⟨h1,h2,ry⟩
  ·rw[if_neg e,if_neg (fun z=>e (h1.trans z))];exact⟨h1,h2,h3⟩
theorem KT.put{H:Hp}{kvs:List (List Key×V)}{xs:List (List Key×Addr×Value)}(r:KT H kvs xs)(k:List Key){b:Addr}{y:V}{u:Value}(hb:H b=some (.tup (k.map kV)))(ry:zU y u):
  KT H (kM kvs k y) (storedH xs k b u):=by
 have e:(kvs.any fun kv=>decide (kv.1=k))=(atKey xs k).isSome:=by
  rw[yW,(r.val k).isSome_eq,Option.isSome_map]
 unfold kM storedH
 rw[e]
 by_cases q:(atKey xs k).isSome=true
 ·rw[if_pos q,if_pos q];exact r.repl k ry
 ·rw[if_neg q,if_neg q];exact Paired.snoc r ⟨rfl,hb,ry⟩
theorem KT.keeps{H H':Hp}{kvs:List (List Key×V)}{xs:List (List Key×Addr×Value)}(r:KT H kvs xs)(ht:∀b ys,H b=some (.tup ys)->H' b=some (.tup ys)):KT H' kvs xs:=
 Paired.mapP r fun _ _ z=>⟨z.1,ht _ _ z.2.1,z.2.2⟩
section
variable {P:Program} {w:World} {H:Hp} {h:Heap} {a:Addr}
theorem qB2{u:HO}(ok:HOk P w H h)(e:Rd H a u):jA P w H h a u:=e.ok ok
theorem mU{kvs:List (Key×V)}(ok:HOk P w H h)(e:Rd H a (.dK kvs)):kvs.length<=sizeLine/\(a==sysModules)=false/\∃vs,KV kvs vs/\h.DictOf (jQ P w) a vs:=
 show jA P w H h a (.dK kvs)from qB2 ok e
theorem zV1{kvs:List (Key×V)}(ok:HOk P w H h)(e:H a=some (.dK kvs)):kvs.length<=sizeLine/\(a==sysModules)=false/\∃vs,KV kvs vs/\h.DictOf (jQ P w) a vs:=mU ok (.inl e)
theorem lU{ks:List Key}(ok:HOk P w H h)(e:H a=some (.tup (ks.map kV))):(tupleKind (jQ P w)).is h ks a:=by
 obtain⟨_,its,r,o,h1,h2,n,h3⟩:=(show jA P w H h a (.tup (ks.map kV))from ok a _ e)
 exact⟨o,its.toArray,n,h1,h2,h3,by simpa using cX r⟩
theorem rZ{kvs:List (List Key×V)}(ok:HOk P w H h)(e:Rd H a (.dT kvs)):kvs.length<=sizeLine/\(a==sysModules)=false/\
  ∃xs,KT H kvs xs/\h.DictOfH (tupleKind (jQ P w)) a xs:=by
 obtain⟨z,y,xs,r,o,es,ep,h1,h2,h3,h4,h5⟩:=(show jA P w H h a (.dT kvs)from qB2 ok e)
 refine⟨z,y,xs,r,o,es,ep,h1,h2,h3,h4,fun x hx=>?_,h5⟩
 have all:∀{l:List (List Key×V)}{m:List (List Key×Addr×Value)},KT H l m->∀x∈m,(tupleKind (jQ P w)).is h x.1 x.2.1:=by
  intro l m q
  induction q with
  |nil=>intro x hx;exact nomatch hx
  | @cons p q ps qs hq t ih=>
   intro x hx
   rcases List.mem_cons.mp hx with e|hx
   ·subst e
    exact lU ok (by rw[<-hq.1];exact hq.2.1)
   ·exact ih x hx
 exact all r x hx
theorem zV2{kvs:List (List Key×V)}(ok:HOk P w H h)(e:H a=some (.dT kvs)):kvs.length<=sizeLine/\(a==sysModules)=false/\
  ∃xs,KT H kvs xs/\h.DictOfH (tupleKind (jQ P w)) a xs:=rZ ok (.inl e)
end
def DGet(H:Hp)(a:Addr)(y:V)(r:Option V):Prop:=
 (∃kvs k,Rd H a (.dK kvs)/\y=kV k/\r=kX kvs k)\/∃kvs k b,Rd H a (.dT kvs)/\y= .ref b/\H b=some (.tup (k.map kV))/\r=kX kvs k
def DPut(H:Hp)(a:Addr)(y v:V)(H':Hp):Prop:=
 (∃kvs k,H a=some (.dK kvs)/\y=kV k/\kvs.length<sizeLine/\H'=upd H a (.dK (kM kvs k v)))\/
 ∃kvs k b,H a=some (.dT kvs)/\y= .ref b/\H b=some (.tup (k.map kV))/\kvs.length<sizeLine/\H'=upd H a (.dT (kM kvs k v))
theorem DGet.k{H:Hp}{a:Addr}{kvs:List (Key×V)}{k:Key}(e:H a=some (.dK kvs)):DGet H a (kV k) (kX kvs k):=.inl ⟨kvs,k,.inl e,rfl,rfl⟩
theorem DPut.k{H:Hp}{a:Addr}{kvs:List (Key×V)}{k:Key}{v:V}(e:H a=some (.dK kvs))(hl:kvs.length<sizeLine):DPut H a (kV k) v (upd H a (.dK (kM kvs k v))):=.inl ⟨kvs,k,e,rfl,hl,rfl⟩
section
variable {X:Cx} {pins:List (Addr×Obj)} {σ:St} {H:Hp} {s:Shared} {a:Addr} {y v:V} {u r:Value} {o:Option V} {A:Around} {E:Value->Shared->Prop}
theorem Inv.big(I:Inv X pins σ H s):sysModules<s.heap.objs.size:=by
 have h:mainGlobals<s.heap.objs.size:=(I.mod.glob.keeps I.bk).lt
 exact Nat.lt_trans (by decide) h
theorem tY{Q:Value->Shared->Prop}(hu:A.units+1<cLine)(I:Inv X pins σ H s)(g:DGet H a y (some v))(ry:zU y u)(h:∀w' s',Inv X pins σ H s'->zU v w'->Q w' s'):
  wpAny (model X.prog X.w) A (getItem (.ref a) u) Q E s:=by
 rcases g with⟨kvs,k,e,ey,l⟩|⟨kvs,k,b,e,ey,eb,l⟩
 ·subst ey
  obtain⟨z,hd,vs,rel,dd⟩:=mU I.hok e
  obtain⟨w',hw,rw'⟩:=wK.some_of (v:=v) (o:=valueAt vs k) (by rw[l];exact rel.val k)
  exact wpAny_getItem_of (rQ ry) dd.mapOf hw (h w' _ (I.tok _) rw')
 ·subst ey
  cases (show u=Value.ref b from ry)
  obtain⟨z,hd,xs,rel,dd⟩:=rZ I.hok e
  obtain⟨w',hw,rw'⟩:=wK.some_of (v:=v) (o:=(atKey xs k).map (·.2)) (by rw[l];exact rel.val k)
  obtain⟨p,hp,hp2⟩:=aq6.mp hw
  refine wpAny_getItem_heap (tupleKind_room_in1 hu) (lU I.hok eb) dd hp ?_
  rw[hp2]
  exact h w' _ (I.tok _) rw'
theorem qI7{Q:Value->Shared->Prop}(hu:A.units+1<cLine)(I:Inv X pins σ H s)(g:DGet H a y o)(ry:zU y u)(h:∀s',Inv X pins σ H s'->Q (.bool (!o.isSome)) s'):
  wpAny (model X.prog X.w) A (compareOp .NotIn u (.ref a)) Q E s:=by
 rcases g with⟨kvs,k,e,ey,l⟩|⟨kvs,k,b,e,ey,eb,l⟩
 ·subst ey
  obtain⟨z,hd,vs,rel,dd⟩:=mU I.hok e
  refine wpAny_notIn_of (rQ ry) hd dd.mapOf ?_
  rw[<-(rel.val k).isSome_eq,<-l]
  exact h _ (I.tok _)
 ·subst ey
  cases (show u=Value.ref b from ry)
  obtain⟨z,hd,xs,rel,dd⟩:=rZ I.hok e
  refine wpAny_notIn_heap (tupleKind_room_in1 hu) (lU I.hok eb) hd dd ?_
  have q:=(rel.val k).isSome_eq
  rw[Option.isSome_map]at q
  rw[<-q,<-l]
  exact h _ (I.tok _)
theorem rJ{h':Heap}{t':Nat}{ob:HO}(I:Inv X pins σ H s)(mu:Mut (H a))(hs:Heap.SameBut a s.heap h')(he:∃q,h'.get? a=some q)(new:jA X.prog X.w (upd H a ob) h' a ob):
  Inv X pins σ (upd H a ob) {s with heap:=h',toks:=t'}:=
 I.write (x:=a) (e:=a) mu (.inl rfl) (fun b q hb z=>(hs.2 b hb).trans z) he new
theorem qRq{P:Program}{w:World}{H':Hp}{h':Heap}{kvs:List (Key×V)}{vs:List (Key×Value)}(z:kvs.length<=sizeLine)(hd:(a==sysModules)=false)(rel:KV kvs vs)(dd:h'.DictOf (jQ P w) a vs):
  jA P w H' h' a (.dK kvs):=⟨z,hd,vs,rel,dd⟩
theorem tU{H':Hp}{Q:Unit->Shared->Prop}(hu:A.units+1<cLine)(I:Inv X pins σ H s)(g:DPut H a y v H')(ry:zU y u)(rv:zU v r)(h:∀s',Inv X pins σ H' s'->Q () s'):
  wpAny (model X.prog X.w) A (setItem (.ref a) u r) Q E s:=by
 rcases g with⟨kvs,k,e,ey,l,eH⟩|⟨kvs,k,b,e,ey,eb,l,eH⟩
 ·subst ey eH
  obtain⟨z,hd,vs,rel,dd⟩:=zV1 I.hok e
  have hz:vs.length<=sizeLine:=by rw[<-rel.length];exact z
  have hl:(kM kvs k v).length<=sizeLine:=by have :=kK kvs k v;omega
  refine wpAny_setItem_pairs (hsz:=hz) (rQ ry) dd fun h' dd' hs=>h _ ?_
  have he:∃q,h'.get? a=some q:=let⟨q,_,_,hq,_⟩:=dd';⟨q,hq⟩
  exact rJ I (by rw[e];exact True.intro) hs he (qRq hl hd (rel.put k rv) dd')
 ·subst ey eH
  cases (show u=Value.ref b from ry)
  obtain⟨z,hd,xs,rel,dd⟩:=zV2 I.hok e
  have hz:xs.length<=sizeLine:=by rw[<-Paired.length rel];exact z
  have hl:(kM kvs k v).length<=sizeLine:=by have :=kK kvs k v;omega
  refine wpAny_setItem_heap (hsz:=hz) (tupleKind_room_in1 hu) (lU I.hok eb) dd fun h' dd' hs=>h _ ?_
  obtain⟨q,es,ep,hq,h2,h3,h4,_,h5⟩:=dd'
  refine rJ I (by rw[e];exact True.intro) hs ⟨q,hq⟩ ⟨hl,hd,_,(rel.put k eb rv).keeps fun c ys ec=>?_,q,es,ep,hq,h2,h3,h4,h5⟩
  rw[qH (xB ec e (fun z=>nomatch z))]
  exact ec
end
section
variable {X:Cx} {pins:List (Addr×Obj)} {σ:St} {H:Hp} {s:Shared} {a:Addr} {kvs:List (Key×V)} {k:Key} {u:Value} {A:Around} {E:Value->Shared->Prop}
theorem zV3{Q:Value->Shared->Prop}(I:Inv X pins σ H s)(e:Rd H a (.dK kvs))(h:∀t s',Inv X pins σ H s'->Q (.int kvs.length t) s'):wpAny (model X.prog X.w) A (call (.builtin "len") [.ref a]) Q E s:=by
 obtain⟨z,hd,vs,rel,dd⟩:=mU I.hok e
 refine call_len_dict hd dd (by rw[<-rel.length];rw[sizeLine_eq]at z;omega) ?_
 rw[<-rel.length]
 exact h _ _ (I.tok _)
end
def zV4(i:Expr):Prop:=∀ov iv,subscripted i false ov iv=operate [ov,iv] (getItem ov iv)
theorem qI8{prog:Program}{w:World}{A:Around}{E:Value->Shared->Prop}{s:Shared}{env:Env}{value slice:Expr}{pos:Pos}{T id:String}{Q:Value->Shared->Prop}
  (hl:typeLookup (.type T) "__getitem__"=pure (some (.builtin id)))(hs:zV4 slice)
  (h:wpAny (model prog w) A (eval value env) (fun o s₁=>wpAny (model prog w) A (eval slice env) (fun i s₂=>s₂.TypeIs o T/\wpAny (model prog w) A (getItem o i) Q E s₂) E s₁) E s):
  wpAny (model prog w) A (eval (.Subscript value slice pos) env) Q E s:=by
 refine Subscript_ (wpAny_mono h (fun o s₁ h₁=>wpAny_mono h₁ (fun i s₂ h₂=>?_) fun _ _ x=>x) fun _ _ x=>x)
 obtain⟨hT,h₂⟩:=h₂
 unfold subscriptTail
 refine wpAny_bind ?_
 rw[getitemInPython_of_ne hT.not_modules]
 refine wpAny_bind (wpAny_specialOf hT hl ?_)
 have fin:wpAny (model prog w) A (subscripted slice false o i) (fun r s₃=>wpAny (model prog w) A (letTemporaryGo value o r>>=fun _=>pure r) Q E s₃) E s₂:=by
  rw[hs o i]
  exact wpAny_operating (wpAny_mono h₂ (fun r s₃ h₃=>wpAny_bind (wpAny_letTemporaryGo (wpAny_pure h₃))) fun _ _ x=>x)
 first
  |exact wpAny_pure (wpAny_bind fin)
  |exact wpAny_bind (wpAny_pure (wpAny_bind fin))
  |exact wpAny_bind fin
theorem mO{X:Cx}{pins:List (Addr×Obj)}{σ:St}{H:Hp}{s:Shared}{a:Addr}{y:V}{o:Option V}(I:Inv X pins σ H s)(g:DGet H a y o):s.TypeIs (.ref a) "dict":=by
 rcases g with⟨kvs,k,e,_,_⟩|⟨kvs,k,b,e,_,_,_⟩
 ·obtain⟨_,_,vs,_,dd⟩:=mU I.hok e
  exact dd.typeIs
 ·obtain⟨_,_,xs,_,dd⟩:=rZ I.hok e
  exact dd.typeIs
inductive eP(Q:VK)(x:V)(y:V)(H2:Hp):Prop
 |mk (a:_) (v:_) (a_0:x= .ref a) (a_1:DGet H2 a y (some v)) (a_2:Q v H2):eP Q x y H2
def zV5(td ty:TE):TE:=fun σ H Q=>td σ H fun x H1=>ty σ H1 fun y H2=>eP Q x y H2
inductive mI(Q:VK)(y:V)(x:V)(H2:Hp):Prop
 |mk (a:_) (o:_) (a_0:x= .ref a) (a_1:DGet H2 a y o) (a_2:Q (.bl (!o.isSome)) H2):mI Q y x H2
def qI9(ty td:TE):TE:=fun σ H Q=>ty σ H fun y H1=>td σ H1 fun x H2=>mI Q y x H2
inductive eR(N_:St->Hp->Prop)(σ:St)(v:V)(x:V)(y:V)(H3:Hp):Prop
 |mk (a:_) (H4:_) (a_0:x= .ref a) (a_1:DPut H3 a y v H4) (a_2:N_ σ H4):eR N_ σ v x y H3
def qB3(td ty tv:TE):TS:=fun D σ H=>tv σ H fun v H1=>td σ H1 fun x H2=>ty σ H2 fun y H3=>eR D.nx σ v x y H3
section
variable {X:Cx} {o i e value:Expr} {pos pos' tpos:Pos} {td ty tv:TE}
theorem qIq(hu:X.A.units+1<cLine)(ho:PE X o td)(hi:PE X i ty)(hs:zV4 i):PE X (.Subscript o i pos) (zV5 td ty):=by
 intro pins s σ H Q I h
 refine qI8 PySem.F.slot_dict_getitem.lookup hs (thn (ho pins s σ H _ I h) fun u s1⟨x,H1,I1,rx,q1⟩=>thn (hi pins s1 σ H1 _ I1 q1) fun iv s2⟨y,H2,I2,ry,a,v,ex,g,q2⟩=>?_)
 subst ex
 obtain rfl:u=Value.ref a:=rx
 exact⟨mO I2 g,tY hu I2 g ry fun w' s3 I3 rw'=>⟨v,H2,I3,rw',q2⟩⟩
theorem tO(hu:X.A.units+1<cLine)(hi:PE X i ty)(ho:PE X o td):PC X .NotIn i o (qI9 ty td):=by
 intro pins s σ H Q I h
 refine thn (hi pins s σ H _ I h) fun iv s1⟨y,H1,I1,ry,q1⟩=>thn (ho pins s1 σ H1 _ I1 q1) fun u s2⟨x,H2,I2,rx,a,ov,ex,g,q2⟩=>?_
 subst ex
 obtain rfl:u=Value.ref a:=rx
 exact qI7 hu I2 g ry fun s3 I3=>⟨.bl (!ov.isSome),H2,I3,rfl,q2⟩
theorem lO(hu:X.A.units+1<cLine)(ho:PE X o td)(hi:PE X i ty)(hv:PE X value tv)(hs:swapsWith value (some (.Subscript o i pos')) pos.line X.env=pure false):
  PS X (.Assign [.Subscript o i pos'] value pos) (qB3 td ty tv):=by
 intro pins s σ H D I h
 refine wpAny_Assign_Subscript (thn (hv pins s σ H _ I h) fun r s1⟨v,H1,I1,rv,q1⟩=>thn (ho pins s1 σ H1 _ I1 q1) fun u s2⟨x,H2,I2,rx,q2⟩=>thn (hi pins s2 σ H2 _ I2 q2) fun iv s3⟨y,H3,I3,ry,a,H4,ex,g,q3⟩=>?_) hs
 subst ex
 obtain rfl:u=Value.ref a:=rx
 exact tU hu I3 g ry rv fun s4 I4=>⟨σ,H4,I4,q3⟩
end
theorem eS{P:Program}{w:World}{H:Hp}(h:Heap)(hb:sysModules<h.objs.size):jA P w H (h.push {cls:=.type "dict",data:=.dict #[]}) h.objs.size (.dK []):=
 ⟨Nat.zero_le _,beq_eq_false_iff_ne.mpr (Ne.symm (aq9 hb)),[],.nil,Heap.DictOf.new h⟩
def qRz:TE:=fun _ H Q=>∀p,H p=none->Q (.ref p) (upd H p (.dK []))
section
variable {X:Cx} {pos:Pos}
theorem yY:PE X (.Dict [] [] pos) qRz:=fun pins s σ H Q I h=>
 wpAny_Dict_empty ⟨.ref s.heap.objs.size,_,I.laid (a:=s.heap.objs.size) (o:=.dK []) (t':=s.toks) (fun _ _ q=>Heap.get?_push_of_some _ q) (aq7 _) (eS s.heap I.big),rfl,h _ (I.hok.fresh (aq7 _))⟩
end
section
variable {X:Cx} {pins:List (Addr×Obj)} {σ:St} {H:Hp} {s:Shared} {a:Addr} {y d:V} {u r:Value} {o:Option V} {A:Around} {E:Value->Shared->Prop}
end
section
variable {X:Cx} {o e f:Expr} {apos cpos:Pos} {td ty tx:TE}
end
section
variable {X:Cx} {pins:List (Addr×Obj)} {σ:St} {H:Hp} {s:Shared} {a:Addr} {kvs:List (Key×V)} {A:Around} {E:Value->Shared->Prop}
end
section
variable {X:Cx} {pins:List (Addr×Obj)} {σ:St} {H:Hp} {s:Shared} {a:Addr} {y:V} {u:Value} {A:Around} {E:Value->Shared->Prop}
end
section
variable {X:Cx}
theorem tI:kO X (.builtin "len") (fun xs H Q=>∃a kvs,xs=[V.ref a]/\H a=some (.dK kvs)/\Q (.int kvs.length) H):=by
 intro pins s σ H xs us Q I r h
 obtain⟨a,kvs,rfl,ha,q⟩:=h
 obtain⟨u,rfl,ru⟩:=vals1 r
 cases ru
 exact zV3 I (.inl ha) fun t s' I'=>⟨.int kvs.length,H,I',⟨t,rfl⟩,q⟩
end
section
variable {κ:Type} [DecidableEq κ]
end
end L2
inductive Dt where
 |non|bl (b:Bool)|int (i:Int)|str (x:PySem.Str)|tup (ds:List Dt)
namespace Dt
open PySem
mutual
def eqD:Dt->Dt->Bool
 | .non,.non=>true
 | .bl a,.bl b=>a==b
 | .bl a,.int b=>(if a then 1 else 0)==b
 | .int a,.bl b=>a==(if b then 1 else 0)
 | .int a,.int b=>a==b
 | .str a,.str b=>a==b
 | .tup xs,.tup ys=>eqDs xs ys
 |_,_=>false
def eqDs:List Dt->List Dt->Bool
 |[],[]=>true
 |x::xs,y::ys=>eqD x y&&eqDs xs ys
 |_,_=>false
end
mutual
def dep:Dt->Nat
 | .tup xs=>deps xs+1
 |_=>0
def deps:List Dt->Nat
 |[]=>0
 |x::xs=>max (dep x) (deps xs)
end
mutual
theorem kI:∀d:Dt,eqD d d=true
 | .non=>rfl
 | .bl a=>by simp[eqD]
 | .int a=>by simp[eqD]
 | .str a=>by simp[eqD]
 | .tup xs=>by rw[eqD];exact uJ xs
theorem uJ:∀ds:List Dt,eqDs ds ds=true
 |[]=>rfl
 |x::xs=>by rw[eqDs,kI x,uJ xs];rfl
end
theorem uM:∀{xs ys:List Dt},eqDs xs ys=true->xs.length=ys.length
 |[],[],_=>rfl
 |[],_::_,h=>by simp[eqDs]at h
 |_::_,[],h=>by simp[eqDs]at h
 |x::xs,y::ys,h=>by
  rw[eqDs,Bool.and_eq_true]at h
  rw[List.length_cons,List.length_cons,uM h.2]
theorem yU(z:Dt):∀(xs ys:List Dt),((List.range (min xs.length ys.length)).all (fun j=>eqD (xs.getD j z) (ys.getD j z))&&xs.length==ys.length)=eqDs xs ys
 |[],[]=>rfl
 |[],_::_=>by simp[eqDs]
 |_::_,[]=>by simp[eqDs]
 |x::xs,y::ys=>by
  rw[eqDs,<-yU z xs ys]
  have e:min (x::xs).length (y::ys).length=min xs.length ys.length+1:=by simp only[List.length_cons];omega
  rw[e,List.range_succ_eq_map,List.all_cons,List.all_map]
  have e2:((x::xs).length==(y::ys).length)=(xs.length==ys.length):=by
   rw[Bool.eq_iff_iff,beq_iff_eq,beq_iff_eq,List.length_cons,List.length_cons];omega
  rw[e2,Bool.and_assoc]
  rfl
end Dt
namespace L2
open PySem PySem.Spec PyProof.Rows PyProof Dt
mutual
def qW(K:Fg)(H:Hp):Dt->V->Prop
 | .non,v=>v= .non
 | .bl b,v=>v= .bl b
 | .int i,v=>v= .int i
 | .str x,v=>v= .str x
 | .tup ds,v=>∃a vs,v= .ref a/\zO K H a vs/\qI K H ds vs
def qI(K:Fg)(H:Hp):List Dt->List V->Prop
 |[],vs=>vs=[]
 |d::ds,vs=>∃v r,vs=v::r/\qW K H d v/\qI K H ds r
end
theorem zO.mono{K:Fg}{H H':Hp}{a:Addr}{xs:List V}(e:Same H H')(h:zO K H a xs):zO K H' a xs:=by
 rcases h with(h|⟨o,h⟩)|h
 ·exact .inl (.inl (e _ _ h))
 ·exact .inl (.inr ⟨o,e _ _ h⟩)
 ·exact .inr h
mutual
theorem qW.mono{K:Fg}{H H':Hp}(e:Same H H'):∀{d:Dt}{v:V},qW K H d v->qW K H' d v
 | .non,_,h=>by rw[qW]at h⊢;exact h
 | .bl _,_,h=>by rw[qW]at h⊢;exact h
 | .int _,_,h=>by rw[qW]at h⊢;exact h
 | .str _,_,h=>by rw[qW]at h⊢;exact h
 | .tup ds,_,h=>by
  rw[qW]at h⊢
  obtain⟨a,vs,h1,h2,h3⟩:=h
  exact⟨a,vs,h1,h2.mono e,qI.mono e h3⟩
theorem qI.mono{K:Fg}{H H':Hp}(e:Same H H'):∀{ds:List Dt}{vs:List V},qI K H ds vs->qI K H' ds vs
 |[],_,h=>by rw[qI]at h⊢;exact h
 |d::ds,_,h=>by
  rw[qI]at h⊢
  obtain⟨v,r,h1,h2,h3⟩:=h
  exact⟨v,r,h1,qW.mono e h2,qI.mono e h3⟩
end
theorem qI.length{K:Fg}{H:Hp}:∀{ds:List Dt}{vs:List V},qI K H ds vs->vs.length=ds.length
 |[],_,h=>by rw[qI]at h;rw[h];rfl
 |d::ds,_,h=>by
  rw[qI]at h
  obtain⟨v,r,rfl,_,h3⟩:=h
  rw[List.length_cons,List.length_cons,qI.length h3]
theorem qI.get{K:Fg}{H:Hp}:∀{ds:List Dt}{vs:List V}{i:Nat}{d:Dt},qI K H ds vs->ds[i]? =some d->∃v,vs[i]? =some v/\qW K H d v
 |[],_,_,_,_,e=>by simp at e
 |d::ds,_,0,d',h,e=>by
  rw[qI]at h
  obtain⟨v,r,rfl,h2,_⟩:=h
  have :d=d':=by simpa using e
  subst this
  exact⟨v,rfl,h2⟩
 |d::ds,_,i+1,d',h,e=>by
  rw[qI]at h
  obtain⟨v,r,rfl,_,h3⟩:=h
  obtain⟨v',h4,h5⟩:=qI.get (i:=i) h3 (by simpa using e)
  exact⟨v',by simpa using h4,h5⟩
theorem qI.append{K:Fg}{H:Hp}:∀{ds es:List Dt}{vs ws:List V},qI K H ds vs->qI K H es ws->qI K H (ds++es) (vs++ws)
 |[],_,_,_,h,g=>by rw[qI]at h;subst h;exact g
 |d::ds,_,_,_,h,g=>by
  rw[qI]at h
  obtain⟨v,r,rfl,h2,h3⟩:=h
  rw[List.cons_append,qI]
  exact⟨v,r++_,rfl,h2,qI.append h3 g⟩
section
variable {X:Cx} {pins:List (Addr×Obj)} {σ:St} {H:Hp} {s:Shared}
mutual
theorem lI(I:Inv X pins σ H s):∀{d e:Dt}{v:V},qW X.K H d v->qW X.K H e v->d=e
 | .non,e,v,h,g=>by
  rw[qW]at h
  subst h
  cases e with
  |non=>first|rfl|(rw[qW]at g;cases g)
  |bl c=>rw[qW]at g;cases g;all_goals rfl
  |int c=>rw[qW]at g;cases g;all_goals rfl
  |str c=>rw[qW]at g;cases g;all_goals rfl
  |tup es=>rw[qW]at g;obtain⟨_,_,z,_⟩:=g;cases z
 | .bl b,e,v,h,g=>by
  rw[qW]at h
  subst h
  cases e with
  |non=>first|rfl|(rw[qW]at g;cases g)
  |bl c=>rw[qW]at g;cases g;all_goals rfl
  |int c=>rw[qW]at g;cases g;all_goals rfl
  |str c=>rw[qW]at g;cases g;all_goals rfl
  |tup es=>rw[qW]at g;obtain⟨_,_,z,_⟩:=g;cases z
 | .int i,e,v,h,g=>by
  rw[qW]at h
  subst h
  cases e with
  |non=>first|rfl|(rw[qW]at g;cases g)
  |bl c=>rw[qW]at g;cases g;all_goals rfl
  |int c=>rw[qW]at g;cases g;all_goals rfl
  |str c=>rw[qW]at g;cases g;all_goals rfl
  |tup es=>rw[qW]at g;obtain⟨_,_,z,_⟩:=g;cases z
 | .str x,e,v,h,g=>by
  rw[qW]at h
  subst h
  cases e with
  |non=>first|rfl|(rw[qW]at g;cases g)
  |bl c=>rw[qW]at g;cases g;all_goals rfl
  |int c=>rw[qW]at g;cases g;all_goals rfl
  |str c=>rw[qW]at g;cases g;all_goals rfl
  |tup es=>rw[qW]at g;obtain⟨_,_,z,_⟩:=g;cases z
 | .tup ds,e,v,h,g=>by
  rw[qW]at h
  obtain⟨a,vs,rfl,h2,h3⟩:=h
  cases e with
  |tup es=>
   rw[qW]at g
   obtain⟨a',vs',e1,g2,g3⟩:=g
   cases e1
   have e2:=I.tuple_inj h2 g2
   subst e2
   rw[rX I h3 g3]
  |_=>rw[qW]at g;cases g
theorem rX(I:Inv X pins σ H s):∀{ds es:List Dt}{vs:List V},qI X.K H ds vs->qI X.K H es vs->ds=es
 |[],es,vs,h,g=>by
  rw[qI]at h
  subst h
  cases es with
  |nil=>rfl
  |cons e es=>rw[qI]at g;obtain⟨_,_,z,_⟩:=g;cases z
 |d::ds,es,vs,h,g=>by
  rw[qI]at h
  obtain⟨v,r,rfl,h2,h3⟩:=h
  cases es with
  |nil=>rw[qI]at g;cases g
  |cons e es=>
   rw[qI]at g
   obtain⟨v',r',z,g2,g3⟩:=g
   cases z
   rw[lI I h2 g2,rX I h3 g3]
end
theorem xK(I:Inv X pins σ H s){ds:List Dt}{v:V}{u:Value}(h:qW X.K H (.tup ds) v)(r:zU v u):∃a its,u= .ref a/\s.heap.IsTuple a its/\v= .ref a:=by
 rw[qW]at h
 obtain⟨a,vs,rfl,h2,_⟩:=h
 obtain⟨its,_,ht,_⟩:=I.tuple h2
 exact⟨a,_,r,ht,rfl⟩
mutual
theorem eT(I:Inv X pins σ H s):∀(d e:Dt)(A:Around)(x y:V)(u v:Value),A.units+dep d<cLine->qW X.K H d x->qW X.K H e y->zU x u->zU y v->SeqAt.EqAt A s u v (eqD d e)
 | .non,e,A,x,y,u,v,hu,h,g,r1,r2=>by
  have hu':A.units<cLine:=by omega
  rw[qW]at h;subst h;cases r1
  cases e with
  |non=>rw[qW]at g;subst g;cases r2;exact SeqAt.EqAt.same _
  |bl b=>rw[qW]at g;subst g;cases r2;exact SeqAt.EqAt.none_bool b
  |int b=>rw[qW]at g;subst g;obtain⟨t,rfl⟩:=r2;exact SeqAt.EqAt.none_int b t
  |str b=>rw[qW]at g;subst g;obtain⟨t,rfl⟩:=r2;exact SeqAt.EqAt.none_str b t
  |tup es=>obtain⟨a,its,rfl,ht,_⟩:=xK I g r2;exact SeqAt.EqAt.none_tuple ht hu'
 | .bl b,e,A,x,y,u,v,hu,h,g,r1,r2=>by
  have hu':A.units<cLine:=by omega
  rw[qW]at h;subst h;cases r1
  cases e with
  |non=>rw[qW]at g;subst g;cases r2;exact SeqAt.EqAt.bool_none b
  |bl c=>rw[qW]at g;subst g;cases r2;exact SeqAt.EqAt.bool_bool b c
  |int c=>rw[qW]at g;subst g;obtain⟨t,rfl⟩:=r2;exact SeqAt.EqAt.bool_int b c t
  |str c=>rw[qW]at g;subst g;obtain⟨t,rfl⟩:=r2;exact SeqAt.EqAt.bool_str b c t
  |tup es=>obtain⟨a,its,rfl,ht,_⟩:=xK I g r2;exact SeqAt.EqAt.bool_tuple b ht hu'
 | .int i,e,A,x,y,u,v,hu,h,g,r1,r2=>by
  have hu':A.units<cLine:=by omega
  rw[qW]at h;subst h;obtain⟨t',rfl⟩:=r1
  cases e with
  |non=>rw[qW]at g;subst g;cases r2;exact SeqAt.EqAt.int_none i t'
  |bl c=>rw[qW]at g;subst g;cases r2;exact SeqAt.EqAt.int_bool i t' c
  |int c=>rw[qW]at g;subst g;obtain⟨t,rfl⟩:=r2;exact SeqAt.EqAt.int_int i t' c t
  |str c=>rw[qW]at g;subst g;obtain⟨t,rfl⟩:=r2;exact SeqAt.EqAt.int_str i t' c t
  |tup es=>obtain⟨a,its,rfl,ht,_⟩:=xK I g r2;exact SeqAt.EqAt.int_tuple i t' ht hu'
 | .str i,e,A,x,y,u,v,hu,h,g,r1,r2=>by
  have hu':A.units<cLine:=by omega
  rw[qW]at h;subst h;obtain⟨t',rfl⟩:=r1
  cases e with
  |non=>rw[qW]at g;subst g;cases r2;exact SeqAt.EqAt.str_none i t'
  |bl c=>rw[qW]at g;subst g;cases r2;exact SeqAt.EqAt.str_bool i t' c
  |int c=>rw[qW]at g;subst g;obtain⟨t,rfl⟩:=r2;exact SeqAt.EqAt.str_int i t' c t
  |str c=>rw[qW]at g;subst g;obtain⟨t,rfl⟩:=r2;exact SeqAt.EqAt.str_str i t' c t
  |tup es=>obtain⟨a,its,rfl,ht,_⟩:=xK I g r2;exact SeqAt.EqAt.str_tuple i t' ht hu'
 | .tup ds,e,A,x,y,u,v,hu,h,g,r1,r2=>by
  rw[dep]at hu
  have hu':A.units<cLine:=by omega
  cases e with
  |non=>obtain⟨a,its,rfl,ht,_⟩:=xK I h r1;rw[qW]at g;subst g;cases r2;exact SeqAt.EqAt.tuple_none ht hu'
  |bl c=>obtain⟨a,its,rfl,ht,_⟩:=xK I h r1;rw[qW]at g;subst g;cases r2;exact SeqAt.EqAt.tuple_bool c ht hu'
  |int c=>obtain⟨a,its,rfl,ht,_⟩:=xK I h r1;rw[qW]at g;subst g;obtain⟨t,rfl⟩:=r2;exact SeqAt.EqAt.tuple_int c t ht hu'
  |str c=>obtain⟨a,its,rfl,ht,_⟩:=xK I h r1;rw[qW]at g;subst g;obtain⟨t,rfl⟩:=r2;exact SeqAt.EqAt.tuple_str c t ht hu'
  |tup es=>
   have h0:=h
   have g0:=g
   rw[qW]at h g
   obtain⟨a,vs,rfl,h2,h3⟩:=h
   obtain⟨b,ws,rfl,g2,g3⟩:=g
   cases r1
   cases r2
   by_cases hab:a=b
   ·subst hab
    have e0:=lI I h0 g0
    rw[e0,kI]
    exact SeqAt.EqAt.same _
   ·obtain⟨its,rv,ht,_⟩:=I.tuple h2
    obtain⟨its2,rw',ht2,_⟩:=I.tuple g2
    refine SeqAt.EqAt.of_refs hab ?_
    have l1:its.length=ds.length:=by rw[<-rv.length,h3.length]
    have l2:its2.length=es.length:=by rw[<-rw'.length,g3.length]
    have key:=SeqAt.RcAt.tuples (e:=fun j=>eqD (ds.getD j .non) (es.getD j .non)) (show s.heap.IsTuple a its.toArray from ht) (show s.heap.IsTuple b its2.toArray from ht2) hu' fun j h1 h2'=>by
     have :=uT I ds es A.in1 vs ws its its2 (by show A.units+1+deps ds<cLine;omega) h3 g3 rv rw' j (by simpa using h1) (by simpa using h2')
     simpa using this
    rw[List.size_toArray,List.size_toArray,l1,l2,yU]at key
    rw[eqD]
    exact key
theorem uT(I:Inv X pins σ H s):∀(ds es:List Dt)(A:Around)(xs ys:List V)(us vs:List Value),A.units+deps ds<cLine->qI X.K H ds xs->qI X.K H es ys->Vals xs us->Vals ys vs->
  ∀(j:Nat)(h1:j<us.length)(h2:j<vs.length),SeqAt.EqAt A s us[j] vs[j] (eqD (ds.getD j .non) (es.getD j .non))
 |[],es,A,xs,ys,us,vs,hu,h,g,r1,r2,j,h1,h2=>by
  rw[qI]at h;subst h;cases r1;simp at h1
 |d::ds,[],A,xs,ys,us,vs,hu,h,g,r1,r2,j,h1,h2=>by
  rw[qI]at g;subst g;cases r2;simp at h2
 |d::ds,e::es,A,xs,ys,us,vs,hu,h,g,r1,r2,j,h1,h2=>by
  rw[deps]at hu
  rw[qI]at h g
  obtain⟨x,xr,rfl,h3,h4⟩:=h
  obtain⟨y,yr,rfl,g3,g4⟩:=g
  cases r1 with
  |cons p1 q1=>
   cases r2 with
   |cons p2 q2=>
    cases j with
    |zero=>exact eT I d e A x y _ _ (by omega) h3 g3 p1 p2
    |succ j=>
     have :=uT I ds es A xr yr _ _ (by omega) h4 g4 q1 q2 j (by simpa using h1) (by simpa using h2)
     simpa using this
end
end
section
variable {X:Cx} {pins:List (Addr×Obj)} {σ:St} {H:Hp} {s:Shared}
theorem qRj(I:Inv X pins σ H s)(d e:Dt)(A:Around)(x y:V)(u v:Value)(hu:A.units+dep d<cLine)(h:qW X.K H d x)(g:qW X.K H e y)(r1:zU x u)(r2:zU y v):SeqAt.RcAt A s u v (eqD d e):=by
 have hu':A.units<cLine:=by omega
 cases d with
 |non=>
  rw[qW]at h;subst h;cases r1
  cases e with
  |non=>rw[qW]at g;subst g;cases r2;exact SeqAt.RcAt.none_none
  |bl c=>rw[qW]at g;subst g;cases r2;exact SeqAt.RcAt.none_bool c
  |int c=>rw[qW]at g;subst g;obtain⟨t,rfl⟩:=r2;exact SeqAt.RcAt.none_int c t
  |str c=>rw[qW]at g;subst g;obtain⟨t,rfl⟩:=r2;exact SeqAt.RcAt.none_str c t
  |tup es=>obtain⟨a,its,rfl,ht,_⟩:=xK I g r2;exact SeqAt.RcAt.none_tuple ht hu'
 |bl b=>
  rw[qW]at h;subst h;cases r1
  cases e with
  |non=>rw[qW]at g;subst g;cases r2;exact SeqAt.RcAt.bool_none b
  |bl c=>rw[qW]at g;subst g;cases r2;exact SeqAt.RcAt.bool_bool b c
  |int c=>rw[qW]at g;subst g;obtain⟨t,rfl⟩:=r2;exact SeqAt.RcAt.bool_int b c t
  |str c=>rw[qW]at g;subst g;obtain⟨t,rfl⟩:=r2;exact SeqAt.RcAt.bool_str b c t
  |tup es=>obtain⟨a,its,rfl,ht,_⟩:=xK I g r2;exact SeqAt.RcAt.bool_tuple b ht hu'
 |int b=>
  rw[qW]at h;subst h;obtain⟨t',rfl⟩:=r1
  cases e with
  |non=>rw[qW]at g;subst g;cases r2;exact SeqAt.RcAt.int_none b t'
  |bl c=>rw[qW]at g;subst g;cases r2;exact SeqAt.RcAt.int_bool b t' c
  |int c=>rw[qW]at g;subst g;obtain⟨t,rfl⟩:=r2;exact SeqAt.RcAt.int_int b t' c t
  |str c=>rw[qW]at g;subst g;obtain⟨t,rfl⟩:=r2;exact SeqAt.RcAt.int_str b t' c t
  |tup es=>obtain⟨a,its,rfl,ht,_⟩:=xK I g r2;exact SeqAt.RcAt.int_tuple b t' ht hu'
 |str b=>
  rw[qW]at h;subst h;obtain⟨t',rfl⟩:=r1
  cases e with
  |non=>rw[qW]at g;subst g;cases r2;exact SeqAt.RcAt.str_none b t'
  |bl c=>rw[qW]at g;subst g;cases r2;exact SeqAt.RcAt.str_bool b t' c
  |int c=>rw[qW]at g;subst g;obtain⟨t,rfl⟩:=r2;exact SeqAt.RcAt.str_int b t' c t
  |str c=>rw[qW]at g;subst g;obtain⟨t,rfl⟩:=r2;exact SeqAt.RcAt.str_str b t' c t
  |tup es=>obtain⟨a,its,rfl,ht,_⟩:=xK I g r2;exact SeqAt.RcAt.str_tuple b t' ht hu'
 |tup ds=>
  cases e with
  |non=>obtain⟨a,its,rfl,ht,_⟩:=xK I h r1;rw[qW]at g;subst g;cases r2;exact SeqAt.RcAt.tuple_none ht hu'
  |bl c=>obtain⟨a,its,rfl,ht,_⟩:=xK I h r1;rw[qW]at g;subst g;cases r2;exact SeqAt.RcAt.tuple_bool c ht hu'
  |int c=>obtain⟨a,its,rfl,ht,_⟩:=xK I h r1;rw[qW]at g;subst g;obtain⟨t,rfl⟩:=r2;exact SeqAt.RcAt.tuple_int c t ht hu'
  |str c=>obtain⟨a,its,rfl,ht,_⟩:=xK I h r1;rw[qW]at g;subst g;obtain⟨t,rfl⟩:=r2;exact SeqAt.RcAt.tuple_str c t ht hu'
  |tup es=>
   rw[qW]at h g
   obtain⟨a,vs,rfl,h2,h3⟩:=h
   obtain⟨b,ws,rfl,g2,g3⟩:=g
   cases r1
   cases r2
   rw[dep]at hu
   obtain⟨its,rv,ht,_⟩:=I.tuple h2
   obtain⟨its2,rw',ht2,_⟩:=I.tuple g2
   have l1:its.length=ds.length:=by rw[<-rv.length,h3.length]
   have l2:its2.length=es.length:=by rw[<-rw'.length,g3.length]
   have key:=SeqAt.RcAt.tuples (e:=fun j=>eqD (ds.getD j .non) (es.getD j .non)) (show s.heap.IsTuple a its.toArray from ht) (show s.heap.IsTuple b its2.toArray from ht2) hu' fun j h1 h2'=>by
    have :=uT I ds es A.in1 vs ws its its2 (by show A.units+1+deps ds<cLine;omega) h3 g3 rv rw' j (by simpa using h1) (by simpa using h2')
    simpa using this
   rw[List.size_toArray,List.size_toArray,l1,l2,yU]at key
   rw[eqD]
   exact key
theorem vD:uO X (compareOp .Eq) (fun x y H Q=>∃d e,qW X.K H d x/\qW X.K H e y/\X.A.units+dep d<cLine/\Q (.bl (eqD d e)) H):=by
 intro pins s σ H x y v u Q I rx ry h
 obtain⟨d,e,h1,h2,hu,q⟩:=h
 exact qRj I d e X.A x y v u hu h1 h2 rx ry X.prog X.w X.xe _ ⟨.bl _,H,I,rfl,q⟩
end
end L2
namespace L2
open PySem PySem.Spec PyProof.Rows PyProof
def xE(ix:List Nat)(o:List (Option V))(σ:St):St:=o++ix.map fun i=>σ.getD i none
def ifT:Option TT->TT
 |none=>fun _ H Q=>Q true H
 |some t=>t
def PIf(X:Cx)(ifs:List Expr)(t:Option TT):Prop:=match ifs,t with
 |[],none=>True
 |[c],some tc=>PT X c tc
 |_,_=>False
def eA(wi:TI)(g:TG)(tc:Option TT)(te:TE)(n:Nat)(ix:List Nat):TE:=fun σ H Q=>wi σ H fun J H1=>∀D,H1 D=none->∃W:Nat->Nat->List V->Hp->Prop,(∃m,W 0 m [] (upd H1 D (.lst [])))/\∀i m ys H2,W i m ys H2->
 (J.stop i H2/\Q (.ref D) H2)\/(J.go i H2/\∀(o:List (Option V))v H3,o.length=n->J.yld i H2 v H3->g v (xE ix o σ) H3 fun σ2 H4=>(∃o':List (Option V),σ2=xE ix o' σ/\o'.length=n)/\
  ifT tc σ2 H4 fun b H5=>if b=true then te σ2 H5 fun y H6=>H6 D=some (.lst ys)/\ys.length<sizeLine/\∃m',m'<m/\W (i+1) m' (ys++[y]) (upd H6 D (.lst (ys++[y])))else∃m',m'<m/\W (i+1) m' ys H5)
structure oP(X:Cx)(scope:Scope)(cl:List (Str×Addr))(own rest:List Str)(ix:List Nat):Prop where
 clos:closureFor scope X.env=pure cl
 cell:∀y∈scope.names,y.2≠ .cell
 kind:scope.kind= .function
 names:∀y∈scope.names,y.2= .local->scope.names.lookup y.1=some .local
 cls:∀y c,cl.lookup y=some c->X.env.cells.lookup y=some c
 fr:∀y,scope.names.lookup y=some .free->∃c,cl.lookup y=some c
 nd:(own++rest).Nodup
 at_:∀(j:Nat)(y:Str),rest[j]? =some y->∃i:Nat,ix[j]? =some i/\X.N[i]? =some y
 len:ix.length=rest.length
 out:∀y∈rest,scope.names.lookup y=some .free/\(X.env.kindOf y=some .cell\/X.env.kindOf y=some .free)
section
variable {X:Cx} {scope:Scope} {cl:List (Str×Addr)} {own rest:List Str} {ix:List Nat}
theorem qIj(ok:oP X scope cl own rest ix){pins:List (Addr×Obj)}{σ:St}{H:Hp}{s:Shared}{fp:List Addr}(I:Inv X pins σ H s)(hf:∀b∈fp,vL X pins H b)(hb:∀b∈fp,b<s.heap.objs.size):
  (kD X scope cl (own++rest) s.heap.objs.size s H fp pins).Ok where
 mod:=I.ok.mod
 kind:=ok.kind
 glob:=I.ok.glob
 blt:=I.ok.blt
 above:=aq7 _
 inj:=fun y z c h1 h2=>I.ok.inj y z c (ok.cls y c h1) (ok.cls z c h2)
 has:=fun y hy=>by
  rcases hy with hy|hy
  ·exact ok.fr y (yV hy (.inl rfl) ok.cell)
  ·exact ok.fr y (yV hy (.inr rfl) ok.cell)
 cab:=fun y c h _=>by cases h
 hd:=I.ok.hd
 frames:=I.ok.frames
 stk:=.inl rfl
 exf:=fun b hb'=>⟨aq9 (hb b hb'),fun y c h=>(hf b hb').2.2.2.2.1 y c (ok.cls y c h)⟩
 bs:=I.bs
 bsz:=Nat.le_trans I.ok.bsz I.sz
 noex:=fun b o e hb'=>by
  rcases(hf b hb').2.2.2.1 with z|z
  ·exact I.ok.noex b o e z
  ·exact absurd (Nat.lt_of_lt_of_le (Nat.lt_of_lt_of_le (aq8 e) I.ok.bsz) z) (Nat.lt_irrefl _)
 exfs:=fun b hb' hm=>by
  rcases List.mem_cons.mp (I.stkSub b hm)with z|z
  ·exact(hf b hb').2.1 z
  ·exact(hf b hb').2.2.1 z
 funs:=I.stack
 frf:=I.stkFree
theorem oR(ok:oP X scope cl own rest ix){pins:List (Addr×Obj)}{σ:St}{H:Hp}{s:Shared}{fp:List Addr}{h₁:Heap}{tk:Nat}{o:Obj}(I:Inv X pins σ H s)(hf:∀b∈fp,vL X pins H b)(hb:∀b∈fp,b<s.heap.objs.size)
  (hn:h₁.Ns s.heap.objs.size fun _=>none)(hs:Heap.SameBut s.heap.objs.size (s.heap.push o) h₁):
  Inv (kD X scope cl (own++rest) s.heap.objs.size s H fp pins) [] (xE ix (List.replicate own.length none) σ) H {s with heap:=h₁,toks:=tk}:=by
 have kp:∀b u,s.heap.get? b=some u->h₁.get? b=some u:=fun b u e=>(hs.2 b (aq9 (aq8 e))).trans (Heap.get?_push_of_some _ e)
 refine⟨qIj ok I hf hb,rfl,I.bare,Un.kept kp,⟨_,hn,fun j y v e1 e2 e3=>?_⟩,fun y c h=>?_,I.hok.fresh (aq7 _),fun y c h=>I.freeC y c (ok.cls y c h),fun p hp=>?_,I.hok.kept kp,?_⟩
 ·have e1':(own++rest)[j]? =some y:=e1
  have e2':(List.replicate own.length none++ix.map fun i=>σ.getD i none)[j]? =some (some v):=e2
  by_cases hj:j<own.length
  ·rw[List.getElem?_append_left (by simpa using hj),List.getElem?_replicate]at e2'
   split at e2'<;>cases e2'
  ·rw[List.getElem?_append_right (by omega)]at e1'
   rw[List.getElem?_append_right (by simpa using hj),List.length_replicate]at e2'
   obtain⟨i,hi,hN⟩:=ok.at_ _ y e1'
   rw[mW hi]at e2'
   have hσ:σ[i]? =some (some v):=by
    have e4:σ.getD i none=some v:=Option.some.inj e2'
    rw[List.getD_eq_getElem?_getD]at e4
    cases q:σ[i]?with
    |none=>rw[q]at e4;cases e4
    |some w=>rw[q]at e4;exact congrArg some e4
   obtain⟨hfree,hout⟩:=ok.out y (List.mem_of_getElem? e1')
   obtain⟨m,hm,hl⟩:=I.loc
   obtain⟨u,ru,lk⟩:=hl i y v hN hσ (by rcases hout with z|z;exact .inr (.inl z);exact .inr (.inr z))
   refine⟨u,ru,.inr ⟨?_,?_⟩⟩
   ·have e:(compEnvC scope cl s.heap.objs.size X.env).kindOf y=(scope.names.lookup y).map fun k=>if(k==NameKind.free&&X.env.scope.kind== .function&&X.env.kindOf y==some .cell)then NameKind.cell else k:=vB X.env scope.names y
    show(compEnvC scope cl s.heap.objs.size X.env).kindOf y=some .cell\/(compEnvC scope cl s.heap.objs.size X.env).kindOf y=some .free
    rw[e,hfree,Option.map_some]
    by_cases hc:(NameKind.free==NameKind.free&&X.env.scope.kind== .function&&X.env.kindOf y==some .cell)=true
    ·rw[if_pos hc];exact .inl rfl
    ·rw[if_neg hc];exact .inr rfl
   ·obtain⟨c,hc⟩:=ok.fr y hfree
    have hc2:=ok.cls y c hc
    rcases lk with⟨z,_⟩|⟨_,c',e',ce⟩
    ·rcases hout with z'|z'<;>(rw[z]at z';cases z')
    ·rw[hc2]at e';cases e'
     obtain⟨oc,hoc,hd⟩:=ce
     exact⟨c,hc,oc,kp _ _ hoc,hd⟩
 ·obtain⟨v,oc,hoc,hd⟩:=I.cell y c (ok.cls y c h)
  exact⟨v,oc,kp _ _ hoc,hd⟩
 ·have hp':p∈X.pn++pins:=by simpa[kD]using hp
  obtain⟨e,n,ne,nf,d⟩:=I.pin p hp'
  refine⟨kp _ _ e,n,aq9 (aq8 e),fun hm=>?_,d⟩
  rcases List.mem_cons.mp (I.stkSub _ hm)with z|z
  ·exact ne z
  ·exact nf z
 ·show(xE ix (List.replicate own.length none) σ).length=(own++rest).length
  simp[xE,ok.len]
theorem qB4{Xb:Cx}{ifs:List Expr}{tc:Option TT}(h:PIf Xb ifs tc){pins:List (Addr×Obj)}{s:Shared}{σ:St}{H:Hp}{Q:Bool->Hp->Prop}(I:Inv Xb pins σ H s)(q:ifT tc σ H Q):
  wpAny (model Xb.prog Xb.w) Xb.A (forIn ifs true fun c r=>if r=true then do let ok<-isTrue c Xb.env (eval c Xb.env);pure (ForInStep.yield ok)else pure (ForInStep.yield r)) (TP Xb pins σ Q) Xb.xe s:=by
 cases ifs with
 |nil=>
  cases tc with
  |none=>exact wpAny_pure ⟨H,I,q⟩
  |some tc=>exact h.elim
 |cons c r=>
  cases tc with
  |none=>cases r<;>exact h.elim
  |some tc=>
   cases r with
   |cons c2 r=>exact h.elim
   |nil=>
    have hp:PT Xb c tc:=h
    simp only[List.forIn_cons,List.forIn_nil,if_true]
    refine wpAny_bind (wpAny_bind (thn (hp pins s σ H Q I q) fun b s1 z=>wpAny_pure (wpAny_pure z)))
theorem eE{elt iter tg:Expr}{ifs:List Expr}{pos:Pos}{te:TE}{g:TG}{tc:Option TT}{pins:List (Addr×Obj)}{σ:St}{H:Hp}{s s4:Shared}{fp:List Addr}{it D:Addr}{tn:Nat->Heap->Prop}{J:It}{Q:VK}{W:Nat->Nat->List V->Hp->Prop}{m0:Nat}
  (ok:oP X scope cl own rest ix)(hc:X.calm=true)(he:∀(C:Addr)(s:Shared)(H:Hp)(fp:List Addr)(pins:List (Addr×Obj)),PE (kD X scope cl (own++rest) C s H fp pins) elt te)(hg:∀(C:Addr)(s:Shared)(H:Hp)(fp:List Addr)(pins:List (Addr×Obj)),PG (kD X scope cl (own++rest) C s H fp pins) tg g)
  (hif:∀(C:Addr)(s:Shared)(H:Hp)(fp:List Addr)(pins:List (Addr×Obj)),PIf (kD X scope cl (own++rest) C s H fp pins) ifs tc)
  (I:Inv X pins σ H s)(T:Turn X.prog X.w X.K tg J fp it tn)(hf:∀b∈fp,vL X pins H b)(hb:∀b∈fp,b<s.heap.objs.size)
  (J4:Inv (kD X scope cl (own++rest) s.heap.objs.size s H fp pins) [] (xE ix (List.replicate own.length none) σ) H s4)(st:tn 0 s4.heap)(w0:W 0 m0 [] H)
  (turn:∀i m ys H2,W i m ys H2->(J.stop i H2/\Q (.ref D) H2)\/(J.go i H2/\∀(o:List (Option V))v H3,o.length=own.length->J.yld i H2 v H3->g v (xE ix o σ) H3 fun σ2 H4=>(∃o':List (Option V),σ2=xE ix o' σ/\o'.length=own.length)/\
   ifT tc σ2 H4 fun b H5=>if b=true then te σ2 H5 fun y H6=>H6 D=some (.lst ys)/\ys.length<sizeLine/\∃m',m'<m/\W (i+1) m' (ys++[y]) (upd H6 D (.lst (ys++[y])))else∃m',m'<m/\W (i+1) m' ys H5)):
  codeAny (model X.prog X.w) X.A (.compLoop (.ListComp elt [⟨tg,iter,ifs,0⟩] scope pos) 0 (.ref it) (.ref D) (compEnvC scope cl s.heap.objs.size X.env)) (compPost (model X.prog X.w) X.A X.xe none (EP X pins σ Q) (.ref D) s.heap.objs.size) s4:=by
 have stat:∀{H':Hp},(∀b∈fp,H' b=none)->∀b∈fp,vL (kD X scope cl (own++rest) s.heap.objs.size s H fp pins) [] H' b:=fun hn b hm=>by
  obtain⟨g0,g1,g2,g3,g4,g5⟩:=hf b hm
  refine⟨hn b hm,aq9 (hb b hm),fun z=>?_,.inl hm,fun y c h=>g4 y c (ok.cls y c h),fun p hp=>g5 p (by simpa[kD]using hp)⟩
  rcases List.mem_cons.mp (I.stkSub b z)with z|z
  ·exact g1 z
  ·exact g2 z
 refine codeAny_loop rfl (fun n s'=>∃i ys o H',o.length=own.length/\Inv (kD X scope cl (own++rest) s.heap.objs.size s H fp pins) [] (xE ix o σ) H' s'/\tn i s'.heap/\(∀b∈fp,H' b=none)/\W i n ys H') (fun n s' hI=>?_) m0 ⟨0,[],List.replicate own.length none,H,by simp,J4,st,fun b hm=>(hf b hm).1,w0⟩
 obtain⟨i,ys,o,H',ho,I',st',fr',w'⟩:=hI
 show wpAny _ _ ((compTurn (.ListComp elt [⟨tg,iter,ifs,0⟩] scope pos) 0 (.ref it) (.ref D) (compEnvC scope cl s.heap.objs.size X.env)).onRaise (fun x=>do noteFrame x (compEnvC scope cl s.heap.objs.size X.env);theTreesLotGoes x)) _ _ s'
 refine wpAny_noted ?_
 rw[compTurn_list]
 refine wpAny_bind (wpAny_standAt (wpAny_bind ?_))
 rcases turn i n ys H' w' with⟨stop,q⟩|⟨go,step⟩
 ·refine thn (T.done (kD X scope cl (own++rest) s.heap.objs.size s H fp pins) rfl rfl rfl hc i [] s' _ H' _ I' (stat fr') st' stop) fun r s5⟨hr,I5⟩=>?_
  subst hr
  refine wpAny_pure ?_
  obtain⟨m,hn,_⟩:=I5.loc
  refine⟨m,hn,fun h'' hs=>⟨.ref D,H',?_,rfl,q⟩⟩
  have B:=I5.base
  have ne:∀b u,s.heap.get? b=some u->b≠s.heap.objs.size:=fun b u e=>aq9 (aq8 e)
  have un:Un (frs X.stack) fp H H' s.heap h'':=
   ⟨fun b u e n hx hy=>(hs.2 b (ne b u e)).trans (B.keep b u e n hx hy),fun b u e n hx hy=>(let⟨sl,z⟩:=B.slot b u e n hx hy;⟨sl,(hs.2 b (ne b u e)).trans z⟩),B.free,
    fun b u e hy=>(let⟨u',z⟩:=B.there b u e hy;⟨u',(hs.2 b (ne b u e)).trans z⟩),B.tups,B.frzs,B.tbls⟩
  have hok:HOk X.prog X.w H' h'':=fun b u e=>(I5.hok b u e).stay (fun c v hc' z=>(hs.2 c (fun zz=>by
   have fz:H' s.heap.objs.size=none:=I5.free
   rcases hc' with y|y
   ·rw[<-y,zz,fz]at e;cases e
   ·rw[zz,fz]at y;cases y)).trans z) (fun _ z=>z) fun _ _ z=>z
  refine I.call' (s':={s5 with heap:=h''}) (ch:=fp) I5.os un hok I5.bare fun b hm=>?_
  obtain⟨g0,g1,g2,g3,g4,g5⟩:=hf b hm
  exact⟨g3,g1,g4,g5⟩
 ·refine thn (T.item (kD X scope cl (own++rest) s.heap.objs.size s H fp pins) rfl rfl rfl hc i [] s' _ H' _ I' (stat fr') st' go) fun r s5⟨u,hr,h5⟩=>?_
  subst hr
  refine wpAny_bind (thn h5 fun _ s6⟨xv,H6,I6,r6,y6,st6,fr6⟩=>?_)
  have I6':=I6.pinned (stat fr6) (T.obj _ _ st6)
  refine wpAny_bind (wpAny_mono (hg _ _ _ _ _ _ s6 (xE ix o σ) H6 xv u _ I6' r6 (step o xv H6 ho y6)) (fun _ s7⟨σ7,H7,I7,⟨o',e7,ho'⟩,q7⟩=>?_) fun _ _ z=>z.elim)
  subst e7
  have again:∀{H9:Hp}{s9:Shared}{ys9:List V}{m':Nat},Inv (kD X scope cl (own++rest) s.heap.objs.size s H fp pins) ([]++yR fp s6.heap) (xE ix o' σ) H9 s9->m'<n->W (i+1) m' ys9 H9->
    ∃m,m<n/\∃i ys o H',o.length=own.length/\Inv (kD X scope cl (own++rest) s.heap.objs.size s H fp pins) [] (xE ix o σ) H' s9/\tn i s9.heap/\(∀b∈fp,H' b=none)/\W i m ys H':=fun {H9 s9 ys9 m'}I9 hm w9=>by
   refine⟨m',hm,i+1,ys9,o',H9,ho',I9.unpinned,?_,fun b hm=>?_,w9⟩
   ·exact T.keep _ _ _ st6 fun b hm ob e=>(I9.pin (b,ob) (aq11 _ (aq11 _ (xG hm e)))).1
   ·obtain⟨ob,e,d⟩:=T.obj _ _ st6 b hm
    exact(I9.pin (b,ob) (aq11 _ (aq11 _ (xG hm e)))).2.1
  refine wpAny_bind (wpAny_mono (qB4 (hif _ _ _ _ _) I7 q7) (fun b s8⟨H8,I8,q8⟩=>?_) fun _ _ z=>z.elim)
  cases b with
  |false=>
   obtain⟨m',hm',w8⟩:=(show∃m',m'<n/\W (i+1) m' ys H8 from q8)
   exact wpAny_pure ⟨rfl,again I8 hm' w8⟩
  |true=>
   refine wpAny_bind (wpAny_bind (wpAny_mono (he _ _ _ _ _ _ s8 _ _ _ I8 q8) (fun yv s9⟨y,H9,I9,r9,hD,hz,m',hm',w9⟩=>?_) fun _ _ z=>z.elim))
   refine wpAny_bind (wpAny_mono (qA (X:=kD X scope cl (own++rest) s.heap.objs.size s H fp pins) _ s9 _ H9 (.ref D) [y] (.ref D) [yv] (fun _ H10=>H10=upd H9 D (.lst (ys++[y]))) I9 rfl (.cons r9 .nil) ⟨D,ys,y,rfl,rfl,hD,hz,rfl⟩) (fun _ s10⟨_,H10,I10,_,e10⟩=>?_) fun _ _ z=>z.elim)
   subst e10
   exact wpAny_pure (wpAny_pure ⟨rfl,again I10 hm' w9⟩)
theorem qQ0{elt iter tg:Expr}{ifs:List Expr}{pos:Pos}{wi:TI}{te:TE}{g:TG}{tc:Option TT}(ok:oP X scope cl own rest ix)(hc:X.calm=true)(hi:PI X tg iter wi)
  (he:∀(C:Addr)(s:Shared)(H:Hp)(fp:List Addr)(pins:List (Addr×Obj)),PE (kD X scope cl (own++rest) C s H fp pins) elt te)(hg:∀(C:Addr)(s:Shared)(H:Hp)(fp:List Addr)(pins:List (Addr×Obj)),PG (kD X scope cl (own++rest) C s H fp pins) tg g)
  (hif:∀(C:Addr)(s:Shared)(H:Hp)(fp:List Addr)(pins:List (Addr×Obj)),PIf (kD X scope cl (own++rest) C s H fp pins) ifs tc)
  (hs:∀x,foldedSetIterable iter X.env x=pure x:=by intro _;rfl):PE X (.ListComp elt [⟨tg,iter,ifs,0⟩] scope pos) (eA wi g tc te own.length ix):=by
 intro pins s σ H Q I h
 rw[eval_ListComp]
 refine wpAny_comprehension_free (use:=none) rfl hs ok.clos ok.kind ok.names (thn (hi pins s σ H _ I h) fun v s1 h1=>thn h1 fun itv s2 h2=>?_)
 obtain⟨it,fp,tn,J,H1,e,I2,T,st2,f2,hq⟩:=h2
 subst e
 refine wpAny_newObj_type (wpAny_newFunctionEnv ok.cell (by intro y hy;simp at hy) (fun h₁ hns hsb=>?_) ok.kind)
 dsimp only at hns hsb⊢
 have na:H1 s2.heap.objs.size=none:=I2.hok.fresh (aq7 _)
 obtain⟨W,⟨m0,w0⟩,turn⟩:=hq s2.heap.objs.size na
 have I3:=I2.laid (t':=s2.toks) (o:=.lst []) (h':=s2.heap.push {cls:=.type "list",dict:=none,data:=.seq ([]:List Value).toArray}) (fun b u e=>Heap.get?_push_of_some _ e) (aq7 _) ⟨by decide,[],0,.nil,Heap.get?_push_size _ rfl⟩
 have fa:∀b∈fp,b<s2.heap.objs.size:=fun b hb=>by
  obtain⟨o,ho,_⟩:=T.obj 0 _ st2 b hb
  exact aq8 ho
 generalize hs3:({s2 with heap:=s2.heap.push {cls:=.type "list",dict:=none,data:=.seq ([]:List Value).toArray}}:Shared)=s3 at hns hsb I3⊢
 have z3:s3.heap.objs.size=s2.heap.objs.size+1:=by rw[<-hs3];exact Heap.size_push _ _
 have k3:∀b u,s2.heap.get? b=some u->s3.heap.get? b=some u:=fun b u e=>by rw[<-hs3];exact Heap.get?_push_of_some _ e
 have fa3:∀b∈fp,b<s3.heap.objs.size:=fun b hb=>by rw[z3];exact Nat.lt_succ_of_lt (fa b hb)
 have f3:∀b∈fp,vL X pins (upd H1 s2.heap.objs.size (.lst [])) b:=fun b hb=>by
  obtain⟨g0,g1⟩:=f2 b hb
  exact⟨by rw[qH (aq9 (fa b hb))];exact g0,g1⟩
 subst hs3
 have J4:=oR ok (tk:=s2.toks+([]:List (Str×Value)).length) I3 f3 fa3 hns hsb
 have st4:tn 0 h₁:=T.keep _ _ _ st2 fun b hm o e=>(hsb.2 b (aq9 (fa3 b hm))).trans (Heap.get?_push_of_some _ (k3 b o e))
 have loop:=eE (elt:=elt) (iter:=iter) (pos:=pos) (s4:={s2 with heap:=h₁,toks:=s2.toks+([]:List (Str×Value)).length}) ok hc he hg hif I3 T f3 fa3 J4 st4 w0 turn
 exact codeAny_compStart_list loop (T.self _ 0 _ _ _ st4 loop)
end
open Dt
section
variable {X:Cx} {CX:CXT} {e func:Expr} {es:List Expr} {tf:TE} {t:TA} {pos:Pos}
inductive rK(X:Cx)(CX:CXT)(t:TA)(σ:St)(Q:VK)(x:V)(H1:Hp):Prop
 |mk (f:Addr) (fd:FuncData) (ps:List Str) (sp:Sp) (dvs:List V) (ds:List Value) (E:XK) (k:Nat) (a_0:x= .ref f) (a_1:qS X.prog X.w X.K X.mg X.base CX k f fd ps sp) (a_2:Room k X.A) (a_3:PySem.W.keepIn X.K (.ref f)=true) (a_4:Binds X.K fd ps ds) (a_5:Vals dvs ds) (a_6:Passes CX X E) (a_7:t σ H1 fun vs H2=>sp (vs++dvs) H2 Q E):rK X CX t σ Q x H1
def qS0(X:Cx)(CX:CXT)(tf:TE)(t:TA):TE:=fun σ H Q=>tf σ H fun x H1=>rK X CX t σ Q x H1
theorem vF(hf:PE X func tf)(ha:PA X (e::es) t)(hc:eval (.Call func (e::es) [] pos) X.env=(do callWith pos (<-eval func X.env) [] (backTo pos (starEach (e::es) X.env)) (backToKw pos (keywordEach [] X.env))):=by rfl)
  (he:starEach (e::es) X.env=(false,eval e X.env)::starEach es X.env:=by rfl)(hpl:(backTo pos (starEach es X.env)).any (·.1)=false:=by rfl):
  PE X (.Call func (e::es) [] pos) (qS0 X CX tf t):=by
 intro pins s σ H Q I h
 refine Call_ (thn (hf pins s σ H _ I h) fun u s0⟨x,H0,I0,rx,f,fd,ps,sp,dvs,ds,E,k,ex,F,hr,hk,hb,hd,hx,q⟩=>?_) hc
 subst ex
 obtain rfl:u=Value.ref f:=rx
 exact PySem.W.callWith_K (h₀:=X.base) I.ok.mod.kin hk (thn (ha pos pins s0 σ H0 _ I0 q) fun us s1⟨vs,H1,I1,r,q1⟩=>⟨I1.kIn,lZ F hr hb hd hx I1 r q1⟩) he hpl
theorem rV{K:Fg}{H:Hp}:∀{ds:List Dt}{vs:List V},qI K H ds vs->∀v∈vs,∃d∈ds,qW K H d v
 |[],_,h=>by rw[qI]at h;subst h;intro v hv;cases hv
 |d::ds,_,h=>by
  rw[qI]at h
  obtain⟨v,r,rfl,h2,h3⟩:=h
  intro w hw
  rcases List.mem_cons.mp hw with rfl|hw
  ·exact⟨d,List.mem_cons_self,h2⟩
  ·obtain⟨d',m,x⟩:=rV h3 w hw
   exact⟨d',aq10 _ m,x⟩
theorem qS1:uO X (compareOp .Eq) (fun x y H Q=>∃p q xs ys ds es,x= .ref p/\y= .ref q/\zH X.K H p xs/\zH X.K H q ys/\qI X.K H ds xs/\qI X.K H es ys/\X.A.units+1+deps ds<cLine/\Q (.bl (eqDs ds es)) H):=by
 intro pins s σ H x y v u Q I rx ry h
 obtain⟨p,q',xs,ys,ds,es,rfl,rfl,h1,h2,d1,d2,hu,q⟩:=h
 cases rx
 cases ry
 obtain⟨its,r1,p1,_⟩:=I.list h1
 obtain⟨its2,r2,p2,_⟩:=I.list h2
 have l1:its.length=ds.length:=by rw[<-r1.length,d1.length]
 have l2:its2.length=es.length:=by rw[<-r2.length,d2.length]
 have hu':X.A.units<cLine:=by omega
 by_cases hl:ds.length=es.length
 ·have key:=SeqAt.eq_listAt (prog:=X.prog) (w:=X.w) (A:=X.A) (E:=X.xe) (Q:=EP X pins σ Q) (e:=fun j=>eqD (ds.getD j .non) (es.getD j .non)) p1.isList p2.isList (by simp;omega) hu' (fun j h1 h2'=>by
   have :=uT I ds es X.A.in1 xs ys its its2 (by show X.A.units+1+deps ds<cLine;omega) d1 d2 r1 r2 j (by simpa using h1) (by simpa using h2')
   simpa using this)
  refine key ⟨.bl (eqDs ds es),H,I,?_,q⟩
  rw[List.size_toArray,l1,<-yU .non ds es,hl,Nat.min_self]
  simp
  rfl
 ·refine SeqAt.eq_list_lengthsAt p1.isList p2.isList (by simp;omega) hu' ⟨.bl false,H,I,rfl,?_⟩
  have :eqDs ds es=false:=by
   cases e:eqDs ds es with
   |false=>rfl
   |true=>exact absurd (uM e) hl
  rw[this]at q
  exact q
def tyD:Dt->String
 | .non=>"NoneType"
 | .bl _=>"bool"
 | .int _=>"int"
 | .str _=>"str"
 | .tup _=>"tuple"
theorem oS:kO X (.builtin "isinstance") (fun xs H Q=>∃d x n b,xs=[x,.ty n]/\qW X.K H d x/\PySem.W.kitOne X.K (.type (tyD d)) (.type n)=some b/\Q (.bl b) H):=by
 intro pins s σ H xs us Q I r h
 obtain⟨d,x,n,b,rfl,hd,ko,q⟩:=h
 obtain⟨u,u2,rfl,r1,r2⟩:=vals2 r
 cases r2
 have fin:∀tk,EP X pins σ Q (.bool b) {s with toks:=tk}:=fun tk=>⟨.bl b,H,I.tok tk,rfl,q⟩
 cases d with
 |non=>rw[qW]at hd;subst hd;cases r1;exact PySem.W.kia_one PySem.W.kitx_none I.kIn True.intro ko (fun z=>nomatch z) fin
 |bl y=>rw[qW]at hd;subst hd;cases r1;exact PySem.W.kia_one PySem.W.kitx_bool I.kIn True.intro ko (fun z=>nomatch z) fin
 |int y=>rw[qW]at hd;subst hd;obtain⟨t,rfl⟩:=r1;exact PySem.W.kia_one PySem.W.kitx_int I.kIn True.intro ko (fun z=>nomatch z) fin
 |str y=>rw[qW]at hd;subst hd;obtain⟨t,rfl⟩:=r1;exact PySem.W.kia_one PySem.W.kitx_str I.kIn True.intro ko (fun z=>nomatch z) fin
 |tup ds=>
  obtain⟨a,its,rfl,ht,_⟩:=xK I hd r1
  obtain⟨o,h1,h2,_⟩:=ht
  exact PySem.W.kia_one PySem.W.kitx_tuple I.kIn ⟨o,h1,h2⟩ ko (fun z=>nomatch z) fin
theorem qQ1{d:Dt}:∀{ds:List Dt},d∈ds->dep d<=deps ds
 |[],h=>by cases h
 |e::es,h=>by
  rw[deps]
  rcases List.mem_cons.mp h with rfl|h
  ·omega
  ·have :=qQ1 h;omega
def qC0(x:Dt)(ds:List Dt):Bool:=ds.any fun d=>eqD d x
theorem qQ2{H:Hp}{pins:List (Addr×Obj)}{σ:St}{s:Shared}(I:Inv X pins σ H s)(A:Around)(x:Dt)(xv:V)(xu:Value)(hx:qW X.K H x xv)(rx:zU xv xu):∀{ds:List Dt}{vs:List V}{us:List Value},qI X.K H ds vs->Vals vs us->A.units+deps ds<cLine->
  ∃f:Value->Bool,(∀u∈us,SeqAt.EqAt A s u xu (f u))/\us.map f=ds.map fun d=>eqD d x:=by
 classical
 intro ds vs us hd hv hu
 have one:∀u∈us,∃d∈ds,∃v,qW X.K H d v/\zU v u:=by
  intro u hu'
  obtain⟨i,hi,e⟩:=List.getElem_of_mem hu'
  have hl:=hv.length
  have hi':i<vs.length:=by omega
  obtain⟨d,hdm,hdv⟩:=rV hd vs[i] (List.getElem_mem hi')
  obtain⟨u',h1,h2⟩:=hv.get (List.getElem?_eq_getElem hi')
  rw[List.getElem?_eq_getElem hi,e]at h1
  cases h1
  exact⟨d,hdm,vs[i],hdv,h2⟩
 refine⟨fun u=>if h:∃d v,qW X.K H d v/\zU v u then eqD h.choose x else false,fun u hu'=>?_,?_⟩
 ·obtain⟨d,hdm,v,h1,h2⟩:=one u hu'
  have hex:∃d v,qW X.K H d v/\zU v u:=⟨d,v,h1,h2⟩
  show SeqAt.EqAt A s u xu (if h:∃d v,qW X.K H d v/\zU v u then eqD h.choose x else false)
  rw[dif_pos hex]
  obtain⟨v',g1,g2⟩:=hex.choose_spec
  have ev:v'=v:=g2.inj h2
  subst ev
  have ed:=lI I g1 h1
  rw[ed]
  have hdep:dep d<=deps ds:=qQ1 hdm
  exact eT I d x A _ xv u xu (by omega) h1 hx h2 rx
 ·clear one hu
  induction ds generalizing vs us with
  |nil=>rw[qI]at hd;subst hd;cases hv;rfl
  |cons d ds ih=>
   rw[qI]at hd
   obtain⟨v,r,rfl,h2,h3⟩:=hd
   cases hv with
   | @cons _ u _ us' p q=>
    rw[List.map_cons,List.map_cons,ih h3 q]
    congr 1
    have hex:∃d v,qW X.K H d v/\zU v u:=⟨d,v,h2,p⟩
    rw[dif_pos hex]
    obtain⟨v',g1,g2⟩:=hex.choose_spec
    have ev:v'=v:=g2.inj p
    subst ev
    rw[lI I g1 h2]
theorem yO{α:Type}(f:α->Bool)(l:List α):l.any f=(l.map f).any id:=by rw[List.any_map];rfl
theorem qS2:uO X (compareOp .In) (fun x y H Q=>∃p xs d ds,y= .ref p/\zH X.K H p xs/\qW X.K H d x/\qI X.K H ds xs/\X.A.units+1+deps ds<cLine/\Q (.bl (qC0 d ds)) H):=by
 intro pins s σ H x y v u Q I rx ry h
 obtain⟨p,xs,d,ds,rfl,hq,hd,hds,hu,q⟩:=h
 cases ry
 obtain⟨its,r,pl,hz⟩:=I.list hq
 obtain⟨f,hf,hm⟩:=qQ2 I X.A.in1 d x v hd rx hds r (by show X.A.units+1+deps ds<cLine;exact hu)
 refine SeqAt.in_listAt f pl.isList (fun w hw=>hf w (by simpa using hw)) ⟨.bl _,H,I,rfl,?_⟩
 have e:its.toArray.any f=qC0 d ds:=by
  rw[show its.toArray.any f=its.any f by simp,yO,hm]
  unfold qC0
  rw[<-yO]
 rw[e]
 exact q
theorem dD:kO X (.type "dict") (fun xs H Q=>∃a kvs,xs=[.ref a]/\H a=some (.dK kvs)/\∀b,H b=none->Q (.ref b) (upd H b (.dK kvs))):=by
 intro pins s σ H xs us Q I r h
 obtain⟨a,kvs,rfl,ha,q⟩:=h
 obtain⟨u,rfl,r1⟩:=vals1 r
 cases r1
 obtain⟨hz,hS,vs,rel,m⟩:kvs.length<=sizeLine/\(a==sysModules)=false/\∃vs,KV kvs vs/\s.heap.DictOf (jQ X.prog X.w) a vs:=I.hok a _ ha
 have hlen:kvs.length=vs.length:=Paired.length rel
 refine kt_call_dict hS m (by omega) fun h' hd hs=>?_
 have na:H s.heap.objs.size=none:=I.hok.fresh (aq7 _)
 refine⟨.ref s.heap.objs.size,_,I.laid (t':=s.toks) (o:=.dK kvs) (fun b u e=>(hs.2 b (aq9 (aq8 e))).trans (Heap.get?_push_of_some _ e)) (aq7 _) ⟨hz,beq_eq_false_iff_ne.mpr (Ne.symm (aq9 I.big)),vs,rel,hd⟩,rfl,q _ na⟩
end
end L2
namespace L2
open PySem PySem.Spec PyProof.Rows PyProof
theorem Inv.turnedL{X:Cx}{pins:List (Addr×Obj)}{σ:St}{H:Hp}{s:Shared}{h':Heap}{t':Nat}{ch:List Addr}(I:Inv X pins σ H s)(k:∀b o,b∉ch->s.heap.get? b=some o->h'.get? b=some o)(f:∀b∈ch,vL X pins H b):
  Inv X pins σ H {s with heap:=h',toks:=t'}:=by
 have nit:∀b u,H b=some u->b∉ch:=fun b u e z=>by rw[(f b z).1]at e;cases e
 have nl:X.env.locals∉ch:=fun z=>(f _ z).2.1 rfl
 refine I.step (g':=s.gens) (d':=s.drawn) (ch:=ch) (fun b hb=>let⟨_,a2,_,a4,a5,a6⟩:=f b hb;⟨a4,a2,a5,a6⟩) (fun b o _ _ hc e _=>k b o hc e) (fun b o _ _ hc e _=>⟨o.slots,k b o hc e⟩) (fun _ _ _ _ n=>n)
  (fun b o hc e=>⟨o,k b o hc e⟩) (fun _ _ e=>e) (fun _ _ _ e=>e) (fun b ps e=>⟨#[],by rw[e];simp⟩) (fun m hm=>?_) (fun b u e=>?_) I.bare
 ·obtain⟨o,es,ep,ho,r⟩:=hm
  exact⟨o,es,ep,k _ o nl ho,r⟩
 ·refine(I.hok b u e).stay (fun c v hc q=>k c v ?_ q) (fun _ q=>q) fun _ _ q=>q
  rcases hc with z|z
  ·rw[z];exact nit b u e
  ·exact nit c _ z
inductive qQ3(K:Fg)(t:TA)(σ:St)(Q:VK)(x:V)(H1:Hp):Prop
 |mk (a:_) (D:_) (a_0:x= .ref a) (a_1:uR K a D) (a_2:t σ H1 fun xs H2=>∃k dv,xs=[.str k,dv]/\Q ((KTD.datumAt k D).getD dv) H2):qQ3 K t σ Q x H1
def zV6(K:Fg)(to:TE)(t:TA):TE:=fun σ H Q=>to σ H fun x H1=>qQ3 K t σ Q x H1
theorem qC1{X:Cx}{o e d:Expr}{to:TE}{t:TA}{apos cpos:Pos}(ho:PE X o to)(ha:PA X [e,d] t)
  (hbase:attributeBase o "get" X.env (eval o X.env)=eval o X.env:=by rfl)
  (hfew:((backTo cpos (starEach [e,d] X.env)).all (fun x=> !x.1)&&(backToKw cpos (keywordEach [] X.env)).all (fun x=>x.1.isSome)&&decide ([e,d].length+([]:List Keyword).length+(if([]:List Keyword).isEmpty then 0 else 1)<30))=true:=by rfl)
  (hline:(apos.endLine==cpos.line)=true:=by rfl)(hs:starEach [e,d] X.env=(false,eval e X.env)::starEach [d] X.env:=by rfl)(hplain:(backTo cpos (starEach [d] X.env)).any (·.1)=false:=by rfl):
  PE X (.Call (.Attribute o "get" apos) [e,d] [] cpos) (zV6 X.K to t):=by
 intro pins s σ H Q I h
 refine wpAny_Call_method_late hbase hfew hline rfl (thn (ho pins s σ H _ I h) fun v s1⟨x,H1,I1,r1,q1⟩=>?_)
 obtain⟨a,D,rfl,⟨lo,ob,es,ep,lk,hc,hd,hr⟩,q1⟩:=q1
 cases r1
 refine⟨"dict","dict.get",PySem.F.plainAttrs_dict,PySem.F.slot_dict_get,PySem.F.type_dict_get,⟨ob,I1.kIn _ _ lk,hc.1⟩,fun b z=>?_,?_⟩
 ·cases z
  exact⟨ob,I1.kIn _ _ lk,hc.2.1⟩
 have hA:=ha cpos pins s1 σ H1 _ I1 q1
 rw[hs]at hA⊢
 refine Calls.callWith_builtin (by show(false||(backTo cpos (starEach [d] X.env)).any (·.1))=false;rw[hplain]<;>rfl) (Calls.evalArgs_plain (thn hA fun us s2⟨vs,H2,I2,r2,q2⟩=>?_))
 obtain⟨k,dv,rfl,q⟩:=q2
 obtain⟨u1,u2,rfl,⟨tk,rfl⟩,rd⟩:=Vals.two r2
 have hob:=I2.kIn _ _ lk
 refine wpAny_call_entry PySem.F.slot_dict_get ⟨ob,hob,hc.1⟩ PySem.F.entry_dict_get ?_ (PySem.F.args_dict_get_3 _ _ _)
 show wpAny _ _ (dictGet a (.str k tk)>>=_) _ _ s2
 refine wpAny_bind (mX hob hd hr (fun v u e ru=>?_) fun e=>?_)
 ·rw[e]at q
  exact wpAny_pure ⟨_,rfl,v,H2,I2.tok _,ru,q⟩
 ·rw[e]at q
  show wpAny _ _ (Builtin.Dict.missed a (.str k tk)>>=_) _ _ _
  exact wpAny_bind (wpAny_missed_other lo (wpAny_pure ⟨_,rfl,dv,H2,I2.tok _,rd,q⟩))
def Ite(K:Fg)(l:Addr):It:=⟨fun i H=>∃xs x,zH K H l xs/\xs[i]? =some x,
 fun i H v H'=>∃T x,H T=none/\v= .ref T/\H'=upd H T (.tup [.int i,x])/\∀ys,zH K H l ys->ys[i]? =some x,
 fun i H=>∃xs,zH K H l xs/\xs.length<=i⟩
theorem yI{h:Heap}{a:Addr}{o:Obj}(e:h.get? a=some o):a≠h.objs.size:=aq9 (aq8 e)
theorem tL{P:Program}{w:World}{K:Fg}{es:List Expr}{k0}{pos:Pos}(l e it:Addr)(ne:e≠it):Turn P w K (.Tuple es k0 pos) (Ite K l) [e,it] e (fun i h=>(∃old,IsEnum h e it i old)/\h.IsListIter it l i)where
 mem:=by simp
 obj:=fun i h st b hb=>by
  obtain⟨⟨old,e1⟩,o,e2,c2,d2⟩:=st
  rcases List.mem_cons.mp hb with z|z
  ·rw[z];exact⟨_,e1,fun v z=>by cases z⟩
  ·rw[List.mem_singleton.mp z];exact⟨o,e2,fun v z=>by rw[d2]at z;cases z⟩
 keep:=fun i h h' st k=>⟨st.1.imp fun old q=>k e (by simp) _ q,st.2.at fun o q=>k it (by simp) o q⟩
 item:=by
  intro X hP hw hK hc i pins s σ H E I hf st hg
  subst hP hw hK
  obtain⟨xs,x,hq,hx⟩:=hg
  obtain⟨its,rv,p,hz⟩:=I.list hq
  obtain⟨u,hu,ru⟩:=rv.get hx
  obtain⟨⟨old,e1⟩,e2⟩:=st
  refine wpAny_pyNext_enum_item e1 e2 p.isList (x:=u) (by simpa using hu) ne fun h1 o1 i1 t1 z1 k1=>⟨_,rfl,wpAny_letOwnedTupleGo_enum o1 fun h2 o2 b2=>?_⟩
  have e3:e≠s.heap.objs.size:=yI e1
  have e4:it≠s.heap.objs.size:=by obtain⟨o,q,_⟩:=e2;exact yI q
  have nT:H s.heap.objs.size=none:=I.hok.fresh (aq7 _)
  have t2:h2.get? s.heap.objs.size=some {cls:=.type "tuple",data:=.seq #[.int i s.toks,u]}:=(b2.2 _ (Ne.symm e3)).trans t1
  have I1:Inv X pins σ (upd H s.heap.objs.size (.tup [.int i,x])) {s with heap:=s.heap.push {cls:=.type "tuple",data:=.seq #[.int i s.toks,u]},toks:=s.toks+1}:=
   I.laid (fun b v q=>Heap.get?_push_of_some _ q) (aq7 _) ⟨by show 2<=sizeLine;decide,[.int i s.toks,u],.cons ⟨_,rfl⟩ (.cons ru .nil),⟨_,Heap.get?_push_size _ rfl,rfl,_,rfl⟩⟩
  have I2:Inv X pins σ (upd H s.heap.objs.size (.tup [.int i,x])) {s with heap:=h2,toks:=s.toks+1}:=by
   refine Inv.turnedL (s:={s with heap:=s.heap.push {cls:=.type "tuple",data:=.seq #[.int i s.toks,u]},toks:=s.toks+1}) (ch:=[e,it]) (t':=s.toks+1) I1 (fun b o hb q=>?_) fun b hb=>?_
   ·have b1:b≠e:=fun z=>hb (by simp[z])
    have b3:b≠it:=fun z=>hb (by simp[z])
    by_cases bT:b=s.heap.objs.size
    ·subst bT
     have z:(s.heap.push {cls:=.type "tuple",data:=.seq #[.int i s.toks,u]}).get? s.heap.objs.size=some _:=Heap.get?_push_size _ rfl
     rw[z]at q
     exact t2.trans q
    ·have q':s.heap.get? b=some o:=by rw[<-q];exact(Heap.get?_push_ne _ _ _ bT).symm
     exact(b2.2 b b1).trans (k1 b o b1 b3 q')
   ·obtain⟨f0,f1⟩:=hf b hb
    refine⟨?_,f1⟩
    rw[qH ?_]
    ·exact f0
    ·rcases List.mem_cons.mp hb with z|z
     ·rw[z];exact e3
     ·rw[List.mem_singleton.mp z];exact e4
  refine⟨.ref s.heap.objs.size,_,I2,rfl,⟨s.heap.objs.size,x,nT,rfl,rfl,fun ys hy=>by rw[I.list_inj hy hq];exact hx⟩,⟨⟨u,by simpa using o2⟩,i1.at fun o q=>(b2.2 it (Ne.symm ne)).trans q⟩,fun b hb=>?_⟩
  rw[qH ?_]
  ·exact(hf b hb).1
  ·rcases List.mem_cons.mp hb with z|z
   ·rw[z];exact e3
   ·rw[List.mem_singleton.mp z];exact e4
 done:=by
  intro X hP hw hK hc i pins s σ H E I hf st hg
  subst hP hw hK
  obtain⟨xs,hq,hx⟩:=hg
  obtain⟨its,rv,p,hz⟩:=I.list hq
  have hl:=rv.length
  obtain⟨⟨old,e1⟩,e2⟩:=st
  exact wpAny_pyNext_enum_end (I.ok.hd hc) e1 e2 p.isList (by simp;omega) fun h' eb=>⟨rfl,I.turnedL (t':=s.toks) (ch:=[e,it]) (fun b o hb q=>eb b o (fun z=>hb (by simp[z])) q) hf⟩
 self:=fun _ _ _ _ _ st h=>let⟨⟨_,e1⟩,_⟩:=st;wpAny_pyIter_enum e1 h
def zV7(K:Fg)(ta:TA):TI:=fun σ H R=>ta σ H fun vs H1=>∃l,vs=[.ref l]/\(∃xs,zH K H1 l xs)/\R (Ite K l) H1
theorem rW{X:Cx}{a:Expr}{ta:TA}{p pos p2:Pos}{es:List Expr}{k0}(hg:Gl X "enumerate")(hm:X.mg "enumerate"=none)(ha:PA X [a] ta)(hs:starEach [a] X.env=[(false,eval a X.env)]:=by rfl):
  PI X (.Tuple es k0 p2) (.Call (.Name "enumerate" p) [a] [] pos) (zV7 X.K ta):=by
 intro pins s σ H R I h
 refine Call_ (vZ I hg hm boot_enumerate (PyProof.Rows.callWith_type1 (thn (ha pos pins s σ H _ I h) fun us s1⟨vs,H1,I1,r1,q1⟩=>?_) hs rfl))
 obtain⟨l,rfl,⟨xs,hq⟩,q⟩:=q1
 obtain⟨u,rfl,ru⟩:=vals1 r1
 cases ru
 obtain⟨its,rv,pl,hz⟩:=I1.list hq
 refine call_enumerate_list pl.isList fun h' e1 e2 sz kp=>wpAny_pyIter_enum e1 ?_
 refine⟨_,[s1.heap.objs.size+1,s1.heap.objs.size],_,_,H1,rfl,I1.kept (t':=s1.toks) kp,tL l _ _ (Nat.succ_ne_self _),⟨⟨_,e1⟩,e2⟩,fun b hb=>?_,q⟩
 have hb':s1.heap.objs.size<=b:=by
  rcases List.mem_cons.mp hb with z|z
  ·rw[z];exact Nat.le_succ _
  ·rw[List.mem_singleton.mp z];exact aq7 _
 exact I1.fpOk hb' (I1.hok.fresh hb')
structure Nx(P:Program)(w:World)(it:Addr)(xs:Array Value)(dp:List Addr)(N:Nat->Heap->Prop):Prop where
 stay:∀k h h',N k h->(∀b∈dp,∀o,h.get? b=some o->h'.get? b=some o)->N k h'
 item:∀(A:Around)(E:Value->Shared->Prop)(s:Shared)(k:Nat)(x:Value)(Q:Value->Shared->Prop),N k s.heap->xs[k]? =some x->(∀g,N (k+1) g->Heap.SameBut it s.heap g->Q x {s with heap:=g})->wpAny (model P w) A (Builtin.SmallTypes.nextOf (.ref it)) Q E s
 fin:∀(A:Around)(E:Value->Shared->Prop)(s:Shared)(k:Nat)(Q:Value->Shared->Prop),A.handled=none->N k s.heap->xs[k]? =none->(∀g e,Heap.ExtBut it s.heap g->(∃o,g.get? e=some o/\o.cls= .type "StopIteration")->E (.ref e) {s with heap:=g})->
  wpAny (model P w) A (Builtin.SmallTypes.nextOf (.ref it)) Q E s
theorem yC(P:Program)(w:World)(it t:Addr)(xs:Array Value)(ne:t≠it):Nx P w it xs [it,t] (fun k h=>h.IsTupleIter it t k/\h.IsTuple t xs)where
 stay:=fun k h h' st f=>by
  obtain⟨⟨o,a1,a2⟩,⟨o',b1,b2⟩⟩:=st
  exact⟨⟨o,f it (by simp) o a1,a2⟩,⟨o',f t (by simp) o' b1,b2⟩⟩
 item:=by
  intro A E s k x Q st ex go
  obtain⟨ti,tt⟩:=st
  obtain⟨o,ob,oc,od⟩:=id ti
  obtain⟨u,ub,uc,un,ud⟩:=id tt
  unfold Builtin.SmallTypes.nextOf
  refine wpAny_bind (wpAny_callSpecial?_slot (name:=Str.ofString "__next__") ti.typeIs F.slot_tuple_iterator_next (wpAny_call_entry F.slot_tuple_iterator_next ti.typeIs F.entry_tuple_iterator_next ?_ (F.args_tuple_iterator_next_1 _)))
  show wpAny _ _ (field (.ref it) 0>>=_) _ _ s
  refine wpAny_bind (wpAny_field ob od (x:=.ref t) rfl ?_)
  show wpAny _ _ (if(Value.ref t==Value.none)=true then _ else _) _ _ s
  rw[if_neg (by intro z;cases z)]
  show wpAny _ _ (field (.ref it) 1>>=_) _ _ s
  refine wpAny_bind (wpAny_field ob od (x:=.int k 0) rfl ?_)
  show wpAny _ _ (seqItems? (.ref t)>>=_) _ _ s
  refine wpAny_bind (wpAny_seqItems ub ud ?_)
  simp only[Int.toNat_natCast,ex]
  refine wpAny_bind (wpAny_setField ob od (by simp) (wpAny_pure ⟨x,rfl,wpAny_pure (go _ ⟨?_,tt.extBut (Heap.SameBut.update ..).extBut ne⟩ (Heap.SameBut.update ..))⟩))
  exact⟨_,Heap.get?_update_self _ ob (Obj.isFreed_of_fields (Obj.data_mapFields od _)),(Obj.cls_mapFields ..).trans oc,by rw[Obj.data_mapFields od];simp[rawInt]⟩
 fin:=by
  intro A E s k Q hh st ex go
  obtain⟨ti,tt⟩:=st
  obtain⟨o,ob,oc,od⟩:=id ti
  obtain⟨u,ub,uc,un,ud⟩:=id tt
  unfold Builtin.SmallTypes.nextOf
  refine wpAny_bind (wpAny_callSpecial?_slot (name:=Str.ofString "__next__") ti.typeIs F.slot_tuple_iterator_next (wpAny_call_entry F.slot_tuple_iterator_next ti.typeIs F.entry_tuple_iterator_next ?_ (F.args_tuple_iterator_next_1 _)))
  show wpAny _ _ (field (.ref it) 0>>=_) _ _ s
  refine wpAny_bind (wpAny_field ob od (x:=.ref t) rfl ?_)
  show wpAny _ _ (if(Value.ref t==Value.none)=true then _ else _) _ _ s
  rw[if_neg (by intro z;cases z)]
  show wpAny _ _ (field (.ref it) 1>>=_) _ _ s
  refine wpAny_bind (wpAny_field ob od (x:=.int k 0) rfl ?_)
  show wpAny _ _ (seqItems? (.ref t)>>=_) _ _ s
  refine wpAny_bind (wpAny_seqItems ub ud ?_)
  simp only[Int.toNat_natCast,ex]
  refine wpAny_bind (wpAny_rule (wpAny_bind (wpAny_setField ob od (by simp) ?_)))
  show wpAny _ _ (newExc (.type "StopIteration") []>>=_) _ _ _
  refine wpAny_bind ?_
  simp only[newExc,newTuple]
  refine wpAny_bind (wpAny_newObj_type ?_ (by size_fits))
  refine wpAny_bind (m:=firstArgMember _ _) (wpAny_of_eq (a:=Value.none) (by first|rfl|(simp only[firstArgMember];rfl)) ?_)
  refine wpAny_newObj_type ?_ (by size_fits)
  simp only[raiseNew]
  refine wpAny_bind (wpAny_handled ?_)
  first|rw[show A.in1.handled=none from hh]|rw[hh]
  refine wpAny_bind (wpAny_pure (wpAny_throw ?_))
  exact go _ _ (((Heap.SameBut.update ..).extBut.push _).push _) ⟨_,Heap.get?_push_size _ rfl,rfl⟩
structure ZAp(z p q i j:Addr)(d1 d2:List Addr):Prop where
 pz:p≠z
 qz:q≠z
 iz:i≠z
 jz:j≠z
 pq:p≠q
 pi:p≠i
 pj:p≠j
 qi:q≠i
 qj:q≠j
 ij:i≠j
 z1:z∉d1
 q1:q∉d1
 j1:j∉d1
 z2:z∉d2
 q2:q∉d2
 i2:i∉d2
section
variable {P:Program} {w:World} {A:Around} {E:Value->Shared->Prop} {s:Shared} {z p q i j:Addr} {xs ys:Array Value} {d1 d2:List Addr} {N1 N2:Nat->Heap->Prop}
theorem xH{d:List Addr}{b c:Addr}(h:c∉d)(m:b∈d):b≠c:=fun e=>h (e▸m)
theorem qC2{k:Nat}{x y a b:Value}{Q:Value->Shared->Prop}(D:ZAp z p q i j d1 d2)(n1:Nx P w i xs d1 N1)(n2:Nx P w j ys d2 N2)(zo:IsZip s.heap z p q .none)(po:IsPair s.heap p (.ref i) (.ref j))(qo:IsPair s.heap q a b)
  (st1:N1 k s.heap)(st2:N2 k s.heap)(ex:xs[k]? =some x)(ey:ys[k]? =some y)
  (go:∀g,IsZip g z p q (rawInt s.heap.objs.size)->IsPair g q x y->N1 (k+1) g->N2 (k+1) g->IsPair g s.heap.objs.size x y->(∀c o,c∉[z,q,i,j]->s.heap.get? c=some o->g.get? c=some o)->Q (.ref s.heap.objs.size) {s with heap:=g})
  (zi:i<s.heap.objs.size)(zj:j<s.heap.objs.size)(m1:∀c∈d1,c<s.heap.objs.size)(m2:∀c∈d2,c<s.heap.objs.size):
  wpAny (model P w) A (Builtin.«zip.__next__» ⟨[.ref z],[]⟩) (fun fin s'=>∃v,fin= .done (.ret v)/\Q v s') E s:=by
 have zl:z<s.heap.objs.size:=aq8 zo
 have ql:q<s.heap.objs.size:=aq8 qo
 show wpAny _ _ (field (.ref z) 2>>=_) _ _ _
 refine wpAny_bind (wpAny_field zo rfl (x:=.bool false) rfl ?_)
 show wpAny _ _ (field (.ref z) 3>>=_) _ _ _
 refine wpAny_bind (wpAny_field zo rfl (x:=.ref p) rfl ?_)
 refine wpAny_bind (wpAny_seqItems po rfl ?_)
 show wpAny _ _ (Builtin.SmallTypes.ownedTupleIsFree (.ref z)>>=_) _ _ _
 refine wpAny_bind ?_
 unfold Builtin.SmallTypes.ownedTupleIsFree
 refine wpAny_bind (wpAny_field zo rfl (x:=.none) rfl (wpAny_pure ?_))
 simp only[if_true]
 refine wpAny_bind (wpAny_rule (wpAny_bind (wpAny_field zo rfl (x:=.ref q) rfl ?_)))
 refine wpAny_bind (wpAny_setField_rec zo (by simp) fun g1 w1 b1=>?_)
 replace w1:IsZip g1 z p q .ellipsis:=w1
 refine wpAny_bind ?_
 simp only[List.zipIdx_cons,List.zipIdx_nil,List.forIn_cons,List.forIn_nil]
 refine wpAny_bind (wpAny_bind (wpAny_onRaise ?_))
 show wpAny _ _ (Builtin.SmallTypes.nextOf (.ref i)>>=_) _ _ _
 have a1:N1 k g1:=n1.stay _ _ _ st1 fun c hc o e=>b1.extBut _ _ (xH D.z1 hc) e
 refine wpAny_bind (n1.item _ _ _ _ _ _ a1 ex fun g2 a2 b2=>wpAny_pure ?_)
 have q2:IsPair g2 q a b:=b2.extBut _ _ D.qi (b1.extBut _ _ D.qz qo)
 refine wpAny_bind (wpAny_seqItems q2 rfl (wpAny_bind (wpAny_updateSeq_pair q2 fun g3 q3 b3=>?_)))
 replace q3:IsPair g3 q x b:=q3
 refine wpAny_bind (wpAny_letGo (wpAny_pure ?_))
 refine wpAny_bind (wpAny_bind (wpAny_onRaise ?_))
 show wpAny _ _ (Builtin.SmallTypes.nextOf (.ref j)>>=_) _ _ _
 have c3:N2 k g3:=n2.stay _ _ _ st2 fun c hc o e=>b3.extBut _ _ (xH D.q2 hc) (b2.extBut _ _ (xH D.i2 hc) (b1.extBut _ _ (xH D.z2 hc) e))
 refine wpAny_bind (n2.item _ _ _ _ _ _ c3 ey fun g4 c4 b4=>wpAny_pure ?_)
 have q4:IsPair g4 q x b:=b4.extBut _ _ D.qj q3
 refine wpAny_bind (wpAny_seqItems q4 rfl (wpAny_bind (wpAny_updateSeq_pair q4 fun g5 q5 b5=>?_)))
 replace q5:IsPair g5 q x y:=q5
 refine wpAny_bind (wpAny_letGo (wpAny_pure (wpAny_pure ?_)))
 refine wpAny_bind (wpAny_seqItems q5 rfl (wpAny_bind (wpAny_newTuple ?_)))
 have sz:g5.objs.size=s.heap.objs.size:=by rw[b5.1,b4.1,b3.1,b2.1,b1.1]
 have w5:IsZip g5 z p q .ellipsis:=b5.extBut _ _ D.qz.symm (b4.extBut _ _ D.jz.symm (b3.extBut _ _ D.qz.symm (b2.extBut _ _ D.iz.symm w1)))
 have k5:∀c o,c∉[z,q,i,j]->s.heap.get? c=some o->g5.get? c=some o:=fun c o hc e=>by
  simp only[List.mem_cons,List.not_mem_nil,or_false,not_or]at hc
  obtain⟨h1,h2,h3,h4⟩:=hc
  exact b5.extBut _ _ h2 (b4.extBut _ _ h4 (b3.extBut _ _ h2 (b2.extBut _ _ h3 (b1.extBut _ _ h1 e))))
 have a5:N1 (k+1) g5:=n1.stay _ _ _ a2 fun c hc o e=>b5.extBut _ _ (xH D.q1 hc) (b4.extBut _ _ (xH D.j1 hc) (b3.extBut _ _ (xH D.q1 hc) e))
 have c5:N2 (k+1) g5:=n2.stay _ _ _ c4 fun c hc o e=>b5.extBut _ _ (xH D.q2 hc) e
 show wpAny _ _ (Builtin.SmallTypes.ownedTupleHandOut (.ref z) (.ref g5.objs.size)>>=_) _ _ _
 refine wpAny_bind ?_
 unfold Builtin.SmallTypes.ownedTupleHandOut
 have w6:IsZip (g5.push {cls:=.type "tuple",data:=.seq #[x,y]}) z p q .ellipsis:=Heap.get?_push_of_some _ w5
 refine wpAny_bind (wpAny_setField_rec w6 (by simp) fun g7 w7 b7=>?_)
 replace w7:IsZip g7 z p q (rawInt g5.objs.size):=w7
 refine wpAny_setField_rec w7 (by simp) fun g8 w8 b8=>?_
 replace w8:IsZip g8 z p q (rawInt g5.objs.size):=w8
 have up:∀c o,c≠z->g5.get? c=some o->g8.get? c=some o:=fun c o c1 e=>b8.extBut _ _ c1 (b7.extBut _ _ c1 (Heap.get?_push_of_some _ e))
 have zn:g5.objs.size≠z:=by rw[sz];exact Ne.symm (aq9 zl)
 have t8:IsPair g8 g5.objs.size x y:=b8.extBut _ _ zn (b7.extBut _ _ zn (Heap.get?_push_size _ rfl))
 refine wpAny_pure ⟨_,rfl,?_⟩
 show Q (.ref g5.objs.size) _
 rw[sz]at w8 t8⊢
 exact go g8 w8 (up _ _ D.qz q5) (n1.stay _ _ _ a5 fun c hc o e=>up c o (xH D.z1 hc) e) (n2.stay _ _ _ c5 fun c hc o e=>up c o (xH D.z2 hc) e) t8 fun c o hc e=>up c o (fun h=>hc (by simp[h])) (k5 c o hc e)
theorem qS3{k:Nat}{a b:Value}{Q:Fin->Shared->Prop}(hh:A.handled=none)(D:ZAp z p q i j d1 d2)(n1:Nx P w i xs d1 N1)(n2:Nx P w j ys d2 N2)(zo:IsZip s.heap z p q .none)(po:IsPair s.heap p (.ref i) (.ref j))(qo:IsPair s.heap q a b)
  (st1:N1 k s.heap)(st2:N2 k s.heap)(ex:xs[k]? =none\/ys[k]? =none)
  (go:∀g e,(∀c o,c∉[z,q,i,j]->s.heap.get? c=some o->g.get? c=some o)->(∃o,g.get? e=some o/\o.cls= .type "StopIteration")->E (.ref e) {s with heap:=g}):
  wpAny (model P w) A (Builtin.«zip.__next__» ⟨[.ref z],[]⟩) Q E s:=by
 show wpAny _ _ (field (.ref z) 2>>=_) _ _ _
 refine wpAny_bind (wpAny_field zo rfl (x:=.bool false) rfl ?_)
 show wpAny _ _ (field (.ref z) 3>>=_) _ _ _
 refine wpAny_bind (wpAny_field zo rfl (x:=.ref p) rfl ?_)
 refine wpAny_bind (wpAny_seqItems po rfl ?_)
 show wpAny _ _ (Builtin.SmallTypes.ownedTupleIsFree (.ref z)>>=_) _ _ _
 refine wpAny_bind ?_
 unfold Builtin.SmallTypes.ownedTupleIsFree
 refine wpAny_bind (wpAny_field zo rfl (x:=.none) rfl (wpAny_pure ?_))
 simp only[if_true]
 refine wpAny_bind (wpAny_rule (wpAny_bind (wpAny_field zo rfl (x:=.ref q) rfl ?_)))
 refine wpAny_bind (wpAny_setField_rec zo (by simp) fun g1 w1 b1=>?_)
 replace w1:IsZip g1 z p q .ellipsis:=w1
 refine wpAny_bind ?_
 simp only[List.zipIdx_cons,List.zipIdx_nil,List.forIn_cons,List.forIn_nil]
 refine wpAny_bind (wpAny_bind (wpAny_onRaise ?_))
 show wpAny _ _ (Builtin.SmallTypes.nextOf (.ref i)>>=_) _ _ _
 have a1:N1 k g1:=n1.stay _ _ _ st1 fun c hc o e=>b1.extBut _ _ (xH D.z1 hc) e
 cases ex1:xs[k]?with
 |none=>
  refine wpAny_bind (n1.fin _ _ _ _ _ hh a1 ex1 fun g2 e b2 he=>?_)
  obtain⟨oe,e1,e2⟩:=he
  have w2:IsZip g2 z p q .ellipsis:=b2 _ _ D.iz.symm w1
  have ez:e≠z:=fun t=>by subst t;rw[w2]at e1;cases e1;simp at e2
  refine wpAny_setField_rec w2 (by simp) fun g3 _ b3=>go g3 e (fun c o hc r=>?_) ⟨oe,b3.extBut _ _ ez e1,e2⟩
  simp only[List.mem_cons,List.not_mem_nil,or_false,not_or]at hc
  obtain⟨h1,h2,h3,h4⟩:=hc
  exact b3.extBut _ _ h1 (b2 _ _ h3 (b1.extBut _ _ h1 r))
 |some x=>
  have ey:ys[k]? =none:=by
   rcases ex with h|h
   ·rw[ex1]at h;cases h
   ·exact h
  refine wpAny_bind (n1.item _ _ _ _ _ _ a1 ex1 fun g2 a2 b2=>wpAny_pure ?_)
  have q2:IsPair g2 q a b:=b2.extBut _ _ D.qi (b1.extBut _ _ D.qz qo)
  refine wpAny_bind (wpAny_seqItems q2 rfl (wpAny_bind (wpAny_updateSeq_pair q2 fun g3 q3 b3=>?_)))
  refine wpAny_bind (wpAny_letGo (wpAny_pure ?_))
  refine wpAny_bind (wpAny_bind (wpAny_onRaise ?_))
  show wpAny _ _ (Builtin.SmallTypes.nextOf (.ref j)>>=_) _ _ _
  have c3:N2 k g3:=n2.stay _ _ _ st2 fun c hc o e=>b3.extBut _ _ (xH D.q2 hc) (b2.extBut _ _ (xH D.i2 hc) (b1.extBut _ _ (xH D.z2 hc) e))
  refine wpAny_bind (n2.fin _ _ _ _ _ hh c3 ey fun g4 e b4 he=>?_)
  obtain⟨oe,e1,e2⟩:=he
  have w4:IsZip g4 z p q .ellipsis:=b4 _ _ D.jz.symm (b3.extBut _ _ D.qz.symm (b2.extBut _ _ D.iz.symm w1))
  have ez:e≠z:=fun t=>by subst t;rw[w4]at e1;cases e1;simp at e2
  refine wpAny_setField_rec w4 (by simp) fun g5 _ b5=>go g5 e (fun c o hc r=>?_) ⟨oe,b5.extBut _ _ ez e1,e2⟩
  simp only[List.mem_cons,List.not_mem_nil,or_false,not_or]at hc
  obtain⟨h1,h2,h3,h4⟩:=hc
  exact b5.extBut _ _ h1 (b4 _ _ h4 (b3.extBut _ _ h2 (b2.extBut _ _ h3 (b1.extBut _ _ h1 r))))
end
def Itz(K:Fg)(a b:Addr)(xs ys:List V):It:=⟨fun k H=>zO K H a xs/\zO K H b ys/\k<xs.length/\k<ys.length,
 fun k H v H'=>∃T x y,H T=none/\v= .ref T/\H'=upd H T (.tup [x,y])/\xs[k]? =some x/\ys[k]? =some y,
 fun k H=>zO K H a xs/\zO K H b ys/\(xs.length<=k\/ys.length<=k)⟩
def ZSt(z p q i j l1 l2:Addr)(k:Nat)(h:Heap):Prop:=IsZip h z p q .none/\IsPair h p (.ref i) (.ref j)/\(∃a b,IsPair h q a b)/\h.IsTupleIter i l1 k/\h.IsTupleIter j l2 k
theorem qQ4{P:Program}{w:World}{K:Fg}{es:List Expr}{k0}{pos:Pos}(z p q i j l1 l2:Addr)(xs ys:List V)(D:ZAp z p q i j [i,l1] [j,l2])(n1:l1≠i)(n2:l2≠j)(fr:p∉[z,q,i,j]):
  Turn P w K (.Tuple es k0 pos) (Itz K l1 l2 xs ys) [z,p,q,i,j] z (ZSt z p q i j l1 l2)where
 mem:=by simp
 obj:=fun k h st b hb=>by
  obtain⟨e1,e2,⟨a,c,e3⟩,⟨o4,e4,_,d4⟩,⟨o5,e5,_,d5⟩⟩:=st
  simp only[List.mem_cons,List.not_mem_nil,or_false]at hb
  rcases hb with rfl|rfl|rfl|rfl|rfl
  ·exact⟨_,e1,fun v z=>by cases z⟩
  ·exact⟨_,e2,fun v z=>by cases z⟩
  ·exact⟨_,e3,fun v z=>by cases z⟩
  ·exact⟨_,e4,fun v z=>by rw[d4]at z;cases z⟩
  ·exact⟨_,e5,fun v z=>by rw[d5]at z;cases z⟩
 keep:=fun k h h' st f=>by
  obtain⟨e1,e2,⟨a,c,e3⟩,⟨o4,e4,r4⟩,⟨o5,e5,r5⟩⟩:=st
  exact⟨f z (by simp) _ e1,f p (by simp) _ e2,⟨a,c,f q (by simp) _ e3⟩,⟨o4,f i (by simp) _ e4,r4⟩,⟨o5,f j (by simp) _ e5,r5⟩⟩
 item:=by
  intro X hP hw hK hc k pins s σ H E I hf st hg
  subst hP hw hK
  obtain⟨hq1,hq2,hx1,hx2⟩:=hg
  obtain⟨e1,e2,⟨a,c,e3⟩,e4,e5⟩:=st
  obtain⟨it1,rv1,p1,z1⟩:=I.tuple hq1
  obtain⟨it2,rv2,p2,z2⟩:=I.tuple hq2
  obtain⟨u1,hu1,ru1⟩:=rv1.get (List.getElem?_eq_getElem hx1)
  obtain⟨u2,hu2,ru2⟩:=rv2.get (List.getElem?_eq_getElem hx2)
  have lt1:∀{b:Addr}{o:Obj},s.heap.get? b=some o->b<s.heap.objs.size:=fun e=>aq8 e
  have li:i<s.heap.objs.size:=by obtain⟨o,e,_⟩:=e4;exact lt1 e
  have lj:j<s.heap.objs.size:=by obtain⟨o,e,_⟩:=e5;exact lt1 e
  have ll1:l1<s.heap.objs.size:=by obtain⟨o,e,_⟩:=p1;exact lt1 e
  have ll2:l2<s.heap.objs.size:=by obtain⟨o,e,_⟩:=p2;exact lt1 e
  have lz:=lt1 e1
  have lp:=lt1 e2
  have lq:=lt1 e3
  have tz:s.TypeIs (.ref z) "zip":=⟨_,e1,rfl⟩
  have nT:H s.heap.objs.size=none:=I.hok.fresh (aq7 _)
  have nf:∀b∈[z,p,q,i,j],b≠s.heap.objs.size:=fun b hb=>by
   simp only[List.mem_cons,List.not_mem_nil,or_false]at hb
   rcases hb with h|h|h|h|h
   ·rw[h];exact aq9 lz
   ·rw[h];exact aq9 lp
   ·rw[h];exact aq9 lq
   ·rw[h];exact aq9 li
   ·rw[h];exact aq9 lj
  unfold pyNext
  refine wpAny_bind (wpAny_attempt (wpAny_callSpecial?_slot (name:=Str.ofString "__next__") tz F.slot_zip_next (wpAny_call_entry F.slot_zip_next tz F.entry_zip_next
   (qC2 D (yC _ _ i l1 it1.toArray n1) (yC _ _ j l2 it2.toArray n2) e1 e2 e3 ⟨e4,p1⟩ ⟨e5,p2⟩ (by simpa using hu1) (by simpa using hu2) (fun g f1 f2 f3 f4 f5 f6=>wpAny_pure ?_) li lj (fun c hc=>?_) (fun c hc=>?_)) (F.args_zip_next_1 _))))
  rotate_left
  ·simp only[List.mem_cons,List.not_mem_nil,or_false]at hc
   rcases hc with rfl|rfl<;>omega
  ·simp only[List.mem_cons,List.not_mem_nil,or_false]at hc
   rcases hc with rfl|rfl<;>omega
  refine⟨_,rfl,wpAny_letOwnedTupleGo_zip f1 fun g' w' b'=>?_⟩
  have I1:Inv X pins σ (upd H s.heap.objs.size (.tup [xs[k],ys[k]])) {s with heap:=s.heap.push {cls:=.type "tuple",data:=.seq #[u1,u2]},toks:=s.toks}:=
   I.laid (fun b v e=>Heap.get?_push_of_some _ e) (aq7 _) ⟨by show 2<=sizeLine;decide,[u1,u2],.cons ru1 (.cons ru2 .nil),⟨_,Heap.get?_push_size _ rfl,rfl,_,rfl⟩⟩
  have I2:Inv X pins σ (upd H s.heap.objs.size (.tup [xs[k],ys[k]])) {s with heap:=g',toks:=s.toks}:=by
   refine Inv.turnedL (s:={s with heap:=s.heap.push {cls:=.type "tuple",data:=.seq #[u1,u2]},toks:=s.toks}) (ch:=[z,q,i,j]) (t':=s.toks) I1 (fun b o hb e=>?_) fun b hb=>?_
   ·have bz:b≠z:=fun h=>hb (by simp[h])
    by_cases bT:b=s.heap.objs.size
    ·subst bT
     have e':(s.heap.push {cls:=.type "tuple",data:=.seq #[u1,u2]}).get? s.heap.objs.size=some _:=Heap.get?_push_size _ rfl
     rw[e']at e
     exact((b'.2 _ bz).trans f5).trans e
    ·have e':s.heap.get? b=some o:=by rw[<-e];exact(Heap.get?_push_ne _ _ _ bT).symm
     exact(b'.2 b bz).trans (f6 b o hb e')
   ·have hb':b∈[z,p,q,i,j]:=by
     simp only[List.mem_cons,List.not_mem_nil,or_false]at hb⊢
     rcases hb with h|h|h|h<;>simp[h]
    obtain⟨f0,fr⟩:=hf b hb'
    exact⟨by rw[qH (nf b hb')];exact f0,fr⟩
  refine⟨.ref s.heap.objs.size,_,I2,rfl,⟨s.heap.objs.size,xs[k],ys[k],nT,rfl,rfl,List.getElem?_eq_getElem hx1,List.getElem?_eq_getElem hx2⟩,?_,fun b hb=>by rw[qH (nf b hb)];exact(hf b hb).1⟩
  have up:∀{b:Addr}{o:Obj},b≠z->g.get? b=some o->g'.get? b=some o:=fun h e=>(b'.2 _ h).trans e
  exact⟨w',up D.pz (f6 p _ fr e2),⟨_,_,up D.qz f2⟩,f3.1.extBut b'.extBut D.iz,f4.1.extBut b'.extBut D.jz⟩
 done:=by
  intro X hP hw hK hc k pins s σ H E I hf st hg
  subst hP hw hK
  obtain⟨hq1,hq2,hx⟩:=hg
  obtain⟨e1,e2,⟨a,c,e3⟩,e4,e5⟩:=st
  obtain⟨it1,rv1,p1,z1⟩:=I.tuple hq1
  obtain⟨it2,rv2,p2,z2⟩:=I.tuple hq2
  have h1:=rv1.length
  have h2:=rv2.length
  have tz:s.TypeIs (.ref z) "zip":=⟨_,e1,rfl⟩
  unfold pyNext
  refine wpAny_bind (wpAny_attempt (wpAny_callSpecial?_slot (name:=Str.ofString "__next__") tz F.slot_zip_next (wpAny_call_entry F.slot_zip_next tz F.entry_zip_next
   (qS3 (I.ok.hd hc) D (yC _ _ i l1 it1.toArray n1) (yC _ _ j l2 it2.toArray n2) e1 e2 e3 ⟨e4,p1⟩ ⟨e5,p2⟩ (hx.imp (fun h=>by simp;omega) fun h=>by simp;omega) fun g e f6 he=>?_) (F.args_zip_next_1 _))))
  obtain⟨oe,e6,e7⟩:=he
  refine wpAny_bind (wpAny_isInstance (T:="StopIteration") (b:=true) ⟨oe,e6,e7⟩ isSubtype_stop (wpAny_pure ⟨rfl,?_⟩))
  exact I.turnedL (t':=s.toks) (ch:=[z,q,i,j]) f6 fun b hb=>hf b (by
   simp only[List.mem_cons,List.not_mem_nil,or_false]at hb⊢
   rcases hb with h|h|h|h<;>simp[h])
 self:=fun _ _ _ _ _ st h=>wpAny_pyIter_zip st.1 h
def zN(h:Heap)(l1 l2:Addr):Heap:=((((h.push {cls:=.type "tuple_iterator",data:=.fields #[.ref l1,.int 0 0]}).push {cls:=.type "tuple_iterator",data:=.fields #[.ref l2,.int 0 0]}).push
 {cls:=.type "tuple",data:=.seq #[.ref h.objs.size,.ref (h.push {cls:=.type "tuple_iterator",data:=.fields #[.ref l1,.int 0 0]}).objs.size]}).push {cls:=.type "tuple",data:=.seq #[.none,.none]}).push
 {cls:=.type "zip",data:=.fields #[.none,.bool false,.bool false,.ref ((h.push {cls:=.type "tuple_iterator",data:=.fields #[.ref l1,.int 0 0]}).push {cls:=.type "tuple_iterator",data:=.fields #[.ref l2,.int 0 0]}).objs.size,
  .ref (((h.push {cls:=.type "tuple_iterator",data:=.fields #[.ref l1,.int 0 0]}).push {cls:=.type "tuple_iterator",data:=.fields #[.ref l2,.int 0 0]}).push
   {cls:=.type "tuple",data:=.seq #[.ref h.objs.size,.ref (h.push {cls:=.type "tuple_iterator",data:=.fields #[.ref l1,.int 0 0]}).objs.size]}).objs.size]}
theorem dF(l1 l2:Addr)(xs ys:Array Value):
  Meets (Builtin.«zip.__new__» ⟨[.type "zip",.ref l1,.ref l2],[]⟩) (fun _ R s=>s.heap.IsTuple l1 xs/\s.heap.IsTuple l2 ys/\R (.ok (.ret (.ref ((zN s.heap l1 l2).objs.size-1)))) {s with heap:=zN s.heap l1 l2}):=
 .of_wp fun prog w A R s h=>by
  obtain⟨hp,g,d,tk,os⟩:=s
  obtain⟨a1,a2,h⟩:=h
  have hsub:=sub_zip
  have b1:Heap.IsTuple (Shared.heap ⟨hp,g,d,tk,os⟩) l1 xs:=a1
  have b2:Heap.IsTuple (Shared.heap ⟨hp.push {cls:=.type "tuple_iterator",data:=.fields #[.ref l1,.int 0 0]},g,d,tk,os⟩) l2 ys:=Heap.IsTuple.push a2 _
  wp_walk using wpAny_pyIter_tuple b1,wpAny_pyIter_tuple b2
  refine⟨_,rfl,?_⟩
  have e:(zN hp l1 l2).objs.size-1=((((hp.push {cls:=.type "tuple_iterator",data:=.fields #[.ref l1,.int 0 0]}).push {cls:=.type "tuple_iterator",data:=.fields #[.ref l2,.int 0 0]}).push
   {cls:=.type "tuple",data:=.seq #[.ref hp.objs.size,.ref (hp.push {cls:=.type "tuple_iterator",data:=.fields #[.ref l1,.int 0 0]}).objs.size]}).push {cls:=.type "tuple",data:=.seq #[.none,.none]}).objs.size:=by
   show(Heap.push _ _).objs.size-1=_
   rw[Heap.size_push]
   rfl
  have h':=h
  rw[e]at h'
  exact h'
theorem zV8{h:Heap}{l1 l2:Addr}:IsZip (zN h l1 l2) (h.objs.size+4) (h.objs.size+2) (h.objs.size+3) .none/\IsPair (zN h l1 l2) (h.objs.size+2) (.ref h.objs.size) (.ref (h.objs.size+1))/\IsPair (zN h l1 l2) (h.objs.size+3) .none .none/\
  (zN h l1 l2).IsTupleIter h.objs.size l1 0/\(zN h l1 l2).IsTupleIter (h.objs.size+1) l2 0/\(zN h l1 l2).objs.size=h.objs.size+5/\∀c o,h.get? c=some o->(zN h l1 l2).get? c=some o:=by
 unfold zN
 simp only[Heap.size_push]
 refine⟨?_,?_,?_,⟨{cls:=.type "tuple_iterator",data:=.fields #[.ref l1,.int 0 0]},?_,rfl,rfl⟩,⟨{cls:=.type "tuple_iterator",data:=.fields #[.ref l2,.int 0 0]},?_,rfl,rfl⟩,?_,fun c o e=>?_⟩
 ·have e:=Heap.get?_push_size ((((h.push {cls:=.type "tuple_iterator",data:=.fields #[.ref l1,.int 0 0]}).push {cls:=.type "tuple_iterator",data:=.fields #[.ref l2,.int 0 0]}).push
   {cls:=.type "tuple",data:=.seq #[.ref h.objs.size,.ref (h.objs.size+1)]}).push {cls:=.type "tuple",data:=.seq #[.none,.none]}) (o:={cls:=.type "zip",data:=.fields #[.none,.bool false,.bool false,.ref (h.objs.size+1+1),.ref (h.objs.size+1+1+1)]}) rfl
  simp only[Heap.size_push]at e
  exact e
 ·have e:=Heap.get?_push_size (((h.push {cls:=.type "tuple_iterator",data:=.fields #[.ref l1,.int 0 0]}).push {cls:=.type "tuple_iterator",data:=.fields #[.ref l2,.int 0 0]})) (o:={cls:=.type "tuple",data:=.seq #[.ref h.objs.size,.ref (h.objs.size+1)]}) rfl
  simp only[Heap.size_push]at e
  exact Heap.get?_push_of_some _ (Heap.get?_push_of_some _ e)
 ·have e:=Heap.get?_push_size (((h.push {cls:=.type "tuple_iterator",data:=.fields #[.ref l1,.int 0 0]}).push {cls:=.type "tuple_iterator",data:=.fields #[.ref l2,.int 0 0]}).push
   {cls:=.type "tuple",data:=.seq #[.ref h.objs.size,.ref (h.objs.size+1)]}) (o:={cls:=.type "tuple",data:=.seq #[.none,.none]}) rfl
  simp only[Heap.size_push]at e
  exact Heap.get?_push_of_some _ e
 ·exact Heap.get?_push_of_some _ (Heap.get?_push_of_some _ (Heap.get?_push_of_some _ (Heap.get?_push_of_some _ (Heap.get?_push_size _ rfl))))
 ·have e:=Heap.get?_push_size (h.push {cls:=.type "tuple_iterator",data:=.fields #[.ref l1,.int 0 0]}) (o:={cls:=.type "tuple_iterator",data:=.fields #[.ref l2,.int 0 0]}) rfl
  simp only[Heap.size_push]at e
  exact Heap.get?_push_of_some _ (Heap.get?_push_of_some _ (Heap.get?_push_of_some _ e))
 ·trivial
 ·exact Heap.get?_push_of_some _ (Heap.get?_push_of_some _ (Heap.get?_push_of_some _ (Heap.get?_push_of_some _ (Heap.get?_push_of_some _ e))))
theorem nn_{a b:Nat}(h:a≠b):(show Addr from a)≠(show Addr from b):=h
theorem zap(n l1 l2:Nat)(h1:l1<n)(h2:l2<n):ZAp (n+4) (n+2) (n+3) n (n+1) [n,l1] [n+1,l2]where
 pz:=nn_ (by omega)
 qz:=nn_ (by omega)
 iz:=nn_ (by omega)
 jz:=nn_ (by omega)
 pq:=nn_ (by omega)
 pi:=nn_ (by omega)
 pj:=nn_ (by omega)
 qi:=nn_ (by omega)
 qj:=nn_ (by omega)
 ij:=nn_ (by omega)
 z1:=show(n+4:Nat)∉([n,l1]:List Nat)from by simp;omega
 q1:=show(n+3:Nat)∉([n,l1]:List Nat)from by simp;omega
 j1:=show(n+1:Nat)∉([n,l1]:List Nat)from by simp;omega
 z2:=show(n+4:Nat)∉([n+1,l2]:List Nat)from by simp;omega
 q2:=show(n+3:Nat)∉([n+1,l2]:List Nat)from by simp;omega
 i2:=show(n:Nat)∉([n+1,l2]:List Nat)from by simp;omega
theorem zV9(n:Nat):n+2∉[n+4,n+3,n,n+1]:=by simp
theorem qS4(n b:Nat)(h:b∈[n+4,n+2,n+3,n,n+1]):n<=b:=by
 simp only[List.mem_cons,List.not_mem_nil,or_false]at h
 omega
def zC6(K:Fg)(ta:TA):TI:=fun σ H R=>ta σ H fun vs H1=>∃a b xs ys,vs=[.ref a,.ref b]/\zO K H1 a xs/\zO K H1 b ys/\R (Itz K a b xs ys) H1
theorem qS5{X:Cx}{a b:Expr}{ta:TA}{p pos p2:Pos}{es:List Expr}{k0}(hg:Gl X "zip")(hm:X.mg "zip"=none)(ha:PA X [a,b] ta)(hs:starEach [a,b] X.env=[(false,eval a X.env),(false,eval b X.env)]:=by rfl)(hs2:starEach [b] X.env=[(false,eval b X.env)]:=by rfl):
  PI X (.Tuple es k0 p2) (.Call (.Name "zip" p) [a,b] [] pos) (zC6 X.K ta):=by
 intro pins s σ H R I h
 refine Call_ (vZ I hg hm boot_zip (PyProof.Rows.callWith_type1 (thn (ha pos pins s σ H _ I h) fun us s1⟨vs,H1,I1,r1,q1⟩=>?_) (by rw[hs,hs2]) (by rw[hs2];rfl)))
 obtain⟨l1,l2,xs,ys,rfl,hq1,hq2,q⟩:=q1
 obtain⟨u1,u2,rfl,r1,r2⟩:=Vals.two r1
 cases r1
 cases r2
 obtain⟨it1,rv1,p1,z1⟩:=I1.tuple hq1
 obtain⟨it2,rv2,p2,z2⟩:=I1.tuple hq2
 have ll1:l1<s1.heap.objs.size:=by obtain⟨o,e,_⟩:=p1;exact aq8 e
 have ll2:l2<s1.heap.objs.size:=by obtain⟨o,e,_⟩:=p2;exact aq8 e
 refine callType_new F.called_zip (by decide) (F.typeCall_zip_2 _ _) (F.newCall_zip_2 _ _) (fun obj=>F.args_object_init_3 obj _ _) F.entry_zip_new (dF l1 l2 it1.toArray it2.toArray) ⟨p1,p2,?_⟩
 obtain⟨e1,e2,e3,e4,e5,e6,e7⟩:=zV8 (h:=s1.heap) (l1:=l1) (l2:=l2)
 have e8:(zN s1.heap l1 l2).objs.size-1=s1.heap.objs.size+4:=by rw[e6];rfl
 show _/\_
 rw[e8]
 refine⟨⟨_,e1,rfl⟩,wpAny_pyIter_zip e1 ?_⟩
 have D:=zap _ _ _ ll1 ll2
 refine⟨_,[s1.heap.objs.size+4,s1.heap.objs.size+2,s1.heap.objs.size+3,s1.heap.objs.size,s1.heap.objs.size+1],_,_,H1,rfl,I1.kept (t':=s1.toks) e7,qQ4 _ _ _ _ _ l1 l2 xs ys D (aq9 ll1) (aq9 (Nat.lt_succ_of_lt ll2)) (zV9 _),
  ⟨e1,e2,⟨_,_,e3⟩,e4,e5⟩,fun b hb=>?_,q⟩
 have hb':s1.heap.objs.size<=b:=qS4 _ _ hb
 exact I1.fpOk hb' (I1.hok.fresh hb')
theorem dH:typeLookup (.type "list_reverseiterator") (Str.ofString "__len__")=pure none:=by rw[typeLookup_type,builtinLookup_eq_fast];kernel_rfl
theorem qQ5:typeLookup (.type "list_reverseiterator") (Str.ofString "__length_hint__")=pure (some (.builtin "list_reverseiterator.__length_hint__")):=by rw[typeLookup_type,builtinLookup_eq_fast];kernel_rfl
section
variable {prog:Program} {w:World} {A:Around} {E:Value->Shared->Prop} {s:Shared}
theorem qQ6{r p:Addr}{i:Int}{Q:Bool->Shared->Prop}(hr:s.heap.IsRevIter r p i)(h:Q false s):wpAny (model prog w) A (Builtin.List.listLengthHint (.ref r)) Q E s:=by
 unfold Builtin.List.listLengthHint
 refine wpAny_bind (wpAny_specialOf hr.typeIs dH ?_)
 show wpAny _ _ (specialOf (Value.ref r) (Str.ofString "__length_hint__")>>=_) _ _ _
 refine wpAny_bind (wpAny_specialOf hr.typeIs qQ5 ?_)
 generalize hid:("list_reverseiterator.__length_hint__":String)=id0
 wp_delta
 rw[show splitId id0=some ("list_reverseiterator","__length_hint__")from by subst hid;decide+kernel]
 subst hid
 refine wpAny_bind (wpAny_isInstance (T:="list_reverseiterator") (b:=true) hr.typeIs (by rw[isSubtype_type];kernel_rfl) ?_)
 refine wpAny_ite_split (fun z=>absurd z (by decide)) (fun _=>?_)
 refine wpAny_ite_split (fun _=>?_) (fun z=>absurd (by decide+kernel) z)
 refine wpAny_ite_split (fun z=>absurd z (by decide+kernel)) (fun _=>wpAny_pure h)
theorem tG{items acc:Array Value}(h:ItemsOf (fun i v=>items[items.size-1-i]? =some v) acc items.size):acc.toList=items.toList.reverse:=by
 obtain⟨h1,h2⟩:=h
 apply List.ext_getElem?
 intro k
 by_cases hk:k<items.size
 ·have e1:acc[k]? =some (acc[k]'(by omega)):=Array.getElem?_eq_getElem (by omega)
  have e2:=h2 k _ e1
  rw[List.getElem?_reverse (by simpa using hk)]
  simp only[Array.length_toList,Array.getElem?_toList]
  rw[e1,e2]
 ·rw[List.getElem?_eq_none (by simp;omega),List.getElem?_eq_none (by simp;omega)]
theorem qQ7{r p:Addr}{items:Array Value}{Q:Value->Shared->Prop}(hh:A.handled=none)(hr:s.heap.IsRevIter r p ((items.size:Int)-1))(hl:s.heap.IsList p items)(ne:p≠r)(hz:items.size<=sizeLine)
  (go:∀g tk acc c,(∀b o,b≠r->s.heap.get? b=some o->g.get? b=some o)->g.get? s.heap.objs.size=some {cls:=.type "list",data:=.seq acc c}->acc.toList=items.toList.reverse->Q (.ref s.heap.objs.size) {s with heap:=g,toks:=tk}):
  wpAny (model prog w) A (call (.type "list") [.ref r]) Q E s:=by
 refine callType_codes (Q₁:=fun obj s₁=>obj= .ref s.heap.objs.size/\s₁={s with heap:=s.heap.push {cls:=.type "list",data:=.seq #[]}}) F.called_list (F.typeCall_list_1 _) F.entry_list_init (code_list_new _ ⟨rfl,rfl⟩) fun obj s₁ h₁=>?_
 obtain⟨rfl,rfl⟩:=h₁
 have S0:(s.heap.push {cls:=.type "list",data:=.seq #[]}).get? s.heap.objs.size=some {cls:=.type "list",data:=.seq #[]}:=Heap.get?_push_size _ rfl
 have rl:r<s.heap.objs.size:=by obtain⟨o,e,_⟩:=hr;exact aq8 e
 have pl:p<s.heap.objs.size:=by obtain⟨o,e,_⟩:=hl;exact aq8 e
 refine⟨⟨_,S0,rfl⟩,F.args_list_init_2 _ _,?_⟩
 show wpAny _ _ (do let old<-Builtin.List.listItems (.ref s.heap.objs.size);Builtin.List.listUpdate (.ref s.heap.objs.size) (fun _=> #[]);letGo old.toList.reverse;Builtin.List.listExtendWith (.ref s.heap.objs.size) (.ref r) .none) _ _ _
 refine wpAny_bind ?_
 unfold Builtin.List.listItems
 refine wpAny_bind (wpAny_seqItems S0 rfl (wpAny_pure ?_))
 show wpAny _ _ (updateSeq s.heap.objs.size (fun _=> #[])>>=fun _=>letGo (#[]:Array Value).toList.reverse>>=fun _=>Builtin.List.listExtendWith (.ref s.heap.objs.size) (.ref r) .none) _ _ _
 refine wpAny_bind (wpAny_updateSeq S0 rfl ?_)
 have S1:=Heap.get?_update_self (Obj.mapSeq (fun _=>(#[]:Array Value))) S0 rfl
 have up:∀b o,s.heap.get? b=some o->((s.heap.push {cls:=.type "list",data:=.seq #[]}).update s.heap.objs.size (Obj.mapSeq (fun _=>(#[]:Array Value)))).get? b=some o:=
  fun b o e=>(Heap.get?_update_other _ _ (Ne.symm (aq9 (aq8 e)))).trans (Heap.get?_push_of_some _ e)
 refine wpAny_bind (wpAny_letGo ?_)
 generalize ((s.heap.push {cls:=.type "list",data:=.seq #[]}).update s.heap.objs.size (Obj.mapSeq (fun _=>(#[]:Array Value))))=g0 at S1 up
 have r0:g0.IsRevIter r p ((items.size:Int)-1):=hr.at fun o e=>up r o e
 have l0:g0.IsList p items:=hl.at fun o e=>up p o e
 unfold Builtin.List.listExtendWith
 refine wpAny_bind (wpAny_typeOf (T:="list_reverseiterator") (s:={s with heap:=g0}) (Heap.IsRevIter.typeIs (s:={s with heap:=g0}) r0) ?_)
 have c1:Builtin.List.listSameRef (.ref s.heap.objs.size) (.ref r)=false:=by simp[Builtin.List.listSameRef];exact Ne.symm (aq9 rl)
 have c2:(Value.type "list_reverseiterator"==Value.type "list")=false:=by decide
 have c3:(Value.type "list_reverseiterator"==Value.type "tuple")=false:=by decide
 simp only[c1,c2,c3,Bool.or_false,Bool.false_eq_true,if_false]
 refine wpAny_bind (wpAny_pyIter_revIter (s:={s with heap:=g0}) r0 (wpAny_bind (wpAny_holding (qQ6 (s:={s with heap:=g0}) r0 ?_))))
 refine wpAny_ite_split (fun z=>absurd z (by decide+kernel)) (fun _=>?_)
 have W:=(Walks.listRev (prog:=prog) (w:=w) (A:=A.in1.in1) hh r p ne items).toS
 refine wpAny_pure ⟨plainId_quiet F.plain_extend_loop _,codeAny_extend_loopS W hz _ (by simp only[List.mem_cons,List.not_mem_nil,or_false,not_or];exact⟨Ne.symm (aq9 rl),Ne.symm (aq9 pl)⟩) _ items.size 0 _ #[] _ rfl (Nat.zero_le _) ⟨Nat.zero_le _,by simpa using r0,l0⟩ S1 (ItemsOf.nil _) fun s' acc c hm hS ha=>?_⟩
 rw[Moved.eq_with hm]
 refine⟨rfl,go s'.heap s'.toks acc c (fun b o hb e=>hm.heap b o ?_ (up b o e)) hS (tG ha)⟩
 have :=aq8 e
 simp only[List.mem_cons,List.not_mem_nil,or_false,not_or]
 exact⟨aq9 this,hb⟩
end
inductive qB5(K:Fg)(Q:VK)(xs:List V)(H1:Hp):Prop
 |mk (p:_) (ys:_) (a_0:xs=[.ref p]) (a_1:zH K H1 p ys) (a_2:∀l,H1 l=none->Q (.ref l) (upd H1 l (.lst ys.reverse))):qB5 K Q xs H1
def zC7(K:Fg)(t:TA):TE:=fun σ H Q=>t σ H fun xs H1=>qB5 K Q xs H1
theorem qS6{X:Cx}{e:Expr}{t:TA}{p1 p2 q1 q2:Pos}(hc:X.calm=true)(hg:Gl X "list")(hm:X.mg "list"=none)(hg':Gl X "reversed")(hm':X.mg "reversed"=none)(ha:PA X [e] t)(hs:starEach [e] X.env=[(false,eval e X.env)]:=by rfl)
  (hs':starEach [Expr.Call (.Name "reversed" q1) [e] [] q2] X.env=[(false,eval (Expr.Call (.Name "reversed" q1) [e] [] q2) X.env)]:=by rfl):
  PE X (.Call (.Name "list" p1) [.Call (.Name "reversed" q1) [e] [] q2] [] p2) (zC7 X.K t):=by
 intro pins s σ H Q I h
 refine wpAny_Call_Name_kw (vZ I hg hm PyProof.Rows.boot_list (PyProof.Rows.callWith_type1 ?_ hs' rfl))
 rw[hs']
 show wpAny _ _ (spliced ((false,eval (Expr.Call (.Name "reversed" q1) [e] [] q2) X.env)::backTo p2 [])) _ _ s
 refine Calls.spliced_cons ?_
 refine wpAny_Call_Name_kw (vZ I hg' hm' boot_reversed (PyProof.Rows.callWith_type1 (thn (ha q2 pins s σ H _ I h) fun us s1⟨vs,H1,I1,r1,q⟩=>?_) hs rfl))
 obtain⟨p,ys,rfl,hq,q⟩:=q
 obtain⟨u,rfl,ru⟩:=vals1 r1
 cases ru
 obtain⟨its,rv,pl,hz⟩:=I1.list hq
 have hl:=rv.length
 refine call_reversed_list pl.isList ?_
 refine Calls.spliced_nil ?_
 have I2:Inv X pins σ H1 {s1 with heap:=s1.heap.push (revObj p ((its.toArray.size:Int)-1))}:=I1.kept (t':=s1.toks) fun b o e=>Heap.get?_push_of_some _ e
 have pl2:=pl.isList
 have lp:p<s1.heap.objs.size:=by obtain⟨o,e,_⟩:=pl2;exact aq8 e
 have f2:vL X pins H1 s1.heap.objs.size:=I1.fpOk (aq7 _) (I1.hok.fresh (aq7 _))
 have sz:(s1.heap.push (revObj p ((its.toArray.size:Int)-1))).objs.size=s1.heap.objs.size+1:=Heap.size_push ..
 refine qQ7 (s:={s1 with heap:=s1.heap.push (revObj p ((its.toArray.size:Int)-1))}) (r:=s1.heap.objs.size) (p:=p) (items:=its.toArray) (I1.ok.hd hc) ⟨_,Heap.get?_push_size _ rfl,rfl,rfl⟩ (pl2.push _) (aq9 lp) (by simp;omega) fun g tk acc c k1 k2 k3=>?_
 have hn:H1 (s1.heap.push (revObj p ((its.toArray.size:Int)-1))).objs.size=none:=I1.hok.fresh (by rw[sz];omega)
 have I3:Inv X pins σ (upd H1 (s1.heap.push (revObj p ((its.toArray.size:Int)-1))).objs.size (.lst ys.reverse)) {s1 with heap:=(s1.heap.push (revObj p ((its.toArray.size:Int)-1))).push {cls:=.type "list",data:=.seq acc c},toks:=tk}:=by
  refine I2.laid (t':=tk) (fun b u e=>Heap.get?_push_of_some _ e) (aq7 _) ⟨by simpa using hz,its.reverse,c,?_,?_⟩
  ·exact rv.reverse
  ·have e:its.reverse.toArray=acc:=by
    apply Array.toList_inj.mp
    rw[k3]
   rw[e]
   exact Heap.get?_push_size _ rfl
 refine⟨.ref _,_,Inv.turnedL (s:={s1 with heap:=(s1.heap.push (revObj p ((its.toArray.size:Int)-1))).push {cls:=.type "list",data:=.seq acc c},toks:=tk}) (ch:=[s1.heap.objs.size]) (t':=tk) I3 (fun b o hb e=>?_) (fun b hb=>?_),rfl,q _ hn⟩
 ·have hb':b≠s1.heap.objs.size:=fun z=>hb (by simp[z])
  rcases Heap.get?_push_cases e with⟨rfl,rfl⟩|e
  ·exact k2
  ·exact k1 b o hb' e
 ·rw[List.mem_singleton.mp hb]
  obtain⟨f0,fr⟩:=f2
  exact⟨by rw[qH (by rw[sz];exact aq9 (Nat.lt_succ_self _))];exact f0,fr⟩
theorem uA(f:Str)(v x:V)(r:List (Str×V)):xM f v ((f,x)::r)=(f,v)::r:=by
 show(if f=f then(f,v)::r else(f,x)::xM f v r)=_
 rw[if_pos rfl]
theorem jM{f g:Str}(h:¬g=f)(v x:V)(r:List (Str×V)):xM f v ((g,x)::r)=(g,x)::xM f v r:=by
 show(if g=f then(g,v)::r else(g,x)::xM f v r)=_
 rw[if_neg h]
theorem kZ(f:Str)(v:V)(r:List (Str×V)):((f,v)::r).lookup f=some v:=by simp[List.lookup_cons]
theorem zW{f g:Str}(h:¬g=f)(v:V)(r:List (Str×V)):((f,v)::r).lookup g=r.lookup g:=by
 rw[List.lookup_cons,beq_eq_false_iff_ne.mpr h]
section
variable {X:Cx} {e:Expr}
end
structure Grow(H H':Hp):Prop where
 same:Same H H'
 none:∀b,H' b=Option.none->H b=Option.none
theorem Grow.refl(H:Hp):Grow H H:=⟨Same.refl H,fun _ h=>h⟩
theorem Grow.trans{H H1 H2:Hp}(a:Grow H H1)(b:Grow H1 H2):Grow H H2:=⟨a.same.trans b.same,fun c h=>a.none c (b.none c h)⟩
theorem Grow.put{H:Hp}{a:Addr}{o:HO}(h:H a=Option.none):Grow H (upd H a o):=⟨fun b u e=>by rw[qH (zV e h)];exact e,fun b e=>by
 by_cases z:b=a
 ·subst z;exact h
 ·rw[qH z]at e;exact e⟩
theorem Grow.set{H H4:Hp}{D:Addr}{o:HO}(g:Grow H H4)(hD:H D=Option.none):Grow H (upd H4 D o):=
 ⟨fun b u e=>by rw[qH (zV e hD)];exact g.same b u e,fun b e=>by
  by_cases z:b=D
  ·subst z;exact hD
  ·rw[qH z]at e;exact g.none b e⟩
theorem Room.u2{k:Nat}{A:Around}(r:Room k A):A.units+2<cLine:=by have :=r.un;omega
def qC3(o:Obj)(x qual:Str)(st:Stmt)(dV cdv:Value)(fd:FuncData):Prop:=
 ∃(oc:Value)(od:Option Addr)(kV doc pm:Value)(an:Option Addr)(ct:Value)(osl:Array (Option Value)),o=⟨oc,od,.func fd,osl⟩/\fd=PySem.W.fnOf x qual (lY st) (kL st) (qU st) dV kV doc pm an cdv ct
theorem qC3.d{K:Fg}{f:Addr}{o:Obj}{x qual:Str}{st:Stmt}{dV cdv:Value}{fd:FuncData}(n:qC3 o x qual st dV cdv fd)(l:K.lookup f=some o)(c:PySem.W.codeIn K cdv qual=true)(k:PySem.W.keepIn K (.ref f)=true):zZ K x qual st dV f fd:=by
 obtain⟨oc,od,kV,doc,pm,an,ct,osl,rfl,e⟩:=n
 exact⟨⟨oc,od,kV,doc,pm,an,cdv,ct,osl,e,l,c⟩,k⟩
def lC(o:Obj)(D:List (Str×V)):Prop:=o.ExactDict/\∃es ep,o.data= .dict es ep/\PyProof.Rows.KTD.Rows zU es.toList D
theorem lC.s{K:Fg}{a:Addr}{o:Obj}{D:List (Str×V)}(h:lC o D)(l:K.lookup a=some o)(n:(a==sysModules)=false):uR K a D:=let⟨c,es,ep,d,r⟩:=h;⟨n,o,es,ep,l,c,d,r⟩
theorem qQ8{X:Cx}{scope:Scope}{own:List Str}{y:Str}{c:Addr}{i:Nat}(h1:closureFor scope X.env=pure [(y,c)])(h2:∀z∈scope.names,z.2≠ .cell)(h3:scope.kind= .function)(h4:∀z∈scope.names,z.2= .local->scope.names.lookup z.1=some .local)
  (hc:X.env.cells.lookup y=some c)(hf:∀z∈scope.names,z.2= .free->z.1=y)(hy:scope.names.lookup y=some .free)(ho:X.env.kindOf y=some .cell\/X.env.kindOf y=some .free)(hi:X.N[i]? =some y)(hnd:(own++[y]).Nodup):oP X scope [(y,c)] own [y] [i]:=by
 refine⟨h1,h2,h3,h4,fun z d h=>?_,fun z h=>?_,hnd,fun j z h=>?_,rfl,fun z h=>?_⟩
 ·by_cases e:z=y
  ·subst e
   simp only[List.lookup_cons,beq_self_eq_true]at h
   cases h;exact hc
  ·simp only[List.lookup_cons,beq_eq_false_iff_ne.mpr e]at h
   cases h
 ·have e:z=y:=hf (z,.free) (PySem.mem_of_lookup h) rfl
  subst e
  exact⟨c,by simp[List.lookup_cons]⟩
 ·cases j with
  |zero=>
   have e:y=z:=by simpa using h
   subst e
   exact⟨i,rfl,hi⟩
  |succ j=>simp at h
 ·have e:z=y:=by simpa using h
  subst e
  exact⟨hy,ho⟩
theorem zVq{X:Cx}{scope:Scope}{own:List Str}{x y:Str}{c d:Addr}{i j:Nat}(hne:¬y=x)(h1:closureFor scope X.env=pure [(x,c),(y,d)])(h2:∀z∈scope.names,z.2≠ .cell)(h3:scope.kind= .function)(h4:∀z∈scope.names,z.2= .local->scope.names.lookup z.1=some .local)
  (hc:X.env.cells.lookup x=some c)(hd:X.env.cells.lookup y=some d)(hf:∀z∈scope.names,z.2= .free->z.1=x\/z.1=y)(hx:scope.names.lookup x=some .free)(hy:scope.names.lookup y=some .free)
  (ox:X.env.kindOf x=some .cell\/X.env.kindOf x=some .free)(oy:X.env.kindOf y=some .cell\/X.env.kindOf y=some .free)(hi:X.N[i]? =some x)(hj:X.N[j]? =some y)(hnd:(own++[x,y]).Nodup):oP X scope [(x,c),(y,d)] own [x,y] [i,j]:=by
 refine⟨h1,h2,h3,h4,fun z e h=>?_,fun z h=>?_,hnd,fun k z h=>?_,rfl,fun z h=>?_⟩
 ·by_cases e1:z=x
  ·subst e1
   simp only[List.lookup_cons,beq_self_eq_true]at h
   cases h;exact hc
  ·simp only[List.lookup_cons,beq_eq_false_iff_ne.mpr e1]at h
   by_cases e2:z=y
   ·subst e2
    simp only[beq_self_eq_true]at h
    cases h;exact hd
   ·simp only[beq_eq_false_iff_ne.mpr e2]at h
    cases h
 ·rcases hf (z,.free) (PySem.mem_of_lookup h) rfl with e|e
  ·have e':z=x:=e
   subst e'
   exact⟨c,by simp[List.lookup_cons]⟩
  ·have e':z=y:=e
   subst e'
   exact⟨d,by rw[List.lookup_cons,beq_eq_false_iff_ne.mpr hne,List.lookup_cons,beq_self_eq_true]⟩
 ·match k,h with
  |0,h=>
   have e:x=z:=by simpa using h
   subst e
   exact⟨i,rfl,hi⟩
  |1,h=>
   have e:y=z:=by simpa using h
   subst e
   exact⟨j,rfl,hj⟩
  |k+2,h=>simp at h
 ·rcases(by simpa using h:z=x\/z=y)with e|e
  ·subst e;exact⟨hx,ox⟩
  ·subst e;exact⟨hy,oy⟩
theorem mC{K:Fg}{l:Addr}{xs:List V}{g:TG}{tb:TS}{D:Ends}{σ:St}{H:Hp}(Pv:Nat->St->Hp->Prop)(h0:Pv 0 σ H)(hl:∀i σ H,i<=xs.length->Pv i σ H->zH K H l xs)
  (hs:∀i x T σ H,xs[i]? =some x->Pv i σ H->H T=none->g (.ref T) σ (upd H T (.tup [.int i,x])) fun σ2 H2=>tb {D with nx:=Pv (i+1),ct:=Pv (i+1),bk:=D.nx} σ2 H2)(hd:∀σ H,Pv xs.length σ H->D.nx σ H):
  ∃W:Nat->Nat->St->Hp->Prop,(∃m,W 0 m σ H)/\∀i m σ H,W i m σ H->
   ((Ite K l).stop i H/\D.nx σ H)\/((Ite K l).go i H/\∃N:St->Hp->Prop,(∀σ' H',N σ' H'->∃m',m'<m/\W (i+1) m' σ' H')/\∀x H',(Ite K l).yld i H x H'->g x σ H' fun σ2 H2=>tb {D with nx:=N,ct:=N,bk:=D.nx} σ2 H2):=by
 refine⟨fun i m σ H=>m=xs.length-i/\i<=xs.length/\Pv i σ H,⟨xs.length,by simp,Nat.zero_le _,h0⟩,?_⟩
 rintro i m σ H ⟨rfl,hi,p⟩
 have q:=hl i σ H hi p
 by_cases hlt:i<xs.length
 ·refine .inr ⟨⟨xs,xs[i],q,List.getElem?_eq_getElem hlt⟩,Pv (i+1),fun σ' H' p'=>⟨xs.length-(i+1),by omega,rfl,hlt,p'⟩,fun x H' y=>?_⟩
  obtain⟨T,z,hT,rfl,rfl,hz⟩:=y
  exact hs i z T σ H (hz xs q) p hT
 ·have e:i=xs.length:=by omega
  subst e
  exact .inl ⟨⟨xs,q,aq7 _⟩,hd σ H p⟩
def behind(ss:List Str)(xs:List V)(t:Str):List V:=((ss.zip xs).filter fun p=>decide (p.1=t)).map (·.2)
theorem qS7{K:Fg}{a b:Addr}{ss:List Str}{xs:List V}{t:Str}{σ:St}{i0:Nat}{H:Hp}{D:Addr}{R:Hp->Prop}(hσ:σ.getD i0 none=some (.str t))(h1:zO K H a (ss.map V.str))(h2:zO K H b xs)(hn:xs.length<=1000)(hD:H D=none)
  (q:∀H',Grow H H'->H' D=some (.lst (behind ss xs t))->R H'):
  ∃W:Nat->Nat->List V->Hp->Prop,(∃m,W 0 m [] (upd H D (.lst [])))/\∀i m ys H2,W i m ys H2->
   ((Itz K a b (ss.map V.str) xs).stop i H2/\R H2)\/((Itz K a b (ss.map V.str) xs).go i H2/\∀(o:List (Option V))v H3,o.length=2->(Itz K a b (ss.map V.str) xs).yld i H2 v H3->qPj K 2 (gP (xD 0) (gP (xD 1) qPz)) v (xE [i0] o σ) H3 fun σ2 H4=>(∃o':List (Option V),σ2=xE [i0] o' σ/\o'.length=2)/\
    ifT (some (gR (bC rEq (jY 0) (jY 2)))) σ2 H4 fun b H5=>if b=true then jY 1 σ2 H5 fun y H6=>H6 D=some (.lst ys)/\ys.length<sizeLine/\∃m',m'<m/\W (i+1) m' (ys++[y]) (upd H6 D (.lst (ys++[y])))else∃m',m'<m/\W (i+1) m' ys H5):=by
 have hz:(ss.zip xs).length=min ss.length xs.length:=List.length_zip
 refine⟨fun i m ys H2=>i<=(ss.zip xs).length/\m=(ss.zip xs).length-i/\ys=(((ss.zip xs).take i).filter fun p=>decide (p.1=t)).map (·.2)/\H2 D=some (.lst ys)/\Grow H H2,⟨_,Nat.zero_le _,rfl,rfl,qX,Grow.put hD⟩,?_⟩
 rintro i m ys H2 ⟨hi,rfl,rfl,hd2,g2⟩
 have a2:=zO.mono g2.same h1
 have b2:=zO.mono g2.same h2
 by_cases hl:i<(ss.zip xs).length
 ·have hs:i<ss.length:=by omega
  have hx:i<xs.length:=by omega
  refine .inr ⟨⟨a2,b2,by rw[List.length_map];exact hs,hx⟩,fun o v H3 ho hy=>?_⟩
  obtain⟨T,x,y,hT,rfl,rfl,ex,ey⟩:=hy
  have ez:(ss.zip xs)[i]? =some (ss[i],y):=by
   rw[List.getElem?_zip_eq_some]
   exact⟨List.getElem?_eq_getElem hs,ey⟩
  have ex':x= .str ss[i]:=by
   rw[List.getElem?_map,List.getElem?_eq_getElem hs]at ex
   exact(Option.some.inj ex).symm
  subst ex'
  have tD:D≠T:=zV hd2 hT
  have g3:Grow H2 (upd H2 T (.tup [.str ss[i],y])):=Grow.put hT
  have lenb:((((ss.zip xs).take i).filter fun p=>decide (p.1=t)).map (·.2)).length<=i:=by
   rw[List.length_map]
   exact Nat.le_trans (List.length_filter_le _ _) (by rw[List.length_take];omega)
  match o,ho with
  |[_,_],_=>
   refine⟨T,_,rfl,zO.of qX,rfl,_,_,rfl,_,_,rfl,rfl,⟨[some (.str ss[i]),some y],rfl,rfl⟩,?_⟩
   refine⟨_,rfl,.str t,?_,rfl,_,rfl,?_⟩
   ·show some (σ.getD i0 none)=_
    rw[hσ]
   have e3:decide (V.str ss[i]=V.str t)=decide (ss[i]=t):=by rw[Bool.eq_iff_iff];simp
   rw[e3]
   have tk:(ss.zip xs).take (i+1)=(ss.zip xs).take i++[(ss[i],y)]:=by rw[List.take_add_one,ez];rfl
   refine ite2 (fun hc=>?_) (fun hc=>?_)
   ·refine⟨y,rfl,(qH tD).trans hd2,?_,_,?_,hl,rfl,?_,qX,(g2.trans g3).set hD⟩
    ·rw[sizeLine_eq];omega
    ·omega
    ·rw[tk,List.filter_append,List.map_append]
     simp[of_decide_eq_true hc]
   ·refine⟨_,?_,hl,rfl,?_,(qH tD).trans hd2,g2.trans g3⟩
    ·omega
    ·rw[tk,List.filter_append,List.map_append]
     have hc':¬ss[i]=t:=fun z=>hc (decide_eq_true z)
     simp[hc']
 ·have e:i=(ss.zip xs).length:=by omega
  subst e
  refine .inl ⟨⟨a2,b2,?_⟩,q _ g2 ?_⟩
  ·rw[List.length_map];omega
  ·rw[hd2,List.take_of_length_le (aq7 _)]
   rfl
theorem cut1(x:V)(r:List V):oB (x::r) (some 1) none=r:=by
 unfold oB
 have e1:HT.sIx (x::r).length 0 (some 1)=1:=by
  show(if(1:Int)<0 then((1:Int)+((x::r).length:Int)).toNat else min (1:Int).toNat (x::r).length)=1
  rw[if_neg (by decide)]
  show min 1 (r.length+1)=1
  omega
 rw[e1,HT.sIx_none]
 simp
theorem qQ9(x:V)(r:List V):¬(HT.sIx (x::r).length 0 (some 1)=0/\HT.sIx (x::r).length (x::r).length none=(x::r).length):=by
 intro h
 have e1:HT.sIx (x::r).length 0 (some 1)=1:=by
  show(if(1:Int)<0 then((1:Int)+((x::r).length:Int)).toNat else min (1:Int).toNat (x::r).length)=1
  rw[if_neg (by decide)]
  show min 1 (r.length+1)=1
  omega
 rw[e1]at h
 cases h.1
theorem qS8{X:Cx}{scope:Scope}{cl:List (Str×Addr)}{own rest:List Str}{ix:List Nat}{elt iter tg c:Expr}{pos:Pos}{wi:TI}{te:TE}{g:TG}{tc:TT}(ok:oP X scope cl own rest ix)(hc:X.calm=true)(hi:PI X tg iter wi)
  (he:∀(C:Addr)(s:Shared)(H:Hp)(fp:List Addr)(pins:List (Addr×Obj)),PE (kD X scope cl (own++rest) C s H fp pins) elt te)(hg:∀(C:Addr)(s:Shared)(H:Hp)(fp:List Addr)(pins:List (Addr×Obj)),PG (kD X scope cl (own++rest) C s H fp pins) tg g)
  (hif:∀(C:Addr)(s:Shared)(H:Hp)(fp:List Addr)(pins:List (Addr×Obj)),PT (kD X scope cl (own++rest) C s H fp pins) c tc)
  (hs:∀x,foldedSetIterable iter X.env x=pure x:=by intro x;rfl):PE X (.ListComp elt [⟨tg,iter,[c],0⟩] scope pos) (eA wi g (some tc) te own.length ix):=qQ0 (tc:=some tc) ok hc hi he hg hif hs
theorem qS9{X:Cx}{scope:Scope}{cl:List (Str×Addr)}{own rest:List Str}{ix:List Nat}{elt iter tg:Expr}{pos:Pos}{wi:TI}{te:TE}{g:TG}(ok:oP X scope cl own rest ix)(hc:X.calm=true)(hi:PI X tg iter wi)
  (he:∀(C:Addr)(s:Shared)(H:Hp)(fp:List Addr)(pins:List (Addr×Obj)),PE (kD X scope cl (own++rest) C s H fp pins) elt te)(hg:∀(C:Addr)(s:Shared)(H:Hp)(fp:List Addr)(pins:List (Addr×Obj)),PG (kD X scope cl (own++rest) C s H fp pins) tg g)
  (hs:∀x,foldedSetIterable iter X.env x=pure x:=by intro x;rfl):PE X (.ListComp elt [⟨tg,iter,[],0⟩] scope pos) (eA wi g none te own.length ix):=qQ0 (tc:=none) ok hc hi he hg (fun _ _ _ _ _=>trivial) hs
theorem qSq{X:Cx}{n1 n2:Str}{p1 p2 pos:Pos}{k:Nat}(K:Fg)(hK:X.K=K)(hc:X.calm=true)(hN:X.N.Nodup)(h0:X.N[0]? =some n1)(h1:X.N[1]? =some n2)(x1:Loc X.env.scope n1)(x2:Loc X.env.scope n2)(l0:X.env.scope.names.lookup n1=some .local)(l1:X.env.scope.names.lookup n2=some .local):
  PG X (.Tuple [.Name n1 p1,.Name n2 p2] k pos) (qPj K 2 (gP (xD 0) (gP (xD 1) qPz))):=by
 subst hK
 exact wO hc (jL (zA (i:=0) hN h0 x1 (Or.inr l0)) (jL (zA (i:=1) hN h1 x2 (Or.inr l1)) vJ))
section
variable {X:Cx} {scope:Scope} {cl:List (Str×Addr)} {own rest:List Str} {ix:List Nat}
theorem qSz{Nb:List Str}{σb:St}{pins:List (Addr×Obj)}{σ:St}{H H':Hp}{s s5:Shared}{fp:List Addr}(I:Inv X pins σ H s)(I5:Inv (kD X scope cl Nb s.heap.objs.size s H fp pins) [] σb H' s5)(hf:∀b∈fp,vL X pins H b){h'':Heap}(hs:Heap.SameBut s.heap.objs.size s5.heap h''):
  Inv X pins σ H' {s5 with heap:=h''}:=by
 have B:=I5.base
 have ne:∀b u,s.heap.get? b=some u->b≠s.heap.objs.size:=fun b u e=>aq9 (aq8 e)
 have un:Un (frs X.stack) fp H H' s.heap h'':=
  ⟨fun b u e n hx hy=>(hs.2 b (ne b u e)).trans (B.keep b u e n hx hy),fun b u e n hx hy=>(let⟨sl,z⟩:=B.slot b u e n hx hy;⟨sl,(hs.2 b (ne b u e)).trans z⟩),B.free,
   fun b u e hy=>(let⟨u',z⟩:=B.there b u e hy;⟨u',(hs.2 b (ne b u e)).trans z⟩),B.tups,B.frzs,B.tbls⟩
 have hok:HOk X.prog X.w H' h'':=fun b u e=>(I5.hok b u e).stay (fun c v hc' z=>(hs.2 c (fun zz=>by
  have fz:H' s.heap.objs.size=none:=I5.free
  rcases hc' with y|y
  ·rw[<-y,zz,fz]at e;cases e
  ·rw[zz,fz]at y;cases y)).trans z) (fun _ z=>z) fun _ _ z=>z
 refine I.call' (s':={s5 with heap:=h''}) (ch:=fp) I5.os un hok I5.bare fun b hm=>?_
 obtain⟨g0,g1,g2,g3,g4,g5⟩:=hf b hm
 exact⟨g3,g1,g4,g5⟩
theorem qQq{elt iter tg:Expr}{ifs:List Expr}{pos:Pos}{te:TE}{g:TG}{tc:Option TT}{pins:List (Addr×Obj)}{σ:St}{H:Hp}{s s4:Shared}{fp:List Addr}{it D:Addr}{tn:Nat->Heap->Prop}{J:It}{Q:VK}{RR:Result->Shared->Prop}{W:Nat->Nat->List V->Hp->Prop}{m0:Nat}
  (ok:oP X scope cl own rest ix)(hc:X.calm=true)(he:∀(C:Addr)(s:Shared)(H:Hp)(fp:List Addr)(pins:List (Addr×Obj)),PE (kD X scope cl (own++rest) C s H fp pins) elt te)(hg:∀(C:Addr)(s:Shared)(H:Hp)(fp:List Addr)(pins:List (Addr×Obj)),PG (kD X scope cl (own++rest) C s H fp pins) tg g)
  (hif:∀(C:Addr)(s:Shared)(H:Hp)(fp:List Addr)(pins:List (Addr×Obj)),PIf (kD X scope cl (own++rest) C s H fp pins) ifs tc)
  (I:Inv X pins σ H s)(T:Turn X.prog X.w X.K tg J fp it tn)(hf:∀b∈fp,vL X pins H b)(hb:∀b∈fp,b<s.heap.objs.size)
  (J4:Inv (kD X scope cl (own++rest) s.heap.objs.size s H fp pins) [] (xE ix (List.replicate own.length none) σ) H s4)(st:tn 0 s4.heap)(w0:W 0 m0 [] H)
  (fin:∀f H' s5 o,o.length=own.length->Inv (kD X scope cl (own++rest) s.heap.objs.size s H fp pins) [] (xE ix o σ) H' s5->Q (.ref D) H'->RR (.ok f) s5)
  (turn:∀i m ys H2,W i m ys H2->(J.stop i H2/\Q (.ref D) H2)\/(J.go i H2/\∀(o:List (Option V))v H3,o.length=own.length->J.yld i H2 v H3->g v (xE ix o σ) H3 fun σ2 H4=>(∃o':List (Option V),σ2=xE ix o' σ/\o'.length=own.length)/\
   ifT tc σ2 H4 fun b H5=>if b=true then te σ2 H5 fun y H6=>H6 D=some (.lst ys)/\ys.length<sizeLine/\∃m',m'<m/\W (i+1) m' (ys++[y]) (upd H6 D (.lst (ys++[y])))else∃m',m'<m/\W (i+1) m' ys H5)):
  codeAny (model X.prog X.w) X.A (.compLoop (.ListComp elt [⟨tg,iter,ifs,0⟩] scope pos) 0 (.ref it) (.ref D) (compEnvC scope cl s.heap.objs.size X.env)) RR s4:=by
 have stat:∀{H':Hp},(∀b∈fp,H' b=none)->∀b∈fp,vL (kD X scope cl (own++rest) s.heap.objs.size s H fp pins) [] H' b:=fun hn b hm=>by
  obtain⟨g0,g1,g2,g3,g4,g5⟩:=hf b hm
  refine⟨hn b hm,aq9 (hb b hm),fun z=>?_,.inl hm,fun y c h=>g4 y c (ok.cls y c h),fun p hp=>g5 p (by simpa[kD]using hp)⟩
  rcases List.mem_cons.mp (I.stkSub b z)with z|z
  ·exact g1 z
  ·exact g2 z
 refine codeAny_loop rfl (fun n s'=>∃i ys o H',o.length=own.length/\Inv (kD X scope cl (own++rest) s.heap.objs.size s H fp pins) [] (xE ix o σ) H' s'/\tn i s'.heap/\(∀b∈fp,H' b=none)/\W i n ys H') (fun n s' hI=>?_) m0 ⟨0,[],List.replicate own.length none,H,by simp,J4,st,fun b hm=>(hf b hm).1,w0⟩
 obtain⟨i,ys,o,H',ho,I',st',fr',w'⟩:=hI
 show wpAny _ _ ((compTurn (.ListComp elt [⟨tg,iter,ifs,0⟩] scope pos) 0 (.ref it) (.ref D) (compEnvC scope cl s.heap.objs.size X.env)).onRaise (fun x=>do noteFrame x (compEnvC scope cl s.heap.objs.size X.env);theTreesLotGoes x)) _ _ s'
 refine wpAny_noted ?_
 rw[compTurn_list]
 refine wpAny_bind (wpAny_standAt (wpAny_bind ?_))
 rcases turn i n ys H' w' with⟨stop,q⟩|⟨go,step⟩
 ·refine thn (T.done (kD X scope cl (own++rest) s.heap.objs.size s H fp pins) rfl rfl rfl hc i [] s' _ H' _ I' (stat fr') st' stop) fun r s5⟨hr,I5⟩=>?_
  subst hr
  exact wpAny_pure (fin _ H' s5 o ho I5 q)
 ·refine thn (T.item (kD X scope cl (own++rest) s.heap.objs.size s H fp pins) rfl rfl rfl hc i [] s' _ H' _ I' (stat fr') st' go) fun r s5⟨u,hr,h5⟩=>?_
  subst hr
  refine wpAny_bind (thn h5 fun _ s6⟨xv,H6,I6,r6,y6,st6,fr6⟩=>?_)
  have I6':=I6.pinned (stat fr6) (T.obj _ _ st6)
  refine wpAny_bind (wpAny_mono (hg _ _ _ _ _ _ s6 (xE ix o σ) H6 xv u _ I6' r6 (step o xv H6 ho y6)) (fun _ s7⟨σ7,H7,I7,⟨o',e7,ho'⟩,q7⟩=>?_) fun _ _ z=>z.elim)
  subst e7
  have again:∀{H9:Hp}{s9:Shared}{ys9:List V}{m':Nat},Inv (kD X scope cl (own++rest) s.heap.objs.size s H fp pins) ([]++yR fp s6.heap) (xE ix o' σ) H9 s9->m'<n->W (i+1) m' ys9 H9->
    ∃m,m<n/\∃i ys o H',o.length=own.length/\Inv (kD X scope cl (own++rest) s.heap.objs.size s H fp pins) [] (xE ix o σ) H' s9/\tn i s9.heap/\(∀b∈fp,H' b=none)/\W i m ys H':=fun {H9 s9 ys9 m'}I9 hm w9=>by
   refine⟨m',hm,i+1,ys9,o',H9,ho',I9.unpinned,?_,fun b hm=>?_,w9⟩
   ·exact T.keep _ _ _ st6 fun b hm ob e=>(I9.pin (b,ob) (aq11 _ (aq11 _ (xG hm e)))).1
   ·obtain⟨ob,e,d⟩:=T.obj _ _ st6 b hm
    exact(I9.pin (b,ob) (aq11 _ (aq11 _ (xG hm e)))).2.1
  refine wpAny_bind (wpAny_mono (qB4 (hif _ _ _ _ _) I7 q7) (fun b s8⟨H8,I8,q8⟩=>?_) fun _ _ z=>z.elim)
  cases b with
  |false=>
   obtain⟨m',hm',w8⟩:=(show∃m',m'<n/\W (i+1) m' ys H8 from q8)
   exact wpAny_pure ⟨rfl,again I8 hm' w8⟩
  |true=>
   refine wpAny_bind (wpAny_bind (wpAny_mono (he _ _ _ _ _ _ s8 _ _ _ I8 q8) (fun yv s9⟨y,H9,I9,r9,hD,hz,m',hm',w9⟩=>?_) fun _ _ z=>z.elim))
   refine wpAny_bind (wpAny_mono (qA (X:=kD X scope cl (own++rest) s.heap.objs.size s H fp pins) _ s9 _ H9 (.ref D) [y] (.ref D) [yv] (fun _ H10=>H10=upd H9 D (.lst (ys++[y]))) I9 rfl (.cons r9 .nil) ⟨D,ys,y,rfl,rfl,hD,hz,rfl⟩) (fun _ s10⟨_,H10,I10,_,e10⟩=>?_) fun _ _ z=>z.elim)
   subst e10
   exact wpAny_pure (wpAny_pure ⟨rfl,again I10 hm' w9⟩)
theorem qQz{elt iter tg:Expr}{ifs:List Expr}{pos spos py:Pos}{wi:TI}{te:TE}{g:TG}{tc:Option TT}{i:Nat}{x:Str}(hN:X.N.Nodup)(hi':X.N[i]? =some x)(hx:Loc X.env.scope x)(ok:oP X scope cl own rest ix)(hc:X.calm=true)(hi:PI X tg iter wi)
  (he:∀(C:Addr)(s:Shared)(H:Hp)(fp:List Addr)(pins:List (Addr×Obj)),PE (kD X scope cl (own++rest) C s H fp pins) elt te)(hg:∀(C:Addr)(s:Shared)(H:Hp)(fp:List Addr)(pins:List (Addr×Obj)),PG (kD X scope cl (own++rest) C s H fp pins) tg g)
  (hif:∀(C:Addr)(s:Shared)(H:Hp)(fp:List Addr)(pins:List (Addr×Obj)),PIf (kD X scope cl (own++rest) C s H fp pins) ifs tc)
  (hsw:swapsWith (.ListComp elt [⟨tg,iter,ifs,0⟩] scope pos) (some (.Name x py)) spos.line X.env=pure true)(hf:X.fn x=true\/X.env.scope.names.lookup x=some .local)
  (hs:∀x,foldedSetIterable iter X.env x=pure x:=by intro _;rfl):PS X (.Assign [.Name x py] (.ListComp elt [⟨tg,iter,ifs,0⟩] scope pos) spos) (cS (eA wi g tc te own.length ix) (xD i)):=by
 intro pins s σ H E I h
 rw[exec_Assign_Name_used _ _ _ _ hsw]
 refine wpAny_bind (wpAny_standAt (wpAny_bind ?_))
 show wpAny _ X.A (do let _<-comprehension (.ListComp elt [⟨tg,iter,ifs,0⟩] scope pos) scope X.env _ (newList []) false (eval iter X.env) (some (assign (.Name x py) X.env))) _ _ s
 refine wpAny_bind (wpAny_mono (wpAny_comprehension_free (use:=some (assign (.Name x py) X.env)) (Q:=fun _ s'=>SP X pins E .next s') rfl hs ok.clos ok.kind ok.names (thn (hi pins s σ H _ I h) fun v s1 h1=>thn h1 fun itv s2 h2=>?_)) (fun _ s' hq=>wpAny_pure (wpAny_pure hq)) fun _ _ e=>e)
 obtain⟨it,fp,tn,J,H1,e,I2,T,st2,f2,hq⟩:=h2
 subst e
 refine wpAny_newObj_type (wpAny_newFunctionEnv ok.cell (by intro y hy;simp at hy) (fun h₁ hns hsb=>?_) ok.kind)
 dsimp only at hns hsb⊢
 have na:H1 s2.heap.objs.size=none:=I2.hok.fresh (aq7 _)
 obtain⟨W,⟨m0,w0⟩,turn⟩:=hq s2.heap.objs.size na
 have I3:=I2.laid (t':=s2.toks) (o:=.lst []) (h':=s2.heap.push {cls:=.type "list",dict:=none,data:=.seq ([]:List Value).toArray}) (fun b u e=>Heap.get?_push_of_some _ e) (aq7 _) ⟨by decide,[],0,.nil,Heap.get?_push_size _ rfl⟩
 have fa:∀b∈fp,b<s2.heap.objs.size:=fun b hb=>by
  obtain⟨o,ho,_⟩:=T.obj 0 _ st2 b hb
  exact aq8 ho
 generalize hs3:({s2 with heap:=s2.heap.push {cls:=.type "list",dict:=none,data:=.seq ([]:List Value).toArray}}:Shared)=s3 at hns hsb I3⊢
 have z3:s3.heap.objs.size=s2.heap.objs.size+1:=by rw[<-hs3];exact Heap.size_push _ _
 have k3:∀b u,s2.heap.get? b=some u->s3.heap.get? b=some u:=fun b u e=>by rw[<-hs3];exact Heap.get?_push_of_some _ e
 have fa3:∀b∈fp,b<s3.heap.objs.size:=fun b hb=>by rw[z3];exact Nat.lt_succ_of_lt (fa b hb)
 have f3:∀b∈fp,vL X pins (upd H1 s2.heap.objs.size (.lst [])) b:=fun b hb=>by
  obtain⟨g0,g1⟩:=f2 b hb
  exact⟨by rw[qH (aq9 (fa b hb))];exact g0,g1⟩
 subst hs3
 have J4:=oR ok (tk:=s2.toks+([]:List (Str×Value)).length) I3 f3 fa3 hns hsb
 have st4:tn 0 h₁:=T.keep _ _ _ st2 fun b hm o e=>(hsb.2 b (aq9 (fa3 b hm))).trans (Heap.get?_push_of_some _ (k3 b o e))
 refine(fun loop=>codeAny_compStart_list loop (T.self _ 0 _ _ _ st4 loop)) (qQq (Q:=fun v H'=>xD i v σ H' E.nx) (elt:=elt) (iter:=iter) (pos:=pos) (s4:={s2 with heap:=h₁,toks:=s2.toks+([]:List (Str×Value)).length}) ok hc he hg hif I3 T f3 fa3 J4 st4 w0 (fun f H' s5 o ho I5 q=>?_) turn)
 obtain⟨m,hn,_⟩:=I5.loc
 obtain⟨oC,es,ep,hoC,rC⟩:=id hn
 have nC:H' _=none:=I5.free
 have Jx:=qSz I3 I5 f3 (h'':=s5.heap) (Heap.SameBut.refl ..)
 have fC:vL X pins H' (s2.heap.push {cls:=.type "list",dict:=none,data:=.seq ([]:List Value).toArray}).objs.size:=I3.fpOk (aq7 _) nC
 have Jp:=Jx.pinned (fp:=[(s2.heap.push {cls:=.type "list",dict:=none,data:=.seq ([]:List Value).toArray}).objs.size]) (fun b hb=>by rw[List.mem_singleton.mp hb];exact fC) (fun b hb=>by
  rw[List.mem_singleton.mp hb]
  exact⟨oC,hoC,fun v z=>by rw[rC.1]at z;cases z⟩)
 show wpAny _ X.A (assign (.Name x py) X.env (.ref s2.heap.objs.size)) _ _ s5
 refine wpAny_mono (zA (pos:=py) hN hi' hx hf _ s5 σ H' (.ref s2.heap.objs.size) (.ref s2.heap.objs.size) (fun σ6 H6=>σ6=σ.set i (some (.ref s2.heap.objs.size))/\H6=H') Jp rfl ⟨rfl,rfl⟩) (fun _ s6⟨σ6,H6,I6,e1,e2⟩=>?_) fun _ _ e=>e
 subst e1 e2
 have pC:=(I6.pin (_,oC) (aq11 _ (aq11 _ (xG (List.mem_singleton.mpr rfl) hoC)))).1
 refine⟨m,⟨oC,es,ep,pC,rC⟩,fun h' hs'=>⟨_,_,Inv.turnedL (t':=s6.toks) (ch:=[_]) I6.unpinned (fun b o hb e=>(hs'.2 b (fun z=>hb (List.mem_singleton.mpr z))).trans e) (fun b hb=>by rw[List.mem_singleton.mp hb];exact fC),q⟩⟩
theorem cK{elt iter tg:Expr}{pos spos py:Pos}{wi:TI}{te:TE}{g:TG}{i:Nat}{x:Str}(hN:X.N.Nodup)(hi':X.N[i]? =some x)(hx:Loc X.env.scope x)(ok:oP X scope cl own rest ix)(hc:X.calm=true)(hi:PI X tg iter wi)
  (he:∀(C:Addr)(s:Shared)(H:Hp)(fp:List Addr)(pins:List (Addr×Obj)),PE (kD X scope cl (own++rest) C s H fp pins) elt te)(hg:∀(C:Addr)(s:Shared)(H:Hp)(fp:List Addr)(pins:List (Addr×Obj)),PG (kD X scope cl (own++rest) C s H fp pins) tg g)
  (hsw:swapsWith (.ListComp elt [⟨tg,iter,[],0⟩] scope pos) (some (.Name x py)) spos.line X.env=pure true)(hf:X.fn x=true\/X.env.scope.names.lookup x=some .local)
  (hs:∀x,foldedSetIterable iter X.env x=pure x:=by intro _;rfl):PS X (.Assign [.Name x py] (.ListComp elt [⟨tg,iter,[],0⟩] scope pos) spos) (cS (eA wi g none te own.length ix) (xD i)):=qQz hN hi' hx ok hc hi he hg (fun _ _ _ _ _=>trivial) hsw hf hs
end
end L2
open PySem
inductive Kd where
 |int|bool
 |list (k:Kd)|pair (k l:Kd)|fn (k l:Kd)
deriving DecidableEq
namespace Kd
def dt:Kd->Dt
 | .int=>.str "int"
 | .bool=>.str "bool"
 | .list k=>.tup [.str "list",k.dt]
 | .pair k l=>.tup [.str "pair",k.dt,l.dt]
 | .fn k l=>.tup [.str "fun",k.dt,l.dt]
def deep:Kd->Nat
 | .int=>0
 | .bool=>0
 | .list k=>k.deep+1
 | .pair k l=>max k.deep l.deep+1
 | .fn k l=>max k.deep l.deep+1
def sz:Kd->Nat
 | .int=>1
 | .bool=>1
 | .list k=>k.sz+1
 | .pair k l=>k.sz+l.sz+1
 | .fn k l=>k.sz+l.sz+1
theorem deep_sz:∀k:Kd,k.deep<k.sz
 | .int=>by simp[deep,sz]
 | .bool=>by simp[deep,sz]
 | .list k=>by have :=deep_sz k;simp only[deep,sz];omega
 | .pair k l=>by have :=deep_sz k;have :=deep_sz l;simp only[deep,sz];omega
 | .fn k l=>by have :=deep_sz k;have :=deep_sz l;simp only[deep,sz];omega
theorem dep_dt:∀k:Kd,Dt.dep k.dt=k.deep
 | .int=>by simp[dt,Dt.dep,deep]
 | .bool=>by simp[dt,Dt.dep,deep]
 | .list k=>by simp[dt,Dt.dep,Dt.deps,deep,dep_dt k]
 | .pair k l=>by simp[dt,Dt.dep,Dt.deps,deep,dep_dt k,dep_dt l]
 | .fn k l=>by simp[dt,Dt.dep,Dt.deps,deep,dep_dt k,dep_dt l]
theorem zC8:(("list":Str)==("pair":Str))=false:=by decide+kernel
theorem zC9:(("pair":Str)==("list":Str))=false:=by decide+kernel
theorem zCq:(("list":Str)==("fun":Str))=false:=by decide+kernel
theorem zCz:(("fun":Str)==("list":Str))=false:=by decide+kernel
theorem zCj:(("pair":Str)==("fun":Str))=false:=by decide+kernel
theorem zL0:(("fun":Str)==("pair":Str))=false:=by decide+kernel
theorem zL1:(("int":Str)==("bool":Str))=false:=by decide+kernel
theorem zL2:(("bool":Str)==("int":Str))=false:=by decide+kernel
theorem eq_dt:∀k l:Kd,Dt.eqD k.dt l.dt=decide (k=l)
 | .int,.int=>by simp[dt,Dt.eqD]
 | .int,.bool=>by simp[dt,Dt.eqD,zL1]
 | .int,.list _=>by simp[dt,Dt.eqD]
 | .int,.pair _ _=>by simp[dt,Dt.eqD]
 | .int,.fn _ _=>by simp[dt,Dt.eqD]
 | .bool,.int=>by simp[dt,Dt.eqD,zL2]
 | .bool,.bool=>by simp[dt,Dt.eqD]
 | .bool,.list _=>by simp[dt,Dt.eqD]
 | .bool,.pair _ _=>by simp[dt,Dt.eqD]
 | .bool,.fn _ _=>by simp[dt,Dt.eqD]
 | .list _,.int=>by simp[dt,Dt.eqD]
 | .list _,.bool=>by simp[dt,Dt.eqD]
 | .list k,.list l=>by simp[dt,Dt.eqD,Dt.eqDs,eq_dt k l]
 | .list _,.pair _ _=>by simp[dt,Dt.eqD,Dt.eqDs,zC8]
 | .list _,.fn _ _=>by simp[dt,Dt.eqD,Dt.eqDs,zCq]
 | .pair _ _,.int=>by simp[dt,Dt.eqD]
 | .pair _ _,.bool=>by simp[dt,Dt.eqD]
 | .pair _ _,.list _=>by simp[dt,Dt.eqD,Dt.eqDs,zC9]
 | .pair k l,.pair k' l'=>by simp[dt,Dt.eqD,Dt.eqDs,eq_dt k k',eq_dt l l']
 | .pair _ _,.fn _ _=>by simp[dt,Dt.eqD,Dt.eqDs,zCj]
 | .fn _ _,.int=>by simp[dt,Dt.eqD]
 | .fn _ _,.bool=>by simp[dt,Dt.eqD]
 | .fn _ _,.list _=>by simp[dt,Dt.eqD,Dt.eqDs,zCz]
 | .fn _ _,.pair _ _=>by simp[dt,Dt.eqD,Dt.eqDs,zL0]
 | .fn k l,.fn k' l'=>by simp[dt,Dt.eqD,Dt.eqDs,eq_dt k k',eq_dt l l']
end Kd
inductive U1|head|tail|empty|first|second|not
deriving DecidableEq
inductive U2|cons|pair|call|plus|minus|times|over|rest|less|same|and|or
deriving DecidableEq
def U1.str:U1->Str
 | .head=>"head"| .tail=>"tail"| .empty=>"empty"| .first=>"first"| .second=>"second"| .not=>"not"
def U2.str:U2->Str
 | .cons=>"cons"| .pair=>"pair"| .call=>"call"| .plus=>"plus"| .minus=>"minus"| .times=>"times"| .over=>"over"| .rest=>"rest"| .less=>"less"| .same=>"same"| .and=>"and"| .or=>"or"
inductive Pt where
 |num (n:Int)|tru (b:Bool)|nam (x:Str)|nil (k:Kd)
 |one (u:U1) (p:Pt)|two (u:U2) (p q:Pt)|ite (p q r:Pt)
 |let_ (x:Str) (p q:Pt)|fn (x:Str) (k:Kd) (p:Pt)|rc (f x:Str) (k l:Kd) (p:Pt)
abbrev Cxt:=List (Str×Kd)
namespace Pt
def dt:Pt->Dt
 | .num n=>.tup [.str "num",.int n]
 | .tru b=>.tup [.str "truth",.bl b]
 | .nam x=>.tup [.str "name",.str x]
 | .nil k=>.tup [.str "nil",k.dt]
 | .one u p=>.tup [.str u.str,p.dt]
 | .two u p q=>.tup [.str u.str,p.dt,q.dt]
 | .ite p q r=>.tup [.str "if",p.dt,q.dt,r.dt]
 | .let_ x p q=>.tup [.str "let",.str x,p.dt,q.dt]
 | .fn x k p=>.tup [.str "fn",.str x,k.dt,p.dt]
 | .rc f x k l p=>.tup [.str "rec",.str f,.str x,k.dt,l.dt,p.dt]
def k1:U1->Kd->Option Kd
 | .head,.list k=>some k
 | .tail,.list k=>some (.list k)
 | .empty,.list _=>some .bool
 | .first,.pair k _=>some k
 | .second,.pair _ l=>some l
 | .not,.bool=>some .bool
 |_,_=>none
def k2:U2->Kd->Kd->Option Kd
 | .cons,k,.list l=>if k=l then some (.list l)else none
 | .pair,k,l=>some (.pair k l)
 | .call,.fn k l,m=>if k=m then some l else none
 | .plus,.int,.int=>some .int
 | .minus,.int,.int=>some .int
 | .times,.int,.int=>some .int
 | .over,.int,.int=>some .int
 | .rest,.int,.int=>some .int
 | .less,.int,.int=>some .bool
 | .same,.int,.int=>some .bool
 | .and,.bool,.bool=>some .bool
 | .or,.bool,.bool=>some .bool
 |_,_,_=>none
inductive Has:Cxt->Pt->Kd->Prop
 |num {Γ n}:Has Γ (.num n) .int
 |tru {Γ b}:Has Γ (.tru b) .bool
 |nam {Γ x k}:Γ.lookup x=some k->k.sz<=40->Has Γ (.nam x) k
 |nil {Γ k}:k.sz+1<=40->Has Γ (.nil k) (.list k)
 |one {Γ u p k m}:Has Γ p k->k1 u k=some m->m.sz<=40->Has Γ (.one u p) m
 |two {Γ u p q k l m}:Has Γ p k->Has Γ q l->k2 u k l=some m->m.sz<=40->Has Γ (.two u p q) m
 |ite {Γ p q r k}:Has Γ p .bool->Has Γ q k->Has Γ r k->Has Γ (.ite p q r) k
 |let_ {Γ x p q k l}:Has Γ p k->Has ((x,k)::Γ) q l->Has Γ (.let_ x p q) l
 |fn {Γ x k p l}:Has ((x,k)::Γ) p l->(Kd.fn k l).sz<=40->Has Γ (.fn x k p) (.fn k l)
 |rc {Γ f x k l p}:Has ((x,k)::(f,.fn k l)::Γ) p l->(Kd.fn k l).sz<=40->Has Γ (.rc f x k l p) (.fn k l)
theorem Has.sz{Γ:Cxt}{p:Pt}{k:Kd}(h:Has Γ p k):k.sz<=40:=by
 induction h with
 |num=>decide
 |tru=>decide
 |nam _ e=>exact e
 |nil e=>exact e
 |one _ _ e=>exact e
 |two _ _ _ e=>exact e
 |ite _ _ _ _ _ i3=>exact i3
 |let_ _ _ _ i2=>exact i2
 |fn _ e=>exact e
 |rc _ e=>exact e
def deep:Pt->Nat
 | .one _ p=>p.deep+1
 | .two _ p q=>max p.deep q.deep+1
 | .ite p q r=>max p.deep (max q.deep r.deep)+1
 | .let_ _ p q=>max p.deep q.deep+1
 | .fn _ _ p=>p.deep+1
 | .rc _ _ _ _ p=>p.deep+1
 |_=>0
def sz:Pt->Nat
 | .one _ p=>p.sz+1
 | .two _ p q=>p.sz+q.sz+1
 | .ite p q r=>p.sz+q.sz+r.sz+1
 | .let_ _ p q=>p.sz+q.sz+1
 | .fn _ _ p=>p.sz+1
 | .rc _ _ _ _ p=>p.sz+1
 |_=>1
def fv:Pt->Str->Prop
 | .nam y,x=>x=y
 | .one _ p,x=>p.fv x
 | .two _ p q,x=>p.fv x\/q.fv x
 | .ite p q r,x=>p.fv x\/q.fv x\/r.fv x
 | .let_ y p q,x=>p.fv x\/(q.fv x/\x≠y)
 | .fn y _ p,x=>p.fv x/\x≠y
 | .rc f y _ _ p,x=>p.fv x/\x≠f/\x≠y
 |_,_=>False
theorem lookup_cons_ne{x y:Str}{k:Kd}{Γ:Cxt}(h:x≠y):List.lookup x ((y,k)::Γ)=Γ.lookup x:=by rw[List.lookup_cons,beq_eq_false_iff_ne.mpr h]
theorem Has.fv{Γ:Cxt}{p:Pt}{k:Kd}(h:Has Γ p k):∀x,p.fv x->∃l,Γ.lookup x=some l:=by
 induction h with
 |num=>intro x z;exact z.elim
 |tru=>intro x z;exact z.elim
 |nam e _=>intro x z;cases (show x=_ from z);exact⟨_,e⟩
 |nil _=>intro x z;exact z.elim
 |one _ _ _ ih=>exact ih
 |two _ _ _ _ i1 i2=>intro x z;exact z.elim (i1 x) (i2 x)
 |ite _ _ _ i1 i2 i3=>intro x z;exact z.elim (i1 x) fun z=>z.elim (i2 x) (i3 x)
 |let_ _ _ i1 i2=>intro x z;exact z.elim (i1 x) fun z=>(by obtain⟨l,e⟩:=i2 x z.1;rw[lookup_cons_ne z.2]at e;exact⟨l,e⟩)
 |fn _ _ ih=>intro x z;obtain⟨l,e⟩:=ih x z.1;rw[lookup_cons_ne z.2]at e;exact⟨l,e⟩
 |rc _ _ ih=>intro x z;obtain⟨l,e⟩:=ih x z.1;rw[lookup_cons_ne z.2.2,lookup_cons_ne z.2.1]at e;exact⟨l,e⟩
end Pt
open PySem
def In64(n:Int):Prop:= -9223372036854775808<=n/\n<=9223372036854775807
open PySem
inductive AV where
 |int (n:Int)|bl (b:Bool)|nil|at_ (n:Nat)
deriving DecidableEq
inductive Srt where
 |cell|pair|fn
deriving DecidableEq
structure Th where
 sort:Srt
 held:List AV
deriving DecidableEq
inductive Sm where
 |plus|minus|times|over|rest|less|same
deriving DecidableEq
inductive AOrd where
 |num (n:Int)|tru (b:Bool)|nil|get (k:Nat)
 |make (s:Srt)|take (x:Str) (i:Nat)|empty|not
 |sum (s:Sm)|func (rc:Bool) (kept:List Nat) (len:Nat)
 |call|last|tell|unless (k:Nat)|skip (k:Nat)|slide
inductive Sd where
 |running|done|byNought|ofEmpty|noRoom|tooDeep
deriving DecidableEq
structure Ms where
 code:List AOrd
 room:Nat
 things:List Th
 made:Nat
 stk:List AV
 base:Nat
 place:Nat
 pend:List (Nat×Nat)
 st:Sd
namespace Ms
def high:Nat:=100000
def bring(n:Int):Int:=(n+9223372036854775808)%18446744073709551616-9223372036854775808
def sumV:Sm->Int->Int->AV
 | .plus,a,b=>.int (bring (a+b))
 | .minus,a,b=>.int (bring (a-b))
 | .times,a,b=>.int (bring (a*b))
 | .over,a,b=>.int (bring (if decide (a<0)=decide (b<0)then((a.natAbs/b.natAbs:Nat):Int)else -((a.natAbs/b.natAbs:Nat):Int)))
 | .rest,a,b=>.int (if a<0 then -((a.natAbs%b.natAbs:Nat):Int)else((a.natAbs%b.natAbs:Nat):Int))
 | .less,a,b=>.bl (decide (a<b))
 | .same,a,b=>.bl (decide (a=b))
def nought:Sm->Int->Bool
 | .over,b=>decide (b=0)
 | .rest,b=>decide (b=0)
 |_,_=>false
def found(things:List Th):Nat->List Nat->List AV->Option (List Nat)
 |_,seen,[]=>some seen
 |0,_,_::_=>none
 |fuel+1,seen,w::ws=>match w with
  | .at_ k=>if k∈seen then found things fuel seen ws else match things[k]?with
   |some t=>found things fuel (seen++[k]) (t.held.reverse++ws)
   |none=>none
  |_=>found things fuel seen ws
def roomy(m:Ms):Option Ms:=if m.room<=m.things.length then none else some m
def add(m:Ms)(s:Srt)(h:List AV):Ms:={m with things:=m.things++[⟨s,h⟩],made:=m.made+1,stk:=.at_ m.things.length::m.stk}
def enter(m:Ms)(k:Nat)(handed:AV):Option Ms:=match m.things[k]?with
 |some ⟨_,.int pl:: .bl rc::kept⟩=>if pl<0 then none else some {m with place:=pl.toNat,stk:=handed::((if rc then[.at_ k]else[])++(kept.reverse++m.stk))}
 |_=>none
def slot(m:Ms)(k:Nat):Option AV:=if m.base+k<m.stk.length then m.stk[m.stk.length-1-(m.base+k)]?else none
def cut(l:List AV)(h:Nat):List AV:=l.drop (l.length-h)
def exec(m:Ms):AOrd->Option Ms
 | .num n=>some {m with stk:=.int n::m.stk}
 | .tru b=>some {m with stk:=.bl b::m.stk}
 | .nil=>some {m with stk:=.nil::m.stk}
 | .get k=>(m.slot k).map fun v=>{m with stk:=v::m.stk}
 | .make s=>m.roomy.bind fun m1=>if m1.st= .running then(match m1.stk with
   |b::a::r=>some (({m1 with stk:=r}:Ms).add s [a,b])
   |_=>none)else some m1
 | .take _ i=>match m.stk with
  | .nil::r=>some {m with stk:=r,st:=.ofEmpty}
  | .at_ k::r=>m.things[k]?.bind fun t=>t.held[i]?.map fun v=>{m with stk:=v::r}
  |_=>none
 | .empty=>match m.stk with
  |v::r=>some {m with stk:=.bl (decide (v= .nil))::r}
  |_=>none
 | .not=>match m.stk with
  | .bl b::r=>some {m with stk:=.bl (!b)::r}
  |_=>none
 | .sum s=>match m.stk with
  | .int y:: .int x::r=>some (if nought s y then {m with stk:=r,st:=.byNought}else {m with stk:=sumV s x y::r})
  |_=>none
 | .func rc kept len=>m.roomy.bind fun m1=>if m1.st= .running then((kept.mapM fun k=>m1.slot k).map fun vs=>let m2:=m1.add .fn (.int m1.place:: .bl rc::vs);{m2 with place:=m2.place+len})else some m1
 | .call=>if 40<=m.pend.length then some {m with st:=.tooDeep}else match m.stk with
  |h:: .at_ k::_=>({m with pend:=(m.place,m.base)::m.pend,base:=m.stk.length}:Ms).enter k h
  |_=>none
 | .last=>match m.stk with
  |h:: .at_ k::r=>({m with stk:=cut r m.base}:Ms).enter k h
  |_=>none
 | .tell=>match m.stk with
  |v::r=>match m.pend with
   |(pl,bs)::q=>if 2<=m.base then some {m with stk:=v::cut r (m.base-2),pend:=q,place:=pl,base:=bs}else none
   |[]=>some {m with stk:=[v],st:=.done}
  |_=>none
 | .unless k=>match m.stk with
  | .bl b::r=>some (if b then {m with stk:=r}else {m with stk:=r,place:=m.place+k})
  |_=>none
 | .skip k=>some {m with place:=m.place+k}
 | .slide=>match m.stk with
  |v::_::r=>some {m with stk:=v::r}
  |_=>none
def order(m:Ms):Option Ms:=m.code[m.place]?.bind fun o=>(({m with place:=m.place+1}:Ms).exec o).bind fun m1=>if m1.stk.length<=high then some m1 else none
def ending:AOrd->Bool
 | .tell=>true| .skip _=>true| .slide=>true|_=>false
def ends:Nat->Ms->Option Ms
 |0,_=>none
 |n+1,m=>if m.st= .running then m.code[m.place]?.bind fun o=>if ending o then m.order.bind (ends n)else some m else some m
def step(fuel:Nat)(m:Ms):Option Ms:=m.order.bind (ends fuel)
def run(fuel:Nat):Nat->Ms->Option Ms
 |0,m=>some m
 |n+1,m=>if m.st= .running then(m.step fuel).bind (run fuel n)else some m
def new(code:List AOrd)(room:Nat):Ms:=⟨code,room,[],0,[],0,0,[],.running⟩
end Ms
namespace Pt
def ins(acc:List Str):List Str->List Str
 |[]=>acc
 |x::xs=>ins (if x∈acc then acc else acc++[x]) xs
def outs:Pt->List Str
 | .nam x=>[x]
 | .one _ p=>ins [] (outs p)
 | .two _ p q=>ins (ins [] (outs p)) (outs q)
 | .ite p q r=>ins (ins (ins [] (outs p)) (outs q)) (outs r)
 | .let_ x p q=>ins (ins [] (outs p)) ((outs q).filter (·≠x))
 | .fn x _ p=>ins [] ((outs p).filter (·≠x))
 | .rc f x _ _ p=>ins [] ((outs p).filter fun y=>y≠f/\y≠x)
 |_=>[]
abbrev Sl:=List (Str×Nat)
def slotOf(sl:Sl)(x:Str):Nat:=(sl.lookup x).getD 0
def slotsFor:Nat->List Str->Sl
 |_,[]=>[]
 |i,x::xs=>slotsFor (i+1) xs++[(x,i)]
def u1:U1->AOrd
 | .head=>.take "head" 0
 | .tail=>.take "tail" 1
 | .empty=>.empty
 | .first=>.take "first" 0
 | .second=>.take "second" 1
 | .not=>.not
def u2:U2->AOrd
 | .cons=>.make .cell
 | .pair=>.make .pair
 | .plus=>.sum .plus
 | .minus=>.sum .minus
 | .times=>.sum .times
 | .over=>.sum .over
 | .rest=>.sum .rest
 | .less=>.sum .less
 | .same=>.sum .same
 |_=>.call
def told(last:Bool)(c:List AOrd):List AOrd:=if last then c++[.tell]else c
def ifC(last:Bool)(c1 c2 c3:List AOrd):List AOrd:=
 let c2':=if last then c2 else c2++[.skip c3.length]
 c1++[.unless c2'.length]++c2'++c3
def codeOf:Pt->Sl->Nat->Bool->List AOrd
 | .num n,_,_,b=>told b [.num n]
 | .tru v,_,_,b=>told b [.tru v]
 | .nam x,sl,_,b=>told b [.get (slotOf sl x)]
 | .nil _,_,_,b=>told b [.nil]
 | .one u p,sl,h,b=>told b (codeOf p sl h false++[u1 u])
 | .two .call p q,sl,h,b=>codeOf p sl h false++codeOf q sl (h+1) false++[if b then .last else .call]
 | .two .and p q,sl,h,b=>ifC b (codeOf p sl h false) (codeOf q sl h b) (told b [.tru false])
 | .two .or p q,sl,h,b=>ifC b (codeOf p sl h false) (told b [.tru true]) (codeOf q sl h b)
 | .two u p q,sl,h,b=>told b (codeOf p sl h false++codeOf q sl (h+1) false++[u2 u])
 | .ite p q r,sl,h,b=>ifC b (codeOf p sl h false) (codeOf q sl h b) (codeOf r sl h b)
 | .let_ x p q,sl,h,b=>codeOf p sl h false++(if b then codeOf q ((x,h)::sl) (h+1) b else codeOf q ((x,h)::sl) (h+1) b++[.slide])
 | .fn x k p,sl,_,b=>
  let kept:=outs (.fn x k p)
  let body:=codeOf p (slotsFor 0 (kept++[x])) (kept.length+1) true
  told b (.func false (kept.map (slotOf sl)) body.length::body)
 | .rc f x k l p,sl,_,b=>
  let kept:=outs (.rc f x k l p)
  let bound:=if f=x then[f]else[f,x]
  let body:=codeOf p (slotsFor 0 (kept++bound)) (kept.length+bound.length) true
  told b (.func (decide (f≠x)) (kept.map (slotOf sl)) body.length::body)
end Pt
open PySem
namespace Pt
theorem ins_snoc(acc ys:List Str)(x:Str):ins acc (ys++[x])=if x∈ins acc ys then ins acc ys else ins acc ys++[x]:=by
 induction ys generalizing acc with
 |nil=>rfl
 |cons y ys ih=>exact ih _
theorem xP{x:Str}:∀{acc ys:List Str},x∈ins acc ys↔x∈acc\/x∈ys
 |acc,[]=>by simp[ins]
 |acc,y::ys=>by
  rw[ins,xP]
  by_cases h:y∈acc
  ·rw[if_pos h]
   constructor
   ·rintro(z|z)
    ·exact .inl z
    ·exact .inr (aq10 _ z)
   ·rintro(z|z)
    ·exact .inl z
    ·rcases List.mem_cons.mp z with rfl|z
     ·exact .inl h
     ·exact .inr z
  ·rw[if_neg h]
   simp[or_assoc]
theorem jI:∀{acc ys:List Str},acc.Nodup->(ins acc ys).Nodup
 |acc,[],h=>h
 |acc,y::ys,h=>by
  rw[ins]
  by_cases z:y∈acc
  ·rw[if_pos z];exact jI h
  ·rw[if_neg z]
   refine jI (List.nodup_append.mpr ⟨h,by simp,fun a ha b hb e=>?_⟩)
   rw[List.mem_singleton.mp hb]at e
   exact z (e▸ha)
theorem length_ins:∀(acc ys:List Str),(ins acc ys).length<=acc.length+ys.length
 |acc,[]=>by simp[ins]
 |acc,y::ys=>by
  rw[ins]
  have :=length_ins (if y∈acc then acc else acc++[y]) ys
  have e:(if y∈acc then acc else acc++[y]).length<=acc.length+1:=by split<;>simp
  rw[List.length_cons];omega
theorem outs_mem(x:Str):∀p:Pt,x∈outs p↔p.fv x
 | .num _=>by simp[outs,fv]
 | .tru _=>by simp[outs,fv]
 | .nam y=>by simp[outs,fv]
 | .nil _=>by simp[outs,fv]
 | .one _ p=>by rw[outs,xP,fv,outs_mem x p];simp
 | .two _ p q=>by rw[outs,xP,xP,fv,outs_mem x p,outs_mem x q];simp
 | .ite p q r=>by rw[outs,xP,xP,xP,fv,outs_mem x p,outs_mem x q,outs_mem x r];simp[or_assoc]
 | .let_ y p q=>by rw[outs,xP,xP,fv,outs_mem x p,List.mem_filter,outs_mem x q];simp
 | .fn y _ p=>by rw[outs,xP,fv,List.mem_filter,outs_mem x p];simp
 | .rc f y _ _ p=>by rw[outs,xP,fv,List.mem_filter,outs_mem x p];simp
theorem outs_nodup:∀p:Pt,(outs p).Nodup
 | .num _=>by simp[outs]
 | .tru _=>by simp[outs]
 | .nam y=>by simp[outs]
 | .nil _=>by simp[outs]
 | .one _ p=>jI List.nodup_nil
 | .two _ p q=>jI (jI List.nodup_nil)
 | .ite p q r=>jI (jI (jI List.nodup_nil))
 | .let_ y p q=>jI (jI List.nodup_nil)
 | .fn y _ p=>jI List.nodup_nil
 | .rc f y _ _ p=>jI List.nodup_nil
theorem outs_length:∀p:Pt,(outs p).length<=p.sz
 | .num _=>by simp[outs,sz]
 | .tru _=>by simp[outs,sz]
 | .nam y=>by simp[outs,sz]
 | .nil _=>by simp[outs,sz]
 | .one _ p=>by have :=length_ins [] (outs p);have :=outs_length p;simp only[outs,sz,List.length_nil]at *;omega
 | .two _ p q=>by have :=length_ins (ins [] (outs p)) (outs q);have :=length_ins [] (outs p);have :=outs_length p;have :=outs_length q;simp only[outs,sz,List.length_nil]at *;omega
 | .ite p q r=>by have :=length_ins (ins (ins [] (outs p)) (outs q)) (outs r);have :=length_ins (ins [] (outs p)) (outs q);have :=length_ins [] (outs p);have :=outs_length p;have :=outs_length q;have :=outs_length r;simp only[outs,sz,List.length_nil]at *;omega
 | .let_ y p q=>by have :=length_ins (ins [] (outs p)) ((outs q).filter (·≠y));have :=length_ins [] (outs p);have :=outs_length p;have :=outs_length q;have :=List.length_filter_le (fun z=>decide (z≠y)) (outs q);simp only[outs,sz,List.length_nil]at *;omega
 | .fn y _ p=>by have :=length_ins [] ((outs p).filter (·≠y));have :=outs_length p;have :=List.length_filter_le (fun z=>decide (z≠y)) (outs p);simp only[outs,sz,List.length_nil]at *;omega
 | .rc f y _ _ p=>by have :=length_ins [] ((outs p).filter fun z=>z≠f/\z≠y);have :=outs_length p;have :=List.length_filter_le (fun z=>decide (z≠f/\z≠y)) (outs p);simp only[outs,sz,List.length_nil]at *;omega
def accs(ns:List Str)(ps:List Pt):Nat->List Str
 |0=>[]
 |i+1=>match ps[i]?with
  |some q=>ins (accs ns ps i) ((outs q).filter fun x=>decide (i+1<ps.length\/x∉ns))
  |none=>accs ns ps i
theorem filter_yes{f:Str->Bool}:∀{xs:List Str},(∀x,f x=true)->xs.filter f=xs:=fun h=>List.filter_eq_self.mpr fun x _=>h x
theorem xI(b:Bool)(c:List AOrd):(told b c).length<=c.length+1:=by unfold told;split<;>simp
theorem lL(b:Bool)(c1 c2 c3:List AOrd):(ifC b c1 c2 c3).length<=c1.length+c2.length+c3.length+2:=by unfold ifC;cases b<;>simp <;>omega
theorem codeOf_len:∀(p:Pt)(sl:Sl)(h:Nat)(b:Bool),(codeOf p sl h b).length+4<=6*p.sz
 | .num n,sl,h,b=>by have :=xI b [AOrd.num n];simp only[codeOf,sz,List.length_cons,List.length_nil]at *;omega
 | .tru n,sl,h,b=>by have :=xI b [AOrd.tru n];simp only[codeOf,sz,List.length_cons,List.length_nil]at *;omega
 | .nam n,sl,h,b=>by have :=xI b [AOrd.get (slotOf sl n)];simp only[codeOf,sz,List.length_cons,List.length_nil]at *;omega
 | .nil n,sl,h,b=>by have :=xI b [AOrd.nil];simp only[codeOf,sz,List.length_cons,List.length_nil]at *;omega
 | .one u p,sl,h,b=>by have :=xI b (codeOf p sl h false++[u1 u]);have :=codeOf_len p sl h false;simp only[codeOf,sz,List.length_cons,List.length_nil,List.length_append]at *;omega
 | .two u p q,sl,h,b=>by
  have i1:=codeOf_len p sl h false
  have i2:=codeOf_len q sl (h+1) false
  have i3:=codeOf_len q sl h b
  cases u
  case call=>simp only[codeOf,sz,List.length_cons,List.length_nil,List.length_append]at *;omega
  case and=>have :=lL b (codeOf p sl h false) (codeOf q sl h b) (told b [.tru false]);have :=xI b [AOrd.tru false];simp only[codeOf,sz,List.length_cons,List.length_nil,List.length_append]at *;omega
  case or=>have :=lL b (codeOf p sl h false) (told b [.tru true]) (codeOf q sl h b);have :=xI b [AOrd.tru true];simp only[codeOf,sz,List.length_cons,List.length_nil,List.length_append]at *;omega
  all_goals
   rw[codeOf]
   ·refine Nat.le_trans (Nat.add_le_add_right (xI b _) 4) ?_
    simp only[sz,List.length_cons,List.length_nil,List.length_append]at *;omega
   all_goals (intro z;cases z)
 | .ite p q r,sl,h,b=>by
  have i1:=codeOf_len p sl h false
  have i2:=codeOf_len q sl h b
  have i3:=codeOf_len r sl h b
  have :=lL b (codeOf p sl h false) (codeOf q sl h b) (codeOf r sl h b);simp only[codeOf,sz]at *;omega
 | .let_ x p q,sl,h,b=>by
  have i1:=codeOf_len p sl h false
  have i2:=codeOf_len q ((x,h)::sl) (h+1) b
  cases b<;>simp[codeOf,sz]at * <;>omega
 | .fn x k p,sl,h,b=>by
  rw[codeOf]
  have i1:=codeOf_len p (slotsFor 0 (outs (.fn x k p)++[x])) ((outs (.fn x k p)).length+1) true
  refine Nat.le_trans (Nat.add_le_add_right (xI b _) 4) ?_
  simp only[sz,List.length_cons]at *;omega
 | .rc f x k l p,sl,h,b=>by
  rw[codeOf]
  have i1:=codeOf_len p (slotsFor 0 (outs (.rc f x k l p)++if f=x then[f]else[f,x])) ((outs (.rc f x k l p)).length+(if f=x then[f]else[f,x]).length) true
  refine Nat.le_trans (Nat.add_le_add_right (xI b _) 4) ?_
  simp only[sz,List.length_cons]at *;omega
theorem slotOf_eq(x:Str)(h:Nat)(S:Sl):slotOf ((x,h)::S) x=h:=by simp[slotOf,List.lookup_cons]
theorem slotOf_ne{x y:Str}(h:Nat)(S:Sl)(e:y≠x):slotOf ((x,h)::S) y=slotOf S y:=by
 unfold slotOf;rw[List.lookup_cons,beq_eq_false_iff_ne.mpr e]
theorem vY{x:Str}:∀{a b:Sl},List.lookup x (a++b)=(List.lookup x a).or (List.lookup x b)
 |[],b=>by simp
 |(y,n)::a,b=>by
  rw[List.cons_append,List.lookup_cons,List.lookup_cons,vY]
  cases (x==y)<;>rfl
theorem vO{x:Str}:∀{i:Nat}{l:List Str},x∉l->List.lookup x (slotsFor i l)=none
 |_,[],_=>rfl
 |i,y::l,h=>by
  have hne:x≠y:=fun z=>h (by rw[z];exact List.mem_cons_self)
  rw[slotsFor,vY,vO fun z=>h (aq10 _ z),List.lookup_cons,beq_eq_false_iff_ne.mpr hne]
  rfl
theorem slotOf_for{x:Str}:∀{i j:Nat}{l:List Str},l.Nodup->l[j]? =some x->slotOf (slotsFor i l) x=i+j
 |_,_,[],_,h=>by simp at h
 |i,0,y::l,hn,h=>by
  have e:y=x:=by simpa using h
  subst e
  rw[List.nodup_cons]at hn
  unfold slotOf
  rw[slotsFor,vY,vO hn.1,List.lookup_cons,beq_self_eq_true]
  rfl
 |i,j+1,y::l,hn,h=>by
  rw[List.nodup_cons]at hn
  have h':l[j]? =some x:=by simpa using h
  have ih:=slotOf_for (i:=i+1) hn.2 h'
  unfold slotOf at ih⊢
  rw[slotsFor,vY]
  have hl:∃n,List.lookup x (slotsFor (i+1) l)=some n:=by
   cases e:List.lookup x (slotsFor (i+1) l)with
   |some n=>exact⟨n,rfl⟩
   |none=>rw[e]at ih;simp at ih;omega
  obtain⟨n,e⟩:=hl
  rw[e]at ih⊢
  simp at ih⊢;omega
def bnd:Pt->List Str
 | .fn x _ _=>[x]
 | .rc f x _ _ _=>if f=x then[f]else[f,x]
 |_=>[]
end Pt
open PySem
namespace AV
def dt:AV->Dt
 | .int n=>.int n
 | .bl b=>.bl b
 | .nil=>.non
 | .at_ k=>.tup [.str "at",.int k]
end AV
def Srt.str:Srt->Str
 | .cell=>"cell"| .pair=>"pair"| .fn=>"function"
def Th.dt(t:Th):Dt:=.tup [.str t.sort.str,.tup (t.held.map AV.dt)]
def Sm.str:Sm->Str
 | .plus=>"plus"| .minus=>"minus"| .times=>"times"| .over=>"over"| .rest=>"rest"| .less=>"less"| .same=>"same"
def Sd.str:Sd->Str
 | .running=>"running"| .done=>"done"| .byNought=>"by nought"| .ofEmpty=>"of empty"| .noRoom=>"no room"| .tooDeep=>"too deep"
namespace AOrd
def wd:AOrd->Str
 | .num _=>"put"| .tru _=>"put"| .nil=>"nil"| .get _=>"get"
 | .make .pair=>"pair"| .make _=>"cons"| .take x _=>x| .empty=>"empty"| .not=>"not"
 | .sum s=>s.str| .func rc _ _=>if rc then"rec" else"fn"
 | .call=>"call"| .last=>"last call"| .tell=>"tell"| .unless _=>"unless"| .skip _=>"skip"| .slide=>"slide"
def args:AOrd->List Dt
 | .num n=>[.int n]| .tru b=>[.bl b]| .get k=>[.int k]
 | .func _ kept len=>[.tup (kept.map fun k:Nat=>.int (k:Int)),.int len]
 | .unless k=>[.int k]| .skip k=>[.int k]
 |_=>[]
def dt(o:AOrd):Dt:=.tup (.str o.wd::o.args)
def ok:AOrd->Prop
 | .make s=>s≠ .fn
 | .take x i=>(x,i)∈([("head",0),("tail",1),("first",0),("second",1)]:List (Str×Nat))
 | .num n=>In64 n
 | .func _ ks _=>ks.length<=50000
 |_=>True
end AOrd
def Pair2(q:Nat×Nat):Dt:=.tup [.int q.1,.int q.2]
namespace L2
open PySem PySem.Spec PyProof.Rows PyProof
def wL(k:Str):List Str->Option Nat
 |[]=>none
 |x::r=>if decide (k=x)=true then some 0 else(wL k r).map (·+1)
theorem qG{k:Str}:∀{ks:List Str}{vs:List V}{i:Nat}{v:V},wL k ks=some i->vs[i]? =some v->KTD.datumAt k (ks.zip vs)=some v
 |[],_,_,_,h,_=>by cases h
 |x::r,[],i,v,h,hv=>by simp at hv
 |x::r,u::us,i,v,h,hv=>by
  show(if decide (k=x)=true then some u else KTD.datumAt k (r.zip us))=some v
  have h':(if decide (k=x)=true then some 0 else(wL k r).map (·+1))=some i:=h
  by_cases z:decide (k=x)=true
  ·rw[if_pos z]at h'⊢
   cases h'
   simpa using hv
  ·rw[if_neg z]at h'⊢
   cases e:wL k r with
   |none=>rw[e]at h';cases h'
   |some j=>
    rw[e]at h'
    have ei:i=j+1:=by simpa using h'.symm
    subst ei
    exact qG e (by simpa using hv)
theorem uX{k:Str}:∀{ks:List Str}{vs:List V},wL k ks=none->KTD.inKeys k (ks.zip vs)=false
 |[],_,_=>rfl
 |x::r,[],_=>rfl
 |x::r,u::us,h=>by
  show(decide (k=x)||KTD.inKeys k (r.zip us))=false
  have h':(if decide (k=x)=true then some 0 else(wL k r).map (·+1))=none:=h
  by_cases z:decide (k=x)=true
  ·rw[if_pos z]at h';cases h'
  ·rw[if_neg z]at h'
   have e:wL k r=none:=by
    cases e:wL k r with
    |none=>rfl
    |some j=>rw[e]at h';cases h'
   rw[Bool.eq_false_iff.mpr z,Bool.false_or]
   exact uX e
def jD(o:Obj)(xs:List V):Prop:=o.cls= .type "tuple"/\∃its n,o.data= .seq its n/\Vals xs its.toList
theorem jD.s{K:Fg}{a:Addr}{o:Obj}{xs:List V}(h:jD o xs)(l:K.lookup a=some o)(hz:xs.length<=sizeLine):∀H,zO K H a xs:=fun H=>by
 obtain⟨c,its,n,d,v⟩:=h
 refine .inr ⟨o,its,n,l,c,d,?_,v⟩
 have h1:xs.length=its.toList.length:=v.length
 have h2:its.toList.length=its.size:=by simp
 show its.size<=sizeLine
 rw[<-h2,<-h1]
 exact hz
theorem cV{K:Fg}:∀{ks:List Str}{sss:List (List Str)}{vs:List V},ks.length=sss.length->ks.length=vs.length->(∀(i:Nat)ss v,sss[i]? =some ss->vs[i]? =some v->∃tp,v= .ref tp/\∀H,zO K H tp (ss.map V.str))->
  ∀wd,((ks.zip sss).lookup wd=none/\KTD.datumAt wd (ks.zip vs)=none)\/∃ss tp,(ks.zip sss).lookup wd=some ss/\KTD.datumAt wd (ks.zip vs)=some (.ref tp)/\∀H,zO K H tp (ss.map V.str)
 |[],_,_,_,_,_,wd=>.inl ⟨rfl,rfl⟩
 |x::r,[],_,h,_,_,wd=>by simp at h
 |x::r,ss::sss,[],_,h,_,wd=>by simp at h
 |x::r,ss::sss,v::vs,h1,h2,h3,wd=>by
  show(List.lookup wd ((x,ss)::r.zip sss)=none/\(if decide (wd=x)=true then some v else KTD.datumAt wd (r.zip vs))=none)\/∃ss' tp,List.lookup wd ((x,ss)::r.zip sss)=some ss'/\(if decide (wd=x)=true then some v else KTD.datumAt wd (r.zip vs))=some (.ref tp)/\_
  by_cases z:wd=x
  ·subst z
   rw[if_pos (decide_eq_true rfl)]
   obtain⟨tp,rfl,ht⟩:=h3 0 ss v rfl rfl
   exact .inr ⟨ss,tp,by simp,rfl,ht⟩
  ·rw[if_neg (by simp[z]),List.lookup_cons,beq_eq_false_iff_ne.mpr z]
   exact cV (by simpa using h1) (by simpa using h2) (fun i ss' v' e1 e2=>h3 (i+1) ss' v' (by simpa using e1) (by simpa using e2)) wd
open Dt
section
variable {K:Fg} {H H':Hp}
theorem kN{ds:List Dt}{v:V}(h:qW K H (.tup ds) v):∃a vs,v= .ref a/\zO K H a vs/\qI K H ds vs:=by rw[qW]at h;exact h
theorem jR{x:Str}{v:V}(h:qW K H (.str x) v):v= .str x:=by rw[qW]at h;exact h
theorem kU{x:Int}{v:V}(h:qW K H (.int x) v):v= .int x:=by rw[qW]at h;exact h
theorem mL{x:Bool}{v:V}(h:qW K H (.bl x) v):v= .bl x:=by rw[qW]at h;exact h
theorem wG(x:Str):qW K H (.str x) (.str x):=by rw[qW]
theorem zD{vs:List V}(h:qI K H [] vs):vs=[]:=by rw[qI]at h;exact h
theorem qD{d:Dt}{ds:List Dt}{vs:List V}(h:qI K H (d::ds) vs):∃v r,vs=v::r/\qW K H d v/\qI K H ds r:=by rw[qI]at h;exact h
theorem qT:qI K H [] []:=by rw[qI]
theorem qF{d:Dt}{ds:List Dt}{v:V}{vs:List V}(h:qW K H d v)(g:qI K H ds vs):qI K H (d::ds) (v::vs):=by rw[qI];exact⟨v,vs,rfl,h,g⟩
theorem wM{ds:List Dt}{a:Addr}{vs:List V}(h:zO K H a vs)(g:qI K H ds vs):qW K H (.tup ds) (.ref a):=by rw[qW];exact⟨a,vs,rfl,h,g⟩
theorem kC{x:Str}{d:Dt}{v:V}(h:qW K H (.tup [.str x,d]) v):∃a u,v= .ref a/\zO K H a [.str x,u]/\qW K H d u:=by
 obtain⟨a,vs,rfl,hs,h⟩:=kN h
 obtain⟨v0,r,rfl,h0,h⟩:=qD h
 obtain⟨v1,r,rfl,h1,h⟩:=qD h
 cases zD h;cases jR h0
 exact⟨a,v1,rfl,hs,h1⟩
theorem mG{x:Str}{d e:Dt}{v:V}(h:qW K H (.tup [.str x,d,e]) v):∃a u w,v= .ref a/\zO K H a [.str x,u,w]/\qW K H d u/\qW K H e w:=by
 obtain⟨a,vs,rfl,hs,h⟩:=kN h
 obtain⟨v0,r,rfl,h0,h⟩:=qD h
 obtain⟨v1,r,rfl,h1,h⟩:=qD h
 obtain⟨v2,r,rfl,h2,h⟩:=qD h
 cases zD h;cases jR h0
 exact⟨a,v1,v2,rfl,hs,h1,h2⟩
theorem vH{x:Str}{d e f:Dt}{v:V}(h:qW K H (.tup [.str x,d,e,f]) v):∃a u w y,v= .ref a/\zO K H a [.str x,u,w,y]/\qW K H d u/\qW K H e w/\qW K H f y:=by
 obtain⟨a,vs,rfl,hs,h⟩:=kN h
 obtain⟨v0,r,rfl,h0,h⟩:=qD h
 obtain⟨v1,r,rfl,h1,h⟩:=qD h
 obtain⟨v2,r,rfl,h2,h⟩:=qD h
 obtain⟨v3,r,rfl,h3,h⟩:=qD h
 cases zD h;cases jR h0
 exact⟨a,v1,v2,v3,rfl,hs,h1,h2,h3⟩
theorem rY{x:Str}{d e f g i:Dt}{v:V}(h:qW K H (.tup [.str x,d,e,f,g,i]) v):∃a u w y z t,v= .ref a/\zO K H a [.str x,u,w,y,z,t]/\qW K H d u/\qW K H e w/\qW K H f y/\qW K H g z/\qW K H i t:=by
 obtain⟨a,vs,rfl,hs,h⟩:=kN h
 obtain⟨v0,r,rfl,h0,h⟩:=qD h
 obtain⟨v1,r,rfl,h1,h⟩:=qD h
 obtain⟨v2,r,rfl,h2,h⟩:=qD h
 obtain⟨v3,r,rfl,h3,h⟩:=qD h
 obtain⟨v4,r,rfl,h4,h⟩:=qD h
 obtain⟨v5,r,rfl,h5,h⟩:=qD h
 cases zD h;cases jR h0
 exact⟨a,v1,v2,v3,v4,v5,rfl,hs,h1,h2,h3,h4,h5⟩
theorem cW{x:Str}{d:Dt}{a:Addr}{u:V}(hs:zO K H a [.str x,u])(h1:qW K H d u):qW K H (.tup [.str x,d]) (.ref a):=wM hs (qF (wG x) (qF h1 qT))
theorem qQj{x:Str}{d e:Dt}{a:Addr}{u w:V}(hs:zO K H a [.str x,u,w])(h1:qW K H d u)(h2:qW K H e w):qW K H (.tup [.str x,d,e]) (.ref a):=wM hs (qF (wG x) (qF h1 (qF h2 qT)))
theorem qB6{x:Str}{d e f:Dt}{a:Addr}{u w y:V}(hs:zO K H a [.str x,u,w,y])(h1:qW K H d u)(h2:qW K H e w)(h3:qW K H f y):qW K H (.tup [.str x,d,e,f]) (.ref a):=wM hs (qF (wG x) (qF h1 (qF h2 (qF h3 qT))))
def jG(K:Fg)(H H':Hp):Prop:=∀a xs,zO K H a xs->zO K H' a xs
mutual
theorem qW.monoT(e:jG K H H'):∀{d:Dt}{v:V},qW K H d v->qW K H' d v
 | .non,v,h=>by rw[qW]at h⊢;exact h
 | .bl _,v,h=>by rw[qW]at h⊢;exact h
 | .int _,v,h=>by rw[qW]at h⊢;exact h
 | .str _,v,h=>by rw[qW]at h⊢;exact h
 | .tup ds,v,h=>by
  rw[qW]at h⊢
  obtain⟨a,vs,e1,h1,h2⟩:=h
  exact⟨a,vs,e1,e a vs h1,qI.monoT e h2⟩
theorem qI.monoT(e:jG K H H'):∀{ds:List Dt}{vs:List V},qI K H ds vs->qI K H' ds vs
 |[],vs,h=>by rw[qI]at h⊢;exact h
 |d::ds,vs,h=>by
  rw[qI]at h⊢
  obtain⟨v,r,e1,h1,h2⟩:=h
  exact⟨v,r,e1,qW.monoT e h1,qI.monoT e h2⟩
end
end
structure jV(a:Addr)(H H':Hp):Prop where
 keep:∀b o,b≠a->H b=some o->H' b=some o
 none:∀b,H' b=Option.none->H b=Option.none
theorem jV.refl(a:Addr)(H:Hp):jV a H H:=⟨fun _ _ _ e=>e,fun _ e=>e⟩
theorem jV.trans{a:Addr}{H H1 H2:Hp}(x:jV a H H1)(y:jV a H1 H2):jV a H H2:=⟨fun b o hb e=>y.keep b o hb (x.keep b o hb e),fun b e=>x.none b (y.none b e)⟩
theorem Grow.b{a:Addr}{H H':Hp}(g:Grow H H'):jV a H H':=⟨fun b o _ e=>g.same b o e,g.none⟩
theorem jV.set{a:Addr}{H H':Hp}{o:HO}(g:jV a H H'){u:HO}(hu:H a=some u):jV a H (upd H' a o):=
 ⟨fun b p hb e=>(qH hb).trans (g.keep b p hb e),fun b e=>by
  by_cases z:b=a
  ·subst z;rw[qX]at e;cases e
  ·rw[qH z]at e;exact g.none b e⟩
theorem jV.tups{K:Fg}{a:Addr}{H H':Hp}{ps:List V}(g:jV a H H')(h:H a=some (.lst ps)):jG K H H':=fun b xs hb=>by
 rcases hb with(hb|⟨o,hb⟩)|hb
 ·exact .inl (.inl (g.keep b _ (xB hb h (by intro z;cases z)) hb))
 ·exact .inl (.inr ⟨o,g.keep b _ (xB hb h (by intro z;cases z)) hb⟩)
 ·exact .inr hb
theorem jV.of_new{a:Addr}{H H1 H2:Hp}(g:Grow H H1)(x:jV a H1 H2)(h:H a=Option.none):Grow H H2:=⟨fun b o e=>x.keep b o (zV e h) (g.same b o e),fun b e=>g.none b (x.none b e)⟩
end L2
namespace K19
open PySem L2 PyProof Dt
def top(i:Nat):Stmt:=PySem.Challenge.pw_plainspeak_k19_whole_last_places_and_dep.main.body.getD i (.Pass ⟨0,0,0,0⟩)
abbrev sVB:Stmt:=top 24
abbrev sWN:Stmt:=top 71
abbrev sLU:Stmt:=top 72
abbrev sNB:Stmt:=top 73
abbrev qSj:Stmt:=top 78
abbrev sRW:Stmt:=top 79
abbrev qB7:Stmt:=top 80
abbrev qB8:Stmt:=top 81
abbrev qB9:Stmt:=top 82
abbrev qZ0:Stmt:=top 83
abbrev qZ1:Stmt:=top 84
abbrev rO:Stmt:=top 85
abbrev sIf:Stmt:=top 86
abbrev qBq:Stmt:=top 87
def SL:List (Str×List Str):=[("nil",["kind"]),("cons",["part","part"]),("head",["part"]),("tail",["part"]),("empty",["part"]),("pair",["part","part"]),("first",["part"]),("second",["part"]),("if",["part","part","part"]),("let",["name","part","part"]),("fn",["name","kind","part"]),
 ("rec",["name","name","kind","kind","part"]),("call",["part","part"]),("plus",["part","part"]),("minus",["part","part"]),("times",["part","part"]),("over",["part","part"]),("rest",["part","part"]),("less",["part","part"]),("same",["part","part"]),("and",["part","part"]),("or",["part","part"]),("not",["part"])]
def zK(wd:Str):List Str:=(SL.lookup wd).getD []
structure GlV(K:Fg)(mg:Str->Option Value):Prop where
 zip:mg "zip"=none
 tab:∃a D,mg "PART_SLOTS"=some (.ref a)/\uR K a D/\∀wd,(zK wd=[]/\aq17 wd D=none)\/∃tp,aq17 wd D=some (.ref tp)/\∀H,zO K H tp ((zK wd).map V.str)
section
variable {P:Program} {w:World} {K:Fg} {mg:Str->Option Value} {base:Heap}
inductive qBz(K:Fg)(vs:List V)(H:Hp)(Q:VK):Prop
 |mk (pt:Addr) (srt:Str) (wd:Str) (xs:List V) (a_0:vs=[.ref pt,.str srt]) (a_1:zO K H pt (.str wd::xs)) (a_2:xs.length<=1000) (a_3:∀l H',Grow H H'->H l=none->H' l=some (.lst (behind (zK wd) xs srt))->Q (.ref l) H'):qBz K vs H Q
def mN(K:Fg):Sp:=fun vs H Q x_0=>qBz K vs H Q
theorem zVz:qO ["part","sort","slots"] ["part","sort"] (qU sVB):=by walk_at "s"
theorem zVj{f:Addr}{fd:FuncData}(F:zZ K "values_behind" "values_behind" sVB .none f fd)(G:GlV K mg):qS P w K mg base (CXE P w) 1 f fd ["part","sort"] (mN K):=by
 refine F.ok0 zVz (fun vs H Q E h=>?_) (fun cdv A outer s H vs Q E hr h=>?_)
 ·obtain⟨pt,srt,wd,xs,rfl,_⟩:=h
  rfl
 ·obtain⟨pt,srt,wd,xs,rfl,hp,hx,q⟩:=h
  obtain⟨ta,D,mT,T,hT⟩:=G.tab
  have ndb:((["slot","value"]:List Str)++(["sort"]:List Str)).Nodup:=by decide+kernel
  refine⟨_,qZ (qB (i:=2) zVz.nd rfl (Or.inl rfl) (qC1 (zR (v:=.ref ta) (by rfl) mT rfl) (qQ (qL qP (pv 0) qV (fun _ _=>rfl)) (qQ (zF qJ) qJ))))
   (qK (qM (qS8 (qQ8 (own:=["slot","value"]) (i:=1) (by rfl) (by decide+kernel) (by rfl) (by decide+kernel) (by rfl) (by decide+kernel) (by rfl) (.inl (by rfl)) (by rfl) (by decide+kernel)) rfl
    (qS5 (by rfl) G.zip (qQ (pv 2) (qQ (oN eO (pv 0) (lX qV) lJ) qJ)))
    (fun C s H fp pins=>pv 1) (fun C s H fp pins=>qSq K rfl rfl ndb rfl rfl (Or.inl rfl) (Or.inl rfl) (by rfl) (by rfl))
    (fun C s H fp pins=>qE jB (pv 0) (pv 2) (nomark _))))),?_⟩
  walk_at "e"
  refine⟨ta,D,rfl,T,_,rfl,pt,_,_,.str wd,rfl,rfl,hp,qY (j:=0) rfl,(by show 0<=sizeLine;decide),fun t0 ht0=>?_⟩
  have g0:Grow H (upd H t0 (.tup [])):=Grow.put ht0
  refine⟨wd,.ref t0,rfl,?_⟩
  obtain⟨tp,e1,s1⟩:∃tp,(aq17 wd D).getD (.ref t0)= .ref tp/\zO K (upd H t0 (.tup [])) tp ((zK wd).map V.str):=by
   rcases hT wd with⟨z1,z2⟩|⟨tp,z1,z2⟩
   ·exact⟨t0,by rw[z2];rfl,by rw[z1];exact zO.of qX⟩
   ·exact⟨tp,by rw[z1];rfl,z2 _⟩
  walk_at "d"
  rw[e1]
  generalize upd H t0 (.tup [])=H1 at g0 s1⊢
  have hp1:=zO.mono g0.same hp
  refine⟨_,rfl,_,rfl,_,rfl,pt,_,rfl,hp1,qQ9 _ _,fun t1 ht1=>?_⟩
  rw[cut1]
  have g1:Grow H1 (upd H1 t1 (.tup xs)):=Grow.put ht1
  have s2:=zO.mono g1.same s1
  have s3:zO K (upd H1 t1 (.tup xs)) t1 xs:=zO.of qX
  generalize upd H1 t1 (.tup xs)=H2 at g1 s2 s3⊢
  refine⟨tp,t1,_,_,rfl,s2,s3,fun D0 hD0=>?_⟩
  exact qS7 (i0:=1) (t:=srt) (R:=fun H'=>Q (.ref D0) H') rfl s2 s3 hx hD0 fun H' g e=>q D0 H' ((g0.trans g1).trans g) ((g0.trans g1).none _ hD0) e
def uN:Sp:=fun vs H Q _=>vs=[.bl true]/\Q .non H
theorem zW0:qO ["holds"] ["holds"] (qU qSj):=by walk_at "s"
theorem qT0{f:Addr}{fd:FuncData}(F:zZ K "require" "require" qSj .none f fd):qS P w K mg base (CXE P w) 1 f fd ["holds"] uN:=by
 refine F.ok0 zW0 (fun vs H Q E h=>?_) (fun cdv A outer s H vs Q E hr h=>?_)
 ·obtain⟨rfl,_⟩:=h
  rfl
 ·obtain⟨rfl,q⟩:=h
  refine⟨_,qK (zC (wU (jE (pv 0))) jF zQ),?_⟩
  walk_at "e"
  exact⟨_,rfl,true,rfl,jO q⟩
inductive qBj(K:Fg)(vs:List V)(H:Hp)(Q:VK):Prop
 |mk (pt:Addr) (wd:Str) (xs:List V) (a_0:vs=[.ref pt]) (a_1:zO K H pt (.str wd::xs)) (a_2:xs.length<=1000) (a_3:∀l H',Grow H H'->H l=none->H' l=some (.lst (behind (zK wd) xs "name"))->Q (.ref l) H'):qBj K vs H Q
def qZ2(K:Fg):Sp:=fun vs H Q x_0=>qBj K vs H Q
theorem zL8:qO ["part"] ["part"] (qU sNB):=by walk_at "s"
theorem zW1{f fV:Addr}{fd fdV:FuncData}(F:zZ K "names_bound" "names_bound" sNB .none f fd)(GV:qS P w K mg base (CXE P w) 1 fV fdV ["part","sort"] (mN K))(mV:mg "values_behind"=some (.ref fV))(kV:PySem.W.keepIn K (.ref fV)=true)(bV:Binds K fdV ["part","sort"] []):
  qS P w K mg base (CXE P w) 2 f fd ["part"] (qZ2 K):=by
 refine F.ok0 zL8 (fun vs H Q E h=>?_) (fun cdv A outer s H vs Q E hr h=>?_)
 ·obtain⟨pt,wd,xs,rfl,_⟩:=h
  rfl
 ·obtain⟨pt,wd,xs,rfl,hp,hx,q⟩:=h
  refine⟨_,qK (qM (vK GV hr (by rfl) mV kV bV .nil zS (qQ (pv 0) (qQ qC qJ)))),?_⟩
  walk_at "e"
  exact⟨_,rfl,pt,"name",wd,xs,rfl,hp,hx,q⟩
inductive qD0(vs:List V)(H:Hp)(Q:VK):Prop
 |mk (sc:Addr) (x:Str) (u:V) (kvs:List (Key×V)) (a_0:vs=[.ref sc,.str x,u]) (a_1:H sc=some (.dK kvs)) (a_2:kvs.length<=1000000) (a_3:∀d H',Grow H H'->H' d=some (.dK (kM kvs (Sum.inr x) u))->Q (.ref d) H'):qD0 vs H Q
def dP:Sp:=fun vs H Q x_0=>qD0 vs H Q
theorem zW2:qO ["scope","name","bound","inner"] ["scope","name","bound"] (qU sWN):=by walk_at "s"
theorem zW3{f:Addr}{fd:FuncData}(F:zZ K "with_name" "with_name" sWN .none f fd)(zd:mg "dict"=none):qS P w K mg base (CXE P w) 1 f fd ["scope","name","bound"] dP:=by
 refine F.ok0 zW2 (fun vs H Q E h=>?_) (fun cdv A outer s H vs Q E hr h=>?_)
 ·obtain⟨sc,x,u,kvs,rfl,_⟩:=h
  rfl
 ·obtain⟨sc,x,u,kvs,rfl,hs,hl,q⟩:=h
  have hu:A.units+0<=A.units:=aq7 _
  refine⟨_,qZ (qB (i:=3) zW2.nd rfl (Or.inl rfl) (xW dD (by rfl) zd PyProof.Rows.boot_dict (qQ (pv 0) qJ)))
   (qZ (lO (Nat.lt_of_succ_lt hr.u2) (pv 3) (pv 1) (pv 2) rfl) (qK (qM (pv 3)))),?_⟩
  walk_at "e"
  refine⟨_,rfl,sc,kvs,rfl,hs,fun d hd=>?_⟩
  walk_at "d"
  have g1:Grow H (upd H d (.dK kvs)):=Grow.put hd
  refine⟨_,rfl,_,rfl,_,rfl,d,_,rfl,DPut.k (k:=Sum.inr x) qX (by rw[sizeLine_eq];omega),?_⟩
  refine⟨_,rfl,q d _ ?_ qX⟩
  rw[pD]
  exact Grow.put hd
inductive qD1(vs:List V)(H:Hp)(Q:VK):Prop
 |mk (sc:Addr) (x:Str) (u:V) (kvs:List (Key×V)) (a_0:vs=[.ref sc,.str x]) (a_1:H sc=some (.dK kvs)) (a_2:kX kvs (Sum.inr x)=some u) (a_3:Q u H):qD1 vs H Q
def dA:Sp:=fun vs H Q x_0=>qD1 vs H Q
theorem zL9:qO ["scope","name"] ["scope","name"] (qU sLU):=by walk_at "s"
theorem zW4{f:Addr}{fd:FuncData}(F:zZ K "looked_up" "looked_up" sLU .none f fd):qS P w K mg base (CXE P w) 1 f fd ["scope","name"] dA:=by
 refine F.ok0 zL9 (fun vs H Q E h=>?_) (fun cdv A outer s H vs Q E hr h=>?_)
 ·obtain⟨sc,x,u,kvs,rfl,_⟩:=h
  rfl
 ·obtain⟨sc,x,u,kvs,rfl,hs,hv,q⟩:=h
  refine⟨_,qZ (zC (qP8 (tO (Nat.lt_of_succ_lt hr.u2) (pv 1) (pv 0))) jF zQ) (qK (qM (qIq (Nat.lt_of_succ_lt hr.u2) (pv 0) (pv 1) (fun _ _=>rfl)))),?_⟩
  walk_at "e"
  refine⟨_,rfl,_,rfl,sc,_,rfl,DGet.k (k:=Sum.inr x) hs,_,rfl,?_⟩
  rw[hv]
  refine jO ⟨_,rfl,_,rfl,sc,u,rfl,?_,q⟩
  have :=DGet.k (k:=Sum.inr x) hs
  rw[hv]at this
  exact this
inductive qD2(K:Fg)(vs:List V)(H:Hp)(Q:VK):Prop
 |mk (v:V) (wd:Str) (ds:List Dt) (a_0:vs=[v,.str wd]) (a_1:qW K H (.tup (.str wd::ds)) v) (a_2:Q .non H):qD2 K vs H Q
def dE(K:Fg):Sp:=fun vs H Q x_0=>qD2 K vs H Q
theorem qZ3(K:Fg):PySem.W.kitOne K (.type "tuple") (.type "tuple")=some true:=by
 unfold PySem.W.kitOne
 rw[if_pos (by decide)]
theorem zLq:qO ["kind","word"] ["kind","word"] (qU sRW):=by walk_at "s"
structure GlI(mg:Str->Option Value):Prop where
 isi:mg "isinstance"=none
 tuple:mg "tuple"=none
variable {fR fW:Addr} {fdR fdW:FuncData}
theorem zW5{f:Addr}{fd:FuncData}(F:zZ K "require_word" "require_word" sRW .none f fd)(G:GlI mg)(GR:qS P w K mg base (CXE P w) 1 fR fdR ["holds"] uN)(mR:mg "require"=some (.ref fR))(kR:PySem.W.keepIn K (.ref fR)=true)(bR:Binds K fdR ["holds"] []):qS P w K mg base (CXE P w) 2 f fd ["kind","word"] (dE K):=by
 refine F.ok0 zLq (fun vs H Q E h=>?_) (fun cdv A outer s H vs Q E hr h=>?_)
 ·obtain⟨v,wd,ds,rfl,_⟩:=h
  rfl
 ·obtain⟨v,wd,ds,rfl,hv,q⟩:=h
  refine⟨_,qK (qN (vK GR hr (by rfl) mR kR bR .nil zS (qQ (bN (zI oS (by rfl) G.isi PyProof.Rows.boot_isinstance (qQ (pv 0) (qQ (cP (v:=.ty "tuple") (by rfl) G.tuple PyProof.Rows.boot_tuple rfl) qJ)))
   (bG (jZ jB (qL qP (pv 0) qV (fun _ _=>rfl)) (pv 1) (nomark _)))) qJ))),?_⟩
  walk_at "e"
  obtain⟨a,vs,rfl,hs,hd⟩:=kN hv
  obtain⟨v0,r,rfl,h0,_⟩:=qD hd
  cases jR h0
  refine⟨_,rfl,.tup (.str wd::ds),_,"tuple",true,rfl,hv,qZ3 K,true,rfl,jN ?_⟩
  refine⟨_,rfl,a,_,_,.str wd,rfl,rfl,hs,qY (j:=0) rfl,_,rfl,rfl,?_⟩
  rw[decide_eq_true (rfl:V.str wd=V.str wd)]
  exact⟨rfl,q⟩
end
end K19
namespace L2
open PySem PySem.Spec PyProof.Rows PyProof Dt
def Kn(P:Program)(w:World)(K:Fg)(mg:Str->Option Value)(base:Heap)(k:Nat)(x:Str)(ps:List Str)(sp:Sp):Prop:=
 ∃f fd,qS P w K mg base (CXE P w) k f fd ps sp/\mg x=some (.ref f)/\PySem.W.keepIn K (.ref f)=true/\Binds K fd ps []
section
variable {X:Cx} {k:Nat} {ps:List Str} {sp:Sp} {x:Str} {p pos:Pos} {e:Expr} {es:List Expr} {t:TA}
theorem zY(G:Kn X.prog X.w X.K X.mg X.base k x ps sp)(hr:Room k X.A)(ha:PA X (e::es) t)(hg:Gl X x:=by rfl)
  (hdb:(x==("__debug__":Str))=false:=by decide)(he:starEach (e::es) X.env=(false,eval e X.env)::starEach es X.env:=by rfl)(hpl:(backTo pos (starEach es X.env)).any (·.1)=false:=by rfl):
  PE X (.Call (.Name x p) (e::es) [] pos) (oI sp [] E0 t):=by
 obtain⟨f,fd,F,m,kp,b⟩:=G
 exact vK F hr hg m kp b .nil zS ha hdb he hpl
theorem tM:MtR X "list.index" (fun x xs H Q=>∃(p:Addr)(ys:List V)(xv:V)(d:Dt)(ds:List Dt),x= .ref p/\xs=[xv]/\zH X.K H p ys/\qW X.K H d xv/\qI X.K H ds ys/\X.A.units+1+deps ds<cLine/\qC0 d ds=true/\
  ∀(j:Nat)(e:Dt),ds[j]? =some e->eqD e d=true->Q (.int j) H):=by
 intro pins s σ H x xs v us Q I rx rs h
 obtain⟨p,ys,xv,d,ds,rfl,rfl,hq,hd,hds,hu,hin,q⟩:=h
 cases rx
 obtain⟨u,rfl,e⟩:=vals1 rs
 obtain⟨its,rv,⟨⟨cls,dd,data,sl⟩,n,ho,hc,hdd,hdata⟩,hz⟩:=I.list hq
 simp only at hc hdd hdata
 subst hc hdd hdata
 obtain⟨f,hf,hm⟩:=qQ2 I X.A.in1 d xv u hd e hds rv (by show X.A.units+1+deps ds<cLine;exact hu)
 have hl:its.length=ds.length:=by rw[<-rv.length,hds.length]
 have hany:its.any f=true:=by
  rw[yO,hm,<-yO]
  exact hin
 have hj:its.findIdx f<its.length:=List.findIdx_lt_length_of_exists (by simpa using hany)
 have hit:f its[its.findIdx f]=true:=List.findIdx_getElem
 have hno:∀m(hm:m<its.length),m<its.findIdx f->f its[m]=false:=fun m _ h=>by
  have :=List.not_of_lt_findIdx h
  simpa using this
 refine call_meets PySem.F.slot_list_index ⟨_,ho,rfl⟩ PySem.F.entry_list_index (PySem.F.args_list_index_2 _ _) (SeqAt.list_indexAt p its.toArray n none sl u f (its.findIdx f) (by simpa using hj) ?_ (by simpa using hit) (fun m hm h=>by simpa using hno m (by simpa using hm) h)) ⟨ho,fun y hy=>hf y (by simpa using hy),?_⟩
 ·have :=rv.length
  have :its.length<=sizeLine:=by omega
  rw[sizeLine_eq]at this
  omega
 ·refine⟨.int _,H,I.tok _,⟨_,rfl⟩,?_⟩
  have hj':its.findIdx f<ds.length:=by omega
  refine q _ _ (List.getElem?_eq_getElem hj') ?_
  have :=congrArg (fun l=>l[its.findIdx f]?) hm
  simp only[List.getElem?_map,List.getElem?_eq_getElem hj,List.getElem?_eq_getElem hj',Option.map_some]at this
  rw[<-Option.some.inj this]
  exact hit
end
theorem mD{K:Fg}{a:Addr}{xs:List V}{te:TE}{ix:List Nat}{σ:St}{H:Hp}{D:Addr}{R:Hp->Prop}(Pv:Nat->List V->Hp->Prop)(h0:Pv 0 [] (upd H D (.lst [])))(hx:∀i ys H',i<=xs.length->Pv i ys H'->zH K H' a xs)
  (he:∀i x ys H',xs[i]? =some x->Pv i ys H'->∀Q':VK,(∀y H6,H6 D=some (.lst ys)->ys.length<sizeLine->Pv (i+1) (ys++[y]) (upd H6 D (.lst (ys++[y])))->Q' y H6)->te (xE ix [some x] σ) H' Q')(q:∀ys H',Pv xs.length ys H'->R H'):
  ∃W:Nat->Nat->List V->Hp->Prop,(∃m,W 0 m [] (upd H D (.lst [])))/\∀i m ys H2,W i m ys H2->
   ((Itl K a).stop i H2/\R H2)\/((Itl K a).go i H2/\∀(o:List (Option V))v H3,o.length=1->(Itl K a).yld i H2 v H3->xD 0 v (xE ix o σ) H3 fun σ2 H4=>(∃o':List (Option V),σ2=xE ix o' σ/\o'.length=1)/\
    ifT none σ2 H4 fun b H5=>if b=true then te σ2 H5 fun y H6=>H6 D=some (.lst ys)/\ys.length<sizeLine/\∃m',m'<m/\W (i+1) m' (ys++[y]) (upd H6 D (.lst (ys++[y])))else∃m',m'<m/\W (i+1) m' ys H5):=by
 refine⟨fun i m ys H2=>i<=xs.length/\m=xs.length-i/\Pv i ys H2,⟨_,Nat.zero_le _,rfl,h0⟩,?_⟩
 rintro i m ys H2 ⟨hi,rfl,p⟩
 have hx2:=hx i ys H2 hi p
 by_cases hl:i<xs.length
 ·refine .inr ⟨⟨xs,xs[i],hx2,List.getElem?_eq_getElem hl⟩,fun o v H3 ho hy=>?_⟩
  obtain⟨rfl,hv⟩:=hy
  have hv':=hv xs hx2
  match o,ho with
  |[_],_=>
   refine⟨⟨[some v],rfl,rfl⟩,?_⟩
   dsimp only[ifT]
   exact jN (he i v ys _ hv' p _ fun y H6 e1 e2 p'=>⟨e1,e2,xs.length-(i+1),by omega,hl,rfl,p'⟩)
 ·have e:i=xs.length:=by omega
  subst e
  exact .inl ⟨⟨xs,hx2,aq7 _⟩,q _ _ p⟩
end L2
namespace K19
open PySem L2 PyProof Dt
abbrev sPK:Stmt:=top 93
section
variable {P:Program} {w:World} {K:Fg} {mg:Str->Option Value} {base:Heap} {f:Addr} {fd:FuncData}
theorem oA{k n:Nat}{A:Around}(r:Room k A)(h:n<=150):A.units+1+n<cLine:=by have :=r.un;omega
theorem xR{k n:Nat}{A:Around}(r:Room k A)(h:n<=150):A.units+n<cLine:=by have :=r.un;omega
theorem uK(k:Kd)(h:k.sz<=40):dep k.dt<=40:=by rw[Kd.dep_dt];have :=Kd.deep_sz k;omega
theorem lG:∀ks:List Kd,(∀k∈ks,k.sz<=40)->deps (ks.map Kd.dt)<=40
 |[],_=>by simp[deps]
 |k::ks,h=>by
  have h1:=uK k (h k List.mem_cons_self)
  have h2:=lG ks fun l hl=>h l (aq10 _ hl)
  rw[List.map_cons,deps];omega
inductive qD3(K:Fg)(R:List Kd->Kd->Prop)(vs:List V)(H:Hp)(Q:VK):Prop
 |mk (ks:Addr) (ws:List V) (ds:List Kd) (m:Kd) (a_0:vs=[.ref ks]) (a_1:zH K H ks ws) (a_2:qI K H (ds.map Kd.dt) ws) (a_3:(∀d∈ds,d.sz<=40)) (a_4:R ds m) (a_5:∀v H',Grow H H'->qW K H' m.dt v->Q v H'):qD3 K R vs H Q
def lM(K:Fg)(R:List Kd->Kd->Prop):Sp:=fun vs H Q x_0=>qD3 K R vs H Q
def qZ4:List Kd->Kd->Prop:=fun ds m=>∃k,ds=[k,.list k]/\m= .list k
def qZ5:List Kd->Kd->Prop:=fun ds m=>ds=[.list m]
def qZ6:List Kd->Kd->Prop:=fun ds m=>∃k,ds=[.list k]/\m= .list k
def fQ:List Kd->Kd->Prop:=fun ds m=>∃k,ds=[.list k]/\m= .bool
def fZ:List Kd->Kd->Prop:=fun ds m=>∃l,ds=[.pair m l]
def lN:List Kd->Kd->Prop:=fun ds m=>∃k,ds=[.pair k m]
def rIf:List Kd->Kd->Prop:=fun ds m=>ds=[.bool,m,m]
def qZ7:List Kd->Kd->Prop:=fun ds m=>∃k,ds=[.fn k m,k]
theorem qC4{k:Kd}{H:Hp}{v:V}(h:qW K H (Kd.list k).dt v):∃a u,v= .ref a/\zO K H a [.str "list",u]/\qW K H k.dt u:=kC h
theorem rL{k l:Kd}{H:Hp}{v:V}(h:qW K H (Kd.pair k l).dt v):∃a u w,v= .ref a/\zO K H a [.str "pair",u,w]/\qW K H k.dt u/\qW K H l.dt w:=mG h
theorem zW6{k l:Kd}{H:Hp}{v:V}(h:qW K H (Kd.fn k l).dt v):∃a u w,v= .ref a/\zO K H a [.str "fun",u,w]/\qW K H k.dt u/\qW K H l.dt w:=mG h
theorem nQ(i:Nat)(h:i=80\/i=81\/i=82\/i=83\/i=84\/i=85\/i=86\/i=87):qO ["kinds"] ["kinds"] (qU (top i)):=by
 rcases h with rfl|rfl|rfl|rfl|rfl|rfl|rfl|rfl<;>exact⟨rfl,rfl,rfl,by decide+kernel,rfl,by decide+kernel,by decide+kernel⟩
theorem qC5(F:zZ K "head_kind" "head_kind" qB8 .none f fd)(GW:Kn P w K mg base 2 "require_word" ["kind","word"] (dE K)):qS P w K mg base (CXE P w) 3 f fd ["kinds"] (lM K qZ5):=by
 refine F.ok0 (nQ 81 (by decide)) (fun vs H Q E h=>?_) (fun cdv A outer s H vs Q E hr h=>?_)
 ·obtain⟨ks,ws,ds,m,rfl,_⟩:=h
  rfl
 ·obtain⟨ks,ws,ds,m,rfl,hs,hd,hz,rfl,q⟩:=h
  obtain⟨u,r,rfl,hu,hr0⟩:=qD hd
  cases zD hr0
  refine⟨_,qZ (qN (zY GW hr (qQ (qL zJ (pv 0) qV (fun _ _=>rfl)) (qQ qC qJ)))) (qK (qM (qL qP (qL zJ (pv 0) qV (fun _ _=>rfl)) qV (fun _ _=>rfl)))),?_⟩
  walk_at "e"
  obtain⟨a,y,rfl,ha,hy⟩:=qC4 hu
  refine⟨_,rfl,ks,_,_,_,rfl,rfl,hs,qY (j:=0) rfl,_,_,_,rfl,hu,?_⟩
  exact⟨_,rfl,ks,_,_,_,rfl,rfl,hs,qY (j:=0) rfl,a,_,_,y,rfl,rfl,ha,qY (j:=1) rfl,q y H (Grow.refl H) hy⟩
theorem qC6(F:zZ K "tail_kind" "tail_kind" qB9 .none f fd)(GW:Kn P w K mg base 2 "require_word" ["kind","word"] (dE K)):qS P w K mg base (CXE P w) 3 f fd ["kinds"] (lM K qZ6):=by
 refine F.ok0 (nQ 82 (by decide)) (fun vs H Q E h=>?_) (fun cdv A outer s H vs Q E hr h=>?_)
 ·obtain⟨ks,ws,ds,m,rfl,_⟩:=h
  rfl
 ·obtain⟨ks,ws,ds,m,rfl,hs,hd,hz,⟨k,rfl,rfl⟩,q⟩:=h
  obtain⟨u,r,rfl,hu,hr0⟩:=qD hd
  cases zD hr0
  refine⟨_,qZ (qN (zY GW hr (qQ (qL zJ (pv 0) qV (fun _ _=>rfl)) (qQ qC qJ)))) (qK (qM (qL zJ (pv 0) qV (fun _ _=>rfl)))),?_⟩
  walk_at "e"
  refine⟨_,rfl,ks,_,_,_,rfl,rfl,hs,qY (j:=0) rfl,_,_,_,rfl,hu,?_⟩
  exact⟨_,rfl,ks,_,_,_,rfl,rfl,hs,qY (j:=0) rfl,q _ H (Grow.refl H) hu⟩
theorem qZ8(F:zZ K "empty_kind" "empty_kind" qZ0 .none f fd)(GW:Kn P w K mg base 2 "require_word" ["kind","word"] (dE K)):qS P w K mg base (CXE P w) 3 f fd ["kinds"] (lM K fQ):=by
 refine F.ok0 (nQ 83 (by decide)) (fun vs H Q E h=>?_) (fun cdv A outer s H vs Q E hr h=>?_)
 ·obtain⟨ks,ws,ds,m,rfl,_⟩:=h
  rfl
 ·obtain⟨ks,ws,ds,m,rfl,hs,hd,hz,⟨k,rfl,rfl⟩,q⟩:=h
  obtain⟨u,r,rfl,hu,hr0⟩:=qD hd
  cases zD hr0
  refine⟨_,qZ (qN (zY GW hr (qQ (qL zJ (pv 0) qV (fun _ _=>rfl)) (qQ qC qJ)))) (qK (qM qC)),?_⟩
  walk_at "e"
  refine⟨_,rfl,ks,_,_,_,rfl,rfl,hs,qY (j:=0) rfl,_,_,_,rfl,hu,?_⟩
  exact q _ H (Grow.refl H) (wG _)
theorem qZ9(F:zZ K "first_kind" "first_kind" qZ1 .none f fd)(GW:Kn P w K mg base 2 "require_word" ["kind","word"] (dE K)):qS P w K mg base (CXE P w) 3 f fd ["kinds"] (lM K fZ):=by
 refine F.ok0 (nQ 84 (by decide)) (fun vs H Q E h=>?_) (fun cdv A outer s H vs Q E hr h=>?_)
 ·obtain⟨ks,ws,ds,m,rfl,_⟩:=h
  rfl
 ·obtain⟨ks,ws,ds,m,rfl,hs,hd,hz,⟨k,rfl⟩,q⟩:=h
  obtain⟨u,r,rfl,hu,hr0⟩:=qD hd
  cases zD hr0
  refine⟨_,qZ (qN (zY GW hr (qQ (qL zJ (pv 0) qV (fun _ _=>rfl)) (qQ qC qJ)))) (qK (qM (qL qP (qL zJ (pv 0) qV (fun _ _=>rfl)) qV (fun _ _=>rfl)))),?_⟩
  walk_at "e"
  obtain⟨a,y,z,rfl,ha,hy,hz'⟩:=rL hu
  refine⟨_,rfl,ks,_,_,_,rfl,rfl,hs,qY (j:=0) rfl,_,_,_,rfl,hu,?_⟩
  exact⟨_,rfl,ks,_,_,_,rfl,rfl,hs,qY (j:=0) rfl,a,_,_,y,rfl,rfl,ha,qY (j:=1) rfl,q y H (Grow.refl H) hy⟩
theorem tN(F:zZ K "second_kind" "second_kind" rO .none f fd)(GW:Kn P w K mg base 2 "require_word" ["kind","word"] (dE K)):qS P w K mg base (CXE P w) 3 f fd ["kinds"] (lM K lN):=by
 refine F.ok0 (nQ 85 (by decide)) (fun vs H Q E h=>?_) (fun cdv A outer s H vs Q E hr h=>?_)
 ·obtain⟨ks,ws,ds,m,rfl,_⟩:=h
  rfl
 ·obtain⟨ks,ws,ds,m,rfl,hs,hd,hz,⟨k,rfl⟩,q⟩:=h
  obtain⟨u,r,rfl,hu,hr0⟩:=qD hd
  cases zD hr0
  refine⟨_,qZ (qN (zY GW hr (qQ (qL zJ (pv 0) qV (fun _ _=>rfl)) (qQ qC qJ)))) (qK (qM (qL qP (qL zJ (pv 0) qV (fun _ _=>rfl)) qV (fun _ _=>rfl)))),?_⟩
  walk_at "e"
  obtain⟨a,y,z,rfl,ha,hy,hz'⟩:=rL hu
  refine⟨_,rfl,ks,_,_,_,rfl,rfl,hs,qY (j:=0) rfl,_,_,_,rfl,hu,?_⟩
  exact⟨_,rfl,ks,_,_,_,rfl,rfl,hs,qY (j:=0) rfl,a,_,_,z,rfl,rfl,ha,qY (j:=2) rfl,q z H (Grow.refl H) hz'⟩
theorem qC7(F:zZ K "call_kind" "call_kind" qBq .none f fd)(GR:Kn P w K mg base 1 "require" ["holds"] uN)(GW:Kn P w K mg base 2 "require_word" ["kind","word"] (dE K)):qS P w K mg base (CXE P w) 3 f fd ["kinds"] (lM K qZ7):=by
 refine F.ok0 (nQ 87 (by decide)) (fun vs H Q E h=>?_) (fun cdv A outer s H vs Q E hr h=>?_)
 ·obtain⟨ks,ws,ds,m,rfl,_⟩:=h
  rfl
 ·obtain⟨ks,ws,ds,m,rfl,hs,hd,hz,⟨k,rfl⟩,q⟩:=h
  obtain⟨u,r,rfl,hu,hr0⟩:=qD hd
  obtain⟨v,r,rfl,hv,hr0⟩:=qD hr0
  cases zD hr0
  refine⟨_,qZ (qN (zY GW hr (qQ (qL zJ (pv 0) qV (fun _ _=>rfl)) (qQ qC qJ))))
   (qZ (qN (zY GR (hr.mono (by omega)) (qQ (jZ vD (qL qP (qL zJ (pv 0) qV (fun _ _=>rfl)) qV (fun _ _=>rfl)) (qL zJ (pv 0) qV (fun _ _=>rfl)) (nomark _)) qJ)))
   (qK (qM (qL qP (qL zJ (pv 0) qV (fun _ _=>rfl)) qV (fun _ _=>rfl))))),?_⟩
  walk_at "e"
  obtain⟨a,y,z,rfl,ha,hy,hz'⟩:=zW6 hu
  refine⟨_,rfl,ks,_,_,_,rfl,rfl,hs,qY (j:=0) rfl,_,_,_,rfl,hu,?_⟩
  refine⟨_,rfl,ks,_,_,_,rfl,rfl,hs,qY (j:=0) rfl,a,_,_,y,rfl,rfl,ha,qY (j:=1) rfl,_,rfl,ks,_,_,v,rfl,rfl,hs,qY (j:=1) rfl,k.dt,k.dt,hy,hv,?_,?_⟩
  ·exact xR hr (Nat.le_trans (uK k (hz k (by simp))) (by decide))
  ·rw[kI]
   refine⟨rfl,?_⟩
   exact⟨_,rfl,ks,_,_,_,rfl,rfl,hs,qY (j:=0) rfl,a,_,_,z,rfl,rfl,ha,qY (j:=2) rfl,q z H (Grow.refl H) hz'⟩
theorem ok_cons(F:zZ K "cons_kind" "cons_kind" qB7 .none f fd)(GR:Kn P w K mg base 1 "require" ["holds"] uN):qS P w K mg base (CXE P w) 3 f fd ["kinds"] (lM K qZ4):=by
 refine F.ok0 (nQ 80 (by decide)) (fun vs H Q E h=>?_) (fun cdv A outer s H vs Q E hr h=>?_)
 ·obtain⟨ks,ws,ds,m,rfl,_⟩:=h
  rfl
 ·obtain⟨ks,ws,ds,m,rfl,hs,hd,hz,⟨k,rfl,rfl⟩,q⟩:=h
  obtain⟨u,r,rfl,hu,hr0⟩:=qD hd
  obtain⟨v,r,rfl,hv,hr0⟩:=qD hr0
  cases zD hr0
  refine⟨_,qZ (qN (zY GR (hr.mono (by omega)) (qQ (jZ vD (qL zJ (pv 0) qV (fun _ _=>rfl)) (zF (qQ qC (qQ (qL zJ (pv 0) qV (fun _ _=>rfl)) qJ))) (nomark _)) qJ)))
   (qK (qM (qL zJ (pv 0) qV (fun _ _=>rfl)))),?_⟩
  walk_at "e"
  refine⟨_,rfl,ks,_,_,v,rfl,rfl,hs,qY (j:=1) rfl,_,rfl,ks,_,_,u,rfl,rfl,hs,qY (j:=0) rfl,(by show 2<=sizeLine;decide),fun c hc=>?_⟩
  have g1:Grow H (upd H c (.tup [.str "list",u])):=Grow.put hc
  have e1:zO K (upd H c (.tup [.str "list",u])) c [.str "list",u]:=zO.of qX
  generalize upd H c (.tup [.str "list",u])=H1 at g1 e1⊢
  refine⟨(Kd.list k).dt,(Kd.list k).dt,hv.mono g1.same,cW e1 (hu.mono g1.same),xR hr (Nat.le_trans (uK _ (hz _ (by simp))) (by decide)),?_⟩
  rw[kI]
  refine⟨rfl,?_⟩
  exact⟨_,rfl,ks,_,_,v,rfl,rfl,g1.same.seq hs,qY (j:=1) rfl,q v _ g1 (hv.mono g1.same)⟩
theorem zW7(F:zZ K "if_kind" "if_kind" sIf .none f fd)(GR:Kn P w K mg base 1 "require" ["holds"] uN):qS P w K mg base (CXE P w) 3 f fd ["kinds"] (lM K rIf):=by
 refine F.ok0 (nQ 86 (by decide)) (fun vs H Q E h=>?_) (fun cdv A outer s H vs Q E hr h=>?_)
 ·obtain⟨ks,ws,ds,m,rfl,_⟩:=h
  rfl
 ·obtain⟨ks,ws,ds,m,rfl,hs,hd,hz,rfl,q⟩:=h
  obtain⟨t,r,rfl,ht,hr0⟩:=qD hd
  obtain⟨u,r,rfl,hu,hr0⟩:=qD hr0
  obtain⟨v,r,rfl,hv,hr0⟩:=qD hr0
  cases zD hr0
  refine⟨_,qZ (qN (zY GR (hr.mono (by omega)) (qQ (bN (jZ vD (qL zJ (pv 0) qV (fun _ _=>rfl)) qC (nomark _)) (bG (jZ vD (qL zJ (pv 0) qV (fun _ _=>rfl)) (qL zJ (pv 0) qV (fun _ _=>rfl)) (nomark _)))) qJ)))
   (qK (qM (qL zJ (pv 0) qV (fun _ _=>rfl)))),?_⟩
  walk_at "e"
  refine⟨_,rfl,ks,_,_,t,rfl,rfl,hs,qY (j:=0) rfl,(Kd.bool).dt,(Kd.bool).dt,ht,wG _,xR hr (Nat.le_trans (uK .bool (by decide)) (by decide)),?_⟩
  rw[kI]
  refine⟨true,rfl,jN ?_⟩
  refine⟨_,rfl,ks,_,_,u,rfl,rfl,hs,qY (j:=1) rfl,_,rfl,ks,_,_,v,rfl,rfl,hs,qY (j:=2) rfl,m.dt,m.dt,hu,hv,xR hr (Nat.le_trans (uK m (hz _ (by simp))) (by decide)),?_⟩
  rw[kI]
  refine⟨rfl,?_⟩
  exact⟨_,rfl,ks,_,_,u,rfl,rfl,hs,qY (j:=1) rfl,q u _ (Grow.refl H) hu⟩
inductive wV(K:Fg)(H:Hp)(pr:Addr)(n:Nat):Prop
 |mk (ps:List V) (ks:List Kd) (a_0:H pr=some (.lst ps)) (a_1:qI K H (ks.map Kd.dt) ps) (a_2:∀k∈ks,k.sz<=40) (a_3:ks.length<=n):wV K H pr n
theorem wV.le{H:Hp}{pr:Addr}{m n:Nat}(h:wV K H pr m)(l:m<=n):wV K H pr n:=let⟨ps,ks,a,b,c,d⟩:=h;⟨ps,ks,a,b,c,Nat.le_trans d l⟩
theorem wV.mono{H H':Hp}{pr:Addr}{n:Nat}(h:wV K H pr n)(g:Grow H H'):wV K H' pr n:=let⟨ps,ks,a,b,c,d⟩:=h;⟨ps,ks,g.same _ _ a,b.mono g.same,c,d⟩
theorem wV.tups{H H':Hp}{pr:Addr}{n:Nat}(h:wV K H pr n)(g:jV pr H H'):jG K H H':=let⟨_,_,a,_,_,_⟩:=h;g.tups a
inductive qD4(K:Fg)(vs:List V)(H:Hp)(Q:VK):Prop
 |mk (ks:Addr) (pr:Addr) (u:V) (v:V) (k:Kd) (l:Kd) (n:Nat) (a_0:vs=[.ref ks,.ref pr]) (a_1:zH K H ks [u,v]) (a_2:qW K H k.dt u) (a_3:qW K H l.dt v) (a_4:(Kd.pair k l).sz<=40) (a_5:wV K H pr n) (a_6:n<=100000) (a_7:∀r H',jV pr H H'->wV K H' pr (n+1)->qW K H' (Kd.pair k l).dt r->Q r H'):qD4 K vs H Q
def qT1(K:Fg):Sp:=fun vs H Q x_0=>qD4 K vs H Q
theorem zW8:qO ["kinds","pairs","kind"] ["kinds","pairs"] (qU sPK):=by walk_at "s"
theorem zW9(F:zZ K "pair_kind" "pair_kind" sPK .none f fd):qS P w K mg base (CXE P w) 1 f fd ["kinds","pairs"] (qT1 K):=by
 refine F.ok0 zW8 (fun vs H Q E h=>?_) (fun cdv A outer s H vs Q E hr h=>?_)
 ·obtain⟨ks,pr,u,v,k,l,n,rfl,_⟩:=h
  rfl
 ·obtain⟨ks,pr,u,v,k,l,n,rfl,hs,hu,hv,hz,hp,hn,q⟩:=h
  refine⟨_,qZ (qB (i:=2) zW8.nd rfl (Or.inl rfl) (zF (qQ qC (qQ (qL zJ (pv 0) qV (fun _ _=>rfl)) (qQ (qL zJ (pv 0) qV (fun _ _=>rfl)) qJ)))))
   (qZ (zC (qE qS2 (pv 2) (pv 1) rfl) (qK (qM (qL zJ (pv 1) (jJ aq0 PySem.F.slot_list_index PySem.F.type_list_index tM (pv 1) (qQ (pv 2) qJ)) (fun _ _=>rfl)))) zQ)
   (qZ (qN (jJ aq0 aq1 aq2 qA (pv 1) (qQ (pv 2) qJ)))
   (qK (qM (pv 2))))),?_⟩
  walk_at "e"
  refine⟨_,rfl,ks,_,_,u,rfl,rfl,hs,qY (j:=0) rfl,_,rfl,ks,_,_,v,rfl,rfl,hs,qY (j:=1) rfl,(by show 3<=sizeLine;decide),fun c hc=>?_⟩
  walk_at "d"
  have g1:Grow H (upd H c (.tup [.str "pair",u,v])):=Grow.put hc
  have e1:zO K (upd H c (.tup [.str "pair",u,v])) c [.str "pair",u,v]:=zO.of qX
  generalize upd H c (.tup [.str "pair",u,v])=H1 at g1 e1⊢
  have hk:qW K H1 (Kd.pair k l).dt (.ref c):=qQj e1 (hu.mono g1.same) (hv.mono g1.same)
  have hp1:=hp.mono g1
  obtain⟨ps,kl,a1,a2,a3,a4⟩:=hp1
  have hdu:=Nat.le_trans (lG kl a3) (show 40<=150 by decide)
  refine⟨_,rfl,_,rfl,pr,ps,(Kd.pair k l).dt,kl.map Kd.dt,rfl,zH.of a1,hk,a2,oA hr hdu,_,rfl,?_⟩
  refine ite2 (fun hin=>?_) (fun _=>?_)
  ·refine⟨_,rfl,_,rfl,.inl ⟨rfl,_,zH.of a1⟩,_,rfl,pr,ps,_,(Kd.pair k l).dt,kl.map Kd.dt,rfl,rfl,zH.of a1,hk,a2,oA hr hdu,hin,fun j e he hj=>?_⟩
   obtain⟨y,hy,dy⟩:=a2.get he
   refine⟨pr,ps,j,y,rfl,rfl,zH.of a1,qY hy,q y H1 g1.b (wV.le ⟨ps,kl,a1,a2,a3,a4⟩ (Nat.le_succ n)) ?_⟩
   rw[List.getElem?_map]at he
   obtain⟨k',hk',rfl⟩:=aq6.mp he
   rw[Kd.eq_dt]at hj
   rw[of_decide_eq_true hj]at dy
   exact dy
  ·have hl:=a2.length
   rw[List.length_map]at hl
   refine⟨_,rfl,.inl ⟨rfl,_,zH.of a1⟩,_,rfl,pr,ps,_,rfl,rfl,a1,(by rw[sizeLine_eq];omega),?_⟩
   have gB:jV pr H (upd H1 pr (.lst (ps++[.ref c]))):=by
    obtain⟨ps0,kl0,b1,_⟩:=hp
    exact(Grow.b g1).set b1
   have kt:jG K H1 (upd H1 pr (.lst (ps++[.ref c]))):=jV.tups ((jV.refl pr H1).set a1) a1
   refine⟨_,rfl,q _ _ gB ⟨ps++[.ref c],kl++[Kd.pair k l],qX,?_,?_,?_⟩ (hk.monoT kt)⟩
   ·rw[List.map_append]
    exact(a2.monoT kt).append (qF (hk.monoT kt) qT)
   ·intro z hz'
    rcases List.mem_append.mp hz' with h|h
    ·exact a3 z h
    ·rw[List.mem_singleton.mp h];exact hz
   ·rw[List.length_append];simp;exact a4
end
abbrev rG:Stmt:=top 89
abbrev qC8:Stmt:=top 90
abbrev rM:Stmt:=top 91
abbrev qZq:Stmt:=top 94
section
variable {P:Program} {w:World} {K:Fg} {mg:Str->Option Value} {base:Heap} {f:Addr} {fd:FuncData}
inductive vG(K:Fg)(H:Hp)(sc:Addr)(Γ:Cxt)(m:Nat):Prop
 |mk (kvs:List (Key×V)) (a_0:H sc=some (.dK kvs)) (a_1:kvs.length<=m) (a_2:∀x k,Γ.lookup x=some k->∃v,kX kvs (Sum.inr x)=some v/\qW K H k.dt v):vG K H sc Γ m
theorem vG.monoB{H H':Hp}{sc pr:Addr}{Γ:Cxt}{m n:Nat}(h:vG K H sc Γ m)(p:wV K H pr n)(g:jV pr H H'):vG K H' sc Γ m:=by
 obtain⟨kvs,a,b,c⟩:=h
 have kt:=p.tups g
 obtain⟨ps,ks,p1,_⟩:=p
 exact⟨kvs,g.keep _ _ (xB a p1 (by intro z;cases z)) a,b,fun x k e=>let⟨v,e1,e2⟩:=c x k e;⟨v,e1,e2.monoT kt⟩⟩
theorem vG.mono{H H':Hp}{sc:Addr}{Γ:Cxt}{m:Nat}(h:vG K H sc Γ m)(g:Grow H H'):vG K H' sc Γ m:=by
 obtain⟨kvs,a,b,c⟩:=h
 exact⟨kvs,g.same _ _ a,b,fun x k e=>let⟨v,e1,e2⟩:=c x k e;⟨v,e1,e2.mono g.same⟩⟩
theorem vG.put{H H':Hp}{sc d:Addr}{Γ:Cxt}{m:Nat}{x:Str}{k:Kd}{u:V}{kvs:List (Key×V)}(c:∀y l,Γ.lookup y=some l->∃v,kX kvs (Sum.inr y)=some v/\qW K H l.dt v)(hl:kvs.length<=m)(g:Grow H H')(e:H' d=some (.dK (kM kvs (Sum.inr x) u)))(hu:qW K H k.dt u):vG K H' d ((x,k)::Γ) (m+1):=by
 refine⟨_,e,?_,fun y l hy=>?_⟩
 ·have :=kK kvs (Sum.inr x:Key) u
  omega
 ·rw[oH]
  by_cases z:y=x
  ·subst z
   rw[if_pos rfl]
   rw[List.lookup_cons,beq_self_eq_true]at hy
   cases hy
   exact⟨u,rfl,hu.mono g.same⟩
  ·rw[if_neg (fun h=>z (Sum.inr.inj h))]
   rw[Pt.lookup_cons_ne z]at hy
   obtain⟨v,e1,e2⟩:=c y l hy
   exact⟨v,e1,e2.mono g.same⟩
inductive rN(K:Fg)(B:Pt->Prop)(vs:List V)(H:Hp)(Q:VK):Prop
 |mk (pv:V) (sc:Addr) (pr:Addr) (p:Pt) (Γ:Cxt) (κ:Kd) (m:Nat) (c:Nat) (a_0:vs=[pv,.ref sc,.ref pr]) (a_1:qW K H p.dt pv) (a_2:B p) (a_3:Pt.Has Γ p κ) (a_4:vG K H sc Γ m) (a_5:m+2*p.deep<=400) (a_6:wV K H pr c) (a_7:c+p.sz<=100000) (a_8:∀v H',jV pr H H'->wV K H' pr (c+p.sz)->qW K H' κ.dt v->Q v H'):rN K B vs H Q
def wN(K:Fg)(B:Pt->Prop):Sp:=fun vs H Q x_0=>rN K B vs H Q
def yL(K:Fg)(n:Nat):Sp:=wN K fun p=>p.deep<n
def qD5(n:Nat)(p:Pt):Prop:=p.deep<n+1/\∃x q r,p= .let_ x q r
def qD6(n:Nat)(p:Pt):Prop:=p.deep<n+1/\∃x k q,p= .fn x k q
def qD7(n:Nat)(p:Pt):Prop:=p.deep<n+1/\∃g x k l q,p= .rc g x k l q
abbrev iL:List Str:=["part","scope","pairs"]
theorem qZz:qO ["part","scope","pairs","bound"] iL (qU rG):=by walk_at "s"
theorem qT2{n:Nat}(F:zZ K "let_kind" "let_kind" rG .none f fd)(GF:Kn P w K mg base (2*n+2) "fitted" iL (yL K n))(GN:Kn P w K mg base 1 "with_name" ["scope","name","bound"] dP):qS P w K mg base (CXE P w) (2*n+3) f fd iL (wN K (qD5 n)):=by
 refine F.ok0 qZz (fun vs H Q E h=>?_) (fun cdv A outer s H vs Q E hr h=>?_)
 ·obtain⟨pv,sc,pr,p,Γ,κ,m,c,rfl,_⟩:=h
  rfl
 ·obtain⟨v,sc,pr,p,Γ,κ,m,c,rfl,hp,⟨hd,x,p1,p2,rfl⟩,hh,hs,hm,hpr,hc,q⟩:=h
  cases hh with
  |let_ h1 h2=>
  rename_i k
  obtain⟨a,v0,v1,v2,rfl,ha,hx,hv1,hv2⟩:=vH hp
  cases jR hx
  simp only[Pt.deep,Pt.sz]at hd hm hc q
  refine⟨_,qZ (qB (i:=3) qZz.nd rfl (Or.inl rfl) (zY GF hr (qQ (qL qP (pv 0) qV (fun _ _=>rfl)) (qQ (pv 1) (qQ (pv 2) qJ)))))
   (qK (qM (zY GF hr (qQ (qL qP (pv 0) qV (fun _ _=>rfl)) (qQ (zY GN (hr.mono (by omega)) (qQ (pv 1) (qQ (qL qP (pv 0) qV (fun _ _=>rfl)) (qQ (pv 3) qJ)))) (qQ (pv 2) qJ)))))),?_⟩
  walk_at "e"
  refine⟨_,rfl,a,_,_,v1,rfl,rfl,ha,qY (j:=2) rfl,_,rfl,_,rfl,v1,sc,pr,p1,Γ,k,m,c,rfl,hv1,by show p1.deep<n;omega,h1,hs,by omega,hpr,by omega,fun u H1 g1 hpr1 hu=>?_⟩
  walk_at "d"
  have kt:=hpr.tups g1
  have ha1:=kt _ _ ha
  have hv2':=hv2.monoT kt
  have hs1:=hs.monoB hpr g1
  obtain⟨kvs,s1,s2,s3⟩:=hs1
  refine⟨_,rfl,a,_,_,v2,rfl,rfl,ha1,qY (j:=3) rfl,_,rfl,_,rfl,a,_,_,.str x,rfl,rfl,ha1,qY (j:=1) rfl,_,rfl,sc,x,u,kvs,rfl,s1,by omega,fun d H2 g2 e2=>?_⟩
  have hs2:vG K H2 d ((x,k)::Γ) (m+1):=vG.put (sc:=sc) s3 s2 g2 e2 hu
  refine⟨_,rfl,v2,d,pr,p2,(x,k)::Γ,κ,m+1,c+p1.sz,rfl,hv2'.mono g2.same,by show p2.deep<n;omega,h2,hs2,by omega,hpr1.mono g2,by omega,fun r H3 g3 hpr3 hr3=>?_⟩
  exact q r H3 ((g1.trans g2.b).trans g3) (hpr3.le (by omega)) hr3
theorem qD8:qO ["part","scope","pairs","told"] iL (qU qC8):=by walk_at "s"
theorem zWq{n:Nat}(F:zZ K "fn_kind" "fn_kind" qC8 .none f fd)(GF:Kn P w K mg base (2*n+2) "fitted" iL (yL K n))(GN:Kn P w K mg base 1 "with_name" ["scope","name","bound"] dP):qS P w K mg base (CXE P w) (2*n+3) f fd iL (wN K (qD6 n)):=by
 refine F.ok0 qD8 (fun vs H Q E h=>?_) (fun cdv A outer s H vs Q E hr h=>?_)
 ·obtain⟨pv,sc,pr,p,Γ,κ,m,c,rfl,_⟩:=h
  rfl
 ·obtain⟨v,sc,pr,p,Γ,κ,m,c,rfl,hp,⟨hd,x,k,p2,rfl⟩,hh,hs,hm,hpr,hc,q⟩:=h
  cases hh with
  |fn h2 hb=>
  rename_i l
  obtain⟨a,v0,v1,v2,rfl,ha,hx,hv1,hv2⟩:=vH hp
  cases jR hx
  simp only[Pt.deep,Pt.sz]at hd hm hc q
  refine⟨_,qZ (qB (i:=3) qD8.nd rfl (Or.inl rfl) (zY GF hr (qQ (qL qP (pv 0) qV (fun _ _=>rfl)) (qQ (zY GN (hr.mono (by omega)) (qQ (pv 1) (qQ (qL qP (pv 0) qV (fun _ _=>rfl)) (qQ (qL qP (pv 0) qV (fun _ _=>rfl)) qJ)))) (qQ (pv 2) qJ)))))
   (qK (qM (zF (qQ qC (qQ (qL qP (pv 0) qV (fun _ _=>rfl)) (qQ (pv 3) qJ)))))),?_⟩
  walk_at "e"
  obtain⟨kvs,s1,s2,s3⟩:=hs
  refine⟨_,rfl,a,_,_,v2,rfl,rfl,ha,qY (j:=3) rfl,_,rfl,_,rfl,a,_,_,.str x,rfl,rfl,ha,qY (j:=1) rfl,_,rfl,a,_,_,v1,rfl,rfl,ha,qY (j:=2) rfl,sc,x,v1,kvs,rfl,s1,by omega,fun d H2 g2 e2=>?_⟩
  have hs2:vG K H2 d ((x,k)::Γ) (m+1):=vG.put (sc:=sc) s3 s2 g2 e2 hv1
  refine⟨_,rfl,v2,d,pr,p2,(x,k)::Γ,l,m+1,c,rfl,hv2.mono g2.same,by show p2.deep<n;omega,h2,hs2,by omega,hpr.mono g2,by omega,fun u H3 g3 hpr3 hu=>?_⟩
  walk_at "d"
  have kt:jG K H H3:=fun b xs hb=>(hpr.mono g2).tups g3 _ _ (zO.mono g2.same hb)
  refine⟨_,rfl,a,_,_,v1,rfl,rfl,kt _ _ ha,qY (j:=2) rfl,_,rfl,(by show 3<=sizeLine;decide),fun t ht=>?_⟩
  have g4:Grow H3 (upd H3 t (.tup [.str "fun",v1,u])):=Grow.put ht
  exact q _ _ ((g2.b.trans g3).trans g4.b) ((hpr3.mono g4).le (by omega)) (qQj (zO.of qX) ((hv1.monoT kt).mono g4.same) (hu.mono g4.same))
theorem lB:qO ["part","scope","pairs","kind","knowing_itself","told"] iL (qU rM):=by walk_at "s"
theorem qT3{n:Nat}(F:zZ K "rec_kind" "rec_kind" rM .none f fd)(GF:Kn P w K mg base (2*n+2) "fitted" iL (yL K n))(GN:Kn P w K mg base 1 "with_name" ["scope","name","bound"] dP)(GR:Kn P w K mg base 1 "require" ["holds"] uN):qS P w K mg base (CXE P w) (2*n+3) f fd iL (wN K (qD7 n)):=by
 refine F.ok0 lB (fun vs H Q E h=>?_) (fun cdv A outer s H vs Q E hr h=>?_)
 ·obtain⟨pv,sc,pr,p,Γ,κ,m,c,rfl,_⟩:=h
  rfl
 ·obtain⟨v,sc,pr,p,Γ,κ,m,c,rfl,hp,⟨hd,g,x,k,l,p2,rfl⟩,hh,hs,hm,hpr,hc,q⟩:=h
  cases hh with
  |rc h2 hb=>
  obtain⟨a,v0,v1,v2,v3,v4,rfl,ha,hg,hx,hv2,hv3,hv4⟩:=rY hp
  cases jR hx
  cases jR hg
  simp only[Pt.deep,Pt.sz]at hd hm hc q
  refine⟨_,qZ (qB (i:=3) lB.nd rfl (Or.inl rfl) (zF (qQ qC (qQ (qL qP (pv 0) qV (fun _ _=>rfl)) (qQ (qL qP (pv 0) qV (fun _ _=>rfl)) qJ)))))
   (qZ (qB (i:=4) lB.nd rfl (Or.inl rfl) (zY GN (hr.mono (by omega)) (qQ (pv 1) (qQ (qL qP (pv 0) qV (fun _ _=>rfl)) (qQ (pv 3) qJ)))))
   (qZ (qB (i:=5) lB.nd rfl (Or.inl rfl) (zY GF hr (qQ (qL qP (pv 0) qV (fun _ _=>rfl)) (qQ (zY GN (hr.mono (by omega)) (qQ (pv 4) (qQ (qL qP (pv 0) qV (fun _ _=>rfl)) (qQ (qL qP (pv 0) qV (fun _ _=>rfl)) qJ)))) (qQ (pv 2) qJ)))))
   (qZ (qN (zY GR (hr.mono (by omega)) (qQ (jZ vD (pv 5) (qL qP (pv 0) qV (fun _ _=>rfl)) (nomark _)) qJ)))
   (qK (qM (pv 3)))))),?_⟩
  walk_at "e"
  refine⟨_,rfl,a,_,_,v2,rfl,rfl,ha,qY (j:=3) rfl,_,rfl,a,_,_,v3,rfl,rfl,ha,qY (j:=4) rfl,(by show 3<=sizeLine;decide),fun t ht=>?_⟩
  walk_at "d"
  have g1:Grow H (upd H t (.tup [.str "fun",v2,v3])):=Grow.put ht
  have e1:zO K (upd H t (.tup [.str "fun",v2,v3])) t [.str "fun",v2,v3]:=zO.of qX
  generalize upd H t (.tup [.str "fun",v2,v3])=H1 at g1 e1⊢
  have hk1:qW K H1 (Kd.fn k l).dt (.ref t):=qQj e1 (hv2.mono g1.same) (hv3.mono g1.same)
  obtain⟨kvs,s1,s2,s3⟩:=hs.mono g1
  have ha1:=zO.mono g1.same ha
  refine⟨_,rfl,_,rfl,a,_,_,.str g,rfl,rfl,ha1,qY (j:=1) rfl,_,rfl,sc,g,.ref t,kvs,rfl,s1,by omega,fun d H2 g2 e2=>?_⟩
  walk_at "d"
  have hs2:vG K H2 d ((g,.fn k l)::Γ) (m+1):=vG.put (sc:=sc) s3 s2 g2 e2 hk1
  have g12:=g1.trans g2
  have ha2:=zO.mono g12.same ha
  obtain⟨kv2,s1,s2,s3⟩:=hs2
  refine⟨_,rfl,a,_,_,v4,rfl,rfl,ha2,qY (j:=5) rfl,_,rfl,_,rfl,a,_,_,.str x,rfl,rfl,ha2,qY (j:=2) rfl,_,rfl,a,_,_,v2,rfl,rfl,ha2,qY (j:=3) rfl,d,x,v2,kv2,rfl,s1,by omega,fun d3 H3 g3 e3=>?_⟩
  have hs3:vG K H3 d3 ((x,k)::(g,.fn k l)::Γ) (m+1+1):=vG.put (sc:=d) s3 s2 g3 e3 (hv2.mono g12.same)
  have g13:=g12.trans g3
  refine⟨_,rfl,v4,d3,pr,p2,(x,k)::(g,.fn k l)::Γ,l,m+1+1,c,rfl,hv4.mono g13.same,by show p2.deep<n;omega,h2,hs3,by omega,hpr.mono g13,by omega,fun u H4 g4 hpr4 hu=>?_⟩
  walk_at "d"
  have kt:jG K H3 H4:=(hpr.mono g13).tups g4
  have kt0:jG K H H4:=fun b xs hb=>kt _ _ (zO.mono g13.same hb)
  have hlz:l.sz<=40:=by simp only[Kd.sz]at hb;omega
  refine⟨_,rfl,_,rfl,a,_,_,v3,rfl,rfl,kt0 _ _ ha,qY (j:=4) rfl,l.dt,l.dt,hu,hv3.monoT kt0,xR hr (Nat.le_trans (uK l hlz) (by decide)),?_⟩
  rw[kI]
  refine⟨rfl,?_⟩
  exact⟨_,rfl,q _ _ (g13.b.trans g4) (hpr4.le (by omega)) ((hk1.mono (g2.trans g3).same).monoT kt)⟩
end
def Pt.plain:Pt->Bool
 | .num _=>true| .tru _=>true| .one _ _=>true| .two _ _ _=>true| .ite _ _ _=>true
 |_=>false
def Pt.wd:Pt->Str
 | .num _=>"num"| .tru _=>"truth"| .nam _=>"name"| .nil _=>"nil"
 | .one u _=>u.str| .two u _ _=>u.str| .ite _ _ _=>"if"| .let_ _ _ _=>"let"| .fn _ _ _=>"fn"| .rc _ _ _ _ _=>"rec"
def Pt.parts:Pt->List Pt
 | .one _ p=>[p]| .two _ p q=>[p,q]| .ite p q r=>[p,q,r]
 | .let_ _ p q=>[p,q]| .fn _ _ p=>[p]| .rc _ _ _ _ p=>[p]
 |_=>[]
def KR:List (Str×(List Kd->Kd->Prop)):=[("cons",qZ4),("head",qZ5),("tail",qZ6),("empty",fQ),("first",fZ),("second",lN),("if",rIf),("call",qZ7)]
def FX:List (Str×List Kd×Kd):=[("num",[],.int),("truth",[],.bool),("plus",[.int,.int],.int),("minus",[.int,.int],.int),("times",[.int,.int],.int),("over",[.int,.int],.int),("rest",[.int,.int],.int),("less",[.int,.int],.bool),("same",[.int,.int],.bool),("and",[.bool,.bool],.bool),("or",[.bool,.bool],.bool),("not",[.bool],.bool)]
def kv:Kd->V
 | .int=>.str "int"
 |_=>.str "bool"
inductive iN(Γ:Cxt):List Pt->List Kd->Prop
 |nil:iN Γ [] []
 |cons {p k ps ks}:Pt.Has Γ p k->iN Γ ps ks->iN Γ (p::ps) (k::ks)
theorem iN.length{Γ:Cxt}{ps:List Pt}{ks:List Kd}(h:iN Γ ps ks):ps.length=ks.length:=by
 induction h with
 |nil=>rfl
 |cons _ _ ih=>simp[ih]
theorem iN.get{Γ:Cxt}{ps:List Pt}{ks:List Kd}(h:iN Γ ps ks):∀{i:Nat}{p:Pt},ps[i]? =some p->∃k,ks[i]? =some k/\Pt.Has Γ p k:=by
 induction h with
 |nil=>intro i p e;simp at e
 |cons h _ ih=>
  intro i p e
  cases i with
  |zero=>simp at e;subst e;exact⟨_,rfl,h⟩
  |succ i=>exact ih (by simpa using e)
theorem iN.sz{Γ:Cxt}{ps:List Pt}{ks:List Kd}(h:iN Γ ps ks):∀k∈ks,k.sz<=40:=by
 induction h with
 |nil=>intro k h;cases h
 |cons h _ ih=>
  intro k hk
  rcases List.mem_cons.mp hk with rfl|hk
  ·exact h.sz
  ·exact ih k hk
def Ruled(wd:Str)(ks:List Kd)(κ:Kd):Prop:=(wd="pair"/\∃k l,ks=[k,l]/\κ= .pair k l)\/(∃R,(wd,R)∈KR/\R ks κ)\/(wd,ks,κ)∈FX
theorem tH{Γ:Cxt}{p:Pt}{κ:Kd}(h:Pt.Has Γ p κ)(hp:Pt.plain p=true):∃ks,iN Γ (Pt.parts p) ks/\Ruled (Pt.wd p) ks κ:=by
 cases h with
 |num=>exact⟨[],.nil,.inr (.inr (by simp[FX,Pt.wd]))⟩
 |tru=>exact⟨[],.nil,.inr (.inr (by simp[FX,Pt.wd]))⟩
 |nam _ _=>simp[Pt.plain]at hp
 |nil _=>simp[Pt.plain]at hp
 |let_ _ _=>simp[Pt.plain]at hp
 |fn _ _=>simp[Pt.plain]at hp
 |rc _ _=>simp[Pt.plain]at hp
 |ite h1 h2 h3=>exact⟨[_,_,_],.cons h1 (.cons h2 (.cons h3 .nil)),.inr (.inl ⟨rIf,by simp[KR,Pt.wd],rfl⟩)⟩
 | @one _ u p k _ h1 e _=>
  refine⟨[_],.cons h1 .nil,?_⟩
  cases u<;>cases k<;>simp only[Pt.k1,reduceCtorEq,Option.some.injEq]at e<;>subst e
  ·exact .inr (.inl ⟨qZ5,by simp[KR,Pt.wd,U1.str],rfl⟩)
  ·exact .inr (.inl ⟨qZ6,by simp[KR,Pt.wd,U1.str],_,rfl,rfl⟩)
  ·exact .inr (.inl ⟨fQ,by simp[KR,Pt.wd,U1.str],_,rfl,rfl⟩)
  ·exact .inr (.inl ⟨fZ,by simp[KR,Pt.wd,U1.str],_,rfl⟩)
  ·exact .inr (.inl ⟨lN,by simp[KR,Pt.wd,U1.str],_,rfl⟩)
  ·exact .inr (.inr (by simp[FX,Pt.wd,U1.str]))
 | @two _ u p q k l _ h1 h2 e _=>
  refine⟨[_,_],.cons h1 (.cons h2 .nil),?_⟩
  cases u
  ·cases l<;>simp only[Pt.k2,reduceCtorEq,Option.ite_none_right_eq_some,Option.some.injEq]at e
   obtain⟨rfl,rfl⟩:=e
   exact .inr (.inl ⟨qZ4,by simp[KR,Pt.wd,U2.str],_,rfl,rfl⟩)
  ·simp only[Pt.k2,Option.some.injEq]at e
   subst e
   exact .inl ⟨rfl,_,_,rfl,rfl⟩
  ·cases k<;>simp only[Pt.k2,reduceCtorEq,Option.ite_none_right_eq_some,Option.some.injEq]at e
   obtain⟨rfl,rfl⟩:=e
   exact .inr (.inl ⟨qZ7,by simp[KR,Pt.wd,U2.str],_,rfl⟩)
  all_goals
   cases k<;>cases l<;>simp only[Pt.k2,reduceCtorEq,Option.some.injEq]at e<;>subst e
   exact .inr (.inr (by simp[FX,Pt.wd,U2.str]))
theorem behind1(u:V):behind (["part"]:List Str) [u] "part"=[u]:=by unfold behind;simp
theorem behind2(u v:V):behind (["part","part"]:List Str) [u,v] "part"=[u,v]:=by unfold behind;simp
theorem behind3(u v x:V):behind (["part","part","part"]:List Str) [u,v,x] "part"=[u,v,x]:=by unfold behind;simp
theorem qD9(u:U1):zK u.str=(["part"]:List Str):=by cases u<;>decide+kernel
theorem qDq(u:U2):zK u.str=(["part","part"]:List Str):=by cases u<;>decide+kernel
theorem qDz:zK "if"=(["part","part","part"]:List Str):=by decide+kernel
theorem qZj:zK "num"=[]:=by decide+kernel
theorem qJ0:zK "truth"=[]:=by decide+kernel
theorem jS{k:Str}:∀{ks:List Str}{vs:List V}{i:Nat},wL k ks=some i->i<vs.length->PyProof.Rows.KTD.inKeys k (ks.zip vs)=true:=fun {ks vs i}h hi=>by
 have :=qG h (List.getElem?_eq_getElem hi)
 rw[<-PyProof.Rows.KTD.isSome_datumAt,this]
 rfl
section
variable {P:Program} {w:World} {K:Fg} {mg:Str->Option Value} {base:Heap} {f:Addr} {fd:FuncData}
theorem oE{H:Hp}{p:Pt}{v:V}(hp:Pt.plain p=true)(h:qW K H p.dt v):∃a xs,v= .ref a/\zO K H a (.str (Pt.wd p)::xs)/\xs.length<=1000/\qI K H ((Pt.parts p).map Pt.dt) (behind (zK (Pt.wd p)) xs "part"):=by
 cases p with
 |num n=>obtain⟨a,u,rfl,hs,h1⟩:=kC h;exact⟨a,_,rfl,hs,by simp,by rw[show zK (Pt.wd (.num n))=[]from qZj];exact qT⟩
 |tru b=>obtain⟨a,u,rfl,hs,h1⟩:=kC h;exact⟨a,_,rfl,hs,by simp,by rw[show zK (Pt.wd (.tru b))=[]from qJ0];exact qT⟩
 |one o p=>obtain⟨a,u,rfl,hs,h1⟩:=kC h;exact⟨a,_,rfl,hs,by simp,by rw[show zK (Pt.wd (.one o p))=_ from qD9 o,behind1];exact qF h1 qT⟩
 |two o p q=>obtain⟨a,u,x,rfl,hs,h1,h2⟩:=mG h;exact⟨a,_,rfl,hs,by simp,by rw[show zK (Pt.wd (.two o p q))=_ from qDq o,behind2];exact qF h1 (qF h2 qT)⟩
 |ite p q r=>obtain⟨a,u,x,y,rfl,hs,h1,h2,h3⟩:=vH h;exact⟨a,_,rfl,hs,by simp,by rw[show zK (Pt.wd (.ite p q r))=_ from qDz,behind3];exact qF h1 (qF h2 (qF h3 qT))⟩
 |nam _=>simp[Pt.plain]at hp
 |nil _=>simp[Pt.plain]at hp
 |let_ _ _ _=>simp[Pt.plain]at hp
 |fn _ _ _=>simp[Pt.plain]at hp
 |rc _ _ _ _ _=>simp[Pt.plain]at hp
theorem nZ{p:Pt}(hp:Pt.plain p=true):Pt.wd p∈(["num","truth","if","head","tail","empty","first","second","not","cons","pair","call","plus","minus","times","over","rest","less","same","and","or"]:List Str):=by
 cases p with
 |num n=>simp[Pt.wd]
 |tru b=>simp[Pt.wd]
 |one o p=>cases o<;>simp[Pt.wd,U1.str]
 |two o p q=>cases o<;>simp[Pt.wd,U2.str]
 |ite p q r=>simp[Pt.wd]
 |nam _=>simp[Pt.plain]at hp
 |nil _=>simp[Pt.plain]at hp
 |let_ _ _ _=>simp[Pt.plain]at hp
 |fn _ _ _=>simp[Pt.plain]at hp
 |rc _ _ _ _ _=>simp[Pt.plain]at hp
def bkeys:List Str:=["let","fn","rec"]
theorem rB:∀x∈(["num","truth","if","head","tail","empty","first","second","not","cons","pair","call","plus","minus","times","over","rest","less","same","and","or"]:List Str),decide (V.str x=V.str "name")=false/\decide (V.str x=V.str "nil")=false/\wL x bkeys=none:=by decide+kernel
theorem qC9:∀x∈FX.map (·.1),decide (V.str x=V.str "pair")=false:=by decide+kernel
theorem qCq:∀x∈(["cons","head","tail","empty","first","second","if","call"]:List Str),decide (V.str x=V.str "pair")=false:=by decide+kernel
theorem qT4{wd:Str}{R:List Kd->Kd->Prop}(h:(wd,R)∈KR):wd∈(["cons","head","tail","empty","first","second","if","call"]:List Str):=by
 have :wd∈KR.map (·.1):=List.mem_map.mpr ⟨_,h,rfl⟩
 exact this
theorem qJ1{wd:Str}{ks:List Kd}{κ:Kd}(h:(wd,ks,κ)∈FX):wd∈FX.map (·.1):=List.mem_map.mpr ⟨_,h,rfl⟩
theorem qCz:∀x∈FX,∀k∈x.2.1++[x.2.2],k= .int\/k= .bool:=by decide+kernel
theorem qDj{H:Hp}{k:Kd}(h:k= .int\/k= .bool):qW K H k.dt (kv k):=by rcases h with rfl|rfl<;>exact wG _
theorem qJ2{H:Hp}:∀{ks:List Kd},(∀k∈ks,k= .int\/k= .bool)->qI K H (ks.map Kd.dt) (ks.map kv)
 |[],_=>qT
 |k::ks,h=>qF (qDj (h k List.mem_cons_self)) (qJ2 fun l hl=>h l (aq10 _ hl))
def At(P:Program)(w:World)(K:Fg)(mg:Str->Option Value)(base:Heap)(k:Nat)(f:Addr)(ps:List Str)(sp:Sp):Prop:=∃fd,qS P w K mg base (CXE P w) k f fd ps sp/\PySem.W.keepIn K (.ref f)=true/\Binds K fd ps []
structure GlF(P:Program)(w:World)(K:Fg)(mg:Str->Option Value)(base:Heap)(fL fN fR:Addr):Prop where
 list:mg "list"=none
 bind:∃a,mg "BINDING_RULES"=some (.ref a)/\uR K a (bkeys.zip [.ref fL,.ref fN,.ref fR])
 rule:∃a D,mg "KIND_RULES"=some (.ref a)/\uR K a D/\(∀wd ks κ,(wd,ks,κ)∈FX->PyProof.Rows.KTD.inKeys wd D=false)/\∀wd R,(wd,R)∈KR->PyProof.Rows.KTD.inKeys wd D=true/\∃g,aq17 wd D=some (.ref g)/\At P w K mg base 3 g ["kinds"] (lM K R)
 fixd:∃a D,mg "FIXED_KINDS"=some (.ref a)/\uR K a D/\∀wd ks κ,(wd,ks,κ)∈FX->∃tp,aq17 wd D=some (.ref tp)/\∀H,zO K H tp ((ks++[κ]).map kv)
def szs:List Pt->Nat
 |[]=>0
 |p::ps=>p.sz+szs ps
theorem vP:∀(ps:List Pt)(i:Nat)(p:Pt),ps[i]? =some p->szs (ps.take (i+1))=szs (ps.take i)+p.sz
 |[],i,p,h=>by simp at h
 |q::ps,0,p,h=>by simp at h;subst h;simp[szs]
 |q::ps,i+1,p,h=>by
  have :=vP ps i p (by simpa using h)
  simp only[List.take_succ_cons,szs];omega
theorem lD:∀(ps:List Pt)(i:Nat),szs (ps.take i)<=szs ps
 |[],i=>by simp[szs]
 |q::ps,0=>by simp[szs]
 |q::ps,i+1=>by have :=lD ps i;simp only[List.take_succ_cons,szs];omega
theorem wZ{p:Pt}(hp:Pt.plain p=true):szs (Pt.parts p)+1=p.sz/\∀q∈Pt.parts p,q.deep<p.deep:=by
 cases p with
 |num n=>simp[Pt.parts,szs,Pt.sz]
 |tru b=>simp[Pt.parts,szs,Pt.sz]
 |one o p=>simp[Pt.parts,szs,Pt.sz,Pt.deep]
 |two o p q=>simp[Pt.parts,szs,Pt.sz,Pt.deep];omega
 |ite p q r=>simp[Pt.parts,szs,Pt.sz,Pt.deep];omega
 |nam _=>simp[Pt.plain]at hp
 |nil _=>simp[Pt.plain]at hp
 |let_ _ _ _=>simp[Pt.plain]at hp
 |fn _ _ _=>simp[Pt.plain]at hp
 |rc _ _ _ _ _=>simp[Pt.plain]at hp
end
section
variable {P:Program} {w:World} {K:Fg} {mg:Str->Option Value} {base:Heap} {f:Addr} {fd:FuncData}
theorem cY:qO ["part","scope","pairs","word","kinds","fixed","told"] iL (qU qZq):=by walk_at "s"
theorem qCj(F:zZ K "fitted" "fitted" qZq .none f fd):qS P w K mg base (CXE P w) (2*0+2) f fd iL (yL K 0):=by
 refine F.ok0 cY (fun vs H Q E h=>?_) (fun cdv A outer s H vs Q E hr h=>?_)
 ·obtain⟨pv,sc,pr,p,Γ,κ,m,c,rfl,_⟩:=h
  rfl
 ·obtain⟨pv,sc,pr,p,Γ,κ,m,c,rfl,_,hd,_⟩:=h
  exact absurd hd (Nat.not_lt_zero _)
theorem qT5{n:Nat}{fL fN fR:Addr}(F:zZ K "fitted" "fitted" qZq .none f fd)(G:GlF P w K mg base fL fN fR)(GV:Kn P w K mg base 1 "values_behind" ["part","sort"] (mN K))(GR:Kn P w K mg base 1 "require" ["holds"] uN)(GU:Kn P w K mg base 1 "looked_up" ["scope","name"] dA)(GP:Kn P w K mg base 1 "pair_kind" ["kinds","pairs"] (qT1 K))
  (GL:At P w K mg base (2*n+3) fL iL (wN K (qD5 n)))(GN:At P w K mg base (2*n+3) fN iL (wN K (qD6 n)))(GE:At P w K mg base (2*n+3) fR iL (wN K (qD7 n)))(GF:Kn P w K mg base (2*n+2) "fitted" iL (yL K n)):qS P w K mg base (CXE P w) (2*(n+1)+2) f fd iL (yL K (n+1)):=by
 refine F.ok0 (k:=2*n+3) cY (fun vs H Q E h=>?_) (fun cdv A outer s H vs Q E hr h=>?_)
 ·obtain⟨pv,sc,pr,p,Γ,κ,m,c,rfl,_⟩:=h
  rfl
 ·obtain⟨v,sc,pr,p,Γ,κ,m,c,rfl,hp,hd,hh,hs,hm,hpr,hc,q⟩:=h
  have ndb:((["inner"]:List Str)++(["scope","pairs"]:List Str)).Nodup:=by decide+kernel
  obtain⟨t1,mB,T1⟩:=G.bind
  obtain⟨t2,D2,mK,T2,nK,yK⟩:=G.rule
  obtain⟨t3,D3,mF,T3,nF⟩:=G.fixd
  refine⟨_,qZ (qB (i:=3) cY.nd rfl (Or.inl rfl) (qL qP (pv 0) qV (fun _ _=>rfl)))
   (qZ (zC (qE jB (pv 3) qC (nomark _)) (qK (qM (zY GU (hr.mono (by omega)) (qQ (pv 1) (qQ (qL qP (pv 0) qV (fun _ _=>rfl)) qJ))))) zQ)
   (qZ (zC (qE jB (pv 3) qC (nomark _)) (qK (qM (zF (qQ qC (qQ (qL qP (pv 0) qV (fun _ _=>rfl)) qJ))))) zQ)
   (qZ (zC (qE oF (pv 3) (zR (v:=.ref t1) (by rfl) mB rfl) rfl) (qK (qM (vF (CX:=CXE P w) (qL uZ (zR (v:=.ref t1) (by rfl) mB rfl) (pv 3) (fun _ _=>rfl)) (qQ (pv 0) (qQ (pv 1) (qQ (pv 2) qJ)))))) zQ)
   (qZ (cK (i:=4) cY.nd rfl (Or.inl rfl) (zVq (own:=["inner"]) (x:="scope") (y:="pairs") (i:=1) (j:=2) (by decide+kernel) (by rfl) (by decide+kernel) (by rfl) (by decide+kernel) (by rfl) (by rfl) (by decide+kernel) (by rfl) (by rfl) (.inl (by rfl)) (.inl (by rfl)) (by rfl) (by rfl) (by decide+kernel)) rfl
     (cT (zY GV (hr.mono (by omega)) (qQ (pv 0) (qQ qC qJ))))
     (fun C s H fp pins=>zY GF (hr.mono (by omega)) (qQ (pv 0) (qQ (pv 1) (qQ (pv 2) qJ)))) (fun C s H fp pins=>zA (i:=0) ndb rfl (Or.inl rfl) (Or.inr (by rfl))) (by rfl) (Or.inr (by rfl)))
   (qZ (zC (qE jB (pv 3) qC (nomark _)) (qK (qM (zY GP (hr.mono (by omega)) (qQ (pv 4) (qQ (pv 2) qJ))))) zQ)
   (qZ (zC (qE oF (pv 3) (zR (v:=.ref t2) (by rfl) mK rfl) rfl) (qK (qM (vF (CX:=CXE P w) (qL uZ (zR (v:=.ref t2) (by rfl) mK rfl) (pv 3) (fun _ _=>rfl)) (qQ (pv 4) qJ)))) zQ)
   (qZ (qB (i:=5) cY.nd rfl (Or.inl rfl) (xW yX (by rfl) G.list PyProof.Rows.boot_list (qQ (qL uZ (zR (v:=.ref t3) (by rfl) mF rfl) (pv 3) (fun _ _=>rfl)) qJ)))
   (qZ (qB (i:=6) cY.nd rfl (Or.inl rfl) (xQ aq0 aq3 aq4 xZ (pv 5)))
   (qZ (qN (zY GR (hr.mono (by omega)) (qQ (jZ qS1 (pv 4) (pv 5) (nomark _)) qJ)))
   (qK (qM (pv 6)))))))))))),?_⟩
  walk_at "e"
  by_cases hpl:Pt.plain p=true
  ·obtain⟨a,xs,rfl,ha,hxs,hbe⟩:=oE hpl hp
   obtain⟨w1,w2,w3⟩:=rB _ (nZ hpl)
   obtain⟨ks,hks,hru⟩:=tH hh hpl
   obtain⟨hsz,hdp⟩:=wZ hpl
   refine⟨_,rfl,a,_,_,.str (Pt.wd p),rfl,rfl,ha,qY (j:=0) rfl,?_⟩
   walk_at "d"
   refine⟨_,rfl,rfl,_,rfl,?_⟩
   rw[w1]
   refine jO ⟨_,rfl,rfl,_,rfl,?_⟩
   rw[w2]
   refine jO ⟨_,rfl,_,_,_,rfl,rfl,T1,_,rfl,?_⟩
   rw[uX w3]
   refine jO ⟨_,rfl,a,"part",Pt.wd p,xs,rfl,ha,hxs,fun l0 H1 g1 n1 e1=>?_⟩
   refine⟨l0,rfl,⟨_,zH.of e1⟩,fun D0 hD0=>?_⟩
   have hbe1:=hbe.mono g1.same
   have hpr1:=hpr.mono g1
   have hs1:=hs.mono g1
   generalize behind (zK (Pt.wd p)) xs "part"=zs at e1 hbe1
   have lpr:l0≠pr:=by
    obtain⟨ps,_,x1,_⟩:=hpr
    exact fun z=>by rw[z,x1]at n1;cases n1
   have dpr:D0≠pr:=by
    obtain⟨ps,_,x1,_⟩:=hpr1
    exact fun z=>by rw[z,x1]at hD0;cases hD0
   have dl:l0≠D0:=fun z=>by rw[z,hD0]at e1;cases e1
   have gD:Grow H1 (upd H1 D0 (.lst [])):=Grow.put hD0
   have hlen:zs.length=(Pt.parts p).length:=by rw[hbe1.length,List.length_map]
   refine mD (K:=K) (a:=l0) (xs:=zs) (te:=(oI (yL K n) [] E0 (xO (jY 0) (xO (jY 1) (xO (jY 2) wC))))) (ix:=[1,2]) (σ:=[some (.ref a),some (.ref sc),some (.ref pr),some (.str (Pt.wd p)),none,none,none])
    (fun i ys H2=>jV pr H1 H2/\H2 D0=some (.lst ys)/\H2 l0=some (.lst zs)/\wV K H2 pr (c+szs ((Pt.parts p).take i))/\qI K H2 ((ks.take i).map Kd.dt) ys) ?_ ?_ ?_ ?_
   ·exact⟨gD.b,qX,gD.same _ _ e1,hpr1.mono gD,qT⟩
   ·rintro i ys H2 _ ⟨_,_,h,_⟩
    exact zH.of h
   ·rintro i x ys H2 hx ⟨gB,eD,el,hp2,hy⟩ Q' hq
    obtain⟨pi,hpi⟩:∃pi,(Pt.parts p)[i]? =some pi:=by
     have :i<zs.length:=by
      rcases Nat.lt_or_ge i zs.length with h|h
      ·exact h
      ·rw[List.getElem?_eq_none h]at hx;cases hx
     exact⟨_,List.getElem?_eq_getElem (by omega)⟩
    obtain⟨x',hx',hxd⟩:=hbe1.get (i:=i) (d:=pi.dt) (by rw[List.getElem?_map,hpi];rfl)
    rw[hx]at hx'
    cases hx'
    obtain⟨k,hk,hki⟩:=hks.get hpi
    have kt:=hpr1.tups gB
    have hst:=vP _ _ _ hpi
    have hsl:=lD (Pt.parts p) (i+1)
    have hdi:=hdp pi (List.mem_of_getElem? hpi)
    refine⟨_,rfl,_,rfl,_,rfl,x,sc,pr,pi,Γ,k,m,_,rfl,hxd.monoT kt,by show pi.deep<n;omega,hki,hs1.monoB hpr1 gB,by omega,hp2,by omega,fun u H3 g3 hp3 hu=>?_⟩
    have kt3:=hp2.tups g3
    have eD3:=g3.keep _ _ dpr eD
    refine hq u H3 eD3 ?_ ⟨?_,qX,(qH dl).trans (g3.keep _ _ lpr el),?_,?_⟩
    ·have :=hy.length
     rw[List.length_map,List.length_take]at this
     have :=hks.length
     rw[sizeLine_eq]
     have :i<(Pt.parts p).length:=(List.getElem?_eq_some_iff.mp hpi).1
     have :(Pt.parts p).length<=3:=by cases p<;>simp[Pt.parts]
     omega
    ·have gg:=gB.trans g3
     refine⟨fun b o hb e=>?_,fun b e=>?_⟩
     ·rw[qH (zV e hD0)]
      exact gg.keep b o hb e
     ·by_cases z:b=D0
      ·subst z;exact hD0
      ·rw[qH z]at e;exact gg.none b e
    ·have kd:jG K H3 (upd H3 D0 (.lst (ys++[u]))):=jV.tups ((jV.refl D0 H3).set eD3) eD3
     obtain⟨ps,kl,x1,x2,x3,x4⟩:=hp3
     exact⟨ps,kl,(qH dpr.symm).trans x1,x2.monoT kd,x3,by rw[hst];omega⟩
    ·have kd:jG K H3 (upd H3 D0 (.lst (ys++[u]))):=jV.tups ((jV.refl D0 H3).set eD3) eD3
     rw[List.take_add_one,hk,List.map_append]
     exact((hy.monoT kt3).monoT kd).append (qF (hu.monoT kd) qT)
   ·rintro ys H2 ⟨gB,eD,el,hp2,hy⟩
    rw[hlen,hks.length,List.take_of_length_le (aq7 _)]at hy
    rw[hlen,List.take_of_length_le (aq7 _)]at hp2
    have g02:jV pr H H2:=g1.b.trans gB
    walk_at "d"
    refine⟨_,rfl,rfl,_,rfl,?_⟩
    rcases hru with⟨z1,k,l,rfl,rfl⟩|⟨R,hR,hRk⟩|hfx
    ·rw[decide_eq_true (by rw[z1]:V.str (Pt.wd p)=V.str "pair")]
     obtain⟨u,r,rfl,hu,hy⟩:=qD hy
     obtain⟨u',r,rfl,hu',hy⟩:=qD hy
     cases zD hy
     refine jN ⟨_,rfl,_,rfl,D0,pr,u,u',k,l,_,rfl,zH.of eD,hu,hu',hh.sz,hp2,by omega,fun r H3 g3 hp3 hr3=>?_⟩
     exact q r H3 (g02.trans g3) (hp3.le (by omega)) hr3
    ·rw[qCq _ (qT4 hR)]
     obtain⟨y1,g,y2,fdg,y3,y4,y5⟩:=yK _ R hR
     refine jO ⟨_,rfl,_,_,_,rfl,rfl,T2,_,rfl,?_⟩
     rw[y1]
     refine jN ⟨_,rfl,_,_,_,_,rfl,rfl,T2,y2,g,fdg,_,_,[],[],E0,3,rfl,y3,hr.mono (by omega),y4,y5,.nil,zS,_,rfl,D0,ys,ks,κ,rfl,zH.of eD,hy,hks.sz,hRk,fun r H3 g3 hr3=>?_⟩
     exact q r H3 (g02.trans g3.b) ((hp2.mono g3).le (by omega)) hr3
    ·rw[qC9 _ (qJ1 hfx)]
     obtain⟨tp,eF,sF⟩:=nF _ _ _ hfx
     have fl:=qCz _ hfx
     refine jO ⟨_,rfl,_,_,_,rfl,rfl,T2,_,rfl,?_⟩
     rw[nK _ _ _ hfx]
     refine jO ⟨_,rfl,_,_,_,_,rfl,rfl,T3,eF,tp,_,rfl,.inr (sF H2),fun l3 hl3=>?_⟩
     walk_at "d"
     have dl':((ks++[κ]).map kv).dropLast=ks.map kv:=by rw[List.map_append];exact List.dropLast_concat
     refine⟨_,rfl,.inl ⟨rfl,_,zH.of qX⟩,l3,_,kv κ,rfl,rfl,qX,by simp,?_⟩
     rw[pD,dl']
     have g3:Grow H2 (upd H2 l3 (.lst (ks.map kv))):=Grow.put hl3
     have e3:(upd H2 l3 (.lst (ks.map kv))) l3=some (.lst (ks.map kv)):=qX
     generalize upd H2 l3 (.lst (ks.map kv))=H3 at g3 e3⊢
     refine⟨_,rfl,_,rfl,D0,l3,_,_,ks.map Kd.dt,ks.map Kd.dt,rfl,rfl,zH.of (g3.same _ _ eD),zH.of e3,hy.mono g3.same,qJ2 (fun k hk=>fl k (List.mem_append_left _ hk)),oA hr (Nat.le_trans (lG ks hks.sz) (by decide)),?_⟩
     rw[uJ]
     refine⟨rfl,?_⟩
     exact⟨_,rfl,q _ H3 (g02.trans g3.b) ((hp2.mono g3).le (by omega)) (qDj (fl κ (aq11 _ (List.mem_singleton.mpr rfl))))⟩
  ·cases p with
   |num _=>exact absurd rfl hpl
   |tru _=>exact absurd rfl hpl
   |one _ _=>exact absurd rfl hpl
   |two _ _ _=>exact absurd rfl hpl
   |ite _ _ _=>exact absurd rfl hpl
   |nam x=>
    obtain⟨a,u,rfl,ha,hx⟩:=kC hp
    cases jR hx
    cases hh with
    |nam hl hb=>
    obtain⟨kvs,s1,s2,s3⟩:=hs
    obtain⟨r,r1,r2⟩:=s3 _ _ hl
    refine⟨_,rfl,a,_,_,.str "name",rfl,rfl,ha,qY (j:=0) rfl,?_⟩
    walk_at "d"
    refine⟨_,rfl,rfl,_,rfl,ite2 (fun _=>?_) (fun h=>absurd (by decide+kernel) h)⟩
    refine⟨_,rfl,_,rfl,a,_,_,.str x,rfl,rfl,ha,qY (j:=1) rfl,sc,x,r,kvs,rfl,s1,r1,?_⟩
    exact q r H (jV.refl _ _) (hpr.le (by omega)) r2
   |nil k=>
    obtain⟨a,u,rfl,ha,hx⟩:=kC hp
    cases hh with
    |nil hb=>
    refine⟨_,rfl,a,_,_,.str "nil",rfl,rfl,ha,qY (j:=0) rfl,?_⟩
    walk_at "d"
    refine⟨_,rfl,rfl,_,rfl,ite2 (fun h=>absurd h (by decide+kernel)) (fun _=>?_)⟩
    refine⟨_,rfl,rfl,_,rfl,ite2 (fun _=>?_) (fun h=>absurd (by decide+kernel) h)⟩
    refine⟨_,rfl,a,_,_,u,rfl,rfl,ha,qY (j:=1) rfl,(by show 2<=sizeLine;decide),fun t ht=>?_⟩
    have g1:Grow H (upd H t (.tup [.str "list",u])):=Grow.put ht
    exact q _ _ g1.b ((hpr.mono g1).le (by omega)) (cW (zO.of qX) (hx.mono g1.same))
   |let_ x p1 p2=>
    obtain⟨fdg,y3,y4,y5⟩:=GL
    obtain⟨a,v0,v1,v2,rfl,ha,hx,hv1,hv2⟩:=vH hp
    refine⟨_,rfl,a,_,_,.str "let",rfl,rfl,ha,qY (j:=0) rfl,?_⟩
    walk_at "d"
    refine⟨_,rfl,rfl,_,rfl,ite2 (fun h=>absurd h (by decide+kernel)) (fun _=>?_)⟩
    refine⟨_,rfl,rfl,_,rfl,ite2 (fun h=>absurd h (by decide+kernel)) (fun _=>?_)⟩
    refine⟨_,rfl,_,_,_,rfl,rfl,T1,_,rfl,?_⟩
    rw[jS (i:=0) (by decide+kernel) (by show 0<3;decide)]
    refine jN ⟨_,rfl,_,_,_,_,rfl,rfl,T1,qG (i:=0) (by decide+kernel) rfl,fL,fdg,_,_,[],[],E0,_,rfl,y3,hr,y4,y5,.nil,zS,_,rfl,_,rfl,_,rfl,?_⟩
    exact⟨_,sc,pr,_,Γ,κ,m,c,rfl,hp,⟨hd,x,p1,p2,rfl⟩,hh,hs,hm,hpr,hc,q⟩
   |fn x k p2=>
    obtain⟨fdg,y3,y4,y5⟩:=GN
    obtain⟨a,v0,v1,v2,rfl,ha,hx,hv1,hv2⟩:=vH hp
    refine⟨_,rfl,a,_,_,.str "fn",rfl,rfl,ha,qY (j:=0) rfl,?_⟩
    walk_at "d"
    refine⟨_,rfl,rfl,_,rfl,ite2 (fun h=>absurd h (by decide+kernel)) (fun _=>?_)⟩
    refine⟨_,rfl,rfl,_,rfl,ite2 (fun h=>absurd h (by decide+kernel)) (fun _=>?_)⟩
    refine⟨_,rfl,_,_,_,rfl,rfl,T1,_,rfl,?_⟩
    rw[jS (i:=1) (by decide+kernel) (by show 1<3;decide)]
    refine jN ⟨_,rfl,_,_,_,_,rfl,rfl,T1,qG (i:=1) (by decide+kernel) rfl,fN,fdg,_,_,[],[],E0,_,rfl,y3,hr,y4,y5,.nil,zS,_,rfl,_,rfl,_,rfl,?_⟩
    exact⟨_,sc,pr,_,Γ,κ,m,c,rfl,hp,⟨hd,x,k,p2,rfl⟩,hh,hs,hm,hpr,hc,q⟩
   |rc g x k l p2=>
    obtain⟨fdg,y3,y4,y5⟩:=GE
    obtain⟨a,v0,v1,v2,v3,v4,rfl,ha,_⟩:=rY hp
    refine⟨_,rfl,a,_,_,.str "rec",rfl,rfl,ha,qY (j:=0) rfl,?_⟩
    walk_at "d"
    refine⟨_,rfl,rfl,_,rfl,ite2 (fun h=>absurd h (by decide+kernel)) (fun _=>?_)⟩
    refine⟨_,rfl,rfl,_,rfl,ite2 (fun h=>absurd h (by decide+kernel)) (fun _=>?_)⟩
    refine⟨_,rfl,_,_,_,rfl,rfl,T1,_,rfl,?_⟩
    rw[jS (i:=2) (by decide+kernel) (by show 2<3;decide)]
    refine jN ⟨_,rfl,_,_,_,_,rfl,rfl,T1,qG (i:=2) (by decide+kernel) rfl,fR,fdg,_,_,[],[],E0,_,rfl,y3,hr,y4,y5,.nil,zS,_,rfl,_,rfl,_,rfl,?_⟩
    exact⟨_,sc,pr,_,Γ,κ,m,c,rfl,hp,⟨hd,g,x,k,l,p2,rfl⟩,hh,hs,hm,hpr,hc,q⟩
end
end K19
namespace L2
open PySem PySem.Spec PyProof.Rows PyProof Dt
section
variable {prog:Program} {w:World} {A:Around} {E:Value->Shared->Prop} {s:Shared}
theorem qL0{T newId:String}{self:Value}{rest:List Value}{kw:List (Str×Value)}(hl:typeLookup (.type T) "__init__"=pure (some (.builtin "object.__init__")))
  (hm:Bind.madeBy (.type T)=pure (some newId))(hne:(some newId !=some "object.__new__")=true):
  Meets (Builtin.«object.__init__» ⟨self::rest,kw⟩) (fun _ R s=>s.TypeIs self T/\R (.ok (.ret .none)) s):=by
 refine Meets.of_wp fun prog w A R s hs=>?_
 obtain⟨hT,hq⟩:=hs
 cases rest with
 |nil=>
  cases kw with
  |nil=>exact wpAny_pure ⟨_,rfl,hq⟩
  |cons p q=>
   repeat (any_goals (first|assumption|wp_step))
   exact⟨_,rfl,hq⟩
 |cons a rest=>
  repeat (any_goals (first|assumption|wp_step))
  exact⟨_,rfl,hq⟩
theorem qL1{T newId:String}{Bn:Builtin}{args:List Value}{kw:List (Str×Value)}{S:PySem.Spec}{Q:Value->Shared->Prop}(ft:TypeCalled T newId "object.__init__")
  (hne:(some newId !=some "object.__new__")=true)(hct:checkTypeCall T ⟨args,kw⟩=pure ())(hcn:checkBuiltinCall newId ⟨.type T::args,kw⟩=pure ())
  (hok:∀obj,argsOk "object.__init__" ⟨obj::args,kw⟩)(entryN:entryFor table newId=some Bn)(g:Meets (Bn ⟨.type T::args,kw⟩) S)
  (h:S A.in1 (wants (fun obj s₁=>s₁.TypeIs obj T/\Q obj s₁) E) s):wpAny (model prog w) A (call (.type T) args kw) Q E s:=by
 obtain⟨c,tl,hmro⟩:=ft.mro
 have hmade:=ft.made
 have hsub:=ft.sub
 refine wpAny_call (codeAny_of_tree ?_)
 show wpAny _ _ (callAny (.type T) _) _ _ _
 refine wpAny_pure ⟨Code.quiet_builtin _ (by decide+kernel),codeAny_builtin PySem.F.entry_type_call ?_⟩
 rw[Around.under_plain (weight_type_call_type T args kw) (units_type_call_type T args kw)]
 have h1:=ft.notType
 have h2:=ft.canCreate
 repeat (any_goals (first|assumption|wp_step))
 refine codeAny_mono (codeAny_call_builtin ft.plain entryN (wpAny_of_eq hcn (g prog w A.in1 _ s h))) fun r s₁ hr=>?_
 cases r with
 |error e=>exact hr
 |ok fl=>
  cases fl with
  |ret obj=>
   obtain⟨hT,hq⟩:=hr
   have hli:=ft.init.lookup
   have hbi:=ft.init.bind obj
   repeat (any_goals (first|assumption|wp_step))
   refine codeAny_mono (codeAny_call_builtin ft.init.plain PySem.F.entry_object_init (ft.init.check _ _ _ _ _ _ _ _ hT (hok obj) (qL0 ft.init.lookup ft.made hne prog w A.in1 (wants (fun r s₂=>r= .none/\Q obj s₂) E) s₁ ⟨hT,rfl,hq⟩))) fun r₂ s₂ hr₂=>?_
   cases r₂ with
   |error e=>exact hr₂
   |ok fl₂=>
    cases fl₂ with
    |ret r=>
     obtain⟨rfl,hq⟩:=hr₂
     repeat (any_goals (first|assumption|wp_step))
    |_=>exact hr₂.elim
  |_=>exact hr.elim
theorem nJ(l:Addr)(items:Array Value)(n:Nat)(dct:Option Addr)(sl:Array (Option Value))(t:Tok):
  Meets (Builtin.«enumerate.__new__» ⟨[.type "enumerate",.ref l],[("start",.int 1 t)]⟩) (fun _ R s=>s.heap.get? l=some {cls:=.type "list",dict:=dct,data:=.seq items n,slots:=sl}/\
   R (.ok (.ret (.ref (s.heap.push {cls:=.type "list_iterator",data:=.fields #[.ref l,.int 0 0]}).objs.size)))
    {s with heap:=(s.heap.push {cls:=.type "list_iterator",data:=.fields #[.ref l,.int 0 0]}).push {cls:=.type "enumerate",data:=.fields #[.none,.bool false,.ref s.heap.objs.size,rawInt 1,.none,.none]}}):=
 .of_wp fun prog w A R s h=>by
  obtain⟨hp,g,d,tk,os⟩:=s;obtain⟨hl,h⟩:=h
  have hsub:=sub_enumerate
  have hL:Heap.IsList (Shared.heap ⟨hp,g,d,tk,os⟩) l items:=⟨_,hl,rfl,n,rfl⟩
  wp_walk using AutoSeq1.wpAny_loadPart' hl
  refine wpAny_stack_any fun st=>wpAny_pure ?_
  split
  ·rename_i c _ _ _ _ _
   cases (c==Value.type "enumerate")
   ·wp_walk using AutoSeq1.wpAny_loadPart' hl,wpAny_pyIter_list hL
    exact⟨_,rfl,h⟩
   ·wp_walk using AutoSeq1.wpAny_loadPart' hl,wpAny_pyIter_list hL
    exact⟨_,rfl,h⟩
  ·wp_walk using AutoSeq1.wpAny_loadPart' hl,wpAny_pyIter_list hL
   exact⟨_,rfl,h⟩
theorem tP(a b:Value):checkTypeCall "enumerate" ⟨[a],[("start",b)]⟩=pure ():=by kernel_rfl
theorem qJ3(a b:Value):checkBuiltinCall "enumerate.__new__" ⟨[.type "enumerate",a],[("start",b)]⟩=pure ():=by kernel_rfl
theorem fJ(a b c:Value):argsOk "object.__init__" ⟨[a,b],[("start",c)]⟩:=by
 unfold argsOk;rw[signature?_of (id:="object.__init__") (n:=['_','_','t','i','n','i','_','_']) (o:=['t','c','e','j','b','o']) (by kernel_rfl) PySem.F.owner_object];kernel_rfl
theorem fX{l:Addr}{items:Array Value}{t:Tok}{Q:Value->Shared->Prop}(hL:s.heap.IsList l items)
  (h:∀h',IsEnum h' (s.heap.objs.size+1) s.heap.objs.size 1 .none->h'.IsListIter s.heap.objs.size l 0->
   (∀b o,s.heap.get? b=some o->h'.get? b=some o)->Q (.ref (s.heap.objs.size+1)) {s with heap:=h'}):
  wpAny (model prog w) A (call (.type "enumerate") [.ref l] [("start",.int 1 t)]) Q E s:=by
 obtain⟨⟨c,dct,dt,sl⟩,hl,hc,n,hd⟩:=hL
 replace hc:c= .type "list":=hc
 replace hd:dt= .seq items n:=hd
 subst hc hd
 refine qL1 PySem.F.called_enumerate (by decide) (tP _ _) (qJ3 _ _) (fun obj=>fJ obj _ _) PySem.F.entry_enumerate_new
  (nJ l items n dct sl t) ⟨hl,?_⟩
 have hz:(s.heap.push {cls:=.type "list_iterator",data:=.fields #[.ref l,.int 0 0]}).objs.size=s.heap.objs.size+1:=Heap.size_push ..
 show _/\_
 rw[hz]
 have he:IsEnum ((s.heap.push {cls:=.type "list_iterator",data:=.fields #[.ref l,.int 0 0]}).push
   {cls:=.type "enumerate",data:=.fields #[.none,.bool false,.ref s.heap.objs.size,rawInt 1,.none,.none]}) (s.heap.objs.size+1) s.heap.objs.size 1 .none:=by
  have :=Heap.get?_push_size (s.heap.push {cls:=.type "list_iterator",data:=.fields #[.ref l,.int 0 0]})
   (o:={cls:=.type "enumerate",data:=.fields #[.none,.bool false,.ref s.heap.objs.size,rawInt 1,.none,.none]}) rfl
  rw[hz]at this;exact this
 exact⟨⟨_,he,rfl⟩,h _ he ⟨_,Heap.get?_push_of_some _ (Heap.get?_push_size _ rfl),rfl,rfl⟩ fun b o x=>Heap.get?_push_of_some _ (Heap.get?_push_of_some _ x)⟩
theorem draws1(hh:A.handled=none)(it l:Addr)(hne:l≠it)(items:Array Value):
  Draws prog w A it [it,l] (items.size+1) (fun i v=>∃j,i=j+1/\items[j]? =some v) (fun i h=>∃j,i=j+1/\h.IsListIter it l j/\h.IsList l items):=by
 have D:=Draws.list (prog:=prog) (w:=w) hh it l hne items
 exact {
  live:=fun i h⟨j,_,st⟩=>D.live j h st
  frame:=fun i h h'⟨j,e,st⟩hk=>⟨j,e,D.frame j h h' st hk⟩
  item:=fun i s Q E hi⟨j,e,st⟩hQ=>D.item j s Q E (by omega) st fun x h' tk p st' sb=>hQ x h' tk ⟨j,e,p⟩ ⟨j+1,by omega,st'⟩ sb
  done:=fun s Q E⟨j,e,st⟩hE=>D.done s Q E (by have :j=items.size:=(by omega);exact this▸st) hE}
theorem tR(hh:A.handled=none)(it l:Addr)(items:Array Value)(i:Nat)(hi:items[i]? =none):
  Draws prog w A it [it,l] (i+1) (fun _ _=>False) (fun k h=>k=i+1/\h.IsListIter it l i/\h.IsList l items)where
 live:=fun _ _ st=>let⟨o,ho,_⟩:=st.2.1;⟨o,ho⟩
 frame:=fun _ _ _ st hk=>⟨st.1,st.2.1.at fun o e=>hk it (by simp) o e,st.2.2.at fun o e=>hk l (by simp) o e⟩
 item:=fun k s Q E hk st hQ=>by have :=st.1;omega
 done:=fun s Q E st hE=>wpAny_nextOf_list_end hh st.2.1 st.2.2 hi hE
end
section
variable {M:Model} {A:Around} {E:Value->Shared->Prop} {s:Shared} {env:Env}
theorem lF{pos:Pos}{T:String}{e:Expr}{rest:List Expr}{kws:List Keyword}{Q:Value->Shared->Prop}
  (h:wpAny M A (spliced (backTo pos (starEach (e::rest) env))) (fun vs s₁=>wpAny M A (evalAll ((backToKw pos (keywordEach kws env)).map (·.2)))
   (fun kvs s₂=>wpAny M A (call (.type T) vs (((backToKw pos (keywordEach kws env)).filterMap (·.1)).zip kvs)) Q E s₂) E s₁) E s)
  (he:backTo pos (starEach (e::rest) env)=(false,eval e env)::backTo pos (starEach rest env):=by rfl)
  (hplain:(backTo pos (starEach (e::rest) env)).any (·.1)=false:=by rfl)
  (hall:(backToKw pos (keywordEach kws env)).all (·.1.isSome)=true:=by rfl)
  (hkw:(backToKw pos (keywordEach kws env)).any (·.1.isNone)=false:=by rfl):
  wpAny M A (callWith pos (.type T) [] (backTo pos (starEach (e::rest) env)) (backToKw pos (keywordEach kws env))) Q E s:=by
 have h2:wpAny M A (evalArgs (.type T) true (backTo pos (starEach (e::rest) env)) (backToKw pos (keywordEach kws env))) (fun a s₁=>wpAny M A (call (.type T) ([]++a.pos) a.kw) Q E s₁) E s:=by
  rw[he]at h⊢
  exact evalArgs_kwB hall h
 unfold callWith
 refine wpAny_bind (wpAny_holding (wpAny_mono h2 (fun a s₁ h₁=>wpAny_bind (wpAny_standAt ?_)) fun _ _ x=>x))
 simp only[hplain,hkw,Bool.or_false]
 refine wpAny_bind (wpAny_pure ?_)
 exact wpAny_bind (wpAny_mono h₁ (fun r s₂ hr=>wpAny_bind (wpAny_holding (wpAny_point (wpAny_pure hr)))) fun _ _ x=>x)
end
def Ite1(K:Fg)(l:Addr):It:=⟨fun i H=>∃xs x,zH K H l xs/\xs[i]? =some x,
 fun i H v H'=>∃T x,H T=none/\v= .ref T/\H'=upd H T (.tup [.int (i+1:Nat),x])/\∀ys,zH K H l ys->ys[i]? =some x,
 fun i H=>∃xs,zH K H l xs/\xs.length<=i⟩
theorem fK{P:Program}{w:World}{K:Fg}{es:List Expr}{k0}{pos:Pos}(l e it:Addr)(ne:e≠it):Turn P w K (.Tuple es k0 pos) (Ite1 K l) [e,it] e (fun i h=>(∃old,IsEnum h e it (i+1:Nat) old)/\h.IsListIter it l i)where
 mem:=by simp
 obj:=fun i h st b hb=>by
  obtain⟨⟨old,e1⟩,o,e2,c2,d2⟩:=st
  rcases List.mem_cons.mp hb with z|z
  ·rw[z];exact⟨_,e1,fun v z=>by cases z⟩
  ·rw[List.mem_singleton.mp z];exact⟨o,e2,fun v z=>by rw[d2]at z;cases z⟩
 keep:=fun i h h' st k=>⟨st.1.imp fun old q=>k e (by simp) _ q,st.2.at fun o q=>k it (by simp) o q⟩
 item:=by
  intro X hP hw hK hc i pins s σ H E I hf st hg
  subst hP hw hK
  obtain⟨xs,x,hq,hx⟩:=hg
  obtain⟨its,rv,p,hz⟩:=I.list hq
  obtain⟨⟨old,e1⟩,e2⟩:=st
  have pL:=p.isList
  have hli:l≠it:=by
   obtain⟨o,q,c,_⟩:=e2
   obtain⟨o',q',c',_⟩:=pL
   intro z;subst z
   rw[q]at q';cases q';rw[c]at c';exact absurd (Value.type.inj c') (by decide)
  have hle:e≠l:=by
   obtain⟨o',q',c',_⟩:=pL
   intro z;subst z
   rw[e1]at q';cases q';exact absurd (Value.type.inj c') (by decide)
  have hlen:i<its.length:=by
   have :=rv.length
   rcases Nat.lt_or_ge i xs.length with h|h
   ·omega
   ·rw[List.getElem?_eq_none h]at hx;cases hx
  refine wpAny_pyNext_enum_itemD (draws1 (A:=X.A.in1) (I.ok.hd hc) it l hli its.toArray) e1 ⟨i,rfl,e2,p.isList⟩ (by simp;exact hlen) ne (by simp;exact⟨ne,hle⟩) fun u h1 tk⟨j,ej,hu⟩o1 i1 t1 z1 k1=>⟨_,rfl,wpAny_letOwnedTupleGo_enum o1 fun h2 o2 b2=>?_⟩
  have ej':j=i:=by omega
  subst ej'
  obtain⟨j2,ej2,i1,_⟩:=i1
  have ej2':j2=j+1:=by omega
  subst ej2'
  obtain⟨u',hu',ru⟩:=rv.get hx
  have eu:u'=u:=by
   have :its[j]? =some u:=by simpa using hu
   rw[hu']at this;exact Option.some.inj this
  subst eu
  have e3:e≠s.heap.objs.size:=yI e1
  have e4:it≠s.heap.objs.size:=by obtain⟨o,q,_⟩:=e2;exact yI q
  have nT:H s.heap.objs.size=none:=I.hok.fresh (aq7 _)
  have t2:h2.get? s.heap.objs.size=some {cls:=.type "tuple",data:=.seq #[.int (j+1:Nat) tk,u']}:=(b2.2 _ (Ne.symm e3)).trans t1
  have I1:Inv X pins σ (upd H s.heap.objs.size (.tup [.int (j+1:Nat),x])) {s with heap:=s.heap.push {cls:=.type "tuple",data:=.seq #[.int (j+1:Nat) tk,u']},toks:=tk+1}:=
   I.laid (fun b v q=>Heap.get?_push_of_some _ q) (aq7 _) ⟨by show 2<=sizeLine;decide,[.int (j+1:Nat) tk,u'],.cons ⟨_,rfl⟩ (.cons ru .nil),⟨_,Heap.get?_push_size _ rfl,rfl,_,rfl⟩⟩
  have I2:Inv X pins σ (upd H s.heap.objs.size (.tup [.int (j+1:Nat),x])) {s with heap:=h2,toks:=tk+1}:=by
   refine Inv.turnedL (s:={s with heap:=s.heap.push {cls:=.type "tuple",data:=.seq #[.int (j+1:Nat) tk,u']},toks:=tk+1}) (ch:=[e,it]) (t':=tk+1) I1 (fun b o hb q=>?_) fun b hb=>?_
   ·have b1:b≠e:=fun z=>hb (by simp[z])
    have b3:b≠it:=fun z=>hb (by simp[z])
    by_cases bT:b=s.heap.objs.size
    ·subst bT
     have z:(s.heap.push {cls:=.type "tuple",data:=.seq #[.int (j+1:Nat) tk,u']}).get? s.heap.objs.size=some _:=Heap.get?_push_size _ rfl
     rw[z]at q
     exact t2.trans q
    ·have q':s.heap.get? b=some o:=by rw[<-q];exact(Heap.get?_push_ne _ _ _ bT).symm
     exact(b2.2 b b1).trans (k1 b o b1 b3 q')
   ·obtain⟨f0,f1⟩:=hf b hb
    refine⟨?_,f1⟩
    rw[qH ?_]
    ·exact f0
    ·rcases List.mem_cons.mp hb with z|z
     ·rw[z];exact e3
     ·rw[List.mem_singleton.mp z];exact e4
  refine⟨.ref s.heap.objs.size,_,I2,rfl,⟨s.heap.objs.size,x,nT,rfl,rfl,fun ys hy=>by rw[I.list_inj hy hq];exact hx⟩,⟨⟨u',by simpa using o2⟩,i1.at fun o q=>(b2.2 it (Ne.symm ne)).trans q⟩,fun b hb=>?_⟩
  rw[qH ?_]
  ·exact(hf b hb).1
  ·rcases List.mem_cons.mp hb with z|z
   ·rw[z];exact e3
   ·rw[List.mem_singleton.mp z];exact e4
 done:=by
  intro X hP hw hK hc i pins s σ H E I hf st hg
  subst hP hw hK
  obtain⟨xs,hq,hx⟩:=hg
  obtain⟨its,rv,p,hz⟩:=I.list hq
  have hl:=rv.length
  obtain⟨⟨old,e1⟩,e2⟩:=st
  exact wpAny_pyNext_enum_endD (tR (A:=X.A.in1) (I.ok.hd hc) it l its.toArray i (by simp;omega)) e1 ⟨rfl,e2,p.isList⟩ fun h' eb=>⟨rfl,I.turnedL (t':=s.toks) (ch:=[e,it]) (fun b o hb q=>eb b o (fun z=>hb (by simp[z])) q) hf⟩
 self:=fun _ _ _ _ _ st h=>let⟨⟨_,e1⟩,_⟩:=st;wpAny_pyIter_enum e1 h
def qT6(K:Fg)(ta:TA):TI:=fun σ H R=>ta σ H fun vs H1=>∃l,vs=[.ref l]/\(∃xs,zH K H1 l xs)/\R (Ite1 K l) H1
theorem qJ4{X:Cx}{a:Expr}{ta:TA}{p pos p2 kp p3:Pos}{j:Nat}{es:List Expr}{k0}(hg:Gl X "enumerate")(hm:X.mg "enumerate"=none)(ha:PA X [a] ta)
  (he:backTo pos (starEach [a] X.env)=[(false,eval a X.env)]:=by rfl)
  (hk:eval (.Call (.Name "enumerate" p) [a] [⟨some "start",.Constant (.int 1) j p3,kp⟩] pos) X.env=(do callWith pos (<-eval (.Name "enumerate" p) X.env) [] (backTo pos (starEach [a] X.env)) (backToKw pos (keywordEach [⟨some "start",.Constant (.int 1) j p3,kp⟩] X.env))):=by rfl):
  PI X (.Tuple es k0 p2) (.Call (.Name "enumerate" p) [a] [⟨some "start",.Constant (.int 1) j p3,kp⟩] pos) (qT6 X.K ta):=by
 intro pins s σ H R I h
 rw[hk]
 refine wpAny_bind (vZ I hg hm boot_enumerate (lF (thn (ha pos pins s σ H _ I h) fun us s1⟨vs,H1,I1,r1,q1⟩=>?_) he (by rw[he];rfl)))
 obtain⟨l,rfl,⟨xs,hq⟩,q⟩:=q1
 obtain⟨u,rfl,ru⟩:=vals1 r1
 cases ru
 refine kws_cons (wpAny_Constant_int (kws_nil ?_))
 have I2:=I1.tok (s1.toks+1)
 obtain⟨its,rv,pl,hz⟩:=I2.list hq
 refine fX pl.isList fun h' e1 e2 kp=>wpAny_pyIter_enum e1 ?_
 refine⟨_,[s1.heap.objs.size+1,s1.heap.objs.size],_,_,H1,rfl,I2.kept (t':=s1.toks+1) kp,fK l _ _ (Nat.succ_ne_self _),⟨⟨_,e1⟩,e2⟩,fun b hb=>?_,q⟩
 have hb':s1.heap.objs.size<=b:=by
  rcases List.mem_cons.mp hb with z|z
  ·rw[z];exact Nat.le_succ _
  ·rw[List.mem_singleton.mp z];exact aq7 _
 exact I1.fpOk hb' (I1.hok.fresh hb')
theorem tS{K:Fg}{l:Addr}{xs:List V}{g:TG}{tb:TS}{D:Ends}{σ:St}{H:Hp}(Pv:Nat->St->Hp->Prop)(h0:Pv 0 σ H)(hl:∀i σ H,i<=xs.length->Pv i σ H->zH K H l xs)
  (hs:∀i x T σ H,xs[i]? =some x->Pv i σ H->H T=none->g (.ref T) σ (upd H T (.tup [.int (i+1:Nat),x])) fun σ2 H2=>tb {D with nx:=Pv (i+1),ct:=Pv (i+1),bk:=D.nx} σ2 H2)(hd:∀σ H,Pv xs.length σ H->D.nx σ H):
  ∃W:Nat->Nat->St->Hp->Prop,(∃m,W 0 m σ H)/\∀i m σ H,W i m σ H->
   ((Ite1 K l).stop i H/\D.nx σ H)\/((Ite1 K l).go i H/\∃N:St->Hp->Prop,(∀σ' H',N σ' H'->∃m',m'<m/\W (i+1) m' σ' H')/\∀x H',(Ite1 K l).yld i H x H'->g x σ H' fun σ2 H2=>tb {D with nx:=N,ct:=N,bk:=D.nx} σ2 H2):=by
 refine⟨fun i m σ H=>m=xs.length-i/\i<=xs.length/\Pv i σ H,⟨xs.length,by simp,Nat.zero_le _,h0⟩,?_⟩
 rintro i m σ H ⟨rfl,hi,p⟩
 have q:=hl i σ H hi p
 by_cases hlt:i<xs.length
 ·refine .inr ⟨⟨xs,xs[i],q,List.getElem?_eq_getElem hlt⟩,Pv (i+1),fun σ' H' p'=>⟨xs.length-(i+1),by omega,rfl,hlt,p'⟩,fun x H' y=>?_⟩
  obtain⟨T,z,hT,rfl,rfl,hz⟩:=y
  exact hs i z T σ H (hz xs q) p hT
 ·have e:i=xs.length:=by omega
  subst e
  exact .inl ⟨⟨xs,q,aq7 _⟩,hd σ H p⟩
theorem zWz{P:Program}{w:World}{k:Key}{u:Value}(h:(jQ P w).is k u=true):zU (kV k) u:=by
 rw[bL]at h
 cases k with
 |inl i=>obtain⟨t,rfl⟩:=Value.isInt_shape h;exact⟨t,rfl⟩
 |inr x=>obtain⟨t,rfl⟩:=Value.isStrOf_shape h;exact⟨t,rfl⟩
theorem tT{P:Program}{w:World}{kvs:List (Key×V)}{vs:List (Key×Value)}(r:KV kvs vs):∀{us:List Value},us.length=vs.length->(∀(j:Nat)u,us[j]? =some u->∃k x,vs[j]? =some (k,x)/\(jQ P w).is k u=true)->Vals (kvs.map fun p=>kV p.1) us:=by
 induction r with
 |nil=>
  intro us hl _
  cases us with
  |nil=>exact .nil
  |cons _ _=>simp at hl
 |cons e _ ih=>
  intro us hl h
  cases us with
  |nil=>simp at hl
  |cons u us=>
   obtain⟨k,x,h1,h2⟩:=h 0 u rfl
   have h1':=Option.some.inj h1
   refine .cons ?_ (ih (by simpa using hl) fun j v hv=>h (j+1) v (by simpa using hv))
   have e1:=e.1
   rw[h1']at e1
   show zU (kV _) u
   rw[e1]
   exact zWz h2
theorem fY{X:Cx}(hc:X.calm=true):kO X (.type "list") (fun xs H Q=>∃a kvs,xs=[V.ref a]/\H a=some (.dK kvs)/\∀l,H l=none->Q (.ref l) (upd H l (.lst (kvs.map fun p=>kV p.1)))):=by
 intro pins s σ H xs us Q I r h
 obtain⟨a,kvs,rfl,ha,q⟩:=h
 obtain⟨u,rfl,rx⟩:=vals1 r
 cases rx
 obtain⟨hz,lo,vs,rv,hD⟩:kvs.length<=sizeLine/\(a==sysModules)=false/\∃vs,KV kvs vs/\s.heap.DictOf (jQ X.prog X.w) a vs:=I.hok a _ ha
 obtain⟨ep,hat⟩:=hD.dictAt
 have hl:kvs.length=vs.length:=Paired.length rv
 refine PySem.W.kdl_call (PySem.W.kdl_dict (knd:=jQ X.prog X.w) (kvs:=vs) (ep:=ep) lo) (I.ok.hd hc) hat (by omega) fun h' tk acc c kp e hacc=>?_
 refine⟨.ref s.heap.objs.size,_,I.laid (t':=tk) kp (aq7 _) (show jA X.prog X.w _ h' _ (.lst (kvs.map fun p=>kV p.1))from⟨by simpa using hz,acc.toList,c,tT rv (by rw[Array.length_toList];exact hacc.1) (fun j u hu=>hacc.2 j u (by rw[<-Array.getElem?_toList];exact hu)),by simpa using e⟩),rfl,q _ (I.hok.fresh (aq7 _))⟩
end L2
namespace K19
open PySem L2 PyProof Dt
abbrev sON:Stmt:=top 74
def Pt.names:Pt->List Str
 | .let_ x _ _=>[x]| .fn x _ _=>[x]| .rc f x _ _ _=>[f,x]
 |_=>[]
def wY:Pt->Bool
 | .nam _=>true
 |_=>false
theorem qT7:zK "let"=(["name","part","part"]:List Str):=by decide+kernel
theorem zY0:zK "fn"=(["name","kind","part"]:List Str):=by decide+kernel
theorem qT8:zK "rec"=(["name","name","kind","kind","part"]:List Str):=by decide+kernel
theorem qT9:zK "nil"=(["kind"]:List Str):=by decide+kernel
theorem qTq:¬(("name":Str)="part"):=by decide+kernel
theorem qTz:¬(("kind":Str)="part"):=by decide+kernel
theorem lH:¬(("part":Str)="name"):=by decide+kernel
theorem qTj:¬(("kind":Str)="name"):=by decide+kernel
theorem nX{p:Pt}(hp:wY p=false)(x:Str):p.fv x↔∃(i:Nat)(q:Pt),(Pt.parts p)[i]? =some q/\q.fv x/\(i+1<(Pt.parts p).length\/x∉Pt.names p):=by
 have c1:∀(q:Pt),(∃(i:Nat)(r:Pt),[q][i]? =some r/\r.fv x/\(i+1<[q].length\/x∉Pt.names p))↔q.fv x/\x∉Pt.names p:=fun q=>by
  constructor
  ·rintro⟨i,r,h1,h2,h3⟩
   match i,h1 with
   |0,h1=>cases h1;exact⟨h2,h3.elim (fun z=>absurd z (by simp)) id⟩
   |i+1,h1=>simp at h1
  ·rintro⟨h1,h2⟩
   exact⟨0,q,rfl,h1,.inr h2⟩
 cases p with
 |nam y=>cases hp
 |num n=>simp[Pt.fv,Pt.parts]
 |tru n=>simp[Pt.fv,Pt.parts]
 |nil n=>simp[Pt.fv,Pt.parts]
 |one u p=>rw[show Pt.parts (.one u p)=[p]from rfl,c1];simp[Pt.fv,Pt.names]
 |fn y k p=>rw[show Pt.parts (.fn y k p)=[p]from rfl,c1];simp[Pt.fv,Pt.names]
 |rc g y k l p=>rw[show Pt.parts (.rc g y k l p)=[p]from rfl,c1];simp[Pt.fv,Pt.names]
 |two u p q=>
  rw[show Pt.parts (.two u p q)=[p,q]from rfl]
  constructor
  ·rintro(h|h)
   ·exact⟨0,p,rfl,h,.inl (by simp)⟩
   ·exact⟨1,q,rfl,h,.inr (by simp[Pt.names])⟩
  ·rintro⟨i,r,h1,h2,h3⟩
   match i,h1 with
   |0,h1=>cases h1;exact .inl h2
   |1,h1=>cases h1;exact .inr h2
   |i+2,h1=>simp at h1
 |let_ y p q=>
  rw[show Pt.parts (.let_ y p q)=[p,q]from rfl]
  constructor
  ·rintro(h|h)
   ·exact⟨0,p,rfl,h,.inl (by simp)⟩
   ·exact⟨1,q,rfl,h.1,.inr (by simp[Pt.names,h.2])⟩
  ·rintro⟨i,r,h1,h2,h3⟩
   match i,h1 with
   |0,h1=>cases h1;exact .inl h2
   |1,h1=>cases h1;exact .inr ⟨h2,by simpa[Pt.names]using h3⟩
   |i+2,h1=>simp at h1
 |ite p q r=>
  rw[show Pt.parts (.ite p q r)=[p,q,r]from rfl]
  constructor
  ·rintro(h|h|h)
   ·exact⟨0,p,rfl,h,.inl (by simp)⟩
   ·exact⟨1,q,rfl,h,.inl (by simp)⟩
   ·exact⟨2,r,rfl,h,.inr (by simp[Pt.names])⟩
  ·rintro⟨i,r',h1,h2,h3⟩
   match i,h1 with
   |0,h1=>cases h1;exact .inl h2
   |1,h1=>cases h1;exact .inr (.inl h2)
   |2,h1=>cases h1;exact .inr (.inr h2)
   |i+3,h1=>simp at h1
theorem tE{p:Pt}(hp:wY p=false):szs (Pt.parts p)<=p.sz/\∀q∈Pt.parts p,q.deep<p.deep:=by
 cases p with
 |num n=>simp[Pt.parts,szs,Pt.sz]
 |tru b=>simp[Pt.parts,szs,Pt.sz]
 |nil _=>simp[Pt.parts,szs,Pt.sz]
 |nam _=>cases hp
 |one o p=>simp[Pt.parts,szs,Pt.sz,Pt.deep]
 |two o p q=>simp[Pt.parts,szs,Pt.sz,Pt.deep];omega
 |ite p q r=>simp[Pt.parts,szs,Pt.sz,Pt.deep];omega
 |let_ _ _ _=>simp[Pt.parts,szs,Pt.sz,Pt.deep];omega
 |fn _ _ _=>simp[Pt.parts,szs,Pt.sz,Pt.deep]
 |rc _ _ _ _ _=>simp[Pt.parts,szs,Pt.sz,Pt.deep]
theorem qA0{p:Pt}(hp:wY p=false):decide (V.str (Pt.wd p)=V.str "name")=false:=by
 by_cases hpl:Pt.plain p=true
 ·exact(rB _ (nZ hpl)).1
 ·have h4:∀x∈(["nil","let","fn","rec"]:List Str),decide (V.str x=V.str "name")=false:=by decide+kernel
  refine h4 _ ?_
  cases p with
  |nam _=>cases hp
  |num _=>exact absurd rfl hpl
  |tru _=>exact absurd rfl hpl
  |one _ _=>exact absurd rfl hpl
  |two _ _ _=>exact absurd rfl hpl
  |ite _ _ _=>exact absurd rfl hpl
  |_=>simp[Pt.wd]
theorem nV(x:Str):∀ns:List Str,dG (.str x) (ns.map V.str)=decide (x∈ns)
 |[]=>rfl
 |n::ns=>by
  have ih:=nV x ns
  unfold dG at ih⊢
  rw[List.map_cons,List.any_cons,ih]
  by_cases h:x=n
  ·subst h;simp[eqV]
  ·simp[eqV,h]
   intro z;exact absurd z.symm h
theorem aQ(ns:List Str):(ns.map V.str).all yZ=true:=by
 rw[List.all_eq_true];intro y hy
 obtain⟨b,_,rfl⟩:=List.mem_map.mp hy
 rfl
section
variable {P:Program} {w:World} {K:Fg} {mg:Str->Option Value} {base:Heap} {f:Addr} {fd:FuncData}
theorem iQ{H:Hp}{p:Pt}{v:V}(hp:wY p=false)(h:qW K H p.dt v):∃a xs,v= .ref a/\zO K H a (.str (Pt.wd p)::xs)/\xs.length<=1000/\qI K H ((Pt.parts p).map Pt.dt) (behind (zK (Pt.wd p)) xs "part")/\behind (zK (Pt.wd p)) xs "name"=(Pt.names p).map V.str:=by
 by_cases hpl:Pt.plain p=true
 ·obtain⟨a,xs,rfl,h1,h2,h3⟩:=oE hpl h
  refine⟨a,xs,rfl,h1,h2,h3,?_⟩
  cases p with
  |num n=>rw[show zK (Pt.wd (.num n))=[]from qZj];rfl
  |tru n=>rw[show zK (Pt.wd (.tru n))=[]from qJ0];rfl
  |one o p=>rw[show zK (Pt.wd (.one o p))=_ from qD9 o];unfold behind;cases xs<;>simp[lH,Pt.names]
  |two o p q=>
   rw[show zK (Pt.wd (.two o p q))=_ from qDq o];unfold behind
   match xs with
   |[]=>simp[Pt.names]
   |[_]=>simp[lH,Pt.names]
   |_::_::_=>simp[lH,Pt.names]
  |ite p q r=>
   rw[show zK (Pt.wd (.ite p q r))=_ from qDz];unfold behind
   match xs with
   |[]=>simp[Pt.names]
   |[_]=>simp[lH,Pt.names]
   |[_,_]=>simp[lH,Pt.names]
   |_::_::_::_=>simp[lH,Pt.names]
  |nam _=>cases hp
  |nil _=>simp[Pt.plain]at hpl
  |let_ _ _ _=>simp[Pt.plain]at hpl
  |fn _ _ _=>simp[Pt.plain]at hpl
  |rc _ _ _ _ _=>simp[Pt.plain]at hpl
 ·cases p with
  |num _=>exact absurd rfl hpl
  |tru _=>exact absurd rfl hpl
  |one _ _=>exact absurd rfl hpl
  |two _ _ _=>exact absurd rfl hpl
  |ite _ _ _=>exact absurd rfl hpl
  |nam _=>cases hp
  |nil k=>
   obtain⟨a,u,rfl,hs,h1⟩:=kC h
   refine⟨a,_,rfl,hs,by simp,?_,?_⟩<;>rw[show zK (Pt.wd (.nil k))=_ from qT9]
   ·rw[show behind (["kind"]:List Str) [u] "part"=[] by unfold behind;simp[qTz]];exact qT
   ·unfold behind;simp[qTj,Pt.names]
  |let_ x p q=>
   obtain⟨a,u,y,z,rfl,hs,hx,h1,h2⟩:=vH h
   cases jR hx
   refine⟨a,_,rfl,hs,by simp,?_,?_⟩<;>rw[show zK (Pt.wd (.let_ x p q))=_ from qT7]
   ·rw[show behind (["name","part","part"]:List Str) [.str x,y,z] "part"=[y,z] by unfold behind;simp[qTq]];exact qF h1 (qF h2 qT)
   ·unfold behind;simp[lH,Pt.names]
  |fn x k p=>
   obtain⟨a,u,y,z,rfl,hs,hx,h1,h2⟩:=vH h
   cases jR hx
   refine⟨a,_,rfl,hs,by simp,?_,?_⟩<;>rw[show zK (Pt.wd (.fn x k p))=_ from zY0]
   ·rw[show behind (["name","kind","part"]:List Str) [.str x,y,z] "part"=[z] by unfold behind;simp[qTq,qTz]];exact qF h2 qT
   ·unfold behind;simp[lH,qTj,Pt.names]
  |rc g x k l p=>
   obtain⟨a,u,y,z,z2,z3,rfl,hs,hg,hx,h1,h2,h3⟩:=rY h
   cases jR hx
   cases jR hg
   refine⟨a,_,rfl,hs,by simp,?_,?_⟩<;>rw[show zK (Pt.wd (.rc g x k l p))=_ from qT8]
   ·rw[show behind (["name","name","kind","kind","part"]:List Str) [.str g,.str x,z,z2,z3] "part"=[z3] by unfold behind;simp[qTq,qTz]];exact qF h3 qT
   ·unfold behind;simp[lH,qTj,Pt.names]
end
theorem iZ(kvs:List (Key×V))(k:Key)(u:V):(k∈kvs.map Prod.fst->(kM kvs k u).map Prod.fst=kvs.map Prod.fst)/\(k∉kvs.map Prod.fst->(kM kvs k u).map Prod.fst=kvs.map Prod.fst++[k]):=by
 unfold kM
 have e:((kvs.any fun kv=>decide (kv.1=k))=true)↔k∈kvs.map Prod.fst:=by
  rw[List.any_eq_true]
  constructor
  ·rintro⟨p,hp,e⟩;exact List.mem_map.mpr ⟨p,hp,of_decide_eq_true e⟩
  ·intro h;obtain⟨p,hp,e⟩:=List.mem_map.mp h;exact⟨p,hp,decide_eq_true e⟩
 refine⟨fun h=>?_,fun h=>?_⟩
 ·rw[if_pos (e.mpr h),List.map_map]
  apply List.map_congr_left
  intro a _
  show(if a.1=k then(a.1,u)else a).1=a.1
  split<;>rfl
 ·rw[if_neg (fun z=>h (e.mp z))];simp
theorem lP{x:Str}{xs:List Str}:(Sum.inr x:Key)∈xs.map (fun y=>(Sum.inr y:Key))↔x∈xs:=by
 rw[List.mem_map]
 exact⟨fun⟨y,h,e⟩=>by cases e;exact h,fun h=>⟨x,h,rfl⟩⟩
abbrev jT(kvs:List (Key×V))(xs:List Str):Prop:=kvs.map Prod.fst=xs.map fun y=>(Sum.inr y:Key)
theorem jT.put{kvs:List (Key×V)}{acc ys:List Str}{x:Str}{u:V}(h:jT kvs (Pt.ins acc ys)):jT (kM kvs (Sum.inr x:Key) u) (Pt.ins acc (ys++[x])):=by
 unfold jT at *
 rw[Pt.ins_snoc]
 by_cases z:x∈Pt.ins acc ys
 ·rw[(iZ kvs _ u).1 (by rw[h];exact lP.mpr z),if_pos z,h]
 ·rw[(iZ kvs _ u).2 (by rw[h];exact fun q=>z (lP.mp q)),if_neg z,h];simp
theorem jT.strs{kvs:List (Key×V)}{xs:List Str}(h:jT kvs xs):kvs.map (fun p=>kV p.1)=xs.map V.str:=by
 have e:kvs.map (fun p=>kV p.1)=(kvs.map Prod.fst).map kV:=by rw[List.map_map];rfl
 rw[e,h,List.map_map];rfl
theorem jT.length{kvs:List (Key×V)}{xs:List Str}(h:jT kvs xs):kvs.length=xs.length:=by
 have :=congrArg List.length h
 simpa using this
theorem aZ{p:Pt}(h:wY p=false):Pt.outs p=Pt.accs (Pt.names p) (Pt.parts p) (Pt.parts p).length:=by
 cases p with
 |nam x=>cases h
 |num n=>rfl
 |tru n=>rfl
 |nil n=>rfl
 |one u p=>simp[Pt.outs,Pt.accs,Pt.names,Pt.parts,Pt.filter_yes]
 |two u p q=>simp[Pt.outs,Pt.accs,Pt.names,Pt.parts,Pt.filter_yes]
 |ite p q r=>simp[Pt.outs,Pt.accs,Pt.names,Pt.parts,Pt.filter_yes]
 |let_ x p q=>simp[Pt.outs,Pt.accs,Pt.names,Pt.parts,Pt.filter_yes]
 |fn x k p=>simp[Pt.outs,Pt.accs,Pt.names,Pt.parts,Pt.filter_yes]
 |rc f x k l p=>simp[Pt.outs,Pt.accs,Pt.names,Pt.parts,Pt.filter_yes]
theorem nW(ns:List Str)(ps:List Pt):∀i,(Pt.accs ns ps i).length<=szs (ps.take i)
 |0=>by simp[Pt.accs]
 |i+1=>by
  have ih:=nW ns ps i
  rw[Pt.accs]
  cases e:ps[i]?with
  |none=>
   have h:ps.length<=i:=List.getElem?_eq_none_iff.mp e
   rw[List.take_of_length_le h]at ih
   rw[List.take_of_length_le (by omega)];exact ih
  |some q=>
   have h1:=Pt.length_ins (Pt.accs ns ps i) ((Pt.outs q).filter fun x=>decide (i+1<ps.length\/x∉ns))
   have h2:=List.length_filter_le (fun x=>decide (i+1<ps.length\/x∉ns)) (Pt.outs q)
   have h3:=Pt.outs_length q
   have h4:=vP _ _ _ e
   show(Pt.ins _ _).length<=_
   omega
section
variable {P:Program} {w:World} {K:Fg} {mg:Str->Option Value} {base:Heap} {f:Addr} {fd:FuncData}
inductive qF0(K:Fg)(n:Nat)(vs:List V)(H:Hp)(Q:VK):Prop
 |mk (v:V) (p:Pt) (a_0:vs=[v]) (a_1:qW K H p.dt v) (a_2:p.deep<n) (a_3:p.sz<=50000) (a_4:∀l H',Grow H H'->H l=none->H' l=some (.lst ((Pt.outs p).map V.str))->Q (.ref l) H'):qF0 K n vs H Q
def aJ(K:Fg)(n:Nat):Sp:=fun vs H Q x_0=>qF0 K n vs H Q
structure GlO(mg:Str->Option Value):Prop where
 enumerate:mg "enumerate"=none
 len:mg "len"=none
 list:mg "list"=none
theorem nY:qO ["part","found","bound","parts","place","inner","name"] ["part"] (qU sON):=by walk_at "s"
theorem qA1(F:zZ K "outside_names" "outside_names" sON .none f fd):qS P w K mg base (CXE P w) (0+2) f fd ["part"] (aJ K 0):=by
 refine F.ok0 nY (fun vs H Q E h=>?_) (fun cdv A outer s H vs Q E hr h=>?_)
 ·obtain⟨v,p,rfl,_⟩:=h
  rfl
 ·obtain⟨v,p,rfl,_,hd,_⟩:=h
  exact absurd hd (Nat.not_lt_zero _)
theorem zY1{n:Nat}(F:zZ K "outside_names" "outside_names" sON .none f fd)(G:GlO mg)(GV:Kn P w K mg base 1 "values_behind" ["part","sort"] (mN K))(GB:Kn P w K mg base 2 "names_bound" ["part"] (qZ2 K))(GO:Kn P w K mg base (n+2) "outside_names" ["part"] (aJ K n)):qS P w K mg base (CXE P w) (n+1+2) f fd ["part"] (aJ K (n+1)):=by
 refine F.ok0 (k:=n+2) nY (fun vs H Q E h=>?_) (fun cdv A outer s H vs Q E hr h=>?_)
 ·obtain⟨v,p,rfl,_⟩:=h
  rfl
 ·obtain⟨v,p,rfl,hp,hd,hz,q⟩:=h
  refine⟨_,qZ (zC (qE jB (qL qP (pv 0) qV (fun _ _=>rfl)) qC (nomark _)) (qK (qM (jX (qQ (qL qP (pv 0) qV (fun _ _=>rfl)) qJ)))) zQ)
   (qZ (qB (i:=1) nY.nd rfl (Or.inl rfl) yY)
   (qZ (qB (i:=2) nY.nd rfl (Or.inl rfl) (zY GB (hr.mono (by omega)) (qQ (pv 0) qJ)))
   (qZ (qB (i:=3) nY.nd rfl (Or.inl rfl) (zY GV (hr.mono (by omega)) (qQ (pv 0) (qQ qC qJ))))
   (qZ (yS PassesOwn.never rfl (qJ4 (by rfl) G.enumerate (qQ (pv 3) qJ)) (wO rfl (jL (zA (i:=4) nY.nd rfl (Or.inl rfl)) (jL (zA (i:=5) nY.nd rfl (Or.inl rfl)) vJ)))
    (qK (yS PassesOwn.never rfl (cT (zY GO hr (qQ (pv 5) qJ))) (zA (i:=6) nY.nd rfl (Or.inl rfl))
     (qK (zC (qN2 (qE oK (pv 4) (zI zG (by rfl) G.len aq16 (qQ (pv 3) qJ)) (nomark _)) (aD (qE lV (pv 6) (pv 2) rfl))).pt
      (qK (lO (Nat.lt_of_succ_lt hr.u2) (pv 1) (pv 6) vM rfl)) zQ)))))
   (qK (qM (xW (fY rfl) (by rfl) G.list PyProof.Rows.boot_list (qQ (pv 1) qJ)))))))),?_⟩
  walk_at "e"
  by_cases hna:wY p=true
  ·cases p with
   |nam x=>
    obtain⟨a,u,rfl,ha,hx⟩:=kC hp
    cases jR hx
    refine⟨_,rfl,a,_,_,.str "name",rfl,rfl,ha,qY (j:=0) rfl,rfl,_,rfl,ite2 (fun _=>?_) (fun h=>absurd (by decide+kernel) h)⟩
    refine⟨_,rfl,a,_,_,.str x,rfl,rfl,ha,qY (j:=1) rfl,(by show 1<=sizeLine;decide),fun l hl=>?_⟩
    exact q l _ (Grow.put hl) hl qX
   |_=>cases hna
  ·have hna':wY p=false:=by simpa using hna
   obtain⟨a,ws,rfl,ha,hws,hbe,hbn⟩:=iQ hna' hp
   have w1:=qA0 hna'
   obtain⟨hsz,hdp⟩:=tE hna'
   refine⟨_,rfl,a,_,_,.str (Pt.wd p),rfl,rfl,ha,qY (j:=0) rfl,rfl,_,rfl,?_⟩
   rw[w1]
   refine jO ?_
   intro d hd1
   walk_at "d"
   have g1:Grow H (upd H d (.dK [])):=Grow.put hd1
   have e1:(upd H d (.dK [])) d=some (.dK []):=qX
   generalize upd H d (.dK [])=H1 at g1 e1⊢
   refine⟨_,rfl,a,Pt.wd p,ws,rfl,zO.mono g1.same ha,hws,fun b H2 g2 n2 e2=>?_⟩
   rw[hbn]at e2
   walk_at "d"
   have g12:=g1.trans g2
   refine⟨_,rfl,a,"part",Pt.wd p,ws,rfl,zO.mono g12.same ha,hws,fun l0 H3 g3 n3 e3=>?_⟩
   walk_at "d"
   have g13:=g12.trans g3
   have hbe3:=hbe.mono g13.same
   generalize behind (zK (Pt.wd p)) ws "part"=zs at e3 hbe3
   have e2':=g3.same _ _ e2
   have e1':=(g2.trans g3).same _ _ e1
   have bd:b≠d:=fun z=>by rw[z,e1]at n2;cases n2
   have ld:l0≠d:=fun z=>by rw[z,g2.same _ _ e1]at n3;cases n3
   have hlen:zs.length=(Pt.parts p).length:=by rw[hbe3.length,List.length_map]
   refine⟨_,rfl,l0,rfl,⟨_,zH.of e3⟩,?_⟩
   refine tS (K:=K) (l:=l0) (xs:=zs) (fun i σ H4=>∃o4 o5 o6 kvs,σ=[some (.ref a),some (.ref d),some (.ref b),some (.ref l0),o4,o5,o6]/\Grow H H4/\H4 b=some (.lst ((Pt.names p).map V.str))/\H4 l0=some (.lst zs)/\qI K H4 ((Pt.parts p).map Pt.dt) zs/\H4 d=some (.dK kvs)/\jT kvs (Pt.accs (Pt.names p) (Pt.parts p) i)) ?_ ?_ ?_ ?_
   ·exact⟨_,_,_,[],rfl,g13,e2',e3,hbe3,e1',rfl⟩
   ·rintro i σ H4 _ ⟨o4,o5,o6,kvs,rfl,_,_,h,_⟩
    exact zH.of h
   ·rintro i y T σ H4 hy ⟨o4,o5,o6,kvs,rfl,g4,eb,el,hds,ed,hkv⟩ hT
    obtain⟨pi,hpi⟩:∃pi,(Pt.parts p)[i]? =some pi:=by
     have :i<zs.length:=by
      rcases Nat.lt_or_ge i zs.length with h|h
      ·exact h
      ·rw[List.getElem?_eq_none h]at hy;cases hy
     exact⟨_,List.getElem?_eq_getElem (by omega)⟩
    obtain⟨y',hy',hyd⟩:=hds.get (i:=i) (d:=pi.dt) (by rw[List.getElem?_map,hpi];rfl)
    rw[hy]at hy'
    cases hy'
    have hst:=vP _ _ _ hpi
    have hsl:=lD (Pt.parts p) (i+1)
    have hdi:=hdp pi (List.mem_of_getElem? hpi)
    have g5:Grow H4 (upd H4 T (.tup [.int (i+1:Nat),y])):=Grow.put hT
    refine⟨T,_,rfl,zO.of qX,rfl,_,_,rfl,_,_,rfl,rfl,?_⟩
    walk_at "d"
    have eb5:=g5.same _ _ eb
    have el5:=g5.same _ _ el
    have ed5:=g5.same _ _ ed
    have hds5:=hds.mono g5.same
    have hyd5:=hyd.mono g5.same
    generalize upd H4 T (.tup [.int (i+1:Nat),y])=H5 at g5 eb5 el5 ed5 hds5 hyd5⊢
    refine⟨_,rfl,y,pi,rfl,hyd5,by omega,by omega,fun m H6 g6 n6 e6=>?_⟩
    have hxl:=Pt.outs_length pi
    have hal:=nW (Pt.names p) (Pt.parts p) i
    have hkl:=hkv.length
    have ea:Pt.accs (Pt.names p) (Pt.parts p) (i+1)=Pt.ins (Pt.accs (Pt.names p) (Pt.parts p) i) ((Pt.outs pi).filter fun x=>decide (i+1<(Pt.parts p).length\/x∉Pt.names p)):=by rw[Pt.accs,hpi]
    generalize Pt.outs pi=xs at e6 hxl ea
    have g06:=(g4.trans g5).trans g6
    have eb6:=g6.same _ _ eb5
    have el6:=g6.same _ _ el5
    have ed6:=g6.same _ _ ed5
    have md:m≠d:=fun z=>by rw[z,ed5]at n6;cases n6
    refine⟨m,rfl,⟨_,zH.of e6⟩,?_⟩
    refine eQ (K:=K) (a:=m) (xs:=xs.map V.str) (fun k σ H7=>∃o6 kv2,σ=[some (.ref a),some (.ref d),some (.ref b),some (.ref l0),some (.int (i+1:Nat)),some y,o6]/\Grow H H7/\H7 b=some (.lst ((Pt.names p).map V.str))/\H7 l0=some (.lst zs)/\qI K H7 ((Pt.parts p).map Pt.dt) zs/\H7 m=some (.lst (xs.map V.str))/\H7 d=some (.dK kv2)/\kv2.length<=kvs.length+k/\jT kv2 (Pt.ins (Pt.accs (Pt.names p) (Pt.parts p) i) ((xs.take k).filter fun x=>decide (i+1<(Pt.parts p).length\/x∉Pt.names p)))) ?_ ?_ ?_ ?_
    ·exact⟨_,kvs,rfl,g06,eb6,el6,hds5.mono g6.same,e6,ed6,by omega,hkv⟩
    ·rintro k σ H7 _ ⟨o6,kv2,rfl,_,_,_,_,h,_⟩
     exact zH.of h
    ·rintro k z σ H7 hz' ⟨o6,kv2,rfl,g7,eb7,el7,hds7,em7,ed7,hkl7,hkv7⟩
     rw[List.getElem?_map]at hz'
     obtain⟨x,hx,rfl⟩:=aq6.mp hz'
     walk_at "d"
     have hk1:k<xs.length:=(List.getElem?_eq_some_iff.mp hx).1
     have fin:∀(kv3:List (Key×V)),((i+1<(Pt.parts p).length\/x∉Pt.names p)->kv3=kM kv2 (Sum.inr x:Key) (.bl true))->(¬(i+1<(Pt.parts p).length\/x∉Pt.names p)->kv3=kv2)->kv3.length<=kvs.length+(k+1)/\jT kv3 (Pt.ins (Pt.accs (Pt.names p) (Pt.parts p) i) ((xs.take (k+1)).filter fun x=>decide (i+1<(Pt.parts p).length\/x∉Pt.names p))):=by
      intro kv3 h1 h2
      rw[List.take_add_one,hx,List.filter_append]
      by_cases hc:i+1<(Pt.parts p).length\/x∉Pt.names p
      ·rw[h1 hc]
       refine⟨by have :=kK kv2 (Sum.inr x:Key) (.bl true);omega,?_⟩
       rw[show(some x).toList.filter (fun x=>decide (i+1<(Pt.parts p).length\/x∉Pt.names p))=[x] by simp[hc]]
       exact hkv7.put
      ·rw[h2 hc]
       refine⟨by omega,?_⟩
       rw[show(some x).toList.filter (fun x=>decide (i+1<(Pt.parts p).length\/x∉Pt.names p))=[] by simp[hc],List.append_nil]
       exact hkv7
     refine⟨_,rfl,_,rfl,l0,zs,rfl,.inl (zH.of el7),_,_,rfl,rfl,_,rfl,?_⟩
     have put:∀(hc:i+1<(Pt.parts p).length\/x∉Pt.names p),qB3 (jY 1) (jY 6) (tC (.bl true)) {nx:=fun σ H7=>∃o6 kv2,σ=[some (.ref a),some (.ref d),some (.ref b),some (.ref l0),some (.int (i+1:Nat)),some y,o6]/\Grow H H7/\H7 b=some (.lst ((Pt.names p).map V.str))/\H7 l0=some (.lst zs)/\qI K H7 ((Pt.parts p).map Pt.dt) zs/\H7 m=some (.lst (xs.map V.str))/\H7 d=some (.dK kv2)/\kv2.length<=kvs.length+(k+1)/\jT kv2 (Pt.ins (Pt.accs (Pt.names p) (Pt.parts p) i) ((xs.take (k+1)).filter fun x=>decide (i+1<(Pt.parts p).length\/x∉Pt.names p))),rt:=Q} [some (.ref a),some (.ref d),some (.ref b),some (.ref l0),some (.int (i+1:Nat)),some y,some (.str x)] H7:=by
      intro hc
      obtain⟨f1,f2⟩:=fin _ (fun _=>rfl) (fun h=>absurd hc h)
      refine⟨_,rfl,_,rfl,d,_,rfl,DPut.k (k:=Sum.inr x) ed7 (by rw[sizeLine_eq];omega),?_⟩
      have kt:jG K H7 (upd H7 d (.dK (kM kv2 (Sum.inr x:Key) (.bl true)))):=fun c us hc'=>by
       rcases hc' with(hc'|⟨o,hc'⟩)|hc'
       ·exact .inl (.inl ((qH (xB hc' ed7 (by intro z;cases z))).trans hc'))
       ·exact .inl (.inr ⟨o,(qH (xB hc' ed7 (by intro z;cases z))).trans hc'⟩)
       ·exact .inr hc'
      exact⟨_,_,rfl,g7.set hd1,(qH bd).trans eb7,(qH ld).trans el7,hds7.monoT kt,(qH md).trans em7,qX,f1,f2⟩
     by_cases hc1:i+1<(Pt.parts p).length
     ·rw[decide_eq_true (show((i+1:Nat):Int)<(zs.length:Int) by omega)]
      exact jN (jN (put (.inl hc1)))
     ·rw[decide_eq_false (show¬((i+1:Nat):Int)<(zs.length:Int) by omega)]
      refine jO ⟨_,rfl,_,rfl,b,_,rfl,.inl (zH.of eb7),rfl,aQ _,_,rfl,?_⟩
      rw[if_pos rfl,nV]
      by_cases hc2:x∈Pt.names p
      ·rw[decide_eq_true hc2]
       obtain⟨f1,f2⟩:=fin kv2 (fun h=>h.elim (fun z=>absurd z hc1) (fun z=>absurd hc2 z)) (fun _=>rfl)
       exact jO ⟨_,kv2,rfl,g7,eb7,el7,hds7,em7,ed7,f1,f2⟩
      ·rw[decide_eq_false hc2]
       exact jN (put (.inr hc2))
    ·rintro σ H7 ⟨o6,kv2,rfl,g7,eb7,el7,hds7,em7,ed7,hkl7,hkv7⟩
     refine⟨_,_,_,kv2,rfl,g7,eb7,el7,hds7,ed7,?_⟩
     rw[List.length_map,List.take_of_length_le (aq7 _)]at hkv7
     rw[ea];exact hkv7
   ·rintro σ H4 ⟨o4,o5,o6,kvs,rfl,g4,eb,el,hds,ed,hkv⟩
    refine⟨_,rfl,d,kvs,rfl,ed,fun l hl=>?_⟩
    rw[hkv.strs,hlen,<-aZ hna']
    exact q l _ (g4.trans (Grow.put hl)) (g4.none _ hl) qX
end
abbrev qJ5:Stmt:=top 96
abbrev qL2:Stmt:=top 97
abbrev lR:Stmt:=top 98
abbrev qJ6:Stmt:=top 99
abbrev qL3:Stmt:=top 100
abbrev rD:Stmt:=top 101
abbrev nU:Stmt:=top 103
abbrev qA2:Stmt:=top 104
abbrev iJ:Stmt:=top 105
section
variable {P:Program} {w:World} {K:Fg} {mg:Str->Option Value} {base:Heap} {f:Addr} {fd:FuncData}
inductive yG(H:Hp)(sl:Addr)(S:Pt.Sl)(p:Pt):Prop
 |mk (kvs:List (Key×V)) (a_0:H sl=some (.dK kvs)) (a_1:kvs.length+2*p.deep<=200000) (a_2:∀x,p.fv x->kX kvs (Sum.inr x:Key)=some (.int (Pt.slotOf S x:Nat))):yG H sl S p
theorem yG.mono{H H':Hp}{sl:Addr}{S:Pt.Sl}{p:Pt}(h:yG H sl S p)(g:Grow H H'):yG H' sl S p:=let⟨kvs,a,b,c⟩:=h;⟨kvs,g.same _ _ a,b,c⟩
theorem yG.sub{H:Hp}{sl:Addr}{S:Pt.Sl}{p q:Pt}(h:yG H sl S p)(d:q.deep<=p.deep)(f:∀x,q.fv x->p.fv x):yG H sl S q:=let⟨kvs,a,b,c⟩:=h;⟨kvs,a,by omega,fun x hx=>c x (f x hx)⟩
abbrev ps4:List Str:=["part","slots","height","last"]
abbrev jW(K:Fg)(H:Hp)(c:List AOrd)(ys:List V):Prop:=qI K H (c.map AOrd.dt) ys
theorem jW.len{H:Hp}{c:List AOrd}{ys:List V}(h:jW K H c ys):ys.length=c.length:=by rw[qI.length h,List.length_map]
theorem jW.code{H:Hp}{p:Pt}{S:Pt.Sl}{h:Nat}{b:Bool}{ys:List V}(g:jW K H (Pt.codeOf p S h b) ys):ys.length+4<=6*p.sz:=by rw[g.len];exact Pt.codeOf_len p S h b
theorem jW.app{H:Hp}{c d:List AOrd}{ys zs:List V}(h:jW K H c ys)(g:jW K H d zs):jW K H (c++d) (ys++zs):=by unfold jW;rw[List.map_append];exact qI.append h g
theorem jW.one{H:Hp}{o:AOrd}{t:Addr}{vs:List V}(h:zO K H t (.str o.wd::vs))(g:qI K H o.args vs):jW K H [o] [.ref t]:=qF (wM h (qF (wG _) g)) qT
def kP(S:Pt.Sl):Nat->List Pt->List AOrd
 |_,[]=>[]
 |h,p::ps=>Pt.codeOf p S h false++kP S (h+1) ps
theorem nO(S:Pt.Sl):∀(h:Nat)(ps qs:List Pt),kP S h (ps++qs)=kP S h ps++kP S (h+ps.length) qs
 |h,[],qs=>rfl
 |h,p::ps,qs=>by
  show Pt.codeOf p S h false++kP S (h+1) (ps++qs)=_
  rw[nO S (h+1) ps qs,List.length_cons,show h+(ps.length+1)=h+1+ps.length by omega,<-List.append_assoc];rfl
inductive qF1(K:Fg)(B:Pt->Prop)(vs:List V)(H:Hp)(Q:VK):Prop
 |mk (v:V) (sl:Addr) (h:Nat) (b:Bool) (p:Pt) (S:Pt.Sl) (a_0:vs=[v,.ref sl,.int h,.bl b]) (a_1:qW K H p.dt v) (a_2:B p) (a_3:p.sz<=50000) (a_4:yG H sl S p) (a_5:∀l ys H',Grow H H'->H l=none->H' l=some (.lst ys)->jW K H' (Pt.codeOf p S h b) ys->Q (.ref l) H'):qF1 K B vs H Q
def fG(K:Fg)(B:Pt->Prop):Sp:=fun vs H Q x_0=>qF1 K B vs H Q
def vR(K:Fg)(n:Nat):Sp:=fG K fun p=>p.deep<n
inductive qJ7(K:Fg)(n:Nat)(vs:List V)(H:Hp)(Q:VK):Prop
 |mk (v:V) (sl:Addr) (h:Nat) (p:Pt) (S:Pt.Sl) (a_0:vs=[v,.ref sl,.int h]) (a_1:qW K H p.dt v) (a_2:Pt.plain p=true) (a_3:p.deep<n+1) (a_4:p.sz<=50000) (a_5:yG H sl S p) (a_6:∀l ys H',Grow H H'->H l=none->H' l=some (.lst ys)->ys.length<=6*szs (Pt.parts p)->jW K H' (kP S h (Pt.parts p)) ys->Q (.ref l) H'):qJ7 K n vs H Q
def rF(K:Fg)(n:Nat):Sp:=fun vs H Q x_0=>qJ7 K n vs H Q
theorem qJ8{p q:Pt}(hp:Pt.plain p=true)(hq:q∈Pt.parts p):∀x,q.fv x->p.fv x:=by
 intro x hx
 have hn:wY p=false:=by cases p<;>first|rfl|simp[Pt.plain]at hp
 obtain⟨i,hi,e⟩:=List.getElem_of_mem hq
 refine(nX hn x).mpr ⟨i,q,by rw[List.getElem?_eq_getElem hi,e],hx,.inr ?_⟩
 cases p<;>first|(simp[Pt.names];done)|(simp[Pt.plain]at hp;done)
theorem rH:qO ["part","slots","height","code","count","inner"] ["part","slots","height"] (qU qL2):=by walk_at "s"
theorem qA3{n:Nat}(F:zZ K "operands_code" "operands_code" qL2 .none f fd)(zE:mg "enumerate"=none)(GV:Kn P w K mg base 1 "values_behind" ["part","sort"] (mN K))(GC:Kn P w K mg base (3*n+4) "code_of" ps4 (vR K n)):qS P w K mg base (CXE P w) (3*n+5) f fd ["part","slots","height"] (rF K n):=by
 refine F.ok0 rH (fun vs H Q E h=>?_) (fun cdv A outer s H vs Q E hr h=>?_)
 ·obtain⟨v,sl,h,p,S,rfl,_⟩:=h
  rfl
 ·obtain⟨v,sl,h0,p,S,rfl,hp,hpl,hd,hz,hs,q⟩:=h
  refine⟨_,qZ (qB (i:=3) rH.nd rfl (Or.inl rfl) (jX qJ))
   (qZ (yS PassesOwn.never rfl (rW (by rfl) zE (qQ (zY GV (hr.mono (by omega)) (qQ (pv 0) (qQ qC qJ))) qJ))
    (wO rfl (jL (zA (i:=4) rH.nd rfl (Or.inl rfl)) (jL (zA (i:=5) rH.nd rfl (Or.inl rfl)) vJ)))
    (qK (qN (jJ aq0 PySem.F.slot_list_extend PySem.F.type_list_extend cQ (pv 3) (qQ (zY GC hr (qQ (pv 5) (qQ (pv 1) (qQ (zX xF (pv 2) (pv 4)) (qQ vM qJ))))) qJ)))))
   (qK (qM (pv 3)))),?_⟩
  walk_at "e"
  obtain⟨a,ws,rfl,ha,hws,hbe⟩:=oE hpl hp
  obtain⟨hsz,hdp⟩:=wZ hpl
  refine⟨(by show 0<=sizeLine;decide),fun l hl=>?_⟩
  walk_at "d"
  have g1:Grow H (upd H l (.lst [])):=Grow.put hl
  have e1:(upd H l (.lst [])) l=some (.lst []):=qX
  generalize upd H l (.lst [])=H1 at g1 e1⊢
  refine⟨_,rfl,a,"part",Pt.wd p,ws,rfl,zO.mono g1.same ha,hws,fun o H2 g2 n2 e2=>?_⟩
  have g12:=g1.trans g2
  have hbe2:=hbe.mono g12.same
  generalize behind (zK (Pt.wd p)) ws "part"=zs at e2 hbe2
  have lo:o≠l:=fun z=>by rw[z,e1]at n2;cases n2
  have hlen:zs.length=(Pt.parts p).length:=by rw[hbe2.length,List.length_map]
  refine⟨o,rfl,⟨_,zH.of e2⟩,?_⟩
  refine mC (K:=K) (l:=o) (xs:=zs) (fun i σ H3=>∃o4 o5 ys,σ=[some (.ref a),some (.ref sl),some (.int h0),some (.ref l),o4,o5]/\Grow H H3/\H3 o=some (.lst zs)/\qI K H3 ((Pt.parts p).map Pt.dt) zs/\H3 l=some (.lst ys)/\ys.length<=6*szs ((Pt.parts p).take i)/\jW K H3 (kP S h0 ((Pt.parts p).take i)) ys) ?_ ?_ ?_ ?_
  ·exact⟨_,_,[],rfl,g12,e2,hbe2,g2.same _ _ e1,by simp,qT⟩
  ·rintro i σ H3 _ ⟨o4,o5,ys,rfl,_,h,_⟩
   exact zH.of h
  ·rintro i y T σ H3 hy ⟨o4,o5,ys,rfl,g3,eo,hds,el,hyl,hco⟩ hT
   obtain⟨pi,hpi⟩:∃pi,(Pt.parts p)[i]? =some pi:=by
    have :i<zs.length:=by
     rcases Nat.lt_or_ge i zs.length with h|h
     ·exact h
     ·rw[List.getElem?_eq_none h]at hy;cases hy
    exact⟨_,List.getElem?_eq_getElem (by omega)⟩
   obtain⟨y',hy',hyd⟩:=hds.get (i:=i) (d:=pi.dt) (by rw[List.getElem?_map,hpi];rfl)
   rw[hy]at hy'
   cases hy'
   have hst:=vP _ _ _ hpi
   have hsl:=lD (Pt.parts p) (i+1)
   have hmem:=List.mem_of_getElem? hpi
   have hdi:=hdp pi hmem
   have g4:Grow H3 (upd H3 T (.tup [.int i,y])):=Grow.put hT
   refine⟨T,_,rfl,zO.of qX,rfl,_,_,rfl,_,_,rfl,rfl,?_⟩
   walk_at "d"
   have el4:=g4.same _ _ el
   have eo4:=g4.same _ _ eo
   have hds4:=hds.mono g4.same
   have hyd4:=hyd.mono g4.same
   generalize upd H3 T (.tup [.int i,y])=H4 at g4 el4 eo4 hds4 hyd4⊢
   have g04:=g3.trans g4
   refine⟨_,rfl,.inl ⟨rfl,_,zH.of el4⟩,_,rfl,_,rfl,_,rfl,_,rfl,_,_,rfl,rfl,y,sl,h0+i,false,pi,S,by rw[show((h0+i:Nat):Int)=(h0:Int)+(i:Int) by omega];rfl,hyd4,by omega,by omega,(hs.mono g04).sub (by omega) (qJ8 hpl hmem),fun l' ys' H5 g5 n5 e5 hc5=>?_⟩
   have hl5:=hc5.code
   have el5:=g5.same _ _ el4
   refine⟨l,l',ys,ys',rfl,rfl,el5,e5,by rw[sizeLine_eq];omega,?_⟩
   have kt:jG K H5 (upd H5 l (.lst (ys++ys'))):=jV.tups ((jV.refl l H5).set el5) el5
   refine⟨_,_,ys++ys',rfl,(g04.trans g5).set hl,(qH lo).trans (g5.same _ _ eo4),(hds4.mono g5.same).monoT kt,qX,?_,?_⟩
   ·rw[List.length_append];omega
   ·have hi:i<(Pt.parts p).length:=(List.getElem?_eq_some_iff.mp hpi).1
    rw[List.take_add_one,hpi,nO,List.length_take,Nat.min_eq_left (by omega)]
    show jW K _ (_++(Pt.codeOf pi S (h0+i) false++[])) _
    rw[List.append_nil]
    exact jW.app (qI.monoT kt ((hco.mono g4.same).mono g5.same)) (qI.monoT kt hc5)
  ·rintro σ H3 ⟨o4,o5,ys,rfl,g3,eo,hds,el,hyl,hco⟩
   rw[hlen,List.take_of_length_le (aq7 _)]at hyl hco
   exact⟨_,rfl,q l ys H3 g3 hl el hyl hco⟩
def rP(n:Nat)(p:Pt):Prop:=p.deep<n+1/\∃q r,p= .two .call q r
theorem rR:qO ["part","slots","height","last","order"] ps4 (qU lR):=by walk_at "s"
theorem qJ9{n:Nat}(F:zZ K "call_code" "call_code" lR .none f fd)(GO:Kn P w K mg base (3*n+5) "operands_code" ["part","slots","height"] (rF K n)):qS P w K mg base (CXE P w) (3*n+6) f fd ps4 (fG K (rP n)):=by
 refine F.ok0 rR (fun vs H Q E h=>?_) (fun cdv A outer s H vs Q E hr h=>?_)
 ·obtain⟨v,sl,h,b,p,S,rfl,_⟩:=h
  rfl
 ·obtain⟨v,sl,h0,b,p,S,rfl,hp,⟨hd,q1,q2,rfl⟩,hz,hs,q⟩:=h
  refine⟨_,qZ (qB (i:=4) rR.nd rfl (Or.inl rfl) (kF (jE (pv 3)) (zF (qQ qC qJ)) (zF (qQ qC qJ))))
   (qK (qM (zX kG (zY GO hr (qQ (pv 0) (qQ (pv 1) (qQ (pv 2) qJ)))) (jX (qQ (pv 4) qJ))))),?_⟩
  walk_at "e"
  have rest:∀(H1:Hp)(c:Addr),Grow H H1->zO K H1 c [.str (if b then AOrd.last else AOrd.call).wd]->qO6 (bC tK (oI (rF K n) [] E0 (xO (jY 0) (xO (jY 1) (xO (jY 2) wC)))) (qR7 (xO (jY 4) wC))) {nx:=fun _ H'=>Q .non H',rt:=Q} [some v,some (.ref sl),some (.int h0),some (.bl b),some (.ref c)] H1:=by
   intro H1 c g1 hc1
   refine⟨_,rfl,_,rfl,_,rfl,v,sl,h0,_,S,rfl,hp.mono g1.same,rfl,hd,hz,hs.mono g1,fun l ys H2 g2 n2 e2 hl2 hc2=>?_⟩
   refine⟨_,rfl,(by show 1<=sizeLine;decide),fun l3 hl3=>?_⟩
   have g3:Grow H2 (upd H2 l3 (.lst [.ref c])):=Grow.put hl3
   have e2':=g3.same _ _ e2
   have e3:(upd H2 l3 (.lst [.ref c])) l3=some (.lst [.ref c]):=qX
   generalize upd H2 l3 (.lst [.ref c])=H3 at g3 e2' e3⊢
   have g03:=(g1.trans g2).trans g3
   have hb:szs (Pt.parts (.two .call q1 q2))+1=(Pt.two .call q1 q2).sz:=(wZ (p:=.two .call q1 q2) rfl).1
   refine⟨l,l3,_,_,rfl,rfl,e2',e3,by rw[sizeLine_eq];simp;omega,fun l4 hl4=>?_⟩
   have g4:Grow H3 (upd H3 l4 (.lst (ys++[.ref c]))):=Grow.put hl4
   refine q l4 _ _ (g03.trans g4) (g03.none _ hl4) qX ?_
   have hcl:jW K (upd H3 l4 (.lst (ys++[.ref c]))) [if b then AOrd.last else AOrd.call] [.ref c]:=jW.one (zO.mono ((g2.trans g3).trans g4).same hc1) (by cases b<;>exact qT)
   have hcy:=jW.app (hc2.mono (g3.trans g4).same) hcl
   have e:kP S h0 (Pt.parts (.two .call q1 q2))++[if b then AOrd.last else AOrd.call]=Pt.codeOf (.two .call q1 q2) S h0 b:=by simp[kP,Pt.parts,Pt.codeOf]
   rw[e]at hcy
   exact hcy
  refine⟨_,rfl,b,rfl,?_⟩
  cases b with
  |true=>exact jN ⟨(by show 1<=sizeLine;decide),fun c hc=>rest _ c (Grow.put hc) (zO.of qX)⟩
  |false=>exact jO ⟨(by show 1<=sizeLine;decide),fun c hc=>rest _ c (Grow.put hc) (zO.of qX)⟩
def qA4:Pt->Pt
 | .two .and p q=>.ite p q (.tru false)
 | .two .or p q=>.ite p (.tru true) q
 |p=>p
inductive IfP:Pt->Prop
 |ite {p q r}:IfP (.ite p q r)
 |and {p q}:IfP (.two .and p q)
 |or {p q}:IfP (.two .or p q)
theorem qJq{p:Pt}(h:IfP p):∃a b c,qA4 p= .ite a b c/\a.deep<p.deep/\(b.deep<p.deep\/b.deep=0)/\(c.deep<p.deep\/c.deep=0)/\a.sz+b.sz+c.sz<=p.sz/\(∀x,a.fv x->p.fv x)/\(∀x,b.fv x->p.fv x)/\∀x,c.fv x->p.fv x:=by
 cases h with
 | @ite p q r=>exact⟨p,q,r,rfl,by simp[Pt.deep];omega,.inl (by simp[Pt.deep];omega),.inl (by simp[Pt.deep];omega),by simp only[Pt.sz];omega,fun x h=>.inl h,fun x h=>.inr (.inl h),fun x h=>.inr (.inr h)⟩
 | @and p q=>exact⟨p,q,.tru false,rfl,by simp[Pt.deep];omega,.inl (by simp[Pt.deep];omega),.inr rfl,by simp[Pt.sz],fun x h=>.inl h,fun x h=>.inr h,fun x h=>h.elim⟩
 | @or p q=>exact⟨p,.tru true,q,rfl,by simp[Pt.deep];omega,.inr rfl,.inl (by simp[Pt.deep];omega),by simp[Pt.sz];omega,fun x h=>.inl h,fun x h=>h.elim,fun x h=>.inr h⟩
inductive qF3(K:Fg)(vs:List V)(H:Hp)(Q:VK):Prop
 |mk (v:V) (p:Pt) (a_0:vs=[v]) (a_1:qW K H p.dt v) (a_2:IfP p) (a_3:∀v' H',Grow H H'->qW K H' (qA4 p).dt v'->Q v' H'):qF3 K vs H Q
def qA5(K:Fg):Sp:=fun vs H Q x_0=>qF3 K vs H Q
theorem zG2:qO ["part"] ["part"] (qU qJ6):=by walk_at "s"
theorem zY2(F:zZ K "as_if" "as_if" qJ6 .none f fd):qS P w K mg base (CXE P w) 1 f fd ["part"] (qA5 K):=by
 refine F.ok0 zG2 (fun vs H Q E h=>?_) (fun cdv A outer s H vs Q E hr h=>?_)
 ·obtain⟨v,p,rfl,_⟩:=h
  rfl
 ·obtain⟨v,p,rfl,hp,hi,q⟩:=h
  refine⟨_,qZ (zC (qE jB (qL qP (pv 0) qV (fun _ _=>rfl)) qC (nomark _)) (qK (qM (zF (qQ qC (qQ (qL qP (pv 0) qV (fun _ _=>rfl)) (qQ (qL qP (pv 0) qV (fun _ _=>rfl)) (qQ (zF (qQ qC (qQ vM qJ))) qJ))))))) zQ)
   (qZ (zC (qE jB (qL qP (pv 0) qV (fun _ _=>rfl)) qC (nomark _)) (qK (qM (zF (qQ qC (qQ (qL qP (pv 0) qV (fun _ _=>rfl)) (qQ (zF (qQ qC (qQ vM qJ))) (qQ (qL qP (pv 0) qV (fun _ _=>rfl)) qJ))))))) zQ)
   (qK (qM (pv 0)))),?_⟩
  walk_at "e"
  cases hi with
  | @ite p1 p2 p3=>
   obtain⟨a,x,y,z,rfl,ha,hx,hy,hz⟩:=vH hp
   refine⟨_,rfl,a,_,_,.str "if",rfl,rfl,ha,qY (j:=0) rfl,rfl,_,rfl,ite2 (fun h=>absurd h (by decide+kernel)) (fun _=>?_)⟩
   refine⟨_,rfl,a,_,_,.str "if",rfl,rfl,ha,qY (j:=0) rfl,rfl,_,rfl,ite2 (fun h=>absurd h (by decide+kernel)) (fun _=>?_)⟩
   exact⟨_,rfl,q _ H (Grow.refl H) hp⟩
  | @and p1 p2=>
   obtain⟨a,x,y,rfl,ha,hx,hy⟩:=mG hp
   refine⟨_,rfl,a,_,_,.str "and",rfl,rfl,ha,qY (j:=0) rfl,rfl,_,rfl,ite2 (fun _=>?_) (fun h=>absurd (by decide+kernel) h)⟩
   refine⟨_,rfl,a,_,_,x,rfl,rfl,ha,qY (j:=1) rfl,_,rfl,a,_,_,y,rfl,rfl,ha,qY (j:=2) rfl,(by show 2<=sizeLine;decide),fun t ht=>?_⟩
   have g1:Grow H (upd H t (.tup [.str "truth",.bl false])):=Grow.put ht
   have e1:zO K (upd H t (.tup [.str "truth",.bl false])) t [.str "truth",.bl false]:=zO.of qX
   generalize upd H t (.tup [.str "truth",.bl false])=H1 at g1 e1⊢
   refine⟨(by show 4<=sizeLine;decide),fun t2 ht2=>?_⟩
   have g2:Grow H1 (upd H1 t2 (.tup [.str "if",x,y,.ref t])):=Grow.put ht2
   have g12:=g1.trans g2
   exact q _ _ g12 (qB6 (zO.of qX) (hx.mono g12.same) (hy.mono g12.same) (cW (zO.mono g2.same e1) (by rw[qW])))
  | @or p1 p2=>
   obtain⟨a,x,y,rfl,ha,hx,hy⟩:=mG hp
   refine⟨_,rfl,a,_,_,.str "or",rfl,rfl,ha,qY (j:=0) rfl,rfl,_,rfl,ite2 (fun h=>absurd h (by decide+kernel)) (fun _=>?_)⟩
   refine⟨_,rfl,a,_,_,.str "or",rfl,rfl,ha,qY (j:=0) rfl,rfl,_,rfl,ite2 (fun _=>?_) (fun h=>absurd (by decide+kernel) h)⟩
   refine⟨_,rfl,a,_,_,x,rfl,rfl,ha,qY (j:=1) rfl,(by show 2<=sizeLine;decide),fun t ht=>?_⟩
   have g1:Grow H (upd H t (.tup [.str "truth",.bl true])):=Grow.put ht
   have e1:zO K (upd H t (.tup [.str "truth",.bl true])) t [.str "truth",.bl true]:=zO.of qX
   generalize upd H t (.tup [.str "truth",.bl true])=H1 at g1 e1⊢
   refine⟨_,rfl,a,_,_,y,rfl,rfl,zO.mono g1.same ha,qY (j:=2) rfl,(by show 4<=sizeLine;decide),fun t2 ht2=>?_⟩
   have g2:Grow H1 (upd H1 t2 (.tup [.str "if",x,.ref t,y])):=Grow.put ht2
   have g12:=g1.trans g2
   exact q _ _ g12 (qB6 (zO.of qX) (hx.mono g12.same) (cW (zO.mono g2.same e1) (by rw[qW])) (hy.mono g12.same))
def qJz(p:Pt):Prop:=(∃n,p= .num n)\/(∃b,p= .tru b)\/(∃x,p= .nam x)\/∃k,p= .nil k
inductive qJj(K:Fg)(vs:List V)(H:Hp)(Q:VK):Prop
 |mk (v:V) (sl:Addr) (p:Pt) (S:Pt.Sl) (a_0:vs=[v,.ref sl]) (a_1:qW K H p.dt v) (a_2:qJz p) (a_3:yG H sl S p) (a_4:∀l ys H',Grow H H'->H l=none->H' l=some (.lst ys)->jW K H' (Pt.codeOf p S 0 false) ys->Q (.ref l) H'):qJj K vs H Q
def qX0(K:Fg):Sp:=fun vs H Q x_0=>qJj K vs H Q
theorem qF4:qO ["part","slots","word"] ["part","slots"] (qU qA2):=by walk_at "s"
theorem qA6(F:zZ K "value_code" "value_code" qA2 .none f fd)(GU:Kn P w K mg base 1 "looked_up" ["scope","name"] dA):qS P w K mg base (CXE P w) 2 f fd ["part","slots"] (qX0 K):=by
 refine F.ok0 qF4 (fun vs H Q E h=>?_) (fun cdv A outer s H vs Q E hr h=>?_)
 ·obtain⟨v,sl,p,S,rfl,_⟩:=h
  rfl
 ·obtain⟨v,sl,p,S,rfl,hp,hv,hs,q⟩:=h
  refine⟨_,qZ (qB (i:=2) qF4.nd rfl (Or.inl rfl) (qL qP (pv 0) qV (fun _ _=>rfl)))
   (qZ (zC (qE jB (pv 2) qC (nomark _)) (qK (qM (jX (qQ (zF (qQ qC qJ)) qJ)))) zQ)
   (qZ (zC (qE jB (pv 2) qC (nomark _)) (qK (qM (jX (qQ (zF (qQ qC (qQ (zY GU hr (qQ (pv 1) (qQ (qL qP (pv 0) qV (fun _ _=>rfl)) qJ))) qJ))) qJ)))) zQ)
   (qK (qM (jX (qQ (zF (qQ qC (qQ (qL qP (pv 0) qV (fun _ _=>rfl)) qJ))) qJ)))))),?_⟩
  walk_at "e"
  have fin:∀(H1:Hp)(c:Addr)(o:AOrd)(us:List V),Pt.codeOf p S 0 false=[o]->Grow H H1->zO K H1 c (.str o.wd::us)->qI K H1 o.args us->∀l,H1 l=none->Q (.ref l) (upd H1 l (.lst [.ref c])):=fun H1 c o us e g h1 h2 l hl=>by
   refine q l [.ref c] _ (g.trans (Grow.put hl)) (g.none _ hl) qX ?_
   rw[e]
   exact jW.one (zO.mono (Grow.put hl).same h1) (h2.mono (Grow.put hl).same)
  have hv':(∃(wd:Str)(a:Addr)(u:V)(o:AOrd),v= .ref a/\zO K H a [.str wd,u]/\¬V.str wd=V.str "nil"/\¬V.str wd=V.str "name"/\Pt.codeOf p S 0 false=[o]/\o.wd="put"/\∀H1,Grow H H1->qI K H1 o.args [u])\/(∃x,p= .nam x)\/∃k,p= .nil k:=by
   rcases hv with⟨n,rfl⟩|⟨b,rfl⟩|h
   ·obtain⟨a,u,rfl,ha,hx⟩:=kC hp
    exact .inl ⟨"num",a,u,.num n,rfl,ha,by decide+kernel,by decide+kernel,rfl,rfl,fun H1 g=>qF (hx.mono g.same) qT⟩
   ·obtain⟨a,u,rfl,ha,hx⟩:=kC hp
    exact .inl ⟨"truth",a,u,.tru b,rfl,ha,by decide+kernel,by decide+kernel,rfl,rfl,fun H1 g=>qF (hx.mono g.same) qT⟩
   ·exact .inr h
  rcases hv' with⟨wd,a,u,o,rfl,ha,h1,h2,h3,h4,h5⟩|⟨x,rfl⟩|⟨k,rfl⟩
  ·refine⟨_,rfl,a,_,_,.str wd,rfl,rfl,ha,qY (j:=0) rfl,?_⟩
   walk_at "d"
   refine⟨_,rfl,rfl,_,rfl,ite2 (fun h=>absurd (of_decide_eq_true h) h1) (fun _=>?_)⟩
   refine⟨_,rfl,rfl,_,rfl,ite2 (fun h=>absurd (of_decide_eq_true h) h2) (fun _=>?_)⟩
   exact⟨_,rfl,a,_,_,u,rfl,rfl,ha,qY (j:=1) rfl,(by show 2<=sizeLine;decide),fun c hc=>⟨(by show 1<=sizeLine;decide),fin _ c o [u] h3 (Grow.put hc) (by rw[h4];exact zO.of qX) (h5 _ (Grow.put hc))⟩⟩
  ·obtain⟨a,u,rfl,ha,hx⟩:=kC hp
   cases jR hx
   obtain⟨kvs,s1,s2,s3⟩:=hs
   refine⟨_,rfl,a,_,_,.str "name",rfl,rfl,ha,qY (j:=0) rfl,?_⟩
   walk_at "d"
   refine⟨_,rfl,rfl,_,rfl,ite2 (fun h=>absurd h (by decide+kernel)) (fun _=>?_)⟩
   refine⟨_,rfl,rfl,_,rfl,ite2 (fun _=>?_) (fun h=>absurd (by decide+kernel) h)⟩
   exact⟨_,rfl,_,rfl,a,_,_,.str x,rfl,rfl,ha,qY (j:=1) rfl,sl,x,_,kvs,rfl,s1,s3 x rfl,(by show 2<=sizeLine;decide),fun c hc=>⟨(by show 1<=sizeLine;decide),fin _ c (.get (Pt.slotOf S x)) [.int (Pt.slotOf S x:Nat)] rfl (Grow.put hc) (zO.of qX) (qF (by rw[qW]) qT)⟩⟩
  ·obtain⟨a,u,rfl,ha,hx⟩:=kC hp
   refine⟨_,rfl,a,_,_,.str "nil",rfl,rfl,ha,qY (j:=0) rfl,?_⟩
   walk_at "d"
   refine⟨_,rfl,rfl,_,rfl,ite2 (fun _=>?_) (fun h=>absurd (by decide+kernel) h)⟩
   exact⟨(by show 1<=sizeLine;decide),fun c hc=>⟨(by show 1<=sizeLine;decide),fin _ c .nil [] rfl (Grow.put hc) (zO.of qX) qT⟩⟩
end
section
variable {P:Program} {w:World} {K:Fg} {mg:Str->Option Value} {base:Heap} {f:Addr} {fd:FuncData}
theorem aX{p a b c:Pt}(h:IfP p)(e:qA4 p= .ite a b c)(S:Pt.Sl)(n:Nat)(l:Bool):Pt.codeOf p S n l=Pt.ifC l (Pt.codeOf a S n false) (Pt.codeOf b S n l) (Pt.codeOf c S n l):=by
 cases h with
 | @ite p q r=>cases (show Pt.ite p q r=Pt.ite a b c from e);rfl
 | @and p q=>cases (show Pt.ite p q (.tru false)=Pt.ite a b c from e);rfl
 | @or p q=>cases (show Pt.ite p (.tru true) q=Pt.ite a b c from e);rfl
theorem zB{H:Hp}{l:Addr}{xs ys:List V}(h:H l=some (.lst xs)):jG K H (upd H l (.lst ys)):=jV.tups ((jV.refl l H).set h) h
def qF5(n:Nat)(p:Pt):Prop:=p.deep<n+1/\0<n/\IfP p
theorem nI:qO ["part","slots","height","last","choice","first","second","third"] ps4 (qU qL3):=by walk_at "s"
theorem ok_ifC{n:Nat}(F:zZ K "if_code" "if_code" qL3 .none f fd)(zL:mg "len"=none)(GA:Kn P w K mg base 1 "as_if" ["part"] (qA5 K))(GC:Kn P w K mg base (3*n+4) "code_of" ps4 (vR K n)):qS P w K mg base (CXE P w) (3*n+5) f fd ps4 (fG K (qF5 n)):=by
 refine F.ok0 nI (fun vs H Q E h=>?_) (fun cdv A outer s H vs Q E hr h=>?_)
 ·obtain⟨v,sl,h,b,p,S,rfl,_⟩:=h
  rfl
 ·obtain⟨v,sl,h0,b,p,S,rfl,hp,⟨hd,hn,hi⟩,hz,hs,q⟩:=h
  refine⟨_,qZ (qB (i:=4) nI.nd rfl (Or.inl rfl) (zY GA (hr.mono (by omega)) (qQ (pv 0) qJ)))
   (qZ (qB (i:=5) nI.nd rfl (Or.inl rfl) (zY GC hr (qQ (qL qP (pv 4) qV (fun _ _=>rfl)) (qQ (pv 1) (qQ (pv 2) (qQ vM qJ))))))
   (qZ (qB (i:=6) nI.nd rfl (Or.inl rfl) (zY GC hr (qQ (qL qP (pv 4) qV (fun _ _=>rfl)) (qQ (pv 1) (qQ (pv 2) (qQ (pv 3) qJ))))))
   (qZ (qB (i:=7) nI.nd rfl (Or.inl rfl) (zY GC hr (qQ (qL qP (pv 4) qV (fun _ _=>rfl)) (qQ (pv 1) (qQ (pv 2) (qQ (pv 3) qJ))))))
   (qZ (zC (wU (jE (pv 3))) (qK (qN (jJ aq0 aq1 aq2 qA (pv 6) (qQ (zF (qQ qC (qQ (zI zG (by rfl) zL aq16 (qQ (pv 7) qJ)) qJ))) qJ)))) zQ)
   (qK (qM (zX kG (zX kG (zX kG (pv 5) (jX (qQ (zF (qQ qC (qQ (zI zG (by rfl) zL aq16 (qQ (pv 6) qJ)) qJ))) qJ))) (pv 6)) (pv 7)))))))),?_⟩
  walk_at "e"
  refine⟨_,rfl,v,p,rfl,hp,hi,fun v' H1 g1 hv'=>?_⟩
  walk_at "d"
  obtain⟨pa,pb,pc,ei,da,db,dc,hsum,fa,fb,fc⟩:=qJq hi
  rw[ei]at hv'
  have ec:=fun l=>aX hi ei S h0 l
  obtain⟨a,x,y,z,rfl,ha,hx,hy,hz'⟩:=vH hv'
  refine⟨_,rfl,a,_,_,x,rfl,rfl,ha,qY (j:=1) rfl,_,rfl,_,rfl,x,sl,h0,false,pa,S,rfl,hx,by omega,by omega,(hs.mono g1).sub (by omega) fa,fun l1 ys1 H2 g2 n2 e1 hc1=>?_⟩
  have hl1:=hc1.code
  walk_at "d"
  have g12:=g1.trans g2
  refine⟨_,rfl,a,_,_,y,rfl,rfl,zO.mono g2.same ha,qY (j:=2) rfl,_,rfl,_,rfl,_,rfl,y,sl,h0,b,pb,S,rfl,hy.mono g2.same,by omega,by omega,(hs.mono g12).sub (by omega) fb,fun l2 ys2 H3 g3 n3 e2 hc2=>?_⟩
  have hl2:=hc2.code
  walk_at "d"
  have g13:=g12.trans g3
  have g23:=g2.trans g3
  refine⟨_,rfl,a,_,_,z,rfl,rfl,zO.mono g23.same ha,qY (j:=3) rfl,_,rfl,_,rfl,_,rfl,z,sl,h0,b,pc,S,rfl,hz'.mono g23.same,by omega,by omega,(hs.mono g13).sub (by omega) fc,fun l3 ys3 H4 g4 n4 e3 hc3=>?_⟩
  have hl3:=hc3.code
  walk_at "d"
  have g14:=g13.trans g4
  have e1':=(g3.trans g4).same _ _ e1
  have e2':=g4.same _ _ e2
  have d12:l1≠l2:=fun z=>by rw[<-z,e1]at n3;cases n3
  have d32:l3≠l2:=fun z=>by rw[z,e2]at n4;cases n4
  have f2:H l2=none:=g12.none _ n3
  have rest:∀(H5:Hp)(zs:List V),Grow H H5->H5 l1=some (.lst ys1)->H5 l2=some (.lst zs)->H5 l3=some (.lst ys3)->zs.length+3<=6*pb.sz->jW K H5 (Pt.codeOf pa S h0 false) ys1->jW K H5 (if b then Pt.codeOf pb S h0 b else Pt.codeOf pb S h0 b++[.skip (Pt.codeOf pc S h0 b).length]) zs->jW K H5 (Pt.codeOf pc S h0 b) ys3->
    qO6 (bC tK (bC tK (bC tK (jY 5) (qR7 (xO (qR6 (xO (tC (.str "unless")) (xO (tCB (fun xs H Q=>eC K xs H Q) (xO (jY 6) wC)) wC))) wC))) (jY 6)) (jY 7)) {nx:=fun _ H'=>Q .non H',rt:=Q} [some v,some (.ref sl),some (.int h0),some (.bl b),some (.ref a),some (.ref l1),some (.ref l2),some (.ref l3)] H5:=by
   intro H5 zs g5 x1 x2 x3 hl y1 y2 y3
   refine⟨_,rfl,_,rfl,l2,zs,rfl,.inl (zH.of x2),(by show 2<=sizeLine;decide),fun t ht=>?_⟩
   have et:(upd H5 t (.tup [.str "unless",.int zs.length])) t=some (.tup [.str "unless",.int zs.length]):=qX
   have g6:Grow H5 (upd H5 t (.tup [.str "unless",.int zs.length])):=Grow.put ht
   have x1:=g6.same _ _ x1
   have x2:=g6.same _ _ x2
   have x3:=g6.same _ _ x3
   generalize upd H5 t (.tup [.str "unless",.int zs.length])=H6 at g6 x1 x2 x3 et⊢
   refine⟨(by show 1<=sizeLine;decide),fun l4 hl4=>?_⟩
   have g7:Grow H6 (upd H6 l4 (.lst [.ref t])):=Grow.put hl4
   have x4:(upd H6 l4 (.lst [.ref t])) l4=some (.lst [.ref t]):=qX
   have x1:=g7.same _ _ x1
   have x2:=g7.same _ _ x2
   have x3:=g7.same _ _ x3
   generalize upd H6 l4 (.lst [.ref t])=H7 at g7 x1 x2 x3 x4⊢
   refine⟨l1,l4,_,_,rfl,rfl,x1,x4,by rw[sizeLine_eq];simp;omega,fun l5 hl5=>?_⟩
   have g8:Grow H7 (upd H7 l5 (.lst (ys1++[.ref t]))):=Grow.put hl5
   have x5:(upd H7 l5 (.lst (ys1++[.ref t]))) l5=some (.lst (ys1++[.ref t])):=qX
   have x2:=g8.same _ _ x2
   have x3:=g8.same _ _ x3
   generalize upd H7 l5 (.lst (ys1++[.ref t]))=H8 at g8 x2 x3 x5⊢
   refine⟨_,rfl,l5,l2,_,_,rfl,rfl,x5,x2,by rw[sizeLine_eq];simp;omega,fun l6 hl6=>?_⟩
   have g9:Grow H8 (upd H8 l6 (.lst (ys1++[.ref t]++zs))):=Grow.put hl6
   have x6:(upd H8 l6 (.lst (ys1++[.ref t]++zs))) l6=some (.lst (ys1++[.ref t]++zs)):=qX
   have x3:=g9.same _ _ x3
   generalize upd H8 l6 (.lst (ys1++[.ref t]++zs))=H9 at g9 x3 x6⊢
   have g59:=(((g5.trans g6).trans g7).trans g8).trans g9
   refine⟨_,rfl,l6,l3,_,_,rfl,rfl,x6,x3,by rw[sizeLine_eq];simp;omega,fun l7 hl7=>?_⟩
   refine q l7 _ _ (g59.trans (Grow.put hl7)) (g59.none _ hl7) qX ?_
   have gx:=(((g6.trans g7).trans g8).trans g9).trans (Grow.put (o:=.lst (ys1++[.ref t]++zs++ys3)) hl7)
   have gt:=((g7.trans g8).trans g9).trans (Grow.put (o:=.lst (ys1++[.ref t]++zs++ys3)) hl7)
   have yt:jW K (upd H9 l7 (.lst (ys1++[.ref t]++zs++ys3))) [.unless (if b then Pt.codeOf pb S h0 b else Pt.codeOf pb S h0 b++[.skip (Pt.codeOf pc S h0 b).length]).length] [.ref t]:=by
    refine jW.one (vs:=[.int zs.length]) (zO.of (gt.same _ _ et)) (qF ?_ qT)
    rw[y2.len,qW]
   rw[ec]
   exact jW.app (jW.app (jW.app (y1.mono gx.same) yt) (y2.mono gx.same)) (y3.mono gx.same)
  refine⟨_,rfl,b,rfl,?_⟩
  cases b with
  |true=>exact jO (rest H4 ys2 g14 e1' e2' e3 (by omega) (hc1.mono (g3.trans g4).same) (hc2.mono g4.same) hc3)
  |false=>
   refine jN ?_
   refine⟨_,rfl,.inl ⟨rfl,_,zH.of e2'⟩,_,rfl,l3,_,rfl,.inl (zH.of e3),(by show 2<=sizeLine;decide),fun t ht=>?_⟩
   have g5:Grow H4 (upd H4 t (.tup [.str "skip",.int ys3.length])):=Grow.put ht
   have e1':=g5.same _ _ e1'
   have e2':=g5.same _ _ e2'
   have e3:=g5.same _ _ e3
   have et:(upd H4 t (.tup [.str "skip",.int ys3.length])) t=some (.tup [.str "skip",.int ys3.length]):=qX
   generalize upd H4 t (.tup [.str "skip",.int ys3.length])=H5 at g5 e1' e2' e3 et⊢
   refine⟨l2,ys2,_,rfl,rfl,e2',by rw[sizeLine_eq];omega,?_⟩
   have kt:=zB (K:=K) (ys:=ys2++[.ref t]) e2'
   have ys:jW K H5 [.skip (Pt.codeOf pc S h0 false).length] [.ref t]:=by
    refine jW.one (vs:=[.int ys3.length]) (zO.of et) (qF ?_ qT)
    rw[hc3.len,qW]
   exact rest _ (ys2++[.ref t]) ((g14.trans g5).set f2) ((qH d12).trans e1') qX ((qH d32).trans e3) (by simp;omega)
    (qI.monoT kt (hc1.mono ((g3.trans g4).trans g5).same)) (qI.monoT kt (jW.app (hc2.mono (g4.trans g5).same) ys)) (qI.monoT kt (hc3.mono g5.same))
def qX1(n:Nat)(p:Pt):Prop:=p.deep<n+1/\∃x q r,p= .let_ x q r
theorem fD:qO ["part","slots","height","last","first","second"] ps4 (qU rD):=by walk_at "s"
theorem qL4{n:Nat}(F:zZ K "let_code" "let_code" rD .none f fd)(GN:Kn P w K mg base 1 "with_name" ["scope","name","bound"] dP)(GC:Kn P w K mg base (3*n+4) "code_of" ps4 (vR K n)):qS P w K mg base (CXE P w) (3*n+5) f fd ps4 (fG K (qX1 n)):=by
 refine F.ok0 fD (fun vs H Q E h=>?_) (fun cdv A outer s H vs Q E hr h=>?_)
 ·obtain⟨v,sl,h,b,p,S,rfl,_⟩:=h
  rfl
 ·obtain⟨v,sl,h0,b,p,S,rfl,hp,⟨hd,x,p1,p2,rfl⟩,hz,hs,q⟩:=h
  refine⟨_,qZ (qB (i:=4) fD.nd rfl (Or.inl rfl) (zY GC hr (qQ (qL qP (pv 0) qV (fun _ _=>rfl)) (qQ (pv 1) (qQ (pv 2) (qQ vM qJ))))))
   (qZ (qB (i:=5) fD.nd rfl (Or.inl rfl) (zY GC hr (qQ (qL qP (pv 0) qV (fun _ _=>rfl)) (qQ (zY GN (hr.mono (by omega)) (qQ (pv 1) (qQ (qL qP (pv 0) qV (fun _ _=>rfl)) (qQ (pv 2) qJ)))) (qQ (zX xF (pv 2) qV) (qQ (pv 3) qJ))))))
   (qZ (zC (wU (jE (pv 3))) (qK (qN (jJ aq0 aq1 aq2 qA (pv 5) (qQ (zF (qQ qC qJ)) qJ)))) zQ)
   (qK (qM (zX kG (pv 4) (pv 5)))))),?_⟩
  walk_at "e"
  obtain⟨a,v0,v1,v2,rfl,ha,hx,hv1,hv2⟩:=vH hp
  cases jR hx
  simp only[Pt.deep,Pt.sz]at hd hz q
  have hsd:yG H sl S p1:=hs.sub (by simp only[Pt.deep];omega) (fun y h=>.inl h)
  refine⟨_,rfl,a,_,_,v1,rfl,rfl,ha,qY (j:=2) rfl,_,rfl,_,rfl,v1,sl,h0,false,p1,S,rfl,hv1,by omega,by omega,hsd,fun l1 ys1 H1 g1 n1 e1 hc1=>?_⟩
  have hl1:=hc1.code
  walk_at "d"
  obtain⟨kvs,s1,s2,s3⟩:=hs
  simp only[Pt.deep]at s2
  have ha1:=zO.mono g1.same ha
  refine⟨_,rfl,a,_,_,v2,rfl,rfl,ha1,qY (j:=3) rfl,_,rfl,_,rfl,a,_,_,.str x,rfl,rfl,ha1,qY (j:=1) rfl,_,rfl,sl,x,.int h0,kvs,rfl,g1.same _ _ s1,by omega,fun d H2 g2 e2=>?_⟩
  have g12:=g1.trans g2
  have hs2:yG H2 d ((x,h0)::S) p2:=by
   refine⟨_,e2,?_,fun y hy=>?_⟩
   ·have :=kK kvs (Sum.inr x:Key) (.int h0);omega
   ·rw[oH]
    by_cases z:y=x
    ·subst z;rw[if_pos rfl,Pt.slotOf_eq]
    ·rw[if_neg (fun h=>z (Sum.inr.inj h)),Pt.slotOf_ne _ _ z];exact s3 y (.inr ⟨hy,z⟩)
  refine⟨_,rfl,_,_,rfl,rfl,_,rfl,v2,d,h0+1,b,p2,(x,h0)::S,rfl,hv2.mono g12.same,by omega,by omega,hs2,fun l2 ys2 H3 g3 n3 e3 hc2=>?_⟩
  have hl2:=hc2.code
  walk_at "d"
  have g13:=g12.trans g3
  have e1':=(g2.trans g3).same _ _ e1
  have d12:l1≠l2:=fun z=>by rw[<-z,g2.same _ _ e1]at n3;cases n3
  have f2:H l2=none:=g12.none _ n3
  have rest:∀(H5:Hp)(zs:List V),Grow H H5->H5 l1=some (.lst ys1)->H5 l2=some (.lst zs)->zs.length+3<=6*p2.sz->jW K H5 (Pt.codeOf p1 S h0 false) ys1->jW K H5 (if b then Pt.codeOf p2 ((x,h0)::S) (h0+1) b else Pt.codeOf p2 ((x,h0)::S) (h0+1) b++[.slide]) zs->
    qO6 (bC tK (jY 4) (jY 5)) {nx:=fun _ H'=>Q .non H',rt:=Q} [some (.ref a),some (.ref sl),some (.int h0),some (.bl b),some (.ref l1),some (.ref l2)] H5:=by
   intro H5 zs g5 x1 x2 hl y1 y2
   refine⟨_,rfl,_,rfl,l1,l2,_,_,rfl,rfl,x1,x2,by rw[sizeLine_eq];omega,fun l7 hl7=>?_⟩
   refine q l7 _ _ (g5.trans (Grow.put hl7)) (g5.none _ hl7) qX ?_
   rw[Pt.codeOf]
   exact jW.app (y1.mono (Grow.put hl7).same) (y2.mono (Grow.put hl7).same)
  refine⟨_,rfl,b,rfl,?_⟩
  cases b with
  |true=>exact jO (rest H3 ys2 g13 e1' e3 (by omega) (hc1.mono (g2.trans g3).same) hc2)
  |false=>
   refine jN ?_
   refine⟨_,rfl,.inl ⟨rfl,_,zH.of e3⟩,(by show 1<=sizeLine;decide),fun t ht=>?_⟩
   have g5:Grow H3 (upd H3 t (.tup [.str "slide"])):=Grow.put ht
   have e1':=g5.same _ _ e1'
   have e3:=g5.same _ _ e3
   have et:(upd H3 t (.tup [.str "slide"])) t=some (.tup [.str "slide"]):=qX
   generalize upd H3 t (.tup [.str "slide"])=H5 at g5 e1' e3 et⊢
   refine⟨l2,ys2,_,rfl,rfl,e3,by rw[sizeLine_eq];omega,?_⟩
   have kt:=zB (K:=K) (ys:=ys2++[.ref t]) e3
   have ys:jW K H5 [.slide] [.ref t]:=jW.one (vs:=[]) (zO.of et) qT
   exact rest _ (ys2++[.ref t]) ((g13.trans g5).set f2) ((qH d12).trans e1') qX (by simp;omega)
    (qI.monoT kt (hc1.mono ((g2.trans g3).trans g5).same)) (qI.monoT kt (jW.app (hc2.mono g5.same) ys))
theorem Pt.deep_sz:∀p:Pt,p.deep<p.sz
 | .num _=>by simp[Pt.deep,Pt.sz]
 | .tru _=>by simp[Pt.deep,Pt.sz]
 | .nam _=>by simp[Pt.deep,Pt.sz]
 | .nil _=>by simp[Pt.deep,Pt.sz]
 | .one _ p=>by have :=Pt.deep_sz p;simp only[Pt.deep,Pt.sz];omega
 | .two _ p q=>by have :=Pt.deep_sz p;have :=Pt.deep_sz q;simp only[Pt.deep,Pt.sz];omega
 | .ite p q r=>by have :=Pt.deep_sz p;have :=Pt.deep_sz q;have :=Pt.deep_sz r;simp only[Pt.deep,Pt.sz];omega
 | .let_ _ p q=>by have :=Pt.deep_sz p;have :=Pt.deep_sz q;simp only[Pt.deep,Pt.sz];omega
 | .fn _ _ p=>by have :=Pt.deep_sz p;simp only[Pt.deep,Pt.sz];omega
 | .rc _ _ _ _ p=>by have :=Pt.deep_sz p;simp only[Pt.deep,Pt.sz];omega
inductive FnP:Pt->Prop
 |fn {x k p}:FnP (.fn x k p)
 |rc {g x k l p}:FnP (.rc g x k l p)
theorem fP{p q:Pt}(h:FnP p)(e:Pt.parts p=[q])(S:Pt.Sl):Pt.codeOf p S 0 false=
  .func (decide ((Pt.bnd p).length≠1)) ((Pt.outs p).map (Pt.slotOf S)) (Pt.codeOf q (Pt.slotsFor 0 (Pt.outs p++Pt.bnd p)) ((Pt.outs p++Pt.bnd p).length) true).length::Pt.codeOf q (Pt.slotsFor 0 (Pt.outs p++Pt.bnd p)) ((Pt.outs p++Pt.bnd p).length) true:=by
 cases h with
 | @fn x k r=>
  have :r=q:=by simpa[Pt.parts]using e
  subst this
  simp[Pt.codeOf,Pt.told,Pt.bnd]
 | @rc g x k l r=>
  have :r=q:=by simpa[Pt.parts]using e
  subst this
  by_cases z:g=x
  ·subst z;simp[Pt.codeOf,Pt.told,Pt.bnd]
  ·simp[Pt.codeOf,Pt.told,Pt.bnd,z]
theorem aK(p:Pt)(h:FnP p):(Pt.outs p++Pt.bnd p).Nodup/\(∀x,x∈Pt.bnd p↔x∈Pt.names p)/\(Pt.bnd p).length<=2:=by
 have e:∀x,x∈Pt.bnd p↔x∈Pt.names p:=by
  intro x
  cases h with
  |fn=>simp[Pt.bnd,Pt.names]
  | @rc g y k l r=>
   by_cases z:g=y
   ·subst z;simp[Pt.bnd,Pt.names]
   ·simp[Pt.bnd,Pt.names,z]
 refine⟨List.nodup_append.mpr ⟨Pt.outs_nodup p,?_,fun a ha b hb z=>?_⟩,e,?_⟩
 ·cases h with
  |fn=>simp[Pt.bnd]
  | @rc g y k l r=>
   by_cases z:g=y
   ·subst z;simp[Pt.bnd]
   ·simp[Pt.bnd,z]
 ·subst z
  have h1:=(Pt.outs_mem a p).mp ha
  have h2:=(e a).mp hb
  cases h with
  |fn=>exact h1.2 (by simpa[Pt.names]using h2)
  |rc=>
   rcases(show a=_\/a=_ by simpa[Pt.names]using h2)with z|z
   ·exact h1.2.1 z
   ·exact h1.2.2 z
 ·cases h with
  |fn=>simp[Pt.bnd]
  | @rc g y k l r=>
   by_cases z:g=y
   ·subst z;simp[Pt.bnd]
   ·simp[Pt.bnd,z]
inductive qX2(K:Fg)(n:Nat)(vs:List V)(H:Hp)(Q:VK):Prop
 |mk (v:V) (sl:Addr) (p:Pt) (S:Pt.Sl) (a_0:vs=[v,.ref sl]) (a_1:qW K H p.dt v) (a_2:p.deep<n+1) (a_3:FnP p) (a_4:p.sz<=50000) (a_5:yG H sl S p) (a_6:∀l ys H',Grow H H'->H l=none->H' l=some (.lst ys)->ys.length+5<=6*p.sz->jW K H' (Pt.codeOf p S 0 false) ys->Q (.ref l) H'):qX2 K n vs H Q
def qF7(K:Fg)(n:Nat):Sp:=fun vs H Q x_0=>qX2 K n vs H Q
theorem yM:qO ["part","slots","kept","bound","inner","slot","name","body","word"] ["part","slots"] (qU nU):=by walk_at "s"
theorem qA7{H:Hp}{p:Pt}{v:V}(h:qW K H p.dt v)(hf:FnP p):∃a ws q u,v= .ref a/\zO K H a (ws++[u])/\qW K H q.dt u/\Pt.parts p=[q]/\q.deep<p.deep/\q.sz+1=p.sz/\∃x r,Pt.names p=x::r/\r.length<=1:=by
 cases hf with
 | @fn x k q=>
  obtain⟨a,v0,v1,v2,rfl,ha,_,_,h3⟩:=vH h
  exact⟨a,[.str "fn",v0,v1],q,v2,rfl,ha,h3,rfl,by simp[Pt.deep],by simp[Pt.sz],x,[],rfl,by simp⟩
 | @rc g x k l q=>
  obtain⟨a,v0,v1,v2,v3,v4,rfl,ha,_,_,_,_,h3⟩:=rY h
  exact⟨a,[.str "rec",v0,v1,v2,v3],q,v4,rfl,ha,h3,rfl,by simp[Pt.deep],by simp[Pt.sz],g,[x],rfl,by simp⟩
theorem rS{p:Pt}(hf:FnP p):wY p=false:=by cases hf<;>rfl
theorem rT{H:Hp}(f:Str->Nat):∀xs:List Str,qI K H (xs.map ((fun k:Nat=>Dt.int (k:Int))∘f)) (xs.map fun x=>V.int (f x:Nat))
 |[]=>qT
 |x::xs=>qF (by rw[Function.comp_apply,qW]) (rT f xs)
structure GlC(mg:Str->Option Value):Prop where
 enumerate:mg "enumerate"=none
 len:mg "len"=none
 tuple:mg "tuple"=none
theorem qA8{n:Nat}(F:zZ K "function_code" "function_code" nU .none f fd)(G:GlC mg)(GU:Kn P w K mg base 1 "looked_up" ["scope","name"] dA)(GB:Kn P w K mg base 2 "names_bound" ["part"] (qZ2 K))(GO:Kn P w K mg base (n+3) "outside_names" ["part"] (aJ K (n+1)))(GC:Kn P w K mg base (3*n+4) "code_of" ps4 (vR K n)):qS P w K mg base (CXE P w) (3*n+5) f fd ["part","slots"] (qF7 K n):=by
 refine F.ok0 yM (fun vs H Q E h=>?_) (fun cdv A outer s H vs Q E hr h=>?_)
 ·obtain⟨v,sl,p,S,rfl,_⟩:=h
  rfl
 ·obtain⟨v,sl,p,S,rfl,hp,hd,hf,hz,hs,q⟩:=h
  have ndb:((["name"]:List Str)++(["slots"]:List Str)).Nodup:=by decide+kernel
  obtain⟨a',ws',ea,ha',hws,_,hbn⟩:=iQ (rS hf) hp
  obtain⟨a,ws,pq,u,rfl,ha,hu,hpa,hdq,hzq,x0,r0,hnm,hr0⟩:=qA7 hp hf
  have ea':a'=a:=by cases ea;rfl
  rw[ea']at ha'
  have hds:=Pt.deep_sz p
  have ec:=fP hf hpa S
  obtain⟨bn1,bn2,bn3⟩:=aK p hf
  have hxl:=Pt.outs_length p
  obtain⟨tl,pls,htl⟩:∃t,PSs (oG (CXE P w) P w K mg base ["part","slots","kept","bound","inner","slot","name","body","word"] "function_code" (qU nU) f cdv A outer s H E).nox ((kL nU).drop 7) t/\
    ∀(H5:Hp)(lk:Addr)(c3 c4 c5 c6:Option V)(l5:Addr)(wd:Str)(ys:List V),Grow H H5->H5 lk=some (.lst ((Pt.outs p).map V.str))->H5 l5=some (.lst ys)->wd=(if decide ((Pt.bnd p).length≠1)then("rec":Str)else("fn":Str))->jW K H5 (Pt.codeOf pq (Pt.slotsFor 0 (Pt.outs p++Pt.bnd p)) ((Pt.outs p++Pt.bnd p).length) true) ys->
     t {nx:=fun _ H'=>Q .non H',rt:=Q} [some (.ref a),some (.ref sl),some (.ref lk),c3,c4,c5,c6,some (.ref l5),some (.str wd)] H5:=by
   refine⟨_,qK (qM (zX kG (jX (qQ (zF (qQ (pv 8) (qQ (xW wW (by rfl) G.tuple PyProof.Rows.boot_tuple (qQ (qS9 (qQ8 (own:=["name"]) (y:="slots") (i:=1) (by rfl) (by decide+kernel) (by rfl) (by decide+kernel) (by rfl) (by decide+kernel) (by rfl) (.inl (by rfl)) (by rfl) (by decide+kernel)) rfl (cT (pv 2))
    (fun C s H fp pins=>zY GU (hr.mono (by omega)) (qQ (pv 1) (qQ (pv 0) qJ))) (fun C s H fp pins=>zA (i:=0) ndb rfl (Or.inl rfl) (Or.inr (by rfl)))) qJ)) (qQ (zI zG (by rfl) G.len aq16 (qQ (pv 7) qJ)) qJ)))) qJ)) (pv 7))),?_⟩
   walk_at "e"
   intro H5 lk c3 c4 c5 c6 l5 wd ys g5 ek e5 hwd hc5
   have hl5:=hc5.code
   have hxf:∀x,x∈Pt.outs p->p.fv x:=fun x=>(Pt.outs_mem x p).mp
   generalize hxs:Pt.outs p=xs at ek hxl hxf ec hc5
   refine⟨_,rfl,_,rfl,lk,rfl,⟨_,zH.of ek⟩,fun D0 hD0=>?_⟩
   have gD:Grow H5 (upd H5 D0 (.lst [])):=Grow.put hD0
   obtain⟨kvs,s1,s2,s3⟩:=hs
   refine mD (K:=K) (a:=lk) (xs:=xs.map V.str) (te:=oI dA [] E0 (xO (jY 1) (xO (jY 0) wC))) (ix:=[1]) (σ:=[some (.ref a),some (.ref sl),some (.ref lk),c3,c4,c5,c6,some (.ref l5),some (.str wd)])
    (fun i zs H6=>Grow H5 H6/\H6 D0=some (.lst zs)/\zs=(xs.take i).map fun x=>V.int (Pt.slotOf S x:Nat)) ?_ ?_ ?_ ?_
   ·exact⟨gD,qX,rfl⟩
   ·rintro i zs H6 _ ⟨g6,_⟩
    exact zH.of (g6.same _ _ ek)
   ·rintro i y zs H6 hy ⟨g6,eD,hzl⟩ Q' hq
    rw[List.getElem?_map]at hy
    obtain⟨x,hx,rfl⟩:=aq6.mp hy
    have hr1:=s3 x (hxf x (List.mem_of_getElem? hx))
    have hi:i<xs.length:=(List.getElem?_eq_some_iff.mp hx).1
    exact⟨_,rfl,_,rfl,sl,x,_,kvs,rfl,(g5.trans g6).same _ _ s1,hr1,hq _ H6 eD (by rw[sizeLine_eq,hzl,List.length_map,List.length_take];omega) ⟨g6.set hD0,qX,by rw[hzl,List.take_add_one,hx];simp⟩⟩
   ·rintro zs H6 ⟨g6,eD,hzl⟩
    rw[List.length_map,List.take_of_length_le (aq7 _)]at hzl
    refine⟨D0,zs,rfl,.inl ⟨zH.of eD,fun t0 ht0=>?_⟩⟩
    have g7:Grow H6 (upd H6 t0 (.tup zs)):=Grow.put ht0
    have e0:(upd H6 t0 (.tup zs)) t0=some (.tup zs):=qX
    generalize upd H6 t0 (.tup zs)=H7 at g7 e0⊢
    have g57:=g6.trans g7
    have e5':=g57.same _ _ e5
    refine⟨_,rfl,l5,ys,rfl,.inl (zH.of e5'),(by show 3<=sizeLine;decide),fun t ht=>?_⟩
    have g8:Grow H7 (upd H7 t (.tup [.str wd,.ref t0,.int ys.length])):=Grow.put ht
    have e5':=g8.same _ _ e5'
    have et:(upd H7 t (.tup [.str wd,.ref t0,.int ys.length])) t=some (.tup [.str wd,.ref t0,.int ys.length]):=qX
    generalize upd H7 t (.tup [.str wd,.ref t0,.int ys.length])=H8 at g8 e5' et⊢
    refine⟨(by show 1<=sizeLine;decide),fun l6 hl6=>?_⟩
    have g9:Grow H8 (upd H8 l6 (.lst [.ref t])):=Grow.put hl6
    have e5':=g9.same _ _ e5'
    have e6:(upd H8 l6 (.lst [.ref t])) l6=some (.lst [.ref t]):=qX
    generalize upd H8 l6 (.lst [.ref t])=H9 at g9 e5' e6⊢
    have g59:=((g5.trans g57).trans g8).trans g9
    refine⟨_,rfl,l6,l5,_,_,rfl,rfl,e6,e5',by rw[sizeLine_eq];simp;omega,fun l7 hl7=>?_⟩
    refine q l7 _ _ (g59.trans (Grow.put hl7)) (g59.none _ hl7) qX (by simp;omega) ?_
    have ga:=g9.trans (Grow.put (o:=.lst ([.ref t]++ys)) hl7)
    rw[ec]
    refine jW.app (c:=[_]) (jW.one (vs:=[.ref t0,.int ys.length]) (zO.of ?_) (qF (wM (zO.of ((g8.trans ga).same _ _ e0)) ?_) (qF ?_ qT))) (hc5.mono ((g57.trans g8).trans ga).same)
    ·rw[ga.same _ _ et,hwd];rfl
    ·rw[hzl,List.map_map]
     exact rT _ xs
    ·rw[hc5.len,qW]
  obtain⟨tm,pms,htm⟩:∃t,PSs (oG (CXE P w) P w K mg base ["part","slots","kept","bound","inner","slot","name","body","word"] "function_code" (qU nU) f cdv A outer s H E).nox ((kL nU).drop 3) t/\
    ∀(H3:Hp)(lk bb:Addr),Grow H H3->H3 lk=some (.lst ((Pt.outs p).map V.str))->H3 bb=some (.lst ((Pt.bnd p).map V.str))->
     t {nx:=fun _ H'=>Q .non H',rt:=Q} [some (.ref a),some (.ref sl),some (.ref lk),some (.ref bb),none,none,none,none,none] H3:=by
   refine⟨_,qZ (qB (i:=4) yM.nd rfl (Or.inl rfl) yY)
    (qZ (yS PassesOwn.never rfl (rW (by rfl) G.enumerate (qQ (zX kG (pv 2) (pv 3)) qJ)) (wO rfl (jL (zA (i:=5) yM.nd rfl (Or.inl rfl)) (jL (zA (i:=6) yM.nd rfl (Or.inl rfl)) vJ)))
     (qK (lO (Nat.lt_of_succ_lt hr.u2) (pv 4) (pv 6) (pv 5) rfl)))
    (qZ (qB (i:=7) yM.nd rfl (Or.inl rfl) (zY GC hr (qQ (qL qP (pv 0) (iH yA qV) (fun _ _=>rfl)) (qQ (pv 4) (qQ (zI tI (by rfl) G.len aq16 (qQ (pv 4) qJ)) (qQ vM qJ))))))
    (qZ (qB (i:=8) yM.nd rfl (Or.inl rfl) (kF (qE jB (zI zG (by rfl) G.len aq16 (qQ (pv 3) qJ)) qV (nomark _)) qC qC)) pls))),?_⟩
   walk_at "e"
   intro H3 lk bb g3 ek eb
   have hxs:∀x,x∈Pt.outs p↔p.fv x:=fun x=>Pt.outs_mem x p
   generalize hxo:Pt.outs p=xs at ek hxl hxs bn1 htl
   generalize hbo:Pt.bnd p=bs at eb bn1 bn2 bn3 htl
   intro d hd4
   walk_at "d"
   have g4:Grow H3 (upd H3 d (.dK [])):=Grow.put hd4
   have ed:(upd H3 d (.dK [])) d=some (.dK []):=qX
   have ek:=g4.same _ _ ek
   have eb:=g4.same _ _ eb
   have hd0:H d=none:=g3.none _ hd4
   have kd:lk≠d:=fun z=>by rw[z,ed]at ek;cases ek
   have bd:bb≠d:=fun z=>by rw[z,ed]at eb;cases eb
   generalize upd H3 d (.dK [])=H4 at g4 ek eb ed⊢
   have g04:=g3.trans g4
   refine⟨_,rfl,_,rfl,lk,bb,_,_,rfl,rfl,ek,eb,by rw[sizeLine_eq];simp;omega,fun lc hlc=>?_⟩
   rw[<-List.map_append]
   have cd:lc≠d:=fun z=>by rw[z,ed]at hlc;cases hlc
   have g5:Grow H4 (upd H4 lc (.lst ((xs++bs).map V.str))):=Grow.put hlc
   have ec:(upd H4 lc (.lst ((xs++bs).map V.str))) lc=some (.lst ((xs++bs).map V.str)):=qX
   have ek:=g5.same _ _ ek
   have eb:=g5.same _ _ eb
   have ed:=g5.same _ _ ed
   generalize upd H4 lc (.lst ((xs++bs).map V.str))=H5 at g5 ec ek eb ed⊢
   have g05:=g04.trans g5
   refine⟨lc,rfl,⟨_,zH.of ec⟩,?_⟩
   refine mC (K:=K) (l:=lc) (xs:=(xs++bs).map V.str) (fun i σ H6=>∃o5 o6 kvs,σ=[some (.ref a),some (.ref sl),some (.ref lk),some (.ref bb),some (.ref d),o5,o6,none,none]/\Grow H H6/\H6 lc=some (.lst ((xs++bs).map V.str))/\H6 lk=some (.lst (xs.map V.str))/\H6 bb=some (.lst (bs.map V.str))/\H6 d=some (.dK kvs)/\jT kvs ((xs++bs).take i)/\∀j x,j<i->(xs++bs)[j]? =some x->kX kvs (Sum.inr x:Key)=some (.int (j:Nat))) ?_ ?_ ?_ ?_
   ·exact⟨_,_,[],rfl,g05,ec,ek,eb,ed,rfl,fun j x h=>absurd h (Nat.not_lt_zero _)⟩
   ·rintro i σ H6 _ ⟨o5,o6,kvs,rfl,_,h,_⟩
    exact zH.of h
   ·rintro i y T σ H6 hy ⟨o5,o6,kvs,rfl,g6,ec6,ek6,eb6,ed6,hkl,hkx⟩ hT
    rw[List.getElem?_map]at hy
    obtain⟨x,hx,rfl⟩:=aq6.mp hy
    have hi:i<(xs++bs).length:=(List.getElem?_eq_some_iff.mp hx).1
    rw[List.length_append]at hi
    have g7:Grow H6 (upd H6 T (.tup [.int i,.str x])):=Grow.put hT
    refine⟨T,_,rfl,zO.of qX,rfl,_,_,rfl,_,_,rfl,rfl,?_⟩
    walk_at "d"
    have ec7:=g7.same _ _ ec6
    have ek7:=g7.same _ _ ek6
    have eb7:=g7.same _ _ eb6
    have ed7:=g7.same _ _ ed6
    generalize upd H6 T (.tup [.int i,.str x])=H7 at g7 ec7 ek7 eb7 ed7⊢
    have hkn:=hkl.length
    rw[List.length_take]at hkn
    refine⟨_,rfl,_,rfl,_,rfl,d,_,rfl,DPut.k (k:=Sum.inr x) ed7 (by rw[sizeLine_eq];omega),?_⟩
    have hnew:x∉(xs++bs).take i:=by
     intro hm
     obtain⟨j,hj,e⟩:=List.getElem_of_mem hm
     rw[List.length_take]at hj
     rw[List.getElem_take]at e
     have hi':i<(xs++bs).length:=(List.getElem?_eq_some_iff.mp hx).1
     have e2:=(List.getElem?_eq_some_iff.mp hx).2
     have :=(List.nodup_iff_pairwise_ne.mp bn1)
     have h3:=List.pairwise_iff_getElem.mp bn1 j i (by omega) hi' (by omega)
     exact h3 (e.trans e2.symm)
    refine⟨_,_,_,rfl,(g6.trans g7).set hd0,(qH cd).trans ec7,(qH kd).trans ek7,(qH bd).trans eb7,qX,?_,fun j y hj hjy=>?_⟩
    ·unfold jT at *
     rw[(iZ kvs _ _).2 (by rw[hkl];exact fun z=>hnew (lP.mp z)),hkl,List.take_add_one,hx];simp
    ·rw[oH]
     by_cases z:y=x
     ·subst z
      rw[if_pos rfl]
      by_cases z2:j=i
      ·subst z2;rfl
      ·have hm:y∈(xs++bs).take i:=List.mem_of_getElem? (i:=j) (by rw[List.getElem?_take_of_lt (show j<i by omega)];exact hjy)
       exact absurd hm hnew
     ·rw[if_neg (fun h=>z (Sum.inr.inj h))]
      have z2:j≠i:=fun e=>by subst e;rw[hx]at hjy;exact z (Option.some.inj hjy).symm
      exact hkx j y (by omega) hjy
   ·rintro σ H6 ⟨o5,o6,kvs,rfl,g6,ec6,ek6,eb6,ed6,hkl,hkx⟩
    rw[List.length_map]at hkl hkx
    rw[List.take_of_length_le (aq7 _)]at hkl
    have hkn:=hkl.length
    have hkn':=hkn
    rw[List.length_append]at hkn'
    have hsq:yG H6 d (Pt.slotsFor 0 (xs++bs)) pq:=by
     refine⟨kvs,ed6,?_,fun x hx=>?_⟩
     ·omega
     ·have hm:x∈xs++bs:=by
       by_cases z:x∈Pt.names p
       ·exact aq11 _ ((bn2 x).mpr z)
       ·exact List.mem_append_left _ ((hxs x).mpr ((nX (rS hf) x).mpr ⟨0,pq,by rw[hpa];rfl,hx,.inr z⟩))
      obtain⟨j,hj,e⟩:=List.getElem_of_mem hm
      have e':(xs++bs)[j]? =some x:=by rw[List.getElem?_eq_getElem hj,e]
      rw[hkx j x hj e',Pt.slotOf_for bn1 e',Nat.zero_add]
    refine⟨_,rfl,1,rfl,a,_,-1,u,rfl,rfl,zO.mono g6.same ha,yQ ws u,_,rfl,_,rfl,d,kvs,rfl,ed6,u,d,kvs.length,true,pq,Pt.slotsFor 0 (xs++bs),rfl,hu.mono g6.same,by omega,by omega,hsq,fun l5 ys H7 g7 n7 e7 hc7=>?_⟩
    rw[hkn]at hc7
    walk_at "d"
    have ek7:=g7.same _ _ ek6
    have fin:∀wd:Str,_:=fun wd hw=>htl H7 lk (some (.ref bb)) (some (.ref d)) o5 o6 l5 wd ys (g6.trans g7) ek7 e7 hw hc7
    refine⟨_,rfl,bb,_,rfl,.inl (zH.of (g7.same _ _ eb6)),rfl,_,rfl,ite2 (fun hw=>?_) (fun hw=>?_)⟩
    ·have e1:bs.length=1:=by have :=of_decide_eq_true hw;rw[List.length_map]at this;have :=V.int.inj this;omega
     exact fin "fn" (by rw[e1];rfl)
    ·have e1:bs.length≠1:=fun z=>hw (by rw[List.length_map,z];rfl)
     exact fin "rec" (by rw[decide_eq_true e1];rfl)
  refine⟨_,qZ (qB (i:=2) yM.nd rfl (Or.inl rfl) (zY GO (hr.mono (by omega)) (qQ (pv 0) qJ)))
   (qZ (qB (i:=3) yM.nd rfl (Or.inl rfl) (zY GB (hr.mono (by omega)) (qQ (pv 0) qJ)))
   (qZ (zC (qE jB (qL zJ (pv 3) qV (fun _ _=>rfl)) (qL zJ (pv 3) (iH yA qV) (fun _ _=>rfl)) (nomark _)) (qK (qB (i:=3) yM.nd rfl (Or.inl rfl) (oN qI2 (pv 3) lJ (lX qV)))) zQ) pms)),?_⟩
  walk_at "e"
  refine⟨_,rfl,.ref a,p,rfl,hp,hd,hz,fun lk H1 g1 n1 e1=>?_⟩
  walk_at "d"
  refine⟨_,rfl,a,Pt.wd p,ws',rfl,zO.mono g1.same ha',hws,fun b H2 g2 n2 e2=>?_⟩
  rw[hbn]at e2
  walk_at "d"
  have g12:=g1.trans g2
  have e1':=g2.same _ _ e1
  have hlast:∃y,dO ((Pt.names p).map V.str) (-1)=some (.str y)/\(y=x0->Pt.bnd p=[x0])/\(y≠x0->Pt.bnd p=Pt.names p):=by
   cases hf with
   | @fn z k r=>
    have e:x0=z:=by have :=hnm;simp[Pt.names]at this;exact this.1.symm
    subst e
    exact⟨x0,yQ [] (V.str x0),fun _=>rfl,fun h=>absurd rfl h⟩
   | @rc g z k l r=>
    have e:x0=g:=by have :=hnm;simp[Pt.names]at this;exact this.1.symm
    subst e
    refine⟨z,yQ [V.str x0] (V.str z),fun h=>?_,fun h=>?_⟩
    ·subst h;simp[Pt.bnd]
    ·simp[Pt.bnd,Pt.names,Ne.symm h]
  obtain⟨y,hy,hyx,hyn⟩:=hlast
  have hcut:oB ((Pt.names p).map V.str) none (some 1)=([x0]:List Str).map V.str:=by
   rw[hnm]
   match r0,hr0 with
   |[],_=>rfl
   |[y],_=>rfl
  refine⟨_,rfl,b,_,0,.str x0,rfl,rfl,zH.of e2,by rw[hnm];exact qY (j:=0) rfl,_,rfl,1,rfl,b,_,-1,.str y,rfl,rfl,zH.of e2,hy,rfl,_,rfl,ite2 (fun hxy=>?_) (fun hxy=>?_)⟩
  ·have hxy':y=x0:=by have :=of_decide_eq_true hxy;cases this;rfl
   refine⟨_,rfl,_,rfl,b,_,rfl,zH.of e2,fun b2 hb2=>?_⟩
   walk_at "d"
   rw[hcut,<-hyx hxy']
   exact htm _ lk b2 (g12.trans (Grow.put hb2)) ((Grow.put hb2).same _ _ e1') qX
  ·have hxy':y≠x0:=fun z=>hxy (by rw[z];simp)
   rw[<-hyn hxy']at e2
   exact htm H2 lk b g12 e1' e2
end
abbrev sKO:Stmt:=top 77
def pkeys:List Str:=["call","if","and","or","let"]
def owds:List Str:=["head","tail","empty","first","second","not","cons","pair","plus","minus","times","over","rest","less","same"]
theorem qX3:∀x∈owds,wL x pkeys=none/\dG (.str x) [.str "fn",.str "rec"]=false/\dG (.str x) [.str "num",.str "truth",.str "name",.str "nil"]=false:=by decide+kernel
theorem qX4:∀x∈(["num","truth","name","nil"]:List Str),wL x pkeys=none/\dG (.str x) [.str "fn",.str "rec"]=false/\dG (.str x) [.str "num",.str "truth",.str "name",.str "nil"]=true:=by decide+kernel
theorem qX5:∀x∈(["fn","rec"]:List Str),wL x pkeys=none/\dG (.str x) [.str "fn",.str "rec"]=true:=by decide+kernel
theorem zY3{K:Fg}{H:Hp}{p:Pt}{v:V}(h:qW K H p.dt v):∃a xs,v= .ref a/\zO K H a (.str (Pt.wd p)::xs):=by
 by_cases hn:wY p=true
 ·cases p with
  |nam x=>obtain⟨a,u,rfl,ha,_⟩:=kC h;exact⟨a,_,rfl,ha⟩
  |_=>cases hn
 ·obtain⟨a,xs,e,h1,_⟩:=iQ (by simpa using hn) h
  exact⟨a,xs,e,h1⟩
inductive Way:Pt->Prop
 |call {q r}:Way (.two .call q r)
 |iff {p}:IfP p->Way p
 |let_ {x q r}:Way (.let_ x q r)
 |fn {p}:FnP p->Pt.wd p∈(["fn","rec"]:List Str)->Way p
 |val {p}:qJz p->Pt.wd p∈(["num","truth","name","nil"]:List Str)->p.sz=1->Way p
 |oth {p}:Pt.plain p=true->Pt.wd p∈owds->Way p
theorem way(p:Pt):Way p:=by
 cases p with
 |num n=>exact .val (.inl ⟨n,rfl⟩) (by simp[Pt.wd]) rfl
 |tru n=>exact .val (.inr (.inl ⟨n,rfl⟩)) (by simp[Pt.wd]) rfl
 |nam n=>exact .val (.inr (.inr (.inl ⟨n,rfl⟩))) (by simp[Pt.wd]) rfl
 |nil n=>exact .val (.inr (.inr (.inr ⟨n,rfl⟩))) (by simp[Pt.wd]) rfl
 |one u q=>exact .oth rfl (by cases u<;>simp[Pt.wd,U1.str,owds])
 |two u q r=>
  cases u
  case call=>exact .call
  case and=>exact .iff .and
  case or=>exact .iff .or
  all_goals exact .oth rfl (by simp[Pt.wd,U2.str,owds])
 |ite q r t=>exact .iff .ite
 |let_ x q r=>exact .let_
 |fn x k q=>exact .fn .fn (by simp[Pt.wd])
 |rc g x k l q=>exact .fn .rc (by simp[Pt.wd])
theorem uB{p:Pt}(h:Way p)(hz:(match p with | .fn .. =>true| .rc .. =>true| .num _=>true| .tru _=>true| .nam _=>true| .nil _=>true|_=>false)=true)(S:Pt.Sl)(n:Nat)(b:Bool):Pt.told b (Pt.codeOf p S 0 false)=Pt.codeOf p S n b:=by
 cases p<;>first|(cases hz;done)|(cases b<;>rfl)
theorem fT{p:Pt}(h:Pt.plain p=true)(hw:Pt.wd p∈owds)(S:Pt.Sl)(n:Nat)(b:Bool):∃o:AOrd,o.wd=Pt.wd p/\o.args=[]/\Pt.told b (kP S n (Pt.parts p)++[o])=Pt.codeOf p S n b:=by
 cases p with
 |one u q=>refine⟨Pt.u1 u,by cases u<;>rfl,by cases u<;>rfl,?_⟩;simp[kP,Pt.parts,Pt.codeOf]
 |two u q r=>
  cases u
  case call=>exact absurd hw (by simp[Pt.wd,U2.str];decide+kernel)
  case and=>exact absurd hw (by simp[Pt.wd,U2.str];decide+kernel)
  case or=>exact absurd hw (by simp[Pt.wd,U2.str];decide+kernel)
  case cons=>exact⟨Pt.u2 .cons,rfl,rfl,by simp[kP,Pt.parts,Pt.codeOf]⟩
  case pair=>exact⟨Pt.u2 .pair,rfl,rfl,by simp[kP,Pt.parts,Pt.codeOf]⟩
  case plus=>exact⟨Pt.u2 .plus,rfl,rfl,by simp[kP,Pt.parts,Pt.codeOf]⟩
  case minus=>exact⟨Pt.u2 .minus,rfl,rfl,by simp[kP,Pt.parts,Pt.codeOf]⟩
  case times=>exact⟨Pt.u2 .times,rfl,rfl,by simp[kP,Pt.parts,Pt.codeOf]⟩
  case over=>exact⟨Pt.u2 .over,rfl,rfl,by simp[kP,Pt.parts,Pt.codeOf]⟩
  case rest=>exact⟨Pt.u2 .rest,rfl,rfl,by simp[kP,Pt.parts,Pt.codeOf]⟩
  case less=>exact⟨Pt.u2 .less,rfl,rfl,by simp[kP,Pt.parts,Pt.codeOf]⟩
  case same=>exact⟨Pt.u2 .same,rfl,rfl,by simp[kP,Pt.parts,Pt.codeOf]⟩
 |_=>exact absurd hw (by simp[Pt.wd];decide+kernel)
section
variable {P:Program} {w:World} {K:Fg} {mg:Str->Option Value} {base:Heap} {f:Addr} {fd:FuncData}
theorem uV:qO ["part","slots","height","last","word","code"] ps4 (qU iJ):=by walk_at "s"
theorem qX6(F:zZ K "code_of" "code_of" iJ .none f fd):qS P w K mg base (CXE P w) (3*0+4) f fd ps4 (vR K 0):=by
 refine F.ok0 uV (fun vs H Q E h=>?_) (fun cdv A outer s H vs Q E hr h=>?_)
 ·obtain⟨v,sl,h,b,p,S,rfl,_⟩:=h
  rfl
 ·obtain⟨v,sl,h,b,p,S,rfl,_,hd,_⟩:=h
  exact absurd hd (Nat.not_lt_zero _)
theorem qL5{n:Nat}{fC fI fL tb:Addr}(F:zZ K "code_of" "code_of" iJ .none f fd)(mP:mg "PLACED_CODES"=some (.ref tb))(T1:uR K tb (pkeys.zip [.ref fC,.ref fI,.ref fI,.ref fI,.ref fL]))
  (GC:At P w K mg base (3*n+6) fC ps4 (fG K (rP n)))(GI:At P w K mg base (3*n+5) fI ps4 (fG K (qF5 n)))(GL:At P w K mg base (3*n+5) fL ps4 (fG K (qX1 n)))
  (GF:Kn P w K mg base (3*n+5) "function_code" ["part","slots"] (qF7 K n))(GV:Kn P w K mg base 2 "value_code" ["part","slots"] (qX0 K))(GO:Kn P w K mg base (3*n+5) "operands_code" ["part","slots","height"] (rF K n)):qS P w K mg base (CXE P w) (3*(n+1)+4) f fd ps4 (vR K (n+1)):=by
 refine F.ok0 (k:=3*n+6) uV (fun vs H Q E h=>?_) (fun cdv A outer s H vs Q E hr h=>?_)
 ·obtain⟨v,sl,h,b,p,S,rfl,_⟩:=h
  rfl
 ·obtain⟨v,sl,h0,b,p,S,rfl,hp,hd,hz,hs,q⟩:=h
  obtain⟨tl,pls,htl⟩:∃t,PSs (oG (CXE P w) P w K mg base ["part","slots","height","last","word","code"] "code_of" (qU iJ) f cdv A outer s H E).nox ((kL iJ).drop 3) t/\
    ∀(H5:Hp)(c4:Option V)(l:Addr)(ys:List V),Grow H H5->H l=none->H5 l=some (.lst ys)->ys.length+5<=6*p.sz->(∃c,jW K H5 c ys/\Pt.told b c=Pt.codeOf p S h0 b)->
     t {nx:=fun _ H'=>Q .non H',rt:=Q} [some v,some (.ref sl),some (.int h0),some (.bl b),c4,some (.ref l)] H5:=by
   refine⟨_,qK (qM (kF (jE (pv 3)) (zX kG (pv 5) (jX (qQ (zF (qQ qC qJ)) qJ))) (pv 5))),?_⟩
   walk_at "e"
   intro H5 c4 l ys g5 nl e5 hl ⟨c,hc,ec⟩
   refine⟨_,rfl,b,rfl,?_⟩
   cases b with
   |false=>exact jO ⟨_,rfl,q l ys H5 g5 nl e5 (by rw[<-ec];exact hc)⟩
   |true=>
    refine jN ⟨_,rfl,(by show 1<=sizeLine;decide),fun t ht=>?_⟩
    have g6:Grow H5 (upd H5 t (.tup [.str "tell"])):=Grow.put ht
    have e5:=g6.same _ _ e5
    have et:(upd H5 t (.tup [.str "tell"])) t=some (.tup [.str "tell"]):=qX
    generalize upd H5 t (.tup [.str "tell"])=H6 at g6 e5 et⊢
    refine⟨(by show 1<=sizeLine;decide),fun l6 hl6=>?_⟩
    have g7:Grow H6 (upd H6 l6 (.lst [.ref t])):=Grow.put hl6
    have e5:=g7.same _ _ e5
    have e6:(upd H6 l6 (.lst [.ref t])) l6=some (.lst [.ref t]):=qX
    generalize upd H6 l6 (.lst [.ref t])=H7 at g7 e5 e6⊢
    have g57:=(g5.trans g6).trans g7
    refine⟨l,l6,_,_,rfl,rfl,e5,e6,by rw[sizeLine_eq];simp;omega,fun l7 hl7=>?_⟩
    refine q l7 _ _ (g57.trans (Grow.put hl7)) (g57.none _ hl7) qX ?_
    rw[<-ec]
    exact jW.app (hc.mono ((g6.trans g7).trans (Grow.put hl7)).same) (jW.one (o:=.tell) (vs:=[]) (zO.of ((g7.trans (Grow.put hl7)).same _ _ et)) qT)
  refine⟨_,qZ (qB (i:=4) uV.nd rfl (Or.inl rfl) (qL qP (pv 0) qV (fun _ _=>rfl)))
   (qZ (zC (qE oF (pv 4) (zR (v:=.ref tb) (by rfl) mP rfl) rfl) (qK (qM (vF (CX:=CXE P w) (qL uZ (zR (v:=.ref tb) (by rfl) mP rfl) (pv 4) (fun _ _=>rfl)) (qQ (pv 0) (qQ (pv 1) (qQ (pv 2) (qQ (pv 3) qJ))))))) zQ)
   (qZ (zC (qE wQ (pv 4) (zF (qQ qC (qQ qC qJ))) rfl) (qK (qB (i:=5) uV.nd rfl (Or.inl rfl) (zY GF (hr.mono (by omega)) (qQ (pv 0) (qQ (pv 1) qJ)))))
    (qK (zC (qE wQ (pv 4) (zF (qQ qC (qQ qC (qQ qC (qQ qC qJ))))) rfl)
     (qK (qB (i:=5) uV.nd rfl (Or.inl rfl) (zY GV (hr.mono (by omega)) (qQ (pv 0) (qQ (pv 1) qJ)))))
     (qK (qB (i:=5) uV.nd rfl (Or.inl rfl) (zX kG (zY GO (hr.mono (by omega)) (qQ (pv 0) (qQ (pv 1) (qQ (pv 2) qJ)))) (jX (qQ (zF (qQ (pv 4) qJ)) qJ))))))))
   pls)),?_⟩
  walk_at "e"
  obtain⟨a,ws,rfl,ha⟩:=zY3 hp
  refine⟨_,rfl,a,_,_,.str (Pt.wd p),rfl,rfl,ha,qY (j:=0) rfl,?_⟩
  walk_at "d"
  refine⟨_,rfl,_,_,_,rfl,rfl,T1,_,rfl,?_⟩
  cases way p with
  | @call p1 p2=>
   obtain⟨fdg,y3,y4,y5⟩:=GC
   rw[show Pt.wd (.two .call p1 p2)=("call":Str)from rfl,jS (i:=0) (by decide+kernel) (by show 0<5;decide)]
   refine jN ⟨_,rfl,_,_,_,_,rfl,rfl,T1,qG (i:=0) (by decide+kernel) rfl,fC,fdg,_,_,[],[],E0,_,rfl,y3,hr,y4,y5,.nil,zS,_,rfl,_,rfl,_,rfl,_,rfl,?_⟩
   exact⟨_,sl,h0,b,_,S,rfl,hp,⟨hd,_,_,rfl⟩,hz,hs,q⟩
  |iff hi=>
   obtain⟨fdg,y3,y4,y5⟩:=GI
   have hn:0<n:=by
    have hd':p.deep<n+1:=hd
    have :0<p.deep:=by cases hi<;>simp only[Pt.deep]<;>omega
    omega
   obtain⟨i,h1,h2⟩:∃i:Nat,wL (Pt.wd p) pkeys=some i/\([.ref fC,.ref fI,.ref fI,.ref fI,.ref fL]:List V)[i]? =some (.ref fI):=by
    cases hi with
    |ite=>exact⟨1,by rw[Pt.wd];decide+kernel,rfl⟩
    |and=>exact⟨2,by rw[Pt.wd];decide+kernel,rfl⟩
    |or=>exact⟨3,by rw[Pt.wd];decide+kernel,rfl⟩
   rw[jS (i:=i) h1 (List.getElem?_eq_some_iff.mp h2).1]
   refine jN ⟨_,rfl,_,_,_,_,rfl,rfl,T1,qG h1 h2,fI,fdg,_,_,[],[],E0,_,rfl,y3,hr.mono (by omega),y4,y5,.nil,zS,_,rfl,_,rfl,_,rfl,_,rfl,?_⟩
   exact⟨_,sl,h0,b,_,S,rfl,hp,⟨hd,hn,hi⟩,hz,hs,q⟩
  | @let_ x p1 p2=>
   obtain⟨fdg,y3,y4,y5⟩:=GL
   rw[show Pt.wd (.let_ x p1 p2)=("let":Str)from rfl,jS (i:=4) (by decide+kernel) (by show 4<5;decide)]
   refine jN ⟨_,rfl,_,_,_,_,rfl,rfl,T1,qG (i:=4) (by decide+kernel) rfl,fL,fdg,_,_,[],[],E0,_,rfl,y3,hr.mono (by omega),y4,y5,.nil,zS,_,rfl,_,rfl,_,rfl,_,rfl,?_⟩
   exact⟨_,sl,h0,b,_,S,rfl,hp,⟨hd,_,_,_,rfl⟩,hz,hs,q⟩
  |fn hf hw=>
   obtain⟨w1,w2⟩:=qX5 _ hw
   rw[uX w1]
   refine jO ⟨_,rfl,(by show 2<=sizeLine;decide),fun c1 hc1=>?_⟩
   have g1:Grow H (upd H c1 (.tup [.str "fn",.str "rec"])):=Grow.put hc1
   refine⟨c1,_,rfl,.inr (zO.of qX),rfl,rfl,_,rfl,?_⟩
   rw[if_neg (c:=false=true) (by decide),w2]
   generalize upd H c1 (.tup [.str "fn",.str "rec"])=H1 at g1⊢
   refine jN ⟨_,rfl,_,rfl,_,sl,p,S,rfl,hp.mono g1.same,hd,hf,hz,hs.mono g1,fun l ys H2 g2 n2 e2 hl2 hc2=>?_⟩
   exact htl H2 _ l ys (g1.trans g2) (g1.none _ n2) e2 hl2 ⟨_,hc2,uB (.fn hf hw) (by cases hf<;>rfl) S h0 b⟩
  |val hv hw hsz=>
   obtain⟨w1,w2,w3⟩:=qX4 _ hw
   rw[uX w1]
   refine jO ⟨_,rfl,(by show 2<=sizeLine;decide),fun c1 hc1=>?_⟩
   have g1:Grow H (upd H c1 (.tup [.str "fn",.str "rec"])):=Grow.put hc1
   refine⟨c1,_,rfl,.inr (zO.of qX),rfl,rfl,_,rfl,?_⟩
   rw[if_neg (c:=false=true) (by decide),w2]
   generalize upd H c1 (.tup [.str "fn",.str "rec"])=H1 at g1⊢
   refine jO ⟨_,rfl,(by show 4<=sizeLine;decide),fun c2 hc2=>?_⟩
   have g2:Grow H1 (upd H1 c2 (.tup [.str "num",.str "truth",.str "name",.str "nil"])):=Grow.put hc2
   refine⟨c2,_,rfl,.inr (zO.of qX),rfl,rfl,_,rfl,?_⟩
   rw[if_neg (c:=false=true) (by decide),w3]
   generalize upd H1 c2 (.tup [.str "num",.str "truth",.str "name",.str "nil"])=H2 at g2⊢
   have g12:=g1.trans g2
   refine jN ⟨_,rfl,_,rfl,_,sl,p,S,rfl,hp.mono g12.same,hv,hs.mono g12,fun l ys H3 g3 n3 e3 hc3=>?_⟩
   have hy1:ys.length=1:=by rw[hc3.len];rcases hv with⟨_,rfl⟩|⟨_,rfl⟩|⟨_,rfl⟩|⟨_,rfl⟩<;>rfl
   exact htl H3 _ l ys (g12.trans g3) (g12.none _ n3) e3 (by omega) ⟨_,hc3,uB (.val hv hw hsz) (by rcases hv with⟨_,rfl⟩|⟨_,rfl⟩|⟨_,rfl⟩|⟨_,rfl⟩<;>rfl) S h0 b⟩
  |oth hpl hw=>
   obtain⟨w1,w2,w3⟩:=qX3 _ hw
   rw[uX w1]
   refine jO ⟨_,rfl,(by show 2<=sizeLine;decide),fun c1 hc1=>?_⟩
   have g1:Grow H (upd H c1 (.tup [.str "fn",.str "rec"])):=Grow.put hc1
   refine⟨c1,_,rfl,.inr (zO.of qX),rfl,rfl,_,rfl,?_⟩
   rw[if_neg (c:=false=true) (by decide),w2]
   generalize upd H c1 (.tup [.str "fn",.str "rec"])=H1 at g1⊢
   refine jO ⟨_,rfl,(by show 4<=sizeLine;decide),fun c2 hc2=>?_⟩
   have g2:Grow H1 (upd H1 c2 (.tup [.str "num",.str "truth",.str "name",.str "nil"])):=Grow.put hc2
   refine⟨c2,_,rfl,.inr (zO.of qX),rfl,rfl,_,rfl,?_⟩
   rw[if_neg (c:=false=true) (by decide),w3]
   generalize upd H1 c2 (.tup [.str "num",.str "truth",.str "name",.str "nil"])=H2 at g2⊢
   have g12:=g1.trans g2
   have hsz:=(wZ hpl).1
   refine jO ⟨_,rfl,_,rfl,_,rfl,_,sl,h0,p,S,rfl,hp.mono g12.same,hpl,hd,hz,hs.mono g12,fun l ys H3 g3 n3 e3 hl3 hc3=>?_⟩
   refine⟨_,rfl,(by show 1<=sizeLine;decide),fun t ht=>?_⟩
   have g4:Grow H3 (upd H3 t (.tup [.str (Pt.wd p)])):=Grow.put ht
   have e3:=g4.same _ _ e3
   have et:(upd H3 t (.tup [.str (Pt.wd p)])) t=some (.tup [.str (Pt.wd p)]):=qX
   generalize upd H3 t (.tup [.str (Pt.wd p)])=H4 at g4 e3 et⊢
   refine⟨(by show 1<=sizeLine;decide),fun l6 hl6=>?_⟩
   have g5:Grow H4 (upd H4 l6 (.lst [.ref t])):=Grow.put hl6
   have e3:=g5.same _ _ e3
   have e6:(upd H4 l6 (.lst [.ref t])) l6=some (.lst [.ref t]):=qX
   generalize upd H4 l6 (.lst [.ref t])=H5 at g5 e3 e6⊢
   have g05:=((g12.trans g3).trans g4).trans g5
   refine⟨l,l6,_,_,rfl,rfl,e3,e6,by rw[sizeLine_eq];simp;omega,fun l7 hl7=>?_⟩
   obtain⟨o,ho1,ho2,ho3⟩:=fT hpl hw S h0 b
   refine htl _ _ l7 _ (g05.trans (Grow.put hl7)) (g05.none _ hl7) qX (by simp;omega) ⟨_,jW.app (hc3.mono ((g4.trans g5).trans (Grow.put hl7)).same) (jW.one (o:=o) (vs:=[]) (zO.of ?_) (by rw[ho2];exact qT)),ho3⟩
   rw[(g5.trans (Grow.put hl7)).same _ _ et,ho1]
end
end K19
namespace L2
open PySem PySem.Spec PyProof.Rows PyProof
theorem qX7{n k:Nat}(h:n<2^k)(hk:0<k):n.log2<k:=by
 by_cases z:n=0
 ·subst z;simpa using hk
 ·exact(Nat.log2_lt z).mpr h
theorem qX8{X:Cx}:uO X (binaryOp .FloorDiv) (rI (fun _ j=>j≠0/\j.natAbs<2^64) fun i j=>.int (i.fdiv j)):=opI fun _ _ _ _ _ _ _ hc q=>floordiv_int hc.1 q (.inl (PyProof.noPylong_of_log2 (Nat.lt_trans (qX7 hc.2 (by decide)) (by decide))))
end L2
namespace K19
open PySem L2 PyProof
abbrev sBr:Stmt:=top 27
abbrev qX9:Stmt:=top 28
abbrev fA:Stmt:=top 29
abbrev fE:Stmt:=top 30
abbrev qXq:Stmt:=top 31
abbrev qXz:Stmt:=top 32
abbrev qXj:Stmt:=top 33
abbrev qK0:Stmt:=top 34
abbrev lS:Stmt:=top 36
abbrev hZ:Stmt:=top 37
abbrev least:Int:= -9223372036854775808
abbrev round:Int:=18446744073709551616
def nL(n:Int):Int:=(n-least)%round+least
def aI(i:Int):Int:=if i<0 then -i else i
theorem uW(i:Int):aI i=(i.natAbs:Int):=by unfold aI;split<;>omega
inductive W7|plus|minus|times|over|rest|less|same
def W7.str:W7->Str
 | .plus=>"plus"| .minus=>"minus"| .times=>"times"| .over=>"over"| .rest=>"rest"| .less=>"less"| .same=>"same"
def aV(a b:Int):Int:=(aI a).fdiv (aI b)
def sumV:W7->Int->Int->V
 | .plus,a,b=>.int (nL (a+b))
 | .minus,a,b=>.int (nL (a-b))
 | .times,a,b=>.int (nL (a*b))
 | .over,a,b=>.int (nL (if decide (V.bl (decide (a<0))=V.bl (decide (b<0)))=true then aV a b else -aV a b))
 | .rest,a,b=>.int (if decide (a<0)=true then -(aI a%aI b)else aI a%aI b)
 | .less,a,b=>.bl (decide (a<b))
 | .same,a,b=>.bl (decide (V.int a=V.int b))
def divs:W7->Bool
 | .over=>true| .rest=>true|_=>false
structure qL6(mg:Str->Option Value):Prop where
 abs:mg "abs"=none
 least:∃t,mg "LEAST_NUMBER"=some (.int least t)
 round:∃t,mg "ROUND"=some (.int round t)
section
variable {P:Program} {w:World} {K:Fg} {mg:Str->Option Value} {base:Heap} {fB:Addr} {fdB:FuncData}
inductive qF8(vs:List V)(H:Hp)(Q:VK):Prop
 |mk (n:Int) (a_0:vs=[.int n]) (a_1:Q (.int (nL n)) H):qF8 vs H Q
def qK1:Sp:=fun vs H Q x_0=>qF8 vs H Q
theorem zG6:qO ["number"] ["number"] (qU sBr):=by walk_at "s"
theorem zY4{f:Addr}{fd:FuncData}(F:zZ K "brought_in" "brought_in" sBr .none f fd)(G:qL6 mg):qS P w K mg base (CXE P w) 1 f fd ["number"] qK1:=by
 refine F.ok0 zG6 (fun vs H Q E h=>?_) (fun cdv A outer s H vs Q E hr h=>?_)
 ·obtain⟨n,rfl,_⟩:=h
  rfl
 ·obtain⟨n,rfl,q⟩:=h
  obtain⟨t1,m1⟩:=G.least
  obtain⟨t2,m2⟩:=G.round
  refine⟨_,qK (qM (zX xF (zX xY (zX cA (pv 0) (zR (v:=.int least) (by rfl) m1 ⟨t1,rfl⟩)) (zR (v:=.int round) (by rfl) m2 ⟨t2,rfl⟩)) (zR (v:=.int least) (by rfl) m1 ⟨t1,rfl⟩))),?_⟩
  walk_at "e"
  exact⟨_,rfl,_,_,rfl,rfl,_,_,rfl,rfl,(by show(0:Int)<18446744073709551616;decide),_,_,rfl,rfl,q⟩
inductive qK2(x:W7)(vs:List V)(H:Hp)(Q:VK):Prop
 |mk (a:Int) (b:Int) (a_0:vs=[.int a,.int b]) (a_1:In64 a) (a_2:In64 b) (a_3:(divs x=true->b≠0)) (a_4:Q (sumV x a b) H):qK2 x vs H Q
def uD(x:W7):Sp:=fun vs H Q x_0=>qK2 x vs H Q
theorem zG7:qO ["one","other"] ["one","other"] (qU qX9):=by walk_at "s"
theorem zG8:qO ["one","other"] ["one","other"] (qU fA):=by walk_at "s"
theorem zG9:qO ["one","other"] ["one","other"] (qU fE):=by walk_at "s"
theorem zY5:qO ["one","other","cut"] ["one","other"] (qU qXq):=by walk_at "s"
theorem zY6:qO ["one","other","left"] ["one","other"] (qU qXz):=by walk_at "s"
theorem zGq:qO ["one","other"] ["one","other"] (qU qXj):=by walk_at "s"
theorem zGz:qO ["one","other"] ["one","other"] (qU qK0):=by walk_at "s"
theorem qL7{f:Addr}{fd:FuncData}(F:zZ K "plus" "plus" qX9 .none f fd)(GB:qS P w K mg base (CXE P w) 1 fB fdB ["number"] qK1)(mB:mg "brought_in"=some (.ref fB))(kB:PySem.W.keepIn K (.ref fB)=true)(bB:Binds K fdB ["number"] []):
  qS P w K mg base (CXE P w) 2 f fd ["one","other"] (uD .plus):=by
 refine F.ok0 zG7 (fun vs H Q E h=>?_) (fun cdv A outer s H vs Q E hr h=>?_)
 ·obtain⟨a,b,rfl,_⟩:=h
  rfl
 ·obtain⟨a,b,rfl,ha,hb,_,q⟩:=h
  refine⟨_,qK (qM (vK GB hr (by rfl) mB kB bB .nil zS (qQ (zX xF (pv 0) (pv 1)) qJ))),?_⟩
  walk_at "e"
  exact⟨_,rfl,_,rfl,_,_,rfl,rfl,_,rfl,q⟩
theorem qK3{f:Addr}{fd:FuncData}(F:zZ K "minus" "minus" fA .none f fd)(GB:qS P w K mg base (CXE P w) 1 fB fdB ["number"] qK1)(mB:mg "brought_in"=some (.ref fB))(kB:PySem.W.keepIn K (.ref fB)=true)(bB:Binds K fdB ["number"] []):
  qS P w K mg base (CXE P w) 2 f fd ["one","other"] (uD .minus):=by
 refine F.ok0 zG8 (fun vs H Q E h=>?_) (fun cdv A outer s H vs Q E hr h=>?_)
 ·obtain⟨a,b,rfl,_⟩:=h
  rfl
 ·obtain⟨a,b,rfl,ha,hb,_,q⟩:=h
  refine⟨_,qK (qM (vK GB hr (by rfl) mB kB bB .nil zS (qQ (zX cA (pv 0) (pv 1)) qJ))),?_⟩
  walk_at "e"
  exact⟨_,rfl,_,rfl,_,_,rfl,rfl,_,rfl,q⟩
theorem qK4{f:Addr}{fd:FuncData}(F:zZ K "times" "times" fE .none f fd)(GB:qS P w K mg base (CXE P w) 1 fB fdB ["number"] qK1)(mB:mg "brought_in"=some (.ref fB))(kB:PySem.W.keepIn K (.ref fB)=true)(bB:Binds K fdB ["number"] []):
  qS P w K mg base (CXE P w) 2 f fd ["one","other"] (uD .times):=by
 refine F.ok0 zG9 (fun vs H Q E h=>?_) (fun cdv A outer s H vs Q E hr h=>?_)
 ·obtain⟨a,b,rfl,_⟩:=h
  rfl
 ·obtain⟨a,b,rfl,ha,hb,_,q⟩:=h
  refine⟨_,qK (qM (vK GB hr (by rfl) mB kB bB .nil zS (qQ (zX yT (pv 0) (pv 1)) qJ))),?_⟩
  walk_at "e"
  have h1: -(2^64)<a/\a<2^64:=by unfold In64 at ha;omega
  exact⟨_,rfl,_,rfl,_,_,rfl,rfl,.inl h1,_,rfl,q⟩
theorem qL8{f:Addr}{fd:FuncData}(F:zZ K "over" "over" qXq .none f fd)(G:qL6 mg)(GB:qS P w K mg base (CXE P w) 1 fB fdB ["number"] qK1)(mB:mg "brought_in"=some (.ref fB))(kB:PySem.W.keepIn K (.ref fB)=true)(bB:Binds K fdB ["number"] []):
  qS P w K mg base (CXE P w) 2 f fd ["one","other"] (uD .over):=by
 refine F.ok0 zY5 (fun vs H Q E h=>?_) (fun cdv A outer s H vs Q E hr h=>?_)
 ·obtain⟨a,b,rfl,_⟩:=h
  rfl
 ·obtain⟨a,b,rfl,ha,hb,h0,q⟩:=h
  have hb0:b≠0:=h0 rfl
  refine⟨_,qZ (qB (i:=2) zY5.nd rfl (Or.inl rfl) (zX qX8 (zI wT (by rfl) G.abs PyProof.Rows.boot_abs (qQ (pv 0) qJ)) (zI wT (by rfl) G.abs PyProof.Rows.boot_abs (qQ (pv 1) qJ))))
   (qK (qM (vK GB hr (by rfl) mB kB bB .nil zS (qQ (kF (qE jB (jZ oK (pv 0) qV (nomark _)) (jZ oK (pv 1) qV (nomark _)) (nomark _)) (pv 2) (iH yA (pv 2))) qJ)))),?_⟩
  walk_at "e"
  have hbb:aI b≠0/\(aI b).natAbs<2^64:=by rw[uW];unfold In64 at hb;omega
  refine⟨_,rfl,_,rfl,_,rfl,_,rfl,_,_,rfl,rfl,hbb,?_⟩
  refine⟨_,rfl,_,_,rfl,rfl,_,rfl,_,_,rfl,rfl,rfl,_,rfl,?_⟩
  have q':Q (.int (nL (if decide (V.bl (decide (a<0))=V.bl (decide (b<0)))=true then aV a b else -aV a b))) H:=q
  refine ite2 (fun h=>?_) (fun h=>?_)
  ·rw[if_pos h]at q'
   exact⟨_,rfl,_,rfl,q'⟩
  ·rw[if_neg h]at q'
   exact⟨_,rfl,_,rfl,_,rfl,q'⟩
theorem qL9{f:Addr}{fd:FuncData}(F:zZ K "rest" "rest" qXz .none f fd)(G:qL6 mg):qS P w K mg base (CXE P w) 2 f fd ["one","other"] (uD .rest):=by
 refine F.ok0 zY6 (fun vs H Q E h=>?_) (fun cdv A outer s H vs Q E hr h=>?_)
 ·obtain⟨a,b,rfl,_⟩:=h
  rfl
 ·obtain⟨a,b,rfl,ha,hb,h0,q⟩:=h
  have hb0:b≠0:=h0 rfl
  refine⟨_,qZ (qB (i:=2) zY6.nd rfl (Or.inl rfl) (zX xY (zI wT (by rfl) G.abs PyProof.Rows.boot_abs (qQ (pv 0) qJ)) (zI wT (by rfl) G.abs PyProof.Rows.boot_abs (qQ (pv 1) qJ))))
   (qK (qM (kF (qE oK (pv 0) qV (nomark _)) (iH yA (pv 2)) (pv 2)))),?_⟩
  walk_at "e"
  have hbb:0<aI b:=by rw[uW];omega
  refine⟨_,rfl,_,rfl,_,rfl,_,rfl,_,_,rfl,rfl,hbb,?_⟩
  have q':Q (.int (if decide (a<0)=true then -(aI a%aI b)else aI a%aI b)) H:=q
  refine⟨_,rfl,_,_,rfl,rfl,_,rfl,?_⟩
  refine ite2 (fun h=>?_) (fun h=>?_)
  ·rw[if_pos h]at q'
   exact⟨_,rfl,_,rfl,q'⟩
  ·rw[if_neg h]at q'
   exact⟨_,rfl,q'⟩
theorem qLq{f:Addr}{fd:FuncData}(F:zZ K "less" "less" qXj .none f fd):qS P w K mg base (CXE P w) 2 f fd ["one","other"] (uD .less):=by
 refine F.ok0 zGq (fun vs H Q E h=>?_) (fun cdv A outer s H vs Q E hr h=>?_)
 ·obtain⟨a,b,rfl,_⟩:=h
  rfl
 ·obtain⟨a,b,rfl,ha,hb,_,q⟩:=h
  refine⟨_,qK (qM (jZ oK (pv 0) (pv 1) (nomark _))),?_⟩
  walk_at "e"
  exact⟨_,rfl,_,rfl,_,_,rfl,rfl,q⟩
theorem qLz{f:Addr}{fd:FuncData}(F:zZ K "same" "same" qK0 .none f fd):qS P w K mg base (CXE P w) 2 f fd ["one","other"] (uD .same):=by
 refine F.ok0 zGz (fun vs H Q E h=>?_) (fun cdv A outer s H vs Q E hr h=>?_)
 ·obtain⟨a,b,rfl,_⟩:=h
  rfl
 ·obtain⟨a,b,rfl,ha,hb,_,q⟩:=h
  refine⟨_,qK (qM (jZ jB (pv 0) (pv 1) (nomark _))),?_⟩
  walk_at "e"
  exact⟨_,rfl,_,rfl,rfl,q⟩
def nought(x:W7)(b:Int):Bool:=divs x&&decide (b=0)
inductive qK5(vs:List V)(H:Hp)(Q:VK):Prop
 |mk (x:W7) (b:Int) (a_0:vs=[.str x.str,.int b]) (a_1:∀H',Grow H H'->Q (.bl (nought x b)) H'):qK5 vs H Q
def qF9:Sp:=fun vs H Q x_0=>qK5 vs H Q
theorem zY7:qO ["word","other"] ["word","other"] (qU lS):=by walk_at "s"
theorem qLj(x:W7):dG (.str x.str) [.str "over",.str "rest"]=divs x:=by cases x<;>decide+kernel
theorem aW{f:Addr}{fd:FuncData}(F:zZ K "is_by_nought" "is_by_nought" lS .none f fd):qS P w K mg base (CXE P w) 1 f fd ["word","other"] qF9:=by
 refine F.ok0 zY7 (fun vs H Q E h=>?_) (fun cdv A outer s H vs Q E hr h=>?_)
 ·obtain⟨x,b,rfl,_⟩:=h
  rfl
 ·obtain⟨x,b,rfl,q⟩:=h
  refine⟨_,qK (qM (bN (jZ wQ (pv 0) (zF (qQ qC (qQ qC qJ))) rfl) (bG (jZ jB (pv 1) qV (nomark _))))),?_⟩
  walk_at "e"
  refine⟨_,rfl,(by show 2<=sizeLine;decide),fun t ht=>?_⟩
  have g:=Grow.put (o:=.tup [.str "over",.str "rest"]) ht
  refine⟨t,_,rfl,.inr (zO.of qX),rfl,rfl,_,rfl,?_⟩
  have e:(if false=true then !dG (.str x.str) [.str "over",.str "rest"]else dG (.str x.str) [.str "over",.str "rest"])=divs x:=qLj x
  rw[e]
  have q':=q _ g
  unfold nought at q'
  refine ite2 (fun h=>?_) (fun h=>?_)
  ·refine⟨_,rfl,rfl,?_⟩
   rw[h,Bool.true_and]at q'
   have e2:decide (V.int b=V.int 0)=decide (b=0):=by rw[Bool.eq_iff_iff];simp
   rw[e2]
   exact q'
  ·rw[Bool.eq_false_iff.mpr h,Bool.false_and]at q'
   exact q'
structure Sums(P:Program)(w:World)(K:Fg)(mg:Str->Option Value)(base:Heap):Prop where
 tab:∃a D,mg "SUMS"=some (.ref a)/\uR K a D/\∀x:W7,∃f fd,aq17 x.str D=some (.ref f)/\qS P w K mg base (CXE P w) 2 f fd ["one","other"] (uD x)/\PySem.W.keepIn K (.ref f)=true/\Binds K fd ["one","other"] []
inductive nG(vs:List V)(H:Hp)(Q:VK):Prop
 |mk (x:W7) (a:Int) (b:Int) (a_0:vs=[.str x.str,.int a,.int b]) (a_1:In64 a) (a_2:In64 b) (a_3:(divs x=true->b≠0)) (a_4:Q (sumV x a b) H):nG vs H Q
def rA:Sp:=fun vs H Q x_0=>nG vs H Q
theorem zGj:qO ["word","one","other"] ["word","one","other"] (qU hZ):=by walk_at "s"
theorem qK6{f:Addr}{fd:FuncData}(F:zZ K "sum_of" "sum_of" hZ .none f fd)(S:Sums P w K mg base):qS P w K mg base (CXE P w) 3 f fd ["word","one","other"] rA:=by
 refine F.ok0 zGj (fun vs H Q E h=>?_) (fun cdv A outer s H vs Q E hr h=>?_)
 ·obtain⟨x,a,b,rfl,_⟩:=h
  rfl
 ·obtain⟨x,a,b,rfl,ha,hb,h0,q⟩:=h
  obtain⟨t,D,mS,T,hD⟩:=S.tab
  obtain⟨g,fd',e1,G,kp,bd⟩:=hD x
  refine⟨_,qK (qM (vF (CX:=CXE P w) (qL uZ (zR (v:=.ref t) (by rfl) mS rfl) (pv 0) (fun _ _=>rfl)) (qQ (pv 1) (qQ (pv 2) qJ)))),?_⟩
  walk_at "e"
  refine⟨_,rfl,_,t,D,_,rfl,rfl,T,e1,?_⟩
  refine⟨g,fd',_,_,[],[],E0,2,rfl,G,hr,kp,bd,.nil,zS,?_⟩
  exact⟨_,rfl,_,rfl,a,b,rfl,ha,hb,h0,q⟩
end
end K19
namespace L2
open PySem PySem.Spec PyProof.Rows PyProof Dt
theorem iB(l:Addr)(items:Array Value)(n:Nat)(b:Addr)(items2:Array Value)(n2:Nat)(dct:Option Addr)(sl:Array (Option Value))(hs0:¬(!items.isEmpty&&Builtin.List.listTooLong (items.size+items2.size))=true)(hs1:items.size<=sizeLine)(hs2:items.size+items2.size<=sizeLine+1):
  Meets (Builtin.«list.extend» ⟨[.ref l,.ref b],[]⟩) (fun _ R s=>s.heap.get? l=some {cls:=.type "list",dict:=none,data:=.seq items n,slots:= #[]}/\s.heap.get? b=some {cls:=.type "tuple",dict:=dct,data:=.seq items2 n2,slots:=sl}/\R (.ok (.ret Value.none)) {s with heap:=s.heap.update l (Obj.mapSeq fun x=>x++items2),toks:=s.toks}):=
 .of_wp fun prog w A R s h=>by
  obtain⟨hp,g,d,tk,os⟩:=s;obtain⟨hl,hb,h⟩:=h;have f2:=AutoSeq1.sub_tuple_tuple;have f3:=AutoSeq1.sub_list_list;have f4:=AutoSeq1.sub_tuple_list;have f5:=AutoSeq1.sub_list_tuple
  have hz':(items++items2).size<=sizeLine+1:=by rw[Array.size_append];exact hs2
  wp_walk using(PySem.wpAny_updateSeq hl rfl (hz:=hs1) (_hz':=hz')),AutoSeq1.wpAny_loadPart' hl,AutoSeq1.wpAny_loadPart' hb;exact⟨_,rfl,h⟩
inductive cU(K:Fg)(x:V)(vs:List V)(H:Hp)(Q:VK):Prop
 |mk (l:_) (b:_) (xs:_) (zs:_) (a_0:x= .ref l) (a_1:vs=[.ref b]) (a_2:H l=some (.lst xs)) (a_3:zO K H b zs) (a_4:xs.length+zs.length<=sizeLine) (a_5:Q .non (upd H l (.lst (xs++zs)))):cU K x vs H Q
def qK7(K:Fg):V->List V->Hp->VK->Prop:=fun x vs H Q=>cU K x vs H Q
theorem hX{X:Cx}:MtM X "list.extend" (qK7 X.K):=by
 intro pins s σ H x vs v us Q I rx rv h
 obtain⟨l,b,xs,zs,rfl,rfl,hH,hB,hz,q⟩:=h
 cases rx
 obtain⟨u,rfl,ru⟩:=rv.one
 cases ru
 obtain⟨z,its,n,r,hl,e⟩:=I.lstM hH
 obtain⟨its2,r2,⟨⟨cls,dct,data,sl⟩,e2,hc2,n2,hd2⟩,z2⟩:=I.tuple hB
 simp only at hc2 hd2
 subst hc2 hd2
 have hl2:=r2.length
 have hsz:its.toArray.size+its2.toArray.size<=sizeLine:=by rw[List.size_toArray,List.size_toArray];omega
 have hlong:¬(!its.toArray.isEmpty&&Builtin.List.listTooLong (its.toArray.size+its2.toArray.size))=true:=by
  rw[mQ hsz,Bool.and_false]
  exact Bool.false_ne_true
 refine call_meets F.slot_list_extend ⟨_,e,rfl⟩ F.entry_list_extend (F.args_list_extend_2 _ _)
  (iB l its.toArray n b its2.toArray n2 dct sl hlong (by rw[List.size_toArray];omega) (by omega)) ⟨e,e2,?_⟩
 refine⟨.non,_,I.lset (its':=its++its2) hH e (by simp) (r.append r2) ?_,rfl,q⟩
 rw[List.length_append]
 omega
theorem qG0{K:Fg}{a:Addr}{xs:List V}{te:TE}{ix:List Nat}{σ:St}{H:Hp}{D:Addr}{R:Hp->Prop}(Pv:Nat->List V->Hp->Prop)(h0:Pv 0 [] (upd H D (.lst [])))(hx:∀i ys H',i<=xs.length->Pv i ys H'->zO K H' a xs)
  (he:∀i x ys H',xs[i]? =some x->Pv i ys H'->∀Q':VK,(∀y H6,H6 D=some (.lst ys)->ys.length<sizeLine->Pv (i+1) (ys++[y]) (upd H6 D (.lst (ys++[y])))->Q' y H6)->te (xE ix [some x] σ) H' Q')(q:∀ys H',Pv xs.length ys H'->R H'):
  ∃W:Nat->Nat->List V->Hp->Prop,(∃m,W 0 m [] (upd H D (.lst [])))/\∀i m ys H2,W i m ys H2->
   ((Itt K a).stop i H2/\R H2)\/((Itt K a).go i H2/\∀(o:List (Option V))v H3,o.length=1->(Itt K a).yld i H2 v H3->xD 0 v (xE ix o σ) H3 fun σ2 H4=>(∃o':List (Option V),σ2=xE ix o' σ/\o'.length=1)/\
    ifT none σ2 H4 fun b H5=>if b=true then te σ2 H5 fun y H6=>H6 D=some (.lst ys)/\ys.length<sizeLine/\∃m',m'<m/\W (i+1) m' (ys++[y]) (upd H6 D (.lst (ys++[y])))else∃m',m'<m/\W (i+1) m' ys H5):=by
 refine⟨fun i m ys H2=>i<=xs.length/\m=xs.length-i/\Pv i ys H2,⟨_,Nat.zero_le _,rfl,h0⟩,?_⟩
 rintro i m ys H2 ⟨hi,rfl,p⟩
 have hx2:=hx i ys H2 hi p
 by_cases hl:i<xs.length
 ·refine .inr ⟨⟨xs,xs[i],hx2,List.getElem?_eq_getElem hl⟩,fun o v H3 ho hy=>?_⟩
  obtain⟨rfl,hv⟩:=hy
  have hv':=hv xs hx2
  match o,ho with
  |[_],_=>
   refine⟨⟨[some v],rfl,rfl⟩,?_⟩
   dsimp only[ifT]
   exact jN (he i v ys _ hv' p _ fun y H6 e1 e2 p'=>⟨e1,e2,xs.length-(i+1),by omega,hl,rfl,p'⟩)
 ·have e:i=xs.length:=by omega
  subst e
  exact .inl ⟨⟨xs,hx2,aq7 _⟩,q _ _ p⟩
end L2
namespace L2
open PySem
theorem qFq{c:Bool}{A B:Prop}(e:c=false)(h:B):if c=true then A else B:=by rw[e];exact jO h
theorem xS{f:Str}{v:V}:∀{fs:List (Str×V)}{ks:List Str},f∉ks->fs.map (·.1)=ks->xM f v fs=fs++[(f,v)]
 |[],_,_,_=>rfl
 |(g,x)::r,_,h,rfl=>by
  have hg:¬g=f:=fun z=>h (by simp[z])
  rw[jM hg,xS (fs:=r) (ks:=r.map (·.1)) (fun z=>h (by simp only[List.map_cons,List.mem_cons];exact .inr z)) rfl]
  rfl
end L2
namespace K19
open PySem L2 PyProof Dt
abbrev qA9:Stmt:=top 11
abbrev hV:Stmt:=top 12
abbrev qK8:Stmt:=top 44
abbrev hW:Stmt:=top 45
abbrev qAq:Stmt:=top 46
abbrev qK9:Stmt:=top 47
abbrev qKq:Stmt:=top 48
abbrev qAz:Stmt:=top 49
abbrev qKz:Stmt:=top 50
abbrev qKj:Stmt:=top 51
abbrev qAj:Stmt:=top 52
abbrev qE0:Stmt:=top 53
abbrev qE1:Stmt:=top 54
abbrev qE2:Stmt:=top 55
abbrev qV0:Stmt:=top 56
abbrev qE3:Stmt:=top 57
abbrev qE4:Stmt:=top 58
abbrev qE5:Stmt:=top 59
abbrev qE6:Stmt:=top 60
abbrev qE7:Stmt:=top 61
abbrev hU:Stmt:=top 62
abbrev qE8:Stmt:=top 63
abbrev qV1:Stmt:=top 64
abbrev qE9:Stmt:=top 65
abbrev qEq:Stmt:=top 66
abbrev hC:Stmt:=top 67
abbrev qEz:Stmt:=top 68
abbrev hG:Stmt:=top 17
abbrev lT:Stmt:=top 18
abbrev qV2:Stmt:=top 20
abbrev qEj:Stmt:=vW (top 10) 0
abbrev qV3:Stmt:=vW (top 10) 1
abbrev pQ:Stmt:=vW (top 10) 4
abbrev qV4:Stmt:=vW (top 10) 6
abbrev zQ0:Stmt:=vW (top 43) 0
abbrev zQ1:Stmt:=vW (top 43) 1
abbrev pZ:Stmt:=vW (top 43) 5
structure Ad where
 C:Addr
 CH:Addr
 m:Addr
 dx:Addr
 hp:Addr
 dh:Addr
 l:Addr
 pd:Addr
 st:Addr
 th:Addr
def Ad.mv(d:Ad)(a b:Addr):Ad:={d with st:=a,th:=b}
def mfl(d:Ad)(m:Ms):List (Str×V):=[("code",.ref d.l),("heap",.ref d.hp),("stack",.ref d.st),("base",.int (m.base:Nat)),("place",.int (m.place:Nat)),("pending",.ref d.pd),("standing",.str m.st.str)]
def hfl(d:Ad)(m:Ms):List (Str×V):=[("room",.int (m.room:Nat)),("things",.ref d.th),("made_so_far",.int (m.made:Nat))]
section
variable (d:Ad) (m:Ms)
theorem qV5:(mfl d m).lookup ("code":Str)=some (.ref d.l):=kZ _ _ _
theorem wB:(mfl d m).lookup ("heap":Str)=some (.ref d.hp):=by unfold mfl;rw[zW (by decide+kernel),kZ]
theorem xL:(mfl d m).lookup ("stack":Str)=some (.ref d.st):=by unfold mfl;rw[zW (by decide+kernel),zW (by decide+kernel),kZ]
theorem lA:(mfl d m).lookup ("base":Str)=some (.int (m.base:Nat)):=by unfold mfl;rw[zW (by decide+kernel),zW (by decide+kernel),zW (by decide+kernel),kZ]
theorem yN:(mfl d m).lookup ("place":Str)=some (.int (m.place:Nat)):=by unfold mfl;rw[zW (by decide+kernel),zW (by decide+kernel),zW (by decide+kernel),zW (by decide+kernel),kZ]
theorem kS:(mfl d m).lookup ("pending":Str)=some (.ref d.pd):=by unfold mfl;rw[zW (by decide+kernel),zW (by decide+kernel),zW (by decide+kernel),zW (by decide+kernel),zW (by decide+kernel),kZ]
theorem kQ:(mfl d m).lookup ("standing":Str)=some (.str m.st.str):=by unfold mfl;rw[zW (by decide+kernel),zW (by decide+kernel),zW (by decide+kernel),zW (by decide+kernel),zW (by decide+kernel),zW (by decide+kernel),kZ]
theorem m_none{f:Str}(h:f∉(["code","heap","stack","base","place","pending","standing"]:List Str)):(mfl d m).lookup f=none:=by
 simp only[List.mem_cons,List.not_mem_nil,or_false,not_or]at h
 obtain⟨h1,h2,h3,h4,h5,h6,h7⟩:=h
 unfold mfl;rw[zW h1,zW h2,zW h3,zW h4,zW h5,zW h6,zW h7];rfl
theorem zQ2:(hfl d m).lookup ("room":Str)=some (.int (m.room:Nat)):=kZ _ _ _
theorem yB:(hfl d m).lookup ("things":Str)=some (.ref d.th):=by unfold hfl;rw[zW (by decide+kernel),kZ]
theorem zQ3:(hfl d m).lookup ("made_so_far":Str)=some (.int (m.made:Nat)):=by unfold hfl;rw[zW (by decide+kernel),zW (by decide+kernel),kZ]
theorem wD{f:Str}(h:f∉(["room","things","made_so_far"]:List Str)):(hfl d m).lookup f=none:=by
 simp only[List.mem_cons,List.not_mem_nil,or_false,not_or]at h
 obtain⟨h1,h2,h3⟩:=h
 unfold hfl;rw[zW h1,zW h2,zW h3];rfl
theorem qV6(b:Nat):xM "base" (.int (b:Nat)) (mfl d m)=mfl d {m with base:=b}:=by unfold mfl;rw[jM (by decide+kernel),jM (by decide+kernel),jM (by decide+kernel),uA]
theorem uE(p:Nat):xM "place" (.int (p:Nat)) (mfl d m)=mfl d {m with place:=p}:=by unfold mfl;rw[jM (by decide+kernel),jM (by decide+kernel),jM (by decide+kernel),jM (by decide+kernel),uA]
theorem iX(x:Sd):xM "standing" (.str x.str) (mfl d m)=mfl d {m with st:=x}:=by unfold mfl;rw[jM (by decide+kernel),jM (by decide+kernel),jM (by decide+kernel),jM (by decide+kernel),jM (by decide+kernel),jM (by decide+kernel),uA]
theorem zQ4(n:Nat):xM "made_so_far" (.int (n:Nat)) (hfl d m)=hfl d {m with made:=n}:=by unfold hfl;rw[jM (by decide+kernel),jM (by decide+kernel),uA]
theorem uF:(mfl d m).length<1000:=by show 7<1000;decide
theorem zY8:(hfl d m).length<1000:=by show 3<1000;decide
end
structure MS(K:Fg)(H0:Hp)(d:Ad)(m:Ms)(H:Hp):Prop where
 g:Grow H0 H
 nm:H0 d.m=none
 nh:H0 d.hp=none
 ns:H0 d.st=none
 np:H0 d.pd=none
 nt:H0 d.th=none
 mo:H d.m=some (.ins d.C d.dx (mfl d m))
 ho:H d.hp=some (.ins d.CH d.dh (hfl d m))
 so:∃vs,H d.st=some (.lst vs)/\qI K H (m.stk.reverse.map AV.dt) vs
 po:∃vs,H d.pd=some (.lst vs)/\qI K H (m.pend.reverse.map Pair2) vs
 lo:∃vs,H d.l=some (.lst vs)/\qI K H (m.code.map AOrd.dt) vs
 to:∃vs,H d.th=some (.lst vs)/\qI K H (m.things.map Th.dt) vs
 mh:d.m≠d.hp
 d1:d.l≠d.st
 d2:d.pd≠d.st
 d3:d.th≠d.st
 d4:d.l≠d.pd
 d5:d.th≠d.pd
 d6:d.l≠d.th
section
variable {K:Fg} {H0 H H':Hp} {d:Ad} {m:Ms}
theorem kW{a C dx:Addr}{fs gs:List (Str×V)}(h:H a=some (.ins C dx fs)):jG K H (upd H a (.ins C dx gs)):=fun b xs hb=>by
 rcases hb with(hb|⟨o,hb⟩)|hb
 ·exact .inl (.inl ((qH (xB hb h (by intro z;cases z))).trans hb))
 ·exact .inl (.inr ⟨o,(qH (xB hb h (by intro z;cases z))).trans hb⟩)
 ·exact .inr hb
theorem wF{H1 H2:Hp}(x:jG K H H1)(y:jG K H1 H2):jG K H H2:=fun a xs h=>y a xs (x a xs h)
theorem cO(g:Grow H H'):jG K H H':=fun a xs h=>zO.mono g.same h
theorem MS.grow(h:MS K H0 d m H)(g:Grow H H'):MS K H0 d m H':=
 have f:∀{a:Addr}{ds:List Dt},(∃vs,H a=some (.lst vs)/\qI K H ds vs)->∃vs,H' a=some (.lst vs)/\qI K H' ds vs:=fun⟨vs,e,q⟩=>⟨vs,g.same _ _ e,q.mono g.same⟩
 ⟨h.g.trans g,h.nm,h.nh,h.ns,h.np,h.nt,g.same _ _ h.mo,g.same _ _ h.ho,f h.so,f h.po,f h.lo,f h.to,h.mh,h.d1,h.d2,h.d3,h.d4,h.d5,h.d6⟩
theorem xV{a b:Addr}{o:HO}{ds:List Dt}(kt:jG K H (upd H b o))(n:a≠b)(h:∃vs,H a=some (.lst vs)/\qI K H ds vs):∃vs,(upd H b o) a=some (.lst vs)/\qI K (upd H b o) ds vs:=
 let⟨vs,e,q⟩:=h;⟨vs,(qH n).trans e,qI.monoT kt q⟩
theorem MS.setS(h:MS K H0 d m H){s:List AV}{vs:List V}(hv:qI K H (s.reverse.map AV.dt) vs):MS K H0 d {m with stk:=s} (upd H d.st (.lst vs)):=by
 obtain⟨ws,e,_⟩:=h.so
 have kt:=zB (K:=K) (ys:=vs) e
 exact⟨h.g.set h.ns,h.nm,h.nh,h.ns,h.np,h.nt,(qH (xB h.mo e (by intro z;cases z))).trans h.mo,(qH (xB h.ho e (by intro z;cases z))).trans h.ho,⟨vs,qX,qI.monoT kt hv⟩,
  xV kt h.d2 h.po,xV kt h.d1 h.lo,xV kt h.d3 h.to,h.mh,h.d1,h.d2,h.d3,h.d4,h.d5,h.d6⟩
theorem MS.setP(h:MS K H0 d m H){s:List (Nat×Nat)}{vs:List V}(hv:qI K H (s.reverse.map Pair2) vs):MS K H0 d {m with pend:=s} (upd H d.pd (.lst vs)):=by
 obtain⟨ws,e,_⟩:=h.po
 have kt:=zB (K:=K) (ys:=vs) e
 exact⟨h.g.set h.np,h.nm,h.nh,h.ns,h.np,h.nt,(qH (xB h.mo e (by intro z;cases z))).trans h.mo,(qH (xB h.ho e (by intro z;cases z))).trans h.ho,xV kt h.d2.symm h.so,⟨vs,qX,qI.monoT kt hv⟩,
  xV kt h.d4 h.lo,xV kt h.d5 h.to,h.mh,h.d1,h.d2,h.d3,h.d4,h.d5,h.d6⟩
theorem MS.setT(h:MS K H0 d m H){s:List Th}{vs:List V}(hv:qI K H (s.map Th.dt) vs):MS K H0 d {m with things:=s} (upd H d.th (.lst vs)):=by
 obtain⟨ws,e,_⟩:=h.to
 have kt:=zB (K:=K) (ys:=vs) e
 exact⟨h.g.set h.nt,h.nm,h.nh,h.ns,h.np,h.nt,(qH (xB h.mo e (by intro z;cases z))).trans h.mo,(qH (xB h.ho e (by intro z;cases z))).trans h.ho,xV kt h.d3.symm h.so,xV kt h.d5.symm h.po,
  xV kt h.d6 h.lo,⟨vs,qX,qI.monoT kt hv⟩,h.mh,h.d1,h.d2,h.d3,h.d4,h.d5,h.d6⟩
theorem MS.setM(h:MS K H0 d m H)(b p:Nat)(x:Sd):MS K H0 d {m with base:=b,place:=p,st:=x} (upd H d.m (.ins d.C d.dx (mfl d {m with base:=b,place:=p,st:=x}))):=by
 have kt:=kW (K:=K) (gs:=mfl d {m with base:=b,place:=p,st:=x}) h.mo
 have nl:∀{a:Addr}{ds:List Dt},(∃vs,H a=some (.lst vs)/\qI K H ds vs)->a≠d.m:=fun⟨vs,e,_⟩=>xB e h.mo (by intro z;cases z)
 exact⟨h.g.set h.nm,h.nm,h.nh,h.ns,h.np,h.nt,qX,(qH h.mh.symm).trans h.ho,xV kt (nl h.so) h.so,xV kt (nl h.po) h.po,xV kt (nl h.lo) h.lo,xV kt (nl h.to) h.to,h.mh,h.d1,h.d2,h.d3,h.d4,h.d5,h.d6⟩
theorem MS.setH(h:MS K H0 d m H)(n:Nat):MS K H0 d {m with made:=n} (upd H d.hp (.ins d.CH d.dh (hfl d {m with made:=n}))):=by
 have kt:=kW (K:=K) (gs:=hfl d {m with made:=n}) h.ho
 have nl:∀{a:Addr}{ds:List Dt},(∃vs,H a=some (.lst vs)/\qI K H ds vs)->a≠d.hp:=fun⟨vs,e,_⟩=>xB e h.ho (by intro z;cases z)
 exact⟨h.g.set h.nh,h.nm,h.nh,h.ns,h.np,h.nt,(qH h.mh).trans h.mo,qX,xV kt (nl h.so) h.so,xV kt (nl h.po) h.po,xV kt (nl h.lo) h.lo,xV kt (nl h.to) h.to,h.mh,h.d1,h.d2,h.d3,h.d4,h.d5,h.d6⟩
theorem iK:∀{ds:List Dt}{us:List V}{e:Dt},qI K H (ds++[e]) us->∃ws x,us=ws++[x]/\qW K H e x/\qI K H ds ws
 |[],us,e,h=>by
  obtain⟨x,r,rfl,hx,hr⟩:=qD h
  cases zD hr
  exact⟨[],x,rfl,hx,qT⟩
 |d::ds,us,e,h=>by
  obtain⟨y,r,rfl,hy,hr⟩:=qD h
  obtain⟨ws,x,rfl,hx,hw⟩:=iK hr
  exact⟨y::ws,x,rfl,hx,qF hy hw⟩
theorem uY{v:AV}{r:List AV}{vs:List V}(h:qI K H ((v::r).reverse.map AV.dt) vs):∃ws x,vs=ws++[x]/\qW K H v.dt x/\qI K H (r.reverse.map AV.dt) ws:=by
 rw[List.reverse_cons,List.map_append]at h
 exact iK h
theorem lE{v:AV}{r:List AV}{vs:List V}{x:V}(h:qI K H (r.reverse.map AV.dt) vs)(hx:qW K H v.dt x):qI K H ((v::r).reverse.map AV.dt) (vs++[x]):=by
 rw[List.reverse_cons,List.map_append]
 exact qI.append h (qF hx qT)
theorem wJ{s:List AV}{vs:List V}(h:qI K H (s.reverse.map AV.dt) vs):vs.length=s.length:=by rw[h.length,List.length_map,List.length_reverse]
end
structure Mc(K:Fg)(C:Addr):Prop where
 cl:Cls K C
 n1:jH K C "code"
 n2:jH K C "heap"
 n3:jH K C "stack"
 n4:jH K C "base"
 n5:jH K C "place"
 n6:jH K C "pending"
 n7:jH K C "standing"
structure Hc(K:Fg)(C:Addr):Prop where
 cl:Cls K C
 n1:jH K C "room"
 n2:jH K C "things"
 n3:jH K C "made_so_far"
section
variable {K:Fg} {H0 H:Hp} {d:Ad} {m:Ms} {σ:St} {R:VK}
theorem iV{f:Str}{v:V}(M:Mc K d.C)(h:MS K H0 d m H)(h0:σ[0]? =some (some (.ref d.m)))(n:jH K d.C f)(l:(mfl d m).lookup f=some v)(q:R v H):gS K (jY 0) f σ H R:=
 ⟨_,h0,d.m,d.C,d.dx,_,v,rfl,h.mo,M.cl,n,l,q⟩
theorem vS{v:AV}{r:List AV}(M:Mc K d.C)(h:MS K H0 d m H)(h0:σ[0]? =some (some (.ref d.m)))(e:m.stk=v::r)(q:∀x H',qW K H' v.dt x->MS K H0 d {m with stk:=r} H'->R x H'):eG K "list" eM (gS K (jY 0) "stack") σ H R:=by
 obtain⟨vs,hs,hd⟩:=h.so
 rw[e]at hd
 obtain⟨ws,x,rfl,hx,hw⟩:=uY hd
 refine iV M h h0 M.n3 (xL _ _) ⟨.inl ⟨rfl,_,zH.of hs⟩,d.st,_,x,rfl,rfl,hs,by simp,?_⟩
 rw[List.dropLast_concat]
 exact q x _ (qW.monoT (zB hs) hx) (h.setS hw)
theorem qG1{v:AV}{r:List AV}(M:Mc K d.C)(h:MS K H0 d m H)(h0:σ[0]? =some (some (.ref d.m)))(e:m.stk=v::r)(q:∀x H',jG K H H'->MS K H0 d {m with stk:=r} H'->R x H'):eG K "list" eM (gS K (jY 0) "stack") σ H R:=by
 obtain⟨vs,hs,hd⟩:=h.so
 rw[e]at hd
 obtain⟨ws,x,rfl,hx,hw⟩:=uY hd
 refine iV M h h0 M.n3 (xL _ _) ⟨.inl ⟨rfl,_,zH.of hs⟩,d.st,_,x,rfl,rfl,hs,by simp,?_⟩
 rw[List.dropLast_concat]
 exact q x _ (zB hs) (h.setS hw)
theorem gQ{v:AV}{r:List AV}{a:Addr}{us:List V}(M:Mc K d.C)(h:MS K H0 d m H)(h0:σ[0]? =some (some (.ref d.m)))(e:m.stk=v::r)(ha:zO K H a us)(q:∀x H',qW K H' v.dt x->MS K H0 d {m with stk:=r} H'->zO K H' a us->R x H'):eG K "list" eM (gS K (jY 0) "stack") σ H R:=by
 obtain⟨vs,hs,hd⟩:=h.so
 rw[e]at hd
 obtain⟨ws,x,rfl,hx,hw⟩:=uY hd
 refine iV M h h0 M.n3 (xL _ _) ⟨.inl ⟨rfl,_,zH.of hs⟩,d.st,_,x,rfl,rfl,hs,by simp,?_⟩
 rw[List.dropLast_concat]
 exact q x _ (qW.monoT (zB hs) hx) (h.setS hw) (zB hs a us ha)
theorem gZ{v:AV}{r:List AV}{y:V}{u:AV}(M:Mc K d.C)(h:MS K H0 d m H)(h0:σ[0]? =some (some (.ref d.m)))(e:m.stk=v::r)(hy:qW K H u.dt y)(q:∀x H',qW K H' v.dt x->MS K H0 d {m with stk:=r} H'->qW K H' u.dt y->R x H'):eG K "list" eM (gS K (jY 0) "stack") σ H R:=by
 obtain⟨vs,hs,hd⟩:=h.so
 rw[e]at hd
 obtain⟨ws,x,rfl,hx,hw⟩:=uY hd
 refine iV M h h0 M.n3 (xL _ _) ⟨.inl ⟨rfl,_,zH.of hs⟩,d.st,_,x,rfl,rfl,hs,by simp,?_⟩
 rw[List.dropLast_concat]
 exact q x _ (qW.monoT (zB hs) hx) (h.setS hw) (qW.monoT (zB hs) hy)
theorem xN{te:TE}(M:Mc K d.C)(h:MS K H0 d m H)(h0:σ[0]? =some (some (.ref d.m)))(q:te σ H fun y H1=>vV (.ref d.st) [y] H1 R):tBM K "list" vV (gS K (jY 0) "stack") (xO te wC) σ H R:=by
 obtain⟨vs,hs,_⟩:=h.so
 exact iV M h h0 M.n3 (xL _ _) ⟨.inl ⟨rfl,_,zH.of hs⟩,q⟩
theorem jU{v:AV}{y:V}(h:MS K H0 d m H)(hy:qW K H v.dt y)(hl:m.stk.length<sizeLine)(q:∀H',MS K H0 d {m with stk:=v::m.stk} H'->R .non H'):vV (.ref d.st) [y] H R:=by
 obtain⟨vs,hs,hd⟩:=h.so
 exact⟨d.st,vs,y,rfl,rfl,hs,by rw[wJ hd];exact hl,q _ (h.setS (lE hd hy))⟩
theorem pJ{v:AV}{y:V}(h:MS K H0 d m H)(hy:qW K H v.dt y)(hl:m.stk.length<sizeLine)(q:∀H',jG K H H'->MS K H0 d {m with stk:=v::m.stk} H'->R .non H'):vV (.ref d.st) [y] H R:=by
 obtain⟨vs,hs,hd⟩:=h.so
 exact⟨d.st,vs,y,rfl,rfl,hs,by rw[wJ hd];exact hl,q _ (zB hs) (h.setS (lE hd hy))⟩
theorem vT{o:AOrd}{c:V}(h:qW K H o.dt c):∃a us,c= .ref a/\zO K H a (.str o.wd::us)/\qI K H o.args us:=by
 obtain⟨a,vs,rfl,ha,hv⟩:=kN h
 obtain⟨w,us,rfl,hw,hu⟩:=qD hv
 cases jR hw
 exact⟨a,us,rfl,ha,hu⟩
end
end K19
open PySem
def AV.ok:AV->Prop
 | .int n=>In64 n
 |_=>True
namespace Ms
structure Wf(m:Ms):Prop where
 hs:m.stk.length<=high
 iv:∀v∈m.stk,v.ok
 it:∀t∈m.things,∀v∈t.held,v.ok
 okc:∀o∈m.code,o.ok
 cl:m.code.length<=1000000
 rm:m.room<=1000
 tr:m.things.length<=m.room
structure Wg(m:Ms):Prop where
 iv:∀v∈m.stk,v.ok
 it:∀t∈m.things,∀v∈t.held,v.ok
theorem yD(n:Int):In64 (bring n):=by unfold bring In64;omega
theorem qG2{s:Sm}{a b:Int}(ha:In64 a)(hb:In64 b)(h:nought s b=false):(sumV s a b).ok:=by
 cases s
 case plus=>exact yD _
 case minus=>exact yD _
 case times=>exact yD _
 case over=>exact yD _
 case less=>trivial
 case same=>trivial
 case rest=>
  have hb0:b≠0:=by simpa[nought]using h
  have h1:a.natAbs%b.natAbs<b.natAbs:=Nat.mod_lt _ (by omega)
  unfold In64 at hb
  show In64 _
  unfold In64
  split<;>omega
theorem nM{α β:Type}{f:α->Option β}:∀{l:List α}{r:List β},l.mapM f=some r->∀b∈r,∃a∈l,f a=some b
 |[],r,h,b,hb=>by
  have :r=[]:=by simpa using h.symm
  subst this;cases hb
 |a::l,r,h,b,hb=>by
  rw[List.mapM_cons]at h
  obtain⟨x,hx,h⟩:=aq5.mp h
  obtain⟨xs,hxs,h⟩:=aq5.mp h
  have :r=x::xs:=(Option.some.inj h).symm
  subst this
  rcases List.mem_cons.mp hb with rfl|hb
  ·exact⟨a,List.mem_cons_self,hx⟩
  ·obtain⟨a',h1,h2⟩:=nM hxs b hb
   exact⟨a',aq10 _ h1,h2⟩
structure Like(m m':Ms):Prop where
 code:m'.code=m.code
 room:m'.room=m.room
theorem roomy_ok{m m':Ms}(h:m.Wg)(e:m.roomy=some m'):m'.Wg/\Like m m'/\m'.stk.length=m.stk.length/\m'.place=m.place:=by
 unfold roomy at e
 split at e
 ·cases e
 ·cases e;exact⟨h,⟨rfl,rfl⟩,rfl,rfl⟩
theorem nN{m:Ms}{k:Nat}{v:AV}(e:m.slot k=some v):v∈m.stk:=by
 unfold slot at e
 split at e
 ·exact List.mem_of_getElem? e
 ·cases e
theorem qV7{m:Ms}{s:Srt}{h:List AV}(w:m.Wg)(hh:∀v∈h,v.ok):(m.add s h).Wg:=by
 refine⟨fun v hv=>?_,fun t ht v hv=>?_⟩
 ·rcases List.mem_cons.mp hv with rfl|hv
  ·trivial
  ·exact w.iv v hv
 ·rcases List.mem_append.mp ht with ht|ht
  ·exact w.it t ht v hv
  ·rw[List.mem_singleton.mp ht]at hv;exact hh v hv
theorem rE{l:List AV}{h:Nat}{v:AV}(e:v∈cut l h):v∈l:=List.mem_of_mem_drop e
theorem nB{m m':Ms}{k:Nat}{h:AV}(w:m.Wg)(hh:h.ok)(e:m.enter k h=some m'):m'.Wg/\Like m m':=by
 unfold enter at e
 split at e
 ·rename_i s pl rc kept ht
  split at e
  ·cases e
  cases e
  have hk:=w.it _ (List.mem_of_getElem? ht)
  refine⟨⟨fun v hv=>?_,w.it⟩,⟨rfl,rfl⟩⟩
  rcases List.mem_cons.mp hv with rfl|hv
  ·exact hh
  rcases List.mem_append.mp hv with hv|hv
  ·split at hv
   ·rw[List.mem_singleton.mp hv];trivial
   ·cases hv
  rcases List.mem_append.mp hv with hv|hv
  ·exact hk v (aq10 _ (aq10 _ (List.mem_reverse.mp hv)))
  ·exact w.iv v hv
 ·cases e
theorem Wg.stk{m:Ms}(w:m.Wg){s:List AV}(h:∀v∈s,v.ok):({m with stk:=s}:Ms).Wg:=⟨h,w.it⟩
theorem ok_cons{v:AV}{r:List AV}(h:v.ok)(hr:∀u∈r,u.ok):∀u∈v::r,u.ok:=fun u hu=>by
 rcases List.mem_cons.mp hu with rfl|hu
 ·exact h
 ·exact hr u hu
theorem qG3{m m':Ms}{o:AOrd}(w:m.Wg)(hp:m.place<=1000000)(ho:o.ok)(e:m.exec o=some m'):m'.Wg/\Like m m':=by
 have L:Like m m:=⟨rfl,rfl⟩
 cases o with
 |num n=>cases e;exact⟨w.stk (ok_cons ho w.iv),⟨rfl,rfl⟩⟩
 |tru n=>cases e;exact⟨w.stk (ok_cons trivial w.iv),⟨rfl,rfl⟩⟩
 |nil=>cases e;exact⟨w.stk (ok_cons trivial w.iv),⟨rfl,rfl⟩⟩
 |get k=>
  obtain⟨v,hv,rfl⟩:=aq6.mp e
  exact⟨w.stk (ok_cons (w.iv v (nN hv)) w.iv),⟨rfl,rfl⟩⟩
 |make s=>
  obtain⟨m1,e1,e⟩:=aq5.mp e
  obtain⟨w1,l1,_,_⟩:=roomy_ok w e1
  split at e
  ·split at e
   ·rename_i b a r hs
    cases e
    have iv:=w1.iv
    rw[hs]at iv
    have ha:=iv a (by simp)
    have hb:=iv b (by simp)
    exact⟨qV7 (w1.stk fun v hv=>iv v (by simp[hv])) (ok_cons ha (ok_cons hb (by simp))),⟨l1.code,l1.room⟩⟩
   ·cases e
  ·cases e;exact⟨w1,l1⟩
 |take x i=>
  simp only[exec]at e
  split at e
  ·rename_i r hs
   cases e
   exact⟨⟨fun v hv=>w.iv v (by rw[hs];exact aq10 _ hv),w.it⟩,⟨rfl,rfl⟩⟩
  ·rename_i k r hs
   obtain⟨t,ht,e⟩:=aq5.mp e
   obtain⟨v,hv,rfl⟩:=aq6.mp e
   exact⟨w.stk (ok_cons (w.it t (List.mem_of_getElem? ht) v (List.mem_of_getElem? hv)) fun u hu=>w.iv u (by rw[hs];exact aq10 _ hu)),⟨rfl,rfl⟩⟩
  ·cases e
 |empty=>
  simp only[exec]at e
  split at e
  ·rename_i v r hs
   cases e
   exact⟨w.stk (ok_cons trivial fun u hu=>w.iv u (by rw[hs];exact aq10 _ hu)),⟨rfl,rfl⟩⟩
  ·cases e
 |not=>
  simp only[exec]at e
  split at e
  ·rename_i v r hs
   cases e
   exact⟨w.stk (ok_cons trivial fun u hu=>w.iv u (by rw[hs];exact aq10 _ hu)),⟨rfl,rfl⟩⟩
  ·cases e
 |sum s=>
  simp only[exec]at e
  split at e
  ·rename_i y x r hs
   cases e
   have iv:=w.iv
   rw[hs]at iv
   have hx:In64 x:=iv (.int x) (by simp)
   have hy:In64 y:=iv (.int y) (by simp)
   have hr:∀u∈r,u.ok:=fun u hu=>iv u (by simp[hu])
   by_cases z:nought s y=true
   ·rw[if_pos z];exact⟨⟨hr,w.it⟩,⟨rfl,rfl⟩⟩
   ·rw[if_neg z];exact⟨w.stk (ok_cons (qG2 hx hy (by simpa using z)) hr),⟨rfl,rfl⟩⟩
  ·cases e
 |func rc kept len=>
  obtain⟨m1,e1,e⟩:=aq5.mp e
  obtain⟨w1,l1,_,l2⟩:=roomy_ok w e1
  split at e
  ·obtain⟨vs,hv,e⟩:=aq6.mp e
   subst e
   have hvs:∀v∈vs,v.ok:=fun v h=>by
    obtain⟨k,_,hk⟩:=nM hv v h
    exact w1.iv v (nN hk)
   have w2:=qV7 (s:=.fn) w1 (ok_cons (v:=.int m1.place) (by show In64 _;unfold In64;omega) (ok_cons (v:=.bl rc) trivial hvs))
   exact⟨⟨w2.iv,w2.it⟩,⟨l1.code,l1.room⟩⟩
  ·cases e;exact⟨w1,l1⟩
 |call=>
  simp only[exec]at e
  split at e
  ·cases e;exact⟨⟨w.iv,w.it⟩,⟨rfl,rfl⟩⟩
  ·split at e
   ·rename_i h k r hs
    have hh:h.ok:=w.iv h (by rw[hs];simp)
    obtain⟨a,b⟩:=nB (m:={m with pend:=(m.place,m.base)::m.pend,base:=m.stk.length}) ⟨w.iv,w.it⟩ hh e
    exact⟨a,⟨b.code,b.room⟩⟩
   ·cases e
 |last=>
  simp only[exec]at e
  split at e
  ·rename_i h k r hs
   have hh:h.ok:=w.iv h (by rw[hs];simp)
   obtain⟨a,b⟩:=nB (m:={m with stk:=cut r m.base}) ⟨fun v hv=>w.iv v (by rw[hs];simp[rE hv]),w.it⟩ hh e
   exact⟨a,⟨b.code,b.room⟩⟩
  ·cases e
 |tell=>
  simp only[exec]at e
  split at e
  ·rename_i v r hs
   have hv:v.ok:=w.iv v (by rw[hs];simp)
   split at e
   ·split at e
    ·cases e
     exact⟨⟨ok_cons hv fun u hu=>w.iv u (by rw[hs];simp[rE hu]),w.it⟩,⟨rfl,rfl⟩⟩
    ·cases e
   ·cases e
    exact⟨⟨ok_cons hv (by simp),w.it⟩,⟨rfl,rfl⟩⟩
  ·cases e
 |«unless» k=>
  simp only[exec]at e
  split at e
  ·rename_i v r hs
   cases e
   have hr:∀u∈r,u.ok:=fun u hu=>w.iv u (by rw[hs];simp[hu])
   cases v
   ·exact⟨⟨hr,w.it⟩,⟨rfl,rfl⟩⟩
   ·exact⟨⟨hr,w.it⟩,⟨rfl,rfl⟩⟩
  ·cases e
 |skip k=>cases e;exact⟨⟨w.iv,w.it⟩,⟨rfl,rfl⟩⟩
 |slide=>
  simp only[exec]at e
  split at e
  ·rename_i v u r hs
   cases e
   exact⟨⟨ok_cons (w.iv v (by rw[hs];simp)) fun z hz=>w.iv z (by rw[hs];simp[hz]),w.it⟩,⟨rfl,rfl⟩⟩
  ·cases e
theorem mapM_len{α β:Type}{f:α->Option β}:∀{l:List α}{r:List β},l.mapM f=some r->r.length=l.length
 |[],r,h=>by
  have :r=[]:=by simpa using h.symm
  subst this;rfl
 |a::l,r,h=>by
  rw[List.mapM_cons]at h
  obtain⟨x,hx,h⟩:=aq5.mp h
  obtain⟨xs,hxs,h⟩:=aq5.mp h
  have :r=x::xs:=(Option.some.inj h).symm
  subst this
  rw[List.length_cons,List.length_cons,mapM_len hxs]
theorem nD{m m':Ms}(h:m.things.length<=m.room)(e:m.roomy=some m'):m'.things.length<=m'.room/\(m'.st= .running->m'.things.length<m'.room):=by
 unfold roomy at e
 split at e
 ·cases e
 ·cases e;exact⟨h,fun _=>by omega⟩
theorem nH{m m':Ms}{k:Nat}{h:AV}(e:m.enter k h=some m'):m'.things=m.things/\m'.room=m.room:=by
 unfold enter at e
 split at e
 ·split at e
  ·cases e
  ·cases e;exact⟨rfl,rfl⟩
 ·cases e
theorem qG4{m m':Ms}{o:AOrd}(h:m.things.length<=m.room)(e:m.exec o=some m'):m'.things.length<=m'.room:=by
 cases o with
 |num n=>cases e;exact h
 |tru n=>cases e;exact h
 |nil=>cases e;exact h
 |get k=>obtain⟨v,_,rfl⟩:=aq6.mp e;exact h
 |make s=>
  obtain⟨m1,e1,e⟩:=aq5.mp e
  obtain⟨t1,t2⟩:=nD h e1
  split at e
  ·rename_i hs
   split at e
   ·cases e
    have :=t2 hs
    show(m1.things++[_]).length<=m1.room
    simp;omega
   ·cases e
  ·cases e;exact t1
 |take x i=>
  simp only[exec]at e
  split at e
  ·cases e;exact h
  ·obtain⟨t,_,e⟩:=aq5.mp e
   obtain⟨v,_,rfl⟩:=aq6.mp e
   exact h
  ·cases e
 |empty=>simp only[exec]at e;split at e<;>cases e;exact h
 |not=>simp only[exec]at e;split at e<;>cases e;exact h
 |sum s=>
  simp only[exec]at e
  split at e
  ·cases e;split<;>exact h
  ·cases e
 |func rc kept len=>
  obtain⟨m1,e1,e⟩:=aq5.mp e
  obtain⟨t1,t2⟩:=nD h e1
  split at e
  ·rename_i hs
   obtain⟨vs,_,e⟩:=aq6.mp e
   subst e
   have :=t2 hs
   show(m1.things++[_]).length<=m1.room
   simp;omega
  ·cases e;exact t1
 |call=>
  simp only[exec]at e
  split at e
  ·cases e;exact h
  ·split at e
   ·obtain⟨a,b⟩:=nH e
    rw[a,b];exact h
   ·cases e
 |last=>
  simp only[exec]at e
  split at e
  ·obtain⟨a,b⟩:=nH e
   rw[a,b];exact h
  ·cases e
 |tell=>
  simp only[exec]at e
  split at e
  ·split at e
   ·split at e
    ·cases e;exact h
    ·cases e
   ·cases e;exact h
  ·cases e
 |«unless» k=>simp only[exec]at e;split at e<;>cases e;split<;>exact h
 |skip k=>cases e;exact h
 |slide=>simp only[exec]at e;split at e<;>cases e;exact h
theorem Wf.g{m:Ms}(w:m.Wf):m.Wg:=⟨w.iv,w.it⟩
theorem Wf.exec{m m':Ms}{o:AOrd}(w:m.Wf)(ho:o.ok)(hp:m.place<=1000000)(e:m.exec o=some m')(hl:m'.stk.length<=high):m'.Wf/\Like m m':=by
 obtain⟨a,b⟩:=qG3 w.g hp ho e
 exact⟨⟨hl,a.iv,a.it,by rw[b.code];exact w.okc,by rw[b.code];exact w.cl,by rw[b.room];exact w.rm,qG4 w.tr e⟩,b⟩
theorem order_of{m m':Ms}(e:m.order=some m'):∃o,m.code[m.place]? =some o/\({m with place:=m.place+1}:Ms).exec o=some m'/\m'.stk.length<=high:=by
 unfold order at e
 obtain⟨o,h1,e⟩:=aq5.mp e
 obtain⟨m1,h2,e⟩:=aq5.mp e
 split at e
 ·cases e;exact⟨o,h1,h2,by assumption⟩
 ·cases e
theorem Wf.order{m m':Ms}(w:m.Wf)(e:m.order=some m'):m'.Wf/\Like m m':=by
 obtain⟨o,h1,h2,h3⟩:=order_of e
 have hl:m.place<m.code.length:=(List.getElem?_eq_some_iff.mp h1).1
 obtain⟨a,b⟩:=Wf.exec (m:={m with place:=m.place+1}) ⟨w.hs,w.iv,w.it,w.okc,w.cl,w.rm,w.tr⟩ (w.okc o (List.mem_of_getElem? h1)) (by have :=w.cl;show m.place+1<=_;omega) h2 h3
 exact⟨a,⟨b.code,b.room⟩⟩
end Ms
namespace K19
open PySem L2 PyProof Dt
def w7:Sm->W7
 | .plus=>.plus| .minus=>.minus| .times=>.times| .over=>.over| .rest=>.rest| .less=>.less| .same=>.same
theorem zQ5(s:Sm):s.str=(w7 s).str:=by cases s<;>rfl
theorem cI(s:Sm)(b:Int):Ms.nought s b=nought (w7 s) b:=by cases s<;>simp[Ms.nought,nought,w7,divs]
theorem vU(n:Int):nL n=Ms.bring n:=by unfold nL Ms.bring least round;omega
theorem zQ6(a b:Int):aV a b=((a.natAbs/b.natAbs:Nat):Int):=by
 unfold aV
 rw[uW,uW,Int.fdiv_eq_ediv_of_nonneg _ (by omega)];rfl
theorem zQ7{K:Fg}{H:Hp}(s:Sm)(a b:Int):qW K H (Ms.sumV s a b).dt (sumV (w7 s) a b):=by
 cases s
 case plus=>show qW K H (.int _) (V.int _);rw[qW,vU]
 case minus=>show qW K H (.int _) (V.int _);rw[qW,vU]
 case times=>show qW K H (.int _) (V.int _);rw[qW,vU]
 case over=>
  show qW K H (.int _) (V.int _);rw[qW,vU,zQ6]
  by_cases e:decide (a<0)=decide (b<0)
  ·rw[if_pos e,if_pos (by rw[e];simp)]
  ·rw[if_neg e,if_neg (by simpa using e)]
 case rest=>
  show qW K H (.int _) (V.int _);rw[qW,uW,uW]
  by_cases e:a<0
  ·rw[if_pos e,if_pos (by simpa using e)];rfl
  ·rw[if_neg e,if_neg (by simpa using e)];rfl
 case less=>show qW K H (.bl _) (V.bl _);rw[qW]
 case same=>show qW K H (.bl _) (V.bl _);rw[qW];congr 1;rw[Bool.eq_iff_iff];simp
theorem oQ(v:AV):eqD v.dt .non=decide (v= .nil):=by cases v<;>simp[AV.dt,eqD]
theorem gJ(v:AV):dep v.dt<=1:=by cases v<;>simp[AV.dt,dep,deps]
theorem vI{m:Ms}(w:m.Wf):m.stk.length<sizeLine:=by have :=w.hs;unfold Ms.high at this;rw[sizeLine_eq];omega
theorem zQ8{n:Nat}(w:n<=Ms.high):n<sizeLine:=by unfold Ms.high at w;rw[sizeLine_eq];omega
section
variable {K:Fg} {H0 H:Hp} {d:Ad} {m:Ms} {σ:St} {D:Ends}
theorem iW(M:Mc K d.C)(h:MS K H0 d m H)(h0:σ[0]? =some (some (.ref d.m)))(x:Sd)(q:∀H',MS K H0 d {m with st:=x} H'->D.nx σ H'):qR5 K (jY 0) (tC (.str x.str)) "standing" D σ H:=
 ⟨_,h0,d.m,d.C,d.dx,_,rfl,h.mo,M.cl,M.n7,uF _ _,by rw[iX];exact q _ (h.setM m.base m.place x)⟩
theorem aY{v:AV}{y:V}(M:Mc K d.C)(h:MS K H0 d m H)(h0:σ[0]? =some (some (.ref d.m)))(x:Sd)(hy:qW K H v.dt y)(q:∀H',MS K H0 d {m with st:=x} H'->qW K H' v.dt y->D.nx σ H'):qR5 K (jY 0) (tC (.str x.str)) "standing" D σ H:=
 ⟨_,h0,d.m,d.C,d.dx,_,rfl,h.mo,M.cl,M.n7,uF _ _,by rw[iX];exact q _ (h.setM m.base m.place x) (qW.monoT (kW h.mo) hy)⟩
theorem gX{tv:TE}(M:Mc K d.C)(h:MS K H0 d m H)(h0:σ[0]? =some (some (.ref d.m)))(q:tv σ H fun y H2=>qOz (.int (m.place:Nat)) y H2 fun z H3=>∃dx' fs',H3 d.m=some (.ins d.C dx' fs')/\fs'.length<1000/\D.nx σ (upd H3 d.m (.ins d.C dx' (xM "place" z fs')))):pR K (jY 0) tv qOz "place" D σ H:=
 ⟨_,h0,d.m,d.C,d.dx,_,_,rfl,h.mo,M.cl,M.n5,yN _ _,q⟩
theorem gK(h:MS K H0 d m H)(k:Nat)(q:∀H',MS K H0 d {m with place:=m.place+k} H'->D.nx σ H'):qOz (.int (m.place:Nat)) (.int (k:Nat)) H fun z H3=>∃dx' fs',H3 d.m=some (.ins d.C dx' fs')/\fs'.length<1000/\D.nx σ (upd H3 d.m (.ins d.C dx' (xM "place" z fs'))):=by
 refine⟨_,_,rfl,rfl,d.dx,_,h.mo,uF _ _,?_⟩
 rw[show((m.place:Int)+(k:Int))=((m.place+k:Nat):Int) by omega,uE]
 exact q _ (h.setM m.base (m.place+k) m.st)
end
inductive zY9(K:Fg)(C:Addr)(CH:Addr)(B:AOrd->Prop)(vs:List V)(H:Hp)(Q:VK):Prop
 |mk (H0:Hp) (d:Ad) (m:Ms) (m':Ms) (o:AOrd) (c:V) (a_0:vs=[.ref d.m,c]) (a_1:d.C=C) (a_2:d.CH=CH) (a_3:MS K H0 d m H) (a_4:qW K H o.dt c) (a_5:B o) (a_6:m.Wf) (a_7:m.st= .running) (a_8:m.place<=1000000) (a_9:m.exec o=some m') (a_10:m'.stk.length<=Ms.high) (a_11:∀a b H',MS K H0 (d.mv a b) m' H'->Q .non H'):zY9 K C CH B vs H Q
def gG(K:Fg)(C CH:Addr)(B:AOrd->Prop):Sp:=fun vs H Q x_0=>zY9 K C CH B vs H Q
section
variable {P:Program} {w:World} {K:Fg} {mg:Str->Option Value} {base:Heap} {C CH f:Addr} {fd:FuncData}
abbrev p2:List Str:=["machine","order"]
theorem zYq:qO p2 p2 (qU qAq):=by walk_at "s"
theorem zQ9(F:zZ K "put" "put" qAq .none f fd)(M:Mc K C):qS P w K mg base (CXE P w) 1 f fd p2 (gG K C CH fun o=>(∃n,o= .num n)\/∃b,o= .tru b):=by
 refine F.ok0 zYq (fun vs H Q E h=>?_) (fun cdv A outer s H vs Q E hr h=>?_)
 ·obtain⟨H0,d,m,m',o,c,rfl,_⟩:=h
  rfl
 ·obtain⟨H0,d,m,m',o,c,rfl,rfl,rfl,h,hc,hB,hw,hst,hp,he,hl,q⟩:=h
  obtain⟨ca,us,rfl,hca,hus⟩:=vT hc
  refine⟨_,qK (qN (jJ aq0 aq1 aq2 qA (qR (pv 0) rfl) (qQ (qL qP (pv 1) qV (fun _ _=>rfl)) qJ))),?_⟩
  walk_at "e"
  rcases hB with⟨n,rfl⟩|⟨b,rfl⟩
  ·cases he
   obtain⟨u,r,rfl,hu,hr0⟩:=qD hus
   cases zD hr0
   exact xN M h rfl ⟨_,rfl,ca,_,_,u,rfl,rfl,hca,qY (j:=1) rfl,jU (v:=.int n) h hu (vI hw) fun H' h'=>q d.st d.th H' h'⟩
  ·cases he
   obtain⟨u,r,rfl,hu,hr0⟩:=qD hus
   cases zD hr0
   exact xN M h rfl ⟨_,rfl,ca,_,_,u,rfl,rfl,hca,qY (j:=1) rfl,jU (v:=.bl b) h hu (vI hw) fun H' h'=>q d.st d.th H' h'⟩
theorem zQq:qO p2 p2 (qU qK9):=by walk_at "s"
theorem qG5(F:zZ K "put_nil" "put_nil" qK9 .none f fd)(M:Mc K C)(zE:mg "EMPTY"=some .none):qS P w K mg base (CXE P w) 1 f fd p2 (gG K C CH fun o=>o= .nil):=by
 refine F.ok0 zQq (fun vs H Q E h=>?_) (fun cdv A outer s H vs Q E hr h=>?_)
 ·obtain⟨H0,d,m,m',o,c,rfl,_⟩:=h
  rfl
 ·obtain⟨H0,d,m,m',o,c,rfl,rfl,rfl,h,hc,rfl,hw,hst,hp,he,hl,q⟩:=h
  refine⟨_,qK (qN (jJ aq0 aq1 aq2 qA (qR (pv 0) rfl) (qQ (zR (v:=.non) (by rfl) zE rfl) qJ))),?_⟩
  walk_at "e"
  cases he
  exact xN M h rfl (jU (v:=.nil) h (by show qW K H .non V.non;rw[qW]) (vI hw) fun H' h'=>q d.st d.th H' h')
theorem zYz:qO ["machine","slot"] ["machine","slot"] (qU qAz):=by walk_at "s"
inductive qV8(K:Fg)(C:Addr)(vs:List V)(H:Hp)(Q:VK):Prop
 |mk (H0:Hp) (d:Ad) (m:Ms) (k:Nat) (v:AV) (a_0:vs=[.ref d.m,.int (k:Nat)]) (a_1:d.C=C) (a_2:MS K H0 d m H) (a_3:m.slot k=some v) (a_4:∀x,qW K H v.dt x->Q x H):qV8 K C vs H Q
def sQ(K:Fg)(C:Addr):Sp:=fun vs H Q x_0=>qV8 K C vs H Q
theorem zQz(F:zZ K "in_slot" "in_slot" qAz .none f fd)(M:Mc K C):qS P w K mg base (CXE P w) 1 f fd ["machine","slot"] (sQ K C):=by
 refine F.ok0 zYz (fun vs H Q E h=>?_) (fun cdv A outer s H vs Q E hr h=>?_)
 ·obtain⟨H0,d,m,k,v,rfl,_⟩:=h
  rfl
 ·obtain⟨H0,d,m,k,v,rfl,rfl,h,he,q⟩:=h
  refine⟨_,qK (qM (qL zJ (qR (pv 0) rfl) (zX xF (qR (pv 0) rfl) (pv 1)) (fun _ _=>rfl))),?_⟩
  walk_at "e"
  obtain⟨vs,hs,hd⟩:=h.so
  unfold Ms.slot at he
  split at he
  ·rename_i hlt
   obtain⟨x,hx1,hx2⟩:=hd.get (i:=m.base+k) (d:=v.dt) (by rw[List.getElem?_map,List.getElem?_reverse hlt,he];rfl)
   refine⟨_,rfl,d.m,d.C,d.dx,_,_,rfl,h.mo,M.cl,M.n3,xL _ _,_,rfl,d.m,d.C,d.dx,_,_,rfl,h.mo,M.cl,M.n4,lA _ _,_,rfl,_,_,rfl,rfl,d.st,vs,_,x,rfl,rfl,zH.of hs,?_,q x hx2⟩
   rw[show((m.base:Int)+(k:Int))=((m.base+k:Nat):Int) by omega]
   exact qY hx1
  ·cases he
theorem zQj:qO p2 p2 (qU qKq):=by walk_at "s"
theorem qG6(F:zZ K "put_slot" "put_slot" qKq .none f fd)(M:Mc K C)(GI:Kn P w K mg base 1 "in_slot" ["machine","slot"] (sQ K C)):qS P w K mg base (CXE P w) 2 f fd p2 (gG K C CH fun o=>∃k,o= .get k):=by
 refine F.ok0 zQj (fun vs H Q E h=>?_) (fun cdv A outer s H vs Q E hr h=>?_)
 ·obtain⟨H0,d,m,m',o,c,rfl,_⟩:=h
  rfl
 ·obtain⟨H0,d,m,m',o,c,rfl,rfl,rfl,h,hc,⟨k,rfl⟩,hw,hst,hp,he,hl,q⟩:=h
  obtain⟨ca,us,rfl,hca,hus⟩:=vT hc
  obtain⟨u,r,rfl,hu,hr0⟩:=qD hus
  cases zD hr0
  cases kU hu
  refine⟨_,qK (qN (jJ aq0 aq1 aq2 qA (qR (pv 0) rfl) (qQ (zY GI hr (qQ (pv 0) (qQ (qL qP (pv 1) qV (fun _ _=>rfl)) qJ))) qJ))),?_⟩
  walk_at "e"
  obtain⟨v,hv,rfl⟩:=aq6.mp he
  exact xN M h rfl ⟨_,rfl,_,rfl,ca,_,_,_,rfl,rfl,hca,qY (j:=1) rfl,H0,d,m,k,v,rfl,rfl,h,hv,fun x hx=>jU (v:=v) h hx (vI hw) fun H' h'=>q d.st d.th H' h'⟩
theorem zZ0:qO p2 p2 (qU qKj):=by walk_at "s"
theorem qG7(F:zZ K "turn_truth" "turn_truth" qKj .none f fd)(M:Mc K C):qS P w K mg base (CXE P w) 1 f fd p2 (gG K C CH fun o=>o= .not):=by
 refine F.ok0 zZ0 (fun vs H Q E h=>?_) (fun cdv A outer s H vs Q E hr h=>?_)
 ·obtain⟨H0,d,m,m',o,c,rfl,_⟩:=h
  rfl
 ·obtain⟨H0,d,m,m',o,c,rfl,rfl,rfl,h,hc,rfl,hw,hst,hp,he,hl,q⟩:=h
  refine⟨_,qK (qN (jJ aq0 aq1 aq2 qA (qR (pv 0) rfl) (qQ (qP9 (xQ aq0 aq3 aq4 xZ (qR (pv 0) rfl))) qJ))),?_⟩
  walk_at "e"
  simp only[Ms.exec]at he
  split at he
  ·rename_i b r hs
   cases he
   have hl1:r.length<sizeLine:=by have :=vI hw;rw[hs]at this;exact Nat.lt_of_succ_lt this
   exact xN M h rfl (vS M h rfl hs fun x H1 hx h1=>⟨b,mL hx,jU (v:=.bl (!b)) h1 (by show qW K H1 (.bl _) _;rw[qW]) hl1 fun H' h'=>q d.st d.th H' h'⟩)
  ·cases he
theorem zYj:qO p2 p2 (qU qAj):=by walk_at "s"
theorem zZ1(F:zZ K "ask_empty" "ask_empty" qAj .none f fd)(M:Mc K C)(zE:mg "EMPTY"=some .none):qS P w K mg base (CXE P w) 2 f fd p2 (gG K C CH fun o=>o= .empty):=by
 refine F.ok0 zYj (fun vs H Q E h=>?_) (fun cdv A outer s H vs Q E hr h=>?_)
 ·obtain⟨H0,d,m,m',o,c,rfl,_⟩:=h
  rfl
 ·obtain⟨H0,d,m,m',o,c,rfl,rfl,rfl,h,hc,rfl,hw,hst,hp,he,hl,q⟩:=h
  refine⟨_,qK (qN (jJ aq0 aq1 aq2 qA (qR (pv 0) rfl) (qQ (jZ vD (xQ aq0 aq3 aq4 xZ (qR (pv 0) rfl)) (zR (v:=.non) (by rfl) zE rfl) (nomark _)) qJ))),?_⟩
  walk_at "e"
  simp only[Ms.exec]at he
  split at he
  ·rename_i v r hs
   cases he
   have hl1:r.length<sizeLine:=by have :=vI hw;rw[hs]at this;exact Nat.lt_of_succ_lt this
   have hdv:=gJ v
   refine xN M h rfl (vS M h rfl hs fun x H1 hx h1=>⟨v.dt,.non,hx,by rw[qW],xR hr (by omega),?_⟩)
   rw[oQ]
   exact jU (v:=.bl (decide (v= .nil))) h1 (by show qW K H1 (.bl _) _;rw[qW]) hl1 fun H' h'=>q d.st d.th H' h'
  ·cases he
end
section
variable {K:Fg} {H0 H:Hp} {d:Ad} {m:Ms} {σ:St} {D:Ends} {R:VK}
theorem qV9{k:Nat}{t:Th}(h:MS K H0 d m H)(e:m.things[k]? =some t):∃ts a u w,H d.th=some (.lst ts)/\ts[k]? =some (.ref a)/\zO K H a [.str t.sort.str,.ref u]/\zO K H u w/\qI K H (t.held.map AV.dt) w:=by
 obtain⟨ts,hs,hd⟩:=h.to
 obtain⟨x,hx1,hx2⟩:=hd.get (i:=k) (d:=t.dt) (by rw[List.getElem?_map,e];rfl)
 obtain⟨a,u,rfl,ha,hu⟩:=kC hx2
 obtain⟨b,w,rfl,hb,hw⟩:=kN hu
 exact⟨ts,a,b,w,hs,hx1,ha,hb,hw⟩
theorem zZ2{k:Nat}{x:V}(h:qW K H (AV.at_ k).dt x):∃a,x= .ref a/\zO K H a [.str "at",.int (k:Nat)]:=by
 obtain⟨a,u,rfl,ha,hu⟩:=kC h
 cases kU hu
 exact⟨a,rfl,ha⟩
end
section
variable {P:Program} {w:World} {K:Fg} {mg:Str->Option Value} {base:Heap} {C CH f:Addr} {fd:FuncData}
inductive sZ(K:Fg)(CH:Addr)(vs:List V)(H:Hp)(Q:VK):Prop
 |mk (H0:Hp) (d:Ad) (m:Ms) (k:Nat) (t:Th) (x:V) (a_0:vs=[.ref d.hp,x]) (a_1:d.CH=CH) (a_2:MS K H0 d m H) (a_3:qW K H (AV.at_ k).dt x) (a_4:m.things[k]? =some t) (a_5:∀u w,zO K H u w->qI K H (t.held.map AV.dt) w->Q (.ref u) H):sZ K CH vs H Q
def pX(K:Fg)(CH:Addr):Sp:=fun vs H Q x_0=>sZ K CH vs H Q
theorem zZ3:qO ["self","reference"] ["self","reference"] (qU qV4):=by walk_at "s"
theorem qG8(F:zZ K "held_by" "Heap.held_by" qV4 .none f fd)(M:Hc K CH):qS P w K mg base (CXE P w) 1 f fd ["self","reference"] (pX K CH):=by
 refine F.ok0 zZ3 (fun vs H Q E h=>?_) (fun cdv A outer s H vs Q E hr h=>?_)
 ·obtain⟨H0,d,m,k,t,x,rfl,_⟩:=h
  rfl
 ·obtain⟨H0,d,m,k,t,x,rfl,rfl,h,hx,ht,q⟩:=h
  refine⟨_,qK (qM (qL qP (qL zJ (qR (pv 0) rfl) (qL qP (pv 1) qV (fun _ _=>rfl)) (fun _ _=>rfl)) qV (fun _ _=>rfl))),?_⟩
  walk_at "e"
  obtain⟨a,rfl,ha⟩:=zZ2 hx
  obtain⟨ts,ta,u,ws,h1,h2,h3,h4,h5⟩:=qV9 h ht
  exact⟨_,rfl,d.hp,d.CH,d.dh,_,_,rfl,h.ho,M.cl,M.n2,yB _ _,⟨_,rfl,a,_,_,_,rfl,rfl,ha,qY (j:=1) rfl,d.th,ts,_,_,rfl,rfl,zH.of h1,qY h2,ta,_,_,_,rfl,rfl,h3,qY (j:=1) rfl,q u ws h4 h5⟩⟩
inductive qFz(K:Fg)(CH:Addr)(g:Ms->V)(vs:List V)(H:Hp)(Q:VK):Prop
 |mk (H0:Hp) (d:Ad) (m:Ms) (a_0:vs=[.ref d.hp]) (a_1:d.CH=CH) (a_2:MS K H0 d m H) (a_3:Q (g m) H):qFz K CH g vs H Q
def zZ4(K:Fg)(CH:Addr)(g:Ms->V):Sp:=fun vs H Q x_0=>qFz K CH g vs H Q
theorem zZ5:qO ["self"] ["self"] (qU qV3):=by walk_at "s"
theorem qG9(F:zZ K "is_full" "Heap.is_full" qV3 .none f fd)(M:Hc K CH)(zL:mg "len"=none):qS P w K mg base (CXE P w) 1 f fd ["self"] (zZ4 K CH fun m=>.bl (decide (m.room<=m.things.length))):=by
 refine F.ok0 zZ5 (fun vs H Q E h=>?_) (fun cdv A outer s H vs Q E hr h=>?_)
 ·obtain⟨H0,d,m,rfl,_⟩:=h
  rfl
 ·obtain⟨H0,d,m,rfl,rfl,h,q⟩:=h
  refine⟨_,qK (qM (jZ qN5 (zI zG (by rfl) zL aq16 (qQ (qR (pv 0) rfl) qJ)) (qR (pv 0) rfl) (nomark _))),?_⟩
  walk_at "e"
  obtain⟨ts,hs,hd⟩:=h.to
  refine⟨_,rfl,d.hp,d.CH,d.dh,_,_,rfl,h.ho,M.cl,M.n2,yB _ _,⟨d.th,ts,rfl,.inl (zH.of hs),⟨_,rfl,d.hp,d.CH,d.dh,_,_,rfl,h.ho,M.cl,M.n1,zQ2 _ _,⟨_,_,rfl,rfl,?_⟩⟩⟩⟩
  have e:decide (((m.room:Nat):Int)<=((ts.length:Nat):Int))=decide (m.room<=m.things.length):=by
   have :ts.length=m.things.length:=by rw[hd.length,List.length_map]
   rw[Bool.eq_iff_iff];simp;omega
  show Q (V.bl (decide (((m.room:Nat):Int)<=((ts.length:Nat):Int)))) H
  rw[e]
  exact q
inductive qVq(K:Fg)(vs:List V)(H:Hp)(Q:VK):Prop
 |mk (k:Nat) (a_0:vs=[.int (k:Nat)]) (a_1:∀x H',Grow H H'->qW K H' (AV.at_ k).dt x->Q x H'):qVq K vs H Q
def qFj(K:Fg):Sp:=fun vs H Q x_0=>qVq K vs H Q
theorem zU0:qO ["place"] ["place"] (qU qA9):=by walk_at "s"
theorem zZ6(F:zZ K "reference_to" "reference_to" qA9 .none f fd):qS P w K mg base (CXE P w) 1 f fd ["place"] (qFj K):=by
 refine F.ok0 zU0 (fun vs H Q E h=>?_) (fun cdv A outer s H vs Q E hr h=>?_)
 ·obtain⟨k,rfl,_⟩:=h
  rfl
 ·obtain⟨k,rfl,q⟩:=h
  refine⟨_,qK (qM (zF (qQ qC (qQ (pv 0) qJ)))),?_⟩
  walk_at "e"
  exact⟨_,rfl,(by show 2<=sizeLine;decide),fun t ht=>q _ _ (Grow.put ht) (cW (zO.of qX) (by rw[qW]))⟩
inductive sJ(K:Fg)(CH:Addr)(vs:List V)(H:Hp)(Q:VK):Prop
 |mk (H0:Hp) (d:Ad) (m:Ms) (s:Srt) (hl:Addr) (hs:List AV) (xs:List V) (a_0:vs=[.ref d.hp,.str s.str,.ref hl]) (a_1:d.CH=CH) (a_2:MS K H0 d m H) (a_3:H hl=some (.lst xs)) (a_4:qI K H (hs.map AV.dt) xs) (a_5:m.things.length<m.room) (a_6:m.room<=1000) (a_7:∀x H',jG K H H'->MS K H0 d {m with things:=m.things++[⟨s,hs⟩],made:=m.made+1} H'->qW K H' (AV.at_ m.things.length).dt x->Q x H'):sJ K CH vs H Q
def pK(K:Fg)(CH:Addr):Sp:=fun vs H Q x_0=>sJ K CH vs H Q
theorem qGq:qO ["self","sort","held"] ["self","sort","held"] (qU pQ):=by walk_at "s"
theorem qVz{ff:Addr}{ffd:FuncData}(F:zZ K "make" "Heap.make" pQ .none f fd)(M:Hc K CH)(zL:mg "len"=none)(zT:mg "tuple"=none)(mF:Meth K CH "is_full" ff)(GF:qS P w K mg base (CXE P w) 1 ff ffd ["self"] (zZ4 K CH fun m=>.bl (decide (m.room<=m.things.length))))(bF:Binds K ffd ["self"] [])
  (GR:Kn P w K mg base 1 "reference_to" ["place"] (qFj K)):qS P w K mg base (CXE P w) 2 f fd ["self","sort","held"] (pK K CH):=by
 refine F.ok0 qGq (fun vs H Q E h=>?_) (fun cdv A outer s H vs Q E hr h=>?_)
 ·obtain⟨H0,d,m,s,hl,hs,xs,rfl,_⟩:=h
  rfl
 ·obtain⟨H0,d,m,sr,hl,hs,xs,rfl,rfl,h,h1,h2,hlt,hrm,q⟩:=h
  refine⟨_,qZ (zC (jE (wE (pv 0) M.cl mF GF hr bF .nil zS)) jF zQ)
   (qZ (qN (jJ aq0 aq1 aq2 qA (qR (pv 0) rfl) (qQ (zF (qQ (pv 1) (qQ (xW wW (by rfl) zT PyProof.Rows.boot_tuple (qQ (pv 2) qJ)) qJ))) qJ)))
   (qZ (kH (pv 0) qV oO)
   (qK (qM (zY GR hr (qQ (zX cA (zI zG (by rfl) zL aq16 (qQ (qR (pv 0) rfl) qJ)) qV) qJ)))))),?_⟩
  walk_at "e"
  refine⟨_,rfl,d.hp,d.dh,_,rfl,h.ho,wD _ _ (by decide+kernel),H0,d,m,rfl,rfl,h,_,rfl,?_⟩
  rw[decide_eq_false (show¬m.room<=m.things.length by omega)]
  refine jO ?_
  obtain⟨ts,ht1,ht2⟩:=h.to
  refine⟨_,rfl,d.hp,d.CH,d.dh,_,_,rfl,h.ho,M.cl,M.n2,yB _ _,⟨.inl ⟨rfl,_,zH.of ht1⟩,_,rfl,_,rfl,hl,xs,rfl,.inl ⟨zH.of h1,fun t0 ht0=>?_⟩⟩⟩
  have g1:Grow H (upd H t0 (.tup xs)):=Grow.put ht0
  have e0:(upd H t0 (.tup xs)) t0=some (.tup xs):=qX
  generalize upd H t0 (.tup xs)=H1 at g1 e0⊢
  refine⟨(by show 2<=sizeLine;decide),fun t1 ht1'=>?_⟩
  have g2:Grow H1 (upd H1 t1 (.tup [.str sr.str,.ref t0])):=Grow.put ht1'
  have e1:(upd H1 t1 (.tup [.str sr.str,.ref t0])) t1=some (.tup [.str sr.str,.ref t0]):=qX
  generalize upd H1 t1 (.tup [.str sr.str,.ref t0])=H2 at g2 e1⊢
  have g12:=g1.trans g2
  have hM2:=h.grow g12
  have hx:qW K H2 (Th.dt ⟨sr,hs⟩) (.ref t1):=cW (zO.of e1) (wM (zO.of (g2.same _ _ e0)) (h2.mono g12.same))
  have hts:=ht2.mono g12.same
  have htl:ts.length=m.things.length:=by rw[ht2.length,List.length_map]
  refine⟨d.th,ts,_,rfl,rfl,g12.same _ _ ht1,by rw[sizeLine_eq];omega,?_⟩
  have hM3:=hM2.setT (s:=m.things++[⟨sr,hs⟩]) (vs:=ts++[.ref t1]) (by rw[List.map_append];exact qI.append hts (qF hx qT))
  have k3:jG K H (upd H2 d.th (.lst (ts++[.ref t1]))):=wF (cO g12) (zB (g12.same _ _ ht1))
  show iG _ _ _ _ (upd H2 d.th (.lst (ts++[.ref t1])))
  generalize upd H2 d.th (.lst (ts++[.ref t1]))=H3 at hM3 k3⊢
  refine⟨_,rfl,d.hp,d.CH,d.dh,_,_,rfl,hM3.ho,M.cl,M.n3,zQ3 _ _,_,_,rfl,rfl,d.dh,_,hM3.ho,zY8 _ _,?_⟩
  rw[show((({m with things:=m.things++[⟨sr,hs⟩]}:Ms).made:Nat):Int)+1=((m.made+1:Nat):Int) by show((m.made:Nat):Int)+1=_;omega,zQ4]
  have hM4:=hM3.setH (m.made+1)
  have k4:=wF k3 (kW (K:=K) (gs:=hfl d {m with things:=m.things++[⟨sr,hs⟩],made:=m.made+1}) hM3.ho)
  generalize upd H3 d.hp _=H4 at hM4 k4⊢
  obtain⟨ts4,hs4,hd4⟩:=hM4.to
  refine⟨_,rfl,d.hp,d.CH,d.dh,_,_,rfl,hM4.ho,M.cl,M.n2,yB _ _,d.th,ts4,rfl,.inl (zH.of hs4),_,_,rfl,rfl,m.things.length,?_,fun x H5 g5 hx5=>?_⟩
  ·have :ts4.length=m.things.length+1:=by rw[hd4.length,List.length_map];simp
   rw[this]
   show[V.int _]=[V.int _]
   congr 2
   omega
  ·exact q x H5 (wF k4 (cO g5)) (hM4.grow g5) hx5
end
section
variable {K:Fg} {H0 H:Hp} {d:Ad} {m:Ms} {σ:St} {D:Ends} {R:VK}
theorem cut2(x y:V)(r:List V):oB (x::y::r) (some 2) none=r:=by
 have e:HT.sIx (x::y::r).length 0 (some 2)=2:=by
  simp[HT.sIx]
  try omega
 unfold oB
 rw[e]
 simp[HT.sIx]
theorem qVj(x y:V)(r:List V):¬(HT.sIx (x::y::r).length 0 (some 2)=0/\HT.sIx (x::y::r).length (x::y::r).length none=(x::y::r).length):=by
 rintro⟨h,_⟩
 simp[HT.sIx]at h
 try omega
theorem qGz{l:List AV}{h:Nat}(e:l.length<=h):Ms.cut l h=l:=by unfold Ms.cut;rw[show l.length-h=0 by omega];rfl
theorem qW0{v:AV}{l:List AV}{h:Nat}(e:h<=l.length):Ms.cut (v::l) h=Ms.cut l h:=by
 unfold Ms.cut
 rw[List.length_cons,show l.length+1-h=(l.length-h)+1 by omega];rfl
end
section
variable {P:Program} {w:World} {K:Fg} {mg:Str->Option Value} {base:Heap} {C CH f fH:Addr} {fd fdH:FuncData}
inductive qH0(K:Fg)(C:Addr)(CH:Addr)(vs:List V)(H:Hp)(Q:VK):Prop
 |mk (H0:Hp) (d:Ad) (m:Ms) (m':Ms) (x:Str) (i:Nat) (a_0:vs=[.ref d.m,.int (i:Nat)]) (a_1:d.C=C) (a_2:d.CH=CH) (a_3:MS K H0 d m H) (a_4:m.Wf) (a_5:m.exec (.take x i)=some m') (a_6:∀H',MS K H0 d m' H'->Q .non H'):qH0 K C CH vs H Q
def zZ7(K:Fg)(C CH:Addr):Sp:=fun vs H Q x_0=>qH0 K C CH vs H Q
theorem qH1:qO ["machine","which","holder"] ["machine","which"] (qU qE2):=by walk_at "s"
theorem zZ8(F:zZ K "take_held" "take_held" qE2 .none f fd)(M:Mc K C)(N:Hc K CH)(zE:mg "EMPTY"=some .none)(mH:Meth K CH "held_by" fH)(GH:qS P w K mg base (CXE P w) 1 fH fdH ["self","reference"] (pX K CH))(bH:Binds K fdH ["self","reference"] []):qS P w K mg base (CXE P w) 2 f fd ["machine","which"] (zZ7 K C CH):=by
 refine F.ok0 qH1 (fun vs H Q E h=>?_) (fun cdv A outer s H vs Q E hr h=>?_)
 ·obtain⟨H0,d,m,m',x,i,rfl,_⟩:=h
  rfl
 ·obtain⟨H0,d,m,m',x,i,rfl,rfl,rfl,h,hw,he,q⟩:=h
  refine⟨_,qZ (qB (i:=2) qH1.nd rfl (Or.inl rfl) (xQ aq0 aq3 aq4 xZ (qR (pv 0) rfl)))
   (qK (zC (qE vD (pv 2) (zR (v:=.non) (by rfl) zE rfl) (nomark _)) (qK (jP (pv 0) qC rfl))
    (qK (qN (jJ aq0 aq1 aq2 qA (qR (pv 0) rfl) (qQ (qL qP (wA (qR (pv 0) rfl) N.cl mH GH hr bH .nil zS (qQ (pv 2) qJ)) (pv 1) (fun _ _=>rfl)) qJ)))))),?_⟩
  walk_at "e"
  simp only[Ms.exec]at he
  split at he
  ·rename_i r hs
   cases he
   refine vS M h rfl hs fun y H1 hy h1=>?_
   walk_at "d"
   refine⟨_,rfl,AV.nil.dt,.non,hy,by rw[qW],xR hr (Nat.le_trans (gJ _) (by decide)),_,rfl,?_⟩
   rw[oQ,decide_eq_true rfl]
   exact jN (iW M h1 rfl .ofEmpty fun H' h'=>q H' h')
  ·rename_i k r hs
   obtain⟨t,ht,he⟩:=aq5.mp he
   obtain⟨v,hv,rfl⟩:=aq6.mp he
   have hl1:r.length<sizeLine:=by have :=vI hw;rw[hs]at this;exact Nat.lt_of_succ_lt this
   refine vS M h rfl hs fun y H1 hy h1=>?_
   walk_at "d"
   refine⟨_,rfl,(AV.at_ k).dt,.non,hy,by rw[qW],xR hr (Nat.le_trans (gJ _) (by decide)),_,rfl,?_⟩
   rw[oQ,decide_eq_false (by intro z;cases z)]
   refine jO (xN M h1 rfl (⟨_,rfl,d.m,d.C,d.dx,_,_,rfl,h1.mo,M.cl,M.n2,wB _ _,⟨d.hp,d.dh,_,rfl,h1.ho,wD _ _ (by decide+kernel),_,rfl,H0,d,_,k,t,y,rfl,rfl,h1,hy,ht,fun u us hu hus=>?_⟩⟩))
   obtain⟨z,hz1,hz2⟩:=hus.get (i:=i) (d:=v.dt) (by rw[List.getElem?_map,hv];rfl)
   exact⟨_,rfl,u,us,_,z,rfl,rfl,hu,qY hz1,jU (v:=v) h1 hz2 hl1 fun H' h'=>q H' h'⟩
  ·cases he
theorem zU1:qO p2 p2 (qU qE0):=by walk_at "s"
theorem zU2:qO p2 p2 (qU qE1):=by walk_at "s"
theorem zZ9(F:zZ K "take_first" "take_first" qE0 .none f fd)(GT:Kn P w K mg base 2 "take_held" ["machine","which"] (zZ7 K C CH)):qS P w K mg base (CXE P w) 3 f fd p2 (gG K C CH fun o=>∃x,o= .take x 0):=by
 refine F.ok0 zU1 (fun vs H Q E h=>?_) (fun cdv A outer s H vs Q E hr h=>?_)
 ·obtain⟨H0,d,m,m',o,c,rfl,_⟩:=h
  rfl
 ·obtain⟨H0,d,m,m',o,c,rfl,rfl,rfl,h,hc,⟨x,rfl⟩,hw,hst,hp,he,hl,q⟩:=h
  refine⟨_,qK (qN (zY GT hr (qQ (pv 0) (qQ qV qJ)))),?_⟩
  walk_at "e"
  exact⟨_,rfl,H0,d,m,m',x,0,rfl,rfl,rfl,h,hw,he,fun H' h'=>q d.st d.th H' h'⟩
theorem zZq(F:zZ K "take_second" "take_second" qE1 .none f fd)(GT:Kn P w K mg base 2 "take_held" ["machine","which"] (zZ7 K C CH)):qS P w K mg base (CXE P w) 3 f fd p2 (gG K C CH fun o=>∃x,o= .take x 1):=by
 refine F.ok0 zU2 (fun vs H Q E h=>?_) (fun cdv A outer s H vs Q E hr h=>?_)
 ·obtain⟨H0,d,m,m',o,c,rfl,_⟩:=h
  rfl
 ·obtain⟨H0,d,m,m',o,c,rfl,rfl,rfl,h,hc,⟨x,rfl⟩,hw,hst,hp,he,hl,q⟩:=h
  refine⟨_,qK (qN (zY GT hr (qQ (pv 0) (qQ qV qJ)))),?_⟩
  walk_at "e"
  exact⟨_,rfl,H0,d,m,m',x,1,rfl,rfl,rfl,h,hw,he,fun H' h'=>q d.st d.th H' h'⟩
theorem pV:qO ["machine","order","other","one"] p2 (qU qKz):=by walk_at "s"
theorem qGj(F:zZ K "reckon_sum" "reckon_sum" qKz .none f fd)(M:Mc K C)(GN:Kn P w K mg base 1 "is_by_nought" ["word","other"] qF9)(GS:Kn P w K mg base 3 "sum_of" ["word","one","other"] rA):qS P w K mg base (CXE P w) 4 f fd p2 (gG K C CH fun o=>∃x,o= .sum x):=by
 refine F.ok0 pV (fun vs H Q E h=>?_) (fun cdv A outer s H vs Q E hr h=>?_)
 ·obtain⟨H0,d,m,m',o,c,rfl,_⟩:=h
  rfl
 ·obtain⟨H0,d,m,m',o,c,rfl,rfl,rfl,h,hc,⟨x,rfl⟩,hw,hst,hp,he,hl,q⟩:=h
  obtain⟨ca,us,rfl,hca,hus⟩:=vT hc
  cases zD hus
  refine⟨_,qZ (qB (i:=2) pV.nd rfl (Or.inl rfl) (xQ aq0 aq3 aq4 xZ (qR (pv 0) rfl)))
   (qZ (qB (i:=3) pV.nd rfl (Or.inl rfl) (xQ aq0 aq3 aq4 xZ (qR (pv 0) rfl)))
   (qK (zC (jE (zY GN (hr.mono (by omega)) (qQ (qL qP (pv 1) qV (fun _ _=>rfl)) (qQ (pv 2) qJ))))
    (qK (jP (pv 0) qC rfl))
    (qK (qN (jJ aq0 aq1 aq2 qA (qR (pv 0) rfl) (qQ (zY GS hr (qQ (qL qP (pv 1) qV (fun _ _=>rfl)) (qQ (pv 3) (qQ (pv 2) qJ)))) qJ))))))),?_⟩
  walk_at "e"
  simp only[Ms.exec]at he
  split at he
  ·rename_i b a r hs
   have hl1:r.length<sizeLine:=by have :=vI hw;rw[hs]at this;exact Nat.lt_of_succ_lt (Nat.lt_of_succ_lt this)
   have ha:In64 a:=hw.iv (.int a) (by rw[hs];simp)
   have hb:In64 b:=hw.iv (.int b) (by rw[hs];simp)
   have hca':zO K H ca [.str (w7 x).str]:=by rw[<-zQ5];exact hca
   obtain⟨g1,g2⟩:Grow H0 H/\True:=⟨h.g,trivial⟩
   have kp:∀{H':Hp}{m1:Ms}{v:AV},MS K H0 d m1 H'->True:=fun _=>trivial
   refine gQ M h rfl hs hca' fun y H1 hy h1 hc1=>?_
   walk_at "d"
   cases kU hy
   refine gQ M h1 rfl rfl hc1 fun y H2 hy h2 hc2=>?_
   walk_at "d"
   cases kU hy
   refine⟨_,rfl,ca,_,_,_,rfl,rfl,hc2,qY (j:=0) rfl,_,rfl,w7 x,b,rfl,fun H3 g3=>⟨_,rfl,?_⟩⟩
   have h3:=h2.grow g3
   have hc3:=zO.mono g3.same hc2
   rw[<-cI]
   refine ite2 (fun z=>?_) (fun z=>?_)
   ·rw[if_pos z]at he
    cases he
    exact iW M h3 rfl .byNought fun H' h'=>q d.st d.th H' h'
   ·rw[if_neg z]at he
    cases he
    have hz:divs (w7 x)=true->b≠0:=fun e1 e2=>z (by rw[cI];unfold nought;rw[e1,e2];rfl)
    exact xN M h3 rfl ⟨_,rfl,ca,_,_,_,rfl,rfl,hc3,qY (j:=0) rfl,_,rfl,_,rfl,w7 x,a,b,rfl,ha,hb,hz,jU (v:=Ms.sumV x a b) h3 (zQ7 x a b) hl1 fun H' h'=>q d.st d.th H' h'⟩
  ·cases he
theorem qM0:qO p2 p2 (qU hC):=by walk_at "s"
theorem qW1(F:zZ K "pass_over" "pass_over" hC .none f fd)(M:Mc K C):qS P w K mg base (CXE P w) 1 f fd p2 (gG K C CH fun o=>∃k,o= .skip k):=by
 refine F.ok0 qM0 (fun vs H Q E h=>?_) (fun cdv A outer s H vs Q E hr h=>?_)
 ·obtain⟨H0,d,m,m',o,c,rfl,_⟩:=h
  rfl
 ·obtain⟨H0,d,m,m',o,c,rfl,rfl,rfl,h,hc,⟨k,rfl⟩,hw,hst,hp,he,hl,q⟩:=h
  obtain⟨ca,us,rfl,hca,hus⟩:=vT hc
  obtain⟨u,r,rfl,hu,hr0⟩:=qD hus
  cases zD hr0
  cases kU hu
  refine⟨_,qK (kH (pv 0) (qL qP (pv 1) qV (fun _ _=>rfl)) oO),?_⟩
  walk_at "e"
  cases he
  exact gX M h rfl ⟨_,rfl,ca,_,_,_,rfl,rfl,hca,qY (j:=1) rfl,gK h k fun H' h'=>q d.st d.th H' h'⟩
theorem zU3:qO p2 p2 (qU qEq):=by walk_at "s"
theorem zZz(F:zZ K "pass_unless" "pass_unless" qEq .none f fd)(M:Mc K C):qS P w K mg base (CXE P w) 1 f fd p2 (gG K C CH fun o=>∃k,o= .unless k):=by
 refine F.ok0 zU3 (fun vs H Q E h=>?_) (fun cdv A outer s H vs Q E hr h=>?_)
 ·obtain⟨H0,d,m,m',o,c,rfl,_⟩:=h
  rfl
 ·obtain⟨H0,d,m,m',o,c,rfl,rfl,rfl,h,hc,⟨k,rfl⟩,hw,hst,hp,he,hl,q⟩:=h
  obtain⟨ca,us,rfl,hca,hus⟩:=vT hc
  obtain⟨u,r,rfl,hu,hr0⟩:=qD hus
  cases zD hr0
  cases kU hu
  refine⟨_,qK (zC (wU (jE (xQ aq0 aq3 aq4 xZ (qR (pv 0) rfl)))) (qK (kH (pv 0) (qL qP (pv 1) qV (fun _ _=>rfl)) oO)) zQ),?_⟩
  walk_at "e"
  simp only[Ms.exec]at he
  split at he
  ·rename_i b r hs
   refine gQ M h rfl hs hca fun y H1 hy h1 hc1=>⟨b,mL hy,?_⟩
   cases b with
   |true=>
    cases he
    exact jO (q d.st d.th H1 h1)
   |false=>
    cases he
    exact jN (gX M h1 rfl ⟨_,rfl,ca,_,_,_,rfl,rfl,hc1,qY (j:=1) rfl,gK h1 k fun H' h'=>q d.st d.th H' h'⟩)
  ·cases he
theorem qH2:qO ["machine","order","value"] p2 (qU qEz):=by walk_at "s"
theorem zZj(F:zZ K "slide" "slide" qEz .none f fd)(M:Mc K C):qS P w K mg base (CXE P w) 1 f fd p2 (gG K C CH fun o=>o= .slide):=by
 refine F.ok0 qH2 (fun vs H Q E h=>?_) (fun cdv A outer s H vs Q E hr h=>?_)
 ·obtain⟨H0,d,m,m',o,c,rfl,_⟩:=h
  rfl
 ·obtain⟨H0,d,m,m',o,c,rfl,rfl,rfl,h,hc,rfl,hw,hst,hp,he,hl,q⟩:=h
  refine⟨_,qZ (qB (i:=2) qH2.nd rfl (Or.inl rfl) (xQ aq0 aq3 aq4 xZ (qR (pv 0) rfl)))
   (qZ (qN (xQ aq0 aq3 aq4 xZ (qR (pv 0) rfl)))
   (qK (qN (jJ aq0 aq1 aq2 qA (qR (pv 0) rfl) (qQ (pv 2) qJ))))),?_⟩
  walk_at "e"
  simp only[Ms.exec]at he
  split at he
  ·rename_i v u r hs
   cases he
   have hl1:r.length<sizeLine:=by have :=vI hw;rw[hs]at this;exact Nat.lt_of_succ_lt (Nat.lt_of_succ_lt this)
   refine vS M h rfl hs fun y H1 hy h1=>?_
   walk_at "d"
   refine gZ M h1 rfl rfl hy fun _ H2 _ h2 hy2=>?_
   exact xN M h2 rfl ⟨_,rfl,jU (v:=v) h2 hy2 hl1 fun H' h'=>q d.st d.th H' h'⟩
  ·cases he
inductive qW2(K:Fg)(C:Addr)(vs:List V)(H:Hp)(Q:VK):Prop
 |mk (H0:Hp) (d:Ad) (m:Ms) (h:Nat) (a_0:vs=[.ref d.m,.int (h:Nat)]) (a_1:d.C=C) (a_2:MS K H0 d m H) (a_3:∀H',jG K H H'->MS K H0 d {m with stk:=Ms.cut m.stk h} H'->Q .non H'):qW2 K C vs H Q
def qW3(K:Fg)(C:Addr):Sp:=fun vs H Q x_0=>qW2 K C vs H Q
theorem zU4:qO ["machine","height"] ["machine","height"] (qU qE9):=by walk_at "s"
theorem zJ0(F:zZ K "cut_stack" "cut_stack" qE9 .none f fd)(M:Mc K C)(zL:mg "len"=none):qS P w K mg base (CXE P w) 1 f fd ["machine","height"] (qW3 K C):=by
 refine F.ok0 zU4 (fun vs H Q E h=>?_) (fun cdv A outer s H vs Q E hr h=>?_)
 ·obtain⟨H0,d,m,k,rfl,_⟩:=h
  rfl
 ·obtain⟨H0,d,m,k,rfl,rfl,h,q⟩:=h
  refine⟨_,qK (wS PassesOwn.never (qE iP (zI zG (by rfl) zL aq16 (qQ (qR (pv 0) rfl) qJ)) (pv 1) (nomark _)) (qK (qN (xQ aq0 aq3 aq4 xZ (qR (pv 0) rfl))))),?_⟩
  walk_at "e"
  refine⟨fun n σ H'=>σ=[some (.ref d.m),some (.int (k:Nat))]/\jG K H H'/\∃s:List AV,n=s.length/\MS K H0 d {m with stk:=s} H'/\Ms.cut s k=Ms.cut m.stk k,⟨_,rfl,fun _ _ h=>h,m.stk,rfl,h,rfl⟩,?_⟩
  rintro n σ H1 ⟨rfl,kt,s,rfl,h1,hc⟩
  obtain⟨vs,hs,hd⟩:=h1.so
  refine⟨_,rfl,d.m,d.C,d.dx,_,_,rfl,h1.mo,M.cl,M.n3,xL _ _,⟨d.st,vs,rfl,.inl (zH.of hs),_,rfl,_,_,rfl,rfl,_,rfl,?_⟩⟩
  have hlen:vs.length=s.length:=wJ hd
  refine ite2 (fun z=>?_) (fun z=>?_)
  ·have z':k<s.length:=by have :=of_decide_eq_true z;omega
   match s,z',h1,hc with
   |v::r,z',h1,hc=>
    refine⟨fun σ' H'=>σ'=[some (.ref d.m),some (.int (k:Nat))]/\jG K H H'/\MS K H0 d {m with stk:=r} H'/\Ms.cut r k=Ms.cut m.stk k,fun σ' H'⟨a1,a2,a3,a4⟩=>⟨r.length,by simp,a1,a2,r,rfl,a3,a4⟩,?_⟩
    refine qG1 M h1 rfl rfl fun _ H2 kt2 h2=>⟨rfl,fun a xs hx=>kt2 a xs (kt a xs hx),h2,?_⟩
    rw[<-hc,qW0 (by simp at z';omega)]
  ·have z':¬k<s.length:=fun y=>z (by rw[decide_eq_true];omega)
   have e:s=Ms.cut m.stk k:=by rw[<-hc,qGz (by omega)]
   subst e
   exact q H1 kt h1
end
theorem aU{α:Type}(xs:List α)(u v:α):dO (xs++[u,v]) (-2)=some u:=by
 have hl:(xs++[u,v]).length=xs.length+2:=by simp
 have e:ixN (xs++[u,v]).length (-2)=some xs.length:=by
  unfold ixN
  rw[hl,if_neg (by decide),if_pos (by omega)]
  congr 1
  omega
 unfold dO
 rw[e]
 show(xs++[u,v])[xs.length]? =some u
 simp
section
variable {P:Program} {w:World} {K:Fg} {mg:Str->Option Value} {base:Heap} {C CH f fH:Addr} {fd fdH:FuncData}
inductive qW4(K:Fg)(C:Addr)(CH:Addr)(vs:List V)(H:Hp)(Q:VK):Prop
 |mk (H0:Hp) (d:Ad) (m:Ms) (m':Ms) (k:Nat) (hv:AV) (fx:V) (hx:V) (a_0:vs=[.ref d.m,fx,hx]) (a_1:d.C=C) (a_2:d.CH=CH) (a_3:MS K H0 d m H) (a_4:qW K H (AV.at_ k).dt fx) (a_5:qW K H hv.dt hx) (a_6:m.enter k hv=some m') (a_7:m'.stk.length<=Ms.high) (a_8:∀H',MS K H0 d m' H'->Q .non H'):qW4 K C CH vs H Q
def qW5(K:Fg)(C CH:Addr):Sp:=fun vs H Q x_0=>qW4 K C CH vs H Q
theorem qH3:qO ["machine","function","handed","held"] ["machine","function","handed"] (qU qE8):=by walk_at "s"
theorem zJ1(F:zZ K "enter" "enter" qE8 .none f fd)(M:Mc K C)(N:Hc K CH)(mH:Meth K CH "held_by" fH)(GH:qS P w K mg base (CXE P w) 1 fH fdH ["self","reference"] (pX K CH))(bH:Binds K fdH ["self","reference"] []):qS P w K mg base (CXE P w) 2 f fd ["machine","function","handed"] (qW5 K C CH):=by
 refine F.ok0 qH3 (fun vs H Q E h=>?_) (fun cdv A outer s H vs Q E hr h=>?_)
 ·obtain⟨H0,d,m,m',k,hv,fx,hx,rfl,_⟩:=h
  rfl
 ·obtain⟨H0,d,m,m',k,hv,fx,hx,rfl,rfl,rfl,h,hf,hh,he,hl,q⟩:=h
  refine⟨_,qZ (qB (i:=3) qH3.nd rfl (Or.inl rfl) (wA (qR (pv 0) rfl) N.cl mH GH hr bH .nil zS (qQ (pv 1) qJ)))
   (qZ (jP (pv 0) (qL qP (pv 3) qV (fun _ _=>rfl)) rfl)
   (qZ (qN (jJ aq0 PySem.F.slot_list_extend PySem.F.type_list_extend hX (qR (pv 0) rfl) (qQ (oN eO (pv 3) (lX qV) lJ) qJ)))
   (qZ (zC (jE (qL qP (pv 3) qV (fun _ _=>rfl))) (qK (qN (jJ aq0 aq1 aq2 qA (qR (pv 0) rfl) (qQ (pv 1) qJ)))) zQ)
   (qK (qN (jJ aq0 aq1 aq2 qA (qR (pv 0) rfl) (qQ (pv 2) qJ))))))),?_⟩
  walk_at "e"
  unfold Ms.enter at he
  split at he
  ·rename_i sr pl rc kept ht
   split at he
   ·cases he
   rename_i hpl
   cases he
   refine⟨_,rfl,d.m,d.C,d.dx,_,_,rfl,h.mo,M.cl,M.n2,wB _ _,⟨d.hp,d.dh,_,rfl,h.ho,wD _ _ (by decide+kernel),_,rfl,H0,d,m,k,_,fx,rfl,rfl,h,hf,ht,fun u us hu hus=>?_⟩⟩
   walk_at "d"
   obtain⟨u0,us,rfl,h0,hus⟩:=qD hus
   obtain⟨u1,ks,rfl,h1,hks⟩:=qD hus
   cases kU h0
   cases mL h1
   refine⟨_,rfl,u,_,_,_,rfl,rfl,hu,qY (j:=0) rfl,_,rfl,d.m,d.C,d.dx,_,rfl,h.mo,M.cl,M.n5,uF _ _,?_⟩
   rw[show pl=((pl.toNat:Nat):Int) by omega,uE]
   have kt:=kW (K:=K) (gs:=mfl d {m with place:=pl.toNat}) h.mo
   have h2:=h.setM m.base pl.toNat m.st
   have hu2:=kt _ _ hu
   have hks2:=qI.monoT kt hks
   have hf2:=qW.monoT kt hf
   have hh2:=qW.monoT kt hh
   show iG _ _ _ _ (upd H d.m (.ins d.C d.dx (mfl d {m with place:=pl.toNat})))
   generalize upd H d.m (.ins d.C d.dx (mfl d {m with place:=pl.toNat}))=H2 at h2 hu2 hks2 hf2 hh2⊢
   obtain⟨vs,hs,hd⟩:=h2.so
   have hvl:vs.length=m.stk.length:=wJ hd
   have hkl:ks.length=kept.length:=by rw[hks.length,List.length_map]
   have hl':m.stk.length+kept.length+(if rc=true then 1 else 0)+1<=Ms.high:=by
    have e:(hv::((if rc=true then[AV.at_ k]else[])++(kept.reverse++m.stk))).length=m.stk.length+kept.length+(if rc=true then 1 else 0)+1:=by cases rc<;>simp <;>omega
    rw[<-e];exact hl
   refine⟨_,rfl,d.m,d.C,d.dx,_,_,rfl,h2.mo,M.cl,M.n3,xL _ _,⟨.inl ⟨rfl,_,zH.of hs⟩,_,rfl,_,rfl,u,_,rfl,hu2,qVj _ _ _,fun t ht=>?_⟩⟩
   rw[cut2]
   have g3:Grow H2 (upd H2 t (.tup ks)):=Grow.put ht
   have e3:(upd H2 t (.tup ks)) t=some (.tup ks):=qX
   have h3:=h2.grow g3
   have hu3:=zO.mono g3.same hu2
   have hks3:=hks2.mono g3.same
   have hf3:=hf2.mono g3.same
   have hh3:=hh2.mono g3.same
   have hs3:=g3.same _ _ hs
   have hd3:=hd.mono g3.same
   generalize upd H2 t (.tup ks)=H3 at g3 e3 h3 hu3 hks3 hf3 hh3 hs3 hd3⊢
   refine⟨d.st,t,vs,ks,rfl,rfl,hs3,zO.of e3,by unfold Ms.high at hl';rw[sizeLine_eq];omega,?_⟩
   have h4:=h3.setS (s:=kept.reverse++m.stk) (vs:=vs++ks) (by rw[List.reverse_append,List.reverse_reverse,List.map_append];exact qI.append hd3 hks3)
   have kt4:=zB (K:=K) (ys:=vs++ks) hs3
   have hu4:=kt4 _ _ hu3
   have hf4:=qW.monoT kt4 hf3
   have hh4:=qW.monoT kt4 hh3
   show iG _ _ _ _ (upd H3 d.st (.lst (vs++ks)))
   generalize upd H3 d.st (.lst (vs++ks))=H4 at h4 hu4 hf4 hh4⊢
   have fin:∀(s5:List AV)(H5:Hp),s5=(if rc=true then[AV.at_ k]else[])++(kept.reverse++m.stk)->MS K H0 d {m with place:=pl.toNat,stk:=s5} H5->qW K H5 hv.dt hx->aP (tBM K "list" vV (gS K (jY 0) "stack") (xO (jY 2) wC)) {nx:=fun _ H'=>Q .non H',rt:=Q} [some (.ref d.m),some fx,some hx,some (.ref u)] H5:=by
    intro s5 H5 e5 h5 hh5
    refine xN M h5 rfl ⟨_,rfl,jU (v:=hv) h5 hh5 ?_ fun H' h'=>q H' ?_⟩
    ·show s5.length<sizeLine
     have :s5.length+1=(hv::((if rc=true then[AV.at_ k]else[])++(kept.reverse++m.stk))).length:=by rw[e5];rfl
     exact zQ8 (by have :=hl;simp only at *;omega)
    ·subst e5;exact h'
   refine⟨_,rfl,u,_,_,_,rfl,rfl,hu4,qY (j:=1) rfl,rc,rfl,?_⟩
   cases rc with
   |true=>
    refine jN (xN M h4 rfl ⟨_,rfl,?_⟩)
    obtain⟨vs4,hs4,hd4⟩:=h4.so
    refine⟨d.st,vs4,fx,rfl,rfl,hs4,by rw[wJ hd4];show(kept.reverse++m.stk).length<_;unfold Ms.high at hl';rw[sizeLine_eq];simp at hl'⊢;omega,?_⟩
    exact fin _ _ rfl (h4.setS (lE (v:=.at_ k) hd4 hf4)) (qW.monoT (zB hs4) hh4)
   |false=>exact jO (fin _ _ rfl h4 hh4)
  ·cases he
structure GlK(mg:Str->Option Value):Prop where
 len:mg "len"=none
 most:∃t,mg "MOST_PENDING"=some (.int 40 t)
theorem zU5:qO p2 p2 (qU qE7):=by walk_at "s"
theorem zJ2(F:zZ K "call" "call" qE7 .none f fd)(M:Mc K C)(G:GlK mg)(GE:Kn P w K mg base 2 "enter" ["machine","function","handed"] (qW5 K C CH)):qS P w K mg base (CXE P w) 3 f fd p2 (gG K C CH fun o=>o= .call):=by
 refine F.ok0 zU5 (fun vs H Q E h=>?_) (fun cdv A outer s H vs Q E hr h=>?_)
 ·obtain⟨H0,d,m,m',o,c,rfl,_⟩:=h
  rfl
 ·obtain⟨H0,d,m,m',o,c,rfl,rfl,rfl,h,hc,rfl,hw,hst,hp,he,hl,q⟩:=h
  obtain⟨tm,mM⟩:=G.most
  refine⟨_,qZ (zC (qE qN5 (zI zG (by rfl) G.len aq16 (qQ (qR (pv 0) rfl) qJ)) (zR (v:=.int 40) (by rfl) mM ⟨tm,rfl⟩) (nomark _)) (qZ (jP (pv 0) qC rfl) (qK qO7)) zQ)
   (qZ (qN (jJ aq0 aq1 aq2 qA (qR (pv 0) rfl) (qQ (zF (qQ (qR (pv 0) rfl) (qQ (qR (pv 0) rfl) qJ))) qJ)))
   (qZ (jP (pv 0) (zI zG (by rfl) G.len aq16 (qQ (qR (pv 0) rfl) qJ)) rfl)
   (qK (qN (zY GE hr (qQ (pv 0) (qQ (qL zJ (qR (pv 0) rfl) (iH yA qV) (fun _ _=>rfl)) (qQ (qL zJ (qR (pv 0) rfl) (iH yA qV) (fun _ _=>rfl)) qJ)))))))),?_⟩
  walk_at "e"
  obtain⟨ps,hps,hpd⟩:=h.po
  have hpl:ps.length=m.pend.length:=by rw[hpd.length,List.length_map,List.length_reverse]
  refine⟨_,rfl,d.m,d.C,d.dx,_,_,rfl,h.mo,M.cl,M.n6,kS _ _,⟨d.pd,ps,rfl,.inl (zH.of hps),_,_,rfl,rfl,_,rfl,?_⟩⟩
  simp only[Ms.exec]at he
  split at he
  ·rename_i h40
   cases he
   rw[decide_eq_true (by omega)]
   exact jN (iW M h rfl .tooDeep fun H' h'=>q d.st d.th H' h')
  ·rename_i h40
   rw[decide_eq_false (by omega)]
   split at he
   ·rename_i hd k r hs
    refine jO (⟨_,rfl,d.m,d.C,d.dx,_,_,rfl,h.mo,M.cl,M.n6,kS _ _,⟨.inl ⟨rfl,_,zH.of hps⟩,⟨_,rfl,d.m,d.C,d.dx,_,_,rfl,h.mo,M.cl,M.n5,yN _ _,(⟨_,rfl,d.m,d.C,d.dx,_,_,rfl,h.mo,M.cl,M.n4,lA _ _,⟨(by show 2<=sizeLine;decide),fun t ht=>?_⟩⟩)⟩⟩⟩)
    have g1:Grow H (upd H t (.tup [.int (m.place:Nat),.int (m.base:Nat)])):=Grow.put ht
    have e1:(upd H t (.tup [.int (m.place:Nat),.int (m.base:Nat)])) t=some (.tup [.int (m.place:Nat),.int (m.base:Nat)]):=qX
    have h1:=h.grow g1
    have hps1:=g1.same _ _ hps
    have hpd1:=hpd.mono g1.same
    generalize upd H t (.tup [.int (m.place:Nat),.int (m.base:Nat)])=H1 at g1 e1 h1 hps1 hpd1⊢
    refine⟨d.pd,ps,_,rfl,rfl,hps1,by rw[sizeLine_eq];omega,?_⟩
    have h2:=h1.setP (s:=(m.place,m.base)::m.pend) (vs:=ps++[.ref t]) (by
     rw[List.reverse_cons,List.map_append]
     exact qI.append hpd1 (qF (wM (zO.of e1) (qF (by rw[qW]) (qF (by rw[qW]) qT))) qT))
    show iG _ _ _ _ (upd H1 d.pd (.lst (ps++[.ref t])))
    generalize upd H1 d.pd (.lst (ps++[.ref t]))=H2 at h2⊢
    obtain⟨vs,hsv,hdv⟩:=h2.so
    refine⟨_,rfl,d.m,d.C,d.dx,_,_,rfl,h2.mo,M.cl,M.n3,xL _ _,⟨d.st,vs,rfl,.inl (zH.of hsv),_,rfl,d.m,d.C,d.dx,_,rfl,h2.mo,M.cl,M.n4,uF _ _,?_⟩⟩
    rw[wJ hdv,qV6]
    have h3:=h2.setM m.stk.length m.place m.st
    show Ends.nx _ _ (upd H2 d.m (.ins d.C d.dx (mfl d {m with pend:=(m.place,m.base)::m.pend,base:=m.stk.length})))
    generalize upd H2 d.m (.ins d.C d.dx (mfl d {m with pend:=(m.place,m.base)::m.pend,base:=m.stk.length}))=H3 at h3⊢
    obtain⟨vs3,hs3,hd3⟩:=h3.so
    have hd3':=hd3
    rw[show({m with pend:=(m.place,m.base)::m.pend,base:=m.stk.length,place:=m.place,st:=m.st}:Ms).stk=hd::AV.at_ k::r from hs]at hd3'
    obtain⟨ws,hx,rfl,hhx,hw1⟩:=uY hd3'
    obtain⟨ws2,fx,rfl,hfx,hw2⟩:=uY hw1
    refine⟨_,rfl,⟨_,rfl,d.m,d.C,d.dx,_,_,rfl,h3.mo,M.cl,M.n3,xL _ _,⟨_,rfl,d.st,_,_,fx,rfl,rfl,zH.of hs3,by rw[List.append_assoc];exact aU ws2 fx hx,⟨_,rfl,d.m,d.C,d.dx,_,_,rfl,h3.mo,M.cl,M.n3,xL _ _,⟨_,rfl,d.st,_,_,hx,rfl,rfl,zH.of hs3,yQ _ hx,?_⟩⟩⟩⟩⟩
    exact⟨H0,d,_,m',k,hd,fx,hx,rfl,rfl,rfl,h3,hfx,hhx,he,hl,fun H' h'=>q d.st d.th H' h'⟩
   ·cases he
theorem gW:qO ["machine","order","handed","function"] p2 (qU hU):=by walk_at "s"
theorem qW6(F:zZ K "last_call" "last_call" hU .none f fd)(M:Mc K C)(GC:Kn P w K mg base 1 "cut_stack" ["machine","height"] (qW3 K C))(GE:Kn P w K mg base 2 "enter" ["machine","function","handed"] (qW5 K C CH)):qS P w K mg base (CXE P w) 3 f fd p2 (gG K C CH fun o=>o= .last):=by
 refine F.ok0 gW (fun vs H Q E h=>?_) (fun cdv A outer s H vs Q E hr h=>?_)
 ·obtain⟨H0,d,m,m',o,c,rfl,_⟩:=h
  rfl
 ·obtain⟨H0,d,m,m',o,c,rfl,rfl,rfl,h,hc,rfl,hw,hst,hp,he,hl,q⟩:=h
  refine⟨_,qZ (qB (i:=2) gW.nd rfl (Or.inl rfl) (xQ aq0 aq3 aq4 xZ (qR (pv 0) rfl)))
   (qZ (qB (i:=3) gW.nd rfl (Or.inl rfl) (xQ aq0 aq3 aq4 xZ (qR (pv 0) rfl)))
   (qZ (qN (zY GC (hr.mono (by omega)) (qQ (pv 0) (qQ (qR (pv 0) rfl) qJ))))
   (qK (qN (zY GE hr (qQ (pv 0) (qQ (pv 3) (qQ (pv 2) qJ)))))))),?_⟩
  walk_at "e"
  simp only[Ms.exec]at he
  split at he
  ·rename_i hd k r hs
   refine vS M h rfl hs fun y H1 hy h1=>?_
   walk_at "d"
   refine gZ M h1 rfl rfl hy fun z H2 hz h2 hy2=>?_
   walk_at "d"
   refine⟨_,rfl,⟨_,rfl,d.m,d.C,d.dx,_,_,rfl,h2.mo,M.cl,M.n4,lA _ _,⟨H0,d,_,m.base,rfl,rfl,h2,fun H3 kt3 h3=>?_⟩⟩⟩
   exact⟨_,rfl,_,rfl,_,rfl,H0,d,_,m',k,hd,z,y,rfl,rfl,rfl,h3,qW.monoT kt3 hz,qW.monoT kt3 hy2,he,hl,fun H' h'=>q d.st d.th H' h'⟩
  ·cases he
theorem pW:qO ["machine","order","value","went_on"] p2 (qU qV1):=by walk_at "s"
theorem qM1(F:zZ K "tell" "tell" qV1 .none f fd)(M:Mc K C)(GC:Kn P w K mg base 1 "cut_stack" ["machine","height"] (qW3 K C)):qS P w K mg base (CXE P w) 2 f fd p2 (gG K C CH fun o=>o= .tell):=by
 refine F.ok0 pW (fun vs H Q E h=>?_) (fun cdv A outer s H vs Q E hr h=>?_)
 ·obtain⟨H0,d,m,m',o,c,rfl,_⟩:=h
  rfl
 ·obtain⟨H0,d,m,m',o,c,rfl,rfl,rfl,h,hc,rfl,hw,hst,hp,he,hl,q⟩:=h
  refine⟨_,qZ (qB (i:=2) pW.nd rfl (Or.inl rfl) (xQ aq0 aq3 aq4 xZ (qR (pv 0) rfl)))
   (qZ (zC (oW (qR (pv 0) rfl) (fun _=>rfl))
    (qZ (qN (zY GC hr (qQ (pv 0) (qQ (zX cA (qR (pv 0) rfl) qV) qJ))))
    (qZ (qB (i:=3) pW.nd rfl (Or.inl rfl) (xQ aq0 aq3 aq4 xZ (qR (pv 0) rfl)))
    (qZ (jP (pv 0) (qL qP (pv 3) qV (fun _ _=>rfl)) rfl)
    (qK (jP (pv 0) (qL qP (pv 3) qV (fun _ _=>rfl)) rfl)))))
    (qZ (qN (zY GC hr (qQ (pv 0) (qQ qV qJ)))) (qK (jP (pv 0) qC rfl))))
   (qK (qN (jJ aq0 aq1 aq2 qA (qR (pv 0) rfl) (qQ (pv 2) qJ))))),?_⟩
  walk_at "e"
  simp only[Ms.exec]at he
  split at he
  ·rename_i v r hs
   have hl1:r.length<sizeLine:=by have :=vI hw;rw[hs]at this;exact Nat.lt_of_succ_lt this
   refine vS M h rfl hs fun y H1 hy h1=>?_
   walk_at "d"
   obtain⟨ps,hps,hpd⟩:=h1.po
   split at he
   ·rename_i pl bs qq hpe
    split at he
    ·rename_i hb2
     cases he
     have hpd':=hpd
     rw[show({m with stk:=r}:Ms).pend=(pl,bs)::qq from hpe,List.reverse_cons,List.map_append]at hpd'
     have hne:ps.isEmpty=false:=by
      have :=hpd'.length
      cases ps with
      |nil=>simp at this
      |cons _ _=>rfl
     refine⟨_,rfl,d.m,d.C,d.dx,_,_,rfl,h1.mo,M.cl,M.n6,kS _ _,⟨true,.inl ⟨_,zH.of hps,by rw[hne];rfl⟩,jN ?_⟩⟩
     refine⟨_,rfl,⟨_,rfl,d.m,d.C,d.dx,_,_,rfl,h1.mo,M.cl,M.n4,lA _ _,⟨_,_,rfl,rfl,H0,d,_,m.base-2,?_,rfl,h1,fun H2 kt2 h2=>?_⟩⟩⟩
     ·show[V.ref d.m,V.int _]=[V.ref d.m,V.int _]
      congr 3
      show((m.base:Nat):Int)-2=_
      omega
     have hy2:=qW.monoT kt2 hy
     obtain⟨ps2,hps2,hpd2⟩:=h2.po
     rw[show({m with stk:=Ms.cut r (m.base-2)}:Ms).pend=(pl,bs)::qq from hpe,List.reverse_cons,List.map_append]at hpd2
     obtain⟨qs,qx,rfl,hqx,hqs⟩:=iK hpd2
     refine⟨_,rfl,d.m,d.C,d.dx,_,_,rfl,h2.mo,M.cl,M.n6,kS _ _,⟨.inl ⟨rfl,_,zH.of hps2⟩,d.pd,_,qx,rfl,rfl,hps2,by simp,?_⟩⟩
     rw[List.dropLast_concat]
     have kt3:=zB (K:=K) (ys:=qs) hps2
     have h3:=h2.setP (s:=qq) (vs:=qs) hqs
     have hy3:=qW.monoT kt3 hy2
     have hq3:=qW.monoT kt3 hqx
     walk_at "d"
     show iG _ _ _ _ (upd H2 d.pd (.lst qs))
     generalize upd H2 d.pd (.lst qs)=H3 at h3 hy3 hq3⊢
     obtain⟨qa,qv,rfl,hqa,hqv⟩:=kN hq3
     obtain⟨u0,us,rfl,hu0,hus⟩:=qD hqv
     obtain⟨u1,us,rfl,hu1,hus⟩:=qD hus
     cases zD hus
     cases kU hu0
     cases kU hu1
     refine⟨_,rfl,qa,_,_,_,rfl,rfl,hqa,qY (j:=0) rfl,_,rfl,d.m,d.C,d.dx,_,rfl,h3.mo,M.cl,M.n5,uF _ _,?_⟩
     rw[uE]
     have kt4:=kW (K:=K) (gs:=mfl d {m with stk:=Ms.cut r (m.base-2),pend:=qq,place:=pl}) h3.mo
     have h4:=h3.setM m.base pl m.st
     have hy4:=qW.monoT kt4 hy3
     have hqa4:=kt4 _ _ hqa
     show Ends.nx _ _ (upd H3 d.m (.ins d.C d.dx (mfl d {m with stk:=Ms.cut r (m.base-2),pend:=qq,place:=pl})))
     generalize upd H3 d.m (.ins d.C d.dx (mfl d {m with stk:=Ms.cut r (m.base-2),pend:=qq,place:=pl}))=H4 at h4 hy4 hqa4⊢
     refine⟨_,rfl,qa,_,_,_,rfl,rfl,hqa4,qY (j:=1) rfl,_,rfl,d.m,d.C,d.dx,_,rfl,h4.mo,M.cl,M.n4,uF _ _,?_⟩
     rw[qV6]
     have kt5:=kW (K:=K) (gs:=mfl d {m with stk:=Ms.cut r (m.base-2),pend:=qq,place:=pl,base:=bs}) h4.mo
     have h5:=h4.setM bs pl m.st
     have hy5:=qW.monoT kt5 hy4
     show Ends.nx _ _ (upd H4 d.m (.ins d.C d.dx (mfl d {m with stk:=Ms.cut r (m.base-2),pend:=qq,place:=pl,base:=bs})))
     generalize upd H4 d.m (.ins d.C d.dx (mfl d {m with stk:=Ms.cut r (m.base-2),pend:=qq,place:=pl,base:=bs}))=H5 at h5 hy5⊢
     refine xN M h5 rfl ⟨_,rfl,jU (v:=v) h5 hy5 ?_ fun H' h'=>q d.st d.th H' h'⟩
     show(Ms.cut r (m.base-2)).length<_
     unfold Ms.cut;rw[List.length_drop];omega
    ·cases he
   ·rename_i hpe
    cases he
    have hps0:ps=[]:=by
     have :=hpd
     rw[show({m with stk:=r}:Ms).pend=[]from hpe]at this
     exact zD this
    subst hps0
    refine⟨_,rfl,d.m,d.C,d.dx,_,_,rfl,h1.mo,M.cl,M.n6,kS _ _,⟨false,.inl ⟨_,zH.of hps,rfl⟩,jO ?_⟩⟩
    refine⟨_,rfl,H0,d,_,0,rfl,rfl,h1,fun H2 kt2 h2=>?_⟩
    have hy2:=qW.monoT kt2 hy
    refine aY M h2 rfl .done hy2 fun H3 h3 hy3=>?_
    refine xN M h3 rfl ⟨_,rfl,jU (v:=v) h3 hy3 ?_ fun H' h'=>q d.st d.th H' ?_⟩
    ·show(Ms.cut r 0).length<_
     unfold Ms.cut;rw[List.length_drop];omega
    ·have e:Ms.cut r 0=[]:=by unfold Ms.cut;simp
     rw[e]at h'
     exact h'
  ·cases he
end
theorem pY(x:Sd):decide (V.str x.str=V.str "running")=decide (x= .running):=by cases x<;>decide+kernel
theorem jK:∀x∈(["put","nil","get","cons","pair","head","tail","first","second","empty","not","plus","minus","times","over","rest","less","same","fn","rec","call","last call","unless"]:List Str),dG (.str x) [.str "tell",.str "skip",.str "slide"]=false:=by decide+kernel
theorem gY:∀x∈(["tell","skip","slide"]:List Str),dG (.str x) [.str "tell",.str "skip",.str "slide"]=true:=by decide+kernel
theorem aO{o:AOrd}(h:o.ok):dG (.str o.wd) [.str "tell",.str "skip",.str "slide"]=Ms.ending o:=by
 cases o with
 |take x i=>
  have h':(x,i)∈([("head",0),("tail",1),("first",0),("second",1)]:List (Str×Nat)):=h
  simp only[List.mem_cons,List.not_mem_nil,or_false,Prod.mk.injEq]at h'
  rcases h' with⟨rfl,_⟩|⟨rfl,_⟩|⟨rfl,_⟩|⟨rfl,_⟩
  ·exact jK "head" (by decide+kernel)
  ·exact jK "tail" (by decide+kernel)
  ·exact jK "first" (by decide+kernel)
  ·exact jK "second" (by decide+kernel)
 |make s=>
  cases s
  ·exact jK "cons" (by decide+kernel)
  ·exact jK "pair" (by decide+kernel)
  ·exact jK "cons" (by decide+kernel)
 |sum s=>
  cases s
  ·exact jK "plus" (by decide+kernel)
  ·exact jK "minus" (by decide+kernel)
  ·exact jK "times" (by decide+kernel)
  ·exact jK "over" (by decide+kernel)
  ·exact jK "rest" (by decide+kernel)
  ·exact jK "less" (by decide+kernel)
  ·exact jK "same" (by decide+kernel)
 |func rc k l=>
  cases rc
  ·exact jK "fn" (by decide+kernel)
  ·exact jK "rec" (by decide+kernel)
 |tell=>exact gY "tell" (by decide+kernel)
 |skip k=>exact gY "skip" (by decide+kernel)
 |slide=>exact gY "slide" (by decide+kernel)
 |num n=>exact jK "put" (by decide+kernel)
 |tru n=>exact jK "put" (by decide+kernel)
 |nil=>exact jK "nil" (by decide+kernel)
 |get n=>exact jK "get" (by decide+kernel)
 |empty=>exact jK "empty" (by decide+kernel)
 |not=>exact jK "not" (by decide+kernel)
 |call=>exact jK "call" (by decide+kernel)
 |last=>exact jK "last call" (by decide+kernel)
 |«unless» n=>exact jK "unless" (by decide+kernel)
section
variable {P:Program} {w:World} {K:Fg} {mg:Str->Option Value} {base:Heap} {C CH f fF fC fM:Addr} {fd fdF fdC fdM:FuncData}
inductive sX(K:Fg)(C:Addr)(CH:Addr)(vs:List V)(H:Hp)(Q:VK):Prop
 |mk (H0:Hp) (d:Ad) (m:Ms) (m':Ms) (a_0:vs=[.ref d.m]) (a_1:d.C=C) (a_2:d.CH=CH) (a_3:MS K H0 d m H) (a_4:m.Wf) (a_5:m.st= .running) (a_6:m.roomy=some m') (a_7:∀a b H',jG K H H'->MS K H0 (d.mv a b) m' H'->Q (.bl (decide (m'.st= .running))) H'):sX K C CH vs H Q
def pU(K:Fg)(C CH:Addr):Sp:=fun vs H Q x_0=>sX K C CH vs H Q
theorem zJ3:qO ["machine"] ["machine"] (qU qV0):=by walk_at "s"
theorem qM2{k:Nat}(F:zZ K "has_room" "has_room" qV0 .none f fd)(M:Mc K C)(N:Hc K CH)(mF:Meth K CH "is_full" fF)(GF:qS P w K mg base (CXE P w) 1 fF fdF ["self"] (zZ4 K CH fun m=>.bl (decide (m.room<=m.things.length))))(bF:Binds K fdF ["self"] []):qS P w K mg base (CXE P w) (k+2) f fd ["machine"] (pU K C CH):=by
 refine F.ok0 zJ3 (fun vs H Q E h=>?_) (fun cdv A outer s H vs Q E hr h=>?_)
 ·obtain⟨H0,d,m,m',rfl,_⟩:=h
  rfl
 ·obtain⟨H0,d,m,m',rfl,rfl,rfl,h,hw,hst,he,q⟩:=h
  have h1r:=hr.mono (show 1<=k+1 by omega)
  refine⟨_,qZ (zC (jE (wE (qR (pv 0) rfl) N.cl mF GF h1r bF .nil zS)) jF zQ)
   (qZ (zC (jE (wE (qR (pv 0) rfl) N.cl mF GF h1r bF .nil zS)) jF zQ)
   (qK (qM (jZ jB (qR (pv 0) rfl) qC (nomark _))))),?_⟩
  walk_at "e"
  unfold Ms.roomy at he
  by_cases z:m.room<=m.things.length
  ·rw[if_pos z]at he;cases he
  ·rw[if_neg z]at he
   cases he
   refine⟨_,rfl,d.m,d.C,d.dx,_,_,rfl,h.mo,M.cl,M.n2,wB _ _,⟨d.hp,d.dh,_,rfl,h.ho,wD _ _ (by decide+kernel),H0,d,m,rfl,rfl,h,_,rfl,?_⟩⟩
   rw[decide_eq_false z]
   refine jO ⟨_,rfl,d.m,d.C,d.dx,_,_,rfl,h.mo,M.cl,M.n2,wB _ _,⟨d.hp,d.dh,_,rfl,h.ho,wD _ _ (by decide+kernel),H0,d,m,rfl,rfl,h,_,rfl,?_⟩⟩
   rw[decide_eq_false z]
   refine jO ⟨_,rfl,d.m,d.C,d.dx,_,_,rfl,h.mo,M.cl,M.n7,kQ _ _,⟨rfl,?_⟩⟩
   rw[pY]
   exact q d.st d.th H (fun _ _ h=>h) h
inductive qW7(K:Fg)(C:Addr)(CH:Addr)(vs:List V)(H:Hp)(Q:VK):Prop
 |mk (H0:Hp) (d:Ad) (m:Ms) (m':Ms) (x:Srt) (a_0:vs=[.ref d.m,.str x.str]) (a_1:d.C=C) (a_2:d.CH=CH) (a_3:MS K H0 d m H) (a_4:m.Wf) (a_5:m.st= .running) (a_6:m.exec (.make x)=some m') (a_7:∀a b H',MS K H0 (d.mv a b) m' H'->Q .non H'):qW7 K C CH vs H Q
def qW8(K:Fg)(C CH:Addr):Sp:=fun vs H Q x_0=>qW7 K C CH vs H Q
theorem nP{m m':Ms}(h:m.Wg)(e:m.roomy=some m')(hs:m'.st= .running):m'.things.length<m'.room:=by
 unfold Ms.roomy at e
 split at e
 ·cases e
 ·cases e;omega
theorem qW9:qO ["machine","sort","second","first"] ["machine","sort"] (qU qE5):=by walk_at "s"
theorem zJ4{k:Nat}(F:zZ K "make_of_two" "make_of_two" qE5 .none f fd)(M:Mc K C)(N:Hc K CH)(GR:Kn P w K mg base (k+2) "has_room" ["machine"] (pU K C CH))(mM:Meth K CH "make" fM)(GM:qS P w K mg base (CXE P w) 2 fM fdM ["self","sort","held"] (pK K CH))(bM:Binds K fdM ["self","sort","held"] []):qS P w K mg base (CXE P w) (k+3) f fd ["machine","sort"] (qW8 K C CH):=by
 refine F.ok0 qW9 (fun vs H Q E h=>?_) (fun cdv A outer s H vs Q E hr h=>?_)
 ·obtain⟨H0,d,m,m',x,rfl,_⟩:=h
  rfl
 ·obtain⟨H0,d,m,m',x,rfl,rfl,rfl,h,hw,hst,he,q⟩:=h
  have h2r:=hr.mono (show 2<=k+2 by omega)
  refine⟨_,qK (zC (jE (zY GR hr (qQ (pv 0) qJ)))
   (qZ (qB (i:=2) qW9.nd rfl (Or.inl rfl) (xQ aq0 aq3 aq4 xZ (qR (pv 0) rfl)))
   (qZ (qB (i:=3) qW9.nd rfl (Or.inl rfl) (xQ aq0 aq3 aq4 xZ (qR (pv 0) rfl)))
   (qK (qN (jJ aq0 aq1 aq2 qA (qR (pv 0) rfl) (qQ (wA (qR (pv 0) rfl) N.cl mM GM h2r bM .nil zS (qQ (pv 1) (qQ (jX (qQ (pv 3) (qQ (pv 2) qJ))) qJ))) qJ)))))) zQ),?_⟩
  walk_at "e"
  obtain⟨m1,e1,he⟩:=aq5.mp he
  obtain⟨_,lk,hl1,_⟩:=Ms.roomy_ok hw.g e1
  refine⟨_,rfl,H0,d,m,m1,rfl,rfl,rfl,h,hw,hst,e1,fun a b H1 kt h1=>⟨_,rfl,?_⟩⟩
  have M1:Mc K (d.mv a b).C:=M
  by_cases z:m1.st= .running
  ·rw[if_pos z]at he
   rw[decide_eq_true z]
   split at he
   ·rename_i y2 y1 r hs
    cases he
    have hlt:=nP hw.g e1 z
    have hl2:r.length<sizeLine:=by have :=vI hw;rw[<-hl1,hs]at this;exact Nat.lt_of_succ_lt (Nat.lt_of_succ_lt this)
    refine jN (vS (d:=d.mv a b) M1 h1 rfl hs fun u2 H2 hu2 h2=>?_)
    walk_at "d"
    refine gZ (d:=d.mv a b) M1 h2 rfl rfl hu2 fun u1 H3 hu1 h3 hu2=>?_
    walk_at "d"
    refine xN (d:=d.mv a b) M1 h3 rfl (⟨_,rfl,(d.mv a b).m,(d.mv a b).C,(d.mv a b).dx,_,_,rfl,h3.mo,M.cl,M.n2,wB _ _,⟨d.hp,d.dh,_,rfl,h3.ho,wD _ _ (by decide+kernel),_,rfl,_,rfl,_,rfl,(by show 2<=sizeLine;decide),fun l hl=>?_⟩⟩)
    have g4:Grow H3 (upd H3 l (.lst [u1,u2])):=Grow.put hl
    have e4:(upd H3 l (.lst [u1,u2])) l=some (.lst [u1,u2]):=qX
    have h4:=h3.grow g4
    have hu1':=hu1.mono g4.same
    have hu2':=hu2.mono g4.same
    generalize upd H3 l (.lst [u1,u2])=H4 at g4 e4 h4 hu1' hu2'⊢
    refine⟨H0,d.mv a b,_,x,l,[y1,y2],_,rfl,rfl,h4,e4,qF hu1' (qF hu2' qT),hlt,by show m1.room<=1000;rw[lk.room];exact hw.rm,fun u H5 _ h5 hu=>?_⟩
    exact jU (d:=d.mv a b) (v:=.at_ m1.things.length) h5 hu hl2 fun H' h'=>q a b H' h'
   ·cases he
  ·rw[if_neg z]at he
   cases he
   rw[decide_eq_false z]
   exact jO (q a b H1 h1)
theorem zU6:qO p2 p2 (qU qE3):=by walk_at "s"
theorem zU7:qO p2 p2 (qU qE4):=by walk_at "s"
theorem zJ5{k:Nat}(F:zZ K "make_cell" "make_cell" qE3 .none f fd)(GT:Kn P w K mg base (k+3) "make_of_two" ["machine","sort"] (qW8 K C CH)):qS P w K mg base (CXE P w) (k+4) f fd p2 (gG K C CH fun o=>o= .make .cell):=by
 refine F.ok0 zU6 (fun vs H Q E h=>?_) (fun cdv A outer s H vs Q E hr h=>?_)
 ·obtain⟨H0,d,m,m',o,c,rfl,_⟩:=h
  rfl
 ·obtain⟨H0,d,m,m',o,c,rfl,rfl,rfl,h,hc,rfl,hw,hst,hp,he,hl,q⟩:=h
  refine⟨_,qK (qN (zY GT hr (qQ (pv 0) (qQ qC qJ)))),?_⟩
  walk_at "e"
  exact⟨_,rfl,H0,d,m,m',.cell,rfl,rfl,rfl,h,hw,hst,he,q⟩
theorem zJ6{k:Nat}(F:zZ K "make_pair" "make_pair" qE4 .none f fd)(GT:Kn P w K mg base (k+3) "make_of_two" ["machine","sort"] (qW8 K C CH)):qS P w K mg base (CXE P w) (k+4) f fd p2 (gG K C CH fun o=>o= .make .pair):=by
 refine F.ok0 zU7 (fun vs H Q E h=>?_) (fun cdv A outer s H vs Q E hr h=>?_)
 ·obtain⟨H0,d,m,m',o,c,rfl,_⟩:=h
  rfl
 ·obtain⟨H0,d,m,m',o,c,rfl,rfl,rfl,h,hc,rfl,hw,hst,hp,he,hl,q⟩:=h
  refine⟨_,qK (qN (zY GT hr (qQ (pv 0) (qQ qC qJ)))),?_⟩
  walk_at "e"
  exact⟨_,rfl,H0,d,m,m',.pair,rfl,rfl,rfl,h,hw,hst,he,q⟩
end
section
variable {P:Program} {w:World} {K:Fg} {mg:Str->Option Value} {base:Heap} {C CH f fM fO fS:Addr} {fd fdM fdO fdS:FuncData}
theorem zJ7(rc:Bool):decide (V.str (if rc then"rec" else"fn")=V.str "rec")=rc:=by cases rc<;>decide+kernel
theorem nR{α β:Type}{g:α->Option β}:∀{l:List α}{r:List β},l.mapM g=some r->∀{i:Nat}{a:α},l[i]? =some a->∃b,r[i]? =some b/\g a=some b
 |[],r,h,i,a,ha=>by simp at ha
 |x::l,r,h,i,a,ha=>by
  rw[List.mapM_cons]at h
  obtain⟨y,hy,h⟩:=aq5.mp h
  obtain⟨ys,hys,h⟩:=aq5.mp h
  have :r=y::ys:=(Option.some.inj h).symm
  subst this
  cases i with
  |zero=>
   have e:x=a:=by simpa using ha
   subst e
   exact⟨y,rfl,hy⟩
  |succ i=>simpa using nR hys (i:=i) (a:=a) (by simpa using ha)
theorem qH4:qO ["machine","order","kept"] p2 (qU qE6):=by walk_at "s"
theorem zJ8{k:Nat}(F:zZ K "make_function" "make_function" qE6 .none f fd)(M:Mc K C)(N:Hc K CH)(GR:Kn P w K mg base (k+2) "has_room" ["machine"] (pU K C CH))(GI:Kn P w K mg base 1 "in_slot" ["machine","slot"] (sQ K C))(mM:Meth K CH "make" fM)(GM:qS P w K mg base (CXE P w) 2 fM fdM ["self","sort","held"] (pK K CH))(bM:Binds K fdM ["self","sort","held"] []):qS P w K mg base (CXE P w) (k+3) f fd p2 (gG K C CH fun o=>∃rc ks n,o= .func rc ks n/\ks.length<=50000):=by
 refine F.ok0 qH4 (fun vs H Q E h=>?_) (fun cdv A outer s H vs Q E hr h=>?_)
 ·obtain⟨H0,d,m,m',o,c,rfl,_⟩:=h
  rfl
 ·obtain⟨H0,d,m,m',o,c,rfl,rfl,rfl,h,hc,⟨rc,ks,n,rfl,hsz⟩,hw,hst,hp,he,hl,q⟩:=h
  have h2r:=hr.mono (show 2<=k+2 by omega)
  have ndb:((["slot"]:List Str)++(["machine"]:List Str)).Nodup:=by decide+kernel
  obtain⟨ca,us,rfl,hca,hus⟩:=vT hc
  obtain⟨u0,us,rfl,hu0,hus⟩:=qD hus
  obtain⟨u1,us,rfl,hu1,hus⟩:=qD hus
  cases zD hus
  cases kU hu1
  obtain⟨ka,kv,rfl,hka,hkv⟩:=kN hu0
  refine⟨_,qK (zC (jE (zY GR hr (qQ (pv 0) qJ)))
   (qZ (cK (i:=2) qH4.nd rfl (Or.inl rfl) (qQ8 (own:=["slot"]) (y:="machine") (i:=0) (by rfl) (by decide+kernel) (by rfl) (by decide+kernel) (by rfl) (by decide+kernel) (by rfl) (.inl (by rfl)) (by rfl) (by decide+kernel)) rfl (qR1 (qL qP (pv 1) qV (fun _ _=>rfl)))
    (fun C s H fp pins=>zY GI (hr.mono (by omega)) (qQ (pv 1) (qQ (pv 0) qJ))) (fun C s H fp pins=>zA (i:=0) ndb rfl (Or.inl rfl) (Or.inr (by rfl))) (by rfl) (Or.inl rfl))
   (qZ (qN (jJ aq0 aq1 aq2 qA (qR (pv 0) rfl) (qQ (wA (qR (pv 0) rfl) N.cl mM GM h2r bM .nil zS (qQ qC (qQ (zX kG (jX (qQ (qR (pv 0) rfl) (qQ (jZ jB (qL qP (pv 1) qV (fun _ _=>rfl)) qC (nomark _)) qJ))) (pv 2)) qJ))) qJ)))
   (qK (kH (pv 0) (qL qP (pv 1) qV (fun _ _=>rfl)) oO)))) zQ),?_⟩
  walk_at "e"
  obtain⟨m1,e1,he⟩:=aq5.mp he
  obtain⟨w1,lk,hl1,hpl⟩:=Ms.roomy_ok hw.g e1
  refine⟨_,rfl,H0,d,m,m1,rfl,rfl,rfl,h,hw,hst,e1,fun a b H1 kt h1=>⟨_,rfl,?_⟩⟩
  have M1:Mc K (d.mv a b).C:=M
  have hca1:=kt _ _ hca
  have hka1:=kt _ _ hka
  by_cases z:m1.st= .running
  ·rw[if_pos z]at he
   rw[decide_eq_true z]
   obtain⟨vs,hvs,he⟩:=aq6.mp he
   subst he
   have hlt:=nP hw.g e1 z
   have hkl:kv.length=ks.length:=by rw[hkv.length,List.length_map]
   have hvl:vs.length=ks.length:=Ms.mapM_len hvs
   have hks:∀(i:Nat)(x:V),kv[i]? =some x->∃k,ks[i]? =some k/\x=V.int (k:Nat):=by
    intro i x hx
    have hi:i<ks.length:=by rw[<-hkl];exact(List.getElem?_eq_some_iff.mp hx).1
    obtain⟨y,hy1,hy2⟩:=hkv.get (i:=i) (d:=Dt.int (ks[i]:Nat)) (by rw[List.getElem?_map,List.getElem?_eq_getElem hi];rfl)
    rw[hx]at hy1;cases hy1
    exact⟨ks[i],List.getElem?_eq_getElem hi,kU hy2⟩
   refine jN ⟨_,rfl,ca,_,_,_,rfl,rfl,hca1,qY (j:=1) rfl,ka,rfl,⟨_,hka1⟩,fun D0 hD0=>?_⟩
   have gD:Grow H1 (upd H1 D0 (.lst [])):=Grow.put hD0
   refine qG0 (K:=K) (a:=ka) (xs:=kv) (te:=oI (sQ K d.C) [] E0 (xO (jY 1) (xO (jY 0) wC))) (ix:=[0]) (σ:=[some (.ref d.m),some (.ref ca),none])
    (fun i zs H6=>Grow H1 H6/\H6 D0=some (.lst zs)/\qI K H6 ((vs.take i).map AV.dt) zs) ?_ ?_ ?_ ?_
   ·exact⟨gD,qX,qT⟩
   ·rintro i zs H6 _ ⟨g6,_⟩
    exact zO.mono g6.same hka1
   ·rintro i x zs H6 hx ⟨g6,eD,hz6⟩ Q' hq
    obtain⟨k',hk1,rfl⟩:=hks i x hx
    obtain⟨v,hv1,hv2⟩:=nR hvs hk1
    have hi:i<vs.length:=(List.getElem?_eq_some_iff.mp hv1).1
    refine⟨_,rfl,_,rfl,H0,d.mv a b,m1,k',v,rfl,rfl,h1.grow g6,hv2,fun y hy=>?_⟩
    have hzl:zs.length=i:=by rw[hz6.length,List.length_map,List.length_take];omega
    refine hq y H6 eD (by rw[sizeLine_eq];omega) ⟨g6.set hD0,qX,?_⟩
    have k7:=zB (K:=K) (ys:=zs++[y]) eD
    rw[List.take_add_one,hv1,List.map_append]
    exact qI.append (qI.monoT k7 hz6) (qF (qW.monoT k7 hy) qT)
   ·rintro zs H6 ⟨g6,eD,hz6⟩
    rw[hkl,<-hvl,List.take_of_length_le (aq7 _)]at hz6
    walk_at "d"
    have h6:=h1.grow g6
    have hca6:=zO.mono g6.same hca1
    refine xN (d:=d.mv a b) M1 h6 rfl (⟨_,rfl,(d.mv a b).m,(d.mv a b).C,(d.mv a b).dx,_,_,rfl,h6.mo,M.cl,M.n2,wB _ _,⟨d.hp,d.dh,_,rfl,h6.ho,wD _ _ (by decide+kernel),⟨_,rfl,(d.mv a b).m,(d.mv a b).C,(d.mv a b).dx,_,_,rfl,h6.mo,M.cl,M.n5,yN _ _,⟨_,rfl,ca,_,_,_,rfl,rfl,hca6,qY (j:=0) rfl,rfl,(by show 2<=sizeLine;decide),fun l hl7=>?_⟩⟩⟩⟩)
    have erc:decide (V.str (AOrd.func rc ks n).wd=V.str "rec")=rc:=zJ7 rc
    rw[erc]
    have g7:Grow H6 (upd H6 l (.lst [.int (m1.place:Nat),.bl rc])):=Grow.put hl7
    have e7:(upd H6 l (.lst [.int (m1.place:Nat),.bl rc])) l=some (.lst [.int (m1.place:Nat),.bl rc]):=qX
    have eD7:=g7.same _ _ eD
    have h7:=h6.grow g7
    have hz7:=hz6.mono g7.same
    have hca7:=zO.mono g7.same hca6
    generalize upd H6 l (.lst [.int (m1.place:Nat),.bl rc])=H7 at g7 e7 eD7 h7 hz7 hca7⊢
    have hzl:zs.length=ks.length:=by rw[hz6.length,List.length_map,hvl]
    refine⟨_,rfl,l,D0,_,_,rfl,rfl,e7,eD7,by rw[sizeLine_eq];simp;omega,fun l2 hl2=>?_⟩
    have g8:Grow H7 (upd H7 l2 (.lst ([.int (m1.place:Nat),.bl rc]++zs))):=Grow.put hl2
    have e8:(upd H7 l2 (.lst ([.int (m1.place:Nat),.bl rc]++zs))) l2=some (.lst ([.int (m1.place:Nat),.bl rc]++zs)):=qX
    have h8:=h7.grow g8
    have hz8:=hz7.mono g8.same
    have hca8:=zO.mono g8.same hca7
    generalize upd H7 l2 (.lst ([.int (m1.place:Nat),.bl rc]++zs))=H8 at g8 e8 h8 hz8 hca8⊢
    refine⟨H0,d.mv a b,m1,.fn,l2,.int m1.place:: .bl rc::vs,_,rfl,rfl,h8,e8,qF (by show qW K H8 (.int _) _;rw[qW]) (qF (by show qW K H8 (.bl _) _;rw[qW]) hz8),hlt,by rw[lk.room];exact hw.rm,fun u H9 k9 h9 hu=>?_⟩
    refine pJ (d:=d.mv a b) (v:=.at_ m1.things.length) h9 hu (by show m1.stk.length<_;rw[hl1];exact vI hw) fun H10 k10 h10=>?_
    have hca10:=k10 _ _ (k9 _ _ hca8)
    exact gX (d:=d.mv a b) M1 h10 rfl ⟨_,rfl,ca,_,_,_,rfl,rfl,hca10,qY (j:=2) rfl,gK (d:=d.mv a b) h10 n fun H' h'=>q a b H' h'⟩
  ·rw[if_neg z]at he
   cases he
   rw[decide_eq_false z]
   exact jO (q a b H1 h1)
end
structure Ords(P:Program)(w:World)(K:Fg)(mg:Str->Option Value)(base:Heap)(C CH:Addr)(n:Nat):Prop where
 tab:∃a D,mg "ORDERS"=some (.ref a)/\uR K a D/\∀o:AOrd,o.ok->∃(f:Addr)(fd:FuncData)(k:Nat)(B:AOrd->Prop),k<=n/\aq17 o.wd D=some (.ref f)/\B o/\qS P w K mg base (CXE P w) k f fd p2 (gG K C CH B)/\PySem.W.keepIn K (.ref f)=true/\Binds K fd p2 []
section
variable {P:Program} {w:World} {K:Fg} {mg:Str->Option Value} {base:Heap} {C CH f fM fO fS:Addr} {fd fdM fdO fdS:FuncData}
theorem qH5:qO ["machine","order"] ["machine"] (qU hW):=by walk_at "s"
inductive qWq(K:Fg)(C:Addr)(CH:Addr)(vs:List V)(H:Hp)(Q:VK):Prop
 |mk (H0:Hp) (d:Ad) (m:Ms) (m':Ms) (a_0:vs=[.ref d.m]) (a_1:d.C=C) (a_2:d.CH=CH) (a_3:MS K H0 d m H) (a_4:m.Wf) (a_5:m.st= .running) (a_6:m.order=some m') (a_7:∀a b H',MS K H0 (d.mv a b) m' H'->Q .non H'):qWq K C CH vs H Q
def qH6(K:Fg)(C CH:Addr):Sp:=fun vs H Q x_0=>qWq K C CH vs H Q
theorem zJ9{n:Nat}(F:zZ K "do_order" "do_order" hW .none f fd)(M:Mc K C)(O:Ords P w K mg base C CH n):qS P w K mg base (CXE P w) (n+1) f fd ["machine"] (qH6 K C CH):=by
 refine F.ok0 qH5 (fun vs H Q E h=>?_) (fun cdv A outer s H vs Q E hr h=>?_)
 ·obtain⟨H0,d,m,m',rfl,_⟩:=h
  rfl
 ·obtain⟨H0,d,m,m',rfl,rfl,rfl,h,hw,hst,he,q⟩:=h
  obtain⟨ta,D,mT,T,hT⟩:=O.tab
  obtain⟨o,ho,hx,hl⟩:=Ms.order_of he
  have hok:=hw.okc o (List.mem_of_getElem? ho)
  obtain⟨g,fdg,k,B,hk,hD,hB,G,kp,bd⟩:=hT o hok
  refine⟨_,qZ (qB (i:=1) qH5.nd rfl (Or.inl rfl) (qL zJ (qR (pv 0) rfl) (qR (pv 0) rfl) (fun _ _=>rfl)))
   (qZ (kH (pv 0) qV oO)
   (qK (qN (vF (CX:=CXE P w) (qL uZ (zR (v:=.ref ta) (by rfl) mT rfl) (qL qP (pv 1) qV (fun _ _=>rfl)) (fun _ _=>rfl)) (qQ (pv 0) (qQ (pv 1) qJ)))))),?_⟩
  walk_at "e"
  obtain⟨cs,hcs,hcd⟩:=h.lo
  obtain⟨c,hc1,hc2⟩:=hcd.get (i:=m.place) (d:=o.dt) (by rw[List.getElem?_map,ho];rfl)
  refine⟨_,rfl,d.m,d.C,d.dx,_,_,rfl,h.mo,M.cl,M.n1,qV5 _ _,(⟨_,rfl,d.m,d.C,d.dx,_,_,rfl,h.mo,M.cl,M.n5,yN _ _,⟨d.l,cs,_,c,rfl,rfl,zH.of hcs,qY hc1,?_⟩⟩)⟩
  walk_at "d"
  refine gX M h rfl ?_
  have kt:=kW (K:=K) (gs:=mfl d {m with place:=m.place+1}) h.mo
  refine⟨_,_,rfl,rfl,d.dx,_,h.mo,uF _ _,?_⟩
  rw[show((m.place:Int)+1)=((m.place+1:Nat):Int) by omega,uE]
  have h1:=h.setM m.base (m.place+1) m.st
  have hc3:=qW.monoT kt hc2
  show Ends.nx _ _ (upd H d.m (.ins d.C d.dx (mfl d {m with place:=m.place+1})))
  generalize upd H d.m (.ins d.C d.dx (mfl d {m with place:=m.place+1}))=H1 at h1 hc3⊢
  have hc4:=hc3
  obtain⟨ca,us,rfl,hca,hus⟩:=vT hc3
  refine⟨_,rfl,ca,_,_,_,rfl,rfl,hca,qY (j:=0) rfl,_,ta,D,_,rfl,rfl,T,hD,?_⟩
  refine⟨g,fdg,_,_,[],[],E0,k,rfl,G,hr.mono hk,kp,bd,.nil,zS,?_⟩
  have hpl:m.place<m.code.length:=(List.getElem?_eq_some_iff.mp ho).1
  exact⟨_,rfl,_,rfl,H0,d,_,m',o,_,rfl,rfl,rfl,h1,hc4,hB,⟨hw.hs,hw.iv,hw.it,hw.okc,hw.cl,hw.rm,hw.tr⟩,hst,by have :=hw.cl;show m.place+1<=_;omega,hx,hl,q⟩
theorem zJq:qO ["machine"] ["machine"] (qU qK8):=by walk_at "s"
inductive sK(K:Fg)(C:Addr)(CH:Addr)(vs:List V)(H:Hp)(Q:VK):Prop
 |mk (H0:Hp) (d:Ad) (m:Ms) (m':Ms) (fuel:Nat) (a_0:vs=[.ref d.m]) (a_1:d.C=C) (a_2:d.CH=CH) (a_3:MS K H0 d m H) (a_4:m.Wf) (a_5:m.st= .running) (a_6:m.step fuel=some m') (a_7:∀a b H',MS K H0 (d.mv a b) m' H'->Q .non H'):sK K C CH vs H Q
def qWz(K:Fg)(C CH:Addr):Sp:=fun vs H Q x_0=>sK K C CH vs H Q
theorem qM3{n:Nat}(F:zZ K "do_step" "do_step" qK8 .none f fd)(M:Mc K C)(zE:∃a,mg "ENDING_ORDERS"=some (.ref a)/\∀H,zO K H a [.str "tell",.str "skip",.str "slide"])(GO:Kn P w K mg base (n+1) "do_order" ["machine"] (qH6 K C CH)):qS P w K mg base (CXE P w) (n+2) f fd ["machine"] (qWz K C CH):=by
 refine F.ok0 zJq (fun vs H Q E h=>?_) (fun cdv A outer s H vs Q E hr h=>?_)
 ·obtain⟨H0,d,m,m',fuel,rfl,_⟩:=h
  rfl
 ·obtain⟨H0,d,m,m',fuel,rfl,rfl,rfl,h,hw,hst,he,q⟩:=h
  obtain⟨te,mE,sE⟩:=zE
  refine⟨_,qZ (qN (zY GO hr (qQ (pv 0) qJ)))
   (qK (wS PassesOwn.never (cR (qE jB (qR (pv 0) rfl) qC (nomark _)) (uS (qE wQ (qL qP (qL zJ (qR (pv 0) rfl) (qR (pv 0) rfl) (fun _ _=>rfl)) qV (fun _ _=>rfl)) (zR (v:=.ref te) (by rfl) mE rfl) rfl))).pt
    (qK (qN (zY GO hr (qQ (pv 0) qJ)))))),?_⟩
  walk_at "e"
  obtain⟨m1,e1,he⟩:=aq5.mp he
  obtain⟨hw1,_⟩:=hw.order e1
  refine⟨_,rfl,H0,d,m,m1,rfl,rfl,rfl,h,hw,hst,e1,fun a b H1 h1=>?_⟩
  refine⟨fun j σ H'=>σ=[some (.ref d.m)]/\∃(a b:Addr)(mc:Ms),MS K H0 (d.mv a b) mc H'/\mc.Wf/\Ms.ends j mc=some m',⟨fuel,rfl,a,b,m1,h1,hw1,he⟩,?_⟩
  rintro j σ H2 ⟨rfl,a,b,mc,h2,hw2,he2⟩
  have M1:Mc K (d.mv a b).C:=M
  cases j with
  |zero=>cases he2
  |succ j=>
   rw[Ms.ends]at he2
   refine⟨_,rfl,(d.mv a b).m,(d.mv a b).C,(d.mv a b).dx,_,_,rfl,h2.mo,M.cl,M.n7,kQ _ _,⟨rfl,_,rfl,?_⟩⟩
   rw[pY]
   by_cases z:mc.st= .running
   ·rw[if_pos z]at he2
    rw[decide_eq_true z]
    obtain⟨o,ho,he2⟩:=aq5.mp he2
    obtain⟨cs,hcs,hcd⟩:=h2.lo
    obtain⟨c,hc1,hc2⟩:=hcd.get (i:=mc.place) (d:=o.dt) (by rw[List.getElem?_map,ho];rfl)
    obtain⟨ca,us,rfl,hca,hus⟩:=vT hc2
    refine jN (⟨_,rfl,(d.mv a b).m,(d.mv a b).C,(d.mv a b).dx,_,_,rfl,h2.mo,M.cl,M.n1,qV5 _ _,(⟨_,rfl,(d.mv a b).m,(d.mv a b).C,(d.mv a b).dx,_,_,rfl,h2.mo,M.cl,M.n5,yN _ _,⟨d.l,cs,_,_,rfl,rfl,zH.of hcs,qY hc1,ca,_,_,_,rfl,rfl,hca,qY (j:=0) rfl,te,_,rfl,.inr (sE H2),rfl,rfl,_,rfl,?_⟩⟩)⟩)
    rw[if_neg (c:=false=true) (by decide),aO (hw2.okc o (List.mem_of_getElem? ho))]
    by_cases z2:Ms.ending o=true
    ·rw[if_pos z2]at he2
     rw[z2]
     obtain⟨m3,e3,he3⟩:=aq5.mp he2
     obtain⟨hw3,_⟩:=hw2.order e3
     refine jN ⟨fun σ' H'=>σ'=[some (.ref d.m)]/\∃(a b:Addr),MS K H0 (d.mv a b) m3 H',fun σ' H'⟨y1,a',b',y2⟩=>⟨j,by omega,y1,a',b',m3,y2,hw3,he3⟩,?_⟩
     exact⟨_,rfl,H0,d.mv a b,mc,m3,rfl,rfl,rfl,h2,hw2,z,e3,fun a' b' H' h'=>⟨rfl,a',b',h'⟩⟩
    ·rw[if_neg z2]at he2
     cases he2
     rw[Bool.eq_false_iff.mpr z2]
     exact jO (q a b H2 h2)
   ·rw[if_neg z]at he2
    cases he2
    rw[decide_eq_false z]
    exact jO (jO (q a b H2 h2))
theorem sV{m':Ms}:∀{fuel:Nat}{m:Ms},m.Wf->Ms.ends fuel m=some m'->m'.Wf
 |0,m,_,h=>by cases h
 |n+1,m,hw,h=>by
  rw[Ms.ends]at h
  split at h
  ·obtain⟨o,ho,h⟩:=aq5.mp h
   split at h
   ·obtain⟨m2,e2,h⟩:=aq5.mp h
    exact sV (hw.order e2).1 h
   ·cases h;exact hw
  ·cases h;exact hw
theorem qM4{m m':Ms}{fuel:Nat}(hw:m.Wf)(he:m.step fuel=some m'):m'.Wf:=by
 obtain⟨m1,e1,h⟩:=aq5.mp he
 exact sV (hw.order e1).1 h
theorem qWj:qO ["self","steps","left"] ["self","steps"] (qU zQ1):=by walk_at "s"
inductive qY0(K:Fg)(C:Addr)(CH:Addr)(vs:List V)(H:Hp)(Q:VK):Prop
 |mk (H0:Hp) (d:Ad) (m:Ms) (m':Ms) (fuel:Nat) (n:Int) (a_0:vs=[.ref d.m,.int n]) (a_1:d.C=C) (a_2:d.CH=CH) (a_3:MS K H0 d m H) (a_4:m.Wf) (a_5:m.run fuel n.toNat=some m') (a_6:∀a b H',MS K H0 (d.mv a b) m' H'->m'.Wf->Q (.str m'.st.str) H'):qY0 K C CH vs H Q
def qH7(K:Fg)(C CH:Addr):Sp:=fun vs H Q x_0=>qY0 K C CH vs H Q
theorem zJz{n:Nat}(F:zZ K "run" "Machine.run" zQ1 .none f fd)(M:Mc K C)(GS:Kn P w K mg base (n+2) "do_step" ["machine"] (qWz K C CH)):qS P w K mg base (CXE P w) (n+3) f fd ["self","steps"] (qH7 K C CH):=by
 refine F.ok0 qWj (fun vs H Q E h=>?_) (fun cdv A outer s H vs Q E hr h=>?_)
 ·obtain⟨H0,d,m,m',fuel,n,rfl,_⟩:=h
  rfl
 ·obtain⟨H0,d,m,m',fuel,n0,rfl,rfl,rfl,h,hw,he,q⟩:=h
  refine⟨_,qZ (qB (i:=2) qWj.nd rfl (Or.inl rfl) (pv 1))
   (qZ (wS PassesOwn.never (cR (qE iP (pv 2) qV (nomark _)) (uS (qE jB (qR (pv 0) rfl) qC (nomark _)))).pt
    (qZ (qN (zY GS hr (qQ (pv 0) qJ))) (qK (aS (i:=2) qWj.nd rfl (Or.inl rfl) qV aT))))
   (qK (qM (qR (pv 0) rfl)))),?_⟩
  walk_at "e"
  refine⟨_,rfl,?_⟩
  walk_at "d"
  refine⟨fun j σ H'=>∃(z:Int)(a b:Addr)(mc:Ms),σ=[some (.ref d.m),some (.int n0),some (.int z)]/\j=z.toNat/\MS K H0 (d.mv a b) mc H'/\mc.Wf/\Ms.run fuel z.toNat mc=some m',⟨_,n0,d.st,d.th,m,rfl,rfl,h,hw,he⟩,?_⟩
  rintro j σ H1 ⟨z,a,b,mc,rfl,rfl,h1,hw1,he1⟩
  have M1:Mc K (d.mv a b).C:=M
  refine⟨_,rfl,_,_,rfl,rfl,_,rfl,?_⟩
  by_cases hz:0<z
  ·rw[decide_eq_true hz]
   obtain⟨k,hk⟩:∃k:Nat,z.toNat=k+1:=⟨z.toNat-1,by omega⟩
   rw[hk,Ms.run]at he1
   refine jN (⟨_,rfl,(d.mv a b).m,(d.mv a b).C,(d.mv a b).dx,_,_,rfl,h1.mo,M.cl,M.n7,kQ _ _,⟨rfl,_,rfl,?_⟩⟩)
   rw[pY]
   by_cases hs:mc.st= .running
   ·rw[if_pos hs]at he1
    rw[decide_eq_true hs]
    obtain⟨m2,e2,he2⟩:=aq5.mp he1
    have hw2:=qM4 hw1 e2
    refine jN ⟨fun σ' H'=>∃(a b:Addr),σ'=[some (.ref d.m),some (.int n0),some (.int (z-1))]/\MS K H0 (d.mv a b) m2 H',fun σ' H'⟨a',b',y1,y2⟩=>⟨(z-1).toNat,by omega,z-1,a',b',m2,y1,rfl,y2,hw2,by rw[show(z-1).toNat=k by omega];exact he2⟩,?_⟩
    exact⟨_,rfl,H0,d.mv a b,mc,m2,fuel,rfl,rfl,rfl,h1,hw1,hs,e2,fun a' b' H' h'=>⟨_,rfl,_,_,rfl,rfl,a',b',rfl,h'⟩⟩
   ·rw[if_neg hs]at he1
    cases he1
    rw[decide_eq_false hs]
    exact jO (⟨_,rfl,(d.mv a b).m,(d.mv a b).C,(d.mv a b).dx,_,_,rfl,h1.mo,M.cl,M.n7,kQ _ _,(q a b H1 h1 hw1)⟩)
  ·rw[decide_eq_false hz]
   rw[show z.toNat=0 by omega,Ms.run]at he1
   cases he1
   exact jO (jO (⟨_,rfl,(d.mv a b).m,(d.mv a b).C,(d.mv a b).dx,_,_,rfl,h1.mo,M.cl,M.n7,kQ _ _,(q a b H1 h1 hw1)⟩))
end
end K19
namespace L2
open PySem PySem.Spec PyProof.Rows PyProof Dt
section
variable {X:Cx} {pins:List (Addr×Obj)} {σ:St} {H:Hp} {s:Shared}
end
end L2
namespace K19
open PySem L2 PyProof Dt
def pO:AV->Bool
 | .at_ _=>true
 |_=>false
structure IsT(K:Fg):Prop where
 it:PySem.W.kitOne K (.type "int") (.type "tuple")=some false
 bt:PySem.W.kitOne K (.type "bool") (.type "tuple")=some false
 nt:PySem.W.kitOne K (.type "NoneType") (.type "tuple")=some false
 tt:PySem.W.kitOne K (.type "tuple") (.type "tuple")=some true
theorem IsT.at{K:Fg}(I:IsT K)(v:AV):PySem.W.kitOne K (.type (tyD v.dt)) (.type "tuple")=some (pO v):=by
 cases v
 ·exact I.it
 ·exact I.bt
 ·exact I.nt
 ·exact I.tt
structure GlH(mg:Str->Option Value):Prop where
 isi:mg "isinstance"=none
 tuple:mg "tuple"=none
 list:mg "list"=none
 len:mg "len"=none
section
variable {K:Fg} {H0 H:Hp} {d:Ad} {m:Ms}
end
section
variable {P:Program} {w:World} {K:Fg} {mg:Str->Option Value} {base:Heap} {C CH f fM fU:Addr} {fd fdM fdU:FuncData}
inductive qY1(K:Fg)(vs:List V)(H:Hp)(Q:VK):Prop
 |mk (v:AV) (x:V) (a_0:vs=[x]) (a_1:qW K H v.dt x) (a_2:Q (.bl (pO v)) H):qY1 K vs H Q
def qH8(K:Fg):Sp:=fun vs H Q x_0=>qY1 K vs H Q
theorem qM5:qO ["value"] ["value"] (qU hV):=by walk_at "s"
theorem qY2(F:zZ K "is_reference" "is_reference" hV .none f fd)(G:GlH mg)(I:IsT K):qS P w K mg base (CXE P w) 1 f fd ["value"] (qH8 K):=by
 refine F.ok0 qM5 (fun vs H Q E h=>?_) (fun cdv A outer s H vs Q E hr h=>?_)
 ·obtain⟨v,x,rfl,_⟩:=h
  rfl
 ·obtain⟨v,x,rfl,hx,q⟩:=h
  refine⟨_,qK (qM (zI oS (by rfl) G.isi PyProof.Rows.boot_isinstance (qQ (pv 0) (qQ (cP (v:=.ty "tuple") (by rfl) G.tuple PyProof.Rows.boot_tuple rfl) qJ)))),?_⟩
  walk_at "e"
  exact⟨_,rfl,v.dt,_,"tuple",pO v,rfl,hx,I.at v,q⟩
end
structure Kp(m:Addr)(H H':Hp):Prop where
 keep:∀b o,b≠m->H b=some o->H' b=some o
 none:∀b,H' b=Option.none->H b=Option.none
section
variable {K:Fg} {m:Addr} {H H1 H2:Hp}
theorem Kp.trans(x:Kp m H H1)(y:Kp m H1 H2):Kp m H H2:=⟨fun b o n e=>y.keep b o n (x.keep b o n e),fun b e=>x.none b (y.none b e)⟩
theorem Kp.of(g:Grow H H1):Kp m H H1:=⟨fun b o _ e=>g.same b o e,g.none⟩
theorem Kp.fld{C dx:Addr}{gs:List (Str×V)}:Kp m H (upd H m (.ins C dx gs)):=⟨fun b o n e=>(qH n).trans e,fun b e=>by
 by_cases z:b=m
 ·subst z;rw[qX]at e;cases e
 ·rw[qH z]at e;exact e⟩
theorem Kp.tups{C dx:Addr}{fs:List (Str×V)}(x:Kp m H H1)(hm:H m=some (.ins C dx fs)):jG K H H1:=fun b xs hb=>by
 rcases hb with(hb|⟨o,hb⟩)|hb
 ·exact .inl (.inl (x.keep b _ (xB hb hm (by intro z;cases z)) hb))
 ·exact .inl (.inr ⟨o,x.keep b _ (xB hb hm (by intro z;cases z)) hb⟩)
 ·exact .inr hb
theorem Kp.lst{C dx:Addr}{fs:List (Str×V)}{l:Addr}{xs:List V}(x:Kp m H H1)(hm:H m=some (.ins C dx fs))(h:H l=some (.lst xs)):H1 l=some (.lst xs):=x.keep l _ (xB h hm (by intro z;cases z)) h
end
section
variable {P:Program} {w:World} {K:Fg} {mg:Str->Option Value} {base:Heap} {C CH f fH:Addr} {fd fdH:FuncData}
theorem zU8:qO ["self","room"] ["self","room"] (qU qEj):=by walk_at "s"
def hfs(r:V)(l:Addr):List (Str×V):=[("room",r),("things",.ref l),("made_so_far",.int 0)]
inductive qY3(C:Addr)(vs:List V)(H:Hp)(Q:VK):Prop
 |mk (p:Addr) (dx:Addr) (r:V) (a_0:vs=[.ref p,r]) (a_1:H p=some (.ins C dx [])) (a_2:∀l H',Kp p H H'->H' p=some (.ins C dx (hfs r l))->H l=none->H' l=some (.lst [])->Q .non H'):qY3 C vs H Q
def qH9(C:Addr):Sp:=fun vs H Q x_0=>qY3 C vs H Q
theorem zJj(F:zZ K "__init__" "Heap.__init__" qEj .none f fd)(M:Hc K C):qS P w K mg base (CXE P w) 1 f fd ["self","room"] (qH9 C):=by
 refine F.ok0 zU8 (fun vs H Q E h=>?_) (fun cdv A outer s H vs Q E hr h=>?_)
 ·obtain⟨p,dx,r,rfl,_⟩:=h
  rfl
 ·obtain⟨p,dx,r,rfl,hp,q⟩:=h
  refine⟨_,qZ (jP (pv 0) (pv 1) rfl) (qZ (jP (pv 0) (jX qJ) rfl) (qK (jP (pv 0) qV rfl))),?_⟩
  walk_at "e"
  refine⟨_,rfl,_,rfl,p,C,dx,[],rfl,hp,M.cl,M.n1,(by decide),?_⟩
  rw[show xM ("room":Str) r []=([("room",r)]:List (Str×V))from rfl]
  have x1:Kp p H (upd H p (.ins C dx ([("room",r)]:List (Str×V)))):=Kp.fld
  have m1:(upd H p (.ins C dx ([("room",r)]:List (Str×V)))) p=some (.ins C dx ([("room",r)]:List (Str×V))):=qX
  generalize upd H p (.ins C dx ([("room",r)]:List (Str×V)))=H1 at x1 m1⊢
  refine⟨(by show 0<=sizeLine;decide),fun l hl=>?_⟩
  have x2:Kp p H1 (upd H1 l (.lst [])):=Kp.of (Grow.put hl)
  have m2:=(Grow.put (o:=.lst []) hl).same _ _ m1
  have l2:(upd H1 l (.lst [])) l=some (.lst []):=qX
  generalize upd H1 l (.lst [])=H2 at x2 m2 l2⊢
  refine⟨_,rfl,p,C,dx,_,rfl,m2,M.cl,M.n2,(by show 1<1000;decide),?_⟩
  rw[xS (ks:=["room"]) (by decide+kernel) rfl]
  have x3:Kp p H2 (upd H2 p (.ins C dx (([("room",r)]:List (Str×V))++([("things",.ref l)]:List (Str×V))))):=Kp.fld
  have m3:(upd H2 p (.ins C dx (([("room",r)]:List (Str×V))++([("things",.ref l)]:List (Str×V))))) p=some (.ins C dx (([("room",r)]:List (Str×V))++([("things",.ref l)]:List (Str×V)))):=qX
  have l3:=x3.lst m2 l2
  generalize upd H2 p (.ins C dx (([("room",r)]:List (Str×V))++([("things",.ref l)]:List (Str×V))))=H3 at x3 m3 l3⊢
  refine⟨_,rfl,p,C,dx,_,rfl,m3,M.cl,M.n3,(by show 2<1000;decide),?_⟩
  rw[xS (ks:=["room","things"]) (by decide+kernel) rfl]
  exact q l _ (((x1.trans x2).trans x3).trans Kp.fld) qX (x1.none _ hl) (Kp.lst Kp.fld m3 l3)
structure GlM(mg:Str->Option Value):Prop where
 list:mg "list"=none
 leastR:∃t,mg "LEAST_ROOM"=some (.int 8 t)
 greatR:∃t,mg "GREATEST_ROOM"=some (.int 400 t)
theorem zU9:qO ["self","code","room"] ["self","code","room"] (qU zQ0):=by walk_at "s"
inductive qY4(K:Fg)(C:Addr)(CH:Addr)(vs:List V)(H:Hp)(Q:VK):Prop
 |mk (H0:Hp) (m:Addr) (dx:Addr) (l0:Addr) (cs:List V) (code:List AOrd) (r:Nat) (a_0:vs=[.ref m,.ref l0,.int (r:Nat)]) (a_1:Grow H0 H) (a_2:H0 m=none) (a_3:H m=some (.ins C dx [])) (a_4:H0 l0=some (.lst cs)) (a_5:jW K H0 code cs) (a_6:8<=r) (a_7:r<=400) (a_8:∀(d:Ad)H',d.C=C->d.CH=CH->d.m=m->MS K H0 d (Ms.new code r) H'->Q .non H'):qY4 K C CH vs H Q
def qHq(K:Fg)(C CH:Addr):Sp:=fun vs H Q x_0=>qY4 K C CH vs H Q
theorem zX0(F:zZ K "__init__" "Machine.__init__" zQ0 .none f fd)(M:Mc K C)(N:Hc K CH)(G:GlM mg)(GH:qS P w K mg base (CXE P w) 1 fH fdH ["self","room"] (qH9 CH))(mH:mg "Heap"=some (.ref CH))(KH:Mk K CH fH)(bH:Binds K fdH ["self","room"] []):
  qS P w K mg base (CXE P w) 3 f fd ["self","code","room"] (qHq K C CH):=by
 refine F.ok0 zU9 (fun vs H Q E h=>?_) (fun cdv A outer s H vs Q E hr h=>?_)
 ·obtain⟨H0,m,dx,l0,cs,code,r,rfl,_⟩:=h
  rfl
 ·obtain⟨H0,m,dx,l0,cs,code,r,rfl,g0,nm,hm,hl0,hco,h8,h400,q⟩:=h
  obtain⟨t1,m1⟩:=G.leastR
  obtain⟨t2,m2⟩:=G.greatR
  refine⟨_,qZ (zC (qN2 (qE oK (pv 2) (zR (v:=.int 8) (by rfl) m1 ⟨t1,rfl⟩) (nomark _)) (aD (qE iP (pv 2) (zR (v:=.int 400) (by rfl) m2 ⟨t2,rfl⟩) (nomark _)))).pt jF zQ)
   (qZ (jP (pv 0) (xW yX (by rfl) G.list PyProof.Rows.boot_list (qQ (pv 1) qJ)) rfl)
   (qZ (jP (pv 0) (pS KH GH hr (by rfl) mH bH .nil zS (qQ (pv 2) qJ)) rfl)
   (qZ (jP (pv 0) (jX qJ) rfl)
   (qZ (jP (pv 0) qV rfl)
   (qZ (jP (pv 0) qV rfl)
   (qZ (jP (pv 0) (jX qJ) rfl)
   (qK (jP (pv 0) qC rfl)))))))),?_⟩
  walk_at "e"
  refine⟨_,rfl,_,_,rfl,rfl,_,rfl,?_⟩
  refine ite2 (fun z=>absurd (of_decide_eq_true z) (by omega)) (fun _=>?_)
  refine⟨_,rfl,_,_,rfl,rfl,_,rfl,?_⟩
  refine ite2 (fun z=>absurd (of_decide_eq_true z) (by omega)) (fun _=>?_)
  refine⟨_,rfl,l0,cs,rfl,.inl (zH.of (g0.same _ _ hl0)),fun l hl=>?_⟩
  have ml:m≠l:=zV hm hl
  have x1:Kp m H (upd H l (.lst cs)):=Kp.of (Grow.put hl)
  have n1:=(Grow.put (o:=.lst cs) hl).same _ _ hm
  have a1:(upd H l (.lst cs)) l=some (.lst cs):=qX
  generalize upd H l (.lst cs)=H1 at x1 n1 a1⊢
  refine⟨_,rfl,m,C,dx,_,rfl,n1,M.cl,M.n1,(by show 0<1000;decide),?_⟩
  rw[show xM ("code":Str) (V.ref l) []=([("code",.ref l)]:List (Str×V))from rfl]
  have x2:Kp m H1 (upd H1 m (.ins C dx ([("code",.ref l)]:List (Str×V)))):=Kp.fld
  have n2:(upd H1 m (.ins C dx ([("code",.ref l)]:List (Str×V)))) m=some (.ins C dx ([("code",.ref l)]:List (Str×V))):=qX
  have a2:=x2.lst n1 a1
  generalize upd H1 m (.ins C dx ([("code",.ref l)]:List (Str×V)))=H2 at x2 n2 a2⊢
  refine⟨_,rfl,fun hp dh hhp hdh nhp=>?_⟩
  have gg:Grow H2 (upd (upd H2 dh (.own hp)) hp (.ins CH dh [])):=(Grow.put hdh).trans (Grow.put (by rw[qH nhp.symm];exact hhp))
  have me:(upd (upd H2 dh (.own hp)) hp (.ins CH dh [])) hp=some (.ins CH dh []):=qX
  have mhp:m≠hp:=zV n2 hhp
  have lhp:l≠hp:=zV a2 hhp
  have n3:=gg.same _ _ n2
  have a3:=gg.same _ _ a2
  generalize upd (upd H2 dh (.own hp)) hp (.ins CH dh [])=H3 at gg me n3 a3⊢
  refine⟨hp,dh,_,rfl,me,fun th H4 y4 e4 nth eth=>⟨rfl,?_⟩⟩
  have n4:=y4.keep _ _ mhp n3
  have a4:=y4.keep _ _ lhp a3
  have x4:Kp m H2 H4:=⟨fun b o hb e=>y4.keep b o (fun z=>by rw[z,hhp]at e;cases e) (gg.same _ _ e),fun b e=>gg.none b (y4.none b e)⟩
  have lth:l≠th:=zV a3 nth
  have nth2:H2 th=none:=gg.none _ nth
  refine⟨_,rfl,m,C,dx,_,rfl,n4,M.cl,M.n2,(by show 1<1000;decide),?_⟩
  rw[xS (ks:=["code"]) (by decide+kernel) rfl]
  have x5:Kp m H4 (upd H4 m (.ins C dx (([("code",.ref l)]:List (Str×V))++([("heap",.ref hp)]:List (Str×V))))):=Kp.fld
  have n5:(upd H4 m (.ins C dx (([("code",.ref l)]:List (Str×V))++([("heap",.ref hp)]:List (Str×V))))) m=some (.ins C dx (([("code",.ref l)]:List (Str×V))++([("heap",.ref hp)]:List (Str×V)))):=qX
  generalize upd H4 m (.ins C dx (([("code",.ref l)]:List (Str×V))++([("heap",.ref hp)]:List (Str×V))))=H5 at x5 n5⊢
  have a5:=x5.lst n4 a4
  have t5:=x5.lst n4 eth
  have h5:=x5.keep _ _ mhp.symm e4
  refine⟨(by show 0<=sizeLine;decide),fun st hst=>?_⟩
  have lst':l≠st:=zV a5 hst
  have tst:th≠st:=zV t5 hst
  have x6:Kp m H5 (upd H5 st (.lst [])):=Kp.of (Grow.put hst)
  have n6:=(Grow.put (o:=.lst []) hst).same _ _ n5
  have s6:(upd H5 st (.lst [])) st=some (.lst []):=qX
  generalize upd H5 st (.lst [])=H6 at x6 n6 s6⊢
  have nst:H0 st=none:=g0.none _ (x1.none _ (x2.none _ (x4.none _ (x5.none _ hst))))
  refine⟨_,rfl,m,C,dx,_,rfl,n6,M.cl,M.n3,(by show 2<1000;decide),?_⟩
  rw[xS (ks:=["code","heap"]) (by decide+kernel) rfl]
  have x7:Kp m H6 (upd H6 m (.ins C dx ((([("code",.ref l)]:List (Str×V))++([("heap",.ref hp)]:List (Str×V)))++([("stack",.ref st)]:List (Str×V))))):=Kp.fld
  have n7:(upd H6 m (.ins C dx ((([("code",.ref l)]:List (Str×V))++([("heap",.ref hp)]:List (Str×V)))++([("stack",.ref st)]:List (Str×V))))) m=some (.ins C dx ((([("code",.ref l)]:List (Str×V))++([("heap",.ref hp)]:List (Str×V)))++([("stack",.ref st)]:List (Str×V)))):=qX
  generalize upd H6 m (.ins C dx ((([("code",.ref l)]:List (Str×V))++([("heap",.ref hp)]:List (Str×V)))++([("stack",.ref st)]:List (Str×V))))=H7 at x7 n7⊢
  refine⟨_,rfl,m,C,dx,_,rfl,n7,M.cl,M.n4,(by show 3<1000;decide),?_⟩
  rw[xS (ks:=["code","heap","stack"]) (by decide+kernel) rfl]
  have x8:Kp m H7 (upd H7 m (.ins C dx (((([("code",.ref l)]:List (Str×V))++([("heap",.ref hp)]:List (Str×V)))++([("stack",.ref st)]:List (Str×V)))++([("base",.int 0)]:List (Str×V))))):=Kp.fld
  have n8:(upd H7 m (.ins C dx (((([("code",.ref l)]:List (Str×V))++([("heap",.ref hp)]:List (Str×V)))++([("stack",.ref st)]:List (Str×V)))++([("base",.int 0)]:List (Str×V))))) m=some (.ins C dx (((([("code",.ref l)]:List (Str×V))++([("heap",.ref hp)]:List (Str×V)))++([("stack",.ref st)]:List (Str×V)))++([("base",.int 0)]:List (Str×V)))):=qX
  generalize upd H7 m (.ins C dx (((([("code",.ref l)]:List (Str×V))++([("heap",.ref hp)]:List (Str×V)))++([("stack",.ref st)]:List (Str×V)))++([("base",.int 0)]:List (Str×V))))=H8 at x8 n8⊢
  refine⟨_,rfl,m,C,dx,_,rfl,n8,M.cl,M.n5,(by show 4<1000;decide),?_⟩
  rw[xS (ks:=["code","heap","stack","base"]) (by decide+kernel) rfl]
  have x9:Kp m H8 (upd H8 m (.ins C dx ((((([("code",.ref l)]:List (Str×V))++([("heap",.ref hp)]:List (Str×V)))++([("stack",.ref st)]:List (Str×V)))++([("base",.int 0)]:List (Str×V)))++([("place",.int 0)]:List (Str×V))))):=Kp.fld
  have n9:(upd H8 m (.ins C dx ((((([("code",.ref l)]:List (Str×V))++([("heap",.ref hp)]:List (Str×V)))++([("stack",.ref st)]:List (Str×V)))++([("base",.int 0)]:List (Str×V)))++([("place",.int 0)]:List (Str×V))))) m=some (.ins C dx ((((([("code",.ref l)]:List (Str×V))++([("heap",.ref hp)]:List (Str×V)))++([("stack",.ref st)]:List (Str×V)))++([("base",.int 0)]:List (Str×V)))++([("place",.int 0)]:List (Str×V)))):=qX
  generalize upd H8 m (.ins C dx ((((([("code",.ref l)]:List (Str×V))++([("heap",.ref hp)]:List (Str×V)))++([("stack",.ref st)]:List (Str×V)))++([("base",.int 0)]:List (Str×V)))++([("place",.int 0)]:List (Str×V))))=H9 at x9 n9⊢
  have x59:=((x6.trans x7).trans x8).trans x9
  have x69:=(x7.trans x8).trans x9
  have a9:=x59.lst n5 a5
  have t9:=x59.lst n5 t5
  have h9:=x59.keep _ _ mhp.symm h5
  have s9:=x69.lst n6 s6
  refine⟨(by show 0<=sizeLine;decide),fun pd hpd=>?_⟩
  have lpd:l≠pd:=zV a9 hpd
  have tpd:th≠pd:=zV t9 hpd
  have spd:st≠pd:=zV s9 hpd
  have x10:Kp m H9 (upd H9 pd (.lst [])):=Kp.of (Grow.put hpd)
  have n10:=(Grow.put (o:=.lst []) hpd).same _ _ n9
  have p10:(upd H9 pd (.lst [])) pd=some (.lst []):=qX
  generalize upd H9 pd (.lst [])=H10 at x10 n10 p10⊢
  have x05:=(x1.trans x2).trans (x4.trans x5)
  have npd:H0 pd=none:=g0.none _ (x05.none _ (x59.none _ hpd))
  refine⟨_,rfl,m,C,dx,_,rfl,n10,M.cl,M.n6,(by show 5<1000;decide),?_⟩
  rw[xS (ks:=["code","heap","stack","base","place"]) (by decide+kernel) rfl]
  have x11:Kp m H10 (upd H10 m (.ins C dx (((((([("code",.ref l)]:List (Str×V))++([("heap",.ref hp)]:List (Str×V)))++([("stack",.ref st)]:List (Str×V)))++([("base",.int 0)]:List (Str×V)))++([("place",.int 0)]:List (Str×V)))++([("pending",.ref pd)]:List (Str×V))))):=Kp.fld
  have n11:(upd H10 m (.ins C dx (((((([("code",.ref l)]:List (Str×V))++([("heap",.ref hp)]:List (Str×V)))++([("stack",.ref st)]:List (Str×V)))++([("base",.int 0)]:List (Str×V)))++([("place",.int 0)]:List (Str×V)))++([("pending",.ref pd)]:List (Str×V))))) m=some (.ins C dx (((((([("code",.ref l)]:List (Str×V))++([("heap",.ref hp)]:List (Str×V)))++([("stack",.ref st)]:List (Str×V)))++([("base",.int 0)]:List (Str×V)))++([("place",.int 0)]:List (Str×V)))++([("pending",.ref pd)]:List (Str×V)))):=qX
  generalize upd H10 m (.ins C dx (((((([("code",.ref l)]:List (Str×V))++([("heap",.ref hp)]:List (Str×V)))++([("stack",.ref st)]:List (Str×V)))++([("base",.int 0)]:List (Str×V)))++([("place",.int 0)]:List (Str×V)))++([("pending",.ref pd)]:List (Str×V))))=H11 at x11 n11⊢
  refine⟨_,rfl,m,C,dx,_,rfl,n11,M.cl,M.n7,(by show 6<1000;decide),?_⟩
  rw[xS (ks:=["code","heap","stack","base","place","pending"]) (by decide+kernel) rfl]
  have d0:∃d:Ad,d=⟨C,CH,m,dx,hp,dh,l,pd,st,th⟩:=⟨_,rfl⟩
  obtain⟨d,ed⟩:=d0
  have x12:Kp m H11 (upd H11 m (.ins C dx (mfl ⟨C,CH,m,dx,hp,dh,l,pd,st,th⟩ (Ms.new code r)))):=Kp.fld
  have n12:(upd H11 m (.ins C dx (mfl ⟨C,CH,m,dx,hp,dh,l,pd,st,th⟩ (Ms.new code r)))) m=some (.ins C dx (mfl ⟨C,CH,m,dx,hp,dh,l,pd,st,th⟩ (Ms.new code r))):=qX
  show Q .non (upd H11 m (.ins C dx (mfl ⟨C,CH,m,dx,hp,dh,l,pd,st,th⟩ (Ms.new code r))))
  generalize upd H11 m (.ins C dx (mfl ⟨C,CH,m,dx,hp,dh,l,pd,st,th⟩ (Ms.new code r)))=H12 at x12 n12⊢
  have x9f:=(x10.trans x11).trans x12
  have x0f:=(x05.trans x59).trans x9f
  have kt0:jG K H H12:=x0f.tups hm
  refine q ⟨C,CH,m,dx,hp,dh,l,pd,st,th⟩ H12 rfl rfl rfl ⟨⟨fun b o e=>x0f.keep b o (zV e nm) (g0.same b o e),fun b e=>g0.none b (x0f.none b e)⟩,nm,g0.none _ (x1.none _ (x2.none _ hhp)),nst,npd,g0.none _ (x1.none _ (x2.none _ nth2)),n12,?_,⟨[],x9f.lst n9 s9,qT⟩,⟨[],(x11.trans x12).lst n10 p10,qT⟩,⟨cs,x9f.lst n9 a9,?_⟩,⟨[],x9f.lst n9 t9,qT⟩,mhp,lst',spd.symm,tst,lpd,tpd,lth⟩
  ·exact x9f.keep _ _ mhp.symm h9
  ·exact qI.monoT kt0 (hco.mono g0.same)
end
end K19
namespace Ms
end Ms
open PySem
inductive Pc where
 |text (s:Str)|value (v:AV)|tail (v:AV)
namespace Ms
def bare:AV->Str
 | .nil=>"[]"
 | .bl true=>"true"
 | .bl false=>"false"
 | .int n=>toString n
 | .at_ _=>""
end Ms
namespace Pc
def dt:Pc->Dt
 | .text s=>.tup [.str "text",.str s]
 | .value v=>.tup [.str "value",v.dt]
 | .tail v=>.tup [.str "tail",v.dt]
end Pc
namespace K19
open PySem L2 PyProof Dt
theorem qY5{n:Int}(h:In64 n):n.natAbs.log2<64:=qX7 (by unfold In64 at h;omega) (by decide)
structure IsB(K:Fg):Prop where
 ib:PySem.W.kitOne K (.type "int") (.type "bool")=some false
 bb:PySem.W.kitOne K (.type "bool") (.type "bool")=some true
structure GlW(mg:Str->Option Value):Prop where
 isi:mg "isinstance"=none
 bool:mg "bool"=none
 str:mg "str"=none
 list:mg "list"=none
 reversed:mg "reversed"=none
 len:mg "len"=none
 empty:mg "EMPTY"=some .none
 shown:∃t,mg "LONGEST_SHOWN"=some (.int 1000 t)
section
variable {K:Fg} {H H':Hp}
end
section
variable {P:Program} {w:World} {K:Fg} {mg:Str->Option Value} {base:Heap} {C CH f fS fH:Addr} {fd fdS fdH:FuncData}
theorem zX1:qO ["value"] ["value"] (qU qV2):=by walk_at "s"
inductive sW(K:Fg)(vs:List V)(H:Hp)(Q:VK):Prop
 |mk (v:AV) (x:V) (a_0:vs=[x]) (a_1:qW K H v.dt x) (a_2:v.ok) (a_3:pO v=false) (a_4:Q (.str (Ms.bare v)) H):sW K vs H Q
def qY6(K:Fg):Sp:=fun vs H Q x_0=>sW K vs H Q
theorem qM6(F:zZ K "bare_text" "bare_text" qV2 .none f fd)(G:GlW mg)(I:IsB K):qS P w K mg base (CXE P w) 1 f fd ["value"] (qY6 K):=by
 refine F.ok0 zX1 (fun vs H Q E h=>?_) (fun cdv A outer s H vs Q E hr h=>?_)
 ·obtain⟨v,x,rfl,_⟩:=h
  rfl
 ·obtain⟨v,x,rfl,hx,hok,ha,q⟩:=h
  refine⟨_,qZ (zC (qE vD (pv 0) (zR (v:=.non) (by rfl) G.empty rfl) (nomark _)) (qK (qM qC)) zQ)
   (qZ (zC (jE (zI oS (by rfl) G.isi PyProof.Rows.boot_isinstance (qQ (pv 0) (qQ (cP (v:=.ty "bool") (by rfl) G.bool PyProof.Rows.boot_bool rfl) qJ)))) (qK (qM (kF (oW (pv 0) (fun _=>rfl)) qC qC))) zQ)
   (qK (qM (xW cE (by rfl) G.str PyProof.Rows.boot_str (qQ (pv 0) qJ))))),?_⟩
  walk_at "e"
  refine⟨_,rfl,v.dt,.non,hx,by rw[qW],xR hr (Nat.le_trans (gJ _) (by decide)),_,rfl,?_⟩
  rw[oQ]
  cases v with
  |nil=>rw[decide_eq_true rfl];exact jN q
  |at_ k=>cases ha
  |int n=>
   rw[decide_eq_false (by intro z;cases z)]
   cases kU hx
   exact jO ⟨_,rfl,.int n,_,"bool",false,rfl,hx,I.ib,_,rfl,jO ⟨_,rfl,n,rfl,Nat.lt_trans (qY5 hok) (by decide),q⟩⟩
  |bl b=>
   rw[decide_eq_false (by intro z;cases z)]
   cases mL hx
   refine jO ⟨_,rfl,.bl b,_,"bool",true,rfl,hx,I.bb,_,rfl,jN ⟨_,rfl,b,rfl,?_⟩⟩
   cases b
   ·exact jO q
   ·exact jN q
end
section
variable {P:Program} {w:World} {K:Fg} {mg:Str->Option Value} {base:Heap} {C CH f fS fH:Addr} {fd fdS fdH:FuncData}
theorem nS:qO ["heap","piece","value","sort","held"] ["heap","piece"] (qU lT):=by walk_at "s"
inductive cC(K:Fg)(vs:List V)(H:Hp)(Q:VK):Prop
 |mk (h:V) (a:Addr) (v:AV) (y:V) (a_0:vs=[h,.ref a]) (a_1:zO K H a [.str "value",y]) (a_2:qW K H v.dt y) (a_3:v.ok) (a_4:pO v=false) (a_5:∀l t H',Grow H H'->H l=none->H' l=some (.lst [.ref t])->H' t=some (.tup [.str "text",.str (Ms.bare v)])->Q (.ref l) H'):cC K vs H Q
def nA(K:Fg):Sp:=fun vs H Q x_0=>cC K vs H Q
theorem aC(F:zZ K "pieces_of" "pieces_of" lT .none f fd)(GI:Kn P w K mg base 1 "is_reference" ["value"] (qH8 K))(GB:Kn P w K mg base 1 "bare_text" ["value"] (qY6 K)):qS P w K mg base (CXE P w) 3 f fd ["heap","piece"] (nA K):=by
 refine F.ok0 nS (fun vs H Q E h=>?_) (fun cdv A outer s H vs Q E hr h=>?_)
 ·obtain⟨h,a,v,y,rfl,_⟩:=h
  rfl
 ·obtain⟨h,a,v,y,rfl,ha,hy,hvo,hz,q⟩:=h
  have h1r:=hr.mono (show 1<=2 by omega)
  refine⟨_,qZ (qB (i:=2) nS.nd rfl (Or.inl rfl) (qL qP (pv 1) qV (fun _ _=>rfl)))
   (qZ (zC (qE jB (qL qP (pv 1) qV (fun _ _=>rfl)) qC (nomark _)) jF zQ)
   (qZ (zC (wU (jE (zY GI h1r (qQ (pv 2) qJ)))) (qK (qM (jX (qQ (zF (qQ qC (qQ (zY GB h1r (qQ (pv 2) qJ)) qJ))) qJ)))) zQ) jF)),?_⟩
  walk_at "e"
  refine⟨_,rfl,a,_,_,y,rfl,rfl,ha,qY (j:=1) rfl,?_⟩
  walk_at "d"
  refine⟨_,rfl,a,_,_,_,rfl,rfl,ha,qY (j:=0) rfl,rfl,_,rfl,ite2 (fun z=>absurd z (by decide+kernel)) (fun _=>?_)⟩
  refine⟨_,rfl,v,y,rfl,hy,_,rfl,?_⟩
  rw[hz]
  refine jN ⟨_,rfl,v,y,rfl,hy,hvo,hz,(by show 2<=sizeLine;decide),fun t ht=>?_⟩
  have g1:Grow H (upd H t (.tup [.str "text",.str (Ms.bare v)])):=Grow.put ht
  have e1:(upd H t (.tup [.str "text",.str (Ms.bare v)])) t=some (.tup [.str "text",.str (Ms.bare v)]):=qX
  generalize upd H t (.tup [.str "text",.str (Ms.bare v)])=H1 at g1 e1⊢
  refine⟨(by show 1<=sizeLine;decide),fun l hl=>?_⟩
  have g2:Grow H1 (upd H1 l (.lst [.ref t])):=Grow.put hl
  exact q l t _ (g1.trans g2) (g1.none _ hl) qX (g2.same _ _ e1)
theorem wX:qO ["heap","value","texts","left","waiting","piece"] ["heap","value"] (qU hG):=by walk_at "s"
inductive nE(K:Fg)(vs:List V)(H:Hp)(Q:VK):Prop
 |mk (h:V) (v:AV) (x:V) (a_0:vs=[h,x]) (a_1:qW K H v.dt x) (a_2:v.ok) (a_3:pO v=false) (a_4:(Ms.bare v).length<=1000) (a_5:∀H',Grow H H'->Q (.str (Txt.join (Str.ofString "") [Ms.bare v])) H'):nE K vs H Q
def sY(K:Fg):Sp:=fun vs H Q x_0=>nE K vs H Q
structure Vt(H:Hp)(h x:V)(tx wt:Addr)(lf:Int)(a b:List V)(σ:St)(H':Hp):Prop where
 s:∃o,σ=[some h,some x,some (.ref tx),some (.int lf),some (.ref wt),o]
 g:Grow H H'
 t:H' tx=some (.lst a)
 w:H' wt=some (.lst b)
theorem qY7(F:zZ K "value_text" "value_text" hG .none f fd)(G:GlW mg)(GP:Kn P w K mg base 3 "pieces_of" ["heap","piece"] (nA K)):qS P w K mg base (CXE P w) 4 f fd ["heap","value"] (sY K):=by
 refine F.ok0 wX (fun vs H Q E h=>?_) (fun cdv A outer s H vs Q E hr h=>?_)
 ·obtain⟨h,v,x,rfl,_⟩:=h
  rfl
 ·obtain⟨h,v,x,rfl,hx,hvo,hz,hl,q⟩:=h
  obtain⟨t1,m1⟩:=G.shown
  refine⟨_,qZ (qB (i:=2) wX.nd rfl (Or.inl rfl) (jX qJ))
   (qZ (qB (i:=3) wX.nd rfl (Or.inl rfl) (zR (v:=.int 1000) (by rfl) m1 ⟨t1,rfl⟩))
   (qZ (qB (i:=4) wX.nd rfl (Or.inl rfl) (jX (qQ (zF (qQ qC (qQ (pv 1) qJ))) qJ)))
   (qZ (wS PassesOwn.never (oW (pv 4) (fun _=>rfl))
    (qZ (qB (i:=5) wX.nd rfl (Or.inl rfl) (xQ aq0 aq3 aq4 xZ (pv 4)))
    (qK (zC (qE jB (qL qP (pv 5) qV (fun _ _=>rfl)) qC (nomark _))
     (qZ (qN (jJ aq0 aq1 aq2 qA (pv 2) (qQ (qL qP (pv 5) qV (fun _ _=>rfl)) qJ)))
     (qZ (aS (i:=3) wX.nd rfl (Or.inl rfl) (zI lW (by rfl) G.len aq16 (qQ (qL qP (pv 5) qV (fun _ _=>rfl)) qJ)) aT)
     (qK (zC (qE oK (pv 3) qV (nomark _)) jF zQ))))
     (qK (qN (jJ aq0 PySem.F.slot_list_extend PySem.F.type_list_extend cQ (pv 4) (qQ (qS6 rfl (by rfl) G.list (by rfl) G.reversed (qQ (zY GP hr (qQ (pv 0) (qQ (pv 5) qJ))) qJ)) qJ))))))))
   (qK (qM (jJ PySem.F.plainAttrs_str PySem.F.slot_str_join PySem.F.type_str_join qI5 qC (qQ (pv 2) qJ))))))),?_⟩
  walk_at "e"
  refine⟨(by show 0<=sizeLine;decide),fun tx htx=>?_⟩
  walk_at "d"
  have g1:Grow H (upd H tx (.lst [])):=Grow.put htx
  have e1:(upd H tx (.lst [])) tx=some (.lst []):=qX
  generalize upd H tx (.lst [])=H1 at g1 e1⊢
  show iG _ _ _ _ H1
  refine⟨_,rfl,(by show 2<=sizeLine;decide),fun p hp'=>?_⟩
  have g2:Grow H1 (upd H1 p (.tup [.str "value",x])):=Grow.put hp'
  have e2:(upd H1 p (.tup [.str "value",x])) p=some (.tup [.str "value",x]):=qX
  generalize upd H1 p (.tup [.str "value",x])=H2 at g2 e2⊢
  refine⟨(by show 1<=sizeLine;decide),fun wt hwt=>?_⟩
  walk_at "d"
  have g3:Grow H2 (upd H2 wt (.lst [.ref p])):=Grow.put hwt
  have e3:(upd H2 wt (.lst [.ref p])) wt=some (.lst [.ref p]):=qX
  have g12:=g1.trans g2
  have nw:H wt=none:=g12.none _ hwt
  have txw:tx≠wt:=zV (g2.same _ _ e1) hwt
  have e2:=g3.same _ _ e2
  have e1:=(g2.trans g3).same _ _ e1
  generalize upd H2 wt (.lst [.ref p])=H3 at g3 e1 e2 e3⊢
  have one:(Ms.bare v).length<=sizeLine:=by rw[sizeLine_eq];omega
  have W2:∀{σ' H'},Vt H h x tx wt (1000-((Ms.bare v).length:Nat)) [.str (Ms.bare v)] [] σ' H'->∃m',m'<1/\((m'=2/\Vt H h x tx wt 1000 [] [.ref p] σ' H'/\H' p=some (.tup [.str "value",x]))\/(m'=1/\∃t,Vt H h x tx wt 1000 [] [.ref t] σ' H'/\H' t=some (.tup [.str "text",.str (Ms.bare v)]))\/(m'=0/\Vt H h x tx wt (1000-((Ms.bare v).length:Nat)) [.str (Ms.bare v)] [] σ' H')):=fun z=>⟨0,by decide,.inr (.inr ⟨rfl,z⟩)⟩
  refine⟨fun n σ H'=>(n=2/\Vt H h x tx wt 1000 [] [.ref p] σ H'/\H' p=some (.tup [.str "value",x]))\/(n=1/\∃t,Vt H h x tx wt 1000 [] [.ref t] σ H'/\H' t=some (.tup [.str "text",.str (Ms.bare v)]))\/(n=0/\Vt H h x tx wt (1000-((Ms.bare v).length:Nat)) [.str (Ms.bare v)] [] σ H'),
   ⟨2,.inl ⟨rfl,⟨⟨_,rfl⟩,g12.trans g3,e1,e3⟩,e2⟩⟩,?_⟩
  rintro n σ H4 (⟨rfl,⟨⟨o,rfl⟩,g4,e4,e5⟩,e6⟩|⟨rfl,t,⟨⟨o,rfl⟩,g4,e4,e5⟩,e6⟩|⟨rfl,⟨o,rfl⟩,g4,e4,e5⟩)
  ·refine⟨_,rfl,true,.inl ⟨_,zH.of e5,by simp⟩,jN ?_⟩
   refine⟨fun σ H'=>∃t,Vt H h x tx wt 1000 [] [.ref t] σ H'/\H' t=some (.tup [.str "text",.str (Ms.bare v)]),fun σ' H' hh=>⟨1,by decide,.inr (.inl ⟨rfl,hh⟩)⟩,?_⟩
   refine⟨_,rfl,.inl ⟨rfl,_,zH.of e5⟩,wt,_,.ref p,rfl,rfl,e5,by simp,?_⟩
   dsimp only[xD,List.set,List.dropLast]
   have kt5:=zB (K:=K) (ys:=[]) e5
   have g5:=g4.set (o:=.lst []) nw
   have a1:(upd H4 wt (.lst [])) tx=some (.lst []):=(qH txw).trans e4
   have a2:(upd H4 wt (.lst [])) wt=some (.lst []):=qX
   have a3:zO K (upd H4 wt (.lst [])) p [.str "value",x]:=kt5 _ _ (zO.of e6)
   show bD _ _ _ _ _ (upd H4 wt (.lst []))
   generalize upd H4 wt (.lst [])=H5 at g5 a1 a2 a3⊢
   refine⟨_,rfl,p,_,_,_,rfl,rfl,a3,qY (j:=0) rfl,rfl,_,rfl,ite2 (fun z=>absurd z (by decide+kernel)) (fun _=>?_)⟩
   refine⟨_,rfl,.inl ⟨rfl,_,zH.of a2⟩,_,rfl,_,rfl,h,p,v,x,rfl,a3,hx.mono g5.same,hvo,hz,fun l t H6 g6 n6 b1 b2=>?_⟩
   refine⟨l,_,rfl,zH.of b1,fun l2 hl2=>?_⟩
   have g7:Grow H6 (upd H6 l2 (.lst [.ref t])):=Grow.put hl2
   have b3:(upd H6 l2 (.lst [.ref t])) l2=some (.lst [.ref t]):=qX
   have g67:=g6.trans g7
   have b5:=g67.same _ _ a2
   have b6:=g67.same _ _ a1
   have b7:=g7.same _ _ b2
   have g8:=g5.trans g67
   show pE _ _ (upd H6 l2 (.lst [.ref t])) _
   generalize upd H6 l2 (.lst [.ref t])=H7 at b3 b5 b6 b7 g8⊢
   refine⟨wt,l2,[],[.ref t],rfl,rfl,b5,b3,(by show 1<=sizeLine;decide),t,⟨⟨_,rfl⟩,g8.set nw,(qH txw).trans b6,qX⟩,?_⟩
   rw[qH (xB b7 b5 (by intro z;cases z))]
   exact b7
  ·refine⟨_,rfl,true,.inl ⟨_,zH.of e5,by simp⟩,jN ?_⟩
   refine⟨fun σ H'=>Vt H h x tx wt (1000-((Ms.bare v).length:Nat)) [.str (Ms.bare v)] [] σ H',fun σ' H' hh=>W2 hh,?_⟩
   refine⟨_,rfl,.inl ⟨rfl,_,zH.of e5⟩,wt,_,.ref t,rfl,rfl,e5,by simp,?_⟩
   dsimp only[xD,List.set,List.dropLast]
   have kt5:=zB (K:=K) (ys:=[]) e5
   have g5:=g4.set (o:=.lst []) nw
   have a1:(upd H4 wt (.lst [])) tx=some (.lst []):=(qH txw).trans e4
   have a2:(upd H4 wt (.lst [])) wt=some (.lst []):=qX
   have a3:zO K (upd H4 wt (.lst [])) t [.str "text",.str (Ms.bare v)]:=kt5 _ _ (zO.of e6)
   show bD _ _ _ _ _ (upd H4 wt (.lst []))
   generalize upd H4 wt (.lst [])=H5 at g5 a1 a2 a3⊢
   refine⟨_,rfl,t,_,_,_,rfl,rfl,a3,qY (j:=0) rfl,rfl,_,rfl,ite2 (fun _=>?_) (fun z=>absurd (by decide+kernel) z)⟩
   refine⟨_,rfl,.inl ⟨rfl,_,zH.of a1⟩,_,rfl,t,_,_,.str (Ms.bare v),rfl,rfl,a3,qY (j:=1) rfl,tx,[],_,rfl,rfl,a1,(by show 0<sizeLine;decide),?_⟩
   have kt6:=zB (K:=K) (ys:=[.str (Ms.bare v)]) a1
   have g6:=g5.set (o:=.lst [.str (Ms.bare v)]) htx
   have b1:(upd H5 tx (.lst [.str (Ms.bare v)])) tx=some (.lst [.str (Ms.bare v)]):=qX
   have b2:(upd H5 tx (.lst [.str (Ms.bare v)])) wt=some (.lst []):=(qH txw.symm).trans a2
   have b3:=kt6 _ _ a3
   show iG _ _ _ _ (upd H5 tx (.lst [.str (Ms.bare v)]))
   generalize upd H5 tx (.lst [.str (Ms.bare v)])=H6 at g6 b1 b2 b3⊢
   refine⟨_,rfl,_,rfl,t,_,_,.str (Ms.bare v),rfl,rfl,b3,qY (j:=1) rfl,_,rfl,one,_,_,rfl,rfl,?_⟩
   walk_at "d"
   refine⟨_,rfl,_,_,rfl,rfl,_,rfl,?_⟩
   exact ite2 (fun z=>absurd (of_decide_eq_true z) (by omega)) (fun _=>⟨⟨_,rfl⟩,g6,b1,b2⟩)
  ·refine⟨_,rfl,false,.inl ⟨_,zH.of e5,rfl⟩,jO ?_⟩
   refine⟨rfl,_,rfl,_,tx,[Ms.bare v],rfl,rfl,zH.of e4,(by decide+kernel),?_,q H4 g4⟩
   simp;omega
theorem qM7:qO ["self"] ["self"] (qU pZ):=by walk_at "s"
inductive bQ(K:Fg)(C:Addr)(CH:Addr)(vs:List V)(H:Hp)(Q:VK):Prop
 |mk (H0:Hp) (d:Ad) (m:Ms) (v:AV) (a_0:vs=[.ref d.m]) (a_1:d.C=C) (a_2:d.CH=CH) (a_3:MS K H0 d m H) (a_4:m.Wf) (a_5:m.st= .done) (a_6:m.stk=[v]) (a_7:pO v=false) (a_8:(Ms.bare v).length<=1000) (a_9:∀H',Grow H H'->Q (.str (Txt.join (Str.ofString "") [Ms.bare v])) H'):bQ K C CH vs H Q
def sU(K:Fg)(C CH:Addr):Sp:=fun vs H Q x_0=>bQ K C CH vs H Q
theorem qY8(F:zZ K "shown" "Machine.shown" pZ .none f fd)(M:Mc K C)(GT:Kn P w K mg base 4 "value_text" ["heap","value"] (sY K)):qS P w K mg base (CXE P w) 5 f fd ["self"] (sU K C CH):=by
 refine F.ok0 qM7 (fun vs H Q E h=>?_) (fun cdv A outer s H vs Q E hr h=>?_)
 ·obtain⟨H0,d,m,v,rfl,_⟩:=h
  rfl
 ·obtain⟨H0,d,m,v,rfl,rfl,rfl,h,hw,hst,hsk,hz,hl,q⟩:=h
  refine⟨_,qZ (zC (qE eJ (qR (pv 0) rfl) qC (nomark _)) jF zQ)
   (qK (qM (zY GT hr (qQ (qR (pv 0) rfl) (qQ (qL zJ (qR (pv 0) rfl) qV (fun _ _=>rfl)) qJ))))),?_⟩
  walk_at "e"
  refine⟨_,rfl,d.m,d.C,d.dx,_,_,rfl,h.mo,M.cl,M.n7,kQ _ _,rfl,_,rfl,?_⟩
  rw[hst]
  refine qFq (by decide+kernel) ?_
  obtain⟨vs,hs,hd⟩:=h.so
  rw[hsk]at hd
  obtain⟨x,r,rfl,hx,hr0⟩:=qD hd
  cases zD hr0
  exact⟨_,rfl,d.m,d.C,d.dx,_,_,rfl,h.mo,M.cl,M.n2,wB _ _,_,rfl,d.m,d.C,d.dx,_,_,rfl,h.mo,M.cl,M.n3,xL _ _,d.st,_,_,x,rfl,rfl,zH.of hs,qY (j:=0) rfl,_,v,x,rfl,hx,hw.iv v (by rw[hsk];simp),hz,hl,q⟩
end
structure Df(K:Fg)(mg:Str->Option Value)(x:Str)(st:Stmt)(ps:List Str)(f:Addr)(fd:FuncData):Prop where
 fn:zZ K x x st .none f fd
 at_:mg x=some (.ref f)
 bi:Binds K fd ps []
section
variable {P:Program} {w:World} {K:Fg} {mg:Str->Option Value} {base:Heap} {f:Addr} {fd:FuncData} {x:Str} {st:Stmt} {ps:List Str} {k:Nat} {sp:Sp}
theorem Df.kn(d:Df K mg x st ps f fd)(h:qS P w K mg base (CXE P w) k f fd ps sp):Kn P w K mg base k x ps sp:=⟨f,fd,h,d.at_,d.fn.kp,d.bi⟩
theorem Df.at(d:Df K mg x st ps f fd)(h:qS P w K mg base (CXE P w) k f fd ps sp):At P w K mg base k f ps sp:=⟨fd,h,d.fn.kp,d.bi⟩
end
section
variable {P:Program} {w:World} {K:Fg} {mg:Str->Option Value} {base:Heap}
variable {fFit fLet fFn fRec fON fOpd fCall fIf fLetC fFnC fCode:Addr} {dFit dLet dFn dRec dON dOpd dCall dIf dLetC dFnC dCode:FuncData}
theorem sO(F:Df K mg "fitted" qZq iL fFit dFit)(FL:Df K mg "let_kind" rG iL fLet dLet)(FN:Df K mg "fn_kind" qC8 iL fFn dFn)(FR:Df K mg "rec_kind" rM iL fRec dRec)(G:GlF P w K mg base fLet fFn fRec)(GV:Kn P w K mg base 1 "values_behind" ["part","sort"] (mN K))(GR:Kn P w K mg base 1 "require" ["holds"] uN)(GU:Kn P w K mg base 1 "looked_up" ["scope","name"] dA)(GP:Kn P w K mg base 1 "pair_kind" ["kinds","pairs"] (qT1 K))(GW:Kn P w K mg base 1 "with_name" ["scope","name","bound"] dP):
  ∀n,Kn P w K mg base (2*n+2) "fitted" iL (yL K n)
 |0=>F.kn (qCj F.fn)
 |n+1=>by
  have ih:=sO F FL FN FR G GV GR GU GP GW n
  exact F.kn (qT5 F.fn G GV GR GU GP (FL.at (qT2 FL.fn ih GW)) (FN.at (zWq FN.fn ih GW)) (FR.at (qT3 FR.fn ih GW GR)) ih)
theorem qY9(F:Df K mg "outside_names" sON ["part"] fON dON)(G:GlO mg)(GV:Kn P w K mg base 1 "values_behind" ["part","sort"] (mN K))(GB:Kn P w K mg base 2 "names_bound" ["part"] (qZ2 K)):∀n,Kn P w K mg base (n+2) "outside_names" ["part"] (aJ K n)
 |0=>F.kn (qA1 F.fn)
 |n+1=>F.kn (zY1 F.fn G GV GB (qY9 F G GV GB n))
theorem bZ{tb:Addr}(F:Df K mg "code_of" iJ ps4 fCode dCode)(FO:Df K mg "operands_code" qL2 ["part","slots","height"] fOpd dOpd)(FC:Df K mg "call_code" lR ps4 fCall dCall)(FI:Df K mg "if_code" qL3 ps4 fIf dIf)(FL:Df K mg "let_code" rD ps4 fLetC dLetC)(FF:Df K mg "function_code" nU ["part","slots"] fFnC dFnC)(G:GlC mg)
  (mP:mg "PLACED_CODES"=some (.ref tb))(T1:uR K tb (pkeys.zip [.ref fCall,.ref fIf,.ref fIf,.ref fIf,.ref fLetC]))(GV:Kn P w K mg base 1 "values_behind" ["part","sort"] (mN K))(GB:Kn P w K mg base 2 "names_bound" ["part"] (qZ2 K))(GU:Kn P w K mg base 1 "looked_up" ["scope","name"] dA)(GW:Kn P w K mg base 1 "with_name" ["scope","name","bound"] dP)
  (GA:Kn P w K mg base 1 "as_if" ["part"] (qA5 K))(GVa:Kn P w K mg base 2 "value_code" ["part","slots"] (qX0 K))(GO:∀n,Kn P w K mg base (n+2) "outside_names" ["part"] (aJ K n)):∀n,Kn P w K mg base (3*n+4) "code_of" ps4 (vR K n)
 |0=>F.kn (qX6 F.fn)
 |n+1=>by
  have ih:=bZ F FO FC FI FL FF G mP T1 GV GB GU GW GA GVa GO n
  have o:=FO.kn (qA3 FO.fn G.enumerate GV ih)
  exact F.kn (qL5 F.fn mP T1 (FC.at (qJ9 FC.fn o)) (FI.at (ok_ifC FI.fn G.len GA ih)) (FL.at (qL4 FL.fn GW ih)) (FF.kn (qA8 FF.fn G GU GB (GO (n+1)) ih)) GVa o)
end
section
variable {P:Program} {w:World} {K:Fg} {mg:Str->Option Value} {base:Heap} {f:Addr} {fd:FuncData}
inductive qHz(K:Fg)(vs:List V)(H:Hp)(Q:VK):Prop
 |mk (v:V) (p:Pt) (κ:Kd) (a_0:vs=[v]) (a_1:qW K H p.dt v) (a_2:p.deep<70) (a_3:p.sz<=50000) (a_4:Pt.Has [] p κ) (a_5:∀u H',Grow H H'->qW K H' κ.dt u->Q u H'):qHz K vs H Q
def zUq(K:Fg):Sp:=fun vs H Q x_0=>qHz K vs H Q
theorem zM1:qO ["part"] ["part"] (qU sKO):=by walk_at "s"
theorem zUz(F:zZ K "kind_of" "kind_of" sKO .none f fd)(GF:Kn P w K mg base 142 "fitted" iL (yL K 70)):qS P w K mg base (CXE P w) 143 f fd ["part"] (zUq K):=by
 refine F.ok0 zM1 (fun vs H Q E h=>?_) (fun cdv A outer s H vs Q E hr h=>?_)
 ·obtain⟨v,p,κ,rfl,_⟩:=h
  rfl
 ·obtain⟨v,p,κ,rfl,hp,hd,hz,hh,q⟩:=h
  refine⟨_,qK (qM (zY GF hr (qQ (pv 0) (qQ yY (qQ (jX qJ) qJ))))),?_⟩
  walk_at "e"
  refine⟨_,rfl,fun d hd1=>?_⟩
  have g1:Grow H (upd H d (.dK [])):=Grow.put hd1
  have e1:(upd H d (.dK [])) d=some (.dK []):=qX
  generalize upd H d (.dK [])=H1 at g1 e1⊢
  refine⟨(by show 0<=sizeLine;decide),fun l hl=>?_⟩
  have g2:Grow H1 (upd H1 l (.lst [])):=Grow.put hl
  have e2:(upd H1 l (.lst [])) l=some (.lst []):=qX
  have e1:=g2.same _ _ e1
  generalize upd H1 l (.lst [])=H2 at g2 e1 e2⊢
  have g12:=g1.trans g2
  refine⟨v,d,l,p,[],κ,0,0,rfl,hp.mono g12.same,hd,hh,⟨[],e1,by simp,fun x k h=>by cases h⟩,by omega,⟨[],[],e2,qT,(fun k h=>by cases h),by simp⟩,by omega,fun u H3 g3 _ hu=>?_⟩
  exact q u H3 (jV.of_new g12 g3 (g1.none _ hl)) hu
inductive qHj(K:Fg)(vs:List V)(H:Hp)(Q:VK):Prop
 |mk (v:V) (p:Pt) (κ:Kd) (a_0:vs=[v]) (a_1:qW K H p.dt v) (a_2:p.deep<70) (a_3:p.sz<=50000) (a_4:Pt.Has [] p κ) (a_5:∀l ys H',Grow H H'->H l=none->H' l=some (.lst ys)->jW K H' (Pt.codeOf p [] 0 true) ys->Q (.ref l) H'):qHj K vs H Q
def zUj(K:Fg):Sp:=fun vs H Q x_0=>qHj K vs H Q
theorem zM2:qO ["part"] ["part"] (qU qJ5):=by walk_at "s"
theorem zO0(F:zZ K "compiled" "compiled" qJ5 .none f fd)(GK:Kn P w K mg base 143 "kind_of" ["part"] (zUq K))(GC:Kn P w K mg base 214 "code_of" ps4 (vR K 70)):qS P w K mg base (CXE P w) 215 f fd ["part"] (zUj K):=by
 refine F.ok0 zM2 (fun vs H Q E h=>?_) (fun cdv A outer s H vs Q E hr h=>?_)
 ·obtain⟨v,p,κ,rfl,_⟩:=h
  rfl
 ·obtain⟨v,p,κ,rfl,hp,hd,hz,hh,q⟩:=h
  refine⟨_,qZ (qN (zY GK (hr.mono (by omega)) (qQ (pv 0) qJ))) (qK (qM (zY GC hr (qQ (pv 0) (qQ yY (qQ qV (qQ vM qJ))))))),?_⟩
  walk_at "e"
  refine⟨_,rfl,v,p,κ,rfl,hp,hd,hz,hh,fun u H1 g1 _=>?_⟩
  refine⟨_,rfl,fun d hd1=>?_⟩
  have g2:Grow H1 (upd H1 d (.dK [])):=Grow.put hd1
  have e1:(upd H1 d (.dK [])) d=some (.dK []):=qX
  generalize upd H1 d (.dK [])=H2 at g2 e1⊢
  have g12:=g1.trans g2
  refine⟨v,d,0,true,p,[],rfl,hp.mono g12.same,hd,hz,⟨[],e1,by simp;omega,fun x hx=>?_⟩,fun l ys H3 g3 n3 e3 hc3=>q l ys H3 (g12.trans g3) (g12.none _ n3) e3 hc3⟩
  obtain⟨l,hl⟩:=hh.fv x hx
  cases hl
end
end K19
inductive Ds where
 |str (x:PySem.Str)|int (n:Int)|bl (b:Bool)|var (i:Nat)|tup (l:List Ds)
namespace L2
open PySem PySem.Spec PyProof.Rows PyProof Dt
mutual
def dsE:Ds->TE
 | .str x=>tC (.str x)
 | .int n=>tC (.int n)
 | .bl b=>tC (.bl b)
 | .var i=>jY i
 | .tup l=>qR6 (dsA l)
def dsA:List Ds->TA
 |[]=>wC
 |d::l=>xO (dsE d) (dsA l)
end
mutual
def dsD(ρ:Nat->Dt):Ds->Dt
 | .str x=>.str x
 | .int n=>.int n
 | .bl b=>.bl b
 | .var i=>ρ i
 | .tup l=>.tup (pI ρ l)
def pI(ρ:Nat->Dt):List Ds->List Dt
 |[]=>[]
 |d::l=>dsD ρ d::pI ρ l
end
mutual
def qYq(vs:List Nat):Ds->Bool
 | .var i=>vs.contains i
 | .tup l=>decide (l.length<=100)&&sI vs l
 |_=>true
def sI(vs:List Nat):List Ds->Bool
 |[]=>true
 |d::l=>qYq vs d&&sI vs l
end
theorem bJ(ρ:Nat->Dt):∀l:List Ds,(pI ρ l).length=l.length
 |[]=>rfl
 |d::l=>by rw[pI,List.length_cons,List.length_cons,bJ]
section
variable {K:Fg} {ρ:Nat->Dt} {σ:St} {vs:List Nat}
mutual
theorem vC:∀(d:Ds)(H:Hp)(Q:VK),qYq vs d=true->(∀i∈vs,∃v,σ[i]? =some (some v)/\qW K H (ρ i) v)->(∀v H',Grow H H'->qW K H' (dsD ρ d) v->Q v H')->dsE d σ H Q
 | .str x,H,Q,_,_,q=>q _ H (Grow.refl H) (by rw[dsD,qW])
 | .int x,H,Q,_,_,q=>q _ H (Grow.refl H) (by rw[dsD,qW])
 | .bl x,H,Q,_,_,q=>q _ H (Grow.refl H) (by rw[dsD,qW])
 | .var i,H,Q,ho,hv,q=>by
  rw[qYq]at ho
  obtain⟨v,h1,h2⟩:=hv i (by simpa using ho)
  exact⟨v,h1,q v H (Grow.refl H) (by rw[dsD];exact h2)⟩
 | .tup l,H,Q,ho,hv,q=>by
  rw[qYq,Bool.and_eq_true]at ho
  refine qYz l H _ ho.2 hv fun xs H1 g1 hx=>?_
  have hl:xs.length=l.length:=by rw[hx.length,bJ]
  refine⟨by have :=of_decide_eq_true ho.1;rw[sizeLine_eq];omega,fun p hp=>?_⟩
  have g2:Grow H1 (upd H1 p (.tup xs)):=Grow.put hp
  exact q _ _ (g1.trans g2) (by rw[dsD,qW];exact⟨p,xs,rfl,zO.of qX,hx.mono g2.same⟩)
theorem qYz:∀(l:List Ds)(H:Hp)(Q:List V->Hp->Prop),sI vs l=true->(∀i∈vs,∃v,σ[i]? =some (some v)/\qW K H (ρ i) v)->(∀xs H',Grow H H'->qI K H' (pI ρ l) xs->Q xs H')->dsA l σ H Q
 |[],H,Q,_,_,q=>q [] H (Grow.refl H) (by rw[pI,qI])
 |d::l,H,Q,ho,hv,q=>by
  rw[sI,Bool.and_eq_true]at ho
  refine vC d H _ ho.1 hv fun v H1 g1 h1=>?_
  refine qYz l H1 _ ho.2 (fun i hi=>let⟨u,a,b⟩:=hv i hi;⟨u,a,b.mono g1.same⟩) fun xs H2 g2 h2=>?_
  exact q (v::xs) H2 (g1.trans g2) (by rw[pI,qI];exact⟨v,xs,rfl,h1.mono g2.same,h2⟩)
end
end
structure PEd(X:Cx)(e:Expr)(d:Ds):Prop where
 h:PE X e (dsE d)
structure PAd(X:Cx)(es:List Expr)(l:List Ds):Prop where
 h:PA X es (dsA l)
section
variable {X:Cx} {es rest:List Expr} {l l':List Ds} {j k:Nat} {p:Pos} {x:Str} {n:Int} {b:Bool} {i:Nat}
theorem dn:PAd X [] []:=⟨qJ⟩
theorem dS(hr:PAd X rest l):PAd X (.Constant (.str x) j p::rest) (.str x::l):=⟨qQ qC hr.h (by rfl)⟩
theorem dI(hr:PAd X rest l):PAd X (.Constant (.int n) j p::rest) (.int n::l):=⟨qQ qV hr.h (by rfl)⟩
theorem dB(hr:PAd X rest l):PAd X (.Constant (.bool b) j p::rest) (.bl b::l):=⟨qQ vM hr.h (by rfl)⟩
theorem dT(h:PAd X es l)(hr:PAd X rest l'):PAd X (.Tuple es k p::rest) (.tup l::l'):=⟨qQ (zF h.h) hr.h (by rfl)⟩
theorem dX(h:PE X (.Name x p) (jY i))(hr:PAd X rest l):PAd X (.Name x p::rest) (.var i::l):=⟨qQ h hr.h (by rfl)⟩
theorem kT(h:PAd X es l):PEd X (.Tuple es k p) (.tup l):=⟨zF h.h⟩
end
end L2
open PySem
namespace Ms
end Ms
open PySem
inductive TV where
 |num (n:Int)|tru (b:Bool)|nil|cell (a b:TV)|pair (a b:TV)
 |clo (f:Option Str) (x:Str) (p:Pt) (env:List (Str×TV))
abbrev TEnv:=List (Str×TV)
inductive Tr where
 |tired|byNought|ofEmpty|tooDeep
deriving DecidableEq
inductive Rs where
 |val (v:TV)|trap (t:Tr)
structure Sc where
 made:Nat
 parts:Nat
namespace Ev
def u2s:U2->Option Sm
 | .plus=>some .plus| .minus=>some .minus| .times=>some .times| .over=>some .over| .rest=>some .rest| .less=>some .less| .same=>some .same
 |_=>none
def zO2:AV->TV
 | .int n=>.num n
 | .bl b=>.tru b
 |_=>.nil
def join1:U1->TV->Option Rs
 | .head,.nil=>some (.trap .ofEmpty)
 | .head,.cell a _=>some (.val a)
 | .tail,.nil=>some (.trap .ofEmpty)
 | .tail,.cell _ b=>some (.val b)
 | .empty,.nil=>some (.val (.tru true))
 | .empty,.cell _ _=>some (.val (.tru false))
 | .first,.pair a _=>some (.val a)
 | .second,.pair _ b=>some (.val b)
 | .not,.tru b=>some (.val (.tru (!b)))
 |_,_=>none
def join2(u:U2)(a b:TV)(s:Sc):Option (Rs×Sc):=match u,u2s u,a,b with
 | .cons,_,a,b=>some (.val (.cell a b),{s with made:=s.made+1})
 | .pair,_,a,b=>some (.val (.pair a b),{s with made:=s.made+1})
 |_,some m,.num x,.num y=>some (if Ms.nought m y then .trap .byNought else .val (zO2 (Ms.sumV m x y)),s)
 |_,_,_,_=>none
def ev(most:Nat):Nat->Pt->TEnv->Nat->Bool->Sc->Option (Rs×Sc)
 |0,_,_,_,_,_=>none
 |n+1,p,env,pd,last,s0=>
  if most<s0.parts+1 then some (.trap .tired,⟨s0.made,s0.parts+1⟩)else
  let s:Sc:=⟨s0.made,s0.parts+1⟩
  match p with
  | .num k=>some (.val (.num k),s)
  | .tru b=>some (.val (.tru b),s)
  | .nil _=>some (.val .nil,s)
  | .nam x=>(env.lookup x).map fun v=>(.val v,s)
  | .fn x _ q=>some (.val (.clo none x q env),{s with made:=s.made+1})
  | .rc f x _ _ q=>some (.val (.clo (some f) x q env),{s with made:=s.made+1})
  | .one u a=>(ev most n a env pd false s).bind fun r=>match r with
   |(.val v,s1)=>(join1 u v).map fun x=>(x,s1)
   |(.trap t,s1)=>some (.trap t,s1)
  | .ite a b c=>(ev most n a env pd false s).bind fun r=>match r with
   |(.val (.tru true),s1)=>ev most n b env pd last s1
   |(.val (.tru false),s1)=>ev most n c env pd last s1
   |(.val _,_)=>none
   |(.trap t,s1)=>some (.trap t,s1)
  | .let_ x a b=>(ev most n a env pd false s).bind fun r=>match r with
   |(.val v,s1)=>ev most n b ((x,v)::env) pd last s1
   |(.trap t,s1)=>some (.trap t,s1)
  | .two .and a b=>(ev most n a env pd false s).bind fun r=>match r with
   |(.val (.tru true),s1)=>ev most n b env pd last s1
   |(.val (.tru false),s1)=>some (.val (.tru false),s1)
   |(.val _,_)=>none
   |(.trap t,s1)=>some (.trap t,s1)
  | .two .or a b=>(ev most n a env pd false s).bind fun r=>match r with
   |(.val (.tru true),s1)=>some (.val (.tru true),s1)
   |(.val (.tru false),s1)=>ev most n b env pd last s1
   |(.val _,_)=>none
   |(.trap t,s1)=>some (.trap t,s1)
  | .two .call a b=>(ev most n a env pd false s).bind fun r=>match r with
   |(.val va,s1)=>(ev most n b env pd false s1).bind fun r2=>match r2 with
    |(.val vb,s2)=>if last=false/\pd=40 then some (.trap .tooDeep,s2)else match va with
     | .clo none x q env'=>ev most n q ((x,vb)::env') (if last then pd else pd+1) true s2
     | .clo (some g) x q env'=>ev most n q ((x,vb)::(g,.clo (some g) x q env')::env') (if last then pd else pd+1) true s2
     |_=>none
    |(.trap t,s2)=>some (.trap t,s2)
   |(.trap t,s1)=>some (.trap t,s1)
  | .two u a b=>(ev most n a env pd false s).bind fun r=>match r with
   |(.val va,s1)=>(ev most n b env pd false s1).bind fun r2=>match r2 with
    |(.val vb,s2)=>join2 u va vb s2
    |(.trap t,s2)=>some (.trap t,s2)
   |(.trap t,s1)=>some (.trap t,s1)
end Ev
open PySem
namespace Ms
def iter:Nat->Ms->Option Ms
 |0,m=>some m
 |k+1,m=>if m.st= .running then m.order.bind (iter k)else none
theorem bX:∀(a b:Nat)(m:Ms),iter (a+b) m=(iter a m).bind (iter b)
 |0,b,m=>by rw[Nat.zero_add];rfl
 |a+1,b,m=>by
  rw[show a+1+b=(a+b)+1 by omega,iter,iter]
  by_cases h:m.st= .running
  ·rw[if_pos h,if_pos h]
   cases e:m.order with
   |none=>rfl
   |some m1=>exact bX a b m1
  ·rw[if_neg h,if_neg h];rfl
theorem iter_seq{a b:Nat}{m m1 m2:Ms}(h:iter a m=some m1)(g:iter b m1=some m2):iter (a+b) m=some m2:=by rw[bX,h];exact g
end Ms
namespace Ev
abbrev mk(C:List AOrd)(R:Nat)(t:List Th)(md:Nat)(stk:List AV)(base pl:Nat)(pend:List (Nat×Nat)):Ms:=⟨C,R,t,md,stk,base,pl,pend,.running⟩
def At(C:List AOrd)(pl:Nat)(c:List AOrd):Prop:=∃post,C.drop pl=c++post
theorem At.app{C:List AOrd}{pl:Nat}{c d:List AOrd}(h:At C pl (c++d)):At C pl c/\At C (pl+c.length) d:=by
 obtain⟨post,e⟩:=h
 refine⟨⟨d++post,by rw[e,List.append_assoc]⟩,⟨post,?_⟩⟩
 rw[<-List.drop_drop,e,List.append_assoc,List.drop_left]
theorem At.cons{C:List AOrd}{pl:Nat}{o:AOrd}{c:List AOrd}(h:At C pl (o::c)):C[pl]? =some o/\At C (pl+1) c:=by
 obtain⟨post,e⟩:=h
 refine⟨?_,(At.app (c:=[o]) (d:=c) ⟨post,e⟩).2⟩
 have :=congrArg (fun l=>l[0]?) e
 simpa using this
theorem step{C:List AOrd}{R:Nat}{t:List Th}{md:Nat}{stk:List AV}{base pl:Nat}{pend:List (Nat×Nat)}{o:AOrd}{c:List AOrd}{m1:Ms}(h:At C pl (o::c))(e:(mk C R t md stk base (pl+1) pend).exec o=some m1)(hl:m1.stk.length<=Ms.high):
  Ms.iter 1 (mk C R t md stk base pl pend)=some m1:=by
 have h1:(mk C R t md stk base pl pend).order=some m1:=by
  unfold Ms.order
  rw[show(mk C R t md stk base pl pend).code[(mk C R t md stk base pl pend).place]? =some o from h.cons.1]
  show((mk C R t md stk base (pl+1) pend).exec o).bind _=_
  rw[e]
  show(if m1.stk.length<=Ms.high then some m1 else none)=some m1
  rw[if_pos hl]
 show(if Sd.running=Sd.running then _ else _)=_
 rw[if_pos rfl,h1]
 rfl
def Nw(N:Nat):Pt->Prop
 | .one _ p=>Nw N p
 | .two _ p q=>Nw N p/\Nw N q
 | .ite p q r=>Nw N p/\Nw N q/\Nw N r
 | .let_ _ p q=>Nw N p/\Nw N q
 | .fn x k p=>(Pt.outs (.fn x k p)).length<=N/\Nw N p
 | .rc f x k l p=>(Pt.outs (.rc f x k l p)).length<=N/\Nw N p
 |_=>True
inductive Rep(C:List AOrd)(N:Nat)(t:List Th):AV->TV->Prop
 |num {n}:Rep C N t (.int n) (.num n)
 |tru {b}:Rep C N t (.bl b) (.tru b)
 |nil:Rep C N t .nil .nil
 |cell {k a b x y}:t[k]? =some ⟨.cell,[a,b]⟩->Rep C N t a x->Rep C N t b y->Rep C N t (.at_ k) (.cell x y)
 |pair {k a b x y}:t[k]? =some ⟨.pair,[a,b]⟩->Rep C N t a x->Rep C N t b y->Rep C N t (.at_ k) (.pair x y)
 |fn {k pl kept x κ p env} (g:Str->TV):t[k]? =some ⟨.fn,.int ((pl:Nat):Int):: .bl false::kept⟩->At C pl (Pt.codeOf p (Pt.slotsFor 0 (Pt.outs (.fn x κ p)++[x])) ((Pt.outs (.fn x κ p)).length+1) true)->kept.length=(Pt.outs (.fn x κ p)).length->Nw N (.fn x κ p)->
   (∀nm∈Pt.outs (.fn x κ p),env.lookup nm=some (g nm))->(∀(i:Nat)(nm:Str)(a:AV),(Pt.outs (.fn x κ p))[i]? =some nm->kept[i]? =some a->Rep C N t a (g nm))->Rep C N t (.at_ k) (.clo none x p env)
 |rc {k pl kept f x κ l p env} (g:Str->TV):t[k]? =some ⟨.fn,.int ((pl:Nat):Int):: .bl (decide (f≠x))::kept⟩->At C pl (Pt.codeOf p (Pt.slotsFor 0 (Pt.outs (.rc f x κ l p)++if f=x then[f]else[f,x])) ((Pt.outs (.rc f x κ l p)).length+(if f=x then[f]else[f,x]).length) true)->kept.length=(Pt.outs (.rc f x κ l p)).length->Nw N (.rc f x κ l p)->
   (∀nm∈Pt.outs (.rc f x κ l p),env.lookup nm=some (g nm))->(∀(i:Nat)(nm:Str)(a:AV),(Pt.outs (.rc f x κ l p))[i]? =some nm->kept[i]? =some a->Rep C N t a (g nm))->Rep C N t (.at_ k) (.clo (some f) x p env)
theorem oZ{t t':List Th}(h:t<+:t'){k:Nat}{x:Th}(e:t[k]? =some x):t'[k]? =some x:=by
 obtain⟨u,rfl⟩:=h
 rw[List.getElem?_append_left (List.getElem?_eq_some_iff.mp e).1];exact e
theorem Rep.mono{C:List AOrd}{N:Nat}{t t':List Th}(h:t<+:t'){a:AV}{v:TV}(r:Rep C N t a v):Rep C N t' a v:=by
 induction r with
 |num=>exact .num
 |tru=>exact .tru
 |nil=>exact .nil
 |cell e _ _ i1 i2=>exact .cell (oZ h e) i1 i2
 |pair e _ _ i1 i2=>exact .pair (oZ h e) i1 i2
 |fn g e a1 a2 a3 a4 _ ih=>exact .fn g (oZ h e) a1 a2 a3 a4 ih
 |rc g e a1 a2 a3 a4 _ ih=>exact .rc g (oZ h e) a1 a2 a3 a4 ih
def kA(C:List AOrd)(N:Nat)(t:List Th)(fr:List AV)(sl:Pt.Sl)(env:TEnv)(p:Pt):Prop:=∀x,p.fv x->∃v a,env.lookup x=some v/\fr[Pt.slotOf sl x]? =some a/\Rep C N t a v
theorem kA.mono{C:List AOrd}{N:Nat}{t t':List Th}{fr more:List AV}{sl:Pt.Sl}{env:TEnv}{p q:Pt}(h:kA C N t fr sl env p)(g:t<+:t')(f:∀x,q.fv x->p.fv x):kA C N t' (fr++more) sl env q:=fun x hx=>by
 obtain⟨v,a,e1,e2,e3⟩:=h x (f x hx)
 exact⟨v,a,e1,by rw[List.getElem?_append_left (List.getElem?_eq_some_iff.mp e2).1];exact e2,e3.mono g⟩
theorem gU{C:List AOrd}{R:Nat}{t:List Th}{md:Nat}{fr below:List AV}{base pl:Nat}{pend:List (Nat×Nat)}(hb:below.length=base){k:Nat}{a:AV}(e:fr[k]? =some a):(mk C R t md (fr.reverse++below) base pl pend).slot k=some a:=by
 have hk:k<fr.length:=(List.getElem?_eq_some_iff.mp e).1
 unfold Ms.slot
 show(if base+k<(fr.reverse++below).length then(fr.reverse++below)[(fr.reverse++below).length-1-(base+k)]?else none)=some a
 have hl:(fr.reverse++below).length=fr.length+base:=by simp[hb]
 rw[hl,if_pos (by omega),List.getElem?_append_left (by rw[List.length_reverse];omega),List.getElem?_reverse (by omega)]
 rw[show fr.length-1-(fr.length+base-1-(base+k))=k by omega]
 exact e
def Tr.sd:Tr->Sd
 | .tired=>.running
 | .byNought=>.byNought
 | .ofEmpty=>.ofEmpty
 | .tooDeep=>.tooDeep
def qP1(C:List AOrd)(R:Nat)(t:List Th)(md:Nat)(a:AV)(below:List AV)(pend:List (Nat×Nat))(m':Ms):Prop:=match pend with
 |[]=>m'.st= .done/\m'.stk=[a]/\m'.things=t/\m'.made=md/\m'.code=C/\m'.room=R
 |(pl0,b0)::pe=>m'=mk C R t md (a::below.drop 2) b0 pl0 pe
def Out(C:List AOrd)(R N:Nat)(t:List Th)(md:Nat)(fr below:List AV)(base pl:Nat)(pend:List (Nat×Nat))(len:Nat)(last:Bool)(dm dp:Nat)(r:Rs):Prop:=match r with
 | .val v=>∃k a t' m',k<=3*dp/\t<+:t'/\t'.length=t.length+dm/\Rep C N t' a v/\Ms.iter k (mk C R t md (fr.reverse++below) base pl pend)=some m'/\
   (if last then qP1 C R t' (md+dm) a below pend m' else m'=mk C R t' (md+dm) (a::(fr.reverse++below)) base (pl+len) pend)
 | .trap x=>x= .tired\/∃k m',k<=3*dp/\Ms.iter k (mk C R t md (fr.reverse++below) base pl pend)=some m'/\m'.st=Tr.sd x/\m'.made=md+dm
theorem kE{C:List AOrd}{R N:Nat}{t t':List Th}{md:Nat}{fr below:List AV}{base pl:Nat}{pend:List (Nat×Nat)}{last:Bool}{c:List AOrd}{k dm dp:Nat}{a:AV}{v:TV}(hc:At C pl (Pt.told last c))(hb:below.length=base)(hp:pend≠[]->2<=base)(hh:fr.length+base+1<=Ms.high)
  (hk:k+1<=3*dp)(g:t<+:t')(hl:t'.length=t.length+dm)(hr:Rep C N t' a v)(hi:Ms.iter k (mk C R t md (fr.reverse++below) base pl pend)=some (mk C R t' (md+dm) (a::(fr.reverse++below)) base (pl+c.length) pend)):
  Out C R N t md fr below base pl pend (Pt.told last c).length last dm dp (.val v):=by
 cases last with
 |false=>exact⟨k,a,t',_,by omega,g,hl,hr,hi,rfl⟩
 |true=>
  have hat:At C (pl+c.length) [.tell]:=(At.app (c:=c) hc).2
  match pend,hp,hi with
  |[],hp,hi=>
   refine⟨k+1,a,t',_,hk,g,hl,hr,Ms.iter_seq hi (step hat rfl (by show 1<=100000;decide)),?_⟩
   exact⟨rfl,rfl,rfl,rfl,rfl,rfl⟩
  |(pl0,b0)::pe,hp,hi=>
   have hb2:=hp (by simp)
   have e:(mk C R t' (md+dm) (a::(fr.reverse++below)) base (pl+c.length+1) ((pl0,b0)::pe)).exec .tell=some (mk C R t' (md+dm) (a::below.drop 2) b0 pl0 pe):=by
    show(if 2<=base then some _ else none)=_
    rw[if_pos hb2]
    have :Ms.cut (fr.reverse++below) (base-2)=below.drop 2:=by
     unfold Ms.cut
     rw[List.length_append,List.length_reverse,hb,show fr.length+base-(base-2)=fr.length+2 by omega,<-List.drop_drop,List.drop_left' (by simp)]
    show some (mk C R t' (md+dm) (a::Ms.cut (fr.reverse++below) (base-2)) b0 pl0 pe)=_
    rw[this]
   exact⟨k+1,a,t',_,hk,g,hl,hr,Ms.iter_seq hi (step hat e (by show(a::below.drop 2).length<=_;simp;omega)),rfl⟩
end Ev
open PySem
namespace Ev
theorem iY{u:U2}{a b:TV}{s s':Sc}{r:Rs}(e:join2 u a b s=some (r,s')):s.made<=s'.made/\s.parts=s'.parts:=by
 unfold join2 at e
 split at e
 ·cases e;exact⟨Nat.le_succ _,rfl⟩
 ·cases e;exact⟨Nat.le_succ _,rfl⟩
 ·cases e;exact⟨aq7 _,rfl⟩
 ·cases e
theorem zM{most:Nat}:∀{n:Nat}{p:Pt}{env:TEnv}{pd:Nat}{last:Bool}{s s':Sc}{r:Rs},ev most n p env pd last s=some (r,s')->s.made<=s'.made/\s.parts+1<=s'.parts
 |0,p,env,pd,last,s,s',r,h=>by cases h
 |n+1,p,env,pd,last,s,s',r,h=>by
  unfold ev at h
  split at h
  ·cases h;exact⟨aq7 _,aq7 _⟩
  have two:∀{a:Pt}{f:Rs×Sc->Option (Rs×Sc)},(ev most n a env pd false ⟨s.made,s.parts+1⟩).bind f=some (r,s')->(∀r1 s1,s.made<=s1.made->s.parts+1<=s1.parts->f (r1,s1)=some (r,s')->s1.made<=s'.made/\s1.parts<=s'.parts)->s.made<=s'.made/\s.parts+1<=s'.parts:=by
   intro a f e k
   obtain⟨⟨r1,s1⟩,e1,e2⟩:=aq5.mp e
   obtain⟨m1,m2⟩:=zM e1
   simp only at m1 m2
   obtain⟨m3,m4⟩:=k r1 s1 m1 (by omega) e2
   exact⟨by omega,by omega⟩
  have again:∀{q:Pt}{env:TEnv}{pd:Nat}{last:Bool}{s1:Sc},ev most n q env pd last s1=some (r,s')->s1.made<=s'.made/\s1.parts<=s'.parts:=fun e=>by
   obtain⟨a,b⟩:=zM e
   exact⟨a,by omega⟩
  cases p with
  |num k=>cases h;exact⟨aq7 _,aq7 _⟩
  |tru k=>cases h;exact⟨aq7 _,aq7 _⟩
  |nil k=>cases h;exact⟨aq7 _,aq7 _⟩
  |nam x=>
   obtain⟨v,_,e⟩:=aq6.mp h
   cases e;exact⟨aq7 _,aq7 _⟩
  |fn x k q=>cases h;exact⟨Nat.le_succ _,aq7 _⟩
  |rc f x k l q=>cases h;exact⟨Nat.le_succ _,aq7 _⟩
  |one u a=>
   refine two h fun r1 s1 _ _ e=>?_
   cases r1 with
   |trap x=>cases e;exact⟨aq7 _,aq7 _⟩
   |val v=>
    obtain⟨x,_,e⟩:=aq6.mp e
    cases e;exact⟨aq7 _,aq7 _⟩
  |ite a b c=>
   refine two h fun r1 s1 _ _ e=>?_
   cases r1 with
   |trap x=>cases e;exact⟨aq7 _,aq7 _⟩
   |val v=>
    cases v with
    |tru w=>cases w<;>exact again e
    |_=>cases e
  |let_ x a b=>
   refine two h fun r1 s1 _ _ e=>?_
   cases r1 with
   |trap x=>cases e;exact⟨aq7 _,aq7 _⟩
   |val v=>exact again e
  |two u a b=>
   have bin:∀{f:TV->TV->Sc->Option (Rs×Sc)},(∀va vb s2,f va vb s2=some (r,s')->s2.made<=s'.made/\s2.parts<=s'.parts)->((ev most n a env pd false ⟨s.made,s.parts+1⟩).bind fun r=>match r with
     |(.val va,s1)=>(ev most n b env pd false s1).bind fun r2=>match r2 with
      |(.val vb,s2)=>f va vb s2
      |(.trap t,s2)=>some (.trap t,s2)
     |(.trap t,s1)=>some (.trap t,s1))=some (r,s')->s.made<=s'.made/\s.parts+1<=s'.parts:=by
    intro f k e
    refine two e fun r1 s1 _ _ e=>?_
    cases r1 with
    |trap x=>cases e;exact⟨aq7 _,aq7 _⟩
    |val va=>
     obtain⟨⟨r2,s2⟩,e1,e2⟩:=aq5.mp e
     obtain⟨m1,m2⟩:=zM e1
     cases r2 with
     |trap x=>cases e2;exact⟨m1,by omega⟩
     |val vb=>
      obtain⟨m3,m4⟩:=k va vb s2 e2
      exact⟨by omega,by omega⟩
   have oth:∀u',(ev most n a env pd false ⟨s.made,s.parts+1⟩).bind (fun r=>match r with
     |(.val va,s1)=>(ev most n b env pd false s1).bind fun r2=>match r2 with
      |(.val vb,s2)=>join2 u' va vb s2
      |(.trap t,s2)=>some (.trap t,s2)
     |(.trap t,s1)=>some (.trap t,s1))=some (r,s')->s.made<=s'.made/\s.parts+1<=s'.parts:=fun u' e=>bin (f:=join2 u') (fun va vb s2 e=>by
    obtain⟨m1,m2⟩:=iY e
    exact⟨m1,by omega⟩) e
   cases u
   case and=>
    refine two h fun r1 s1 _ _ e=>?_
    cases r1 with
    |trap x=>cases e;exact⟨aq7 _,aq7 _⟩
    |val v=>
     cases v with
     |tru w=>
      cases w
      ·cases e;exact⟨aq7 _,aq7 _⟩
      ·exact again e
     |_=>cases e
   case or=>
    refine two h fun r1 s1 _ _ e=>?_
    cases r1 with
    |trap x=>cases e;exact⟨aq7 _,aq7 _⟩
    |val v=>
     cases v with
     |tru w=>
      cases w
      ·exact again e
      ·cases e;exact⟨aq7 _,aq7 _⟩
     |_=>cases e
   case call=>
    refine bin (f:=fun va vb s2=>if last=false/\pd=40 then some (.trap .tooDeep,s2)else match va with
     | .clo none x q env'=>ev most n q ((x,vb)::env') (if last then pd else pd+1) true s2
     | .clo (some g) x q env'=>ev most n q ((x,vb)::(g,.clo (some g) x q env')::env') (if last then pd else pd+1) true s2
     |_=>none) (fun va vb s2 e=>?_) h
    split at e
    ·cases e;exact⟨aq7 _,aq7 _⟩
    ·split at e
     ·exact again e
     ·exact again e
     ·cases e
   case cons=>exact oth .cons h
   case pair=>exact oth .pair h
   case plus=>exact oth .plus h
   case minus=>exact oth .minus h
   case times=>exact oth .times h
   case over=>exact oth .over h
   case rest=>exact oth .rest h
   case less=>exact oth .less h
   case same=>exact oth .same h
theorem wH{m:Ms}{fr:List AV}{sl:Pt.Sl}(hs:∀k a,fr[k]? =some a->m.slot k=some a):∀(ns:List Str),(∀x∈ns,∃a,fr[Pt.slotOf sl x]? =some a)->∃vs,((ns.map (Pt.slotOf sl)).mapM fun k=>m.slot k)=some vs/\vs.length=ns.length/\∀(i:Nat)(x:Str)(a:AV),ns[i]? =some x->vs[i]? =some a->fr[Pt.slotOf sl x]? =some a
 |[],_=>⟨[],rfl,rfl,fun i x a h=>by simp at h⟩
 |x::ns,h=>by
  obtain⟨vs,e1,e2,e3⟩:=wH hs ns fun y hy=>h y (aq10 _ hy)
  obtain⟨a,ha⟩:=h x List.mem_cons_self
  refine⟨a::vs,?_,by simp[e2],fun i y b h1 h2=>?_⟩
  ·rw[List.map_cons,List.mapM_cons,hs _ _ ha,e1];rfl
  ·cases i with
   |zero=>
    have z1:x=y:=by simpa using h1
    have z2:a=b:=by simpa using h2
    rw[<-z1,<-z2];exact ha
   |succ i=>exact e3 i y b (by simpa using h1) (by simpa using h2)
end Ev
open PySem
namespace Ev
section
variable {C:List AOrd} {R N most:Nat}
def zM3(C:List AOrd)(R N:Nat)(t:List Th)(md:Nat)(stk:List AV)(base pl:Nat)(pend:List (Nat×Nat))(len dm dp:Nat)(v:TV):Prop:=
 ∃k a t',k<=3*dp/\t<+:t'/\t'.length=t.length+dm/\Rep C N t' a v/\Ms.iter k (mk C R t md stk base pl pend)=some (mk C R t' (md+dm) (a::stk) base (pl+len) pend)
def kY(C:List AOrd)(R:Nat)(t:List Th)(md:Nat)(stk:List AV)(base pl:Nat)(pend:List (Nat×Nat))(dm dp:Nat)(x:Tr):Prop:=
 x= .tired\/∃k m',k<=3*dp/\Ms.iter k (mk C R t md stk base pl pend)=some m'/\m'.st=Tr.sd x/\m'.made=md+dm
theorem Out.v{t:List Th}{md:Nat}{fr below:List AV}{base pl:Nat}{pend:List (Nat×Nat)}{len dm dp:Nat}{v:TV}(h:Out C R N t md fr below base pl pend len false dm dp (.val v)):zM3 C R N t md (fr.reverse++below) base pl pend len dm dp v:=by
 obtain⟨k,a,t',m',h1,h2,h3,h4,h5,h6⟩:=h
 have h6:m'=mk C R t' (md+dm) (a::(fr.reverse++below)) base (pl+len) pend:=h6
 subst h6
 exact⟨k,a,t',h1,h2,h3,h4,h5⟩
theorem kY.after{t t1:List Th}{md md1:Nat}{stk stk1:List AV}{base base1 pl pl1:Nat}{pend pend1:List (Nat×Nat)}{k dm dm1 dp dp1:Nat}{x:Tr}(hi:Ms.iter k (mk C R t md stk base pl pend)=some (mk C R t1 md1 stk1 base1 pl1 pend1))(h:kY C R t1 md1 stk1 base1 pl1 pend1 dm1 dp1 x)(hk:k+3*dp1<=3*dp)(hm:md1+dm1=md+dm):kY C R t md stk base pl pend dm dp x:=by
 rcases h with h|⟨k2,m',h1,h2,h3,h4⟩
 ·exact .inl h
 ·exact .inr ⟨k+k2,m',by omega,Ms.iter_seq hi h2,h3,by omega⟩
theorem Out.after{t t1:List Th}{md md1:Nat}{fr fr1 below:List AV}{base pl pl1:Nat}{pend:List (Nat×Nat)}{k len len1 dm dm1 dp dp1:Nat}{r:Rs}(hi:Ms.iter k (mk C R t md (fr.reverse++below) base pl pend)=some (mk C R t1 md1 (fr1.reverse++below) base pl1 pend))(g:t<+:t1)(hl:t1.length+dm1=t.length+dm)
  (h:Out C R N t1 md1 fr1 below base pl1 pend len1 true dm1 dp1 r)(hk:k+3*dp1<=3*dp)(hm:md1+dm1=md+dm):Out C R N t md fr below base pl pend len true dm dp r:=by
 cases r with
 |trap x=>exact kY.after hi h hk hm
 |val v=>
  obtain⟨k2,a,t',m',h1,h2,h3,h4,h5,h6⟩:=h
  refine⟨k+k2,a,t',m',by omega,g.trans h2,by omega,h4,Ms.iter_seq hi h5,?_⟩
  rw[hm]at h6;exact h6
theorem cL{t:List Th}{md:Nat}{stk:List AV}{base pl:Nat}{pend:List (Nat×Nat)}{a b:AV}{x:Srt}(h:t.length<R):(mk C R t md (b::a::stk) base pl pend).exec (.make x)=some (mk C R (t++[⟨x,[a,b]⟩]) (md+1) (.at_ t.length::stk) base pl pend):=by
 have e:(mk C R t md (b::a::stk) base pl pend).roomy=some (mk C R t md (b::a::stk) base pl pend):=by
  unfold Ms.roomy
  rw[if_neg (show¬R<=t.length by omega)]
 show(Ms.roomy _).bind _=_
 rw[e]
 rfl
theorem cG{t:List Th}{md:Nat}{stk:List AV}{base pl:Nat}{pend:List (Nat×Nat)}{rc:Bool}{ks:List Nat}{len:Nat}{vs:List AV}(h:t.length<R)(hv:(ks.mapM fun k=>(mk C R t md stk base pl pend).slot k)=some vs):(mk C R t md stk base pl pend).exec (.func rc ks len)=some (mk C R (t++[⟨.fn,.int ((pl:Nat):Int):: .bl rc::vs⟩]) (md+1) (.at_ t.length::stk) base (pl+len) pend):=by
 have e:(mk C R t md stk base pl pend).roomy=some (mk C R t md stk base pl pend):=by
  unfold Ms.roomy
  rw[if_neg (show¬R<=t.length by omega)]
 show(Ms.roomy _).bind _=_
 rw[e]
 show(Option.map _ (ks.mapM fun k=>(mk C R t md stk base pl pend).slot k))=_
 rw[hv]
 rfl
theorem yF{t:List Th}{x:Th}:(t++[x])[t.length]? =some x:=by simp
theorem xC{t:List Th}{x:Th}:t<+:t++[x]:=⟨[x],rfl⟩
theorem iU{t:List Th}{md:Nat}{stk:List AV}{base pl q k:Nat}{pend:List (Nat×Nat)}{rc:Bool}{kept:List AV}{h:AV}(e:t[k]? =some ⟨.fn,.int ((q:Nat):Int):: .bl rc::kept⟩):
  (mk C R t md stk base pl pend).enter k h=some (mk C R t md ((kept++(if rc then[AV.at_ k]else[])++[h]).reverse++stk) base q pend):=by
 unfold Ms.enter
 show(match t[k]?with
  |some ⟨_,.int pl':: .bl rc::kept⟩=>if pl'<0 then none else some (mk C R t md (h::((if rc then[AV.at_ k]else[])++(kept.reverse++stk))) base pl'.toNat pend)
  |_=>none)=_
 rw[e]
 show(if((q:Nat):Int)<0 then none else some _)=_
 rw[if_neg (by omega)]
 cases rc<;>simp
end
end Ev
open PySem
namespace Ev
section
variable {C:List AOrd} {R N most:Nat}
theorem vQ(fr below:List AV)(a:AV):(fr++[a]).reverse++below=a::(fr.reverse++below):=by simp
theorem kA.let_{t t':List Th}{fr:List AV}{sl:Pt.Sl}{env:TEnv}{x:Str}{a b:Pt}{v:TV}{av:AV}(h:kA C N t fr sl env (.let_ x a b))(g:t<+:t')(hv:Rep C N t' av v):kA C N t' (fr++[av]) ((x,fr.length)::sl) ((x,v)::env) b:=by
 intro y hy
 by_cases z:y=x
 ·subst z
  refine⟨v,av,by simp[List.lookup_cons],?_,hv⟩
  rw[Pt.slotOf_eq];simp
 ·obtain⟨u,c,e1,e2,e3⟩:=h y (.inr ⟨hy,z⟩)
  refine⟨u,c,by rw[List.lookup_cons,beq_eq_false_iff_ne.mpr z];exact e1,?_,e3.mono g⟩
  rw[Pt.slotOf_ne _ _ z,List.getElem?_append_left (List.getElem?_eq_some_iff.mp e2).1];exact e2
theorem kA.fn{t:List Th}{kept:List AV}{ns bs:List Str}{vals:List AV}{env env2:TEnv}{q:Pt}{g:Str->TV}(hk:kept.length=ns.length)(hnd:(ns++bs).Nodup)(hv:vals.length=bs.length)(hg:∀nm∈ns,env.lookup nm=some (g nm))(hr:∀(i:Nat)(nm:Str)(a:AV),ns[i]? =some nm->kept[i]? =some a->Rep C N t a (g nm))
  (hq:∀x,q.fv x->x∈ns\/x∈bs)(h2:∀nm∈ns,nm∉bs->env2.lookup nm=env.lookup nm)(hb:∀(i:Nat)(x:Str)(a:AV),bs[i]? =some x->vals[i]? =some a->∃v,env2.lookup x=some v/\Rep C N t a v):kA C N t (kept++vals) (Pt.slotsFor 0 (ns++bs)) env2 q:=by
 intro x hx
 by_cases z:x∈bs
 ·obtain⟨i,hi,e⟩:=List.getElem_of_mem z
  have e':bs[i]? =some x:=by rw[List.getElem?_eq_getElem hi,e]
  have hi':i<vals.length:=by omega
  obtain⟨v,e1,e2⟩:=hb i x vals[i] e' (List.getElem?_eq_getElem hi')
  refine⟨v,vals[i],e1,?_,e2⟩
  rw[Pt.slotOf_for (j:=ns.length+i) hnd (by rw[List.getElem?_append_right (by omega)];rw[show ns.length+i-ns.length=i by omega];exact e'),Nat.zero_add,List.getElem?_append_right (by omega),hk,show ns.length+i-ns.length=i by omega]
  exact List.getElem?_eq_getElem hi'
 ·have zn:x∈ns:=(hq x hx).resolve_right z
  obtain⟨i,hi,e⟩:=List.getElem_of_mem zn
  have e':ns[i]? =some x:=by rw[List.getElem?_eq_getElem hi,e]
  have hi':i<kept.length:=by omega
  refine⟨g x,kept[i],by rw[h2 x zn z];exact hg x zn,?_,hr i x kept[i] e' (List.getElem?_eq_getElem hi')⟩
  rw[Pt.slotOf_for (j:=i) hnd (by rw[List.getElem?_append_left hi];exact e'),Nat.zero_add,List.getElem?_append_left hi']
  exact List.getElem?_eq_getElem hi'
theorem yH(b:Bool)(x y:List AOrd):Pt.told b (x++y)=x++Pt.told b y:=by unfold Pt.told;cases b<;>simp
theorem wP(b:Bool)(c1 c2 c3:List AOrd):Pt.ifC b c1 c2 c3=c1++(.unless (if b then c2 else c2++[.skip c3.length]).length::((if b then c2 else c2++[.skip c3.length])++c3)):=by unfold Pt.ifC;simp
theorem aL{t t':List Th}{md md':Nat}{fr below:List AV}{base pl plx:Nat}{pend:List (Nat×Nat)}{k:Nat}{a:AV}(hat:At C plx [.tell])(hb:below.length=base)(hp:pend≠[]->2<=base)(hh:fr.length+base+1<=Ms.high)
  (hi:Ms.iter k (mk C R t md (fr.reverse++below) base pl pend)=some (mk C R t' md' (a::(fr.reverse++below)) base plx pend)):∃m',Ms.iter (k+1) (mk C R t md (fr.reverse++below) base pl pend)=some m'/\qP1 C R t' md' a below pend m':=by
 match pend,hp,hi with
 |[],hp,hi=>
  exact⟨_,Ms.iter_seq hi (step hat rfl (by show 1<=100000;decide)),rfl,rfl,rfl,rfl,rfl,rfl⟩
 |(pl0,b0)::pe,hp,hi=>
  have hb2:=hp (by simp)
  have e:(mk C R t' md' (a::(fr.reverse++below)) base (plx+1) ((pl0,b0)::pe)).exec .tell=some (mk C R t' md' (a::below.drop 2) b0 pl0 pe):=by
   show(if 2<=base then some _ else none)=_
   rw[if_pos hb2]
   have :Ms.cut (fr.reverse++below) (base-2)=below.drop 2:=by
    unfold Ms.cut
    rw[List.length_append,List.length_reverse,hb,show fr.length+base-(base-2)=fr.length+2 by omega,<-List.drop_drop,List.drop_left' (by simp)]
   show some (mk C R t' md' (a::Ms.cut (fr.reverse++below) (base-2)) b0 pl0 pe)=_
   rw[this]
  exact⟨_,Ms.iter_seq hi (step hat e (by show(a::below.drop 2).length<=_;simp;omega)),rfl⟩
theorem qM8{u:U2}{m:Sm}(h:u2s u=some m):Pt.u2 u= .sum m:=by cases u<;>cases h<;>rfl
theorem aG{u:U2}{a b:TV}{s s':Sc}{r:Rs}(e:join2 u a b s=some (r,s')):(u= .cons/\r= .val (.cell a b)/\s'={s with made:=s.made+1})\/(u= .pair/\r= .val (.pair a b)/\s'={s with made:=s.made+1})\/
  ∃m x y,Pt.u2 u= .sum m/\a= .num x/\b= .num y/\r=(if Ms.nought m y then .trap .byNought else .val (zO2 (Ms.sumV m x y)))/\s'=s:=by
 unfold join2 at e
 split at e
 ·cases e;exact .inl ⟨rfl,rfl,rfl⟩
 ·cases e;exact .inr (.inl ⟨rfl,rfl,rfl⟩)
 ·rename_i m x y _ _ hm
  cases e;exact .inr (.inr ⟨m,x,y,qM8 hm,rfl,rfl,rfl,rfl⟩)
 ·cases e
theorem wR(W a b c:Nat):(1+a+b+c)*W=W+a*W+b*W+c*W:=by rw[Nat.add_mul,Nat.add_mul,Nat.add_mul,Nat.one_mul]
structure Cn(C:List AOrd)(R N most:Nat)(n:Nat)(p:Pt)(env:TEnv)(pd:Nat)(last:Bool)(s s':Sc)(r:Rs)(t:List Th)(md:Nat)(fr below:List AV)(base pl:Nat)(pend:List (Nat×Nat))(sl:Pt.Sl):Prop where
 mkCn::
 ih:∀{p:Pt}{env:TEnv}{pd:Nat}{last:Bool}{s s':Sc}{r:Rs},ev most n p env pd last s=some (r,s')->∀(t:List Th)(md:Nat)(fr below:List AV)(base pl:Nat)(pend:List (Nat×Nat))(sl:Pt.Sl),At C pl (Pt.codeOf p sl fr.length last)->below.length=base->(pend≠[]->2<=base)->pend.length=pd->pd<=40->kA C N t fr sl env p->Nw N p->t.length+(s'.made-s.made)<=R->fr.length+base+(s'.parts-s.parts)*(N+3)<=Ms.high->Out C R N t md fr below base pl pend (Pt.codeOf p sl fr.length last).length last (s'.made-s.made) (s'.parts-s.parts) r
 hc:At C pl (Pt.codeOf p sl fr.length last)
 hb:below.length=base
 hp2:(pend≠[]->2<=base)
 hpd:pend.length=pd
 h40:pd<=40
 hE:kA C N t fr sl env p
 hN:Nw N p
 hR:t.length+(s'.made-s.made)<=R
 hH:fr.length+base+(s'.parts-s.parts)*(N+3)<=Ms.high
theorem Cn.leaf{n:Nat}{p:Pt}{env:TEnv}{pd:Nat}{last:Bool}{s s':Sc}{r:Rs}{t:List Th}{md:Nat}{fr below:List AV}{base pl:Nat}{pend:List (Nat×Nat)}{sl:Pt.Sl}(X:Cn C R N most n p env pd last s s' r t md fr below base pl pend sl):∀{o:AOrd}{a:AV}{v:TV},some (Rs.val v,(⟨s.made,s.parts+1⟩:Sc))=some (r,s')->Pt.codeOf p sl fr.length last=Pt.told last [o]->(mk C R t md (fr.reverse++below) base (pl+1) pend).exec o=some (mk C R t md (a::(fr.reverse++below)) base (pl+1) pend)->Rep C N t a v->Out C R N t md fr below base pl pend (Pt.codeOf p sl fr.length last).length last (s'.made-s.made) (s'.parts-s.parts) r:=by
 have⟨ih,hc,hb,hp2,hpd,h40,hE,hN,hR,hH⟩:=X
 have W3:3<=N+3:=by omega
 intro o a v e ec ex hr
 cases e
 have e1:s.made-s.made=0:=by omega
 have e2:s.parts+1-s.parts=1:=by omega
 simp only[e1,e2,Nat.one_mul]at hH⊢
 rw[ec]at hc⊢
 have hc1:At C pl [o]:=by
  cases last with
  |false=>exact hc
  |true=>exact(At.app (c:=[o]) hc).1
 exact kE (k:=1) hc hb hp2 (by omega) (by omega) (List.prefix_refl t) rfl hr (step hc1 ex (by show(a::(fr.reverse++below)).length<=_;simp;omega))
theorem Cn.first{n:Nat}{p:Pt}{env:TEnv}{pd:Nat}{last:Bool}{s s':Sc}{r:Rs}{t:List Th}{md:Nat}{fr below:List AV}{base pl:Nat}{pend:List (Nat×Nat)}{sl:Pt.Sl}(X:Cn C R N most n p env pd last s s' r t md fr below base pl pend sl):∀{a:Pt}{c:List AOrd}{r1:Rs}{s1:Sc},ev most n a env pd false ⟨s.made,s.parts+1⟩=some (r1,s1)->Pt.codeOf p sl fr.length last=Pt.codeOf a sl fr.length false++c->(∀x,a.fv x->p.fv x)->Nw N a->s1.made<=s'.made->s1.parts<=s'.parts->Out C R N t md fr below base pl pend (Pt.codeOf a sl fr.length false).length false (s1.made-s.made) (s1.parts-(s.parts+1)) r1:=by
 have⟨ih,hc,hb,hp2,hpd,h40,hE,hN,hR,hH⟩:=X
 have W3:3<=N+3:=by omega
 intro a c r1 s1 e ec hf hn hm hp
 rw[ec]at hc
 have mono:=zM e
 simp only at mono
 have hw:(s1.parts-(s.parts+1))*(N+3)<=(s'.parts-s.parts)*(N+3):=Nat.mul_le_mul_right _ (by omega)
 refine ih e _ _ _ _ _ _ _ _ (At.app hc).1 hb hp2 hpd h40 (by have :=kA.mono (more:=[]) hE (List.prefix_refl t) hf;rwa [List.append_nil]at this) hn (by simp only;omega) (by simp only;omega)
theorem Cn.second{n:Nat}{p:Pt}{env:TEnv}{pd:Nat}{last:Bool}{s s':Sc}{r:Rs}{t:List Th}{md:Nat}{fr below:List AV}{base pl:Nat}{pend:List (Nat×Nat)}{sl:Pt.Sl}(X:Cn C R N most n p env pd last s s' r t md fr below base pl pend sl):∀{a b:Pt}{c:List AOrd}{va:TV}{r2:Rs}{s1 s2:Sc},ev most n a env pd false ⟨s.made,s.parts+1⟩=some (.val va,s1)->ev most n b env pd false s1=some (r2,s2)->Pt.codeOf p sl fr.length last=Pt.codeOf a sl fr.length false++Pt.codeOf b sl (fr.length+1) false++c->(∀x,a.fv x->p.fv x)->(∀x,b.fv x->p.fv x)->Nw N a->Nw N b->s2.made<=s'.made->s2.parts<=s'.parts->∃k aa t1,k<=3*(s1.parts-(s.parts+1))/\t<+:t1/\t1.length=t.length+(s1.made-s.made)/\Rep C N t1 aa va/\Ms.iter k (mk C R t md (fr.reverse++below) base pl pend)=some (mk C R t1 (md+(s1.made-s.made)) (aa::(fr.reverse++below)) base (pl+(Pt.codeOf a sl fr.length false).length) pend)/\Out C R N t1 (md+(s1.made-s.made)) (fr++[aa]) below base (pl+(Pt.codeOf a sl fr.length false).length) pend (Pt.codeOf b sl (fr.length+1) false).length false (s2.made-s1.made) (s2.parts-s1.parts) r2:=by
 have⟨ih,hc,hb,hp2,hpd,h40,hE,hN,hR,hH⟩:=X
 have W3:3<=N+3:=by omega
 intro a b c va r2 s1 s2 e1 e2 ec hfa hfb hna hnb hm hp
 have m1:=zM e1
 have m2:=zM e2
 simp only at m1
 obtain⟨k,aa,t1,h1,h2,h3,h4,h5⟩:=(X.first (c:=Pt.codeOf b sl (fr.length+1) false++c) e1 (by rw[ec,List.append_assoc]) hfa hna (by omega) (by omega)).v
 refine⟨k,aa,t1,h1,h2,h3,h4,h5,?_⟩
 have hw:(1+(s1.parts-(s.parts+1))+(s2.parts-s1.parts)+0)*(N+3)<=(s'.parts-s.parts)*(N+3):=Nat.mul_le_mul_right _ (by omega)
 rw[wR]at hw
 have hc2:=hc
 rw[ec,List.append_assoc]at hc2
 have hc3:=(At.app (At.app hc2).2).1
 have :=ih e2 t1 (md+(s1.made-s.made)) (fr++[aa]) below base (pl+(Pt.codeOf a sl fr.length false).length) pend sl (by rw[List.length_append];exact hc3) hb hp2 hpd h40 (hE.mono h2 hfb) hnb (by omega) (by rw[List.length_append];show fr.length+1+base+_<=_;omega)
 rw[List.length_append]at this
 exact this
theorem Cn.cond{n:Nat}{p:Pt}{env:TEnv}{pd:Nat}{last:Bool}{s s':Sc}{r:Rs}{t:List Th}{md:Nat}{fr below:List AV}{base pl:Nat}{pend:List (Nat×Nat)}{sl:Pt.Sl}(X:Cn C R N most n p env pd last s s' r t md fr below base pl pend sl):∀{a:Pt}{c2 c3:List AOrd}{w:Bool}{s1:Sc},ev most n a env pd false ⟨s.made,s.parts+1⟩=some (.val (.tru w),s1)->Pt.codeOf p sl fr.length last=Pt.codeOf a sl fr.length false++(.unless c2.length::(c2++c3))->(∀x,a.fv x->p.fv x)->Nw N a->s1.made<=s'.made->s1.parts<=s'.parts->∃k t1,k<=3*(s1.parts-(s.parts+1))+1/\t<+:t1/\t1.length=t.length+(s1.made-s.made)/\Ms.iter k (mk C R t md (fr.reverse++below) base pl pend)=some (mk C R t1 (md+(s1.made-s.made)) (fr.reverse++below) base (pl+(Pt.codeOf a sl fr.length false).length+1+(if w then 0 else c2.length)) pend)/\At C (pl+(Pt.codeOf a sl fr.length false).length+1) (c2++c3):=by
 have⟨ih,hc,hb,hp2,hpd,h40,hE,hN,hR,hH⟩:=X
 have W3:3<=N+3:=by omega
 intro a c2 c3 w s1 e1 ec hf hn hm hp
 obtain⟨k,aa,t1,k1,g1,l1,r1,i1⟩:=(X.first e1 ec hf hn hm hp).v
 cases r1
 have hc2:=hc
 rw[ec]at hc2
 have hat:=(At.app hc2).2
 refine⟨k+1,t1,by omega,g1,l1,Ms.iter_seq i1 (step hat ?_ ?_),hat.cons.2⟩
 ·cases w
  ·rfl
  ·rfl
 ·show(fr.reverse++below).length<=_
  simp;omega
theorem Cn.brT{n:Nat}{p:Pt}{env:TEnv}{pd:Nat}{last:Bool}{s s':Sc}{r:Rs}{t:List Th}{md:Nat}{fr below:List AV}{base pl:Nat}{pend:List (Nat×Nat)}{sl:Pt.Sl}(X:Cn C R N most n p env pd last s s' r t md fr below base pl pend sl):∀{a q:Pt}{c3:List AOrd}{s1:Sc},ev most n a env pd false ⟨s.made,s.parts+1⟩=some (.val (.tru true),s1)->ev most n q env pd last s1=some (r,s')->Pt.codeOf p sl fr.length last=Pt.ifC last (Pt.codeOf a sl fr.length false) (Pt.codeOf q sl fr.length last) c3->(∀x,a.fv x->p.fv x)->(∀x,q.fv x->p.fv x)->Nw N a->Nw N q->Out C R N t md fr below base pl pend (Pt.codeOf p sl fr.length last).length last (s'.made-s.made) (s'.parts-s.parts) r:=by
 have⟨ih,hc,hb,hp2,hpd,h40,hE,hN,hR,hH⟩:=X
 have W3:3<=N+3:=by omega
 intro a q c3 s1 e1 e2 ec hfa hfq hna hnq
 have m1:=zM e1
 have m2:=zM e2
 simp only at m1
 have ec':=ec
 rw[wP]at ec'
 obtain⟨k,t1,k1,g1,l1,i1,hat⟩:=X.cond e1 ec' hfa hna (by omega) (by omega)
 have hw:(s'.parts-s1.parts)*(N+3)<=(s'.parts-s.parts)*(N+3):=Nat.mul_le_mul_right _ (by omega)
 have hcq:At C (pl+(Pt.codeOf a sl fr.length false).length+1) (Pt.codeOf q sl fr.length last):=by
  cases last with
  |true=>exact(At.app hat).1
  |false=>exact(At.app (At.app hat).1).1
 have hEq:kA C N t1 fr sl env q:=by have :=kA.mono (more:=[]) hE g1 hfq;rwa [List.append_nil]at this
 have ih:=ih e2 t1 (md+(s1.made-s.made)) fr below base (pl+(Pt.codeOf a sl fr.length false).length+1) pend sl hcq hb hp2 hpd h40 hEq hnq (by omega) (by omega)
 cases last with
 |true=>exact Out.after i1 g1 (by omega) ih (by omega) (by omega)
 |false=>
  cases r with
  |trap y=>exact kY.after i1 ih (by omega) (by omega)
  |val v=>
   obtain⟨k2,bb,t2,k3,g2,l2,r2,i2⟩:=ih.v
   have hsk:At C (pl+(Pt.codeOf a sl fr.length false).length+1+(Pt.codeOf q sl fr.length false).length) [.skip c3.length]:=(At.app (At.app hat).1).2
   have i4:=Ms.iter_seq (Ms.iter_seq i1 i2) (step (m1:=mk C R t2 (md+(s1.made-s.made)+(s'.made-s1.made)) (bb::(fr.reverse++below)) base (pl+(Pt.codeOf a sl fr.length false).length+1+(Pt.codeOf q sl fr.length false).length+1+c3.length) pend) hsk rfl (by
    have hw1:1*(N+3)<=(s'.parts-s.parts)*(N+3):=Nat.mul_le_mul_right _ (by omega)
    show(bb::(fr.reverse++below)).length<=_;simp;omega))
   refine⟨_,bb,t2,_,?_,g1.trans g2,by omega,r2,i4,?_⟩
   ·omega
   ·show mk C R t2 _ _ _ _ _=mk C R t2 _ _ _ _ _
    congr 1
    ·omega
    ·rw[ec'];simp;omega
theorem Cn.brF{n:Nat}{p:Pt}{env:TEnv}{pd:Nat}{last:Bool}{s s':Sc}{r:Rs}{t:List Th}{md:Nat}{fr below:List AV}{base pl:Nat}{pend:List (Nat×Nat)}{sl:Pt.Sl}(X:Cn C R N most n p env pd last s s' r t md fr below base pl pend sl):∀{a q:Pt}{c2:List AOrd}{s1:Sc},ev most n a env pd false ⟨s.made,s.parts+1⟩=some (.val (.tru false),s1)->ev most n q env pd last s1=some (r,s')->Pt.codeOf p sl fr.length last=Pt.ifC last (Pt.codeOf a sl fr.length false) c2 (Pt.codeOf q sl fr.length last)->(∀x,a.fv x->p.fv x)->(∀x,q.fv x->p.fv x)->Nw N a->Nw N q->Out C R N t md fr below base pl pend (Pt.codeOf p sl fr.length last).length last (s'.made-s.made) (s'.parts-s.parts) r:=by
 have⟨ih,hc,hb,hp2,hpd,h40,hE,hN,hR,hH⟩:=X
 have W3:3<=N+3:=by omega
 intro a q c2 s1 e1 e2 ec hfa hfq hna hnq
 have m1:=zM e1
 have m2:=zM e2
 simp only at m1
 have ec':=ec
 rw[wP]at ec'
 obtain⟨k,t1,k1,g1,l1,i1,hat⟩:=X.cond e1 ec' hfa hna (by omega) (by omega)
 have hw:(s'.parts-s1.parts)*(N+3)<=(s'.parts-s.parts)*(N+3):=Nat.mul_le_mul_right _ (by omega)
 have hcq:=(At.app hat).2
 have hEq:kA C N t1 fr sl env q:=by have :=kA.mono (more:=[]) hE g1 hfq;rwa [List.append_nil]at this
 have ih:=ih e2 t1 (md+(s1.made-s.made)) fr below base _ pend sl hcq hb hp2 hpd h40 hEq hnq (by omega) (by omega)
 rw[if_neg (by decide)]at i1
 cases last with
 |true=>exact Out.after i1 g1 (by omega) ih (by omega) (by omega)
 |false=>
  cases r with
  |trap y=>exact kY.after i1 ih (by omega) (by omega)
  |val v=>
   obtain⟨k2,bb,t2,k3,g2,l2,r2,i2⟩:=ih.v
   refine⟨_,bb,t2,_,?_,g1.trans g2,by omega,r2,Ms.iter_seq i1 i2,?_⟩
   ·omega
   ·show mk C R t2 _ _ _ _ _=mk C R t2 _ _ _ _ _
    congr 1
    ·omega
    ·rw[ec'];simp;omega
theorem Cn.conF{n:Nat}{p:Pt}{env:TEnv}{pd:Nat}{last:Bool}{s s':Sc}{r:Rs}{t:List Th}{md:Nat}{fr below:List AV}{base pl:Nat}{pend:List (Nat×Nat)}{sl:Pt.Sl}(X:Cn C R N most n p env pd last s s' r t md fr below base pl pend sl):∀{a:Pt}{c2:List AOrd},ev most n a env pd false ⟨s.made,s.parts+1⟩=some (.val (.tru false),s')->r= .val (.tru false)->Pt.codeOf p sl fr.length last=Pt.ifC last (Pt.codeOf a sl fr.length false) c2 (Pt.told last [.tru false])->(∀x,a.fv x->p.fv x)->Nw N a->Out C R N t md fr below base pl pend (Pt.codeOf p sl fr.length last).length last (s'.made-s.made) (s'.parts-s.parts) r:=by
 have⟨ih,hc,hb,hp2,hpd,h40,hE,hN,hR,hH⟩:=X
 have W3:3<=N+3:=by omega
 intro a c2 e1 er ec hfa hna
 subst er
 have m1:=zM e1
 simp only at m1
 have ec':=ec
 rw[wP]at ec'
 obtain⟨k,t1,k1,g1,l1,i1,hat⟩:=X.cond e1 ec' hfa hna (aq7 _) (aq7 _)
 rw[if_neg (by decide)]at i1
 have hw1:1*(N+3)<=(s'.parts-s.parts)*(N+3):=Nat.mul_le_mul_right _ (by omega)
 have hput:At C (pl+(Pt.codeOf a sl fr.length false).length+1+(if last then c2 else c2++[.skip (Pt.told last [.tru false]).length]).length) [.tru false]:=by
  have :=(At.app hat).2
  cases last with
  |false=>exact this
  |true=>exact(At.app (c:=[AOrd.tru false]) this).1
 have ec2:Pt.codeOf p sl fr.length last=Pt.told last (Pt.codeOf a sl fr.length false++(.unless (if last then c2 else c2++[.skip (Pt.told last [.tru false]).length]).length::((if last then c2 else c2++[.skip (Pt.told last [.tru false]).length])++[.tru false]))):=by
  rw[ec'];cases last<;>simp[Pt.told]
 rw[ec2]at hc⊢
 refine kE (k:=k+1) hc hb hp2 (by omega) (by omega) g1 l1 (a:=.bl false) .tru ?_
 have :=Ms.iter_seq i1 (step (m1:=mk C R t1 (md+(s'.made-s.made)) (.bl false::(fr.reverse++below)) base (pl+(Pt.codeOf a sl fr.length false).length+1+(if last then c2 else c2++[.skip (Pt.told last [.tru false]).length]).length+1) pend) hput rfl (by show(AV.bl false::(fr.reverse++below)).length<=_;simp;omega))
 rw[this]
 congr 2
 simp;omega
theorem Cn.conT{n:Nat}{p:Pt}{env:TEnv}{pd:Nat}{last:Bool}{s s':Sc}{r:Rs}{t:List Th}{md:Nat}{fr below:List AV}{base pl:Nat}{pend:List (Nat×Nat)}{sl:Pt.Sl}(X:Cn C R N most n p env pd last s s' r t md fr below base pl pend sl):∀{a:Pt}{c3:List AOrd},ev most n a env pd false ⟨s.made,s.parts+1⟩=some (.val (.tru true),s')->r= .val (.tru true)->Pt.codeOf p sl fr.length last=Pt.ifC last (Pt.codeOf a sl fr.length false) (Pt.told last [.tru true]) c3->(∀x,a.fv x->p.fv x)->Nw N a->Out C R N t md fr below base pl pend (Pt.codeOf p sl fr.length last).length last (s'.made-s.made) (s'.parts-s.parts) r:=by
 have⟨ih,hc,hb,hp2,hpd,h40,hE,hN,hR,hH⟩:=X
 have W3:3<=N+3:=by omega
 intro a c3 e1 er ec hfa hna
 subst er
 have m1:=zM e1
 simp only at m1
 have ec':=ec
 rw[wP]at ec'
 obtain⟨k,t1,k1,g1,l1,i1,hat⟩:=X.cond e1 ec' hfa hna (aq7 _) (aq7 _)
 rw[if_pos rfl,Nat.add_zero]at i1
 have hw1:1*(N+3)<=(s'.parts-s.parts)*(N+3):=Nat.mul_le_mul_right _ (by omega)
 cases last with
 |true=>
  have hp1:At C (pl+(Pt.codeOf a sl fr.length false).length+1) (Pt.told true [.tru true]):=(At.app hat).1
  have i2:=Ms.iter_seq i1 (step (m1:=mk C R t1 (md+(s'.made-s.made)) (.bl true::(fr.reverse++below)) base (pl+(Pt.codeOf a sl fr.length false).length+1+1) pend) (At.app (c:=[AOrd.tru true]) hp1).1 rfl (by show(AV.bl true::(fr.reverse++below)).length<=_;simp;omega))
  obtain⟨m',i3,hend⟩:=aL (At.app (c:=[AOrd.tru true]) hp1).2 hb hp2 (by omega) i2
  exact⟨_,.bl true,t1,m',by omega,g1,l1,.tru,i3,hend⟩
 |false=>
  have hp1:At C (pl+(Pt.codeOf a sl fr.length false).length+1) ([.tru true]++[.skip c3.length]):=(At.app hat).1
  have i2:=Ms.iter_seq i1 (step (m1:=mk C R t1 (md+(s'.made-s.made)) (.bl true::(fr.reverse++below)) base (pl+(Pt.codeOf a sl fr.length false).length+1+1) pend) hp1 rfl (by show(AV.bl true::(fr.reverse++below)).length<=_;simp;omega))
  have i3:=Ms.iter_seq i2 (step (m1:=mk C R t1 (md+(s'.made-s.made)) (.bl true::(fr.reverse++below)) base (pl+(Pt.codeOf a sl fr.length false).length+1+1+1+c3.length) pend) (At.app (c:=[AOrd.tru true]) hp1).2 rfl (by show(AV.bl true::(fr.reverse++below)).length<=_;simp;omega))
  refine⟨_,.bl true,t1,_,?_,g1,l1,.tru,i3,?_⟩
  ·omega
  ·show mk C R t1 _ _ _ _ _=mk C R t1 _ _ _ _ _
   congr 1
   rw[ec'];simp[Pt.told];omega
theorem main:∀(n:Nat){p:Pt}{env:TEnv}{pd:Nat}{last:Bool}{s s':Sc}{r:Rs},ev most n p env pd last s=some (r,s')->∀(t:List Th)(md:Nat)(fr below:List AV)(base pl:Nat)(pend:List (Nat×Nat))(sl:Pt.Sl),
  At C pl (Pt.codeOf p sl fr.length last)->below.length=base->(pend≠[]->2<=base)->pend.length=pd->pd<=40->kA C N t fr sl env p->Nw N p->t.length+(s'.made-s.made)<=R->fr.length+base+(s'.parts-s.parts)*(N+3)<=Ms.high->
  Out C R N t md fr below base pl pend (Pt.codeOf p sl fr.length last).length last (s'.made-s.made) (s'.parts-s.parts) r
 |0,p,env,pd,last,s,s',r,h=>by cases h
 |n+1,p,env,pd,last,s,s',r,h=>by
  intro t md fr below base pl pend sl hc hb hp2 hpd h40 hE hN hR hH
  unfold ev at h
  split at h
  ·cases h;exact .inl rfl
  have W3:3<=N+3:=by omega
  have X:Cn C R N most n p env pd last s s' r t md fr below base pl pend sl:=⟨main n,hc,hb,hp2,hpd,h40,hE,hN,hR,hH⟩
  cases p with
  |num k=>exact X.leaf (o:=.num k) (a:=.int k) h rfl rfl .num
  |tru k=>exact X.leaf (o:=.tru k) (a:=.bl k) h rfl rfl .tru
  |nil k=>exact X.leaf (o:=.nil) (a:=.nil) h rfl rfl .nil
  |nam x=>
   obtain⟨v,hv,e⟩:=aq6.mp h
   obtain⟨v',a,e1,e2,e3⟩:=hE x rfl
   rw[hv]at e1;cases e1
   refine X.leaf (o:=.get (Pt.slotOf sl x)) (a:=a) (v:=v) (by rw[<-e]) rfl ?_ e3
   show Option.map _ ((mk C R t md (fr.reverse++below) base (pl+1) pend).slot (Pt.slotOf sl x))=_
   rw[gU hb e2]
   rfl
  |fn x κ q=>
   cases h
   have e1:s.made+1-s.made=1:=by omega
   have e2:s.parts+1-s.parts=1:=by omega
   simp only[e1,e2,Nat.one_mul]at hH hR⊢
   have ec:Pt.codeOf (.fn x κ q) sl fr.length last=Pt.told last (.func false ((Pt.outs (.fn x κ q)).map (Pt.slotOf sl)) (Pt.codeOf q (Pt.slotsFor 0 (Pt.outs (.fn x κ q)++[x])) ((Pt.outs (.fn x κ q)).length+1) true).length::Pt.codeOf q (Pt.slotsFor 0 (Pt.outs (.fn x κ q)++[x])) ((Pt.outs (.fn x κ q)).length+1) true):=rfl
   have hc1:=hc
   rw[ec]at hc1⊢
   have hc2:At C pl (.func false ((Pt.outs (.fn x κ q)).map (Pt.slotOf sl)) (Pt.codeOf q (Pt.slotsFor 0 (Pt.outs (.fn x κ q)++[x])) ((Pt.outs (.fn x κ q)).length+1) true).length::Pt.codeOf q (Pt.slotsFor 0 (Pt.outs (.fn x κ q)++[x])) ((Pt.outs (.fn x κ q)).length+1) true):=by
    cases last with
    |false=>exact hc1
    |true=>exact(At.app hc1).1
   obtain⟨vs,v1,v2,v3⟩:=wH (m:=mk C R t md (fr.reverse++below) base (pl+1) pend) (fr:=fr) (sl:=sl) (fun k a e=>gU hb e) (Pt.outs (.fn x κ q)) (fun y hy=>by
    obtain⟨v,a,_,e2,_⟩:=hE y ((Pt.outs_mem y _).mp hy)
    exact⟨a,e2⟩)
   have hro:t.length<R:=by omega
   refine kE (k:=1) (t':=t++[⟨.fn,.int ((pl+1:Nat):Int):: .bl false::vs⟩]) (a:=.at_ t.length) hc1 hb hp2 (by omega) (by omega) xC (by simp) ?_ ?_
   ·refine .fn (κ:=κ) (fun nm=>((env.lookup nm).getD .nil)) yF hc2.cons.2 v2 hN (fun nm hnm=>?_) fun i nm a h1 h2=>?_
    ·obtain⟨v,a,e1,_,_⟩:=hE nm ((Pt.outs_mem nm _).mp hnm)
     rw[e1];rfl
    ·obtain⟨v,b,e1,e2,e3⟩:=hE nm ((Pt.outs_mem nm _).mp (List.mem_of_getElem? h1))
     have :=v3 i nm a h1 h2
     rw[e2]at this;cases this
     rw[e1];exact e3.mono xC
   ·have :=step (m1:=mk C R (t++[⟨.fn,.int ((pl+1:Nat):Int):: .bl false::vs⟩]) (md+1) (.at_ t.length::(fr.reverse++below)) base (pl+1+(Pt.codeOf q (Pt.slotsFor 0 (Pt.outs (.fn x κ q)++[x])) ((Pt.outs (.fn x κ q)).length+1) true).length) pend) hc2 (cG hro v1) (by show(AV.at_ t.length::(fr.reverse++below)).length<=_;simp;omega)
    rw[this,List.length_cons]
    congr 2
    omega
  |rc f x κ l q=>
   cases h
   have e1:s.made+1-s.made=1:=by omega
   have e2:s.parts+1-s.parts=1:=by omega
   simp only[e1,e2,Nat.one_mul]at hH hR⊢
   generalize hbd:Pt.codeOf q (Pt.slotsFor 0 (Pt.outs (.rc f x κ l q)++if f=x then[f]else[f,x])) ((Pt.outs (.rc f x κ l q)).length+(if f=x then[f]else[f,x]).length) true=bd
   have ec:Pt.codeOf (.rc f x κ l q) sl fr.length last=Pt.told last (.func (decide (f≠x)) ((Pt.outs (.rc f x κ l q)).map (Pt.slotOf sl)) bd.length::bd):=by rw[<-hbd];rfl
   have hc1:=hc
   rw[ec]at hc1⊢
   have hc2:At C pl (.func (decide (f≠x)) ((Pt.outs (.rc f x κ l q)).map (Pt.slotOf sl)) bd.length::bd):=by
    cases last with
    |false=>exact hc1
    |true=>exact(At.app hc1).1
   obtain⟨vs,v1,v2,v3⟩:=wH (m:=mk C R t md (fr.reverse++below) base (pl+1) pend) (fr:=fr) (sl:=sl) (fun k a e=>gU hb e) (Pt.outs (.rc f x κ l q)) (fun y hy=>by
    obtain⟨v,a,_,e2,_⟩:=hE y ((Pt.outs_mem y _).mp hy)
    exact⟨a,e2⟩)
   have hro:t.length<R:=by omega
   refine kE (k:=1) (t':=t++[⟨.fn,.int ((pl+1:Nat):Int):: .bl (decide (f≠x))::vs⟩]) (a:=.at_ t.length) hc1 hb hp2 (by omega) (by omega) xC (by simp) ?_ ?_
   ·refine .rc (κ:=κ) (l:=l) (fun nm=>((env.lookup nm).getD .nil)) yF (by rw[hbd];exact hc2.cons.2) v2 hN (fun nm hnm=>?_) fun i nm a h1 h2=>?_
    ·obtain⟨v,a,e1,_,_⟩:=hE nm ((Pt.outs_mem nm _).mp hnm)
     rw[e1];rfl
    ·obtain⟨v,b,e1,e2,e3⟩:=hE nm ((Pt.outs_mem nm _).mp (List.mem_of_getElem? h1))
     have :=v3 i nm a h1 h2
     rw[e2]at this;cases this
     rw[e1];exact e3.mono xC
   ·have :=step (m1:=mk C R (t++[⟨.fn,.int ((pl+1:Nat):Int):: .bl (decide (f≠x))::vs⟩]) (md+1) (.at_ t.length::(fr.reverse++below)) base (pl+1+bd.length) pend) hc2 (cG hro v1) (by show(AV.at_ t.length::(fr.reverse++below)).length<=_;simp;omega)
    rw[this,List.length_cons]
    congr 2
    omega
  |one u a=>
   obtain⟨⟨r1,s1⟩,e1,e2⟩:=aq5.mp h
   have ec:Pt.codeOf (.one u a) sl fr.length last=Pt.codeOf a sl fr.length false++Pt.told last [Pt.u1 u]:=yH last _ _
   have ec':Pt.codeOf (.one u a) sl fr.length last=Pt.told last (Pt.codeOf a sl fr.length false++[Pt.u1 u]):=rfl
   have m1:=zM e1
   simp only at m1
   cases r1 with
   |trap x=>
    cases e2
    have :=X.first e1 ec (fun x h=>h) hN (aq7 _) (aq7 _)
    exact kY.after (k:=0) rfl this (by omega) rfl
   |val va=>
    obtain⟨rr,ej,e3⟩:=aq6.mp e2
    cases e3
    obtain⟨k,aa,t1,k1,g1,l1,r1,i1⟩:=(X.first e1 ec (fun x h=>h) hN (aq7 _) (aq7 _)).v
    have hat:At C (pl+(Pt.codeOf a sl fr.length false).length) [Pt.u1 u]:=by
     have :=hc
     rw[ec']at this
     cases last with
     |false=>exact(At.app this).2
     |true=>exact(At.app (At.app this).1).2
    have hw:1*(N+3)<=(s'.parts-s.parts)*(N+3):=Nat.mul_le_mul_right _ (by omega)
    have fin:∀{b:AV}{v:TV},(mk C R t1 (md+(s'.made-s.made)) (aa::(fr.reverse++below)) base (pl+(Pt.codeOf a sl fr.length false).length+1) pend).exec (Pt.u1 u)=some (mk C R t1 (md+(s'.made-s.made)) (b::(fr.reverse++below)) base (pl+(Pt.codeOf a sl fr.length false).length+1) pend)->Rep C N t1 b v->
      Out C R N t md fr below base pl pend (Pt.codeOf (.one u a) sl fr.length last).length last (s'.made-s.made) (s'.parts-s.parts) (.val v):=by
     intro b v ex hr
     rw[ec']at hc⊢
     refine kE (k:=k+1) hc hb hp2 (by omega) (by omega) g1 l1 hr ?_
     rw[List.length_append]
     exact Ms.iter_seq i1 (step hat ex (by show(b::(fr.reverse++below)).length<=_;simp;omega))
    have emp:aa= .nil->(∃x i,Pt.u1 u= .take x i)->Out C R N t md fr below base pl pend (Pt.codeOf (.one u a) sl fr.length last).length last (s'.made-s.made) (s'.parts-s.parts) (.trap .ofEmpty):=by
     rintro rfl ⟨x,i,eu⟩
     rw[eu]at hat
     exact .inr ⟨k+1,_,by omega,Ms.iter_seq i1 (step (m1:=⟨C,R,t1,md+(s'.made-s.made),fr.reverse++below,base,pl+(Pt.codeOf a sl fr.length false).length+1,pend,.ofEmpty⟩) hat rfl (by show(fr.reverse++below).length<=_;simp;omega)),rfl,rfl⟩
    have held:∀{kk:Nat}{sr:Srt}{h0 h1:AV}{x:Str}{i:Nat}{b:AV},aa= .at_ kk->t1[kk]? =some ⟨sr,[h0,h1]⟩->Pt.u1 u= .take x i->[h0,h1][i]? =some b->(mk C R t1 (md+(s'.made-s.made)) (aa::(fr.reverse++below)) base (pl+(Pt.codeOf a sl fr.length false).length+1) pend).exec (Pt.u1 u)=some (mk C R t1 (md+(s'.made-s.made)) (b::(fr.reverse++below)) base (pl+(Pt.codeOf a sl fr.length false).length+1) pend):=by
     rintro kk sr h0 h1 x i b rfl ht eu hi
     rw[eu]
     show(t1[kk]?).bind _=_
     rw[ht]
     show Option.map _ ([h0,h1][i]?)=_
     rw[hi]
     rfl
    cases u with
    |head=>
     cases va with
     |nil=>cases ej;cases r1;exact emp rfl ⟨_,_,rfl⟩
     |cell x y=>cases ej;cases r1 with |cell ht hx hy=>exact fin (held rfl ht rfl rfl) hx
     |_=>cases ej
    |tail=>
     cases va with
     |nil=>cases ej;cases r1;exact emp rfl ⟨_,_,rfl⟩
     |cell x y=>cases ej;cases r1 with |cell ht hx hy=>exact fin (held rfl ht rfl rfl) hy
     |_=>cases ej
    |empty=>
     cases va with
     |nil=>cases ej;cases r1;exact fin (b:=.bl true) rfl .tru
     |cell x y=>cases ej;cases r1;exact fin (b:=.bl false) rfl .tru
     |_=>cases ej
    |first=>
     cases va with
     |pair x y=>cases ej;cases r1 with |pair ht hx hy=>exact fin (held rfl ht rfl rfl) hx
     |_=>cases ej
    |second=>
     cases va with
     |pair x y=>cases ej;cases r1 with |pair ht hx hy=>exact fin (held rfl ht rfl rfl) hy
     |_=>cases ej
    |not=>
     cases va with
     |tru b=>cases ej;cases r1;exact fin (b:=.bl (!b)) rfl .tru
     |_=>cases ej
  |let_ x a b=>
   obtain⟨⟨r1,s1⟩,e1,e2⟩:=aq5.mp h
   have ec:Pt.codeOf (.let_ x a b) sl fr.length last=Pt.codeOf a sl fr.length false++(if last then Pt.codeOf b ((x,fr.length)::sl) (fr.length+1) last else Pt.codeOf b ((x,fr.length)::sl) (fr.length+1) last++[.slide]):=rfl
   have m1:=zM e1
   simp only at m1
   cases r1 with
   |trap y=>
    cases e2
    have :=X.first e1 ec (fun x h=>.inl h) hN.1 (aq7 _) (aq7 _)
    exact kY.after (k:=0) rfl this (by omega) rfl
   |val va=>
    have m2:=zM e2
    obtain⟨k,aa,t1,k1,g1,l1,r1,i1⟩:=(X.first e1 ec (fun x h=>.inl h) hN.1 (by omega) (by omega)).v
    have hw:(1+(s1.parts-(s.parts+1))+(s'.parts-s1.parts)+0)*(N+3)<=(s'.parts-s.parts)*(N+3):=Nat.mul_le_mul_right _ (by omega)
    rw[wR]at hw
    have hE2:=hE.let_ g1 r1
    have hc2:=hc
    rw[ec]at hc2
    have hcb:At C (pl+(Pt.codeOf a sl fr.length false).length) (Pt.codeOf b ((x,fr.length)::sl) (fr.length+1) last):=by
     cases last with
     |true=>exact(At.app hc2).2
     |false=>exact(At.app (At.app hc2).2).1
    have ih:=main n e2 t1 (md+(s1.made-s.made)) (fr++[aa]) below base (pl+(Pt.codeOf a sl fr.length false).length) pend ((x,fr.length)::sl) (by rw[List.length_append];exact hcb) hb hp2 hpd h40 hE2 hN.2 (by omega) (by rw[List.length_append];show fr.length+1+base+_<=_;omega)
    rw[List.length_append]at ih
    rw[<-vQ]at i1
    cases last with
    |true=>exact Out.after i1 g1 (by omega) ih (by omega) (by omega)
    |false=>
     cases r with
     |trap y=>exact kY.after i1 ih (by omega) (by omega)
     |val v=>
      obtain⟨k2,bb,t2,k3,g2,l2,r2,i2⟩:=ih.v
      have hsl:At C (pl+(Pt.codeOf a sl fr.length false).length+(Pt.codeOf b ((x,fr.length)::sl) (fr.length+1) false).length) [.slide]:=(At.app (At.app hc2).2).2
      have i3:=Ms.iter_seq i1 i2
      rw[vQ]at i3
      have i4:=Ms.iter_seq i3 (step (m1:=mk C R t2 (md+(s1.made-s.made)+(s'.made-s1.made)) (bb::(fr.reverse++below)) base (pl+(Pt.codeOf a sl fr.length false).length+(Pt.codeOf b ((x,fr.length)::sl) (fr.length+1) false).length+1) pend) hsl rfl (by show(bb::(fr.reverse++below)).length<=_;simp;omega))
      refine⟨_,bb,t2,_,?_,g1.trans g2,by omega,r2,i4,?_⟩
      ·omega
      ·show mk C R t2 _ _ _ _ _=mk C R t2 _ _ _ _ _
       congr 1
       ·omega
       ·rw[ec];simp;omega
  |ite a b c=>
   obtain⟨⟨r1,s1⟩,e1,e2⟩:=aq5.mp h
   have ec:Pt.codeOf (.ite a b c) sl fr.length last=Pt.ifC last (Pt.codeOf a sl fr.length false) (Pt.codeOf b sl fr.length last) (Pt.codeOf c sl fr.length last):=rfl
   cases r1 with
   |trap y=>
    cases e2
    have m1:=zM e1
    simp only at m1
    have :=X.first e1 (by rw[ec,wP]) (fun x h=>.inl h) hN.1 (aq7 _) (aq7 _)
    exact kY.after (k:=0) rfl this (by omega) rfl
   |val va=>
    cases va with
    |tru w=>
     cases w with
     |true=>exact X.brT e1 e2 ec (fun x h=>.inl h) (fun x h=>.inr (.inl h)) hN.1 hN.2.1
     |false=>exact X.brF e1 e2 ec (fun x h=>.inl h) (fun x h=>.inr (.inr h)) hN.1 hN.2.2
    |_=>cases e2
  |two u a b=>
   have bin:∀{u':U2}{s1 s2:Sc}{va vb:TV},ev most n a env pd false ⟨s.made,s.parts+1⟩=some (.val va,s1)->ev most n b env pd false s1=some (.val vb,s2)->join2 u' va vb s2=some (r,s')->Pt.codeOf (.two u a b) sl fr.length last=Pt.told last (Pt.codeOf a sl fr.length false++Pt.codeOf b sl (fr.length+1) false++[Pt.u2 u'])->
     Out C R N t md fr below base pl pend (Pt.codeOf (.two u a b) sl fr.length last).length last (s'.made-s.made) (s'.parts-s.parts) r:=by
    intro u' s1 s2 va vb e1 e2 ej ec
    have m1:=zM e1
    have m2:=zM e2
    have m3:=iY ej
    simp only at m1
    obtain⟨k,aa,t1,k1,g1,l1,r1,i1,o2⟩:=X.second (c:=Pt.told last [Pt.u2 u']) e1 e2 (by rw[ec,yH]) (fun x h=>.inl h) (fun x h=>.inr h) hN.1 hN.2 (by omega) (by omega)
    obtain⟨k2,bb,t2,k3,g2,l2,r2,i2⟩:=o2.v
    rw[vQ]at i2
    have i3:=Ms.iter_seq i1 i2
    have r1':=r1.mono g2
    have hw:1*(N+3)<=(s'.parts-s.parts)*(N+3):=Nat.mul_le_mul_right _ (by omega)
    have hat:At C (pl+(Pt.codeOf a sl fr.length false).length+(Pt.codeOf b sl (fr.length+1) false).length) [Pt.u2 u']:=by
     have :=hc
     rw[ec]at this
     have h0:At C pl (Pt.codeOf a sl fr.length false++Pt.codeOf b sl (fr.length+1) false++[Pt.u2 u']):=by
      cases last with
      |false=>exact this
      |true=>exact(At.app this).1
     have :=(At.app h0).2
     rw[List.length_append,<-Nat.add_assoc]at this
     exact this
    have fin:∀{b':AV}{v:TV}{t3:List Th}{dm:Nat},r= .val v->t2<+:t3->t3.length=t2.length+dm->s'.made=s2.made+dm->Rep C N t3 b' v->(mk C R t2 (md+(s1.made-s.made)+(s2.made-s1.made)) (bb::aa::(fr.reverse++below)) base (pl+(Pt.codeOf a sl fr.length false).length+(Pt.codeOf b sl (fr.length+1) false).length+1) pend).exec (Pt.u2 u')=some (mk C R t3 (md+(s'.made-s.made)) (b'::(fr.reverse++below)) base (pl+(Pt.codeOf a sl fr.length false).length+(Pt.codeOf b sl (fr.length+1) false).length+1) pend)->
      Out C R N t md fr below base pl pend (Pt.codeOf (.two u a b) sl fr.length last).length last (s'.made-s.made) (s'.parts-s.parts) r:=by
     intro b' v t3 dm er g3 l3 hm hr ex
     subst er
     rw[ec]at hc⊢
     refine kE (k:=k+k2+1) hc hb hp2 (by omega) (by omega) ((g1.trans g2).trans g3) (by omega) hr ?_
     have :=Ms.iter_seq i3 (step hat ex (by show(b'::(fr.reverse++below)).length<=_;simp;omega))
     rw[this]
     congr 2
     simp;omega
    rcases aG ej with⟨rfl,rfl,rfl⟩|⟨rfl,rfl,rfl⟩|⟨hm,x,y,hum,rfl,rfl,er,rfl⟩
    ·refine fin (t3:=t2++[⟨.cell,[aa,bb]⟩]) (b':=.at_ t2.length) (dm:=1) rfl xC (by simp) rfl (.cell yF (r1'.mono xC) (r2.mono xC)) ?_
     rw[show md+(s2.made+1-s.made)=md+(s1.made-s.made)+(s2.made-s1.made)+1 by omega]
     exact cL (by simp only at hR;omega)
    ·refine fin (t3:=t2++[⟨.pair,[aa,bb]⟩]) (b':=.at_ t2.length) (dm:=1) rfl xC (by simp) rfl (.pair yF (r1'.mono xC) (r2.mono xC)) ?_
     rw[show md+(s2.made+1-s.made)=md+(s1.made-s.made)+(s2.made-s1.made)+1 by omega]
     exact cL (by simp only at hR;omega)
    ·cases r1'
     cases r2
     by_cases z:Ms.nought hm y=true
     ·rw[if_pos z]at er
      subst er
      rw[hum]at hat
      refine .inr ⟨k+k2+1,_,by omega,Ms.iter_seq i3 (step (m1:=⟨C,R,t2,md+(s1.made-s.made)+(s'.made-s1.made),fr.reverse++below,base,pl+(Pt.codeOf a sl fr.length false).length+(Pt.codeOf b sl (fr.length+1) false).length+1,pend,.byNought⟩) hat ?_ (by show(fr.reverse++below).length<=_;simp;omega)),rfl,by show md+(s1.made-s.made)+(s'.made-s1.made)=_;omega⟩
      show some (if Ms.nought hm y=true then _ else _)=_
      rw[if_pos z]
     ·rw[if_neg z]at er
      refine fin (t3:=t2) (b':=Ms.sumV hm x y) (dm:=0) er (List.prefix_refl _) rfl rfl (by cases hm<;>first|exact .num|exact .tru) ?_
      rw[hum,show md+(s'.made-s.made)=md+(s1.made-s.made)+(s'.made-s1.made) by omega]
      show some (if Ms.nought hm y=true then _ else _)=_
      rw[if_neg z]
   have oth:∀u',(ev most n a env pd false ⟨s.made,s.parts+1⟩).bind (fun r=>match r with
     |(.val va,s1)=>(ev most n b env pd false s1).bind fun r2=>match r2 with
      |(.val vb,s2)=>join2 u' va vb s2
      |(.trap t,s2)=>some (.trap t,s2)
     |(.trap t,s1)=>some (.trap t,s1))=some (r,s')->Pt.codeOf (.two u a b) sl fr.length last=Pt.told last (Pt.codeOf a sl fr.length false++Pt.codeOf b sl (fr.length+1) false++[Pt.u2 u'])->
     Out C R N t md fr below base pl pend (Pt.codeOf (.two u a b) sl fr.length last).length last (s'.made-s.made) (s'.parts-s.parts) r:=by
    intro u' h ec
    obtain⟨⟨r1,s1⟩,e1,e2⟩:=aq5.mp h
    have m1:=zM e1
    simp only at m1
    cases r1 with
    |trap y=>
     cases e2
     have :=X.first (c:=Pt.codeOf b sl (fr.length+1) false++Pt.told last [Pt.u2 u']) e1 (by rw[ec,yH,List.append_assoc]) (fun x h=>.inl h) hN.1 (aq7 _) (aq7 _)
     exact kY.after (k:=0) rfl this (by omega) rfl
    |val va=>
     obtain⟨⟨r2,s2⟩,e3,e4⟩:=aq5.mp e2
     have m2:=zM e3
     cases r2 with
     |trap y=>
      cases e4
      obtain⟨k,aa,t1,k1,g1,l1,r1,i1,o2⟩:=X.second (c:=Pt.told last [Pt.u2 u']) e1 e3 (by rw[ec,yH]) (fun x h=>.inl h) (fun x h=>.inr h) hN.1 hN.2 (aq7 _) (aq7 _)
      rw[<-vQ]at i1
      exact kY.after i1 o2 (by omega) (by omega)
     |val vb=>exact bin e1 e3 e4 ec
   cases u
   case and=>
    obtain⟨⟨r1,s1⟩,e1,e2⟩:=aq5.mp h
    have ec:Pt.codeOf (.two .and a b) sl fr.length last=Pt.ifC last (Pt.codeOf a sl fr.length false) (Pt.codeOf b sl fr.length last) (Pt.told last [.tru false]):=rfl
    cases r1 with
    |trap y=>
     cases e2
     have m1:=zM e1
     simp only at m1
     have :=X.first e1 (by rw[ec,wP]) (fun x h=>.inl h) hN.1 (aq7 _) (aq7 _)
     exact kY.after (k:=0) rfl this (by omega) rfl
    |val va=>
     cases va with
     |tru w=>
      cases w with
      |true=>exact X.brT e1 e2 ec (fun x h=>.inl h) (fun x h=>.inr h) hN.1 hN.2
      |false=>cases e2;exact X.conF e1 rfl ec (fun x h=>.inl h) hN.1
     |_=>cases e2
   case or=>
    obtain⟨⟨r1,s1⟩,e1,e2⟩:=aq5.mp h
    have ec:Pt.codeOf (.two .or a b) sl fr.length last=Pt.ifC last (Pt.codeOf a sl fr.length false) (Pt.told last [.tru true]) (Pt.codeOf b sl fr.length last):=rfl
    cases r1 with
    |trap y=>
     cases e2
     have m1:=zM e1
     simp only at m1
     have :=X.first e1 (by rw[ec,wP]) (fun x h=>.inl h) hN.1 (aq7 _) (aq7 _)
     exact kY.after (k:=0) rfl this (by omega) rfl
    |val va=>
     cases va with
     |tru w=>
      cases w with
      |true=>cases e2;exact X.conT e1 rfl ec (fun x h=>.inl h) hN.1
      |false=>exact X.brF e1 e2 ec (fun x h=>.inl h) (fun x h=>.inr h) hN.1 hN.2
     |_=>cases e2
   case call=>
    obtain⟨⟨r1,s1⟩,e1,e2⟩:=aq5.mp h
    have ec:Pt.codeOf (.two .call a b) sl fr.length last=Pt.codeOf a sl fr.length false++Pt.codeOf b sl (fr.length+1) false++[if last then .last else .call]:=rfl
    have m1:=zM e1
    simp only at m1
    cases r1 with
    |trap y=>
     cases e2
     have :=X.first (c:=Pt.codeOf b sl (fr.length+1) false++[if last then .last else .call]) e1 (by rw[ec,List.append_assoc]) (fun x h=>.inl h) hN.1 (aq7 _) (aq7 _)
     exact kY.after (k:=0) rfl this (by omega) rfl
    |val va=>
     obtain⟨⟨r2,s2⟩,e3,e4⟩:=aq5.mp e2
     have m2:=zM e3
     cases r2 with
     |trap y=>
      cases e4
      obtain⟨k,aa,t1,k1,g1,l1,r1,i1,o2⟩:=X.second (c:=[if last then .last else .call]) e1 e3 ec (fun x h=>.inl h) (fun x h=>.inr h) hN.1 hN.2 (aq7 _) (aq7 _)
      rw[<-vQ]at i1
      exact kY.after i1 o2 (by omega) (by omega)
     |val vb=>
      have hmm:s2.made<=s'.made/\s2.parts<=s'.parts:=by
       have e4':=e4
       simp only at e4'
       split at e4'
       ·cases e4';exact⟨aq7 _,aq7 _⟩
       ·split at e4'
        ·have :=zM e4';exact⟨this.1,by omega⟩
        ·have :=zM e4';exact⟨this.1,by omega⟩
        ·cases e4'
      obtain⟨k,aa,t1,k1,g1,l1,r1,i1,o2⟩:=X.second (c:=[if last then .last else .call]) e1 e3 ec (fun x h=>.inl h) (fun x h=>.inr h) hN.1 hN.2 hmm.1 hmm.2
      obtain⟨k2,bb,t2,k3,g2,l2,r2,i2⟩:=o2.v
      rw[vQ]at i2
      have i3:=Ms.iter_seq i1 i2
      have r1':=r1.mono g2
      have hat:At C (pl+(Pt.codeOf a sl fr.length false).length+(Pt.codeOf b sl (fr.length+1) false).length) [if last then .last else .call]:=by
       have :=hc
       rw[ec]at this
       have :=(At.app this).2
       rw[List.length_append,<-Nat.add_assoc]at this
       exact this
      have hw1:1*(N+3)<=(s1.parts-(s.parts+1))*(N+3):=Nat.mul_le_mul_right _ (by omega)
      have hw2:1*(N+3)<=(s2.parts-s1.parts)*(N+3):=Nat.mul_le_mul_right _ (by omega)
      have hw:(1+(s1.parts-(s.parts+1))+(s2.parts-s1.parts)+(s'.parts-s2.parts))*(N+3)<=(s'.parts-s.parts)*(N+3):=Nat.mul_le_mul_right _ (by omega)
      rw[wR]at hw
      simp only at e4
      by_cases deep:last=false/\pd=40
      ·rw[if_pos deep]at e4
       cases e4
       obtain⟨rfl,rfl⟩:=deep
       refine .inr ⟨k+k2+1,_,by omega,Ms.iter_seq i3 (step (m1:=⟨C,R,t2,md+(s1.made-s.made)+(s'.made-s1.made),bb::aa::(fr.reverse++below),base,pl+(Pt.codeOf a sl fr.length false).length+(Pt.codeOf b sl (fr.length+1) false).length+1,pend,.tooDeep⟩) hat ?_ (by show(bb::aa::(fr.reverse++below)).length<=_;simp;omega)),rfl,by show md+(s1.made-s.made)+(s'.made-s1.made)=_;omega⟩
       show(if 40<=pend.length then some _ else _)=_
       rw[if_pos (by omega)]
      ·rw[if_neg deep]at e4
       have go:∀{q:Pt}{env2:TEnv}{fr':List AV}{kk plq:Nat}{sl':Pt.Sl},aa= .at_ kk->(∀(stk:List AV)(base pl:Nat)(pend:List (Nat×Nat)),(mk C R t2 (md+(s1.made-s.made)+(s2.made-s1.made)) stk base pl pend).enter kk bb=some (mk C R t2 (md+(s1.made-s.made)+(s2.made-s1.made)) (fr'.reverse++stk) base plq pend))->At C plq (Pt.codeOf q sl' fr'.length true)->kA C N t2 fr' sl' env2 q->Nw N q->fr'.length<=N+2->
         ev most n q env2 (if last then pd else pd+1) true s2=some (r,s')->Out C R N t md fr below base pl pend (Pt.codeOf (.two .call a b) sl fr.length last).length last (s'.made-s.made) (s'.parts-s.parts) r:=by
        intro q env2 fr' kk plq sl' ea hen hcq hEq hNq hfl eq
        subst ea
        have m4:=zM eq
        cases last with
        |true=>
         have ex:(mk C R t2 (md+(s1.made-s.made)+(s2.made-s1.made)) (bb::AV.at_ kk::(fr.reverse++below)) base (pl+(Pt.codeOf a sl fr.length false).length+(Pt.codeOf b sl (fr.length+1) false).length+1) pend).exec .last=some (mk C R t2 (md+(s1.made-s.made)+(s2.made-s1.made)) (fr'.reverse++below) base plq pend):=by
          have hcut:Ms.cut (fr.reverse++below) base=below:=by
           unfold Ms.cut
           rw[List.length_append,List.length_reverse,hb,show fr.length+base-base=fr.length by omega,List.drop_left' (by simp)]
          show(mk C R t2 (md+(s1.made-s.made)+(s2.made-s1.made)) (Ms.cut (fr.reverse++below) base) base _ pend).enter kk bb=_
          rw[hcut]
          exact hen _ _ _ _
         have i4:=Ms.iter_seq i3 (step hat ex (by show(fr'.reverse++below).length<=_;simp;omega))
         have ih:=main n eq t2 (md+(s1.made-s.made)+(s2.made-s1.made)) fr' below base plq pend sl' hcq hb hp2 hpd h40 hEq hNq (by omega) (by omega)
         exact Out.after i4 (g1.trans g2) (by omega) ih (by omega) (by omega)
        |false=>
         have hpn:pd≠40:=fun z=>deep ⟨rfl,z⟩
         have ex:(mk C R t2 (md+(s1.made-s.made)+(s2.made-s1.made)) (bb::AV.at_ kk::(fr.reverse++below)) base (pl+(Pt.codeOf a sl fr.length false).length+(Pt.codeOf b sl (fr.length+1) false).length+1) pend).exec .call=some (mk C R t2 (md+(s1.made-s.made)+(s2.made-s1.made)) (fr'.reverse++(bb::AV.at_ kk::(fr.reverse++below))) (bb::AV.at_ kk::(fr.reverse++below)).length plq ((pl+(Pt.codeOf a sl fr.length false).length+(Pt.codeOf b sl (fr.length+1) false).length+1,base)::pend)):=by
          show(if 40<=pend.length then some _ else _)=_
          rw[if_neg (by omega)]
          exact hen _ _ _ _
         have hbl:(bb::AV.at_ kk::(fr.reverse++below)).length=fr.length+base+2:=by simp;omega
         have i4:=Ms.iter_seq i3 (step hat ex (by show(fr'.reverse++(bb::AV.at_ kk::(fr.reverse++below))).length<=_;rw[List.length_append,List.length_reverse,hbl];omega))
         have ih:=main n eq t2 (md+(s1.made-s.made)+(s2.made-s1.made)) fr' (bb::AV.at_ kk::(fr.reverse++below)) _ plq ((pl+(Pt.codeOf a sl fr.length false).length+(Pt.codeOf b sl (fr.length+1) false).length+1,base)::pend) sl' hcq rfl (fun _=>by rw[hbl];omega) (by simp;omega) (by show pd+1<=40;omega) hEq hNq (by omega) (by rw[hbl];omega)
         cases r with
         |trap y=>exact kY.after i4 ih (by omega) (by omega)
         |val v=>
          obtain⟨k4,a4,t3,m',k5,g3,l3,r3,i5,hend⟩:=ih
          have hend:m'=mk C R t3 (md+(s1.made-s.made)+(s2.made-s1.made)+(s'.made-s2.made)) (a4::(fr.reverse++below)) base (pl+(Pt.codeOf a sl fr.length false).length+(Pt.codeOf b sl (fr.length+1) false).length+1) pend:=hend
          refine⟨_,a4,t3,_,?_,(g1.trans g2).trans g3,by omega,r3,Ms.iter_seq i4 i5,?_⟩
          ·omega
          ·rw[hend]
           show mk C R t3 _ _ _ _ _=mk C R t3 _ _ _ _ _
           congr 1
           ·omega
           ·rw[ec];simp;omega
       cases va with
       |clo f x q env'=>
        cases f with
        |none=>
         cases r1' with
         | @fn kk plq kept _ κ _ _ g ht hcq hkl hnw hlk hrep=>
          have hx:x∉Pt.outs (.fn x κ q):=fun z=>((Pt.outs_mem x _).mp z).2 rfl
          refine go (q:=q) (env2:=(x,vb)::env') (fr':=kept++[bb]) (kk:=kk) (plq:=plq) (sl':=Pt.slotsFor 0 (Pt.outs (.fn x κ q)++[x])) rfl (fun stk base pl pend=>?_) (by rw[List.length_append,hkl];exact hcq) ?_ hnw.2 (by rw[List.length_append,hkl];have :=hnw.1;simp;omega) e4
          ·have :=iU (C:=C) (R:=R) (md:=md+(s1.made-s.made)+(s2.made-s1.made)) (stk:=stk) (base:=base) (pl:=pl) (pend:=pend) (h:=bb) ht
           simpa using this
          ·refine kA.fn (env:=env') hkl (List.nodup_append.mpr ⟨Pt.outs_nodup _,by simp,fun c hc d hd z=>?_⟩) rfl hlk hrep (fun y hy=>?_) (fun nm _ hn=>?_) fun i y c h1 h2=>?_
           ·rw[List.mem_singleton.mp hd]at z;exact hx (z▸hc)
           ·by_cases z:y=x
            ·exact .inr (by simp[z])
            ·exact .inl ((Pt.outs_mem y _).mpr ⟨hy,z⟩)
           ·rw[List.lookup_cons,beq_eq_false_iff_ne.mpr (by simpa using hn)]
           ·cases i with
            |zero=>
             have z1:x=y:=by simpa using h1
             have z2:bb=c:=by simpa using h2
             subst z1 z2
             exact⟨vb,by simp[List.lookup_cons],r2⟩
            |succ i=>simp at h1
        |some f=>
         have self:=r1'
         cases r1' with
         | @rc kk plq kept _ _ κ l _ _ g ht hcq hkl hnw hlk hrep=>
          have hfx:∀y,y∈Pt.outs (.rc f x κ l q)->y≠f/\y≠x:=fun y hy=>((Pt.outs_mem y _).mp hy).2
          by_cases z:f=x
          ·subst z
           rw[if_pos rfl]at hcq
           refine go (q:=q) (env2:=(f,vb)::(f,.clo (some f) f q env')::env') (fr':=kept++[bb]) (kk:=kk) (plq:=plq) (sl':=Pt.slotsFor 0 (Pt.outs (.rc f f κ l q)++[f])) rfl (fun stk base pl pend=>?_) (by rw[List.length_append,hkl];exact hcq) ?_ hnw.2 (by rw[List.length_append,hkl];have :=hnw.1;simp;omega) e4
           ·have :=iU (C:=C) (R:=R) (md:=md+(s1.made-s.made)+(s2.made-s1.made)) (stk:=stk) (base:=base) (pl:=pl) (pend:=pend) (h:=bb) ht
            simpa using this
           ·refine kA.fn (env:=env') hkl (List.nodup_append.mpr ⟨Pt.outs_nodup _,by simp,fun c hc d hd z=>?_⟩) rfl hlk hrep (fun y hy=>?_) (fun nm _ hn=>?_) fun i y c h1 h2=>?_
            ·rw[List.mem_singleton.mp hd]at z;exact(hfx c hc).1 z
            ·by_cases z:y=f
             ·exact .inr (by simp[z])
             ·exact .inl ((Pt.outs_mem y _).mpr ⟨hy,z,z⟩)
            ·have hne:nm≠f:=by simpa using hn
             rw[List.lookup_cons,beq_eq_false_iff_ne.mpr hne,List.lookup_cons,beq_eq_false_iff_ne.mpr hne]
            ·cases i with
             |zero=>
              have z1:f=y:=by simpa using h1
              have z2:bb=c:=by simpa using h2
              subst z1 z2
              exact⟨vb,by simp[List.lookup_cons],r2⟩
             |succ i=>simp at h1
          ·rw[if_neg z]at hcq
           refine go (q:=q) (env2:=(x,vb)::(f,.clo (some f) x q env')::env') (fr':=kept++[.at_ kk,bb]) (kk:=kk) (plq:=plq) (sl':=Pt.slotsFor 0 (Pt.outs (.rc f x κ l q)++[f,x])) rfl (fun stk base pl pend=>?_) (by rw[List.length_append,hkl];exact hcq) ?_ hnw.2 (by rw[List.length_append,hkl];have :=hnw.1;simp;omega) e4
           ·have :=iU (C:=C) (R:=R) (md:=md+(s1.made-s.made)+(s2.made-s1.made)) (stk:=stk) (base:=base) (pl:=pl) (pend:=pend) (h:=bb) ht
            rw[decide_eq_true z]at this
            simpa using this
           ·refine kA.fn (env:=env') hkl (List.nodup_append.mpr ⟨Pt.outs_nodup _,by simp[z],fun c hc d hd e=>?_⟩) rfl hlk hrep (fun y hy=>?_) (fun nm _ hn=>?_) fun i y c h1 h2=>?_
            ·have :=hfx c hc
             rcases(show d=f\/d=x by simpa using hd)with e'|e'
             ·exact this.1 (e.trans e')
             ·exact this.2 (e.trans e')
            ·by_cases z1:y=f
             ·exact .inr (by simp[z1])
             ·by_cases z2:y=x
              ·exact .inr (by simp[z2])
              ·exact .inl ((Pt.outs_mem y _).mpr ⟨hy,z1,z2⟩)
            ·have hne:nm≠f/\nm≠x:=by simpa using hn
             rw[List.lookup_cons,beq_eq_false_iff_ne.mpr hne.2,List.lookup_cons,beq_eq_false_iff_ne.mpr hne.1]
            ·match i,h1,h2 with
             |0,h1,h2=>
              have z1:f=y:=by simpa using h1
              have z2:AV.at_ kk=c:=by simpa using h2
              subst z1 z2
              exact⟨_,by rw[List.lookup_cons,beq_eq_false_iff_ne.mpr z,List.lookup_cons,beq_self_eq_true],self⟩
             |1,h1,h2=>
              have z1:x=y:=by simpa using h1
              have z2:bb=c:=by simpa using h2
              subst z1 z2
              exact⟨vb,by simp[List.lookup_cons],r2⟩
             |i+2,h1,h2=>simp at h1
       |_=>cases e4
   case cons=>exact oth .cons h rfl
   case pair=>exact oth .pair h rfl
   case plus=>exact oth .plus h rfl
   case minus=>exact oth .minus h rfl
   case times=>exact oth .times h rfl
   case over=>exact oth .over h rfl
   case rest=>exact oth .rest h rfl
   case less=>exact oth .less h rfl
   case same=>exact oth .same h rfl
end
end Ev
open PySem
namespace Ms
theorem cM{k:Nat}{m m':Ms}(h:iter k m=some m')(hs:m.st≠ .running):k=0/\m'=m:=by
 cases k with
 |zero=>cases h;exact⟨rfl,rfl⟩
 |succ k=>rw[iter,if_neg hs]at h;cases h
theorem cN:∀{k:Nat}{m m':Ms}{fuel:Nat},iter k m=some m'->m'.st≠ .running->k<fuel->∃j m1,j<=k/\ends fuel m=some m1/\iter (k-j) m1=some m'
 |0,m,m',fuel,h,hs,hf=>by
  cases h
  obtain⟨f,rfl⟩:∃f,fuel=f+1:=⟨fuel-1,by omega⟩
  exact⟨0,m,aq7 _,by rw[ends,if_neg hs],rfl⟩
 |k+1,m,m',fuel,h,hs,hf=>by
  obtain⟨f,rfl⟩:∃f,fuel=f+1:=⟨fuel-1,by omega⟩
  have hr:m.st= .running:=by
   rcases Decidable.em (m.st= .running)with z|z
   ·exact z
   ·exact absurd (cM h z).1 (by omega)
  have h0:=h
  rw[iter,if_pos hr]at h
  obtain⟨m2,e2,h2⟩:=aq5.mp h
  obtain⟨o,ho,_⟩:=order_of e2
  rw[ends,if_pos hr,ho]
  show∃j m1,j<=k+1/\(if ending o=true then m.order.bind (ends f)else some m)=some m1/\_
  by_cases z:ending o=true
  ·rw[if_pos z,e2]
   obtain⟨j,m1,h1,h3,h4⟩:=cN (fuel:=f) h2 hs (by omega)
   exact⟨j+1,m1,by omega,h3,by rw[show k+1-(j+1)=k-j by omega];exact h4⟩
  ·rw[if_neg z]
   exact⟨0,m,by omega,rfl,h0⟩
theorem run_iter{fuel:Nat}:∀{n k:Nat}{m m':Ms},iter k m=some m'->m'.st≠ .running->k<fuel->∃j m1,j<=k/\run fuel n m=some m1/\iter (k-j) m1=some m'/\(k<=n->m1=m')
 |0,k,m,m',h,hs,hf=>⟨0,m,Nat.zero_le _,rfl,h,fun z=>by
   have :k=0:=by omega
   subst this;cases h;rfl⟩
 |n+1,k,m,m',h,hs,hf=>by
  rw[run]
  by_cases hr:m.st= .running
  ·rw[if_pos hr]
   cases k with
   |zero=>cases h;exact absurd hr hs
   |succ k=>
    have h0:=h
    rw[iter,if_pos hr]at h
    obtain⟨m2,e2,h2⟩:=aq5.mp h
    obtain⟨j,m1,h1,h3,h4⟩:=cN (fuel:=fuel) h2 hs (by omega)
    obtain⟨j2,m3,h5,h6,h7,h8⟩:=run_iter (fuel:=fuel) (n:=n) (k:=k-j) h4 hs (by omega)
    refine⟨j+1+j2,m3,by omega,?_,by rw[show k+1-(j+1+j2)=k-j-j2 by omega];exact h7,fun z=>h8 (by omega)⟩
    show(m.step fuel).bind (run fuel n)=_
    unfold step
    rw[e2]
    show(ends fuel m2).bind (run fuel n)=_
    rw[h3]
    exact h6
  ·rw[if_neg hr]
   obtain⟨rfl,rfl⟩:=cM h hr
   exact⟨0,m',aq7 _,rfl,rfl,fun _=>rfl⟩
end Ms
namespace Ev
theorem whole{p:Pt}{R N most n:Nat}{r:Rs}{s':Sc}(h:ev most n p [] 0 true ⟨0,0⟩=some (r,s'))(hf:∀x,¬p.fv x)(hN:Nw N p)(hR:s'.made<=R)(hH:s'.parts*(N+3)<=Ms.high):
  match r with
  | .val v=>∃k a m',k<=3*s'.parts/\Ms.iter k (Ms.new (Pt.codeOf p [] 0 true) R)=some m'/\m'.st= .done/\m'.stk=[a]/\Rep (Pt.codeOf p [] 0 true) N m'.things a v/\m'.made=s'.made/\m'.things.length=s'.made
  | .trap x=>x= .tired\/∃k m',k<=3*s'.parts/\Ms.iter k (Ms.new (Pt.codeOf p [] 0 true) R)=some m'/\m'.st=Tr.sd x/\m'.made=s'.made:=by
 have :=main (C:=Pt.codeOf p [] 0 true) (R:=R) (N:=N) n h [] 0 [] [] 0 0 [] [] ⟨[],by simp⟩ rfl (fun z=>absurd rfl z) rfl (by omega) (fun x hx=>absurd hx (hf x)) hN (by simpa using hR) (by simpa using hH)
 cases r with
 |trap x=>
  rcases this with z|⟨k,m',h1,h2,h3,h4⟩
  ·exact .inl z
  ·exact .inr ⟨k,m',by simpa using h1,h2,h3,by simpa using h4⟩
 |val v=>
  obtain⟨k,a,t',m',h1,h2,h3,h4,h5,h6⟩:=this
  have h6:m'.st= .done/\m'.stk=[a]/\m'.things=t'/\m'.made=0+(s'.made-0)/\m'.code=_/\m'.room=R:=h6
  obtain⟨a1,a2,a3,a4,_,_⟩:=h6
  exact⟨k,a,m',by simpa using h1,h5,a1,a2,by rw[a3];exact h4,by simpa using a4,by rw[a3];simpa using h3⟩
end Ev
set_option maxRecDepth 1000000
open PySem
namespace F19
abbrev n_:Pt:=.nam "n"
abbrev again:Pt:=.two .call (.nam "f") (.two .minus n_ (.num 1))
abbrev test:Pt:=.two .less n_ (.num 1)
def body:Nat->Pt×Bool
 |0=>(.ite test (.num 7) again,true)
 |1=>(.ite test (.num 7) (.two .plus (.num 0) again),false)
 |2=>(.ite test (.num 7) (.let_ "y" (.num 1) again),true)
 |3=>(.ite test (.num 7) (.let_ "y" again (.nam "y")),false)
 |4=>(.ite (.one .not test) again (.num 7),true)
 |5=>(.ite test (.num 7) (.one .head (.two .cons again (.nil .int))),false)
 |6=>(.let_ "m" (.two .minus n_ (.num 0)) (.ite (.two .less (.nam "m") (.num 1)) (.num 7) again),true)
 |_=>(.ite test (.num 7) (.ite (.two .same again (.num 7)) (.num 7) (.num 8)),false)
def truths:Nat->Pt×Bool
 |0=>(.two .or test again,true)
 |1=>(.two .and (.one .not test) again,true)
 |2=>(.ite test (.tru true) (.two .and again (.tru false)),false)
 |3=>(.ite test (.tru true) (.two .and (.tru true) (.two .or (.tru false) again)),true)
 |_=>(.two .and (.two .or test again) (.tru true),false)
def called(b:Pt)(k:Kd)(many:Int):Nat->Pt
 |0=>.two .call (.rc "f" "n" .int k b) (.num many)
 |a+1=>.two .call (.fn "u" k (.nam "u")) (called b k many a)
inductive Due|num (n:Int)|tru (b:Bool)|deep
def fits(room steps:Nat)(d:Due):Option (Rs×Sc)->Bool
 |some (r,s)=>decide (s.made<=room)&&decide (3*s.parts<=steps)&&decide (s.parts<=20000)&&(match r,d with
  | .val (.num x),.num y=>decide (x=y)
  | .val (.tru x),.tru y=>decide (x=y)
  | .trap .tooDeep,.deep=>true
  |_,_=>false)
 |none=>false
def chk(p:Pt)(room steps:Nat)(d:Due):Bool:=fits room steps d (Ev.ev 20000 20000 p [] 0 true ⟨0,0⟩)
def pG(i:Nat)(many:Nat)(a:Nat):Due:=if(body i).2=false/\40<(if 0<a then 1 else 0)+many then .deep else .num 7
def pM(i:Nat)(many:Nat)(a:Nat):Due:=if(truths i).2=false/\40<(if 0<a then 1 else 0)+many then .deep else if i=1 then .tru false else if i=2 then .tru (decide (many=0))else .tru true
def manies:List Nat:=[0,1,2,3,4]++(List.range 21).map (·+30)
end F19
set_option maxRecDepth 100000
namespace K19
open PySem L2 PyProof Dt
abbrev qYj:Stmt:=top 107
abbrev pN:Stmt:=top 108
abbrev qU0:Stmt:=top 109
abbrev gO:Stmt:=top 110
abbrev gI:Stmt:=top 111
abbrev qU1:Stmt:=top 112
abbrev zX2:Stmt:=top 113
abbrev zX3:Stmt:=top 114
structure GlL(mg:Str->Option Value):Prop where
 len:mg "len"=none
 int:mg "int"=none
 max:mg "max"=none
 min:mg "min"=none
 range:mg "range"=none
section
variable {P:Program} {w:World} {K:Fg} {mg:Str->Option Value} {base:Heap} {f:Addr} {fd:FuncData}
inductive sC(K:Fg)(vs:List V)(H:Hp)(Q:VK):Prop
 |mk (a:Addr) (ns:List Int) (k:Int) (a_0:vs=[.ref a,.int k]) (a_1:zH K H a (ns.map V.int)) (a_2:ns.length<=63) (a_3:∀(z:Int)(H':Hp),Grow H H'->Q (.int z) H'):sC K vs H Q
def qU2(K:Fg):Sp:=fun vs H Q x_0=>sC K vs H Q
theorem zM4:qO ["_law_script","_law_k"] ["_law_script","_law_k"] (qU qYj):=by walk_at "s"
theorem qM9{f:Addr}{fd:FuncData}(F:zZ K "_law_cell" "_law_cell" qYj .none f fd)(G:GlL mg):qS P w K mg base (CXE P w) 1 f fd ["_law_script","_law_k"] (qU2 K):=by
 refine F.ok0 zM4 (fun vs H Q E h=>?_) (fun cdv A outer s H vs Q E hr h=>?_)
 ·obtain⟨a,ns,k,rfl,_⟩:=h
  rfl
 ·obtain⟨a,ns,k,rfl,hS,hn,q⟩:=h
  refine⟨_,qZ (zC (qE (eB hr.units0) (pv 0) (jX qJ) (nomark _)) (qK (qM (zX yT (pv 1) qV))) zQ)
   (qK (qM (zX xF (qL zJ (pv 0) (zX xY (pv 1) (zI zG (by rfl) G.len aq16 (qQ (pv 0) qJ))) (fun _ _=>rfl))
    (zX yT (zX vX (pv 1) (zI zG (by rfl) G.len aq16 (qQ (pv 0) qJ))) qV)))),?_⟩
  walk_at "e"
  refine⟨_,rfl,(by decide),fun l hl=>?_⟩
  have g1:Grow H (upd H l (.lst [])):=Grow.put hl
  have hS1:=g1.same.seq hS
  refine⟨a,l,_,rfl,rfl,hS1,zH.of qX,_,rfl,?_⟩
  refine ite2 (fun _=>?_) (fun h=>?_)
  ·exact⟨_,rfl,_,_,rfl,rfl,.inr ⟨by decide,by decide⟩,q _ _ g1⟩
  ·have hne:ns≠[]:=fun e=>h (by rw[e];rfl)
   have hpos:0<ns.length:=List.length_pos_iff.mpr hne
   have hlp:(0:Int)<((ns.map V.int).length:Nat):=by rw[List.length_map];omega
   have h0:0<=k%((ns.map V.int).length:Nat):=Int.emod_nonneg _ (by omega)
   have h1:k%((ns.map V.int).length:Nat)<((ns.map V.int).length:Nat):=Int.emod_lt_of_pos _ hlp
   obtain⟨j,hj⟩:∃j:Nat,k%((ns.map V.int).length:Nat)=(j:Int):=⟨(k%((ns.map V.int).length:Nat)).toNat,by omega⟩
   have hjl:j<ns.length:=by rw[hj,List.length_map]at h1;omega
   have hv:(ns.map V.int)[j]? =some (V.int ns[j]):=by rw[List.getElem?_map,List.getElem?_eq_getElem hjl];rfl
   refine⟨_,rfl,_,rfl,_,rfl,a,_,rfl,.inl hS1,_,_,rfl,rfl,hlp,a,_,_,.int ns[j],rfl,rfl,hS1,?_,?_⟩
   ·rw[hj];exact qY hv
   ·refine⟨_,rfl,_,rfl,a,_,rfl,.inl hS1,_,_,rfl,rfl,⟨hlp,?_⟩,_,_,rfl,rfl,.inr ⟨by decide,by decide⟩,_,_,rfl,rfl,q _ _ g1⟩
    show(((ns.map V.int).length:Nat):Int)<1073741824
    rw[List.length_map];omega
inductive bK(vs:List V)(H:Hp)(Q:VK):Prop
 |mk (c:Int) (k:Int) (a_0:vs=[.int c,.int k]) (a_1:∀z:Int,0<=z->Q (.int z) H):bK vs H Q
def sL:Sp:=fun vs H Q x_0=>bK vs H Q
theorem zO3:qO ["_law_cell_here","_law_k","_law_more"] ["_law_cell_here","_law_k"] (qU pN):=by walk_at "s"
theorem qU3{f:Addr}{fd:FuncData}(F:zZ K "_law_drawn" "_law_drawn" pN .none f fd):qS P w K mg base (CXE P w) 1 f fd ["_law_cell_here","_law_k"] sL:=by
 refine F.ok0 zO3 (fun vs H Q E h=>?_) (fun cdv A outer s H vs Q E hr h=>?_)
 ·obtain⟨c,k,rfl,_⟩:=h
  rfl
 ·obtain⟨c,k,rfl,q⟩:=h
  refine⟨_,qZ (qB (i:=2) zO3.nd rfl (Or.inl rfl) (zX xY (zX xF (zX yT (pv 0) qV) (zX yT (zX xF (pv 1) qV) qV)) qV))
   (qK (qM (zX xY (zX qI4 (pv 2) (pv 2)) qV))),?_⟩
  walk_at "e"
  refine⟨_,rfl,_,_,rfl,rfl,.inr ⟨by decide,by decide⟩,_,rfl,_,_,rfl,rfl,_,_,rfl,rfl,.inr ⟨by decide,by decide⟩,_,_,rfl,rfl,_,_,rfl,rfl,(by show(0:Int)<340282366920938463463374607431768211507;decide),?_⟩
  obtain⟨m,hm⟩:∃m,(c*6364136223846793005+(k+1)*1442695040888963407)%340282366920938463463374607431768211507=m:=⟨_,rfl⟩
  have m0:0<=m:=by rw[<-hm];exact Int.emod_nonneg _ (by decide)
  have m1:m<340282366920938463463374607431768211507:=by rw[<-hm];exact Int.emod_lt_of_pos _ (by decide)
  have hb:Builtin.Int.intBits m<=129:=intBits_le_iff.mpr (by
   have :m.natAbs<340282366920938463463374607431768211507:=by omega
   exact Nat.lt_trans this (by decide))
  rw[<-hm]at hb
  refine⟨_,rfl,_,rfl,_,_,rfl,rfl,IntMulOk.of_le (m:=129) (n:=129) hb hb (by decide),_,_,rfl,rfl,(by show(0:Int)<340282366920938463463374607431768211297;decide),?_⟩
  exact q _ (Int.emod_nonneg _ (by decide))
end
section
variable {K:Fg} {ρ:Nat->Dt} {σ:St} {vs:List Nat} {D:Ends}
structure Fill(K:Fg)(ρ:Nat->Dt)(vs:List Nat)(σ:St)(Hs:Hp)(l:Addr)(ds:List Dt)(H:Hp):Prop where
 g:Grow Hs H
 n:Hs l=none
 at_:∃xs,H l=some (.lst xs)/\qI K H ds xs
 vars:∀i∈vs,∃v,σ[i]? =some (some v)/\qW K H (ρ i) v
theorem kJ{Hs H:Hp}{l:Addr}{ds:List Dt}{d:Ds}{j:Nat}(F:Fill K ρ vs σ Hs l ds H)(hj:σ[j]? =some (some (.ref l)))(ho:qYq vs d=true)(hl:ds.length<=50)(q:∀H',Fill K ρ vs σ Hs l (ds++[dsD ρ d]) H'->D.nx σ H'):
  aP (tBM K "list" vV (jY j) (xO (dsE d) wC)) D σ H:=by
 obtain⟨xs,h1,h2⟩:=F.at_
 refine⟨_,hj,.inl ⟨rfl,_,zH.of h1⟩,vC d H _ ho F.vars fun v H1 g1 hv=>?_⟩
 have h1':=g1.same _ _ h1
 refine⟨l,xs,v,rfl,rfl,h1',by rw[sizeLine_eq,h2.length];omega,?_⟩
 have kt:=zB (K:=K) (ys:=xs++[v]) h1'
 refine q _ ⟨(F.g.trans g1).set F.n,F.n,⟨xs++[v],qX,?_⟩,fun i hi=>?_⟩
 ·exact qI.append (qI.monoT kt (h2.mono g1.same)) (qF (qW.monoT kt hv) qT)
 ·obtain⟨u,a,b⟩:=F.vars i hi
  exact⟨u,a,qW.monoT kt (b.mono g1.same)⟩
end
open F19
def ρB:Nat->Dt
 |1=>again.dt
 |2=>n_.dt
 |3=>test.dt
 |5=>(Pt.two .less (.nam "m") (.num 1)).dt
 |_=>.non
def form(x:Pt×Bool):Dt:=.tup [x.1.dt,.bl x.2]
section
variable {P:Program} {w:World} {K:Fg} {mg:Str->Option Value} {base:Heap} {f:Addr} {fd:FuncData}
theorem iO:qO ["_law_more","_law_again","_law_n","_law_test","_law_some","_law_less"] ["_law_more","_law_again"] (qU qU0):=by walk_at "s"
inductive sG(K:Fg)(n:Nat)(g:Nat->Pt×Bool)(vs:List V)(H:Hp)(Q:VK):Prop
 |mk (m:Nat) (x:V) (a_0:vs=[.int (m:Nat),x]) (a_1:qW K H again.dt x) (a_2:∀u H',Grow H H'->qW K H' (form (g (m%n))) u->Q u H'):sG K n g vs H Q
def gC(K:Fg)(n:Nat)(g:Nat->Pt×Bool):Sp:=fun vs H Q x_0=>sG K n g vs H Q
theorem qMq(F:zZ K "_law_body" "_law_body" qU0 .none f fd):qS P w K mg base (CXE P w) 1 f fd ["_law_more","_law_again"] (gC K 8 body):=by
 refine F.ok0 iO (fun vs H Q E h=>?_) (fun cdv A outer s H vs Q E hr h=>?_)
 ·obtain⟨m,x,rfl,_⟩:=h
  rfl
 ·obtain⟨m,x,rfl,hx,q⟩:=h
  refine⟨_,(qZ (qB (i:=2) iO.nd rfl (Or.inl rfl) (@PEd.h _ _ _ (kT (dS (dS dn)))))
   (qZ (qB (i:=3) iO.nd rfl (Or.inl rfl) (@PEd.h _ _ _ (kT (dS (dX (pv 2) (dT (dS (dI dn)) dn))))))
   (qZ (qB (i:=4) iO.nd rfl (Or.inl rfl) (jX (qQ (@PEd.h _ _ _ (kT (dT (dS (dX (pv 3) (dT (dS (dI dn)) (dX (pv 1) dn)))) (dB dn)))) qJ)))
   (qZ (qN (jJ aq0 aq1 aq2 qA (pv 4) (qQ (@PEd.h _ _ _ (kT (dT (dS (dX (pv 3) (dT (dS (dI dn)) (dT (dS (dT (dS (dI dn)) (dX (pv 1) dn))) dn)))) (dB dn)))) qJ)))
   (qZ (qN (jJ aq0 aq1 aq2 qA (pv 4) (qQ (@PEd.h _ _ _ (kT (dT (dS (dX (pv 3) (dT (dS (dI dn)) (dT (dS (dS (dT (dS (dI dn)) (dX (pv 1) dn)))) dn)))) (dB dn)))) qJ)))
   (qZ (qN (jJ aq0 aq1 aq2 qA (pv 4) (qQ (@PEd.h _ _ _ (kT (dT (dS (dX (pv 3) (dT (dS (dI dn)) (dT (dS (dS (dX (pv 1) (dT (dS (dS dn)) dn)))) dn)))) (dB dn)))) qJ)))
   (qZ (qN (jJ aq0 aq1 aq2 qA (pv 4) (qQ (@PEd.h _ _ _ (kT (dT (dS (dT (dS (dX (pv 3) dn)) (dX (pv 1) (dT (dS (dI dn)) dn)))) (dB dn)))) qJ)))
   (qZ (qN (jJ aq0 aq1 aq2 qA (pv 4) (qQ (@PEd.h _ _ _ (kT (dT (dS (dX (pv 3) (dT (dS (dI dn)) (dT (dS (dT (dS (dX (pv 1) (dT (dS (dS dn)) dn))) dn)) dn)))) (dB dn)))) qJ)))
   (qZ (qB (i:=5) iO.nd rfl (Or.inl rfl) (@PEd.h _ _ _ (kT (dS (dT (dS (dS dn)) (dT (dS (dI dn)) dn))))))
   (qZ (qN (jJ aq0 aq1 aq2 qA (pv 4) (qQ (@PEd.h _ _ _ (kT (dT (dS (dS (dT (dS (dX (pv 2) (dT (dS (dI dn)) dn))) (dT (dS (dX (pv 5) (dT (dS (dI dn)) (dX (pv 1) dn)))) dn)))) (dB dn)))) qJ)))
   (qZ (qN (jJ aq0 aq1 aq2 qA (pv 4) (qQ (@PEd.h _ _ _ (kT (dT (dS (dX (pv 3) (dT (dS (dI dn)) (dT (dS (dT (dS (dX (pv 1) (dT (dS (dI dn)) dn))) (dT (dS (dI dn)) (dT (dS (dI dn)) dn)))) dn)))) (dB dn)))) qJ)))
   (qK (qM (qL zJ (pv 4) (zX xY (pv 0) qV) (fun _ _=>rfl))))))))))))))),?_⟩
  walk_at "e"
  refine vC (K:=K) (ρ:=ρB) (vs:=[]) _ _ _ rfl (fun i hi=>by simp at hi) fun v2 H2 g2 h2=>?_
  walk_at "d"
  refine vC (K:=K) (ρ:=ρB) (vs:=[2]) _ _ _ rfl (fun i hi=>by simp at hi;subst hi;exact⟨v2,rfl,h2⟩) fun v3 H3 g3 h3=>?_
  walk_at "d"
  have g13:=g2.trans g3
  refine vC (K:=K) (ρ:=ρB) (vs:=[1,2,3]) _ _ _ rfl (fun i hi=>by
   simp at hi
   rcases hi with rfl|rfl|rfl
   ·exact⟨x,rfl,hx.mono g13.same⟩
   ·exact⟨v2,rfl,h2.mono g3.same⟩
   ·exact⟨v3,rfl,h3⟩) fun v4 H4 g4 h4=>?_
  refine⟨(by show 1<=sizeLine;decide),fun l hl=>?_⟩
  walk_at "d"
  have g5:Grow H4 (upd H4 l (.lst [v4])):=Grow.put hl
  have g15:=(g13.trans g4).trans g5
  have F1:Fill K ρB [1,2,3] [some (.int (m:Nat)),some x,some v2,some v3,some (.ref l),none] H l [form (body 0)] (upd H4 l (.lst [v4])):=⟨g15,(g13.trans g4).none _ hl,⟨[v4],qX,qF (h4.mono g5.same) qT⟩,fun i hi=>by
   simp at hi
   rcases hi with rfl|rfl|rfl
   ·exact⟨x,rfl,hx.mono g15.same⟩
   ·exact⟨v2,rfl,h2.mono ((g3.trans g4).trans g5).same⟩
   ·exact⟨v3,rfl,h3.mono (g4.trans g5).same⟩⟩
  generalize upd H4 l (.lst [v4])=H5 at F1⊢
  refine kJ F1 rfl rfl (by simp) fun H6 F2=>?_
  refine kJ F2 rfl rfl (by simp) fun H7 F3=>?_
  refine kJ F3 rfl rfl (by simp) fun H8 F4=>?_
  refine kJ F4 rfl rfl (by simp) fun H9 F5=>?_
  refine kJ F5 rfl rfl (by simp) fun H10 F6=>?_
  refine vC (K:=K) (ρ:=ρB) (vs:=[]) _ _ _ rfl (fun i hi=>by simp at hi) fun v5 H11 g11 h11=>?_
  walk_at "d"
  have F7:Fill K ρB [1,2,3,5] [some (.int (m:Nat)),some x,some v2,some v3,some (.ref l),some v5] H l [form (body 0),form (body 1),form (body 2),form (body 3),form (body 4),form (body 5)] H11:=by
   obtain⟨xs,a1,a2⟩:=F6.at_
   refine⟨F6.g.trans g11,F6.n,⟨xs,g11.same _ _ a1,a2.mono g11.same⟩,fun i hi=>?_⟩
   by_cases z:i=5
   ·subst z;exact⟨v5,rfl,h11⟩
   ·obtain⟨u,b1,b2⟩:=F6.vars i (by simp at hi⊢;omega)
    refine⟨u,?_,b2.mono g11.same⟩
    simp at hi
    rcases hi with rfl|rfl|rfl|rfl
    ·exact b1
    ·exact b1
    ·exact b1
    ·exact absurd rfl z
  refine kJ F7 rfl rfl (by simp) fun H12 F8=>?_
  refine kJ F8 rfl rfl (by simp) fun H13 F9=>?_
  obtain⟨xs,a1,a2⟩:=F9.at_
  have hlen:xs.length=8:=a2.length
  have hm:m%8<8:=Nat.mod_lt _ (by decide)
  have hform:([form (body 0),form (body 1),form (body 2),form (body 3),form (body 4),form (body 5),form (body 6),form (body 7)]:List Dt)[m%8]? =some (form (body (m%8))):=by
   generalize m%8=i at hm
   match i,hm with
   |0,_=>rfl
   |1,_=>rfl
   |2,_=>rfl
   |3,_=>rfl
   |4,_=>rfl
   |5,_=>rfl
   |6,_=>rfl
   |7,_=>rfl
  obtain⟨u,hu1,hu2⟩:=a2.get (i:=m%8) hform
  refine⟨_,rfl,_,rfl,_,_,rfl,rfl,(by show(0:Int)<8;decide),l,xs,_,u,rfl,rfl,zH.of a1,?_,q u H13 F9.g hu2⟩
  rw[show((m:Nat):Int)%8=((m%8:Nat):Int) by omega]
  exact qY hu1
def ρT:Nat->Dt
 |1=>again.dt
 |2=>test.dt
 |_=>.non
theorem iI:qO ["_law_more","_law_again","_law_test","_law_some"] ["_law_more","_law_again"] (qU gO):=by walk_at "s"
theorem aM(F:zZ K "_law_truths" "_law_truths" gO .none f fd):qS P w K mg base (CXE P w) 1 f fd ["_law_more","_law_again"] (gC K 5 truths):=by
 refine F.ok0 iI (fun vs H Q E h=>?_) (fun cdv A outer s H vs Q E hr h=>?_)
 ·obtain⟨m,x,rfl,_⟩:=h
  rfl
 ·obtain⟨m,x,rfl,hx,q⟩:=h
  refine⟨_,(qZ (qB (i:=2) iI.nd rfl (Or.inl rfl) (@PEd.h _ _ _ (kT (dS (dT (dS (dS dn)) (dT (dS (dI dn)) dn))))))
   (qZ (qB (i:=3) iI.nd rfl (Or.inl rfl) (jX (qQ (@PEd.h _ _ _ (kT (dT (dS (dX (pv 2) (dX (pv 1) dn))) (dB dn)))) (qQ (@PEd.h _ _ _ (kT (dT (dS (dT (dS (dX (pv 2) dn)) (dX (pv 1) dn))) (dB dn)))) qJ))))
   (qZ (qN (jJ aq0 aq1 aq2 qA (pv 3) (qQ (@PEd.h _ _ _ (kT (dT (dS (dX (pv 2) (dT (dS (dB dn)) (dT (dS (dX (pv 1) (dT (dS (dB dn)) dn))) dn)))) (dB dn)))) qJ)))
   (qZ (qN (jJ aq0 aq1 aq2 qA (pv 3) (qQ (@PEd.h _ _ _ (kT (dT (dS (dX (pv 2) (dT (dS (dB dn)) (dT (dS (dT (dS (dB dn)) (dT (dS (dT (dS (dB dn)) (dX (pv 1) dn))) dn))) dn)))) (dB dn)))) qJ)))
   (qZ (qN (jJ aq0 aq1 aq2 qA (pv 3) (qQ (@PEd.h _ _ _ (kT (dT (dS (dT (dS (dX (pv 2) (dX (pv 1) dn))) (dT (dS (dB dn)) dn))) (dB dn)))) qJ)))
   (qK (qM (qL zJ (pv 3) (zX xY (pv 0) qV) (fun _ _=>rfl))))))))),?_⟩
  walk_at "e"
  refine vC (K:=K) (ρ:=ρT) (vs:=[]) _ _ _ rfl (fun i hi=>by simp at hi) fun v2 H2 g2 h2=>?_
  walk_at "d"
  have hv:∀{H':Hp},Grow H2 H'->∀i∈[1,2],∃v,([some (.int (m:Nat)),some x,some v2,none]:St)[i]? =some (some v)/\qW K H' (ρT i) v:=fun g i hi=>by
   simp at hi
   rcases hi with rfl|rfl
   ·exact⟨x,rfl,hx.mono (g2.trans g).same⟩
   ·exact⟨v2,rfl,h2.mono g.same⟩
  refine vC (K:=K) (ρ:=ρT) (vs:=[1,2]) _ _ _ rfl (hv (Grow.refl _)) fun v3 H3 g3 h3=>?_
  refine vC (K:=K) (ρ:=ρT) (vs:=[1,2]) _ _ _ rfl (hv g3) fun v4 H4 g4 h4=>?_
  have g14:=(g2.trans g3).trans g4
  refine⟨(by show 2<=sizeLine;decide),fun l hl=>?_⟩
  walk_at "d"
  have g5:Grow H4 (upd H4 l (.lst [v3,v4])):=Grow.put hl
  have F1:Fill K ρT [1,2] [some (.int (m:Nat)),some x,some v2,some (.ref l)] H l [form (truths 0),form (truths 1)] (upd H4 l (.lst [v3,v4])):=⟨g14.trans g5,g14.none _ hl,⟨[v3,v4],qX,qF (h3.mono (g4.trans g5).same) (qF (h4.mono g5.same) qT)⟩,fun i hi=>by
   simp at hi
   rcases hi with rfl|rfl
   ·exact⟨x,rfl,hx.mono (g14.trans g5).same⟩
   ·exact⟨v2,rfl,h2.mono ((g3.trans g4).trans g5).same⟩⟩
  generalize upd H4 l (.lst [v3,v4])=H5 at F1⊢
  refine kJ F1 rfl rfl (by simp) fun H6 F2=>?_
  refine kJ F2 rfl rfl (by simp) fun H7 F3=>?_
  refine kJ F3 rfl rfl (by simp) fun H8 F4=>?_
  obtain⟨xs,a1,a2⟩:=F4.at_
  have hm:m%5<5:=Nat.mod_lt _ (by decide)
  have hform:([form (truths 0),form (truths 1),form (truths 2),form (truths 3),form (truths 4)]:List Dt)[m%5]? =some (form (truths (m%5))):=by
   generalize m%5=i at hm
   match i,hm with
   |0,_=>rfl
   |1,_=>rfl
   |2,_=>rfl
   |3,_=>rfl
   |4,_=>rfl
  obtain⟨u,hu1,hu2⟩:=a2.get (i:=m%5) hform
  refine⟨_,rfl,_,rfl,_,_,rfl,rfl,(by show(0:Int)<5;decide),l,xs,_,u,rfl,rfl,zH.of a1,?_,q u H8 F4.g hu2⟩
  rw[show((m:Nat):Int)%5=((m%5:Nat):Int) by omega]
  exact qY hu1
end
end K19
open PySem
namespace Pt
def small(k:Kd):Option Kd:=if k.sz<=40 then some k else none
def infer:Cxt->Pt->Option Kd
 |_,.num _=>some .int
 |_,.tru _=>some .bool
 |Γ,.nam x=>(Γ.lookup x).bind small
 |_,.nil k=>if k.sz+1<=40 then some (.list k)else none
 |Γ,.one u p=>(infer Γ p).bind fun k=>(k1 u k).bind small
 |Γ,.two u p q=>(infer Γ p).bind fun k=>(infer Γ q).bind fun l=>(k2 u k l).bind small
 |Γ,.ite p q r=>if infer Γ p=some .bool then(infer Γ q).bind fun k=>if infer Γ r=some k then some k else none else none
 |Γ,.let_ x p q=>(infer Γ p).bind fun k=>infer ((x,k)::Γ) q
 |Γ,.fn x k p=>(infer ((x,k)::Γ) p).bind fun l=>small (.fn k l)
 |Γ,.rc f x k l p=>if infer ((x,k)::(f,.fn k l)::Γ) p=some l then small (.fn k l)else none
theorem vE{k l:Kd}(h:small k=some l):k=l/\l.sz<=40:=by
 unfold small at h
 split at h
 ·cases h;exact⟨rfl,by assumption⟩
 ·cases h
theorem infer_has:∀{p:Pt}{Γ:Cxt}{κ:Kd},infer Γ p=some κ->Has Γ p κ
 | .num _,Γ,κ,h=>by cases h;exact .num
 | .tru _,Γ,κ,h=>by cases h;exact .tru
 | .nam x,Γ,κ,h=>by
  obtain⟨k,h1,h2⟩:=aq5.mp h
  obtain⟨rfl,h3⟩:=vE h2
  exact .nam h1 h3
 | .nil k,Γ,κ,h=>by
  rw[infer]at h
  split at h
  ·cases h;exact .nil (by assumption)
  ·cases h
 | .one u p,Γ,κ,h=>by
  obtain⟨k,h1,h2⟩:=aq5.mp h
  obtain⟨m,h3,h4⟩:=aq5.mp h2
  obtain⟨rfl,h5⟩:=vE h4
  exact .one (infer_has h1) h3 h5
 | .two u p q,Γ,κ,h=>by
  obtain⟨k,h1,h2⟩:=aq5.mp h
  obtain⟨l,h3,h4⟩:=aq5.mp h2
  obtain⟨m,h5,h6⟩:=aq5.mp h4
  obtain⟨rfl,h7⟩:=vE h6
  exact .two (infer_has h1) (infer_has h3) h5 h7
 | .ite p q r,Γ,κ,h=>by
  rw[infer]at h
  split at h
  ·rename_i hp
   obtain⟨k,h1,h2⟩:=aq5.mp h
   split at h2
   ·rename_i hr
    cases h2
    exact .ite (infer_has hp) (infer_has h1) (infer_has hr)
   ·cases h2
  ·cases h
 | .let_ x p q,Γ,κ,h=>by
  obtain⟨k,h1,h2⟩:=aq5.mp h
  exact .let_ (infer_has h1) (infer_has h2)
 | .fn x k p,Γ,κ,h=>by
  obtain⟨l,h1,h2⟩:=aq5.mp h
  obtain⟨rfl,h3⟩:=vE h2
  exact .fn (infer_has h1) h3
 | .rc f x k l p,Γ,κ,h=>by
  rw[infer]at h
  split at h
  ·rename_i hp
   obtain⟨rfl,h3⟩:=vE h
   exact .rc (infer_has hp) h3
  ·cases h
def Nums:Pt->Prop
 | .num n=>In64 n
 | .one _ p=>Nums p
 | .two _ p q=>Nums p/\Nums q
 | .ite p q r=>Nums p/\Nums q/\Nums r
 | .let_ _ p q=>Nums p/\Nums q
 | .fn _ _ p=>Nums p
 | .rc _ _ _ _ p=>Nums p
 |_=>True
theorem xU{c d:List AOrd}(h:∀o∈c,o.ok)(g:∀o∈d,o.ok):∀o∈c++d,o.ok:=fun o ho=>(List.mem_append.mp ho).elim (h o) (g o)
theorem xT{o:AOrd}(h:o.ok):∀x∈[o],x.ok:=fun x hx=>by rw[List.mem_singleton.mp hx];exact h
theorem ok_told{c:List AOrd}{b:Bool}(h:∀o∈c,o.ok):∀o∈told b c,o.ok:=by
 unfold told
 cases b
 ·exact h
 ·exact xU h (xT trivial)
theorem ok_ifC{c1 c2 c3:List AOrd}{b:Bool}(h1:∀o∈c1,o.ok)(h2:∀o∈c2,o.ok)(h3:∀o∈c3,o.ok):∀o∈ifC b c1 c2 c3,o.ok:=by
 unfold ifC
 cases b
 ·exact xU (xU (xU h1 (xT trivial)) (xU h2 (xT trivial))) h3
 ·exact xU (xU (xU h1 (xT trivial)) h2) h3
theorem zO4(u:U1):(u1 u).ok:=by cases u<;>(first|trivial|(show(_,_)∈_;simp))
theorem zO5(u:U2):(u2 u).ok:=by cases u<;>first|trivial|(show _≠_;intro z;cases z)
theorem codeOf_ok:∀{p:Pt}{sl:Sl}{h:Nat}{b:Bool},Nums p->p.sz<=50000->∀o∈codeOf p sl h b,o.ok
 | .num n,sl,h,b,hn,hz=>ok_told (xT hn)
 | .tru n,sl,h,b,hn,hz=>ok_told (xT trivial)
 | .nam n,sl,h,b,hn,hz=>ok_told (xT trivial)
 | .nil n,sl,h,b,hn,hz=>ok_told (xT trivial)
 | .one u p,sl,h,b,hn,hz=>ok_told (xU (codeOf_ok (p:=p) hn (by simp only[sz]at hz;omega)) (xT (zO4 u)))
 | .two u p q,sl,h,b,hn,hz=>by
  have z1:p.sz<=50000:=by simp only[sz]at hz;omega
  have z2:q.sz<=50000:=by simp only[sz]at hz;omega
  have ho:∀u',(∀o∈told b (codeOf p sl h false++codeOf q sl (h+1) false++[u2 u']),o.ok):=fun u'=>ok_told (xU (xU (codeOf_ok hn.1 z1) (codeOf_ok hn.2 z2)) (xT (zO5 u')))
  cases u
  case call=>exact xU (xU (codeOf_ok hn.1 z1) (codeOf_ok hn.2 z2)) (xT (by cases b<;>trivial))
  case and=>exact ok_ifC (codeOf_ok hn.1 z1) (codeOf_ok hn.2 z2) (ok_told (xT trivial))
  case or=>exact ok_ifC (codeOf_ok hn.1 z1) (ok_told (xT trivial)) (codeOf_ok hn.2 z2)
  case cons=>exact ho .cons
  case pair=>exact ho .pair
  case plus=>exact ho .plus
  case minus=>exact ho .minus
  case times=>exact ho .times
  case over=>exact ho .over
  case rest=>exact ho .rest
  case less=>exact ho .less
  case same=>exact ho .same
 | .ite p q r,sl,h,b,hn,hz=>by
  simp only[sz]at hz
  exact ok_ifC (codeOf_ok hn.1 (by omega)) (codeOf_ok hn.2.1 (by omega)) (codeOf_ok hn.2.2 (by omega))
 | .let_ x p q,sl,h,b,hn,hz=>by
  simp only[sz]at hz
  cases b
  ·exact xU (codeOf_ok hn.1 (by omega)) (xU (codeOf_ok hn.2 (by omega)) (xT trivial))
  ·exact xU (codeOf_ok hn.1 (by omega)) (codeOf_ok hn.2 (by omega))
 | .fn x k p,sl,h,b,hn,hz=>by
  have hl:=outs_length (.fn x k p)
  refine ok_told fun o ho=>?_
  rcases List.mem_cons.mp ho with rfl|ho
  ·show(List.map _ _).length<=50000
   rw[List.length_map];omega
  ·exact codeOf_ok (p:=p) hn (by simp only[sz]at hz;omega) o ho
 | .rc f x k l p,sl,h,b,hn,hz=>by
  have hl:=outs_length (.rc f x k l p)
  refine ok_told fun o ho=>?_
  rcases List.mem_cons.mp ho with rfl|ho
  ·show(List.map _ _).length<=50000
   rw[List.length_map];omega
  ·exact codeOf_ok (p:=p) hn (by simp only[sz]at hz;omega) o ho
end Pt
namespace Ms
theorem new_wf{p:Pt}{R:Nat}(hn:p.Nums)(hz:p.sz<=50000)(hR:R<=1000):(new (Pt.codeOf p [] 0 true) R).Wf:=
 ⟨Nat.zero_le _,(fun v h=>by cases h),(fun t h=>by cases h),Pt.codeOf_ok hn hz,by have :=Pt.codeOf_len p [] 0 true;show(Pt.codeOf p [] 0 true).length<=_;omega,hR,Nat.zero_le _⟩
end Ms
namespace F19
open PySem
def Due.txt:Due->Str
 | .num n=>toString n
 | .tru true=>"true"
 | .tru false=>"false"
 | .deep=>"too deep"
def Fin(d:Due)(m:Ms):Prop:=match d with
 | .num n=>m.st= .done/\m.stk=[.int n]
 | .tru b=>m.st= .done/\m.stk=[.bl b]
 | .deep=>m.st= .tooDeep
theorem qMz{p:Pt}{room steps:Nat}{d:Due}(h:chk p room steps d=true)(hf:∀x,¬p.fv x)(hN:Ev.Nw 0 p):∃m',(Ms.new (Pt.codeOf p [] 0 true) room).run 60001 steps=some m'/\Fin d m':=by
 unfold chk at h
 cases he:Ev.ev 20000 20000 p [] 0 true ⟨0,0⟩with
 |none=>rw[he]at h;cases h
 |some rs=>
  obtain⟨r,s⟩:=rs
  rw[he]at h
  simp only[fits,Bool.and_eq_true,decide_eq_true_eq]at h
  obtain⟨⟨⟨h1,h2⟩,h3⟩,h4⟩:=h
  have hw:=Ev.whole (R:=room) (N:=0) he hf hN h1 (by show s.parts*3<=100000;omega)
  cases r with
  |val v=>
   obtain⟨k,a,m',k1,i1,e1,e2,rp,_,_⟩:=hw
   obtain⟨j,m1,_,hr,_,hm⟩:=Ms.run_iter (fuel:=60001) (n:=steps) i1 (by rw[e1];intro z;cases z) (by omega)
   have :=hm (by omega)
   subst this
   refine⟨_,hr,?_⟩
   cases rp with
   |num=>cases d with
    |num y=>exact⟨e1,by rw[e2,show _=y from of_decide_eq_true h4]⟩
    |_=>cases h4
   |tru=>cases d with
    |tru y=>exact⟨e1,by rw[e2,show _=y from of_decide_eq_true h4]⟩
    |_=>cases h4
   |nil=>cases d<;>cases h4
   |cell=>cases d<;>cases h4
   |pair=>cases d<;>cases h4
   |fn=>cases d<;>cases h4
   |rc=>cases d<;>cases h4
  |trap t=>
   have ht:t= .tooDeep/\d= .deep:=by cases t<;>cases d<;>first|exact⟨rfl,rfl⟩|cases h4
   obtain⟨rfl,rfl⟩:=ht
   rcases hw with z|⟨k,m',k1,i1,e1,_⟩
   ·cases z
   obtain⟨j,m1,_,hr,_,hm⟩:=Ms.run_iter (fuel:=60001) (n:=steps) i1 (by rw[e1];intro z;cases z) (by omega)
   have :=hm (by omega)
   subst this
   exact⟨_,hr,e1⟩
end F19
namespace K19
open PySem L2 PyProof Dt F19
section
variable {P:Program} {w:World} {K:Fg} {mg:Str->Option Value} {base:Heap} {f:Addr} {fd:FuncData}
def ρC(b:Pt)(κ:Kd)(n:Int)(p:Pt):Nat->Dt
 |0=>b.dt
 |1=>κ.dt
 |2=>.int n
 |4=>p.dt
 |_=>.non
theorem yP:qO ["_law_body_here","_law_kind","_law_many","_law_around","_law_part","_law_k"] ["_law_body_here","_law_kind","_law_many","_law_around"] (qU gI):=by walk_at "s"
inductive cB(K:Fg)(vs:List V)(H:Hp)(Q:VK):Prop
 |mk (v:V) (k:V) (b:Pt) (κ:Kd) (many:Int) (ar:Nat) (a_0:vs=[v,k,.int many,.int (ar:Nat)]) (a_1:ar<4) (a_2:qW K H b.dt v) (a_3:qW K H κ.dt k) (a_4:∀u H',Grow H H'->qW K H' (called b κ many ar).dt u->Q u H'):cB K vs H Q
def bW(K:Fg):Sp:=fun vs H Q x_0=>cB K vs H Q
theorem aN(F:zZ K "_law_called" "_law_called" gI .none f fd)(G:GlL mg):qS P w K mg base (CXE P w) 1 f fd ["_law_body_here","_law_kind","_law_many","_law_around"] (bW K):=by
 refine F.ok0 yP (fun vs H Q E h=>?_) (fun cdv A outer s H vs Q E hr h=>?_)
 ·obtain⟨v,k,b,κ,many,ar,rfl,_⟩:=h
  rfl
 ·obtain⟨v,k,b,κ,many,ar,rfl,ha,hv,hk,q⟩:=h
  refine⟨_,qZ (qB (i:=4) yP.nd rfl (Or.inl rfl) (@PEd.h _ _ _ (kT (dS (dT (dS (dS (dS (dS (dX (pv 1) (dX (pv 0) dn)))))) (dT (dS (dX (pv 2) dn)) dn))))))
   (qZ (yS PassesOwn.never rfl (iD (by rfl) G.range (qQ (pv 3) qJ)) (zA (i:=5) yP.nd rfl (Or.inl rfl))
    (qK (qB (i:=4) yP.nd rfl (Or.inl rfl) (@PEd.h _ _ _ (kT (dS (dT (dS (dS (dX (pv 1) (dT (dS (dS dn)) dn)))) (dX (pv 4) dn))))))))
   (qK (qM (pv 4)))),?_⟩
  walk_at "e"
  refine vC (K:=K) (ρ:=ρC b κ many (.num 0)) (vs:=[0,1,2]) _ _ _ rfl (fun i hi=>by
   simp at hi
   rcases hi with rfl|rfl|rfl
   ·exact⟨v,rfl,hv⟩
   ·exact⟨k,rfl,hk⟩
   ·exact⟨_,rfl,by show qW K H (.int many) (.int many);rw[qW]⟩) fun v4 H1 g1 h1=>?_
  walk_at "d"
  refine⟨_,rfl,_,rfl,by omega,by omega,?_⟩
  refine iF (fun i σ H2=>∃(x:V)(o5:Option V),σ=[some v,some k,some (.int many),some (.int (ar:Nat)),some x,o5]/\Grow H H2/\qW K H2 (called b κ many i).dt x) ⟨v4,_,rfl,g1,h1⟩ ?_ ?_
  ·rintro i σ H2 hi ⟨x,o5,rfl,g2,h2⟩
   walk_at "d"
   refine vC (K:=K) (ρ:=ρC b κ many (called b κ many i)) (vs:=[1,4]) _ _ _ rfl (fun j hj=>by
    simp at hj
    rcases hj with rfl|rfl
    ·exact⟨k,rfl,hk.mono g2.same⟩
    ·exact⟨x,rfl,h2⟩) fun v5 H3 g3 h3=>?_
   walk_at "d"
   exact⟨v5,_,rfl,g2.trans g3,h3⟩
  ·rintro σ H2 ⟨x,o5,rfl,g2,h2⟩
   exact⟨_,rfl,q x H2 g2 h2⟩
theorem pB:qO ["_law_part","_law_room","_law_steps","_law_machine","_law_word"] ["_law_part","_law_room","_law_steps"] (qU qU1):=by walk_at "s"
structure Tld(p:Pt)(κ:Kd)(room steps:Nat)(d:F19.Due):Prop where
 has:Pt.Has [] p κ
 deep:p.deep<70
 sz:p.sz<=50000
 nums:p.Nums
 nw:Ev.Nw 0 p
 r8:8<=room
 r4:room<=400
 chk:chk p room steps d=true
 len:d.txt.length<=1000
theorem qU4(t:Str):Txt.join (Str.ofString "") [t]=t:=by
 show Builtin.Str.glued _ _=_
 simp[Builtin.Str.glued]
inductive sM(K:Fg)(vs:List V)(H:Hp)(Q:VK):Prop
 |mk (v:V) (p:Pt) (κ:Kd) (room:Nat) (steps:Nat) (d:F19.Due) (a_0:vs=[v,.int (room:Nat),.int (steps:Nat)]) (a_1:qW K H p.dt v) (a_2:Tld p κ room steps d) (a_3:∀H',Grow H H'->Q (.str d.txt) H'):sM K vs H Q
def qU5(K:Fg):Sp:=fun vs H Q x_0=>sM K vs H Q
theorem ok_told{C CH fI fR fS:Addr}{dI dR dS:FuncData}{n:Nat}(F:zZ K "_law_told" "_law_told" qU1 .none f fd)(GC:Kn P w K mg base 215 "compiled" ["part"] (zUj K))(M:Mc K C)(mM:mg "Machine"=some (.ref C))(KM:Mk K C fI)(GI:qS P w K mg base (CXE P w) 3 fI dI ["self","code","room"] (qHq K C CH))(bI:Binds K dI ["self","code","room"] [])
  (mR:Meth K C "run" fR)(GR:qS P w K mg base (CXE P w) (n+3) fR dR ["self","steps"] (qH7 K C CH))(bR:Binds K dR ["self","steps"] [])(hn:n<=200)(mS:Meth K C "shown" fS)(GS:qS P w K mg base (CXE P w) 5 fS dS ["self"] (sU K C CH))(bS:Binds K dS ["self"] []):
  qS P w K mg base (CXE P w) 216 f fd ["_law_part","_law_room","_law_steps"] (qU5 K):=by
 refine F.ok0 pB (fun vs H Q E h=>?_) (fun cdv A outer s H vs Q E hr h=>?_)
 ·obtain⟨v,p,κ,room,steps,d,rfl,_⟩:=h
  rfl
 ·obtain⟨v,p,κ,room,steps,du,rfl,hv,T,q⟩:=h
  obtain⟨m',hrun,hfin⟩:=qMz T.chk (fun x hx=>by obtain⟨l,hl⟩:=T.has.fv x hx;cases hl) T.nw
  refine⟨_,qZ (qB (i:=3) pB.nd rfl (Or.inl rfl) (pS KM GI (hr.mono (show 4<=215 by decide)) (by rfl) mM bI .nil zS (qQ (zY GC hr (qQ (pv 0) qJ)) (qQ (pv 1) qJ))))
   (qZ (qB (i:=4) pB.nd rfl (Or.inl rfl) (wA (pv 3) M.cl mR GR (hr.mono (by omega)) bR .nil zS (qQ (pv 2) qJ)))
   (qZ (zC (qE jB (pv 4) qC (nomark _)) (qK (qM (wE (pv 3) M.cl mS GS (hr.mono (show 5<=215 by decide)) bS .nil zS))) zQ)
   (qK (qM (pv 4))))),?_⟩
  walk_at "e"
  refine⟨_,rfl,v,p,κ,rfl,hv,T.deep,T.sz,T.has,fun l ys H1 g1 nl el hco=>⟨_,rfl,fun x dx hx hdx ne=>?_⟩⟩
  have gg:Grow H1 (upd (upd H1 dx (.own x)) x (.ins C dx [])):=(Grow.put hdx).trans (Grow.put (by rw[qH ne.symm];exact hx))
  have me:(upd (upd H1 dx (.own x)) x (.ins C dx [])) x=some (.ins C dx []):=qX
  generalize upd (upd H1 dx (.own x)) x (.ins C dx [])=H2 at gg me⊢
  refine⟨H1,x,dx,l,ys,_,room,rfl,gg,hx,me,el,hco,T.r8,T.r4,fun d H3 dC dCH dm hms=>⟨rfl,?_⟩⟩
  subst dm dC dCH
  walk_at "d"
  have hwf:=Ms.new_wf (R:=room) T.nums T.sz (by have :=T.r4;omega)
  refine⟨_,rfl,d.m,d.dx,_,rfl,hms.mo,rfl,_,rfl,H1,d,_,m',60001,(steps:Nat),rfl,rfl,rfl,hms,hwf,hrun,fun a b H4 hms4 hwf4=>?_⟩
  walk_at "d"
  have g4:Grow H H4:=g1.trans hms4.g
  have two:(m'.st= .tooDeep/\du= .deep)\/∃av,m'.st= .done/\m'.stk=[av]/\(∀k,av≠ .at_ k)/\Ms.bare av=du.txt:=by
   cases du with
   |deep=>exact .inl ⟨hfin,rfl⟩
   |num z=>exact .inr ⟨.int z,hfin.1,hfin.2,(fun k h=>by cases h),rfl⟩
   |tru z=>exact .inr ⟨.bl z,hfin.1,hfin.2,(fun k h=>by cases h),by cases z<;>rfl⟩
  rcases two with⟨e,rfl⟩|⟨av,e1,e2,hk,hb⟩
  ·rw[e]
   exact⟨_,rfl,rfl,_,rfl,qFq (by decide+kernel) ⟨_,rfl,q H4 g4⟩⟩
  ·rw[e1]
   refine⟨_,rfl,rfl,_,rfl,jN ?_⟩
   refine⟨_,rfl,d.m,d.dx,_,rfl,hms4.mo,rfl,H1,d.mv a b,m',av,rfl,rfl,rfl,hms4,hwf4,e1,e2,(by cases av<;>first|rfl|exact absurd rfl (hk _)),(by rw[hb];exact T.len),fun H5 g5=>?_⟩
   rw[qU4,hb]
   exact q H5 (g4.trans g5)
theorem zO6:qO ["_law_many"] ["_law_many"] (qU zX2):=by walk_at "s"
inductive qU6(vs:List V)(H:Hp)(Q:VK):Prop
 |mk (n:Nat) (a_0:vs=[.int (n:Nat)]) (a_1:Q (.str (F19.Due.tru (decide (n=0))).txt) H):qU6 vs H Q
def qU7:Sp:=fun vs H Q x_0=>qU6 vs H Q
theorem zX4(F:zZ K "_law_odd" "_law_odd" zX2 .none f fd):qS P w K mg base (CXE P w) 1 f fd ["_law_many"] qU7:=by
 refine F.ok0 zO6 (fun vs H Q E h=>?_) (fun cdv A outer s H vs Q E hr h=>?_)
 ·obtain⟨n,rfl,_⟩:=h
  rfl
 ·obtain⟨n,rfl,q⟩:=h
  refine⟨_,qZ (zC (qE jB (pv 0) qV (nomark _)) (qK (qM qC)) zQ) (qK (qM qC)),?_⟩
  walk_at "e"
  refine⟨_,rfl,rfl,_,rfl,ite2 (fun z=>?_) (fun z=>?_)⟩
  ·have :n=0:=by
    rcases Decidable.em (n=0)with e|e
    ·exact e
    ·have :=of_decide_eq_true z
     injection this with this
     omega
   subst this
   exact q
  ·have :n≠0:=by
    rintro rfl
    exact absurd rfl z
   simp only[this,decide_false]at q
   exact q
end
end K19
set_option maxRecDepth 1000000
open PySem
namespace F19
def allB(i:Nat):Bool:=manies.all fun m=>(List.range 4).all fun a=>chk (called (body i).1 .int m a) 400 8000 (pG i m a)
def allT(i:Nat):Bool:=manies.all fun m=>(List.range 4).all fun a=>chk (called (truths i).1 .bool m a) 400 8000 (pM i m a)
def allL:Bool:=(List.range 40).all fun j=>chk (called (body (([0,2,4,6]:List Nat).getD ((60+j)%4) 0)).1 .int ((60+j:Nat):Int) 0) 8 (112*(60+j)+200) (.num 7)
theorem b0:allB 0=true:=by decide+kernel
theorem b1:allB 1=true:=by decide+kernel
theorem b2:allB 2=true:=by decide+kernel
theorem b3:allB 3=true:=by decide+kernel
theorem b4:allB 4=true:=by decide+kernel
theorem b5:allB 5=true:=by decide+kernel
theorem b6:allB 6=true:=by decide+kernel
theorem b7:allB 7=true:=by decide+kernel
theorem t0:allT 0=true:=by decide+kernel
theorem t1:allT 1=true:=by decide+kernel
theorem t2:allT 2=true:=by decide+kernel
theorem t3:allT 3=true:=by decide+kernel
theorem t4:allT 4=true:=by decide+kernel
theorem l0:allL=true:=by decide+kernel
end F19
set_option maxRecDepth 100000
namespace Pt
open PySem
def okB(N:Nat):Pt->Bool
 | .num n=>decide (-(9223372036854775808)<=n/\n<=9223372036854775807)
 | .one _ p=>okB N p
 | .two _ p q=>okB N p&&okB N q
 | .ite p q r=>okB N p&&(okB N q&&okB N r)
 | .let_ _ p q=>okB N p&&okB N q
 | .fn x k p=>decide ((outs (.fn x k p)).length<=N)&&okB N p
 | .rc f x k l p=>decide ((outs (.rc f x k l p)).length<=N)&&okB N p
 |_=>true
theorem okB_of{N:Nat}:∀{p:Pt},okB N p=true->Nums p/\Ev.Nw N p
 | .num n,h=>⟨by have :=of_decide_eq_true h;exact this,trivial⟩
 | .tru _,_=>⟨trivial,trivial⟩
 | .nam _,_=>⟨trivial,trivial⟩
 | .nil _,_=>⟨trivial,trivial⟩
 | .one _ p,h=>okB_of (p:=p) h
 | .two _ p q,h=>by
  rw[okB,Bool.and_eq_true]at h
  exact⟨⟨(okB_of h.1).1,(okB_of h.2).1⟩,⟨(okB_of h.1).2,(okB_of h.2).2⟩⟩
 | .ite p q r,h=>by
  rw[okB,Bool.and_eq_true,Bool.and_eq_true]at h
  exact⟨⟨(okB_of h.1).1,(okB_of h.2.1).1,(okB_of h.2.2).1⟩,⟨(okB_of h.1).2,(okB_of h.2.1).2,(okB_of h.2.2).2⟩⟩
 | .let_ _ p q,h=>by
  rw[okB,Bool.and_eq_true]at h
  exact⟨⟨(okB_of h.1).1,(okB_of h.2).1⟩,⟨(okB_of h.1).2,(okB_of h.2).2⟩⟩
 | .fn x k p,h=>by
  rw[okB,Bool.and_eq_true]at h
  exact⟨(okB_of h.2).1,⟨of_decide_eq_true h.1,(okB_of h.2).2⟩⟩
 | .rc f x k l p,h=>by
  rw[okB,Bool.and_eq_true]at h
  exact⟨(okB_of h.2).1,⟨of_decide_eq_true h.1,(okB_of h.2).2⟩⟩
end Pt
namespace F19
open PySem
def bchk(b:Pt)(κ:Kd):Bool:=decide (Pt.infer [("n",.int),("f",.fn .int κ)] b=some κ)&&Pt.okB 0 (.rc "f" "n" .int κ b)&&decide (b.deep<=20)&&decide (b.sz<=100)
theorem qP2:∀i<8,bchk (body i).1 .int=true:=by decide+kernel
theorem zO7:∀i<5,bchk (truths i).1 .bool=true:=by decide+kernel
theorem bF:∀i<8,allB i=true
 |0,_=>b0|1,_=>b1|2,_=>b2|3,_=>b3|4,_=>b4|5,_=>b5|6,_=>b6|7,_=>b7
theorem tF:∀i<5,allT i=true
 |0,_=>t0|1,_=>t1|2,_=>t2|3,_=>t3|4,_=>t4
theorem zM5{i m a:Nat}(hi:i<8)(hm:m∈manies)(ha:a<4):chk (called (body i).1 .int (m:Nat) a) 400 8000 (pG i m a)=true:=
 List.all_eq_true.mp (List.all_eq_true.mp (bF i hi) m hm) a (List.mem_range.mpr ha)
theorem zM6{i m a:Nat}(hi:i<5)(hm:m∈manies)(ha:a<4):chk (called (truths i).1 .bool (m:Nat) a) 400 8000 (pM i m a)=true:=
 List.all_eq_true.mp (List.all_eq_true.mp (tF i hi) m hm) a (List.mem_range.mpr ha)
theorem zM7{j:Nat}(hj:j<40):chk (called (body (([0,2,4,6]:List Nat).getD ((60+j)%4) 0)).1 .int ((60+j:Nat):Int) 0) 8 (112*(60+j)+200) (.num 7)=true:=
 List.all_eq_true.mp l0 j (List.mem_range.mpr hj)
theorem qU8(M:Nat):(30+M%21)∈manies/\(39+M%4)∈manies/\M%5∈manies:=by
 have h1:∀x<21,30+x∈manies:=by decide+kernel
 have h2:∀x<4,39+x∈manies:=by decide+kernel
 have h3:∀x<5,x∈manies:=by decide+kernel
 exact⟨h1 _ (Nat.mod_lt _ (by decide)),h2 _ (Nat.mod_lt _ (by decide)),h3 _ (Nat.mod_lt _ (by decide))⟩
theorem qMj:∀m∈manies,m<=50:=by decide+kernel
theorem iC{b:Pt}{κ:Kd}{many:Int}(h:Pt.Has [("n",.int),("f",.fn .int κ)] b κ)(hκ:κ.sz=1):∀ar,Pt.Has [] (called b κ many ar) κ
 |0=>.two (.rc h (by simp only[Kd.sz];omega)) .num (by rw[Pt.k2];simp) (by omega)
 |ar+1=>.two (.fn (.nam (by rw[List.lookup_cons,beq_self_eq_true]) (by omega)) (by simp only[Kd.sz];omega)) (iC h hκ ar) (by rw[Pt.k2];simp) (by omega)
theorem uH{b:Pt}{κ:Kd}{many:Int}:∀ar,(called b κ many ar).deep<=b.deep+10+3*ar
 |0=>by simp only[called,Pt.deep];omega
 |ar+1=>by have :=uH (b:=b) (κ:=κ) (many:=many) ar;simp only[called,Pt.deep];omega
theorem cD{b:Pt}{κ:Kd}{many:Int}:∀ar,(called b κ many ar).sz<=b.sz+10+6*ar
 |0=>by simp only[called,Pt.sz];omega
 |ar+1=>by have :=cD (b:=b) (κ:=κ) (many:=many) ar;simp only[called,Pt.sz];omega
theorem uU{b:Pt}{κ:Kd}{m:Nat}(hb:Pt.okB 0 (.rc "f" "n" .int κ b)=true)(hm:m<=100):∀ar,Pt.Nums (called b κ (m:Nat) ar)/\Ev.Nw 0 (called b κ (m:Nat) ar)
 |0=>by
  obtain⟨h1,h2⟩:=Pt.okB_of hb
  exact⟨⟨h1,by show _/\_;constructor<;>omega⟩,⟨h2,trivial⟩⟩
 |ar+1=>by
  obtain⟨h1,h2⟩:=uU hb hm ar
  refine⟨⟨trivial,h1⟩,⟨⟨?_,trivial⟩,h2⟩⟩
  have :(Pt.outs (.fn "u" .int (.nam "u"))).length<=0:=by decide+kernel
  exact this
end F19
namespace K19
open PySem L2 PyProof Dt F19
theorem tld{b:Pt}{κ:Kd}{m ar room steps:Nat}{d:F19.Due}(hb:bchk b κ=true)(hκ:κ.sz=1)(hm:m<=100)(ha:ar<4)(h8:8<=room)(h4:room<=400)(hc:chk (called b κ (m:Nat) ar) room steps d=true)(hl:d.txt.length<=1000):Tld (called b κ (m:Nat) ar) κ room steps d:=by
 simp only[bchk,Bool.and_eq_true,decide_eq_true_eq]at hb
 obtain⟨⟨⟨h1,h2⟩,h3⟩,h5⟩:=hb
 have hd:=uH (b:=b) (κ:=κ) (many:=(m:Nat)) ar
 have hz:=cD (b:=b) (κ:=κ) (many:=(m:Nat)) ar
 exact⟨iC (Pt.infer_has h1) hκ ar,by omega,by omega,(uU h2 hm ar).1,(uU h2 hm ar).2,h8,h4,hc,hl⟩
theorem gL{K:Fg}{H:Hp}{x:Pt×Bool}{u:V}(h:qW K H (form x) u):∃a v,u= .ref a/\zO K H a [v,.bl x.2]/\qW K H x.1.dt v:=by
 obtain⟨a,vs,rfl,h1,h2⟩:=kN h
 obtain⟨v,r,rfl,hv,hr⟩:=qD h2
 obtain⟨v2,r2,rfl,hv2,hr2⟩:=qD hr
 cases zD hr2
 cases mL hv2
 exact⟨a,v,rfl,h1,hv⟩
def pend(a:Nat):Nat:=if 0<a then 1 else 0
theorem bY(i m a:Nat):(pG i m a).txt=if(body i).2=false/\40<pend a+m then("too deep":Str)else"7":=by
 unfold pG
 show F19.Due.txt (if(body i).2=false/\40<pend a+m then _ else _)=_
 generalize pend a=x
 split
 ·rfl
 ·show F19.Due.txt (.num 7)=_
  decide+kernel
theorem bU(i m a:Nat):(pM i m a).txt=if(truths i).2=false/\40<pend a+m then("too deep":Str)else if i=1 then"false" else if i=2 then(F19.Due.tru (decide (m=0))).txt else"true":=by
 unfold pM
 show F19.Due.txt (if(truths i).2=false/\40<pend a+m then _ else _)=_
 generalize pend a=x
 split
 ·rfl
 ·split
  ·rfl
  ·split
   ·rfl
   ·rfl
theorem qU9(i m a:Nat):(pG i m a).txt.length<=1000:=by
 rw[bY]
 split<;>decide+kernel
theorem qUq(i m a:Nat):(pM i m a).txt.length<=1000:=by
 rw[bU]
 have h:∀b,(F19.Due.tru b).txt.length<=1000:=by decide+kernel
 split
 ·decide+kernel
 ·split
  ·decide+kernel
  ·split
   ·exact h _
   ·decide+kernel
end K19
namespace L2
open PySem PySem.Spec PyProof.Rows PyProof Dt
structure PSb(X:Cx)(ss:List Stmt)(t:TS):Prop where
 h:PSs X ss t
theorem zM8{X:Cx}{e:Expr}{d:Ds}{x:Str}{i:Nat}{p p':Pos}{r:List Stmt}{tr:TS}(hN:X.N.Nodup)(hi:X.N[i]? =some x)(hx:Loc X.env.scope x)(he:PEd X e d)(hs:swapsWith e (some (.Name x p')) p.line X.env=pure false)(hf:X.fn x=true\/X.env.scope.names.lookup x=some .local)(hr:PSb X r tr):PSb X (.Assign [.Name x p'] e p::r) (iG (cS (dsE d) (xD i)) tr):=⟨qZ (qB hN hi hx he.h hs hf) hr.h⟩
theorem unb{X:Cx}{ss:List Stmt}{R:TS->Prop}(h:∃t,PSb X ss t/\R t):∃t,PSs X ss t/\R t:=let⟨t,a,b⟩:=h;⟨t,a.h,b⟩
end L2
namespace K19
open PySem L2 PyProof Dt F19
theorem qUz{tc:TT}{c:Prop}[Decidable c]{x:Str}{j:Nat}{D:Ends}{σ:St}{H:Hp}(htc:∀Q,Q (decide c) H->tc σ H Q)(q:∀σ',σ'=(if c then σ.set j (some (.str x))else σ)->D.nx σ' H):bD tc (cS (tC (.str x)) (xD j)) gH D σ H:=by
 refine htc _ ?_
 refine ite2 (fun z=>?_) (fun z=>?_)
 ·exact q _ (by rw[if_pos (of_decide_eq_true z)])
 ·exact q _ (by rw[if_neg (fun y=>z (decide_eq_true y))])
theorem zX5{tc:TT}{c:Prop}[Decidable c]{n:Nat}{D:Ends}{σ:St}{H:Hp}(htc:∀Q,Q (decide c) H->tc σ H Q)(h4:σ[4]? =some (some (.int (n:Nat))))(q:∀σ',σ'=(if c then σ.set 9 (some (.str (F19.Due.tru (decide (n=0))).txt))else σ)->D.nx σ' H):bD tc (cS (oI qU7 [] E0 (xO (jY 4) wC)) (xD 9)) gH D σ H:=by
 refine htc _ ?_
 refine ite2 (fun z=>?_) (fun z=>?_)
 ·exact⟨_,h4,n,rfl,q _ (by rw[if_pos (of_decide_eq_true z)])⟩
 ·exact q _ (by rw[if_neg (fun y=>z (decide_eq_true y))])
theorem qN0(M:Nat):∃many∈manies,dO [V.int (30+(M:Int)%21),V.int (39+(M:Int)%4),V.int ((M:Int)%5)] ((M:Int)/64%3)=some (V.int (many:Nat)):=by
 obtain⟨h1,h2,h3⟩:=qU8 M
 have e:((M:Int)/64%3)=((M/64%3:Nat):Int):=by omega
 have hj:M/64%3<3:=Nat.mod_lt _ (by decide)
 rw[e]
 generalize M/64%3=j at hj
 match j,hj with
 |0,_=>exact⟨_,h1,by rw[qY (j:=0) rfl];congr 2⟩
 |1,_=>exact⟨_,h2,by rw[qY (j:=1) rfl];congr 2⟩
 |2,_=>exact⟨_,h3,by rw[qY (j:=2) rfl];congr 2⟩
theorem bO{σ:St}{H:Hp}{b:Bool}{x m:Nat}{Q:Bool->Hp->Prop}(h8:σ[8]? =some (some (.bl b)))(h6:σ[6]? =some (some (.int (x:Nat))))(h4:σ[4]? =some (some (.int (m:Nat))))(q:Q (decide (b=false/\40<x+m)) H):qO4 (qO5 (tB (jY 8))) (gR (bC (sT fun i j=>V.bl (decide (j<i))) (bC (sT fun i j=>V.int (i+j)) (jY 6) (jY 4)) (tC (V.int 40)))) σ H Q:=by
 refine⟨_,h8,b,rfl,?_⟩
 cases b with
 |true=>
  refine jO ?_
  have e:decide (true=false/\40<x+m)=false:=by simp
  rw[e]at q
  exact q
 |false=>
  refine jN ?_
  have e:decide (false=false/\40<x+m)=decide ((40:Int)<(x:Int)+(m:Int)):=by
   congr 1
   simp only[true_and]
   exact propext ⟨fun h=>by omega,fun h=>by omega⟩
  rw[e]at q
  exact⟨_,h6,_,h4,_,_,rfl,rfl,_,_,rfl,rfl,_,rfl,q⟩
section
variable {P:Program} {w:World} {K:Fg} {mg:Str->Option Value} {base:Heap} {f:Addr} {fd:FuncData}
inductive qUj(K:Fg)(vs:List V)(H:Hp)(Q:VK):Prop
 |mk (a:Addr) (ns:List Int) (a_0:vs=[.ref a]) (a_1:zH K H a (ns.map V.int)) (a_2:ns.length<=63) (a_3:∀H',Q (.bl true) H'):qUj K vs H Q
def sN(K:Fg):Sp:=fun vs H Q x_0=>qUj K vs H Q
abbrev zM9:List Str:=["_law_body_here","_law_kind","_law_many","_law_around"]
abbrev zMq:List Str:=["_law_part","_law_room","_law_steps"]
theorem xA:qO ["_law_script","_law_again","_law_k","_law_more","_law_many","_law_around","_law_pending","_law_body_here","_law_last","_law_due"] ["_law_script"] (qU zX3):=by walk_at "s"
theorem zX6(F:zZ K "law" "law" zX3 .none f fd)(G:GlL mg)(GC:Kn P w K mg base 1 "_law_cell" ["_law_script","_law_k"] (qU2 K))(GD:Kn P w K mg base 1 "_law_drawn" ["_law_cell_here","_law_k"] sL)
  (GB:Kn P w K mg base 1 "_law_body" ["_law_more","_law_again"] (gC K 8 body))(GT:Kn P w K mg base 1 "_law_truths" ["_law_more","_law_again"] (gC K 5 truths))(GE:Kn P w K mg base 1 "_law_called" zM9 (bW K))(GU:Kn P w K mg base 216 "_law_told" zMq (qU5 K))(GO:Kn P w K mg base 1 "_law_odd" ["_law_many"] qU7):
  qS P w K mg base (CXE P w) 217 f fd ["_law_script"] (sN K):=by
 refine F.ok0 xA (fun vs H Q E h=>?_) (fun cdv A outer s H vs Q E hr h=>?_)
 ·obtain⟨a,ns,rfl,_⟩:=h
  rfl
 ·obtain⟨a,ns,rfl,hS,hn,q⟩:=h
  have h1:=hr.mono (show 1<=216 by decide)
  refine unb ⟨_,(zM8 (i:=1) xA.nd rfl (Or.inl rfl) (kT (dS (dT (dS (dS dn)) (dT (dS (dT (dS (dS dn)) (dT (dS (dI dn)) dn))) dn)))) rfl (Or.inl rfl) (PSb.mk
   (qZ (yS PassesOwn.never rfl (iD (by rfl) G.range (qQ (zI (sA rfl) (by rfl) G.max PyProof.Rows.boot_max (qQ qV (qQ (zI (tQ rfl) (by rfl) G.min PyProof.Rows.boot_min (qQ qV (qQ (zI zG (by rfl) G.len aq16 (qQ (pv 0) qJ)) qJ))) qJ))) qJ))
    (zA (i:=2) xA.nd rfl (Or.inl rfl))
    (qZ (qB (i:=3) xA.nd rfl (Or.inl rfl) (zY GD h1 (qQ (zY GC h1 (qQ (pv 0) (qQ (pv 2) qJ))) (qQ (pv 2) qJ))))
    (qZ (qB (i:=4) xA.nd rfl (Or.inl rfl) (qL zJ (jX (qQ (zX xF qV (zX xY (pv 3) qV)) (qQ (zX xF qV (zX xY (pv 3) qV)) (qQ (zX xY (pv 3) qV) qJ)))) (zX xY (zX vX (pv 3) qV) qV) (fun _ _=>rfl)))
    (qZ (qB (i:=5) xA.nd rfl (Or.inl rfl) (zX xY (zX vX (pv 3) qV) qV))
    (qZ (qB (i:=6) xA.nd rfl (Or.inl rfl) (xW iR (by rfl) G.int PyProof.Rows.boot_int (qQ (jZ iP (pv 5) qV (nomark _)) qJ)))
    (qZ (bP (zY GB h1 (qQ (zX vX (pv 3) qV) (qQ (pv 1) qJ))) (wO rfl (jL (zA (i:=7) xA.nd rfl (Or.inl rfl)) (jL (zA (i:=8) xA.nd rfl (Or.inl rfl)) vJ))))
    (qZ (qB (i:=9) xA.nd rfl (Or.inl rfl) qC)
    (qZ (zC (cR (wU (jE (pv 8))) (uS (qE iP (zX xF (pv 6) (pv 4)) qV (nomark _)))).pt (qK (qB (i:=9) xA.nd rfl (Or.inl rfl) qC)) zQ)
    (qZ (zC (qE eJ (zY GU hr (qQ (zY GE h1 (qQ (pv 7) (qQ qC (qQ (pv 4) (qQ (pv 5) qJ))))) (qQ qV (qQ qV qJ)))) (pv 9) (nomark _)) (qK (qM vM)) zQ)
    (qZ (bP (zY GT h1 (qQ (zX vX (pv 3) qV) (qQ (pv 1) qJ))) (wO rfl (jL (zA (i:=7) xA.nd rfl (Or.inl rfl)) (jL (zA (i:=8) xA.nd rfl (Or.inl rfl)) vJ))))
    (qZ (qB (i:=9) xA.nd rfl (Or.inl rfl) (qL zJ (jX (qQ qC (qQ qC qJ))) (xW iR (by rfl) G.int PyProof.Rows.boot_int (qQ (jZ jB (zX xY (zX vX (pv 3) qV) qV) qV (nomark _)) qJ)) (fun _ _=>rfl)))
    (qZ (zC (qE jB (zX xY (zX vX (pv 3) qV) qV) qV (nomark _)) (qK (qB (i:=9) xA.nd rfl (Or.inl rfl) (zY GO h1 (qQ (pv 4) qJ)))) zQ)
    (qZ (zC (cR (wU (jE (pv 8))) (uS (qE iP (zX xF (pv 6) (pv 4)) qV (nomark _)))).pt (qK (qB (i:=9) xA.nd rfl (Or.inl rfl) qC)) zQ)
    (qK (zC (qE eJ (zY GU hr (qQ (zY GE h1 (qQ (pv 7) (qQ qC (qQ (pv 4) (qQ (pv 5) qJ))))) (qQ qV (qQ qV qJ)))) (pv 9) (nomark _)) (qK (qM vM)) zQ)))))))))))))))
   (qZ (qB (i:=4) xA.nd rfl (Or.inl rfl) (zX xF qV (zX xY (zY GD h1 (qQ (zY GC h1 (qQ (pv 0) (qQ qV qJ))) (qQ qV qJ))) qV)))
   (qZ (bP (zY GB h1 (qQ (qL zJ (jX (qQ qV (qQ qV (qQ qV (qQ qV qJ))))) (zX xY (pv 4) qV) (fun _ _=>rfl)) (qQ (pv 1) qJ))) (wO rfl (jL (zA (i:=7) xA.nd rfl (Or.inl rfl)) (jL (zA (i:=8) xA.nd rfl (Or.inl rfl)) vJ))))
   (qK (qM (jZ jB (zY GU hr (qQ (zY GE h1 (qQ (pv 7) (qQ qC (qQ (pv 4) (qQ qV qJ))))) (qQ qV (qQ (zX xF (zX yT qV (pv 4)) qV) qJ)))) qC (nomark _))))))))),?_⟩
  refine vC (K:=K) (ρ:=fun _=>.non) (vs:=[]) _ _ _ rfl (fun i hi=>by simp at hi) fun vA H1 g1 hA=>?_
  walk_at "d"
  have hA:qW K H1 again.dt vA:=hA
  have hS1:=g1.same.seq hS
  obtain⟨J,hJ,hJ2⟩:∃J:Int,(if(if(((ns.map V.int).length:Nat):Int)<2 then(((ns.map V.int).length:Nat):Int)else 2)>1 then(if(((ns.map V.int).length:Nat):Int)<2 then(((ns.map V.int).length:Nat):Int)else 2)else 1)=J/\(-(2^62)<=J/\J<2^62):=by
   refine⟨_,rfl,?_⟩
   split<;>split<;>omega
  refine⟨_,rfl,a,_,rfl,.inl hS1,_,_,rfl,_,_,rfl,_,rfl,?_,?_,?_⟩
  ·rw[hJ];exact hJ2.1
  ·rw[hJ];exact hJ2.2
  refine iF (fun _ σ H2=>∃o2 o3 o4 o5 o6 o7 o8 o9,σ=[some (.ref a),some vA,o2,o3,o4,o5,o6,o7,o8,o9]/\Grow H1 H2) ⟨_,_,_,_,_,_,_,_,rfl,Grow.refl H1⟩ ?_ ?_
  ·rintro i σ H2 hi ⟨o2,o3,o4,o5,o6,o7,o8,o9,rfl,g2⟩
   walk_at "d"
   generalize (0:Int)+(i:Int)=k
   refine⟨_,rfl,_,rfl,a,ns,k,rfl,g2.same.seq hS1,hn,fun c1 H3 g3=>⟨_,rfl,c1,_,rfl,fun m hm=>?_⟩⟩
   obtain⟨M,rfl⟩:∃M:Nat,m=(M:Int):=⟨m.toNat,by omega⟩
   have G3:=g2.trans g3
   walk_at "d"
   refine⟨_,rfl,_,_,rfl,rfl,(by show(0:Int)<_;decide),_,_,rfl,rfl,_,rfl,_,_,rfl,rfl,(by show(0:Int)<_;decide),_,_,rfl,rfl,_,rfl,_,_,rfl,rfl,(by show(0:Int)<_;decide),(by show 3<=sizeLine;decide),fun l hl=>?_⟩
   obtain⟨many,hmany,hat⟩:=qN0 M
   have hm50:=qMj many hmany
   refine⟨_,rfl,_,_,rfl,rfl,(by show(0:Int)<64/\(64:Int)<1073741824;decide),_,_,rfl,rfl,(by show(0:Int)<_;decide),l,_,_,_,rfl,rfl,zH.of qX,hat,?_⟩
   walk_at "d"
   have g4:Grow H3 (upd H3 l (.lst [V.int (30+(M:Int)%21),V.int (39+(M:Int)%4),V.int ((M:Int)%5)])):=Grow.put hl
   show iG _ _ _ _ (upd H3 l (.lst [V.int (30+(M:Int)%21),V.int (39+(M:Int)%4),V.int ((M:Int)%5)]))
   generalize upd H3 l (.lst [V.int (30+(M:Int)%21),V.int (39+(M:Int)%4),V.int ((M:Int)%5)])=H4 at g4⊢
   have G4:=G3.trans g4
   refine⟨_,rfl,_,_,rfl,rfl,(by show(0:Int)<256/\(256:Int)<1073741824;decide),_,_,rfl,rfl,(by show(0:Int)<_;decide),?_⟩
   walk_at "d"
   rw[show((M:Int)/256%4)=((M/256%4:Nat):Int) by omega]
   have har:M/256%4<4:=Nat.mod_lt _ (by decide)
   generalize M/256%4=ar at har⊢
   refine⟨_,rfl,_,_,rfl,rfl,.inr ⟨_,rfl,?_⟩⟩
   walk_at "d"
   rw[show(if decide ((0:Int)<(ar:Nat))=true then(1:Int)else 0)=((pend ar:Nat):Int) by unfold pend;simp only[decide_eq_true_eq];split<;>split<;>omega]
   refine⟨_,rfl,_,_,rfl,rfl,(by show(0:Int)<1024/\(1024:Int)<1073741824;decide),_,rfl,M/1024,vA,?_,hA.mono G4.same,fun u H5 g5 hu=>?_⟩
   ·show[V.int ((M:Int)/1024),vA]=_
    rw[show((M:Int)/1024)=((M/1024:Nat):Int) by omega]
   have hi8:M/1024%8<8:=Nat.mod_lt _ (by decide)
   generalize M/1024%8=ib at hi8 hu
   obtain⟨ad,bv,rfl,hq,hbv⟩:=gL hu
   have G5:=G4.trans g5
   refine⟨ad,_,rfl,hq,rfl,_,_,rfl,_,_,rfl,rfl,?_⟩
   walk_at "d"
   show bD (qO4 (qO5 (tB (jY 8))) (gR (bC (sT fun i j=>V.bl (decide (j<i))) (bC (sT fun i j=>V.int (i+j)) (jY 6) (jY 4)) (tC (V.int 40))))) (cS (tC (V.str "too deep")) (xD 9)) gH _ [some (.ref a),some vA,some (.int k),some (.int (M:Nat)),some (.int (many:Nat)),some (.int (ar:Nat)),some (.int (pend ar:Nat)),some bv,some (.bl (body ib).2),some (.str "7")] H5
   refine qUz (c:=(body ib).2=false/\40<pend ar+many) (fun R r=>bO rfl rfl rfl r) fun σ' hσ=>?_
   have hσ:σ'=[some (.ref a),some vA,some (.int k),some (.int (M:Nat)),some (.int (many:Nat)),some (.int (ar:Nat)),some (.int (pend ar:Nat)),some bv,some (.bl (body ib).2),some (.str (pG ib many ar).txt)]:=by
    rw[hσ,bY]
    split<;>rfl
   subst hσ
   refine⟨_,rfl,_,rfl,_,rfl,bv,.str "int",(body ib).1,.int,many,ar,rfl,har,hbv,(by show qW K H5 (.str "int") _;rw[qW]),fun u6 H6 g6 h6=>?_⟩
   refine⟨u6,_,.int,400,8000,pG ib many ar,rfl,h6,tld (qP2 ib hi8) rfl (by omega) har (by decide) (by decide) (zM5 hi8 hmany har) (qU9 _ _ _),fun H7 g7=>?_⟩
   refine⟨_,rfl,rfl,_,rfl,qB1 rfl ?_⟩
   have G7:=(G5.trans g6).trans g7
   refine⟨_,rfl,_,_,rfl,rfl,(by show(0:Int)<8192/\(8192:Int)<1073741824;decide),_,rfl,M/8192,vA,?_,hA.mono G7.same,fun u8 H8 g8 hu8=>?_⟩
   ·show[V.int ((M:Int)/8192),vA]=_
    rw[show((M:Int)/8192)=((M/8192:Nat):Int) by omega]
   have hi5:M/8192%5<5:=Nat.mod_lt _ (by decide)
   have e5:((M:Int)/8192%5)=((M/8192%5:Nat):Int):=by omega
   generalize M/8192%5=it at hi5 hu8 e5
   obtain⟨ad8,bv8,rfl,hq8,hbv8⟩:=gL hu8
   have G8:=G7.trans g8
   refine⟨ad8,_,rfl,hq8,rfl,_,_,rfl,_,_,rfl,rfl,?_⟩
   walk_at "d"
   refine⟨(by show 2<=sizeLine;decide),fun l9 hl9=>?_⟩
   have g9:Grow H8 (upd H8 l9 (.lst [V.str "true",V.str "false"])):=Grow.put hl9
   have el9:(upd H8 l9 (.lst [V.str "true",V.str "false"])) l9=some (.lst [V.str "true",V.str "false"]):=qX
   generalize upd H8 l9 (.lst [V.str "true",V.str "false"])=H9 at g9 el9⊢
   have G9:=G8.trans g9
   refine⟨_,rfl,_,_,rfl,rfl,(by show(0:Int)<8192/\(8192:Int)<1073741824;decide),_,_,rfl,rfl,(by show(0:Int)<_;decide),rfl,.inr ⟨_,rfl,l9,_,_,.str (if it=1 then"false" else"true"),rfl,rfl,zH.of el9,?_,?_⟩⟩
   ·show dO _ (if decide (V.int ((M:Int)/8192%5)=V.int 1)=true then 1 else 0)=_
    rw[e5]
    by_cases z:it=1
    ·subst z;rfl
    ·rw[if_neg z,if_neg (fun y=>z (by have :=of_decide_eq_true y;injection this with this;omega))]
     rfl
   walk_at "d"
   have eqT:∀(j:Int)(j':Nat),j=(j':Nat)->decide (V.int ((M:Int)/8192%5)=V.int j)=decide (it=j'):=by
    intro j j' ej
    rw[e5,ej]
    congr 1
    exact propext ⟨fun h=>by injection h with h;omega,fun h=>by rw[h]⟩
   refine zX5 (c:=it=2) (n:=many) (fun R r=>?_) rfl fun σ' hσ=>?_
   ·refine⟨_,rfl,_,_,rfl,rfl,(by show(0:Int)<8192/\(8192:Int)<1073741824;decide),_,_,rfl,rfl,(by show(0:Int)<_;decide),rfl,_,rfl,?_⟩
    have :=eqT 2 2 rfl
    show R (decide (V.int ((M:Int)/8192%5)=V.int 2)) H9
    rw[this]
    exact r
   have hσ:σ'=[some (.ref a),some vA,some (.int k),some (.int (M:Nat)),some (.int (many:Nat)),some (.int (ar:Nat)),some (.int (pend ar:Nat)),some bv8,some (.bl (truths it).2),some (.str (if it=1 then"false" else if it=2 then(F19.Due.tru (decide (many=0))).txt else"true"))]:=by
    rw[hσ]
    by_cases z:it=2
    ·subst z;rfl
    ·rw[if_neg z,if_neg z]
   subst hσ
   show bD (qO4 (qO5 (tB (jY 8))) (gR (bC (sT fun i j=>V.bl (decide (j<i))) (bC (sT fun i j=>V.int (i+j)) (jY 6) (jY 4)) (tC (V.int 40))))) (cS (tC (V.str "too deep")) (xD 9)) gH _ _ H9
   refine qUz (c:=(truths it).2=false/\40<pend ar+many) (fun R r=>bO rfl rfl rfl r) fun σ' hσ=>?_
   have hσ:σ'=[some (.ref a),some vA,some (.int k),some (.int (M:Nat)),some (.int (many:Nat)),some (.int (ar:Nat)),some (.int (pend ar:Nat)),some bv8,some (.bl (truths it).2),some (.str (pM it many ar).txt)]:=by
    rw[hσ,bU]
    split<;>rfl
   subst hσ
   refine⟨_,rfl,_,rfl,_,rfl,bv8,.str "bool",(truths it).1,.bool,many,ar,rfl,har,hbv8.mono g9.same,(by show qW K H9 (.str "bool") _;rw[qW]),fun u6 H10 g10 h6=>?_⟩
   refine⟨u6,_,.bool,400,8000,pM it many ar,rfl,h6,tld (zO7 it hi5) rfl (by omega) har (by decide) (by decide) (zM6 hi5 hmany har) (qUq _ _ _),fun H11 g11=>?_⟩
   refine⟨_,rfl,rfl,_,rfl,qB1 rfl ?_⟩
   exact⟨_,_,_,_,_,_,_,_,rfl,(G9.trans g10).trans g11⟩
  ·rintro σ H2 ⟨o2,o3,o4,o5,o6,o7,o8,o9,rfl,g2⟩
   refine⟨_,rfl,a,ns,0,rfl,g2.same.seq hS1,hn,fun c1 H3 g3=>⟨c1,70,rfl,fun m hm=>⟨_,_,rfl,rfl,(by show(0:Int)<_;decide),_,_,rfl,rfl,?_⟩⟩⟩
   obtain⟨j,hj,hj4⟩:∃j:Nat,(60:Int)+m%40=((60+j:Nat):Int)/\j<40:=⟨(m%40).toNat,by omega,by omega⟩
   walk_at "d"
   rw[hj]
   have G3:=g2.trans g3
   refine⟨(by show 4<=sizeLine;decide),fun l hl=>?_⟩
   have g4:Grow H3 (upd H3 l (.lst [V.int 0,V.int 2,V.int 4,V.int 6])):=Grow.put hl
   have el:(upd H3 l (.lst [V.int 0,V.int 2,V.int 4,V.int 6])) l=some (.lst [V.int 0,V.int 2,V.int 4,V.int 6]):=qX
   generalize upd H3 l (.lst [V.int 0,V.int 2,V.int 4,V.int 6])=H4 at g4 el⊢
   have G4:=G3.trans g4
   have e4:(((60+j:Nat):Int)%4)=(((60+j)%4:Nat):Int):=by omega
   have h4:(60+j)%4<4:=Nat.mod_lt _ (by decide)
   have hc:=zM7 hj4
   obtain⟨ib,hib,hib8,hat⟩:∃ib:Nat,([0,2,4,6]:List Nat).getD ((60+j)%4) 0=ib/\ib<8/\dO [V.int 0,V.int 2,V.int 4,V.int 6] (((60+j)%4:Nat):Int)=some (V.int (ib:Nat)):=by
    generalize (60+j)%4=r at h4
    match r,h4 with
    |0,_=>exact⟨0,rfl,by decide,qY (j:=0) rfl⟩
    |1,_=>exact⟨2,rfl,by decide,qY (j:=1) rfl⟩
    |2,_=>exact⟨4,rfl,by decide,qY (j:=2) rfl⟩
    |3,_=>exact⟨6,rfl,by decide,qY (j:=3) rfl⟩
   rw[hib]at hc
   refine⟨_,rfl,_,_,rfl,rfl,(by show(0:Int)<_;decide),l,_,_,V.int (ib:Nat),rfl,rfl,zH.of el,?_,_,rfl,ib,vA,rfl,hA.mono G4.same,fun u H5 g5 hu=>?_⟩
   ·show dO _ (((60+j:Nat):Int)%4)=_
    rw[e4];exact hat
   rw[Nat.mod_eq_of_lt hib8]at hu
   obtain⟨ad,bv,rfl,hq,hbv⟩:=gL hu
   refine⟨ad,_,rfl,hq,rfl,_,_,rfl,_,_,rfl,rfl,?_⟩
   walk_at "d"
   refine⟨_,rfl,_,rfl,bv,.str "int",(body ib).1,.int,((60+j:Nat):Int),0,rfl,(by decide),hbv,(by show qW K H5 (.str "int") _;rw[qW]),fun u6 H6 g6 h6=>?_⟩
   refine⟨_,rfl,_,_,rfl,rfl,.inl ⟨by decide,by decide⟩,_,_,rfl,rfl,?_⟩
   refine⟨u6,_,.int,8,112*(60+j)+200,.num 7,?_,h6,tld (qP2 ib hib8) rfl (by omega) (by decide) (by decide) (by decide) hc (by decide+kernel),fun H7 g7=>?_⟩
   ·show[u6,V.int 8,V.int (112*((60+j:Nat):Int)+200)]=_
    rw[show(112*((60+j:Nat):Int)+200)=((112*(60+j)+200:Nat):Int) by omega]
    rfl
   refine⟨rfl,?_⟩
   have e7:decide (V.str (F19.Due.txt (.num 7))=V.str "7")=true:=by decide+kernel
   show Q (.bl (decide (V.str (F19.Due.txt (.num 7))=V.str "7"))) H7
   rw[e7]
   exact q H7
end
end K19
set_option maxHeartbeats 8000000
namespace K19
open PySem L2 PyProof
abbrev ksS:List Str:=(["plus","minus","times","over","rest","less","same"]:List Str)
abbrev zX7:List Str:=(["nil","cons","head","tail","empty","pair","first","second","if","let","fn","rec","call","plus","minus","times","over","rest","less","same","and","or","not"]:List Str)
abbrev ksO:List Str:=(["put","nil","get","cons","head","tail","empty","pair","first","second","plus","minus","times","over","rest","less","same","not","fn","rec","call","last call","tell","unless","skip","slide"]:List Str)
abbrev zMz:List Str:=(["let","fn","rec"]:List Str)
abbrev zO8:List Str:=(["cons","head","tail","empty","first","second","if","call"]:List Str)
abbrev zMj:List Str:=(["num","truth","plus","minus","times","over","rest","less","same","and","or","not"]:List Str)
abbrev zN0:List Str:=(["call","if","and","or","let"]:List Str)
theorem us1{us:List Value}(h:(us++([]:List Value)).length=1):∃a,us=[a]:=by
 rw[List.append_nil]at h
 exact match us,h with |[a],_=>⟨a,rfl⟩
theorem us2{us:List Value}(h:(us++([]:List Value)).length=2):∃a b,us=[a,b]:=by
 rw[List.append_nil]at h
 exact match us,h with |[a,b],_=>⟨a,b,rfl⟩
theorem us3{us:List Value}(h:(us++([]:List Value)).length=3):∃a b c,us=[a,b,c]:=by
 rw[List.append_nil]at h
 exact match us,h with |[a,b,c],_=>⟨a,b,c,rfl⟩
theorem us4{us:List Value}(h:(us++([]:List Value)).length=4):∃a b c d,us=[a,b,c,d]:=by
 rw[List.append_nil]at h
 exact match us,h with |[a,b,c,d],_=>⟨a,b,c,d,rfl⟩
def Nf(K:Fg)(x:Str)(st:Stmt)(f:Addr)(fd:FuncData):Prop:=PySem.W.nsIn K mainGlobals x=some (some (.ref f))/\∃o cd,K.lookup f=some o/\qC3 o x x st .none cd fd/\PySem.W.codeIn K cd x=true/\PySem.W.keepIn K (.ref f)=true
def Mf(K:Fg)(C:Addr)(x q:Str)(st:Stmt)(f:Addr)(fd:FuncData):Prop:=PySem.W.findIn K (.ref C) x=some (some (.ref f))/\PySem.W.isFn K (.ref f)=true/\∃o cd,K.lookup f=some o/\qC3 o x q st .none cd fd/\PySem.W.codeIn K cd q=true/\PySem.W.keepIn K (.ref f)=true
structure Me(K:Fg)(C:Addr)(x q:Str)(st:Stmt)(ps:List Str)(f:Addr)(fd:FuncData):Prop where
 fn:zZ K x q st .none f fd
 mt:Meth K C x f
 bi:Binds K fd ps []
theorem Nf.df{K:Fg}{h:Heap}{mg:Str->Option Value}{x:Str}{st:Stmt}{f:Addr}{fd:FuncData}(n:Nf K x st f fd)(X:K.In h)(G:h.Ns mainGlobals mg)(ps:List Str)(b:zZ K x x st .none f fd->Binds K fd ps []):Df K mg x st ps f fd:=by
 obtain⟨a,o,cd,h1,h2,h3,h4⟩:=n
 exact⟨h2.d h1 h3 h4,PySem.W.mg_of X G a,b (h2.d h1 h3 h4)⟩
theorem Mf.me{K:Fg}{C:Addr}{x q:Str}{st:Stmt}{f:Addr}{fd:FuncData}(n:Mf K C x q st f fd)(ps:List Str)(b:zZ K x q st .none f fd->Binds K fd ps []):Me K C x q st ps f fd:=by
 obtain⟨a,i,o,cd,h1,h2,h3,h4⟩:=n
 exact⟨h2.d h1 h3 h4,⟨a,i,h4⟩,b (h2.d h1 h3 h4)⟩
theorem zX8(K:Fg):PySem.W.kitOne K (.type "int") (.type "tuple")=some false:=by
 unfold PySem.W.kitOne
 rw[if_neg (by decide)]
 show(if PySem.W.kitMeta "tuple"=true then(fastBuiltinMro "int").map (·.contains (Value.type "tuple"))else none)=some false
 decide+kernel
theorem zX9(K:Fg):PySem.W.kitOne K (.type "bool") (.type "tuple")=some false:=by
 unfold PySem.W.kitOne
 rw[if_neg (by decide)]
 show(if PySem.W.kitMeta "tuple"=true then(fastBuiltinMro "bool").map (·.contains (Value.type "tuple"))else none)=some false
 decide+kernel
theorem zXq(K:Fg):PySem.W.kitOne K (.type "NoneType") (.type "tuple")=some false:=by
 unfold PySem.W.kitOne
 rw[if_neg (by decide)]
 show(if PySem.W.kitMeta "tuple"=true then(fastBuiltinMro "NoneType").map (·.contains (Value.type "tuple"))else none)=some false
 decide+kernel
theorem zXz(K:Fg):PySem.W.kitOne K (.type "int") (.type "bool")=some false:=by
 unfold PySem.W.kitOne
 rw[if_neg (by decide)]
 show(if PySem.W.kitMeta "bool"=true then(fastBuiltinMro "int").map (·.contains (Value.type "bool"))else none)=some false
 decide+kernel
theorem zXj(K:Fg):PySem.W.kitOne K (.type "bool") (.type "bool")=some true:=by
 unfold PySem.W.kitOne
 rw[if_pos (by decide)]
theorem zO9:∀x∈FX.map (·.1),wL x zO8=none:=by decide+kernel
theorem all_mk{l:PySem.W.OpenLaw}{w:World}{K:Fg}{h:Heap}{mg:Str->Option Value}{fa MA HP fVb fWn fLu fNb fOn fKo fRq fRw fCn fHk fTk fEk fFk fSk fIk fCk fLk fNk fXk fPk fFt fCm fOp fCc fAi fIc fLc fFc fVc fCo fBr fPl fMi fTi fOv fRe fLe fSa fNo fSo fRf fIr fSt fOr fPu fPn fPs fIs fRk fTt fAe fT1 fT2 fTh fRm fMc fMp fM2 fMf fCa fLa fEn fTe fCu fUn fPo fSl fVt fPi fBa fHi fHf fHm fHb fMa fRu fSh fCe fDr fBd fTr fCd fTo fOd fLw TS pPS0 pPS1 pPS2 pPS3 pPS4 pPS5 pPS6 pPS7 pPS8 pPS9 pPS10 pPS11 pPS12 pPS13 pPS14 pPS15 pPS16 pPS17 pPS18 pPS19 pPS20 pPS21 pPS22 TPS TO TBR TKR pFK0 pFK1 pFK2 pFK3 pFK4 pFK5 pFK6 pFK7 pFK8 pFK9 pFK10 pFK11 TFK TPC TE:Addr}{fdVb fdWn fdLu fdNb fdOn fdKo fdRq fdRw fdCn fdHk fdTk fdEk fdFk fdSk fdIk fdCk fdLk fdNk fdXk fdPk fdFt fdCm fdOp fdCc fdAi fdIc fdLc fdFc fdVc fdCo fdBr fdPl fdMi fdTi fdOv fdRe fdLe fdSa fdNo fdSo fdRf fdIr fdSt fdOr fdPu fdPn fdPs fdIs fdRk fdTt fdAe fdT1 fdT2 fdTh fdRm fdMc fdMp fdM2 fdMf fdCa fdLa fdEn fdTe fdCu fdUn fdPo fdSl fdVt fdPi fdBa fdHi fdHf fdHm fdHb fdMa fdRu fdSh fdCe fdDr fdBd fdTr fdCd fdTo fdOd fdLw:FuncData}{tk0 tk1 tk2 tk3 tk4 tk5:Tok}{OS OPS opPS0 opPS1 opPS2 opPS3 opPS4 opPS5 opPS6 opPS7 opPS8 opPS9 opPS10 opPS11 opPS12 opPS13 opPS14 opPS15 opPS16 opPS17 opPS18 opPS19 opPS20 opPS21 opPS22 OO OBR OKR OFK opFK0 opFK1 opFK2 opFK3 opFK4 opFK5 opFK6 opFK7 opFK8 opFK9 opFK10 opFK11 OPC oTE:Obj}(X:K.In h)(G:h.Ns mainGlobals mg)(hfa:mg "law"=some (.ref fa))
  (aMA:PySem.W.nsIn K mainGlobals "Machine"=some (some (.ref MA)))
  (pgMA:PySem.W.plainGet K MA Str.empty=true)
  (hdMA:PySem.W.hasDictIn K MA=true)
  (poMA:PySem.W.plainOver K MA=true)
  (saMA:PySem.W.findIn K (.ref MA) "__setattr__"=some (some (.builtin "object.__setattr__")))
  (mkMA:PySem.W.makesIn K MA=true)
  (kpMA:PySem.W.keepIn K (.ref MA)=true)
  (nMA_code:PySem.W.findIn K (.ref MA) "code"=some none)
  (nMA_heap:PySem.W.findIn K (.ref MA) "heap"=some none)
  (nMA_stack:PySem.W.findIn K (.ref MA) "stack"=some none)
  (nMA_base:PySem.W.findIn K (.ref MA) "base"=some none)
  (nMA_place:PySem.W.findIn K (.ref MA) "place"=some none)
  (nMA_pending:PySem.W.findIn K (.ref MA) "pending"=some none)
  (nMA_standing:PySem.W.findIn K (.ref MA) "standing"=some none)
  (aHP:PySem.W.nsIn K mainGlobals "Heap"=some (some (.ref HP)))
  (pgHP:PySem.W.plainGet K HP Str.empty=true)
  (hdHP:PySem.W.hasDictIn K HP=true)
  (poHP:PySem.W.plainOver K HP=true)
  (saHP:PySem.W.findIn K (.ref HP) "__setattr__"=some (some (.builtin "object.__setattr__")))
  (mkHP:PySem.W.makesIn K HP=true)
  (kpHP:PySem.W.keepIn K (.ref HP)=true)
  (nHP_room:PySem.W.findIn K (.ref HP) "room"=some none)
  (nHP_things:PySem.W.findIn K (.ref HP) "things"=some none)
  (nHP_made_so_far:PySem.W.findIn K (.ref HP) "made_so_far"=some none)
  (hVb:Nf K "values_behind" sVB fVb fdVb)
  (hWn:Nf K "with_name" sWN fWn fdWn)
  (hLu:Nf K "looked_up" sLU fLu fdLu)
  (hNb:Nf K "names_bound" sNB fNb fdNb)
  (hOn:Nf K "outside_names" sON fOn fdOn)
  (hKo:Nf K "kind_of" sKO fKo fdKo)
  (hRq:Nf K "require" qSj fRq fdRq)
  (hRw:Nf K "require_word" sRW fRw fdRw)
  (hCn:Nf K "cons_kind" qB7 fCn fdCn)
  (hHk:Nf K "head_kind" qB8 fHk fdHk)
  (hTk:Nf K "tail_kind" qB9 fTk fdTk)
  (hEk:Nf K "empty_kind" qZ0 fEk fdEk)
  (hFk:Nf K "first_kind" qZ1 fFk fdFk)
  (hSk:Nf K "second_kind" rO fSk fdSk)
  (hIk:Nf K "if_kind" sIf fIk fdIk)
  (hCk:Nf K "call_kind" qBq fCk fdCk)
  (hLk:Nf K "let_kind" rG fLk fdLk)
  (hNk:Nf K "fn_kind" qC8 fNk fdNk)
  (hXk:Nf K "rec_kind" rM fXk fdXk)
  (hPk:Nf K "pair_kind" sPK fPk fdPk)
  (hFt:Nf K "fitted" qZq fFt fdFt)
  (hCm:Nf K "compiled" qJ5 fCm fdCm)
  (hOp:Nf K "operands_code" qL2 fOp fdOp)
  (hCc:Nf K "call_code" lR fCc fdCc)
  (hAi:Nf K "as_if" qJ6 fAi fdAi)
  (hIc:Nf K "if_code" qL3 fIc fdIc)
  (hLc:Nf K "let_code" rD fLc fdLc)
  (hFc:Nf K "function_code" nU fFc fdFc)
  (hVc:Nf K "value_code" qA2 fVc fdVc)
  (hCo:Nf K "code_of" iJ fCo fdCo)
  (hBr:Nf K "brought_in" sBr fBr fdBr)
  (hPl:Nf K "plus" qX9 fPl fdPl)
  (hMi:Nf K "minus" fA fMi fdMi)
  (hTi:Nf K "times" fE fTi fdTi)
  (hOv:Nf K "over" qXq fOv fdOv)
  (hRe:Nf K "rest" qXz fRe fdRe)
  (hLe:Nf K "less" qXj fLe fdLe)
  (hSa:Nf K "same" qK0 fSa fdSa)
  (hNo:Nf K "is_by_nought" lS fNo fdNo)
  (hSo:Nf K "sum_of" hZ fSo fdSo)
  (hRf:Nf K "reference_to" qA9 fRf fdRf)
  (hIr:Nf K "is_reference" hV fIr fdIr)
  (hSt:Nf K "do_step" qK8 fSt fdSt)
  (hOr:Nf K "do_order" hW fOr fdOr)
  (hPu:Nf K "put" qAq fPu fdPu)
  (hPn:Nf K "put_nil" qK9 fPn fdPn)
  (hPs:Nf K "put_slot" qKq fPs fdPs)
  (hIs:Nf K "in_slot" qAz fIs fdIs)
  (hRk:Nf K "reckon_sum" qKz fRk fdRk)
  (hTt:Nf K "turn_truth" qKj fTt fdTt)
  (hAe:Nf K "ask_empty" qAj fAe fdAe)
  (hT1:Nf K "take_first" qE0 fT1 fdT1)
  (hT2:Nf K "take_second" qE1 fT2 fdT2)
  (hTh:Nf K "take_held" qE2 fTh fdTh)
  (hRm:Nf K "has_room" qV0 fRm fdRm)
  (hMc:Nf K "make_cell" qE3 fMc fdMc)
  (hMp:Nf K "make_pair" qE4 fMp fdMp)
  (hM2:Nf K "make_of_two" qE5 fM2 fdM2)
  (hMf:Nf K "make_function" qE6 fMf fdMf)
  (hCa:Nf K "call" qE7 fCa fdCa)
  (hLa:Nf K "last_call" hU fLa fdLa)
  (hEn:Nf K "enter" qE8 fEn fdEn)
  (hTe:Nf K "tell" qV1 fTe fdTe)
  (hCu:Nf K "cut_stack" qE9 fCu fdCu)
  (hUn:Nf K "pass_unless" qEq fUn fdUn)
  (hPo:Nf K "pass_over" hC fPo fdPo)
  (hSl:Nf K "slide" qEz fSl fdSl)
  (hVt:Nf K "value_text" hG fVt fdVt)
  (hPi:Nf K "pieces_of" lT fPi fdPi)
  (hBa:Nf K "bare_text" qV2 fBa fdBa)
  (hHi:Mf K HP "__init__" "Heap.__init__" qEj fHi fdHi)
  (hHf:Mf K HP "is_full" "Heap.is_full" qV3 fHf fdHf)
  (hHm:Mf K HP "make" "Heap.make" pQ fHm fdHm)
  (hHb:Mf K HP "held_by" "Heap.held_by" qV4 fHb fdHb)
  (hMa:Mf K MA "__init__" "Machine.__init__" zQ0 fMa fdMa)
  (hRu:Mf K MA "run" "Machine.run" zQ1 fRu fdRu)
  (hSh:Mf K MA "shown" "Machine.shown" pZ fSh fdSh)
  (hCe:Nf K "_law_cell" qYj fCe fdCe)
  (hDr:Nf K "_law_drawn" pN fDr fdDr)
  (hBd:Nf K "_law_body" qU0 fBd fdBd)
  (hTr:Nf K "_law_truths" gO fTr fdTr)
  (hCd:Nf K "_law_called" gI fCd fdCd)
  (hTo:Nf K "_law_told" qU1 fTo fdTo)
  (hOd:Nf K "_law_odd" zX2 fOd fdOd)
  (hLw:Nf K "law" zX3 fLw fdLw)
  (gq0:PySem.W.nsIn K mainGlobals "LEAST_NUMBER"=some (some (.int (-9223372036854775808) tk0)))
  (gq1:PySem.W.nsIn K mainGlobals "ROUND"=some (some (.int 18446744073709551616 tk1)))
  (gq2:PySem.W.nsIn K mainGlobals "LEAST_ROOM"=some (some (.int 8 tk2)))
  (gq3:PySem.W.nsIn K mainGlobals "GREATEST_ROOM"=some (some (.int 400 tk3)))
  (gq4:PySem.W.nsIn K mainGlobals "LONGEST_SHOWN"=some (some (.int 1000 tk4)))
  (gq5:PySem.W.nsIn K mainGlobals "MOST_PENDING"=some (some (.int 40 tk5)))
  (gE:PySem.W.nsIn K mainGlobals "EMPTY"=some (some .none))
  (aST:PySem.W.nsIn K mainGlobals "SUMS"=some (some (.ref TS)))
  (lST:K.lookup TS=some OS)
  (dST:lC OS (ksS.zip ([.ref fPl,.ref fMi,.ref fTi,.ref fOv,.ref fRe,.ref fLe,.ref fSa]:List V)))
  (sST:(TS==sysModules)=false)
  (aPST:PySem.W.nsIn K mainGlobals "PART_SLOTS"=some (some (.ref TPS)))
  (lPST:K.lookup TPS=some OPS)
  (dPST:lC OPS (zX7.zip ([.ref pPS0,.ref pPS1,.ref pPS2,.ref pPS3,.ref pPS4,.ref pPS5,.ref pPS6,.ref pPS7,.ref pPS8,.ref pPS9,.ref pPS10,.ref pPS11,.ref pPS12,.ref pPS13,.ref pPS14,.ref pPS15,.ref pPS16,.ref pPS17,.ref pPS18,.ref pPS19,.ref pPS20,.ref pPS21,.ref pPS22]:List V)))
  (sPST:(TPS==sysModules)=false)
  (lpPS0:K.lookup pPS0=some opPS0)
  (tpPS0:jD opPS0 ((["kind"]:List Str).map V.str))
  (lpPS1:K.lookup pPS1=some opPS1)
  (tpPS1:jD opPS1 ((["part","part"]:List Str).map V.str))
  (lpPS2:K.lookup pPS2=some opPS2)
  (tpPS2:jD opPS2 ((["part"]:List Str).map V.str))
  (lpPS3:K.lookup pPS3=some opPS3)
  (tpPS3:jD opPS3 ((["part"]:List Str).map V.str))
  (lpPS4:K.lookup pPS4=some opPS4)
  (tpPS4:jD opPS4 ((["part"]:List Str).map V.str))
  (lpPS5:K.lookup pPS5=some opPS5)
  (tpPS5:jD opPS5 ((["part","part"]:List Str).map V.str))
  (lpPS6:K.lookup pPS6=some opPS6)
  (tpPS6:jD opPS6 ((["part"]:List Str).map V.str))
  (lpPS7:K.lookup pPS7=some opPS7)
  (tpPS7:jD opPS7 ((["part"]:List Str).map V.str))
  (lpPS8:K.lookup pPS8=some opPS8)
  (tpPS8:jD opPS8 ((["part","part","part"]:List Str).map V.str))
  (lpPS9:K.lookup pPS9=some opPS9)
  (tpPS9:jD opPS9 ((["name","part","part"]:List Str).map V.str))
  (lpPS10:K.lookup pPS10=some opPS10)
  (tpPS10:jD opPS10 ((["name","kind","part"]:List Str).map V.str))
  (lpPS11:K.lookup pPS11=some opPS11)
  (tpPS11:jD opPS11 ((["name","name","kind","kind","part"]:List Str).map V.str))
  (lpPS12:K.lookup pPS12=some opPS12)
  (tpPS12:jD opPS12 ((["part","part"]:List Str).map V.str))
  (lpPS13:K.lookup pPS13=some opPS13)
  (tpPS13:jD opPS13 ((["part","part"]:List Str).map V.str))
  (lpPS14:K.lookup pPS14=some opPS14)
  (tpPS14:jD opPS14 ((["part","part"]:List Str).map V.str))
  (lpPS15:K.lookup pPS15=some opPS15)
  (tpPS15:jD opPS15 ((["part","part"]:List Str).map V.str))
  (lpPS16:K.lookup pPS16=some opPS16)
  (tpPS16:jD opPS16 ((["part","part"]:List Str).map V.str))
  (lpPS17:K.lookup pPS17=some opPS17)
  (tpPS17:jD opPS17 ((["part","part"]:List Str).map V.str))
  (lpPS18:K.lookup pPS18=some opPS18)
  (tpPS18:jD opPS18 ((["part","part"]:List Str).map V.str))
  (lpPS19:K.lookup pPS19=some opPS19)
  (tpPS19:jD opPS19 ((["part","part"]:List Str).map V.str))
  (lpPS20:K.lookup pPS20=some opPS20)
  (tpPS20:jD opPS20 ((["part","part"]:List Str).map V.str))
  (lpPS21:K.lookup pPS21=some opPS21)
  (tpPS21:jD opPS21 ((["part","part"]:List Str).map V.str))
  (lpPS22:K.lookup pPS22=some opPS22)
  (tpPS22:jD opPS22 ((["part"]:List Str).map V.str))
  (aOT:PySem.W.nsIn K mainGlobals "ORDERS"=some (some (.ref TO)))
  (lOT:K.lookup TO=some OO)
  (dOT:lC OO (ksO.zip ([.ref fPu,.ref fPn,.ref fPs,.ref fMc,.ref fT1,.ref fT2,.ref fAe,.ref fMp,.ref fT1,.ref fT2,.ref fRk,.ref fRk,.ref fRk,.ref fRk,.ref fRk,.ref fRk,.ref fRk,.ref fTt,.ref fMf,.ref fMf,.ref fCa,.ref fLa,.ref fTe,.ref fUn,.ref fPo,.ref fSl]:List V)))
  (sOT:(TO==sysModules)=false)
  (aBRT:PySem.W.nsIn K mainGlobals "BINDING_RULES"=some (some (.ref TBR)))
  (lBRT:K.lookup TBR=some OBR)
  (dBRT:lC OBR (zMz.zip ([.ref fLk,.ref fNk,.ref fXk]:List V)))
  (sBRT:(TBR==sysModules)=false)
  (aKRT:PySem.W.nsIn K mainGlobals "KIND_RULES"=some (some (.ref TKR)))
  (lKRT:K.lookup TKR=some OKR)
  (dKRT:lC OKR (zO8.zip ([.ref fCn,.ref fHk,.ref fTk,.ref fEk,.ref fFk,.ref fSk,.ref fIk,.ref fCk]:List V)))
  (sKRT:(TKR==sysModules)=false)
  (aFKT:PySem.W.nsIn K mainGlobals "FIXED_KINDS"=some (some (.ref TFK)))
  (lFKT:K.lookup TFK=some OFK)
  (dFKT:lC OFK (zMj.zip ([.ref pFK0,.ref pFK1,.ref pFK2,.ref pFK3,.ref pFK4,.ref pFK5,.ref pFK6,.ref pFK7,.ref pFK8,.ref pFK9,.ref pFK10,.ref pFK11]:List V)))
  (sFKT:(TFK==sysModules)=false)
  (lpFK0:K.lookup pFK0=some opFK0)
  (tpFK0:jD opFK0 ((["int"]:List Str).map V.str))
  (lpFK1:K.lookup pFK1=some opFK1)
  (tpFK1:jD opFK1 ((["bool"]:List Str).map V.str))
  (lpFK2:K.lookup pFK2=some opFK2)
  (tpFK2:jD opFK2 ((["int","int","int"]:List Str).map V.str))
  (lpFK3:K.lookup pFK3=some opFK3)
  (tpFK3:jD opFK3 ((["int","int","int"]:List Str).map V.str))
  (lpFK4:K.lookup pFK4=some opFK4)
  (tpFK4:jD opFK4 ((["int","int","int"]:List Str).map V.str))
  (lpFK5:K.lookup pFK5=some opFK5)
  (tpFK5:jD opFK5 ((["int","int","int"]:List Str).map V.str))
  (lpFK6:K.lookup pFK6=some opFK6)
  (tpFK6:jD opFK6 ((["int","int","int"]:List Str).map V.str))
  (lpFK7:K.lookup pFK7=some opFK7)
  (tpFK7:jD opFK7 ((["int","int","bool"]:List Str).map V.str))
  (lpFK8:K.lookup pFK8=some opFK8)
  (tpFK8:jD opFK8 ((["int","int","bool"]:List Str).map V.str))
  (lpFK9:K.lookup pFK9=some opFK9)
  (tpFK9:jD opFK9 ((["bool","bool","bool"]:List Str).map V.str))
  (lpFK10:K.lookup pFK10=some opFK10)
  (tpFK10:jD opFK10 ((["bool","bool","bool"]:List Str).map V.str))
  (lpFK11:K.lookup pFK11=some opFK11)
  (tpFK11:jD opFK11 ((["bool","bool"]:List Str).map V.str))
  (aPCT:PySem.W.nsIn K mainGlobals "PLACED_CODES"=some (some (.ref TPC)))
  (lPCT:K.lookup TPC=some OPC)
  (dPCT:lC OPC (zN0.zip ([.ref fCc,.ref fIc,.ref fIc,.ref fIc,.ref fLc]:List V)))
  (sPCT:(TPC==sysModules)=false)
  (aTE:PySem.W.nsIn K mainGlobals "ENDING_ORDERS"=some (some (.ref TE)))
  (lTE:K.lookup TE=some oTE)
  (tTE:jD oTE [.str "tell",.str "skip",.str "slide"])
  (z_abs:PySem.W.nsIn K mainGlobals "abs"=some none)
  (z_zip:PySem.W.nsIn K mainGlobals "zip"=some none)
  (z_dict:PySem.W.nsIn K mainGlobals "dict"=some none)
  (z_list:PySem.W.nsIn K mainGlobals "list"=some none)
  (z_enumerate:PySem.W.nsIn K mainGlobals "enumerate"=some none)
  (z_len:PySem.W.nsIn K mainGlobals "len"=some none)
  (z_isinstance:PySem.W.nsIn K mainGlobals "isinstance"=some none)
  (z_tuple:PySem.W.nsIn K mainGlobals "tuple"=some none)
  (z_bool:PySem.W.nsIn K mainGlobals "bool"=some none)
  (z_str:PySem.W.nsIn K mainGlobals "str"=some none)
  (z_reversed:PySem.W.nsIn K mainGlobals "reversed"=some none)
  (z_int:PySem.W.nsIn K mainGlobals "int"=some none)
  (z_max:PySem.W.nsIn K mainGlobals "max"=some none)
  (z_min:PySem.W.nsIn K mainGlobals "min"=some none)
  (z_range:PySem.W.nsIn K mainGlobals "range"=some none):
  ∃fd:FuncData,(∀(s:Shared)(v:Value),BindsTo s fd ⟨[v],[]⟩ [("_law_script",v)])/\∀base:Heap,K.In base->base.Ns mainGlobals mg->qS l.prog w K mg base (CXE l.prog w) 217 fa fd ["_law_script"] (sN K):=by
 have e:=hfa.symm.trans (PySem.W.mg_of X G hLw.1)
 cases e
 have DVb:=hVb.df X G ["part","sort"] (by walk_at "b2")
 have DWn:=hWn.df X G ["scope","name","bound"] (by walk_at "b3")
 have DLu:=hLu.df X G ["scope","name"] (by walk_at "b2")
 have DNb:=hNb.df X G ["part"] (by walk_at "b1")
 have DOn:=hOn.df X G ["part"] (by walk_at "b1")
 have DKo:=hKo.df X G ["part"] (by walk_at "b1")
 have DRq:=hRq.df X G ["holds"] (by walk_at "b1")
 have DRw:=hRw.df X G ["kind","word"] (by walk_at "b2")
 have DCn:=hCn.df X G ["kinds"] (by walk_at "b1")
 have DHk:=hHk.df X G ["kinds"] (by walk_at "b1")
 have DTk:=hTk.df X G ["kinds"] (by walk_at "b1")
 have DEk:=hEk.df X G ["kinds"] (by walk_at "b1")
 have DFk:=hFk.df X G ["kinds"] (by walk_at "b1")
 have DSk:=hSk.df X G ["kinds"] (by walk_at "b1")
 have DIk:=hIk.df X G ["kinds"] (by walk_at "b1")
 have DCk:=hCk.df X G ["kinds"] (by walk_at "b1")
 have DLk:=hLk.df X G ["part","scope","pairs"] (by walk_at "b3")
 have DNk:=hNk.df X G ["part","scope","pairs"] (by walk_at "b3")
 have DXk:=hXk.df X G ["part","scope","pairs"] (by walk_at "b3")
 have DPk:=hPk.df X G ["kinds","pairs"] (by walk_at "b2")
 have DFt:=hFt.df X G ["part","scope","pairs"] (by walk_at "b3")
 have DCm:=hCm.df X G ["part"] (by walk_at "b1")
 have DOp:=hOp.df X G ["part","slots","height"] (by walk_at "b3")
 have DCc:=hCc.df X G ["part","slots","height","last"] (by walk_at "b4")
 have DAi:=hAi.df X G ["part"] (by walk_at "b1")
 have DIc:=hIc.df X G ["part","slots","height","last"] (by walk_at "b4")
 have DLc:=hLc.df X G ["part","slots","height","last"] (by walk_at "b4")
 have DFc:=hFc.df X G ["part","slots"] (by walk_at "b2")
 have DVc:=hVc.df X G ["part","slots"] (by walk_at "b2")
 have DCo:=hCo.df X G ["part","slots","height","last"] (by walk_at "b4")
 have DBr:=hBr.df X G ["number"] (by walk_at "b1")
 have DPl:=hPl.df X G ["one","other"] (by walk_at "b2")
 have DMi:=hMi.df X G ["one","other"] (by walk_at "b2")
 have DTi:=hTi.df X G ["one","other"] (by walk_at "b2")
 have DOv:=hOv.df X G ["one","other"] (by walk_at "b2")
 have DRe:=hRe.df X G ["one","other"] (by walk_at "b2")
 have DLe:=hLe.df X G ["one","other"] (by walk_at "b2")
 have DSa:=hSa.df X G ["one","other"] (by walk_at "b2")
 have DNo:=hNo.df X G ["word","other"] (by walk_at "b2")
 have DSo:=hSo.df X G ["word","one","other"] (by walk_at "b3")
 have DRf:=hRf.df X G ["place"] (by walk_at "b1")
 have DIr:=hIr.df X G ["value"] (by walk_at "b1")
 have DSt:=hSt.df X G ["machine"] (by walk_at "b1")
 have DOr:=hOr.df X G ["machine"] (by walk_at "b1")
 have DPu:=hPu.df X G ["machine","order"] (by walk_at "b2")
 have DPn:=hPn.df X G ["machine","order"] (by walk_at "b2")
 have DPs:=hPs.df X G ["machine","order"] (by walk_at "b2")
 have DIs:=hIs.df X G ["machine","slot"] (by walk_at "b2")
 have DRk:=hRk.df X G ["machine","order"] (by walk_at "b2")
 have DTt:=hTt.df X G ["machine","order"] (by walk_at "b2")
 have DAe:=hAe.df X G ["machine","order"] (by walk_at "b2")
 have DT1:=hT1.df X G ["machine","order"] (by walk_at "b2")
 have DT2:=hT2.df X G ["machine","order"] (by walk_at "b2")
 have DTh:=hTh.df X G ["machine","which"] (by walk_at "b2")
 have DRm:=hRm.df X G ["machine"] (by walk_at "b1")
 have DMc:=hMc.df X G ["machine","order"] (by walk_at "b2")
 have DMp:=hMp.df X G ["machine","order"] (by walk_at "b2")
 have DM2:=hM2.df X G ["machine","sort"] (by walk_at "b2")
 have DMf:=hMf.df X G ["machine","order"] (by walk_at "b2")
 have DCa:=hCa.df X G ["machine","order"] (by walk_at "b2")
 have DLa:=hLa.df X G ["machine","order"] (by walk_at "b2")
 have DEn:=hEn.df X G ["machine","function","handed"] (by walk_at "b3")
 have DTe:=hTe.df X G ["machine","order"] (by walk_at "b2")
 have DCu:=hCu.df X G ["machine","height"] (by walk_at "b2")
 have DUn:=hUn.df X G ["machine","order"] (by walk_at "b2")
 have DPo:=hPo.df X G ["machine","order"] (by walk_at "b2")
 have DSl:=hSl.df X G ["machine","order"] (by walk_at "b2")
 have DVt:=hVt.df X G ["heap","value"] (by walk_at "b2")
 have DPi:=hPi.df X G ["heap","piece"] (by walk_at "b2")
 have DBa:=hBa.df X G ["value"] (by walk_at "b1")
 have EHi:=hHi.me ["self","room"] (by walk_at "b2")
 have EHf:=hHf.me ["self"] (by walk_at "b1")
 have EHm:=hHm.me ["self","sort","held"] (by walk_at "b3")
 have EHb:=hHb.me ["self","reference"] (by walk_at "b2")
 have EMa:=hMa.me ["self","code","room"] (by walk_at "b3")
 have ERu:=hRu.me ["self","steps"] (by walk_at "b2")
 have ESh:=hSh.me ["self"] (by walk_at "b1")
 have DCe:=hCe.df X G ["_law_script","_law_k"] (by walk_at "b2")
 have DDr:=hDr.df X G ["_law_cell_here","_law_k"] (by walk_at "b2")
 have DBd:=hBd.df X G ["_law_more","_law_again"] (by walk_at "b2")
 have DTr:=hTr.df X G ["_law_more","_law_again"] (by walk_at "b2")
 have DCd:=hCd.df X G ["_law_body_here","_law_kind","_law_many","_law_around"] (by walk_at "b4")
 have DTo:=hTo.df X G ["_law_part","_law_room","_law_steps"] (by walk_at "b3")
 have DOd:=hOd.df X G ["_law_many"] (by walk_at "b1")
 have DLw:=hLw.df X G ["_law_script"] (by walk_at "b1")
 have mg0:=PySem.W.mg_of X G gq0
 have mg1:=PySem.W.mg_of X G gq1
 have mg2:=PySem.W.mg_of X G gq2
 have mg3:=PySem.W.mg_of X G gq3
 have mg4:=PySem.W.mg_of X G gq4
 have mg5:=PySem.W.mg_of X G gq5
 have mgE:=PySem.W.mg_of X G gE
 have y_abs:=PySem.W.mg_none_of X G z_abs
 have y_zip:=PySem.W.mg_none_of X G z_zip
 have y_dict:=PySem.W.mg_none_of X G z_dict
 have y_list:=PySem.W.mg_none_of X G z_list
 have y_enumerate:=PySem.W.mg_none_of X G z_enumerate
 have y_len:=PySem.W.mg_none_of X G z_len
 have y_isinstance:=PySem.W.mg_none_of X G z_isinstance
 have y_tuple:=PySem.W.mg_none_of X G z_tuple
 have y_bool:=PySem.W.mg_none_of X G z_bool
 have y_str:=PySem.W.mg_none_of X G z_str
 have y_reversed:=PySem.W.mg_none_of X G z_reversed
 have y_int:=PySem.W.mg_none_of X G z_int
 have y_max:=PySem.W.mg_none_of X G z_max
 have y_min:=PySem.W.mg_none_of X G z_min
 have y_range:=PySem.W.mg_none_of X G z_range
 have mMA:=PySem.W.mg_of X G aMA
 have mHP:=PySem.W.mg_of X G aHP
 have Gsu:qL6 mg:=⟨y_abs,⟨_,mg0⟩,⟨_,mg1⟩⟩
 have Gw:GlW mg:=⟨y_isinstance,y_bool,y_str,y_list,y_reversed,y_len,mgE,⟨_,mg4⟩⟩
 have Gh:GlH mg:=⟨y_isinstance,y_tuple,y_list,y_len⟩
 have Gm:GlM mg:=⟨y_list,⟨_,mg2⟩,⟨_,mg3⟩⟩
 have Gk:GlK mg:=⟨y_len,⟨_,mg5⟩⟩
 have Gl':GlL mg:=⟨y_len,y_int,y_max,y_min,y_range⟩
 have It:IsT K:=⟨zX8 K,zX9 K,zXq K,qZ3 K⟩
 have Ib:IsB K:=⟨zXz K,zXj K⟩
 have Mc':Mc K MA:=⟨⟨pgMA,hdMA,poMA,saMA⟩,nMA_code,nMA_heap,nMA_stack,nMA_base,nMA_place,nMA_pending,nMA_standing⟩
 have Hc':Hc K HP:=⟨⟨pgHP,hdHP,poHP,saHP⟩,nHP_room,nHP_things,nHP_made_so_far⟩
 have MkH:Mk K HP fHi:=⟨mkHP,hHi.1,hHi.2.1,kpHP⟩
 have MkM:Mk K MA fMa:=⟨mkMA,hMa.1,hMa.2.1,kpMA⟩
 have Gv:GlV K mg:=by
  refine⟨y_zip,TPS,_,PySem.W.mg_of X G aPST,dPST.s lPST sPST,fun wd=>?_⟩
  have hh:=cV (K:=K) (ks:=zX7) (sss:=([["kind"],["part","part"],["part"],["part"],["part"],["part","part"],["part"],["part"],["part","part","part"],["name","part","part"],["name","kind","part"],["name","name","kind","kind","part"],["part","part"],["part","part"],["part","part"],["part","part"],["part","part"],["part","part"],["part","part"],["part","part"],["part","part"],["part","part"],["part"]]:List (List Str))) (vs:=([.ref pPS0,.ref pPS1,.ref pPS2,.ref pPS3,.ref pPS4,.ref pPS5,.ref pPS6,.ref pPS7,.ref pPS8,.ref pPS9,.ref pPS10,.ref pPS11,.ref pPS12,.ref pPS13,.ref pPS14,.ref pPS15,.ref pPS16,.ref pPS17,.ref pPS18,.ref pPS19,.ref pPS20,.ref pPS21,.ref pPS22]:List V)) rfl rfl (fun i ss v e1 e2=>?_) wd
  rotate_left
  ·match i,e1,e2 with
   |0,e1,e2=>cases e1;cases e2;exact⟨_,rfl,(tpPS0.s lpPS0 (by decide))⟩
   |1,e1,e2=>cases e1;cases e2;exact⟨_,rfl,(tpPS1.s lpPS1 (by decide))⟩
   |2,e1,e2=>cases e1;cases e2;exact⟨_,rfl,(tpPS2.s lpPS2 (by decide))⟩
   |3,e1,e2=>cases e1;cases e2;exact⟨_,rfl,(tpPS3.s lpPS3 (by decide))⟩
   |4,e1,e2=>cases e1;cases e2;exact⟨_,rfl,(tpPS4.s lpPS4 (by decide))⟩
   |5,e1,e2=>cases e1;cases e2;exact⟨_,rfl,(tpPS5.s lpPS5 (by decide))⟩
   |6,e1,e2=>cases e1;cases e2;exact⟨_,rfl,(tpPS6.s lpPS6 (by decide))⟩
   |7,e1,e2=>cases e1;cases e2;exact⟨_,rfl,(tpPS7.s lpPS7 (by decide))⟩
   |8,e1,e2=>cases e1;cases e2;exact⟨_,rfl,(tpPS8.s lpPS8 (by decide))⟩
   |9,e1,e2=>cases e1;cases e2;exact⟨_,rfl,(tpPS9.s lpPS9 (by decide))⟩
   |10,e1,e2=>cases e1;cases e2;exact⟨_,rfl,(tpPS10.s lpPS10 (by decide))⟩
   |11,e1,e2=>cases e1;cases e2;exact⟨_,rfl,(tpPS11.s lpPS11 (by decide))⟩
   |12,e1,e2=>cases e1;cases e2;exact⟨_,rfl,(tpPS12.s lpPS12 (by decide))⟩
   |13,e1,e2=>cases e1;cases e2;exact⟨_,rfl,(tpPS13.s lpPS13 (by decide))⟩
   |14,e1,e2=>cases e1;cases e2;exact⟨_,rfl,(tpPS14.s lpPS14 (by decide))⟩
   |15,e1,e2=>cases e1;cases e2;exact⟨_,rfl,(tpPS15.s lpPS15 (by decide))⟩
   |16,e1,e2=>cases e1;cases e2;exact⟨_,rfl,(tpPS16.s lpPS16 (by decide))⟩
   |17,e1,e2=>cases e1;cases e2;exact⟨_,rfl,(tpPS17.s lpPS17 (by decide))⟩
   |18,e1,e2=>cases e1;cases e2;exact⟨_,rfl,(tpPS18.s lpPS18 (by decide))⟩
   |19,e1,e2=>cases e1;cases e2;exact⟨_,rfl,(tpPS19.s lpPS19 (by decide))⟩
   |20,e1,e2=>cases e1;cases e2;exact⟨_,rfl,(tpPS20.s lpPS20 (by decide))⟩
   |21,e1,e2=>cases e1;cases e2;exact⟨_,rfl,(tpPS21.s lpPS21 (by decide))⟩
   |22,e1,e2=>cases e1;cases e2;exact⟨_,rfl,(tpPS22.s lpPS22 (by decide))⟩
   |n+23,e1,e2=>simp at e1
  have eSL:SL=zX7.zip ([["kind"],["part","part"],["part"],["part"],["part"],["part","part"],["part"],["part"],["part","part","part"],["name","part","part"],["name","kind","part"],["name","name","kind","kind","part"],["part","part"],["part","part"],["part","part"],["part","part"],["part","part"],["part","part"],["part","part"],["part","part"],["part","part"],["part","part"],["part"]]:List (List Str)):=rfl
  unfold zK
  rw[eSL]
  rcases hh with⟨h1,h2⟩|⟨ss,tp,h1,h2,h3⟩
  ·exact .inl ⟨by rw[h1];rfl,h2⟩
  ·exact .inr ⟨tp,h2,by rw[h1];exact h3⟩
 have Go:GlO mg:=⟨y_enumerate,y_len,y_list⟩
 have Gc:GlC mg:=⟨y_enumerate,y_len,y_tuple⟩
 refine⟨fdLw,fun s v=>?_,fun base kb nb=>?_⟩
 ·obtain⟨_,_,_,_,nLw,_,_⟩:=hLw
  obtain⟨oc,od,kV,doc,pm,an,ct,osl,rfl,rfl⟩:=nLw
  exact .of_eq rfl
 ·have GVb':=zVj (P:=l.prog) (w:=w) (base:=base) DVb.fn Gv
  have GVb:=DVb.kn GVb'
  have GRq':=qT0 (P:=l.prog) (w:=w) (base:=base) (mg:=mg) DRq.fn
  have GRq:=DRq.kn GRq'
  have GWn:=DWn.kn (zW3 (P:=l.prog) (w:=w) (base:=base) DWn.fn y_dict)
  have GLu:=DLu.kn (zW4 (P:=l.prog) (w:=w) (base:=base) (mg:=mg) DLu.fn)
  have GNb:=DNb.kn (zW1 DNb.fn GVb' DVb.at_ DVb.fn.kp DVb.bi)
  have GRw:=DRw.kn (zW5 DRw.fn ⟨y_isinstance,y_tuple⟩ GRq' DRq.at_ DRq.fn.kp DRq.bi)
  have GCn:=ok_cons DCn.fn GRq
  have GHk:=qC5 DHk.fn GRw
  have GTk:=qC6 DTk.fn GRw
  have GEk:=qZ8 DEk.fn GRw
  have GFk:=qZ9 DFk.fn GRw
  have GSk:=tN DSk.fn GRw
  have GIk:=zW7 DIk.fn GRq
  have GCk:=qC7 DCk.fn GRq GRw
  have GPk:=DPk.kn (zW9 (P:=l.prog) (w:=w) (base:=base) (mg:=mg) DPk.fn)
  have Gf:GlF l.prog w K mg base fLk fNk fXk:=by
   refine⟨y_list,⟨TBR,PySem.W.mg_of X G aBRT,dBRT.s lBRT sBRT⟩,⟨TKR,_,PySem.W.mg_of X G aKRT,dKRT.s lKRT sKRT,fun wd ks κ m=>uX (zO9 wd (qJ1 m)),fun wd R m=>?_⟩,⟨TFK,_,PySem.W.mg_of X G aFKT,dFKT.s lFKT sFKT,fun wd ks κ m=>?_⟩⟩
   ·simp only[KR,List.mem_cons,List.not_mem_nil,or_false,Prod.mk.injEq]at m
    rcases m with⟨rfl,rfl⟩|⟨rfl,rfl⟩|⟨rfl,rfl⟩|⟨rfl,rfl⟩|⟨rfl,rfl⟩|⟨rfl,rfl⟩|⟨rfl,rfl⟩|⟨rfl,rfl⟩
    ·exact⟨jS (i:=0) (by decide+kernel) (by show 0<8;decide),fCn,qG (i:=0) (by decide+kernel) rfl,DCn.at GCn⟩
    ·exact⟨jS (i:=1) (by decide+kernel) (by show 1<8;decide),fHk,qG (i:=1) (by decide+kernel) rfl,DHk.at GHk⟩
    ·exact⟨jS (i:=2) (by decide+kernel) (by show 2<8;decide),fTk,qG (i:=2) (by decide+kernel) rfl,DTk.at GTk⟩
    ·exact⟨jS (i:=3) (by decide+kernel) (by show 3<8;decide),fEk,qG (i:=3) (by decide+kernel) rfl,DEk.at GEk⟩
    ·exact⟨jS (i:=4) (by decide+kernel) (by show 4<8;decide),fFk,qG (i:=4) (by decide+kernel) rfl,DFk.at GFk⟩
    ·exact⟨jS (i:=5) (by decide+kernel) (by show 5<8;decide),fSk,qG (i:=5) (by decide+kernel) rfl,DSk.at GSk⟩
    ·exact⟨jS (i:=6) (by decide+kernel) (by show 6<8;decide),fIk,qG (i:=6) (by decide+kernel) rfl,DIk.at GIk⟩
    ·exact⟨jS (i:=7) (by decide+kernel) (by show 7<8;decide),fCk,qG (i:=7) (by decide+kernel) rfl,DCk.at GCk⟩
   ·simp only[FX,List.mem_cons,List.not_mem_nil,or_false,Prod.mk.injEq]at m
    rcases m with⟨rfl,rfl,rfl⟩|⟨rfl,rfl,rfl⟩|⟨rfl,rfl,rfl⟩|⟨rfl,rfl,rfl⟩|⟨rfl,rfl,rfl⟩|⟨rfl,rfl,rfl⟩|⟨rfl,rfl,rfl⟩|⟨rfl,rfl,rfl⟩|⟨rfl,rfl,rfl⟩|⟨rfl,rfl,rfl⟩|⟨rfl,rfl,rfl⟩|⟨rfl,rfl,rfl⟩
    ·exact⟨_,qG (i:=0) (by decide+kernel) rfl,(tpFK0.s lpFK0 (by decide))⟩
    ·exact⟨_,qG (i:=1) (by decide+kernel) rfl,(tpFK1.s lpFK1 (by decide))⟩
    ·exact⟨_,qG (i:=2) (by decide+kernel) rfl,(tpFK2.s lpFK2 (by decide))⟩
    ·exact⟨_,qG (i:=3) (by decide+kernel) rfl,(tpFK3.s lpFK3 (by decide))⟩
    ·exact⟨_,qG (i:=4) (by decide+kernel) rfl,(tpFK4.s lpFK4 (by decide))⟩
    ·exact⟨_,qG (i:=5) (by decide+kernel) rfl,(tpFK5.s lpFK5 (by decide))⟩
    ·exact⟨_,qG (i:=6) (by decide+kernel) rfl,(tpFK6.s lpFK6 (by decide))⟩
    ·exact⟨_,qG (i:=7) (by decide+kernel) rfl,(tpFK7.s lpFK7 (by decide))⟩
    ·exact⟨_,qG (i:=8) (by decide+kernel) rfl,(tpFK8.s lpFK8 (by decide))⟩
    ·exact⟨_,qG (i:=9) (by decide+kernel) rfl,(tpFK9.s lpFK9 (by decide))⟩
    ·exact⟨_,qG (i:=10) (by decide+kernel) rfl,(tpFK10.s lpFK10 (by decide))⟩
    ·exact⟨_,qG (i:=11) (by decide+kernel) rfl,(tpFK11.s lpFK11 (by decide))⟩
  have GFt:=sO DFt DLk DNk DXk Gf GVb GRq GLu GPk GWn 70
  have GKo:=DKo.kn (zUz DKo.fn GFt)
  have GOn:=qY9 DOn Go GVb GNb
  have GAi:=DAi.kn (zY2 (P:=l.prog) (w:=w) (base:=base) (mg:=mg) DAi.fn)
  have GVc:=DVc.kn (qA6 DVc.fn GLu)
  have GCo:=bZ DCo DOp DCc DIc DLc DFc Gc (PySem.W.mg_of X G aPCT) (dPCT.s lPCT sPCT) GVb GNb GLu GWn GAi GVc GOn 70
  have GCm:=DCm.kn (zO0 DCm.fn GKo GCo)
  have GBr:=zY4 (P:=l.prog) (w:=w) (base:=base) DBr.fn Gsu
  have GPl:=qL7 DPl.fn GBr DBr.at_ DBr.fn.kp DBr.bi
  have GMi:=qK3 DMi.fn GBr DBr.at_ DBr.fn.kp DBr.bi
  have GTi:=qK4 DTi.fn GBr DBr.at_ DBr.fn.kp DBr.bi
  have GOv:=qL8 DOv.fn Gsu GBr DBr.at_ DBr.fn.kp DBr.bi
  have GRe:=qL9 (P:=l.prog) (w:=w) (base:=base) DRe.fn Gsu
  have GLe:=qLq (P:=l.prog) (w:=w) (base:=base) (mg:=mg) DLe.fn
  have GSa:=qLz (P:=l.prog) (w:=w) (base:=base) (mg:=mg) DSa.fn
  have GNo:=DNo.kn (aW (P:=l.prog) (w:=w) (base:=base) (mg:=mg) DNo.fn)
  have Su:Sums l.prog w K mg base:=by
   refine⟨TS,_,PySem.W.mg_of X G aST,dST.s lST sST,fun x=>?_⟩
   match x with
   | .plus=>exact⟨_,_,qG (i:=0) (by decide+kernel) rfl,GPl,DPl.fn.kp,DPl.bi⟩
   | .minus=>exact⟨_,_,qG (i:=1) (by decide+kernel) rfl,GMi,DMi.fn.kp,DMi.bi⟩
   | .times=>exact⟨_,_,qG (i:=2) (by decide+kernel) rfl,GTi,DTi.fn.kp,DTi.bi⟩
   | .over=>exact⟨_,_,qG (i:=3) (by decide+kernel) rfl,GOv,DOv.fn.kp,DOv.bi⟩
   | .rest=>exact⟨_,_,qG (i:=4) (by decide+kernel) rfl,GRe,DRe.fn.kp,DRe.bi⟩
   | .less=>exact⟨_,_,qG (i:=5) (by decide+kernel) rfl,GLe,DLe.fn.kp,DLe.bi⟩
   | .same=>exact⟨_,_,qG (i:=6) (by decide+kernel) rfl,GSa,DSa.fn.kp,DSa.bi⟩
  have GSo:=DSo.kn (qK6 DSo.fn Su)
  have GRf:=DRf.kn (zZ6 (P:=l.prog) (w:=w) (base:=base) (mg:=mg) DRf.fn)
  have GIr:=DIr.kn (qY2 (P:=l.prog) (w:=w) (base:=base) DIr.fn Gh It)
  have GHb:=qG8 (P:=l.prog) (w:=w) (base:=base) (mg:=mg) EHb.fn Hc'
  have GHf:=qG9 (P:=l.prog) (w:=w) (base:=base) EHf.fn Hc' y_len
  have GHm:=qVz EHm.fn Hc' y_len y_tuple EHf.mt GHf EHf.bi GRf
  have GRm:=DRm.kn (qM2 (k:=3) DRm.fn Mc' Hc' EHf.mt GHf EHf.bi)
  have GM2:=DM2.kn (zJ4 DM2.fn Mc' Hc' GRm EHm.mt GHm EHm.bi)
  have GMc:=zJ5 DMc.fn GM2
  have GMp:=zJ6 DMp.fn GM2
  have GIs:=DIs.kn (zQz (P:=l.prog) (w:=w) (base:=base) (mg:=mg) DIs.fn Mc')
  have GMf:=zJ8 DMf.fn Mc' Hc' GRm GIs EHm.mt GHm EHm.bi
  have GPu:=zQ9 (P:=l.prog) (w:=w) (base:=base) (mg:=mg) (CH:=HP) DPu.fn Mc'
  have GPn:=qG5 (P:=l.prog) (w:=w) (base:=base) (CH:=HP) DPn.fn Mc' mgE
  have GPs:=qG6 (CH:=HP) DPs.fn Mc' GIs
  have GTt:=qG7 (P:=l.prog) (w:=w) (base:=base) (mg:=mg) (CH:=HP) DTt.fn Mc'
  have GAe:=zZ1 (P:=l.prog) (w:=w) (base:=base) (CH:=HP) DAe.fn Mc' mgE
  have GTh:=DTh.kn (zZ8 DTh.fn Mc' Hc' mgE EHb.mt GHb EHb.bi)
  have GT1:=zZ9 DT1.fn GTh
  have GT2:=zZq DT2.fn GTh
  have GRk:=qGj (CH:=HP) DRk.fn Mc' GNo GSo
  have GPo:=qW1 (P:=l.prog) (w:=w) (base:=base) (mg:=mg) (CH:=HP) DPo.fn Mc'
  have GUn:=zZz (P:=l.prog) (w:=w) (base:=base) (mg:=mg) (CH:=HP) DUn.fn Mc'
  have GSl:=zZj (P:=l.prog) (w:=w) (base:=base) (mg:=mg) (CH:=HP) DSl.fn Mc'
  have GCu:=DCu.kn (zJ0 (P:=l.prog) (w:=w) (base:=base) DCu.fn Mc' y_len)
  have GEn:=DEn.kn (zJ1 DEn.fn Mc' Hc' EHb.mt GHb EHb.bi)
  have GCa:=zJ2 DCa.fn Mc' Gk GEn
  have GLa:=qW6 DLa.fn Mc' GCu GEn
  have GTe:=qM1 (CH:=HP) DTe.fn Mc' GCu
  have Od:Ords l.prog w K mg base MA HP 7:=by
   refine⟨TO,_,PySem.W.mg_of X G aOT,dOT.s lOT sOT,fun o ho=>?_⟩
   match o,ho with
   | .num n,_=>exact⟨fPu,fdPu,1,_,by decide,(show aq17 ("put":Str) _=_ from qG (i:=0) (by decide+kernel) rfl),.inl ⟨n,rfl⟩,GPu,DPu.fn.kp,DPu.bi⟩
   | .tru b,_=>exact⟨fPu,fdPu,1,_,by decide,(show aq17 ("put":Str) _=_ from qG (i:=0) (by decide+kernel) rfl),.inr ⟨b,rfl⟩,GPu,DPu.fn.kp,DPu.bi⟩
   | .nil,_=>exact⟨fPn,fdPn,1,(fun o=>o= .nil),by decide,(show aq17 ("nil":Str) _=_ from qG (i:=1) (by decide+kernel) rfl),rfl,GPn,DPn.fn.kp,DPn.bi⟩
   | .get k,_=>exact⟨fPs,fdPs,2,_,by decide,(show aq17 ("get":Str) _=_ from qG (i:=2) (by decide+kernel) rfl),⟨k,rfl⟩,GPs,DPs.fn.kp,DPs.bi⟩
   | .make .cell,_=>exact⟨fMc,fdMc,7,(fun o=>o= .make .cell),by decide,(show aq17 ("cons":Str) _=_ from qG (i:=3) (by decide+kernel) rfl),rfl,GMc,DMc.fn.kp,DMc.bi⟩
   | .make .pair,_=>exact⟨fMp,fdMp,7,(fun o=>o= .make .pair),by decide,(show aq17 ("pair":Str) _=_ from qG (i:=7) (by decide+kernel) rfl),rfl,GMp,DMp.fn.kp,DMp.bi⟩
   | .make .fn,ho=>exact absurd rfl ho
   | .take x i,ho=>
    have ho:(x,i)∈([("head",0),("tail",1),("first",0),("second",1)]:List (Str×Nat)):=ho
    simp only[List.mem_cons,List.not_mem_nil,or_false,Prod.mk.injEq]at ho
    rcases ho with⟨rfl,rfl⟩|⟨rfl,rfl⟩|⟨rfl,rfl⟩|⟨rfl,rfl⟩
    ·exact⟨fT1,fdT1,3,_,by decide,(show aq17 ("head":Str) _=_ from qG (i:=4) (by decide+kernel) rfl),⟨_,rfl⟩,GT1,DT1.fn.kp,DT1.bi⟩
    ·exact⟨fT2,fdT2,3,_,by decide,(show aq17 ("tail":Str) _=_ from qG (i:=5) (by decide+kernel) rfl),⟨_,rfl⟩,GT2,DT2.fn.kp,DT2.bi⟩
    ·exact⟨fT1,fdT1,3,_,by decide,(show aq17 ("first":Str) _=_ from qG (i:=8) (by decide+kernel) rfl),⟨_,rfl⟩,GT1,DT1.fn.kp,DT1.bi⟩
    ·exact⟨fT2,fdT2,3,_,by decide,(show aq17 ("second":Str) _=_ from qG (i:=9) (by decide+kernel) rfl),⟨_,rfl⟩,GT2,DT2.fn.kp,DT2.bi⟩
   | .empty,_=>exact⟨fAe,fdAe,2,(fun o=>o= .empty),by decide,(show aq17 ("empty":Str) _=_ from qG (i:=6) (by decide+kernel) rfl),rfl,GAe,DAe.fn.kp,DAe.bi⟩
   | .not,_=>exact⟨fTt,fdTt,1,(fun o=>o= .not),by decide,(show aq17 ("not":Str) _=_ from qG (i:=17) (by decide+kernel) rfl),rfl,GTt,DTt.fn.kp,DTt.bi⟩
   | .sum .plus,_=>exact⟨fRk,fdRk,4,_,by decide,(show aq17 ("plus":Str) _=_ from qG (i:=10) (by decide+kernel) rfl),⟨_,rfl⟩,GRk,DRk.fn.kp,DRk.bi⟩
   | .sum .minus,_=>exact⟨fRk,fdRk,4,_,by decide,(show aq17 ("minus":Str) _=_ from qG (i:=11) (by decide+kernel) rfl),⟨_,rfl⟩,GRk,DRk.fn.kp,DRk.bi⟩
   | .sum .times,_=>exact⟨fRk,fdRk,4,_,by decide,(show aq17 ("times":Str) _=_ from qG (i:=12) (by decide+kernel) rfl),⟨_,rfl⟩,GRk,DRk.fn.kp,DRk.bi⟩
   | .sum .over,_=>exact⟨fRk,fdRk,4,_,by decide,(show aq17 ("over":Str) _=_ from qG (i:=13) (by decide+kernel) rfl),⟨_,rfl⟩,GRk,DRk.fn.kp,DRk.bi⟩
   | .sum .rest,_=>exact⟨fRk,fdRk,4,_,by decide,(show aq17 ("rest":Str) _=_ from qG (i:=14) (by decide+kernel) rfl),⟨_,rfl⟩,GRk,DRk.fn.kp,DRk.bi⟩
   | .sum .less,_=>exact⟨fRk,fdRk,4,_,by decide,(show aq17 ("less":Str) _=_ from qG (i:=15) (by decide+kernel) rfl),⟨_,rfl⟩,GRk,DRk.fn.kp,DRk.bi⟩
   | .sum .same,_=>exact⟨fRk,fdRk,4,_,by decide,(show aq17 ("same":Str) _=_ from qG (i:=16) (by decide+kernel) rfl),⟨_,rfl⟩,GRk,DRk.fn.kp,DRk.bi⟩
   | .func true ks n,ho=>exact⟨fMf,fdMf,6,_,by decide,(show aq17 ("rec":Str) _=_ from qG (i:=19) (by decide+kernel) rfl),⟨_,_,_,rfl,ho⟩,GMf,DMf.fn.kp,DMf.bi⟩
   | .func false ks n,ho=>exact⟨fMf,fdMf,6,_,by decide,(show aq17 ("fn":Str) _=_ from qG (i:=18) (by decide+kernel) rfl),⟨_,_,_,rfl,ho⟩,GMf,DMf.fn.kp,DMf.bi⟩
   | .call,_=>exact⟨fCa,fdCa,3,(fun o=>o= .call),by decide,(show aq17 ("call":Str) _=_ from qG (i:=20) (by decide+kernel) rfl),rfl,GCa,DCa.fn.kp,DCa.bi⟩
   | .last,_=>exact⟨fLa,fdLa,3,(fun o=>o= .last),by decide,(show aq17 ("last call":Str) _=_ from qG (i:=21) (by decide+kernel) rfl),rfl,GLa,DLa.fn.kp,DLa.bi⟩
   | .tell,_=>exact⟨fTe,fdTe,2,(fun o=>o= .tell),by decide,(show aq17 ("tell":Str) _=_ from qG (i:=22) (by decide+kernel) rfl),rfl,GTe,DTe.fn.kp,DTe.bi⟩
   |AOrd.unless k,_=>exact⟨fUn,fdUn,1,_,by decide,(show aq17 ("unless":Str) _=_ from qG (i:=23) (by decide+kernel) rfl),⟨k,rfl⟩,GUn,DUn.fn.kp,DUn.bi⟩
   | .skip k,_=>exact⟨fPo,fdPo,1,_,by decide,(show aq17 ("skip":Str) _=_ from qG (i:=24) (by decide+kernel) rfl),⟨k,rfl⟩,GPo,DPo.fn.kp,DPo.bi⟩
   | .slide,_=>exact⟨fSl,fdSl,1,(fun o=>o= .slide),by decide,(show aq17 ("slide":Str) _=_ from qG (i:=25) (by decide+kernel) rfl),rfl,GSl,DSl.fn.kp,DSl.bi⟩
  have GOr:=DOr.kn (zJ9 DOr.fn Mc' Od)
  have GSt:=DSt.kn (qM3 DSt.fn Mc' ⟨TE,PySem.W.mg_of X G aTE,tTE.s lTE (by decide)⟩ GOr)
  have GRu:=zJz ERu.fn Mc' GSt
  have GBa:=DBa.kn (qM6 (P:=l.prog) (w:=w) (base:=base) DBa.fn Gw Ib)
  have GPi:=DPi.kn (aC DPi.fn GIr GBa)
  have GVt:=DVt.kn (qY7 DVt.fn Gw GPi)
  have GSh:=qY8 (CH:=HP) ESh.fn Mc' GVt
  have GHi:=zJj (P:=l.prog) (w:=w) (base:=base) (mg:=mg) EHi.fn Hc'
  have GMa:=zX0 EMa.fn Mc' Hc' Gm GHi mHP MkH EHi.bi
  have GCe:=DCe.kn (qM9 (P:=l.prog) (w:=w) (base:=base) DCe.fn Gl')
  have GDr:=DDr.kn (qU3 (P:=l.prog) (w:=w) (base:=base) (mg:=mg) DDr.fn)
  have GBd:=DBd.kn (qMq (P:=l.prog) (w:=w) (base:=base) (mg:=mg) DBd.fn)
  have GTr:=DTr.kn (aM (P:=l.prog) (w:=w) (base:=base) (mg:=mg) DTr.fn)
  have GCd:=DCd.kn (aN (P:=l.prog) (w:=w) (base:=base) DCd.fn Gl')
  have GTo:=DTo.kn (ok_told DTo.fn GCm Mc' mMA MkM GMa EMa.bi ERu.mt GRu ERu.bi (by decide) ESh.mt GSh ESh.bi)
  have GOd:=DOd.kn (zX4 (P:=l.prog) (w:=w) (base:=base) (mg:=mg) DOd.fn)
  exact zX6 DLw.fn Gl' GCe GDr GBd GTr GCd GTo GOd
theorem zOq{P:Program}{w:World}{outer:List Env}{H:Hp}{s:Shared}{e:Value}{s':Shared}(z:CXE P w outer H s (fun _ _ _=>False) e s'):False:=by
 obtain⟨_,_,_,_,_,_,_,_,_,_,_,_,_,_,_,_,y⟩:=z
 exact y
theorem walk{l:PySem.W.OpenLaw}{q:Program}{loose:List Str}{XP:(Str->Option Value)->Heap->Prop}{YP:World->Heap->Prop}{d:DefRec}{K:Params->Fg}(hn:l.most=some 63)(hdf:d.params.defaults=[])
  (hY:∀(w:World)(h:Heap),YP w h->(K w.params).In h)
  (F:∀(w:World)(mg:Str->Option Value)(fa:Addr)(h:Heap),(K w.params).In h->h.Ns mainGlobals mg->mg d.name=some (.ref fa)->
   ∃fd:FuncData,(∀(s:Shared)(u:Value),BindsTo s fd ⟨[u],[]⟩ [("_law_script",u)])/\∀base:Heap,(K w.params).In base->base.Ns mainGlobals mg->qS l.prog w (K w.params) mg base (CXE l.prog w) 217 fa fd ["_law_script"] (sN (K w.params))):
  PySem.W.WalkO q loose XP YP l.row.toRowW d [] (fun f vs=>PySem.call f vs):=
 L2.qI3 (n:=63) (k:=217) (x:="_law_script") (CX:=fun w=>CXE l.prog w) (sp:=fun w=>sN (K w.params)) hn (by decide) hdf ⟨rfl,by decide,by decide⟩ hY F (fun _ _ a ns hl _ hS=>⟨a,ns,rfl,hS,hl,fun _=>rfl⟩) fun _ _ _ _ _ z=>zOq z
end K19
open PySem PySem.W PyProof.Rows
set_option maxRecDepth 100000 in
set_option maxHeartbeats 0 in
theorem PySem.Challenge.cw_plainspeak_k19_whole_last_places_and_dep_holds : PySem.Challenge.rw_plainspeak_k19_whole_last_places_and_dep.Holds := by
 w_on;o_law;k_head;(case hw=>w_witness2)
 k_fill
 refine K19.walk (l:=PySem.Challenge.rw_plainspeak_k19_whole_last_places_and_dep) rfl rfl (fun w h Y=>PySem.W.kIn_of Y) ?F
 case F=>
  intro w mg fa h KX G hmg
  refine' K19.all_mk KX G hmg ?aMA ?pgMA ?hdMA ?poMA ?saMA ?mkMA ?kpMA ?nMA_code ?nMA_heap ?nMA_stack ?nMA_base ?nMA_place ?nMA_pending ?nMA_standing ?aHP ?pgHP ?hdHP ?poHP ?saHP ?mkHP ?kpHP ?nHP_room ?nHP_things ?nHP_made_so_far ?hVb ?hWn ?hLu ?hNb ?hOn ?hKo ?hRq ?hRw ?hCn ?hHk ?hTk ?hEk ?hFk ?hSk ?hIk ?hCk ?hLk ?hNk ?hXk ?hPk ?hFt ?hCm ?hOp ?hCc ?hAi ?hIc ?hLc ?hFc ?hVc ?hCo ?hBr ?hPl ?hMi ?hTi ?hOv ?hRe ?hLe ?hSa ?hNo ?hSo ?hRf ?hIr ?hSt ?hOr ?hPu ?hPn ?hPs ?hIs ?hRk ?hTt ?hAe ?hT1 ?hT2 ?hTh ?hRm ?hMc ?hMp ?hM2 ?hMf ?hCa ?hLa ?hEn ?hTe ?hCu ?hUn ?hPo ?hSl ?hVt ?hPi ?hBa ?hHi ?hHf ?hHm ?hHb ?hMa ?hRu ?hSh ?hCe ?hDr ?hBd ?hTr ?hCd ?hTo ?hOd ?hLw ?gq0 ?gq1 ?gq2 ?gq3 ?gq4 ?gq5 ?gE ?aST ?lST ?dST ?sST ?aPST ?lPST ?dPST ?sPST ?lpPS0 ?tpPS0 ?lpPS1 ?tpPS1 ?lpPS2 ?tpPS2 ?lpPS3 ?tpPS3 ?lpPS4 ?tpPS4 ?lpPS5 ?tpPS5 ?lpPS6 ?tpPS6 ?lpPS7 ?tpPS7 ?lpPS8 ?tpPS8 ?lpPS9 ?tpPS9 ?lpPS10 ?tpPS10 ?lpPS11 ?tpPS11 ?lpPS12 ?tpPS12 ?lpPS13 ?tpPS13 ?lpPS14 ?tpPS14 ?lpPS15 ?tpPS15 ?lpPS16 ?tpPS16 ?lpPS17 ?tpPS17 ?lpPS18 ?tpPS18 ?lpPS19 ?tpPS19 ?lpPS20 ?tpPS20 ?lpPS21 ?tpPS21 ?lpPS22 ?tpPS22 ?aOT ?lOT ?dOT ?sOT ?aBRT ?lBRT ?dBRT ?sBRT ?aKRT ?lKRT ?dKRT ?sKRT ?aFKT ?lFKT ?dFKT ?sFKT ?lpFK0 ?tpFK0 ?lpFK1 ?tpFK1 ?lpFK2 ?tpFK2 ?lpFK3 ?tpFK3 ?lpFK4 ?tpFK4 ?lpFK5 ?tpFK5 ?lpFK6 ?tpFK6 ?lpFK7 ?tpFK7 ?lpFK8 ?tpFK8 ?lpFK9 ?tpFK9 ?lpFK10 ?tpFK10 ?lpFK11 ?tpFK11 ?aPCT ?lPCT ?dPCT ?sPCT ?aTE ?lTE ?tTE ?z_abs ?z_zip ?z_dict ?z_list ?z_enumerate ?z_len ?z_isinstance ?z_tuple ?z_bool ?z_str ?z_reversed ?z_int ?z_max ?z_min ?z_range
  (case aMA|pgMA|hdMA|poMA|saMA|mkMA|kpMA|nMA_code|nMA_heap|nMA_stack|nMA_base|nMA_place|nMA_pending|nMA_standing|aHP|pgHP|hdHP|poHP|saHP|mkHP|kpHP|nHP_room|nHP_things|nHP_made_so_far=>k_is)
  (case hVb|hWn|hLu|hNb|hOn|hKo|hRq|hRw|hCn|hHk|hTk|hEk|hFk|hSk|hIk|hCk|hLk|hNk|hXk|hPk|hFt|hCm|hOp|hCc|hAi|hIc|hLc|hFc|hVc|hCo|hBr|hPl|hMi|hTi|hOv|hRe|hLe|hSa|hNo|hSo|hRf|hIr|hSt|hOr|hPu|hPn|hPs|hIs|hRk|hTt|hAe|hT1|hT2|hTh|hRm|hMc|hMp|hM2|hMf|hCa|hLa|hEn|hTe|hCu|hUn|hPo|hSl|hVt|hPi|hBa=>refine⟨?_,?_⟩;k_is;apply Exists.intro;apply Exists.intro;refine⟨?_,?_,?_,?_⟩;k_is;exact⟨_,_,_,_,_,_,_,_,rfl,rfl⟩;k_is;k_is)
  (case hHi|hHf|hHm|hHb|hMa|hRu|hSh=>refine⟨?_,?_,?_⟩;k_is;k_is;apply Exists.intro;apply Exists.intro;refine⟨?_,?_,?_,?_⟩;k_is;exact⟨_,_,_,_,_,_,_,_,rfl,rfl⟩;k_is;k_is)
  (case hCe|hDr|hBd|hTr|hCd|hTo|hOd|hLw=>refine⟨?_,?_⟩;k_is;apply Exists.intro;apply Exists.intro;refine⟨?_,?_,?_,?_⟩;k_is;exact⟨_,_,_,_,_,_,_,_,rfl,rfl⟩;k_is;k_is)
  (case gq0|gq1|gq2|gq3|gq4|gq5|gE|aST|lST=>k_is)
  (case dST=>exact⟨⟨rfl,rfl,rfl⟩,_,_,rfl,.cons rfl rfl (.cons rfl rfl (.cons rfl rfl (.cons rfl rfl (.cons rfl rfl (.cons rfl rfl (.cons rfl rfl .nil))))))⟩)
  (case sST=>decide)
  (case aPST|lPST=>k_is)
  (case dPST=>exact⟨⟨rfl,rfl,rfl⟩,_,_,rfl,.cons rfl rfl (.cons rfl rfl (.cons rfl rfl (.cons rfl rfl (.cons rfl rfl (.cons rfl rfl (.cons rfl rfl (.cons rfl rfl (.cons rfl rfl (.cons rfl rfl (.cons rfl rfl (.cons rfl rfl (.cons rfl rfl (.cons rfl rfl (.cons rfl rfl (.cons rfl rfl (.cons rfl rfl (.cons rfl rfl (.cons rfl rfl (.cons rfl rfl (.cons rfl rfl (.cons rfl rfl (.cons rfl rfl .nil))))))))))))))))))))))⟩)
  (case sPST=>decide)
  (case lpPS0=>k_is)
  (case tpPS0=>exact⟨rfl,_,_,rfl,.cons ⟨_,rfl⟩ .nil⟩)
  (case lpPS1=>k_is)
  (case tpPS1=>exact⟨rfl,_,_,rfl,.cons ⟨_,rfl⟩ (.cons ⟨_,rfl⟩ .nil)⟩)
  (case lpPS2=>k_is)
  (case tpPS2=>exact⟨rfl,_,_,rfl,.cons ⟨_,rfl⟩ .nil⟩)
  (case lpPS3=>k_is)
  (case tpPS3=>exact⟨rfl,_,_,rfl,.cons ⟨_,rfl⟩ .nil⟩)
  (case lpPS4=>k_is)
  (case tpPS4=>exact⟨rfl,_,_,rfl,.cons ⟨_,rfl⟩ .nil⟩)
  (case lpPS5=>k_is)
  (case tpPS5=>exact⟨rfl,_,_,rfl,.cons ⟨_,rfl⟩ (.cons ⟨_,rfl⟩ .nil)⟩)
  (case lpPS6=>k_is)
  (case tpPS6=>exact⟨rfl,_,_,rfl,.cons ⟨_,rfl⟩ .nil⟩)
  (case lpPS7=>k_is)
  (case tpPS7=>exact⟨rfl,_,_,rfl,.cons ⟨_,rfl⟩ .nil⟩)
  (case lpPS8=>k_is)
  (case tpPS8=>exact⟨rfl,_,_,rfl,.cons ⟨_,rfl⟩ (.cons ⟨_,rfl⟩ (.cons ⟨_,rfl⟩ .nil))⟩)
  (case lpPS9=>k_is)
  (case tpPS9=>exact⟨rfl,_,_,rfl,.cons ⟨_,rfl⟩ (.cons ⟨_,rfl⟩ (.cons ⟨_,rfl⟩ .nil))⟩)
  (case lpPS10=>k_is)
  (case tpPS10=>exact⟨rfl,_,_,rfl,.cons ⟨_,rfl⟩ (.cons ⟨_,rfl⟩ (.cons ⟨_,rfl⟩ .nil))⟩)
  (case lpPS11=>k_is)
  (case tpPS11=>exact⟨rfl,_,_,rfl,.cons ⟨_,rfl⟩ (.cons ⟨_,rfl⟩ (.cons ⟨_,rfl⟩ (.cons ⟨_,rfl⟩ (.cons ⟨_,rfl⟩ .nil))))⟩)
  (case lpPS12=>k_is)
  (case tpPS12=>exact⟨rfl,_,_,rfl,.cons ⟨_,rfl⟩ (.cons ⟨_,rfl⟩ .nil)⟩)
  (case lpPS13=>k_is)
  (case tpPS13=>exact⟨rfl,_,_,rfl,.cons ⟨_,rfl⟩ (.cons ⟨_,rfl⟩ .nil)⟩)
  (case lpPS14=>k_is)
  (case tpPS14=>exact⟨rfl,_,_,rfl,.cons ⟨_,rfl⟩ (.cons ⟨_,rfl⟩ .nil)⟩)
  (case lpPS15=>k_is)
  (case tpPS15=>exact⟨rfl,_,_,rfl,.cons ⟨_,rfl⟩ (.cons ⟨_,rfl⟩ .nil)⟩)
  (case lpPS16=>k_is)
  (case tpPS16=>exact⟨rfl,_,_,rfl,.cons ⟨_,rfl⟩ (.cons ⟨_,rfl⟩ .nil)⟩)
  (case lpPS17=>k_is)
  (case tpPS17=>exact⟨rfl,_,_,rfl,.cons ⟨_,rfl⟩ (.cons ⟨_,rfl⟩ .nil)⟩)
  (case lpPS18=>k_is)
  (case tpPS18=>exact⟨rfl,_,_,rfl,.cons ⟨_,rfl⟩ (.cons ⟨_,rfl⟩ .nil)⟩)
  (case lpPS19=>k_is)
  (case tpPS19=>exact⟨rfl,_,_,rfl,.cons ⟨_,rfl⟩ (.cons ⟨_,rfl⟩ .nil)⟩)
  (case lpPS20=>k_is)
  (case tpPS20=>exact⟨rfl,_,_,rfl,.cons ⟨_,rfl⟩ (.cons ⟨_,rfl⟩ .nil)⟩)
  (case lpPS21=>k_is)
  (case tpPS21=>exact⟨rfl,_,_,rfl,.cons ⟨_,rfl⟩ (.cons ⟨_,rfl⟩ .nil)⟩)
  (case lpPS22=>k_is)
  (case tpPS22=>exact⟨rfl,_,_,rfl,.cons ⟨_,rfl⟩ .nil⟩)
  (case aOT|lOT=>k_is)
  (case dOT=>exact⟨⟨rfl,rfl,rfl⟩,_,_,rfl,.cons rfl rfl (.cons rfl rfl (.cons rfl rfl (.cons rfl rfl (.cons rfl rfl (.cons rfl rfl (.cons rfl rfl (.cons rfl rfl (.cons rfl rfl (.cons rfl rfl (.cons rfl rfl (.cons rfl rfl (.cons rfl rfl (.cons rfl rfl (.cons rfl rfl (.cons rfl rfl (.cons rfl rfl (.cons rfl rfl (.cons rfl rfl (.cons rfl rfl (.cons rfl rfl (.cons rfl rfl (.cons rfl rfl (.cons rfl rfl (.cons rfl rfl (.cons rfl rfl .nil)))))))))))))))))))))))))⟩)
  (case sOT=>decide)
  (case aBRT|lBRT=>k_is)
  (case dBRT=>exact⟨⟨rfl,rfl,rfl⟩,_,_,rfl,.cons rfl rfl (.cons rfl rfl (.cons rfl rfl .nil))⟩)
  (case sBRT=>decide)
  (case aKRT|lKRT=>k_is)
  (case dKRT=>exact⟨⟨rfl,rfl,rfl⟩,_,_,rfl,.cons rfl rfl (.cons rfl rfl (.cons rfl rfl (.cons rfl rfl (.cons rfl rfl (.cons rfl rfl (.cons rfl rfl (.cons rfl rfl .nil)))))))⟩)
  (case sKRT=>decide)
  (case aFKT|lFKT=>k_is)
  (case dFKT=>exact⟨⟨rfl,rfl,rfl⟩,_,_,rfl,.cons rfl rfl (.cons rfl rfl (.cons rfl rfl (.cons rfl rfl (.cons rfl rfl (.cons rfl rfl (.cons rfl rfl (.cons rfl rfl (.cons rfl rfl (.cons rfl rfl (.cons rfl rfl (.cons rfl rfl .nil)))))))))))⟩)
  (case sFKT=>decide)
  (case lpFK0=>k_is)
  (case tpFK0=>exact⟨rfl,_,_,rfl,.cons ⟨_,rfl⟩ .nil⟩)
  (case lpFK1=>k_is)
  (case tpFK1=>exact⟨rfl,_,_,rfl,.cons ⟨_,rfl⟩ .nil⟩)
  (case lpFK2=>k_is)
  (case tpFK2=>exact⟨rfl,_,_,rfl,.cons ⟨_,rfl⟩ (.cons ⟨_,rfl⟩ (.cons ⟨_,rfl⟩ .nil))⟩)
  (case lpFK3=>k_is)
  (case tpFK3=>exact⟨rfl,_,_,rfl,.cons ⟨_,rfl⟩ (.cons ⟨_,rfl⟩ (.cons ⟨_,rfl⟩ .nil))⟩)
  (case lpFK4=>k_is)
  (case tpFK4=>exact⟨rfl,_,_,rfl,.cons ⟨_,rfl⟩ (.cons ⟨_,rfl⟩ (.cons ⟨_,rfl⟩ .nil))⟩)
  (case lpFK5=>k_is)
  (case tpFK5=>exact⟨rfl,_,_,rfl,.cons ⟨_,rfl⟩ (.cons ⟨_,rfl⟩ (.cons ⟨_,rfl⟩ .nil))⟩)
  (case lpFK6=>k_is)
  (case tpFK6=>exact⟨rfl,_,_,rfl,.cons ⟨_,rfl⟩ (.cons ⟨_,rfl⟩ (.cons ⟨_,rfl⟩ .nil))⟩)
  (case lpFK7=>k_is)
  (case tpFK7=>exact⟨rfl,_,_,rfl,.cons ⟨_,rfl⟩ (.cons ⟨_,rfl⟩ (.cons ⟨_,rfl⟩ .nil))⟩)
  (case lpFK8=>k_is)
  (case tpFK8=>exact⟨rfl,_,_,rfl,.cons ⟨_,rfl⟩ (.cons ⟨_,rfl⟩ (.cons ⟨_,rfl⟩ .nil))⟩)
  (case lpFK9=>k_is)
  (case tpFK9=>exact⟨rfl,_,_,rfl,.cons ⟨_,rfl⟩ (.cons ⟨_,rfl⟩ (.cons ⟨_,rfl⟩ .nil))⟩)
  (case lpFK10=>k_is)
  (case tpFK10=>exact⟨rfl,_,_,rfl,.cons ⟨_,rfl⟩ (.cons ⟨_,rfl⟩ (.cons ⟨_,rfl⟩ .nil))⟩)
  (case lpFK11=>k_is)
  (case tpFK11=>exact⟨rfl,_,_,rfl,.cons ⟨_,rfl⟩ (.cons ⟨_,rfl⟩ .nil)⟩)
  (case aPCT|lPCT=>k_is)
  (case dPCT=>exact⟨⟨rfl,rfl,rfl⟩,_,_,rfl,.cons rfl rfl (.cons rfl rfl (.cons rfl rfl (.cons rfl rfl (.cons rfl rfl .nil))))⟩)
  (case sPCT=>decide)
  (case aTE|lTE=>k_is)
  (case tTE=>exact⟨rfl,_,_,rfl,.cons ⟨_,rfl⟩ (.cons ⟨_,rfl⟩ (.cons ⟨_,rfl⟩ .nil))⟩)
  (case z_abs|z_zip|z_dict|z_list|z_enumerate|z_len|z_isinstance|z_tuple|z_bool|z_str|z_reversed|z_int|z_max|z_min|z_range=>k_is)
