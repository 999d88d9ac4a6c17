import PyProof.Rows.All
import Wide.All
import OpenK.AllK
import Wide.FinOn
import Lean
import PyProof.EqAt
import PyProof.EqKinds
import PyProof.TupleCall
import PyProof.ExcClass2
import PyProof.StationsW
import PyProof.RulesAs
import PyProof.ExcArgs
import PyProof.InstStoreFacts
import PyProof.ExcStrCall
import PyProof.ExcBaseAll.ValueError
import PyProof.StrWalks
import PyProof.ConsumeWalk
import PyProof.StrLawsIn
import KE.KTab
import PyProof.CompFree
import PyProof.NeKinds
import PyProof.CompMap
import KE.KDictOf
import KE.KRevIter
import PyProof.WalksEnum
import PyProof.ListRange
import PyProof.ZipIter
import PyProof.Rows.Range3
import PyProof.CompUse
import PyProof.Draws
import KE.KDictList
import PyProof.DictIter
import PyProof.DictWalks
import PyProof.InstEq
import PyProof.Rows.FactsCmp_str
import PySem.Builtin.Str.Common
import PyProof.TableCode
import PySem.Challenge.RW_plainspeak_k23_texts_that_are_too_long
set_option hygiene false
local macro_rules| `(tactic|walk_at "s")=> `(tactic|exact⟨rfl,rfl,rfl,by decide+kernel,rfl,by decide+kernel,by decide+kernel⟩)
local macro_rules| `(tactic|walk_at "i")=> `(tactic|intro cdv A outer s H vs Q E hr h)
local macro_rules| `(tactic|walk_at "l")=> `(tactic|(intro vs H Q E h;first|(rcases h;subst_vars;rfl)|((repeat (obtain⟨_,h⟩:=h));subst_vars;rfl)))
local macro_rules| `(tactic|walk_at "d")=> `(tactic|dsimp only[kO,List.set])
local macro_rules| `(tactic|walk_at "e")=> `(tactic|try dsimp only[kD])
local macro_rules| `(tactic|walk_at "b1")=> `(tactic|exact fun F=>F.binds fun _ _ _ _ _ _ s us _ hl=>by obtain⟨a0,rfl⟩:=us1 hl;exact .of_eq rfl)
local macro_rules| `(tactic|walk_at "b2")=> `(tactic|exact fun F=>F.binds fun _ _ _ _ _ _ s us _ hl=>by obtain⟨a0,a1,rfl⟩:=us2 hl;exact .of_eq rfl)
local macro_rules| `(tactic|walk_at "b3")=> `(tactic|exact fun F=>F.binds fun _ _ _ _ _ _ s us _ hl=>by obtain⟨a0,a1,a2,rfl⟩:=us3 hl;exact .of_eq rfl)
local macro_rules| `(tactic|walk_at "b4")=> `(tactic|exact fun F=>F.binds fun _ _ _ _ _ _ s us _ hl=>by obtain⟨a0,a1,a2,a3,rfl⟩:=us4 hl;exact .of_eq rfl)
set_option hygiene true
theorem zl0:0<=PySem.sizeLine:=by decide
theorem zl1:1<=PySem.sizeLine:=by decide
theorem zl2:2<=PySem.sizeLine:=by decide
theorem zl3:3<=PySem.sizeLine:=by decide
theorem zl4:4<=PySem.sizeLine:=by decide
theorem oI{α:Sort _}{a:α}{p:Prop}:a=a\/p:=Or.inl rfl
abbrev Fg:=PySem.W.Frag
abbrev aq0:=@PySem.F.plainAttrs_list
abbrev aq1:=@PySem.F.slot_list_append
abbrev aq2:=@PySem.F.type_list_append
abbrev aq3:=@PySem.F.slot_list_pop
abbrev aq4:=@PySem.F.type_list_pop
abbrev aq5:=@Option.bind_eq_some_iff
abbrev aq6:=@Option.map_eq_some_iff
abbrev aq7:=@Nat.le_refl
abbrev aq8:=@PySem.Heap.lt_size
abbrev aq9:=@Nat.ne_of_lt
abbrev aq10:=@List.mem_cons_of_mem
abbrev aq11:=@List.mem_append_right
abbrev aq13:=@PySem.Heap.get?_push_of_some
abbrev aq14:=@PySem.Heap.get?_push_size
abbrev aq15:=@List.getElem?_eq_getElem
abbrev aq16:=@List.length_map
abbrev aq17:=@List.length_cons
abbrev aq18:=@List.size_toArray
abbrev aq19:=@List.getElem?_map
abbrev aq20:=@List.mem_singleton
abbrev aq21:=@List.map_append
abbrev aq22:=@List.mem_cons_self
abbrev aq23:=@List.mem_of_getElem?
abbrev aq26:=@PyProof.Rows.boot_isinstance
abbrev aq27:=@PySem.boot_len
abbrev aq28:=@PyProof.Rows.KTD.datumAt
noncomputable section
namespace PySem.W.Fast
def tw1273105894350933610:=0
def tw7670159224150047309:=0
def tw14465508789306207724:=0
def tw13650335171646064216:=0
def tw7967234863288686476:=0
def tw8443362443674823985:=0
def tw11790328084971335932:=0
def tw7235326974766526007:=0
def tw12414626905186827835:=0
def tw12917766447091657603:=0
def tw5034896941494393597:=0
def tw2816040570926639397:=0
def tw16323136285430913739:=0
def tw4033680013551019813:=0
def tw7326206825820498422:=0
def tw17316831868308857480:=0
def tw12417248496969637882:=0
def tw1945634456836589325:=0
def tw4505242273490747996:=0
def tw15717249053475472102:=0
def tw7813934605681336924:=0
def tw8182221815329657981:=0
def tw9774453571088336135:=0
def tw16384700657634698813:=0
def tw3651136590700138505:=0
def tw5337872855784282444:=0
def tw9111319870148832934:=0
def tw9236286513897327223:=0
def tw9449715146533707431:=0
def tw7927387840443909375:=0
def tw8703725159035015135:=0
def tw13472864020236825353:=0
def tw7843063792831926079:=0
def tw8355168329729345638:=0
def tw2841419495523830532:=0
def tw11571554350976167148:=0
def tw13779780466743089875:=0
def tw11906905511254231926:=0
def tw18326758411781749658:=0
def tw18290545455075915134:=0
def tw248629681981819521:=0
def tw16313212708315834108:=0
def tw9400972914407054308:=0
def tw5786293043849256780:=0
def tw4379851336257640242:=0
def tw6335670902451012344:=0
def tw7209419980546950099:=0
def tw2062975178881039129:=0
def tw2406877769125393321:=0
def tw1975092936981771401:=0
def tw2289093912884672001:=0
def tw18084724380179653687:=0
def tw1591104201016965101:=0
def tw6026504057155745595:=0
def tw17879244122705505045:=0
def tw16239374344800316064:=0
def tw5565403230843062011:=0
def tw13012791829230446220:=0
def tw13800654020396259059:=0
def tw18162816383970977846:=0
def tw2689384811683763079:=0
def tw8448074610504306672:=0
def tw14558072457764503944:=0
def tw5302374734671222914:=0
def tw6426872874079766021:=0
def tw2780200514482291930:=0
def tw8119940561983502293:=0
def tw990297328954777418:=0
def tw15014888030439286360:=0
def tw890283682293428054:=0
def tw9778086178259569299:=0
def tw7754326532300713681:=0
def tw6285403174166935219:=0
def tw4885628919163923653:=0
def tw3243906171740582440:=0
def tw1121919043682034133:=0
def tw77301639415188580:=0
def tw1836888318598106172:=0
def tw7692199668075812790:=0
def tw8145084477457756883:=0
def tw7906070626093498895:=0
def tw3820729381611899414:=0
def tw14189713826132472978:=0
def tw3929464873576821577:=0
def tw4812695698069999928:=0
def tw14721151395875669054:=0
def tw6275812305451220163:=0
def tw14043251602833600038:=0
def tw285352496697682932:=0
def tw16264496096629301128:=0
def tw1323518548971843048:=0
def tw2538110704354183405:=0
def tw628162369615414192:=0
def tw7679184804185261543:=0
def tw16104993343325356670:=0
def tw11930765821974422224:=0
def tw7722152707051189707:=0
def tw8158454911935945161:=0
def tw9578597582894706058:=0
def tw7926494719394336550:=0
def tw4441897250039992069:=0
def tw11766065365610404618:=0
def tw3230442220824232179:=0
def tw12607633712922316278:=0
def tw9425758125664020800:=0
def tw7338431266950954204:=0
def tw17606505803027639965:=0
def tw17946294827425544291:=0
def tw9834983159999018645:=0
def tw15777477643740026807:=0
def tw3936937853393959771:=0
def tw6394170025169472733:=0
def tw17776381153582108680:=0
def tw16690377827882268312:=0
def tw1710808975355938972:=0
def tw7198114070393035905:=0
def tw17116522073091879692:=0
def tw6933706757355419851:=0
def tw16637052656654214122:=0
def tw13588144156482391502:=0
def tw1399965070641770267:=0
def tw5348113073951078659:=0
def tw208759621057916152:=0
def tw10151377812391437559:=0
def tw2967616198543262149:=0
def tw1069150329926983727:=0
def tw15193127553856707036:=0
def tw11415299964754961471:=0
def tw752970962688671038:=0
def tw13719500155691238880:=0
def tw1329338942189624740:=0
def tw14002876111047599000:=0
def tw15943669947890725101:=0
def tw12648188895806472663:=0
def tw11160470712084224457:=0
def tw11007078587707903536:=0
def tw2207896853164567842:=0
def tw5617906760534578056:=0
def tw18194208444910726718:=0
def tw10157282205853106519:=0
def tw14605404369752355695:=0
def tw11442368133417766840:=0
def tw2130082823645322654:=0
def tw17297560027181862922:=0
def tw9471837522633419278:=0
def tw9879918566633618650:=0
def tw15176323426514251051:=0
def tw12031680410706719565:=0
def tw18282217324626035613:=0
def tw397579921752104989:=0
def tw2647190526748217230:=0
def tw13504204544679883229:=0
def tw13738311262678004696:=0
def tw4386375988939583561:=0
def tw16906331363568643030:=0
def tw6309940590432025322:=0
def tw8574179597203418997:=0
def tw16620782076184238453:=0
def tw15765613430254205432:=0
def tw15832507600500055601:=0
def tw5348381253507359939:=0
def tw700417133293548431:=0
def tw18200555555966087350:=0
def tw14029370264612705651:=0
def tw14501520709956236052:=0
def tw8996170562611943831:=0
def tw11265248132201912201:=0
def tw15937559672807150894:=0
def tw282448368733147798:=0
def tw9447854964021593517:=0
def tw1435086294654648762:=0
def tw2573996847305097849:=0
def tw9532817432770519345:=0
def tw16657627653873062943:=0
def tw7775247422428986051:=0
def tw15429730814494947317:=0
def tw15475457416124637568:=0
def tw7263394610729592153:=0
def tw3241600821040540984:=0
def tw11325358927455775429:=0
def tw3130608616363939130:=0
def tw1351277791422356146:=0
def tw9004870929753654032:=0
def tw15226929276294252657:=0
def tw7399450892662156261:=0
def tw4433370146432742442:=0
def tw3562836656758657480:=0
def tw10157486218893355364:=0
def tw2147123844629194476:=0
def tw2311026514214967579:=0
def tw974107567064619768:=0
def tw4807691815832560428:=0
def tw13766592743985260886:=0
def tw15944104370222745350:=0
def tw15022479513684066431:=0
def tw5314201683825004645:=0
def tw7120225069863449905:=0
def tw16122440690361442401:=0
def tw18322725095423555807:=0
def tw9347582473170987760:=0
def tw18278856766331638982:=0
def tw13052719001562029083:=0
def tw4310927308614924530:=0
def tw2974931725107098983:=0
def tw16780250643141054705:=0
def tw8503938132946803600:=0
def tw9679701156563990297:=0
def tw16771935061050505401:=0
def tw15480860980862680306:=0
def tw10393749742106137166:=0
def tw7534681818475150599:=0
def tw4247484257208200127:=0
def tw6040094916685589766:=0
def tw14677397315510877857:=0
def tw5326736948110594782:=0
def tw3531221203043874713:=0
def tw7260870200548567283:=0
def tw15943610147213586733:=0
def tw13664624888948422810:=0
def tw12890285019468914134:=0
def tw6513291578369499917:=0
def tw10807539195367402732:=0
def tw4533781450508977503:=0
def tw91465169262465278:=0
def tw4614466461730266610:=0
def tw10632096297201968365:=0
def tw4845136041271355827:=0
def tw1918882658315694753:=0
def tw9372481337158126355:=0
def tw11095129366606862331:=0
def tw4573148312738828108:=0
def tw2073604989012018602:=0
def tw2093910215686672172:=0
def tw12866386351797218445:=0
def tw13934897203139716765:=0
def tw10236052901647852863:=0
def tw1298733634931862619:=0
def tw5106135161323864589:=0
def tw2444730965520455805:=0
def tw4614037558367563973:=0
def tw4914620285888283272:=0
def tw4392384388284691481:=0
def tw7844647945291721314:=0
def tw8504392903403827275:=0
def tw6127354683579862135:=0
def tw1209959352253290281:=0
def tw14894992560116009752:=0
def tw10967961690993091367:=0
def tw2001932170627917052:=0
def tw11338846902239149024:=0
def tw2006400174067483105:=0
def tw772275489662883114:=0
def tw3462678404303450583:=0
def tw3936028141719786083:=0
def tw6921457901424913007:=0
def tw14516647485119479340:=0
def tw6840704164388197060:=0
def tw1289953407510545393:=0
def tw12665905597349622312:=0
def tw16983050908301227627:=0
def tw16809447282042196056:=0
def tw15486069297531832224:=0
def tw668718515086004609:=0
def tw10185023670988357781:=0
def tw10297021683677857814:=0
def tw16470156709531358015:=0
def tw6593255936296734319:=0
def tw8335923367517105732:=0
def tw5320966696422742716:=0
def tw5261524836446462727:=0
def tw12540984503368882167:=0
def tw2885922955200363334:=0
def tw9621130363210875578:=0
def tw17590157099053260650:=0
def tw11252194791161389295:=0
def tw12012194191720703538:=0
def tw17524649345160457212:=0
def tw14986488493718270387:=0
def tw11517583001163895762:=0
def tw8260713890569785882:=0
def tw9210663396519198575:=0
def tw1073085122974764768:=0
def tw8160900627188848248:=0
def tw13326331616929881750:=0
def tw8926669855490388934:=0
def tw844524852463523500:=0
def tw1288747373838630827:=0
def tw1009487706035697540:=0
def tw8181933485541074832:=0
def tw15846721824007981943:=0
def tw16780250189886636211:=0
def tw17984784956688254701:=0
def tw8996889788835561621:=0
def tw3548355727201089345:=0
def tw13227425414448177795:=0
def tw8163428247370354762:=0
def tw8473434966053673696:=0
def tw6744358770892380971:=0
def tw8535826479011434343:=0
def tw13524840166679096855:=0
def tw7751974513571276077:=0
def tw15175111166018267487:=0
def tw12865097824708683448:=0
def tw7572256444930783801:=0
def tw8093376012206466009:=0
def tw1014894758059196225:=0
def tw2844826732585890585:=0
def tw12412116495192736922:=0
def tw7629510926834334096:=0
def tw11876454940269908372:=0
def tw13352149713216534949:=0
def tw11939523792809098693:=0
def tw4779942296564137121:=0
def tw6522765632568890784:=0
def tw12565525636597093541:=0
def tw14467152888630941178:=0
def tw8547625060442363763:=0
def tw11751344573053155172:=0
def tw4265263534339105847:=0
def tw3290932085632954154:=0
def tw8185114478774680715:=0
def tw8996939434765112799:=0
def tw4499255778001161699:=0
def tw9380077325886957684:=0
def tw17288194269745681323:=0
def tw10441980623679839803:=0
def tw3536278492698992039:=0
def tw2851800824886961446:=0
def tw15277821470207297743:=0
def tw14239678863774343970:=0
def tw16225723070378023915:=0
def tw1761953373796160312:=0
def tw8789978283041946551:=0
def tw1000812578738755317:=0
def tw16733833058719947353:=0
def tw10004587015290944530:=0
def tw717403115970138727:=0
def tw10728215828341692347:=0
def tw9228311633377634025:=0
def tw3078156637552320421:=0
def tw10342630977914278453:=0
def tw1371494814871614463:=0
def tw7977509438384940320:=0
def tw13373803949920957047:=0
def tw8384211126885408282:=0
def tw659348803600958784:=0
def tw8519038879171634423:=0
def tw1045074589058702776:=0
def tw12393840219179074938:=0
def tw12052665106550823251:=0
def tw2862180724239279965:=0
def tw10986992045549468415:=0
def tw8921447080052245213:=0
def tw15130594837296425183:=0
def tw2952255207083553086:=0
def tw18139923796941477320:=0
def tw2645495570372633763:=0
def tw7387434794396130714:=0
def tw5941046742105727883:=0
def tw8393579444557692971:=0
def tw12276343990743931999:=0
def tw11835432083035506937:=0
def tw18253125820659226079:=0
def tw11316190729468497125:=0
def tw16853783698994211332:=0
def tw8639992201615376341:=0
def tw10543241282538641762:=0
def tw10879405576319473908:=0
def tw15736439395375052394:=0
def tw1339842397345271180:=0
def tw1215764996697365625:=0
def tw14236713427114716626:=0
def tw7669372542376508835:=0
def tw14208406749428567549:=0
def tw8160113542790076946:=0
end PySem.W.Fast
set_option Elab.async false
set_option linter.all false
set_option maxRecDepth 100000
namespace L2
open PySem PySem.Spec PyProof.Rows
abbrev Key:=Sum Int Str
def iI:Key->Value->Bool
 | .inl k,v=>Value.isInt k v
 | .inr x,v=>Value.isStrOf x v
def zS5(w:World):Key->Int
 | .inl k=>hashInt k
 | .inr x=>hashStr w x
theorem jH:∀{k:Key}{v:Value},iI k v=true->(∃i t,k=Sum.inl i/\v=Value.int i t)\/(∃x t,k=Sum.inr x/\v=Value.str x t)
 | .inl i,v,h=>by
  obtain⟨t,e⟩:=Value.isInt_shape (k:=i) (v:=v) h
  exact .inl ⟨i,t,rfl,e⟩
 | .inr x,v,h=>by
  obtain⟨t,e⟩:=Value.isStrOf_shape (x:=x) (v:=v) h
  exact .inr ⟨x,t,rfl,e⟩
theorem qQ4(i:Int)(t:Tok):iI (.inl i) (.int i t)=true:=by simp[iI,Value.isInt]
theorem qQ5(x:Str)(t:Tok):iI (.inr x) (.str x t)=true:=by simp[iI,Value.isStrOf]
theorem zKz(a b:Int):decide ((Sum.inl a:Key)=Sum.inl b)=(a==b):=by
 by_cases e:a=b
 ·subst e;simp
 ·have h:¬(Sum.inl a:Key)=Sum.inl b:=fun q=>e (Sum.inl.inj q)
  rw[decide_eq_false h]
  exact(beq_eq_false_iff_ne.mpr e).symm
theorem zKj(a b:Str):decide ((Sum.inr a:Key)=Sum.inr b)=decide (a=b):=by
 by_cases e:a=b
 ·subst e;simp
 ·have h:¬(Sum.inr a:Key)=Sum.inr b:=fun q=>e (Sum.inr.inj q)
  rw[decide_eq_false h,decide_eq_false e]
theorem zV0(a:Int)(b:Str):decide ((Sum.inl a:Key)=Sum.inr b)=false:=decide_eq_false (fun q=>nomatch q)
theorem zV1(a:Str)(b:Int):decide ((Sum.inr a:Key)=Sum.inl b)=false:=decide_eq_false (fun q=>nomatch q)
def jU(prog:Program)(w:World):PySem.KeyKind prog w Key where
 is:=iI
 hash:=zS5 w
 inj:=fun v a b ha hb=>by
  rcases jH ha with⟨i,t,rfl,rfl⟩|⟨x,t,rfl,rfl⟩
  ·rcases jH hb with⟨j,u,rfl,e⟩|⟨y,u,rfl,e⟩
   ·injection e with e1 _;rw[e1]
   ·exact nomatch e
  ·rcases jH hb with⟨j,u,rfl,e⟩|⟨y,u,rfl,e⟩
   ·exact nomatch e
   ·injection e with e1 _;rw[e1]
 byValue:=fun k v h=>by
  rcases jH h with⟨i,t,rfl,rfl⟩|⟨x,t,rfl,rfl⟩<;>rfl
 pyHash:=fun hv h=>by
  rcases jH hv with⟨i,t,rfl,rfl⟩|⟨x,t,rfl,rfl⟩
  ·exact wpAny_pyHash_int h
  ·exact wpAny_pyHash_str h
 eqBool:=fun hu hv h=>by
  rcases jH hu with⟨i,t,rfl,rfl⟩|⟨x,t,rfl,rfl⟩
  ·rcases jH hv with⟨j,u,rfl,rfl⟩|⟨y,u,rfl,rfl⟩
   ·rw[zKz]at h;exact wpAny_eqBool_int h
   ·rw[zV0]at h;exact SeqAt.EqAt.int_str i t y u _ _ _ _ h
  ·rcases jH hv with⟨j,u,rfl,rfl⟩|⟨y,u,rfl,rfl⟩
   ·rw[zV1]at h;exact SeqAt.EqAt.str_int x t j u _ _ _ _ h
   ·rw[zKj]at h;exact wpAny_eqBool_str h
 «strs»:=fun k x t v h=>by
  rcases jH h with⟨i,u,rfl,e⟩|⟨y,u,rfl,e⟩
  ·exact nomatch e
  ·injection e with e1 _
   subst e1
   cases v<;>rfl
theorem pO(prog:Program)(w:World)(k:Key)(v:Value):(jU prog w).is k v=iI k v:=rfl
theorem bW(prog:Program)(w:World)(i:Int)(t:Tok):(jU prog w).is (.inl i) (.int i t)=true:=qQ4 i t
theorem bY(prog:Program)(w:World)(x:Str)(t:Tok):(jU prog w).is (.inr x) (.str x t)=true:=qQ5 x t
inductive V where
 |non|bl (b:Bool)|int (i:Int)|str (x:Str)|byt (b:Array UInt8)|flt (b:UInt64)|ref (a:Addr)|ty (n:String)
 deriving DecidableEq
def zG:V->Value->Prop
 | .non,u=>u=Value.none
 | .bl b,u=>u=Value.bool b
 | .int i,u=>∃t,u=Value.int i t
 | .str x,u=>∃t,u=Value.str x t
 | .byt b,u=>∃t,u=Value.bytes b t
 | .flt b,u=>∃t,u=Value.float b t
 | .ref a,u=>u=Value.ref a
 | .ty n,u=>u=Value.type n
abbrev Vals:List V->List Value->Prop:=Paired zG
theorem Vals.length{xs:List V}{us:List Value}(r:Vals xs us):xs.length=us.length:=Paired.length r
theorem Vals.get:∀{xs:List V}{us:List Value}{i:Nat}{x:V},Vals xs us->xs[i]? =some x->∃u,us[i]? =some u/\zG x u
 |_,_,_,_,.nil,e=>by simp at e
 |_,_,0,_,.cons r _,e=>by simp at e;subst e;exact⟨_,rfl,r⟩
 |_,_,i+1,x,.cons _ t,e=>by
  obtain⟨u,h1,h2⟩:=Vals.get (i:=i) (x:=x) t (by simpa using e)
  exact⟨u,by simpa using h1,h2⟩
theorem Vals.append:∀{xs ys:List V}{us ws:List Value},Vals xs us->Vals ys ws->Vals (xs++ys) (us++ws)
 |_,_,_,_,.nil,s=>s
 |_,_,_,_,.cons r t,s=>.cons r (Vals.append t s)
theorem Vals.take:∀{xs:List V}{us:List Value}(n:Nat),Vals xs us->Vals (xs.take n) (us.take n)
 |_,_,0,_=>.nil
 |_,_,_+1,.nil=>.nil
 |_,_,n+1,.cons r t=>.cons r (Vals.take n t)
theorem Vals.drop:∀{xs:List V}{us:List Value}(n:Nat),Vals xs us->Vals (xs.drop n) (us.drop n)
 |_,_,0,r=>r
 |_,_,_+1,.nil=>.nil
 |_,_,n+1,.cons _ t=>Vals.drop n t
def wO:Option V->Option Value->Prop
 |some v,some u=>zG v u
 |none,none=>True
 |_,_=>False
def KV{κ:Type}:List (κ×V)->List (κ×Value)->Prop:=Paired fun(p:κ×V)(q:κ×Value)=>p.1=q.1/\zG p.2 q.2
def kV:Key->V
 | .inl i=>.int i
 | .inr x=>.str x
inductive HO where
 |lst (xs:List V)
 |tup (xs:List V)
 |dK (kvs:List (Key×V))|dT (kvs:List (List Key×V))
 |set (S:Int->Bool) (n:Nat)
 |ins (C dx:Addr) (fs:List (Str×V))
 |own (x:Addr)
 |xd (fs:List (Str×V))
 |met (f x:Addr)
 |rng (lo hi:Int)
 |frz (o:Obj) (u:HO)
 |tbl (ps:Array Value)
 |ext (φ:Heap->Prop)
abbrev Hp:=Addr->Option HO
def upd(H:Hp)(a:Addr)(o:HO):Hp:=fun b=>if b=a then some o else H b
theorem qJ{H:Hp}{a:Addr}{o:HO}:upd H a o a=some o:=by unfold upd;rw[if_pos rfl]
theorem qL{H:Hp}{a b:Addr}{o:HO}(h:b≠a):upd H a o b=H b:=by unfold upd;rw[if_neg h]
theorem sM{H:Hp}{a:Addr}{o u:HO}:upd (upd H a o) a u=upd H a u:=by
 funext b;unfold upd;split<;>rfl
theorem xO{H:Hp}{a b:Addr}{o u:HO}(h:H a=some o)(h':H b=some u)(d:o≠u):a≠b:=by
 intro e;subst e;rw[h]at h';exact d (Option.some.inj h')
theorem qH{H:Hp}{a b:Addr}{o:HO}(h:H a=some o)(h':H b=none):a≠b:=by
 intro e;subst e;rw[h]at h';cases h'
section
variable (P:Program) (w:World)
def jP(H:Hp)(h:Heap)(a:Addr):HO->Prop
 | .lst xs=>xs.length<=sizeLine/\∃(its:List Value)(n:Nat),Vals xs its/\h.get? a=some {cls:=.type "list",data:=.seq its.toArray n}
 | .tup xs=>xs.length<=sizeLine/\∃its:List Value,Vals xs its/\IsTup h a its.toArray
 | .dK kvs=>kvs.length<=sizeLine/\(a==sysModules)=false/\∃vs,KV kvs vs/\h.DictOf (jU P w) a vs
 | .dT kvs=>kvs.length<=sizeLine/\(a==sysModules)=false/\∃xs:List (List Key×Addr×Value),
   Paired (fun(p:List Key×V)(q:List Key×Addr×Value)=>p.1=q.1/\H q.2.1=some (.tup (p.1.map kV))/\zG p.2 q.2.2) kvs xs/\
   ∃o es ep,h.get? a=some o/\o.ExactDict/\o.data= .dict es ep/\es.toList=xs.map (entryOfKey (tupleKind (jU P w)))/\(xs.map (·.1)).Nodup
 | .set S n=>h.SetOf (intKind P w) a S n
 | .ins C dx fs=>H dx=some (.own a)/\fs.length<=1000/\dx≠a/\h.get? a=some (PySem.W.instObj C dx)/\
   ∃mA,h.Ns1 dx mA/\(∀f,wO (fs.lookup f) (mA f))/\PySem.Within mA (fs.map (·.1))
 | .own _=>∃o,h.get? a=some o
 | .xd fs=>∃mA,h.Ns1 a mA/\∀f,wO (fs.lookup f) (mA f)
 | .rng lo hi=>∃t u v,h.get? a=some {cls:=.type "range",data:=.fields #[.int lo t,.int hi u,.int 1 v]}
 | .frz o u=>h.get? a=some o/\jP H h a u
 | .tbl ps=>h.get? a=some {cls:=.none,data:=.fields ps}
 | .met f x=>h.get? a=some (PySem.W.methodObj (.ref f) (.ref x))
 | .ext φ=>φ h/\(∃o,h.get? a=some o)/\∀h1 h2:Heap,φ h1->(∀o,h1.get? a=some o->h2.get? a=some o)->φ h2
def HOk(H:Hp)(h:Heap):Prop:=∀a o,H a=some o->jP P w H h a o
end
section
variable {P:Program} {w:World} {H H':Hp} {h h':Heap} {a:Addr} {o:HO}
theorem jP.lt(x:jP P w H h a o):a<h.objs.size:=by
 cases o with
 |lst xs=>obtain⟨_,_,_,_,e⟩:=x;exact aq8 e
 |tup xs=>obtain⟨_,_,_,p⟩:=x;exact p.lt
 |dK kvs=>obtain⟨_,_,_,_,o,_,_,e,_⟩:=x;exact aq8 e
 |dT kvs=>obtain⟨_,_,_,_,o,_,_,e,_⟩:=x;exact aq8 e
 |set S n=>obtain⟨o,_,_,_,e,_⟩:=x;exact aq8 e
 |ins C dx fs=>obtain⟨_,_,_,e,_⟩:=x;exact aq8 e
 |own y=>obtain⟨_,e⟩:=x;exact aq8 e
 |xd fs=>obtain⟨_,⟨_,_,_,e,_⟩,_⟩:=x;exact aq8 e
 |rng lo hi=>obtain⟨_,_,_,e⟩:=x;exact aq8 e
 |frz ob u=>obtain⟨e,_⟩:=x;exact aq8 e
 |tbl ps=>exact aq8 (show h.get? a=some _ from x)
 |met f y=>exact aq8 (show h.get? a=some _ from x)
 |ext φ=>obtain⟨_,⟨_,e⟩,_⟩:=x;exact aq8 e
theorem Paired.mapP{α β:Type}{F G:α->β->Prop}:∀{l₁:List α}{l₂:List β},Paired F l₁ l₂->(∀a b,F a b->G a b)->Paired G l₁ l₂
 |_,_,.nil,_=>.nil
 |_,_,.cons r t,f=>.cons (f _ _ r) (Paired.mapP t f)
theorem jP.stay(x:jP P w H h a o)(k:∀b u,(b=a\/H b=some (.own a))->h.get? b=some u->h'.get? b=some u)
  (ho:∀b,H b=some (.own a)->H' b=some (.own a))(ht:∀b xs,H b=some (.tup xs)->H' b=some (.tup xs)):jP P w H' h' a o:=by
 induction o with
 |lst xs=>obtain⟨z,its,n,r,e⟩:=x;exact⟨z,its,n,r,k _ _ (.inl rfl) e⟩
 |tup xs=>obtain⟨z,its,r,ob,e,c⟩:=x;exact⟨z,its,r,ob,k _ _ (.inl rfl) e,c⟩
 |dK kvs=>obtain⟨z,y,vs,r,ob,es,ep,e,c⟩:=x;exact⟨z,y,vs,r,ob,es,ep,k _ _ (.inl rfl) e,c⟩
 |dT kvs=>
  obtain⟨z,y,xs,r,ob,es,ep,e,c⟩:=x
  exact⟨z,y,xs,Paired.mapP r fun p q z=>⟨z.1,ht _ _ z.2.1,z.2.2⟩,ob,es,ep,k _ _ (.inl rfl) e,c⟩
 |set S n=>obtain⟨ob,es,ep,t,e,c⟩:=x;exact⟨ob,es,ep,t,k _ _ (.inl rfl) e,c⟩
 |ins C dx fs=>
  obtain⟨d,z,ne,e,mA,⟨od,es,ep,e2,c⟩,r⟩:=x
  exact⟨ho _ d,z,ne,k _ _ (.inl rfl) e,mA,⟨od,es,ep,k _ _ (.inr d) e2,c⟩,r⟩
 |own y=>obtain⟨ob,e⟩:=x;exact⟨ob,k _ _ (.inl rfl) e⟩
 |xd fs=>obtain⟨mA,⟨od,es,ep,e,c⟩,r⟩:=x;exact⟨mA,⟨od,es,ep,k _ _ (.inl rfl) e,c⟩,r⟩
 |rng lo hi=>obtain⟨t,u,v,e⟩:=x;exact⟨t,u,v,k _ _ (.inl rfl) e⟩
 |frz ob u ih=>obtain⟨e,q⟩:=x;exact⟨k _ _ (.inl rfl) e,ih q⟩
 |tbl ps=>
  have e:h.get? a=some {cls:=.none,data:=.fields ps}:=x
  show h'.get? a=some {cls:=.none,data:=.fields ps}
  exact k a _ (.inl rfl) e
 |met f y=>
  have e:h.get? a=some (PySem.W.methodObj (.ref f) (.ref y)):=x
  show h'.get? a=some (PySem.W.methodObj (.ref f) (.ref y))
  exact k a _ (.inl rfl) e
 |ext φ=>obtain⟨p,⟨o,e⟩,st⟩:=x;exact⟨st _ _ p fun o q=>k _ _ (.inl rfl) q,⟨o,k _ _ (.inl rfl) e⟩,st⟩
theorem HOk.lt(x:HOk P w H h)(e:H a=some o):a<h.objs.size:=(x a o e).lt
theorem HOk.fresh(x:HOk P w H h)(e:h.objs.size<=a):H a=none:=by
 cases q:H a with
 |none=>rfl
 |some u=>exact absurd (Nat.lt_of_lt_of_le (x.lt q) e) (Nat.lt_irrefl _)
theorem HOk.kept(x:HOk P w H h)(k:∀b u,h.get? b=some u->h'.get? b=some u):HOk P w H h':=fun a o e=>
 (x a o e).stay (fun b u _ q=>k b u q) (fun _ q=>q) fun _ _ q=>q
theorem HOk.laid(x:HOk P w H h)(k:∀b u,h.get? b=some u->h'.get? b=some u)(hp:h.objs.size<=a)(new:jP P w (upd H a o) h' a o):HOk P w (upd H a o) h':=fun b u e=>by
 have hn:=x.fresh hp
 by_cases hb:b=a
 ·subst hb;rw[qJ]at e;cases e;exact new
 ·rw[qL hb]at e
  exact(x b u e).stay (fun c v _ q=>k c v q) (fun c q=>by rw[qL (qH q hn)];exact q) fun c xs q=>by rw[qL (qH q hn)];exact q
end
def Rd(H:Hp)(a:Addr)(u:HO):Prop:=H a=some u\/∃o,H a=some (.frz o u)
theorem Rd.ok{P:Program}{w:World}{H:Hp}{h:Heap}{a:Addr}{u:HO}(r:Rd H a u)(x:HOk P w H h):jP P w H h a u:=by
 rcases r with r|⟨o,r⟩
 ·exact x a u r
 ·obtain⟨_,q⟩:=x a _ r
  exact q
def Mut:Option HO->Prop
 |some (.lst _)=>True
 |some (.dK _)=>True
 |some (.dT _)=>True
 |some (.set _ _)=>True
 |some (.ins _ _ _)=>True
 |some (.ext _)=>True
 |_=>False
section
variable {P:Program} {w:World} {H:Hp} {h h':Heap} {x e:Addr} {o':HO}
theorem HOk.write(ok:HOk P w H h)(mu:Mut (H x))(he:e=x\/H e=some (.own x))(k:∀b u,b≠e->h.get? b=some u->h'.get? b=some u)(heo:∃u,h'.get? e=some u)
  (new:jP P w (upd H x o') h' x o'):HOk P w (upd H x o') h':=fun b u q=>by
 have nown:∀c y,H c=some (.own y)->c≠x:=fun c y r z=>by subst z;rw[r]at mu;exact mu
 have ntup:∀c xs,H c=some (.tup xs)->c≠x:=fun c xs r z=>by subst z;rw[r]at mu;exact mu
 by_cases hb:b=x
 ·subst hb;rw[qJ]at q;cases q;exact new
 ·rw[qL hb]at q
  by_cases hbe:b=e
  ·have q':H b=some (.own x):=by
    rcases he with z|z
    ·exact absurd (hbe.trans z) hb
    ·rw[hbe];exact z
   rw[q]at q';cases q'
   obtain⟨v,hv⟩:=heo
   exact⟨v,by rw[hbe];exact hv⟩
  ·refine(ok b u q).stay (fun c v hc r=>k c v ?_ r) (fun c r=>by rw[qL (nown c b r)];exact r) fun c xs r=>by rw[qL (ntup c xs r)];exact r
   rcases hc with rfl|hc
   ·exact hbe
   ·rintro rfl
    rcases he with z|z
    ·exact nown c b hc z
    ·rw[hc]at z;cases z;exact hb rfl
end
structure Un(fs ex:List Addr)(H H':Hp)(h h':Heap):Prop where
 keep:∀b o,h.get? b=some o->H b=none->b∉fs->b∉ex->h'.get? b=some o
 slot:∀b o,h.get? b=some o->H b=none->b∈fs->b∉ex->∃sl,h'.get? b=some {o with slots:=sl}
 free:∀b o,h.get? b=some o->H b=none->b∉ex->H' b=none
 there:∀b o,h.get? b=some o->b∉ex->∃o',h'.get? b=some o'
 tups:∀b xs,H b=some (.tup xs)->H' b=some (.tup xs)
 frzs:∀b o u,H b=some (.frz o u)->H' b=some (.frz o u)
 tbls:∀b ps,H b=some (.tbl ps)->∃more,H' b=some (.tbl (ps++more))
section
variable {fs fs' ex ex':List Addr} {H H1 H2:Hp} {h h1 h2 h':Heap} {a x e:Addr} {o:HO}
theorem Un.any(u:Un fs ex H H1 h h1){b:Addr}{ob:Obj}(q:h.get? b=some ob)(n:H b=none)(hx:b∉ex):∃sl,h1.get? b=some {ob with slots:=sl}:=by
 by_cases hb:b∈fs
 ·exact u.slot b ob q n hb hx
 ·exact⟨ob.slots,u.keep b ob q n hb hx⟩
theorem Un.kept(k:∀b u,h.get? b=some u->h'.get? b=some u):Un fs ex H H h h':=
 ⟨fun b ob q _ _ _=>k b ob q,fun b ob q _ _ _=>⟨ob.slots,k b ob q⟩,fun _ _ _ n _=>n,fun b ob q _=>⟨ob,k b ob q⟩,fun _ _ q=>q,fun _ _ _ q=>q,fun _ ps q=>⟨#[],by rw[q];simp⟩⟩
theorem Un.refl:Un fs ex H H h h:=Un.kept fun _ _ q=>q
theorem Un.laid(k:∀b u,h.get? b=some u->h'.get? b=some u)(hp:h.objs.size<=a)(hn:H a=none):Un fs ex H (upd H a o) h h' where
 keep:=fun b u q _ _ _=>k b u q
 slot:=fun b u q _ _ _=>⟨u.slots,k b u q⟩
 free:=fun b u q n _=>by rw[qL (aq9 (Nat.lt_of_lt_of_le (aq8 q) hp))];exact n
 there:=fun b u q _=>⟨u,k b u q⟩
 tups:=fun b xs q=>by rw[qL (qH q hn)];exact q
 frzs:=fun b u xs q=>by rw[qL (qH q hn)];exact q
 tbls:=fun b ps q=>⟨#[],by rw[qL (qH q hn),q];simp⟩
theorem Un.write(mu:Mut (H x))(he:e=x\/H e=some (.own x))(k:∀b u,b≠e->h.get? b=some u->h'.get? b=some u)(heo:∃u,h'.get? e=some u):Un fs ex H (upd H x o) h h':=by
 have hx:∀b,H b=none->b≠x:=fun b n z=>by subst z;rw[n]at mu;exact mu
 have hb:∀b,H b=none->b≠e:=fun b n z=>by
  subst z
  rcases he with r|r
  ·exact hx b n r
  ·rw[n]at r;cases r
 have hm:∀b u,H b=some u->¬Mut (some u)->b≠x:=fun b u q nm z=>by subst z;rw[q]at mu;exact nm mu
 refine⟨fun b u q n _ _=>k b u (hb b n) q,fun b u q n _ _=>⟨u.slots,k b u (hb b n) q⟩,fun b u q n _=>by rw[qL (hx b n)];exact n,fun b u q _=>?_,
  fun b xs q=>by rw[qL (hm b _ q fun z=>z)];exact q,fun b u xs q=>by rw[qL (hm b _ q fun z=>z)];exact q,fun b ps q=>⟨#[],by rw[qL (hm b _ q fun z=>z),q];simp⟩⟩
 by_cases hbe:b=e
 ·subst hbe;exact heo
 ·exact⟨u,k b u hbe q⟩
end
def trk(h:Heap)(H:Hp):List Addr:=(List.range h.objs.size).filter fun a=>(H a).isSome
def gT(h:Heap)(H:Hp):Heap:=PySem.W.hideAll h (trk h H)
theorem qQ6(h:Heap)(H:Hp):(gT h H).objs.size=h.objs.size:=PySem.W.hideAll_size _ _
theorem qK0{h:Heap}{H:Hp}{b:Addr}{o:Obj}(e:h.get? b=some o)(n:H b=none):(gT h H).get? b=some o:=
 PySem.W.hideAll_get _ e fun hm=>by
  have q:(H b).isSome=true:=(List.mem_filter.mp hm).2
  rw[n]at q;simp at q
theorem qD8{h:Heap}{H:Hp}{b:Addr}{o:Obj}(e:(gT h H).get? b=some o):h.get? b=some o/\H b=none:=by
 have e':h.get? b=some o:=PySem.W.of_hideAll (trk h H) e
 refine⟨e',?_⟩
 cases q:H b with
 |none=>rfl
 |some x=>
  have hm:b∈trk h H:=List.mem_filter.mpr ⟨List.mem_range.mpr (aq8 e'),by simp[q]⟩
  have z:(gT h H).get? b=none:=PySem.W.hideAll_none (trk h H) hm
  rw[z]at e;cases e
def allNews(g h:Heap)(L:Addr):List (Addr×Obj):=(List.range h.objs.size).filterMap fun a=>if a=L\/(g.get? a).isSome=true then none else(h.get? a).map fun o=>(a,o)
def rest(g h:Heap)(L d:Addr):List (Addr×Obj):=(allNews g h L).filter fun p=>decide (p.1≠d)
structure Mod(K:Fg)(mg:Str->Option Value)(base:Heap):Prop where
 kin:K.In base
 glob:base.Ns mainGlobals mg
 blt:∃mb,base.Ns builtinsNs mb/\∀x:Str,x≠"__name__"->mb x=bootBuiltins x
 nolimit:base.NoLimit
structure Cx where
 prog:Program
 w:World
 K:Fg
 mg:Str->Option Value
 base:Heap
 A:Around
 N:List Str
 s₀:Shared
 H₀:Hp
 env:Env
 outer:List Env
 stack:List Env
 ex:List Addr
 fn:Str->Bool
 calm:Bool
 pn:List (Addr×Obj)
 xe:Value->Shared->Prop
def frs(l:List Env):List Addr:=l.filterMap (·.frame)
abbrev Cx.fs(X:Cx):List Addr:=frs X.outer
def Vis(sc:Scope)(x:Str):Prop:=sc.names.lookup x=some .local\/sc.names.lookup x=some .cell\/sc.names.lookup x=some .free
def Loc(sc:Scope)(x:Str):Prop:=sc.names.lookup x=some .local\/sc.names.lookup x=some .cell
def Look(env:Env)(h:Heap)(m:Str->Option Value)(x:Str)(u:Value):Prop:=
 (env.kindOf x=some .local/\m x=some u)\/((env.kindOf x=some .cell\/env.kindOf x=some .free)/\∃c,env.cells.lookup x=some c/\h.IsCell c (some u))
structure Cx.Ok(X:Cx):Prop where
 mod:Mod X.K X.mg X.base
 kind:X.env.scope.kind= .function
 glob:X.env.globals=mainGlobals
 blt:X.env.builtins=builtinsNs
 above:X.s₀.heap.objs.size<=X.env.locals
 inj:∀x y c,X.env.cells.lookup x=some c->X.env.cells.lookup y=some c->x=y
 has:∀x,(X.env.kindOf x=some .cell\/X.env.kindOf x=some .free)->∃c,X.env.cells.lookup x=some c
 cab:∀x c,X.fn x=true->X.env.cells.lookup x=some c->X.s₀.heap.objs.size<=c
 hd:X.calm=true->X.A.handled=none
 frames:X.A.frames=some X.stack
 stk:X.stack=X.outer\/(X.stack=X.env::X.outer/\X.env.frame=some X.env.locals)
 exf:∀b∈X.ex,b≠X.env.locals/\∀x c,X.env.cells.lookup x=some c->c≠b
 bs:∀b o,X.base.get? b=some o->X.s₀.heap.get? b=some o/\X.H₀ b=none
 bsz:X.base.objs.size<=X.s₀.heap.objs.size
 noex:∀b o,X.base.get? b=some o->b∉X.ex
 exfs:∀b∈X.ex,b∉X.fs
 funs:X.s₀.heap.FunFrames X.base X.outer
 frf:∀b∈X.fs,X.H₀ b=none
structure Inv(X:Cx)(pins:List (Addr×Obj))(σ:List (Option V))(H:Hp)(s:Shared):Prop where
 ok:X.Ok
 os:s.os=X.s₀.os
 bare:AllBare s.gens
 base:Un X.fs X.ex X.H₀ H X.s₀.heap s.heap
 loc:∃m,s.heap.Ns X.env.locals m/\∀(i:Nat)(x:Str)(v:V),X.N[i]? =some x->σ[i]? =some (some v)->Vis X.env.scope x->∃u,zG v u/\Look X.env s.heap m x u
 cell:∀x c,X.env.cells.lookup x=some c->∃v,s.heap.IsCell c v
 free:H X.env.locals=none
 freeC:∀x c,X.env.cells.lookup x=some c->H c=none
 pin:∀p∈X.pn++pins,s.heap.get? p.1=some p.2/\H p.1=none/\p.1≠X.env.locals/\p.1∉X.fs/\∀v,p.2.data≠ .cell v
 hok:HOk X.prog X.w H s.heap
 len:σ.length=X.N.length
section
variable {X:Cx} {pins:List (Addr×Obj)} {σ:List (Option V)} {H H':Hp} {s:Shared} {h':Heap}
theorem Cx.Ok.nofr(ok:X.Ok){b:Addr}{o:Obj}(e:X.base.get? b=some o):b∉X.fs:=fun hb=>by
 have :=(ok.funs.mem hb).1
 rw[e]at this;cases this
theorem Inv.bs(I:Inv X pins σ H s):∀b o,X.base.get? b=some o->s.heap.get? b=some o/\H b=none:=fun b o e=>
 ⟨I.base.keep b o (I.ok.bs b o e).1 (I.ok.bs b o e).2 (I.ok.nofr e) (I.ok.noex b o e),I.base.free b o (I.ok.bs b o e).1 (I.ok.bs b o e).2 (I.ok.noex b o e)⟩
theorem Inv.bk(I:Inv X pins σ H s):∀b o,X.base.get? b=some o->s.heap.get? b=some o:=fun b o e=>(I.bs b o e).1
theorem Inv.mod(I:Inv X pins σ H s):Mod X.K X.mg X.base:=I.ok.mod
theorem Inv.kIn(I:Inv X pins σ H s):X.K.In s.heap:=I.ok.mod.kin.keeps I.bk
theorem Inv.lt(I:Inv X pins σ H s):X.env.locals<s.heap.objs.size:=let⟨_,hn,_⟩:=I.loc;hn.lt
theorem Inv.sz(I:Inv X pins σ H s):X.s₀.heap.objs.size<=s.heap.objs.size:=Nat.le_trans I.ok.above (Nat.le_of_lt I.lt)
theorem Inv.nofs(I:Inv X pins σ H s){a:Addr}(h:s.heap.objs.size<=a):a∉X.fs:=fun hb=>by
 obtain⟨_,o,ho,_⟩:=I.ok.funs.mem hb
 exact absurd (Nat.lt_of_lt_of_le (aq8 ho) (Nat.le_trans I.sz h)) (Nat.lt_irrefl _)
theorem Inv.cne(I:Inv X pins σ H s):∀x c,X.env.cells.lookup x=some c->c≠X.env.locals:=fun x c e z=>by
 obtain⟨v,o,ho,hd⟩:=I.cell x c e
 obtain⟨m,⟨o',es,ep,ho',hd',_⟩,_⟩:=I.loc
 rw[z,ho']at ho;cases ho;rw[hd']at hd;cases hd
theorem Inv.funs(I:Inv X pins σ H s):s.heap.FunFrames X.base X.outer:=by
 have all:∀(l:List Env),(∀b∈frs l,b∈X.fs)->X.s₀.heap.FunFrames X.base l->s.heap.FunFrames X.base l:=by
  intro l
  induction l with
  |nil=>intro _ _;trivial
  |cons env r ih=>
   intro hs hl
   obtain⟨hk,⟨L,o,hf,hn,ho,hd⟩,hr⟩:=hl
   have hL:L∈X.fs:=hs L (by unfold frs;rw[List.filterMap_cons,hf];exact aq22)
   obtain⟨sl,e⟩:=I.base.slot L o ho (I.ok.frf L hL) hL fun z=>I.ok.exfs L z hL
   exact⟨hk,⟨L,_,hf,hn,e,hd⟩,ih (fun b hb=>hs b (by unfold frs;rw[List.filterMap_cons,hf];exact aq10 _ hb)) hr⟩
 exact all X.outer (fun _ hb=>hb) I.ok.funs
theorem Inv.stack(I:Inv X pins σ H s):s.heap.FunFrames X.base X.stack:=by
 rcases I.ok.stk with e|⟨e,hf⟩
 ·rw[e];exact I.funs
 ·rw[e]
  obtain⟨m,hn,_⟩:=I.loc
  refine .cons (by rw[I.ok.kind];decide) hf hn ?_ I.funs
  exact Heap.get?_none_of_le (Nat.le_trans I.ok.bsz I.ok.above)
theorem Inv.stkSub(I:Inv X pins σ H s):∀b∈frs X.stack,b∈X.env.locals::X.fs:=fun b hb=>by
 rcases I.ok.stk with e|⟨e,hf⟩
 ·rw[e]at hb;exact aq10 _ hb
 ·rw[e]at hb
  unfold frs at hb
  rw[List.filterMap_cons,hf]at hb
  exact hb
theorem Inv.stkFree(I:Inv X pins σ H s):∀b∈frs X.stack,H b=none:=fun b hb=>by
 rcases List.mem_cons.mp (I.stkSub b hb)with e|hb
 ·rw[e];exact I.free
 ·obtain⟨_,o,ho,_⟩:=I.ok.funs.mem hb
  exact I.base.free b o ho (I.ok.frf b hb) fun z=>I.ok.exfs b z hb
theorem Inv.step{g':Array GenState}{t':Nat}{d':Drawn}{ch:List Addr}(I:Inv X pins σ H s)
  (hch:∀b∈ch,(b∈X.ex\/X.s₀.heap.objs.size<=b)/\b≠X.env.locals/\(∀x c,X.env.cells.lookup x=some c->c≠b)/\∀p∈X.pn++pins,p.1≠b)
  (keep:∀b o,b≠X.env.locals->b∉X.fs->b∉ch->s.heap.get? b=some o->H b=none->h'.get? b=some o)
  (slot:∀b o,b≠X.env.locals->b∈X.fs->b∉ch->s.heap.get? b=some o->H b=none->∃sl,h'.get? b=some {o with slots:=sl})(free:∀b o,b∉ch->s.heap.get? b=some o->H b=none->H' b=none)
  (there:∀b o,b∉ch->s.heap.get? b=some o->∃o',h'.get? b=some o')
  (tups:∀b xs,H b=some (.tup xs)->H' b=some (.tup xs))(frzs:∀b o u,H b=some (.frz o u)->H' b=some (.frz o u))(tbls:∀b ps,H b=some (.tbl ps)->∃more,H' b=some (.tbl (ps++more)))
  (ns:∀m,s.heap.Ns X.env.locals m->h'.Ns X.env.locals m)(hok:HOk X.prog X.w H' h')(hg:AllBare g'):
  Inv X pins σ H' {s with heap:=h',gens:=g',drawn:=d',toks:=t'}:=by
 have neL:∀b o,X.s₀.heap.get? b=some o->b≠X.env.locals:=fun b o e=>aq9 (Nat.lt_of_lt_of_le (aq8 e) I.ok.above)
 have neC:∀b o,X.s₀.heap.get? b=some o->b∉X.ex->b∉ch:=fun b o e hx hb=>by
  rcases(hch b hb).1 with z|z
  ·exact hx z
  ·exact absurd (Nat.lt_of_lt_of_le (aq8 e) z) (Nat.lt_irrefl _)
 have cellK:∀x c,X.env.cells.lookup x=some c->∀v,s.heap.IsCell c v->h'.IsCell c v:=fun x c e v⟨o,ho,hd⟩=>by
  have nch:c∉ch:=fun z=>(hch c z).2.2.1 x c e rfl
  by_cases hc:c∈X.fs
  ·obtain⟨sl,q⟩:=slot c o (I.cne x c e) hc nch ho (I.freeC x c e)
   exact⟨_,q,hd⟩
  ·exact⟨o,keep c o (I.cne x c e) hc nch ho (I.freeC x c e),hd⟩
 refine⟨I.ok,I.os,hg,⟨fun b o e n hb hx=>?_,fun b o e n hb hx=>?_,fun b o e n hx=>?_,fun b o e hx=>?_,fun b xs e=>tups b xs (I.base.tups b xs e),fun b o xs e=>frzs b o xs (I.base.frzs b o xs e),fun b ps e=>?_⟩,?_,fun x c e=>?_,?_,fun x c e=>?_,fun p hp=>?_,hok,I.len⟩
 ·exact keep b o (neL b o e) hb (neC b o e hx) (I.base.keep b o e n hb hx) (I.base.free b o e n hx)
 ·obtain⟨sl,e1⟩:=I.base.slot b o e n hb hx
  obtain⟨sl',e2⟩:=slot b _ (neL b o e) hb (neC b o e hx) e1 (I.base.free b o e n hx)
  exact⟨sl',e2⟩
 ·obtain⟨o',e1⟩:=I.base.there b o e hx
  exact free b o' (neC b o e hx) e1 (I.base.free b o e n hx)
 ·obtain⟨o',e1⟩:=I.base.there b o e hx
  exact there b o' (neC b o e hx) e1
 ·obtain⟨m1,e1⟩:=I.base.tbls b ps e
  obtain⟨m2,e2⟩:=tbls b _ e1
  exact⟨m1++m2,by rw[e2,Array.append_assoc]⟩
 ·obtain⟨m,hn,hl⟩:=I.loc
  refine⟨m,ns m hn,fun i x v e1 e2 e3=>?_⟩
  obtain⟨u,r,l⟩:=hl i x v e1 e2 e3
  refine⟨u,r,?_⟩
  rcases l with l|⟨k,c,e,z⟩
  ·exact .inl l
  ·exact .inr ⟨k,c,e,cellK x c e _ z⟩
 ·obtain⟨v,z⟩:=I.cell x c e
  exact⟨v,cellK x c e v z⟩
 ·obtain⟨m,⟨o,_,_,ho,_⟩,_⟩:=I.loc
  exact free _ o (fun z=>(hch _ z).2.1 rfl) ho I.free
 ·obtain⟨v,o,ho,hd⟩:=I.cell x c e
  exact free c o (fun z=>(hch c z).2.2.1 x c e rfl) ho (I.freeC x c e)
 ·obtain⟨e,n,ne,nf,d⟩:=I.pin p hp
  have nch:p.1∉ch:=fun z=>(hch p.1 z).2.2.2 p hp rfl
  exact⟨keep p.1 p.2 ne nf nch e n,free p.1 p.2 nch e n,ne,nf,d⟩
theorem Inv.un{t':Nat}(I:Inv X pins σ H s)(u:Un X.fs [] H H' s.heap h')(hok:HOk X.prog X.w H' h'):Inv X pins σ H' {s with heap:=h',toks:=t'}:=by
 obtain⟨m,⟨o,es,ep,ho,r⟩,_⟩:=id I.loc
 obtain⟨sl,hL⟩:=u.any ho I.free (by simp)
 exact I.step (g':=s.gens) (d':=s.drawn) (ch:=[]) (fun _ z=>nomatch z) (fun b o _ hb _ e n=>u.keep b o e n hb (by simp)) (fun b o _ hb _ e n=>u.slot b o e n hb (by simp)) (fun b o _ e n=>u.free b o e n (by simp)) (fun b o _ e=>u.there b o e (by simp)) u.tups u.frzs u.tbls (fun m' hm=>by
  obtain⟨o',es',ep',ho',r'⟩:=hm
  rw[ho]at ho';cases ho'
  exact⟨_,es',ep',hL,r'⟩) hok I.bare
theorem Inv.call{g':Array GenState}{t':Nat}{d':Drawn}{ch:List Addr}(I:Inv X pins σ H s)(u:Un (frs X.stack) ch H H' s.heap h')(hok:HOk X.prog X.w H' h')(hg:AllBare g')
  (hch:∀b∈ch,(b∈X.ex\/X.s₀.heap.objs.size<=b)/\b≠X.env.locals/\(∀x c,X.env.cells.lookup x=some c->c≠b)/\∀p∈X.pn++pins,p.1≠b):
  Inv X pins σ H' {s with heap:=h',gens:=g',drawn:=d',toks:=t'}:=by
 obtain⟨m,⟨o,es,ep,ho,r⟩,_⟩:=id I.loc
 obtain⟨sl,hL⟩:=u.any ho I.free fun z=>(hch _ z).2.1 rfl
 exact I.step (ch:=ch) hch (fun b o hL hb hc e n=>u.keep b o e n (fun z=>(List.mem_cons.mp (I.stkSub b z)).elim hL hb) hc) (fun b o _ _ hc e n=>u.any e n hc) (fun b o hc e n=>u.free b o e n hc) (fun b o hc e=>u.there b o e hc) u.tups u.frzs u.tbls (fun m' hm=>by
  obtain⟨o',es',ep',ho',r'⟩:=hm
  rw[ho]at ho';cases ho'
  exact⟨_,es',ep',hL,r'⟩) hok hg
theorem Inv.turned{t':Nat}{it:Addr}(I:Inv X pins σ H s)(k:∀b o,b≠it->s.heap.get? b=some o->h'.get? b=some o)(hn:H it=none)(hL:it≠X.env.locals)
  (h1:it∈X.ex\/X.s₀.heap.objs.size<=it)(h2:∀x c,X.env.cells.lookup x=some c->c≠it)(h3:∀p∈X.pn++pins,p.1≠it):Inv X pins σ H {s with heap:=h',toks:=t'}:=by
 have nit:∀b u,H b=some u->b≠it:=fun b u e z=>by rw[z,hn]at e;cases e
 refine I.step (g':=s.gens) (d':=s.drawn) (ch:=[it]) (fun b hb=>?_) (fun b o _ _ hc e _=>k b o (fun z=>hc (by simp[z])) e) (fun b o _ _ hc e _=>⟨o.slots,k b o (fun z=>hc (by simp[z])) e⟩) (fun _ _ _ _ n=>n)
  (fun b o hc e=>⟨o,k b o (fun z=>hc (by simp[z])) e⟩) (fun _ _ e=>e) (fun _ _ _ e=>e) (fun b ps e=>⟨#[],by rw[e];simp⟩) (fun m hm=>?_) (fun b u e=>?_) I.bare
 ·have e:b=it:=by simpa using hb
  subst e
  exact⟨h1,hL,h2,h3⟩
 ·obtain⟨o,es,ep,ho,r⟩:=hm
  exact⟨o,es,ep,k _ o (Ne.symm hL) ho,r⟩
 ·refine(I.hok b u e).stay (fun c v hc q=>k c v ?_ q) (fun _ q=>q) fun _ _ q=>q
  rcases hc with z|z
  ·rw[z];exact nit b u e
  ·exact nit c _ z
theorem Inv.tok(I:Inv X pins σ H s)(t:Nat):Inv X pins σ H {s with toks:=t}:=I.un (h':=s.heap) (t':=t) Un.refl I.hok
theorem Inv.kept{t':Nat}(I:Inv X pins σ H s)(k:∀b u,s.heap.get? b=some u->h'.get? b=some u):Inv X pins σ H {s with heap:=h',toks:=t'}:=I.un (Un.kept k) (I.hok.kept k)
theorem Inv.laid{a:Addr}{o:HO}{t':Nat}(I:Inv X pins σ H s)(k:∀b u,s.heap.get? b=some u->h'.get? b=some u)(hp:s.heap.objs.size<=a)(new:jP X.prog X.w (upd H a o) h' a o):
  Inv X pins σ (upd H a o) {s with heap:=h',toks:=t'}:=I.un (Un.laid k hp (I.hok.fresh hp)) (I.hok.laid k hp new)
theorem Inv.write{x e:Addr}{o:HO}{t':Nat}(I:Inv X pins σ H s)(mu:Mut (H x))(he:e=x\/H e=some (.own x))(k:∀b u,b≠e->s.heap.get? b=some u->h'.get? b=some u)(heo:∃u,h'.get? e=some u)
  (new:jP X.prog X.w (upd H x o) h' x o):Inv X pins σ (upd H x o) {s with heap:=h',toks:=t'}:=I.un (Un.write mu he k heo) (I.hok.write mu he k heo new)
theorem Inv.pins_of{pins':List (Addr×Obj)}(I:Inv X pins σ H s)(h:∀p∈pins',s.heap.get? p.1=some p.2/\H p.1=none/\p.1≠X.env.locals/\p.1∉X.fs/\∀v,p.2.data≠ .cell v):Inv X pins' σ H s:=
 ⟨I.ok,I.os,I.bare,I.base,I.loc,I.cell,I.free,I.freeC,fun p hp=>(List.mem_append.mp hp).elim (fun z=>I.pin p (List.mem_append_left _ z)) (h p),I.hok,I.len⟩
theorem bL{N:List Str}(hN:N.Nodup){i j:Nat}{x:Str}(a:N[i]? =some x)(b:N[j]? =some x):i=j:=by
 obtain⟨h1,e1⟩:=List.getElem?_eq_some_iff.mp a
 obtain⟨h2,e2⟩:=List.getElem?_eq_some_iff.mp b
 exact(List.getElem_inj hN).mp (e1.trans e2.symm)
theorem qQ7{M:Model}{A:Around}{E:Value->Shared->Prop}{i:Nat}{x:Str}{v:V}{u:Value}{Q:Unit->Shared->Prop}(I:Inv X pins σ H s)(hN:X.N.Nodup)(hi:X.N[i]? =some x)(hx:Loc X.env.scope x)(r:zG v u)
  (h:∀s',Inv X pins (σ.set i (some v)) H s'->(∃a,Heap.SameBut a s.heap s'.heap/\(a=X.env.locals\/X.env.cells.lookup x=some a))->Q () s')(hf:X.fn x=true\/X.env.scope.names.lookup x=some .local:=by first|exact .inl rfl|exact .inr rfl|assumption):wpAny M A (storeName X.env x u) Q E s:=by
 obtain⟨m,hn,hl⟩:=id I.loc
 have hcls:(X.env.scope.kind== .class||(X.env.scope.kind== .module&&X.env.locals !=X.env.globals))=false:=by rw[I.ok.kind];rfl
 have hiσ:i<σ.length:=by rw[I.len];exact(List.getElem?_eq_some_iff.mp hi).1
 have cne:=I.cne
 have tracked:∀{a:Addr}{h':Heap},(∃o,s.heap.get? a=some o/\H a=none)->Heap.SameBut a s.heap h'->HOk X.prog X.w H h':=fun {a h'}ha hs b ob e=>by
  obtain⟨_,_,hfree⟩:=ha
  refine(I.hok b ob e).stay (fun c w' hc q=>(hs.2 c ?_).trans q) (fun _ q=>q) fun _ _ q=>q
  rintro rfl
  rcases hc with rfl|hc
  ·rw[hfree]at e;cases e
  ·rw[hfree]at hc;cases hc
 rcases hx with hk|hk
 ·refine wpAny_storeName_local hk hn (fun h' hn' hs=>?_) hcls
  obtain⟨oL,_,_,hoL,_⟩:=id hn
  refine h _ ⟨I.ok,I.os,I.bare,⟨fun b o e n hb hx=>?_,fun b o e n hb hx=>?_,I.base.free,fun b o e hx=>?_,I.base.tups,I.base.frzs,I.base.tbls⟩,⟨_,hn',fun j y v' e1 e2 e3=>?_⟩,fun y c e=>?_,I.free,I.freeC,fun p hp=>?_,tracked ⟨oL,hoL,I.free⟩ hs,by simpa using I.len⟩ ⟨_,hs,.inl rfl⟩
  ·exact(hs.2 b (aq9 (Nat.lt_of_lt_of_le (aq8 e) I.ok.above))).trans (I.base.keep b o e n hb hx)
  ·obtain⟨sl,e1⟩:=I.base.slot b o e n hb hx
   exact⟨sl,(hs.2 b (aq9 (Nat.lt_of_lt_of_le (aq8 e) I.ok.above))).trans e1⟩
  ·obtain⟨o',e1⟩:=I.base.there b o e hx
   exact⟨o',(hs.2 b (aq9 (Nat.lt_of_lt_of_le (aq8 e) I.ok.above))).trans e1⟩
  ·by_cases hj:j=i
   ·subst hj
    rw[hi]at e1;cases e1
    rw[List.getElem?_set_self hiσ]at e2
    cases e2
    exact⟨u,r,.inl ⟨hk,by simp⟩⟩
   ·rw[List.getElem?_set_ne (Ne.symm hj)]at e2
    obtain⟨u',r',q⟩:=hl j y v' e1 e2 e3
    refine⟨u',r',?_⟩
    rcases q with⟨k,e⟩|⟨k,c,e,z⟩
    ·refine .inl ⟨k,?_⟩
     have :y≠x:=fun e=>hj (bL hN e1 (e▸hi))
     simp[this,e]
    ·exact .inr ⟨k,c,e,z.sameBut hs (cne y c e)⟩
  ·obtain⟨w',z⟩:=I.cell y c e
   exact⟨w',z.sameBut hs (cne y c e)⟩
  ·obtain⟨e,n,ne,nf,d⟩:=I.pin p hp
   exact⟨(hs.2 p.1 ne).trans e,n,ne,nf,d⟩
 ·have hfn:X.fn x=true:=by
   rcases hf with z|z
   ·exact z
   ·rw[z]at hk;cases hk
  obtain⟨c,hc⟩:=I.ok.has x (.inl hk)
  obtain⟨w',z⟩:=I.cell x c hc
  refine wpAny_storeName_cell I.ok.kind hk hc z (fun h' hc' hs=>?_)
  obtain⟨oc,hoc,hocd⟩:=id z
  refine h {s with heap:=h'} ⟨I.ok,I.os,I.bare,⟨fun b o e n hb hx=>?_,fun b o e n hb hx=>?_,I.base.free,fun b o e hx=>?_,I.base.tups,I.base.frzs,I.base.tbls⟩,⟨m,hn.sameBut hs (Ne.symm (cne x c hc)),fun j y v' e1 e2 e3=>?_⟩,fun y c' e=>?_,I.free,I.freeC,fun p hp=>?_,tracked ⟨oc,hoc,I.freeC x c hc⟩ hs,by simpa using I.len⟩ ⟨c,hs,.inr hc⟩
  ·exact(hs.2 b (aq9 (Nat.lt_of_lt_of_le (aq8 e) (I.ok.cab x c hfn hc)))).trans (I.base.keep b o e n hb hx)
  ·obtain⟨sl,e1⟩:=I.base.slot b o e n hb hx
   exact⟨sl,(hs.2 b (aq9 (Nat.lt_of_lt_of_le (aq8 e) (I.ok.cab x c hfn hc)))).trans e1⟩
  ·obtain⟨o',e1⟩:=I.base.there b o e hx
   exact⟨o',(hs.2 b (aq9 (Nat.lt_of_lt_of_le (aq8 e) (I.ok.cab x c hfn hc)))).trans e1⟩
  ·by_cases hj:j=i
   ·subst hj
    rw[hi]at e1;cases e1
    rw[List.getElem?_set_self hiσ]at e2
    cases e2
    exact⟨u,r,.inr ⟨.inl hk,c,hc,hc'⟩⟩
   ·rw[List.getElem?_set_ne (Ne.symm hj)]at e2
    obtain⟨u',r',q⟩:=hl j y v' e1 e2 e3
    refine⟨u',r',?_⟩
    rcases q with q|⟨k,c',e,z'⟩
    ·exact .inl q
    ·refine .inr ⟨k,c',e,z'.sameBut hs ?_⟩
     rintro rfl
     exact hj (bL hN e1 (I.ok.inj _ _ _ e hc▸hi))
  ·by_cases hcc:c'=c
   ·subst hcc;exact⟨_,hc'⟩
   ·obtain⟨w2,z2⟩:=I.cell y c' e
    exact⟨w2,z2.sameBut hs hcc⟩
  ·obtain⟨e,n,ne,nf,d⟩:=I.pin p hp
   refine⟨(hs.2 p.1 ?_).trans e,n,ne,nf,d⟩
   intro q
   rw[q,hoc]at e
   have q':oc=p.2:=Option.some.inj e
   exact d w' (by rw[<-q'];exact hocd)
theorem wI{M:Model}{A:Around}{E:Value->Shared->Prop}{i:Nat}{x:Str}{v:V}{u:Value}{Q:Unit->Shared->Prop}(I:Inv X pins σ H s)(hN:X.N.Nodup)(hi:X.N[i]? =some x)(hx:Loc X.env.scope x)(r:zG v u)
  (h:∀s',Inv X pins (σ.set i (some v)) H s'->Q () s')(hf:X.fn x=true\/X.env.scope.names.lookup x=some .local:=by first|exact .inl rfl|exact .inr rfl|assumption):wpAny M A (storeName X.env x u) Q E s:=
 qQ7 I hN hi hx r (fun s' I' _=>h s' I') hf
theorem Inv.call'{s':Shared}{ch:List Addr}(I:Inv X pins σ H s)(ho:s'.os=s.os)(u:Un (frs X.stack) ch H H' s.heap s'.heap)(hok:HOk X.prog X.w H' s'.heap)(hg:AllBare s'.gens)
  (hch:∀b∈ch,(b∈X.ex\/X.s₀.heap.objs.size<=b)/\b≠X.env.locals/\(∀x c,X.env.cells.lookup x=some c->c≠b)/\∀p∈X.pn++pins,p.1≠b):Inv X pins σ H' s':=by
 obtain⟨h',g',d',t',o'⟩:=s'
 have e:o'=s.os:=ho
 subst e
 exact I.call (g':=g') (t':=t') (d':=d') u hok hg hch
end
abbrev XK:=Value->Option Addr->Hp->Prop
abbrev St:=List (Option V)
abbrev VK:=V->Hp->Prop
abbrev TE:=St->Hp->VK->Prop
abbrev TT:=St->Hp->(Bool->Hp->Prop)->Prop
abbrev TA:=St->Hp->(List V->Hp->Prop)->Prop
structure Ends where
 nx:St->Hp->Prop
 rt:VK
 bk:St->Hp->Prop:=fun _ _=>False
 ct:St->Hp->Prop:=fun _ _=>False
abbrev TS:=Ends->St->Hp->Prop
inductive EP(X:Cx)(pins:List (Addr×Obj))(σ:St)(Q:VK)(u:Value)(s':Shared):Prop
 |mk (v:V) (H':Hp) (a_0:Inv X pins σ H' s') (a_1:zG v u) (a_2:Q v H'):EP X pins σ Q u s'
inductive TP(X:Cx)(pins:List (Addr×Obj))(σ:St)(Q:Bool->Hp->Prop)(b:Bool)(s':Shared):Prop
 |mk (H':Hp) (a_0:Inv X pins σ H' s') (a_1:Q b H'):TP X pins σ Q b s'
inductive AP(X:Cx)(pins:List (Addr×Obj))(σ:St)(Q:List V->Hp->Prop)(us:List Value)(s':Shared):Prop
 |mk (vs:List V) (H':Hp) (a_0:Inv X pins σ H' s') (a_1:Vals vs us) (a_2:Q vs H'):AP X pins σ Q us s'
def SP(X:Cx)(pins:List (Addr×Obj))(D:Ends)(f:Flow)(s':Shared):Prop:=
 match f with
 | .next=>∃σ' H',Inv X pins σ' H' s'/\D.nx σ' H'
 | .brk=>∃σ' H',Inv X pins σ' H' s'/\D.bk σ' H'
 | .cont=>∃σ' H',Inv X pins σ' H' s'/\D.ct σ' H'
 | .ret u=>∃v σ' H',Inv X pins σ' H' s'/\zG v u/\D.rt v H'
def PE(X:Cx)(e:Expr)(t:TE):Prop:=
 ∀(pins:List (Addr×Obj))(s:Shared)(σ:St)(H:Hp)(Q:VK),Inv X pins σ H s->t σ H Q->wpAny (model X.prog X.w) X.A (eval e X.env) (EP X pins σ Q) X.xe s
def PT(X:Cx)(e:Expr)(t:TT):Prop:=
 ∀(pins:List (Addr×Obj))(s:Shared)(σ:St)(H:Hp)(Q:Bool->Hp->Prop),Inv X pins σ H s->t σ H Q->wpAny (model X.prog X.w) X.A (isTrue e X.env (eval e X.env)) (TP X pins σ Q) X.xe s
def PW(X:Cx)(e:Expr)(t:TT):Prop:=
 ∀(whole:Sem Value)(pins:List (Addr×Obj))(s:Shared)(σ:St)(H:Hp)(Q:Bool->Hp->Prop),Inv X pins σ H s->t σ H Q->wpAny (model X.prog X.w) X.A (isTrue e X.env whole) (TP X pins σ Q) X.xe s
theorem PW.pt{X:Cx}{e:Expr}{t:TT}(h:PW X e t):PT X e t:=h _
def PA(X:Cx)(es:List Expr)(t:TA):Prop:=
 ∀(pos:Pos)(pins:List (Addr×Obj))(s:Shared)(σ:St)(H:Hp)(Q:List V->Hp->Prop),Inv X pins σ H s->t σ H Q->wpAny (model X.prog X.w) X.A (spliced (backTo pos (starEach es X.env))) (AP X pins σ Q) X.xe s
def PS(X:Cx)(st:Stmt)(t:TS):Prop:=
 ∀(pins:List (Addr×Obj))(s:Shared)(σ:St)(H:Hp)(D:Ends),Inv X pins σ H s->t D σ H->wpAny (model X.prog X.w) X.A (exec st X.env) (SP X pins D) X.xe s
def PSs(X:Cx)(st:List Stmt)(t:TS):Prop:=
 ∀(pins:List (Addr×Obj))(s:Shared)(σ:St)(H:Hp)(D:Ends),Inv X pins σ H s->t D σ H->wpAny (model X.prog X.w) X.A (execs st X.env) (SP X pins D) X.xe s
theorem thn{α:Type}{t:Sem α}{Q Q':α->Shared->Prop}{M:Model}{A:Around}{E:Value->Shared->Prop}{s:Shared}(h:wpAny M A t Q E s)(hQ:∀a s,Q a s->Q' a s):wpAny M A t Q' E s:=wpAny_mono h hQ fun _ _ x=>x
section
variable {X:Cx}
theorem bin{a b:Expr}{ta tb:TE}(ha:PE X a ta)(hb:PE X b tb){pins:List (Addr×Obj)}{s:Shared}{σ:St}{H:Hp}{R:V->V->Hp->Prop}(I:Inv X pins σ H s)(h:ta σ H fun x H1=>tb σ H1 fun y H2=>R x y H2)
  {α:Type}{Q:α->Shared->Prop}{f:Value->Value->Sem α}
  (hf:∀v u s2 x y H2,Inv X pins σ H2 s2->zG x v->zG y u->R x y H2->wpAny (model X.prog X.w) X.A (f v u) Q X.xe s2):
  wpAny (model X.prog X.w) X.A (eval a X.env) (fun v s₁=>wpAny (model X.prog X.w) X.A (eval b X.env) (fun u s₂=>wpAny (model X.prog X.w) X.A (f v u) Q X.xe s₂) X.xe s₁) X.xe s:=by
 refine thn (ha pins s σ H _ I h) fun v s1⟨x,H1,I1,r1,q1⟩=>?_
 refine thn (hb pins s1 σ H1 _ I1 q1) fun u s2⟨y,H2,I2,r2,q2⟩=>?_
 exact hf v u s2 x y H2 I2 r1 r2 q2
inductive qE3(i:Nat)(σ:St)(H:Hp)(Q:VK):Prop
 |mk (v:_) (a_0:σ[i]? =some (some v)) (a_1:Q v H):qE3 i σ H Q
def jV(i:Nat):TE:=fun σ H Q=>qE3 i σ H Q
def tC(v:V):TE:=fun _ H Q=>Q v H
theorem zV2{i:Nat}{x:Str}{pos:Pos}(hN:X.N[i]? =some x)(hv:Vis X.env.scope x)(hd:(x==("__debug__":Str))=false:=by decide)(hcd:(x==("__classdict__":Str))=false:=by decide):PE X (.Name x pos) (jV i):=by
 intro pins s σ H Q I h
 obtain⟨v,e,h⟩:=h
 obtain⟨m,hn,hl⟩:=I.loc
 obtain⟨u,r,l⟩:=hl i x v hN e hv
 have fin:EP X pins σ Q u s:=⟨v,H,I,r,h⟩
 rcases l with⟨hk,hm⟩|⟨hk,c,hc,hcell⟩
 ·exact wpAny_Name (wpAny_loadName_local I.ok.kind hk hn hm fin) hd
 ·rcases hk with hk|hk
  ·exact wpAny_Name (wpAny_loadName_cell I.ok.kind hk hc hcell fin) hd
  ·exact wpAny_Name (wpAny_loadName_free I.ok.kind hk hc hcell fin hcd) hd
theorem qV{i j pos}:PE X (.Constant (.int i) j pos) (tC (.int i)):=fun _ _ _ H _ I h=>wpAny_Constant_int ⟨.int i,H,I.tok _,⟨_,rfl⟩,h⟩
theorem vQ{b j pos}:PE X (.Constant (.bool b) j pos) (tC (.bl b)):=fun _ _ _ H _ I h=>Constant_bool ⟨.bl b,H,I,rfl,h⟩
theorem qI{x j pos}:PE X (.Constant (.str x) j pos) (tC (.str x)):=fun _ _ _ H _ I h=>Calls.Constant_str ⟨.str x,H,I.tok _,⟨_,rfl⟩,h⟩
def Gl(X:Cx)(x:Str):Prop:=X.env.kindOf x=some .globalImplicit
theorem kT{E:Value->Shared->Prop}{pins:List (Addr×Obj)}{s:Shared}{σ:St}{H:Hp}{x:Str}{u:Value}{pos:Pos}{Q:Value->Shared->Prop}(I:Inv X pins σ H s)(hg:Gl X x)(hm:X.mg x=some u)(h:Q u s)
  (hd:(x==("__debug__":Str))=false:=by decide):wpAny (model X.prog X.w) X.A (eval (.Name x pos) X.env) Q E s:=
 Calls.Name_function_global I.ok.kind hg (Calls.loadGlobal_global (by rw[I.ok.glob];exact I.mod.glob.keeps I.bk) hm h) hd
theorem vR{E:Value->Shared->Prop}{pins:List (Addr×Obj)}{s:Shared}{σ:St}{H:Hp}{x:Str}{u:Value}{pos:Pos}{Q:Value->Shared->Prop}(I:Inv X pins σ H s)(hg:Gl X x)(hm:X.mg x=none)(hv:bootBuiltins x=some u)(h:Q u s)
  (hn:x≠"__name__":=by decide)(hd:(x==("__debug__":Str))=false:=by decide):wpAny (model X.prog X.w) X.A (eval (.Name x pos) X.env) Q E s:=by
 obtain⟨mb,h1,h2⟩:=I.mod.blt
 exact Calls.Name_function_global I.ok.kind hg (Calls.loadGlobal_builtin (by rw[I.ok.glob];exact I.mod.glob.keeps I.bk) hm (by rw[I.ok.blt];exact h1.keeps I.bk) ((h2 x hn).trans hv) h) hd
theorem zM{x:Str}{v:V}{u:Value}{pos:Pos}(hg:Gl X x)(hm:X.mg x=some u)(r:zG v u)(hd:(x==("__debug__":Str))=false:=by decide):PE X (.Name x pos) (tC v):=
 fun _ _ _ H _ I h=>kT I hg hm ⟨v,H,I,r,h⟩ hd
theorem iQ{x:Str}{v:V}{u:Value}{pos:Pos}(hg:Gl X x)(hm:X.mg x=none)(hv:bootBuiltins x=some u)(r:zG v u)(hn:x≠"__name__":=by decide)(hd:(x==("__debug__":Str))=false:=by decide):PE X (.Name x pos) (tC v):=
 fun _ _ _ H _ I h=>vR I hg hm hv ⟨v,H,I,r,h⟩ hn hd
variable {a b:Expr} {ta tb:TE} {pos:Pos}
def PC(X:Cx)(op:CmpOp)(a b:Expr)(t:TE):Prop:=
 ∀(pins:List (Addr×Obj))(s:Shared)(σ:St)(H:Hp)(Q:VK),Inv X pins σ H s->t σ H Q->
  wpAny (model X.prog X.w) X.A (eval a X.env) (fun v s₁=>wpAny (model X.prog X.w) X.A (eval b X.env) (fun u s₂=>wpAny (model X.prog X.w) X.A (compareOp op v u) (EP X pins σ Q) X.xe s₂) X.xe s₁) X.xe s
inductive tB_(Q:Bool->Hp->Prop)(x:V)(H1:Hp):Prop
 |mk (c:_) (a_0:x= .bl c) (a_1:Q c H1):tB_ Q x H1
def tB(t:TE):TT:=fun σ H Q=>t σ H fun x H1=>tB_ Q x H1
theorem qK1{op:CmpOp}{t:TE}(h:PC X op a b t)(h1:behindInMarks op b=false:=by first|exact nobehind _ (by decide) (by decide)|rfl):PT X (.Compare a [op] [b] pos) (tB t):=by
 intro pins s σ H Q I hw
 refine wpAny_isTrue_Compare1 (thn (h pins s σ H _ I hw) fun v s1 h1=>thn h1 fun u s2 h2=>thn h2 fun c s3⟨x,H1,I1,r1,q1⟩=>?_) h1
 obtain⟨d,rfl,q⟩:=q1
 cases r1
 exact wpAny_truthy_bool ⟨H1,I1,q⟩
theorem xI{e:Expr}{t:TE}(h:PE X e t)(he:∀whole,isTrue e X.env whole=(do let v<-whole;standAt e.pos;holding [v] (truthy v)):=by intro _;rfl):PT X e (tB t):=by
 intro pins s σ H Q I hw
 refine isTrue_plain (thn (h pins s σ H _ I hw) fun v s1⟨x,H1,I1,r1,q1⟩=>?_) (he _)
 obtain⟨d,rfl,q⟩:=q1
 cases r1
 exact wpAny_truthy_bool ⟨H1,I1,q⟩
variable {tA tB':TT} {rest:List Expr}
def zS6(t u:TT):TT:=fun σ H Q=>t σ H fun c H1=>if c=true then u σ H1 Q else Q false H1
def tOr(t u:TT):TT:=fun σ H Q=>t σ H fun c H1=>if c=true then Q true H1 else u σ H1 Q
def zS7(t:TT):TT:=fun σ H Q=>t σ H fun c H1=>Q (!c) H1
theorem yR(ha:PT X a tA):PW X (.BoolOp .And [a] pos) tA:=by
 intro wh pins s σ H Q I h
 refine isTrue_and (thn (ha pins s σ H Q I h) fun c s1 e=>?_)
 cases c with
 |true=>exact isTrue_and_nil e
 |false=>exact e
theorem yL(ha:PT X a tA):PW X (.BoolOp .Or [a] pos) tA:=by
 intro wh pins s σ H Q I h
 refine isTrue_or (thn (ha pins s σ H Q I h) fun c s1 e=>?_)
 cases c with
 |false=>exact isTrue_or_nil e
 |true=>exact e
theorem yG(ha:PT X a tA)(hb:PW X (.BoolOp .And (b::rest) pos) tB'):PW X (.BoolOp .And (a::b::rest) pos) (zS6 tA tB'):=by
 intro wh pins s σ H Q I h
 refine isTrue_and (thn (ha pins s σ H _ I h) fun c s1⟨H1,I1,q1⟩=>?_)
 cases c with
 |true=>exact hb wh pins s1 σ H1 Q I1 q1
 |false=>exact⟨H1,I1,q1⟩
theorem oO(ha:PT X a tA)(hb:PW X (.BoolOp .Or (b::rest) pos) tB'):PW X (.BoolOp .Or (a::b::rest) pos) (tOr tA tB'):=by
 intro wh pins s σ H Q I h
 refine isTrue_or (thn (ha pins s σ H _ I h) fun c s1⟨H1,I1,q1⟩=>?_)
 cases c with
 |true=>exact⟨H1,I1,q1⟩
 |false=>exact hb wh pins s1 σ H1 Q I1 q1
theorem iC(ha:PT X a tA):PT X (.UnaryOp .Not a pos) (zS7 tA):=by
 intro pins s σ H Q I h
 exact isTrue_not (thn (ha pins s σ H (fun c H1=>Q (!c) H1) I h) fun c s1⟨H1,I1,q1⟩=>⟨H1,I1,q1⟩)
inductive qK2(tb:TE)(σ:St)(Q:VK)(x:V)(H1:Hp):Prop
 |mk (c:_) (a_0:x= .bl c) (a_1:if c=true then tb σ H1 Q else Q (.bl false) H1):qK2 tb σ Q x H1
def zN4(ta tb:TE):TE:=fun σ H Q=>ta σ H fun x H1=>qK2 tb σ Q x H1
inductive qE4(tb:TE)(σ:St)(Q:VK)(x:V)(H1:Hp):Prop
 |mk (c:_) (a_0:x= .bl c) (a_1:if c=true then Q (.bl true) H1 else tb σ H1 Q):qE4 tb σ Q x H1
def zS8(ta tb:TE):TE:=fun σ H Q=>ta σ H fun x H1=>qE4 tb σ Q x H1
inductive qK3(Q:VK)(x:V)(H1:Hp):Prop
 |mk (c:_) (a_0:x= .bl c) (a_1:Q (.bl (!c)) H1):qK3 Q x H1
def zN5(ta:TE):TE:=fun σ H Q=>ta σ H fun x H1=>qK3 Q x H1
theorem iL{op}{t:TE}(h:PE X a t):PE X (.BoolOp op [a] pos) t:=fun pins s σ H Q I hw=>BoolOp_one (h pins s σ H Q I hw)
theorem iG(ha:PE X a ta)(hb:PE X (.BoolOp .And (b::rest) pos) tb):PE X (.BoolOp .And (a::b::rest) pos) (zN4 ta tb):=by
 intro pins s σ H Q I h
 refine BoolOp_and (thn (ha pins s σ H _ I h) fun v s1⟨x,H1,I1,r1,q1⟩=>?_)
 obtain⟨c,rfl,q1⟩:=q1
 cases r1
 refine wpAny_truthy_bool ?_
 cases c with
 |true=>exact hb pins s1 σ H1 Q I1 q1
 |false=>exact⟨.bl false,H1,I1,rfl,q1⟩
theorem zN6(ha:PE X a ta)(hb:PE X (.BoolOp .Or (b::rest) pos) tb):PE X (.BoolOp .Or (a::b::rest) pos) (zS8 ta tb):=by
 intro pins s σ H Q I h
 refine BoolOp_or (thn (ha pins s σ H _ I h) fun v s1⟨x,H1,I1,r1,q1⟩=>?_)
 obtain⟨c,rfl,q1⟩:=q1
 cases r1
 refine wpAny_truthy_bool ?_
 cases c with
 |false=>exact hb pins s1 σ H1 Q I1 q1
 |true=>exact⟨.bl true,H1,I1,rfl,q1⟩
theorem gA(ha:PE X a ta):PE X (.UnaryOp .Not a pos) (zN5 ta):=by
 intro pins s σ H Q I h
 refine UnaryOp_ (thn (ha pins s σ H _ I h) fun v s1⟨x,H1,I1,r1,q1⟩=>?_)
 obtain⟨c,rfl,q1⟩:=q1
 cases r1
 exact not_of (wpAny_truthy_bool ⟨.bl (!c),H1,I1,rfl,q1⟩)
def tIf(t:TT)(ta tb:TE):TE:=fun σ H Q=>t σ H fun c H1=>if c=true then ta σ H1 Q else tb σ H1 Q
theorem vZ{c:Expr}(hc:PT X c tA)(ha:PE X a ta)(hb:PE X b tb):PE X (.IfExp c a b pos) (tIf tA ta tb):=by
 intro pins s σ H Q I h
 refine wpAny_IfExp (thn (hc pins s σ H _ I h) fun d s1⟨H1,I1,q1⟩=>?_)
 cases d with
 |true=>exact ha pins s1 σ H1 Q I1 q1
 |false=>exact hb pins s1 σ H1 Q I1 q1
end
def zS(K:Fg)(H:Hp)(a:Addr)(xs:List V):Prop:=
 Rd H a (.lst xs)\/
  ∃(o:Obj)(its:Array Value)(n:Nat),K.lookup a=some o/\o.cls= .type "list"/\o.dict=none/\o.data= .seq its n/\its.size<=sizeLine/\Vals xs its.toList
def zB(K:Fg)(H:Hp)(a:Addr)(xs:List V):Prop:=
 Rd H a (.tup xs)\/
  ∃(o:Obj)(its:Array Value)(n:Nat),K.lookup a=some o/\o.cls= .type "tuple"/\o.data= .seq its n/\its.size<=sizeLine/\Vals xs its.toList
def zS9:Value->Option V
 | .none=>some .non
 | .bool b=>some (.bl b)
 | .int i _=>some (.int i)
 | .str x _=>some (.str x)
 | .bytes b _=>some (.byt b)
 | .float b _=>some (.flt b)
 | .ref a=>some (.ref a)
 | .type n=>some (.ty n)
 |_=>none
theorem zG.abs{x:V}{u:Value}(r:zG x u):zS9 u=some x:=by
 cases x with
 |non=>cases r;rfl
 |bl _=>cases r;rfl
 |int _=>obtain⟨t,rfl⟩:=r;rfl
 |str _=>obtain⟨t,rfl⟩:=r;rfl
 |byt _=>obtain⟨t,rfl⟩:=r;rfl
 |flt _=>obtain⟨t,rfl⟩:=r;rfl
 |ref _=>cases r;rfl
 |ty _=>cases r;rfl
theorem zG.inj{x y:V}{u:Value}(r:zG x u)(q:zG y u):x=y:=Option.some.inj (r.abs.symm.trans q.abs)
theorem Vals.inj:∀{xs ys:List V}{us:List Value},Vals xs us->Vals ys us->xs=ys
 |_,_,_,.nil,.nil=>rfl
 |_,_,_,.cons r t,.cons r' t'=>by rw[r.inj r',Vals.inj t t']
section
variable {X:Cx} {pins:List (Addr×Obj)} {σ:St} {H:Hp} {s:Shared} {a:Addr} {xs ys:List V}
theorem zS.of{K:Fg}(h:H a=some (.lst xs)):zS K H a xs:=.inl (.inl h)
theorem zB.of{K:Fg}(h:H a=some (.tup xs)):zB K H a xs:=.inl (.inl h)
theorem Inv.list(I:Inv X pins σ H s)(h:zS X.K H a xs):∃its:List Value,Vals xs its/\PlainL s.heap a its.toArray/\xs.length<=sizeLine:=by
 rcases h with h|⟨o,its,n,hk,hc,hd,hs,hz,r⟩
 ·obtain⟨z,its,n,r,e⟩:=h.ok I.hok
  exact⟨its,r,⟨_,n,e,rfl,rfl,rfl⟩,z⟩
 ·refine⟨its.toList,r,⟨o,n,I.kIn a o hk,hc,hd,by simpa using hs⟩,?_⟩
  have e:=r.length
  simp only[Array.length_toList]at e
  omega
theorem Inv.tuple(I:Inv X pins σ H s)(h:zB X.K H a xs):∃its:List Value,Vals xs its/\IsTup s.heap a its.toArray/\xs.length<=sizeLine:=by
 rcases h with h|⟨o,its,n,hk,hc,hs,hz,r⟩
 ·obtain⟨z,its,r,p⟩:=h.ok I.hok
  exact⟨its,r,p,z⟩
 ·refine⟨its.toList,r,⟨o,I.kIn a o hk,hc,n,by simpa using hs⟩,?_⟩
  have e:=r.length
  simp only[Array.length_toList]at e
  omega
theorem Inv.list_inj(I:Inv X pins σ H s)(h:zS X.K H a xs)(h':zS X.K H a ys):xs=ys:=by
 obtain⟨its,r,⟨o,n,e,_,_,d⟩,_⟩:=I.list h
 obtain⟨its',r',⟨o',n',e',_,_,d'⟩,_⟩:=I.list h'
 rw[e]at e';cases e'
 rw[d]at d'
 injection d' with d1 _
 have :its=its':=by simpa using congrArg Array.toList d1
 subst this
 exact r.inj r'
theorem Inv.tuple_inj(I:Inv X pins σ H s)(h:zB X.K H a xs)(h':zB X.K H a ys):xs=ys:=by
 obtain⟨its,r,⟨o,e,_,n,d⟩,_⟩:=I.tuple h
 obtain⟨its',r',⟨o',e',_,n',d'⟩,_⟩:=I.tuple h'
 rw[e]at e';cases e'
 rw[d]at d'
 injection d' with d1 _
 have :its=its':=by simpa using congrArg Array.toList d1
 subst this
 exact r.inj r'
end
abbrev Cx.wish(X:Cx)(E:Value->Shared->Prop):Cx:={X with xe:=E}
abbrev Cx.nox(X:Cx):Cx:=X.wish fun _ _=>False
theorem Cx.Ok.wish{X:Cx}(ok:X.Ok)(E:Value->Shared->Prop):(X.wish E).Ok:=
 ⟨ok.mod,ok.kind,ok.glob,ok.blt,ok.above,ok.inj,ok.has,ok.cab,ok.hd,ok.frames,ok.stk,ok.exf,ok.bs,ok.bsz,ok.noex,ok.exfs,ok.funs,ok.frf⟩
theorem Cx.Ok.unwish{X:Cx}{E:Value->Shared->Prop}(ok:(X.wish E).Ok):X.Ok:=
 ⟨ok.mod,ok.kind,ok.glob,ok.blt,ok.above,ok.inj,ok.has,ok.cab,ok.hd,ok.frames,ok.stk,ok.exf,ok.bs,ok.bsz,ok.noex,ok.exfs,ok.funs,ok.frf⟩
section
variable {X:Cx} {pins:List (Addr×Obj)} {σ:St} {H:Hp} {s:Shared} {E:Value->Shared->Prop}
theorem Inv.wish(I:Inv X pins σ H s)(E:Value->Shared->Prop):Inv (X.wish E) pins σ H s:=⟨I.ok.wish E,I.os,I.bare,I.base,I.loc,I.cell,I.free,I.freeC,I.pin,I.hok,I.len⟩
theorem Inv.unwish(I:Inv (X.wish E) pins σ H s):Inv X pins σ H s:=⟨I.ok.unwish,I.os,I.bare,I.base,I.loc,I.cell,I.free,I.freeC,I.pin,I.hok,I.len⟩
theorem SP.unwish{D:Ends}{f:Flow}{s':Shared}(h:SP (X.wish E) pins D f s'):SP X pins D f s':=by
 cases f with
 |next=>obtain⟨σ',H',I,q⟩:=h;exact⟨σ',H',I.unwish,q⟩
 |brk=>obtain⟨σ',H',I,q⟩:=h;exact⟨σ',H',I.unwish,q⟩
 |cont=>obtain⟨σ',H',I,q⟩:=h;exact⟨σ',H',I.unwish,q⟩
 |ret u=>obtain⟨v,σ',H',I,r,q⟩:=h;exact⟨v,σ',H',I.unwish,r,q⟩
theorem PSs.nox{st:List Stmt}{t:TS}(h:PSs X.nox st t):PSs X st t:=fun pins s σ H D I hw=>
 wpAny_mono (h pins s σ H D (I.wish _) hw) (fun _ _ q=>q.unwish) fun _ _ z=>False.elim z
end
section
variable {X:Cx} {st:Stmt} {rest:List Stmt} {t u:TS} {e:Expr} {te:TE} {pos:Pos}
def sN:TS:=fun D σ H=>D.nx σ H
def uD(t u:TS):TS:=fun D σ H=>t {D with nx:=u D} σ H
theorem zX:PSs X [] sN:=fun _ _ σ H _ I h=>wpAny_execs_nil ⟨σ,H,I,h⟩
theorem qX(h1:PS X st t)(h2:PSs X rest u):PSs X (st::rest) (uD t u):=by
 intro pins s σ H D I h
 refine wpAny_execs_cons (thn (h1 pins s σ H {D with nx:=u D} I h) fun f s1 q=>?_)
 cases f with
 |next=>
  obtain⟨σ',H',I',q⟩:=q
  exact h2 pins s1 σ' H' D I' q
 |ret v=>exact q
 |brk=>exact q
 |cont=>exact q
theorem qK(h1:PS X st t):PSs X [st] t:=by
 intro pins s σ H D I h
 refine wpAny_execs_cons (thn (h1 pins s σ H D I h) fun f s1 q=>?_)
 cases f with
 |next=>exact wpAny_execs_nil q
 |ret v=>exact q
 |brk=>exact q
 |cont=>exact q
theorem Inv.quiet{pins:List (Addr×Obj)}{σ:St}{H:Hp}{s:Shared}(I:Inv X pins σ H s):interactive X.env=false:=by simp[interactive,I.ok.kind]
def qK4(te:TE):TS:=fun D σ H=>te σ H fun _ H1=>D.nx σ H1
theorem zJ(he:PE X e te)(hs:swapsWith e none pos.line X.env=pure false:=by rfl):PS X (.Expr e pos) (qK4 te):=by
 intro pins s σ H D I h
 exact wpAny_Expr_any (thn (he pins s σ H _ I h) fun v s1⟨x,H1,I1,r1,q1⟩=>⟨σ,H1,I1,q1⟩) I.quiet hs
def qQ8(te:TE):TS:=fun D σ H=>te σ H D.rt
theorem qB(he:PE X e te):PS X (.Return (some e) pos) (qQ8 te):=by
 intro pins s σ H D I h
 exact wpAny_Return_some (thn (he pins s σ H _ I h) fun v s1⟨x,H1,I1,r1,q1⟩=>⟨x,σ,H1,I1,r1,q1⟩)
def zN7:TS:=fun D _ H=>D.rt .non H
theorem qD9:PS X (.Return none pos) zN7:=fun _ _ σ H _ I h=>wpAny_Return_none ⟨.non,σ,H,I,rfl,h⟩
def qK5(c:TT)(t u:TS):TS:=fun D σ H=>c σ H fun b H1=>if b=true then t D σ H1 else u D σ H1
theorem zH{c:Expr}{a b:List Stmt}{tc:TT}(hc:PT X c tc)(ha:PSs X a t)(hb:PSs X b u):PS X (.If c a b pos) (qK5 tc t u):=by
 intro pins s σ H D I h
 refine wpAny_If (thn (hc pins s σ H _ I h) fun d s1⟨H1,I1,q1⟩=>?_)
 cases d with
 |true=>exact ha pins s1 σ H1 D I1 q1
 |false=>exact hb pins s1 σ H1 D I1 q1
def zV3:TS:=fun _ _ _=>False
theorem uF{sts:List Stmt}:PSs X sts zV3:=fun _ _ _ _ _ _ h=>h.elim
end
abbrev TG:=V->St->Hp->(St->Hp->Prop)->Prop
abbrev TGs:=List V->St->Hp->(St->Hp->Prop)->Prop
def PG(X:Cx)(target:Expr)(t:TG):Prop:=
 ∀(pins:List (Addr×Obj))(s:Shared)(σ:St)(H:Hp)(v:V)(u:Value)(Q:St->Hp->Prop),Inv X pins σ H s->zG v u->t v σ H Q->
  wpAny (model X.prog X.w) X.A (assign target X.env u) (fun _ s'=>∃σ' H',Inv X pins σ' H' s'/\Q σ' H') X.xe s
def PGs(X:Cx)(ts:List Expr)(t:TGs):Prop:=
 ∀(pins:List (Addr×Obj))(s:Shared)(σ:St)(H:Hp)(vs:List V)(us:List Value)(Q:St->Hp->Prop),Inv X pins σ H s->Vals vs us->t vs σ H Q->
  wpAny (model X.prog X.w) X.A (assignInOrder ((assignEach ts X.env).map (·.2)) us) (fun _ s'=>∃σ' H',Inv X pins σ' H' s'/\Q σ' H') X.xe s
abbrev TIp:=V->V->Hp->VK->Prop
def PIp(X:Cx)(op:Operator)(t:TIp):Prop:=
 ∀(pins:List (Addr×Obj))(s:Shared)(σ:St)(H:Hp)(x y:V)(v u:Value)(Q:VK),Inv X pins σ H s->zG x v->zG y u->t x y H Q->
  wpAny (model X.prog X.w) X.A (inplaceOp op v u) (EP X pins σ Q) X.xe s
section
variable {X:Cx} {pos:Pos}
def kO(i:Nat):TG:=fun v σ H Q=>Q (σ.set i (some v)) H
theorem jO{i:Nat}{x:Str}(hN:X.N.Nodup)(hi:X.N[i]? =some x)(hx:Loc X.env.scope x)(hf:X.fn x=true\/X.env.scope.names.lookup x=some .local:=by first|exact .inl rfl|exact .inr rfl|assumption):PG X (.Name x pos) (kO i):=by
 intro pins s σ H v u Q I r h
 exact wpAny_assign_Name (wI I hN hi hx r (fun s' I'=>⟨_,H,I',h⟩) hf)
def zV4:TGs:=fun vs σ H Q=>vs=[]/\Q σ H
inductive qK6(t:TG)(u:TGs)(vs:List V)(σ:St)(H:Hp)(Q:St->Hp->Prop):Prop
 |mk (v:_) (r:_) (a_0:vs=v::r) (a_1:t v σ H fun σ' H'=>u r σ' H' Q):qK6 t u vs σ H Q
def bG(t:TG)(u:TGs):TGs:=fun vs σ H Q=>qK6 t u vs σ H Q
theorem yS:PGs X [] zV4:=by
 intro pins s σ H vs us Q I r h
 obtain⟨e,h⟩:=h
 subst e
 cases r
 exact assignInOrder_nil ⟨σ,H,I,h⟩
theorem xN{e:Expr}{es:List Expr}{t:TG}{u:TGs}(h1:PG X e t)(h2:PGs X es u)
  (hs:(assignEach (e::es) X.env).map (·.2)=assign e X.env::(assignEach es X.env).map (·.2):=by rfl):PGs X (e::es) (bG t u):=by
 intro pins s σ H vs us Q I r h
 obtain⟨v,vr,e1,h⟩:=h
 subst e1
 cases r with
 |cons r rr=>
  rw[hs]
  refine assignInOrder_cons (thn (h1 pins s σ H _ _ _ I r h) fun _ s1⟨σ1,H1,I1,q1⟩=>?_)
  exact h2 pins s1 σ1 H1 _ _ Q I1 rr q1
inductive qE5(K:Fg)(n:Nat)(t:TGs)(v:V)(σ:St)(H:Hp)(Q:St->Hp->Prop):Prop
 |mk (a:_) (xs:_) (a_0:v= .ref a) (a_1:zB K H a xs) (a_2:xs.length=n) (a_3:t xs σ H Q):qE5 K n t v σ H Q
def zV5(K:Fg)(n:Nat)(t:TGs):TG:=fun v σ H Q=>qE5 K n t v σ H Q
theorem iM{es:List Expr}{k:Nat}{t:TGs}{n:Nat}(hc:X.calm=true)(h:PGs X es t)
  (hn:(assignEach es X.env).length=n:=by rfl)(hst:(assignEach es X.env).findIdx? (·.1)=none:=by rfl):PG X (.Tuple es k pos) (zV5 X.K n t):=by
 intro pins s σ H v u Q I r hw
 obtain⟨a,xs,e1,hq,hl,hw⟩:=hw
 subst e1
 cases r
 obtain⟨its,rv,ht,hz⟩:=I.tuple hq
 refine assign_Tuple_tuple (I.ok.hd hc) ht (by simp[hn,<-hl,rv.length]) hst fun h' hx=>?_
 have I1:Inv X pins σ H {s with heap:=h'}:=I.kept (t':=s.toks) fun b o e=>hx b o (aq9 (aq8 e)) e
 exact h pins _ σ H xs _ Q I1 (by simpa using rv) hw
def mQ(te:TE)(g:TG):TS:=fun D σ H=>te σ H fun x H1=>g x σ H1 D.nx
theorem zV6{tg e:Expr}{te:TE}{g:TG}(he:PE X e te)(hg:PG X tg g)(hs:swapsWithSole [tg] e pos.line X.env=pure false:=by rfl)(hw:swappedStores [tg] e X.env=pure none:=by rfl)
  (h1:(assignEach [tg] X.env).map (·.2)=[assign tg X.env]:=by rfl):PS X (.Assign [tg] e pos) (mQ te g):=by
 intro pins s σ H D I h
 refine wpAny_Assign_stores (thn (he pins s σ H _ I h) fun v s1⟨x,H1,I1,r1,q1⟩=>?_) hs hw
 rw[h1]
 exact thn (hg pins s1 σ H1 x v _ I1 r1 q1) fun _ s2 q=>q
theorem qF{i:Nat}{x:Str}{e:Expr}{te:TE}{pos':Pos}(hN:X.N.Nodup)(hi:X.N[i]? =some x)(hx:Loc X.env.scope x)(he:PE X e te)(hs:swapsWith e (some (.Name x pos')) pos.line X.env=pure false:=by rfl)(hf:X.fn x=true\/X.env.scope.names.lookup x=some .local:=by first|exact .inl rfl|exact .inr rfl|assumption):
  PS X (.Assign [.Name x pos'] e pos) (mQ te (kO i)):=by
 intro pins s σ H D I h
 refine wpAny_Assign_Name (thn (he pins s σ H _ I h) fun v s1⟨y,H1,I1,r1,q1⟩=>?_) hs
 exact wI I1 hN hi hx r1 (fun s2 I2=>⟨_,H1,I2,q1⟩) hf
inductive qE6(i:Nat)(te:TE)(ti:TIp)(N_:St->Hp->Prop)(σ:St)(H:Hp):Prop
 |mk (x:_) (a_0:σ[i]? =some (some x)) (a_1:te σ H fun y H1=>ti x y H1 fun z H2=>N_ (σ.set i (some z)) H2):qE6 i te ti N_ σ H
def zSq(i:Nat)(te:TE)(ti:TIp):TS:=fun D σ H=>qE6 i te ti D.nx σ H
theorem qK7{i:Nat}{x:Str}{e:Expr}{te:TE}{op:Operator}{ti:TIp}{pos':Pos}(hN:X.N.Nodup)(hi:X.N[i]? =some x)(hx:Loc X.env.scope x)(he:PE X e te)(ho:PIp X op ti)(hf:X.fn x=true\/X.env.scope.names.lookup x=some .local:=by first|exact .inl rfl|exact .inr rfl|assumption):
  PS X (.AugAssign (.Name x pos') op e pos) (zSq i te ti):=by
 intro pins s σ H D I h
 obtain⟨v,e1,h⟩:=h
 obtain⟨m,hn,hl⟩:=I.loc
 have vis:Vis X.env.scope x:=by rcases hx with k|k;exact .inl k;exact .inr (.inl k)
 obtain⟨u,r,l⟩:=hl i x v hi e1 vis
 refine wpAny_AugAssign_Name ?_
 have go:wpAny (model X.prog X.w) X.A (eval e X.env) (fun w s₂=>wpAny (model X.prog X.w) X.A (inplaceOp op u w) (fun r s₃=>wpAny (model X.prog X.w) X.A (storeName X.env x r) (fun _=>SP X pins D .next) X.xe s₃) X.xe s₂) X.xe s:=by
  refine thn (he pins s σ H _ I h) fun w s1⟨y,H1,I1,r1,q1⟩=>?_
  refine thn (ho pins s1 σ H1 v y u w _ I1 r r1 q1) fun z s2⟨zv,H2,I2,r2,q2⟩=>?_
  exact wI I2 hN hi hx r2 (fun s3 I3=>⟨_,H2,I3,q2⟩) hf
 rcases l with⟨hk,hm⟩|⟨hk,c,hc,hcell⟩
 ·exact wpAny_loadName_local I.ok.kind hk hn hm go
 ·rcases hk with hk|hk
  ·exact wpAny_loadName_cell I.ok.kind hk hc hcell go
  ·rcases hx with k|k
   ·have :X.env.scope.names.lookup x=some .free:=hk
    rw[k]at this;cases this
   ·have :X.env.scope.names.lookup x=some .free:=hk
    rw[k]at this;cases this
def ipI(f:Int->Int->Int):TIp:=fun x y H Q=>∃i j,x= .int i/\y= .int j/\Q (.int (f i j)) H
theorem qK8:PIp X .Sub (ipI fun i j=>i-j):=by
 intro pins s σ H x y v u Q I r1 r2 h
 obtain⟨i,j,e1,e2,q⟩:=h
 subst e1;subst e2
 obtain⟨t,rfl⟩:=r1
 obtain⟨t',rfl⟩:=r2
 exact isub_int ⟨.int _,H,I.tok _,⟨_,rfl⟩,q⟩
def zV7(c:TT)(tb:TS):TS:=fun D σ H=>∃W:Nat->St->Hp->Prop,(∃m,W m σ H)/\∀m σ H,W m σ H->
 c σ H fun b H1=>if b=true then∃N:St->Hp->Prop,(∀σ' H',N σ' H'->∃m',m'<m/\W m' σ' H')/\tb {D with nx:=N,ct:=N,bk:=D.nx} σ H1 else D.nx σ H1
theorem wC{c:Expr}{body:List Stmt}{tc:TT}{tb:TS}(hp:PassesOwn (model X.prog X.w) X.A X.env X.xe)(hc:PT X c tc)(hb:PSs X body tb):PS X (.While c body [] pos) (zV7 tc tb):=by
 intro pins s σ H D I h
 obtain⟨W,⟨m0,w0⟩,turn⟩:=h
 refine wpAny_While (codeAny_whileLoop (fun n s'=>∃σ' H',Inv X pins σ' H' s'/\W n σ' H') ?_ m0 ⟨σ,H,I,w0⟩)
 rintro n s1 ⟨σ1,H1,I1,w1⟩
 refine wpAny_passesOwn hp (thn (hc pins s1 σ1 H1 _ I1 (turn n σ1 H1 w1)) fun b s2⟨H2,I2,q2⟩=>?_)
 cases b with
 |true=>
  obtain⟨N,hN,q2⟩:=q2
  rw[if_pos rfl]
  refine wpAny_passesOwn hp (thn (hb pins s2 σ1 H2 _ I2 q2) fun f s3 q3=>?_)
  cases f with
  |next=>
   obtain⟨σ3,H3,I3,n3⟩:=q3
   obtain⟨m',hm,w3⟩:=hN σ3 H3 n3
   exact⟨m',hm,σ3,H3,I3,w3⟩
  |cont=>
   obtain⟨σ3,H3,I3,n3⟩:=q3
   obtain⟨m',hm,w3⟩:=hN σ3 H3 n3
   exact⟨m',hm,σ3,H3,I3,w3⟩
  |brk=>exact q3
  |ret v=>exact q3
 |false=>
  rw[if_neg Bool.false_ne_true]
  exact wpAny_execs_nil ⟨σ1,H2,I2,q2⟩
end
structure It where
 go:Nat->Hp->Prop
 yld:Nat->Hp->V->Hp->Prop
 stop:Nat->Hp->Prop
def vI(X:Cx)(pins:List (Addr×Obj))(H:Hp)(b:Addr):Prop:=
 H b=none/\b≠X.env.locals/\b∉X.fs/\(b∈X.ex\/X.s₀.heap.objs.size<=b)/\(∀x c,X.env.cells.lookup x=some c->c≠b)/\∀p∈X.pn++pins,p.1≠b
theorem Inv.fpOk{X:Cx}{pins:List (Addr×Obj)}{σ:St}{H H':Hp}{s:Shared}{b:Addr}(I:Inv X pins σ H s)(hb:s.heap.objs.size<=b)(hn:H' b=none):vI X pins H' b:=by
 refine⟨hn,Nat.ne_of_gt (Nat.lt_of_lt_of_le I.lt hb),I.nofs hb,.inr (Nat.le_trans I.sz hb),fun x c e z=>?_,fun p hp z=>?_⟩
 ·obtain⟨v,q⟩:=I.cell x c e
  exact absurd (Nat.lt_of_lt_of_le q.lt (by rw[z];exact hb)) (Nat.lt_irrefl _)
 ·exact absurd (Nat.lt_of_lt_of_le (aq8 (I.pin p hp).1) (by rw[z];exact hb)) (Nat.lt_irrefl _)
structure Turn(P:Program)(w:World)(K:Fg)(tg:Expr)(J:It)(fp:List Addr)(it:Addr)(tn:Nat->Heap->Prop):Prop where
 mem:it∈fp
 obj:∀i h,tn i h->∀b∈fp,∃o,h.get? b=some o/\∀v,o.data≠ .cell v
 keep:∀i h h',tn i h->(∀b∈fp,∀o,h.get? b=some o->h'.get? b=some o)->tn i h'
 item:∀(X:Cx),X.prog=P->X.w=w->X.K=K->X.calm=true->∀(i:Nat)(pins:List (Addr×Obj))(s:Shared)(σ:St)(H:Hp)(E:Value->Shared->Prop),Inv X pins σ H s->(∀b∈fp,vI X pins H b)->tn i s.heap->J.go i H->
  wpAny (model P w) X.A (pyNext (.ref it)) (fun r s1=>∃u,r=some u/\
   wpAny (model P w) X.A (letOwnedTupleGo tg (.ref it) u) (fun _ s2=>∃x H',Inv X pins σ H' s2/\zG x u/\J.yld i H x H'/\tn (i+1) s2.heap/\∀b∈fp,H' b=none) E s1) E s
 done:∀(X:Cx),X.prog=P->X.w=w->X.K=K->X.calm=true->∀(i:Nat)(pins:List (Addr×Obj))(s:Shared)(σ:St)(H:Hp)(E:Value->Shared->Prop),Inv X pins σ H s->(∀b∈fp,vI X pins H b)->tn i s.heap->J.stop i H->
  wpAny (model P w) X.A (pyNext (.ref it)) (fun r s1=>r=none/\Inv X pins σ H s1) E s
 self:∀(A:Around)(i:Nat)(s:Shared)(Q:Value->Shared->Prop)(E:Value->Shared->Prop),tn i s.heap->Q (.ref it) s->wpAny (model P w) A (pyIter (.ref it)) Q E s
abbrev TI:=St->Hp->(It->Hp->Prop)->Prop
inductive PIE(X:Cx)(pins:List (Addr×Obj))(σ:St)(tg:Expr)(R:It->Hp->Prop)(itv:Value)(s2:Shared):Prop
 |mk (it:Addr) (fp:List Addr) (tn:Nat->Heap->Prop) (J:It) (H':Hp) (a_0:itv= .ref it) (a_1:Inv X pins σ H' s2) (a_2:Turn X.prog X.w X.K tg J fp it tn) (a_3:tn 0 s2.heap) (a_4:∀b∈fp,vI X pins H' b) (a_5:R J H'):PIE X pins σ tg R itv s2
def PI(X:Cx)(tg iter:Expr)(wi:TI):Prop:=
 ∀(pins:List (Addr×Obj))(s:Shared)(σ:St)(H:Hp)(R:It->Hp->Prop),Inv X pins σ H s->wi σ H R->
  wpAny (model X.prog X.w) X.A (eval iter X.env) (fun v s1=>wpAny (model X.prog X.w) X.A (pyIter v) (PIE X pins σ tg R) X.xe s1) X.xe s
theorem sB{M:Model}{A:Around}{E:Value->Shared->Prop}{s:Shared}{tg:Expr}{it:Addr}{u:Value}{o:Obj}{n:String}{vs:Array Value}{Q:Unit->Shared->Prop}(ho:s.heap.get? it=some o)(hc:o.cls= .type n)(hd:o.data= .fields vs)
  (hn:["enumerate","zip","dict_itemiterator","dict_reverseitemiterator","odict_iterator","itertools.zip_longest","itertools.pairwise"].contains n=false)(hQ:Q () s):wpAny M A (letOwnedTupleGo tg (.ref it) u) Q E s:=by
 unfold letOwnedTupleGo
 cases tg<;>first
  |exact wpAny_pure hQ
  |(cases u<;>first
    |exact wpAny_pure hQ
    |(refine wpAny_bind (wpAny_load ho ?_)
      rw[hc,hd]
      show wpAny M A (if(["enumerate","zip","dict_itemiterator","dict_reverseitemiterator","odict_iterator","itertools.zip_longest","itertools.pairwise"].contains n&&vs[0]? ==some (rawInt _))=true then _ else _) Q E s
      rw[if_neg (by intro h;rw[hn,Bool.false_and]at h;cases h)]
      exact wpAny_pure hQ))
def Itl(K:Fg)(a:Addr):It:=
 ⟨fun i H=>∃xs x,zS K H a xs/\xs[i]? =some x,fun i H x H'=>H'=H/\∀xs,zS K H a xs->xs[i]? =some x,fun i H=>∃xs,zS K H a xs/\xs.length<=i⟩
def Itt(K:Fg)(a:Addr):It:=
 ⟨fun i H=>∃xs x,zB K H a xs/\xs[i]? =some x,fun i H x H'=>H'=H/\∀xs,zB K H a xs->xs[i]? =some x,fun i H=>∃xs,zB K H a xs/\xs.length<=i⟩
def Itr(lo:Int)(n:Nat):It:=⟨fun i _=>i<n,fun i H x H'=>H'=H/\x= .int (lo+i),fun i _=>n<=i⟩
theorem lU{P:Program}{w:World}{K:Fg}{tg:Expr}(a it:Addr):Turn P w K tg (Itl K a) [it] it (fun i h=>h.IsListIter it a i)where
 mem:=by simp
 obj:=fun i h st b hb=>by
  have e:b=it:=by simpa using hb
  subst e
  obtain⟨o,e,c,d⟩:=st
  exact⟨o,e,fun v z=>by rw[d]at z;cases z⟩
 keep:=fun i h h' st k=>st.at fun o e=>k it (by simp) o e
 item:=by
  intro X hP hw hK hc i pins s σ H E I hf st hg
  subst hP hw hK
  obtain⟨xs,x,hq,hx⟩:=hg
  obtain⟨its,rv,p,hz⟩:=I.list hq
  obtain⟨u,hu,ru⟩:=rv.get hx
  obtain⟨f0,f1,f2,f3,f4,f5⟩:=hf it (by simp)
  refine wpAny_pyNext_list_item st p.isList (x:=u) (by simpa using hu) fun h' st' sb=>?_
  have I1:Inv X pins σ H {s with heap:=h'}:=I.turned (t':=s.toks) (fun b o hb e=>(sb.2 b hb).trans e) f0 f1 f3 f4 f5
  obtain⟨o,e,c,d⟩:=id st'
  exact⟨u,rfl,sB (s:={s with heap:=h'}) e c d (by decide) ⟨x,H,I1,ru,⟨rfl,fun ys hy=>by rw[I.list_inj hy hq];exact hx⟩,st',fun b hb=>(hf b hb).1⟩⟩
 done:=by
  intro X hP hw hK hc i pins s σ H E I hf st hg
  subst hP hw hK
  obtain⟨xs,hq,hx⟩:=hg
  obtain⟨its,rv,p,hz⟩:=I.list hq
  obtain⟨f0,f1,f2,f3,f4,f5⟩:=hf it (by simp)
  have hl:=rv.length
  exact wpAny_pyNext_list_end (I.ok.hd hc) st p.isList (by simp;omega) fun h' eb=>⟨rfl,I.turned (t':=s.toks) (fun b o hb e=>eb b o hb e) f0 f1 f3 f4 f5⟩
 self:=fun _ _ _ _ _ st h=>wpAny_pyIter_listiter st h
theorem iN{P:Program}{w:World}{K:Fg}{tg:Expr}(a it:Addr):Turn P w K tg (Itt K a) [it] it (fun i h=>h.IsTupleIter it a i)where
 mem:=by simp
 obj:=fun i h st b hb=>by
  have e:b=it:=by simpa using hb
  subst e
  obtain⟨o,e,c,d⟩:=st
  exact⟨o,e,fun v z=>by rw[d]at z;cases z⟩
 keep:=fun i h h' st k=>st.at fun o e=>k it (by simp) o e
 item:=by
  intro X hP hw hK hc i pins s σ H E I hf st hg
  subst hP hw hK
  obtain⟨xs,x,hq,hx⟩:=hg
  obtain⟨its,rv,p,hz⟩:=I.tuple hq
  obtain⟨u,hu,ru⟩:=rv.get hx
  obtain⟨f0,f1,f2,f3,f4,f5⟩:=hf it (by simp)
  refine wpAny_pyNext_tuple_item st (show s.heap.IsTuple a its.toArray from p) (x:=u) (by simpa using hu) fun h' st' sb=>?_
  have I1:Inv X pins σ H {s with heap:=h'}:=I.turned (t':=s.toks) (fun b o hb e=>(sb.2 b hb).trans e) f0 f1 f3 f4 f5
  obtain⟨o,e,c,d⟩:=id st'
  exact⟨u,rfl,sB (s:={s with heap:=h'}) e c d (by decide) ⟨x,H,I1,ru,⟨rfl,fun ys hy=>by rw[I.tuple_inj hy hq];exact hx⟩,st',fun b hb=>(hf b hb).1⟩⟩
 done:=by
  intro X hP hw hK hc i pins s σ H E I hf st hg
  subst hP hw hK
  obtain⟨xs,hq,hx⟩:=hg
  obtain⟨its,rv,p,hz⟩:=I.tuple hq
  obtain⟨f0,f1,f2,f3,f4,f5⟩:=hf it (by simp)
  have hl:=rv.length
  exact wpAny_pyNext_tuple_end (I.ok.hd hc) st (show s.heap.IsTuple a its.toArray from p) (by simp;omega) fun h' eb=>⟨rfl,I.turned (t':=s.toks) (fun b o hb e=>eb b o hb e) f0 f1 f3 f4 f5⟩
 self:=fun _ _ _ _ _ st h=>wpAny_pyIter_tupleiter st h
theorem pI{P:Program}{w:World}{K:Fg}{tg:Expr}(it:Addr)(lo:Int)(n:Nat):Turn P w K tg (Itr lo n) [it] it (fun i h=>IsRangeIter h it (lo+(i:Nat)*1) ((n:Int)-(i:Nat)) 1)where
 mem:=by simp
 obj:=fun i h st b hb=>by
  have e:b=it:=by simpa using hb
  subst e
  exact⟨_,st,fun v z=>by
   have z':Data.fields _=Data.cell v:=z
   cases z'⟩
 keep:=fun i h h' st k=>k it (by simp) _ st
 item:=by
  intro X hP hw hK hc i pins s σ H E I hf st hg
  subst hP hw hK
  obtain⟨f0,f1,f2,f3,f4,f5⟩:=hf it (by simp)
  have W:=Walks.range (prog:=X.prog) (w:=X.w) (I.ok.hd hc) it lo 1 n
  refine W.item i s _ _ hg st fun v h' tk hv st' kk=>?_
  obtain⟨t,rfl⟩:=hv
  have I1:Inv X pins σ H {s with heap:=h',toks:=tk}:=I.turned (fun b o hb e=>kk b o (by simpa using hb) e) f0 f1 f3 f4 f5
  refine⟨_,rfl,sB (s:={s with heap:=h',toks:=tk}) (n:="range_iterator") st' rfl rfl (by decide) ⟨.int (lo+i),H,I1,⟨t,?_⟩,⟨rfl,rfl⟩,st',fun b hb=>(hf b hb).1⟩⟩
  rw[Int.mul_one]
 done:=by
  intro X hP hw hK hc i pins s σ H E I hf st hg
  subst hP hw hK
  obtain⟨f0,f1,f2,f3,f4,f5⟩:=hf it (by simp)
  exact wpAny_pyNext_range_end (I.ok.hd hc) st (by have :n<=i:=hg;omega) fun h' eb=>⟨rfl,I.turned (t':=s.toks) (fun b o hb e=>eb b o hb e) f0 f1 f3 f4 f5⟩
 self:=fun _ _ _ _ _ st h=>wpAny_pyIter_rangeiter st h
section
variable {X:Cx} {tg:Expr}
def zN8(K:Fg)(tl:TE):TI:=fun σ H R=>tl σ H fun x H1=>∃a,x= .ref a/\(∃xs,zS K H1 a xs)/\R (Itl K a) H1
def zSz(K:Fg)(tl:TE):TI:=fun σ H R=>tl σ H fun x H1=>∃a,x= .ref a/\(∃xs,zB K H1 a xs)/\R (Itt K a) H1
theorem iZ{l:Expr}{tl:TE}(hl:PE X l tl):PI X tg l (zN8 X.K tl):=by
 intro pins s σ H R I h
 refine thn (hl pins s σ H _ I h) fun v s1⟨x,H1,I1,r1,q1⟩=>?_
 obtain⟨a,e,⟨xs,hq⟩,q⟩:=q1
 subst e
 cases r1
 obtain⟨its,rv,p,hz⟩:=I1.list hq
 refine wpAny_pyIter_list p.isList ?_
 refine⟨s1.heap.objs.size,[s1.heap.objs.size],_,_,H1,rfl,I1.kept (t':=s1.toks) fun b o e=>aq13 _ e,lU a _,⟨_,aq14 _ rfl,rfl,rfl⟩,fun b hb=>?_,q⟩
 have e:b=s1.heap.objs.size:=by simpa using hb
 subst e
 exact I1.fpOk (aq7 _) (I1.hok.fresh (aq7 _))
theorem zV8{l:Expr}{tl:TE}(hl:PE X l tl):PI X tg l (zSz X.K tl):=by
 intro pins s σ H R I h
 refine thn (hl pins s σ H _ I h) fun v s1⟨x,H1,I1,r1,q1⟩=>?_
 obtain⟨a,e,⟨xs,hq⟩,q⟩:=q1
 subst e
 cases r1
 obtain⟨its,rv,p,hz⟩:=I1.tuple hq
 refine wpAny_pyIter_tuple (show s1.heap.IsTuple a its.toArray from p) ?_
 refine⟨s1.heap.objs.size,[s1.heap.objs.size],_,_,H1,rfl,I1.kept (t':=s1.toks) fun b o e=>aq13 _ e,iN a _,⟨_,aq14 _ rfl,rfl,rfl⟩,fun b hb=>?_,q⟩
 have e:b=s1.heap.objs.size:=by simpa using hb
 subst e
 exact I1.fpOk (aq7 _) (I1.hok.fresh (aq7 _))
theorem qK9{pins:List (Addr×Obj)}{σ:St}{H:Hp}{s:Shared}{R:It->Hp->Prop}{E:Value->Shared->Prop}{lo hi:Int}{t u v:Tok}{tk:Nat}(I:Inv X pins σ H s)(h1: -(2^62)<=lo)(h2:lo<2^62)(h3: -(2^62)<=hi)(h4:hi<2^62)
  (q:R (Itr lo (hi-lo).toNat) H):wpAny (model X.prog X.w) X.A (pyIter (.ref s.heap.objs.size)) (PIE X pins σ tg R) E {s with heap:=s.heap.push {cls:=.type "range",data:=.fields #[.int lo t,.int hi u,.int 1 v]},toks:=tk}:=by
 refine wpAny_pyIter_range (IsRange.new ..) (small_one h1 h2 h3 h4) ?_
 have I1:Inv X pins σ H {s with heap:=s.heap.push {cls:=.type "range",data:=.fields #[.int lo t,.int hi u,.int 1 v]},toks:=tk}:=I.kept fun b o e=>aq13 _ e
 refine⟨(s.heap.push {cls:=.type "range",data:=.fields #[.int lo t,.int hi u,.int 1 v]}).objs.size,[(s.heap.push {cls:=.type "range",data:=.fields #[.int lo t,.int hi u,.int 1 v]}).objs.size],_,_,H,rfl,
  I1.kept (t':=tk) fun b o e=>aq13 _ e,pI _ lo (hi-lo).toNat,?_,fun b hb=>?_,q⟩
 ·have e1:lo+((0:Nat):Int)*1=lo:=by simp
  have e2:(((hi-lo).toNat:Nat):Int)-((0:Nat):Int)=Builtin.Range.rangeSize lo hi 1:=by rw[rangeSize_one];split<;>omega
  show IsRangeIter _ _ (lo+((0:Nat):Int)*1) ((((hi-lo).toNat:Nat):Int)-((0:Nat):Int)) 1
  rw[e1,e2]
  exact aq14 _ rfl
 ·have e:b=(s.heap.push {cls:=.type "range",data:=.fields #[.int lo t,.int hi u,.int 1 v]}).objs.size:=by simpa using hb
  subst e
  exact I1.fpOk (aq7 _) (I1.hok.fresh (aq7 _))
def zN9(ta:TA):TI:=fun σ H R=>ta σ H fun vs H1=>∃j:Int,vs=[.int j]/\ -(2^62)<=j/\j<2^62/\R (Itr 0 j.toNat) H1
theorem uH{a:Expr}{ta:TA}{p pos:Pos}(hg:Gl X "range")(hm:X.mg "range"=none)(ha:PA X [a] ta)(hs:starEach [a] X.env=[(false,eval a X.env)]:=by rfl):PI X tg (.Call (.Name "range" p) [a] [] pos) (zN9 ta):=by
 intro pins s σ H R I h
 refine Call_ (vR I hg hm boot_range (PyProof.Rows.callWith_type1 (thn (ha pos pins s σ H _ I h) fun us s1⟨vs,H1,I1,r1,q1⟩=>?_) hs rfl))
 obtain⟨j,e,q1,q2,q⟩:=q1
 subst e
 cases r1 with
 |cons r rr=>
  cases rr
  obtain⟨t,rfl⟩:=r
  exact call_range_1 (qK9 I1 (by omega) (by omega) q1 q2 (by simpa using q))
def zSj(wi:TI)(g:TG)(tb:TS):TS:=fun D σ H=>wi σ H fun J H1=>∃W:Nat->Nat->St->Hp->Prop,(∃m,W 0 m σ H1)/\∀i m σ H,W i m σ H->
 (J.stop i H/\D.nx σ H)\/(J.go i H/\∃N:St->Hp->Prop,(∀σ' H',N σ' H'->∃m',m'<m/\W (i+1) m' σ' H')/\∀x H',J.yld i H x H'->g x σ H' fun σ2 H2=>tb {D with nx:=N,ct:=N,bk:=D.nx} σ2 H2)
def uP(fp:List Addr)(h:Heap):List (Addr×Obj):=fp.filterMap fun b=>(h.get? b).map fun o=>(b,o)
theorem xP{fp:List Addr}{h:Heap}{b:Addr}{o:Obj}(hb:b∈fp)(e:h.get? b=some o):(b,o)∈uP fp h:=List.mem_filterMap.mpr ⟨b,hb,by rw[e];rfl⟩
theorem qQ9{fp:List Addr}{h:Heap}{p:Addr×Obj}(hp:p∈uP fp h):p.1∈fp/\h.get? p.1=some p.2:=by
 obtain⟨b,hb,e⟩:=List.mem_filterMap.mp hp
 cases q:h.get? b with
 |none=>rw[q]at e;cases e
 |some o=>
  rw[q]at e
  have e':(b,o)=p:=Option.some.inj e
  subst e'
  exact⟨hb,q⟩
theorem Inv.pinned{pins:List (Addr×Obj)}{σ:St}{H:Hp}{s:Shared}{fp:List Addr}(I:Inv X pins σ H s)(hf:∀b∈fp,vI X pins H b)(ho:∀b∈fp,∃o,s.heap.get? b=some o/\∀v,o.data≠ .cell v):Inv X (pins++uP fp s.heap) σ H s:=
 I.pins_of fun p hp=>(List.mem_append.mp hp).elim (fun z=>I.pin p (aq11 _ z)) fun z=>by
  obtain⟨hb,e⟩:=qQ9 z
  obtain⟨f0,f1,f2,_⟩:=hf p.1 hb
  obtain⟨o,e',d⟩:=ho p.1 hb
  rw[e]at e';cases e'
  exact⟨e,f0,f1,f2,d⟩
theorem Inv.unpinned{pins pl:List (Addr×Obj)}{σ:St}{H:Hp}{s:Shared}(I:Inv X (pins++pl) σ H s):Inv X pins σ H s:=I.pins_of fun p hp=>I.pin p (aq11 _ (List.mem_append_left _ hp))
theorem vS{iter:Expr}{body:List Stmt}{wi:TI}{g:TG}{tb:TS}{pos:Pos}(hp:PassesOwn (model X.prog X.w) X.A X.env X.xe)(hc:X.calm=true)(hi:PI X tg iter wi)(hg:PG X tg g)(hb:PSs X body tb)
  (hs:∀x,foldedSetIterable iter X.env x=pure x:=by intro _;rfl):PS X (.For tg iter body [] pos) (zSj wi g tb):=by
 intro pins s σ H D I h
 refine wpAny_For (thn (hi pins s σ H _ I h) fun v s1 h1=>thn h1 fun itv s2 h2=>?_) hs
 obtain⟨it,fp,tn,J,H2,e,I2,T,st2,f2,W,⟨m0,w0⟩,turn⟩:=h2
 subst e
 have stat:∀{H':Hp},(∀b∈fp,H' b=none)->∀b∈fp,vI X pins H' b:=fun hn b hb=>⟨hn b hb,(f2 b hb).2⟩
 refine codeAny_forLoop_any (fun n s'=>∃i σ' H',Inv X pins σ' H' s'/\tn i s'.heap/\(∀b∈fp,H' b=none)/\W i n σ' H') ?_ m0 ⟨0,σ,H2,I2,st2,fun b hb=>(f2 b hb).1,w0⟩
 rintro n s3 ⟨i,σ3,H3,I3,st3,fr3,w3⟩
 rcases turn i n σ3 H3 w3 with⟨stop,qn⟩|⟨go,N,hN,step⟩
 ·refine wpAny_passesOwn hp (thn (T.done X rfl rfl rfl hc i pins s3 σ3 H3 X.xe I3 (stat fr3) st3 stop) fun r s4⟨hr,I4⟩=>?_)
  subst hr
  exact wpAny_execs_nil ⟨σ3,H3,I4,qn⟩
 ·refine wpAny_passesOwn hp (thn (T.item X rfl rfl rfl hc i pins s3 σ3 H3 X.xe I3 (stat fr3) st3 go) fun r s4⟨u,hr,h4⟩=>?_)
  subst hr
  refine wpAny_passesOwn hp (thn h4 fun _ s5⟨x,H5,I5,r5,y5,st5,fr5⟩=>?_)
  have I5':=I5.pinned (stat fr5) (T.obj _ _ st5)
  refine wpAny_passesOwn hp (thn (hg _ s5 σ3 H5 x u _ I5' r5 (step x H5 y5)) fun _ s6⟨σ6,H6,I6,q6⟩=>?_)
  refine wpAny_passesOwn hp (thn (hb _ s6 σ6 H6 _ I6 q6) fun f s7 q7=>?_)
  have again:∀{σ7:St}{H7:Hp},Inv X (pins++uP fp s5.heap) σ7 H7 s7->N σ7 H7->∃m,m<n/\∃i σ' H',Inv X pins σ' H' s7/\tn i s7.heap/\(∀b∈fp,H' b=none)/\W i m σ' H':=fun {σ7 H7}I7 n7=>by
   obtain⟨m',hm,w7⟩:=hN σ7 H7 n7
   refine⟨m',hm,i+1,σ7,H7,I7.unpinned,T.keep _ _ _ st5 fun b hb o e=>(I7.pin (b,o) (aq11 _ (aq11 _ (xP hb e)))).1,fun b hb=>?_,w7⟩
   obtain⟨o,e,d⟩:=T.obj _ _ st5 b hb
   exact(I7.pin (b,o) (aq11 _ (aq11 _ (xP hb e)))).2.1
  cases f with
  |next=>obtain⟨σ7,H7,I7,n7⟩:=q7;exact again I7 n7
  |cont=>obtain⟨σ7,H7,I7,n7⟩:=q7;exact again I7 n7
  |brk=>obtain⟨σ7,H7,I7,q7⟩:=q7;exact⟨σ7,H7,I7.unpinned,q7⟩
  |ret v=>obtain⟨x7,σ7,H7,I7,r7,q7⟩:=q7;exact⟨x7,σ7,H7,I7.unpinned,r7,q7⟩
end
theorem bN{K:Fg}{a:Addr}{xs:List V}{g:TG}{tb:TS}{D:Ends}{σ:St}{H:Hp}(Pv:Nat->St->Hp->Prop)(h0:Pv 0 σ H)(hl:∀i σ H,i<=xs.length->Pv i σ H->zS K H a xs)
  (hs:∀i x σ H,xs[i]? =some x->Pv i σ H->g x σ H fun σ2 H2=>tb {D with nx:=Pv (i+1),ct:=Pv (i+1),bk:=D.nx} σ2 H2)(hd:∀σ H,Pv xs.length σ H->D.nx σ H):
  ∃W:Nat->Nat->St->Hp->Prop,(∃m,W 0 m σ H)/\∀i m σ H,W i m σ H->
   ((Itl K a).stop i H/\D.nx σ H)\/((Itl K a).go i H/\∃N:St->Hp->Prop,(∀σ' H',N σ' H'->∃m',m'<m/\W (i+1) m' σ' H')/\∀x H',(Itl K a).yld i H x H'->g x σ H' fun σ2 H2=>tb {D with nx:=N,ct:=N,bk:=D.nx} σ2 H2):=by
 refine⟨fun i m σ H=>m=xs.length-i/\i<=xs.length/\Pv i σ H,⟨xs.length,by simp,Nat.zero_le _,h0⟩,?_⟩
 rintro i m σ H ⟨rfl,hi,p⟩
 have q:=hl i σ H hi p
 by_cases hlt:i<xs.length
 ·refine .inr ⟨⟨xs,xs[i],q,by simp[hlt]⟩,Pv (i+1),fun σ' H' p'=>⟨xs.length-(i+1),by omega,rfl,hlt,p'⟩,fun x H' y=>?_⟩
  obtain⟨e,y⟩:=y
  subst e
  exact hs i x σ _ (y xs q) p
 ·have e:i=xs.length:=by omega
  subst e
  exact .inl ⟨⟨xs,q,aq7 _⟩,hd σ H p⟩
theorem uS{lo:Int}{n:Nat}{g:TG}{tb:TS}{D:Ends}{σ:St}{H:Hp}(Pv:Nat->St->Hp->Prop)(h0:Pv 0 σ H)
  (hs:∀i σ H,i<n->Pv i σ H->g (.int (lo+i)) σ H fun σ2 H2=>tb {D with nx:=Pv (i+1),ct:=Pv (i+1),bk:=D.nx} σ2 H2)(hd:∀σ H,Pv n σ H->D.nx σ H):
  ∃W:Nat->Nat->St->Hp->Prop,(∃m,W 0 m σ H)/\∀i m σ H,W i m σ H->
   ((Itr lo n).stop i H/\D.nx σ H)\/((Itr lo n).go i H/\∃N:St->Hp->Prop,(∀σ' H',N σ' H'->∃m',m'<m/\W (i+1) m' σ' H')/\∀x H',(Itr lo n).yld i H x H'->g x σ H' fun σ2 H2=>tb {D with nx:=N,ct:=N,bk:=D.nx} σ2 H2):=by
 refine⟨fun i m σ H=>m=n-i/\i<=n/\Pv i σ H,⟨n,by simp,Nat.zero_le _,h0⟩,?_⟩
 rintro i m σ H ⟨rfl,hi,p⟩
 by_cases hlt:i<n
 ·refine .inr ⟨hlt,Pv (i+1),fun σ' H' p'=>⟨n-(i+1),by omega,rfl,hlt,p'⟩,fun x H' y=>?_⟩
  obtain⟨e,y⟩:=y
  subst e y
  exact hs i σ _ hlt p
 ·have e:i=n:=by omega
  subst e
  exact .inl ⟨aq7 _,hd σ H p⟩
abbrev R2:=V->V->Hp->VK->Prop
def yP(X:Cx)(f:Value->Value->Sem Value)(r:R2):Prop:=
 ∀(pins:List (Addr×Obj))(s:Shared)(σ:St)(H:Hp)(x y:V)(v u:Value)(Q:VK),Inv X pins σ H s->zG x v->zG y u->r x y H Q->
  wpAny (model X.prog X.w) X.A (f v u) (EP X pins σ Q) X.xe s
def UnR(X:Cx)(f:Value->Sem Value)(r:V->Hp->VK->Prop):Prop:=
 ∀(pins:List (Addr×Obj))(s:Shared)(σ:St)(H:Hp)(x:V)(v:Value)(Q:VK),Inv X pins σ H s->zG x v->r x H Q->
  wpAny (model X.prog X.w) X.A (f v) (EP X pins σ Q) X.xe s
def kP(X:Cx)(f:Value)(r:List V->Hp->VK->Prop):Prop:=
 ∀(pins:List (Addr×Obj))(s:Shared)(σ:St)(H:Hp)(xs:List V)(us:List Value)(Q:VK),Inv X pins σ H s->Vals xs us->r xs H Q->
  wpAny (model X.prog X.w) X.A (call f us) (EP X pins σ Q) X.xe s
def zT1(X:Cx)(r:V->Hp->(Bool->Hp->Prop)->Prop):Prop:=
 ∀(pins:List (Addr×Obj))(s:Shared)(σ:St)(H:Hp)(x:V)(v:Value)(Q:Bool->Hp->Prop),Inv X pins σ H s->zG x v->r x H Q->
  wpAny (model X.prog X.w) X.A (truthy v) (TP X pins σ Q) X.xe s
def sD(r:R2)(ta tb:TE):TE:=fun σ H Q=>ta σ H fun x H1=>tb σ H1 fun y H2=>r x y H2 Q
def tUn(r:V->Hp->VK->Prop)(ta:TE):TE:=fun σ H Q=>ta σ H fun x H1=>r x H1 Q
inductive rI_(C:Int->Int->Prop)(g:Int->Int->V)(x:V)(y:V)(H:Hp)(Q:VK):Prop
 |mk (i:_) (j:_) (a_0:x= .int i) (a_1:y= .int j) (a_2:C i j) (a_3:Q (g i j) H):rI_ C g x y H Q
def rI(C:Int->Int->Prop)(g:Int->Int->V):R2:=fun x y H Q=>rI_ C g x y H Q
inductive zNq(g:Int->Int->V)(x:V)(y:V)(H:Hp)(Q:VK):Prop
 |mk (i:_) (j:_) (a_0:x= .int i) (a_1:y= .int j) (a_2:Q (g i j) H):zNq g x y H Q
def rI0(g:Int->Int->V):R2:=fun x y H Q=>zNq g x y H Q
inductive rU_(g:Int->V)(x:V)(H:Hp)(Q:VK):Prop
 |mk (i:_) (a_0:x= .int i) (a_1:Q (g i) H):rU_ g x H Q
def rU(g:Int->V):V->Hp->VK->Prop:=fun x H Q=>rU_ g x H Q
section
variable {X:Cx} {a b c:Expr} {ta tb tc:TE} {pos:Pos}
theorem zV9(ha:PE X a ta)(hb:PE X b tb){pins:List (Addr×Obj)}{s:Shared}{σ:St}{H:Hp}{R:V->V->Hp->Prop}(I:Inv X pins σ H s)
  (h:ta σ H fun x H1=>tb σ H1 fun y H2=>R x y H2){Q:Value->Shared->Prop}{f:Value->Value->Sem Value}
  (hf:∀v u s2 x y H2,Inv X pins σ H2 s2->zG x v->zG y u->R x y H2->wpAny (model X.prog X.w) X.A (f v u) Q X.xe s2):
  wpAny (model X.prog X.w) X.A (eval a X.env) (fun v s₁=>wpAny (model X.prog X.w) X.A (eval b X.env) (fun u s₂=>wpAny (model X.prog X.w) X.A (f v u) Q X.xe s₂) X.xe s₁) X.xe s:=by
 refine thn (ha pins s σ H _ I h) fun v s1⟨x,H1,I1,r1,q1⟩=>?_
 refine thn (hb pins s1 σ H1 _ I1 q1) fun u s2⟨y,H2,I2,r2,q2⟩=>?_
 exact hf v u s2 x y H2 I2 r1 r2 q2
theorem zU{op:Operator}{r:R2}(ho:yP X (binaryOp op) r)(ha:PE X a ta)(hb:PE X b tb):PE X (.BinOp a op b pos) (sD r ta tb):=by
 intro pins s σ H Q I h
 exact wpAny_BinOp (zV9 ha hb I h fun v u s2 x y H2 I2 rx ry q=>ho pins s2 σ H2 x y v u Q I2 rx ry q)
theorem lO{op:UnaryOp}{r:V->Hp->VK->Prop}(ho:UnR X (unaryOp op) r)(ha:PE X a ta):PE X (.UnaryOp op a pos) (tUn r ta):=by
 intro pins s σ H Q I h
 exact UnaryOp_ (thn (ha pins s σ H _ I h) fun v s1⟨x,H1,I1,r1,q1⟩=>ho pins s1 σ H1 x v Q I1 r1 q1)
theorem opI{f:Value->Value->Sem Value}{C:Int->Int->Prop}{g:Int->Int->Int}
  (rule:∀(i j:Int)(t u:Tok)(s:Shared)(Q:Value->Shared->Prop)(E:Value->Shared->Prop),C i j->Q (.int (g i j) s.toks) {s with toks:=s.toks+1}->wpAny (model X.prog X.w) X.A (f (.int i t) (.int j u)) Q E s):
  yP X f (rI C fun i j=>.int (g i j)):=by
 intro pins s σ H x y v u Q I rx ry h
 obtain⟨i,j,rfl,rfl,hc,q⟩:=h
 obtain⟨t,rfl⟩:=rx
 obtain⟨t',rfl⟩:=ry
 exact rule i j t t' s _ _ hc ⟨.int (g i j),H,I.tok _,⟨_,rfl⟩,q⟩
theorem zNj{f:Value->Value->Sem Value}{g:Int->Int->Int}
  (rule:∀(i j:Int)(t u:Tok)(s:Shared)(Q:Value->Shared->Prop)(E:Value->Shared->Prop),Q (.int (g i j) s.toks) {s with toks:=s.toks+1}->wpAny (model X.prog X.w) X.A (f (.int i t) (.int j u)) Q E s):
  yP X f (rI0 fun i j=>.int (g i j)):=by
 intro pins s σ H x y v u Q I rx ry h
 obtain⟨i,j,rfl,rfl,q⟩:=h
 obtain⟨t,rfl⟩:=rx
 obtain⟨t',rfl⟩:=ry
 exact rule i j t t' s _ _ ⟨.int (g i j),H,I.tok _,⟨_,rfl⟩,q⟩
theorem qDq{f:Value->Value->Sem Value}{g:Int->Int->Bool}
  (rule:∀(i j:Int)(t u:Tok)(s:Shared)(Q:Value->Shared->Prop)(E:Value->Shared->Prop),Q (.bool (g i j)) s->wpAny (model X.prog X.w) X.A (f (.int i t) (.int j u)) Q E s):
  yP X f (rI0 fun i j=>.bl (g i j)):=by
 intro pins s σ H x y v u Q I rx ry h
 obtain⟨i,j,rfl,rfl,q⟩:=h
 obtain⟨t,rfl⟩:=rx
 obtain⟨t',rfl⟩:=ry
 exact rule i j t t' s _ _ ⟨.bl (g i j),H,I,rfl,q⟩
def CDiv(i j:Int):Prop:=0<j/\j<1073741824
def CMul(i j:Int):Prop:=(-(2^64)<i/\i<2^64)\/(-(2^64)<j/\j<2^64)
theorem CMul.ok{i j:Int}(h:CMul i j):IntMulOk i j:=by
 rcases h with⟨h1,h2⟩|⟨h1,h2⟩
 ·exact .of_left (intBits_le_64 h1 h2)
 ·exact .of_right (intBits_le_64 h1 h2)
theorem xA:yP X (binaryOp .Add) (rI0 fun i j=>.int (i+j)):=zNj fun _ _ _ _ _ _ _ q=>add_int q
theorem vT:yP X (binaryOp .Sub) (rI0 fun i j=>.int (i-j)):=zNj fun _ _ _ _ _ _ _ q=>sub_int q
theorem yM:yP X (binaryOp .Mult) (rI CMul fun i j=>.int (i*j)):=opI fun _ _ _ _ _ _ _ hc q=>mul_int q hc.ok
theorem iJ:yP X (binaryOp .FloorDiv) (rI CDiv fun i j=>.int (i/j)):=opI fun i j _ _ _ _ _ hc q=>by
 have h1:(0:Int)<j:=hc.1
 have h2:j<1073741824:=hc.2
 exact floordiv_int (by omega) (by rw[Int.fdiv_eq_ediv_of_nonneg i (by omega)];exact q) (.inl (PyProof.noPylong_small (by omega)))
theorem kN:yP X (binaryOp .Mod) (rI (fun _ j=>0<j) fun i j=>.int (i%j)):=opI fun i j _ _ _ _ _ hc q=>by
 have h1:(0:Int)<j:=hc
 exact mod_int' (by omega) (by rw[Int.fmod_eq_emod_of_nonneg i (by omega)];exact q)
theorem unI{f:Value->Sem Value}{g:Int->Int}
  (rule:∀(i:Int)(t:Tok)(s:Shared)(Q:Value->Shared->Prop)(E:Value->Shared->Prop),Q (.int (g i) s.toks) {s with toks:=s.toks+1}->wpAny (model X.prog X.w) X.A (f (.int i t)) Q E s):
  UnR X f (rU fun i=>.int (g i)):=by
 intro pins s σ H x v Q I rx h
 obtain⟨i,rfl,q⟩:=h
 obtain⟨t,rfl⟩:=rx
 exact rule i t s _ _ ⟨.int (g i),H,I.tok _,⟨_,rfl⟩,q⟩
theorem uT:UnR X (unaryOp .USub) (rU fun i=>.int (-i)):=unI fun _ _ _ _ _ q=>neg_int q
end
def scal:V->V->Bool
 | .non,.non=>true| .non,.int _=>true| .int _,.non=>true| .non,.bl _=>true| .bl _,.non=>true| .non,.str _=>true| .str _,.non=>true
 | .int _,.int _=>true| .bl _,.bl _=>true| .str _,.str _=>true| .byt _,.byt _=>true
 | .int _,.str _=>true| .str _,.int _=>true| .bl _,.str _=>true| .str _,.bl _=>true
 |_,_=>false
def rEq:R2:=fun x y H Q=>scal x y=true/\Q (.bl (decide (x=y))) H
def rNe:R2:=fun x y H Q=>scal x y=true/\Q (.bl (!decide (x=y))) H
theorem sH{i j:Int}:decide (V.int i=V.int j)=(i==j):=by
 rw[Bool.eq_iff_iff]
 simp
theorem qKq{i j:Bool}:decide (V.bl i=V.bl j)=(i==j):=by
 rw[Bool.eq_iff_iff]
 simp
theorem sP{i j:Str}:decide (V.str i=V.str j)=(i==j):=by
 rw[Bool.eq_iff_iff]
 simp
theorem sR{i j:Array UInt8}:decide (V.byt i=V.byt j)=(i.toList==j.toList):=by
 rw[Bool.eq_iff_iff]
 cases i
 cases j
 simp
section
variable {X:Cx} {a b c:Expr} {ta tb tc:TE} {pos:Pos}
theorem jZ{pins:List (Addr×Obj)}{σ:St}{H:Hp}{s:Shared}{Q:VK}{k k':Bool}(I:Inv X pins σ H s)(q:Q (.bl k) H)(e:k=k'):EP X pins σ Q (.bool k') s:=by
 subst e
 exact⟨.bl k,H,I,rfl,q⟩
theorem jS:yP X (compareOp .Eq) rEq:=by
 intro pins s σ H x y v u Q I rx ry h
 obtain⟨hs,q⟩:=h
 cases x with
 |non=>
  cases rx
  cases y with
  |non=>cases ry;exact PySem.EqNone.eq_none_none (jZ I q (by simp))
  |bl j=>cases ry;exact PySem.EqNone.eq_none_bool (jZ I q (by simp))
  |int j=>obtain⟨t',rfl⟩:=ry;exact PySem.EqNone.eq_none_int (jZ I q (by simp))
  |str j=>obtain⟨t',rfl⟩:=ry;exact PySem.EqNone.eq_none_str (jZ I q (by simp))
  |_=>exact absurd (show false=true from hs) Bool.false_ne_true
 |bl i=>
  cases rx
  cases y with
  |non=>cases ry;exact PySem.EqNone.eq_bool_none (jZ I q (by simp))
  |bl j=>cases ry;exact eq_bool (jZ I q qKq)
  |str j=>obtain⟨t',rfl⟩:=ry;exact PySem.EqMixed.eq_bool_str (jZ I q (by simp))
  |_=>exact absurd (show false=true from hs) Bool.false_ne_true
 |int i=>
  obtain⟨t,rfl⟩:=rx
  cases y with
  |non=>cases ry;exact PySem.EqNone.eq_int_none (jZ I q (by simp))
  |int j=>obtain⟨t',rfl⟩:=ry;exact eq_int (jZ I q sH)
  |str j=>obtain⟨t',rfl⟩:=ry;exact PySem.EqMixed.eq_int_str (jZ I q (by simp))
  |_=>exact absurd (show false=true from hs) Bool.false_ne_true
 |str i=>
  obtain⟨t,rfl⟩:=rx
  cases y with
  |non=>cases ry;exact PySem.EqNone.eq_str_none (jZ I q (by simp))
  |bl j=>cases ry;exact PySem.EqMixed.eq_str_bool (jZ I q (by simp))
  |int j=>obtain⟨t',rfl⟩:=ry;exact PySem.EqMixed.eq_str_int (jZ I q (by simp))
  |str j=>obtain⟨t',rfl⟩:=ry;exact eq_str (jZ I q sP)
  |_=>exact absurd (show false=true from hs) Bool.false_ne_true
 |byt i=>
  obtain⟨t,rfl⟩:=rx
  cases y with
  |byt j=>obtain⟨t',rfl⟩:=ry;exact PySem.W.eq_bytes (jZ I q sR)
  |_=>exact absurd (show false=true from hs) Bool.false_ne_true
 |_=>cases y<;>exact absurd (show false=true from hs) Bool.false_ne_true
theorem wL:yP X (compareOp .NotEq) rNe:=by
 intro pins s σ H x y v u Q I rx ry h
 obtain⟨hs,q⟩:=h
 cases x with
 |non=>
  cases rx
  cases y with
  |non=>cases ry;exact PySem.EqNone.ne_none_none (jZ I q (by simp))
  |bl j=>cases ry;exact PySem.EqNone.ne_none_bool (jZ I q (by simp))
  |int j=>obtain⟨t',rfl⟩:=ry;exact PySem.EqNone.ne_none_int (jZ I q (by simp))
  |str j=>obtain⟨t',rfl⟩:=ry;exact PySem.EqNone.ne_none_str (jZ I q (by simp))
  |_=>exact absurd (show false=true from hs) Bool.false_ne_true
 |bl i=>
  cases rx
  cases y with
  |non=>cases ry;exact PySem.EqNone.ne_bool_none (jZ I q (by simp))
  |bl j=>cases ry;exact ne_bool (jZ I q (congrArg not qKq))
  |str j=>obtain⟨t',rfl⟩:=ry;exact PySem.EqMixed.ne_bool_str (jZ I q (by simp))
  |_=>exact absurd (show false=true from hs) Bool.false_ne_true
 |int i=>
  obtain⟨t,rfl⟩:=rx
  cases y with
  |non=>cases ry;exact PySem.EqNone.ne_int_none (jZ I q (by simp))
  |int j=>obtain⟨t',rfl⟩:=ry;exact ne_int (jZ I q (congrArg not sH))
  |str j=>obtain⟨t',rfl⟩:=ry;exact PySem.EqMixed.ne_int_str (jZ I q (by simp))
  |_=>exact absurd (show false=true from hs) Bool.false_ne_true
 |str i=>
  obtain⟨t,rfl⟩:=rx
  cases y with
  |non=>cases ry;exact PySem.EqNone.ne_str_none (jZ I q (by simp))
  |bl j=>cases ry;exact PySem.EqMixed.ne_str_bool (jZ I q (by simp))
  |int j=>obtain⟨t',rfl⟩:=ry;exact PySem.EqMixed.ne_str_int (jZ I q (by simp))
  |str j=>obtain⟨t',rfl⟩:=ry;exact ne_str (jZ I q (congrArg not sP))
  |_=>exact absurd (show false=true from hs) Bool.false_ne_true
 |byt i=>
  obtain⟨t,rfl⟩:=rx
  cases y with
  |byt j=>obtain⟨t',rfl⟩:=ry;exact PySem.W.ne_bytes (jZ I q (congrArg not sR))
  |_=>exact absurd (show false=true from hs) Bool.false_ne_true
 |_=>cases y<;>exact absurd (show false=true from hs) Bool.false_ne_true
theorem oG:yP X (compareOp .Lt) (rI0 fun i j=>.bl (decide (i<j))):=qDq fun _ _ _ _ _ _ _ q=>lt_int q
theorem qE8:yP X (compareOp .LtE) (rI0 fun i j=>.bl (decide (i<=j))):=qDq fun _ _ _ _ _ _ _ q=>le_int q
theorem bD:yP X (compareOp .Gt) (rI0 fun i j=>.bl (decide (j<i))):=qDq fun _ _ _ _ _ _ _ q=>gt_int q
theorem qE9:yP X (compareOp .GtE) (rI0 fun i j=>.bl (decide (j<=i))):=qDq fun _ _ _ _ _ _ _ q=>ge_int q
theorem nomark(b:Expr){op:CmpOp}(h:op≠ .In:=by decide)(h2:op≠ .NotIn:=by decide):behindInMarks op b=false:=by
 have e1:(op==CmpOp.In)=false:=by cases op<;>first|rfl|exact absurd rfl h
 have e2:(op==CmpOp.NotIn)=false:=by cases op<;>first|rfl|exact absurd rfl h2
 cases b<;>simp[behindInMarks,e1,e2]
theorem jI{op:CmpOp}{r:R2}(ho:yP X (compareOp op) r)(ha:PE X a ta)(hb:PE X b tb)(hm:behindInMarks op b=false):PE X (.Compare a [op] [b] pos) (sD r ta tb):=by
 intro pins s σ H Q I h
 exact wpAny_Compare1 (zV9 ha hb I h fun v u s2 x y H2 I2 rx ry q=>ho pins s2 σ H2 x y v u Q I2 rx ry q) hm
inductive qKz(Q:Bool->Hp->Prop)(x:V)(H':Hp):Prop
 |mk (k:_) (a_0:x= .bl k) (a_1:Q k H'):qKz Q x H'
def qEq(t:TE):TT:=fun σ H Q=>t σ H fun x H'=>qKz Q x H'
theorem zZ{op:CmpOp}{r:R2}(ho:yP X (compareOp op) r)(ha:PE X a ta)(hb:PE X b tb)(hm:behindInMarks op b=false):PT X (.Compare a [op] [b] pos) (qEq (sD r ta tb)):=by
 intro pins s σ H Q I h
 refine wpAny_isTrue_Compare1 (thn (ha pins s σ H _ I h) fun v s1⟨x,H1,I1,r1,q1⟩=>thn (hb pins s1 σ H1 _ I1 q1) fun u s2⟨y,H2,I2,r2,q2⟩=>
  thn (ho pins s2 σ H2 x y v u _ I2 r1 r2 q2) fun c s3⟨z,H3,I3,r3,k,e,q3⟩=>?_) hm
 subst e
 cases r3
 exact wpAny_truthy_bool ⟨H3,I3,q3⟩
def zB0(K:Fg)(x:V)(H:Hp)(k:Bool):Prop:=
 match x with
 | .non=>k=false
 | .bl b=>k=b
 | .int i=>k=(i !=0)
 | .str y=>y.length<=sizeLine/\k=((y.length:Int) !=0)
 | .byt y=>y.size<=sizeLine/\k=((y.size:Int) !=0)
 | .ref p=>(∃xs,zS K H p xs/\k= !xs.isEmpty)\/(∃xs,zB K H p xs/\k= !xs.isEmpty)\/∃kvs,H p=some (.dK kvs)/\k= !kvs.isEmpty
 |_=>False
theorem pG{κ:Type}{kvs:List (κ×V)}{vs:List (κ×Value)}(r:KV kvs vs):(!vs.isEmpty)= !kvs.isEmpty:=by
 cases r<;>rfl
theorem iB{xs:List V}{its:List Value}(r:Vals xs its):(!its.toArray.isEmpty)= !xs.isEmpty:=by
 cases r<;>simp
theorem line63:(sizeLine:Nat)<2^63:=by rw[sizeLine_eq];decide
theorem zVq:zT1 X (fun x H Q=>∃k,zB0 X.K x H k/\Q k H):=by
 intro pins s σ H x v Q I rx h
 obtain⟨k,e,q⟩:=h
 have hl:=line63
 have hs:sizeLine=16777216:=sizeLine_eq
 cases x with
 |non=>
  cases rx
  have e':k=false:=e
  subst e'
  exact truthy_none ⟨H,I,q⟩
 |bl b=>
  cases rx
  have e':k=b:=e
  subst e'
  exact wpAny_truthy_bool ⟨H,I,q⟩
 |int i=>
  obtain⟨t,rfl⟩:=rx
  have e':k=(i !=0):=e
  subst e'
  exact PySem.P.truthy_int ⟨H,I,q⟩
 |str y=>
  obtain⟨t,rfl⟩:=rx
  obtain⟨hy,e'⟩:y.length<=sizeLine/\k=((y.length:Int) !=0):=e
  subst e'
  exact PySem.P.truthy_str (by omega) ⟨H,I.tok _,q⟩
 |byt y=>
  obtain⟨t,rfl⟩:=rx
  obtain⟨hy,e'⟩:y.size<=sizeLine/\k=((y.size:Int) !=0):=e
  subst e'
  exact PySem.W.truthy_bytes (by omega) ⟨H,I.tok _,q⟩
 |ref p=>
  cases rx
  have e':(∃xs,zS X.K H p xs/\k= !xs.isEmpty)\/(∃xs,zB X.K H p xs/\k= !xs.isEmpty)\/∃kvs,H p=some (.dK kvs)/\k= !kvs.isEmpty:=e
  rcases e' with⟨xs,hx,e'⟩|⟨xs,hx,e'⟩|⟨kvs,hx,e'⟩
  ·subst e'
   obtain⟨its,r,pl,hz⟩:=I.list hx
   have hlen:=r.length
   exact wpAny_truthy_list pl.isList (by simp only[aq18];omega) ⟨H,I.tok _,by rw[iB r];exact q⟩
  ·subst e'
   obtain⟨its,r,pl,hz⟩:=I.tuple hx
   have hlen:=r.length
   exact truthy_tuple pl (by simp only[aq18];omega) ⟨H,I.tok _,by rw[iB r];exact q⟩
  ·subst e'
   obtain⟨hz,hS,vs,r,m⟩:kvs.length<=sizeLine/\(p==sysModules)=false/\∃vs,KV kvs vs/\s.heap.DictOf (jU X.prog X.w) p vs:=I.hok p _ hx
   have hlen:kvs.length=vs.length:=Paired.length r
   exact wpAny_truthy_dict hS m (by omega) ⟨H,I.tok _,by rw[pG r];exact q⟩
 |_=>exact(show False from e).elim
theorem yT(ha:PE X a ta)(he:∀whole,isTrue a X.env whole=(do let v<-whole;standAt a.pos;holding [v] (truthy v))):
  PT X a (fun σ H Q=>ta σ H fun x H'=>∃k,zB0 X.K x H' k/\Q k H'):=by
 intro pins s σ H Q I h
 exact isTrue_plain (thn (ha pins s σ H _ I h) fun v s1⟨x,H1,I1,r1,q1⟩=>zVq pins s1 σ H1 x v Q I1 r1 q1) (he _)
theorem vA:yP X (binaryOp .Add) (fun x y H Q=>∃i j,x= .str i/\y= .str j/\i.length+j.length<=sizeLine/\Q (.str (i++j)) H):=by
 intro pins s σ H x y v u Q I rx ry h
 obtain⟨i,j,rfl,rfl,hz,q⟩:=h
 obtain⟨t,rfl⟩:=rx
 obtain⟨t',rfl⟩:=ry
 exact add_str (fun t' tk=>⟨.str (i++j),H,I.tok _,⟨_,rfl⟩,q⟩) hz
theorem vals1{x:V}{us:List Value}(r:Vals [x] us):∃u,us=[u]/\zG x u:=by
 cases r with
 |cons r1 r2=>cases r2;exact⟨_,rfl,r1⟩
theorem vals2{x y:V}{us:List Value}(r:Vals [x,y] us):∃u w',us=[u,w']/\zG x u/\zG y w':=by
 cases r with
 |cons r1 r2=>
  cases r2 with
  |cons r3 r4=>cases r4;exact⟨_,_,rfl,r1,r3⟩
theorem yA:kP X (.builtin "abs") (fun xs H Q=>∃i,xs=[.int i]/\Q (.int (if i<0 then -i else i)) H):=by
 intro pins s σ H xs us Q I r h
 obtain⟨i,rfl,q⟩:=h
 obtain⟨u,rfl,t,rfl⟩:=vals1 r
 exact call_abs_int fun u tk=>⟨.int (if i<0 then -i else i),H,I.tok _,⟨_,rfl⟩,q⟩
theorem qQq(hc:X.calm=true):kP X (.builtin "min") (fun xs H Q=>∃i j,xs=[.int i,.int j]/\Q (.int (if j<i then j else i)) H):=by
 intro pins s σ H xs us Q I r h
 obtain⟨i,j,rfl,q⟩:=h
 obtain⟨u,w',rfl,⟨t,rfl⟩,⟨t',rfl⟩⟩:=vals2 r
 refine min_two_ints (I.ok.hd hc) fun h' tk k=>⟨_,H,I.kept k,?_,q⟩
 by_cases hj:j<i
 ·rw[if_pos hj,if_pos hj];exact⟨_,rfl⟩
 ·rw[if_neg hj,if_neg hj];exact⟨_,rfl⟩
theorem uA:kP X (.type "int") (fun xs H Q=>(∃i,xs=[.int i]/\Q (.int i) H)\/∃k,xs=[.bl k]/\Q (.int (if k then 1 else 0)) H):=by
 intro pins s σ H xs us Q I r h
 rcases h with⟨i,rfl,q⟩|⟨k,rfl,q⟩
 ·obtain⟨u,rfl,t,rfl⟩:=vals1 r
  exact call_int_int ⟨.int i,H,I,⟨_,rfl⟩,q⟩
 ·obtain⟨u,rfl,r1⟩:=vals1 r
  cases r1
  exact call_int_bool ⟨.int (if k then 1 else 0),H,I.tok _,⟨_,rfl⟩,q⟩
theorem mZ:kP X (.type "str") (fun xs H Q=>∃i,xs=[.int i]/\i.natAbs.log2<1920/\Q (.str (toString i)) H):=by
 intro pins s σ H xs us Q I r h
 obtain⟨i,rfl,hz,q⟩:=h
 obtain⟨u,rfl,t,rfl⟩:=vals1 r
 exact PySem.P.str_of_int hz ⟨.str _,H,I.tok _,⟨_,rfl⟩,q⟩
end
structure pM(h:Heap)(x dx C:Addr)(mA:Str->Option Value):Prop where
 obj:h.get? x=some (PySem.W.instObj C dx)
 ns:h.Ns1 dx mA
 ne:dx≠x
theorem qQz{h:Heap}{dx:Addr}{mA:Str->Option Value}(n:h.Ns1 dx mA):∃od,h.get? dx=some od/\∀name,PySem.W.lookIn name od=some (mA name):=by
 obtain⟨o,es,ep,ho,hd,hk,_,hm⟩:=n
 refine⟨o,ho,fun name=>?_⟩
 have e:=hm name
 unfold nsFind findBy at e
 rw[<-Array.find?_toList]at e
 unfold PySem.W.lookIn
 rw[hd]
 dsimp only
 split
 ·rename_i y q
  rw[q]at e
  exact congrArg some e
 ·rename_i q
  rw[q]at e
  have a:es.toList.any (·.refKey)=false:=by
   rw[List.any_eq_false]
   intro y hy
   obtain⟨z,t,hkey⟩:=hk y (Array.mem_toList_iff.mp hy)
   simp[DictEntry.refKey,hkey]
  have a':¬es.toList.any (·.refKey)=true:=by rw[a];exact Bool.false_ne_true
  rw[if_neg a']
  exact congrArg some e
theorem pM.look{h:Heap}{x dx C:Addr}{mA:Str->Option Value}(I:pM h x dx C mA):∃od,PySem.W.InstAt h x (PySem.W.instObj C dx) C (some od)/\∀name,PySem.W.lookIn name od=some (mA name):=
 let⟨od,ho,hl⟩:=qQz I.ns
 ⟨od,⟨I.obj,rfl,rfl,ho⟩,hl⟩
section
variable {prog:Program} {w:World} {A:Around} {E:Value->Shared->Prop} {s:Shared} {K:Fg} {x dx C f:Addr} {mA:Str->Option Value} {name:Str} {v:Value}
theorem qDz{expr:Bool}{Q:Value->Shared->Prop}(X:K.In s.heap)(I:pM s.heap x dx C mA)(hg:PySem.W.plainGet K C name=true)(hh:PySem.W.hasDictIn K C=true)
  (ha:PySem.W.findIn K (.ref C) name=some none)(hv:mA name=some v)(hv':PySem.W.handedIn v=true)(h:Q v {s with toks:=s.toks+1}):
  wpAny (model prog w) A (getAttr (.ref x) name expr) Q E s:=by
 obtain⟨od,J,hl⟩:=I.look
 exact PySem.W.get_value X J (PySem.W.plainGet_of hg).1 (PySem.W.findObj_own hh ha rfl (by rw[hl,hv])) hv' h
theorem qKj{pl:Sem Bool}{Q:Value×List Value->Shared->Prop}(X:K.In s.heap)(I:pM s.heap x dx C mA)(hg:PySem.W.plainGet K C name=true)
  (hf:PySem.W.findIn K (.ref C) name=some (some (.ref f)))(ht:PySem.W.isFn K (.ref f)=true)(hv:mA name=none)(h:Q (.ref f,[.ref x]) s):
  wpAny (model prog w) A (getMethod (.ref x) name pl) Q E s:=by
 obtain⟨od,J,hl⟩:=I.look
 exact PySem.W.method_fn X J (PySem.W.plainGet_of hg).1 (PySem.W.plainGet_of hg).2 hf (beq_iff_eq.mp ht) (by show(PySem.W.lookIn name od).map (·.isSome)=some false;rw[hl,hv];rfl) h
theorem qDj{ns:List Str}{Q:Unit->Shared->Prop}(X:K.In s.heap)(I:pM s.heap x dx C mA)
  (hs:PySem.W.findIn K (.ref C) "__setattr__"=some (some (.builtin "object.__setattr__")))(hp:PySem.W.plainOver K C=true)(ht:PySem.W.takerIn K C name=some none)(hh:PySem.W.hasDictIn K C=true)
  (hw:PySem.Within mA ns)(hsz:ns.length<=sizeLine)
  (h:∀h',pM h' x dx C (fun y=>if y=name then some v else mA y)->Heap.SameBut dx s.heap h'->Q () {s with heap:=h',toks:=s.toks+2}):
  wpAny (model prog w) A (setAttr (.ref x) name v) Q E s:=by
 obtain⟨od,J,hl⟩:=I.look
 refine PySem.W.set_plain X J hs (PySem.W.osa_open (s:={s with toks:=s.toks+1}) (r:=none) X J hp ht fun b=>?_)
 obtain⟨cd,hc,hd'⟩:=PySem.W.any_some hh
 have hx:s.heap.get? x=some ⟨.ref C,some dx,.plain,#[]⟩:=I.obj
 refine wpAny_bind (wpAny_pure (wpAny_bind (wpAny_bind (wpAny_loadPart hx (wpAny_bind (PySem.W.Looks.here (s:={s with toks:=s.toks+1}) (PySem.W.looks_clsIn X hc) ?_))))))
 rw[hd']
 refine wpAny_pure (a:=some dx) (wpAny_bind (wpAny_pure (wpAny_bind ?_)))
 refine wpAny_nsSet1 (s:={s with toks:=s.toks+1}) I.ns fun h' hn2 hs2=>?_
 obtain⟨oD,esD,epD,hoD,hdD,hcD⟩:=hn2.count (PySem.Within.cons name v hw)
 refine wpAny_bind (wpAny_lookBehind hoD (by rw[hdD];exact pastItsLine_dict (Nat.le_trans hcD (by rw[aq17];omega))) ?_)
 exact wpAny_pure (h _ ⟨(hs2.2 _ (Ne.symm I.ne)).trans I.obj,hn2,I.ne⟩ hs2)
theorem bP{R:Result->Shared->Prop}{vs:List Value}{kw:List (Str×Value)}(X:K.In s.heap)(hm:PySem.W.makesIn K C=true)
  (hi:PySem.W.findIn K (.ref C) "__init__"=some (some (.ref f)))(hf:PySem.W.typeIn K (.ref f)=some (.type "function"))
  (h:codeAny (model prog w) (A.under (.builtin "type.__call__" ⟨.ref C::vs,kw⟩)) (.call (.ref f) ⟨.ref (s.heap.objs.size+1)::vs,kw⟩) (PySem.W.InitBack (s.heap.objs.size+1) R)
   {s with heap:=(s.heap.push PySem.W.emptyDict).push (PySem.W.instObj C s.heap.objs.size)}):
  codeAny (model prog w) A (.call (.ref C) ⟨vs,kw⟩) R s:=by
 obtain⟨hh,g,d,t,os⟩:=s
 exact PySem.W.make_core (PySem.W.makes_of X hm) (PySem.W.looks_findIn X hi) (fun self=>PySem.W.bind_fn X self hf) (.inl rfl) h
end
def xG(f:Str)(v:V):List (Str×V)->List (Str×V)
 |[]=>[(f,v)]
 |(g,x)::r=>if g=f then(g,v)::r else(g,x)::xG f v r
theorem oM(f g:Str)(v:V):∀fs:List (Str×V),(xG f v fs).lookup g=if g=f then some v else fs.lookup g
 |[]=>by
  show List.lookup g [(f,v)]=_
  by_cases h:g=f
  ·have hb:(g==f)=true:=beq_iff_eq.mpr h
   simp only[List.lookup,hb,if_pos h]
  ·have hb:(g==f)=false:=beq_eq_false_iff_ne.mpr h
   simp only[List.lookup,hb,if_neg h]
 |(k,x)::r=>by
  have ih:=oM f g v r
  rw[show xG f v ((k,x)::r)=(if k=f then(k,v)::r else(k,x)::xG f v r)from rfl]
  by_cases hk:k=f
  ·rw[if_pos hk]
   by_cases h:g=k
   ·have hb:(g==k)=true:=beq_iff_eq.mpr h
    simp only[List.lookup,hb,if_pos (h.trans hk)]
   ·have hb:(g==k)=false:=beq_eq_false_iff_ne.mpr h
    simp only[List.lookup,hb,if_neg (fun e:g=f=>h (e.trans hk.symm))]
  ·rw[if_neg hk]
   by_cases h:g=k
   ·have hb:(g==k)=true:=beq_iff_eq.mpr h
    simp only[List.lookup,hb,if_neg (fun e:g=f=>hk (h.symm.trans e))]
   ·have hb:(g==k)=false:=beq_eq_false_iff_ne.mpr h
    simp only[List.lookup,hb]
    exact ih
theorem uE(f:Str)(v:V):∀fs:List (Str×V),f∈(xG f v fs).map (·.1)/\∀g,g∈fs.map (·.1)->g∈(xG f v fs).map (·.1)
 |[]=>⟨by simp[xG],fun g h=>by simp at h⟩
 |(k,x)::r=>by
  obtain⟨i1,i2⟩:=uE f v r
  rw[show xG f v ((k,x)::r)=(if k=f then(k,v)::r else(k,x)::xG f v r)from rfl]
  by_cases hk:k=f
  ·rw[if_pos hk]
   subst hk
   exact⟨by simp,fun g h=>by simpa using h⟩
  ·rw[if_neg hk]
   refine⟨?_,fun g h=>?_⟩
   ·rw[List.map_cons]
    exact aq10 _ i1
   ·rw[List.map_cons]at h⊢
    rcases List.mem_cons.mp h with e|e
    ·exact List.mem_cons.mpr (.inl e)
    ·exact aq10 _ (i2 g e)
theorem oN(f:Str)(v:V):∀fs:List (Str×V),(xG f v fs).length<=fs.length+1
 |[]=>by simp[xG]
 |(k,x)::r=>by
  have ih:=oN f v r
  rw[show xG f v ((k,x)::r)=(if k=f then(k,v)::r else(k,x)::xG f v r)from rfl]
  by_cases hk:k=f
  ·rw[if_pos hk,aq17,aq17];omega
  ·rw[if_neg hk,aq17,aq17];omega
theorem wO.some_of{v:V}{o:Option Value}(r:wO (some v) o):∃u,o=some u/\zG v u:=by
 cases o with
 |none=>exact(show False from r).elim
 |some u=>exact⟨u,rfl,r⟩
theorem wO.none_of{o:Option Value}(r:wO none o):o=none:=by
 cases o with
 |none=>rfl
 |some u=>exact(show False from r).elim
theorem qQj{v:V}{u:Value}(r:zG v u):PySem.W.handedIn u=true:=by
 cases v with
 |non=>cases (show u=Value.none from r);rfl
 |bl b=>cases (show u=Value.bool b from r);rfl
 |int i=>obtain⟨t,e⟩:=(show∃t,u=Value.int i t from r);cases e;rfl
 |str x=>obtain⟨t,e⟩:=(show∃t,u=Value.str x t from r);cases e;rfl
 |byt b=>obtain⟨t,e⟩:=(show∃t,u=Value.bytes b t from r);cases e;rfl
 |flt b=>obtain⟨t,e⟩:=(show∃t,u=Value.float b t from r);cases e;rfl
 |ref a=>cases (show u=Value.ref a from r);rfl
 |ty n=>cases (show u=Value.type n from r);rfl
section
variable {P:Program} {w:World} {H H':Hp} {h h':Heap} {a C dx:Addr} {fs fs':List (Str×V)}
theorem iX(hok:HOk P w H h)(e:H a=some (.ins C dx fs)):∃mA,pM h a dx C mA/\(∀f,wO (fs.lookup f) (mA f))/\PySem.Within mA (fs.map (·.1))/\fs.length<=1000/\H dx=some (.own a):=by
 obtain⟨d,z,ne,ob,mA,n,r,q⟩:=(show jP P w H h a (.ins C dx fs)from hok a _ e)
 exact⟨mA,⟨ob,n,ne⟩,r,q,z,d⟩
end
structure Cls(K:Fg)(C:Addr):Prop where
 pg:PySem.W.plainGet K C Str.empty=true
 hd:PySem.W.hasDictIn K C=true
 po:PySem.W.plainOver K C=true
 sa:PySem.W.findIn K (.ref C) "__setattr__"=some (some (.builtin "object.__setattr__"))
theorem Cls.get{K:Fg}{C:Addr}(c:Cls K C)(f:Str):PySem.W.plainGet K C f=true:=c.pg
def xK(K:Fg)(C:Addr)(f:Str):Prop:=PySem.W.findIn K (.ref C) f=some none
theorem xK.taker{K:Fg}{C:Addr}{f:Str}(n:xK K C f):PySem.W.takerIn K C f=some none:=by
 unfold PySem.W.takerIn
 rw[show PySem.W.findIn K (.ref C) f=some none from n]
 rfl
structure Meth(K:Fg)(C:Addr)(m:Str)(f:Addr):Prop where
 at_:PySem.W.findIn K (.ref C) m=some (some (.ref f))
 fn:PySem.W.isFn K (.ref f)=true
 kp:PySem.W.keepIn K (.ref f)=true
section
variable {X:Cx} {pins:List (Addr×Obj)} {σ:St} {H:Hp} {s:Shared} {a C dx:Addr} {fs:List (Str×V)} {f:Str} {v:V} {A:Around} {E:Value->Shared->Prop}
theorem iD{b:Bool}{Q:Value->Shared->Prop}(I:Inv X pins σ H s)(e:H a=some (.ins C dx fs))(c:Cls X.K C)(n:xK X.K C f)(l:fs.lookup f=some v)
  (h:∀u s',Inv X pins σ H s'->zG v u->Q u s'):wpAny (model X.prog X.w) A (getAttr (.ref a) f b) Q E s:=by
 obtain⟨mA,O,r,_,_,_⟩:=iX I.hok e
 obtain⟨u,hu,ru⟩:=wO.some_of (v:=v) (o:=mA f) (by rw[<-l];exact r f)
 exact qDz I.kIn O (c.get f) c.hd n hu (qQj ru) (h u _ (I.tok _) ru)
theorem vE{m:Str}{g:Addr}{pl:Sem Bool}{Q:Value×List Value->Shared->Prop}(I:Inv X pins σ H s)(e:H a=some (.ins C dx fs))(c:Cls X.K C)(k:Meth X.K C m g)(l:fs.lookup m=none)
  (h:Q (.ref g,[.ref a]) s):wpAny (model X.prog X.w) A (getMethod (.ref a) m pl) Q E s:=by
 obtain⟨mA,O,r,_,_,_⟩:=iX I.hok e
 have hn:mA m=none:=wO.none_of (by rw[<-l];exact r m)
 exact qKj I.kIn O (c.get m) k.at_ k.fn hn h
theorem iF{y:V}{u:Value}{Q:Unit->Shared->Prop}(I:Inv X pins σ H s)(e:H a=some (.ins C dx fs))(c:Cls X.K C)(n:xK X.K C f)(hl:fs.length<1000)(ry:zG y u)
  (h:∀s',Inv X pins σ (upd H a (.ins C dx (xG f y fs))) s'->Q () s'):wpAny (model X.prog X.w) A (setAttr (.ref a) f u) Q E s:=by
 obtain⟨mA,O,r,wi,_,ho⟩:=iX I.hok e
 have hz:(fs.map (·.1)).length<=sizeLine:=by rw[aq16,sizeLine_eq];omega
 refine qDj I.kIn O c.sa c.po n.taker c.hd wi hz fun h' O' sb=>h _ ?_
 have hd:∃o,h'.get? dx=some o:=let⟨o,_,_,e',_⟩:=O'.ns;⟨o,e'⟩
 refine I.write (x:=a) (e:=dx) (by rw[e];exact True.intro) (.inr ho) (fun b q hb z=>(sb.2 b hb).trans z) hd ?_
 refine⟨by rw[qL O.ne];exact ho,?_,O.ne,O'.obj,_,O'.ns,fun g=>?_,fun g hg=>?_⟩
 ·have :=oN f y fs;omega
 ·show wO ((xG f y fs).lookup g) (if g=f then some u else mA g)
  rw[oM]
  by_cases q:g=f
  ·rw[if_pos q,if_pos q];exact ry
  ·rw[if_neg q,if_neg q];exact r g
 ·by_cases q:g=f
  ·rw[q];exact(uE f y fs).1
  ·refine(uE f y fs).2 g (wi g fun z=>hg ?_)
   show(if g=f then some u else mA g)=none
   rw[if_neg q];exact z
theorem Inv.made(I:Inv X pins σ H s):Inv X pins σ (upd (upd H s.heap.objs.size (.own (s.heap.objs.size+1))) (s.heap.objs.size+1) (.ins C s.heap.objs.size []))
  {s with heap:=(s.heap.push PySem.W.emptyDict).push (PySem.W.instObj C s.heap.objs.size)}:=by
 have e1:(s.heap.push PySem.W.emptyDict).get? s.heap.objs.size=some PySem.W.emptyDict:=aq14 s.heap rfl
 have e2:((s.heap.push PySem.W.emptyDict).push (PySem.W.instObj C s.heap.objs.size)).get? (s.heap.objs.size+1)=some (PySem.W.instObj C s.heap.objs.size):=by
  have :=aq14 (s.heap.push PySem.W.emptyDict) (o:=PySem.W.instObj C s.heap.objs.size) rfl
  rwa [Heap.size_push]at this
 have e3:(s.heap.push PySem.W.emptyDict).Ns s.heap.objs.size (fun _=>none):=⟨PySem.W.emptyDict,#[],_,e1,rfl,(fun e he=>absurd he (by simp)),fun _=>rfl⟩
 have I1:=I.laid (a:=s.heap.objs.size) (o:=.own (s.heap.objs.size+1)) (h':=s.heap.push PySem.W.emptyDict) (t':=s.toks) (fun b u q=>aq13 _ q) (aq7 _) ⟨_,e1⟩
 refine I1.laid (a:=s.heap.objs.size+1) (o:=.ins C s.heap.objs.size []) (t':=s.toks) (fun b u q=>aq13 _ q) (Nat.le_of_eq (Heap.size_push _ _)) ?_
 have ne:s.heap.objs.size≠s.heap.objs.size+1:=aq9 (Nat.lt_succ_self _)
 refine⟨by rw[qL ne,qJ],Nat.zero_le _,ne,e2,fun _=>none,(Heap.Ns1.of_empty e3).at fun o q=>aq13 _ q,fun _=>True.intro,fun y hy=>absurd rfl hy⟩
theorem qF0{prog:Program}{w:World}{env:Env}{e:Expr}{f:Str}{pos:Pos}{s:Shared}{Q:Value->Shared->Prop}(hb:attributeBase e f env (eval e env)=eval e env)
  (h:wpAny (model prog w) A (eval e env) (fun o s₁=>wpAny (model prog w) A (getAttr o f true) Q E s₁) E s):wpAny (model prog w) A (eval (.Attribute e f pos) env) Q E s:=
 Attribute_any_ h (by rw[arm_eval_Attribute,hb])
end
inductive qEz(K:Fg)(f:Str)(Q:VK)(x:V)(H1:Hp):Prop
 |mk (a:_) (C:_) (dx:_) (fs:_) (v:_) (a_0:x= .ref a) (a_1:H1 a=some (.ins C dx fs)) (a_2:Cls K C) (a_3:xK K C f) (a_4:fs.lookup f=some v) (a_5:Q v H1):qEz K f Q x H1
def lK(K:Fg)(ta:TE)(f:Str):TE:=fun σ H Q=>ta σ H fun x H1=>qEz K f Q x H1
inductive qEj(K:Fg)(f:Str)(N_:St->Hp->Prop)(σ:St)(y:V)(x:V)(H2:Hp):Prop
 |mk (a:_) (C:_) (dx:_) (fs:_) (a_0:x= .ref a) (a_1:H2 a=some (.ins C dx fs)) (a_2:Cls K C) (a_3:xK K C f) (a_4:fs.length<1000) (a_5:N_ σ (upd H2 a (.ins C dx (xG f y fs)))):qEj K f N_ σ y x H2
def qV0(K:Fg)(ta tv:TE)(f:Str):TS:=fun D σ H=>tv σ H fun y H1=>ta σ H1 fun x H2=>qEj K f D.nx σ y x H2
def zB1(X:Cx)(op:Operator)(rd:V->V->Hp->VK->Prop):Prop:=
 ∀(pins:List (Addr×Obj))(s:Shared)(σ:St)(H:Hp)(x y:V)(u v:Value)(Q:VK),Inv X pins σ H s->zG x u->zG y v->rd x y H Q->wpAny (model X.prog X.w) X.A (inplaceOp op u v) (EP X pins σ Q) X.xe s
inductive bE(K:Fg)(tv:TE)(rd:V->V->Hp->VK->Prop)(f:Str)(N_:St->Hp->Prop)(σ:St)(x:V)(H1:Hp):Prop
 |mk (a:_) (C:_) (dx:_) (fs:_) (v:_) (a_0:x= .ref a) (a_1:H1 a=some (.ins C dx fs)) (a_2:Cls K C) (a_3:xK K C f) (a_4:fs.lookup f=some v) (a_5:tv σ H1 fun y H2=>rd v y H2 fun z H3=>∃dx' fs',H3 a=some (.ins C dx' fs')/\fs'.length<1000/\N_ σ (upd H3 a (.ins C dx' (xG f z fs')))):bE K tv rd f N_ σ x H1
def sS(K:Fg)(ta tv:TE)(rd:V->V->Hp->VK->Prop)(f:Str):TS:=fun D σ H=>ta σ H fun x H1=>bE K tv rd f D.nx σ x H1
section
variable {X:Cx} {o e value:Expr} {f:Str} {pos pos' tpos:Pos} {ta tv:TE}
theorem qT(he:PE X e ta)(hb:attributeBase e f X.env (eval e X.env)=eval e X.env):PE X (.Attribute e f pos) (lK X.K ta f):=by
 intro pins s σ H Q I h
 refine qF0 hb (thn (he pins s σ H _ I h) fun u s1⟨x,H1,I1,rx,a,C,dx,fs,v,ex,ea,c,n,l,q⟩=>?_)
 subst ex
 obtain rfl:u=Value.ref a:=rx
 exact iD I1 ea c n l fun u' s2 I2 ru=>⟨v,H1,I2,ru,q⟩
theorem jR(ha:PE X o ta)(hv:PE X value tv)(hs:swapsWith value (some (.Attribute o f pos')) pos.line X.env=pure false):PS X (.Assign [.Attribute o f pos'] value pos) (qV0 X.K ta tv f):=by
 intro pins s σ H D I h
 refine plainObj_wpAny_Assign_Attribute (thn (hv pins s σ H _ I h) fun u s1⟨y,H1,I1,ry,q⟩=>thn (ha pins s1 σ H1 _ I1 q) fun ov s2⟨x,H2,I2,rx,a,C,dx,fs,ex,ea,c,n,l,q2⟩=>?_) hs
 subst ex
 obtain rfl:ov=Value.ref a:=rx
 exact iF I2 ea c n l ry fun s3 I3=>⟨σ,_,I3,q2⟩
theorem vM{op:Operator}{rd:V->V->Hp->VK->Prop}(ha:PE X o ta)(hv:PE X value tv)(hop:zB1 X op rd):PS X (.AugAssign (.Attribute o f tpos) op value pos) (sS X.K ta tv rd f):=by
 intro pins s σ H D I h
 refine wpAny_AugAssign_AttributeAny (thn (ha pins s σ H _ I h) fun ov s1⟨x,H1,I1,rx,a,C,dx,fs,v,ex,ea,c,n,l,q⟩=>?_)
 subst ex
 obtain rfl:ov=Value.ref a:=rx
 refine iD I1 ea c n l fun u s2 I2 ru=>thn (hv pins s2 σ H1 _ I2 q) fun w3 s3⟨y,H2,I3,ry,q3⟩=>thn (hop pins s3 σ H2 v y u w3 _ I3 ru ry q3) fun w4 s4⟨z,H3,I4,rz,dx',fs',ea',l',q4⟩=>?_
 exact iF I4 ea' c n l' rz fun s5 I5=>⟨σ,_,I5,q4⟩
inductive zQ0(x:V)(y:V)(H:Hp)(Q:VK):Prop
 |mk (i:_) (j:_) (a_0:x= .int i) (a_1:y= .int j) (a_2:Q (.int (i+j)) H):zQ0 x y H Q
def qF1:V->V->Hp->VK->Prop:=fun x y H Q=>zQ0 x y H Q
theorem iH:zB1 X .Add qF1:=by
 rintro pins s σ H x y u v Q I rx ry ⟨i,j,rfl,rfl,q⟩
 obtain⟨t,rfl⟩:=(show∃t,u=Value.int i t from rx)
 obtain⟨t',rfl⟩:=(show∃t',v=Value.int j t' from ry)
 exact PyProof.Rows.iadd_int ⟨.int (i+j),H,I.tok _,⟨_,rfl⟩,q⟩
theorem methcall_of{pl:Sem Bool}{m:Str}{apos:Pos}{args:List Expr}{pins:List (Addr×Obj)}{s:Shared}{σ:St}{H:Hp}{Q:Value->Shared->Prop}{te:TE}(he:PE X e te)(I:Inv X pins σ H s)
  (h:te σ H fun x H1=>∃a C dx fs g,x= .ref a/\H1 a=some (.ins C dx fs)/\Cls X.K C/\Meth X.K C m g/\fs.lookup m=none/\
   ∀s1,Inv X pins σ H1 s1->wpAny (model X.prog X.w) X.A (callWith pos (.ref g) [.ref a] (backTo pos (starEach args X.env)) (backToKw pos (keywordEach [] X.env))) Q X.xe s1)
  (ht:eval (.Call (.Attribute e m apos) args [] pos) X.env=(do
   let ov<-eval e X.env
   standAt apos.atName
   let(f,first)<-holding [ov] (getMethod ov m pl)
   callWith pos f first (backTo pos (starEach args X.env)) (backToKw pos (keywordEach [] X.env)))):
  wpAny (model X.prog X.w) X.A (eval (.Call (.Attribute e m apos) args [] pos) X.env) Q X.xe s:=by
 refine PySem.W.methodCall_KW (pl:=pl) (thn (he pins s σ H _ I h) fun u s1⟨x,H1,I1,rx,a,C,dx,fs,g,ex,ea,c,k,l,q⟩=>?_) ht
 subst ex
 obtain rfl:u=Value.ref a:=rx
 exact vE I1 ea c k l (q s1 I1)
end
section
variable {X:Cx} {pins:List (Addr×Obj)} {σ:St} {H:Hp} {s:Shared} {A:Around} {E:Value->Shared->Prop} {Q:Value->Shared->Prop} {c:Value} {b:Bool}
end
structure Room(k:Nat)(A:Around):Prop where
 hd:A.handled=none
 dp:A.depth+3*k+5<recursionLimit
 un:A.units+16*k+200<cLine
theorem Room.mono{j k:Nat}{A:Around}(r:Room k A)(h:j<=k):Room j A:=⟨r.hd,by have :=r.dp;omega,by have :=r.un;omega⟩
theorem Room.deeper{k:Nat}{A:Around}(r:Room (k+1) A)(env:Env):Room k (A.deeper env):=
 ⟨r.hd,by have :=r.dp;show A.depth+1+3*k+5<_;omega,by have :=r.un;show A.units+3+16*k+200<_;omega⟩
theorem pN{A:Around}{C:Addr}{us:List Value}{kw:List (Str×Value)}:(A.under (.builtin "type.__call__" ⟨.ref C::us,kw⟩)).depth=A.depth+1:=by
 first|rfl|simp[Around.under,Code.weight,Code.isCreation,Code.isGuard,Code.isCaller,Code.frames,Code.isFrame,guardIds]
theorem pB{A:Around}{C:Addr}{us:List Value}{kw:List (Str×Value)}:(A.under (.builtin "type.__call__" ⟨.ref C::us,kw⟩)).units=A.units+1:=by
 first|rfl|simp[Around.under,Code.cUnits,Code.frames,Code.isFrame]
theorem Room.make{k:Nat}{A:Around}(r:Room (k+1) A)(C:Addr)(us:List Value)(kw:List (Str×Value)):Room k (A.under (.builtin "type.__call__" ⟨.ref C::us,kw⟩)):=
 ⟨r.hd,by have :=r.dp;rw[pN];omega,by have :=r.un;rw[pB];omega⟩
theorem Room.depth{k:Nat}{A:Around}(r:Room k A):A.depth<recursionLimit:=by have :=r.dp;omega
theorem Room.units0{k:Nat}{A:Around}(r:Room k A):A.units<cLine:=by have :=r.un;omega
def xE:TA:=fun _ H Q=>Q [] H
def jK(ta:TE)(tr:TA):TA:=fun σ H Q=>ta σ H fun x H1=>tr σ H1 fun xs H2=>Q (x::xs) H2
section
variable {X:Cx} {e:Expr} {es:List Expr} {te:TE} {t:TA} {pos:Pos}
theorem qZ:PA X [] xE:=fun _ _ _ _ H Q I h=>Calls.spliced_nil ⟨[],H,I,.nil,h⟩
theorem qQ(ha:PE X e te)(hr:PA X es t)(hs:starEach (e::es) X.env=(false,eval e X.env)::starEach es X.env:=by rfl):PA X (e::es) (jK te t):=by
 intro pos pins s σ H Q I h
 rw[hs]
 show wpAny _ _ (spliced ((false,eval e X.env)::backTo pos (starEach es X.env))) _ _ s
 refine Calls.spliced_cons (thn (ha pins s σ H _ I h) fun u s1⟨x,H1,I1,r1,q1⟩=>?_)
 exact thn (hr pos pins s1 σ H1 _ I1 q1) fun us s2⟨xs,H2,I2,r2,q2⟩=>⟨x::xs,H2,I2,.cons r1 r2,q2⟩
def qZ0(t:TA):TE:=fun σ H Q=>t σ H fun xs H1=>xs.length<=sizeLine/\∀p,H1 p=none->Q (.ref p) (upd H1 p (.tup xs))
def qF2(t:TA):TE:=fun σ H Q=>t σ H fun xs H1=>xs.length<=sizeLine/\∀p,H1 p=none->Q (.ref p) (upd H1 p (.lst xs))
theorem zW{x1}(h:PA X es t):PE X (.Tuple es x1 pos) (qZ0 t):=by
 intro pins s σ H Q I hq
 refine wpAny_Tuple_spliced (thn (h pos pins s σ H _ I hq) fun us s1⟨xs,H1,I1,r,z,q⟩=>⟨by rw[<-r.length];exact z,?_⟩)
 have hf:H1 s1.heap.objs.size=none:=I1.hok.fresh (aq7 _)
 refine⟨.ref s1.heap.objs.size,upd H1 s1.heap.objs.size (.tup xs),I1.laid (t':=s1.toks) (fun b u e=>aq13 _ e) (aq7 _) ?_,rfl,q _ hf⟩
 exact⟨z,us,r,⟨_,aq14 _ rfl,rfl,_,rfl⟩⟩
theorem jQ(h:PA X es t):PE X (.List es pos) (qF2 t):=by
 intro pins s σ H Q I hq
 refine wpAny_List_spliced (thn (h pos pins s σ H _ I hq) fun us s1⟨xs,H1,I1,r,z,q⟩=>⟨by rw[<-r.length];exact z,?_⟩)
 have hf:H1 s1.heap.objs.size=none:=I1.hok.fresh (aq7 _)
 refine⟨.ref s1.heap.objs.size,upd H1 s1.heap.objs.size (.lst xs),I1.laid (t':=s1.toks) (fun b u e=>aq13 _ e) (aq7 _) ?_,rfl,q _ hf⟩
 exact⟨z,us,0,r,aq14 _ rfl⟩
end
abbrev Sp:=List V->Hp->VK->XK->Prop
abbrev CXT:=List Env->Hp->Shared->XK->Value->Shared->Prop
structure Env0(P:Program)(w:World)(K:Fg)(mg:Str->Option Value)(base:Heap)(A:Around)(outer:List Env)(s:Shared)(H:Hp):Prop where
 frames:A.frames=some outer
 mod:Mod K mg base
 bs:∀b o,base.get? b=some o->s.heap.get? b=some o/\H b=none
 bsz:base.objs.size<=s.heap.objs.size
 funs:s.heap.FunFrames base outer
 frf:∀b∈frs outer,H b=none
 hok:HOk P w H s.heap
 bare:AllBare s.gens
def CE(outer:List Env)(P:Program)(w:World)(H:Hp)(s:Shared)(Q:VK)(u:Value)(s':Shared):Prop:=
 ∃v H',s'.os=s.os/\AllBare s'.gens/\Un (frs outer) [] H H' s.heap s'.heap/\HOk P w H' s'.heap/\zG v u/\Q v H'
def CR(CX:CXT)(outer:List Env)(P:Program)(w:World)(H:Hp)(s:Shared)(Q:VK)(E:XK)(r:Result)(s':Shared):Prop:=
 match r with
 | .ok (.ret u)=>CE outer P w H s Q u s'
 | .ok _=>False
 | .error e=>CX outer H s E e s'
structure zQ(P:Program)(w:World)(K:Fg)(mg:Str->Option Value)(base:Heap)(CX:CXT)(k:Nat)(f:Addr)(fd:FuncData)(ps:List Str)(sp:Sp):Prop where
 len:∀vs H Q E,sp vs H Q E->vs.length=ps.length
 run:∀(A:Around)(outer:List Env)(s:Shared)(H:Hp)(args:Args)(us:List Value)(vs:List V)(Q:VK)(E:XK),Room k A->Env0 P w K mg base A outer s H->BindsTo s fd args (ps.zip us)->Vals vs us->sp vs H Q E->
  codeAny (model P w) A (.call (.ref f) args) (CR CX outer P w H s Q E) s
theorem Env0.make{P:Program}{w:World}{K:Fg}{mg:Str->Option Value}{base:Heap}{A:Around}{outer:List Env}{s:Shared}{H:Hp}(e:Env0 P w K mg base A outer s H)(C:Addr)(us:List Value)(kw:List (Str×Value)):
  Env0 P w K mg base (A.under (.builtin "type.__call__" ⟨.ref C::us,kw⟩)) outer s H:=⟨by first|exact e.frames|(simpa[Around.under,Code.envs,Code.isFrame,pushEnvs]using e.frames),e.mod,e.bs,e.bsz,e.funs,e.frf,e.hok,e.bare⟩
section
variable {X:Cx} {pins:List (Addr×Obj)} {σ:St} {H:Hp} {s s':Shared}
theorem Inv.env0(I:Inv X pins σ H s):Env0 X.prog X.w X.K X.mg X.base X.A X.stack s H:=
 ⟨I.ok.frames,I.ok.mod,I.bs,Nat.le_trans I.ok.bsz I.sz,I.stack,I.stkFree,I.hok,I.bare⟩
theorem Inv.after{Q:VK}{u:Value}(I:Inv X pins σ H s)(h:CE X.stack X.prog X.w H s Q u s'):EP X pins σ Q u s':=by
 obtain⟨v,H',os,bare,un,hok,r,q⟩:=h
 obtain⟨hh,g,d,t,os'⟩:=s'
 obtain rfl:os'=s.os:=os
 exact⟨v,H',I.call (h':=hh) (g':=g) (d':=d) (t':=t) (ch:=[]) un hok bare (fun b z=>absurd z (by simp)),r,q⟩
end
def kS(sp:Sp)(dvs:List V)(E:XK)(t:TA):TE:=fun σ H Q=>t σ H fun vs H1=>sp (vs++dvs) H1 Q E
inductive qV1(C:Addr)(m:Str)(sp:Sp)(dvs:List V)(E:XK)(t:TA)(σ:St)(Q:VK)(x:V)(H1:Hp):Prop
 |mk (a:_) (dx:_) (fs:_) (a_0:x= .ref a) (a_1:H1 a=some (.ins C dx fs)) (a_2:fs.lookup m=none) (a_3:t σ H1 fun vs H2=>sp (x::(vs++dvs)) H2 Q E):qV1 C m sp dvs E t σ Q x H1
def sT(C:Addr)(m:Str)(sp:Sp)(dvs:List V)(E:XK)(ta:TE)(t:TA):TE:=fun σ H Q=>ta σ H fun x H1=>qV1 C m sp dvs E t σ Q x H1
def zQ1(C:Addr)(sp:Sp)(dvs:List V)(E:XK)(t:TA):TE:=fun σ H Q=>t σ H fun vs H1=>∀x dx,H1 x=none->H1 dx=none->dx≠x->
 sp (.ref x::(vs++dvs)) (upd (upd H1 dx (.own x)) x (.ins C dx [])) (fun v H2=>v= .non/\Q (.ref x) H2) E
def Binds(K:Fg)(fd:FuncData)(ps:List Str)(ds:List Value):Prop:=
 ∀(s:Shared)(us:List Value),K.In s.heap->(us++ds).length=ps.length->BindsTo s fd ⟨us,[]⟩ (ps.zip (us++ds))
def Passes(CX:CXT)(X:Cx)(E:XK):Prop:=∀(pins:List (Addr×Obj))(σ:St)(H:Hp)(s:Shared)(e:Value)(s':Shared),Inv X pins σ H s->CX X.stack H s E e s'->X.xe e s'
section
variable {X:Cx} {CX:CXT} {k:Nat} {f C:Addr} {fd:FuncData} {ps:List Str} {sp:Sp} {dvs:List V} {ds:List Value} {E:XK} {x m:Str} {p pos apos:Pos} {e o:Expr} {es:List Expr} {ta:TE} {t:TA}
theorem mJ{pins:List (Addr×Obj)}{σ:St}{H:Hp}{s:Shared}{Q:VK}{us:List Value}{vs:List V}(F:zQ X.prog X.w X.K X.mg X.base CX k f fd ps sp)(hr:Room k X.A)(hb:Binds X.K fd ps ds)(hd:Vals dvs ds)(hx:Passes CX X E)
  (I:Inv X pins σ H s)(r:Vals vs us)(h:sp (vs++dvs) H Q E):wpAny (model X.prog X.w) X.A (call (.ref f) us) (EP X pins σ Q) X.xe s:=by
 have r2:Vals (vs++dvs) (us++ds):=r.append hd
 have hl:(us++ds).length=ps.length:=by rw[<-r2.length];exact F.len _ _ _ _ h
 refine wpAny_call (codeAny_mono (F.run X.A X.stack s H ⟨us,[]⟩ (us++ds) (vs++dvs) Q E hr I.env0 (hb s us I.kIn hl) r2 h) fun r s' hq=>?_)
 cases r with
 |error e=>exact hx pins σ H s e s' I hq
 |ok fl=>
  cases fl with
  |ret u=>exact I.after hq
  |next=>exact False.elim hq
  |brk=>exact False.elim hq
  |cont=>exact False.elim hq
theorem vY(F:zQ X.prog X.w X.K X.mg X.base CX k f fd ps sp)(hr:Room k X.A)(hg:Gl X x)(hm:X.mg x=some (.ref f))(hk:PySem.W.keepIn X.K (.ref f)=true)(hb:Binds X.K fd ps ds)(hd:Vals dvs ds)(hx:Passes CX X E)
  (ha:PA X (e::es) t)(hdb:(x==("__debug__":Str))=false:=by decide)(he:starEach (e::es) X.env=(false,eval e X.env)::starEach es X.env:=by rfl)(hpl:(backTo pos (starEach es X.env)).any (·.1)=false:=by rfl):
  PE X (.Call (.Name x p) (e::es) [] pos) (kS sp dvs E t):=by
 intro pins s σ H Q I h
 refine wpAny_Call_Name_kw (kT I hg hm ?_ hdb)
 refine PySem.W.callWith_K (h₀:=X.base) I.ok.mod.kin hk (thn (ha pos pins s σ H _ I h) fun us s1⟨vs,H1,I1,r,q⟩=>⟨I1.kIn,?_⟩) he hpl
 exact mJ F hr hb hd hx I1 r q
theorem kQ{pl:Sem Bool}(he:PE X o ta)(c:Cls X.K C)(hm:Meth X.K C m f)(F:zQ X.prog X.w X.K X.mg X.base CX k f fd ps sp)(hr:Room k X.A)(hb:Binds X.K fd ps ds)(hd:Vals dvs ds)(hx:Passes CX X E)(ha:PA X (e::es) t)
  (hst:starEach (e::es) X.env=(false,eval e X.env)::starEach es X.env:=by rfl)(hpl:(backTo pos (starEach es X.env)).any (·.1)=false:=by rfl)
  (ht:eval (.Call (.Attribute o m apos) (e::es) [] pos) X.env=(do
   let ov<-eval o X.env
   standAt apos.atName
   let(f,first)<-holding [ov] (getMethod ov m pl)
   callWith pos f first (backTo pos (starEach (e::es) X.env)) (backToKw pos (keywordEach [] X.env))):=by rfl):
  PE X (.Call (.Attribute o m apos) (e::es) [] pos) (sT C m sp dvs E ta t):=by
 intro pins s σ H Q I h
 refine PySem.W.methodCall_KW (pl:=pl) (thn (he pins s σ H _ I h) fun u s1⟨x,H1,I1,rx,a,dx,fs,ex,ea,l,q⟩=>?_) ht
 subst ex
 obtain rfl:u=Value.ref a:=rx
 refine vE I1 ea c hm l ?_
 refine PySem.W.callWith_K (first:=[.ref a]) (h₀:=X.base) I.ok.mod.kin hm.kp (thn (ha pos pins s1 σ H1 _ I1 q) fun us s2⟨vs,H2,I2,r,q2⟩=>⟨I2.kIn,?_⟩) hst hpl
 exact mJ (us:=.ref a::us) (vs:=.ref a::vs) F hr hb hd hx I2 (.cons rfl r) q2
theorem vN{pl:Sem Bool}(he:PE X o ta)(c:Cls X.K C)(hm:Meth X.K C m f)(F:zQ X.prog X.w X.K X.mg X.base CX k f fd ps sp)(hr:Room k X.A)(hb:Binds X.K fd ps ds)(hd:Vals dvs ds)(hx:Passes CX X E)
  (ht:eval (.Call (.Attribute o m apos) [] [] pos) X.env=(do
   let ov<-eval o X.env
   standAt apos.atName
   let(f,first)<-holding [ov] (getMethod ov m pl)
   callWith pos f first (backTo pos (starEach [] X.env)) (backToKw pos (keywordEach [] X.env))):=by rfl):
  PE X (.Call (.Attribute o m apos) [] [] pos) (sT C m sp dvs E ta xE):=by
 intro pins s σ H Q I h
 refine PySem.W.methodCall_KW (pl:=pl) (thn (he pins s σ H _ I h) fun u s1⟨x,H1,I1,rx,a,dx,fs,ex,ea,l,q⟩=>?_) ht
 subst ex
 obtain rfl:u=Value.ref a:=rx
 refine vE I1 ea c hm l ?_
 exact PySem.W.callWith_K0 (first:=[.ref a]) I1.kIn hm.kp (mJ (us:=[.ref a]) (vs:=[.ref a]) F hr hb hd hx I1 (.cons rfl .nil) q)
structure Mk(K:Fg)(C f:Addr):Prop where
 makes:PySem.W.makesIn K C=true
 init:PySem.W.findIn K (.ref C) "__init__"=some (some (.ref f))
 fn:PySem.W.isFn K (.ref f)=true
 kp:PySem.W.keepIn K (.ref C)=true
theorem qV2{pins:List (Addr×Obj)}{σ:St}{H:Hp}{s:Shared}{Q:VK}{us:List Value}{vs:List V}(M:Mk X.K C f)(F:zQ X.prog X.w X.K X.mg X.base CX k f fd ps sp)(hr:Room (k+1) X.A)(hb:Binds X.K fd ps ds)(hd:Vals dvs ds)
  (hx:Passes CX X E)(I:Inv X pins σ H s)(r:Vals vs us)
  (h:∀x dx,H x=none->H dx=none->dx≠x->sp (.ref x::(vs++dvs)) (upd (upd H dx (.own x)) x (.ins C dx [])) (fun v H2=>v= .non/\Q (.ref x) H2) E):
  wpAny (model X.prog X.w) X.A (call (.ref C) us) (EP X pins σ Q) X.xe s:=by
 have hq:=h (s.heap.objs.size+1) s.heap.objs.size (I.hok.fresh (Nat.le_succ _)) (I.hok.fresh (aq7 _)) (aq9 (Nat.lt_succ_self _))
 have I2:=Inv.made (C:=C) I
 have r2:Vals (V.ref (s.heap.objs.size+1)::(vs++dvs)) (Value.ref (s.heap.objs.size+1)::(us++ds)):=.cons rfl (r.append hd)
 have hl:(Value.ref (s.heap.objs.size+1)::us++ds).length=ps.length:=by
  have e:=r2.length
  rw[F.len _ _ _ _ hq]at e
  exact e.symm
 refine wpAny_call (bP (f:=f) I.kIn M.makes M.init (beq_iff_eq.mp M.fn) (codeAny_mono (F.run _ X.stack _ _ ⟨Value.ref (s.heap.objs.size+1)::us,[]⟩ (Value.ref (s.heap.objs.size+1)::(us++ds)) _ _ E (hr.make C us [])
  (I2.env0.make C us []) (hb _ (Value.ref (s.heap.objs.size+1)::us) I2.kIn hl) r2 hq) fun r s' hq'=>?_))
 cases r with
 |error e=>exact hx pins σ _ _ e s' I2 hq'
 |ok fl=>
  cases fl with
  |ret u=>
   obtain⟨v,H',I3,rv,ev,q3⟩:=I2.after hq'
   subst ev
   exact⟨rv,⟨V.ref (s.heap.objs.size+1),H',I3,rfl,q3⟩⟩
  |next=>exact False.elim hq'
  |brk=>exact False.elim hq'
  |cont=>exact False.elim hq'
theorem iK(M:Mk X.K C f)(F:zQ X.prog X.w X.K X.mg X.base CX k f fd ps sp)(hr:Room (k+1) X.A)(hg:Gl X x)(hm:X.mg x=some (.ref C))(hb:Binds X.K fd ps ds)(hd:Vals dvs ds)(hx:Passes CX X E)
  (ha:PA X (e::es) t)(hdb:(x==("__debug__":Str))=false:=by decide)(he:starEach (e::es) X.env=(false,eval e X.env)::starEach es X.env:=by rfl)(hpl:(backTo pos (starEach es X.env)).any (·.1)=false:=by rfl):
  PE X (.Call (.Name x p) (e::es) [] pos) (zQ1 C sp dvs E t):=by
 intro pins s σ H Q I h
 refine wpAny_Call_Name_kw (kT I hg hm ?_ hdb)
 refine PySem.W.callWith_K (h₀:=X.base) I.ok.mod.kin M.kp (thn (ha pos pins s σ H _ I h) fun us s1⟨vs,H1,I1,r,q⟩=>⟨I1.kIn,?_⟩) he hpl
 exact qV2 M F hr hb hd hx I1 r q
end
section
variable {X:Cx} {CX:CXT} {k:Nat} {f C:Addr} {fd:FuncData} {ps ks:List Str} {sp:Sp} {E:XK} {x m:Str} {p pos apos kpos:Pos} {e o:Expr} {es:List Expr} {kws:List Keyword} {te ta:TE} {t tk:TA} {nm:Option Str}
variable {g:List Value->List Value->List Value} {gV:List V->List V->List V}
end
structure qC(N P:List Str)(sc:Scope):Prop where
 kind:sc.kind= .function
 co:sc.isCoroutine=false
 gen:sc.isGenerator=false
 nd:N.Nodup
 pre:N.take P.length=P
 par:∀x∈P,sc.names.lookup x=some .local\/sc.names.lookup x=some .cell
 nofree:∀y∈sc.names,y.2≠ .free
theorem lI{kindOf:Str->Option NameKind}{x:Str}:∀{binds:List (Str×Value)}{m:Str->Option Value},(∀v,(x,v)∉binds)->bindL kindOf binds m x=m x
 |[],_,_=>rfl
 |(n,v)::r,m,h=>by
  unfold bindL
  rw[lI fun w hw=>h w (aq10 _ hw)]
  split
  ·have :x≠n:=by rintro rfl;exact h v aq22
   simp[this]
  ·rfl
theorem lL{kindOf:Str->Option NameKind}{x:Str}:∀{binds:List (Str×Value)}{m:Str->Option Value},(∀v,(x,v)∉binds)->bindC kindOf binds m x=m x
 |[],_,_=>rfl
 |(n,v)::r,m,h=>by
  unfold bindC
  rw[lL fun w hw=>h w (aq10 _ hw)]
  split
  ·rfl
  ·have :x≠n:=by rintro rfl;exact h v aq22
   simp[this]
theorem lG{kindOf:Str->Option NameKind}{x:Str}{v:Value}:∀{P:List Str}{vs:List Value}{i:Nat}{m:Str->Option Value},P.Nodup->P[i]? =some x->vs[i]? =some v->kindOf x=some .local->
  bindL kindOf (P.zip vs) m x=some v
 |[],_,_,_,_,h,_,_=>by simp at h
 |_::_,[],_,_,_,_,h,_=>by simp at h
 |p::P,w::vs,0,m,nd,h1,h2,hk=>by
  simp at h1 h2;subst h1;subst h2
  show bindL kindOf ((p,w)::P.zip vs) m p=_
  unfold bindL
  rw[lI fun v hv=>(List.nodup_cons.mp nd).1 (List.of_mem_zip hv).1,if_pos hk]
  simp
 |p::P,w::vs,i+1,m,nd,h1,h2,hk=>by
  show bindL kindOf ((p,w)::P.zip vs) m x=_
  unfold bindL
  exact lG (i:=i) (List.nodup_cons.mp nd).2 (by simpa using h1) (by simpa using h2) hk
theorem lM{kindOf:Str->Option NameKind}{x:Str}{v:Value}:∀{P:List Str}{vs:List Value}{i:Nat}{m:Str->Option Value},P.Nodup->P[i]? =some x->vs[i]? =some v->kindOf x≠some .local->
  bindC kindOf (P.zip vs) m x=some v
 |[],_,_,_,_,h,_,_=>by simp at h
 |_::_,[],_,_,_,_,h,_=>by simp at h
 |p::P,w::vs,0,m,nd,h1,h2,hk=>by
  simp at h1 h2;subst h1;subst h2
  show bindC kindOf ((p,w)::P.zip vs) m p=_
  unfold bindC
  rw[lL fun v hv=>(List.nodup_cons.mp nd).1 (List.of_mem_zip hv).1,if_neg hk]
  simp
 |p::P,w::vs,i+1,m,nd,h1,h2,hk=>by
  show bindC kindOf ((p,w)::P.zip vs) m x=_
  unfold bindC
  exact lM (i:=i) (List.nodup_cons.mp nd).2 (by simpa using h1) (by simpa using h2) hk
def start(N:List Str)(vs:List V):St:=vs.map some++List.replicate (N.length-vs.length) none
def kD(CX:CXT)(P:Program)(w:World)(K:Fg)(mg:Str->Option Value)(base:Heap)(N:List Str)(qual:Str)(scope:Scope)(f:Addr)(cd:Value)(A:Around)(outer:List Env)(s:Shared)(H:Hp)(E:XK):Cx where
 prog:=P
 w:=w
 K:=K
 mg:=mg
 base:=base
 A:=A.deeper (envOfC qual scope s.heap.objs.size f cd)
 N:=N
 s₀:=s
 H₀:=H
 env:=envOfC qual scope s.heap.objs.size f cd
 outer:=outer
 stack:=envOfC qual scope s.heap.objs.size f cd::outer
 ex:=[]
 calm:=true
 fn:=fun _=>true
 pn:=[]
 xe:=fun e s'=>wpAny (model P w) (A.deeper (envOfC qual scope s.heap.objs.size f cd)) (leaving (envOfC qual scope s.heap.objs.size f cd) e) (fun _ s''=>CX outer H s E e s'') (fun e' s''=>CX outer H s E e' s'') s'
theorem dQ{sc:Scope}{n:Nat}{x:Str}(h:sc.names.lookup x=some .cell):∃c,(cellsFrom n sc.names []).lookup x=some c:=by
 have q:=PySem.W.cellsFrom_some sc.names n [] (.inl h)
 exact Option.isSome_iff_exists.mp q
theorem lN{CX:CXT}{P:Program}{w:World}{K:Fg}{mg:Str->Option Value}{base:Heap}{N ps:List Str}{qual:Str}{scope:Scope}{f:Addr}{cd:Value}{A:Around}{outer:List Env}{s s1:Shared}{H:Hp}{E:XK}{us:List Value}{vs:List V}
  (S:qC N ps scope)(hd:A.handled=none)(e0:Env0 P w K mg base A outer s H)(hl:vs.length=ps.length)(r:Vals vs us)
  (x:InCallC s s.heap.objs.size (bindL (envOfC qual scope s.heap.objs.size f cd).kindOf (ps.zip us) fun _=>none) (cellsFrom (s.heap.objs.size+1) scope.names []) (bindC (envOfC qual scope s.heap.objs.size f cd).kindOf (ps.zip us) fun _=>none) s1):
  Inv (kD CX P w K mg base N qual scope f cd A outer s H E) [] (start N vs) H s1:=by
 have hpl:ps.length<=N.length:=by have :=congrArg List.length S.pre;rw[List.length_take]at this;omega
 obtain⟨h1,tk,rfl,hk⟩:=x.done
 have noA:∀b:Addr,b∉(kD CX P w K mg base N qual scope f cd A outer s H E).ex:=fun b z=>absurd (show b∈([]:List Addr)from z) (by simp)
 refine⟨⟨e0.mod,S.kind,rfl,rfl,aq7 _,fun y z c h1 h2=>?_,fun y hy=>?_,fun y c _ h=>?_,fun _=>hd,Around.frames_deeper e0.frames,.inr ⟨rfl,rfl⟩,fun b z=>absurd z (noA b),e0.bs,e0.bsz,fun b _ _=>noA b,fun b z=>absurd z (noA b),e0.funs,e0.frf⟩,
  rfl,e0.bare,Un.kept hk,⟨_,x.toInCall.ns,fun i y v h1 h2 h3=>?_⟩,fun y c h=>⟨_,x.cell y c h⟩,e0.hok.fresh (aq7 _),fun y c h=>?_,fun p hp=>absurd (show p∈([]:List (Addr×Obj))from hp) (by simp),e0.hok.kept hk,?_⟩
 ·exact name_of_addr x.apart (PySem.mem_of_lookup h1) (PySem.mem_of_lookup h2)
 ·have hy:scope.names.lookup y=some .cell\/scope.names.lookup y=some .free:=hy
  rcases hy with hy|hy
  ·exact dQ hy
  ·exact absurd rfl (S.nofree _ (PySem.mem_of_lookup hy))
 ·exact Nat.le_of_lt (x.above y c (PySem.mem_of_lookup h))
 ·have hi:i<vs.length:=by
   unfold start at h2
   by_cases hi:i<vs.length
   ·exact hi
   ·rw[List.getElem?_append_right (by simpa using hi)]at h2
    rw[List.getElem?_replicate]at h2
    split at h2<;>cases h2
  have ha:vs[i]? =some v:=by
   unfold start at h2
   rw[List.getElem?_append_left (by simpa using hi),aq19]at h2
   cases e:vs[i]?with
   |none=>rw[e]at h2;cases h2
   |some a=>rw[e]at h2;cases h2;rfl
  obtain⟨u,hu,rv⟩:=r.get ha
  have hp:ps[i]? =some y:=by
   rw[<-S.pre,List.getElem?_take_of_lt (by omega)];exact h1
  have ndP:ps.Nodup:=by rw[<-S.pre];exact S.nd.sublist (List.take_sublist _ _)
  refine⟨u,rv,?_⟩
  rcases S.par y (aq23 hp)with k|k
  ·exact .inl ⟨k,lG ndP hp hu k⟩
  ·obtain⟨c,e⟩:=dQ (n:=s.heap.objs.size+1) k
   refine .inr ⟨.inl k,c,e,?_⟩
   have q:=x.cell y c e
   rw[lM ndP hp hu (by show scope.names.lookup y≠_;rw[k];decide)]at q
   exact q
 ·exact e0.hok.fresh (Nat.le_of_lt (x.above y c (PySem.mem_of_lookup h)))
 ·unfold start
  show _=N.length
  rw[List.length_append,aq16,List.length_replicate]
  omega
theorem zB2{CX:CXT}{P:Program}{w:World}{K:Fg}{mg:Str->Option Value}{base:Heap}{k:Nat}{f:Addr}{name qual:Str}{params:Arguments}{body:List Stmt}{scope:Scope}{dV kV doc pm cdv ct oc:Value}{an od:Option Addr}
  {osl:Array (Option Value)}{N ps:List Str}{sp:Sp}(lk:K.lookup f=some ⟨oc,od,.func (PySem.W.fnOf name qual params body scope dV kV doc pm an cdv ct),osl⟩)(hcd:PySem.W.codeIn K cdv qual=true)(S:qC N ps scope)
  (len:∀vs H Q E,sp vs H Q E->vs.length=ps.length)
  (hbody:∀(A:Around)(outer:List Env)(s:Shared)(H:Hp)(vs:List V)(Q:VK)(E:XK),Room k (A.deeper (envOfC qual scope s.heap.objs.size f cdv))->sp vs H Q E->
   ∃t,PSs (kD CX P w K mg base N qual scope f cdv A outer s H E) body t/\t {nx:=fun _ H'=>Q .non H',rt:=Q} (start N vs) H):
  zQ P w K mg base CX (k+1) f (PySem.W.fnOf name qual params body scope dV kV doc pm an cdv ct) ps sp:=by
 refine⟨len,fun A outer s H args us vs Q E hr e0 hb r hsp=>?_⟩
 have hl:=len _ _ _ _ hsp
 have KX:K.In s.heap:=e0.mod.kin.keeps fun b o e=>(e0.bs b o e).1
 have lim:s.heap.NoLimit:=e0.mod.nolimit.keeps fun b o e=>(e0.bs b o e).1
 have hkind:∀y∈ps.zip us,scope.names.lookup y.1=some .local\/(scope.names.lookup y.1=some .cell/\((cellsFrom (s.heap.objs.size+1) scope.names []).lookup y.1).isSome=true):=fun⟨n,v⟩hy=>by
  rcases S.par n (List.of_mem_zip hy).1 with q|q
  ·exact .inl q
  ·exact .inr ⟨q,PySem.W.cellsFrom_some _ _ _ (.inl q)⟩
 refine codeAny_call_function hr.depth (KX _ _ lk) rfl S.co S.gen rfl (PySem.W.codeRec_of KX hcd) (hb _ _ _ _ ?_)
 refine wpAny_newFunctionEnv_cells S.kind hkind fun env he s1 x=>?_
 subst he
 refine⟨lim.keeps x.toInCall.keep,codeAny_func ?_⟩
 obtain⟨t,ht,hq⟩:=hbody A outer s H vs Q E (hr.deeper _) hsp
 have I:Inv (kD CX P w K mg base N qual scope f cdv A outer s H E) [] (start N vs) H s1:=lN S hr.hd e0 hl r x
 refine wpAny_mono (ht [] s1 (start N vs) H _ I hq) (fun fl s' hs=>?_) fun e s' hs=>hs
 have fin:∀{σ':St}{H':Hp}{v:V}{u:Value},Inv (kD CX P w K mg base N qual scope f cdv A outer s H E) [] σ' H' s'->zG v u->Q v H'->CE outer P w H s Q u s':=
  fun {σ' H' v u}J rv q=>⟨v,H',J.os,J.bare,J.base,J.hok,rv,q⟩
 cases fl with
 |ret u=>
  obtain⟨v,σ',H',J,rv,q⟩:=hs
  exact fin J rv q
 |next=>
  obtain⟨σ',H',J,q⟩:=hs
  exact fin (v:=V.non) (u:=Value.none) J rfl q
 |brk=>
  obtain⟨_,_,_,q⟩:=hs
  exact False.elim q
 |cont=>
  obtain⟨_,_,_,q⟩:=hs
  exact False.elim q
section
variable {X:Cx} {x:Str} {p pos:Pos} {e:Expr} {es:List Expr} {t:TA} {id T:String} {r:List V->Hp->VK->Prop}
def tCB(r:List V->Hp->VK->Prop)(t:TA):TE:=fun σ H Q=>t σ H fun vs H1=>r vs H1 Q
theorem zV(hc:kP X (.builtin id) r)(hg:Gl X x)(hm:X.mg x=none)(hv:bootBuiltins x=some (.builtin id))(ha:PA X (e::es) t)(hn:x≠"__name__":=by decide)(hdb:(x==("__debug__":Str))=false:=by decide)
  (he:starEach (e::es) X.env=(false,eval e X.env)::starEach es X.env:=by rfl)(hpl:(backTo pos (starEach es X.env)).any (·.1)=false:=by rfl):PE X (.Call (.Name x p) (e::es) [] pos) (tCB r t):=by
 intro pins s σ H Q I h
 refine wpAny_Call_Name_kw (vR I hg hm hv ?_ hn hdb)
 exact PyProof.Rows.callWith_builtin1 (thn (ha pos pins s σ H _ I h) fun us s1⟨vs,H1,I1,r1,q1⟩=>hc pins s1 σ H1 vs us Q I1 r1 q1) he hpl
theorem jB(hc:kP X (.type T) r)(hg:Gl X x)(hm:X.mg x=none)(hv:bootBuiltins x=some (.type T))(ha:PA X (e::es) t)(hn:x≠"__name__":=by decide)(hdb:(x==("__debug__":Str))=false:=by decide)
  (he:starEach (e::es) X.env=(false,eval e X.env)::starEach es X.env:=by rfl)(hpl:(backTo pos (starEach es X.env)).any (·.1)=false:=by rfl):PE X (.Call (.Name x p) (e::es) [] pos) (tCB r t):=by
 intro pins s σ H Q I h
 refine wpAny_Call_Name_kw (vR I hg hm hv ?_ hn hdb)
 exact PyProof.Rows.callWith_type1 (thn (ha pos pins s σ H _ I h) fun us s1⟨vs,H1,I1,r1,q1⟩=>hc pins s1 σ H1 vs us Q I1 r1 q1) he hpl
end
end L2
namespace HT
open PySem PyProof.Rows
section
open PySem.SeqAt
open PySem.AutoSeq1 (wpAny_loadPart')
open PySem.MeetsSeq PySem.MeetsSeq2 PySem.MeetsSeq3
end
section
variable {prog:Program} {w:World} {A:Around} {E:Value->Shared->Prop} {s:Shared}
def sIx(n d:Nat):Option Int->Nat
 |none=>d
 |some v=>if v<0 then(v+(n:Int)).toNat else min v.toNat n
theorem sIx_none(n d:Nat):sIx n d none=d:=rfl
theorem zVz(n d:Nat)(hd:d<=n)(o:Option Int):sIx n d o<=n:=by
 cases o with
 |none=>exact hd
 |some v=>
  show(if v<0 then(v+(n:Int)).toNat else min v.toNat n)<=n
  by_cases hv:v<0
  ·rw[if_pos hv];omega
  ·rw[if_neg hv];exact Nat.min_le_right _ _
theorem sA(v:Int)(n d:Nat):(if v<0 then max (v+(n:Int)) 0 else min v (n:Int))=((sIx n d (some v):Nat):Int):=by
 show(if v<0 then max (v+(n:Int)) 0 else min v (n:Int))=(((if v<0 then(v+(n:Int)).toNat else min v.toNat n):Nat):Int)
 by_cases hv:v<0
 ·simp only[if_pos hv];omega
 ·simp only[if_neg hv];omega
theorem pD(lo hi:Option Int)(n:Nat):Builtin.Slice.sliceAdjust lo hi 1 (n:Int)=(((sIx n 0 lo:Nat):Int),((sIx n n hi:Nat):Int)):=by
 have h1:¬((1:Int)<0):=by omega
 unfold Builtin.Slice.sliceAdjust
 simp only[h1,if_false]
 refine Prod.ext ?_ ?_
 ·cases lo with
  |none=>rfl
  |some v=>exact sA v n 0
 ·cases hi with
  |none=>rfl
  |some v=>exact sA v n n
theorem pF(i j:Nat):Builtin.Slice.slicePlaces (i:Int) (j:Int) 1=j-i:=by
 unfold Builtin.Slice.slicePlaces
 have h1:(1:Int)>0:=by omega
 simp only[h1,if_true,Int.ediv_one]
 split<;>omega
theorem iP{v:Value}{o:Option Int}{Q:Option Int->Shared->Prop}(p:IsPart v o)(h:Q o s):wpAny (model prog w) A (Builtin.Slice.slicePartIndex v) Q E s:=by
 cases p with
 |none=>exact slicePart_none h
 |int i t=>exact slicePart_int h
theorem oQ{sl:Addr}{vl vu:Value}{lo hi:Option Int}{n:Nat}{Q:Int×Int×Nat->Shared->Prop}(hs:s.heap.IsSliceOf sl vl vu .none)(pl:IsPart vl lo)(pu:IsPart vu hi)
  (h:Q (((sIx n 0 lo:Nat):Int),1,sIx n n hi-sIx n 0 lo) s):wpAny (model prog w) A (Builtin.Slice.sliceApplied (.ref sl) (pure (n:Int))) Q E s:=by
 obtain⟨os,hos,hcs,hds⟩:=id hs
 unfold Builtin.Slice.sliceApplied Builtin.Slice.sliceFields
 refine wpAny_bind (wpAny_bind (wpAny_field hos hds (x:=vl) rfl (wpAny_bind (wpAny_field hos hds (x:=vu) rfl (wpAny_bind (wpAny_field hos hds (x:=.none) rfl (wpAny_pure ?_)))))))
 refine wpAny_bind (slicePart_none ?_)
 show wpAny _ _ (if((1:Int)==0)=true then _ else _) _ _ s
 rw[if_neg (by decide)]
 refine wpAny_bind (iP pl (wpAny_bind (iP pu (wpAny_bind (wpAny_pure ?_)))))
 show wpAny _ _ (match Builtin.Slice.sliceAdjust lo hi 1 (n:Int)with |(lo,hi)=>pure (lo,(1:Int),Builtin.Slice.slicePlaces lo hi 1)) _ _ s
 rw[pD lo hi n]
 show wpAny _ _ (pure (((sIx n 0 lo:Nat):Int),(1:Int),Builtin.Slice.slicePlaces ((sIx n 0 lo:Nat):Int) ((sIx n n hi:Nat):Int) 1)) _ _ s
 rw[pF]
 exact wpAny_pure h
theorem qV3(xs:Array Value)(i k:Nat):((List.range k).filterMap fun(m:Nat)=>xs[((i:Int)+(m:Int)*1).toNat]?).toArray=((xs.toList.drop i).take k).toArray:=by
 have e:(fun(m:Nat)=>xs[((i:Int)+(m:Int)*1).toNat]?)=fun m=>xs[i+m]? :=by
  funext m
  have :((i:Int)+(m:Int)*1).toNat=i+m:=by omega
  rw[this]
 rw[e]
 have :=pick_run xs i k
 rw[List.filterMap_map]at this
 have e2:((fun x=>xs[x]?)∘fun x=>i+x)=fun m=>xs[i+m]? :=rfl
 rw[e2]at this
 rw[this]
theorem getItem_tuple_cut{t sl:Addr}{items:Array Value}{vl vu:Value}{lo hi:Option Int}{Q:Value->Shared->Prop}(ht:IsTup s.heap t items)(hs:s.heap.IsSliceOf sl vl vu .none)(pl:IsPart vl lo)(pu:IsPart vu hi)
  (hw:¬(sIx items.size 0 lo=0/\sIx items.size items.size hi=items.size))
  (h:Q (.ref s.heap.objs.size) {s with heap:=s.heap.push {cls:=.type "tuple",data:=.seq ((items.toList.drop (sIx items.size 0 lo)).take (sIx items.size items.size hi-sIx items.size 0 lo)).toArray}})
  (hsz:items.size<=sizeLine):wpAny (model prog w) A (getItem (.ref t) (.ref sl)) Q E s:=by
 have htake:sizeOk (.seq ((items.toList.drop (sIx items.size 0 lo)).take (sIx items.size items.size hi-sIx items.size 0 lo)).toArray):=by
  show((items.toList.drop (sIx items.size 0 lo)).take (sIx items.size items.size hi-sIx items.size 0 lo)).toArray.size<=sizeLine
  rw[aq18,List.length_take,List.length_drop,Array.length_toList]
  omega
 have hj:sIx items.size items.size hi<=items.size:=zVz _ _ (aq7 _) hi
 obtain⟨os,hos,hcs,hds⟩:=id hs
 have hTs:s.TypeIs (.ref sl) "slice":=⟨os,hos,hcs⟩
 unfold getItem
 try with_reducible refine wpAny_holding ?_
 first|refine wpAny_bind (wpAny_pure ?_)|skip
 refine wpAny_bind (wpAny_sequenceKey ht.typeIs (by decide) ?_)
 refine wpAny_bind (wpAny_callSpecial?_slot (name:=Str.ofString "__getitem__") ht.typeIs PyProof.Rows.slot_tuple_getitem
  (wpAny_call_entry PyProof.Rows.slot_tuple_getitem ht.typeIs entry_tuple_getitem ?_ (args_tuple_getitem _ _)))
 show wpAny _ _ (Builtin.Tuple.tupleItemsOf (.ref t)>>=_) _ _ s
 refine wpAny_bind (tupleItemsOf_ ht ?_)
 refine wpAny_bind (wpAny_typeOf hTs ?_)
 rw[if_pos (by decide)]
 refine wpAny_bind (oQ hs pl pu ?_)
 have hno:¬((((sIx items.size 0 lo:Nat):Int)==0&&(1:Int)==1&&(sIx items.size items.size hi-sIx items.size 0 lo)==items.size)=true):=by
  intro q
  rw[Bool.and_eq_true,Bool.and_eq_true]at q
  have q1:((sIx items.size 0 lo:Nat):Int)=0:=eq_of_beq q.1.1
  have q2:sIx items.size items.size hi-sIx items.size 0 lo=items.size:=eq_of_beq q.2
  exact hw ⟨by omega,by omega⟩
 show wpAny _ _ (if(((sIx items.size 0 lo:Nat):Int)==0&&(1:Int)==1&&(sIx items.size items.size hi-sIx items.size 0 lo)==items.size)=true then _ else _) _ _ s
 rw[if_neg hno,qV3]
 first
  |exact wpAny_bind (m:=Builtin.Tuple.tupleExact _) (wpAny_newObj_type (wpAny_pure ⟨_,rfl,wpAny_pure h⟩) htake)
  |exact wpAny_bind (m:=Builtin.Tuple.tupleExact _) (wpAny_newObj_type (wpAny_bind (wpAny_pure (wpAny_pure ⟨_,rfl,wpAny_pure h⟩))) htake)
  |exact wpAny_bind (wpAny_bind (m:=Builtin.Tuple.tupleExact _) (wpAny_newObj_type (wpAny_pure (wpAny_pure ⟨_,rfl,wpAny_pure h⟩)) htake))
  |exact wpAny_bind (wpAny_bind (m:=Builtin.Tuple.tupleExact _) (wpAny_newObj_type (wpAny_pure ⟨_,rfl,wpAny_pure h⟩) htake))
end
end HT
namespace L2
open PySem PySem.Spec PyProof.Rows
abbrev TO:=St->Hp->(Option Int->Hp->Prop)->Prop
def PO(X:Cx)(e:Option Expr)(t:TO):Prop:=
 ∀(pins:List (Addr×Obj))(s:Shared)(σ:St)(H:Hp)(Q:Option Int->Hp->Prop),Inv X pins σ H s->t σ H Q->
  wpAny (model X.prog X.w) X.A (evalPart e X.env) (fun u s'=>∃o H',Inv X pins σ H' s'/\IsPart u o/\Q o H') X.xe s
def qF3:TO:=fun _ H Q=>Q none H
def zB3(t:TE):TO:=fun σ H Q=>t σ H fun x H1=>∃i,x= .int i/\Q (some i) H1
section
variable {X:Cx} {e:Expr} {te:TE} {lo hi:Option Expr} {tl th:TO} {pos p2:Pos}
theorem mX:PO X none qF3:=by
 intro pins s σ H Q I h
 rw[evalPart_none]
 exact wpAny_pure ⟨none,H,I,.none,h⟩
theorem mW(h:PE X e te):PO X (some e) (zB3 te):=by
 intro pins s σ H Q I hw
 rw[evalPart_some]
 refine thn (h pins s σ H _ I hw) fun u s1⟨x,H1,I1,r1,q1⟩=>?_
 obtain⟨i,rfl,q⟩:=q1
 obtain⟨t,rfl⟩:=r1
 exact⟨some i,H1,I1,.int i t,q⟩
def SlR(X:Cx)(r:V->Option Int->Option Int->Hp->VK->Prop):Prop:=
 ∀(pins:List (Addr×Obj))(s:Shared)(σ:St)(H:Hp)(x:V)(v vl vu:Value)(lo hi:Option Int)(sl:Addr)(Q:VK),Inv X pins σ H s->zG x v->s.heap.IsSliceOf sl vl vu .none->IsPart vl lo->IsPart vu hi->r x lo hi H Q->
  ∃T id,typeLookup (.type T) "__getitem__"=pure (some (.builtin id))/\s.TypeIs v T/\wpAny (model X.prog X.w) X.A (getItem v (.ref sl)) (EP X pins σ Q) X.xe s
def tSl(r:V->Option Int->Option Int->Hp->VK->Prop)(te:TE)(tl th:TO):TE:=fun σ H Q=>te σ H fun x H1=>tl σ H1 fun l H2=>th σ H2 fun u H3=>r x l u H3 Q
theorem iR{r:V->Option Int->Option Int->Hp->VK->Prop}(hr:SlR X r)(he:PE X e te)(hl:PO X lo tl)(hu:PO X hi th):PE X (.Subscript e (.Slice lo hi none p2) pos) (tSl r te tl th):=by
 intro pins s σ H Q I h
 refine Subscript_ (thn (he pins s σ H _ I h) fun v s1⟨x,H1,I1,r1,q1⟩=>?_)
 refine wpAny_Slice (thn (hl pins s1 σ H1 _ I1 q1) fun vl s2⟨l,H2,I2,pl,q2⟩=>thn (hu pins s2 σ H2 _ I2 q2) fun vu s3⟨u,H3,I3,pu,q3⟩=>?_)
 rw[evalPart_none]
 refine wpAny_pure ?_
 have I4:Inv X pins σ H3 {s3 with heap:=s3.heap.push {cls:=.type "slice",data:=.fields #[vl,vu,.none]}}:=I3.kept (t':=s3.toks) fun b ob q=>aq13 _ q
 obtain⟨T,id,hT,ht,hg⟩:=hr pins {s3 with heap:=s3.heap.push {cls:=.type "slice",data:=.fields #[vl,vu,.none]}} σ H3 x v vl vu l u s3.heap.objs.size Q I4 r1 (Heap.IsSliceOf.new ..) pl pu q3
 show wpAny (model X.prog X.w) X.A (subscriptTail e (.Slice lo hi none p2) v (.ref s3.heap.objs.size)) (EP X pins σ Q) X.xe {s3 with heap:=s3.heap.push {cls:=.type "slice",data:=.fields #[vl,vu,.none]}}
 exact tail_any (ops:=[.ref s3.heap.objs.size,v]) ht hT hg (by with_unfolding_all rfl)
def iS(xs:List V)(lo hi:Option Int):List V:=(xs.drop (HT.sIx xs.length 0 lo)).take (HT.sIx xs.length xs.length hi-HT.sIx xs.length 0 lo)
theorem oB(xs:List V)(lo hi:Option Int):(iS xs lo hi).length<=xs.length:=by
 unfold iS
 rw[List.length_take,List.length_drop]
 omega
def zT5(K:Fg):V->Option Int->Option Int->Hp->VK->Prop:=fun x lo hi H Q=>∃a xs,x= .ref a/\zB K H a xs/\
 ¬(HT.sIx xs.length 0 lo=0/\HT.sIx xs.length xs.length hi=xs.length)/\∀p,H p=none->Q (.ref p) (upd H p (.tup (iS xs lo hi)))
theorem qV4:SlR X (zT5 X.K):=by
 intro pins s σ H x v vl vu lo hi sl Q I rx hs pl pu h
 obtain⟨a,xs,rfl,hx,hw,q⟩:=h
 cases rx
 obtain⟨its,r,ht,hz⟩:=I.tuple hx
 have hlen:its.toArray.size=xs.length:=by rw[aq18];exact r.length.symm
 refine⟨"tuple",_,PyProof.Rows.slot_tuple_getitem.lookup,ht.typeIs,?_⟩
 refine HT.getItem_tuple_cut ht hs pl pu (by rw[hlen];exact hw) ?_ (by rw[hlen];exact hz)
 rw[hlen]
 refine⟨.ref s.heap.objs.size,_,I.laid (t':=s.toks) (o:=.tup (iS xs lo hi)) (fun b ob q=>aq13 _ q) (aq7 _) ?_,rfl,q _ (I.hok.fresh (aq7 _))⟩
 exact⟨Nat.le_trans (oB xs lo hi) hz,_,(r.drop (HT.sIx xs.length 0 lo)).take (HT.sIx xs.length xs.length hi-HT.sIx xs.length 0 lo),IsTup.new _ _⟩
end
def ixN(n:Nat)(i:Int):Option Nat:=if 0<=i then(if i<n then some i.toNat else none)else if -(n:Int)<=i then some (i+n).toNat else none
def atI{α:Type}(xs:List α)(i:Int):Option α:=(ixN xs.length i).bind fun j=>xs[j]?
theorem qF4{n:Nat}{i:Int}{j:Nat}(h:ixN n i=some j):seqIndex? i n=some j/\j<n/\ -(n:Int)<=i/\i<n:=by
 unfold ixN at h
 by_cases h0:0<=i
 ·rw[if_pos h0]at h
  by_cases h1:i<n
  ·rw[if_pos h1]at h
   have e:i.toNat=j:=Option.some.inj h
   exact⟨by rw[seqIndex_of h0 h1,e],by omega,by omega,h1⟩
  ·rw[if_neg h1]at h;cases h
 ·rw[if_neg h0]at h
  by_cases h1: -(n:Int)<=i
  ·rw[if_pos h1]at h
   have e:(i+n).toNat=j:=Option.some.inj h
   exact⟨by rw[seqIndex_neg (by omega) h1,e],by omega,h1,by omega⟩
  ·rw[if_neg h1]at h;cases h
theorem tQ{α:Type}{xs:List α}{i:Int}{v:α}(h:atI xs i=some v):∃j,seqIndex? i xs.length=some j/\xs[j]? =some v/\j<xs.length/\ -(xs.length:Int)<=i/\i<xs.length:=by
 unfold atI at h
 cases e:ixN xs.length i with
 |none=>rw[e]at h;cases h
 |some j=>
  rw[e]at h
  obtain⟨h1,h2,h3,h4⟩:=qF4 e
  exact⟨j,h1,h,h2,h3,h4⟩
theorem qW{α:Type}{xs:List α}{j:Nat}{v:α}(h:xs[j]? =some v):atI xs (j:Int)=some v:=by
 have hj:j<xs.length:=(List.getElem?_eq_some_iff.mp h).1
 have e:ixN xs.length (j:Int)=some j:=by
  unfold ixN
  rw[if_pos (by omega),if_pos (by omega)];simp
 unfold atI;rw[e];exact h
theorem yE{α:Type}(xs:List α)(v:α):atI (xs++[v]) (-1)=some v:=by
 have hl:(xs++[v]).length=xs.length+1:=by simp
 have e:ixN (xs++[v]).length (-1)=some xs.length:=by
  unfold ixN
  rw[hl,if_neg (by decide),if_pos (by omega)]
  congr 1
  omega
 unfold atI
 rw[e]
 show(xs++[v])[xs.length]? =some v
 simp
def qF5(b:Expr):Prop:=∀o i,subscripted b false o i=operate [o,i] (getItem o i)
def IxR(X:Cx)(r:R2):Prop:=
 ∀(value slice:Expr)(pins:List (Addr×Obj))(s:Shared)(σ:St)(H:Hp)(x y:V)(v u:Value)(Q:VK),Inv X pins σ H s->zG x v->zG y u->r x y H Q->
  subscripted slice false v u=operate [v,u] (getItem v u)->wpAny (model X.prog X.w) X.A (subscriptTail value slice v u) (EP X pins σ Q) X.xe s
def MtR(X:Cx)(id:String)(r:V->List V->Hp->VK->Prop):Prop:=
 ∀(pins:List (Addr×Obj))(s:Shared)(σ:St)(H:Hp)(x:V)(xs:List V)(v:Value)(us:List Value)(Q:VK),Inv X pins σ H s->zG x v->Vals xs us->r x xs H Q->
  wpAny (model X.prog X.w) X.A (call (.builtin id) (v::us)) (EP X pins σ Q) X.xe s
section
variable {X:Cx} {a b:Expr} {ta tb:TE} {pos:Pos}
theorem qM{r:R2}(hr:IxR X r)(ha:PE X a ta)(hb:PE X b tb)(hs:qF5 b:=by exact fun _ _=>rfl):PE X (.Subscript a b pos) (sD r ta tb):=by
 intro pins s σ H Q I h
 exact Subscript_ (zV9 ha hb I h fun v u s2 x y H2 I2 rx ry q=>hr a b pins s2 σ H2 x y v u Q I2 rx ry q (hs _ _))
inductive zQ2(K:Fg)(x:V)(y:V)(H:Hp)(Q:VK):Prop
 |mk (p:_) (xs:_) (i:_) (v:_) (a_0:x= .ref p) (a_1:y= .int i) (a_2:zS K H p xs) (a_3:atI xs i=some v) (a_4:Q v H):zQ2 K x y H Q
def zT6(K:Fg):R2:=fun x y H Q=>zQ2 K x y H Q
inductive zQ3(K:Fg)(x:V)(y:V)(H:Hp)(Q:VK):Prop
 |mk (p:_) (xs:_) (i:_) (v:_) (a_0:x= .ref p) (a_1:y= .int i) (a_2:zB K H p xs) (a_3:atI xs i=some v) (a_4:Q v H):zQ3 K x y H Q
def qV6(K:Fg):R2:=fun x y H Q=>zQ3 K x y H Q
theorem zY:IxR X (zT6 X.K):=by
 intro value slice pins s σ H x y v u Q I rx ry h hs
 obtain⟨p,xs,i,z,rfl,rfl,hq,he,q⟩:=h
 cases rx
 obtain⟨t,rfl⟩:=ry
 obtain⟨its,r,pl,hz⟩:=I.list hq
 obtain⟨j,h1,h2,h3,h4,h5⟩:=tQ he
 obtain⟨w,ew,rw'⟩:=r.get h2
 have hl:=r.length
 have hn:=line63
 have fin:EP X pins σ Q w s:=⟨z,H,I,rw',q⟩
 by_cases h0:0<=i
 ·have hj:i.toNat=j:=by
   rw[seqIndex_of h0 h5]at h1
   exact Option.some.inj h1
  exact item_listR pl.isList h0 (by omega) (by rw[hj];simpa using ew) fin hs
 ·have hj:(i+(its.toArray.size:Int)).toNat=j:=by
   rw[seqIndex_neg (by omega) h4]at h1
   rw[aq18,<-hl]
   exact Option.some.inj h1
  exact subscriptTail_builtinR (x:=w) pl.isList.typeIs slot_list_getitem.lookup
   (wpAny_getItem_list_neg (Q:=fun r s'=>r=w/\EP X pins σ Q r s') pl.isList (by omega) (by rw[aq18]<;>omega) (by omega) (by rw[hj];simpa using ew) ⟨rfl,fin⟩) hs
theorem qP:IxR X (qV6 X.K):=by
 intro value slice pins s σ H x y v u Q I rx ry h hs
 obtain⟨p,xs,i,z,rfl,rfl,hq,he,q⟩:=h
 cases rx
 obtain⟨t,rfl⟩:=ry
 obtain⟨its,r,pl,hz⟩:=I.tuple hq
 obtain⟨j,h1,h2,h3,h4,h5⟩:=tQ he
 obtain⟨w,ew,rw'⟩:=r.get h2
 have hl:=r.length
 have hn:=line63
 have fin:EP X pins σ Q w s:=⟨z,H,I,rw',q⟩
 exact subscriptTail_builtinR (x:=w) pl.typeIs slot_tuple_getitem.lookup
  (getItem_tuple (j:=j) (Q:=fun r s'=>r=w/\EP X pins σ Q r s') pl (by omega) (by omega) (by rw[aq18,<-hl];exact h1) (by simpa using ew) ⟨rfl,fin⟩) hs
theorem mY(lo hi:Option Int)(n:Nat):(sliceBounds lo hi none n).1=((HT.sIx n 0 lo:Nat):Int)/\(sliceBounds lo hi none n).2.1=((HT.sIx n n hi:Nat):Int)/\(sliceBounds lo hi none n).2.2=1:=by
 refine⟨?_,?_,rfl⟩
 ·cases lo with
  |none=>simp[sliceBounds,HT.sIx]
  |some i=>
   simp only[sliceBounds,HT.sIx,Option.getD_none,show(1:Int)>0 by decide,if_true]
   by_cases h:i<0
   ·simp only[h,if_true]<;>omega
   ·simp only[h,if_false]<;>omega
 ·cases hi with
  |none=>simp[sliceBounds,HT.sIx]
  |some i=>
   simp only[sliceBounds,HT.sIx,Option.getD_none,show(1:Int)>0 by decide,if_true]
   by_cases h:i<0
   ·simp only[h,if_true]<;>omega
   ·simp only[h,if_false]<;>omega
theorem lV(its:List Value)(lo hi:Option Int):slicePick its.toArray lo hi none=((its.drop (HT.sIx its.length 0 lo)).take (HT.sIx its.length its.length hi-HT.sIx its.length 0 lo)).toArray:=by
 obtain⟨h1,h2,h3⟩:=mY lo hi its.toArray.size
 unfold slicePick
 rw[h1,h2,h3]
 simp only[sliceRange_one,pick_run,aq18]<;>rfl
def zT7(K:Fg):V->Option Int->Option Int->Hp->VK->Prop:=fun x lo hi H Q=>∃a xs,x= .ref a/\zS K H a xs/\∀p,H p=none->Q (.ref p) (upd H p (.lst (iS xs lo hi)))
theorem qF6:SlR X (zT7 X.K):=by
 intro pins s σ H x v vl vu lo hi sl Q I rx hs pl pu h
 obtain⟨a,xs,rfl,hx,q⟩:=h
 cases rx
 obtain⟨its,r,ht,hz⟩:=I.list hx
 have hlen:=r.length
 refine⟨"list",_,slot_list_getitem.lookup,ht.isList.typeIs,?_⟩
 refine wpAny_getItem_list_slice ht.isList hs pl pu .none (by simp) ?_ (by rw[aq18]<;>omega)
 rw[lV,<-hlen]
 refine⟨.ref s.heap.objs.size,_,I.laid (t':=s.toks) (o:=.lst (iS xs lo hi)) (fun b ob q=>aq13 _ q) (aq7 _) ?_,rfl,q _ (I.hok.fresh (aq7 _))⟩
 exact⟨Nat.le_trans (oB xs lo hi) hz,_,0,(r.drop (HT.sIx xs.length 0 lo)).take (HT.sIx xs.length xs.length hi-HT.sIx xs.length 0 lo),aq14 _ rfl⟩
def yO:V->Bool
 | .non=>true
 | .bl _=>true
 | .int _=>true
 | .str _=>true
 |_=>false
def eqV:V->V->Bool
 | .non,.non=>true
 | .bl a,.bl b=>a==b
 | .bl a,.int b=>(if a then 1 else 0)==b
 | .int a,.bl b=>a==(if b then 1 else 0)
 | .int a,.int b=>a==b
 | .str a,.str b=>a==b
 |_,_=>false
theorem zVj{A:Around}{s:Shared}{y x:V}{u v:Value}(ry:zG y u)(rx:zG x v)(fy:yO y=true)(fx:yO x=true):SeqAt.EqAt A s u v (eqV y x):=by
 cases y with
 |non=>
  cases ry
  cases x with
  |non=>cases rx;exact SeqAt.EqAt.same _
  |bl b=>cases rx;exact SeqAt.EqAt.none_bool b
  |int b=>obtain⟨t,rfl⟩:=rx;exact SeqAt.EqAt.none_int b t
  |str b=>obtain⟨t,rfl⟩:=rx;exact SeqAt.EqAt.none_str b t
  |_=>exact absurd (show false=true from fx) Bool.false_ne_true
 |bl a=>
  cases ry
  cases x with
  |non=>cases rx;exact SeqAt.EqAt.bool_none a
  |bl b=>cases rx;exact SeqAt.EqAt.bool_bool a b
  |int b=>obtain⟨t,rfl⟩:=rx;exact SeqAt.EqAt.bool_int a b t
  |str b=>obtain⟨t,rfl⟩:=rx;exact SeqAt.EqAt.bool_str a b t
  |_=>exact absurd (show false=true from fx) Bool.false_ne_true
 |int a=>
  obtain⟨t',rfl⟩:=ry
  cases x with
  |non=>cases rx;exact SeqAt.EqAt.int_none a t'
  |bl b=>cases rx;exact SeqAt.EqAt.int_bool a t' b
  |int b=>obtain⟨t,rfl⟩:=rx;exact SeqAt.EqAt.int_int a t' b t
  |str b=>obtain⟨t,rfl⟩:=rx;exact SeqAt.EqAt.int_str a t' b t
  |_=>exact absurd (show false=true from fx) Bool.false_ne_true
 |str a=>
  obtain⟨t',rfl⟩:=ry
  cases x with
  |non=>cases rx;exact SeqAt.EqAt.str_none a t'
  |bl b=>cases rx;exact SeqAt.EqAt.str_bool a t' b
  |int b=>obtain⟨t,rfl⟩:=rx;exact SeqAt.EqAt.str_int a t' b t
  |str b=>obtain⟨t,rfl⟩:=rx;exact SeqAt.EqAt.str_str a t' b t
  |_=>exact absurd (show false=true from fx) Bool.false_ne_true
 |_=>exact absurd (show false=true from fy) Bool.false_ne_true
def dZ(x:V)(u:Value):Bool:=match u with
 | .none=>eqV .non x
 | .bool b=>eqV (.bl b) x
 | .int i _=>eqV (.int i) x
 | .str z _=>eqV (.str z) x
 |_=>false
theorem qV7{x y:V}{u:Value}(r:zG y u)(f:yO y=true):dZ x u=eqV y x:=by
 cases y with
 |non=>cases r;rfl
 |bl b=>cases r;rfl
 |int i=>obtain⟨t,rfl⟩:=r;rfl
 |str z=>obtain⟨t,rfl⟩:=r;rfl
 |_=>exact absurd (show false=true from f) Bool.false_ne_true
theorem uQ{x:V}:∀{xs:List V}{us:List Value},Vals xs us->xs.all yO=true->us.any (dZ x)=xs.any fun y=>eqV y x
 |_,_,.nil,_=>rfl
 |y::xs,u::us,.cons r t,f=>by
  rw[List.all_cons,Bool.and_eq_true]at f
  rw[List.any_cons,List.any_cons,qV7 r f.1,uQ t f.2]
theorem vB{A:Around}{s:Shared}{x:V}{v:Value}(rx:zG x v)(fx:yO x=true):∀{xs:List V}{us:List Value},Vals xs us->xs.all yO=true->∀u∈us,SeqAt.EqAt A s u v (dZ x u)
 |_,_,.nil,_=>fun u hu=>by cases hu
 |y::xs,u::us,.cons r t,f=>fun u' hu=>by
  rw[List.all_cons,Bool.and_eq_true]at f
  rcases List.mem_cons.mp hu with rfl|hu
  ·rw[qV7 r f.1];exact zVj r rx f.1 fx
  ·exact vB rx fx t f.2 u' hu
def pH(x:V)(xs:List V):Bool:=xs.any fun y=>eqV y x
inductive zB6(K:Fg)(neg:Bool)(x:V)(y:V)(H:Hp)(Q:VK):Prop
 |mk (p:_) (xs:_) (a_0:y= .ref p) (a_1:(zS K H p xs\/zB K H p xs)) (a_2:yO x=true) (a_3:xs.all yO=true) (a_4:Q (.bl (if neg then !pH x xs else pH x xs)) H):zB6 K neg x y H Q
def rIn(K:Fg)(neg:Bool):R2:=fun x y H Q=>zB6 K neg x y H Q
theorem yQ:yP X (compareOp .In) (rIn X.K false):=by
 intro pins s σ H x y v u Q I rx ry h
 obtain⟨p,xs,rfl,hq,fx,fs,q⟩:=h
 cases ry
 rcases hq with hq|hq
 ·obtain⟨its,r,pl,hz⟩:=I.list hq
  refine SeqAt.in_listAt (dZ x) pl.isList (fun w hw=>vB rx fx r fs w (by simpa using hw)) ⟨.bl _,H,I,rfl,?_⟩
  rw[show its.toArray.any (dZ x)=its.any (dZ x) by simp,uQ r fs]
  exact q
 ·obtain⟨its,r,pl,hz⟩:=I.tuple hq
  refine SeqAt.in_tupleAt (dZ x) pl (fun w hw=>vB rx fx r fs w (by simpa using hw)) ⟨.bl _,H,I,rfl,?_⟩
  rw[show its.toArray.any (dZ x)=its.any (dZ x) by simp,uQ r fs]
  exact q
theorem mO:yP X (compareOp .NotIn) (rIn X.K true):=by
 intro pins s σ H x y v u Q I rx ry h
 obtain⟨p,xs,rfl,hq,fx,fs,q⟩:=h
 cases ry
 rcases hq with hq|hq
 ·obtain⟨its,r,pl,hz⟩:=I.list hq
  refine SeqAt.notIn_listAt (dZ x) pl.isList (fun w hw=>vB rx fx r fs w (by simpa using hw)) ⟨.bl _,H,I,rfl,?_⟩
  rw[show its.toArray.any (dZ x)=its.any (dZ x) by simp,uQ r fs]
  exact q
 ·obtain⟨its,r,pl,hz⟩:=I.tuple hq
  refine SeqAt.notIn_tupleAt (dZ x) pl (fun w hw=>vB rx fx r fs w (by simpa using hw)) ⟨.bl _,H,I,rfl,?_⟩
  rw[show its.toArray.any (dZ x)=its.any (dZ x) by simp,uQ r fs]
  exact q
inductive qV8(K:Fg)(xs:List V)(H:Hp)(Q:VK):Prop
 |mk (p:Addr) (ys:List V) (a_0:xs=[.ref p]) (a_1:zS K H p ys\/zB K H p ys) (a_2:Q (.int ys.length) H):qV8 K xs H Q
theorem zR:kP X (.builtin "len") (fun xs H Q=>qV8 X.K xs H Q):=by
 intro pins s σ H xs us Q I r h
 obtain⟨p,ys,rfl,hq,q⟩:=h
 obtain⟨u,rfl,rx⟩:=vals1 r
 cases rx
 have hn:=line63
 rcases hq with hq|hq
 ·obtain⟨its,r',pl,hz⟩:=I.list hq
  have hlen:=r'.length
  exact Calls.call_len_list pl.isList (by simp only[aq18]<;>omega) ⟨.int ys.length,H,I.tok _,⟨s.toks+1,by rw[aq18,hlen]⟩,q⟩
 ·obtain⟨its,r',pl,hz⟩:=I.tuple hq
  have hlen:=r'.length
  exact len_tuple pl (by simp only[aq18]<;>omega) ⟨.int ys.length,H,I.tok _,⟨s.toks+1,by rw[aq18,hlen]⟩,q⟩
theorem uZ:kP X (.builtin "len") (fun xs H Q=>∃z,xs=[.str z]/\z.length<=sizeLine/\Q (.int z.length) H):=by
 intro pins s σ H xs us Q I r h
 obtain⟨z,rfl,hz,q⟩:=h
 obtain⟨u,rfl,t,rfl⟩:=vals1 r
 have hn:=line63
 exact len_str (by omega) ⟨.int z.length,H,I.tok _,⟨_,rfl⟩,q⟩
theorem wQ:kP X (.type "list") (fun xs H Q=>∃p ys,xs=[.ref p]/\(zS X.K H p ys\/zB X.K H p ys)/\∀l,H l=none->Q (.ref l) (upd H l (.lst ys))):=by
 intro pins s σ H xs us Q I r h
 obtain⟨p,ys,rfl,hq,q⟩:=h
 obtain⟨u,rfl,rx⟩:=vals1 r
 cases rx
 have fin:∀(its:List Value),Vals ys its->ys.length<=sizeLine->∀(h':Heap)(c':Nat),(∀b o',s.heap.get? b=some o'->h'.get? b=some o')->
   h'.get? s.heap.objs.size=some {cls:=.type "list",dict:=none,data:=.seq its.toArray c',slots:= #[]}->EP X pins σ Q (.ref s.heap.objs.size) {s with heap:=h'}:=fun its r' hz h' c' kp e=>
  ⟨.ref s.heap.objs.size,_,I.laid (t':=s.toks) kp (aq7 _) (show jP X.prog X.w _ h' _ (.lst ys)from⟨hz,its,c',r',e⟩),rfl,q _ (I.hok.fresh (aq7 _))⟩
 rcases hq with hq|hq
 ·obtain⟨its,r',pl,hz⟩:=I.list hq
  have hlen:=r'.length
  obtain⟨o,ho,hc,n,hd⟩:=pl.isList
  exact call_list_seq p (.inl rfl) ho hc hd (fun h' c' kp e=>fin its r' hz h' c' kp e) (by simp only[aq18]<;>omega)
 ·obtain⟨its,r',pl,hz⟩:=I.tuple hq
  have hlen:=r'.length
  obtain⟨o,ho,hc,n,hd⟩:=pl
  exact call_list_seq p (.inr rfl) ho hc hd (fun h' c' kp e=>fin its r' hz h' c' kp e) (by simp only[aq18]<;>omega)
theorem vC:kP X (.type "tuple") (fun xs H Q=>∃p ys,xs=[.ref p]/\((zS X.K H p ys/\∀l,H l=none->Q (.ref l) (upd H l (.tup ys)))\/(zB X.K H p ys/\Q (.ref p) H))):=by
 intro pins s σ H xs us Q I r h
 obtain⟨p,ys,rfl,h⟩:=h
 obtain⟨u,rfl,rx⟩:=vals1 r
 cases rx
 rcases h with⟨hq,q⟩|⟨hq,q⟩
 ·obtain⟨its,r',pl,hz⟩:=I.list hq
  have hlen:=r'.length
  refine call_tuple_list pl.isList (fun h' kp=>?_) (by simp only[aq18]<;>omega)
  have I1:Inv X pins σ H {s with heap:=h'}:=I.kept (t':=s.toks) kp
  have I2:Inv X pins σ (upd H h'.objs.size (.tup ys)) {s with heap:=h'.push {cls:=.type "tuple",data:=.seq its.toArray}}:=
   I1.laid (t':=s.toks) (fun b o e=>aq13 _ e) (aq7 _) (show jP X.prog X.w _ _ _ (.tup ys)from⟨hz,its,r',IsTup.new _ _⟩)
  exact⟨.ref h'.objs.size,_,I2,rfl,q _ (I1.hok.fresh (aq7 _))⟩
 ·obtain⟨its,r',pl,hz⟩:=I.tuple hq
  exact call_tuple_same pl ⟨.ref p,H,I,rfl,q⟩
def tyV(K:Fg)(T:String)(x:V)(H:Hp):Prop:=match x with
 | .str _=>T="str"
 | .int _=>T="int"
 | .ref p=>(T="list"/\∃xs,zS K H p xs)\/(T="tuple"/\∃o,K.lookup p=some o/\o.cls= .type "tuple"/\o.dict=none)\/
   (T="dict"/\((∃kvs,H p=some (.dK kvs))\/∃kvs,H p=some (.dT kvs)))\/(T="set"/\∃S n,H p=some (.set S n))
 |_=>False
theorem qV9{pins:List (Addr×Obj)}{σ:St}{H:Hp}{s:Shared}{T:String}{x:V}{v:Value}(I:Inv X pins σ H s)(r:zG x v)(ty:tyV X.K T x H):
  s.TypeIs v T/\∀a,v= .ref a->∃ob,s.heap.get? a=some ob/\ob.dict=none:=by
 cases x with
 |str z=>
  obtain⟨t,rfl⟩:=r
  cases (show T="str" from ty)
  exact⟨typeIs_str s z t,fun _ e=>nomatch e⟩
 |int i=>
  obtain⟨t,rfl⟩:=r
  cases (show T="int" from ty)
  exact⟨typeIs_int s i t,fun _ e=>nomatch e⟩
 |ref p=>
  cases r
  rcases ty with⟨rfl,xs,hq⟩|⟨rfl,o,hk,hc,hd⟩|⟨rfl,hk⟩|⟨rfl,S,n,hk⟩
  ·obtain⟨its,_,pl,_⟩:=I.list hq
   refine⟨pl.isList.typeIs,fun a e=>?_⟩
   cases e
   obtain⟨o,n,e,c,hd,_⟩:=pl
   exact⟨o,e,hd⟩
  ·refine⟨⟨o,I.kIn p o hk,hc⟩,fun a e=>?_⟩
   cases e
   exact⟨o,I.kIn _ o hk,hd⟩
  ·have z:∃o,s.heap.get? p=some o/\o.ExactDict:=by
    rcases hk with⟨kvs,hk⟩|⟨kvs,hk⟩
    ·obtain⟨_,_,_,_,o,_,_,e,ex,_⟩:=I.hok p _ hk
     exact⟨o,e,ex⟩
    ·obtain⟨_,_,_,_,o,_,_,e,ex,_⟩:=I.hok p _ hk
     exact⟨o,e,ex⟩
   obtain⟨o,e,ex⟩:=z
   refine⟨⟨o,e,ex.1⟩,fun a e2=>?_⟩
   cases e2
   exact⟨o,e,ex.2.1⟩
  ·obtain⟨o,_,_,_,e,ex,_⟩:=I.hok p _ hk
   refine⟨⟨o,e,ex.1⟩,fun a e2=>?_⟩
   cases e2
   exact⟨o,e,ex.2.1⟩
 |_=>exact False.elim ty
def qVq(K:Fg)(T:String)(r:V->List V->Hp->VK->Prop)(to:TE):TE:=fun σ H Q=>to σ H fun x H1=>tyV K T x H1/\r x [] H1 Q
def tBM(K:Fg)(T:String)(r:V->List V->Hp->VK->Prop)(to:TE)(t:TA):TE:=fun σ H Q=>to σ H fun x H1=>tyV K T x H1/\t σ H1 fun xs H2=>r x xs H2 Q
variable {o e:Expr} {es:List Expr} {to:TE} {t:TA} {name:Str} {apos cpos:Pos} {T id:String} {r:V->List V->Hp->VK->Prop}
theorem xV(pa:PlainAttrs T)(slot:Slot T name id)(hty:typeOf (.builtin id)=pure (.type "method_descriptor"))(hm:MtR X id r)(ho:PE X o to)
  (hbase:attributeBase o name X.env (eval o X.env)=eval o X.env:=by rfl)(hline:(apos.endLine==cpos.line)=true:=by rfl):PE X (.Call (.Attribute o name apos) [] [] cpos) (qVq X.K T r to):=by
 intro pins s σ H Q I h
 refine wpAny_Call_method0_late hbase hline (thn (ho pins s σ H _ I h) fun v s1⟨x,H1,I1,r1,ty,q1⟩=>?_)
 obtain⟨h1,h2⟩:=qV9 I1 r1 ty
 exact⟨T,id,pa,slot,hty,h1,h2,Calls.callWith_builtin rfl (PySem.evalArgs_none (hm pins s1 σ H1 x [] v [] Q I1 r1 .nil q1))⟩
theorem jT(pa:PlainAttrs T)(slot:Slot T name id)(hty:typeOf (.builtin id)=pure (.type "method_descriptor"))(hm:MtR X id r)(ho:PE X o to)(ha:PA X (e::es) t)
  (hbase:attributeBase o name X.env (eval o X.env)=eval o X.env:=by rfl)
  (hfew:((backTo cpos (starEach (e::es) X.env)).all (fun x=> !x.1)&&(backToKw cpos (keywordEach [] X.env)).all (fun x=>x.1.isSome)
   &&decide ((e::es).length+([]:List Keyword).length+(if([]:List Keyword).isEmpty then 0 else 1)<30))=true:=by rfl)
  (hline:(apos.endLine==cpos.line)=true:=by rfl)(hs:starEach (e::es) X.env=(false,eval e X.env)::starEach es X.env:=by rfl)(hplain:(backTo cpos (starEach es X.env)).any (·.1)=false:=by rfl):
  PE X (.Call (.Attribute o name apos) (e::es) [] cpos) (tBM X.K T r to t):=by
 intro pins s σ H Q I h
 refine wpAny_Call_method_late hbase hfew hline rfl (thn (ho pins s σ H _ I h) fun v s1⟨x,H1,I1,r1,ty,q1⟩=>?_)
 obtain⟨h1,h2⟩:=qV9 I1 r1 ty
 refine⟨T,id,pa,slot,hty,h1,h2,?_⟩
 have hA:=ha cpos pins s1 σ H1 _ I1 q1
 rw[hs]at hA⊢
 refine Calls.callWith_builtin (by show(false||(backTo cpos (starEach es X.env)).any (·.1))=false;rw[hplain]<;>rfl) (Calls.evalArgs_plain ?_)
 exact thn hA fun us s2⟨vs,H2,I2,r2,q2⟩=>hm pins s2 σ H2 x vs v us Q I2 r1 r2 q2
end
def MtM(X:Cx)(id:String)(r:V->List V->Hp->VK->Prop):Prop:=
 ∀(pins:List (Addr×Obj))(s:Shared)(σ:St)(H:Hp)(x:V)(xs:List V)(v:Value)(us:List Value)(Q:VK),Inv X pins σ H s->zG x v->Vals xs us->r x xs H Q->
  wpAny (model X.prog X.w) X.A (call (.builtin id) (v::us)) (EP X pins σ Q) X.xe s
theorem Vals.one:∀{x:V}{us:List Value},Vals [x] us->∃u,us=[u]/\zG x u
 |_,_,.cons r .nil=>⟨_,rfl,r⟩
theorem Vals.two:∀{x y:V}{us:List Value},Vals [x,y] us->∃u v,us=[u,v]/\zG x u/\zG y v
 |_,_,_,.cons r (.cons q .nil)=>⟨_,_,rfl,r,q⟩
theorem Vals.zero:∀{us:List Value},Vals [] us->us=[]
 |_,.nil=>rfl
theorem Vals.dropLast{xs:List V}{us:List Value}(h:Vals xs us):Vals xs.dropLast us.dropLast:=by
 induction h with
 |nil=>exact .nil
 |cons r t ih=>
  cases t with
  |nil=>exact .nil
  |cons q t'=>exact .cons r ih
theorem Vals.reverse{xs:List V}{us:List Value}(h:Vals xs us):Vals xs.reverse us.reverse:=by
 induction h with
 |nil=>exact .nil
 |cons r t ih=>rw[List.reverse_cons,List.reverse_cons];exact Vals.append ih (.cons r .nil)
theorem pP{α:Type}(l:List α):l.eraseIdx (l.length-1)=l.dropLast:=by
 induction l with
 |nil=>rfl
 |cons a r ih=>
  cases r with
  |nil=>rfl
  |cons b r=>
   have e:(a::b::r).length-1=((b::r).length-1)+1:=by
    have h1:(a::b::r).length=r.length+2:=rfl
    have h2:(b::r).length=r.length+1:=rfl
    omega
   rw[e,List.eraseIdx_cons_succ,ih]
   all_goals rfl
section
variable {X:Cx} {pins:List (Addr×Obj)} {σ:St} {H:Hp} {s:Shared} {l b:Addr} {xs ys zs:List V}
theorem Inv.lset{its its':List Value}{n:Nat}{f:Array Value->Array Value}{t':Nat}(I:Inv X pins σ H s)(hH:H l=some (.lst xs))
  (e:s.heap.get? l=some {cls:=.type "list",data:=.seq its.toArray n})(hf:f its.toArray=its'.toArray)(hv:Vals ys its')(hz:ys.length<=sizeLine):
  Inv X pins σ (upd H l (.lst ys)) {s with heap:=s.heap.update l (Obj.mapSeq f),toks:=t'}:=by
 have q:=PySem.IsL.update e f
 rw[hf]at q
 refine I.write (x:=l) (e:=l) (by rw[hH];exact trivial) (.inl rfl) (fun b' u hb hu=>(Heap.get?_update_other s.heap (Obj.mapSeq f) (Ne.symm hb)).trans hu) ⟨_,q⟩ ?_
 exact⟨hz,its',_,hv,q⟩
theorem Inv.lnew{its:List Value}{t':Nat}(I:Inv X pins σ H s)(hv:Vals ys its)(hz:ys.length<=sizeLine):
  Inv X pins σ (upd H s.heap.objs.size (.lst ys)) {s with heap:=s.heap.push {cls:=.type "list",data:=.seq its.toArray},toks:=t'}:=
 I.laid (fun _ _ q=>aq13 _ q) (aq7 _) ⟨hz,its,0,hv,aq14 _ rfl⟩
theorem Inv.fresh(I:Inv X pins σ H s):H s.heap.objs.size=none:=I.hok.fresh (aq7 _)
theorem Inv.lstM(I:Inv X pins σ H s)(hH:H l=some (.lst xs)):xs.length<=sizeLine/\∃(its:List Value)(n:Nat),Vals xs its/\xs.length=its.length/\s.heap.get? l=some {cls:=.type "list",data:=.seq its.toArray n}:=by
 obtain⟨z,its,n,r,e⟩:=I.hok l _ hH
 exact⟨z,its,n,r,r.length,e⟩
theorem dJ{n:Nat}(h:n<=sizeLine):Builtin.List.listTooLong n=false:=by
 unfold Builtin.List.listTooLong
 exact decide_eq_false (by omega)
end
section
variable {X:Cx}
inductive dW(x:V)(vs:List V)(H:Hp)(Q:VK):Prop
 |mk (l:_) (xs:_) (y:_) (a_0:x= .ref l) (a_1:vs=[y]) (a_2:H l=some (.lst xs)) (a_3:xs.length<sizeLine) (a_4:Q .non (upd H l (.lst (xs++[y])))):dW x vs H Q
def yZ:V->List V->Hp->VK->Prop:=fun x vs H Q=>dW x vs H Q
theorem zF:MtM X "list.append" yZ:=by
 intro pins s σ H x vs v us Q I rx rv h
 obtain⟨l,xs,y,rfl,rfl,hH,hz,q⟩:=h
 cases rx
 obtain⟨u,rfl,ru⟩:=rv.one
 obtain⟨z,its,n,r,hl,e⟩:=I.lstM hH
 refine call_meets F.slot_list_append ⟨_,e,rfl⟩ F.entry_list_append (F.args_list_append_2 _ _) (PySem.list_append l its.toArray n u (by rw[aq18];omega)) ⟨e,?_⟩
 refine⟨.non,_,I.lset (its':=its++[u]) hH e (by simp) (r.append (.cons ru .nil)) ?_,rfl,q⟩
 rw[List.length_append,List.length_singleton]
 omega
inductive dY(x:V)(vs:List V)(H:Hp)(Q:VK):Prop
 |mk (l:_) (b:_) (xs:_) (zs:_) (a_0:x= .ref l) (a_1:vs=[.ref b]) (a_2:H l=some (.lst xs)) (a_3:H b=some (.lst zs)) (a_4:xs.length+zs.length<=sizeLine) (a_5:Q .non (upd H l (.lst (xs++zs)))):dY x vs H Q
def tZ:V->List V->Hp->VK->Prop:=fun x vs H Q=>dY x vs H Q
theorem lB:MtM X "list.extend" tZ:=by
 intro pins s σ H x vs v us Q I rx rv h
 obtain⟨l,b,xs,zs,rfl,rfl,hH,hB,hz,q⟩:=h
 cases rx
 obtain⟨u,rfl,ru⟩:=rv.one
 cases ru
 obtain⟨z,its,n,r,hl,e⟩:=I.lstM hH
 obtain⟨z2,its2,n2,r2,hl2,e2⟩:=I.lstM hB
 have hsz:its.toArray.size+its2.toArray.size<=sizeLine:=by rw[aq18,aq18];omega
 have hlong:¬(!its.toArray.isEmpty&&Builtin.List.listTooLong (its.toArray.size+its2.toArray.size))=true:=by
  rw[dJ hsz,Bool.and_false]
  exact Bool.false_ne_true
 refine call_meets F.slot_list_extend ⟨_,e,rfl⟩ F.entry_list_extend (F.args_list_extend_2 _ _)
  (AutoSeq1.list_extend_list_list_0 l its.toArray n b its2.toArray n2 hlong (by rw[aq18];omega) (by omega)) ⟨e,e2,?_⟩
 refine⟨.non,_,I.lset (its':=its++its2) hH e (by simp) (r.append r2) ?_,rfl,q⟩
 rw[List.length_append]
 omega
inductive zQ4(x:V)(vs:List V)(H:Hp)(Q:VK):Prop
 |mk (l:_) (xs:_) (y:_) (a_0:x= .ref l) (a_1:vs=[]) (a_2:H l=some (.lst xs)) (a_3:xs[xs.length-1]? =some y) (a_4:Q y (upd H l (.lst xs.dropLast))):zQ4 x vs H Q
def qVz:V->List V->Hp->VK->Prop:=fun x vs H Q=>zQ4 x vs H Q
theorem xW:MtM X "list.pop" qVz:=by
 intro pins s σ H x vs v us Q I rx rv h
 obtain⟨l,xs,y,rfl,rfl,hH,hy,q⟩:=h
 cases rx
 have hus:=rv.zero
 subst hus
 obtain⟨z,its,n,r,hl,e⟩:=I.lstM hH
 obtain⟨u,hu,ru⟩:=r.get hy
 have hy':its.toArray[its.toArray.size-1]? =some u:=by
  show its.toArray[its.length-1]? =some u
  rw[<-Array.getElem?_toList,<-hl]
  exact hu
 refine call_meets F.slot_list_pop ⟨_,e,rfl⟩ F.entry_list_pop (F.args_list_pop_1 _) (MeetsSeq.list_pop_last l its.toArray n u hy' (by rw[aq18];omega)) ⟨e,?_⟩
 refine⟨y,_,I.lset (its':=its.dropLast) hH e ?_ r.dropLast ?_,ru,q⟩
 ·show its.toArray.eraseIdxIfInBounds (its.toArray.size-1)=its.dropLast.toArray
  rw[aq18,List.eraseIdxIfInBounds_toArray,pP]
 ·rw[List.length_dropLast]
  omega
inductive zQ5(x:V)(y:V)(H:Hp)(Q:VK):Prop
 |mk (l:_) (b:_) (xs:_) (zs:_) (a_0:x= .ref l) (a_1:y= .ref b) (a_2:H l=some (.lst xs)) (a_3:H b=some (.lst zs)) (a_4:xs.length+zs.length<=sizeLine) (a_5:∀p,H p=none->Q (.ref p) (upd H p (.lst (xs++zs)))):zQ5 x y H Q
def qZ1:R2:=fun x y H Q=>zQ5 x y H Q
theorem vJ:yP X (binaryOp .Add) qZ1:=by
 intro pins s σ H x y v u Q I rx ry h
 obtain⟨l,b,xs,zs,rfl,rfl,hH,hB,hz,q⟩:=h
 cases rx
 cases ry
 obtain⟨z,its,n,r,hl,e⟩:=I.lstM hH
 obtain⟨z2,its2,n2,r2,hl2,e2⟩:=I.lstM hB
 refine PySem.P.add_list e e2 ?_ (by rw[aq18,aq18];omega)
 have ea:its.toArray++its2.toArray=(its++its2).toArray:=by simp
 rw[ea]
 exact⟨.ref _,_,I.lnew (t':=s.toks) (r.append r2) (by rw[List.length_append];omega),rfl,q _ I.fresh⟩
end
section
variable {prog:Program} {w:World} {A:Around} {E:Value->Shared->Prop} {s:Shared}
set_option maxRecDepth 100000 in
end
section
variable {X:Cx}
end
end L2
namespace Att
open PySem PySem.W PySem.Calls PyProof.Rows
theorem oA{P:Params}{h:Heap}:∀(ns:List Int)(vs:List Value),WellAll P h vs (ns.map WData.int)->IntsAre vs ns:=by
 intro ns
 induction ns with
 |nil=>
  intro vs w
  rw[List.map_nil]at w
  cases w
  exact .nil
 |cons n ns ih=>
  intro vs w
  rw[List.map_cons]at w
  cases w with
  |cons a b=>
   cases a
   exact .cons _ _ (ih _ b)
theorem qZ2{l:OpenLaw}{n:Nat}(hn:l.most=some n){P:Params}{h:Heap}{args:List WData}{vals:List Value}
  (hpre:l.row.toRowW.claim.pre args=true)(hwl:WellAll P h vals args):
  ∃a vs ns,vals=[Value.ref a]/\args=[WData.list (ns.map WData.int)]/\h.get? a=some {cls:=.type "list",data:=.seq vs.toArray}/\IntsAre vs ns/\ns.length<=n:=by
 have hsh:WShape.hasAll [] args [.list .int]=true:=(pre_splitW hpre).1
 have hc:l.pre.holds [] {args:=args}=true:=(pre_splitW hpre).2
 obtain⟨d,r,rfl,h1,h2⟩:=hasAllW_cons hsh
 obtain rfl:=hasAllW_nil h2
 obtain⟨xs,rfl,h3⟩:=hasW_list h1
 obtain⟨ns,rfl⟩:=items_int h3
 have hlen:ns.length<=n:=by
  unfold OpenLaw.pre at hc
  have h4:(WTm.not (.lt (.lit (.int (n:Int))) (.len (.arg 0)))).holds [] {args:=[.list (ns.map .int)]}=true:=by
   have h4:=(holds_andW hc).1
   rw[hn]at h4
   exact h4
  have h5:=condW_of h4 (w_not (w_lt w_lit (w_len_list (w_arg rfl))))
  rw[aq16]at h5
  refine Nat.le_of_not_lt fun q=>?_
  have q':(n:Int)<((ns.length:Nat):Int):=by omega
  first
   |(rw[decide_eq_true q']at h5;exact absurd h5 (by decide))
   |(simp at h5;omega)
 cases hwl with
 |cons w1 w2=>
  cases w2
  cases w1 with
  |list ho hall=>exact⟨_,_,ns,rfl,rfl,ho,oA ns _ hall,hlen⟩
theorem qZ3(l:OpenLaw)(args:List WData):l.row.toRowW.claim.post args (.bool true) args=true:=
 postW_of (r:=l.row.toRowW) (X:=(true==true))
  (show WShape.has [] (.bool true) .bool=true by first|rfl|decide|simp[WShape.has,WShape.arms,WShape.armsAll])
  (show(WTm.eq .res (.lit (.bool true))).value [] {args:=args,res:=some (.bool true),after:=args}=some (.bool (true==true))from w_eq_bool (w_res rfl) w_lit) rfl
theorem attach_call{l:OpenLaw}{n:Nat}{q:Program}{loose:List Str}{XP:(Str->Option Value)->Heap->Prop}{YP:World->Heap->Prop}{d:DefRec}
  (hn:l.most=some n)(hdf:d.params.defaults=[])
  (call:∀(w:World)(s₀ s₁:Shared)(mg mb:Str->Option Value)(fa:Addr)(o:Obj)(pm cd doc:Value)(a:Addr)(vs:List Value)(ns:List Int),
   Ground q loose [] XP w s₀ mg mb s₁.heap->YP w s₁.heap->
   s₁.heap.get? fa=some o->o.data= .func (docDef d.name d.params d.body d.scope pm cd doc)->s₁.heap.CodeRec cd d.name->mg d.name=some (.ref fa)->
   s₁.heap.get? a=some {cls:=.type "list",data:=.seq vs.toArray}->IntsAre vs ns->ns.length<=n->s₁.gens= #[]->
   codeAny (model l.prog w) callerA (.call (.ref fa) ⟨[.ref a],[]⟩) (fun r s'=>r= .ok (.ret (.bool true))/\OldK s₁.heap s'.heap/\s'.os=s₁.os/\AllBare s'.gens) s₁):
  WalkO q loose XP YP l.row.toRowW d [] (fun f vs=>PySem.call f vs):=by
 intro w s₀ s₁ mg mb G Y fa o pm cd doc dV kV ho hd hcd hD hmg hg args vals as hpre hlay hrd hwl hlo
 obtain rfl:dV= .none:=Dflts.none hD hdf
 obtain rfl:kV= .none:=Dflts.noKw hD
 obtain⟨a,vs,ns,rfl,rfl,hobj,hints,hlen⟩:=qZ2 hn hpre hwl
 refine enter_call (codeAny_mono (call w s₀ s₁ mg mb fa o pm cd doc a vs ns G Y ho (fd_plain hd) hcd hmg hobj hints hlen hg) fun r s' hq=>?_)
 obtain⟨rfl,h2,h3,h4⟩:=hq
 exact⟨.inl ⟨.bool true,.bool true,[],rfl,fun _=>rfl,.bool true,qZ3 l _,fun _=>⟨List.Pairwise.nil,fun _ hm=>(nomatch hm)⟩⟩,h2,h3,h4⟩
section
variable {prog:Program} {w:World} {A:Around} {E:Value->Shared->Prop} {s:Shared} {K:Frag}
end
end Att
namespace L2
open PySem PySem.Spec PyProof.Rows
theorem lF:∀{vs:List Value}{ns:List Int},IntsAre vs ns->Vals (ns.map V.int) vs
 |_,_,.nil=>.nil
 |_,_,.cons n t h=>.cons ⟨t,rfl⟩ (lF h)
def Only(H:Hp):Prop:=∀b,H b=none\/∃o xs,H b=some (.frz o (.lst xs))
theorem qVj{P:Program}{w:World}{K:Fg}{mg mb:Str->Option Value}{CX:CXT}{k:Nat}{fa a:Addr}{fd:FuncData}{x:Str}{sp:Sp}{s₁:Shared}{vs:List Value}{ns:List Int}
  (KX:K.In s₁.heap)(hns:s₁.heap.Ns mainGlobals mg)(hb:s₁.heap.Ns builtinsNs mb)(hbb:∀x:Str,x≠"__name__"->mb x=bootBuiltins x)(hlim:s₁.heap.NoLimit)(hg:s₁.gens= #[])
  (ha:s₁.heap.get? a=some {cls:=.type "list",data:=.seq vs.toArray})(hi:IntsAre vs ns)(hl:ns.length<=sizeLine)(hr:Room k callerA)
  (F:∀base:Heap,K.In base->base.Ns mainGlobals mg->zQ P w K mg base CX k fa fd [x] sp)(hbind:∀(s:Shared)(u:Value),BindsTo s fd ⟨[u],[]⟩ [(x,u)])
  (hsp:∀H:Hp,Only H->zS K H a (ns.map V.int)->sp [.ref a] H (fun v _=>v= .bl true) fun _ _ _=>False)
  (hCX:∀H e s',CX [] H s₁ (fun _ _ _=>False) e s'->False):
  codeAny (model P w) callerA (.call (.ref fa) ⟨[.ref a],[]⟩) (fun r s'=>r= .ok (.ret (.bool true))/\OldK s₁.heap s'.heap/\s'.os=s₁.os/\AllBare s'.gens) s₁:=by
 have rv:=lF hi
 have lenV:=hi.length
 have core:∀H:Hp,Only H->zS K H a (ns.map V.int)->HOk P w H s₁.heap->(∀b,H b≠none->b=a)->(H a≠none->K.lookup a=none)->
   codeAny (model P w) callerA (.call (.ref fa) ⟨[.ref a],[]⟩) (fun r s'=>r= .ok (.ret (.bool true))/\OldK s₁.heap s'.heap/\s'.os=s₁.os/\AllBare s'.gens) s₁:=by
  intro H hO hS hok hA hK
  have base_of:∀{b:Addr}{o:Obj},s₁.heap.get? b=some o->H b=none->(gT s₁.heap H).get? b=some o:=fun e n=>qK0 e n
  have noA:∀{b:Addr}{o:Obj}{es:Array DictEntry}{ep:Nat},s₁.heap.get? b=some o->o.data= .dict es ep->H b=none:=fun {b o es ep}e d=>by
   cases q:H b with
   |none=>rfl
   |some u=>
    have e':b=a:=hA b (by rw[q];simp)
    subst e'
    rw[ha]at e;cases e
    have d':Data.seq vs.toArray _=Data.dict es ep:=d
    cases d'
  have nsK:∀{b:Addr}{m:Str->Option Value},s₁.heap.Ns b m->(gT s₁.heap H).Ns b m:=fun {b m}⟨o,es,ep,e,d,r⟩=>⟨o,es,ep,base_of e (noA e d),d,r⟩
  have hKb:K.In (gT s₁.heap H):=fun b o e=>base_of (KX b o e) (by
   cases q:H b with
   |none=>rfl
   |some u=>
    have e':b=a:=hA b (by rw[q];simp)
    subst e'
    rw[hK (by rw[q];simp)]at e;cases e)
  have hM:Mod K mg (gT s₁.heap H):=⟨hKb,nsK hns,⟨mb,nsK hb,hbb⟩,let⟨mc,h1,h2⟩:=hlim;⟨mc,nsK h1,h2⟩⟩
  have e0:Env0 P w K mg (gT s₁.heap H) callerA [] s₁ H:=⟨rfl,hM,fun b o e=>qD8 e,Nat.le_of_eq (qQ6 _ _),trivial,fun b hb=>absurd (show b∈([]:List Addr)from hb) (by simp),hok,.of_eq hg⟩
  refine codeAny_mono ((F _ hKb (nsK hns)).run callerA [] s₁ H ⟨[.ref a],[]⟩ [.ref a] [.ref a] _ _ hr e0 (hbind s₁ (.ref a)) (.cons rfl .nil) (hsp H hO hS)) fun r s' h=>?_
  cases r with
  |error e=>exact(hCX H e s' h).elim
  |ok fl=>
   cases fl with
   |next=>exact False.elim h
   |brk=>exact False.elim h
   |cont=>exact False.elim h
   |ret u=>
    obtain⟨v,H',os,bare,un,hok',r',q⟩:=h
    have q':v= .bl true:=q
    subst q'
    obtain rfl:u=Value.bool true:=r'
    refine⟨rfl,OldK.of_keep fun b o e=>?_,os,bare⟩
    cases q:H b with
    |none=>exact un.keep b o e q (by intro z;exact absurd (show b∈([]:List Addr)from z) (by simp)) (by simp)
    |some u=>
     rcases hO b with z|⟨ob,xs,z⟩
     ·rw[q]at z;cases z
     ·have z2:=un.frzs b ob _ z
      obtain⟨e1,_⟩:=hok b _ z
      obtain⟨e2,_⟩:=hok' b _ z2
      rw[e]at e1;cases e1
      exact e2
 cases hk:K.lookup a with
 |some o=>
  have e:=KX a o hk
  rw[ha]at e
  cases e
  refine core (fun _=>none) (fun _=>.inl rfl) (.inr ⟨_,vs.toArray,_,hk,rfl,rfl,rfl,by rw[aq18,lenV];exact hl,by simpa using rv⟩) (fun b u z=>by have z':(none:Option HO)=some u:=z;cases z') (fun b z=>absurd rfl z) fun z=>absurd rfl z
 |none=>
  refine core (fun b=>if b=a then some (.frz {cls:=.type "list",data:=.seq vs.toArray} (.lst (ns.map V.int)))else none) (fun b=>?_) (.inl (.inr ⟨{cls:=.type "list",data:=.seq vs.toArray},if_pos rfl⟩)) (fun b u z=>?_) (fun b z=>?_) fun _=>hk
  ·by_cases hb:b=a
   ·exact .inr ⟨_,_,if_pos hb⟩
   ·exact .inl (if_neg hb)
  ·by_cases hb:b=a
   ·have z':=(if_pos hb).symm.trans z
    cases z'
    subst hb
    exact⟨ha,by rw[aq16];exact hl,vs,_,rv,ha⟩
   ·have z':=(if_neg hb).symm.trans z
    cases z'
  ·by_cases hb:b=a
   ·exact hb
   ·exact absurd (if_neg hb) z
theorem qF7{l:PySem.W.OpenLaw}{n k:Nat}{q:Program}{loose:List Str}{XP:(Str->Option Value)->Heap->Prop}{YP:World->Heap->Prop}{d:DefRec}{K:Params->Fg}{CX:World->CXT}{sp:World->Sp}{x:Str}
  (hn:l.most=some n)(hn2:n<=sizeLine)(hdf:d.params.defaults=[])(hr:Room k callerA)
  (hY:∀(w:World)(h:Heap),YP w h->(K w.params).In h)
  (F:∀(w:World)(mg:Str->Option Value)(fa:Addr)(h:Heap),(K w.params).In h->h.Ns mainGlobals mg->mg d.name=some (.ref fa)->
   ∃fd:FuncData,(∀(s:Shared)(u:Value),BindsTo s fd ⟨[u],[]⟩ [(x,u)])/\
    ∀base:Heap,(K w.params).In base->base.Ns mainGlobals mg->zQ l.prog w (K w.params) mg base (CX w) k fa fd [x] (sp w))
  (hsp:∀(w:World)(H:Hp)(a:Addr)(ns:List Int),ns.length<=n->Only H->zS (K w.params) H a (ns.map V.int)->sp w [.ref a] H (fun v _=>v= .bl true) fun _ _ _=>False)
  (hCX:∀(w:World)(H:Hp)(s:Shared)(e:Value)(s':Shared),CX w [] H s (fun _ _ _=>False) e s'->False):
  PySem.W.WalkO q loose XP YP l.row.toRowW d [] (fun f vs=>PySem.call f vs):=by
 refine Att.attach_call hn hdf fun w s₀ s₁ mg mb fa o pm cd doc a vs ns G Y ho hd hcd hmg hobj hints hlen hg=>?_
 have KX:=hY w _ Y
 obtain⟨fd,hb,hF⟩:=F w mg fa _ KX G.T.g hmg
 exact qVj KX G.T.g G.T.b G.T.builtins G.T.nolimit hg hobj hints (Nat.le_trans hlen hn2) hr hF hb (fun H hO hS=>hsp w H a ns hlen hO hS) fun H e s'=>hCX w H s₁ e s'
def kZ(s:Stmt)(j:Nat):Stmt:=match s with
 | .ClassDef _ _ _ body _ _ _ _ _ _ _=>body.getD j (.Pass ⟨0,0,0,0⟩)
 |_=>.Pass ⟨0,0,0,0⟩
def mI(s:Stmt):Arguments:=match s with
 | .FunctionDef _ a _ _ _ _ _ _ _ _=>a
 |_=>{posonlyargs:=[],args:=[],vararg:=none,kwonlyargs:=[],kw_defaults:=[],kwarg:=none,defaults:=[]}
def kE(s:Stmt):List Stmt:=match s with
 | .FunctionDef _ _ b _ _ _ _ _ _ _=>b
 |_=>[]
def qU(s:Stmt):Scope:=match s with
 | .FunctionDef _ _ _ _ _ _ sc _ _ _=>sc
 |_=>{kind:=.function,names:=[],isGenerator:=false,isCoroutine:=false}
abbrev E0:XK:=fun _ _ _=>False
section
variable {P:Program} {w:World} {K:Fg} {mg:Str->Option Value} {base:Heap}
end
section
variable {X:Cx}
theorem pv(i:Nat){x:Str}{pos:Pos}(hN:X.N[i]? =some x:=by rfl)(hv:Vis X.env.scope x:=by first|exact Or.inl rfl|exact Or.inr oI|exact Or.inr (Or.inr rfl))(hd:(x==("__debug__":Str))=false:=by decide)
  (hcd:(x==("__classdict__":Str))=false:=by decide):PE X (.Name x pos) (jV i):=zV2 hN hv hd hcd
end
theorem jJ{A B:Prop}(h:B):if false=true then A else B:=by
 rw[if_neg Bool.false_ne_true]
 exact h
theorem jC{A B:Prop}(h:A):if true=true then A else B:=by
 rw[if_pos rfl]
 exact h
theorem ite2{c A B:Prop}[Decidable c](h1:c->A)(h2:¬c->B):if c then A else B:=by
 by_cases h:c
 ·rw[if_pos h]
  exact h1 h
 ·rw[if_neg h]
  exact h2 h
def Same(H H':Hp):Prop:=∀b o,H b=some o->H' b=some o
theorem Same.refl(H:Hp):Same H H:=fun _ _ h=>h
theorem Same.trans{H H1 H2:Hp}(a:Same H H1)(b:Same H1 H2):Same H H2:=fun c o h=>b c o (a c o h)
theorem Same.seq{K:Fg}{H H':Hp}{a:Addr}{xs:List V}(e:Same H H')(h:zS K H a xs):zS K H' a xs:=by
 rcases h with(h|⟨o,h⟩)|h
 ·exact .inl (.inl (e _ _ h))
 ·exact .inl (.inr ⟨o,e _ _ h⟩)
 ·exact .inr h
end L2
namespace XA
open PySem
def Lk{α:Type}(M:Model)(h:Heap)(t:Sem α)(r:α):Prop:=
 ∀(A:Around)(Q:α->Shared->Prop)(E:Value->Shared->Prop)(s:Shared),(∀b o,h.get? b=some o->s.heap.get? b=some o)->Q r s->wpAny M A t Q E s
theorem Lk.at{α:Type}{M:Model}{A:Around}{t:Sem α}{r:α}{Q:α->Shared->Prop}{E:Value->Shared->Prop}{h:Heap}{g d tk os}(x:Lk M h t r)(q:Q r ⟨h,g,d,tk,os⟩):wpAny M A t Q E ⟨h,g,d,tk,os⟩:=x A Q E _ (fun _ _ e=>e) q
theorem Lk.keeps{α:Type}{M:Model}{h h':Heap}{t:Sem α}{r:α}(x:Lk M h t r)(k:∀b o,h.get? b=some o->h'.get? b=some o):Lk M h' t r:=
 fun A Q E s k' q=>x A Q E s (fun b o e=>k' _ _ (k _ _ e)) q
structure Above(B:String)(bm:List Value):Prop where
 hasB:bm.contains (.type B)=true
 base:bm.contains (.type "BaseException")=true
 noA:bm.contains (.type "AttributeError")=false
 noN:bm.contains (.type "NameError")=false
section
variable {prog:Program} {w:World} {A:Around} {E:Value->Shared->Prop} {h:Heap} {g:Array GenState} {d:Drawn} {t:Nat} {os:OsState}
variable {nm q:Str} {C N:Addr} {bs bm bmB:List Value} {hdct:Bool} {sn:List Str} {sub:List Value} {ab:Bool} {col:Option Bool} {dd:Option Addr} {k0 k1 k2 k3 k5:Option Value} {B newId initId:String}
theorem qF8(F:ExcBaseFacts B newId initId bmB)(T:Above B bm){M:Model}{rest:List Value}{Q:Unit->Shared->Prop}(hC:h.get? C=some (excClassObj nm q C N bs bm hdct sn sub ab col dd k0 k1 k2 k3 k5 newId))
  (hq:Q () ⟨h,g,d,t,os⟩):wpAny M A (checkBuiltinCall newId ⟨.ref C::rest,[]⟩) Q E ⟨h,g,d,t,os⟩:=by
 have c1:(Value.ref C::bm).contains (.type B)=true:=by rw[List.contains_cons,T.hasB,Bool.or_true]
 have c2:=F.noStar
 simp only[checkBuiltinCall,F.newKind,F.newSplit,F.newRow]
 repeat (first|refine wpAny_loadPart_at hC ?_|(refine wpAny_isSubtype_exc hC ?_;rw[c1])|refine wpAny_staticBase_exc hC ?_|refine wpAny_madeBy_exc hC ?_|simp only[bne_self_eq_false,Bool.false_eq_true,if_false]|wp_step)
 exact hq
theorem qF9(F:ExcBaseFacts B newId initId bmB)(T:Above B bm){R:Result->Shared->Prop}{rest:List Value}(hC:h.get? C=some (excClassObj nm q C N bs bm hdct sn sub ab col dd k0 k1 k2 k3 k5 newId))
  (hq:R (.ok (.ret (.ref (h.objs.size+1)))) ⟨(h.push {cls:=.type "tuple",data:=.seq rest.toArray}).push
   {cls:=.ref C,data:=.fields #[.ref h.objs.size,.none,.none,.none,.bool false,.none]},g,d,t,os⟩)(hrest:rest.length<=sizeLine):
  codeAny (model prog w) A (.builtin newId ⟨.ref C::rest,[]⟩) R ⟨h,g,d,t,os⟩:=by
 have he:=F.ends
 have c1:(Value.ref C::bm).contains (.type B)=true:=by rw[List.contains_cons,T.hasB,Bool.or_true]
 have c2:(Value.ref C::bm).contains (.type "AttributeError")=false:=by rw[List.contains_cons,T.noA];rfl
 have c3:(Value.ref C::bm).contains (.type "NameError")=false:=by rw[List.contains_cons,T.noN];rfl
 refine codeAny_builtinAt F.entry ?_
 unfold Builtin.«BaseException.__new__»
 refine wpAt_bind ?_
 show wpAt _ _ _ (stack>>=_) _ _ _
 refine wpAt_bind (wpAt_stack fun p below=>wpAt_of_wpAny ?_)
 wp_walk
 refine wpAt_of_wpAny ?_
 rw[F.owner]
 repeat (first|with_reducible refine wpAny_madeHere_exc F.canon hC ?_|with_reducible refine wpAny_loadPart_at hC ?_|(with_reducible refine wpAny_isSubtype_exc hC ?_;first|rw[c1]|rw[c2]|rw[c3])|wp_step)
 show R _ _
 rw[Heap.size_push]
 exact hq
theorem tcall_bare(F:ExcBaseFacts B newId initId bmB)(T:Above B bm){rest:List Value}{Q:Fin->Shared->Prop}
  (hC:h.get? C=some (excClassObj nm q C N bs bm hdct sn sub ab col dd k0 k1 k2 k3 k5 newId))(hi:Lk (model prog w) h (typeLookup (.ref C) "__init__") (some (.builtin initId)))
  (hq:∀h',(∀b o,h.get? b=some o->h'.get? b=some o)->h'.get? (h.objs.size+1)=some {cls:=.ref C,data:=.fields #[.ref (h.objs.size+2),.none,.none,.none,.bool false,.none]}->
   h'.get? (h.objs.size+2)=some {cls:=.type "tuple",data:=.seq rest.toArray}->Q (.done (.ret (.ref (h.objs.size+1)))) ⟨h',g,d,t,os⟩)
  (hrest:rest.length<=sizeLine):
  wpAny (model prog w) A (Builtin.«type.__call__» ⟨.ref C::rest,[]⟩) Q E ⟨h,g,d,t,os⟩:=by
 repeat (first|with_reducible refine wpAny_loadPart_at hC ?_|with_reducible refine wpAny_madeBy_exc hC ?_|wp_step)
 refine codeAny_call_builtin_code (Code.quiet_builtin _ F.quiet) (qF8 F T hC ?_)
 refine qF9 F T hC ?_ hrest
 show wpAny _ _ _ _ _ _
 have up:∀b o,h.get? b=some o->((h.push {cls:=.type "tuple",data:=.seq rest.toArray}).push {cls:=.ref C,data:=.fields #[.ref h.objs.size,.none,.none,.none,.bool false,.none]}).get? b=some o:=
  fun b o e=>aq13 _ (aq13 _ e)
 have hC1:=up _ _ hC
 have hi1:=hi.keeps up
 have hg:((h.push {cls:=.type "tuple",data:=.seq rest.toArray}).push
   {cls:=.ref C,data:=.fields #[.ref h.objs.size,.none,.none,.none,.bool false,.none]}).get? (h.objs.size+1)=some
   {cls:=.ref C,data:=.fields #[.ref h.objs.size,.none,.none,.none,.bool false,.none]}:=by heap_get
 have hcC:(Value.ref C::bm).contains (.ref C)=true:=by simp
 have c1:(Value.ref C::bm).contains (.type B)=true:=by rw[List.contains_cons,T.hasB,Bool.or_true]
 unfold isInstance
 repeat (first|with_reducible refine wpAny_loadPart_at hg ?_|(with_reducible refine wpAny_isSubtype_exc hC1 ?_;rw[hcC])|wp_step)
 show wpAny _ _ (typeLookup (.ref C) _) _ _ _
 refine Lk.at hi1 ?_
 refine wpAny_holding (wpAny_bind (wpAny_of_eq (F.init.bind _) ?_))
 refine wpAny_bind (wpAny_call (codeAny_call_builtin F.init.plain F.initEntry ?_))
 have c3:=F.noStar
 simp only[checkBuiltinCall,F.initKind,F.initSplit,F.initRow]
 repeat (first|with_reducible refine wpAny_loadPart_at hg ?_|with_reducible refine wpAny_loadPart_at hC1 ?_|(with_reducible refine wpAny_isSubtype_exc hC1 ?_;rw[c1])|wp_step)
 refine wpAny_onRaise ?_
 rw[show∀(a b:String)(n:Nat),Bind.check ⟨.positional,"*",B,.self,[⟨"args",.varPos,false⟩]⟩ a b n (List.map (fun x=>x.fst) ({pos:=Value.ref (h.objs.size+1)::rest}:Args).kw)=pure ()from
  fun a b n=>check_star_args _ _ _ _ _ _]
 refine wpAny_pure ?_
 wp_walk
 refine hq _ (fun b o hb=>?_) ?_ ?_
 ·rw[Heap.get?_update_other _ _ (Nat.ne_of_gt (Nat.lt_succ_of_lt (aq8 hb)))]
  exact aq13 _ (up b o hb)
 ·rw[Heap.get?_update_self _ (aq13 _ hg) rfl]
  simp only[Heap.size_push]
  rfl
 ·rw[Heap.get?_update_other _ _ (show h.objs.size+1≠h.objs.size+2 by omega)]
  exact Heap.get?_push_at (by simp only[Heap.size_push]) rfl
theorem call_cls{rest:List Value}{R:Result->Shared->Prop}
  (hC:h.get? C=some (excClassObj nm q C N bs bm hdct sn sub ab col dd k0 k1 k2 k3 k5 newId))
  (hq:wpAny (model prog w) (A.under (.builtin "type.__call__" ⟨.ref C::rest,[]⟩)) (Builtin.«type.__call__» ⟨.ref C::rest,[]⟩)
   (fun fin s'=>match fin with | .done f=>R (.ok f) s'| .again c'=>c'.quiet=true/\codeAny (model prog w) A c' R s') (fun e s'=>R (.error e) s') ⟨h,g,d,t,os⟩):
  codeAny (model prog w) A (.call (.ref C) ⟨rest,[]⟩) R ⟨h,g,d,t,os⟩:=by
 have f1:=tc_lookup
 have f2:=tc_bind (.ref C)
 have hT:(⟨h,g,d,t,os⟩:Shared).TypeIs (.ref C) "type":=⟨_,hC,rfl⟩
 refine codeAny_of_tree ?_
 show wpAny _ _ (callAny (.ref C) _) _ _ _
 repeat (any_goals (first|assumption|with_reducible refine wpAny_loadPart_at hC ?_|wp_step))
 refine⟨rfl,?_⟩
 refine codeAny_call_builtin_at (Code.quiet_builtin _ (by decide+kernel)) entry_typeCall (wpAny_check_type_call_sub hC hq)
end
structure Fly(h:Heap)(e:Addr)(c:Value)(d:Option Addr)(a0:Value)(ot:Option Addr)(fl:Value):Prop where
 obj:∃vs sl,h.get? e=some {cls:=c,dict:=d,data:=.fields vs,slots:=sl}/\vs.size=6/\vs[0]? =some a0/\vs[1]? =some (ot.elim Value.none Value.ref)
 tb:∀T,ot=some T->T≠e/\∃oT ts,h.get? T=some oT/\oT.data= .fields ts/\ts[3]? =some fl
structure zQ6(fs:List Addr)(e:Addr)(ot:Option Addr)(h h':Heap):Prop where
 keep:∀b o,b≠e->some b≠ot->b∉fs->h.get? b=some o->h'.get? b=some o
 slot:∀b o,b≠e->some b≠ot->h.get? b=some o->∃sl,h'.get? b=some {o with slots:=sl}
 there:∀b o,h.get? b=some o->∃o',h'.get? b=some o'
theorem oZ{h:Heap}{a:Addr}{o:Obj}{vs ws:Array Value}{i:Nat}{x:Value}(ha:h.get? a=some o)(hd:o.data= .fields vs):
  ∀b ob,h.get? b=some ob->∃o',(h.update a (Obj.mapFields (·.setIfInBounds i x))).get? b=some o':=fun b ob hb=>by
 by_cases e:b=a
 ·subst e
  exact⟨_,Heap.get?_update_self _ ha (Obj.isFreed_of_fields (Obj.data_mapFields hd _))⟩
 ·exact⟨ob,by rw[Heap.get?_update_other _ _ (Ne.symm e)];exact hb⟩
section
variable {M:Model} {A:Around} {E:Value->Shared->Prop} {s:Shared} {e:Addr} {c a0 fl:Value} {d ot:Option Addr} {T:Addr}
theorem dU{Q:Unit->Shared->Prop}(x:Fly s.heap e c d a0 none fl)(h:Q () s):wpAny M A (setFlight (.ref e) none) Q E s:=by
 obtain⟨⟨vs,sl,he,hz,h0,h1⟩,_⟩:=x
 unfold setFlight
 refine wpAny_bind (wpAny_field he rfl h1 ?_)
 rw[if_neg (by decide)]
 exact wpAny_pure h
theorem flight_some{Q:Unit->Shared->Prop}(x:Fly s.heap e c d a0 (some T) fl)
  (h:∀h',Fly h' e c d a0 (some T) .none->(∀b o,b≠T->s.heap.get? b=some o->h'.get? b=some o)->(∀b o,s.heap.get? b=some o->∃o',h'.get? b=some o')->Q () {s with heap:=h'}):
  wpAny M A (setFlight (.ref e) none) Q E s:=by
 obtain⟨⟨vs,sl,he,hz,h0,h1⟩,tb⟩:=x
 obtain⟨hTe,oT,ts,hT,hdT,h3⟩:=tb T rfl
 have hsz3:3<ts.size:=(Array.getElem?_eq_some_iff.mp h3).1
 unfold setFlight
 refine wpAny_bind (wpAny_field he rfl h1 ?_)
 rw[if_pos (show((some T).elim Value.none Value.ref !=Value.none)=true from by simp)]
 have ot':∀b,b≠T->(s.heap.update T (Obj.mapFields (·.setIfInBounds 3 ((none:Option Addr).elim Value.none fun f=>rawInt f)))).get? b=s.heap.get? b:=
  fun b hb=>Heap.get?_update_other _ _ (Ne.symm hb)
 refine wpAny_setField hT hdT hsz3 (h _ ⟨⟨vs,sl,(ot' e (Ne.symm hTe)).trans he,hz,h0,h1⟩,fun T' e'=>?_⟩ (fun b o hb q=>(ot' b hb).trans q) (oZ (ws:=ts) hT hdT))
 cases e'
 exact⟨hTe,_,_,Heap.get?_update_self _ hT (Obj.isFreed_of_fields (Obj.data_mapFields hdT _)),Obj.data_mapFields hdT _,by simp[hsz3]⟩
theorem lH{base:Heap}{env:Env}{outer:List Env}{L:Addr}{head:Value}{hadNext:Bool}{Q:Unit->Shared->Prop}
  (hfr:A.frames=some (env::outer))(hl:s.heap.FunFrames base (env::outer))(hf:env.frame=some L)(x:Fly s.heap e c d a0 ot fl)
  (h:∀h' T',s.heap.objs.size<=T'->Fly h' e c d a0 (some T') (rawInt L)->(∀b o,b≠e->b∉(env::outer).filterMap (·.frame)->s.heap.get? b=some o->h'.get? b=some o)->
   (∀b o,b≠e->s.heap.get? b=some o->∃sl,h'.get? b=some {o with slots:=sl})->(∀b o,s.heap.get? b=some o->∃o',h'.get? b=some o')->Q () {s with heap:=h'}):
  wpAny M A (do let a<-frameOf env;let pl<-entryPlaceOf L hadNext;let b<-EntryCells.newEntry head a .none (rawInt L) .none pl;setField (.ref e) 1 b) Q E s:=by
 obtain⟨⟨vs,sl,he,hz,h0,h1⟩,tb⟩:=x
 have hene:e∉(env::outer).filterMap (·.frame):=fun hm=>by
  obtain⟨_,o,ho,hnf⟩:=hl.mem hm
  rw[he]at ho;injection ho with ho;subst ho;exact hnf vs rfl
 refine wpAny_bind (wpAny_frameOf_fun hfr hl hf fun h₁ hs₁=>?_)
 refine wpAny_bind (wpAny_entryPlaceOf fun pl hpl=>?_)
 unfold EntryCells.newEntry newFields
 refine wpAny_bind (wpAny_newObj_type ?_ (hpl.sizeOk5 _ _ _ _ _))
 have he₁:=(hs₁.2.1 e hene).trans he
 have he₂:=aq13 (h:=h₁) {cls:=.type "traceback",dict:=none,data:=.fields ([head,.ref L,.none,rawInt L,.none]++(if pl.isEmpty then List.replicate 6 Value.none else pl)).toArray} he₁
 have hsz:1<vs.size:=by omega
 refine wpAny_setField he₂ rfl hsz (h _ h₁.objs.size ?_ ⟨?_,fun T' e'=>?_⟩ ?_ ?_ ?_)
 ·exact Nat.le_of_eq hs₁.1.symm
 ·refine⟨vs.setIfInBounds 1 (Value.ref h₁.objs.size),sl,?_,by simp[hz],by rw[Array.getElem?_setIfInBounds_ne (by decide)];exact h0,by simp[hsz]⟩
  exact Heap.get?_update_self (Obj.mapFields (·.setIfInBounds 1 (Value.ref h₁.objs.size))) he₂ (Obj.isFreed_of_fields (Obj.data_mapFields rfl _))
 ·cases e'
  have hTe:h₁.objs.size≠e:=Nat.ne_of_gt (aq8 he₁)
  refine⟨hTe,_,_,(Heap.get?_update_other _ _ (Ne.symm hTe)).trans (aq14 h₁ rfl),rfl,?_⟩
  first|(simp;done)|(rcases hpl with rfl|⟨_,_,_,_,_,_,_,rfl⟩<;>simp)
 ·intro b o hb hn q
  rw[Heap.get?_update_other _ _ (Ne.symm hb)]
  exact aq13 _ ((hs₁.2.1 b hn).trans q)
 ·intro b o hb q
  obtain⟨sl',q'⟩:=hs₁.2.2 b o q
  exact⟨sl',by rw[Heap.get?_update_other _ _ (Ne.symm hb)];exact aq13 _ q'⟩
 ·intro b o q
  obtain⟨sl',q'⟩:=hs₁.2.2 b o q
  exact oZ (ws:=vs) he₂ rfl b _ (aq13 _ q')
theorem note_x{base:Heap}{env:Env}{outer:List Env}{L:Addr}{Q:Unit->Shared->Prop}
  (hfr:A.frames=some (env::outer))(hl:s.heap.FunFrames base (env::outer))(hf:env.frame=some L)(x:Fly s.heap e c d a0 ot .none)
  (h:∀h' T',s.heap.objs.size<=T'->Fly h' e c d a0 (some T') (rawInt L)->zQ6 ((env::outer).filterMap (·.frame)) e ot s.heap h'->Q () {s with heap:=h'}):
  wpAny M A (noteFrame (.ref e) env) Q E s:=by
 obtain⟨⟨vs,sl,he,hz,h0,h1⟩,tb⟩:=id x
 unfold noteFrame
 simp only[hf]
 refine wpAny_bind (wpAny_field he rfl h1 ?_)
 cases ot with
 |none=>
  rw[if_neg (by decide)]
  refine lH hfr hl hf x fun h' T' hn fx k1 k2 k3=>h h' T' hn fx ⟨fun b o hb _ hnf q=>k1 b o hb hnf q,fun b o hb _ q=>k2 b o hb q,k3⟩
 |some T=>
  obtain⟨hTe,oT,ts,hT,hdT,h3⟩:=tb T rfl
  rw[if_pos (show((some T).elim Value.none Value.ref !=Value.none)=true from by simp)]
  refine wpAny_bind (wpAny_field hT hdT h3 ?_)
  rw[if_neg (show¬((Value.none==rawInt L)=true)from by simp[rawInt])]
  refine wpAny_bind (wpAny_setField hT hdT (Array.getElem?_eq_some_iff.mp h3).1 ?_)
  have other:∀b,b≠T->(s.heap.update T (Obj.mapFields (·.setIfInBounds 3 Value.none))).get? b=s.heap.get? b:=fun b hb=>Heap.get?_update_other _ _ (Ne.symm hb)
  have hz3:3<ts.size:=(Array.getElem?_eq_some_iff.mp h3).1
  have x2:Fly (s.heap.update T (Obj.mapFields (·.setIfInBounds 3 Value.none))) e c d a0 (some T) .none:=
   ⟨⟨vs,sl,(other e (Ne.symm hTe)).trans he,hz,h0,h1⟩,fun T' e'=>by
    cases e'
    exact⟨hTe,_,_,Heap.get?_update_self _ hT (Obj.isFreed_of_fields (Obj.data_mapFields hdT _)),Obj.data_mapFields hdT _,by simp[hz3]⟩⟩
  have nr:∀b o,s.heap.get? b=some o->(∀vs,o.data≠ .fields vs)->b≠T:=fun b o hb hnf q=>by
   rw[q,hT]at hb;injection hb with hb;subst hb;exact hnf ts hdT
  refine lH (s:={s with heap:=s.heap.update T (Obj.mapFields (·.setIfInBounds 3 Value.none))}) hfr
   (hl.of_keeps fun b o hb hnf=>⟨o,(other b (nr b o hb hnf)).trans hb,rfl⟩) hf x2 fun h' T' hn fx k1 k2 k3=>h h' T' ?_ fx ⟨fun b o hb hbT hnf q=>k1 b o hb hnf ?_,fun b o hb hbT q=>k2 b o hb ?_,fun b o q=>?_⟩
  ·have hn':(s.heap.update T (Obj.mapFields (·.setIfInBounds 3 Value.none))).objs.size<=T':=hn
   rw[Heap.size_after_update]at hn'
   exact hn'
  ·exact(other b fun z=>hbT (by rw[z])).trans q
  ·exact(other b fun z=>hbT (by rw[z])).trans q
  ·obtain⟨o2,q2⟩:=oZ (ws:=ts) (i:=3) (x:=Value.none) hT hdT b o q
   exact k3 b o2 q2
theorem leave_x{base:Heap}{env:Env}{outer:List Env}{L:Addr}{Q:Unit->Shared->Prop}
  (hfr:A.frames=some (env::outer))(hl:s.heap.FunFrames base (env::outer))(hf:env.frame=some L)(x:Fly s.heap e c d a0 ot .none)
  (h:∀h' T',s.heap.objs.size<=T'->Fly h' e c d a0 (some T') .none->zQ6 ((env::outer).filterMap (·.frame)) e ot s.heap h'->Q () {s with heap:=h'}):
  wpAny M A (leaving env (.ref e)) Q E s:=by
 unfold leaving
 refine wpAny_bind (note_x hfr hl hf x fun h1 T1 hn f1 k=>?_)
 refine flight_some f1 fun h2 f2 k2 k3=>h h2 T1 hn f2 ⟨fun b o hb hbT hnf q=>?_,fun b o hb hbT q=>?_,fun b o q=>?_⟩
 ·exact k2 b o (fun z=>by subst z;exact absurd (aq8 q) (Nat.not_lt.mpr hn)) (k.keep b o hb hbT hnf q)
 ·obtain⟨sl,q'⟩:=k.slot b o hb hbT q
  exact⟨sl,k2 b _ (fun z=>by subst z;exact absurd (aq8 q) (Nat.not_lt.mpr hn)) q'⟩
 ·obtain⟨o2,q'⟩:=k.there b o q
  exact k3 b o2 q'
end
section
variable {M:Model} {A:Around} {E:Value->Shared->Prop} {env:Env}
variable {nm q:Str} {C N:Addr} {bs bm bmB:List Value} {hdct:Bool} {sn:List Str} {sub:List Value} {ab:Bool} {col:Option Bool} {dd:Option Addr} {k0 k1 k2 k3 k5:Option Value} {B newId initId:String}
theorem dO{s:Shared}{x:Sem Value}{Q:Flow->Shared->Prop}(hbase:bm.contains (.type "BaseException")=true)(hh:A.handled=none)
  (h:wpAny M A x (fun v s₁=>∃e d a0,v= .ref e/\s₁.heap.get? C=some (excClassObj nm q C N bs bm hdct sn sub ab col dd k0 k1 k2 k3 k5 newId)/\
   Fly s₁.heap e (.ref C) d a0 none .none/\E (.ref e) s₁) E s):
  wpAny M A (raiseStmt env (some x) none) Q E s:=by
 have hcB:(Value.ref C::bm).contains (.type "BaseException")=true:=by rw[List.contains_cons,hbase,Bool.or_true]
 unfold raiseStmt
 refine wpAny_bind (wpAny_mono h (fun v s₁ h₁=>?_) fun _ _ x=>x)
 obtain⟨e,d,a0,rfl,hC,x,hE⟩:=h₁
 obtain⟨hp,g,dr,tk,os⟩:=s₁
 obtain⟨⟨vs,sl,he,hz,h0,h1⟩,tb⟩:=id x
 repeat (first|with_reducible refine wpAny_loadPart_at he ?_|with_reducible refine wpAny_loadPart_at hC ?_|(with_reducible refine wpAny_isSubtype_exc hC ?_;rw[hcB])|with_reducible refine dU x ?_|wp_step)
 exact wpAny_raiseNew_none hh hE
theorem Raise_x{s:Shared}{x:Expr}{pos:Pos}{Q:Flow->Shared->Prop}(hbase:bm.contains (.type "BaseException")=true)(hh:A.handled=none)
  (h:wpAny M A (eval x env) (fun v s₁=>∃e d a0,v= .ref e/\s₁.heap.get? C=some (excClassObj nm q C N bs bm hdct sn sub ab col dd k0 k1 k2 k3 k5 newId)/\
   Fly s₁.heap e (.ref C) d a0 none .none/\E (.ref e) s₁) E s):
  wpAny M A (exec (.Raise (some x) none pos) env) Q E s:=by
 rw[arm_exec_Raise]
 simp only[evalOpt,Option.map]
 refine wpAny_bind (wpAny_standAt (dO (C:=C) (nm:=nm) (q:=q) (N:=N) (bs:=bs) (bm:=bm) (hdct:=hdct) (sn:=sn) (sub:=sub) (ab:=ab) (col:=col) (dd:=dd) (k0:=k0) (k1:=k1) (k2:=k2) (k3:=k3) (k5:=k5) (newId:=newId) hbase hh ?_))
 first
  |exact h
  |exact wpAny_bind (wpAny_mono h (fun v s₃ h₃=>wpAny_bind (wpAny_standAt (wpAny_pure h₃))) fun _ _ x=>x)
end
section
variable {M:Model} {A:Around} {E:Value->Shared->Prop}
variable {nm q:Str} {C N:Addr} {bs bm:List Value} {hdct:Bool} {sn:List Str} {sub:List Value} {ab:Bool} {col:Option Bool} {dd:Option Addr} {k0 k1 k2 k3 k5:Option Value} {newId:String}
variable {nm' q':Str} {D N':Addr} {bs' bm':List Value} {hdct':Bool} {sn':List Str} {sub':List Value} {ab':Bool} {col':Option Bool} {dd':Option Addr} {j0 j1 j2 j3 j5:Option Value} {newId':String}
theorem matches_x{h:Heap}{g:Array GenState}{d:Drawn}{t:Nat}{os:OsState}{e:Addr}{oe:Obj}{b:Bool}{Q:Bool->Shared->Prop}
  (hC:h.get? C=some (excClassObj nm q C N bs bm hdct sn sub ab col dd k0 k1 k2 k3 k5 newId))(hD:h.get? D=some (excClassObj nm' q' D N' bs' bm' hdct' sn' sub' ab' col' dd' j0 j1 j2 j3 j5 newId'))
  (he:h.get? e=some oe)(hcls:oe.cls= .ref C)(hbase:bm'.contains (.type "BaseException")=true)(hb:(Value.ref C::bm).contains (.ref D)=b)
  (hq:Q b ⟨h,g,d,t,os⟩):wpAny M A (excMatches (.ref e) (.ref D)) Q E ⟨h,g,d,t,os⟩:=by
 have hcB:(Value.ref D::bm').contains (.type "BaseException")=true:=by rw[List.contains_cons,hbase,Bool.or_true]
 have f:=tc_notTuple
 unfold excMatches
 repeat (first|(with_reducible refine wpAny_loadPart_at he ?_;rw[hcls])|with_reducible refine wpAny_loadPart_at hD ?_|(with_reducible refine wpAny_isSubtype_exc hD ?_;rw[hcB])|(with_reducible refine wpAny_isSubtype_exc hC ?_;rw[hb])|wp_step)
 cases b
 ·repeat wp_step
  exact hq
 ·repeat wp_step
  exact hq
end
section
variable {prog:Program} {w:World} {A:Around} {E:Value->Shared->Prop} {s:Shared} {env:Env}
theorem handle_as{e:Addr}{t:Expr}{n:Str}{b₀:Stmt}{suite:List Stmt}{pos:Pos}{rest:List ExceptHandler}{Q:Flow->Shared->Prop}
  (h:wpAny (model prog w) (A.mark (some (.ref e))) (eval t env) (fun c s₁=>wpAny (model prog w) (A.mark (some (.ref e))) (excMatches (.ref e) c) (fun b s₁'=>b=true/\
   wpAny (model prog w) (A.mark (some (.ref e))) (setFlight (.ref e) none) (fun _ s₂=>
     wpAny (model prog w) (A.mark (some (.ref e))) (storeName env n (.ref e)) (fun _ s₃=>
      wpAny (model prog w) (A.mark (some (.ref e))) (execs (b₀::suite) env)
       (fun f s₄=>wpAny (model prog w) A (do bindName env n .none;unbindBehindTheSuite env n pos) (fun _ s₅=>Q f s₅) E s₄)
       (fun _ _=>False) s₃) (fun _ _=>False) s₂) (fun _ _=>False) s₁') (fun _ _=>False) s₁) (fun _ _=>False) s):
  wpAny (model prog w) A (handleBy (.ref e) env (.ExceptHandler (some t) (some n) (b₀::suite) pos::rest)) Q E s:=by
 refine wpAny_handleBy_cons (codeAny_handlers_test (wpAny_mono h (fun c s₁ h₁=>wpAny_mono h₁ (fun b s₁' h₂=>?_) fun _ _ x=>x.elim) fun _ _ x=>x.elim)) (by intro q;cases q)
 obtain⟨rfl,h₂⟩:=h₂
 refine codeAny_handlers_suite_as (wpAny_mono h₂ (fun _ s₂ h₃=>wpAny_mono h₃ (fun _ s₃ h₄=>wpAny_mono h₄ (fun f s₄ h₅=>h₅) fun _ _ x=>x.elim) fun _ _ x=>x.elim) fun _ _ x=>x.elim)
theorem handle_on{e:Addr}{t:Expr}{name:Option Str}{body:List Stmt}{pos:Pos}{rest:List ExceptHandler}{Q:Flow->Shared->Prop}
  (h:wpAny (model prog w) (A.mark (some (.ref e))) (eval t env) (fun c s₁=>wpAny (model prog w) (A.mark (some (.ref e))) (excMatches (.ref e) c) (fun b s₁'=>b=false/\
   wpAny (model prog w) A (handleBy (.ref e) env rest) Q E s₁') (fun _ _=>False) s₁) (fun _ _=>False) s):
  wpAny (model prog w) A (handleBy (.ref e) env (.ExceptHandler (some t) name body pos::rest)) Q E s:=by
 refine wpAny_handleBy_cons (codeAny_handlers_test (wpAny_mono h (fun c s₁ h₁=>wpAny_mono h₁ (fun b s₁' h₂=>?_) fun _ _ x=>x.elim) fun _ _ x=>x.elim)) (by intro q;cases q)
 obtain⟨rfl,h₂⟩:=h₂
 exact h₂
end
end XA
set_option maxHeartbeats 4000000
namespace L2
open PySem PySem.Spec PyProof.Rows
def yN(nw:Bool)(C t:Addr)(d:Option Addr)(e:Addr):HO:=.ext fun h=>
 ∃vs sl,h.get? e=some {cls:=.ref C,dict:=d,data:=.fields vs,slots:=sl}/\vs.size=6/\vs[0]? =some (.ref t)/\(nw=true->vs[1]? =some .none)
theorem yN.ne_own{nw:Bool}{C t e:Addr}{d:Option Addr}{x:Addr}:yN nw C t d e≠ .own x:=fun h=>by cases h
theorem yN.ne_tup{nw:Bool}{C t e:Addr}{d:Option Addr}{xs:List V}:yN nw C t d e≠ .tup xs:=fun h=>by cases h
theorem qW0{nw:Bool}{C t e:Addr}{d:Option Addr}{h1 h2:Heap}
  (x:∃vs sl,h1.get? e=some {cls:=.ref C,dict:=d,data:=.fields vs,slots:=sl}/\vs.size=6/\vs[0]? =some (.ref t)/\(nw=true->vs[1]? =some .none))
  (k:∀o,h1.get? e=some o->h2.get? e=some o):∃vs sl,h2.get? e=some {cls:=.ref C,dict:=d,data:=.fields vs,slots:=sl}/\vs.size=6/\vs[0]? =some (.ref t)/\(nw=true->vs[1]? =some .none):=by
 obtain⟨vs,sl,he,r⟩:=x
 exact⟨vs,sl,k _ he,r⟩
theorem qW1{P:Program}{w:World}{H:Hp}{h:Heap}{nw:Bool}{C t e:Addr}{d:Option Addr}{vs:Array Value}{sl:Array (Option Value)}
  (he:h.get? e=some {cls:=.ref C,dict:=d,data:=.fields vs,slots:=sl})(hz:vs.size=6)(h0:vs[0]? =some (.ref t))(h1:nw=true->vs[1]? =some .none):jP P w H h e (yN nw C t d e):=
 ⟨⟨vs,sl,he,hz,h0,h1⟩,⟨_,he⟩,fun _ _ x k=>qW0 x k⟩
theorem iV{P:Program}{w:World}{H:Hp}{h:Heap}{nw:Bool}{C t e:Addr}{d:Option Addr}(x:jP P w H h e (yN nw C t d e)):
  ∃vs sl,h.get? e=some {cls:=.ref C,dict:=d,data:=.fields vs,slots:=sl}/\vs.size=6/\vs[0]? =some (.ref t)/\(nw=true->vs[1]? =some .none):=x.1
theorem qFq{P:Program}{w:World}{H:Hp}{h:Heap}{C t e:Addr}{d:Option Addr}(x:jP P w H h e (yN true C t d e)):XA.Fly h e (.ref C) d (.ref t) none .none:=by
 obtain⟨vs,sl,he,hz,h0,h1⟩:=iV x
 exact⟨⟨vs,sl,he,hz,h0,h1 rfl⟩,fun T q=>by cases q⟩
theorem qFz{P:Program}{w:World}{H:Hp}{h:Heap}{C t e:Addr}{d ot:Option Addr}{fl:Value}(x:XA.Fly h e (.ref C) d (.ref t) ot fl):jP P w H h e (yN false C t d e):=by
 obtain⟨⟨vs,sl,he,hz,h0,h1⟩,_⟩:=x
 exact qW1 he hz h0 fun q=>by cases q
theorem HOk.flies{P:Program}{w:World}{H:Hp}{h h':Heap}{nw:Bool}{C t e:Addr}{d ot:Option Addr}{fl:Value}(ok:HOk P w H h)(he:H e=some (yN nw C t d e))
  (x:XA.Fly h' e (.ref C) d (.ref t) ot fl)(k:∀b o,b≠e->H b≠none->h.get? b=some o->h'.get? b=some o):HOk P w (upd H e (yN false C t d e)) h':=fun a o q=>by
 have own:∀c y,H c=some (.own y)->c≠e:=fun c y r z=>by subst z;rw[he]at r;exact yN.ne_own (Option.some.inj r)
 have tup:∀c xs,H c=some (.tup xs)->c≠e:=fun c xs r z=>by subst z;rw[he]at r;exact yN.ne_tup (Option.some.inj r)
 by_cases ha:a=e
 ·subst ha;rw[qJ]at q;cases q;exact qFz x
 ·rw[qL ha]at q
  refine(ok a o q).stay (fun b u hb r=>?_) (fun c r=>by rw[qL (own c a r)];exact r) fun c xs r=>by rw[qL (tup c xs r)];exact r
  rcases hb with rfl|hb
  ·exact k b u ha (by rw[q];simp) r
  ·exact k b u (own b a hb) (by rw[hb];simp) r
theorem zW0{fs ex:List Addr}{H H1:Hp}{h h':Heap}{nw:Bool}{C t e:Addr}{d:Option Addr}(u:Un fs ex H H1 h h')(he:H1 e=some (yN nw C t d e))(o:HO):Un fs ex H (upd H1 e o) h h':=by
 have ne:∀b u',H1 b=some u'->(∀φ,u'≠ .ext φ)->b≠e:=fun b u' r n z=>by subst z;rw[he]at r;exact n _ (Option.some.inj r).symm
 refine⟨u.keep,u.slot,fun b ob q n hx=>?_,u.there,fun b xs q=>?_,fun b ob xs q=>?_,fun b ps q=>?_⟩
 ·have :=u.free b ob q n hx
  rw[qL (fun z=>by subst z;rw[this]at he;cases he)];exact this
 ·have r:=u.tups b xs q;rw[qL (ne b _ r fun φ z=>by cases z)];exact r
 ·have r:=u.frzs b ob xs q;rw[qL (ne b _ r fun φ z=>by cases z)];exact r
 ·obtain⟨m,r⟩:=u.tbls b ps q;exact⟨m,by rw[qL (ne b _ r fun φ z=>by cases z)];exact r⟩
def CXE(P:Program)(w:World):CXT:=fun outer H s E x s'=>∃(e C t T:Addr)(d:Option Addr)(H':Hp),x= .ref e/\s'.os=s.os/\AllBare s'.gens/\Un (frs outer) [] H H' s.heap s'.heap/\HOk P w H' s'.heap/\
 H' e=some (yN false C t d e)/\s.heap.get? e=none/\s.heap.objs.size<=T/\H' T=none/\XA.Fly s'.heap e (.ref C) d (.ref t) (some T) .none/\E (.ref C) (some e) H'
section
variable {P:Program} {w:World} {K:Fg} {mg:Str->Option Value} {base:Heap} {N:List Str} {qual:Str} {scope:Scope} {f:Addr} {cd:Value} {A:Around} {outer:List Env} {s0:Shared} {H0:Hp} {E:XK}
theorem leaves{pins:List (Addr×Obj)}{σ:St}{H:Hp}{s:Shared}{nw:Bool}{e C t:Addr}{d ot:Option Addr}(I:Inv (kD (CXE P w) P w K mg base N qual scope f cd A outer s0 H0 E) pins σ H s)
  (he:H e=some (yN nw C t d e))(hn:s0.heap.get? e=none)(hT:∀T,ot=some T->s0.heap.get? T=none/\H T=none)(x:XA.Fly s.heap e (.ref C) d (.ref t) ot .none)
  (hE:E (.ref C) (some e) (upd H e (yN false C t d e))):(kD (CXE P w) P w K mg base N qual scope f cd A outer s0 H0 E).xe (.ref e) s:=by
 have B:=I.base
 have hL:s0.heap.objs.size<=s0.heap.objs.size:=aq7 _
 have frs_eq:((envOfC qual scope s0.heap.objs.size f cd::outer).filterMap (·.frame))=s0.heap.objs.size::frs outer:=rfl
 refine XA.leave_x (base:=base) (env:=envOfC qual scope s0.heap.objs.size f cd) (outer:=outer) (L:=s0.heap.objs.size) I.ok.frames I.stack rfl x fun h' T' hz fx k=>?_
 rw[frs_eq]at k
 have old:∀b o,s0.heap.get? b=some o->b≠e/\some b≠ot/\b≠s0.heap.objs.size:=fun b o q=>
  ⟨fun z=>(by subst z;rw[hn]at q;cases q),fun z=>(by have :=(hT b z.symm).1;rw[this]at q;cases q),aq9 (aq8 q)⟩
 have un:Un (frs outer) [] H0 H s0.heap h':=
  ⟨fun b o q n hb hx=>(have z:=old b o q;k.keep b o z.1 z.2.1 (fun hm=>(List.mem_cons.mp hm).elim z.2.2 hb) (B.keep b o q n hb hx)),
   fun b o q n hb hx=>(have z:=old b o q;by
    obtain⟨sl,r⟩:=B.slot b o q n hb hx
    obtain⟨sl',r'⟩:=k.slot b _ z.1 z.2.1 r
    exact⟨sl',r'⟩),
   B.free,fun b o q hx=>(by
    obtain⟨o',r⟩:=B.there b o q hx
    exact k.there b o' r),B.tups,B.frzs,B.tbls⟩
 refine⟨e,C,t,T',d,upd H e (yN false C t d e),rfl,I.os,I.bare,zW0 un he _,I.hok.flies he fx fun b o hb hn' q=>?_,qJ,hn,?_,?_,fx,hE⟩
 ·refine k.keep b o hb (fun z=>hn' (hT b z.symm).2) (fun hm=>hn' ?_) q
  exact I.stkFree b hm
 ·exact Nat.le_trans I.sz hz
 ·have fr:=I.hok.fresh hz
  have ne:T'≠e:=fun z=>by subst z;rw[he]at fr;cases fr
  rw[qL ne];exact fr
theorem qZ4:Passes (CXE P w) (kD (CXE P w) P w K mg base N qual scope f cd A outer s0 H0 E) E:=by
 intro pins σ H s x s' I hx
 obtain⟨e,C,t,T,d,H',rfl,os,bare,un,hok,he,hn,hTn,hT,fx,hE⟩:=hx
 have J:=I.call' (ch:=[]) os un hok bare (fun b z=>absurd z (by simp))
 have up:∀b,s.heap.get? b=none->s0.heap.get? b=none:=fun b q=>by
  cases r:s0.heap.get? b with
  |none=>rfl
  |some o=>
   obtain⟨o',r'⟩:=I.base.there b o r (by show b∉([]:List Addr);simp)
   rw[q]at r';cases r'
 refine leaves J he (up e hn) (fun T' z=>by cases z;exact⟨Heap.get?_none_of_le (Nat.le_trans I.sz hTn),hT⟩) fx ?_
 have e2:upd H' e (yN false C t d e)=H':=by
  funext b
  by_cases z:b=e
  ·subst z;rw[qJ,he]
  ·rw[qL z]
 rw[e2];exact hE
end
end L2
namespace XA
open PySem Builtin Builtin.ObjectAttr
section
variable {M:Model} {A:Around} {E:Value->Shared->Prop} {h:Heap} {g:Array GenState} {d:Drawn} {t:Nat} {os:OsState} {e:Addr} {o:Obj}
theorem zT9{Q:Value->Shared->Prop}(he:h.get? e=some o)(hq:Q o.cls ⟨h,g,d,t,os⟩):wpAny M A (typeOf (.ref e)) Q E ⟨h,g,d,t,os⟩:=by
 unfold typeOf
 repeat (first|with_reducible refine wpAny_loadPart_at he ?_|wp_step)
 exact hq
theorem zTq{C:Addr}{c:Value}{b:Bool}{Q:Bool->Shared->Prop}(he:h.get? e=some o)(hc:o.cls= .ref C)(L:Lk M h (isSubtype (.ref C) c) b)(hq:Q b ⟨h,g,d,t,os⟩):wpAny M A (isInstance (.ref e) c) Q E ⟨h,g,d,t,os⟩:=by
 unfold isInstance
 refine wpAny_bind (zT9 he ?_)
 rw[hc]
 exact Lk.at L hq
theorem chk_slot{i owner n:String}{rest:List Value}{Q:Unit->Shared->Prop}(hk:builtinKind i=some .slot)(hs:splitId i=some (owner,n))(ha:argsOk i ⟨.ref e::rest,[]⟩)
  {C:Addr}(he:h.get? e=some o)(hc:o.cls= .ref C)(L:Lk M h (isSubtype (.ref C) (.type owner)) true)(hq:Q () ⟨h,g,d,t,os⟩):
  wpAny M A (checkBuiltinCall i ⟨.ref e::rest,[]⟩) Q E ⟨h,g,d,t,os⟩:=by
 simp only[checkBuiltinCall,hk,hs]
 refine wpAny_bind (zTq he hc L ?_)
 simp only[Bool.not_true,Bool.false_eq_true,if_false]
 cases hsig:Manifest.signature? i with
 |none=>exact wpAny_pure hq
 |some sig=>
  simp only[argsOk,hsig]at ha
  have h2:Bind.checkArgs i sig ⟨.ref e::rest,[]⟩=pure ():=ha
  show wpAny M A (Bind.checkArgs i sig ⟨.ref e::rest,[]⟩) Q E _
  rw[h2];exact wpAny_pure hq
end
section
variable {prog:Program} {w:World} {A:Around} {E:Value->Shared->Prop} {h:Heap} {g:Array GenState} {d:Drawn} {t:Nat} {os:OsState}
variable {C e:Addr} {l:List Value} {vs:Array Value} {sl:Array (Option Value)} {name:Str} {v:Value}
end
open Builtin.BaseException Builtin.Str
section
variable {prog:Program} {w:World} {A:Around} {E:Value->Shared->Prop} {h:Heap} {g:Array GenState} {d:Drawn} {t:Nat} {os:OsState}
variable {C e:Addr} {l:List Value} {vs:Array Value} {sl:Array (Option Value)} {name:Str} {v:Value} {B newId initId:String} {bmB:List Value} {dd:Option Addr}
end
end XA
namespace L2
open PySem PySem.Spec PyProof.Rows
structure XC(K:Fg)(C:Addr)(bm:List Value):Prop where
 obj:∃nm q N bs sn sub ab col dd k0 k1 k2 k3 k5,K.lookup C=some (excClassObj nm q C N bs bm true sn sub ab col dd k0 k1 k2 k3 k5 "ValueError.__new__")
 ab:XA.Above "ValueError" bm
 top:bm.contains (.type "object")=true
 pass:∀self,refuseLoop self "__setattr__" (.ref C::bm)=pure ()
 sa:PySem.W.findIn K (.ref C) "__setattr__"=some (some (.builtin "object.__setattr__"))
 ga:PySem.W.findIn K (.ref C) "__getattribute__"=some (some (.builtin "BaseException.__getattribute__"))
 gh:PySem.W.findIn K (.ref C) "__getattr__"=some none
 st:PySem.W.findIn K (.ref C) "__str__"=some (some (.builtin "BaseException.__str__"))
 kp:PySem.W.keepIn K (.ref C)=true
theorem zW1{K:Fg}{C:Addr}{bm:List Value}{M:Model}{h:Heap}{c:Value}{b:Bool}(x:XC K C bm)(X:K.In h)(e:(Value.ref C::bm).contains c=b):XA.Lk M h (isSubtype (.ref C) c) b:=by
 obtain⟨nm,q,N,bs,sn,sub,ab,col,dd,k0,k1,k2,k3,k5,lC⟩:=x.obj
 intro A Q E s k hq
 obtain⟨hh,g,d,t,os⟩:=s
 refine wpAny_isSubtype_exc (k _ _ (X _ _ lC)) ?_
 rw[e];exact hq
theorem Un.laid2{fs ex:List Addr}{H:Hp}{h h':Heap}{a b:Addr}{o u:HO}(k:∀c v,h.get? c=some v->h'.get? c=some v)(ha:h.objs.size<=a)(hb:h.objs.size<=b)(na:H a=none)(nb:H b=none):Un fs ex H (upd (upd H a o) b u) h h' where
 keep:=fun c v q _ _ _=>k c v q
 slot:=fun c v q _ _ _=>⟨v.slots,k c v q⟩
 free:=fun c v q n _=>by rw[qL (aq9 (Nat.lt_of_lt_of_le (aq8 q) hb)),qL (aq9 (Nat.lt_of_lt_of_le (aq8 q) ha))];exact n
 there:=fun c v q _=>⟨v,k c v q⟩
 tups:=fun c xs q=>by rw[qL (qH q nb),qL (qH q na)];exact q
 frzs:=fun c v xs q=>by rw[qL (qH q nb),qL (qH q na)];exact q
 tbls:=fun c ps q=>⟨#[],by rw[qL (qH q nb),qL (qH q na),q];simp⟩
theorem HOk.laid2{P:Program}{w:World}{H:Hp}{h h':Heap}{a b:Addr}{o u:HO}(x:HOk P w H h)(k:∀c v,h.get? c=some v->h'.get? c=some v)(na:H a=none)(nb:H b=none)
  (new1:jP P w (upd (upd H a o) b u) h' a o)(new2:jP P w (upd (upd H a o) b u) h' b u):HOk P w (upd (upd H a o) b u) h':=fun c v e=>by
 by_cases hb:c=b
 ·subst hb;rw[qJ]at e;cases e;exact new2
 ·rw[qL hb]at e
  by_cases ha:c=a
  ·subst ha;rw[qJ]at e;cases e;exact new1
  ·rw[qL ha]at e
   exact(x c v e).stay (fun c v _ q=>k c v q) (fun c q=>by rw[qL (qH q nb),qL (qH q na)];exact q) fun c xs q=>by rw[qL (qH q nb),qL (qH q na)];exact q
section
variable {X:Cx} {CX:CXT} {k:Nat} {f C:Addr} {fd:FuncData} {ps:List Str} {sp:Sp} {dvs:List V} {ds:List Value} {E:XK} {x m:Str} {p pos apos:Pos} {e o:Expr} {es:List Expr} {ta:TE} {t:TA} {bm:List Value}
def zB7(C:Addr)(t:TA):TE:=fun σ H Q=>t σ H fun vs H1=>vs.length<=sizeLine/\∀a b,H1 a=none->H1 b=none->a≠b->Q (.ref b) (upd (upd H1 a (.tup vs)) b (yN true C a none b))
theorem qFj{pins:List (Addr×Obj)}{σ:St}{H:Hp}{s:Shared}{Q:VK}{us:List Value}{vs:List V}(xc:XC X.K C bm)(hi:PySem.W.findIn X.K (.ref C) "__init__"=some (some (.builtin "ValueError.__init__")))
  (I:Inv X pins σ H s)(r:Vals vs us)(hz:vs.length<=sizeLine)
  (h:∀a b,H a=none->H b=none->a≠b->Q (.ref b) (upd (upd H a (.tup vs)) b (yN true C a none b))):
  wpAny (model X.prog X.w) X.A (call (.ref C) us) (EP X pins σ Q) X.xe s:=by
 obtain⟨nm,q,N,bs,sn,sub,ab,col,dd,k0,k1,k2,k3,k5,lC⟩:=xc.obj
 have na:H (s.heap.objs.size+2)=none:=I.hok.fresh (Nat.le_add_right _ _)
 have nb:H (s.heap.objs.size+1)=none:=I.hok.fresh (Nat.le_succ _)
 have hq:=h (s.heap.objs.size+2) (s.heap.objs.size+1) na nb (Nat.ne_of_gt (Nat.lt_succ_self _))
 have hus:us.length<=sizeLine:=by rw[<-r.length];exact hz
 obtain⟨hh,gg,dd',tt,oo⟩:=s
 refine wpAny_call (XA.call_cls (I.kIn _ _ lC) (XA.tcall_bare (PySem.F.excBase_ValueError) xc.ab (I.kIn _ _ lC) (PySem.W.looks_findIn I.kIn hi) (fun h' kk he ht=>?_) hus))
 refine⟨V.ref (hh.objs.size+1),_,?_,rfl,hq⟩
 refine I.un (t':=tt) (Un.laid2 kk (Nat.le_add_right _ _) (Nat.le_succ _) na nb) (I.hok.laid2 kk na nb ?_ ?_)
 ·exact⟨hz,us,r,⟨_,ht,rfl,_,rfl⟩⟩
 ·exact qW1 he rfl rfl fun _=>rfl
theorem pR(xc:XC X.K C bm)(hi:PySem.W.findIn X.K (.ref C) "__init__"=some (some (.builtin "ValueError.__init__")))(hg:Gl X x)(hm:X.mg x=some (.ref C))
  (ha:PA X (e::es) t)(hdb:(x==("__debug__":Str))=false:=by decide)(he:starEach (e::es) X.env=(false,eval e X.env)::starEach es X.env:=by rfl)(hpl:(backTo pos (starEach es X.env)).any (·.1)=false:=by rfl):
  PE X (.Call (.Name x p) (e::es) [] pos) (zB7 C t):=by
 intro pins s σ H Q I h
 refine wpAny_Call_Name_kw (kT I hg hm ?_ hdb)
 refine PySem.W.callWith_K (h₀:=X.base) I.ok.mod.kin xc.kp (thn (ha pos pins s σ H _ I h) fun us s1⟨vs,H1,I1,r,hz,q⟩=>⟨I1.kIn,?_⟩) he hpl
 exact qFj xc hi I1 r hz q
end
section
variable {P:Program} {w:World} {K:Fg} {mg:Str->Option Value} {base:Heap} {N:List Str} {qual:Str} {scope:Scope} {f:Addr} {cd:Value} {A:Around} {outer:List Env} {s0:Shared} {H0:Hp} {E:XK}
inductive tJ(H0:Hp)(E:XK)(C:Addr)(v:V)(H1:Hp):Prop
 |mk (e:_) (t:_) (d:_) (a_0:v= .ref e) (a_1:H1 e=some (yN true C t d e)) (a_2:H0 e=none) (a_3:E (.ref C) (some e) (upd H1 e (yN false C t d e))):tJ H0 E C v H1
def qW2(H0:Hp)(E:XK)(C:Addr)(te:TE):TS:=fun x_0 σ H=>te σ H fun v H1=>tJ H0 E C v H1
theorem iT{x:Expr}{te:TE}{pos:Pos}{C:Addr}{bm:List Value}(xc:XC K C bm)(hx:PE (kD (CXE P w) P w K mg base N qual scope f cd A outer s0 H0 E) x te):
  PS (kD (CXE P w) P w K mg base N qual scope f cd A outer s0 H0 E) (.Raise (some x) none pos) (qW2 H0 E C te):=by
 intro pins s σ H D I h
 obtain⟨nm,q,N',bs,sn,sub,ab,col,dd,k0,k1,k2,k3,k5,lC⟩:=xc.obj
 refine XA.Raise_x (C:=C) (nm:=nm) (q:=q) (N:=N') (bs:=bs) (bm:=bm) (hdct:=true) (sn:=sn) (sub:=sub) (ab:=ab) (col:=col) (dd:=dd) (k0:=k0) (k1:=k1) (k2:=k2) (k3:=k3) (k5:=k5) (newId:="ValueError.__new__") xc.ab.base (I.ok.hd rfl)
  (thn (hx pins s σ H _ I h) fun u s1⟨v,H1,I1,rv,e,t,d,ev,he,h0,hE⟩=>?_)
 subst ev
 obtain rfl:u=Value.ref e:=rv
 have fx:=qFq (I1.hok e _ he)
 refine⟨e,d,.ref t,rfl,I1.kIn _ _ lC,fx,leaves I1 he ?_ (fun T z=>by cases z) fx hE⟩
 cases q':s0.heap.get? e with
 |none=>rfl
 |some o=>
  have :=I1.base.free e o q' h0 (by show e∉([]:List Addr);simp)
  rw[he]at this;cases this
end
section
variable {X:Cx} {C S:Addr} {x m:Str} {p pos apos:Pos} {e o value:Expr} {es:List Expr} {ta tv:TE} {t:TA} {bm:List Value} {name:Str} {pos':Pos}
end
open Builtin Builtin.ObjectAttr
structure XI(K:Fg)(C:Addr):Prop where
 cl:PySem.W.findIn K (.ref C) "__class__"=some (some (.builtin "object.__class__"))
 gt:PySem.W.specialIn K (.builtin "object.__class__") "__get__"=some (some (.builtin "getset_descriptor.__get__"))
 tk:PySem.W.takesIn K (.builtin "object.__class__")=some true
 mr:PySem.W.mroIn K C (.type "object")=some true
 hd:PySem.W.hasDictIn K C=true
section
variable {prog:Program} {w:World} {A:Around} {E:Value->Shared->Prop} {K:Fg} {C e:Addr} {bm:List Value} {ox:Obj} {od:Option Obj}
theorem qW3{R:Result->Shared->Prop}{tk:Tok}{h:Heap}{g d t os}(xc:XC K C bm)(xi:XI K C)(X:K.In h)(I:PySem.W.InstAt h e ox C od)
  (hq:R (.ok (.ret (.ref C))) ⟨h,g,d,t,os⟩):
  codeAny (model prog w) A (.call (.builtin "BaseException.__getattribute__") ⟨[.ref e,.str "__class__" tk],[]⟩) R ⟨h,g,d,t,os⟩:=by
 refine codeAny_call_builtin PySem.F.excAttr_ValueError.ga.plain PySem.F.entry_bexc_ga ?_
 have ha:=PySem.F.args_bexc_ga (.ref e) (.str "__class__" tk)
 have hk:builtinKind "BaseException.__getattribute__"=some .slot:=by decide+kernel
 have hs:splitId "BaseException.__getattribute__"=some ("BaseException","__getattribute__"):=by decide+kernel
 refine XA.chk_slot (i:="BaseException.__getattribute__") (owner:="BaseException") (n:="__getattribute__") (rest:=[.str "__class__" tk]) (C:=C) hk hs ha I.at_ I.cls (zW1 xc X (by rw[List.contains_cons,xc.ab.base,Bool.or_true])) ?_
 have hf:PySem.W.findObj K C od "__class__"=some (.bind (.builtin "getset_descriptor.__get__") (.builtin "object.__class__")):=by
  obtain⟨cd,hc,_⟩:=PySem.W.any_some xi.hd
  unfold PySem.W.findObj
  rw[hc,Option.bind_some,xi.cl,Option.bind_some]
  simp only[xi.gt,xi.tk,Option.bind_some]
 have L0:=I.type (M:=model prog w)
 have L1:=PySem.W.looks_find (M:=model prog w) X I hf
 refine wpAny_bind (wpAny_pure (wpAny_bind (wpAny_pure (wpAny_bind (L0.at (wpAny_bind (L1.at ?_)))))))
 show wpAny _ _ (holding [.builtin "object.__class__"] (call (.builtin "getset_descriptor.__get__") [.builtin "object.__class__",.ref e,.ref C])>>=ret) _ _ _
 refine wpAny_bind (wpAny_holding (wpAny_call ?_))
 exact PySem.W.class_get (ox:=ox) (od:=od) X I xi.mr (wpAny_pure hq)
theorem qH0{Q:Option Value->Shared->Prop}{s:Shared}(xc:XC K C bm)(xi:XI K C)(X:K.In s.heap)(I:PySem.W.InstAt s.heap e ox C od)(hq:Q (some (.ref C)) {s with toks:=s.toks+1}):
  wpAny (model prog w) A (getAttr? (.ref e) "__class__") Q E s:=by
 obtain⟨h,g,d,t,os⟩:=s
 have f3:=PySem.F.excAttr_ValueError.ga.bind (.ref e)
 have key:codeAny (model prog w) A (.call (.builtin "BaseException.__getattribute__") ⟨[.ref e,.str "__class__" t],[]⟩)
   (fun r s'=>r= .ok (.ret (.ref C))/\s'=⟨h,g,d,t+1,os⟩) ⟨h,g,d,t+1,os⟩:=qW3 xc xi X I ⟨rfl,rfl⟩
 have hx2:(Value.builtin "BaseException.__getattribute__"==Value.builtin "object.__getattribute__")=false:=by decide+kernel
 have L0:=I.type (M:=model prog w)
 have L5:=PySem.W.looks_findIn (M:=model prog w) X xc.ga
 have L6:=PySem.W.looks_findIn (M:=model prog w) X xc.gh
 unfold getAttr? getAttrBy? getAttrBy
 refine wpAny_bind (wpAny_mkText (wpAny_bind (wpAny_attempt (wpAny_holding (wpAny_bind (L0.at (wpAny_bind (L5.at ?_))))))))
 dsimp only
 rw[hx2,Bool.and_false]
 show wpAny _ _ (getAttrByItsOwn (.ref e) (.str "__class__" t) (.ref C) (.builtin "BaseException.__getattribute__") false false) _ _ _
 unfold getAttrByItsOwn
 refine wpAny_bind (L6.at (wpAny_bind (wpAny_attempt (wpAny_holding ?_))))
 show wpAny _ _ (boundAndCalled (.builtin "BaseException.__getattribute__") (.ref e) (.str "__class__" t)) _ _ _
 unfold boundAndCalled
 rw[f3]
 refine wpAny_bind (wpAny_pure (wpAny_call (codeAny_mono key fun r s' z=>?_)))
 obtain⟨rfl,rfl⟩:=z
 exact wpAny_pure (wpAny_pure hq)
theorem zW2(xc:XC K C bm)(xi:XI K C):PySem.W.KitX K (.ref e) (.ref C) (fun h=>PySem.W.InstAt h e ox C od)where
 ty:=fun _ _ _ I=>I.type
 it:=fun _ _ X _=>by
  obtain⟨nm,q,N,bs,sn,sub,ab,col,dd,k0,k1,k2,k3,k5,lC⟩:=xc.obj
  intro A' Q' E' s' k hq
  unfold isType loadHead
  exact wpAny_bind (wpAny_loadPart (k _ _ (X _ _ lC)) (wpAny_pure hq))
 ne:=fun h tp dd its n sl X htp=>by
  obtain⟨nm,q,N,bs,sn,sub,ab,col,dd',k0,k1,k2,k3,k5,lC⟩:=xc.obj
  refine Bool.eq_false_iff.mpr fun q'=>?_
  have e':C=tp:=Value.ref.inj (beq_iff_eq.mp q')
  subst e'
  have z:=(X _ _ lC).symm.trans htp
  injection z with z
  injection z with z1
  exact absurd z1 (by decide)
 ca:=fun X I k=>qH0 xc xi X I k
end
section
variable {X:Cx}
theorem qW4{pins:List (Addr×Obj)}{σ:St}{H:Hp}{s:Shared}{nw:Bool}{e C t:Addr}{d:Option Addr}(I:Inv X pins σ H s)(he:H e=some (yN nw C t d e))(hd:∀a,d=some a->∃o,s.heap.get? a=some o):
  ∃ox od,PySem.W.InstAt s.heap e ox C od:=by
 obtain⟨vs',sl,ho,hz6,h0,h1⟩:=iV (I.hok e _ he)
 cases d with
 |none=>exact⟨_,none,⟨ho,rfl,rfl,trivial⟩⟩
 |some a=>
  obtain⟨o,hoa⟩:=hd a rfl
  exact⟨_,some o,⟨ho,rfl,rfl,hoa⟩⟩
theorem xB:kP X (.builtin "isinstance") (fun xs H Q=>∃e C t d nw bm c cv b,xs=[.ref e,cv]/\((∃D,cv= .ref D/\c= .ref D)\/∃n,cv= .ty n/\c= .type n)/\H e=some (yN nw C t d e)/\(∀a,d=some a->∃fs,H a=some (.xd fs))/\XC X.K C bm/\XI X.K C/\PySem.W.kitOne X.K (.ref C) c=some b/\Q (.bl b) H):=by
 intro pins s σ H xs us Q I r h
 obtain⟨e',C',t',d,nw,bm',c,cv,b,rfl,rc,hE,hd,xc,xi,ko,q⟩:=h
 obtain⟨u,u2,rfl,r1,r2⟩:=vals2 r
 obtain rfl:u=Value.ref e':=r1
 have this:u2=c:=by
  rcases rc with⟨D,rfl,rfl⟩|⟨n,rfl,rfl⟩
  ·exact r2
  ·exact r2
 subst this
 obtain⟨ox,od,hI⟩:=qW4 I hE (fun a z=>by
  obtain⟨fs,hf⟩:=hd a z
  obtain⟨mA,⟨o,_,_,ho,_⟩,_⟩:=(show∃mA,s.heap.Ns1 a mA/\∀f,wO (fs.lookup f) (mA f)from I.hok a _ hf)
  exact⟨o,ho⟩)
 exact PySem.W.kia_one (zW2 xc xi) I.kIn hI ko (fun z=>nomatch z) fun tk=>⟨.bl b,H,I.tok tk,rfl,q⟩
end
end L2
namespace L2
open PySem PySem.Spec PyProof.Rows PyProof
section
variable {X:Cx}
theorem qH1:yP X (binaryOp .Mult) (rI IntMulOk fun i j=>.int (i*j)):=opI fun _ _ _ _ _ _ _ hc q=>mul_int q hc
def CRep(z:Str)(n:Int):Prop:=0<=n/\n<=1000/\z.length<=1000
theorem CRep.ok{z:Str}{n:Int}(h:CRep z n):MulOk z n:=by
 obtain⟨h0,h1,h2⟩:=h
 refine⟨?_,fun hn _ hc=>?_,fun _ _=>?_⟩
 ·rw[decide_eq_false (by omega),decide_eq_false (by omega)];rfl
 ·have e1:((2:Int)^63-1)/n≥1001:=(Int.le_ediv_iff_mul_le (by omega)).mpr (by omega)
  omega
 ·have h3:z.length*n.toNat<=1000*1000:=Nat.mul_le_mul h2 (by omega)
  show decide (z.length*n.toNat>sizeLine)=false
  rw[sizeLine_eq]
  exact decide_eq_false (by omega)
theorem qH2:yP X (binaryOp .Mult) (fun x y H Q=>∃z n,x= .str z/\y= .int n/\CRep z n/\Q (.str (Txt.mul z n)) H):=by
 intro pins s σ H x y v u Q I rx ry h
 obtain⟨z,n,rfl,rfl,hc,q⟩:=h
 obtain⟨t,rfl⟩:=rx
 obtain⟨t',rfl⟩:=ry
 exact SB.mul hc.ok fun t' k=>⟨.str _,H,I.tok _,⟨_,rfl⟩,q⟩
theorem pS{ys:List Str}:∀{us:List Value},Vals (ys.map V.str) us->StrsAre us ys:=by
 induction ys with
 |nil=>intro us r;rw[List.map_nil]at r;cases r;exact .nil
 |cons n ns ih=>
  intro us r
  rw[List.map_cons]at r
  cases r with
  |cons r1 r2=>
   obtain⟨t,e⟩:=r1
   subst e
   exact .cons n t (ih r2)
theorem qH3:MtR X "str.join" (fun x xs H Q=>∃(z:Str)(p:Addr)(ys:List Str),x= .str z/\xs=[.ref p]/\zS X.K H p (ys.map V.str)/\z.length<=16/\(ys.map (·.length)).sum+ys.length<=1048576/\Q (.str (Txt.join z ys)) H):=by
 intro pins s σ H x xs v us Q I rx rs h
 obtain⟨z,p,ys,rfl,rfl,hq,h1,h2,q⟩:=h
 obtain⟨t,rfl⟩:=rx
 obtain⟨u,rfl,e⟩:=vals1 rs
 cases e
 obtain⟨its,r,pl,hz⟩:=I.list hq
 exact join_listW pl.isList (pS r) h1 h2 fun t' k=>⟨.str _,H,I.tok _,⟨_,rfl⟩,q⟩
theorem qW5(hu:X.A.units<cLine):yP X (compareOp .Eq) (fun x y H Q=>∃p q xs,x= .ref p/\y= .ref q/\zS X.K H p xs/\zS X.K H q []/\Q (.bl xs.isEmpty) H):=by
 intro pins s σ H x y v u Q I rx ry h
 obtain⟨p,q',xs,rfl,rfl,h1,h2,q⟩:=h
 cases rx
 cases ry
 obtain⟨its,r1,p1,_⟩:=I.list h1
 obtain⟨its2,r2,p2,_⟩:=I.list h2
 cases r2
 cases r1 with
 |nil=>exact SeqAt.eq_listAt (e:=fun _=>true) p1.isList p2.isList rfl hu (fun j h _=>absurd h (by simp)) ⟨.bl true,H,I,rfl,q⟩
 |cons a b=>exact SeqAt.eq_list_lengthsAt p1.isList p2.isList (by simp) hu ⟨.bl false,H,I,rfl,q⟩
theorem qZ5:MtR X "list.count" (fun x xs H Q=>∃(p:Addr)(bs:List Bool)(k:Bool),x= .ref p/\xs=[.bl k]/\zS X.K H p (bs.map V.bl)/\Q (.int (bs.count k:Nat)) H):=by
 intro pins s σ H x xs v us Q I rx rs h
 obtain⟨p,bs,k,rfl,rfl,hq,q⟩:=h
 cases rx
 obtain⟨u,rfl,e⟩:=vals1 rs
 cases e
 obtain⟨its,rv,⟨⟨cls,dd,data,sl⟩,n,ho,hc,hd,hdata⟩,hz⟩:=I.list hq
 simp only at hc hd hdata
 subst hc hd hdata
 have fl:(bs.map V.bl).all yO=true:=by
  rw[List.all_eq_true];intro y hy
  obtain⟨b,_,rfl⟩:=List.mem_map.mp hy
  rfl
 refine call_meets PySem.F.slot_list_count ⟨_,ho,rfl⟩ PySem.F.entry_list_count (PySem.F.args_list_count_2 _ _) (SeqAt.list_countAt p its.toArray n none sl (.bool k) (dZ (.bl k))) ⟨ho,fun y hy=>vB (x:=.bl k) rfl rfl rv fl y (by simpa using hy),?_⟩
 have key:∀{bs:List Bool}{its:List Value},Vals (bs.map V.bl) its->its.countP (dZ (.bl k))=bs.count k:=by
  intro bs
  induction bs with
  |nil=>intro its r;rw[List.map_nil]at r;cases r;rfl
  |cons b bs ih=>
   intro its r
   rw[List.map_cons]at r
   cases r with
   |cons r1 r2=>
    cases r1
    rw[List.countP_cons,List.count_cons,ih r2]
    rfl
 refine⟨.int _,H,I.tok _,⟨_,rfl⟩,?_⟩
 rw[show its.toArray.toList=its from rfl,key rv]
 exact q
end
def oE(K:Fg)(a:Addr)(D:List (Str×V)):Prop:=
 (a==sysModules)=false/\∃o es ep,K.lookup a=some o/\o.ExactDict/\o.data= .dict es ep/\KTD.Rows zG es.toList D
section
variable {prog:Program} {w:World} {A:Around} {E:Value->Shared->Prop} {s:Shared} {a:Addr} {o:Obj} {es:Array DictEntry} {ep:Nat} {D:List (Str×V)} {k:Str} {tk:Tok}
theorem dL{Q:Option Value->Shared->Prop}(ho:s.heap.get? a=some o)(hd:o.data= .dict es ep)(hr:KTD.Rows zG es.toList D)
  (yes:∀v u,KTD.datumAt k D=some v->zG v u->Q (some u) {s with toks:=s.toks+1})(no:KTD.datumAt k D=none->Q none {s with toks:=s.toks+1}):
  wpAny (model prog w) A (dictGet a (.str k tk)) Q E s:=by
 have all:(es.all fun e=>isExactStrKey e.key)=true:=by
  obtain⟨l⟩:=es
  simpa using hr.exact
 have val:Q ((es.toList.find? fun e=>e.key.isStr k).map (·.val)) {s with toks:=s.toks+1}:=by
  cases q:KTD.datumAt k D with
  |some v=>
   obtain⟨u,hu,ru⟩:=hr.find_some q
   rw[hu];exact yes v u q ru
  |none=>rw[hr.find_none q];exact no q
 have same:(es.toList.find? fun e=>e.key.isStr k).map (·.val)=findBy (fun k v=>v.isStr k) es k:=by
  obtain⟨l⟩:=es
  simp[findBy]
 rw[same,findBy_of_findIdx?]at val
 unfold dictGet
 with_reducible refine wpAny_holding ?_
 refine wpAny_bind (wpAny_pyHash_str (wpAny_bind ?_))
 refine KTD.kt_dictFind_strs (s:={s with toks:=s.toks+1}) ho hd all ?_
 cases q:es.findIdx? fun e=>e.key.isStr k with
 |none=>
  rw[q]at val
  exact wpAny_pure val
 |some i=>
  rw[q]at val
  exact wpAny_bind (wpAny_dictEntries (s:={s with toks:=s.toks+1}) ho hd (wpAny_pure val))
theorem qH4{Q:Value->Shared->Prop}(lo:(a==sysModules)=false)(ho:s.heap.get? a=some o)(hc:o.ExactDict)(hd:o.data= .dict es ep)(hr:KTD.Rows zG es.toList D)
  (h:Q (.bool (KTD.inKeys k D)) {s with toks:=s.toks+1}):wpAny (model prog w) A (call (.builtin "dict.__contains__") [.ref a,.str k tk]) Q E s:=by
 refine wpAny_call_entry slot_dict_contains ⟨o,ho,hc.1⟩ entry_dict_contains ?_ (args_dict_contains _ _)
 show wpAny _ _ (dictGet a (.str k tk)>>=_) _ _ s
 refine wpAny_bind (dL ho hd hr (fun v u e _=>?_) fun e=>?_)
 ·have hb:KTD.inKeys k D=true:=by rw[<-KTD.isSome_datumAt,e];rfl
  rw[hb]at h
  exact wpAny_pure ⟨_,rfl,h⟩
 ·have hb:KTD.inKeys k D=false:=by rw[<-KTD.isSome_datumAt,e];rfl
  rw[hb]at h
  show wpAny _ _ (Builtin.Dict.pendingKey? a (.str k tk)>>=_) _ _ _
  exact wpAny_bind (wpAny_pendingKey_other lo (wpAny_pure ⟨_,rfl,h⟩))
end
section
variable {X:Cx}
theorem iA:yP X (compareOp .In) (fun x y H Q=>∃k a D,x= .str k/\y= .ref a/\oE X.K a D/\Q (.bl (KTD.inKeys k D)) H):=by
 intro pins s σ H x y v u Q I rx ry h
 obtain⟨k,a,D,rfl,rfl,⟨lo,o,es,ep,lk,hc,hd,hr⟩,q⟩:=h
 obtain⟨t,rfl⟩:=rx
 cases ry
 have ho:=I.kIn _ _ lk
 exact In_slot ⟨o,ho,hc.1⟩ slot_dict_contains (qH4 lo ho hc hd hr (wpAny_truthy_bool ⟨.bl _,H,I.tok _,rfl,q⟩))
theorem oJ:IxR X (fun x y H Q=>∃k a D v,x= .ref a/\y= .str k/\oE X.K a D/\KTD.datumAt k D=some v/\Q v H):=by
 intro value slice pins s σ H x y v u Q I rx ry h hs
 obtain⟨k,a,D,z,rfl,rfl,⟨lo,o,es,ep,lk,hc,hd,hr⟩,hk,q⟩:=h
 cases rx
 obtain⟨t,rfl⟩:=ry
 have ho:=I.kIn _ _ lk
 obtain⟨u0,hu0,ru0⟩:=hr.find_some hk
 refine subscriptTail_builtinR (x:=u0) (T:="dict") ⟨o,ho,hc.1⟩ slot_dict_getitem.lookup (getItem_slot (T:="dict") ⟨o,ho,hc.1⟩ (by decide) slot_dict_getitem ?_) hs
 refine wpAny_call_entry slot_dict_getitem ⟨o,ho,hc.1⟩ entry_dict_getitem ?_ (args_dict_getitem _ _)
 show wpAny _ _ (dictGet a (.str k t)>>=_) _ _ s
 have all:(es.all fun e=>isExactStrKey e.key)=true:=by
  obtain⟨l⟩:=es
  simpa using hr.exact
 have same:(es.toList.find? fun e=>e.key.isStr k).map (·.val)=findBy (fun k v=>v.isStr k) es k:=by
  obtain⟨l⟩:=es
  simp[findBy]
 rw[same,findBy_of_findIdx?]at hu0
 refine wpAny_bind ?_
 unfold dictGet
 with_reducible refine wpAny_holding ?_
 refine wpAny_bind (wpAny_pyHash_str (wpAny_bind ?_))
 refine KTD.kt_dictFind_strs (s:={s with toks:=s.toks+1}) ho hd all ?_
 cases e:es.findIdx? fun e=>e.key.isStr k with
 |none=>rw[e]at hu0;cases hu0
 |some i=>
  rw[e]at hu0
  refine wpAny_bind (wpAny_dictEntries (s:={s with toks:=s.toks+1}) ho hd (wpAny_pure ?_))
  have e2:es[i]?.map (·.val)=some u0:=hu0
  rw[e2]
  exact wpAny_pure ⟨_,rfl,rfl,z,H,I.tok _,ru0,q⟩
end
def vG(X:Cx)(scope:Scope)(cl:List (Str×Addr))(Nb:List Str)(C:Addr)(s:Shared)(H:Hp)(fp:List Addr)(pins:List (Addr×Obj)):Cx:=
 {X with env:=compEnvC scope cl C X.env,N:=Nb,s₀:=s,H₀:=H,outer:=X.stack,ex:=fp,fn:=fun _=>false,pn:=X.pn++pins,xe:=fun _ _=>False}
section
variable {X:Cx} {scope:Scope} {cl:List (Str×Addr)} {x:Str} {rest:List Str} {ix:List Nat}
theorem oF(g:Str->NameKind->NameKind):∀(names:List (Str×NameKind))(y:Str),(names.map fun p=>(p.1,g p.1 p.2)).lookup y=(names.lookup y).map (g y)
 |[],_=>rfl
 |(n,k)::r,y=>by
  have ih:=oF g r y
  rw[List.map_cons]
  cases hy:y==n with
  |true=>
   have e:y=n:=beq_iff_eq.mp hy
   subst e
   simp only[List.lookup_cons,beq_self_eq_true,Option.map_some]
  |false=>simp only[List.lookup_cons,hy];exact ih
theorem wG(env:Env)(names:List (Str×NameKind))(y:Str):
  (names.map fun(n,k)=>if(k==NameKind.free&&env.scope.kind== .function&&env.kindOf n==some .cell)then(n,NameKind.cell)else(n,k)).lookup y=
   (names.lookup y).map fun k=>if(k==NameKind.free&&env.scope.kind== .function&&env.kindOf y==some .cell)then NameKind.cell else k:=by
 rw[<-oF (fun y k=>if(k==NameKind.free&&env.scope.kind== .function&&env.kindOf y==some .cell)then NameKind.cell else k)]
 congr 1
 refine List.map_congr_left fun p _=>?_
 obtain⟨n,k⟩:=p
 dsimp only
 split<;>rfl
theorem uJ{C:Addr}{y:Str}{k:NameKind}(h:(compEnvC scope cl C X.env).kindOf y=some k)(hk:k= .cell\/k= .free)(hcell:∀y∈scope.names,y.2≠ .cell):scope.names.lookup y=some .free:=by
 have e:(compEnvC scope cl C X.env).kindOf y=(scope.names.lookup y).map fun k=>if(k==NameKind.free&&X.env.scope.kind== .function&&X.env.kindOf y==some .cell)then NameKind.cell else k:=wG X.env scope.names y
 rw[e]at h
 cases q:scope.names.lookup y with
 |none=>rw[q]at h;cases h
 |some k0=>
  rw[q]at h
  simp only[Option.map_some,Option.some.injEq]at h
  by_cases hc:(k0==NameKind.free&&X.env.scope.kind== .function&&X.env.kindOf y==some .cell)=true
  ·have :k0= .free:=by
    rw[Bool.and_eq_true,Bool.and_eq_true]at hc
    exact beq_iff_eq.mp hc.1.1
   rw[this]
  ·rw[if_neg hc]at h
   subst h
   rcases hk with rfl|rfl
   ·exact absurd rfl (hcell (y,.cell) (PySem.mem_of_lookup q))
   ·rfl
theorem dG{σ:St}:∀{ix:List Nat}{j i:Nat},ix[j]? =some i->(ix.map fun i=>σ.getD i none)[j]? =some (σ.getD i none):=fun {ix j i}h=>by
 rw[aq19,h];rfl
end
structure vX(k:Nat)(A:Around):Prop where
 dp:A.depth+3*k+5<recursionLimit
 un:A.units+16*k+200<cLine
theorem Room.s{k:Nat}{A:Around}(r:Room k A):vX k A:=⟨r.dp,r.un⟩
theorem vX.mono{j k:Nat}{A:Around}(r:vX k A)(h:j<=k):vX j A:=⟨by have :=r.dp;omega,by have :=r.un;omega⟩
theorem vX.mark{k:Nat}{A:Around}(r:vX k A)(v:Option Value):vX k (A.mark v):=⟨r.dp,r.un⟩
theorem vX.deeper{k:Nat}{A:Around}(r:vX (k+1) A)(env:Env):vX k (A.deeper env):=
 ⟨by have :=r.dp;show A.depth+1+3*k+5<_;omega,by have :=r.un;show A.units+3+16*k+200<_;omega⟩
theorem Inv.re{X:Cx}{pins:List (Addr×Obj)}{σ:St}{H:Hp}{s:Shared}{A':Around}{cm:Bool}{E':Value->Shared->Prop}(I:Inv X pins σ H s)(hd:cm=true->A'.handled=none)(fr:A'.frames=X.A.frames):
  Inv {X with A:=A',calm:=cm,xe:=E'} pins σ H s:=
 ⟨⟨I.ok.mod,I.ok.kind,I.ok.glob,I.ok.blt,I.ok.above,I.ok.inj,I.ok.has,I.ok.cab,hd,fr.trans I.ok.frames,I.ok.stk,I.ok.exf,I.ok.bs,I.ok.bsz,I.ok.noex,I.ok.exfs,I.ok.funs,I.ok.frf⟩,
  I.os,I.bare,I.base,I.loc,I.cell,I.free,I.freeC,I.pin,I.hok,I.len⟩
def tX(CX:CXT)(P:Program)(w:World)(K:Fg)(mg:Str->Option Value)(base:Heap)(N:List Str)(qual:Str)(scope:Scope)(f:Addr)(cd:Value)(A:Around)(outer:List Env)(s:Shared)(H:Hp)(E:XK):Cx:=
 {kD CX P w K mg base N qual scope f cd A outer s H E with calm:=false}
structure lP(P:Program)(w:World)(K:Fg)(mg:Str->Option Value)(base:Heap)(CX:CXT)(k:Nat)(f:Addr)(fd:FuncData)(ps:List Str)(sp:Sp):Prop where
 len:∀vs H Q E,sp vs H Q E->vs.length=ps.length
 run:∀(A:Around)(outer:List Env)(s:Shared)(H:Hp)(args:Args)(us:List Value)(vs:List V)(Q:VK)(E:XK),vX k A->Env0 P w K mg base A outer s H->BindsTo s fd args (ps.zip us)->Vals vs us->sp vs H Q E->
  codeAny (model P w) A (.call (.ref f) args) (CR CX outer P w H s Q E) s
theorem zW3{CX:CXT}{P:Program}{w:World}{K:Fg}{mg:Str->Option Value}{base:Heap}{k:Nat}{f:Addr}{name qual:Str}{params:Arguments}{body:List Stmt}{scope:Scope}{dV kV doc pm cdv ct oc:Value}{an od:Option Addr}
  {osl:Array (Option Value)}{N ps:List Str}{sp:Sp}(lk:K.lookup f=some ⟨oc,od,.func (PySem.W.fnOf name qual params body scope dV kV doc pm an cdv ct),osl⟩)(hcd:PySem.W.codeIn K cdv qual=true)(S:qC N ps scope)
  (len:∀vs H Q E,sp vs H Q E->vs.length=ps.length)
  (hbody:∀(A:Around)(outer:List Env)(s:Shared)(H:Hp)(vs:List V)(Q:VK)(E:XK),vX k (A.deeper (envOfC qual scope s.heap.objs.size f cdv))->sp vs H Q E->
   ∃t,PSs (tX CX P w K mg base N qual scope f cdv A outer s H E) body t/\t {nx:=fun _ H'=>Q .non H',rt:=Q} (start N vs) H):
  lP P w K mg base CX (k+1) f (PySem.W.fnOf name qual params body scope dV kV doc pm an cdv ct) ps sp:=by
 refine⟨len,fun A outer s H args us vs Q E hr e0 hb r hsp=>?_⟩
 have hl:=len _ _ _ _ hsp
 have keep:∀b o,base.get? b=some o->s.heap.get? b=some o:=fun b o e=>(e0.bs b o e).1
 have KX:K.In s.heap:=e0.mod.kin.keeps keep
 have hkind:∀y∈ps.zip us,scope.names.lookup y.1=some .local\/(scope.names.lookup y.1=some .cell/\((cellsFrom (s.heap.objs.size+1) scope.names []).lookup y.1).isSome=true):=fun y hy=>by
  obtain⟨n,v⟩:=y
  rcases S.par n (List.of_mem_zip hy).1 with q|q
  ·exact .inl q
  ·exact .inr ⟨q,PySem.W.cellsFrom_some _ _ _ (.inl q)⟩
 refine codeAny_call_function (by have :=hr.dp;omega) (KX _ _ lk) rfl S.co S.gen rfl (PySem.W.codeRec_of KX hcd) (hb _ _ _ _ (wpAny_newFunctionEnv_cells S.kind hkind fun env he s1 x=>?_))
 subst he
 refine⟨(e0.mod.nolimit.keeps keep).keeps x.toInCall.keep,codeAny_func ?_⟩
 obtain⟨t,ht,hq⟩:=hbody A outer s H vs Q E (hr.deeper _) hsp
 have e1:Env0 P w K mg base {A with handled:=none} outer s H:=⟨e0.frames,e0.mod,e0.bs,e0.bsz,e0.funs,e0.frf,e0.hok,e0.bare⟩
 have I0:=lN (CX:=CX) (qual:=qual) (f:=f) (cd:=cdv) (E:=E) S (A:={A with handled:=none}) rfl e1 hl r x
 have I:Inv (tX CX P w K mg base N qual scope f cdv A outer s H E) [] (start N vs) H s1:=I0.re (A':=A.deeper (envOfC qual scope s.heap.objs.size f cdv)) (cm:=false) (fun h=>by cases h) rfl
 refine wpAny_mono (ht [] s1 (start N vs) H _ I hq) (fun fl s' hs=>?_) fun e s' hs=>hs
 have fin:∀{σ':St}{H':Hp}{v:V}{u:Value},Inv (tX CX P w K mg base N qual scope f cdv A outer s H E) [] σ' H' s'->zG v u->Q v H'->CE outer P w H s Q u s':=
  fun {σ' H' v u}J rv q=>⟨v,H',J.os,J.bare,J.base,J.hok,rv,q⟩
 cases fl with
 |ret u=>
  obtain⟨v,σ',H',J,rv,q⟩:=hs
  exact fin J rv q
 |next=>
  obtain⟨σ',H',J,q⟩:=hs
  exact fin (v:=V.non) (u:=Value.none) J rfl q
 |brk=>exact(hs.elim fun _ z=>z.elim fun _ z=>z.2).elim
 |cont=>exact(hs.elim fun _ z=>z.elim fun _ z=>z.2).elim
section
variable {X:Cx} {CX:CXT} {k:Nat} {f C:Addr} {fd:FuncData} {ps:List Str} {sp:Sp} {dvs:List V} {ds:List Value} {E:XK} {x m:Str} {p pos apos:Pos} {e o:Expr} {es:List Expr} {ta:TE} {t:TA}
theorem qH5{pins:List (Addr×Obj)}{σ:St}{H:Hp}{s:Shared}{Q:VK}{us:List Value}{vs:List V}(F:lP X.prog X.w X.K X.mg X.base CX k f fd ps sp)(hr:vX k X.A)(hb:Binds X.K fd ps ds)(hd:Vals dvs ds)(hx:Passes CX X E)
  (I:Inv X pins σ H s)(r:Vals vs us)(h:sp (vs++dvs) H Q E):wpAny (model X.prog X.w) X.A (call (.ref f) us) (EP X pins σ Q) X.xe s:=by
 have r2:Vals (vs++dvs) (us++ds):=r.append hd
 have hl:(us++ds).length=ps.length:=r2.length.symm.trans (F.len _ _ _ _ h)
 refine wpAny_call (codeAny_mono (F.run X.A X.stack s H ⟨us,[]⟩ (us++ds) (vs++dvs) Q E hr I.env0 (hb s us I.kIn hl) r2 h) fun r s' hq=>?_)
 cases r with
 |error e=>exact hx pins σ H s e s' I hq
 |ok fl=>
  cases fl with
  |ret u=>exact I.after hq
  |next=>exact False.elim hq
  |brk=>exact False.elim hq
  |cont=>exact False.elim hq
theorem iE(F:lP X.prog X.w X.K X.mg X.base CX k f fd ps sp)(hr:vX k X.A)(hg:Gl X x)(hm:X.mg x=some (.ref f))(hk:PySem.W.keepIn X.K (.ref f)=true)(hb:Binds X.K fd ps ds)(hd:Vals dvs ds)(hx:Passes CX X E)
  (ha:PA X (e::es) t)(hdb:(x==("__debug__":Str))=false:=by decide)(he:starEach (e::es) X.env=(false,eval e X.env)::starEach es X.env:=by rfl)(hpl:(backTo pos (starEach es X.env)).any (·.1)=false:=by rfl):
  PE X (.Call (.Name x p) (e::es) [] pos) (kS sp dvs E t):=by
 intro pins s σ H Q I h
 refine wpAny_Call_Name_kw (kT I hg hm ?_ hdb)
 exact PySem.W.callWith_K (h₀:=X.base) I.ok.mod.kin hk (thn (ha pos pins s σ H _ I h) fun us s1⟨vs,H1,I1,r,q⟩=>⟨I1.kIn,qH5 F hr hb hd hx I1 r q⟩) he hpl
end
structure zK(K:Fg)(x qual:Str)(st:Stmt)(dV:Value)(f:Addr)(fd:FuncData):Prop where
 ex:∃(oc:Value)(od:Option Addr)(kV doc pm:Value)(an:Option Addr)(cdv ct:Value)(osl:Array (Option Value)),
  fd=PySem.W.fnOf x qual (mI st) (kE st) (qU st) dV kV doc pm an cdv ct/\K.lookup f=some ⟨oc,od,.func fd,osl⟩/\PySem.W.codeIn K cdv qual=true
 kp:PySem.W.keepIn K (.ref f)=true
section
variable {P:Program} {w:World} {K:Fg} {mg:Str->Option Value} {base:Heap} {x qual:Str} {st:Stmt} {dV:Value} {f:Addr} {fd:FuncData} {N ps:List Str} {k:Nat} {sp:Sp}
theorem zD{X:Cx}:Passes (CXE P w) X E0:=fun _ _ _ _ _ _ _ h=>by
 obtain⟨_,_,_,_,_,_,_,_,_,_,_,_,_,_,_,_,z⟩:=h
 exact z.elim
theorem zK.okE(F:zK K x qual st dV f fd)(S:qC N ps (qU st))(len:∀vs H Q E,sp vs H Q E->vs.length=ps.length)
  (hbody:∀(cdv:Value)(A:Around)(outer:List Env)(s:Shared)(H:Hp)(vs:List V)(Q:VK)(E:XK),Room k (A.deeper (envOfC qual (qU st) s.heap.objs.size f cdv))->sp vs H Q E->
   ∃t,PSs (kD (CXE P w) P w K mg base N qual (qU st) f cdv A outer s H E) (kE st) t/\t {nx:=fun _ H'=>Q .non H',rt:=Q} (start N vs) H):zQ P w K mg base (CXE P w) (k+1) f fd ps sp:=by
 obtain⟨oc,od,kV,doc,pm,an,cdv,ct,osl,rfl,lk,hcd⟩:=F.ex
 exact zB2 lk hcd S len fun A outer s H vs Q E hr hsp=>hbody cdv A outer s H vs Q E hr hsp
theorem zK.ok0(F:zK K x qual st dV f fd)(S:qC N ps (qU st))(len:∀vs H Q E,sp vs H Q E->vs.length=ps.length)
  (hbody:∀(cdv:Value)(A:Around)(outer:List Env)(s:Shared)(H:Hp)(vs:List V)(Q:VK)(E:XK),Room k (A.deeper (envOfC qual (qU st) s.heap.objs.size f cdv))->sp vs H Q E->
   ∃t,PSs (kD (CXE P w) P w K mg base N qual (qU st) f cdv A outer s H E).nox (kE st) t/\t {nx:=fun _ H'=>Q .non H',rt:=Q} (start N vs) H):zQ P w K mg base (CXE P w) (k+1) f fd ps sp:=
 F.okE S len fun cdv A outer s H vs Q E hr hsp=>let⟨t,h,q⟩:=hbody cdv A outer s H vs Q E hr hsp;⟨t,h.nox,q⟩
theorem zK.okS(F:zK K x qual st dV f fd)(S:qC N ps (qU st))(len:∀vs H Q E,sp vs H Q E->vs.length=ps.length)
  (hbody:∀(cdv:Value)(A:Around)(outer:List Env)(s:Shared)(H:Hp)(vs:List V)(Q:VK)(E:XK),vX k (A.deeper (envOfC qual (qU st) s.heap.objs.size f cdv))->sp vs H Q E->
   ∃t,PSs (tX (CXE P w) P w K mg base N qual (qU st) f cdv A outer s H E).nox (kE st) t/\t {nx:=fun _ H'=>Q .non H',rt:=Q} (start N vs) H):lP P w K mg base (CXE P w) (k+1) f fd ps sp:=by
 obtain⟨oc,od,kV,doc,pm,an,cdv,ct,osl,rfl,lk,hcd⟩:=F.ex
 exact zW3 lk hcd S len fun A outer s H vs Q E hr hsp=>let⟨t,h,q⟩:=hbody cdv A outer s H vs Q E hr hsp;⟨t,h.nox,q⟩
theorem zK.binds{ds:List Value}(F:zK K x qual st dV f fd)
  (h:∀(kV doc pm:Value)(an:Option Addr)(cdv ct:Value)(s:Shared)(us:List Value),K.In s.heap->(us++ds).length=ps.length->BindsTo s (PySem.W.fnOf x qual (mI st) (kE st) (qU st) dV kV doc pm an cdv ct) ⟨us,[]⟩ (ps.zip (us++ds))):Binds K fd ps ds:=by
 obtain⟨oc,od,kV,doc,pm,an,cdv,ct,osl,rfl,lk,hcd⟩:=F.ex
 exact fun s us X hl=>h kV doc pm an cdv ct s us X hl
end
def XP(X:Cx)(pins:List (Addr×Obj))(σ:St)(E:XK)(x:Value)(s':Shared):Prop:=∃(e C t T:Addr)(d:Option Addr)(H':Hp),x= .ref e/\Inv X pins σ H' s'/\H' e=some (yN false C t d e)/\vI X pins H' T/\
 XA.Fly s'.heap e (.ref C) d (.ref t) (some T) .none/\E (.ref C) (some e) H'
abbrev TEx:=St->Hp->VK->XK->Prop
def PEx(X:Cx)(e:Expr)(t:TEx):Prop:=
 ∀(pins:List (Addr×Obj))(s:Shared)(σ:St)(H:Hp)(Q:VK)(E:XK),Inv X pins σ H s->t σ H Q E->wpAny (model X.prog X.w) X.A (eval e X.env) (EP X pins σ Q) (XP X pins σ E) s
abbrev TSx:=Ends->XK->St->Hp->Prop
def PSx(X:Cx)(st:Stmt)(t:TSx):Prop:=
 ∀(pins:List (Addr×Obj))(s:Shared)(σ:St)(H:Hp)(D:Ends)(E:XK),Inv X pins σ H s->t D E σ H->wpAny (model X.prog X.w) X.A (exec st X.env) (SP X pins D) (XP X pins σ E) s
section
variable {X:Cx} {k:Nat} {f:Addr} {fd:FuncData} {ps:List Str} {sp:Sp} {dvs:List V} {ds:List Value} {E:XK} {x:Str} {p pos:Pos} {e:Expr} {es:List Expr} {t:TA}
theorem Inv.xp{pins:List (Addr×Obj)}{σ:St}{H:Hp}{s s':Shared}{v:Value}(I:Inv X pins σ H s)(h:CXE X.prog X.w X.stack H s E v s'):XP X pins σ E v s':=by
 obtain⟨e,C,t,T,d,H',rfl,os,bare,un,hok,he,hn,hT,hTn,fx,hE⟩:=h
 exact⟨e,C,t,T,d,H',rfl,I.call' (ch:=[]) os un hok bare (fun b z=>absurd z (by simp)),he,I.fpOk hT hTn,fx,hE⟩
theorem qW6{t:TEx}(he:PEx X e t):PSx X (.Return (some e) pos) (fun D E σ H=>t σ H D.rt E):=by
 intro pins s σ H D E I h
 exact wpAny_Return_some (thn (he pins s σ H _ E I h) fun v s1⟨x,H1,I1,r1,q1⟩=>⟨x,σ,H1,I1,r1,q1⟩)
end
abbrev Cx.suite(X:Cx)(e:Addr):Cx:={X with A:=X.A.mark (some (.ref e)),calm:=false,xe:=fun _ _=>False}
theorem qW7{H:Hp}{e:Addr}{o:HO}(h:H e=some o):upd H e o=H:=by
 funext b
 by_cases z:b=e
 ·subst z;rw[qJ,h]
 ·rw[qL z]
section
variable {X:Cx} {pins:List (Addr×Obj)} {σ:St} {H:Hp} {s:Shared} {e C t T:Addr} {d:Option Addr} {Q:Unit->Shared->Prop} {E:Value->Shared->Prop}
theorem Inv.noted(I:Inv X pins σ H s)(hstk:X.stack=X.env::X.outer)(hfr:X.env.frame=some X.env.locals)(he:H e=some (yN false C t d e))(hT:vI X pins H T)(fx:XA.Fly s.heap e (.ref C) d (.ref t) (some T) .none)
  (h:∀s' T',Inv X pins σ H s'->vI X pins H T'->XA.Fly s'.heap e (.ref C) d (.ref t) (some T') .none->Q () s'):
  wpAny (model X.prog X.w) X.A (noteFrame (.ref e) X.env) (fun _ s2=>wpAny (model X.prog X.w) X.A (setFlight (.ref e) none) Q E s2) E s:=by
 have fr:=I.ok.frames
 have st:=I.stack
 rw[hstk]at fr st
 refine XA.note_x fr st hfr fx fun h1 T1 hn f1 k1=>XA.flight_some (s:={s with heap:=h1}) f1 fun h2 f2 k2 k3=>?_
 have frs_eq:((X.env::X.outer).filterMap (·.frame))=frs X.stack:=by rw[hstk];rfl
 rw[frs_eq]at k1
 obtain⟨t0,t1,t2,t3,t4,t5⟩:=hT
 have nT1:∀b o,s.heap.get? b=some o->b≠T1:=fun b o q z=>by subst z;exact absurd (aq8 q) (Nat.not_lt.mpr hn)
 have ee:upd H e (yN false C t d e)=H:=qW7 he
 have ne:∀b u',H b=some u'->(∀φ,u'≠ .ext φ)->b≠e:=fun b u' r n z=>by subst z;rw[he]at r;exact n _ (Option.some.inj r).symm
 have un:Un (frs X.stack) [T] H H s.heap h2:=
  ⟨fun b o q n hb hx=>k2 b o (nT1 b o q) (k1.keep b o (fun z=>by subst z;rw[he]at n;cases n) (fun z=>hx (by simpa using z)) hb q),
   fun b o q n hb hx=>(by
    obtain⟨sl,r⟩:=k1.slot b o (fun z=>by subst z;rw[he]at n;cases n) (fun z=>hx (by simpa using z)) q
    exact⟨sl,k2 b _ (nT1 b o q) r⟩),
   fun b o q n hx=>n,fun b o q hx=>(by
    obtain⟨o',r⟩:=k1.there b o q
    exact k3 b o' r),fun b xs q=>q,fun b o u q=>q,fun b ps q=>⟨#[],by simpa using q⟩⟩
 have hok:HOk X.prog X.w H h2:=by
  have :=I.hok.flies he f2 fun b o hb hn' q=>(by
   refine k2 b o (nT1 b o q) (k1.keep b o hb (fun z=>hn' (by have z':=Option.some.inj z;rw[z'];exact t0)) (fun hm=>hn' (I.stkFree b hm)) q))
  rw[ee]at this;exact this
 have J:Inv X pins σ H {s with heap:=h2}:=I.call' (s':={s with heap:=h2}) (ch:=[T]) rfl un hok I.bare fun b hb=>by
  have z:b=T:=by simpa using hb
  subst z
  exact⟨t3,t1,t4,t5⟩
 exact h _ T1 J (I.fpOk hn (I.hok.fresh hn)) f2
end
theorem Inv.forgot{X:Cx}{pins:List (Addr×Obj)}{σ:St}{H:Hp}{s:Shared}{h':Heap}{m':Str->Option Value}{tk:Nat}(I:Inv X pins σ H s)(hn:h'.Ns X.env.locals m')(hs:Heap.SameBut X.env.locals s.heap h'):
  Inv X pins (List.replicate X.N.length none) H {s with heap:=h',toks:=tk}:=by
 have nL:∀b o,X.s₀.heap.get? b=some o->b≠X.env.locals:=fun b o e=>aq9 (Nat.lt_of_lt_of_le (aq8 e) I.ok.above)
 refine⟨I.ok,I.os,I.bare,⟨fun b o e n hb hx=>(hs.2 b (nL b o e)).trans (I.base.keep b o e n hb hx),fun b o e n hb hx=>?_,I.base.free,fun b o e hx=>?_,I.base.tups,I.base.frzs,I.base.tbls⟩,⟨m',hn,fun j y v e1 e2 e3=>?_⟩,fun y c e=>?_,I.free,I.freeC,fun p hp=>?_,fun b u e=>?_,by rw[List.length_replicate]⟩
 ·obtain⟨sl,z⟩:=I.base.slot b o e n hb hx
  exact⟨sl,(hs.2 b (nL b o e)).trans z⟩
 ·obtain⟨o',z⟩:=I.base.there b o e hx
  exact⟨o',(hs.2 b (nL b o e)).trans z⟩
 ·rw[List.getElem?_replicate]at e2
  split at e2<;>cases e2
 ·obtain⟨w,z⟩:=I.cell y c e
  exact⟨w,z.sameBut hs (I.cne y c e)⟩
 ·obtain⟨e,n,ne,nf,d⟩:=I.pin p hp
  exact⟨(hs.2 p.1 ne).trans e,n,ne,nf,d⟩
 ·refine(I.hok b u e).stay (fun c v hc z=>(hs.2 c (fun zz=>?_)).trans z) (fun _ z=>z) fun _ _ z=>z
  rcases hc with y|y
  ·rw[<-y,zz,I.free]at e;cases e
  ·rw[zz,I.free]at y;cases y
def zB8(K:Fg)(ts:Addr->TS)(i:Nat)(Cd:Addr)(D:Ends)(σ:St):XK:=fun cls oe H1=>∃e C bm,cls= .ref C/\oe=some e/\XC K C bm/\(Value.ref C::bm).contains (.ref Cd)=true/\
 ts e {nx:=fun _ _=>False,rt:=D.rt} (σ.set i (some (.ref e))) H1
def zTz(K:Fg)(tb:TSx)(ts:Addr->TS)(i:Nat)(Cd:Addr):TS:=fun D σ H=>tb D (zB8 K ts i Cd D σ) σ H
section
variable {X:Cx}
theorem zW4{st b₀:Stmt}{tb:TSx}{c n:Str}{i:Nat}{suite:List Stmt}{ts:Addr->TS}{Cd:Addr}{bmD:List Value}{p hp pos:Pos}(hstk:X.stack=X.env::X.outer)(hfr:X.env.frame=some X.env.locals)(hb:PSx X st tb)
  (hg:Gl X c)(hm:X.mg c=some (.ref Cd))(xd:XC X.K Cd bmD)(hN:X.N.Nodup)(hi:X.N[i]? =some n)(hl:X.env.scope.names.lookup n=some .local)
  (hs:∀e,PSs (X.suite e) (b₀::suite) (ts e))(hdb:(c==("__debug__":Str))=false:=by decide):
  PS X (.Try [st] [.ExceptHandler (some (.Name c p)) (some n) (b₀::suite) hp] [] [] pos) (zTz X.K tb ts i Cd):=by
 intro pins s σ H D I h
 refine wpAny_Try_except (wpAny_mono (Q:=SP X pins D) (E:=XP X pins σ (zB8 X.K ts i Cd D σ)) ?_ (fun f s1 q=>?_) fun x s1 hx=>?_)
 rotate_left
 ·cases f with
  |next=>exact wpAny_execs_nil q
  |ret u=>exact q
  |brk=>exact q
  |cont=>exact q
 rotate_right
 ·refine wpAny_execs_cons (thn (hb pins s σ H D _ I h) fun f s1 q=>?_)
  cases f with
  |next=>exact wpAny_execs_nil q
  |ret u=>exact q
  |brk=>exact q
  |cont=>exact q
 ·obtain⟨e,C,t,T,d,H1,rfl,I1,he,hT,fx,e',C',bm,e1,e2,xc,hcon,q⟩:=hx
  cases e1
  cases e2
  refine thn (I1.noted hstk hfr he hT fx (Q:=fun _ s2=>_) fun s2 T2 I2 hT2 fx2=>?_) fun _ _ z=>z
  have J2:Inv (X.suite e) pins σ H1 s2:=I2.re (fun h=>by cases h) rfl
  refine XA.handle_as (kT (X:=X.suite e) J2 hg hm ?_ hdb)
  obtain⟨nm,qq,N',bs,sn,sub,ab,col,dd,k0,k1,k2,k3,k5,lC⟩:=xc.obj
  obtain⟨nm',qq',N'',bs',sn',sub',ab',col',dd',j0,j1,j2,j3,j5,lD⟩:=xd.obj
  obtain⟨vs',sl,ho,hz6,h0,h1⟩:=iV (I2.hok e _ he)
  have KX:=I2.kIn
  obtain⟨hh,g,dr,tk,os⟩:=s2
  refine XA.matches_x (KX _ _ lC) (KX _ _ lD) ho rfl xd.ab.base hcon ⟨rfl,?_⟩
  refine XA.flight_some fx2 fun h3 f3 k3' k4=>?_
  obtain⟨t0,t1,t2,t3,t4,t5⟩:=hT2
  have J3:Inv (X.suite e) pins σ H1 ⟨h3,g,dr,tk,os⟩:=J2.turned (t':=tk) (fun b o hb q=>k3' b o hb q) t0 t1 t3 t4 t5
  refine wI (X:=X.suite e) J3 hN hi (.inl hl) (v:=.ref e) rfl (fun s4 J4=>?_) (.inr hl)
  refine wpAny_mono (hs e pins s4 _ H1 _ J4 q) (fun f s5 r5=>?_) fun _ _ z=>z
  cases f with
  |next=>obtain⟨_,_,_,z⟩:=r5;exact z.elim
  |brk=>obtain⟨_,_,_,z⟩:=r5;exact z.elim
  |cont=>obtain⟨_,_,_,z⟩:=r5;exact z.elim
  |ret u=>
   obtain⟨v,σ5,H5,J5,rv,q5⟩:=r5
   obtain⟨m,hn,_⟩:=J5.loc
   have hcls:(X.env.scope.kind== .class||(X.env.scope.kind== .module&&X.env.locals !=X.env.globals))=false:=by rw[I.ok.kind];rfl
   have K5:Inv X pins σ5 H5 s5:=J5.re (X:=X.suite e) (A':=X.A) (cm:=X.calm) (E':=X.xe) I.ok.hd rfl
   exact wpAny_nameGoes hl hn hcls fun h6 m6 hn6 hs6=>⟨v,_,H5,K5.forgot hn6 hs6,rv,q5⟩
end
end L2
namespace L2
open PySem PySem.Spec PyProof.Rows
section
variable {κ:Type} [DecidableEq κ]
def xT(kvs:List (κ×V))(k:κ):Option V:=(kvs.find? fun kv=>decide (kv.1=k)).map (·.2)
def vK(kvs:List (κ×V))(k:κ)(v:V):List (κ×V):=
 if(kvs.any fun kv=>decide (kv.1=k))=true then kvs.map (fun kv=>if kv.1=k then(kv.1,v)else kv)else kvs++[(k,v)]
theorem qW8{k:κ}:xT ([]:List (κ×V)) k=none:=rfl
theorem xZ{p:κ×V}{r:List (κ×V)}{k:κ}(e:p.1=k):xT (p::r) k=some p.2:=by simp[xT,List.find?_cons,e]
theorem xJ{p:κ×V}{r:List (κ×V)}{k:κ}(e:¬p.1=k):xT (p::r) k=xT r k:=by simp[xT,List.find?_cons,e]
theorem wM(k:κ):∀kvs:List (κ×V),(kvs.any fun kv=>decide (kv.1=k))=(xT kvs k).isSome
 |[]=>rfl
 |p::r=>by
  rw[List.any_cons]
  by_cases e:p.1=k
  ·simp only[xZ e,decide_eq_true e,Bool.true_or,Option.isSome_some]
  ·rw[xJ e,decide_eq_false e,Bool.false_or];exact wM k r
theorem dM(k j:κ)(y:V):∀kvs:List (κ×V),xT (kvs.map fun kv=>if kv.1=k then(kv.1,y)else kv) j=(xT kvs j).map fun x=>if j=k then y else x
 |[]=>rfl
 |p::r=>by
  have ih:=dM k j y r
  rw[List.map_cons]
  by_cases h:p.1=k
  ·rw[if_pos h]
   by_cases e:p.1=j
   ·rw[xZ (p:=(p.1,y)) e,xZ e,Option.map_some,if_pos (e.symm.trans h)]
   ·rw[xJ (p:=(p.1,y)) e,xJ e,ih]
  ·rw[if_neg h]
   by_cases e:p.1=j
   ·rw[xZ (p:=p) e,xZ e,Option.map_some,if_neg (fun z=>h (e.trans z))]
   ·rw[xJ (p:=p) e,xJ e,ih]
theorem lR(k j:κ)(y:V):∀kvs:List (κ×V),xT kvs k=none->xT (kvs++[(k,y)]) j=if j=k then some y else xT kvs j
 |[],_=>by
  by_cases e:k=j
  ·rw[if_pos e.symm];exact xZ (p:=(k,y)) e
  ·rw[if_neg (fun z=>e z.symm)];exact xJ (p:=(k,y)) e
 |p::r,hn=>by
  rw[List.cons_append]
  have hk:¬p.1=k:=fun z=>by rw[xZ z]at hn;cases hn
  rw[xJ hk]at hn
  have ih:=lR k j y r hn
  by_cases e:p.1=j
  ·rw[xZ e,xZ e,if_neg (fun z=>hk (e.trans z))]
  ·rw[xJ e,xJ e,ih]
theorem cQ(kvs:List (κ×V))(k j:κ)(y:V):xT (vK kvs k y) j=if j=k then some y else xT kvs j:=by
 unfold vK
 by_cases a:(kvs.any fun kv=>decide (kv.1=k))=true
 ·rw[if_pos a,dM]
  rw[wM]at a
  by_cases e:j=k
  ·obtain⟨x,hx⟩:=Option.isSome_iff_exists.mp a
   rw[if_pos e,e,hx,Option.map_some,if_pos rfl]
  ·rw[if_neg e]
   cases xT kvs j with
   |none=>rfl
   |some x=>rw[Option.map_some,if_neg e]
 ·rw[if_neg a]
  refine lR k j y kvs ?_
  rw[wM]at a
  cases q:xT kvs k with
  |none=>rfl
  |some x=>rw[q]at a;exact(a rfl).elim
theorem kG(kvs:List (κ×V))(k:κ)(v:V):(vK kvs k v).length<=kvs.length+1:=by
 unfold vK
 split
 ·rw[aq16];omega
 ·rw[List.length_append,aq17,List.length_nil];omega
theorem qW9{kvs:List (κ×V)}{k:κ}(v:V)(h:xT kvs k=none):vK kvs k v=kvs++[(k,v)]:=by
 unfold vK
 rw[wM,h]
 exact if_neg (by decide)
theorem wO.isSome_eq{o:Option V}{u:Option Value}(r:wO o u):o.isSome=u.isSome:=by
 cases o with
 |none=>cases u with
  |none=>rfl
  |some _=>exact(show False from r).elim
 |some _=>cases u with
  |none=>exact(show False from r).elim
  |some _=>rfl
theorem KV.val{kvs:List (κ×V)}{vs:List (κ×Value)}(r:KV kvs vs)(k:κ):wO (xT kvs k) (valueAt vs k):=by
 unfold KV at r
 induction r with
 |nil=>exact True.intro
 | @cons p q ps qs h t ih=>
  obtain⟨h1,h2⟩:=h
  by_cases e:p.1=k
  ·have e':q.1=k:=h1.symm.trans e
   have b:valueAt (q::qs) k=some q.2:=by simp[valueAt,List.find?_cons,e']
   rw[xZ e,b];exact h2
  ·have e':¬q.1=k:=fun z=>e (h1.trans z)
   have b:valueAt (q::qs) k=valueAt qs k:=by simp[valueAt,List.find?_cons,e']
   rw[xJ e,b];exact ih
theorem KV.any{kvs:List (κ×V)}{vs:List (κ×Value)}(r:KV kvs vs)(k:κ):(kvs.any fun kv=>decide (kv.1=k))=vs.any fun kv=>decide (kv.1=k):=by
 unfold KV at r
 induction r with
 |nil=>rfl
 |cons h t ih=>rw[List.any_cons,List.any_cons,ih,h.1]
theorem KV.repl{kvs:List (κ×V)}{vs:List (κ×Value)}(r:KV kvs vs)(k:κ){y:V}{u:Value}(ry:zG y u):
  KV (kvs.map fun kv=>if kv.1=k then(kv.1,y)else kv) (vs.map fun kv=>if kv.1=k then(kv.1,u)else kv):=by
 unfold KV at r⊢
 induction r with
 |nil=>exact .nil
 | @cons p q ps qs h t ih=>
  rw[List.map_cons,List.map_cons]
  refine .cons ?_ ih
  obtain⟨h1,h2⟩:=h
  by_cases e:p.1=k
  ·rw[if_pos e,if_pos (h1.symm.trans e)];exact⟨h1,ry⟩
  ·rw[if_neg e,if_neg (fun z=>e (h1.trans z))];exact⟨h1,h2⟩
theorem KV.put{kvs:List (κ×V)}{vs:List (κ×Value)}(r:KV kvs vs)(k:κ){y:V}{u:Value}(ry:zG y u):KV (vK kvs k y) (stored vs k u):=by
 unfold vK stored
 rw[r.any k]
 by_cases e:(vs.any fun kv=>decide (kv.1=k))=true
 ·rw[if_pos e,if_pos e];exact r.repl k ry
 ·rw[if_neg e,if_neg e];exact Paired.snoc r ⟨rfl,ry⟩
theorem KV.keys{kvs:List (κ×V)}{vs:List (κ×Value)}(r:KV kvs vs):kvs.map (·.1)=vs.map (·.1):=by
 unfold KV at r
 induction r with
 |nil=>rfl
 |cons h t ih=>rw[List.map_cons,List.map_cons,ih,h.1]
theorem KV.length{kvs:List (κ×V)}{vs:List (κ×Value)}(r:KV kvs vs):kvs.length=vs.length:=Paired.length r
end
theorem tK{P:Program}{w:World}{k:Key}{u:Value}(r:zG (kV k) u):(jU P w).is k u=true:=by
 cases k with
 |inl i=>obtain⟨t,e⟩:=(show∃t,u=Value.int i t from r);subst e;exact bW P w i t
 |inr x=>obtain⟨t,e⟩:=(show∃t,u=Value.str x t from r);subst e;exact bY P w x t
theorem lS{P:Program}{w:World}:∀{ks:List Key}{us:List Value},Vals (ks.map kV) us->ItemsAre (jU P w) ks us
 |[],_,r=>by rw[List.map_nil]at r;cases r;exact .nil
 |k::ks,_,r=>by
  rw[List.map_cons]at r
  cases r with
  |cons h t=>exact .cons (tK h) (lS t)
abbrev KT(H:Hp):List (List Key×V)->List (List Key×Addr×Value)->Prop:=Paired fun p q=>p.1=q.1/\H q.2.1=some (.tup (p.1.map kV))/\zG p.2 q.2.2
theorem KT.val{H:Hp}{kvs:List (List Key×V)}{xs:List (List Key×Addr×Value)}(r:KT H kvs xs)(k:List Key):wO (xT kvs k) ((atKey xs k).map (·.2)):=by
 induction r with
 |nil=>exact True.intro
 | @cons p q ps qs h t ih=>
  obtain⟨h1,_,h2⟩:=h
  by_cases e:p.1=k
  ·have e':q.1=k:=h1.symm.trans e
   have b:atKey (q::qs) k=some q.2:=by simp[atKey,List.find?_cons,e']
   rw[xZ e,b];exact h2
  ·have e':¬q.1=k:=fun z=>e (h1.trans z)
   have b:atKey (q::qs) k=atKey qs k:=by simp[atKey,List.find?_cons,e']
   rw[xJ e,b];exact ih
theorem KT.repl{H:Hp}{kvs:List (List Key×V)}{xs:List (List Key×Addr×Value)}(r:KT H kvs xs)(k:List Key){y:V}{u:Value}(ry:zG y u):
  KT H (kvs.map fun kv=>if kv.1=k then(kv.1,y)else kv) (xs.map (putAt k u)):=by
 induction r with
 |nil=>exact .nil
 | @cons p q ps qs h t ih=>
  rw[List.map_cons,List.map_cons]
  refine .cons ?_ ih
  obtain⟨h1,h2,h3⟩:=h
  unfold putAt
  by_cases e:p.1=k
  ·rw[if_pos e,if_pos (h1.symm.trans e)];exact⟨h1,h2,ry⟩
  ·rw[if_neg e,if_neg (fun z=>e (h1.trans z))];exact⟨h1,h2,h3⟩
theorem KT.put{H:Hp}{kvs:List (List Key×V)}{xs:List (List Key×Addr×Value)}(r:KT H kvs xs)(k:List Key){b:Addr}{y:V}{u:Value}(hb:H b=some (.tup (k.map kV)))(ry:zG y u):
  KT H (vK kvs k y) (storedH xs k b u):=by
 have e:(kvs.any fun kv=>decide (kv.1=k))=(atKey xs k).isSome:=by
  rw[wM,(r.val k).isSome_eq,Option.isSome_map]
 unfold vK storedH
 rw[e]
 by_cases q:(atKey xs k).isSome=true
 ·rw[if_pos q,if_pos q];exact r.repl k ry
 ·rw[if_neg q,if_neg q];exact Paired.snoc r ⟨rfl,hb,ry⟩
theorem KT.keeps{H H':Hp}{kvs:List (List Key×V)}{xs:List (List Key×Addr×Value)}(r:KT H kvs xs)(ht:∀b ys,H b=some (.tup ys)->H' b=some (.tup ys)):KT H' kvs xs:=
 Paired.mapP r fun _ _ z=>⟨z.1,ht _ _ z.2.1,z.2.2⟩
section
variable {P:Program} {w:World} {H:Hp} {h:Heap} {a:Addr}
theorem zQ7{u:HO}(ok:HOk P w H h)(e:Rd H a u):jP P w H h a u:=e.ok ok
theorem dN{kvs:List (Key×V)}(ok:HOk P w H h)(e:Rd H a (.dK kvs)):kvs.length<=sizeLine/\(a==sysModules)=false/\∃vs,KV kvs vs/\h.DictOf (jU P w) a vs:=
 show jP P w H h a (.dK kvs)from zQ7 ok e
theorem zQ8{kvs:List (Key×V)}(ok:HOk P w H h)(e:H a=some (.dK kvs)):kvs.length<=sizeLine/\(a==sysModules)=false/\∃vs,KV kvs vs/\h.DictOf (jU P w) a vs:=dN ok (.inl e)
theorem mL{ks:List Key}(ok:HOk P w H h)(e:H a=some (.tup (ks.map kV))):(tupleKind (jU P w)).is h ks a:=by
 obtain⟨_,its,r,o,h1,h2,n,h3⟩:=(show jP P w H h a (.tup (ks.map kV))from ok a _ e)
 exact⟨o,its.toArray,n,h1,h2,h3,by simpa using lS r⟩
theorem tV{kvs:List (List Key×V)}(ok:HOk P w H h)(e:Rd H a (.dT kvs)):kvs.length<=sizeLine/\(a==sysModules)=false/\
  ∃xs,KT H kvs xs/\h.DictOfH (tupleKind (jU P w)) a xs:=by
 obtain⟨z,y,xs,r,o,es,ep,h1,h2,h3,h4,h5⟩:=(show jP P w H h a (.dT kvs)from zQ7 ok e)
 refine⟨z,y,xs,r,o,es,ep,h1,h2,h3,h4,fun x hx=>?_,h5⟩
 have all:∀{l:List (List Key×V)}{m:List (List Key×Addr×Value)},KT H l m->∀x∈m,(tupleKind (jU P w)).is h x.1 x.2.1:=by
  intro l m q
  induction q with
  |nil=>intro x hx;exact nomatch hx
  | @cons p q ps qs hq t ih=>
   intro x hx
   rcases List.mem_cons.mp hx with e|hx
   ·subst e
    exact mL ok (by rw[<-hq.1];exact hq.2.1)
   ·exact ih x hx
 exact all r x hx
theorem zB9{kvs:List (List Key×V)}(ok:HOk P w H h)(e:H a=some (.dT kvs)):kvs.length<=sizeLine/\(a==sysModules)=false/\
  ∃xs,KT H kvs xs/\h.DictOfH (tupleKind (jU P w)) a xs:=tV ok (.inl e)
end
def DGet(H:Hp)(a:Addr)(y:V)(r:Option V):Prop:=
 (∃kvs k,Rd H a (.dK kvs)/\y=kV k/\r=xT kvs k)\/∃kvs k b,Rd H a (.dT kvs)/\y= .ref b/\H b=some (.tup (k.map kV))/\r=xT kvs k
def DPut(H:Hp)(a:Addr)(y v:V)(H':Hp):Prop:=
 (∃kvs k,H a=some (.dK kvs)/\y=kV k/\kvs.length<sizeLine/\H'=upd H a (.dK (vK kvs k v)))\/
 ∃kvs k b,H a=some (.dT kvs)/\y= .ref b/\H b=some (.tup (k.map kV))/\kvs.length<sizeLine/\H'=upd H a (.dT (vK kvs k v))
theorem DGet.k{H:Hp}{a:Addr}{kvs:List (Key×V)}{k:Key}(e:H a=some (.dK kvs)):DGet H a (kV k) (xT kvs k):=.inl ⟨kvs,k,.inl e,rfl,rfl⟩
theorem DPut.k{H:Hp}{a:Addr}{kvs:List (Key×V)}{k:Key}{v:V}(e:H a=some (.dK kvs))(hl:kvs.length<sizeLine):DPut H a (kV k) v (upd H a (.dK (vK kvs k v))):=.inl ⟨kvs,k,e,rfl,hl,rfl⟩
section
variable {X:Cx} {pins:List (Addr×Obj)} {σ:St} {H:Hp} {s:Shared} {a:Addr} {y v:V} {u r:Value} {o:Option V} {A:Around} {E:Value->Shared->Prop}
theorem Inv.big(I:Inv X pins σ H s):sysModules<s.heap.objs.size:=by
 have h:mainGlobals<s.heap.objs.size:=(I.mod.glob.keeps I.bk).lt
 exact Nat.lt_trans (by decide) h
theorem qZ6{Q:Value->Shared->Prop}(hu:A.units+1<cLine)(I:Inv X pins σ H s)(g:DGet H a y (some v))(ry:zG y u)(h:∀w' s',Inv X pins σ H s'->zG v w'->Q w' s'):
  wpAny (model X.prog X.w) A (getItem (.ref a) u) Q E s:=by
 rcases g with⟨kvs,k,e,ey,l⟩|⟨kvs,k,b,e,ey,eb,l⟩
 ·subst ey
  obtain⟨z,hd,vs,rel,dd⟩:=dN I.hok e
  obtain⟨w',hw,rw'⟩:=wO.some_of (v:=v) (o:=valueAt vs k) (by rw[l];exact rel.val k)
  exact wpAny_getItem_of (tK ry) dd.mapOf hw (h w' _ (I.tok _) rw')
 ·subst ey
  cases (show u=Value.ref b from ry)
  obtain⟨z,hd,xs,rel,dd⟩:=tV I.hok e
  obtain⟨w',hw,rw'⟩:=wO.some_of (v:=v) (o:=(atKey xs k).map (·.2)) (by rw[l];exact rel.val k)
  obtain⟨p,hp,hp2⟩:=aq6.mp hw
  refine wpAny_getItem_heap (tupleKind_room_in1 hu) (mL I.hok eb) dd hp ?_
  rw[hp2]
  exact h w' _ (I.tok _) rw'
theorem qH6{Q:Value->Shared->Prop}(hu:A.units+1<cLine)(I:Inv X pins σ H s)(g:DGet H a y o)(ry:zG y u)(h:∀s',Inv X pins σ H s'->Q (.bool (!o.isSome)) s'):
  wpAny (model X.prog X.w) A (compareOp .NotIn u (.ref a)) Q E s:=by
 rcases g with⟨kvs,k,e,ey,l⟩|⟨kvs,k,b,e,ey,eb,l⟩
 ·subst ey
  obtain⟨z,hd,vs,rel,dd⟩:=dN I.hok e
  refine wpAny_notIn_of (tK ry) hd dd.mapOf ?_
  rw[<-(rel.val k).isSome_eq,<-l]
  exact h _ (I.tok _)
 ·subst ey
  cases (show u=Value.ref b from ry)
  obtain⟨z,hd,xs,rel,dd⟩:=tV I.hok e
  refine wpAny_notIn_heap (tupleKind_room_in1 hu) (mL I.hok eb) hd dd ?_
  have q:=(rel.val k).isSome_eq
  rw[Option.isSome_map]at q
  rw[<-q,<-l]
  exact h _ (I.tok _)
theorem tW{h':Heap}{t':Nat}{ob:HO}(I:Inv X pins σ H s)(mu:Mut (H a))(hs:Heap.SameBut a s.heap h')(he:∃q,h'.get? a=some q)(new:jP X.prog X.w (upd H a ob) h' a ob):
  Inv X pins σ (upd H a ob) {s with heap:=h',toks:=t'}:=
 I.write (x:=a) (e:=a) mu (.inl rfl) (fun b q hb z=>(hs.2 b hb).trans z) he new
theorem zW5{P:Program}{w:World}{H':Hp}{h':Heap}{kvs:List (Key×V)}{vs:List (Key×Value)}(z:kvs.length<=sizeLine)(hd:(a==sysModules)=false)(rel:KV kvs vs)(dd:h'.DictOf (jU P w) a vs):
  jP P w H' h' a (.dK kvs):=⟨z,hd,vs,rel,dd⟩
theorem qZ7{H':Hp}{Q:Unit->Shared->Prop}(hu:A.units+1<cLine)(I:Inv X pins σ H s)(g:DPut H a y v H')(ry:zG y u)(rv:zG v r)(h:∀s',Inv X pins σ H' s'->Q () s'):
  wpAny (model X.prog X.w) A (setItem (.ref a) u r) Q E s:=by
 rcases g with⟨kvs,k,e,ey,l,eH⟩|⟨kvs,k,b,e,ey,eb,l,eH⟩
 ·subst ey eH
  obtain⟨z,hd,vs,rel,dd⟩:=zQ8 I.hok e
  have hz:vs.length<=sizeLine:=by rw[<-rel.length];exact z
  have hl:(vK kvs k v).length<=sizeLine:=by have :=kG kvs k v;omega
  refine wpAny_setItem_pairs (hsz:=hz) (tK ry) dd fun h' dd' hs=>h _ ?_
  have he:∃q,h'.get? a=some q:=let⟨q,_,_,hq,_⟩:=dd';⟨q,hq⟩
  exact tW I (by rw[e];exact True.intro) hs he (zW5 hl hd (rel.put k rv) dd')
 ·subst ey eH
  cases (show u=Value.ref b from ry)
  obtain⟨z,hd,xs,rel,dd⟩:=zB9 I.hok e
  have hz:xs.length<=sizeLine:=by rw[<-Paired.length rel];exact z
  have hl:(vK kvs k v).length<=sizeLine:=by have :=kG kvs k v;omega
  refine wpAny_setItem_heap (hsz:=hz) (tupleKind_room_in1 hu) (mL I.hok eb) dd fun h' dd' hs=>h _ ?_
  obtain⟨q,es,ep,hq,h2,h3,h4,_,h5⟩:=dd'
  refine tW I (by rw[e];exact True.intro) hs ⟨q,hq⟩ ⟨hl,hd,_,(rel.put k eb rv).keeps fun c ys ec=>?_,q,es,ep,hq,h2,h3,h4,h5⟩
  rw[qL (xO ec e (fun z=>nomatch z))]
  exact ec
end
section
variable {X:Cx} {pins:List (Addr×Obj)} {σ:St} {H:Hp} {s:Shared} {a:Addr} {kvs:List (Key×V)} {k:Key} {u:Value} {A:Around} {E:Value->Shared->Prop}
theorem zBq{Q:Value->Shared->Prop}(I:Inv X pins σ H s)(e:Rd H a (.dK kvs))(h:∀t s',Inv X pins σ H s'->Q (.int kvs.length t) s'):wpAny (model X.prog X.w) A (call (.builtin "len") [.ref a]) Q E s:=by
 obtain⟨z,hd,vs,rel,dd⟩:=dN I.hok e
 refine call_len_dict hd dd (by rw[<-rel.length];rw[sizeLine_eq]at z;omega) ?_
 rw[<-rel.length]
 exact h _ _ (I.tok _)
end
def zBz(i:Expr):Prop:=∀ov iv,subscripted i false ov iv=operate [ov,iv] (getItem ov iv)
theorem qH7{prog:Program}{w:World}{A:Around}{E:Value->Shared->Prop}{s:Shared}{env:Env}{value slice:Expr}{pos:Pos}{T id:String}{Q:Value->Shared->Prop}
  (hl:typeLookup (.type T) "__getitem__"=pure (some (.builtin id)))(hs:zBz slice)
  (h:wpAny (model prog w) A (eval value env) (fun o s₁=>wpAny (model prog w) A (eval slice env) (fun i s₂=>s₂.TypeIs o T/\wpAny (model prog w) A (getItem o i) Q E s₂) E s₁) E s):
  wpAny (model prog w) A (eval (.Subscript value slice pos) env) Q E s:=by
 refine Subscript_ (wpAny_mono h (fun o s₁ h₁=>wpAny_mono h₁ (fun i s₂ h₂=>?_) fun _ _ x=>x) fun _ _ x=>x)
 obtain⟨hT,h₂⟩:=h₂
 unfold subscriptTail
 refine wpAny_bind ?_
 rw[getitemInPython_of_ne hT.not_modules]
 refine wpAny_bind (wpAny_specialOf hT hl ?_)
 have fin:wpAny (model prog w) A (subscripted slice false o i) (fun r s₃=>wpAny (model prog w) A (letTemporaryGo value o r>>=fun _=>pure r) Q E s₃) E s₂:=by
  rw[hs o i]
  exact wpAny_operating (wpAny_mono h₂ (fun r s₃ h₃=>wpAny_bind (wpAny_letTemporaryGo (wpAny_pure h₃))) fun _ _ x=>x)
 first
  |exact wpAny_pure (wpAny_bind fin)
  |exact wpAny_bind (wpAny_pure (wpAny_bind fin))
  |exact wpAny_bind fin
theorem dB{X:Cx}{pins:List (Addr×Obj)}{σ:St}{H:Hp}{s:Shared}{a:Addr}{y:V}{o:Option V}(I:Inv X pins σ H s)(g:DGet H a y o):s.TypeIs (.ref a) "dict":=by
 rcases g with⟨kvs,k,e,_,_⟩|⟨kvs,k,b,e,_,_,_⟩
 ·obtain⟨_,_,vs,_,dd⟩:=dN I.hok e
  exact dd.typeIs
 ·obtain⟨_,_,xs,_,dd⟩:=tV I.hok e
  exact dd.typeIs
inductive qWq(Q:VK)(x:V)(y:V)(H2:Hp):Prop
 |mk (a:_) (v:_) (a_0:x= .ref a) (a_1:DGet H2 a y (some v)) (a_2:Q v H2):qWq Q x y H2
def tY(td ty:TE):TE:=fun σ H Q=>td σ H fun x H1=>ty σ H1 fun y H2=>qWq Q x y H2
inductive dD(Q:VK)(y:V)(x:V)(H2:Hp):Prop
 |mk (a:_) (o:_) (a_0:x= .ref a) (a_1:DGet H2 a y o) (a_2:Q (.bl (!o.isSome)) H2):dD Q y x H2
def qH8(ty td:TE):TE:=fun σ H Q=>ty σ H fun y H1=>td σ H1 fun x H2=>dD Q y x H2
inductive qWz(N_:St->Hp->Prop)(σ:St)(v:V)(x:V)(y:V)(H3:Hp):Prop
 |mk (a:_) (H4:_) (a_0:x= .ref a) (a_1:DPut H3 a y v H4) (a_2:N_ σ H4):qWz N_ σ v x y H3
def zQ9(td ty tv:TE):TS:=fun D σ H=>tv σ H fun v H1=>td σ H1 fun x H2=>ty σ H2 fun y H3=>qWz D.nx σ v x y H3
section
variable {X:Cx} {o i e value:Expr} {pos pos' tpos:Pos} {td ty tv:TE}
theorem tU(hu:X.A.units+1<cLine)(ho:PE X o td)(hi:PE X i ty)(hs:zBz i):PE X (.Subscript o i pos) (tY td ty):=by
 intro pins s σ H Q I h
 refine qH7 PySem.F.slot_dict_getitem.lookup hs (thn (ho pins s σ H _ I h) fun u s1⟨x,H1,I1,rx,q1⟩=>thn (hi pins s1 σ H1 _ I1 q1) fun iv s2⟨y,H2,I2,ry,a,v,ex,g,q2⟩=>?_)
 subst ex
 obtain rfl:u=Value.ref a:=rx
 exact⟨dB I2 g,qZ6 hu I2 g ry fun w' s3 I3 rw'=>⟨v,H2,I3,rw',q2⟩⟩
theorem lT(hu:X.A.units+1<cLine)(hi:PE X i ty)(ho:PE X o td):PC X .NotIn i o (qH8 ty td):=by
 intro pins s σ H Q I h
 refine thn (hi pins s σ H _ I h) fun iv s1⟨y,H1,I1,ry,q1⟩=>thn (ho pins s1 σ H1 _ I1 q1) fun u s2⟨x,H2,I2,rx,a,ov,ex,g,q2⟩=>?_
 subst ex
 obtain rfl:u=Value.ref a:=rx
 exact qH6 hu I2 g ry fun s3 I3=>⟨.bl (!ov.isSome),H2,I3,rfl,q2⟩
theorem iW(hu:X.A.units+1<cLine)(ho:PE X o td)(hi:PE X i ty)(hv:PE X value tv)(hs:swapsWith value (some (.Subscript o i pos')) pos.line X.env=pure false):
  PS X (.Assign [.Subscript o i pos'] value pos) (zQ9 td ty tv):=by
 intro pins s σ H D I h
 refine wpAny_Assign_Subscript (thn (hv pins s σ H _ I h) fun r s1⟨v,H1,I1,rv,q1⟩=>thn (ho pins s1 σ H1 _ I1 q1) fun u s2⟨x,H2,I2,rx,q2⟩=>thn (hi pins s2 σ H2 _ I2 q2) fun iv s3⟨y,H3,I3,ry,a,H4,ex,g,q3⟩=>?_) hs
 subst ex
 obtain rfl:u=Value.ref a:=rx
 exact qZ7 hu I3 g ry rv fun s4 I4=>⟨σ,H4,I4,q3⟩
end
theorem qWj{P:Program}{w:World}{H:Hp}(h:Heap)(hb:sysModules<h.objs.size):jP P w H (h.push {cls:=.type "dict",data:=.dict #[]}) h.objs.size (.dK []):=
 ⟨Nat.zero_le _,beq_eq_false_iff_ne.mpr (Ne.symm (aq9 hb)),[],.nil,Heap.DictOf.new h⟩
def zW6:TE:=fun _ H Q=>∀p,H p=none->Q (.ref p) (upd H p (.dK []))
section
variable {X:Cx} {pos:Pos}
theorem wN:PE X (.Dict [] [] pos) zW6:=fun pins s σ H Q I h=>
 wpAny_Dict_empty ⟨.ref s.heap.objs.size,_,I.laid (a:=s.heap.objs.size) (o:=.dK []) (t':=s.toks) (fun _ _ q=>aq13 _ q) (aq7 _) (qWj s.heap I.big),rfl,h _ (I.hok.fresh (aq7 _))⟩
end
section
variable {X:Cx} {pins:List (Addr×Obj)} {σ:St} {H:Hp} {s:Shared} {a:Addr} {y d:V} {u r:Value} {o:Option V} {A:Around} {E:Value->Shared->Prop}
end
section
variable {X:Cx} {o e f:Expr} {apos cpos:Pos} {td ty tx:TE}
end
section
variable {X:Cx} {pins:List (Addr×Obj)} {σ:St} {H:Hp} {s:Shared} {a:Addr} {kvs:List (Key×V)} {A:Around} {E:Value->Shared->Prop}
end
section
variable {X:Cx} {pins:List (Addr×Obj)} {σ:St} {H:Hp} {s:Shared} {a:Addr} {y:V} {u:Value} {A:Around} {E:Value->Shared->Prop}
end
section
variable {X:Cx}
theorem lA:kP X (.builtin "len") (fun xs H Q=>∃a kvs,xs=[V.ref a]/\H a=some (.dK kvs)/\Q (.int kvs.length) H):=by
 intro pins s σ H xs us Q I r h
 obtain⟨a,kvs,rfl,ha,q⟩:=h
 obtain⟨u,rfl,ru⟩:=vals1 r
 cases ru
 exact zBq I (.inl ha) fun t s' I'=>⟨.int kvs.length,H,I',⟨t,rfl⟩,q⟩
end
section
variable {κ:Type} [DecidableEq κ]
end
end L2
inductive Dt where
 |non|bl (b:Bool)|int (i:Int)|str (x:PySem.Str)|tup (ds:List Dt)
namespace Dt
open PySem
mutual
def eqD:Dt->Dt->Bool
 | .non,.non=>true
 | .bl a,.bl b=>a==b
 | .bl a,.int b=>(if a then 1 else 0)==b
 | .int a,.bl b=>a==(if b then 1 else 0)
 | .int a,.int b=>a==b
 | .str a,.str b=>a==b
 | .tup xs,.tup ys=>eqDs xs ys
 |_,_=>false
def eqDs:List Dt->List Dt->Bool
 |[],[]=>true
 |x::xs,y::ys=>eqD x y&&eqDs xs ys
 |_,_=>false
end
mutual
def dep:Dt->Nat
 | .tup xs=>deps xs+1
 |_=>0
def deps:List Dt->Nat
 |[]=>0
 |x::xs=>max (dep x) (deps xs)
end
mutual
theorem vV:∀d:Dt,eqD d d=true
 | .non=>rfl
 | .bl a=>by simp[eqD]
 | .int a=>by simp[eqD]
 | .str a=>by simp[eqD]
 | .tup xs=>by rw[eqD];exact oX xs
theorem oX:∀ds:List Dt,eqDs ds ds=true
 |[]=>rfl
 |x::xs=>by rw[eqDs,vV x,oX xs];rfl
end
theorem oH:∀{xs ys:List Dt},eqDs xs ys=true->xs.length=ys.length
 |[],[],_=>rfl
 |[],_::_,h=>by simp[eqDs]at h
 |_::_,[],h=>by simp[eqDs]at h
 |x::xs,y::ys,h=>by
  rw[eqDs,Bool.and_eq_true]at h
  rw[aq17,aq17,oH h.2]
theorem uX(z:Dt):∀(xs ys:List Dt),((List.range (min xs.length ys.length)).all (fun j=>eqD (xs.getD j z) (ys.getD j z))&&xs.length==ys.length)=eqDs xs ys
 |[],[]=>rfl
 |[],_::_=>by simp[eqDs]
 |_::_,[]=>by simp[eqDs]
 |x::xs,y::ys=>by
  rw[eqDs,<-uX z xs ys]
  have e:min (x::xs).length (y::ys).length=min xs.length ys.length+1:=by simp only[aq17];omega
  rw[e,List.range_succ_eq_map,List.all_cons,List.all_map]
  have e2:((x::xs).length==(y::ys).length)=(xs.length==ys.length):=by
   rw[Bool.eq_iff_iff,beq_iff_eq,beq_iff_eq,aq17,aq17];omega
  rw[e2,Bool.and_assoc]
  rfl
end Dt
namespace L2
open PySem PySem.Spec PyProof.Rows PyProof Dt
mutual
def qY(K:Fg)(H:Hp):Dt->V->Prop
 | .non,v=>v= .non
 | .bl b,v=>v= .bl b
 | .int i,v=>v= .int i
 | .str x,v=>v= .str x
 | .tup ds,v=>∃a vs,v= .ref a/\zB K H a vs/\qO K H ds vs
def qO(K:Fg)(H:Hp):List Dt->List V->Prop
 |[],vs=>vs=[]
 |d::ds,vs=>∃v r,vs=v::r/\qY K H d v/\qO K H ds r
end
theorem zB.mono{K:Fg}{H H':Hp}{a:Addr}{xs:List V}(e:Same H H')(h:zB K H a xs):zB K H' a xs:=by
 rcases h with(h|⟨o,h⟩)|h
 ·exact .inl (.inl (e _ _ h))
 ·exact .inl (.inr ⟨o,e _ _ h⟩)
 ·exact .inr h
mutual
theorem qY.mono{K:Fg}{H H':Hp}(e:Same H H'):∀{d:Dt}{v:V},qY K H d v->qY K H' d v
 | .non,_,h=>by rw[qY]at h⊢;exact h
 | .bl _,_,h=>by rw[qY]at h⊢;exact h
 | .int _,_,h=>by rw[qY]at h⊢;exact h
 | .str _,_,h=>by rw[qY]at h⊢;exact h
 | .tup ds,_,h=>by
  rw[qY]at h⊢
  obtain⟨a,vs,h1,h2,h3⟩:=h
  exact⟨a,vs,h1,h2.mono e,qO.mono e h3⟩
theorem qO.mono{K:Fg}{H H':Hp}(e:Same H H'):∀{ds:List Dt}{vs:List V},qO K H ds vs->qO K H' ds vs
 |[],_,h=>by rw[qO]at h⊢;exact h
 |d::ds,_,h=>by
  rw[qO]at h⊢
  obtain⟨v,r,h1,h2,h3⟩:=h
  exact⟨v,r,h1,qY.mono e h2,qO.mono e h3⟩
end
theorem qO.length{K:Fg}{H:Hp}:∀{ds:List Dt}{vs:List V},qO K H ds vs->vs.length=ds.length
 |[],_,h=>by rw[qO]at h;rw[h];rfl
 |d::ds,_,h=>by
  rw[qO]at h
  obtain⟨v,r,rfl,_,h3⟩:=h
  rw[aq17,aq17,qO.length h3]
theorem qO.get{K:Fg}{H:Hp}:∀{ds:List Dt}{vs:List V}{i:Nat}{d:Dt},qO K H ds vs->ds[i]? =some d->∃v,vs[i]? =some v/\qY K H d v
 |[],_,_,_,_,e=>by simp at e
 |d::ds,_,0,d',h,e=>by
  rw[qO]at h
  obtain⟨v,r,rfl,h2,_⟩:=h
  have :d=d':=by simpa using e
  subst this
  exact⟨v,rfl,h2⟩
 |d::ds,_,i+1,d',h,e=>by
  rw[qO]at h
  obtain⟨v,r,rfl,_,h3⟩:=h
  obtain⟨v',h4,h5⟩:=qO.get (i:=i) h3 (by simpa using e)
  exact⟨v',by simpa using h4,h5⟩
theorem qO.append{K:Fg}{H:Hp}:∀{ds es:List Dt}{vs ws:List V},qO K H ds vs->qO K H es ws->qO K H (ds++es) (vs++ws)
 |[],_,_,_,h,g=>by rw[qO]at h;subst h;exact g
 |d::ds,_,_,_,h,g=>by
  rw[qO]at h
  obtain⟨v,r,rfl,h2,h3⟩:=h
  rw[List.cons_append,qO]
  exact⟨v,r++_,rfl,h2,qO.append h3 g⟩
section
variable {X:Cx} {pins:List (Addr×Obj)} {σ:St} {H:Hp} {s:Shared}
mutual
theorem mG(I:Inv X pins σ H s):∀{d e:Dt}{v:V},qY X.K H d v->qY X.K H e v->d=e
 | .non,e,v,h,g=>by
  rw[qY]at h
  subst h
  cases e with
  |non=>first|rfl|(rw[qY]at g;cases g)
  |bl c=>rw[qY]at g;cases g;all_goals rfl
  |int c=>rw[qY]at g;cases g;all_goals rfl
  |str c=>rw[qY]at g;cases g;all_goals rfl
  |tup es=>rw[qY]at g;obtain⟨_,_,z,_⟩:=g;cases z
 | .bl b,e,v,h,g=>by
  rw[qY]at h
  subst h
  cases e with
  |non=>first|rfl|(rw[qY]at g;cases g)
  |bl c=>rw[qY]at g;cases g;all_goals rfl
  |int c=>rw[qY]at g;cases g;all_goals rfl
  |str c=>rw[qY]at g;cases g;all_goals rfl
  |tup es=>rw[qY]at g;obtain⟨_,_,z,_⟩:=g;cases z
 | .int i,e,v,h,g=>by
  rw[qY]at h
  subst h
  cases e with
  |non=>first|rfl|(rw[qY]at g;cases g)
  |bl c=>rw[qY]at g;cases g;all_goals rfl
  |int c=>rw[qY]at g;cases g;all_goals rfl
  |str c=>rw[qY]at g;cases g;all_goals rfl
  |tup es=>rw[qY]at g;obtain⟨_,_,z,_⟩:=g;cases z
 | .str x,e,v,h,g=>by
  rw[qY]at h
  subst h
  cases e with
  |non=>first|rfl|(rw[qY]at g;cases g)
  |bl c=>rw[qY]at g;cases g;all_goals rfl
  |int c=>rw[qY]at g;cases g;all_goals rfl
  |str c=>rw[qY]at g;cases g;all_goals rfl
  |tup es=>rw[qY]at g;obtain⟨_,_,z,_⟩:=g;cases z
 | .tup ds,e,v,h,g=>by
  rw[qY]at h
  obtain⟨a,vs,rfl,h2,h3⟩:=h
  cases e with
  |tup es=>
   rw[qY]at g
   obtain⟨a',vs',e1,g2,g3⟩:=g
   cases e1
   have e2:=I.tuple_inj h2 g2
   subst e2
   rw[tO I h3 g3]
  |_=>rw[qY]at g;cases g
theorem tO(I:Inv X pins σ H s):∀{ds es:List Dt}{vs:List V},qO X.K H ds vs->qO X.K H es vs->ds=es
 |[],es,vs,h,g=>by
  rw[qO]at h
  subst h
  cases es with
  |nil=>rfl
  |cons e es=>rw[qO]at g;obtain⟨_,_,z,_⟩:=g;cases z
 |d::ds,es,vs,h,g=>by
  rw[qO]at h
  obtain⟨v,r,rfl,h2,h3⟩:=h
  cases es with
  |nil=>rw[qO]at g;cases g
  |cons e es=>
   rw[qO]at g
   obtain⟨v',r',z,g2,g3⟩:=g
   cases z
   rw[mG I h2 g2,tO I h3 g3]
end
theorem xC(I:Inv X pins σ H s){ds:List Dt}{v:V}{u:Value}(h:qY X.K H (.tup ds) v)(r:zG v u):∃a its,u= .ref a/\s.heap.IsTuple a its/\v= .ref a:=by
 rw[qY]at h
 obtain⟨a,vs,rfl,h2,_⟩:=h
 obtain⟨its,_,ht,_⟩:=I.tuple h2
 exact⟨a,_,r,ht,rfl⟩
mutual
theorem qY0(I:Inv X pins σ H s):∀(d e:Dt)(A:Around)(x y:V)(u v:Value),A.units+dep d<cLine->qY X.K H d x->qY X.K H e y->zG x u->zG y v->SeqAt.EqAt A s u v (eqD d e)
 | .non,e,A,x,y,u,v,hu,h,g,r1,r2=>by
  have hu':A.units<cLine:=by omega
  rw[qY]at h;subst h;cases r1
  cases e with
  |non=>rw[qY]at g;subst g;cases r2;exact SeqAt.EqAt.same _
  |bl b=>rw[qY]at g;subst g;cases r2;exact SeqAt.EqAt.none_bool b
  |int b=>rw[qY]at g;subst g;obtain⟨t,rfl⟩:=r2;exact SeqAt.EqAt.none_int b t
  |str b=>rw[qY]at g;subst g;obtain⟨t,rfl⟩:=r2;exact SeqAt.EqAt.none_str b t
  |tup es=>obtain⟨a,its,rfl,ht,_⟩:=xC I g r2;exact SeqAt.EqAt.none_tuple ht hu'
 | .bl b,e,A,x,y,u,v,hu,h,g,r1,r2=>by
  have hu':A.units<cLine:=by omega
  rw[qY]at h;subst h;cases r1
  cases e with
  |non=>rw[qY]at g;subst g;cases r2;exact SeqAt.EqAt.bool_none b
  |bl c=>rw[qY]at g;subst g;cases r2;exact SeqAt.EqAt.bool_bool b c
  |int c=>rw[qY]at g;subst g;obtain⟨t,rfl⟩:=r2;exact SeqAt.EqAt.bool_int b c t
  |str c=>rw[qY]at g;subst g;obtain⟨t,rfl⟩:=r2;exact SeqAt.EqAt.bool_str b c t
  |tup es=>obtain⟨a,its,rfl,ht,_⟩:=xC I g r2;exact SeqAt.EqAt.bool_tuple b ht hu'
 | .int i,e,A,x,y,u,v,hu,h,g,r1,r2=>by
  have hu':A.units<cLine:=by omega
  rw[qY]at h;subst h;obtain⟨t',rfl⟩:=r1
  cases e with
  |non=>rw[qY]at g;subst g;cases r2;exact SeqAt.EqAt.int_none i t'
  |bl c=>rw[qY]at g;subst g;cases r2;exact SeqAt.EqAt.int_bool i t' c
  |int c=>rw[qY]at g;subst g;obtain⟨t,rfl⟩:=r2;exact SeqAt.EqAt.int_int i t' c t
  |str c=>rw[qY]at g;subst g;obtain⟨t,rfl⟩:=r2;exact SeqAt.EqAt.int_str i t' c t
  |tup es=>obtain⟨a,its,rfl,ht,_⟩:=xC I g r2;exact SeqAt.EqAt.int_tuple i t' ht hu'
 | .str i,e,A,x,y,u,v,hu,h,g,r1,r2=>by
  have hu':A.units<cLine:=by omega
  rw[qY]at h;subst h;obtain⟨t',rfl⟩:=r1
  cases e with
  |non=>rw[qY]at g;subst g;cases r2;exact SeqAt.EqAt.str_none i t'
  |bl c=>rw[qY]at g;subst g;cases r2;exact SeqAt.EqAt.str_bool i t' c
  |int c=>rw[qY]at g;subst g;obtain⟨t,rfl⟩:=r2;exact SeqAt.EqAt.str_int i t' c t
  |str c=>rw[qY]at g;subst g;obtain⟨t,rfl⟩:=r2;exact SeqAt.EqAt.str_str i t' c t
  |tup es=>obtain⟨a,its,rfl,ht,_⟩:=xC I g r2;exact SeqAt.EqAt.str_tuple i t' ht hu'
 | .tup ds,e,A,x,y,u,v,hu,h,g,r1,r2=>by
  rw[dep]at hu
  have hu':A.units<cLine:=by omega
  cases e with
  |non=>obtain⟨a,its,rfl,ht,_⟩:=xC I h r1;rw[qY]at g;subst g;cases r2;exact SeqAt.EqAt.tuple_none ht hu'
  |bl c=>obtain⟨a,its,rfl,ht,_⟩:=xC I h r1;rw[qY]at g;subst g;cases r2;exact SeqAt.EqAt.tuple_bool c ht hu'
  |int c=>obtain⟨a,its,rfl,ht,_⟩:=xC I h r1;rw[qY]at g;subst g;obtain⟨t,rfl⟩:=r2;exact SeqAt.EqAt.tuple_int c t ht hu'
  |str c=>obtain⟨a,its,rfl,ht,_⟩:=xC I h r1;rw[qY]at g;subst g;obtain⟨t,rfl⟩:=r2;exact SeqAt.EqAt.tuple_str c t ht hu'
  |tup es=>
   have h0:=h
   have g0:=g
   rw[qY]at h g
   obtain⟨a,vs,rfl,h2,h3⟩:=h
   obtain⟨b,ws,rfl,g2,g3⟩:=g
   cases r1
   cases r2
   by_cases hab:a=b
   ·subst hab
    have e0:=mG I h0 g0
    rw[e0,vV]
    exact SeqAt.EqAt.same _
   ·obtain⟨its,rv,ht,_⟩:=I.tuple h2
    obtain⟨its2,rw',ht2,_⟩:=I.tuple g2
    refine SeqAt.EqAt.of_refs hab ?_
    have l1:its.length=ds.length:=by rw[<-rv.length,h3.length]
    have l2:its2.length=es.length:=by rw[<-rw'.length,g3.length]
    have key:=SeqAt.RcAt.tuples (e:=fun j=>eqD (ds.getD j .non) (es.getD j .non)) (show s.heap.IsTuple a its.toArray from ht) (show s.heap.IsTuple b its2.toArray from ht2) hu' fun j h1 h2'=>by
     have :=iY I ds es A.in1 vs ws its its2 (by show A.units+1+deps ds<cLine;omega) h3 g3 rv rw' j (by simpa using h1) (by simpa using h2')
     simpa using this
    rw[aq18,aq18,l1,l2,uX]at key
    rw[eqD]
    exact key
theorem iY(I:Inv X pins σ H s):∀(ds es:List Dt)(A:Around)(xs ys:List V)(us vs:List Value),A.units+deps ds<cLine->qO X.K H ds xs->qO X.K H es ys->Vals xs us->Vals ys vs->
  ∀(j:Nat)(h1:j<us.length)(h2:j<vs.length),SeqAt.EqAt A s us[j] vs[j] (eqD (ds.getD j .non) (es.getD j .non))
 |[],es,A,xs,ys,us,vs,hu,h,g,r1,r2,j,h1,h2=>by
  rw[qO]at h;subst h;cases r1;simp at h1
 |d::ds,[],A,xs,ys,us,vs,hu,h,g,r1,r2,j,h1,h2=>by
  rw[qO]at g;subst g;cases r2;simp at h2
 |d::ds,e::es,A,xs,ys,us,vs,hu,h,g,r1,r2,j,h1,h2=>by
  rw[deps]at hu
  rw[qO]at h g
  obtain⟨x,xr,rfl,h3,h4⟩:=h
  obtain⟨y,yr,rfl,g3,g4⟩:=g
  cases r1 with
  |cons p1 q1=>
   cases r2 with
   |cons p2 q2=>
    cases j with
    |zero=>exact qY0 I d e A x y _ _ (by omega) h3 g3 p1 p2
    |succ j=>
     have :=iY I ds es A xr yr _ _ (by omega) h4 g4 q1 q2 j (by simpa using h1) (by simpa using h2)
     simpa using this
end
end
section
variable {X:Cx} {pins:List (Addr×Obj)} {σ:St} {H:Hp} {s:Shared}
theorem zW7(I:Inv X pins σ H s)(d e:Dt)(A:Around)(x y:V)(u v:Value)(hu:A.units+dep d<cLine)(h:qY X.K H d x)(g:qY X.K H e y)(r1:zG x u)(r2:zG y v):SeqAt.RcAt A s u v (eqD d e):=by
 have hu':A.units<cLine:=by omega
 cases d with
 |non=>
  rw[qY]at h;subst h;cases r1
  cases e with
  |non=>rw[qY]at g;subst g;cases r2;exact SeqAt.RcAt.none_none
  |bl c=>rw[qY]at g;subst g;cases r2;exact SeqAt.RcAt.none_bool c
  |int c=>rw[qY]at g;subst g;obtain⟨t,rfl⟩:=r2;exact SeqAt.RcAt.none_int c t
  |str c=>rw[qY]at g;subst g;obtain⟨t,rfl⟩:=r2;exact SeqAt.RcAt.none_str c t
  |tup es=>obtain⟨a,its,rfl,ht,_⟩:=xC I g r2;exact SeqAt.RcAt.none_tuple ht hu'
 |bl b=>
  rw[qY]at h;subst h;cases r1
  cases e with
  |non=>rw[qY]at g;subst g;cases r2;exact SeqAt.RcAt.bool_none b
  |bl c=>rw[qY]at g;subst g;cases r2;exact SeqAt.RcAt.bool_bool b c
  |int c=>rw[qY]at g;subst g;obtain⟨t,rfl⟩:=r2;exact SeqAt.RcAt.bool_int b c t
  |str c=>rw[qY]at g;subst g;obtain⟨t,rfl⟩:=r2;exact SeqAt.RcAt.bool_str b c t
  |tup es=>obtain⟨a,its,rfl,ht,_⟩:=xC I g r2;exact SeqAt.RcAt.bool_tuple b ht hu'
 |int b=>
  rw[qY]at h;subst h;obtain⟨t',rfl⟩:=r1
  cases e with
  |non=>rw[qY]at g;subst g;cases r2;exact SeqAt.RcAt.int_none b t'
  |bl c=>rw[qY]at g;subst g;cases r2;exact SeqAt.RcAt.int_bool b t' c
  |int c=>rw[qY]at g;subst g;obtain⟨t,rfl⟩:=r2;exact SeqAt.RcAt.int_int b t' c t
  |str c=>rw[qY]at g;subst g;obtain⟨t,rfl⟩:=r2;exact SeqAt.RcAt.int_str b t' c t
  |tup es=>obtain⟨a,its,rfl,ht,_⟩:=xC I g r2;exact SeqAt.RcAt.int_tuple b t' ht hu'
 |str b=>
  rw[qY]at h;subst h;obtain⟨t',rfl⟩:=r1
  cases e with
  |non=>rw[qY]at g;subst g;cases r2;exact SeqAt.RcAt.str_none b t'
  |bl c=>rw[qY]at g;subst g;cases r2;exact SeqAt.RcAt.str_bool b t' c
  |int c=>rw[qY]at g;subst g;obtain⟨t,rfl⟩:=r2;exact SeqAt.RcAt.str_int b t' c t
  |str c=>rw[qY]at g;subst g;obtain⟨t,rfl⟩:=r2;exact SeqAt.RcAt.str_str b t' c t
  |tup es=>obtain⟨a,its,rfl,ht,_⟩:=xC I g r2;exact SeqAt.RcAt.str_tuple b t' ht hu'
 |tup ds=>
  cases e with
  |non=>obtain⟨a,its,rfl,ht,_⟩:=xC I h r1;rw[qY]at g;subst g;cases r2;exact SeqAt.RcAt.tuple_none ht hu'
  |bl c=>obtain⟨a,its,rfl,ht,_⟩:=xC I h r1;rw[qY]at g;subst g;cases r2;exact SeqAt.RcAt.tuple_bool c ht hu'
  |int c=>obtain⟨a,its,rfl,ht,_⟩:=xC I h r1;rw[qY]at g;subst g;obtain⟨t,rfl⟩:=r2;exact SeqAt.RcAt.tuple_int c t ht hu'
  |str c=>obtain⟨a,its,rfl,ht,_⟩:=xC I h r1;rw[qY]at g;subst g;obtain⟨t,rfl⟩:=r2;exact SeqAt.RcAt.tuple_str c t ht hu'
  |tup es=>
   rw[qY]at h g
   obtain⟨a,vs,rfl,h2,h3⟩:=h
   obtain⟨b,ws,rfl,g2,g3⟩:=g
   cases r1
   cases r2
   rw[dep]at hu
   obtain⟨its,rv,ht,_⟩:=I.tuple h2
   obtain⟨its2,rw',ht2,_⟩:=I.tuple g2
   have l1:its.length=ds.length:=by rw[<-rv.length,h3.length]
   have l2:its2.length=es.length:=by rw[<-rw'.length,g3.length]
   have key:=SeqAt.RcAt.tuples (e:=fun j=>eqD (ds.getD j .non) (es.getD j .non)) (show s.heap.IsTuple a its.toArray from ht) (show s.heap.IsTuple b its2.toArray from ht2) hu' fun j h1 h2'=>by
    have :=iY I ds es A.in1 vs ws its its2 (by show A.units+1+deps ds<cLine;omega) h3 g3 rv rw' j (by simpa using h1) (by simpa using h2')
    simpa using this
   rw[aq18,aq18,l1,l2,uX]at key
   rw[eqD]
   exact key
theorem wZ:yP X (compareOp .Eq) (fun x y H Q=>∃d e,qY X.K H d x/\qY X.K H e y/\X.A.units+dep d<cLine/\Q (.bl (eqD d e)) H):=by
 intro pins s σ H x y v u Q I rx ry h
 obtain⟨d,e,h1,h2,hu,q⟩:=h
 exact zW7 I d e X.A x y v u hu h1 h2 rx ry X.prog X.w X.xe _ ⟨.bl _,H,I,rfl,q⟩
end
end L2
namespace L2
open PySem PySem.Spec PyProof.Rows PyProof
def kJ(ix:List Nat)(o:List (Option V))(σ:St):St:=o++ix.map fun i=>σ.getD i none
def ifT:Option TT->TT
 |none=>fun _ H Q=>Q true H
 |some t=>t
def PIf(X:Cx)(ifs:List Expr)(t:Option TT):Prop:=match ifs,t with
 |[],none=>True
 |[c],some tc=>PT X c tc
 |_,_=>False
def qY1(wi:TI)(g:TG)(tc:Option TT)(te:TE)(n:Nat)(ix:List Nat):TE:=fun σ H Q=>wi σ H fun J H1=>∀D,H1 D=none->∃W:Nat->Nat->List V->Hp->Prop,(∃m,W 0 m [] (upd H1 D (.lst [])))/\∀i m ys H2,W i m ys H2->
 (J.stop i H2/\Q (.ref D) H2)\/(J.go i H2/\∀(o:List (Option V))v H3,o.length=n->J.yld i H2 v H3->g v (kJ ix o σ) H3 fun σ2 H4=>(∃o':List (Option V),σ2=kJ ix o' σ/\o'.length=n)/\
  ifT tc σ2 H4 fun b H5=>if b=true then te σ2 H5 fun y H6=>H6 D=some (.lst ys)/\ys.length<sizeLine/\∃m',m'<m/\W (i+1) m' (ys++[y]) (upd H6 D (.lst (ys++[y])))else∃m',m'<m/\W (i+1) m' ys H5)
structure cZ(X:Cx)(scope:Scope)(cl:List (Str×Addr))(own rest:List Str)(ix:List Nat):Prop where
 clos:closureFor scope X.env=pure cl
 cell:∀y∈scope.names,y.2≠ .cell
 kind:scope.kind= .function
 names:∀y∈scope.names,y.2= .local->scope.names.lookup y.1=some .local
 cls:∀y c,cl.lookup y=some c->X.env.cells.lookup y=some c
 fr:∀y,scope.names.lookup y=some .free->∃c,cl.lookup y=some c
 nd:(own++rest).Nodup
 at_:∀(j:Nat)(y:Str),rest[j]? =some y->∃i:Nat,ix[j]? =some i/\X.N[i]? =some y
 len:ix.length=rest.length
 out:∀y∈rest,scope.names.lookup y=some .free/\(X.env.kindOf y=some .cell\/X.env.kindOf y=some .free)
section
variable {X:Cx} {scope:Scope} {cl:List (Str×Addr)} {own rest:List Str} {ix:List Nat}
theorem qHq(ok:cZ X scope cl own rest ix){pins:List (Addr×Obj)}{σ:St}{H:Hp}{s:Shared}{fp:List Addr}(I:Inv X pins σ H s)(hf:∀b∈fp,vI X pins H b)(hb:∀b∈fp,b<s.heap.objs.size):
  (vG X scope cl (own++rest) s.heap.objs.size s H fp pins).Ok where
 mod:=I.ok.mod
 kind:=ok.kind
 glob:=I.ok.glob
 blt:=I.ok.blt
 above:=aq7 _
 inj:=fun y z c h1 h2=>I.ok.inj y z c (ok.cls y c h1) (ok.cls z c h2)
 has:=fun y hy=>by
  rcases hy with hy|hy
  ·exact ok.fr y (uJ hy (.inl rfl) ok.cell)
  ·exact ok.fr y (uJ hy (.inr rfl) ok.cell)
 cab:=fun y c h _=>by cases h
 hd:=I.ok.hd
 frames:=I.ok.frames
 stk:=.inl rfl
 exf:=fun b hb'=>⟨aq9 (hb b hb'),fun y c h=>(hf b hb').2.2.2.2.1 y c (ok.cls y c h)⟩
 bs:=I.bs
 bsz:=Nat.le_trans I.ok.bsz I.sz
 noex:=fun b o e hb'=>by
  rcases(hf b hb').2.2.2.1 with z|z
  ·exact I.ok.noex b o e z
  ·exact absurd (Nat.lt_of_lt_of_le (Nat.lt_of_lt_of_le (aq8 e) I.ok.bsz) z) (Nat.lt_irrefl _)
 exfs:=fun b hb' hm=>by
  rcases List.mem_cons.mp (I.stkSub b hm)with z|z
  ·exact(hf b hb').2.1 z
  ·exact(hf b hb').2.2.1 z
 funs:=I.stack
 frf:=I.stkFree
theorem cJ(ok:cZ X scope cl own rest ix){pins:List (Addr×Obj)}{σ:St}{H:Hp}{s:Shared}{fp:List Addr}{h₁:Heap}{tk:Nat}{o:Obj}(I:Inv X pins σ H s)(hf:∀b∈fp,vI X pins H b)(hb:∀b∈fp,b<s.heap.objs.size)
  (hn:h₁.Ns s.heap.objs.size fun _=>none)(hs:Heap.SameBut s.heap.objs.size (s.heap.push o) h₁):
  Inv (vG X scope cl (own++rest) s.heap.objs.size s H fp pins) [] (kJ ix (List.replicate own.length none) σ) H {s with heap:=h₁,toks:=tk}:=by
 have kp:∀b u,s.heap.get? b=some u->h₁.get? b=some u:=fun b u e=>(hs.2 b (aq9 (aq8 e))).trans (aq13 _ e)
 refine⟨qHq ok I hf hb,rfl,I.bare,Un.kept kp,⟨_,hn,fun j y v e1 e2 e3=>?_⟩,fun y c h=>?_,I.hok.fresh (aq7 _),fun y c h=>I.freeC y c (ok.cls y c h),fun p hp=>?_,I.hok.kept kp,?_⟩
 ·have e1':(own++rest)[j]? =some y:=e1
  have e2':(List.replicate own.length none++ix.map fun i=>σ.getD i none)[j]? =some (some v):=e2
  by_cases hj:j<own.length
  ·rw[List.getElem?_append_left (by simpa using hj),List.getElem?_replicate]at e2'
   split at e2'<;>cases e2'
  ·rw[List.getElem?_append_right (by omega)]at e1'
   rw[List.getElem?_append_right (by simpa using hj),List.length_replicate]at e2'
   obtain⟨i,hi,hN⟩:=ok.at_ _ y e1'
   rw[dG hi]at e2'
   have hσ:σ[i]? =some (some v):=by
    have e4:σ.getD i none=some v:=Option.some.inj e2'
    rw[List.getD_eq_getElem?_getD]at e4
    cases q:σ[i]?with
    |none=>rw[q]at e4;cases e4
    |some w=>rw[q]at e4;exact congrArg some e4
   obtain⟨hfree,hout⟩:=ok.out y (aq23 e1')
   obtain⟨m,hm,hl⟩:=I.loc
   obtain⟨u,ru,lk⟩:=hl i y v hN hσ (by rcases hout with z|z;exact .inr (.inl z);exact .inr (.inr z))
   refine⟨u,ru,.inr ⟨?_,?_⟩⟩
   ·have e:(compEnvC scope cl s.heap.objs.size X.env).kindOf y=(scope.names.lookup y).map fun k=>if(k==NameKind.free&&X.env.scope.kind== .function&&X.env.kindOf y==some .cell)then NameKind.cell else k:=wG X.env scope.names y
    show(compEnvC scope cl s.heap.objs.size X.env).kindOf y=some .cell\/(compEnvC scope cl s.heap.objs.size X.env).kindOf y=some .free
    rw[e,hfree,Option.map_some]
    by_cases hc:(NameKind.free==NameKind.free&&X.env.scope.kind== .function&&X.env.kindOf y==some .cell)=true
    ·rw[if_pos hc];exact .inl rfl
    ·rw[if_neg hc];exact .inr rfl
   ·obtain⟨c,hc⟩:=ok.fr y hfree
    have hc2:=ok.cls y c hc
    rcases lk with⟨z,_⟩|⟨_,c',e',ce⟩
    ·rcases hout with z'|z'<;>(rw[z]at z';cases z')
    ·rw[hc2]at e';cases e'
     obtain⟨oc,hoc,hd⟩:=ce
     exact⟨c,hc,oc,kp _ _ hoc,hd⟩
 ·obtain⟨v,oc,hoc,hd⟩:=I.cell y c (ok.cls y c h)
  exact⟨v,oc,kp _ _ hoc,hd⟩
 ·have hp':p∈X.pn++pins:=by simpa[vG]using hp
  obtain⟨e,n,ne,nf,d⟩:=I.pin p hp'
  refine⟨kp _ _ e,n,aq9 (aq8 e),fun hm=>?_,d⟩
  rcases List.mem_cons.mp (I.stkSub _ hm)with z|z
  ·exact ne z
  ·exact nf z
 ·show(kJ ix (List.replicate own.length none) σ).length=(own++rest).length
  simp[kJ,ok.len]
theorem zQq{Xb:Cx}{ifs:List Expr}{tc:Option TT}(h:PIf Xb ifs tc){pins:List (Addr×Obj)}{s:Shared}{σ:St}{H:Hp}{Q:Bool->Hp->Prop}(I:Inv Xb pins σ H s)(q:ifT tc σ H Q):
  wpAny (model Xb.prog Xb.w) Xb.A (forIn ifs true fun c r=>if r=true then do let ok<-isTrue c Xb.env (eval c Xb.env);pure (ForInStep.yield ok)else pure (ForInStep.yield r)) (TP Xb pins σ Q) Xb.xe s:=by
 cases ifs with
 |nil=>
  cases tc with
  |none=>exact wpAny_pure ⟨H,I,q⟩
  |some tc=>exact h.elim
 |cons c r=>
  cases tc with
  |none=>cases r<;>exact h.elim
  |some tc=>
   cases r with
   |cons c2 r=>exact h.elim
   |nil=>
    have hp:PT Xb c tc:=h
    simp only[List.forIn_cons,List.forIn_nil,if_true]
    refine wpAny_bind (wpAny_bind (thn (hp pins s σ H Q I q) fun b s1 z=>wpAny_pure (wpAny_pure z)))
theorem qY2{elt iter tg:Expr}{ifs:List Expr}{pos:Pos}{te:TE}{g:TG}{tc:Option TT}{pins:List (Addr×Obj)}{σ:St}{H:Hp}{s s4:Shared}{fp:List Addr}{it D:Addr}{tn:Nat->Heap->Prop}{J:It}{Q:VK}{W:Nat->Nat->List V->Hp->Prop}{m0:Nat}
  (ok:cZ X scope cl own rest ix)(hc:X.calm=true)(he:∀(C:Addr)(s:Shared)(H:Hp)(fp:List Addr)(pins:List (Addr×Obj)),PE (vG X scope cl (own++rest) C s H fp pins) elt te)(hg:∀(C:Addr)(s:Shared)(H:Hp)(fp:List Addr)(pins:List (Addr×Obj)),PG (vG X scope cl (own++rest) C s H fp pins) tg g)
  (hif:∀(C:Addr)(s:Shared)(H:Hp)(fp:List Addr)(pins:List (Addr×Obj)),PIf (vG X scope cl (own++rest) C s H fp pins) ifs tc)
  (I:Inv X pins σ H s)(T:Turn X.prog X.w X.K tg J fp it tn)(hf:∀b∈fp,vI X pins H b)(hb:∀b∈fp,b<s.heap.objs.size)
  (J4:Inv (vG X scope cl (own++rest) s.heap.objs.size s H fp pins) [] (kJ ix (List.replicate own.length none) σ) H s4)(st:tn 0 s4.heap)(w0:W 0 m0 [] H)
  (turn:∀i m ys H2,W i m ys H2->(J.stop i H2/\Q (.ref D) H2)\/(J.go i H2/\∀(o:List (Option V))v H3,o.length=own.length->J.yld i H2 v H3->g v (kJ ix o σ) H3 fun σ2 H4=>(∃o':List (Option V),σ2=kJ ix o' σ/\o'.length=own.length)/\
   ifT tc σ2 H4 fun b H5=>if b=true then te σ2 H5 fun y H6=>H6 D=some (.lst ys)/\ys.length<sizeLine/\∃m',m'<m/\W (i+1) m' (ys++[y]) (upd H6 D (.lst (ys++[y])))else∃m',m'<m/\W (i+1) m' ys H5)):
  codeAny (model X.prog X.w) X.A (.compLoop (.ListComp elt [⟨tg,iter,ifs,0⟩] scope pos) 0 (.ref it) (.ref D) (compEnvC scope cl s.heap.objs.size X.env)) (compPost (model X.prog X.w) X.A X.xe none (EP X pins σ Q) (.ref D) s.heap.objs.size) s4:=by
 have stat:∀{H':Hp},(∀b∈fp,H' b=none)->∀b∈fp,vI (vG X scope cl (own++rest) s.heap.objs.size s H fp pins) [] H' b:=fun hn b hm=>by
  obtain⟨g0,g1,g2,g3,g4,g5⟩:=hf b hm
  refine⟨hn b hm,aq9 (hb b hm),fun z=>?_,.inl hm,fun y c h=>g4 y c (ok.cls y c h),fun p hp=>g5 p (by simpa[vG]using hp)⟩
  rcases List.mem_cons.mp (I.stkSub b z)with z|z
  ·exact g1 z
  ·exact g2 z
 refine codeAny_loop rfl (fun n s'=>∃i ys o H',o.length=own.length/\Inv (vG X scope cl (own++rest) s.heap.objs.size s H fp pins) [] (kJ ix o σ) H' s'/\tn i s'.heap/\(∀b∈fp,H' b=none)/\W i n ys H') (fun n s' hI=>?_) m0 ⟨0,[],List.replicate own.length none,H,by simp,J4,st,fun b hm=>(hf b hm).1,w0⟩
 obtain⟨i,ys,o,H',ho,I',st',fr',w'⟩:=hI
 show wpAny _ _ ((compTurn (.ListComp elt [⟨tg,iter,ifs,0⟩] scope pos) 0 (.ref it) (.ref D) (compEnvC scope cl s.heap.objs.size X.env)).onRaise (fun x=>do noteFrame x (compEnvC scope cl s.heap.objs.size X.env);theTreesLotGoes x)) _ _ s'
 refine wpAny_noted ?_
 rw[compTurn_list]
 refine wpAny_bind (wpAny_standAt (wpAny_bind ?_))
 rcases turn i n ys H' w' with⟨stop,q⟩|⟨go,step⟩
 ·refine thn (T.done (vG X scope cl (own++rest) s.heap.objs.size s H fp pins) rfl rfl rfl hc i [] s' _ H' _ I' (stat fr') st' stop) fun r s5⟨hr,I5⟩=>?_
  subst hr
  refine wpAny_pure ?_
  obtain⟨m,hn,_⟩:=I5.loc
  refine⟨m,hn,fun h'' hs=>⟨.ref D,H',?_,rfl,q⟩⟩
  have B:=I5.base
  have ne:∀b u,s.heap.get? b=some u->b≠s.heap.objs.size:=fun b u e=>aq9 (aq8 e)
  have un:Un (frs X.stack) fp H H' s.heap h'':=
   ⟨fun b u e n hx hy=>(hs.2 b (ne b u e)).trans (B.keep b u e n hx hy),fun b u e n hx hy=>(let⟨sl,z⟩:=B.slot b u e n hx hy;⟨sl,(hs.2 b (ne b u e)).trans z⟩),B.free,
    fun b u e hy=>(let⟨u',z⟩:=B.there b u e hy;⟨u',(hs.2 b (ne b u e)).trans z⟩),B.tups,B.frzs,B.tbls⟩
  have hok:HOk X.prog X.w H' h'':=fun b u e=>(I5.hok b u e).stay (fun c v hc' z=>(hs.2 c (fun zz=>by
   have fz:H' s.heap.objs.size=none:=I5.free
   rcases hc' with y|y
   ·rw[<-y,zz,fz]at e;cases e
   ·rw[zz,fz]at y;cases y)).trans z) (fun _ z=>z) fun _ _ z=>z
  refine I.call' (s':={s5 with heap:=h''}) (ch:=fp) I5.os un hok I5.bare fun b hm=>?_
  obtain⟨g0,g1,g2,g3,g4,g5⟩:=hf b hm
  exact⟨g3,g1,g4,g5⟩
 ·refine thn (T.item (vG X scope cl (own++rest) s.heap.objs.size s H fp pins) rfl rfl rfl hc i [] s' _ H' _ I' (stat fr') st' go) fun r s5⟨u,hr,h5⟩=>?_
  subst hr
  refine wpAny_bind (thn h5 fun _ s6⟨xv,H6,I6,r6,y6,st6,fr6⟩=>?_)
  have I6':=I6.pinned (stat fr6) (T.obj _ _ st6)
  refine wpAny_bind (wpAny_mono (hg _ _ _ _ _ _ s6 (kJ ix o σ) H6 xv u _ I6' r6 (step o xv H6 ho y6)) (fun _ s7⟨σ7,H7,I7,⟨o',e7,ho'⟩,q7⟩=>?_) fun _ _ z=>z.elim)
  subst e7
  have again:∀{H9:Hp}{s9:Shared}{ys9:List V}{m':Nat},Inv (vG X scope cl (own++rest) s.heap.objs.size s H fp pins) ([]++uP fp s6.heap) (kJ ix o' σ) H9 s9->m'<n->W (i+1) m' ys9 H9->
    ∃m,m<n/\∃i ys o H',o.length=own.length/\Inv (vG X scope cl (own++rest) s.heap.objs.size s H fp pins) [] (kJ ix o σ) H' s9/\tn i s9.heap/\(∀b∈fp,H' b=none)/\W i m ys H':=fun {H9 s9 ys9 m'}I9 hm w9=>by
   refine⟨m',hm,i+1,ys9,o',H9,ho',I9.unpinned,?_,fun b hm=>?_,w9⟩
   ·exact T.keep _ _ _ st6 fun b hm ob e=>(I9.pin (b,ob) (aq11 _ (aq11 _ (xP hm e)))).1
   ·obtain⟨ob,e,d⟩:=T.obj _ _ st6 b hm
    exact(I9.pin (b,ob) (aq11 _ (aq11 _ (xP hm e)))).2.1
  refine wpAny_bind (wpAny_mono (zQq (hif _ _ _ _ _) I7 q7) (fun b s8⟨H8,I8,q8⟩=>?_) fun _ _ z=>z.elim)
  cases b with
  |false=>
   obtain⟨m',hm',w8⟩:=(show∃m',m'<n/\W (i+1) m' ys H8 from q8)
   exact wpAny_pure ⟨rfl,again I8 hm' w8⟩
  |true=>
   refine wpAny_bind (wpAny_bind (wpAny_mono (he _ _ _ _ _ _ s8 _ _ _ I8 q8) (fun yv s9⟨y,H9,I9,r9,hD,hz,m',hm',w9⟩=>?_) fun _ _ z=>z.elim))
   refine wpAny_bind (wpAny_mono (zF (X:=vG X scope cl (own++rest) s.heap.objs.size s H fp pins) _ s9 _ H9 (.ref D) [y] (.ref D) [yv] (fun _ H10=>H10=upd H9 D (.lst (ys++[y]))) I9 rfl (.cons r9 .nil) ⟨D,ys,y,rfl,rfl,hD,hz,rfl⟩) (fun _ s10⟨_,H10,I10,_,e10⟩=>?_) fun _ _ z=>z.elim)
   subst e10
   exact wpAny_pure (wpAny_pure ⟨rfl,again I10 hm' w9⟩)
theorem qY3{elt iter tg:Expr}{ifs:List Expr}{pos:Pos}{wi:TI}{te:TE}{g:TG}{tc:Option TT}(ok:cZ X scope cl own rest ix)(hc:X.calm=true)(hi:PI X tg iter wi)
  (he:∀(C:Addr)(s:Shared)(H:Hp)(fp:List Addr)(pins:List (Addr×Obj)),PE (vG X scope cl (own++rest) C s H fp pins) elt te)(hg:∀(C:Addr)(s:Shared)(H:Hp)(fp:List Addr)(pins:List (Addr×Obj)),PG (vG X scope cl (own++rest) C s H fp pins) tg g)
  (hif:∀(C:Addr)(s:Shared)(H:Hp)(fp:List Addr)(pins:List (Addr×Obj)),PIf (vG X scope cl (own++rest) C s H fp pins) ifs tc)
  (hs:∀x,foldedSetIterable iter X.env x=pure x:=by intro _;rfl):PE X (.ListComp elt [⟨tg,iter,ifs,0⟩] scope pos) (qY1 wi g tc te own.length ix):=by
 intro pins s σ H Q I h
 rw[eval_ListComp]
 refine wpAny_comprehension_free (use:=none) rfl hs ok.clos ok.kind ok.names (thn (hi pins s σ H _ I h) fun v s1 h1=>thn h1 fun itv s2 h2=>?_)
 obtain⟨it,fp,tn,J,H1,e,I2,T,st2,f2,hq⟩:=h2
 subst e
 refine wpAny_newObj_type (wpAny_newFunctionEnv ok.cell (by intro y hy;simp at hy) (fun h₁ hns hsb=>?_) ok.kind)
 dsimp only at hns hsb⊢
 have na:H1 s2.heap.objs.size=none:=I2.hok.fresh (aq7 _)
 obtain⟨W,⟨m0,w0⟩,turn⟩:=hq s2.heap.objs.size na
 have I3:=I2.laid (t':=s2.toks) (o:=.lst []) (h':=s2.heap.push {cls:=.type "list",dict:=none,data:=.seq ([]:List Value).toArray}) (fun b u e=>aq13 _ e) (aq7 _) ⟨by decide,[],0,.nil,aq14 _ rfl⟩
 have fa:∀b∈fp,b<s2.heap.objs.size:=fun b hb=>by
  obtain⟨o,ho,_⟩:=T.obj 0 _ st2 b hb
  exact aq8 ho
 generalize hs3:({s2 with heap:=s2.heap.push {cls:=.type "list",dict:=none,data:=.seq ([]:List Value).toArray}}:Shared)=s3 at hns hsb I3⊢
 have z3:s3.heap.objs.size=s2.heap.objs.size+1:=by rw[<-hs3];exact Heap.size_push _ _
 have k3:∀b u,s2.heap.get? b=some u->s3.heap.get? b=some u:=fun b u e=>by rw[<-hs3];exact aq13 _ e
 have fa3:∀b∈fp,b<s3.heap.objs.size:=fun b hb=>by rw[z3];exact Nat.lt_succ_of_lt (fa b hb)
 have f3:∀b∈fp,vI X pins (upd H1 s2.heap.objs.size (.lst [])) b:=fun b hb=>by
  obtain⟨g0,g1⟩:=f2 b hb
  exact⟨by rw[qL (aq9 (fa b hb))];exact g0,g1⟩
 subst hs3
 have J4:=cJ ok (tk:=s2.toks+([]:List (Str×Value)).length) I3 f3 fa3 hns hsb
 have st4:tn 0 h₁:=T.keep _ _ _ st2 fun b hm o e=>(hsb.2 b (aq9 (fa3 b hm))).trans (aq13 _ (k3 b o e))
 have loop:=qY2 (elt:=elt) (iter:=iter) (pos:=pos) (s4:={s2 with heap:=h₁,toks:=s2.toks+([]:List (Str×Value)).length}) ok hc he hg hif I3 T f3 fa3 J4 st4 w0 turn
 exact codeAny_compStart_list loop (T.self _ 0 _ _ _ st4 loop)
end
open Dt
section
variable {X:Cx} {CX:CXT} {e func:Expr} {es:List Expr} {tf:TE} {t:TA} {pos:Pos}
inductive tI(X:Cx)(CX:CXT)(t:TA)(σ:St)(Q:VK)(x:V)(H1:Hp):Prop
 |mk (f:Addr) (fd:FuncData) (ps:List Str) (sp:Sp) (dvs:List V) (ds:List Value) (E:XK) (k:Nat) (a_0:x= .ref f) (a_1:zQ X.prog X.w X.K X.mg X.base CX k f fd ps sp) (a_2:Room k X.A) (a_3:PySem.W.keepIn X.K (.ref f)=true) (a_4:Binds X.K fd ps ds) (a_5:Vals dvs ds) (a_6:Passes CX X E) (a_7:t σ H1 fun vs H2=>sp (vs++dvs) H2 Q E):tI X CX t σ Q x H1
def zW8(X:Cx)(CX:CXT)(tf:TE)(t:TA):TE:=fun σ H Q=>tf σ H fun x H1=>tI X CX t σ Q x H1
theorem wB(hf:PE X func tf)(ha:PA X (e::es) t)(hc:eval (.Call func (e::es) [] pos) X.env=(do callWith pos (<-eval func X.env) [] (backTo pos (starEach (e::es) X.env)) (backToKw pos (keywordEach [] X.env))):=by rfl)
  (he:starEach (e::es) X.env=(false,eval e X.env)::starEach es X.env:=by rfl)(hpl:(backTo pos (starEach es X.env)).any (·.1)=false:=by rfl):
  PE X (.Call func (e::es) [] pos) (zW8 X CX tf t):=by
 intro pins s σ H Q I h
 refine Call_ (thn (hf pins s σ H _ I h) fun u s0⟨x,H0,I0,rx,f,fd,ps,sp,dvs,ds,E,k,ex,F,hr,hk,hb,hd,hx,q⟩=>?_) hc
 subst ex
 obtain rfl:u=Value.ref f:=rx
 exact PySem.W.callWith_K (h₀:=X.base) I.ok.mod.kin hk (thn (ha pos pins s0 σ H0 _ I0 q) fun us s1⟨vs,H1,I1,r,q1⟩=>⟨I1.kIn,mJ F hr hb hd hx I1 r q1⟩) he hpl
theorem tL{K:Fg}{H:Hp}:∀{ds:List Dt}{vs:List V},qO K H ds vs->∀v∈vs,∃d∈ds,qY K H d v
 |[],_,h=>by rw[qO]at h;subst h;intro v hv;cases hv
 |d::ds,_,h=>by
  rw[qO]at h
  obtain⟨v,r,rfl,h2,h3⟩:=h
  intro w hw
  rcases List.mem_cons.mp hw with rfl|hw
  ·exact⟨d,aq22,h2⟩
  ·obtain⟨d',m,x⟩:=tL h3 w hw
   exact⟨d',aq10 _ m,x⟩
theorem zW9:yP X (compareOp .Eq) (fun x y H Q=>∃p q xs ys ds es,x= .ref p/\y= .ref q/\zS X.K H p xs/\zS X.K H q ys/\qO X.K H ds xs/\qO X.K H es ys/\X.A.units+1+deps ds<cLine/\Q (.bl (eqDs ds es)) H):=by
 intro pins s σ H x y v u Q I rx ry h
 obtain⟨p,q',xs,ys,ds,es,rfl,rfl,h1,h2,d1,d2,hu,q⟩:=h
 cases rx
 cases ry
 obtain⟨its,r1,p1,_⟩:=I.list h1
 obtain⟨its2,r2,p2,_⟩:=I.list h2
 have l1:its.length=ds.length:=by rw[<-r1.length,d1.length]
 have l2:its2.length=es.length:=by rw[<-r2.length,d2.length]
 have hu':X.A.units<cLine:=by omega
 by_cases hl:ds.length=es.length
 ·have key:=SeqAt.eq_listAt (prog:=X.prog) (w:=X.w) (A:=X.A) (E:=X.xe) (Q:=EP X pins σ Q) (e:=fun j=>eqD (ds.getD j .non) (es.getD j .non)) p1.isList p2.isList (by simp;omega) hu' (fun j h1 h2'=>by
   have :=iY I ds es X.A.in1 xs ys its its2 (by show X.A.units+1+deps ds<cLine;omega) d1 d2 r1 r2 j (by simpa using h1) (by simpa using h2')
   simpa using this)
  refine key ⟨.bl (eqDs ds es),H,I,?_,q⟩
  rw[aq18,l1,<-uX .non ds es,hl,Nat.min_self]
  simp
  rfl
 ·refine SeqAt.eq_list_lengthsAt p1.isList p2.isList (by simp;omega) hu' ⟨.bl false,H,I,rfl,?_⟩
  have :eqDs ds es=false:=by
   cases e:eqDs ds es with
   |false=>rfl
   |true=>exact absurd (oH e) hl
  rw[this]at q
  exact q
def tyD:Dt->String
 | .non=>"NoneType"
 | .bl _=>"bool"
 | .int _=>"int"
 | .str _=>"str"
 | .tup _=>"tuple"
theorem cX:kP X (.builtin "isinstance") (fun xs H Q=>∃d x n b,xs=[x,.ty n]/\qY X.K H d x/\PySem.W.kitOne X.K (.type (tyD d)) (.type n)=some b/\Q (.bl b) H):=by
 intro pins s σ H xs us Q I r h
 obtain⟨d,x,n,b,rfl,hd,ko,q⟩:=h
 obtain⟨u,u2,rfl,r1,r2⟩:=vals2 r
 cases r2
 have fin:∀tk,EP X pins σ Q (.bool b) {s with toks:=tk}:=fun tk=>⟨.bl b,H,I.tok tk,rfl,q⟩
 cases d with
 |non=>rw[qY]at hd;subst hd;cases r1;exact PySem.W.kia_one PySem.W.kitx_none I.kIn True.intro ko (fun z=>nomatch z) fin
 |bl y=>rw[qY]at hd;subst hd;cases r1;exact PySem.W.kia_one PySem.W.kitx_bool I.kIn True.intro ko (fun z=>nomatch z) fin
 |int y=>rw[qY]at hd;subst hd;obtain⟨t,rfl⟩:=r1;exact PySem.W.kia_one PySem.W.kitx_int I.kIn True.intro ko (fun z=>nomatch z) fin
 |str y=>rw[qY]at hd;subst hd;obtain⟨t,rfl⟩:=r1;exact PySem.W.kia_one PySem.W.kitx_str I.kIn True.intro ko (fun z=>nomatch z) fin
 |tup ds=>
  obtain⟨a,its,rfl,ht,_⟩:=xC I hd r1
  obtain⟨o,h1,h2,_⟩:=ht
  exact PySem.W.kia_one PySem.W.kitx_tuple I.kIn ⟨o,h1,h2⟩ ko (fun z=>nomatch z) fin
theorem qY4{d:Dt}:∀{ds:List Dt},d∈ds->dep d<=deps ds
 |[],h=>by cases h
 |e::es,h=>by
  rw[deps]
  rcases List.mem_cons.mp h with rfl|h
  ·omega
  ·have :=qY4 h;omega
def qHz(x:Dt)(ds:List Dt):Bool:=ds.any fun d=>eqD d x
theorem qY5{H:Hp}{pins:List (Addr×Obj)}{σ:St}{s:Shared}(I:Inv X pins σ H s)(A:Around)(x:Dt)(xv:V)(xu:Value)(hx:qY X.K H x xv)(rx:zG xv xu):∀{ds:List Dt}{vs:List V}{us:List Value},qO X.K H ds vs->Vals vs us->A.units+deps ds<cLine->
  ∃f:Value->Bool,(∀u∈us,SeqAt.EqAt A s u xu (f u))/\us.map f=ds.map fun d=>eqD d x:=by
 classical
 intro ds vs us hd hv hu
 have one:∀u∈us,∃d∈ds,∃v,qY X.K H d v/\zG v u:=by
  intro u hu'
  obtain⟨i,hi,e⟩:=List.getElem_of_mem hu'
  have hl:=hv.length
  have hi':i<vs.length:=by omega
  obtain⟨d,hdm,hdv⟩:=tL hd vs[i] (List.getElem_mem hi')
  obtain⟨u',h1,h2⟩:=hv.get (aq15 hi')
  rw[aq15 hi,e]at h1
  cases h1
  exact⟨d,hdm,vs[i],hdv,h2⟩
 refine⟨fun u=>if h:∃d v,qY X.K H d v/\zG v u then eqD h.choose x else false,fun u hu'=>?_,?_⟩
 ·obtain⟨d,hdm,v,h1,h2⟩:=one u hu'
  have hex:∃d v,qY X.K H d v/\zG v u:=⟨d,v,h1,h2⟩
  show SeqAt.EqAt A s u xu (if h:∃d v,qY X.K H d v/\zG v u then eqD h.choose x else false)
  rw[dif_pos hex]
  obtain⟨v',g1,g2⟩:=hex.choose_spec
  have ev:v'=v:=g2.inj h2
  subst ev
  have ed:=mG I g1 h1
  rw[ed]
  have hdep:dep d<=deps ds:=qY4 hdm
  exact qY0 I d x A _ xv u xu (by omega) h1 hx h2 rx
 ·clear one hu
  induction ds generalizing vs us with
  |nil=>rw[qO]at hd;subst hd;cases hv;rfl
  |cons d ds ih=>
   rw[qO]at hd
   obtain⟨v,r,rfl,h2,h3⟩:=hd
   cases hv with
   | @cons _ u _ us' p q=>
    rw[List.map_cons,List.map_cons,ih h3 q]
    congr 1
    have hex:∃d v,qY X.K H d v/\zG v u:=⟨d,v,h2,p⟩
    rw[dif_pos hex]
    obtain⟨v',g1,g2⟩:=hex.choose_spec
    have ev:v'=v:=g2.inj p
    subst ev
    rw[mG I g1 h2]
theorem uK{α:Type}(f:α->Bool)(l:List α):l.any f=(l.map f).any id:=by rw[List.any_map];rfl
theorem zWq:yP X (compareOp .In) (fun x y H Q=>∃p xs d ds,y= .ref p/\zS X.K H p xs/\qY X.K H d x/\qO X.K H ds xs/\X.A.units+1+deps ds<cLine/\Q (.bl (qHz d ds)) H):=by
 intro pins s σ H x y v u Q I rx ry h
 obtain⟨p,xs,d,ds,rfl,hq,hd,hds,hu,q⟩:=h
 cases ry
 obtain⟨its,r,pl,hz⟩:=I.list hq
 obtain⟨f,hf,hm⟩:=qY5 I X.A.in1 d x v hd rx hds r (by show X.A.units+1+deps ds<cLine;exact hu)
 refine SeqAt.in_listAt f pl.isList (fun w hw=>hf w (by simpa using hw)) ⟨.bl _,H,I,rfl,?_⟩
 have e:its.toArray.any f=qHz d ds:=by
  rw[show its.toArray.any f=its.any f by simp,uK,hm]
  unfold qHz
  rw[<-uK]
 rw[e]
 exact q
theorem pT:kP X (.type "dict") (fun xs H Q=>∃a kvs,xs=[.ref a]/\H a=some (.dK kvs)/\∀b,H b=none->Q (.ref b) (upd H b (.dK kvs))):=by
 intro pins s σ H xs us Q I r h
 obtain⟨a,kvs,rfl,ha,q⟩:=h
 obtain⟨u,rfl,r1⟩:=vals1 r
 cases r1
 obtain⟨hz,hS,vs,rel,m⟩:kvs.length<=sizeLine/\(a==sysModules)=false/\∃vs,KV kvs vs/\s.heap.DictOf (jU X.prog X.w) a vs:=I.hok a _ ha
 have hlen:kvs.length=vs.length:=Paired.length rel
 refine kt_call_dict hS m (by omega) fun h' hd hs=>?_
 have na:H s.heap.objs.size=none:=I.hok.fresh (aq7 _)
 refine⟨.ref s.heap.objs.size,_,I.laid (t':=s.toks) (o:=.dK kvs) (fun b u e=>(hs.2 b (aq9 (aq8 e))).trans (aq13 _ e)) (aq7 _) ⟨hz,beq_eq_false_iff_ne.mpr (Ne.symm (aq9 I.big)),vs,rel,hd⟩,rfl,q _ na⟩
end
end L2
namespace L2
open PySem PySem.Spec PyProof.Rows PyProof
theorem Inv.turnedL{X:Cx}{pins:List (Addr×Obj)}{σ:St}{H:Hp}{s:Shared}{h':Heap}{t':Nat}{ch:List Addr}(I:Inv X pins σ H s)(k:∀b o,b∉ch->s.heap.get? b=some o->h'.get? b=some o)(f:∀b∈ch,vI X pins H b):
  Inv X pins σ H {s with heap:=h',toks:=t'}:=by
 have nit:∀b u,H b=some u->b∉ch:=fun b u e z=>by rw[(f b z).1]at e;cases e
 have nl:X.env.locals∉ch:=fun z=>(f _ z).2.1 rfl
 refine I.step (g':=s.gens) (d':=s.drawn) (ch:=ch) (fun b hb=>let⟨_,a2,_,a4,a5,a6⟩:=f b hb;⟨a4,a2,a5,a6⟩) (fun b o _ _ hc e _=>k b o hc e) (fun b o _ _ hc e _=>⟨o.slots,k b o hc e⟩) (fun _ _ _ _ n=>n)
  (fun b o hc e=>⟨o,k b o hc e⟩) (fun _ _ e=>e) (fun _ _ _ e=>e) (fun b ps e=>⟨#[],by rw[e];simp⟩) (fun m hm=>?_) (fun b u e=>?_) I.bare
 ·obtain⟨o,es,ep,ho,r⟩:=hm
  exact⟨o,es,ep,k _ o nl ho,r⟩
 ·refine(I.hok b u e).stay (fun c v hc q=>k c v ?_ q) (fun _ q=>q) fun _ _ q=>q
  rcases hc with z|z
  ·rw[z];exact nit b u e
  ·exact nit c _ z
inductive qY6(K:Fg)(t:TA)(σ:St)(Q:VK)(x:V)(H1:Hp):Prop
 |mk (a:_) (D:_) (a_0:x= .ref a) (a_1:oE K a D) (a_2:t σ H1 fun xs H2=>∃k dv,xs=[.str k,dv]/\Q ((KTD.datumAt k D).getD dv) H2):qY6 K t σ Q x H1
def zBj(K:Fg)(to:TE)(t:TA):TE:=fun σ H Q=>to σ H fun x H1=>qY6 K t σ Q x H1
theorem qHj{X:Cx}{o e d:Expr}{to:TE}{t:TA}{apos cpos:Pos}(ho:PE X o to)(ha:PA X [e,d] t)
  (hbase:attributeBase o "get" X.env (eval o X.env)=eval o X.env:=by rfl)
  (hfew:((backTo cpos (starEach [e,d] X.env)).all (fun x=> !x.1)&&(backToKw cpos (keywordEach [] X.env)).all (fun x=>x.1.isSome)&&decide ([e,d].length+([]:List Keyword).length+(if([]:List Keyword).isEmpty then 0 else 1)<30))=true:=by rfl)
  (hline:(apos.endLine==cpos.line)=true:=by rfl)(hs:starEach [e,d] X.env=(false,eval e X.env)::starEach [d] X.env:=by rfl)(hplain:(backTo cpos (starEach [d] X.env)).any (·.1)=false:=by rfl):
  PE X (.Call (.Attribute o "get" apos) [e,d] [] cpos) (zBj X.K to t):=by
 intro pins s σ H Q I h
 refine wpAny_Call_method_late hbase hfew hline rfl (thn (ho pins s σ H _ I h) fun v s1⟨x,H1,I1,r1,q1⟩=>?_)
 obtain⟨a,D,rfl,⟨lo,ob,es,ep,lk,hc,hd,hr⟩,q1⟩:=q1
 cases r1
 refine⟨"dict","dict.get",PySem.F.plainAttrs_dict,PySem.F.slot_dict_get,PySem.F.type_dict_get,⟨ob,I1.kIn _ _ lk,hc.1⟩,fun b z=>?_,?_⟩
 ·cases z
  exact⟨ob,I1.kIn _ _ lk,hc.2.1⟩
 have hA:=ha cpos pins s1 σ H1 _ I1 q1
 rw[hs]at hA⊢
 refine Calls.callWith_builtin (by show(false||(backTo cpos (starEach [d] X.env)).any (·.1))=false;rw[hplain]<;>rfl) (Calls.evalArgs_plain (thn hA fun us s2⟨vs,H2,I2,r2,q2⟩=>?_))
 obtain⟨k,dv,rfl,q⟩:=q2
 obtain⟨u1,u2,rfl,⟨tk,rfl⟩,rd⟩:=Vals.two r2
 have hob:=I2.kIn _ _ lk
 refine wpAny_call_entry PySem.F.slot_dict_get ⟨ob,hob,hc.1⟩ PySem.F.entry_dict_get ?_ (PySem.F.args_dict_get_3 _ _ _)
 show wpAny _ _ (dictGet a (.str k tk)>>=_) _ _ s2
 refine wpAny_bind (dL hob hd hr (fun v u e ru=>?_) fun e=>?_)
 ·rw[e]at q
  exact wpAny_pure ⟨_,rfl,v,H2,I2.tok _,ru,q⟩
 ·rw[e]at q
  show wpAny _ _ (Builtin.Dict.missed a (.str k tk)>>=_) _ _ _
  exact wpAny_bind (wpAny_missed_other lo (wpAny_pure ⟨_,rfl,dv,H2,I2.tok _,rd,q⟩))
def Ite(K:Fg)(l:Addr):It:=⟨fun i H=>∃xs x,zS K H l xs/\xs[i]? =some x,
 fun i H v H'=>∃T x,H T=none/\v= .ref T/\H'=upd H T (.tup [.int i,x])/\∀ys,zS K H l ys->ys[i]? =some x,
 fun i H=>∃xs,zS K H l xs/\xs.length<=i⟩
theorem uV{h:Heap}{a:Addr}{o:Obj}(e:h.get? a=some o):a≠h.objs.size:=aq9 (aq8 e)
theorem qZ8{P:Program}{w:World}{K:Fg}{es:List Expr}{k0}{pos:Pos}(l e it:Addr)(ne:e≠it):Turn P w K (.Tuple es k0 pos) (Ite K l) [e,it] e (fun i h=>(∃old,IsEnum h e it i old)/\h.IsListIter it l i)where
 mem:=by simp
 obj:=fun i h st b hb=>by
  obtain⟨⟨old,e1⟩,o,e2,c2,d2⟩:=st
  rcases List.mem_cons.mp hb with z|z
  ·rw[z];exact⟨_,e1,fun v z=>by cases z⟩
  ·rw[aq20.mp z];exact⟨o,e2,fun v z=>by rw[d2]at z;cases z⟩
 keep:=fun i h h' st k=>⟨st.1.imp fun old q=>k e (by simp) _ q,st.2.at fun o q=>k it (by simp) o q⟩
 item:=by
  intro X hP hw hK hc i pins s σ H E I hf st hg
  subst hP hw hK
  obtain⟨xs,x,hq,hx⟩:=hg
  obtain⟨its,rv,p,hz⟩:=I.list hq
  obtain⟨u,hu,ru⟩:=rv.get hx
  obtain⟨⟨old,e1⟩,e2⟩:=st
  refine wpAny_pyNext_enum_item e1 e2 p.isList (x:=u) (by simpa using hu) ne fun h1 o1 i1 t1 z1 k1=>⟨_,rfl,wpAny_letOwnedTupleGo_enum o1 fun h2 o2 b2=>?_⟩
  have e3:e≠s.heap.objs.size:=uV e1
  have e4:it≠s.heap.objs.size:=by obtain⟨o,q,_⟩:=e2;exact uV q
  have nT:H s.heap.objs.size=none:=I.hok.fresh (aq7 _)
  have t2:h2.get? s.heap.objs.size=some {cls:=.type "tuple",data:=.seq #[.int i s.toks,u]}:=(b2.2 _ (Ne.symm e3)).trans t1
  have I1:Inv X pins σ (upd H s.heap.objs.size (.tup [.int i,x])) {s with heap:=s.heap.push {cls:=.type "tuple",data:=.seq #[.int i s.toks,u]},toks:=s.toks+1}:=
   I.laid (fun b v q=>aq13 _ q) (aq7 _) ⟨by show 2<=sizeLine;decide,[.int i s.toks,u],.cons ⟨_,rfl⟩ (.cons ru .nil),⟨_,aq14 _ rfl,rfl,_,rfl⟩⟩
  have I2:Inv X pins σ (upd H s.heap.objs.size (.tup [.int i,x])) {s with heap:=h2,toks:=s.toks+1}:=by
   refine Inv.turnedL (s:={s with heap:=s.heap.push {cls:=.type "tuple",data:=.seq #[.int i s.toks,u]},toks:=s.toks+1}) (ch:=[e,it]) (t':=s.toks+1) I1 (fun b o hb q=>?_) fun b hb=>?_
   ·have b1:b≠e:=fun z=>hb (by simp[z])
    have b3:b≠it:=fun z=>hb (by simp[z])
    by_cases bT:b=s.heap.objs.size
    ·subst bT
     have z:(s.heap.push {cls:=.type "tuple",data:=.seq #[.int i s.toks,u]}).get? s.heap.objs.size=some _:=aq14 _ rfl
     rw[z]at q
     exact t2.trans q
    ·have q':s.heap.get? b=some o:=by rw[<-q];exact(Heap.get?_push_ne _ _ _ bT).symm
     exact(b2.2 b b1).trans (k1 b o b1 b3 q')
   ·obtain⟨f0,f1⟩:=hf b hb
    refine⟨?_,f1⟩
    rw[qL ?_]
    ·exact f0
    ·rcases List.mem_cons.mp hb with z|z
     ·rw[z];exact e3
     ·rw[aq20.mp z];exact e4
  refine⟨.ref s.heap.objs.size,_,I2,rfl,⟨s.heap.objs.size,x,nT,rfl,rfl,fun ys hy=>by rw[I.list_inj hy hq];exact hx⟩,⟨⟨u,by simpa using o2⟩,i1.at fun o q=>(b2.2 it (Ne.symm ne)).trans q⟩,fun b hb=>?_⟩
  rw[qL ?_]
  ·exact(hf b hb).1
  ·rcases List.mem_cons.mp hb with z|z
   ·rw[z];exact e3
   ·rw[aq20.mp z];exact e4
 done:=by
  intro X hP hw hK hc i pins s σ H E I hf st hg
  subst hP hw hK
  obtain⟨xs,hq,hx⟩:=hg
  obtain⟨its,rv,p,hz⟩:=I.list hq
  have hl:=rv.length
  obtain⟨⟨old,e1⟩,e2⟩:=st
  exact wpAny_pyNext_enum_end (I.ok.hd hc) e1 e2 p.isList (by simp;omega) fun h' eb=>⟨rfl,I.turnedL (t':=s.toks) (ch:=[e,it]) (fun b o hb q=>eb b o (fun z=>hb (by simp[z])) q) hf⟩
 self:=fun _ _ _ _ _ st h=>let⟨⟨_,e1⟩,_⟩:=st;wpAny_pyIter_enum e1 h
def zD0(K:Fg)(ta:TA):TI:=fun σ H R=>ta σ H fun vs H1=>∃l,vs=[.ref l]/\(∃xs,zS K H1 l xs)/\R (Ite K l) H1
theorem tG{X:Cx}{a:Expr}{ta:TA}{p pos p2:Pos}{es:List Expr}{k0}(hg:Gl X "enumerate")(hm:X.mg "enumerate"=none)(ha:PA X [a] ta)(hs:starEach [a] X.env=[(false,eval a X.env)]:=by rfl):
  PI X (.Tuple es k0 p2) (.Call (.Name "enumerate" p) [a] [] pos) (zD0 X.K ta):=by
 intro pins s σ H R I h
 refine Call_ (vR I hg hm boot_enumerate (PyProof.Rows.callWith_type1 (thn (ha pos pins s σ H _ I h) fun us s1⟨vs,H1,I1,r1,q1⟩=>?_) hs rfl))
 obtain⟨l,rfl,⟨xs,hq⟩,q⟩:=q1
 obtain⟨u,rfl,ru⟩:=vals1 r1
 cases ru
 obtain⟨its,rv,pl,hz⟩:=I1.list hq
 refine call_enumerate_list pl.isList fun h' e1 e2 sz kp=>wpAny_pyIter_enum e1 ?_
 refine⟨_,[s1.heap.objs.size+1,s1.heap.objs.size],_,_,H1,rfl,I1.kept (t':=s1.toks) kp,qZ8 l _ _ (Nat.succ_ne_self _),⟨⟨_,e1⟩,e2⟩,fun b hb=>?_,q⟩
 have hb':s1.heap.objs.size<=b:=by
  rcases List.mem_cons.mp hb with z|z
  ·rw[z];exact Nat.le_succ _
  ·rw[aq20.mp z];exact aq7 _
 exact I1.fpOk hb' (I1.hok.fresh hb')
structure Nx(P:Program)(w:World)(it:Addr)(xs:Array Value)(dp:List Addr)(N:Nat->Heap->Prop):Prop where
 stay:∀k h h',N k h->(∀b∈dp,∀o,h.get? b=some o->h'.get? b=some o)->N k h'
 item:∀(A:Around)(E:Value->Shared->Prop)(s:Shared)(k:Nat)(x:Value)(Q:Value->Shared->Prop),N k s.heap->xs[k]? =some x->(∀g,N (k+1) g->Heap.SameBut it s.heap g->Q x {s with heap:=g})->wpAny (model P w) A (Builtin.SmallTypes.nextOf (.ref it)) Q E s
 fin:∀(A:Around)(E:Value->Shared->Prop)(s:Shared)(k:Nat)(Q:Value->Shared->Prop),A.handled=none->N k s.heap->xs[k]? =none->(∀g e,Heap.ExtBut it s.heap g->(∃o,g.get? e=some o/\o.cls= .type "StopIteration")->E (.ref e) {s with heap:=g})->
  wpAny (model P w) A (Builtin.SmallTypes.nextOf (.ref it)) Q E s
theorem uW(P:Program)(w:World)(it t:Addr)(xs:Array Value)(ne:t≠it):Nx P w it xs [it,t] (fun k h=>h.IsTupleIter it t k/\h.IsTuple t xs)where
 stay:=fun k h h' st f=>by
  obtain⟨⟨o,a1,a2⟩,⟨o',b1,b2⟩⟩:=st
  exact⟨⟨o,f it (by simp) o a1,a2⟩,⟨o',f t (by simp) o' b1,b2⟩⟩
 item:=by
  intro A E s k x Q st ex go
  obtain⟨ti,tt⟩:=st
  obtain⟨o,ob,oc,od⟩:=id ti
  obtain⟨u,ub,uc,un,ud⟩:=id tt
  unfold Builtin.SmallTypes.nextOf
  refine wpAny_bind (wpAny_callSpecial?_slot (name:=Str.ofString "__next__") ti.typeIs F.slot_tuple_iterator_next (wpAny_call_entry F.slot_tuple_iterator_next ti.typeIs F.entry_tuple_iterator_next ?_ (F.args_tuple_iterator_next_1 _)))
  show wpAny _ _ (field (.ref it) 0>>=_) _ _ s
  refine wpAny_bind (wpAny_field ob od (x:=.ref t) rfl ?_)
  show wpAny _ _ (if(Value.ref t==Value.none)=true then _ else _) _ _ s
  rw[if_neg (by intro z;cases z)]
  show wpAny _ _ (field (.ref it) 1>>=_) _ _ s
  refine wpAny_bind (wpAny_field ob od (x:=.int k 0) rfl ?_)
  show wpAny _ _ (seqItems? (.ref t)>>=_) _ _ s
  refine wpAny_bind (wpAny_seqItems ub ud ?_)
  simp only[Int.toNat_natCast,ex]
  refine wpAny_bind (wpAny_setField ob od (by simp) (wpAny_pure ⟨x,rfl,wpAny_pure (go _ ⟨?_,tt.extBut (Heap.SameBut.update ..).extBut ne⟩ (Heap.SameBut.update ..))⟩))
  exact⟨_,Heap.get?_update_self _ ob (Obj.isFreed_of_fields (Obj.data_mapFields od _)),(Obj.cls_mapFields ..).trans oc,by rw[Obj.data_mapFields od];simp[rawInt]⟩
 fin:=by
  intro A E s k Q hh st ex go
  obtain⟨ti,tt⟩:=st
  obtain⟨o,ob,oc,od⟩:=id ti
  obtain⟨u,ub,uc,un,ud⟩:=id tt
  unfold Builtin.SmallTypes.nextOf
  refine wpAny_bind (wpAny_callSpecial?_slot (name:=Str.ofString "__next__") ti.typeIs F.slot_tuple_iterator_next (wpAny_call_entry F.slot_tuple_iterator_next ti.typeIs F.entry_tuple_iterator_next ?_ (F.args_tuple_iterator_next_1 _)))
  show wpAny _ _ (field (.ref it) 0>>=_) _ _ s
  refine wpAny_bind (wpAny_field ob od (x:=.ref t) rfl ?_)
  show wpAny _ _ (if(Value.ref t==Value.none)=true then _ else _) _ _ s
  rw[if_neg (by intro z;cases z)]
  show wpAny _ _ (field (.ref it) 1>>=_) _ _ s
  refine wpAny_bind (wpAny_field ob od (x:=.int k 0) rfl ?_)
  show wpAny _ _ (seqItems? (.ref t)>>=_) _ _ s
  refine wpAny_bind (wpAny_seqItems ub ud ?_)
  simp only[Int.toNat_natCast,ex]
  refine wpAny_bind (wpAny_rule (wpAny_bind (wpAny_setField ob od (by simp) ?_)))
  show wpAny _ _ (newExc (.type "StopIteration") []>>=_) _ _ _
  refine wpAny_bind ?_
  simp only[newExc,newTuple]
  refine wpAny_bind (wpAny_newObj_type ?_ (by size_fits))
  refine wpAny_bind (m:=firstArgMember _ _) (wpAny_of_eq (a:=Value.none) (by first|rfl|(simp only[firstArgMember];rfl)) ?_)
  refine wpAny_newObj_type ?_ (by size_fits)
  simp only[raiseNew]
  refine wpAny_bind (wpAny_handled ?_)
  first|rw[show A.in1.handled=none from hh]|rw[hh]
  refine wpAny_bind (wpAny_pure (wpAny_throw ?_))
  exact go _ _ (((Heap.SameBut.update ..).extBut.push _).push _) ⟨_,aq14 _ rfl,rfl⟩
structure ZAp(z p q i j:Addr)(d1 d2:List Addr):Prop where
 pz:p≠z
 qz:q≠z
 iz:i≠z
 jz:j≠z
 pq:p≠q
 pi:p≠i
 pj:p≠j
 qi:q≠i
 qj:q≠j
 ij:i≠j
 z1:z∉d1
 q1:q∉d1
 j1:j∉d1
 z2:z∉d2
 q2:q∉d2
 i2:i∉d2
section
variable {P:Program} {w:World} {A:Around} {E:Value->Shared->Prop} {s:Shared} {z p q i j:Addr} {xs ys:Array Value} {d1 d2:List Addr} {N1 N2:Nat->Heap->Prop}
theorem kX{d:List Addr}{b c:Addr}(h:c∉d)(m:b∈d):b≠c:=fun e=>h (e▸m)
theorem qP0{k:Nat}{x y a b:Value}{Q:Value->Shared->Prop}(D:ZAp z p q i j d1 d2)(n1:Nx P w i xs d1 N1)(n2:Nx P w j ys d2 N2)(zo:IsZip s.heap z p q .none)(po:IsPair s.heap p (.ref i) (.ref j))(qo:IsPair s.heap q a b)
  (st1:N1 k s.heap)(st2:N2 k s.heap)(ex:xs[k]? =some x)(ey:ys[k]? =some y)
  (go:∀g,IsZip g z p q (rawInt s.heap.objs.size)->IsPair g q x y->N1 (k+1) g->N2 (k+1) g->IsPair g s.heap.objs.size x y->(∀c o,c∉[z,q,i,j]->s.heap.get? c=some o->g.get? c=some o)->Q (.ref s.heap.objs.size) {s with heap:=g})
  (zi:i<s.heap.objs.size)(zj:j<s.heap.objs.size)(m1:∀c∈d1,c<s.heap.objs.size)(m2:∀c∈d2,c<s.heap.objs.size):
  wpAny (model P w) A (Builtin.«zip.__next__» ⟨[.ref z],[]⟩) (fun fin s'=>∃v,fin= .done (.ret v)/\Q v s') E s:=by
 have zl:z<s.heap.objs.size:=aq8 zo
 have ql:q<s.heap.objs.size:=aq8 qo
 show wpAny _ _ (field (.ref z) 2>>=_) _ _ _
 refine wpAny_bind (wpAny_field zo rfl (x:=.bool false) rfl ?_)
 show wpAny _ _ (field (.ref z) 3>>=_) _ _ _
 refine wpAny_bind (wpAny_field zo rfl (x:=.ref p) rfl ?_)
 refine wpAny_bind (wpAny_seqItems po rfl ?_)
 show wpAny _ _ (Builtin.SmallTypes.ownedTupleIsFree (.ref z)>>=_) _ _ _
 refine wpAny_bind ?_
 unfold Builtin.SmallTypes.ownedTupleIsFree
 refine wpAny_bind (wpAny_field zo rfl (x:=.none) rfl (wpAny_pure ?_))
 simp only[if_true]
 refine wpAny_bind (wpAny_rule (wpAny_bind (wpAny_field zo rfl (x:=.ref q) rfl ?_)))
 refine wpAny_bind (wpAny_setField_rec zo (by simp) fun g1 w1 b1=>?_)
 replace w1:IsZip g1 z p q .ellipsis:=w1
 refine wpAny_bind ?_
 simp only[List.zipIdx_cons,List.zipIdx_nil,List.forIn_cons,List.forIn_nil]
 refine wpAny_bind (wpAny_bind (wpAny_onRaise ?_))
 show wpAny _ _ (Builtin.SmallTypes.nextOf (.ref i)>>=_) _ _ _
 have a1:N1 k g1:=n1.stay _ _ _ st1 fun c hc o e=>b1.extBut _ _ (kX D.z1 hc) e
 refine wpAny_bind (n1.item _ _ _ _ _ _ a1 ex fun g2 a2 b2=>wpAny_pure ?_)
 have q2:IsPair g2 q a b:=b2.extBut _ _ D.qi (b1.extBut _ _ D.qz qo)
 refine wpAny_bind (wpAny_seqItems q2 rfl (wpAny_bind (wpAny_updateSeq_pair q2 fun g3 q3 b3=>?_)))
 replace q3:IsPair g3 q x b:=q3
 refine wpAny_bind (wpAny_letGo (wpAny_pure ?_))
 refine wpAny_bind (wpAny_bind (wpAny_onRaise ?_))
 show wpAny _ _ (Builtin.SmallTypes.nextOf (.ref j)>>=_) _ _ _
 have c3:N2 k g3:=n2.stay _ _ _ st2 fun c hc o e=>b3.extBut _ _ (kX D.q2 hc) (b2.extBut _ _ (kX D.i2 hc) (b1.extBut _ _ (kX D.z2 hc) e))
 refine wpAny_bind (n2.item _ _ _ _ _ _ c3 ey fun g4 c4 b4=>wpAny_pure ?_)
 have q4:IsPair g4 q x b:=b4.extBut _ _ D.qj q3
 refine wpAny_bind (wpAny_seqItems q4 rfl (wpAny_bind (wpAny_updateSeq_pair q4 fun g5 q5 b5=>?_)))
 replace q5:IsPair g5 q x y:=q5
 refine wpAny_bind (wpAny_letGo (wpAny_pure (wpAny_pure ?_)))
 refine wpAny_bind (wpAny_seqItems q5 rfl (wpAny_bind (wpAny_newTuple ?_)))
 have sz:g5.objs.size=s.heap.objs.size:=by rw[b5.1,b4.1,b3.1,b2.1,b1.1]
 have w5:IsZip g5 z p q .ellipsis:=b5.extBut _ _ D.qz.symm (b4.extBut _ _ D.jz.symm (b3.extBut _ _ D.qz.symm (b2.extBut _ _ D.iz.symm w1)))
 have k5:∀c o,c∉[z,q,i,j]->s.heap.get? c=some o->g5.get? c=some o:=fun c o hc e=>by
  simp only[List.mem_cons,List.not_mem_nil,or_false,not_or]at hc
  obtain⟨h1,h2,h3,h4⟩:=hc
  exact b5.extBut _ _ h2 (b4.extBut _ _ h4 (b3.extBut _ _ h2 (b2.extBut _ _ h3 (b1.extBut _ _ h1 e))))
 have a5:N1 (k+1) g5:=n1.stay _ _ _ a2 fun c hc o e=>b5.extBut _ _ (kX D.q1 hc) (b4.extBut _ _ (kX D.j1 hc) (b3.extBut _ _ (kX D.q1 hc) e))
 have c5:N2 (k+1) g5:=n2.stay _ _ _ c4 fun c hc o e=>b5.extBut _ _ (kX D.q2 hc) e
 show wpAny _ _ (Builtin.SmallTypes.ownedTupleHandOut (.ref z) (.ref g5.objs.size)>>=_) _ _ _
 refine wpAny_bind ?_
 unfold Builtin.SmallTypes.ownedTupleHandOut
 have w6:IsZip (g5.push {cls:=.type "tuple",data:=.seq #[x,y]}) z p q .ellipsis:=aq13 _ w5
 refine wpAny_bind (wpAny_setField_rec w6 (by simp) fun g7 w7 b7=>?_)
 replace w7:IsZip g7 z p q (rawInt g5.objs.size):=w7
 refine wpAny_setField_rec w7 (by simp) fun g8 w8 b8=>?_
 replace w8:IsZip g8 z p q (rawInt g5.objs.size):=w8
 have up:∀c o,c≠z->g5.get? c=some o->g8.get? c=some o:=fun c o c1 e=>b8.extBut _ _ c1 (b7.extBut _ _ c1 (aq13 _ e))
 have zn:g5.objs.size≠z:=by rw[sz];exact Ne.symm (aq9 zl)
 have t8:IsPair g8 g5.objs.size x y:=b8.extBut _ _ zn (b7.extBut _ _ zn (aq14 _ rfl))
 refine wpAny_pure ⟨_,rfl,?_⟩
 show Q (.ref g5.objs.size) _
 rw[sz]at w8 t8⊢
 exact go g8 w8 (up _ _ D.qz q5) (n1.stay _ _ _ a5 fun c hc o e=>up c o (kX D.z1 hc) e) (n2.stay _ _ _ c5 fun c hc o e=>up c o (kX D.z2 hc) e) t8 fun c o hc e=>up c o (fun h=>hc (by simp[h])) (k5 c o hc e)
theorem zWz{k:Nat}{a b:Value}{Q:Fin->Shared->Prop}(hh:A.handled=none)(D:ZAp z p q i j d1 d2)(n1:Nx P w i xs d1 N1)(n2:Nx P w j ys d2 N2)(zo:IsZip s.heap z p q .none)(po:IsPair s.heap p (.ref i) (.ref j))(qo:IsPair s.heap q a b)
  (st1:N1 k s.heap)(st2:N2 k s.heap)(ex:xs[k]? =none\/ys[k]? =none)
  (go:∀g e,(∀c o,c∉[z,q,i,j]->s.heap.get? c=some o->g.get? c=some o)->(∃o,g.get? e=some o/\o.cls= .type "StopIteration")->E (.ref e) {s with heap:=g}):
  wpAny (model P w) A (Builtin.«zip.__next__» ⟨[.ref z],[]⟩) Q E s:=by
 show wpAny _ _ (field (.ref z) 2>>=_) _ _ _
 refine wpAny_bind (wpAny_field zo rfl (x:=.bool false) rfl ?_)
 show wpAny _ _ (field (.ref z) 3>>=_) _ _ _
 refine wpAny_bind (wpAny_field zo rfl (x:=.ref p) rfl ?_)
 refine wpAny_bind (wpAny_seqItems po rfl ?_)
 show wpAny _ _ (Builtin.SmallTypes.ownedTupleIsFree (.ref z)>>=_) _ _ _
 refine wpAny_bind ?_
 unfold Builtin.SmallTypes.ownedTupleIsFree
 refine wpAny_bind (wpAny_field zo rfl (x:=.none) rfl (wpAny_pure ?_))
 simp only[if_true]
 refine wpAny_bind (wpAny_rule (wpAny_bind (wpAny_field zo rfl (x:=.ref q) rfl ?_)))
 refine wpAny_bind (wpAny_setField_rec zo (by simp) fun g1 w1 b1=>?_)
 replace w1:IsZip g1 z p q .ellipsis:=w1
 refine wpAny_bind ?_
 simp only[List.zipIdx_cons,List.zipIdx_nil,List.forIn_cons,List.forIn_nil]
 refine wpAny_bind (wpAny_bind (wpAny_onRaise ?_))
 show wpAny _ _ (Builtin.SmallTypes.nextOf (.ref i)>>=_) _ _ _
 have a1:N1 k g1:=n1.stay _ _ _ st1 fun c hc o e=>b1.extBut _ _ (kX D.z1 hc) e
 cases ex1:xs[k]?with
 |none=>
  refine wpAny_bind (n1.fin _ _ _ _ _ hh a1 ex1 fun g2 e b2 he=>?_)
  obtain⟨oe,e1,e2⟩:=he
  have w2:IsZip g2 z p q .ellipsis:=b2 _ _ D.iz.symm w1
  have ez:e≠z:=fun t=>by subst t;rw[w2]at e1;cases e1;simp at e2
  refine wpAny_setField_rec w2 (by simp) fun g3 _ b3=>go g3 e (fun c o hc r=>?_) ⟨oe,b3.extBut _ _ ez e1,e2⟩
  simp only[List.mem_cons,List.not_mem_nil,or_false,not_or]at hc
  obtain⟨h1,h2,h3,h4⟩:=hc
  exact b3.extBut _ _ h1 (b2 _ _ h3 (b1.extBut _ _ h1 r))
 |some x=>
  have ey:ys[k]? =none:=by
   rcases ex with h|h
   ·rw[ex1]at h;cases h
   ·exact h
  refine wpAny_bind (n1.item _ _ _ _ _ _ a1 ex1 fun g2 a2 b2=>wpAny_pure ?_)
  have q2:IsPair g2 q a b:=b2.extBut _ _ D.qi (b1.extBut _ _ D.qz qo)
  refine wpAny_bind (wpAny_seqItems q2 rfl (wpAny_bind (wpAny_updateSeq_pair q2 fun g3 q3 b3=>?_)))
  refine wpAny_bind (wpAny_letGo (wpAny_pure ?_))
  refine wpAny_bind (wpAny_bind (wpAny_onRaise ?_))
  show wpAny _ _ (Builtin.SmallTypes.nextOf (.ref j)>>=_) _ _ _
  have c3:N2 k g3:=n2.stay _ _ _ st2 fun c hc o e=>b3.extBut _ _ (kX D.q2 hc) (b2.extBut _ _ (kX D.i2 hc) (b1.extBut _ _ (kX D.z2 hc) e))
  refine wpAny_bind (n2.fin _ _ _ _ _ hh c3 ey fun g4 e b4 he=>?_)
  obtain⟨oe,e1,e2⟩:=he
  have w4:IsZip g4 z p q .ellipsis:=b4 _ _ D.jz.symm (b3.extBut _ _ D.qz.symm (b2.extBut _ _ D.iz.symm w1))
  have ez:e≠z:=fun t=>by subst t;rw[w4]at e1;cases e1;simp at e2
  refine wpAny_setField_rec w4 (by simp) fun g5 _ b5=>go g5 e (fun c o hc r=>?_) ⟨oe,b5.extBut _ _ ez e1,e2⟩
  simp only[List.mem_cons,List.not_mem_nil,or_false,not_or]at hc
  obtain⟨h1,h2,h3,h4⟩:=hc
  exact b5.extBut _ _ h1 (b4 _ _ h4 (b3.extBut _ _ h2 (b2.extBut _ _ h3 (b1.extBut _ _ h1 r))))
end
def Itz(K:Fg)(a b:Addr)(xs ys:List V):It:=⟨fun k H=>zB K H a xs/\zB K H b ys/\k<xs.length/\k<ys.length,
 fun k H v H'=>∃T x y,H T=none/\v= .ref T/\H'=upd H T (.tup [x,y])/\xs[k]? =some x/\ys[k]? =some y,
 fun k H=>zB K H a xs/\zB K H b ys/\(xs.length<=k\/ys.length<=k)⟩
def ZSt(z p q i j l1 l2:Addr)(k:Nat)(h:Heap):Prop:=IsZip h z p q .none/\IsPair h p (.ref i) (.ref j)/\(∃a b,IsPair h q a b)/\h.IsTupleIter i l1 k/\h.IsTupleIter j l2 k
theorem qY7{P:Program}{w:World}{K:Fg}{es:List Expr}{k0}{pos:Pos}(z p q i j l1 l2:Addr)(xs ys:List V)(D:ZAp z p q i j [i,l1] [j,l2])(n1:l1≠i)(n2:l2≠j)(fr:p∉[z,q,i,j]):
  Turn P w K (.Tuple es k0 pos) (Itz K l1 l2 xs ys) [z,p,q,i,j] z (ZSt z p q i j l1 l2)where
 mem:=by simp
 obj:=fun k h st b hb=>by
  obtain⟨e1,e2,⟨a,c,e3⟩,⟨o4,e4,_,d4⟩,⟨o5,e5,_,d5⟩⟩:=st
  simp only[List.mem_cons,List.not_mem_nil,or_false]at hb
  rcases hb with rfl|rfl|rfl|rfl|rfl
  ·exact⟨_,e1,fun v z=>by cases z⟩
  ·exact⟨_,e2,fun v z=>by cases z⟩
  ·exact⟨_,e3,fun v z=>by cases z⟩
  ·exact⟨_,e4,fun v z=>by rw[d4]at z;cases z⟩
  ·exact⟨_,e5,fun v z=>by rw[d5]at z;cases z⟩
 keep:=fun k h h' st f=>by
  obtain⟨e1,e2,⟨a,c,e3⟩,⟨o4,e4,r4⟩,⟨o5,e5,r5⟩⟩:=st
  exact⟨f z (by simp) _ e1,f p (by simp) _ e2,⟨a,c,f q (by simp) _ e3⟩,⟨o4,f i (by simp) _ e4,r4⟩,⟨o5,f j (by simp) _ e5,r5⟩⟩
 item:=by
  intro X hP hw hK hc k pins s σ H E I hf st hg
  subst hP hw hK
  obtain⟨hq1,hq2,hx1,hx2⟩:=hg
  obtain⟨e1,e2,⟨a,c,e3⟩,e4,e5⟩:=st
  obtain⟨it1,rv1,p1,z1⟩:=I.tuple hq1
  obtain⟨it2,rv2,p2,z2⟩:=I.tuple hq2
  obtain⟨u1,hu1,ru1⟩:=rv1.get (aq15 hx1)
  obtain⟨u2,hu2,ru2⟩:=rv2.get (aq15 hx2)
  have lt1:∀{b:Addr}{o:Obj},s.heap.get? b=some o->b<s.heap.objs.size:=fun e=>aq8 e
  have li:i<s.heap.objs.size:=by obtain⟨o,e,_⟩:=e4;exact lt1 e
  have lj:j<s.heap.objs.size:=by obtain⟨o,e,_⟩:=e5;exact lt1 e
  have ll1:l1<s.heap.objs.size:=by obtain⟨o,e,_⟩:=p1;exact lt1 e
  have ll2:l2<s.heap.objs.size:=by obtain⟨o,e,_⟩:=p2;exact lt1 e
  have lz:=lt1 e1
  have lp:=lt1 e2
  have lq:=lt1 e3
  have tz:s.TypeIs (.ref z) "zip":=⟨_,e1,rfl⟩
  have nT:H s.heap.objs.size=none:=I.hok.fresh (aq7 _)
  have nf:∀b∈[z,p,q,i,j],b≠s.heap.objs.size:=fun b hb=>by
   simp only[List.mem_cons,List.not_mem_nil,or_false]at hb
   rcases hb with h|h|h|h|h
   ·rw[h];exact aq9 lz
   ·rw[h];exact aq9 lp
   ·rw[h];exact aq9 lq
   ·rw[h];exact aq9 li
   ·rw[h];exact aq9 lj
  unfold pyNext
  refine wpAny_bind (wpAny_attempt (wpAny_callSpecial?_slot (name:=Str.ofString "__next__") tz F.slot_zip_next (wpAny_call_entry F.slot_zip_next tz F.entry_zip_next
   (qP0 D (uW _ _ i l1 it1.toArray n1) (uW _ _ j l2 it2.toArray n2) e1 e2 e3 ⟨e4,p1⟩ ⟨e5,p2⟩ (by simpa using hu1) (by simpa using hu2) (fun g f1 f2 f3 f4 f5 f6=>wpAny_pure ?_) li lj (fun c hc=>?_) (fun c hc=>?_)) (F.args_zip_next_1 _))))
  rotate_left
  ·simp only[List.mem_cons,List.not_mem_nil,or_false]at hc
   rcases hc with rfl|rfl<;>omega
  ·simp only[List.mem_cons,List.not_mem_nil,or_false]at hc
   rcases hc with rfl|rfl<;>omega
  refine⟨_,rfl,wpAny_letOwnedTupleGo_zip f1 fun g' w' b'=>?_⟩
  have I1:Inv X pins σ (upd H s.heap.objs.size (.tup [xs[k],ys[k]])) {s with heap:=s.heap.push {cls:=.type "tuple",data:=.seq #[u1,u2]},toks:=s.toks}:=
   I.laid (fun b v e=>aq13 _ e) (aq7 _) ⟨by show 2<=sizeLine;decide,[u1,u2],.cons ru1 (.cons ru2 .nil),⟨_,aq14 _ rfl,rfl,_,rfl⟩⟩
  have I2:Inv X pins σ (upd H s.heap.objs.size (.tup [xs[k],ys[k]])) {s with heap:=g',toks:=s.toks}:=by
   refine Inv.turnedL (s:={s with heap:=s.heap.push {cls:=.type "tuple",data:=.seq #[u1,u2]},toks:=s.toks}) (ch:=[z,q,i,j]) (t':=s.toks) I1 (fun b o hb e=>?_) fun b hb=>?_
   ·have bz:b≠z:=fun h=>hb (by simp[h])
    by_cases bT:b=s.heap.objs.size
    ·subst bT
     have e':(s.heap.push {cls:=.type "tuple",data:=.seq #[u1,u2]}).get? s.heap.objs.size=some _:=aq14 _ rfl
     rw[e']at e
     exact((b'.2 _ bz).trans f5).trans e
    ·have e':s.heap.get? b=some o:=by rw[<-e];exact(Heap.get?_push_ne _ _ _ bT).symm
     exact(b'.2 b bz).trans (f6 b o hb e')
   ·have hb':b∈[z,p,q,i,j]:=by
     simp only[List.mem_cons,List.not_mem_nil,or_false]at hb⊢
     rcases hb with h|h|h|h<;>simp[h]
    obtain⟨f0,fr⟩:=hf b hb'
    exact⟨by rw[qL (nf b hb')];exact f0,fr⟩
  refine⟨.ref s.heap.objs.size,_,I2,rfl,⟨s.heap.objs.size,xs[k],ys[k],nT,rfl,rfl,aq15 hx1,aq15 hx2⟩,?_,fun b hb=>by rw[qL (nf b hb)];exact(hf b hb).1⟩
  have up:∀{b:Addr}{o:Obj},b≠z->g.get? b=some o->g'.get? b=some o:=fun h e=>(b'.2 _ h).trans e
  exact⟨w',up D.pz (f6 p _ fr e2),⟨_,_,up D.qz f2⟩,f3.1.extBut b'.extBut D.iz,f4.1.extBut b'.extBut D.jz⟩
 done:=by
  intro X hP hw hK hc k pins s σ H E I hf st hg
  subst hP hw hK
  obtain⟨hq1,hq2,hx⟩:=hg
  obtain⟨e1,e2,⟨a,c,e3⟩,e4,e5⟩:=st
  obtain⟨it1,rv1,p1,z1⟩:=I.tuple hq1
  obtain⟨it2,rv2,p2,z2⟩:=I.tuple hq2
  have h1:=rv1.length
  have h2:=rv2.length
  have tz:s.TypeIs (.ref z) "zip":=⟨_,e1,rfl⟩
  unfold pyNext
  refine wpAny_bind (wpAny_attempt (wpAny_callSpecial?_slot (name:=Str.ofString "__next__") tz F.slot_zip_next (wpAny_call_entry F.slot_zip_next tz F.entry_zip_next
   (zWz (I.ok.hd hc) D (uW _ _ i l1 it1.toArray n1) (uW _ _ j l2 it2.toArray n2) e1 e2 e3 ⟨e4,p1⟩ ⟨e5,p2⟩ (hx.imp (fun h=>by simp;omega) fun h=>by simp;omega) fun g e f6 he=>?_) (F.args_zip_next_1 _))))
  obtain⟨oe,e6,e7⟩:=he
  refine wpAny_bind (wpAny_isInstance (T:="StopIteration") (b:=true) ⟨oe,e6,e7⟩ isSubtype_stop (wpAny_pure ⟨rfl,?_⟩))
  exact I.turnedL (t':=s.toks) (ch:=[z,q,i,j]) f6 fun b hb=>hf b (by
   simp only[List.mem_cons,List.not_mem_nil,or_false]at hb⊢
   rcases hb with h|h|h|h<;>simp[h])
 self:=fun _ _ _ _ _ st h=>wpAny_pyIter_zip st.1 h
def zN(h:Heap)(l1 l2:Addr):Heap:=((((h.push {cls:=.type "tuple_iterator",data:=.fields #[.ref l1,.int 0 0]}).push {cls:=.type "tuple_iterator",data:=.fields #[.ref l2,.int 0 0]}).push
 {cls:=.type "tuple",data:=.seq #[.ref h.objs.size,.ref (h.push {cls:=.type "tuple_iterator",data:=.fields #[.ref l1,.int 0 0]}).objs.size]}).push {cls:=.type "tuple",data:=.seq #[.none,.none]}).push
 {cls:=.type "zip",data:=.fields #[.none,.bool false,.bool false,.ref ((h.push {cls:=.type "tuple_iterator",data:=.fields #[.ref l1,.int 0 0]}).push {cls:=.type "tuple_iterator",data:=.fields #[.ref l2,.int 0 0]}).objs.size,
  .ref (((h.push {cls:=.type "tuple_iterator",data:=.fields #[.ref l1,.int 0 0]}).push {cls:=.type "tuple_iterator",data:=.fields #[.ref l2,.int 0 0]}).push
   {cls:=.type "tuple",data:=.seq #[.ref h.objs.size,.ref (h.push {cls:=.type "tuple_iterator",data:=.fields #[.ref l1,.int 0 0]}).objs.size]}).objs.size]}
theorem pA(l1 l2:Addr)(xs ys:Array Value):
  Meets (Builtin.«zip.__new__» ⟨[.type "zip",.ref l1,.ref l2],[]⟩) (fun _ R s=>s.heap.IsTuple l1 xs/\s.heap.IsTuple l2 ys/\R (.ok (.ret (.ref ((zN s.heap l1 l2).objs.size-1)))) {s with heap:=zN s.heap l1 l2}):=
 .of_wp fun prog w A R s h=>by
  obtain⟨hp,g,d,tk,os⟩:=s
  obtain⟨a1,a2,h⟩:=h
  have hsub:=sub_zip
  have b1:Heap.IsTuple (Shared.heap ⟨hp,g,d,tk,os⟩) l1 xs:=a1
  have b2:Heap.IsTuple (Shared.heap ⟨hp.push {cls:=.type "tuple_iterator",data:=.fields #[.ref l1,.int 0 0]},g,d,tk,os⟩) l2 ys:=Heap.IsTuple.push a2 _
  wp_walk using wpAny_pyIter_tuple b1,wpAny_pyIter_tuple b2
  refine⟨_,rfl,?_⟩
  have e:(zN hp l1 l2).objs.size-1=((((hp.push {cls:=.type "tuple_iterator",data:=.fields #[.ref l1,.int 0 0]}).push {cls:=.type "tuple_iterator",data:=.fields #[.ref l2,.int 0 0]}).push
   {cls:=.type "tuple",data:=.seq #[.ref hp.objs.size,.ref (hp.push {cls:=.type "tuple_iterator",data:=.fields #[.ref l1,.int 0 0]}).objs.size]}).push {cls:=.type "tuple",data:=.seq #[.none,.none]}).objs.size:=by
   show(Heap.push _ _).objs.size-1=_
   rw[Heap.size_push]
   rfl
  have h':=h
  rw[e]at h'
  exact h'
theorem zD1{h:Heap}{l1 l2:Addr}:IsZip (zN h l1 l2) (h.objs.size+4) (h.objs.size+2) (h.objs.size+3) .none/\IsPair (zN h l1 l2) (h.objs.size+2) (.ref h.objs.size) (.ref (h.objs.size+1))/\IsPair (zN h l1 l2) (h.objs.size+3) .none .none/\
  (zN h l1 l2).IsTupleIter h.objs.size l1 0/\(zN h l1 l2).IsTupleIter (h.objs.size+1) l2 0/\(zN h l1 l2).objs.size=h.objs.size+5/\∀c o,h.get? c=some o->(zN h l1 l2).get? c=some o:=by
 unfold zN
 simp only[Heap.size_push]
 refine⟨?_,?_,?_,⟨{cls:=.type "tuple_iterator",data:=.fields #[.ref l1,.int 0 0]},?_,rfl,rfl⟩,⟨{cls:=.type "tuple_iterator",data:=.fields #[.ref l2,.int 0 0]},?_,rfl,rfl⟩,?_,fun c o e=>?_⟩
 ·have e:=aq14 ((((h.push {cls:=.type "tuple_iterator",data:=.fields #[.ref l1,.int 0 0]}).push {cls:=.type "tuple_iterator",data:=.fields #[.ref l2,.int 0 0]}).push
   {cls:=.type "tuple",data:=.seq #[.ref h.objs.size,.ref (h.objs.size+1)]}).push {cls:=.type "tuple",data:=.seq #[.none,.none]}) (o:={cls:=.type "zip",data:=.fields #[.none,.bool false,.bool false,.ref (h.objs.size+1+1),.ref (h.objs.size+1+1+1)]}) rfl
  simp only[Heap.size_push]at e
  exact e
 ·have e:=aq14 (((h.push {cls:=.type "tuple_iterator",data:=.fields #[.ref l1,.int 0 0]}).push {cls:=.type "tuple_iterator",data:=.fields #[.ref l2,.int 0 0]})) (o:={cls:=.type "tuple",data:=.seq #[.ref h.objs.size,.ref (h.objs.size+1)]}) rfl
  simp only[Heap.size_push]at e
  exact aq13 _ (aq13 _ e)
 ·have e:=aq14 (((h.push {cls:=.type "tuple_iterator",data:=.fields #[.ref l1,.int 0 0]}).push {cls:=.type "tuple_iterator",data:=.fields #[.ref l2,.int 0 0]}).push
   {cls:=.type "tuple",data:=.seq #[.ref h.objs.size,.ref (h.objs.size+1)]}) (o:={cls:=.type "tuple",data:=.seq #[.none,.none]}) rfl
  simp only[Heap.size_push]at e
  exact aq13 _ e
 ·exact aq13 _ (aq13 _ (aq13 _ (aq13 _ (aq14 _ rfl))))
 ·have e:=aq14 (h.push {cls:=.type "tuple_iterator",data:=.fields #[.ref l1,.int 0 0]}) (o:={cls:=.type "tuple_iterator",data:=.fields #[.ref l2,.int 0 0]}) rfl
  simp only[Heap.size_push]at e
  exact aq13 _ (aq13 _ (aq13 _ e))
 ·trivial
 ·exact aq13 _ (aq13 _ (aq13 _ (aq13 _ (aq13 _ e))))
theorem nn_{a b:Nat}(h:a≠b):(show Addr from a)≠(show Addr from b):=h
theorem zap(n l1 l2:Nat)(h1:l1<n)(h2:l2<n):ZAp (n+4) (n+2) (n+3) n (n+1) [n,l1] [n+1,l2]where
 pz:=nn_ (by omega)
 qz:=nn_ (by omega)
 iz:=nn_ (by omega)
 jz:=nn_ (by omega)
 pq:=nn_ (by omega)
 pi:=nn_ (by omega)
 pj:=nn_ (by omega)
 qi:=nn_ (by omega)
 qj:=nn_ (by omega)
 ij:=nn_ (by omega)
 z1:=show(n+4:Nat)∉([n,l1]:List Nat)from by simp;omega
 q1:=show(n+3:Nat)∉([n,l1]:List Nat)from by simp;omega
 j1:=show(n+1:Nat)∉([n,l1]:List Nat)from by simp;omega
 z2:=show(n+4:Nat)∉([n+1,l2]:List Nat)from by simp;omega
 q2:=show(n+3:Nat)∉([n+1,l2]:List Nat)from by simp;omega
 i2:=show(n:Nat)∉([n+1,l2]:List Nat)from by simp;omega
theorem zD2(n:Nat):n+2∉[n+4,n+3,n,n+1]:=by simp
theorem zWj(n b:Nat)(h:b∈[n+4,n+2,n+3,n,n+1]):n<=b:=by
 simp only[List.mem_cons,List.not_mem_nil,or_false]at h
 omega
def zTj(K:Fg)(ta:TA):TI:=fun σ H R=>ta σ H fun vs H1=>∃a b xs ys,vs=[.ref a,.ref b]/\zB K H1 a xs/\zB K H1 b ys/\R (Itz K a b xs ys) H1
theorem zY0{X:Cx}{a b:Expr}{ta:TA}{p pos p2:Pos}{es:List Expr}{k0}(hg:Gl X "zip")(hm:X.mg "zip"=none)(ha:PA X [a,b] ta)(hs:starEach [a,b] X.env=[(false,eval a X.env),(false,eval b X.env)]:=by rfl)(hs2:starEach [b] X.env=[(false,eval b X.env)]:=by rfl):
  PI X (.Tuple es k0 p2) (.Call (.Name "zip" p) [a,b] [] pos) (zTj X.K ta):=by
 intro pins s σ H R I h
 refine Call_ (vR I hg hm boot_zip (PyProof.Rows.callWith_type1 (thn (ha pos pins s σ H _ I h) fun us s1⟨vs,H1,I1,r1,q1⟩=>?_) (by rw[hs,hs2]) (by rw[hs2];rfl)))
 obtain⟨l1,l2,xs,ys,rfl,hq1,hq2,q⟩:=q1
 obtain⟨u1,u2,rfl,r1,r2⟩:=Vals.two r1
 cases r1
 cases r2
 obtain⟨it1,rv1,p1,z1⟩:=I1.tuple hq1
 obtain⟨it2,rv2,p2,z2⟩:=I1.tuple hq2
 have ll1:l1<s1.heap.objs.size:=by obtain⟨o,e,_⟩:=p1;exact aq8 e
 have ll2:l2<s1.heap.objs.size:=by obtain⟨o,e,_⟩:=p2;exact aq8 e
 refine callType_new F.called_zip (by decide) (F.typeCall_zip_2 _ _) (F.newCall_zip_2 _ _) (fun obj=>F.args_object_init_3 obj _ _) F.entry_zip_new (pA l1 l2 it1.toArray it2.toArray) ⟨p1,p2,?_⟩
 obtain⟨e1,e2,e3,e4,e5,e6,e7⟩:=zD1 (h:=s1.heap) (l1:=l1) (l2:=l2)
 have e8:(zN s1.heap l1 l2).objs.size-1=s1.heap.objs.size+4:=by rw[e6];rfl
 show _/\_
 rw[e8]
 refine⟨⟨_,e1,rfl⟩,wpAny_pyIter_zip e1 ?_⟩
 have D:=zap _ _ _ ll1 ll2
 refine⟨_,[s1.heap.objs.size+4,s1.heap.objs.size+2,s1.heap.objs.size+3,s1.heap.objs.size,s1.heap.objs.size+1],_,_,H1,rfl,I1.kept (t':=s1.toks) e7,qY7 _ _ _ _ _ l1 l2 xs ys D (aq9 ll1) (aq9 (Nat.lt_succ_of_lt ll2)) (zD2 _),
  ⟨e1,e2,⟨_,_,e3⟩,e4,e5⟩,fun b hb=>?_,q⟩
 have hb':s1.heap.objs.size<=b:=zWj _ _ hb
 exact I1.fpOk hb' (I1.hok.fresh hb')
theorem pE:typeLookup (.type "list_reverseiterator") (Str.ofString "__len__")=pure none:=by rw[typeLookup_type,builtinLookup_eq_fast];kernel_rfl
theorem qY8:typeLookup (.type "list_reverseiterator") (Str.ofString "__length_hint__")=pure (some (.builtin "list_reverseiterator.__length_hint__")):=by rw[typeLookup_type,builtinLookup_eq_fast];kernel_rfl
section
variable {prog:Program} {w:World} {A:Around} {E:Value->Shared->Prop} {s:Shared}
theorem qY9{r p:Addr}{i:Int}{Q:Bool->Shared->Prop}(hr:s.heap.IsRevIter r p i)(h:Q false s):wpAny (model prog w) A (Builtin.List.listLengthHint (.ref r)) Q E s:=by
 unfold Builtin.List.listLengthHint
 refine wpAny_bind (wpAny_specialOf hr.typeIs pE ?_)
 show wpAny _ _ (specialOf (Value.ref r) (Str.ofString "__length_hint__")>>=_) _ _ _
 refine wpAny_bind (wpAny_specialOf hr.typeIs qY8 ?_)
 generalize hid:("list_reverseiterator.__length_hint__":String)=id0
 wp_delta
 rw[show splitId id0=some ("list_reverseiterator","__length_hint__")from by subst hid;decide+kernel]
 subst hid
 refine wpAny_bind (wpAny_isInstance (T:="list_reverseiterator") (b:=true) hr.typeIs (by rw[isSubtype_type];kernel_rfl) ?_)
 refine wpAny_ite_split (fun z=>absurd z (by decide)) (fun _=>?_)
 refine wpAny_ite_split (fun _=>?_) (fun z=>absurd (by decide+kernel) z)
 refine wpAny_ite_split (fun z=>absurd z (by decide+kernel)) (fun _=>wpAny_pure h)
theorem qZ9{items acc:Array Value}(h:ItemsOf (fun i v=>items[items.size-1-i]? =some v) acc items.size):acc.toList=items.toList.reverse:=by
 obtain⟨h1,h2⟩:=h
 apply List.ext_getElem?
 intro k
 by_cases hk:k<items.size
 ·have e1:acc[k]? =some (acc[k]'(by omega)):=Array.getElem?_eq_getElem (by omega)
  have e2:=h2 k _ e1
  rw[List.getElem?_reverse (by simpa using hk)]
  simp only[Array.length_toList,Array.getElem?_toList]
  rw[e1,e2]
 ·rw[List.getElem?_eq_none (by simp;omega),List.getElem?_eq_none (by simp;omega)]
theorem qYq{r p:Addr}{items:Array Value}{Q:Value->Shared->Prop}(hh:A.handled=none)(hr:s.heap.IsRevIter r p ((items.size:Int)-1))(hl:s.heap.IsList p items)(ne:p≠r)(hz:items.size<=sizeLine)
  (go:∀g tk acc c,(∀b o,b≠r->s.heap.get? b=some o->g.get? b=some o)->g.get? s.heap.objs.size=some {cls:=.type "list",data:=.seq acc c}->acc.toList=items.toList.reverse->Q (.ref s.heap.objs.size) {s with heap:=g,toks:=tk}):
  wpAny (model prog w) A (call (.type "list") [.ref r]) Q E s:=by
 refine callType_codes (Q₁:=fun obj s₁=>obj= .ref s.heap.objs.size/\s₁={s with heap:=s.heap.push {cls:=.type "list",data:=.seq #[]}}) F.called_list (F.typeCall_list_1 _) F.entry_list_init (code_list_new _ ⟨rfl,rfl⟩) fun obj s₁ h₁=>?_
 obtain⟨rfl,rfl⟩:=h₁
 have S0:(s.heap.push {cls:=.type "list",data:=.seq #[]}).get? s.heap.objs.size=some {cls:=.type "list",data:=.seq #[]}:=aq14 _ rfl
 have rl:r<s.heap.objs.size:=by obtain⟨o,e,_⟩:=hr;exact aq8 e
 have pl:p<s.heap.objs.size:=by obtain⟨o,e,_⟩:=hl;exact aq8 e
 refine⟨⟨_,S0,rfl⟩,F.args_list_init_2 _ _,?_⟩
 show wpAny _ _ (do let old<-Builtin.List.listItems (.ref s.heap.objs.size);Builtin.List.listUpdate (.ref s.heap.objs.size) (fun _=> #[]);letGo old.toList.reverse;Builtin.List.listExtendWith (.ref s.heap.objs.size) (.ref r) .none) _ _ _
 refine wpAny_bind ?_
 unfold Builtin.List.listItems
 refine wpAny_bind (wpAny_seqItems S0 rfl (wpAny_pure ?_))
 show wpAny _ _ (updateSeq s.heap.objs.size (fun _=> #[])>>=fun _=>letGo (#[]:Array Value).toList.reverse>>=fun _=>Builtin.List.listExtendWith (.ref s.heap.objs.size) (.ref r) .none) _ _ _
 refine wpAny_bind (wpAny_updateSeq S0 rfl ?_)
 have S1:=Heap.get?_update_self (Obj.mapSeq (fun _=>(#[]:Array Value))) S0 rfl
 have up:∀b o,s.heap.get? b=some o->((s.heap.push {cls:=.type "list",data:=.seq #[]}).update s.heap.objs.size (Obj.mapSeq (fun _=>(#[]:Array Value)))).get? b=some o:=
  fun b o e=>(Heap.get?_update_other _ _ (Ne.symm (aq9 (aq8 e)))).trans (aq13 _ e)
 refine wpAny_bind (wpAny_letGo ?_)
 generalize ((s.heap.push {cls:=.type "list",data:=.seq #[]}).update s.heap.objs.size (Obj.mapSeq (fun _=>(#[]:Array Value))))=g0 at S1 up
 have r0:g0.IsRevIter r p ((items.size:Int)-1):=hr.at fun o e=>up r o e
 have l0:g0.IsList p items:=hl.at fun o e=>up p o e
 unfold Builtin.List.listExtendWith
 refine wpAny_bind (wpAny_typeOf (T:="list_reverseiterator") (s:={s with heap:=g0}) (Heap.IsRevIter.typeIs (s:={s with heap:=g0}) r0) ?_)
 have c1:Builtin.List.listSameRef (.ref s.heap.objs.size) (.ref r)=false:=by simp[Builtin.List.listSameRef];exact Ne.symm (aq9 rl)
 have c2:(Value.type "list_reverseiterator"==Value.type "list")=false:=by decide
 have c3:(Value.type "list_reverseiterator"==Value.type "tuple")=false:=by decide
 simp only[c1,c2,c3,Bool.or_false,Bool.false_eq_true,if_false]
 refine wpAny_bind (wpAny_pyIter_revIter (s:={s with heap:=g0}) r0 (wpAny_bind (wpAny_holding (qY9 (s:={s with heap:=g0}) r0 ?_))))
 refine wpAny_ite_split (fun z=>absurd z (by decide+kernel)) (fun _=>?_)
 have W:=(Walks.listRev (prog:=prog) (w:=w) (A:=A.in1.in1) hh r p ne items).toS
 refine wpAny_pure ⟨plainId_quiet F.plain_extend_loop _,codeAny_extend_loopS W hz _ (by simp only[List.mem_cons,List.not_mem_nil,or_false,not_or];exact⟨Ne.symm (aq9 rl),Ne.symm (aq9 pl)⟩) _ items.size 0 _ #[] _ rfl (Nat.zero_le _) ⟨Nat.zero_le _,by simpa using r0,l0⟩ S1 (ItemsOf.nil _) fun s' acc c hm hS ha=>?_⟩
 rw[Moved.eq_with hm]
 refine⟨rfl,go s'.heap s'.toks acc c (fun b o hb e=>hm.heap b o ?_ (up b o e)) hS (qZ9 ha)⟩
 have :=aq8 e
 simp only[List.mem_cons,List.not_mem_nil,or_false,not_or]
 exact⟨aq9 this,hb⟩
end
inductive zQz(K:Fg)(Q:VK)(xs:List V)(H1:Hp):Prop
 |mk (p:_) (ys:_) (a_0:xs=[.ref p]) (a_1:zS K H1 p ys) (a_2:∀l,H1 l=none->Q (.ref l) (upd H1 l (.lst ys.reverse))):zQz K Q xs H1
def zD3(K:Fg)(t:TA):TE:=fun σ H Q=>t σ H fun xs H1=>zQz K Q xs H1
theorem zY1{X:Cx}{e:Expr}{t:TA}{p1 p2 q1 q2:Pos}(hc:X.calm=true)(hg:Gl X "list")(hm:X.mg "list"=none)(hg':Gl X "reversed")(hm':X.mg "reversed"=none)(ha:PA X [e] t)(hs:starEach [e] X.env=[(false,eval e X.env)]:=by rfl)
  (hs':starEach [Expr.Call (.Name "reversed" q1) [e] [] q2] X.env=[(false,eval (Expr.Call (.Name "reversed" q1) [e] [] q2) X.env)]:=by rfl):
  PE X (.Call (.Name "list" p1) [.Call (.Name "reversed" q1) [e] [] q2] [] p2) (zD3 X.K t):=by
 intro pins s σ H Q I h
 refine wpAny_Call_Name_kw (vR I hg hm PyProof.Rows.boot_list (PyProof.Rows.callWith_type1 ?_ hs' rfl))
 rw[hs']
 show wpAny _ _ (spliced ((false,eval (Expr.Call (.Name "reversed" q1) [e] [] q2) X.env)::backTo p2 [])) _ _ s
 refine Calls.spliced_cons ?_
 refine wpAny_Call_Name_kw (vR I hg' hm' boot_reversed (PyProof.Rows.callWith_type1 (thn (ha q2 pins s σ H _ I h) fun us s1⟨vs,H1,I1,r1,q⟩=>?_) hs rfl))
 obtain⟨p,ys,rfl,hq,q⟩:=q
 obtain⟨u,rfl,ru⟩:=vals1 r1
 cases ru
 obtain⟨its,rv,pl,hz⟩:=I1.list hq
 have hl:=rv.length
 refine call_reversed_list pl.isList ?_
 refine Calls.spliced_nil ?_
 have I2:Inv X pins σ H1 {s1 with heap:=s1.heap.push (revObj p ((its.toArray.size:Int)-1))}:=I1.kept (t':=s1.toks) fun b o e=>aq13 _ e
 have pl2:=pl.isList
 have lp:p<s1.heap.objs.size:=by obtain⟨o,e,_⟩:=pl2;exact aq8 e
 have f2:vI X pins H1 s1.heap.objs.size:=I1.fpOk (aq7 _) (I1.hok.fresh (aq7 _))
 have sz:(s1.heap.push (revObj p ((its.toArray.size:Int)-1))).objs.size=s1.heap.objs.size+1:=Heap.size_push ..
 refine qYq (s:={s1 with heap:=s1.heap.push (revObj p ((its.toArray.size:Int)-1))}) (r:=s1.heap.objs.size) (p:=p) (items:=its.toArray) (I1.ok.hd hc) ⟨_,aq14 _ rfl,rfl,rfl⟩ (pl2.push _) (aq9 lp) (by simp;omega) fun g tk acc c k1 k2 k3=>?_
 have hn:H1 (s1.heap.push (revObj p ((its.toArray.size:Int)-1))).objs.size=none:=I1.hok.fresh (by rw[sz];omega)
 have I3:Inv X pins σ (upd H1 (s1.heap.push (revObj p ((its.toArray.size:Int)-1))).objs.size (.lst ys.reverse)) {s1 with heap:=(s1.heap.push (revObj p ((its.toArray.size:Int)-1))).push {cls:=.type "list",data:=.seq acc c},toks:=tk}:=by
  refine I2.laid (t':=tk) (fun b u e=>aq13 _ e) (aq7 _) ⟨by simpa using hz,its.reverse,c,?_,?_⟩
  ·exact rv.reverse
  ·have e:its.reverse.toArray=acc:=by
    apply Array.toList_inj.mp
    rw[k3]
   rw[e]
   exact aq14 _ rfl
 refine⟨.ref _,_,Inv.turnedL (s:={s1 with heap:=(s1.heap.push (revObj p ((its.toArray.size:Int)-1))).push {cls:=.type "list",data:=.seq acc c},toks:=tk}) (ch:=[s1.heap.objs.size]) (t':=tk) I3 (fun b o hb e=>?_) (fun b hb=>?_),rfl,q _ hn⟩
 ·have hb':b≠s1.heap.objs.size:=fun z=>hb (by simp[z])
  rcases Heap.get?_push_cases e with⟨rfl,rfl⟩|e
  ·exact k2
  ·exact k1 b o hb' e
 ·rw[aq20.mp hb]
  obtain⟨f0,fr⟩:=f2
  exact⟨by rw[qL (by rw[sz];exact aq9 (Nat.lt_succ_self _))];exact f0,fr⟩
theorem yJ(f:Str)(v x:V)(r:List (Str×V)):xG f v ((f,x)::r)=(f,v)::r:=by
 show(if f=f then(f,v)::r else(f,x)::xG f v r)=_
 rw[if_pos rfl]
theorem jN{f g:Str}(h:¬g=f)(v x:V)(r:List (Str×V)):xG f v ((g,x)::r)=(g,x)::xG f v r:=by
 show(if g=f then(g,v)::r else(g,x)::xG f v r)=_
 rw[if_neg h]
theorem kL(f:Str)(v:V)(r:List (Str×V)):((f,v)::r).lookup f=some v:=by simp[List.lookup_cons]
theorem zC{f g:Str}(h:¬g=f)(v:V)(r:List (Str×V)):((f,v)::r).lookup g=r.lookup g:=by
 rw[List.lookup_cons,beq_eq_false_iff_ne.mpr h]
section
variable {X:Cx} {e:Expr}
end
structure Grow(H H':Hp):Prop where
 same:Same H H'
 none:∀b,H' b=Option.none->H b=Option.none
theorem Grow.refl(H:Hp):Grow H H:=⟨Same.refl H,fun _ h=>h⟩
theorem Grow.trans{H H1 H2:Hp}(a:Grow H H1)(b:Grow H1 H2):Grow H H2:=⟨a.same.trans b.same,fun c h=>a.none c (b.none c h)⟩
theorem Grow.put{H:Hp}{a:Addr}{o:HO}(h:H a=Option.none):Grow H (upd H a o):=⟨fun b u e=>by rw[qL (qH e h)];exact e,fun b e=>by
 by_cases z:b=a
 ·subst z;exact h
 ·rw[qL z]at e;exact e⟩
theorem Grow.set{H H4:Hp}{D:Addr}{o:HO}(g:Grow H H4)(hD:H D=Option.none):Grow H (upd H4 D o):=
 ⟨fun b u e=>by rw[qL (qH e hD)];exact g.same b u e,fun b e=>by
  by_cases z:b=D
  ·subst z;exact hD
  ·rw[qL z]at e;exact g.none b e⟩
theorem Room.u2{k:Nat}{A:Around}(r:Room k A):A.units+2<cLine:=by have :=r.un;omega
def qP1(o:Obj)(x qual:Str)(st:Stmt)(dV cdv:Value)(fd:FuncData):Prop:=
 ∃(oc:Value)(od:Option Addr)(kV doc pm:Value)(an:Option Addr)(ct:Value)(osl:Array (Option Value)),o=⟨oc,od,.func fd,osl⟩/\fd=PySem.W.fnOf x qual (mI st) (kE st) (qU st) dV kV doc pm an cdv ct
theorem qP1.d{K:Fg}{f:Addr}{o:Obj}{x qual:Str}{st:Stmt}{dV cdv:Value}{fd:FuncData}(n:qP1 o x qual st dV cdv fd)(l:K.lookup f=some o)(c:PySem.W.codeIn K cdv qual=true)(k:PySem.W.keepIn K (.ref f)=true):zK K x qual st dV f fd:=by
 obtain⟨oc,od,kV,doc,pm,an,ct,osl,rfl,e⟩:=n
 exact⟨⟨oc,od,kV,doc,pm,an,cdv,ct,osl,e,l,c⟩,k⟩
def mN(o:Obj)(D:List (Str×V)):Prop:=o.ExactDict/\∃es ep,o.data= .dict es ep/\PyProof.Rows.KTD.Rows zG es.toList D
theorem mN.s{K:Fg}{a:Addr}{o:Obj}{D:List (Str×V)}(h:mN o D)(l:K.lookup a=some o)(n:(a==sysModules)=false):oE K a D:=let⟨c,es,ep,d,r⟩:=h;⟨n,o,es,ep,l,c,d,r⟩
theorem tM{X:Cx}{scope:Scope}{own:List Str}{y:Str}{c:Addr}{i:Nat}(h1:closureFor scope X.env=pure [(y,c)])(h2:∀z∈scope.names,z.2≠ .cell)(h3:scope.kind= .function)(h4:∀z∈scope.names,z.2= .local->scope.names.lookup z.1=some .local)
  (hc:X.env.cells.lookup y=some c)(hf:∀z∈scope.names,z.2= .free->z.1=y)(hy:scope.names.lookup y=some .free)(ho:X.env.kindOf y=some .cell\/X.env.kindOf y=some .free)(hi:X.N[i]? =some y)(hnd:(own++[y]).Nodup):cZ X scope [(y,c)] own [y] [i]:=by
 refine⟨h1,h2,h3,h4,fun z d h=>?_,fun z h=>?_,hnd,fun j z h=>?_,rfl,fun z h=>?_⟩
 ·by_cases e:z=y
  ·subst e
   simp only[List.lookup_cons,beq_self_eq_true]at h
   cases h;exact hc
  ·simp only[List.lookup_cons,beq_eq_false_iff_ne.mpr e]at h
   cases h
 ·have e:z=y:=hf (z,.free) (PySem.mem_of_lookup h) rfl
  subst e
  exact⟨c,by simp[List.lookup_cons]⟩
 ·cases j with
  |zero=>
   have e:y=z:=by simpa using h
   subst e
   exact⟨i,rfl,hi⟩
  |succ j=>simp at h
 ·have e:z=y:=by simpa using h
  subst e
  exact⟨hy,ho⟩
theorem zD4{X:Cx}{scope:Scope}{own:List Str}{x y:Str}{c d:Addr}{i j:Nat}(hne:¬y=x)(h1:closureFor scope X.env=pure [(x,c),(y,d)])(h2:∀z∈scope.names,z.2≠ .cell)(h3:scope.kind= .function)(h4:∀z∈scope.names,z.2= .local->scope.names.lookup z.1=some .local)
  (hc:X.env.cells.lookup x=some c)(hd:X.env.cells.lookup y=some d)(hf:∀z∈scope.names,z.2= .free->z.1=x\/z.1=y)(hx:scope.names.lookup x=some .free)(hy:scope.names.lookup y=some .free)
  (ox:X.env.kindOf x=some .cell\/X.env.kindOf x=some .free)(oy:X.env.kindOf y=some .cell\/X.env.kindOf y=some .free)(hi:X.N[i]? =some x)(hj:X.N[j]? =some y)(hnd:(own++[x,y]).Nodup):cZ X scope [(x,c),(y,d)] own [x,y] [i,j]:=by
 refine⟨h1,h2,h3,h4,fun z e h=>?_,fun z h=>?_,hnd,fun k z h=>?_,rfl,fun z h=>?_⟩
 ·by_cases e1:z=x
  ·subst e1
   simp only[List.lookup_cons,beq_self_eq_true]at h
   cases h;exact hc
  ·simp only[List.lookup_cons,beq_eq_false_iff_ne.mpr e1]at h
   by_cases e2:z=y
   ·subst e2
    simp only[beq_self_eq_true]at h
    cases h;exact hd
   ·simp only[beq_eq_false_iff_ne.mpr e2]at h
    cases h
 ·rcases hf (z,.free) (PySem.mem_of_lookup h) rfl with e|e
  ·have e':z=x:=e
   subst e'
   exact⟨c,by simp[List.lookup_cons]⟩
  ·have e':z=y:=e
   subst e'
   exact⟨d,by rw[List.lookup_cons,beq_eq_false_iff_ne.mpr hne,List.lookup_cons,beq_self_eq_true]⟩
 ·match k,h with
  |0,h=>
   have e:x=z:=by simpa using h
   subst e
   exact⟨i,rfl,hi⟩
  |1,h=>
   have e:y=z:=by simpa using h
   subst e
   exact⟨j,rfl,hj⟩
  |k+2,h=>simp at h
 ·rcases(by simpa using h:z=x\/z=y)with e|e
  ·subst e;exact⟨hx,ox⟩
  ·subst e;exact⟨hy,oy⟩
theorem dF{K:Fg}{l:Addr}{xs:List V}{g:TG}{tb:TS}{D:Ends}{σ:St}{H:Hp}(Pv:Nat->St->Hp->Prop)(h0:Pv 0 σ H)(hl:∀i σ H,i<=xs.length->Pv i σ H->zS K H l xs)
  (hs:∀i x T σ H,xs[i]? =some x->Pv i σ H->H T=none->g (.ref T) σ (upd H T (.tup [.int i,x])) fun σ2 H2=>tb {D with nx:=Pv (i+1),ct:=Pv (i+1),bk:=D.nx} σ2 H2)(hd:∀σ H,Pv xs.length σ H->D.nx σ H):
  ∃W:Nat->Nat->St->Hp->Prop,(∃m,W 0 m σ H)/\∀i m σ H,W i m σ H->
   ((Ite K l).stop i H/\D.nx σ H)\/((Ite K l).go i H/\∃N:St->Hp->Prop,(∀σ' H',N σ' H'->∃m',m'<m/\W (i+1) m' σ' H')/\∀x H',(Ite K l).yld i H x H'->g x σ H' fun σ2 H2=>tb {D with nx:=N,ct:=N,bk:=D.nx} σ2 H2):=by
 refine⟨fun i m σ H=>m=xs.length-i/\i<=xs.length/\Pv i σ H,⟨xs.length,by simp,Nat.zero_le _,h0⟩,?_⟩
 rintro i m σ H ⟨rfl,hi,p⟩
 have q:=hl i σ H hi p
 by_cases hlt:i<xs.length
 ·refine .inr ⟨⟨xs,xs[i],q,aq15 hlt⟩,Pv (i+1),fun σ' H' p'=>⟨xs.length-(i+1),by omega,rfl,hlt,p'⟩,fun x H' y=>?_⟩
  obtain⟨T,z,hT,rfl,rfl,hz⟩:=y
  exact hs i z T σ H (hz xs q) p hT
 ·have e:i=xs.length:=by omega
  subst e
  exact .inl ⟨⟨xs,q,aq7 _⟩,hd σ H p⟩
def behind(ss:List Str)(xs:List V)(t:Str):List V:=((ss.zip xs).filter fun p=>decide (p.1=t)).map (·.2)
theorem zY2{K:Fg}{a b:Addr}{ss:List Str}{xs:List V}{t:Str}{σ:St}{i0:Nat}{H:Hp}{D:Addr}{R:Hp->Prop}(hσ:σ.getD i0 none=some (.str t))(h1:zB K H a (ss.map V.str))(h2:zB K H b xs)(hn:xs.length<=1000)(hD:H D=none)
  (q:∀H',Grow H H'->H' D=some (.lst (behind ss xs t))->R H'):
  ∃W:Nat->Nat->List V->Hp->Prop,(∃m,W 0 m [] (upd H D (.lst [])))/\∀i m ys H2,W i m ys H2->
   ((Itz K a b (ss.map V.str) xs).stop i H2/\R H2)\/((Itz K a b (ss.map V.str) xs).go i H2/\∀(o:List (Option V))v H3,o.length=2->(Itz K a b (ss.map V.str) xs).yld i H2 v H3->zV5 K 2 (bG (kO 0) (bG (kO 1) zV4)) v (kJ [i0] o σ) H3 fun σ2 H4=>(∃o':List (Option V),σ2=kJ [i0] o' σ/\o'.length=2)/\
    ifT (some (qEq (sD rEq (jV 0) (jV 2)))) σ2 H4 fun b H5=>if b=true then jV 1 σ2 H5 fun y H6=>H6 D=some (.lst ys)/\ys.length<sizeLine/\∃m',m'<m/\W (i+1) m' (ys++[y]) (upd H6 D (.lst (ys++[y])))else∃m',m'<m/\W (i+1) m' ys H5):=by
 have hz:(ss.zip xs).length=min ss.length xs.length:=List.length_zip
 refine⟨fun i m ys H2=>i<=(ss.zip xs).length/\m=(ss.zip xs).length-i/\ys=(((ss.zip xs).take i).filter fun p=>decide (p.1=t)).map (·.2)/\H2 D=some (.lst ys)/\Grow H H2,⟨_,Nat.zero_le _,rfl,rfl,qJ,Grow.put hD⟩,?_⟩
 rintro i m ys H2 ⟨hi,rfl,rfl,hd2,g2⟩
 have a2:=zB.mono g2.same h1
 have b2:=zB.mono g2.same h2
 by_cases hl:i<(ss.zip xs).length
 ·have hs:i<ss.length:=by omega
  have hx:i<xs.length:=by omega
  refine .inr ⟨⟨a2,b2,by rw[aq16];exact hs,hx⟩,fun o v H3 ho hy=>?_⟩
  obtain⟨T,x,y,hT,rfl,rfl,ex,ey⟩:=hy
  have ez:(ss.zip xs)[i]? =some (ss[i],y):=by
   rw[List.getElem?_zip_eq_some]
   exact⟨aq15 hs,ey⟩
  have ex':x= .str ss[i]:=by
   rw[aq19,aq15 hs]at ex
   exact(Option.some.inj ex).symm
  subst ex'
  have tD:D≠T:=qH hd2 hT
  have g3:Grow H2 (upd H2 T (.tup [.str ss[i],y])):=Grow.put hT
  have lenb:((((ss.zip xs).take i).filter fun p=>decide (p.1=t)).map (·.2)).length<=i:=by
   rw[aq16]
   exact Nat.le_trans (List.length_filter_le _ _) (by rw[List.length_take];omega)
  match o,ho with
  |[_,_],_=>
   refine⟨T,_,rfl,zB.of qJ,rfl,_,_,rfl,_,_,rfl,rfl,⟨[some (.str ss[i]),some y],rfl,rfl⟩,?_⟩
   refine⟨_,rfl,.str t,?_,rfl,_,rfl,?_⟩
   ·show some (σ.getD i0 none)=_
    rw[hσ]
   have e3:decide (V.str ss[i]=V.str t)=decide (ss[i]=t):=by rw[Bool.eq_iff_iff];simp
   rw[e3]
   have tk:(ss.zip xs).take (i+1)=(ss.zip xs).take i++[(ss[i],y)]:=by rw[List.take_add_one,ez];rfl
   refine ite2 (fun hc=>?_) (fun hc=>?_)
   ·refine⟨y,rfl,(qL tD).trans hd2,?_,_,?_,hl,rfl,?_,qJ,(g2.trans g3).set hD⟩
    ·rw[sizeLine_eq];omega
    ·omega
    ·rw[tk,List.filter_append,aq21]
     simp[of_decide_eq_true hc]
   ·refine⟨_,?_,hl,rfl,?_,(qL tD).trans hd2,g2.trans g3⟩
    ·omega
    ·rw[tk,List.filter_append,aq21]
     have hc':¬ss[i]=t:=fun z=>hc (decide_eq_true z)
     simp[hc']
 ·have e:i=(ss.zip xs).length:=by omega
  subst e
  refine .inl ⟨⟨a2,b2,?_⟩,q _ g2 ?_⟩
  ·rw[aq16];omega
  ·rw[hd2,List.take_of_length_le (aq7 _)]
   rfl
theorem cut1(x:V)(r:List V):iS (x::r) (some 1) none=r:=by
 unfold iS
 have e1:HT.sIx (x::r).length 0 (some 1)=1:=by
  show(if(1:Int)<0 then((1:Int)+((x::r).length:Int)).toNat else min (1:Int).toNat (x::r).length)=1
  rw[if_neg (by decide)]
  show min 1 (r.length+1)=1
  omega
 rw[e1,HT.sIx_none]
 simp
theorem qYz(x:V)(r:List V):¬(HT.sIx (x::r).length 0 (some 1)=0/\HT.sIx (x::r).length (x::r).length none=(x::r).length):=by
 intro h
 have e1:HT.sIx (x::r).length 0 (some 1)=1:=by
  show(if(1:Int)<0 then((1:Int)+((x::r).length:Int)).toNat else min (1:Int).toNat (x::r).length)=1
  rw[if_neg (by decide)]
  show min 1 (r.length+1)=1
  omega
 rw[e1]at h
 cases h.1
theorem zY3{X:Cx}{scope:Scope}{cl:List (Str×Addr)}{own rest:List Str}{ix:List Nat}{elt iter tg c:Expr}{pos:Pos}{wi:TI}{te:TE}{g:TG}{tc:TT}(ok:cZ X scope cl own rest ix)(hc:X.calm=true)(hi:PI X tg iter wi)
  (he:∀(C:Addr)(s:Shared)(H:Hp)(fp:List Addr)(pins:List (Addr×Obj)),PE (vG X scope cl (own++rest) C s H fp pins) elt te)(hg:∀(C:Addr)(s:Shared)(H:Hp)(fp:List Addr)(pins:List (Addr×Obj)),PG (vG X scope cl (own++rest) C s H fp pins) tg g)
  (hif:∀(C:Addr)(s:Shared)(H:Hp)(fp:List Addr)(pins:List (Addr×Obj)),PT (vG X scope cl (own++rest) C s H fp pins) c tc)
  (hs:∀x,foldedSetIterable iter X.env x=pure x:=by intro x;rfl):PE X (.ListComp elt [⟨tg,iter,[c],0⟩] scope pos) (qY1 wi g (some tc) te own.length ix):=qY3 (tc:=some tc) ok hc hi he hg hif hs
theorem qYj{X:Cx}{scope:Scope}{cl:List (Str×Addr)}{own rest:List Str}{ix:List Nat}{elt iter tg:Expr}{pos:Pos}{wi:TI}{te:TE}{g:TG}(ok:cZ X scope cl own rest ix)(hc:X.calm=true)(hi:PI X tg iter wi)
  (he:∀(C:Addr)(s:Shared)(H:Hp)(fp:List Addr)(pins:List (Addr×Obj)),PE (vG X scope cl (own++rest) C s H fp pins) elt te)(hg:∀(C:Addr)(s:Shared)(H:Hp)(fp:List Addr)(pins:List (Addr×Obj)),PG (vG X scope cl (own++rest) C s H fp pins) tg g)
  (hs:∀x,foldedSetIterable iter X.env x=pure x:=by intro x;rfl):PE X (.ListComp elt [⟨tg,iter,[],0⟩] scope pos) (qY1 wi g none te own.length ix):=qY3 (tc:=none) ok hc hi he hg (fun _ _ _ _ _=>trivial) hs
theorem zY4{X:Cx}{n1 n2:Str}{p1 p2 pos:Pos}{k:Nat}(K:Fg)(hK:X.K=K)(hc:X.calm=true)(hN:X.N.Nodup)(h0:X.N[0]? =some n1)(h1:X.N[1]? =some n2)(x1:Loc X.env.scope n1)(x2:Loc X.env.scope n2)(l0:X.env.scope.names.lookup n1=some .local)(l1:X.env.scope.names.lookup n2=some .local):
  PG X (.Tuple [.Name n1 p1,.Name n2 p2] k pos) (zV5 K 2 (bG (kO 0) (bG (kO 1) zV4))):=by
 subst hK
 exact iM hc (xN (jO (i:=0) hN h0 x1 (Or.inr l0)) (xN (jO (i:=1) hN h1 x2 (Or.inr l1)) yS))
section
variable {X:Cx} {scope:Scope} {cl:List (Str×Addr)} {own rest:List Str} {ix:List Nat}
theorem zY5{Nb:List Str}{σb:St}{pins:List (Addr×Obj)}{σ:St}{H H':Hp}{s s5:Shared}{fp:List Addr}(I:Inv X pins σ H s)(I5:Inv (vG X scope cl Nb s.heap.objs.size s H fp pins) [] σb H' s5)(hf:∀b∈fp,vI X pins H b){h'':Heap}(hs:Heap.SameBut s.heap.objs.size s5.heap h''):
  Inv X pins σ H' {s5 with heap:=h''}:=by
 have B:=I5.base
 have ne:∀b u,s.heap.get? b=some u->b≠s.heap.objs.size:=fun b u e=>aq9 (aq8 e)
 have un:Un (frs X.stack) fp H H' s.heap h'':=
  ⟨fun b u e n hx hy=>(hs.2 b (ne b u e)).trans (B.keep b u e n hx hy),fun b u e n hx hy=>(let⟨sl,z⟩:=B.slot b u e n hx hy;⟨sl,(hs.2 b (ne b u e)).trans z⟩),B.free,
   fun b u e hy=>(let⟨u',z⟩:=B.there b u e hy;⟨u',(hs.2 b (ne b u e)).trans z⟩),B.tups,B.frzs,B.tbls⟩
 have hok:HOk X.prog X.w H' h'':=fun b u e=>(I5.hok b u e).stay (fun c v hc' z=>(hs.2 c (fun zz=>by
  have fz:H' s.heap.objs.size=none:=I5.free
  rcases hc' with y|y
  ·rw[<-y,zz,fz]at e;cases e
  ·rw[zz,fz]at y;cases y)).trans z) (fun _ z=>z) fun _ _ z=>z
 refine I.call' (s':={s5 with heap:=h''}) (ch:=fp) I5.os un hok I5.bare fun b hm=>?_
 obtain⟨g0,g1,g2,g3,g4,g5⟩:=hf b hm
 exact⟨g3,g1,g4,g5⟩
theorem qU0{elt iter tg:Expr}{ifs:List Expr}{pos:Pos}{te:TE}{g:TG}{tc:Option TT}{pins:List (Addr×Obj)}{σ:St}{H:Hp}{s s4:Shared}{fp:List Addr}{it D:Addr}{tn:Nat->Heap->Prop}{J:It}{Q:VK}{RR:Result->Shared->Prop}{W:Nat->Nat->List V->Hp->Prop}{m0:Nat}
  (ok:cZ X scope cl own rest ix)(hc:X.calm=true)(he:∀(C:Addr)(s:Shared)(H:Hp)(fp:List Addr)(pins:List (Addr×Obj)),PE (vG X scope cl (own++rest) C s H fp pins) elt te)(hg:∀(C:Addr)(s:Shared)(H:Hp)(fp:List Addr)(pins:List (Addr×Obj)),PG (vG X scope cl (own++rest) C s H fp pins) tg g)
  (hif:∀(C:Addr)(s:Shared)(H:Hp)(fp:List Addr)(pins:List (Addr×Obj)),PIf (vG X scope cl (own++rest) C s H fp pins) ifs tc)
  (I:Inv X pins σ H s)(T:Turn X.prog X.w X.K tg J fp it tn)(hf:∀b∈fp,vI X pins H b)(hb:∀b∈fp,b<s.heap.objs.size)
  (J4:Inv (vG X scope cl (own++rest) s.heap.objs.size s H fp pins) [] (kJ ix (List.replicate own.length none) σ) H s4)(st:tn 0 s4.heap)(w0:W 0 m0 [] H)
  (fin:∀f H' s5 o,o.length=own.length->Inv (vG X scope cl (own++rest) s.heap.objs.size s H fp pins) [] (kJ ix o σ) H' s5->Q (.ref D) H'->RR (.ok f) s5)
  (turn:∀i m ys H2,W i m ys H2->(J.stop i H2/\Q (.ref D) H2)\/(J.go i H2/\∀(o:List (Option V))v H3,o.length=own.length->J.yld i H2 v H3->g v (kJ ix o σ) H3 fun σ2 H4=>(∃o':List (Option V),σ2=kJ ix o' σ/\o'.length=own.length)/\
   ifT tc σ2 H4 fun b H5=>if b=true then te σ2 H5 fun y H6=>H6 D=some (.lst ys)/\ys.length<sizeLine/\∃m',m'<m/\W (i+1) m' (ys++[y]) (upd H6 D (.lst (ys++[y])))else∃m',m'<m/\W (i+1) m' ys H5)):
  codeAny (model X.prog X.w) X.A (.compLoop (.ListComp elt [⟨tg,iter,ifs,0⟩] scope pos) 0 (.ref it) (.ref D) (compEnvC scope cl s.heap.objs.size X.env)) RR s4:=by
 have stat:∀{H':Hp},(∀b∈fp,H' b=none)->∀b∈fp,vI (vG X scope cl (own++rest) s.heap.objs.size s H fp pins) [] H' b:=fun hn b hm=>by
  obtain⟨g0,g1,g2,g3,g4,g5⟩:=hf b hm
  refine⟨hn b hm,aq9 (hb b hm),fun z=>?_,.inl hm,fun y c h=>g4 y c (ok.cls y c h),fun p hp=>g5 p (by simpa[vG]using hp)⟩
  rcases List.mem_cons.mp (I.stkSub b z)with z|z
  ·exact g1 z
  ·exact g2 z
 refine codeAny_loop rfl (fun n s'=>∃i ys o H',o.length=own.length/\Inv (vG X scope cl (own++rest) s.heap.objs.size s H fp pins) [] (kJ ix o σ) H' s'/\tn i s'.heap/\(∀b∈fp,H' b=none)/\W i n ys H') (fun n s' hI=>?_) m0 ⟨0,[],List.replicate own.length none,H,by simp,J4,st,fun b hm=>(hf b hm).1,w0⟩
 obtain⟨i,ys,o,H',ho,I',st',fr',w'⟩:=hI
 show wpAny _ _ ((compTurn (.ListComp elt [⟨tg,iter,ifs,0⟩] scope pos) 0 (.ref it) (.ref D) (compEnvC scope cl s.heap.objs.size X.env)).onRaise (fun x=>do noteFrame x (compEnvC scope cl s.heap.objs.size X.env);theTreesLotGoes x)) _ _ s'
 refine wpAny_noted ?_
 rw[compTurn_list]
 refine wpAny_bind (wpAny_standAt (wpAny_bind ?_))
 rcases turn i n ys H' w' with⟨stop,q⟩|⟨go,step⟩
 ·refine thn (T.done (vG X scope cl (own++rest) s.heap.objs.size s H fp pins) rfl rfl rfl hc i [] s' _ H' _ I' (stat fr') st' stop) fun r s5⟨hr,I5⟩=>?_
  subst hr
  exact wpAny_pure (fin _ H' s5 o ho I5 q)
 ·refine thn (T.item (vG X scope cl (own++rest) s.heap.objs.size s H fp pins) rfl rfl rfl hc i [] s' _ H' _ I' (stat fr') st' go) fun r s5⟨u,hr,h5⟩=>?_
  subst hr
  refine wpAny_bind (thn h5 fun _ s6⟨xv,H6,I6,r6,y6,st6,fr6⟩=>?_)
  have I6':=I6.pinned (stat fr6) (T.obj _ _ st6)
  refine wpAny_bind (wpAny_mono (hg _ _ _ _ _ _ s6 (kJ ix o σ) H6 xv u _ I6' r6 (step o xv H6 ho y6)) (fun _ s7⟨σ7,H7,I7,⟨o',e7,ho'⟩,q7⟩=>?_) fun _ _ z=>z.elim)
  subst e7
  have again:∀{H9:Hp}{s9:Shared}{ys9:List V}{m':Nat},Inv (vG X scope cl (own++rest) s.heap.objs.size s H fp pins) ([]++uP fp s6.heap) (kJ ix o' σ) H9 s9->m'<n->W (i+1) m' ys9 H9->
    ∃m,m<n/\∃i ys o H',o.length=own.length/\Inv (vG X scope cl (own++rest) s.heap.objs.size s H fp pins) [] (kJ ix o σ) H' s9/\tn i s9.heap/\(∀b∈fp,H' b=none)/\W i m ys H':=fun {H9 s9 ys9 m'}I9 hm w9=>by
   refine⟨m',hm,i+1,ys9,o',H9,ho',I9.unpinned,?_,fun b hm=>?_,w9⟩
   ·exact T.keep _ _ _ st6 fun b hm ob e=>(I9.pin (b,ob) (aq11 _ (aq11 _ (xP hm e)))).1
   ·obtain⟨ob,e,d⟩:=T.obj _ _ st6 b hm
    exact(I9.pin (b,ob) (aq11 _ (aq11 _ (xP hm e)))).2.1
  refine wpAny_bind (wpAny_mono (zQq (hif _ _ _ _ _) I7 q7) (fun b s8⟨H8,I8,q8⟩=>?_) fun _ _ z=>z.elim)
  cases b with
  |false=>
   obtain⟨m',hm',w8⟩:=(show∃m',m'<n/\W (i+1) m' ys H8 from q8)
   exact wpAny_pure ⟨rfl,again I8 hm' w8⟩
  |true=>
   refine wpAny_bind (wpAny_bind (wpAny_mono (he _ _ _ _ _ _ s8 _ _ _ I8 q8) (fun yv s9⟨y,H9,I9,r9,hD,hz,m',hm',w9⟩=>?_) fun _ _ z=>z.elim))
   refine wpAny_bind (wpAny_mono (zF (X:=vG X scope cl (own++rest) s.heap.objs.size s H fp pins) _ s9 _ H9 (.ref D) [y] (.ref D) [yv] (fun _ H10=>H10=upd H9 D (.lst (ys++[y]))) I9 rfl (.cons r9 .nil) ⟨D,ys,y,rfl,rfl,hD,hz,rfl⟩) (fun _ s10⟨_,H10,I10,_,e10⟩=>?_) fun _ _ z=>z.elim)
   subst e10
   exact wpAny_pure (wpAny_pure ⟨rfl,again I10 hm' w9⟩)
theorem qU1{elt iter tg:Expr}{ifs:List Expr}{pos spos py:Pos}{wi:TI}{te:TE}{g:TG}{tc:Option TT}{i:Nat}{x:Str}(hN:X.N.Nodup)(hi':X.N[i]? =some x)(hx:Loc X.env.scope x)(ok:cZ X scope cl own rest ix)(hc:X.calm=true)(hi:PI X tg iter wi)
  (he:∀(C:Addr)(s:Shared)(H:Hp)(fp:List Addr)(pins:List (Addr×Obj)),PE (vG X scope cl (own++rest) C s H fp pins) elt te)(hg:∀(C:Addr)(s:Shared)(H:Hp)(fp:List Addr)(pins:List (Addr×Obj)),PG (vG X scope cl (own++rest) C s H fp pins) tg g)
  (hif:∀(C:Addr)(s:Shared)(H:Hp)(fp:List Addr)(pins:List (Addr×Obj)),PIf (vG X scope cl (own++rest) C s H fp pins) ifs tc)
  (hsw:swapsWith (.ListComp elt [⟨tg,iter,ifs,0⟩] scope pos) (some (.Name x py)) spos.line X.env=pure true)(hf:X.fn x=true\/X.env.scope.names.lookup x=some .local)
  (hs:∀x,foldedSetIterable iter X.env x=pure x:=by intro _;rfl):PS X (.Assign [.Name x py] (.ListComp elt [⟨tg,iter,ifs,0⟩] scope pos) spos) (mQ (qY1 wi g tc te own.length ix) (kO i)):=by
 intro pins s σ H E I h
 rw[exec_Assign_Name_used _ _ _ _ hsw]
 refine wpAny_bind (wpAny_standAt (wpAny_bind ?_))
 show wpAny _ X.A (do let _<-comprehension (.ListComp elt [⟨tg,iter,ifs,0⟩] scope pos) scope X.env _ (newList []) false (eval iter X.env) (some (assign (.Name x py) X.env))) _ _ s
 refine wpAny_bind (wpAny_mono (wpAny_comprehension_free (use:=some (assign (.Name x py) X.env)) (Q:=fun _ s'=>SP X pins E .next s') rfl hs ok.clos ok.kind ok.names (thn (hi pins s σ H _ I h) fun v s1 h1=>thn h1 fun itv s2 h2=>?_)) (fun _ s' hq=>wpAny_pure (wpAny_pure hq)) fun _ _ e=>e)
 obtain⟨it,fp,tn,J,H1,e,I2,T,st2,f2,hq⟩:=h2
 subst e
 refine wpAny_newObj_type (wpAny_newFunctionEnv ok.cell (by intro y hy;simp at hy) (fun h₁ hns hsb=>?_) ok.kind)
 dsimp only at hns hsb⊢
 have na:H1 s2.heap.objs.size=none:=I2.hok.fresh (aq7 _)
 obtain⟨W,⟨m0,w0⟩,turn⟩:=hq s2.heap.objs.size na
 have I3:=I2.laid (t':=s2.toks) (o:=.lst []) (h':=s2.heap.push {cls:=.type "list",dict:=none,data:=.seq ([]:List Value).toArray}) (fun b u e=>aq13 _ e) (aq7 _) ⟨by decide,[],0,.nil,aq14 _ rfl⟩
 have fa:∀b∈fp,b<s2.heap.objs.size:=fun b hb=>by
  obtain⟨o,ho,_⟩:=T.obj 0 _ st2 b hb
  exact aq8 ho
 generalize hs3:({s2 with heap:=s2.heap.push {cls:=.type "list",dict:=none,data:=.seq ([]:List Value).toArray}}:Shared)=s3 at hns hsb I3⊢
 have z3:s3.heap.objs.size=s2.heap.objs.size+1:=by rw[<-hs3];exact Heap.size_push _ _
 have k3:∀b u,s2.heap.get? b=some u->s3.heap.get? b=some u:=fun b u e=>by rw[<-hs3];exact aq13 _ e
 have fa3:∀b∈fp,b<s3.heap.objs.size:=fun b hb=>by rw[z3];exact Nat.lt_succ_of_lt (fa b hb)
 have f3:∀b∈fp,vI X pins (upd H1 s2.heap.objs.size (.lst [])) b:=fun b hb=>by
  obtain⟨g0,g1⟩:=f2 b hb
  exact⟨by rw[qL (aq9 (fa b hb))];exact g0,g1⟩
 subst hs3
 have J4:=cJ ok (tk:=s2.toks+([]:List (Str×Value)).length) I3 f3 fa3 hns hsb
 have st4:tn 0 h₁:=T.keep _ _ _ st2 fun b hm o e=>(hsb.2 b (aq9 (fa3 b hm))).trans (aq13 _ (k3 b o e))
 refine(fun loop=>codeAny_compStart_list loop (T.self _ 0 _ _ _ st4 loop)) (qU0 (Q:=fun v H'=>kO i v σ H' E.nx) (elt:=elt) (iter:=iter) (pos:=pos) (s4:={s2 with heap:=h₁,toks:=s2.toks+([]:List (Str×Value)).length}) ok hc he hg hif I3 T f3 fa3 J4 st4 w0 (fun f H' s5 o ho I5 q=>?_) turn)
 obtain⟨m,hn,_⟩:=I5.loc
 obtain⟨oC,es,ep,hoC,rC⟩:=id hn
 have nC:H' _=none:=I5.free
 have Jx:=zY5 I3 I5 f3 (h'':=s5.heap) (Heap.SameBut.refl ..)
 have fC:vI X pins H' (s2.heap.push {cls:=.type "list",dict:=none,data:=.seq ([]:List Value).toArray}).objs.size:=I3.fpOk (aq7 _) nC
 have Jp:=Jx.pinned (fp:=[(s2.heap.push {cls:=.type "list",dict:=none,data:=.seq ([]:List Value).toArray}).objs.size]) (fun b hb=>by rw[aq20.mp hb];exact fC) (fun b hb=>by
  rw[aq20.mp hb]
  exact⟨oC,hoC,fun v z=>by rw[rC.1]at z;cases z⟩)
 show wpAny _ X.A (assign (.Name x py) X.env (.ref s2.heap.objs.size)) _ _ s5
 refine wpAny_mono (jO (pos:=py) hN hi' hx hf _ s5 σ H' (.ref s2.heap.objs.size) (.ref s2.heap.objs.size) (fun σ6 H6=>σ6=σ.set i (some (.ref s2.heap.objs.size))/\H6=H') Jp rfl ⟨rfl,rfl⟩) (fun _ s6⟨σ6,H6,I6,e1,e2⟩=>?_) fun _ _ e=>e
 subst e1 e2
 have pC:=(I6.pin (_,oC) (aq11 _ (aq11 _ (xP (aq20.mpr rfl) hoC)))).1
 refine⟨m,⟨oC,es,ep,pC,rC⟩,fun h' hs'=>⟨_,_,Inv.turnedL (t':=s6.toks) (ch:=[_]) I6.unpinned (fun b o hb e=>(hs'.2 b (fun z=>hb (aq20.mpr z))).trans e) (fun b hb=>by rw[aq20.mp hb];exact fC),q⟩⟩
theorem lE{elt iter tg:Expr}{pos spos py:Pos}{wi:TI}{te:TE}{g:TG}{i:Nat}{x:Str}(hN:X.N.Nodup)(hi':X.N[i]? =some x)(hx:Loc X.env.scope x)(ok:cZ X scope cl own rest ix)(hc:X.calm=true)(hi:PI X tg iter wi)
  (he:∀(C:Addr)(s:Shared)(H:Hp)(fp:List Addr)(pins:List (Addr×Obj)),PE (vG X scope cl (own++rest) C s H fp pins) elt te)(hg:∀(C:Addr)(s:Shared)(H:Hp)(fp:List Addr)(pins:List (Addr×Obj)),PG (vG X scope cl (own++rest) C s H fp pins) tg g)
  (hsw:swapsWith (.ListComp elt [⟨tg,iter,[],0⟩] scope pos) (some (.Name x py)) spos.line X.env=pure true)(hf:X.fn x=true\/X.env.scope.names.lookup x=some .local)
  (hs:∀x,foldedSetIterable iter X.env x=pure x:=by intro _;rfl):PS X (.Assign [.Name x py] (.ListComp elt [⟨tg,iter,[],0⟩] scope pos) spos) (mQ (qY1 wi g none te own.length ix) (kO i)):=qU1 hN hi' hx ok hc hi he hg (fun _ _ _ _ _=>trivial) hsw hf hs
end
end L2
open PySem
inductive Kd where
 |int|bool
 |list (k:Kd)|pair (k l:Kd)|fn (k l:Kd)
deriving DecidableEq
namespace Kd
noncomputable def dt:Kd->Dt
 | .int=>.str "int"
 | .bool=>.str "bool"
 | .list k=>.tup [.str "list",k.dt]
 | .pair k l=>.tup [.str "pair",k.dt,l.dt]
 | .fn k l=>.tup [.str "fun",k.dt,l.dt]
noncomputable def deep:Kd->Nat
 | .int=>0
 | .bool=>0
 | .list k=>k.deep+1
 | .pair k l=>max k.deep l.deep+1
 | .fn k l=>max k.deep l.deep+1
noncomputable def sz:Kd->Nat
 | .int=>1
 | .bool=>1
 | .list k=>k.sz+1
 | .pair k l=>max k.sz l.sz+1
 | .fn k l=>max k.sz l.sz+1
theorem deep_sz:∀k:Kd,k.deep<k.sz
 | .int=>by simp[deep,sz]
 | .bool=>by simp[deep,sz]
 | .list k=>by have :=deep_sz k;simp only[deep,sz];omega
 | .pair k l=>by have :=deep_sz k;have :=deep_sz l;simp only[deep,sz];omega
 | .fn k l=>by have :=deep_sz k;have :=deep_sz l;simp only[deep,sz];omega
theorem dep_dt:∀k:Kd,Dt.dep k.dt=k.deep
 | .int=>by simp[dt,Dt.dep,deep]
 | .bool=>by simp[dt,Dt.dep,deep]
 | .list k=>by simp[dt,Dt.dep,Dt.deps,deep,dep_dt k]
 | .pair k l=>by simp[dt,Dt.dep,Dt.deps,deep,dep_dt k,dep_dt l]
 | .fn k l=>by simp[dt,Dt.dep,Dt.deps,deep,dep_dt k,dep_dt l]
theorem zA0:(("list":Str)==("pair":Str))=false:=by decide+kernel
theorem zA1:(("pair":Str)==("list":Str))=false:=by decide+kernel
theorem zA2:(("list":Str)==("fun":Str))=false:=by decide+kernel
theorem zA3:(("fun":Str)==("list":Str))=false:=by decide+kernel
theorem zA4:(("pair":Str)==("fun":Str))=false:=by decide+kernel
theorem zA5:(("fun":Str)==("pair":Str))=false:=by decide+kernel
theorem zA6:(("int":Str)==("bool":Str))=false:=by decide+kernel
theorem zA7:(("bool":Str)==("int":Str))=false:=by decide+kernel
theorem eq_dt:∀k l:Kd,Dt.eqD k.dt l.dt=decide (k=l)
 | .int,.int=>by simp[dt,Dt.eqD]
 | .int,.bool=>by simp[dt,Dt.eqD,zA6]
 | .int,.list _=>by simp[dt,Dt.eqD]
 | .int,.pair _ _=>by simp[dt,Dt.eqD]
 | .int,.fn _ _=>by simp[dt,Dt.eqD]
 | .bool,.int=>by simp[dt,Dt.eqD,zA7]
 | .bool,.bool=>by simp[dt,Dt.eqD]
 | .bool,.list _=>by simp[dt,Dt.eqD]
 | .bool,.pair _ _=>by simp[dt,Dt.eqD]
 | .bool,.fn _ _=>by simp[dt,Dt.eqD]
 | .list _,.int=>by simp[dt,Dt.eqD]
 | .list _,.bool=>by simp[dt,Dt.eqD]
 | .list k,.list l=>by simp[dt,Dt.eqD,Dt.eqDs,eq_dt k l]
 | .list _,.pair _ _=>by simp[dt,Dt.eqD,Dt.eqDs,zA0]
 | .list _,.fn _ _=>by simp[dt,Dt.eqD,Dt.eqDs,zA2]
 | .pair _ _,.int=>by simp[dt,Dt.eqD]
 | .pair _ _,.bool=>by simp[dt,Dt.eqD]
 | .pair _ _,.list _=>by simp[dt,Dt.eqD,Dt.eqDs,zA1]
 | .pair k l,.pair k' l'=>by simp[dt,Dt.eqD,Dt.eqDs,eq_dt k k',eq_dt l l']
 | .pair _ _,.fn _ _=>by simp[dt,Dt.eqD,Dt.eqDs,zA4]
 | .fn _ _,.int=>by simp[dt,Dt.eqD]
 | .fn _ _,.bool=>by simp[dt,Dt.eqD]
 | .fn _ _,.list _=>by simp[dt,Dt.eqD,Dt.eqDs,zA3]
 | .fn _ _,.pair _ _=>by simp[dt,Dt.eqD,Dt.eqDs,zA5]
 | .fn k l,.fn k' l'=>by simp[dt,Dt.eqD,Dt.eqDs,eq_dt k k',eq_dt l l']
end Kd
inductive U1|head|tail|empty|first|second|not
deriving DecidableEq
inductive U2|cons|pair|call|plus|minus|times|over|rest|less|same|and|or
deriving DecidableEq
noncomputable def U1.str:U1->Str
 | .head=>"head"| .tail=>"tail"| .empty=>"empty"| .first=>"first"| .second=>"second"| .not=>"not"
noncomputable def U2.str:U2->Str
 | .cons=>"cons"| .pair=>"pair"| .call=>"call"| .plus=>"plus"| .minus=>"minus"| .times=>"times"| .over=>"over"| .rest=>"rest"| .less=>"less"| .same=>"same"| .and=>"and"| .or=>"or"
inductive Pt where
 |num (n:Int)|tru (b:Bool)|nam (x:Str)|nil (k:Kd)
 |one (u:U1) (p:Pt)|two (u:U2) (p q:Pt)|ite (p q r:Pt)
 |let_ (x:Str) (p q:Pt)|fn (x:Str) (k:Kd) (p:Pt)|rc (f x:Str) (k l:Kd) (p:Pt)
abbrev Cxt:=List (Str×Kd)
namespace Pt
noncomputable def dt:Pt->Dt
 | .num n=>.tup [.str "num",.int n]
 | .tru b=>.tup [.str "truth",.bl b]
 | .nam x=>.tup [.str "name",.str x]
 | .nil k=>.tup [.str "nil",k.dt]
 | .one u p=>.tup [.str u.str,p.dt]
 | .two u p q=>.tup [.str u.str,p.dt,q.dt]
 | .ite p q r=>.tup [.str "if",p.dt,q.dt,r.dt]
 | .let_ x p q=>.tup [.str "let",.str x,p.dt,q.dt]
 | .fn x k p=>.tup [.str "fn",.str x,k.dt,p.dt]
 | .rc f x k l p=>.tup [.str "rec",.str f,.str x,k.dt,l.dt,p.dt]
noncomputable def k1:U1->Kd->Option Kd
 | .head,.list k=>some k
 | .tail,.list k=>some (.list k)
 | .empty,.list _=>some .bool
 | .first,.pair k _=>some k
 | .second,.pair _ l=>some l
 | .not,.bool=>some .bool
 |_,_=>none
noncomputable def k2:U2->Kd->Kd->Option Kd
 | .cons,k,.list l=>if k=l then some (.list l)else none
 | .pair,k,l=>some (.pair k l)
 | .call,.fn k l,m=>if k=m then some l else none
 | .plus,.int,.int=>some .int
 | .minus,.int,.int=>some .int
 | .times,.int,.int=>some .int
 | .over,.int,.int=>some .int
 | .rest,.int,.int=>some .int
 | .less,.int,.int=>some .bool
 | .same,.int,.int=>some .bool
 | .and,.bool,.bool=>some .bool
 | .or,.bool,.bool=>some .bool
 |_,_,_=>none
inductive Has:Cxt->Pt->Kd->Prop
 |num {Γ n}:Has Γ (.num n) .int
 |tru {Γ b}:Has Γ (.tru b) .bool
 |nam {Γ x k}:Γ.lookup x=some k->k.sz<=40->Has Γ (.nam x) k
 |nil {Γ k}:k.sz+1<=40->Has Γ (.nil k) (.list k)
 |one {Γ u p k m}:Has Γ p k->k1 u k=some m->m.sz<=40->Has Γ (.one u p) m
 |two {Γ u p q k l m}:Has Γ p k->Has Γ q l->k2 u k l=some m->m.sz<=40->Has Γ (.two u p q) m
 |ite {Γ p q r k}:Has Γ p .bool->Has Γ q k->Has Γ r k->Has Γ (.ite p q r) k
 |let_ {Γ x p q k l}:Has Γ p k->Has ((x,k)::Γ) q l->Has Γ (.let_ x p q) l
 |fn {Γ x k p l}:Has ((x,k)::Γ) p l->(Kd.fn k l).sz<=40->Has Γ (.fn x k p) (.fn k l)
 |rc {Γ f x k l p}:Has ((x,k)::(f,.fn k l)::Γ) p l->(Kd.fn k l).sz<=40->Has Γ (.rc f x k l p) (.fn k l)
theorem Has.sz{Γ:Cxt}{p:Pt}{k:Kd}(h:Has Γ p k):k.sz<=40:=by
 induction h with
 |num=>decide
 |tru=>decide
 |nam _ e=>exact e
 |nil e=>exact e
 |one _ _ e=>exact e
 |two _ _ _ e=>exact e
 |ite _ _ _ _ _ i3=>exact i3
 |let_ _ _ _ i2=>exact i2
 |fn _ e=>exact e
 |rc _ e=>exact e
noncomputable def deep:Pt->Nat
 | .one _ p=>p.deep+1
 | .two _ p q=>max p.deep q.deep+1
 | .ite p q r=>max p.deep (max q.deep r.deep)+1
 | .let_ _ p q=>max p.deep q.deep+1
 | .fn _ _ p=>p.deep+1
 | .rc _ _ _ _ p=>p.deep+1
 |_=>0
noncomputable def sz:Pt->Nat
 | .one _ p=>p.sz+1
 | .two _ p q=>p.sz+q.sz+1
 | .ite p q r=>p.sz+q.sz+r.sz+1
 | .let_ _ p q=>p.sz+q.sz+1
 | .fn _ _ p=>p.sz+1
 | .rc _ _ _ _ p=>p.sz+1
 |_=>1
noncomputable def fv:Pt->Str->Prop
 | .nam y,x=>x=y
 | .one _ p,x=>p.fv x
 | .two _ p q,x=>p.fv x\/q.fv x
 | .ite p q r,x=>p.fv x\/q.fv x\/r.fv x
 | .let_ y p q,x=>p.fv x\/(q.fv x/\x≠y)
 | .fn y _ p,x=>p.fv x/\x≠y
 | .rc f y _ _ p,x=>p.fv x/\x≠f/\x≠y
 |_,_=>False
theorem lookup_cons_ne{x y:Str}{k:Kd}{Γ:Cxt}(h:x≠y):List.lookup x ((y,k)::Γ)=Γ.lookup x:=by rw[List.lookup_cons,beq_eq_false_iff_ne.mpr h]
theorem Has.fv{Γ:Cxt}{p:Pt}{k:Kd}(h:Has Γ p k):∀x,p.fv x->∃l,Γ.lookup x=some l:=by
 induction h with
 |num=>intro x z;exact z.elim
 |tru=>intro x z;exact z.elim
 |nam e _=>intro x z;cases (show x=_ from z);exact⟨_,e⟩
 |nil _=>intro x z;exact z.elim
 |one _ _ _ ih=>exact ih
 |two _ _ _ _ i1 i2=>intro x z;exact z.elim (i1 x) (i2 x)
 |ite _ _ _ i1 i2 i3=>intro x z;exact z.elim (i1 x) fun z=>z.elim (i2 x) (i3 x)
 |let_ _ _ i1 i2=>intro x z;exact z.elim (i1 x) fun z=>(by obtain⟨l,e⟩:=i2 x z.1;rw[lookup_cons_ne z.2]at e;exact⟨l,e⟩)
 |fn _ _ ih=>intro x z;obtain⟨l,e⟩:=ih x z.1;rw[lookup_cons_ne z.2]at e;exact⟨l,e⟩
 |rc _ _ ih=>intro x z;obtain⟨l,e⟩:=ih x z.1;rw[lookup_cons_ne z.2.2,lookup_cons_ne z.2.1]at e;exact⟨l,e⟩
end Pt
open PySem
noncomputable def In64 (n:Int):Prop:= -9223372036854775808<=n/\n<=9223372036854775807
open PySem
inductive AV where
 |int (n:Int)|bl (b:Bool)|nil|at_ (n:Nat)
deriving DecidableEq
inductive Srt where
 |cell|pair|fn
deriving DecidableEq
structure Th where
 sort:Srt
 held:List AV
deriving DecidableEq
inductive Sm where
 |plus|minus|times|over|rest|less|same
deriving DecidableEq
inductive AOrd where
 |num (n:Int)|tru (b:Bool)|nil|get (k:Nat)
 |make (s:Srt)|take (x:Str) (i:Nat)|empty|not
 |sum (s:Sm)|func (rc:Bool) (kept:List Nat) (len:Nat)
 |call|last|tell|unless (k:Nat)|skip (k:Nat)|slide
inductive Sd where
 |running|done|byNought|ofEmpty|noRoom|tooDeep
deriving DecidableEq
structure Ms where
 code:List AOrd
 room:Nat
 things:List Th
 made:Nat
 stk:List AV
 base:Nat
 place:Nat
 pend:List (Nat×Nat)
 st:Sd
namespace Ms
noncomputable def high:Nat:=100000
noncomputable def bring (n:Int):Int:=(n+9223372036854775808)%18446744073709551616-9223372036854775808
noncomputable def sumV:Sm->Int->Int->AV
 | .plus,a,b=>.int (bring (a+b))
 | .minus,a,b=>.int (bring (a-b))
 | .times,a,b=>.int (bring (a*b))
 | .over,a,b=>.int (bring (if decide (a<0)=decide (b<0)then((a.natAbs/b.natAbs:Nat):Int)else -((a.natAbs/b.natAbs:Nat):Int)))
 | .rest,a,b=>.int (if a<0 then -((a.natAbs%b.natAbs:Nat):Int)else((a.natAbs%b.natAbs:Nat):Int))
 | .less,a,b=>.bl (decide (a<b))
 | .same,a,b=>.bl (decide (a=b))
noncomputable def nought:Sm->Int->Bool
 | .over,b=>decide (b=0)
 | .rest,b=>decide (b=0)
 |_,_=>false
noncomputable def found (things:List Th):Nat->List Nat->List AV->Option (List Nat)
 |_,seen,[]=>some seen
 |0,_,_::_=>none
 |fuel+1,seen,w::ws=>match w with
  | .at_ k=>if k∈seen then found things fuel seen ws else match things[k]?with
   |some t=>found things fuel (seen++[k]) (t.held.reverse++ws)
   |none=>none
  |_=>found things fuel seen ws
noncomputable def movedV (places:List Nat):AV->AV
 | .at_ k=>.at_ (places.idxOf k)
 |v=>v
noncomputable def fuelOf (m:Ms):Nat:=(m.things.map fun t=>t.held.length).sum+m.stk.length
noncomputable def collect (m:Ms):Option Ms:=if 10000000<m.fuelOf then none else
 (found m.things m.fuelOf [] m.stk).bind fun ps=>(ps.mapM fun k=>m.things[k]?).map fun ts=>
  {m with things:=ts.map fun t=>⟨t.sort,t.held.map (movedV ps)⟩,stk:=m.stk.map (movedV ps)}
noncomputable def roomy (m:Ms):Option Ms:=if m.room<=m.things.length then m.collect.map fun m1=>if m1.room<=m1.things.length then {m1 with st:=.noRoom}else m1 else some m
noncomputable def add (m:Ms) (s:Srt) (h:List AV):Ms:={m with things:=m.things++[⟨s,h⟩],made:=m.made+1,stk:=.at_ m.things.length::m.stk}
noncomputable def enter (m:Ms) (k:Nat) (handed:AV):Option Ms:=match m.things[k]?with
 |some ⟨_,.int pl:: .bl rc::kept⟩=>if pl<0 then none else some {m with place:=pl.toNat,stk:=handed::((if rc then[.at_ k]else[])++(kept.reverse++m.stk))}
 |_=>none
noncomputable def slot (m:Ms) (k:Nat):Option AV:=if m.base+k<m.stk.length then m.stk[m.stk.length-1-(m.base+k)]?else none
noncomputable def cut (l:List AV) (h:Nat):List AV:=l.drop (l.length-h)
noncomputable def exec (m:Ms):AOrd->Option Ms
 | .num n=>some {m with stk:=.int n::m.stk}
 | .tru b=>some {m with stk:=.bl b::m.stk}
 | .nil=>some {m with stk:=.nil::m.stk}
 | .get k=>(m.slot k).map fun v=>{m with stk:=v::m.stk}
 | .make s=>m.roomy.bind fun m1=>if m1.st= .running then(match m1.stk with
   |b::a::r=>some (({m1 with stk:=r}:Ms).add s [a,b])
   |_=>none)else some m1
 | .take _ i=>match m.stk with
  | .nil::r=>some {m with stk:=r,st:=.ofEmpty}
  | .at_ k::r=>m.things[k]?.bind fun t=>t.held[i]?.map fun v=>{m with stk:=v::r}
  |_=>none
 | .empty=>match m.stk with
  |v::r=>some {m with stk:=.bl (decide (v= .nil))::r}
  |_=>none
 | .not=>match m.stk with
  | .bl b::r=>some {m with stk:=.bl (!b)::r}
  |_=>none
 | .sum s=>match m.stk with
  | .int y:: .int x::r=>some (if nought s y then {m with stk:=r,st:=.byNought}else {m with stk:=sumV s x y::r})
  |_=>none
 | .func rc kept len=>m.roomy.bind fun m1=>if m1.st= .running then((kept.mapM fun k=>m1.slot k).map fun vs=>let m2:=m1.add .fn (.int m1.place:: .bl rc::vs);{m2 with place:=m2.place+len})else some m1
 | .call=>if 40<=m.pend.length then some {m with st:=.tooDeep}else match m.stk with
  |h:: .at_ k::_=>({m with pend:=(m.place,m.base)::m.pend,base:=m.stk.length}:Ms).enter k h
  |_=>none
 | .last=>match m.stk with
  |h:: .at_ k::r=>({m with stk:=cut r m.base}:Ms).enter k h
  |_=>none
 | .tell=>match m.stk with
  |v::r=>match m.pend with
   |(pl,bs)::q=>if 2<=m.base then some {m with stk:=v::cut r (m.base-2),pend:=q,place:=pl,base:=bs}else none
   |[]=>some {m with stk:=[v],st:=.done}
  |_=>none
 | .unless k=>match m.stk with
  | .bl b::r=>some (if b then {m with stk:=r}else {m with stk:=r,place:=m.place+k})
  |_=>none
 | .skip k=>some {m with place:=m.place+k}
 | .slide=>match m.stk with
  |v::_::r=>some {m with stk:=v::r}
  |_=>none
noncomputable def order (m:Ms):Option Ms:=m.code[m.place]?.bind fun o=>(({m with place:=m.place+1}:Ms).exec o).bind fun m1=>if m1.stk.length<=high then some m1 else none
noncomputable def ending:AOrd->Bool
 | .tell=>true| .skip _=>true| .slide=>true|_=>false
noncomputable def ends:Nat->Ms->Option Ms
 |0,_=>none
 |n+1,m=>if m.st= .running then m.code[m.place]?.bind fun o=>if ending o then m.order.bind (ends n)else some m else some m
noncomputable def step (fuel:Nat) (m:Ms):Option Ms:=m.order.bind (ends fuel)
noncomputable def run (fuel:Nat):Nat->Ms->Option Ms
 |0,m=>some m
 |n+1,m=>if m.st= .running then(m.step fuel).bind (run fuel n)else some m
noncomputable def new (code:List AOrd) (room:Nat):Ms:=⟨code,room,[],0,[],0,0,[],.running⟩
end Ms
namespace Pt
noncomputable def ins (acc:List Str):List Str->List Str
 |[]=>acc
 |x::xs=>ins (if x∈acc then acc else acc++[x]) xs
noncomputable def outs:Pt->List Str
 | .nam x=>[x]
 | .one _ p=>ins [] (outs p)
 | .two _ p q=>ins (ins [] (outs p)) (outs q)
 | .ite p q r=>ins (ins (ins [] (outs p)) (outs q)) (outs r)
 | .let_ x p q=>ins (ins [] (outs p)) ((outs q).filter (·≠x))
 | .fn x _ p=>ins [] ((outs p).filter (·≠x))
 | .rc f x _ _ p=>ins [] ((outs p).filter fun y=>y≠f/\y≠x)
 |_=>[]
abbrev Sl:=List (Str×Nat)
noncomputable def slotOf (sl:Sl) (x:Str):Nat:=(sl.lookup x).getD 0
noncomputable def slotsFor:Nat->List Str->Sl
 |_,[]=>[]
 |i,x::xs=>slotsFor (i+1) xs++[(x,i)]
noncomputable def u1:U1->AOrd
 | .head=>.take "head" 0
 | .tail=>.take "tail" 1
 | .empty=>.empty
 | .first=>.take "first" 0
 | .second=>.take "second" 1
 | .not=>.not
noncomputable def u2:U2->AOrd
 | .cons=>.make .cell
 | .pair=>.make .pair
 | .plus=>.sum .plus
 | .minus=>.sum .minus
 | .times=>.sum .times
 | .over=>.sum .over
 | .rest=>.sum .rest
 | .less=>.sum .less
 | .same=>.sum .same
 |_=>.call
noncomputable def told (last:Bool) (c:List AOrd):List AOrd:=if last then c++[.tell]else c
noncomputable def ifC (last:Bool) (c1 c2 c3:List AOrd):List AOrd:=
 let c2':=if last then c2 else c2++[.skip c3.length]
 c1++[.unless c2'.length]++c2'++c3
noncomputable def codeOf:Pt->Sl->Nat->Bool->List AOrd
 | .num n,_,_,b=>told b [.num n]
 | .tru v,_,_,b=>told b [.tru v]
 | .nam x,sl,_,b=>told b [.get (slotOf sl x)]
 | .nil _,_,_,b=>told b [.nil]
 | .one u p,sl,h,b=>told b (codeOf p sl h false++[u1 u])
 | .two .call p q,sl,h,b=>codeOf p sl h false++codeOf q sl (h+1) false++[if b then .last else .call]
 | .two .and p q,sl,h,b=>ifC b (codeOf p sl h false) (codeOf q sl h b) (told b [.tru false])
 | .two .or p q,sl,h,b=>ifC b (codeOf p sl h false) (told b [.tru true]) (codeOf q sl h b)
 | .two u p q,sl,h,b=>told b (codeOf p sl h false++codeOf q sl (h+1) false++[u2 u])
 | .ite p q r,sl,h,b=>ifC b (codeOf p sl h false) (codeOf q sl h b) (codeOf r sl h b)
 | .let_ x p q,sl,h,b=>codeOf p sl h false++(if b then codeOf q ((x,h)::sl) (h+1) b else codeOf q ((x,h)::sl) (h+1) b++[.slide])
 | .fn x k p,sl,_,b=>
  let kept:=outs (.fn x k p)
  let body:=codeOf p (slotsFor 0 (kept++[x])) (kept.length+1) true
  told b (.func false (kept.map (slotOf sl)) body.length::body)
 | .rc f x k l p,sl,_,b=>
  let kept:=outs (.rc f x k l p)
  let bound:=if f=x then[f]else[f,x]
  let body:=codeOf p (slotsFor 0 (kept++bound)) (kept.length+bound.length) true
  told b (.func (decide (f≠x)) (kept.map (slotOf sl)) body.length::body)
end Pt
open PySem
namespace Pt
theorem ins_snoc(acc ys:List Str)(x:Str):ins acc (ys++[x])=if x∈ins acc ys then ins acc ys else ins acc ys++[x]:=by
 induction ys generalizing acc with
 |nil=>rfl
 |cons y ys ih=>exact ih _
theorem kK{x:Str}:∀{acc ys:List Str},x∈ins acc ys↔x∈acc\/x∈ys
 |acc,[]=>by simp[ins]
 |acc,y::ys=>by
  rw[ins,kK]
  by_cases h:y∈acc
  ·rw[if_pos h]
   constructor
   ·rintro(z|z)
    ·exact .inl z
    ·exact .inr (aq10 _ z)
   ·rintro(z|z)
    ·exact .inl z
    ·rcases List.mem_cons.mp z with rfl|z
     ·exact .inl h
     ·exact .inr z
  ·rw[if_neg h]
   simp[or_assoc]
theorem jF:∀{acc ys:List Str},acc.Nodup->(ins acc ys).Nodup
 |acc,[],h=>h
 |acc,y::ys,h=>by
  rw[ins]
  by_cases z:y∈acc
  ·rw[if_pos z];exact jF h
  ·rw[if_neg z]
   refine jF (List.nodup_append.mpr ⟨h,by simp,fun a ha b hb e=>?_⟩)
   rw[aq20.mp hb]at e
   exact z (e▸ha)
theorem length_ins:∀(acc ys:List Str),(ins acc ys).length<=acc.length+ys.length
 |acc,[]=>by simp[ins]
 |acc,y::ys=>by
  rw[ins]
  have :=length_ins (if y∈acc then acc else acc++[y]) ys
  have e:(if y∈acc then acc else acc++[y]).length<=acc.length+1:=by split<;>simp
  rw[aq17];omega
theorem outs_mem(x:Str):∀p:Pt,x∈outs p↔p.fv x
 | .num _=>by simp[outs,fv]
 | .tru _=>by simp[outs,fv]
 | .nam y=>by simp[outs,fv]
 | .nil _=>by simp[outs,fv]
 | .one _ p=>by rw[outs,kK,fv,outs_mem x p];simp
 | .two _ p q=>by rw[outs,kK,kK,fv,outs_mem x p,outs_mem x q];simp
 | .ite p q r=>by rw[outs,kK,kK,kK,fv,outs_mem x p,outs_mem x q,outs_mem x r];simp[or_assoc]
 | .let_ y p q=>by rw[outs,kK,kK,fv,outs_mem x p,List.mem_filter,outs_mem x q];simp
 | .fn y _ p=>by rw[outs,kK,fv,List.mem_filter,outs_mem x p];simp
 | .rc f y _ _ p=>by rw[outs,kK,fv,List.mem_filter,outs_mem x p];simp
theorem outs_nodup:∀p:Pt,(outs p).Nodup
 | .num _=>by simp[outs]
 | .tru _=>by simp[outs]
 | .nam y=>by simp[outs]
 | .nil _=>by simp[outs]
 | .one _ p=>jF List.nodup_nil
 | .two _ p q=>jF (jF List.nodup_nil)
 | .ite p q r=>jF (jF (jF List.nodup_nil))
 | .let_ y p q=>jF (jF List.nodup_nil)
 | .fn y _ p=>jF List.nodup_nil
 | .rc f y _ _ p=>jF List.nodup_nil
theorem outs_length:∀p:Pt,(outs p).length<=p.sz
 | .num _=>by simp[outs,sz]
 | .tru _=>by simp[outs,sz]
 | .nam y=>by simp[outs,sz]
 | .nil _=>by simp[outs,sz]
 | .one _ p=>by have :=length_ins [] (outs p);have :=outs_length p;simp only[outs,sz,List.length_nil]at *;omega
 | .two _ p q=>by have :=length_ins (ins [] (outs p)) (outs q);have :=length_ins [] (outs p);have :=outs_length p;have :=outs_length q;simp only[outs,sz,List.length_nil]at *;omega
 | .ite p q r=>by have :=length_ins (ins (ins [] (outs p)) (outs q)) (outs r);have :=length_ins (ins [] (outs p)) (outs q);have :=length_ins [] (outs p);have :=outs_length p;have :=outs_length q;have :=outs_length r;simp only[outs,sz,List.length_nil]at *;omega
 | .let_ y p q=>by have :=length_ins (ins [] (outs p)) ((outs q).filter (·≠y));have :=length_ins [] (outs p);have :=outs_length p;have :=outs_length q;have :=List.length_filter_le (fun z=>decide (z≠y)) (outs q);simp only[outs,sz,List.length_nil]at *;omega
 | .fn y _ p=>by have :=length_ins [] ((outs p).filter (·≠y));have :=outs_length p;have :=List.length_filter_le (fun z=>decide (z≠y)) (outs p);simp only[outs,sz,List.length_nil]at *;omega
 | .rc f y _ _ p=>by have :=length_ins [] ((outs p).filter fun z=>z≠f/\z≠y);have :=outs_length p;have :=List.length_filter_le (fun z=>decide (z≠f/\z≠y)) (outs p);simp only[outs,sz,List.length_nil]at *;omega
def accs(ns:List Str)(ps:List Pt):Nat->List Str
 |0=>[]
 |i+1=>match ps[i]?with
  |some q=>ins (accs ns ps i) ((outs q).filter fun x=>decide (i+1<ps.length\/x∉ns))
  |none=>accs ns ps i
theorem filter_yes{f:Str->Bool}:∀{xs:List Str},(∀x,f x=true)->xs.filter f=xs:=fun h=>List.filter_eq_self.mpr fun x _=>h x
theorem xD(b:Bool)(c:List AOrd):(told b c).length<=c.length+1:=by unfold told;split<;>simp
theorem mD(b:Bool)(c1 c2 c3:List AOrd):(ifC b c1 c2 c3).length<=c1.length+c2.length+c3.length+2:=by unfold ifC;cases b<;>simp <;>omega
theorem codeOf_len:∀(p:Pt)(sl:Sl)(h:Nat)(b:Bool),(codeOf p sl h b).length+4<=6*p.sz
 | .num n,sl,h,b=>by have :=xD b [AOrd.num n];simp only[codeOf,sz,aq17,List.length_nil]at *;omega
 | .tru n,sl,h,b=>by have :=xD b [AOrd.tru n];simp only[codeOf,sz,aq17,List.length_nil]at *;omega
 | .nam n,sl,h,b=>by have :=xD b [AOrd.get (slotOf sl n)];simp only[codeOf,sz,aq17,List.length_nil]at *;omega
 | .nil n,sl,h,b=>by have :=xD b [AOrd.nil];simp only[codeOf,sz,aq17,List.length_nil]at *;omega
 | .one u p,sl,h,b=>by have :=xD b (codeOf p sl h false++[u1 u]);have :=codeOf_len p sl h false;simp only[codeOf,sz,aq17,List.length_nil,List.length_append]at *;omega
 | .two u p q,sl,h,b=>by
  have i1:=codeOf_len p sl h false
  have i2:=codeOf_len q sl (h+1) false
  have i3:=codeOf_len q sl h b
  cases u
  case call=>simp only[codeOf,sz,aq17,List.length_nil,List.length_append]at *;omega
  case and=>have :=mD b (codeOf p sl h false) (codeOf q sl h b) (told b [.tru false]);have :=xD b [AOrd.tru false];simp only[codeOf,sz,aq17,List.length_nil,List.length_append]at *;omega
  case or=>have :=mD b (codeOf p sl h false) (told b [.tru true]) (codeOf q sl h b);have :=xD b [AOrd.tru true];simp only[codeOf,sz,aq17,List.length_nil,List.length_append]at *;omega
  all_goals
   rw[codeOf]
   ·refine Nat.le_trans (Nat.add_le_add_right (xD b _) 4) ?_
    simp only[sz,aq17,List.length_nil,List.length_append]at *;omega
   all_goals (intro z;cases z)
 | .ite p q r,sl,h,b=>by
  have i1:=codeOf_len p sl h false
  have i2:=codeOf_len q sl h b
  have i3:=codeOf_len r sl h b
  have :=mD b (codeOf p sl h false) (codeOf q sl h b) (codeOf r sl h b);simp only[codeOf,sz]at *;omega
 | .let_ x p q,sl,h,b=>by
  have i1:=codeOf_len p sl h false
  have i2:=codeOf_len q ((x,h)::sl) (h+1) b
  cases b<;>simp[codeOf,sz]at * <;>omega
 | .fn x k p,sl,h,b=>by
  rw[codeOf]
  have i1:=codeOf_len p (slotsFor 0 (outs (.fn x k p)++[x])) ((outs (.fn x k p)).length+1) true
  refine Nat.le_trans (Nat.add_le_add_right (xD b _) 4) ?_
  simp only[sz,aq17]at *;omega
 | .rc f x k l p,sl,h,b=>by
  rw[codeOf]
  have i1:=codeOf_len p (slotsFor 0 (outs (.rc f x k l p)++if f=x then[f]else[f,x])) ((outs (.rc f x k l p)).length+(if f=x then[f]else[f,x]).length) true
  refine Nat.le_trans (Nat.add_le_add_right (xD b _) 4) ?_
  simp only[sz,aq17]at *;omega
theorem slotOf_eq(x:Str)(h:Nat)(S:Sl):slotOf ((x,h)::S) x=h:=by simp[slotOf,List.lookup_cons]
theorem slotOf_ne{x y:Str}(h:Nat)(S:Sl)(e:y≠x):slotOf ((x,h)::S) y=slotOf S y:=by
 unfold slotOf;rw[List.lookup_cons,beq_eq_false_iff_ne.mpr e]
theorem wJ{x:Str}:∀{a b:Sl},List.lookup x (a++b)=(List.lookup x a).or (List.lookup x b)
 |[],b=>by simp
 |(y,n)::a,b=>by
  rw[List.cons_append,List.lookup_cons,List.lookup_cons,wJ]
  cases (x==y)<;>rfl
theorem wW{x:Str}:∀{i:Nat}{l:List Str},x∉l->List.lookup x (slotsFor i l)=none
 |_,[],_=>rfl
 |i,y::l,h=>by
  have hne:x≠y:=fun z=>h (by rw[z];exact aq22)
  rw[slotsFor,wJ,wW fun z=>h (aq10 _ z),List.lookup_cons,beq_eq_false_iff_ne.mpr hne]
  rfl
theorem slotOf_for{x:Str}:∀{i j:Nat}{l:List Str},l.Nodup->l[j]? =some x->slotOf (slotsFor i l) x=i+j
 |_,_,[],_,h=>by simp at h
 |i,0,y::l,hn,h=>by
  have e:y=x:=by simpa using h
  subst e
  rw[List.nodup_cons]at hn
  unfold slotOf
  rw[slotsFor,wJ,wW hn.1,List.lookup_cons,beq_self_eq_true]
  rfl
 |i,j+1,y::l,hn,h=>by
  rw[List.nodup_cons]at hn
  have h':l[j]? =some x:=by simpa using h
  have ih:=slotOf_for (i:=i+1) hn.2 h'
  unfold slotOf at ih⊢
  rw[slotsFor,wJ]
  have hl:∃n,List.lookup x (slotsFor (i+1) l)=some n:=by
   cases e:List.lookup x (slotsFor (i+1) l)with
   |some n=>exact⟨n,rfl⟩
   |none=>rw[e]at ih;simp at ih;omega
  obtain⟨n,e⟩:=hl
  rw[e]at ih⊢
  simp at ih⊢;omega
def bnd:Pt->List Str
 | .fn x _ _=>[x]
 | .rc f x _ _ _=>if f=x then[f]else[f,x]
 |_=>[]
end Pt
open PySem
namespace AV
noncomputable def dt:AV->Dt
 | .int n=>.int n
 | .bl b=>.bl b
 | .nil=>.non
 | .at_ k=>.tup [.str "at",.int k]
end AV
noncomputable def Srt.str:Srt->Str
 | .cell=>"cell"| .pair=>"pair"| .fn=>"function"
noncomputable def Th.dt (t:Th):Dt:=.tup [.str t.sort.str,.tup (t.held.map AV.dt)]
noncomputable def Sm.str:Sm->Str
 | .plus=>"plus"| .minus=>"minus"| .times=>"times"| .over=>"over"| .rest=>"rest"| .less=>"less"| .same=>"same"
noncomputable def Sd.str:Sd->Str
 | .running=>"running"| .done=>"done"| .byNought=>"by nought"| .ofEmpty=>"of empty"| .noRoom=>"no room"| .tooDeep=>"too deep"
namespace AOrd
noncomputable def wd:AOrd->Str
 | .num _=>"put"| .tru _=>"put"| .nil=>"nil"| .get _=>"get"
 | .make .pair=>"pair"| .make _=>"cons"| .take x _=>x| .empty=>"empty"| .not=>"not"
 | .sum s=>s.str| .func rc _ _=>if rc then"rec" else"fn"
 | .call=>"call"| .last=>"last call"| .tell=>"tell"| .unless _=>"unless"| .skip _=>"skip"| .slide=>"slide"
noncomputable def args:AOrd->List Dt
 | .num n=>[.int n]| .tru b=>[.bl b]| .get k=>[.int k]
 | .func _ kept len=>[.tup (kept.map fun k:Nat=>.int (k:Int)),.int len]
 | .unless k=>[.int k]| .skip k=>[.int k]
 |_=>[]
noncomputable def dt (o:AOrd):Dt:=.tup (.str o.wd::o.args)
noncomputable def ok:AOrd->Prop
 | .make s=>s≠ .fn
 | .take x i=>(x,i)∈([("head",0),("tail",1),("first",0),("second",1)]:List (Str×Nat))
 | .num n=>In64 n
 | .func _ ks _=>ks.length<=50000
 |_=>True
end AOrd
noncomputable def Pair2 (q:Nat×Nat):Dt:=.tup [.int q.1,.int q.2]
namespace L2
open PySem PySem.Spec PyProof.Rows PyProof
def yB(k:Str):List Str->Option Nat
 |[]=>none
 |x::r=>if decide (k=x)=true then some 0 else(yB k r).map (·+1)
theorem qS{k:Str}:∀{ks:List Str}{vs:List V}{i:Nat}{v:V},yB k ks=some i->vs[i]? =some v->KTD.datumAt k (ks.zip vs)=some v
 |[],_,_,_,h,_=>by cases h
 |x::r,[],i,v,h,hv=>by simp at hv
 |x::r,u::us,i,v,h,hv=>by
  show(if decide (k=x)=true then some u else KTD.datumAt k (r.zip us))=some v
  have h':(if decide (k=x)=true then some 0 else(yB k r).map (·+1))=some i:=h
  by_cases z:decide (k=x)=true
  ·rw[if_pos z]at h'⊢
   cases h'
   simpa using hv
  ·rw[if_neg z]at h'⊢
   cases e:yB k r with
   |none=>rw[e]at h';cases h'
   |some j=>
    rw[e]at h'
    have ei:i=j+1:=by simpa using h'.symm
    subst ei
    exact qS e (by simpa using hv)
theorem oK{k:Str}:∀{ks:List Str}{vs:List V},yB k ks=none->KTD.inKeys k (ks.zip vs)=false
 |[],_,_=>rfl
 |x::r,[],_=>rfl
 |x::r,u::us,h=>by
  show(decide (k=x)||KTD.inKeys k (r.zip us))=false
  have h':(if decide (k=x)=true then some 0 else(yB k r).map (·+1))=none:=h
  by_cases z:decide (k=x)=true
  ·rw[if_pos z]at h';cases h'
  ·rw[if_neg z]at h'
   have e:yB k r=none:=by
    cases e:yB k r with
    |none=>rfl
    |some j=>rw[e]at h';cases h'
   rw[Bool.eq_false_iff.mpr z,Bool.false_or]
   exact oK e
def xX(o:Obj)(xs:List V):Prop:=o.cls= .type "tuple"/\∃its n,o.data= .seq its n/\Vals xs its.toList
theorem xX.s{K:Fg}{a:Addr}{o:Obj}{xs:List V}(h:xX o xs)(l:K.lookup a=some o)(hz:xs.length<=sizeLine):∀H,zB K H a xs:=fun H=>by
 obtain⟨c,its,n,d,v⟩:=h
 refine .inr ⟨o,its,n,l,c,d,?_,v⟩
 have h1:xs.length=its.toList.length:=v.length
 have h2:its.toList.length=its.size:=by simp
 show its.size<=sizeLine
 rw[<-h2,<-h1]
 exact hz
theorem gQ{K:Fg}:∀{ks:List Str}{sss:List (List Str)}{vs:List V},ks.length=sss.length->ks.length=vs.length->(∀(i:Nat)ss v,sss[i]? =some ss->vs[i]? =some v->∃tp,v= .ref tp/\∀H,zB K H tp (ss.map V.str))->
  ∀wd,((ks.zip sss).lookup wd=none/\KTD.datumAt wd (ks.zip vs)=none)\/∃ss tp,(ks.zip sss).lookup wd=some ss/\KTD.datumAt wd (ks.zip vs)=some (.ref tp)/\∀H,zB K H tp (ss.map V.str)
 |[],_,_,_,_,_,wd=>.inl ⟨rfl,rfl⟩
 |x::r,[],_,h,_,_,wd=>by simp at h
 |x::r,ss::sss,[],_,h,_,wd=>by simp at h
 |x::r,ss::sss,v::vs,h1,h2,h3,wd=>by
  show(List.lookup wd ((x,ss)::r.zip sss)=none/\(if decide (wd=x)=true then some v else KTD.datumAt wd (r.zip vs))=none)\/∃ss' tp,List.lookup wd ((x,ss)::r.zip sss)=some ss'/\(if decide (wd=x)=true then some v else KTD.datumAt wd (r.zip vs))=some (.ref tp)/\_
  by_cases z:wd=x
  ·subst z
   rw[if_pos (decide_eq_true rfl)]
   obtain⟨tp,rfl,ht⟩:=h3 0 ss v rfl rfl
   exact .inr ⟨ss,tp,by simp,rfl,ht⟩
  ·rw[if_neg (by simp[z]),List.lookup_cons,beq_eq_false_iff_ne.mpr z]
   exact gQ (by simpa using h1) (by simpa using h2) (fun i ss' v' e1 e2=>h3 (i+1) ss' v' (by simpa using e1) (by simpa using e2)) wd
open Dt
section
variable {K:Fg} {H H':Hp}
theorem vW{ds:List Dt}{v:V}(h:qY K H (.tup ds) v):∃a vs,v= .ref a/\zB K H a vs/\qO K H ds vs:=by rw[qY]at h;exact h
theorem jE{x:Str}{v:V}(h:qY K H (.str x) v):v= .str x:=by rw[qY]at h;exact h
theorem kC{x:Int}{v:V}(h:qY K H (.int x) v):v= .int x:=by rw[qY]at h;exact h
theorem tN{x:Bool}{v:V}(h:qY K H (.bl x) v):v= .bl x:=by rw[qY]at h;exact h
theorem wD(x:Str):qY K H (.str x) (.str x):=by rw[qY]
theorem zA{vs:List V}(h:qO K H [] vs):vs=[]:=by rw[qO]at h;exact h
theorem qR{d:Dt}{ds:List Dt}{vs:List V}(h:qO K H (d::ds) vs):∃v r,vs=v::r/\qY K H d v/\qO K H ds r:=by rw[qO]at h;exact h
theorem qA:qO K H [] []:=by rw[qO]
theorem qG{d:Dt}{ds:List Dt}{v:V}{vs:List V}(h:qY K H d v)(g:qO K H ds vs):qO K H (d::ds) (v::vs):=by rw[qO];exact⟨v,vs,rfl,h,g⟩
theorem wX{ds:List Dt}{a:Addr}{vs:List V}(h:zB K H a vs)(g:qO K H ds vs):qY K H (.tup ds) (.ref a):=by rw[qY];exact⟨a,vs,rfl,h,g⟩
theorem xF{x:Str}{d:Dt}{v:V}(h:qY K H (.tup [.str x,d]) v):∃a u,v= .ref a/\zB K H a [.str x,u]/\qY K H d u:=by
 obtain⟨a,vs,rfl,hs,h⟩:=vW h
 obtain⟨v0,r,rfl,h0,h⟩:=qR h
 obtain⟨v1,r,rfl,h1,h⟩:=qR h
 cases zA h;cases jE h0
 exact⟨a,v1,rfl,hs,h1⟩
theorem dH{x:Str}{d e:Dt}{v:V}(h:qY K H (.tup [.str x,d,e]) v):∃a u w,v= .ref a/\zB K H a [.str x,u,w]/\qY K H d u/\qY K H e w:=by
 obtain⟨a,vs,rfl,hs,h⟩:=vW h
 obtain⟨v0,r,rfl,h0,h⟩:=qR h
 obtain⟨v1,r,rfl,h1,h⟩:=qR h
 obtain⟨v2,r,rfl,h2,h⟩:=qR h
 cases zA h;cases jE h0
 exact⟨a,v1,v2,rfl,hs,h1,h2⟩
theorem wF{x:Str}{d e f:Dt}{v:V}(h:qY K H (.tup [.str x,d,e,f]) v):∃a u w y,v= .ref a/\zB K H a [.str x,u,w,y]/\qY K H d u/\qY K H e w/\qY K H f y:=by
 obtain⟨a,vs,rfl,hs,h⟩:=vW h
 obtain⟨v0,r,rfl,h0,h⟩:=qR h
 obtain⟨v1,r,rfl,h1,h⟩:=qR h
 obtain⟨v2,r,rfl,h2,h⟩:=qR h
 obtain⟨v3,r,rfl,h3,h⟩:=qR h
 cases zA h;cases jE h0
 exact⟨a,v1,v2,v3,rfl,hs,h1,h2,h3⟩
theorem tF{x:Str}{d e f g i:Dt}{v:V}(h:qY K H (.tup [.str x,d,e,f,g,i]) v):∃a u w y z t,v= .ref a/\zB K H a [.str x,u,w,y,z,t]/\qY K H d u/\qY K H e w/\qY K H f y/\qY K H g z/\qY K H i t:=by
 obtain⟨a,vs,rfl,hs,h⟩:=vW h
 obtain⟨v0,r,rfl,h0,h⟩:=qR h
 obtain⟨v1,r,rfl,h1,h⟩:=qR h
 obtain⟨v2,r,rfl,h2,h⟩:=qR h
 obtain⟨v3,r,rfl,h3,h⟩:=qR h
 obtain⟨v4,r,rfl,h4,h⟩:=qR h
 obtain⟨v5,r,rfl,h5,h⟩:=qR h
 cases zA h;cases jE h0
 exact⟨a,v1,v2,v3,v4,v5,rfl,hs,h1,h2,h3,h4,h5⟩
theorem wH{x:Str}{d:Dt}{a:Addr}{u:V}(hs:zB K H a [.str x,u])(h1:qY K H d u):qY K H (.tup [.str x,d]) (.ref a):=wX hs (qG (wD x) (qG h1 qA))
theorem tH{x:Str}{d e:Dt}{a:Addr}{u w:V}(hs:zB K H a [.str x,u,w])(h1:qY K H d u)(h2:qY K H e w):qY K H (.tup [.str x,d,e]) (.ref a):=wX hs (qG (wD x) (qG h1 (qG h2 qA)))
theorem zQj{x:Str}{d e f:Dt}{a:Addr}{u w y:V}(hs:zB K H a [.str x,u,w,y])(h1:qY K H d u)(h2:qY K H e w)(h3:qY K H f y):qY K H (.tup [.str x,d,e,f]) (.ref a):=wX hs (qG (wD x) (qG h1 (qG h2 (qG h3 qA))))
def jW(K:Fg)(H H':Hp):Prop:=∀a xs,zB K H a xs->zB K H' a xs
mutual
theorem qY.monoT(e:jW K H H'):∀{d:Dt}{v:V},qY K H d v->qY K H' d v
 | .non,v,h=>by rw[qY]at h⊢;exact h
 | .bl _,v,h=>by rw[qY]at h⊢;exact h
 | .int _,v,h=>by rw[qY]at h⊢;exact h
 | .str _,v,h=>by rw[qY]at h⊢;exact h
 | .tup ds,v,h=>by
  rw[qY]at h⊢
  obtain⟨a,vs,e1,h1,h2⟩:=h
  exact⟨a,vs,e1,e a vs h1,qO.monoT e h2⟩
theorem qO.monoT(e:jW K H H'):∀{ds:List Dt}{vs:List V},qO K H ds vs->qO K H' ds vs
 |[],vs,h=>by rw[qO]at h⊢;exact h
 |d::ds,vs,h=>by
  rw[qO]at h⊢
  obtain⟨v,r,e1,h1,h2⟩:=h
  exact⟨v,r,e1,qY.monoT e h1,qO.monoT e h2⟩
end
end
structure jM(a:Addr)(H H':Hp):Prop where
 keep:∀b o,b≠a->H b=some o->H' b=some o
 none:∀b,H' b=Option.none->H b=Option.none
theorem jM.refl(a:Addr)(H:Hp):jM a H H:=⟨fun _ _ _ e=>e,fun _ e=>e⟩
theorem jM.trans{a:Addr}{H H1 H2:Hp}(x:jM a H H1)(y:jM a H1 H2):jM a H H2:=⟨fun b o hb e=>y.keep b o hb (x.keep b o hb e),fun b e=>x.none b (y.none b e)⟩
theorem Grow.b{a:Addr}{H H':Hp}(g:Grow H H'):jM a H H':=⟨fun b o _ e=>g.same b o e,g.none⟩
theorem jM.set{a:Addr}{H H':Hp}{o:HO}(g:jM a H H'){u:HO}(hu:H a=some u):jM a H (upd H' a o):=
 ⟨fun b p hb e=>(qL hb).trans (g.keep b p hb e),fun b e=>by
  by_cases z:b=a
  ·subst z;rw[qJ]at e;cases e
  ·rw[qL z]at e;exact g.none b e⟩
theorem jM.tups{K:Fg}{a:Addr}{H H':Hp}{ps:List V}(g:jM a H H')(h:H a=some (.lst ps)):jW K H H':=fun b xs hb=>by
 rcases hb with(hb|⟨o,hb⟩)|hb
 ·exact .inl (.inl (g.keep b _ (xO hb h (by intro z;cases z)) hb))
 ·exact .inl (.inr ⟨o,g.keep b _ (xO hb h (by intro z;cases z)) hb⟩)
 ·exact .inr hb
theorem jM.of_new{a:Addr}{H H1 H2:Hp}(g:Grow H H1)(x:jM a H1 H2)(h:H a=Option.none):Grow H H2:=⟨fun b o e=>x.keep b o (qH e h) (g.same b o e),fun b e=>g.none b (x.none b e)⟩
end L2
namespace K23
open PySem L2 PyProof Dt
def top(i:Nat):Stmt:=PySem.Challenge.pw_plainspeak_k23_texts_that_are_too_long.main.body.getD i (.Pass ⟨0,0,0,0⟩)
abbrev sVB:Stmt:=top 27
abbrev sWN:Stmt:=top 74
abbrev sLU:Stmt:=top 75
abbrev sNB:Stmt:=top 76
abbrev zY6:Stmt:=top 81
abbrev sRW:Stmt:=top 82
abbrev zZ0:Stmt:=top 83
abbrev zZ1:Stmt:=top 84
abbrev zZ2:Stmt:=top 85
abbrev qU2:Stmt:=top 86
abbrev qU3:Stmt:=top 87
abbrev tP:Stmt:=top 88
abbrev sIf:Stmt:=top 89
abbrev zZ3:Stmt:=top 90
def SL:List (Str×List Str):=[("nil",["kind"]),("cons",["part","part"]),("head",["part"]),("tail",["part"]),("empty",["part"]),("pair",["part","part"]),("first",["part"]),("second",["part"]),("if",["part","part","part"]),("let",["name","part","part"]),("fn",["name","kind","part"]),
 ("rec",["name","name","kind","kind","part"]),("call",["part","part"]),("plus",["part","part"]),("minus",["part","part"]),("times",["part","part"]),("over",["part","part"]),("rest",["part","part"]),("less",["part","part"]),("same",["part","part"]),("and",["part","part"]),("or",["part","part"]),("not",["part"])]
def zI(wd:Str):List Str:=(SL.lookup wd).getD []
structure GlV(K:Fg)(mg:Str->Option Value):Prop where
 zip:mg "zip"=none
 tab:∃a D,mg "PART_SLOTS"=some (.ref a)/\oE K a D/\∀wd,(zI wd=[]/\aq28 wd D=none)\/∃tp,aq28 wd D=some (.ref tp)/\∀H,zB K H tp ((zI wd).map V.str)
section
variable {P:Program} {w:World} {K:Fg} {mg:Str->Option Value} {base:Heap}
inductive zZ4(K:Fg)(vs:List V)(H:Hp)(Q:VK):Prop
 |mk (pt:Addr) (srt:Str) (wd:Str) (xs:List V) (a_0:vs=[.ref pt,.str srt]) (a_1:zB K H pt (.str wd::xs)) (a_2:xs.length<=1000) (a_3:∀l H',Grow H H'->H l=none->H' l=some (.lst (behind (zI wd) xs srt))->Q (.ref l) H'):zZ4 K vs H Q
def dP(K:Fg):Sp:=fun vs H Q x_0=>zZ4 K vs H Q
theorem zD5:qC ["part","sort","slots"] ["part","sort"] (qU sVB):=by walk_at "s"
theorem zD6{f:Addr}{fd:FuncData}(F:zK K "values_behind" "values_behind" sVB .none f fd)(G:GlV K mg):zQ P w K mg base (CXE P w) 1 f fd ["part","sort"] (dP K):=by
 refine F.ok0 zD5 (by walk_at "l") ?_
 walk_at "i"
 obtain⟨pt,srt,wd,xs,rfl,hp,hx,q⟩:=h
 obtain⟨ta,D,mT,T,hT⟩:=G.tab
 have ndb:((["slot","value"]:List Str)++(["sort"]:List Str)).Nodup:=by decide+kernel
 refine⟨_,qX (qF (i:=2) zD5.nd rfl oI (qHj (zM (v:=.ref ta) (by rfl) mT rfl) (qQ (qM qP (pv 0) qV) (qQ (zW qZ) qZ))))
  (qK (qB (zY3 (tM (own:=["slot","value"]) (i:=1) (by rfl) (by decide+kernel) (by rfl) (by decide+kernel) (by rfl) (by decide+kernel) (by rfl) (.inl (by rfl)) (by rfl) (by decide+kernel)) rfl
   (zY0 (by rfl) G.zip (qQ (pv 2) (qQ (iR qV4 (pv 0) (mW qV) mX) qZ)))
   (fun C s H fp pins=>pv 1) (fun C s H fp pins=>zY4 K rfl rfl ndb rfl rfl oI oI (by rfl) (by rfl))
   (fun C s H fp pins=>zZ jS (pv 0) (pv 2) (nomark _))))),?_⟩
 walk_at "e"
 refine⟨ta,D,rfl,T,_,rfl,pt,_,_,.str wd,rfl,rfl,hp,qW (j:=0) rfl,zl0,fun t0 ht0=>?_⟩
 have g0:Grow H (upd H t0 (.tup [])):=Grow.put ht0
 refine⟨wd,.ref t0,rfl,?_⟩
 obtain⟨tp,e1,s1⟩:∃tp,(aq28 wd D).getD (.ref t0)= .ref tp/\zB K (upd H t0 (.tup [])) tp ((zI wd).map V.str):=by
  rcases hT wd with⟨z1,z2⟩|⟨tp,z1,z2⟩
  ·exact⟨t0,by rw[z2];rfl,by rw[z1];exact zB.of qJ⟩
  ·exact⟨tp,by rw[z1];rfl,z2 _⟩
 walk_at "d"
 rw[e1]
 generalize upd H t0 (.tup [])=H1 at g0 s1⊢
 have hp1:=zB.mono g0.same hp
 refine⟨_,rfl,_,rfl,_,rfl,pt,_,rfl,hp1,qYz _ _,fun t1 ht1=>?_⟩
 rw[cut1]
 have g1:Grow H1 (upd H1 t1 (.tup xs)):=Grow.put ht1
 have s2:=zB.mono g1.same s1
 have s3:zB K (upd H1 t1 (.tup xs)) t1 xs:=zB.of qJ
 generalize upd H1 t1 (.tup xs)=H2 at g1 s2 s3⊢
 refine⟨tp,t1,_,_,rfl,s2,s3,fun D0 hD0=>?_⟩
 exact zY2 (i0:=1) (t:=srt) (R:=fun H'=>Q (.ref D0) H') rfl s2 s3 hx hD0 fun H' g e=>q D0 H' ((g0.trans g1).trans g) ((g0.trans g1).none _ hD0) e
def oP:Sp:=fun vs H Q _=>vs=[.bl true]/\Q .non H
theorem zD7:qC ["holds"] ["holds"] (qU zY6):=by walk_at "s"
theorem zY7{f:Addr}{fd:FuncData}(F:zK K "require" "require" zY6 .none f fd):zQ P w K mg base (CXE P w) 1 f fd ["holds"] oP:=by
 refine F.ok0 zD7 (by walk_at "l") ?_
 walk_at "i"
 obtain⟨rfl,q⟩:=h
 refine⟨_,qK (zH (iC (xI (pv 0))) uF zX),?_⟩
 walk_at "e"
 exact⟨_,rfl,true,rfl,jJ q⟩
inductive zZ5(K:Fg)(vs:List V)(H:Hp)(Q:VK):Prop
 |mk (pt:Addr) (wd:Str) (xs:List V) (a_0:vs=[.ref pt]) (a_1:zB K H pt (.str wd::xs)) (a_2:xs.length<=1000) (a_3:∀l H',Grow H H'->H l=none->H' l=some (.lst (behind (zI wd) xs "name"))->Q (.ref l) H'):zZ5 K vs H Q
def qU4(K:Fg):Sp:=fun vs H Q x_0=>zZ5 K vs H Q
theorem zE0:qC ["part"] ["part"] (qU sNB):=by walk_at "s"
theorem zD8{f fV:Addr}{fd fdV:FuncData}(F:zK K "names_bound" "names_bound" sNB .none f fd)(GV:zQ P w K mg base (CXE P w) 1 fV fdV ["part","sort"] (dP K))(mV:mg "values_behind"=some (.ref fV))(kV:PySem.W.keepIn K (.ref fV)=true)(bV:Binds K fdV ["part","sort"] []):
  zQ P w K mg base (CXE P w) 2 f fd ["part"] (qU4 K):=by
 refine F.ok0 zE0 (by walk_at "l") ?_
 walk_at "i"
 obtain⟨pt,wd,xs,rfl,hp,hx,q⟩:=h
 refine⟨_,qK (qB (vY GV hr (by rfl) mV kV bV .nil zD (qQ (pv 0) (qQ qI qZ)))),?_⟩
 walk_at "e"
 exact⟨_,rfl,pt,"name",wd,xs,rfl,hp,hx,q⟩
inductive zZ6(vs:List V)(H:Hp)(Q:VK):Prop
 |mk (sc:Addr) (x:Str) (u:V) (kvs:List (Key×V)) (a_0:vs=[.ref sc,.str x,u]) (a_1:H sc=some (.dK kvs)) (a_2:kvs.length<=1000000) (a_3:∀d H',Grow H H'->H' d=some (.dK (vK kvs (Sum.inr x) u))->Q (.ref d) H'):zZ6 vs H Q
def rQ:Sp:=fun vs H Q x_0=>zZ6 vs H Q
theorem zD9:qC ["scope","name","bound","inner"] ["scope","name","bound"] (qU sWN):=by walk_at "s"
theorem zDq{f:Addr}{fd:FuncData}(F:zK K "with_name" "with_name" sWN .none f fd)(zd:mg "dict"=none):zQ P w K mg base (CXE P w) 1 f fd ["scope","name","bound"] rQ:=by
 refine F.ok0 zD9 (by walk_at "l") ?_
 walk_at "i"
 obtain⟨sc,x,u,kvs,rfl,hs,hl,q⟩:=h
 have hu:A.units+0<=A.units:=aq7 _
 refine⟨_,qX (qF (i:=3) zD9.nd rfl oI (jB pT (by rfl) zd PyProof.Rows.boot_dict (qQ (pv 0) qZ)))
  (qX (iW (Nat.lt_of_succ_lt hr.u2) (pv 3) (pv 1) (pv 2) rfl) (qK (qB (pv 3)))),?_⟩
 walk_at "e"
 refine⟨_,rfl,sc,kvs,rfl,hs,fun d hd=>?_⟩
 walk_at "d"
 have g1:Grow H (upd H d (.dK kvs)):=Grow.put hd
 refine⟨_,rfl,_,rfl,_,rfl,d,_,rfl,DPut.k (k:=Sum.inr x) qJ (by rw[sizeLine_eq];omega),?_⟩
 refine⟨_,rfl,q d _ ?_ qJ⟩
 rw[sM]
 exact Grow.put hd
inductive zZ7(vs:List V)(H:Hp)(Q:VK):Prop
 |mk (sc:Addr) (x:Str) (u:V) (kvs:List (Key×V)) (a_0:vs=[.ref sc,.str x]) (a_1:H sc=some (.dK kvs)) (a_2:xT kvs (Sum.inr x)=some u) (a_3:Q u H):zZ7 vs H Q
def rZ:Sp:=fun vs H Q x_0=>zZ7 vs H Q
theorem zE1:qC ["scope","name"] ["scope","name"] (qU sLU):=by walk_at "s"
theorem zDz{f:Addr}{fd:FuncData}(F:zK K "looked_up" "looked_up" sLU .none f fd):zQ P w K mg base (CXE P w) 1 f fd ["scope","name"] rZ:=by
 refine F.ok0 zE1 (by walk_at "l") ?_
 walk_at "i"
 obtain⟨sc,x,u,kvs,rfl,hs,hv,q⟩:=h
 refine⟨_,qX (zH (qK1 (lT (Nat.lt_of_succ_lt hr.u2) (pv 1) (pv 0))) uF zX) (qK (qB (tU (Nat.lt_of_succ_lt hr.u2) (pv 0) (pv 1) (fun _ _=>rfl)))),?_⟩
 walk_at "e"
 refine⟨_,rfl,_,rfl,sc,_,rfl,DGet.k (k:=Sum.inr x) hs,_,rfl,?_⟩
 rw[hv]
 refine jJ ⟨_,rfl,_,rfl,sc,u,rfl,?_,q⟩
 have :=DGet.k (k:=Sum.inr x) hs
 rw[hv]at this
 exact this
inductive zZ8(K:Fg)(vs:List V)(H:Hp)(Q:VK):Prop
 |mk (v:V) (wd:Str) (ds:List Dt) (a_0:vs=[v,.str wd]) (a_1:qY K H (.tup (.str wd::ds)) v) (a_2:Q .non H):zZ8 K vs H Q
def rJ(K:Fg):Sp:=fun vs H Q x_0=>zZ8 K vs H Q
theorem qU5(K:Fg):PySem.W.kitOne K (.type "tuple") (.type "tuple")=some true:=by
 unfold PySem.W.kitOne
 rw[if_pos (by decide)]
theorem zE2:qC ["kind","word"] ["kind","word"] (qU sRW):=by walk_at "s"
structure GlI(mg:Str->Option Value):Prop where
 isi:mg "isinstance"=none
 tuple:mg "tuple"=none
variable {fR fW:Addr} {fdR fdW:FuncData}
theorem zDj{f:Addr}{fd:FuncData}(F:zK K "require_word" "require_word" sRW .none f fd)(G:GlI mg)(GR:zQ P w K mg base (CXE P w) 1 fR fdR ["holds"] oP)(mR:mg "require"=some (.ref fR))(kR:PySem.W.keepIn K (.ref fR)=true)(bR:Binds K fdR ["holds"] []):zQ P w K mg base (CXE P w) 2 f fd ["kind","word"] (rJ K):=by
 refine F.ok0 zE2 (by walk_at "l") ?_
 walk_at "i"
 obtain⟨v,wd,ds,rfl,hv,q⟩:=h
 refine⟨_,qK (zJ (vY GR hr (by rfl) mR kR bR .nil zD (qQ (iG (zV cX (by rfl) G.isi aq26 (qQ (pv 0) (qQ (iQ (v:=.ty "tuple") (by rfl) G.tuple PyProof.Rows.boot_tuple rfl) qZ)))
  (iL (jI jS (qM qP (pv 0) qV) (pv 1) (nomark _)))) qZ))),?_⟩
 walk_at "e"
 obtain⟨a,vs,rfl,hs,hd⟩:=vW hv
 obtain⟨v0,r,rfl,h0,_⟩:=qR hd
 cases jE h0
 refine⟨_,rfl,.tup (.str wd::ds),_,"tuple",true,rfl,hv,qU5 K,true,rfl,jC ?_⟩
 refine⟨_,rfl,a,_,_,.str wd,rfl,rfl,hs,qW (j:=0) rfl,_,rfl,rfl,?_⟩
 rw[decide_eq_true (rfl:V.str wd=V.str wd)]
 exact⟨rfl,q⟩
end
end K23
namespace L2
open PySem PySem.Spec PyProof.Rows PyProof Dt
def Kn(P:Program)(w:World)(K:Fg)(mg:Str->Option Value)(base:Heap)(k:Nat)(x:Str)(ps:List Str)(sp:Sp):Prop:=
 ∃f fd,zQ P w K mg base (CXE P w) k f fd ps sp/\mg x=some (.ref f)/\PySem.W.keepIn K (.ref f)=true/\Binds K fd ps []
section
variable {X:Cx} {k:Nat} {ps:List Str} {sp:Sp} {x:Str} {p pos:Pos} {e:Expr} {es:List Expr} {t:TA}
theorem zO(G:Kn X.prog X.w X.K X.mg X.base k x ps sp)(hr:Room k X.A)(ha:PA X (e::es) t)(hg:Gl X x:=by rfl)
  (hdb:(x==("__debug__":Str))=false:=by decide)(he:starEach (e::es) X.env=(false,eval e X.env)::starEach es X.env:=by rfl)(hpl:(backTo pos (starEach es X.env)).any (·.1)=false:=by rfl):
  PE X (.Call (.Name x p) (e::es) [] pos) (kS sp [] E0 t):=by
 obtain⟨f,fd,F,m,kp,b⟩:=G
 exact vY F hr hg m kp b .nil zD ha hdb he hpl
theorem qZq:MtR X "list.index" (fun x xs H Q=>∃(p:Addr)(ys:List V)(xv:V)(d:Dt)(ds:List Dt),x= .ref p/\xs=[xv]/\zS X.K H p ys/\qY X.K H d xv/\qO X.K H ds ys/\X.A.units+1+deps ds<cLine/\qHz d ds=true/\
  ∀(j:Nat)(e:Dt),ds[j]? =some e->eqD e d=true->Q (.int j) H):=by
 intro pins s σ H x xs v us Q I rx rs h
 obtain⟨p,ys,xv,d,ds,rfl,rfl,hq,hd,hds,hu,hin,q⟩:=h
 cases rx
 obtain⟨u,rfl,e⟩:=vals1 rs
 obtain⟨its,rv,⟨⟨cls,dd,data,sl⟩,n,ho,hc,hdd,hdata⟩,hz⟩:=I.list hq
 simp only at hc hdd hdata
 subst hc hdd hdata
 obtain⟨f,hf,hm⟩:=qY5 I X.A.in1 d xv u hd e hds rv (by show X.A.units+1+deps ds<cLine;exact hu)
 have hl:its.length=ds.length:=by rw[<-rv.length,hds.length]
 have hany:its.any f=true:=by
  rw[uK,hm,<-uK]
  exact hin
 have hj:its.findIdx f<its.length:=List.findIdx_lt_length_of_exists (by simpa using hany)
 have hit:f its[its.findIdx f]=true:=List.findIdx_getElem
 have hno:∀m(hm:m<its.length),m<its.findIdx f->f its[m]=false:=fun m _ h=>by
  have :=List.not_of_lt_findIdx h
  simpa using this
 refine call_meets PySem.F.slot_list_index ⟨_,ho,rfl⟩ PySem.F.entry_list_index (PySem.F.args_list_index_2 _ _) (SeqAt.list_indexAt p its.toArray n none sl u f (its.findIdx f) (by simpa using hj) ?_ (by simpa using hit) (fun m hm h=>by simpa using hno m (by simpa using hm) h)) ⟨ho,fun y hy=>hf y (by simpa using hy),?_⟩
 ·have :=rv.length
  have :its.length<=sizeLine:=by omega
  rw[sizeLine_eq]at this
  omega
 ·refine⟨.int _,H,I.tok _,⟨_,rfl⟩,?_⟩
  have hj':its.findIdx f<ds.length:=by omega
  refine q _ _ (aq15 hj') ?_
  have :=congrArg (fun l=>l[its.findIdx f]?) hm
  simp only[aq19,aq15 hj,aq15 hj',Option.map_some]at this
  rw[<-Option.some.inj this]
  exact hit
end
theorem cK{K:Fg}{a:Addr}{xs:List V}{te:TE}{ix:List Nat}{σ:St}{H:Hp}{D:Addr}{R:Hp->Prop}(Pv:Nat->List V->Hp->Prop)(h0:Pv 0 [] (upd H D (.lst [])))(hx:∀i ys H',i<=xs.length->Pv i ys H'->zS K H' a xs)
  (he:∀i x ys H',xs[i]? =some x->Pv i ys H'->∀Q':VK,(∀y H6,H6 D=some (.lst ys)->ys.length<sizeLine->Pv (i+1) (ys++[y]) (upd H6 D (.lst (ys++[y])))->Q' y H6)->te (kJ ix [some x] σ) H' Q')(q:∀ys H',Pv xs.length ys H'->R H'):
  ∃W:Nat->Nat->List V->Hp->Prop,(∃m,W 0 m [] (upd H D (.lst [])))/\∀i m ys H2,W i m ys H2->
   ((Itl K a).stop i H2/\R H2)\/((Itl K a).go i H2/\∀(o:List (Option V))v H3,o.length=1->(Itl K a).yld i H2 v H3->kO 0 v (kJ ix o σ) H3 fun σ2 H4=>(∃o':List (Option V),σ2=kJ ix o' σ/\o'.length=1)/\
    ifT none σ2 H4 fun b H5=>if b=true then te σ2 H5 fun y H6=>H6 D=some (.lst ys)/\ys.length<sizeLine/\∃m',m'<m/\W (i+1) m' (ys++[y]) (upd H6 D (.lst (ys++[y])))else∃m',m'<m/\W (i+1) m' ys H5):=by
 refine⟨fun i m ys H2=>i<=xs.length/\m=xs.length-i/\Pv i ys H2,⟨_,Nat.zero_le _,rfl,h0⟩,?_⟩
 rintro i m ys H2 ⟨hi,rfl,p⟩
 have hx2:=hx i ys H2 hi p
 by_cases hl:i<xs.length
 ·refine .inr ⟨⟨xs,xs[i],hx2,aq15 hl⟩,fun o v H3 ho hy=>?_⟩
  obtain⟨rfl,hv⟩:=hy
  have hv':=hv xs hx2
  match o,ho with
  |[_],_=>
   refine⟨⟨[some v],rfl,rfl⟩,?_⟩
   dsimp only[ifT]
   exact jC (he i v ys _ hv' p _ fun y H6 e1 e2 p'=>⟨e1,e2,xs.length-(i+1),by omega,hl,rfl,p'⟩)
 ·have e:i=xs.length:=by omega
  subst e
  exact .inl ⟨⟨xs,hx2,aq7 _⟩,q _ _ p⟩
end L2
namespace K23
open PySem L2 PyProof Dt
abbrev sPK:Stmt:=top 96
section
variable {P:Program} {w:World} {K:Fg} {mg:Str->Option Value} {base:Heap} {f:Addr} {fd:FuncData}
theorem cV{k n:Nat}{A:Around}(r:Room k A)(h:n<=150):A.units+1+n<cLine:=by have :=r.un;omega
theorem xH{k n:Nat}{A:Around}(r:Room k A)(h:n<=150):A.units+n<cLine:=by have :=r.un;omega
theorem oV(k:Kd)(h:k.sz<=40):dep k.dt<=40:=by rw[Kd.dep_dt];have :=Kd.deep_sz k;omega
theorem nQ:∀ks:List Kd,(∀k∈ks,k.sz<=40)->deps (ks.map Kd.dt)<=40
 |[],_=>by simp[deps]
 |k::ks,h=>by
  have h1:=oV k (h k aq22)
  have h2:=nQ ks fun l hl=>h l (aq10 _ hl)
  rw[List.map_cons,deps];omega
inductive zZ9(K:Fg)(R:List Kd->Kd->Prop)(vs:List V)(H:Hp)(Q:VK):Prop
 |mk (ks:Addr) (ws:List V) (ds:List Kd) (m:Kd) (a_0:vs=[.ref ks]) (a_1:zS K H ks ws) (a_2:qO K H (ds.map Kd.dt) ws) (a_3:(∀d∈ds,d.sz<=40)) (a_4:R ds m) (a_5:∀v H',Grow H H'->qY K H' m.dt v->Q v H'):zZ9 K R vs H Q
def nZ(K:Fg)(R:List Kd->Kd->Prop):Sp:=fun vs H Q x_0=>zZ9 K R vs H Q
def qU6:List Kd->Kd->Prop:=fun ds m=>∃k,ds=[k,.list k]/\m= .list k
def qU7:List Kd->Kd->Prop:=fun ds m=>ds=[.list m]
def qU8:List Kd->Kd->Prop:=fun ds m=>∃k,ds=[.list k]/\m= .list k
def rX:List Kd->Kd->Prop:=fun ds m=>∃k,ds=[.list k]/\m= .bool
def rK:List Kd->Kd->Prop:=fun ds m=>∃l,ds=[.pair m l]
def nJ:List Kd->Kd->Prop:=fun ds m=>∃k,ds=[.pair k m]
def rIf:List Kd->Kd->Prop:=fun ds m=>ds=[.bool,m,m]
def qU9:List Kd->Kd->Prop:=fun ds m=>∃k,ds=[.fn k m,k]
theorem qP2{k:Kd}{H:Hp}{v:V}(h:qY K H (Kd.list k).dt v):∃a u,v= .ref a/\zB K H a [.str "list",u]/\qY K H k.dt u:=xF h
theorem tR{k l:Kd}{H:Hp}{v:V}(h:qY K H (Kd.pair k l).dt v):∃a u w,v= .ref a/\zB K H a [.str "pair",u,w]/\qY K H k.dt u/\qY K H l.dt w:=dH h
theorem zF0{k l:Kd}{H:Hp}{v:V}(h:qY K H (Kd.fn k l).dt v):∃a u w,v= .ref a/\zB K H a [.str "fun",u,w]/\qY K H k.dt u/\qY K H l.dt w:=dH h
theorem dR(i:Nat)(h:i=83\/i=84\/i=85\/i=86\/i=87\/i=88\/i=89\/i=90):qC ["kinds"] ["kinds"] (qU (top i)):=by
 rcases h with rfl|rfl|rfl|rfl|rfl|rfl|rfl|rfl<;>exact⟨rfl,rfl,rfl,by decide+kernel,rfl,by decide+kernel,by decide+kernel⟩
theorem qP3(F:zK K "head_kind" "head_kind" zZ1 .none f fd)(GW:Kn P w K mg base 2 "require_word" ["kind","word"] (rJ K)):zQ P w K mg base (CXE P w) 3 f fd ["kinds"] (nZ K qU7):=by
 refine F.ok0 (dR 84 (by decide)) (fun vs H Q E h=>?_) (fun cdv A outer s H vs Q E hr h=>?_)
 ·obtain⟨ks,ws,ds,m,rfl,_⟩:=h
  rfl
 ·obtain⟨ks,ws,ds,m,rfl,hs,hd,hz,rfl,q⟩:=h
  obtain⟨u,r,rfl,hu,hr0⟩:=qR hd
  cases zA hr0
  refine⟨_,qX (zJ (zO GW hr (qQ (qM zY (pv 0) qV) (qQ qI qZ)))) (qK (qB (qM qP (qM zY (pv 0) qV) qV))),?_⟩
  walk_at "e"
  obtain⟨a,y,rfl,ha,hy⟩:=qP2 hu
  refine⟨_,rfl,ks,_,_,_,rfl,rfl,hs,qW (j:=0) rfl,_,_,_,rfl,hu,?_⟩
  exact⟨_,rfl,ks,_,_,_,rfl,rfl,hs,qW (j:=0) rfl,a,_,_,y,rfl,rfl,ha,qW (j:=1) rfl,q y H (Grow.refl H) hy⟩
theorem qP4(F:zK K "tail_kind" "tail_kind" zZ2 .none f fd)(GW:Kn P w K mg base 2 "require_word" ["kind","word"] (rJ K)):zQ P w K mg base (CXE P w) 3 f fd ["kinds"] (nZ K qU8):=by
 refine F.ok0 (dR 85 (by decide)) (fun vs H Q E h=>?_) (fun cdv A outer s H vs Q E hr h=>?_)
 ·obtain⟨ks,ws,ds,m,rfl,_⟩:=h
  rfl
 ·obtain⟨ks,ws,ds,m,rfl,hs,hd,hz,⟨k,rfl,rfl⟩,q⟩:=h
  obtain⟨u,r,rfl,hu,hr0⟩:=qR hd
  cases zA hr0
  refine⟨_,qX (zJ (zO GW hr (qQ (qM zY (pv 0) qV) (qQ qI qZ)))) (qK (qB (qM zY (pv 0) qV))),?_⟩
  walk_at "e"
  refine⟨_,rfl,ks,_,_,_,rfl,rfl,hs,qW (j:=0) rfl,_,_,_,rfl,hu,?_⟩
  exact⟨_,rfl,ks,_,_,_,rfl,rfl,hs,qW (j:=0) rfl,q _ H (Grow.refl H) hu⟩
theorem qUq(F:zK K "empty_kind" "empty_kind" qU2 .none f fd)(GW:Kn P w K mg base 2 "require_word" ["kind","word"] (rJ K)):zQ P w K mg base (CXE P w) 3 f fd ["kinds"] (nZ K rX):=by
 refine F.ok0 (dR 86 (by decide)) (fun vs H Q E h=>?_) (fun cdv A outer s H vs Q E hr h=>?_)
 ·obtain⟨ks,ws,ds,m,rfl,_⟩:=h
  rfl
 ·obtain⟨ks,ws,ds,m,rfl,hs,hd,hz,⟨k,rfl,rfl⟩,q⟩:=h
  obtain⟨u,r,rfl,hu,hr0⟩:=qR hd
  cases zA hr0
  refine⟨_,qX (zJ (zO GW hr (qQ (qM zY (pv 0) qV) (qQ qI qZ)))) (qK (qB qI)),?_⟩
  walk_at "e"
  refine⟨_,rfl,ks,_,_,_,rfl,rfl,hs,qW (j:=0) rfl,_,_,_,rfl,hu,?_⟩
  exact q _ H (Grow.refl H) (wD _)
theorem qUz(F:zK K "first_kind" "first_kind" qU3 .none f fd)(GW:Kn P w K mg base 2 "require_word" ["kind","word"] (rJ K)):zQ P w K mg base (CXE P w) 3 f fd ["kinds"] (nZ K rK):=by
 refine F.ok0 (dR 87 (by decide)) (fun vs H Q E h=>?_) (fun cdv A outer s H vs Q E hr h=>?_)
 ·obtain⟨ks,ws,ds,m,rfl,_⟩:=h
  rfl
 ·obtain⟨ks,ws,ds,m,rfl,hs,hd,hz,⟨k,rfl⟩,q⟩:=h
  obtain⟨u,r,rfl,hu,hr0⟩:=qR hd
  cases zA hr0
  refine⟨_,qX (zJ (zO GW hr (qQ (qM zY (pv 0) qV) (qQ qI qZ)))) (qK (qB (qM qP (qM zY (pv 0) qV) qV))),?_⟩
  walk_at "e"
  obtain⟨a,y,z,rfl,ha,hy,hz'⟩:=tR hu
  refine⟨_,rfl,ks,_,_,_,rfl,rfl,hs,qW (j:=0) rfl,_,_,_,rfl,hu,?_⟩
  exact⟨_,rfl,ks,_,_,_,rfl,rfl,hs,qW (j:=0) rfl,a,_,_,y,rfl,rfl,ha,qW (j:=1) rfl,q y H (Grow.refl H) hy⟩
theorem qZz(F:zK K "second_kind" "second_kind" tP .none f fd)(GW:Kn P w K mg base 2 "require_word" ["kind","word"] (rJ K)):zQ P w K mg base (CXE P w) 3 f fd ["kinds"] (nZ K nJ):=by
 refine F.ok0 (dR 88 (by decide)) (fun vs H Q E h=>?_) (fun cdv A outer s H vs Q E hr h=>?_)
 ·obtain⟨ks,ws,ds,m,rfl,_⟩:=h
  rfl
 ·obtain⟨ks,ws,ds,m,rfl,hs,hd,hz,⟨k,rfl⟩,q⟩:=h
  obtain⟨u,r,rfl,hu,hr0⟩:=qR hd
  cases zA hr0
  refine⟨_,qX (zJ (zO GW hr (qQ (qM zY (pv 0) qV) (qQ qI qZ)))) (qK (qB (qM qP (qM zY (pv 0) qV) qV))),?_⟩
  walk_at "e"
  obtain⟨a,y,z,rfl,ha,hy,hz'⟩:=tR hu
  refine⟨_,rfl,ks,_,_,_,rfl,rfl,hs,qW (j:=0) rfl,_,_,_,rfl,hu,?_⟩
  exact⟨_,rfl,ks,_,_,_,rfl,rfl,hs,qW (j:=0) rfl,a,_,_,z,rfl,rfl,ha,qW (j:=2) rfl,q z H (Grow.refl H) hz'⟩
theorem qP5(F:zK K "call_kind" "call_kind" zZ3 .none f fd)(GR:Kn P w K mg base 1 "require" ["holds"] oP)(GW:Kn P w K mg base 2 "require_word" ["kind","word"] (rJ K)):zQ P w K mg base (CXE P w) 3 f fd ["kinds"] (nZ K qU9):=by
 refine F.ok0 (dR 90 (by decide)) (fun vs H Q E h=>?_) (fun cdv A outer s H vs Q E hr h=>?_)
 ·obtain⟨ks,ws,ds,m,rfl,_⟩:=h
  rfl
 ·obtain⟨ks,ws,ds,m,rfl,hs,hd,hz,⟨k,rfl⟩,q⟩:=h
  obtain⟨u,r,rfl,hu,hr0⟩:=qR hd
  obtain⟨v,r,rfl,hv,hr0⟩:=qR hr0
  cases zA hr0
  refine⟨_,qX (zJ (zO GW hr (qQ (qM zY (pv 0) qV) (qQ qI qZ))))
   (qX (zJ (zO GR (hr.mono (by omega)) (qQ (jI wZ (qM qP (qM zY (pv 0) qV) qV) (qM zY (pv 0) qV) (nomark _)) qZ)))
   (qK (qB (qM qP (qM zY (pv 0) qV) qV)))),?_⟩
  walk_at "e"
  obtain⟨a,y,z,rfl,ha,hy,hz'⟩:=zF0 hu
  refine⟨_,rfl,ks,_,_,_,rfl,rfl,hs,qW (j:=0) rfl,_,_,_,rfl,hu,?_⟩
  refine⟨_,rfl,ks,_,_,_,rfl,rfl,hs,qW (j:=0) rfl,a,_,_,y,rfl,rfl,ha,qW (j:=1) rfl,_,rfl,ks,_,_,v,rfl,rfl,hs,qW (j:=1) rfl,k.dt,k.dt,hy,hv,?_,?_⟩
  ·exact xH hr (Nat.le_trans (oV k (hz k (by simp))) (by decide))
  ·rw[vV]
   refine⟨rfl,?_⟩
   exact⟨_,rfl,ks,_,_,_,rfl,rfl,hs,qW (j:=0) rfl,a,_,_,z,rfl,rfl,ha,qW (j:=2) rfl,q z H (Grow.refl H) hz'⟩
theorem ok_cons(F:zK K "cons_kind" "cons_kind" zZ0 .none f fd)(GR:Kn P w K mg base 1 "require" ["holds"] oP):zQ P w K mg base (CXE P w) 3 f fd ["kinds"] (nZ K qU6):=by
 refine F.ok0 (dR 83 (by decide)) (fun vs H Q E h=>?_) (fun cdv A outer s H vs Q E hr h=>?_)
 ·obtain⟨ks,ws,ds,m,rfl,_⟩:=h
  rfl
 ·obtain⟨ks,ws,ds,m,rfl,hs,hd,hz,⟨k,rfl,rfl⟩,q⟩:=h
  obtain⟨u,r,rfl,hu,hr0⟩:=qR hd
  obtain⟨v,r,rfl,hv,hr0⟩:=qR hr0
  cases zA hr0
  refine⟨_,qX (zJ (zO GR (hr.mono (by omega)) (qQ (jI wZ (qM zY (pv 0) qV) (zW (qQ qI (qQ (qM zY (pv 0) qV) qZ))) (nomark _)) qZ)))
   (qK (qB (qM zY (pv 0) qV))),?_⟩
  walk_at "e"
  refine⟨_,rfl,ks,_,_,v,rfl,rfl,hs,qW (j:=1) rfl,_,rfl,ks,_,_,u,rfl,rfl,hs,qW (j:=0) rfl,zl2,fun c hc=>?_⟩
  have g1:Grow H (upd H c (.tup [.str "list",u])):=Grow.put hc
  have e1:zB K (upd H c (.tup [.str "list",u])) c [.str "list",u]:=zB.of qJ
  generalize upd H c (.tup [.str "list",u])=H1 at g1 e1⊢
  refine⟨(Kd.list k).dt,(Kd.list k).dt,hv.mono g1.same,wH e1 (hu.mono g1.same),xH hr (Nat.le_trans (oV _ (hz _ (by simp))) (by decide)),?_⟩
  rw[vV]
  refine⟨rfl,?_⟩
  exact⟨_,rfl,ks,_,_,v,rfl,rfl,g1.same.seq hs,qW (j:=1) rfl,q v _ g1 (hv.mono g1.same)⟩
theorem zF1(F:zK K "if_kind" "if_kind" sIf .none f fd)(GR:Kn P w K mg base 1 "require" ["holds"] oP):zQ P w K mg base (CXE P w) 3 f fd ["kinds"] (nZ K rIf):=by
 refine F.ok0 (dR 89 (by decide)) (fun vs H Q E h=>?_) (fun cdv A outer s H vs Q E hr h=>?_)
 ·obtain⟨ks,ws,ds,m,rfl,_⟩:=h
  rfl
 ·obtain⟨ks,ws,ds,m,rfl,hs,hd,hz,rfl,q⟩:=h
  obtain⟨t,r,rfl,ht,hr0⟩:=qR hd
  obtain⟨u,r,rfl,hu,hr0⟩:=qR hr0
  obtain⟨v,r,rfl,hv,hr0⟩:=qR hr0
  cases zA hr0
  refine⟨_,qX (zJ (zO GR (hr.mono (by omega)) (qQ (iG (jI wZ (qM zY (pv 0) qV) qI (nomark _)) (iL (jI wZ (qM zY (pv 0) qV) (qM zY (pv 0) qV) (nomark _)))) qZ)))
   (qK (qB (qM zY (pv 0) qV))),?_⟩
  walk_at "e"
  refine⟨_,rfl,ks,_,_,t,rfl,rfl,hs,qW (j:=0) rfl,(Kd.bool).dt,(Kd.bool).dt,ht,wD _,xH hr (Nat.le_trans (oV .bool (by decide)) (by decide)),?_⟩
  rw[vV]
  refine⟨true,rfl,jC ?_⟩
  refine⟨_,rfl,ks,_,_,u,rfl,rfl,hs,qW (j:=1) rfl,_,rfl,ks,_,_,v,rfl,rfl,hs,qW (j:=2) rfl,m.dt,m.dt,hu,hv,xH hr (Nat.le_trans (oV m (hz _ (by simp))) (by decide)),?_⟩
  rw[vV]
  refine⟨rfl,?_⟩
  exact⟨_,rfl,ks,_,_,u,rfl,rfl,hs,qW (j:=1) rfl,q u _ (Grow.refl H) hu⟩
inductive yU(K:Fg)(H:Hp)(pr:Addr)(n:Nat):Prop
 |mk (ps:List V) (ks:List Kd) (a_0:H pr=some (.lst ps)) (a_1:qO K H (ks.map Kd.dt) ps) (a_2:∀k∈ks,k.sz<=40) (a_3:ks.length<=n):yU K H pr n
theorem yU.le{H:Hp}{pr:Addr}{m n:Nat}(h:yU K H pr m)(l:m<=n):yU K H pr n:=let⟨ps,ks,a,b,c,d⟩:=h;⟨ps,ks,a,b,c,Nat.le_trans d l⟩
theorem yU.mono{H H':Hp}{pr:Addr}{n:Nat}(h:yU K H pr n)(g:Grow H H'):yU K H' pr n:=let⟨ps,ks,a,b,c,d⟩:=h;⟨ps,ks,g.same _ _ a,b.mono g.same,c,d⟩
theorem yU.tups{H H':Hp}{pr:Addr}{n:Nat}(h:yU K H pr n)(g:jM pr H H'):jW K H H':=let⟨_,_,a,_,_,_⟩:=h;g.tups a
inductive zZq(K:Fg)(vs:List V)(H:Hp)(Q:VK):Prop
 |mk (ks:Addr) (pr:Addr) (u:V) (v:V) (k:Kd) (l:Kd) (n:Nat) (a_0:vs=[.ref ks,.ref pr]) (a_1:zS K H ks [u,v]) (a_2:qY K H k.dt u) (a_3:qY K H l.dt v) (a_4:(Kd.pair k l).sz<=40) (a_5:yU K H pr n) (a_6:n<=100000) (a_7:∀r H',jM pr H H'->yU K H' pr (n+1)->qY K H' (Kd.pair k l).dt r->Q r H'):zZq K vs H Q
def zY8(K:Fg):Sp:=fun vs H Q x_0=>zZq K vs H Q
theorem zF2:qC ["kinds","pairs","kind"] ["kinds","pairs"] (qU sPK):=by walk_at "s"
theorem zF3(F:zK K "pair_kind" "pair_kind" sPK .none f fd):zQ P w K mg base (CXE P w) 1 f fd ["kinds","pairs"] (zY8 K):=by
 refine F.ok0 zF2 (by walk_at "l") ?_
 walk_at "i"
 obtain⟨ks,pr,u,v,k,l,n,rfl,hs,hu,hv,hz,hp,hn,q⟩:=h
 refine⟨_,qX (qF (i:=2) zF2.nd rfl oI (zW (qQ qI (qQ (qM zY (pv 0) qV) (qQ (qM zY (pv 0) qV) qZ)))))
  (qX (zH (zZ zWq (pv 2) (pv 1) rfl) (qK (qB (qM zY (pv 1) (jT aq0 PySem.F.slot_list_index PySem.F.type_list_index qZq (pv 1) (qQ (pv 2) qZ))))) zX)
  (qX (zJ (jT aq0 aq1 aq2 zF (pv 1) (qQ (pv 2) qZ)))
  (qK (qB (pv 2))))),?_⟩
 walk_at "e"
 refine⟨_,rfl,ks,_,_,u,rfl,rfl,hs,qW (j:=0) rfl,_,rfl,ks,_,_,v,rfl,rfl,hs,qW (j:=1) rfl,zl3,fun c hc=>?_⟩
 walk_at "d"
 have g1:Grow H (upd H c (.tup [.str "pair",u,v])):=Grow.put hc
 have e1:zB K (upd H c (.tup [.str "pair",u,v])) c [.str "pair",u,v]:=zB.of qJ
 generalize upd H c (.tup [.str "pair",u,v])=H1 at g1 e1⊢
 have hk:qY K H1 (Kd.pair k l).dt (.ref c):=tH e1 (hu.mono g1.same) (hv.mono g1.same)
 have hp1:=hp.mono g1
 obtain⟨ps,kl,a1,a2,a3,a4⟩:=hp1
 have hdu:=Nat.le_trans (nQ kl a3) (show 40<=150 by decide)
 refine⟨_,rfl,_,rfl,pr,ps,(Kd.pair k l).dt,kl.map Kd.dt,rfl,zS.of a1,hk,a2,cV hr hdu,_,rfl,?_⟩
 refine ite2 (fun hin=>?_) (fun _=>?_)
 ·refine⟨_,rfl,_,rfl,.inl ⟨rfl,_,zS.of a1⟩,_,rfl,pr,ps,_,(Kd.pair k l).dt,kl.map Kd.dt,rfl,rfl,zS.of a1,hk,a2,cV hr hdu,hin,fun j e he hj=>?_⟩
  obtain⟨y,hy,dy⟩:=a2.get he
  refine⟨pr,ps,j,y,rfl,rfl,zS.of a1,qW hy,q y H1 g1.b (yU.le ⟨ps,kl,a1,a2,a3,a4⟩ (Nat.le_succ n)) ?_⟩
  rw[aq19]at he
  obtain⟨k',hk',rfl⟩:=aq6.mp he
  rw[Kd.eq_dt]at hj
  rw[of_decide_eq_true hj]at dy
  exact dy
 ·have hl:=a2.length
  rw[aq16]at hl
  refine⟨_,rfl,.inl ⟨rfl,_,zS.of a1⟩,_,rfl,pr,ps,_,rfl,rfl,a1,(by rw[sizeLine_eq];omega),?_⟩
  have gB:jM pr H (upd H1 pr (.lst (ps++[.ref c]))):=by
   obtain⟨ps0,kl0,b1,_⟩:=hp
   exact(Grow.b g1).set b1
  have kt:jW K H1 (upd H1 pr (.lst (ps++[.ref c]))):=jM.tups ((jM.refl pr H1).set a1) a1
  refine⟨_,rfl,q _ _ gB ⟨ps++[.ref c],kl++[Kd.pair k l],qJ,?_,?_,?_⟩ (hk.monoT kt)⟩
  ·rw[aq21]
   exact(a2.monoT kt).append (qG (hk.monoT kt) qA)
  ·intro z hz'
   rcases List.mem_append.mp hz' with h|h
   ·exact a3 z h
   ·rw[aq20.mp h];exact hz
  ·rw[List.length_append];simp;exact a4
end
abbrev tS:Stmt:=top 92
abbrev qP6:Stmt:=top 93
abbrev tT:Stmt:=top 94
abbrev qUj:Stmt:=top 97
section
variable {P:Program} {w:World} {K:Fg} {mg:Str->Option Value} {base:Heap} {f:Addr} {fd:FuncData}
inductive wU(K:Fg)(H:Hp)(sc:Addr)(Γ:Cxt)(m:Nat):Prop
 |mk (kvs:List (Key×V)) (a_0:H sc=some (.dK kvs)) (a_1:kvs.length<=m) (a_2:∀x k,Γ.lookup x=some k->∃v,xT kvs (Sum.inr x)=some v/\qY K H k.dt v):wU K H sc Γ m
theorem wU.monoB{H H':Hp}{sc pr:Addr}{Γ:Cxt}{m n:Nat}(h:wU K H sc Γ m)(p:yU K H pr n)(g:jM pr H H'):wU K H' sc Γ m:=by
 obtain⟨kvs,a,b,c⟩:=h
 have kt:=p.tups g
 obtain⟨ps,ks,p1,_⟩:=p
 exact⟨kvs,g.keep _ _ (xO a p1 (by intro z;cases z)) a,b,fun x k e=>let⟨v,e1,e2⟩:=c x k e;⟨v,e1,e2.monoT kt⟩⟩
theorem wU.mono{H H':Hp}{sc:Addr}{Γ:Cxt}{m:Nat}(h:wU K H sc Γ m)(g:Grow H H'):wU K H' sc Γ m:=by
 obtain⟨kvs,a,b,c⟩:=h
 exact⟨kvs,g.same _ _ a,b,fun x k e=>let⟨v,e1,e2⟩:=c x k e;⟨v,e1,e2.mono g.same⟩⟩
theorem wU.put{H H':Hp}{sc d:Addr}{Γ:Cxt}{m:Nat}{x:Str}{k:Kd}{u:V}{kvs:List (Key×V)}(c:∀y l,Γ.lookup y=some l->∃v,xT kvs (Sum.inr y)=some v/\qY K H l.dt v)(hl:kvs.length<=m)(g:Grow H H')(e:H' d=some (.dK (vK kvs (Sum.inr x) u)))(hu:qY K H k.dt u):wU K H' d ((x,k)::Γ) (m+1):=by
 refine⟨_,e,?_,fun y l hy=>?_⟩
 ·have :=kG kvs (Sum.inr x:Key) u
  omega
 ·rw[cQ]
  by_cases z:y=x
  ·subst z
   rw[if_pos rfl]
   rw[List.lookup_cons,beq_self_eq_true]at hy
   cases hy
   exact⟨u,rfl,hu.mono g.same⟩
  ·rw[if_neg (fun h=>z (Sum.inr.inj h))]
   rw[Pt.lookup_cons_ne z]at hy
   obtain⟨v,e1,e2⟩:=c y l hy
   exact⟨v,e1,e2.mono g.same⟩
inductive tE(K:Fg)(B:Pt->Prop)(vs:List V)(H:Hp)(Q:VK):Prop
 |mk (pv:V) (sc:Addr) (pr:Addr) (p:Pt) (Γ:Cxt) (κ:Kd) (m:Nat) (c:Nat) (a_0:vs=[pv,.ref sc,.ref pr]) (a_1:qY K H p.dt pv) (a_2:B p) (a_3:Pt.Has Γ p κ) (a_4:wU K H sc Γ m) (a_5:m+2*p.deep<=400) (a_6:yU K H pr c) (a_7:c+p.sz<=100000) (a_8:∀v H',jM pr H H'->yU K H' pr (c+p.sz)->qY K H' κ.dt v->Q v H'):tE K B vs H Q
def yD(K:Fg)(B:Pt->Prop):Sp:=fun vs H Q x_0=>tE K B vs H Q
def uY(K:Fg)(n:Nat):Sp:=yD K fun p=>p.deep<n
def zZz(n:Nat)(p:Pt):Prop:=p.deep<n+1/\∃x q r,p= .let_ x q r
def zZj(n:Nat)(p:Pt):Prop:=p.deep<n+1/\∃x k q,p= .fn x k q
def zJ0(n:Nat)(p:Pt):Prop:=p.deep<n+1/\∃g x k l q,p= .rc g x k l q
abbrev lX:List Str:=["part","scope","pairs"]
theorem qO0:qC ["part","scope","pairs","bound"] lX (qU tS):=by walk_at "s"
theorem zY9{n:Nat}(F:zK K "let_kind" "let_kind" tS .none f fd)(GF:Kn P w K mg base (2*n+2) "fitted" lX (uY K n))(GN:Kn P w K mg base 1 "with_name" ["scope","name","bound"] rQ):zQ P w K mg base (CXE P w) (2*n+3) f fd lX (yD K (zZz n)):=by
 refine F.ok0 qO0 (by walk_at "l") ?_
 walk_at "i"
 obtain⟨v,sc,pr,p,Γ,κ,m,c,rfl,hp,⟨hd,x,p1,p2,rfl⟩,hh,hs,hm,hpr,hc,q⟩:=h
 cases hh with
 |let_ h1 h2=>
 rename_i k
 obtain⟨a,v0,v1,v2,rfl,ha,hx,hv1,hv2⟩:=wF hp
 cases jE hx
 simp only[Pt.deep,Pt.sz]at hd hm hc q
 refine⟨_,qX (qF (i:=3) qO0.nd rfl oI (zO GF hr (qQ (qM qP (pv 0) qV) (qQ (pv 1) (qQ (pv 2) qZ)))))
  (qK (qB (zO GF hr (qQ (qM qP (pv 0) qV) (qQ (zO GN (hr.mono (by omega)) (qQ (pv 1) (qQ (qM qP (pv 0) qV) (qQ (pv 3) qZ)))) (qQ (pv 2) qZ)))))),?_⟩
 walk_at "e"
 refine⟨_,rfl,a,_,_,v1,rfl,rfl,ha,qW (j:=2) rfl,_,rfl,_,rfl,v1,sc,pr,p1,Γ,k,m,c,rfl,hv1,by show p1.deep<n;omega,h1,hs,by omega,hpr,by omega,fun u H1 g1 hpr1 hu=>?_⟩
 walk_at "d"
 have kt:=hpr.tups g1
 have ha1:=kt _ _ ha
 have hv2':=hv2.monoT kt
 have hs1:=hs.monoB hpr g1
 obtain⟨kvs,s1,s2,s3⟩:=hs1
 refine⟨_,rfl,a,_,_,v2,rfl,rfl,ha1,qW (j:=3) rfl,_,rfl,_,rfl,a,_,_,.str x,rfl,rfl,ha1,qW (j:=1) rfl,_,rfl,sc,x,u,kvs,rfl,s1,by omega,fun d H2 g2 e2=>?_⟩
 have hs2:wU K H2 d ((x,k)::Γ) (m+1):=wU.put (sc:=sc) s3 s2 g2 e2 hu
 refine⟨_,rfl,v2,d,pr,p2,(x,k)::Γ,κ,m+1,c+p1.sz,rfl,hv2'.mono g2.same,by show p2.deep<n;omega,h2,hs2,by omega,hpr1.mono g2,by omega,fun r H3 g3 hpr3 hr3=>?_⟩
 exact q r H3 ((g1.trans g2.b).trans g3) (hpr3.le (by omega)) hr3
theorem zJ1:qC ["part","scope","pairs","told"] lX (qU qP6):=by walk_at "s"
theorem zF4{n:Nat}(F:zK K "fn_kind" "fn_kind" qP6 .none f fd)(GF:Kn P w K mg base (2*n+2) "fitted" lX (uY K n))(GN:Kn P w K mg base 1 "with_name" ["scope","name","bound"] rQ):zQ P w K mg base (CXE P w) (2*n+3) f fd lX (yD K (zZj n)):=by
 refine F.ok0 zJ1 (by walk_at "l") ?_
 walk_at "i"
 obtain⟨v,sc,pr,p,Γ,κ,m,c,rfl,hp,⟨hd,x,k,p2,rfl⟩,hh,hs,hm,hpr,hc,q⟩:=h
 cases hh with
 |fn h2 hb=>
 rename_i l
 obtain⟨a,v0,v1,v2,rfl,ha,hx,hv1,hv2⟩:=wF hp
 cases jE hx
 simp only[Pt.deep,Pt.sz]at hd hm hc q
 refine⟨_,qX (qF (i:=3) zJ1.nd rfl oI (zO GF hr (qQ (qM qP (pv 0) qV) (qQ (zO GN (hr.mono (by omega)) (qQ (pv 1) (qQ (qM qP (pv 0) qV) (qQ (qM qP (pv 0) qV) qZ)))) (qQ (pv 2) qZ)))))
  (qK (qB (zW (qQ qI (qQ (qM qP (pv 0) qV) (qQ (pv 3) qZ)))))),?_⟩
 walk_at "e"
 obtain⟨kvs,s1,s2,s3⟩:=hs
 refine⟨_,rfl,a,_,_,v2,rfl,rfl,ha,qW (j:=3) rfl,_,rfl,_,rfl,a,_,_,.str x,rfl,rfl,ha,qW (j:=1) rfl,_,rfl,a,_,_,v1,rfl,rfl,ha,qW (j:=2) rfl,sc,x,v1,kvs,rfl,s1,by omega,fun d H2 g2 e2=>?_⟩
 have hs2:wU K H2 d ((x,k)::Γ) (m+1):=wU.put (sc:=sc) s3 s2 g2 e2 hv1
 refine⟨_,rfl,v2,d,pr,p2,(x,k)::Γ,l,m+1,c,rfl,hv2.mono g2.same,by show p2.deep<n;omega,h2,hs2,by omega,hpr.mono g2,by omega,fun u H3 g3 hpr3 hu=>?_⟩
 walk_at "d"
 have kt:jW K H H3:=fun b xs hb=>(hpr.mono g2).tups g3 _ _ (zB.mono g2.same hb)
 refine⟨_,rfl,a,_,_,v1,rfl,rfl,kt _ _ ha,qW (j:=2) rfl,_,rfl,zl3,fun t ht=>?_⟩
 have g4:Grow H3 (upd H3 t (.tup [.str "fun",v1,u])):=Grow.put ht
 exact q _ _ ((g2.b.trans g3).trans g4.b) ((hpr3.mono g4).le (by omega)) (tH (zB.of qJ) ((hv1.monoT kt).mono g4.same) (hu.mono g4.same))
theorem nX:qC ["part","scope","pairs","kind","knowing_itself","told"] lX (qU tT):=by walk_at "s"
theorem zYq{n:Nat}(F:zK K "rec_kind" "rec_kind" tT .none f fd)(GF:Kn P w K mg base (2*n+2) "fitted" lX (uY K n))(GN:Kn P w K mg base 1 "with_name" ["scope","name","bound"] rQ)(GR:Kn P w K mg base 1 "require" ["holds"] oP):zQ P w K mg base (CXE P w) (2*n+3) f fd lX (yD K (zJ0 n)):=by
 refine F.ok0 nX (by walk_at "l") ?_
 walk_at "i"
 obtain⟨v,sc,pr,p,Γ,κ,m,c,rfl,hp,⟨hd,g,x,k,l,p2,rfl⟩,hh,hs,hm,hpr,hc,q⟩:=h
 cases hh with
 |rc h2 hb=>
 obtain⟨a,v0,v1,v2,v3,v4,rfl,ha,hg,hx,hv2,hv3,hv4⟩:=tF hp
 cases jE hx
 cases jE hg
 simp only[Pt.deep,Pt.sz]at hd hm hc q
 refine⟨_,qX (qF (i:=3) nX.nd rfl oI (zW (qQ qI (qQ (qM qP (pv 0) qV) (qQ (qM qP (pv 0) qV) qZ)))))
  (qX (qF (i:=4) nX.nd rfl oI (zO GN (hr.mono (by omega)) (qQ (pv 1) (qQ (qM qP (pv 0) qV) (qQ (pv 3) qZ)))))
  (qX (qF (i:=5) nX.nd rfl oI (zO GF hr (qQ (qM qP (pv 0) qV) (qQ (zO GN (hr.mono (by omega)) (qQ (pv 4) (qQ (qM qP (pv 0) qV) (qQ (qM qP (pv 0) qV) qZ)))) (qQ (pv 2) qZ)))))
  (qX (zJ (zO GR (hr.mono (by omega)) (qQ (jI wZ (pv 5) (qM qP (pv 0) qV) (nomark _)) qZ)))
  (qK (qB (pv 3)))))),?_⟩
 walk_at "e"
 refine⟨_,rfl,a,_,_,v2,rfl,rfl,ha,qW (j:=3) rfl,_,rfl,a,_,_,v3,rfl,rfl,ha,qW (j:=4) rfl,zl3,fun t ht=>?_⟩
 walk_at "d"
 have g1:Grow H (upd H t (.tup [.str "fun",v2,v3])):=Grow.put ht
 have e1:zB K (upd H t (.tup [.str "fun",v2,v3])) t [.str "fun",v2,v3]:=zB.of qJ
 generalize upd H t (.tup [.str "fun",v2,v3])=H1 at g1 e1⊢
 have hk1:qY K H1 (Kd.fn k l).dt (.ref t):=tH e1 (hv2.mono g1.same) (hv3.mono g1.same)
 obtain⟨kvs,s1,s2,s3⟩:=hs.mono g1
 have ha1:=zB.mono g1.same ha
 refine⟨_,rfl,_,rfl,a,_,_,.str g,rfl,rfl,ha1,qW (j:=1) rfl,_,rfl,sc,g,.ref t,kvs,rfl,s1,by omega,fun d H2 g2 e2=>?_⟩
 walk_at "d"
 have hs2:wU K H2 d ((g,.fn k l)::Γ) (m+1):=wU.put (sc:=sc) s3 s2 g2 e2 hk1
 have g12:=g1.trans g2
 have ha2:=zB.mono g12.same ha
 obtain⟨kv2,s1,s2,s3⟩:=hs2
 refine⟨_,rfl,a,_,_,v4,rfl,rfl,ha2,qW (j:=5) rfl,_,rfl,_,rfl,a,_,_,.str x,rfl,rfl,ha2,qW (j:=2) rfl,_,rfl,a,_,_,v2,rfl,rfl,ha2,qW (j:=3) rfl,d,x,v2,kv2,rfl,s1,by omega,fun d3 H3 g3 e3=>?_⟩
 have hs3:wU K H3 d3 ((x,k)::(g,.fn k l)::Γ) (m+1+1):=wU.put (sc:=d) s3 s2 g3 e3 (hv2.mono g12.same)
 have g13:=g12.trans g3
 refine⟨_,rfl,v4,d3,pr,p2,(x,k)::(g,.fn k l)::Γ,l,m+1+1,c,rfl,hv4.mono g13.same,by show p2.deep<n;omega,h2,hs3,by omega,hpr.mono g13,by omega,fun u H4 g4 hpr4 hu=>?_⟩
 walk_at "d"
 have kt:jW K H3 H4:=(hpr.mono g13).tups g4
 have kt0:jW K H H4:=fun b xs hb=>kt _ _ (zB.mono g13.same hb)
 have hlz:l.sz<=40:=by simp only[Kd.sz]at hb;omega
 refine⟨_,rfl,_,rfl,a,_,_,v3,rfl,rfl,kt0 _ _ ha,qW (j:=4) rfl,l.dt,l.dt,hu,hv3.monoT kt0,xH hr (Nat.le_trans (oV l hlz) (by decide)),?_⟩
 rw[vV]
 refine⟨rfl,?_⟩
 exact⟨_,rfl,q _ _ (g13.b.trans g4) (hpr4.le (by omega)) ((hk1.mono (g2.trans g3).same).monoT kt)⟩
end
def Pt.plain:Pt->Bool
 | .num _=>true| .tru _=>true| .one _ _=>true| .two _ _ _=>true| .ite _ _ _=>true
 |_=>false
def Pt.wd:Pt->Str
 | .num _=>"num"| .tru _=>"truth"| .nam _=>"name"| .nil _=>"nil"
 | .one u _=>u.str| .two u _ _=>u.str| .ite _ _ _=>"if"| .let_ _ _ _=>"let"| .fn _ _ _=>"fn"| .rc _ _ _ _ _=>"rec"
def Pt.parts:Pt->List Pt
 | .one _ p=>[p]| .two _ p q=>[p,q]| .ite p q r=>[p,q,r]
 | .let_ _ p q=>[p,q]| .fn _ _ p=>[p]| .rc _ _ _ _ p=>[p]
 |_=>[]
def KR:List (Str×(List Kd->Kd->Prop)):=[("cons",qU6),("head",qU7),("tail",qU8),("empty",rX),("first",rK),("second",nJ),("if",rIf),("call",qU9)]
def FX:List (Str×List Kd×Kd):=[("num",[],.int),("truth",[],.bool),("plus",[.int,.int],.int),("minus",[.int,.int],.int),("times",[.int,.int],.int),("over",[.int,.int],.int),("rest",[.int,.int],.int),("less",[.int,.int],.bool),("same",[.int,.int],.bool),("and",[.bool,.bool],.bool),("or",[.bool,.bool],.bool),("not",[.bool],.bool)]
def kv:Kd->V
 | .int=>.str "int"
 |_=>.str "bool"
inductive lW(Γ:Cxt):List Pt->List Kd->Prop
 |nil:lW Γ [] []
 |cons {p k ps ks}:Pt.Has Γ p k->lW Γ ps ks->lW Γ (p::ps) (k::ks)
theorem lW.length{Γ:Cxt}{ps:List Pt}{ks:List Kd}(h:lW Γ ps ks):ps.length=ks.length:=by
 induction h with
 |nil=>rfl
 |cons _ _ ih=>simp[ih]
theorem lW.get{Γ:Cxt}{ps:List Pt}{ks:List Kd}(h:lW Γ ps ks):∀{i:Nat}{p:Pt},ps[i]? =some p->∃k,ks[i]? =some k/\Pt.Has Γ p k:=by
 induction h with
 |nil=>intro i p e;simp at e
 |cons h _ ih=>
  intro i p e
  cases i with
  |zero=>simp at e;subst e;exact⟨_,rfl,h⟩
  |succ i=>exact ih (by simpa using e)
theorem lW.sz{Γ:Cxt}{ps:List Pt}{ks:List Kd}(h:lW Γ ps ks):∀k∈ks,k.sz<=40:=by
 induction h with
 |nil=>intro k h;cases h
 |cons h _ ih=>
  intro k hk
  rcases List.mem_cons.mp hk with rfl|hk
  ·exact h.sz
  ·exact ih k hk
def Ruled(wd:Str)(ks:List Kd)(κ:Kd):Prop:=(wd="pair"/\∃k l,ks=[k,l]/\κ= .pair k l)\/(∃R,(wd,R)∈KR/\R ks κ)\/(wd,ks,κ)∈FX
theorem qZj{Γ:Cxt}{p:Pt}{κ:Kd}(h:Pt.Has Γ p κ)(hp:Pt.plain p=true):∃ks,lW Γ (Pt.parts p) ks/\Ruled (Pt.wd p) ks κ:=by
 cases h with
 |num=>exact⟨[],.nil,.inr (.inr (by simp[FX,Pt.wd]))⟩
 |tru=>exact⟨[],.nil,.inr (.inr (by simp[FX,Pt.wd]))⟩
 |nam _ _=>simp[Pt.plain]at hp
 |nil _=>simp[Pt.plain]at hp
 |let_ _ _=>simp[Pt.plain]at hp
 |fn _ _=>simp[Pt.plain]at hp
 |rc _ _=>simp[Pt.plain]at hp
 |ite h1 h2 h3=>exact⟨[_,_,_],.cons h1 (.cons h2 (.cons h3 .nil)),.inr (.inl ⟨rIf,by simp[KR,Pt.wd],rfl⟩)⟩
 | @one _ u p k _ h1 e _=>
  refine⟨[_],.cons h1 .nil,?_⟩
  cases u<;>cases k<;>simp only[Pt.k1,reduceCtorEq,Option.some.injEq]at e<;>subst e
  ·exact .inr (.inl ⟨qU7,by simp[KR,Pt.wd,U1.str],rfl⟩)
  ·exact .inr (.inl ⟨qU8,by simp[KR,Pt.wd,U1.str],_,rfl,rfl⟩)
  ·exact .inr (.inl ⟨rX,by simp[KR,Pt.wd,U1.str],_,rfl,rfl⟩)
  ·exact .inr (.inl ⟨rK,by simp[KR,Pt.wd,U1.str],_,rfl⟩)
  ·exact .inr (.inl ⟨nJ,by simp[KR,Pt.wd,U1.str],_,rfl⟩)
  ·exact .inr (.inr (by simp[FX,Pt.wd,U1.str]))
 | @two _ u p q k l _ h1 h2 e _=>
  refine⟨[_,_],.cons h1 (.cons h2 .nil),?_⟩
  cases u
  ·cases l<;>simp only[Pt.k2,reduceCtorEq,Option.ite_none_right_eq_some,Option.some.injEq]at e
   obtain⟨rfl,rfl⟩:=e
   exact .inr (.inl ⟨qU6,by simp[KR,Pt.wd,U2.str],_,rfl,rfl⟩)
  ·simp only[Pt.k2,Option.some.injEq]at e
   subst e
   exact .inl ⟨rfl,_,_,rfl,rfl⟩
  ·cases k<;>simp only[Pt.k2,reduceCtorEq,Option.ite_none_right_eq_some,Option.some.injEq]at e
   obtain⟨rfl,rfl⟩:=e
   exact .inr (.inl ⟨qU9,by simp[KR,Pt.wd,U2.str],_,rfl⟩)
  all_goals
   cases k<;>cases l<;>simp only[Pt.k2,reduceCtorEq,Option.some.injEq]at e<;>subst e
   exact .inr (.inr (by simp[FX,Pt.wd,U2.str]))
theorem behind1(u:V):behind (["part"]:List Str) [u] "part"=[u]:=by unfold behind;simp
theorem behind2(u v:V):behind (["part","part"]:List Str) [u,v] "part"=[u,v]:=by unfold behind;simp
theorem behind3(u v x:V):behind (["part","part","part"]:List Str) [u,v,x] "part"=[u,v,x]:=by unfold behind;simp
theorem zJ2(u:U1):zI u.str=(["part"]:List Str):=by cases u<;>decide+kernel
theorem zJ3(u:U2):zI u.str=(["part","part"]:List Str):=by cases u<;>decide+kernel
theorem zJ4:zI "if"=(["part","part","part"]:List Str):=by decide+kernel
theorem qO1:zI "num"=[]:=by decide+kernel
theorem qO2:zI "truth"=[]:=by decide+kernel
theorem xY{k:Str}:∀{ks:List Str}{vs:List V}{i:Nat},yB k ks=some i->i<vs.length->PyProof.Rows.KTD.inKeys k (ks.zip vs)=true:=fun {ks vs i}h hi=>by
 have :=qS h (aq15 hi)
 rw[<-PyProof.Rows.KTD.isSome_datumAt,this]
 rfl
section
variable {P:Program} {w:World} {K:Fg} {mg:Str->Option Value} {base:Heap} {f:Addr} {fd:FuncData}
theorem cW{H:Hp}{p:Pt}{v:V}(hp:Pt.plain p=true)(h:qY K H p.dt v):∃a xs,v= .ref a/\zB K H a (.str (Pt.wd p)::xs)/\xs.length<=1000/\qO K H ((Pt.parts p).map Pt.dt) (behind (zI (Pt.wd p)) xs "part"):=by
 cases p with
 |num n=>obtain⟨a,u,rfl,hs,h1⟩:=xF h;exact⟨a,_,rfl,hs,by simp,by rw[show zI (Pt.wd (.num n))=[]from qO1];exact qA⟩
 |tru b=>obtain⟨a,u,rfl,hs,h1⟩:=xF h;exact⟨a,_,rfl,hs,by simp,by rw[show zI (Pt.wd (.tru b))=[]from qO2];exact qA⟩
 |one o p=>obtain⟨a,u,rfl,hs,h1⟩:=xF h;exact⟨a,_,rfl,hs,by simp,by rw[show zI (Pt.wd (.one o p))=_ from zJ2 o,behind1];exact qG h1 qA⟩
 |two o p q=>obtain⟨a,u,x,rfl,hs,h1,h2⟩:=dH h;exact⟨a,_,rfl,hs,by simp,by rw[show zI (Pt.wd (.two o p q))=_ from zJ3 o,behind2];exact qG h1 (qG h2 qA)⟩
 |ite p q r=>obtain⟨a,u,x,y,rfl,hs,h1,h2,h3⟩:=wF h;exact⟨a,_,rfl,hs,by simp,by rw[show zI (Pt.wd (.ite p q r))=_ from zJ4,behind3];exact qG h1 (qG h2 (qG h3 qA))⟩
 |nam _=>simp[Pt.plain]at hp
 |nil _=>simp[Pt.plain]at hp
 |let_ _ _ _=>simp[Pt.plain]at hp
 |fn _ _ _=>simp[Pt.plain]at hp
 |rc _ _ _ _ _=>simp[Pt.plain]at hp
theorem dE{p:Pt}(hp:Pt.plain p=true):Pt.wd p∈(["num","truth","if","head","tail","empty","first","second","not","cons","pair","call","plus","minus","times","over","rest","less","same","and","or"]:List Str):=by
 cases p with
 |num n=>simp[Pt.wd]
 |tru b=>simp[Pt.wd]
 |one o p=>cases o<;>simp[Pt.wd,U1.str]
 |two o p q=>cases o<;>simp[Pt.wd,U2.str]
 |ite p q r=>simp[Pt.wd]
 |nam _=>simp[Pt.plain]at hp
 |nil _=>simp[Pt.plain]at hp
 |let_ _ _ _=>simp[Pt.plain]at hp
 |fn _ _ _=>simp[Pt.plain]at hp
 |rc _ _ _ _ _=>simp[Pt.plain]at hp
def bkeys:List Str:=["let","fn","rec"]
theorem aQ:∀x∈(["num","truth","if","head","tail","empty","first","second","not","cons","pair","call","plus","minus","times","over","rest","less","same","and","or"]:List Str),decide (V.str x=V.str "name")=false/\decide (V.str x=V.str "nil")=false/\yB x bkeys=none:=by decide+kernel
theorem qP7:∀x∈FX.map (·.1),decide (V.str x=V.str "pair")=false:=by decide+kernel
theorem qP8:∀x∈(["cons","head","tail","empty","first","second","if","call"]:List Str),decide (V.str x=V.str "pair")=false:=by decide+kernel
theorem zYz{wd:Str}{R:List Kd->Kd->Prop}(h:(wd,R)∈KR):wd∈(["cons","head","tail","empty","first","second","if","call"]:List Str):=by
 have :wd∈KR.map (·.1):=List.mem_map.mpr ⟨_,h,rfl⟩
 exact this
theorem qO3{wd:Str}{ks:List Kd}{κ:Kd}(h:(wd,ks,κ)∈FX):wd∈FX.map (·.1):=List.mem_map.mpr ⟨_,h,rfl⟩
theorem qP9:∀x∈FX,∀k∈x.2.1++[x.2.2],k= .int\/k= .bool:=by decide+kernel
theorem zJ5{H:Hp}{k:Kd}(h:k= .int\/k= .bool):qY K H k.dt (kv k):=by rcases h with rfl|rfl<;>exact wD _
theorem qO4{H:Hp}:∀{ks:List Kd},(∀k∈ks,k= .int\/k= .bool)->qO K H (ks.map Kd.dt) (ks.map kv)
 |[],_=>qA
 |k::ks,h=>qG (zJ5 (h k aq22)) (qO4 fun l hl=>h l (aq10 _ hl))
def At(P:Program)(w:World)(K:Fg)(mg:Str->Option Value)(base:Heap)(k:Nat)(f:Addr)(ps:List Str)(sp:Sp):Prop:=∃fd,zQ P w K mg base (CXE P w) k f fd ps sp/\PySem.W.keepIn K (.ref f)=true/\Binds K fd ps []
structure GlF(P:Program)(w:World)(K:Fg)(mg:Str->Option Value)(base:Heap)(fL fN fR:Addr):Prop where
 list:mg "list"=none
 bind:∃a,mg "BINDING_RULES"=some (.ref a)/\oE K a (bkeys.zip [.ref fL,.ref fN,.ref fR])
 rule:∃a D,mg "KIND_RULES"=some (.ref a)/\oE K a D/\(∀wd ks κ,(wd,ks,κ)∈FX->PyProof.Rows.KTD.inKeys wd D=false)/\∀wd R,(wd,R)∈KR->PyProof.Rows.KTD.inKeys wd D=true/\∃g,aq28 wd D=some (.ref g)/\At P w K mg base 3 g ["kinds"] (nZ K R)
 fixd:∃a D,mg "FIXED_KINDS"=some (.ref a)/\oE K a D/\∀wd ks κ,(wd,ks,κ)∈FX->∃tp,aq28 wd D=some (.ref tp)/\∀H,zB K H tp ((ks++[κ]).map kv)
def szs:List Pt->Nat
 |[]=>0
 |p::ps=>p.sz+szs ps
theorem wP:∀(ps:List Pt)(i:Nat)(p:Pt),ps[i]? =some p->szs (ps.take (i+1))=szs (ps.take i)+p.sz
 |[],i,p,h=>by simp at h
 |q::ps,0,p,h=>by simp at h;subst h;simp[szs]
 |q::ps,i+1,p,h=>by
  have :=wP ps i p (by simpa using h)
  simp only[List.take_succ_cons,szs];omega
theorem nV:∀(ps:List Pt)(i:Nat),szs (ps.take i)<=szs ps
 |[],i=>by simp[szs]
 |q::ps,0=>by simp[szs]
 |q::ps,i+1=>by have :=nV ps i;simp only[List.take_succ_cons,szs];omega
theorem yX{p:Pt}(hp:Pt.plain p=true):szs (Pt.parts p)+1=p.sz/\∀q∈Pt.parts p,q.deep<p.deep:=by
 cases p with
 |num n=>simp[Pt.parts,szs,Pt.sz]
 |tru b=>simp[Pt.parts,szs,Pt.sz]
 |one o p=>simp[Pt.parts,szs,Pt.sz,Pt.deep]
 |two o p q=>simp[Pt.parts,szs,Pt.sz,Pt.deep];omega
 |ite p q r=>simp[Pt.parts,szs,Pt.sz,Pt.deep];omega
 |nam _=>simp[Pt.plain]at hp
 |nil _=>simp[Pt.plain]at hp
 |let_ _ _ _=>simp[Pt.plain]at hp
 |fn _ _ _=>simp[Pt.plain]at hp
 |rc _ _ _ _ _=>simp[Pt.plain]at hp
end
section
variable {P:Program} {w:World} {K:Fg} {mg:Str->Option Value} {base:Heap} {f:Addr} {fd:FuncData}
theorem gZ:qC ["part","scope","pairs","word","kinds","fixed","told"] lX (qU qUj):=by walk_at "s"
theorem qPq(F:zK K "fitted" "fitted" qUj .none f fd):zQ P w K mg base (CXE P w) (2*0+2) f fd lX (uY K 0):=by
 refine F.ok0 gZ (by walk_at "l") ?_
 walk_at "i"
 obtain⟨pv,sc,pr,p,Γ,κ,m,c,rfl,_,hd,_⟩:=h
 exact absurd hd (Nat.not_lt_zero _)
theorem zYj{n:Nat}{fL fN fR:Addr}(F:zK K "fitted" "fitted" qUj .none f fd)(G:GlF P w K mg base fL fN fR)(GV:Kn P w K mg base 1 "values_behind" ["part","sort"] (dP K))(GR:Kn P w K mg base 1 "require" ["holds"] oP)(GU:Kn P w K mg base 1 "looked_up" ["scope","name"] rZ)(GP:Kn P w K mg base 1 "pair_kind" ["kinds","pairs"] (zY8 K))
  (GL:At P w K mg base (2*n+3) fL lX (yD K (zZz n)))(GN:At P w K mg base (2*n+3) fN lX (yD K (zZj n)))(GE:At P w K mg base (2*n+3) fR lX (yD K (zJ0 n)))(GF:Kn P w K mg base (2*n+2) "fitted" lX (uY K n)):zQ P w K mg base (CXE P w) (2*(n+1)+2) f fd lX (uY K (n+1)):=by
 refine F.ok0 (k:=2*n+3) gZ (fun vs H Q E h=>?_) (fun cdv A outer s H vs Q E hr h=>?_)
 ·obtain⟨pv,sc,pr,p,Γ,κ,m,c,rfl,_⟩:=h
  rfl
 ·obtain⟨v,sc,pr,p,Γ,κ,m,c,rfl,hp,hd,hh,hs,hm,hpr,hc,q⟩:=h
  have ndb:((["inner"]:List Str)++(["scope","pairs"]:List Str)).Nodup:=by decide+kernel
  obtain⟨t1,mB,T1⟩:=G.bind
  obtain⟨t2,D2,mK,T2,nK,yK⟩:=G.rule
  obtain⟨t3,D3,mF,T3,nF⟩:=G.fixd
  refine⟨_,qX (qF (i:=3) gZ.nd rfl oI (qM qP (pv 0) qV))
   (qX (zH (zZ jS (pv 3) qI (nomark _)) (qK (qB (zO GU (hr.mono (by omega)) (qQ (pv 1) (qQ (qM qP (pv 0) qV) qZ))))) zX)
   (qX (zH (zZ jS (pv 3) qI (nomark _)) (qK (qB (zW (qQ qI (qQ (qM qP (pv 0) qV) qZ))))) zX)
   (qX (zH (zZ iA (pv 3) (zM (v:=.ref t1) (by rfl) mB rfl) rfl) (qK (qB (wB (CX:=CXE P w) (qM oJ (zM (v:=.ref t1) (by rfl) mB rfl) (pv 3)) (qQ (pv 0) (qQ (pv 1) (qQ (pv 2) qZ)))))) zX)
   (qX (lE (i:=4) gZ.nd rfl oI (zD4 (own:=["inner"]) (x:="scope") (y:="pairs") (i:=1) (j:=2) (by decide+kernel) (by rfl) (by decide+kernel) (by rfl) (by decide+kernel) (by rfl) (by rfl) (by decide+kernel) (by rfl) (by rfl) (.inl (by rfl)) (.inl (by rfl)) (by rfl) (by rfl) (by decide+kernel)) rfl
     (iZ (zO GV (hr.mono (by omega)) (qQ (pv 0) (qQ qI qZ))))
     (fun C s H fp pins=>zO GF (hr.mono (by omega)) (qQ (pv 0) (qQ (pv 1) (qQ (pv 2) qZ)))) (fun C s H fp pins=>jO (i:=0) ndb rfl oI (Or.inr (by rfl))) (by rfl) (Or.inr (by rfl)))
   (qX (zH (zZ jS (pv 3) qI (nomark _)) (qK (qB (zO GP (hr.mono (by omega)) (qQ (pv 4) (qQ (pv 2) qZ))))) zX)
   (qX (zH (zZ iA (pv 3) (zM (v:=.ref t2) (by rfl) mK rfl) rfl) (qK (qB (wB (CX:=CXE P w) (qM oJ (zM (v:=.ref t2) (by rfl) mK rfl) (pv 3)) (qQ (pv 4) qZ)))) zX)
   (qX (qF (i:=5) gZ.nd rfl oI (jB wQ (by rfl) G.list PyProof.Rows.boot_list (qQ (qM oJ (zM (v:=.ref t3) (by rfl) mF rfl) (pv 3)) qZ)))
   (qX (qF (i:=6) gZ.nd rfl oI (xV aq0 aq3 aq4 xW (pv 5)))
   (qX (zJ (zO GR (hr.mono (by omega)) (qQ (jI zW9 (pv 4) (pv 5) (nomark _)) qZ)))
   (qK (qB (pv 6)))))))))))),?_⟩
  walk_at "e"
  by_cases hpl:Pt.plain p=true
  ·obtain⟨a,xs,rfl,ha,hxs,hbe⟩:=cW hpl hp
   obtain⟨w1,w2,w3⟩:=aQ _ (dE hpl)
   obtain⟨ks,hks,hru⟩:=qZj hh hpl
   obtain⟨hsz,hdp⟩:=yX hpl
   refine⟨_,rfl,a,_,_,.str (Pt.wd p),rfl,rfl,ha,qW (j:=0) rfl,?_⟩
   walk_at "d"
   refine⟨_,rfl,rfl,_,rfl,?_⟩
   rw[w1]
   refine jJ ⟨_,rfl,rfl,_,rfl,?_⟩
   rw[w2]
   refine jJ ⟨_,rfl,_,_,_,rfl,rfl,T1,_,rfl,?_⟩
   rw[oK w3]
   refine jJ ⟨_,rfl,a,"part",Pt.wd p,xs,rfl,ha,hxs,fun l0 H1 g1 n1 e1=>?_⟩
   refine⟨l0,rfl,⟨_,zS.of e1⟩,fun D0 hD0=>?_⟩
   have hbe1:=hbe.mono g1.same
   have hpr1:=hpr.mono g1
   have hs1:=hs.mono g1
   generalize behind (zI (Pt.wd p)) xs "part"=zs at e1 hbe1
   have lpr:l0≠pr:=by
    obtain⟨ps,_,x1,_⟩:=hpr
    exact fun z=>by rw[z,x1]at n1;cases n1
   have dpr:D0≠pr:=by
    obtain⟨ps,_,x1,_⟩:=hpr1
    exact fun z=>by rw[z,x1]at hD0;cases hD0
   have dl:l0≠D0:=fun z=>by rw[z,hD0]at e1;cases e1
   have gD:Grow H1 (upd H1 D0 (.lst [])):=Grow.put hD0
   have hlen:zs.length=(Pt.parts p).length:=by rw[hbe1.length,aq16]
   refine cK (K:=K) (a:=l0) (xs:=zs) (te:=(kS (uY K n) [] E0 (jK (jV 0) (jK (jV 1) (jK (jV 2) xE))))) (ix:=[1,2]) (σ:=[some (.ref a),some (.ref sc),some (.ref pr),some (.str (Pt.wd p)),none,none,none])
    (fun i ys H2=>jM pr H1 H2/\H2 D0=some (.lst ys)/\H2 l0=some (.lst zs)/\yU K H2 pr (c+szs ((Pt.parts p).take i))/\qO K H2 ((ks.take i).map Kd.dt) ys) ?_ ?_ ?_ ?_
   ·exact⟨gD.b,qJ,gD.same _ _ e1,hpr1.mono gD,qA⟩
   ·rintro i ys H2 _ ⟨_,_,h,_⟩
    exact zS.of h
   ·rintro i x ys H2 hx ⟨gB,eD,el,hp2,hy⟩ Q' hq
    obtain⟨pi,hpi⟩:∃pi,(Pt.parts p)[i]? =some pi:=by
     have :i<zs.length:=by
      rcases Nat.lt_or_ge i zs.length with h|h
      ·exact h
      ·rw[List.getElem?_eq_none h]at hx;cases hx
     exact⟨_,aq15 (by omega)⟩
    obtain⟨x',hx',hxd⟩:=hbe1.get (i:=i) (d:=pi.dt) (by rw[aq19,hpi];rfl)
    rw[hx]at hx'
    cases hx'
    obtain⟨k,hk,hki⟩:=hks.get hpi
    have kt:=hpr1.tups gB
    have hst:=wP _ _ _ hpi
    have hsl:=nV (Pt.parts p) (i+1)
    have hdi:=hdp pi (aq23 hpi)
    refine⟨_,rfl,_,rfl,_,rfl,x,sc,pr,pi,Γ,k,m,_,rfl,hxd.monoT kt,by show pi.deep<n;omega,hki,hs1.monoB hpr1 gB,by omega,hp2,by omega,fun u H3 g3 hp3 hu=>?_⟩
    have kt3:=hp2.tups g3
    have eD3:=g3.keep _ _ dpr eD
    refine hq u H3 eD3 ?_ ⟨?_,qJ,(qL dl).trans (g3.keep _ _ lpr el),?_,?_⟩
    ·have :=hy.length
     rw[aq16,List.length_take]at this
     have :=hks.length
     rw[sizeLine_eq]
     have :i<(Pt.parts p).length:=(List.getElem?_eq_some_iff.mp hpi).1
     have :(Pt.parts p).length<=3:=by cases p<;>simp[Pt.parts]
     omega
    ·have gg:=gB.trans g3
     refine⟨fun b o hb e=>?_,fun b e=>?_⟩
     ·rw[qL (qH e hD0)]
      exact gg.keep b o hb e
     ·by_cases z:b=D0
      ·subst z;exact hD0
      ·rw[qL z]at e;exact gg.none b e
    ·have kd:jW K H3 (upd H3 D0 (.lst (ys++[u]))):=jM.tups ((jM.refl D0 H3).set eD3) eD3
     obtain⟨ps,kl,x1,x2,x3,x4⟩:=hp3
     exact⟨ps,kl,(qL dpr.symm).trans x1,x2.monoT kd,x3,by rw[hst];omega⟩
    ·have kd:jW K H3 (upd H3 D0 (.lst (ys++[u]))):=jM.tups ((jM.refl D0 H3).set eD3) eD3
     rw[List.take_add_one,hk,aq21]
     exact((hy.monoT kt3).monoT kd).append (qG (hu.monoT kd) qA)
   ·rintro ys H2 ⟨gB,eD,el,hp2,hy⟩
    rw[hlen,hks.length,List.take_of_length_le (aq7 _)]at hy
    rw[hlen,List.take_of_length_le (aq7 _)]at hp2
    have g02:jM pr H H2:=g1.b.trans gB
    walk_at "d"
    refine⟨_,rfl,rfl,_,rfl,?_⟩
    rcases hru with⟨z1,k,l,rfl,rfl⟩|⟨R,hR,hRk⟩|hfx
    ·rw[decide_eq_true (by rw[z1]:V.str (Pt.wd p)=V.str "pair")]
     obtain⟨u,r,rfl,hu,hy⟩:=qR hy
     obtain⟨u',r,rfl,hu',hy⟩:=qR hy
     cases zA hy
     refine jC ⟨_,rfl,_,rfl,D0,pr,u,u',k,l,_,rfl,zS.of eD,hu,hu',hh.sz,hp2,by omega,fun r H3 g3 hp3 hr3=>?_⟩
     exact q r H3 (g02.trans g3) (hp3.le (by omega)) hr3
    ·rw[qP8 _ (zYz hR)]
     obtain⟨y1,g,y2,fdg,y3,y4,y5⟩:=yK _ R hR
     refine jJ ⟨_,rfl,_,_,_,rfl,rfl,T2,_,rfl,?_⟩
     rw[y1]
     refine jC ⟨_,rfl,_,_,_,_,rfl,rfl,T2,y2,g,fdg,_,_,[],[],E0,3,rfl,y3,hr.mono (by omega),y4,y5,.nil,zD,_,rfl,D0,ys,ks,κ,rfl,zS.of eD,hy,hks.sz,hRk,fun r H3 g3 hr3=>?_⟩
     exact q r H3 (g02.trans g3.b) ((hp2.mono g3).le (by omega)) hr3
    ·rw[qP7 _ (qO3 hfx)]
     obtain⟨tp,eF,sF⟩:=nF _ _ _ hfx
     have fl:=qP9 _ hfx
     refine jJ ⟨_,rfl,_,_,_,rfl,rfl,T2,_,rfl,?_⟩
     rw[nK _ _ _ hfx]
     refine jJ ⟨_,rfl,_,_,_,_,rfl,rfl,T3,eF,tp,_,rfl,.inr (sF H2),fun l3 hl3=>?_⟩
     walk_at "d"
     have dl':((ks++[κ]).map kv).dropLast=ks.map kv:=by rw[aq21];exact List.dropLast_concat
     refine⟨_,rfl,.inl ⟨rfl,_,zS.of qJ⟩,l3,_,kv κ,rfl,rfl,qJ,by simp,?_⟩
     rw[sM,dl']
     have g3:Grow H2 (upd H2 l3 (.lst (ks.map kv))):=Grow.put hl3
     have e3:(upd H2 l3 (.lst (ks.map kv))) l3=some (.lst (ks.map kv)):=qJ
     generalize upd H2 l3 (.lst (ks.map kv))=H3 at g3 e3⊢
     refine⟨_,rfl,_,rfl,D0,l3,_,_,ks.map Kd.dt,ks.map Kd.dt,rfl,rfl,zS.of (g3.same _ _ eD),zS.of e3,hy.mono g3.same,qO4 (fun k hk=>fl k (List.mem_append_left _ hk)),cV hr (Nat.le_trans (nQ ks hks.sz) (by decide)),?_⟩
     rw[oX]
     refine⟨rfl,?_⟩
     exact⟨_,rfl,q _ H3 (g02.trans g3.b) ((hp2.mono g3).le (by omega)) (zJ5 (fl κ (aq11 _ (aq20.mpr rfl))))⟩
  ·cases p with
   |num _=>exact absurd rfl hpl
   |tru _=>exact absurd rfl hpl
   |one _ _=>exact absurd rfl hpl
   |two _ _ _=>exact absurd rfl hpl
   |ite _ _ _=>exact absurd rfl hpl
   |nam x=>
    obtain⟨a,u,rfl,ha,hx⟩:=xF hp
    cases jE hx
    cases hh with
    |nam hl hb=>
    obtain⟨kvs,s1,s2,s3⟩:=hs
    obtain⟨r,r1,r2⟩:=s3 _ _ hl
    refine⟨_,rfl,a,_,_,.str "name",rfl,rfl,ha,qW (j:=0) rfl,?_⟩
    walk_at "d"
    refine⟨_,rfl,rfl,_,rfl,ite2 (fun _=>?_) (fun h=>absurd (by decide+kernel) h)⟩
    refine⟨_,rfl,_,rfl,a,_,_,.str x,rfl,rfl,ha,qW (j:=1) rfl,sc,x,r,kvs,rfl,s1,r1,?_⟩
    exact q r H (jM.refl _ _) (hpr.le (by omega)) r2
   |nil k=>
    obtain⟨a,u,rfl,ha,hx⟩:=xF hp
    cases hh with
    |nil hb=>
    refine⟨_,rfl,a,_,_,.str "nil",rfl,rfl,ha,qW (j:=0) rfl,?_⟩
    walk_at "d"
    refine⟨_,rfl,rfl,_,rfl,ite2 (fun h=>absurd h (by decide+kernel)) (fun _=>?_)⟩
    refine⟨_,rfl,rfl,_,rfl,ite2 (fun _=>?_) (fun h=>absurd (by decide+kernel) h)⟩
    refine⟨_,rfl,a,_,_,u,rfl,rfl,ha,qW (j:=1) rfl,zl2,fun t ht=>?_⟩
    have g1:Grow H (upd H t (.tup [.str "list",u])):=Grow.put ht
    exact q _ _ g1.b ((hpr.mono g1).le (by omega)) (wH (zB.of qJ) (hx.mono g1.same))
   |let_ x p1 p2=>
    obtain⟨fdg,y3,y4,y5⟩:=GL
    obtain⟨a,v0,v1,v2,rfl,ha,hx,hv1,hv2⟩:=wF hp
    refine⟨_,rfl,a,_,_,.str "let",rfl,rfl,ha,qW (j:=0) rfl,?_⟩
    walk_at "d"
    refine⟨_,rfl,rfl,_,rfl,ite2 (fun h=>absurd h (by decide+kernel)) (fun _=>?_)⟩
    refine⟨_,rfl,rfl,_,rfl,ite2 (fun h=>absurd h (by decide+kernel)) (fun _=>?_)⟩
    refine⟨_,rfl,_,_,_,rfl,rfl,T1,_,rfl,?_⟩
    rw[xY (i:=0) (by decide+kernel) (by show 0<3;decide)]
    refine jC ⟨_,rfl,_,_,_,_,rfl,rfl,T1,qS (i:=0) (by decide+kernel) rfl,fL,fdg,_,_,[],[],E0,_,rfl,y3,hr,y4,y5,.nil,zD,_,rfl,_,rfl,_,rfl,?_⟩
    exact⟨_,sc,pr,_,Γ,κ,m,c,rfl,hp,⟨hd,x,p1,p2,rfl⟩,hh,hs,hm,hpr,hc,q⟩
   |fn x k p2=>
    obtain⟨fdg,y3,y4,y5⟩:=GN
    obtain⟨a,v0,v1,v2,rfl,ha,hx,hv1,hv2⟩:=wF hp
    refine⟨_,rfl,a,_,_,.str "fn",rfl,rfl,ha,qW (j:=0) rfl,?_⟩
    walk_at "d"
    refine⟨_,rfl,rfl,_,rfl,ite2 (fun h=>absurd h (by decide+kernel)) (fun _=>?_)⟩
    refine⟨_,rfl,rfl,_,rfl,ite2 (fun h=>absurd h (by decide+kernel)) (fun _=>?_)⟩
    refine⟨_,rfl,_,_,_,rfl,rfl,T1,_,rfl,?_⟩
    rw[xY (i:=1) (by decide+kernel) (by show 1<3;decide)]
    refine jC ⟨_,rfl,_,_,_,_,rfl,rfl,T1,qS (i:=1) (by decide+kernel) rfl,fN,fdg,_,_,[],[],E0,_,rfl,y3,hr,y4,y5,.nil,zD,_,rfl,_,rfl,_,rfl,?_⟩
    exact⟨_,sc,pr,_,Γ,κ,m,c,rfl,hp,⟨hd,x,k,p2,rfl⟩,hh,hs,hm,hpr,hc,q⟩
   |rc g x k l p2=>
    obtain⟨fdg,y3,y4,y5⟩:=GE
    obtain⟨a,v0,v1,v2,v3,v4,rfl,ha,_⟩:=tF hp
    refine⟨_,rfl,a,_,_,.str "rec",rfl,rfl,ha,qW (j:=0) rfl,?_⟩
    walk_at "d"
    refine⟨_,rfl,rfl,_,rfl,ite2 (fun h=>absurd h (by decide+kernel)) (fun _=>?_)⟩
    refine⟨_,rfl,rfl,_,rfl,ite2 (fun h=>absurd h (by decide+kernel)) (fun _=>?_)⟩
    refine⟨_,rfl,_,_,_,rfl,rfl,T1,_,rfl,?_⟩
    rw[xY (i:=2) (by decide+kernel) (by show 2<3;decide)]
    refine jC ⟨_,rfl,_,_,_,_,rfl,rfl,T1,qS (i:=2) (by decide+kernel) rfl,fR,fdg,_,_,[],[],E0,_,rfl,y3,hr,y4,y5,.nil,zD,_,rfl,_,rfl,_,rfl,?_⟩
    exact⟨_,sc,pr,_,Γ,κ,m,c,rfl,hp,⟨hd,g,x,k,l,p2,rfl⟩,hh,hs,hm,hpr,hc,q⟩
end
end K23
namespace L2
open PySem PySem.Spec PyProof.Rows PyProof Dt
section
variable {prog:Program} {w:World} {A:Around} {E:Value->Shared->Prop} {s:Shared}
theorem qPz{T newId:String}{self:Value}{rest:List Value}{kw:List (Str×Value)}(hl:typeLookup (.type T) "__init__"=pure (some (.builtin "object.__init__")))
  (hm:Bind.madeBy (.type T)=pure (some newId))(hne:(some newId !=some "object.__new__")=true):
  Meets (Builtin.«object.__init__» ⟨self::rest,kw⟩) (fun _ R s=>s.TypeIs self T/\R (.ok (.ret .none)) s):=by
 refine Meets.of_wp fun prog w A R s hs=>?_
 obtain⟨hT,hq⟩:=hs
 cases rest with
 |nil=>
  cases kw with
  |nil=>exact wpAny_pure ⟨_,rfl,hq⟩
  |cons p q=>
   repeat (any_goals (first|assumption|wp_step))
   exact⟨_,rfl,hq⟩
 |cons a rest=>
  repeat (any_goals (first|assumption|wp_step))
  exact⟨_,rfl,hq⟩
theorem qPj{T newId:String}{Bn:Builtin}{args:List Value}{kw:List (Str×Value)}{S:PySem.Spec}{Q:Value->Shared->Prop}(ft:TypeCalled T newId "object.__init__")
  (hne:(some newId !=some "object.__new__")=true)(hct:checkTypeCall T ⟨args,kw⟩=pure ())(hcn:checkBuiltinCall newId ⟨.type T::args,kw⟩=pure ())
  (hok:∀obj,argsOk "object.__init__" ⟨obj::args,kw⟩)(entryN:entryFor table newId=some Bn)(g:Meets (Bn ⟨.type T::args,kw⟩) S)
  (h:S A.in1 (wants (fun obj s₁=>s₁.TypeIs obj T/\Q obj s₁) E) s):wpAny (model prog w) A (call (.type T) args kw) Q E s:=by
 obtain⟨c,tl,hmro⟩:=ft.mro
 have hmade:=ft.made
 have hsub:=ft.sub
 refine wpAny_call (codeAny_of_tree ?_)
 show wpAny _ _ (callAny (.type T) _) _ _ _
 refine wpAny_pure ⟨Code.quiet_builtin _ (by decide+kernel),codeAny_builtin PySem.F.entry_type_call ?_⟩
 rw[Around.under_plain (weight_type_call_type T args kw) (units_type_call_type T args kw)]
 have h1:=ft.notType
 have h2:=ft.canCreate
 repeat (any_goals (first|assumption|wp_step))
 refine codeAny_mono (codeAny_call_builtin ft.plain entryN (wpAny_of_eq hcn (g prog w A.in1 _ s h))) fun r s₁ hr=>?_
 cases r with
 |error e=>exact hr
 |ok fl=>
  cases fl with
  |ret obj=>
   obtain⟨hT,hq⟩:=hr
   have hli:=ft.init.lookup
   have hbi:=ft.init.bind obj
   repeat (any_goals (first|assumption|wp_step))
   refine codeAny_mono (codeAny_call_builtin ft.init.plain PySem.F.entry_object_init (ft.init.check _ _ _ _ _ _ _ _ hT (hok obj) (qPz ft.init.lookup ft.made hne prog w A.in1 (wants (fun r s₂=>r= .none/\Q obj s₂) E) s₁ ⟨hT,rfl,hq⟩))) fun r₂ s₂ hr₂=>?_
   cases r₂ with
   |error e=>exact hr₂
   |ok fl₂=>
    cases fl₂ with
    |ret r=>
     obtain⟨rfl,hq⟩:=hr₂
     repeat (any_goals (first|assumption|wp_step))
    |_=>exact hr₂.elim
  |_=>exact hr.elim
theorem fQ(l:Addr)(items:Array Value)(n:Nat)(dct:Option Addr)(sl:Array (Option Value))(t:Tok):
  Meets (Builtin.«enumerate.__new__» ⟨[.type "enumerate",.ref l],[("start",.int 1 t)]⟩) (fun _ R s=>s.heap.get? l=some {cls:=.type "list",dict:=dct,data:=.seq items n,slots:=sl}/\
   R (.ok (.ret (.ref (s.heap.push {cls:=.type "list_iterator",data:=.fields #[.ref l,.int 0 0]}).objs.size)))
    {s with heap:=(s.heap.push {cls:=.type "list_iterator",data:=.fields #[.ref l,.int 0 0]}).push {cls:=.type "enumerate",data:=.fields #[.none,.bool false,.ref s.heap.objs.size,rawInt 1,.none,.none]}}):=
 .of_wp fun prog w A R s h=>by
  obtain⟨hp,g,d,tk,os⟩:=s;obtain⟨hl,h⟩:=h
  have hsub:=sub_enumerate
  have hL:Heap.IsList (Shared.heap ⟨hp,g,d,tk,os⟩) l items:=⟨_,hl,rfl,n,rfl⟩
  wp_walk using AutoSeq1.wpAny_loadPart' hl
  refine wpAny_stack_any fun st=>wpAny_pure ?_
  split
  ·rename_i c _ _ _ _ _
   cases (c==Value.type "enumerate")
   ·wp_walk using AutoSeq1.wpAny_loadPart' hl,wpAny_pyIter_list hL
    exact⟨_,rfl,h⟩
   ·wp_walk using AutoSeq1.wpAny_loadPart' hl,wpAny_pyIter_list hL
    exact⟨_,rfl,h⟩
  ·wp_walk using AutoSeq1.wpAny_loadPart' hl,wpAny_pyIter_list hL
   exact⟨_,rfl,h⟩
theorem qJ0(a b:Value):checkTypeCall "enumerate" ⟨[a],[("start",b)]⟩=pure ():=by kernel_rfl
theorem qO5(a b:Value):checkBuiltinCall "enumerate.__new__" ⟨[.type "enumerate",a],[("start",b)]⟩=pure ():=by kernel_rfl
theorem rV(a b c:Value):argsOk "object.__init__" ⟨[a,b],[("start",c)]⟩:=by
 unfold argsOk;rw[signature?_of (id:="object.__init__") (n:=['_','_','t','i','n','i','_','_']) (o:=['t','c','e','j','b','o']) (by kernel_rfl) PySem.F.owner_object];kernel_rfl
theorem rW{l:Addr}{items:Array Value}{t:Tok}{Q:Value->Shared->Prop}(hL:s.heap.IsList l items)
  (h:∀h',IsEnum h' (s.heap.objs.size+1) s.heap.objs.size 1 .none->h'.IsListIter s.heap.objs.size l 0->
   (∀b o,s.heap.get? b=some o->h'.get? b=some o)->Q (.ref (s.heap.objs.size+1)) {s with heap:=h'}):
  wpAny (model prog w) A (call (.type "enumerate") [.ref l] [("start",.int 1 t)]) Q E s:=by
 obtain⟨⟨c,dct,dt,sl⟩,hl,hc,n,hd⟩:=hL
 replace hc:c= .type "list":=hc
 replace hd:dt= .seq items n:=hd
 subst hc hd
 refine qPj PySem.F.called_enumerate (by decide) (qJ0 _ _) (qO5 _ _) (fun obj=>rV obj _ _) PySem.F.entry_enumerate_new
  (fQ l items n dct sl t) ⟨hl,?_⟩
 have hz:(s.heap.push {cls:=.type "list_iterator",data:=.fields #[.ref l,.int 0 0]}).objs.size=s.heap.objs.size+1:=Heap.size_push ..
 show _/\_
 rw[hz]
 have he:IsEnum ((s.heap.push {cls:=.type "list_iterator",data:=.fields #[.ref l,.int 0 0]}).push
   {cls:=.type "enumerate",data:=.fields #[.none,.bool false,.ref s.heap.objs.size,rawInt 1,.none,.none]}) (s.heap.objs.size+1) s.heap.objs.size 1 .none:=by
  have :=aq14 (s.heap.push {cls:=.type "list_iterator",data:=.fields #[.ref l,.int 0 0]})
   (o:={cls:=.type "enumerate",data:=.fields #[.none,.bool false,.ref s.heap.objs.size,rawInt 1,.none,.none]}) rfl
  rw[hz]at this;exact this
 exact⟨⟨_,he,rfl⟩,h _ he ⟨_,aq13 _ (aq14 _ rfl),rfl,rfl⟩ fun b o x=>aq13 _ (aq13 _ x)⟩
theorem draws1(hh:A.handled=none)(it l:Addr)(hne:l≠it)(items:Array Value):
  Draws prog w A it [it,l] (items.size+1) (fun i v=>∃j,i=j+1/\items[j]? =some v) (fun i h=>∃j,i=j+1/\h.IsListIter it l j/\h.IsList l items):=by
 have D:=Draws.list (prog:=prog) (w:=w) hh it l hne items
 exact {
  live:=fun i h⟨j,_,st⟩=>D.live j h st
  frame:=fun i h h'⟨j,e,st⟩hk=>⟨j,e,D.frame j h h' st hk⟩
  item:=fun i s Q E hi⟨j,e,st⟩hQ=>D.item j s Q E (by omega) st fun x h' tk p st' sb=>hQ x h' tk ⟨j,e,p⟩ ⟨j+1,by omega,st'⟩ sb
  done:=fun s Q E⟨j,e,st⟩hE=>D.done s Q E (by have :j=items.size:=(by omega);exact this▸st) hE}
theorem qJ1(hh:A.handled=none)(it l:Addr)(items:Array Value)(i:Nat)(hi:items[i]? =none):
  Draws prog w A it [it,l] (i+1) (fun _ _=>False) (fun k h=>k=i+1/\h.IsListIter it l i/\h.IsList l items)where
 live:=fun _ _ st=>let⟨o,ho,_⟩:=st.2.1;⟨o,ho⟩
 frame:=fun _ _ _ st hk=>⟨st.1,st.2.1.at fun o e=>hk it (by simp) o e,st.2.2.at fun o e=>hk l (by simp) o e⟩
 item:=fun k s Q E hk st hQ=>by have :=st.1;omega
 done:=fun s Q E st hE=>wpAny_nextOf_list_end hh st.2.1 st.2.2 hi hE
end
section
variable {M:Model} {A:Around} {E:Value->Shared->Prop} {s:Shared} {env:Env}
theorem nW{pos:Pos}{T:String}{e:Expr}{rest:List Expr}{kws:List Keyword}{Q:Value->Shared->Prop}
  (h:wpAny M A (spliced (backTo pos (starEach (e::rest) env))) (fun vs s₁=>wpAny M A (evalAll ((backToKw pos (keywordEach kws env)).map (·.2)))
   (fun kvs s₂=>wpAny M A (call (.type T) vs (((backToKw pos (keywordEach kws env)).filterMap (·.1)).zip kvs)) Q E s₂) E s₁) E s)
  (he:backTo pos (starEach (e::rest) env)=(false,eval e env)::backTo pos (starEach rest env):=by rfl)
  (hplain:(backTo pos (starEach (e::rest) env)).any (·.1)=false:=by rfl)
  (hall:(backToKw pos (keywordEach kws env)).all (·.1.isSome)=true:=by rfl)
  (hkw:(backToKw pos (keywordEach kws env)).any (·.1.isNone)=false:=by rfl):
  wpAny M A (callWith pos (.type T) [] (backTo pos (starEach (e::rest) env)) (backToKw pos (keywordEach kws env))) Q E s:=by
 have h2:wpAny M A (evalArgs (.type T) true (backTo pos (starEach (e::rest) env)) (backToKw pos (keywordEach kws env))) (fun a s₁=>wpAny M A (call (.type T) ([]++a.pos) a.kw) Q E s₁) E s:=by
  rw[he]at h⊢
  exact evalArgs_kwB hall h
 unfold callWith
 refine wpAny_bind (wpAny_holding (wpAny_mono h2 (fun a s₁ h₁=>wpAny_bind (wpAny_standAt ?_)) fun _ _ x=>x))
 simp only[hplain,hkw,Bool.or_false]
 refine wpAny_bind (wpAny_pure ?_)
 exact wpAny_bind (wpAny_mono h₁ (fun r s₂ hr=>wpAny_bind (wpAny_holding (wpAny_point (wpAny_pure hr)))) fun _ _ x=>x)
end
def Ite1(K:Fg)(l:Addr):It:=⟨fun i H=>∃xs x,zS K H l xs/\xs[i]? =some x,
 fun i H v H'=>∃T x,H T=none/\v= .ref T/\H'=upd H T (.tup [.int (i+1:Nat),x])/\∀ys,zS K H l ys->ys[i]? =some x,
 fun i H=>∃xs,zS K H l xs/\xs.length<=i⟩
theorem rY{P:Program}{w:World}{K:Fg}{es:List Expr}{k0}{pos:Pos}(l e it:Addr)(ne:e≠it):Turn P w K (.Tuple es k0 pos) (Ite1 K l) [e,it] e (fun i h=>(∃old,IsEnum h e it (i+1:Nat) old)/\h.IsListIter it l i)where
 mem:=by simp
 obj:=fun i h st b hb=>by
  obtain⟨⟨old,e1⟩,o,e2,c2,d2⟩:=st
  rcases List.mem_cons.mp hb with z|z
  ·rw[z];exact⟨_,e1,fun v z=>by cases z⟩
  ·rw[aq20.mp z];exact⟨o,e2,fun v z=>by rw[d2]at z;cases z⟩
 keep:=fun i h h' st k=>⟨st.1.imp fun old q=>k e (by simp) _ q,st.2.at fun o q=>k it (by simp) o q⟩
 item:=by
  intro X hP hw hK hc i pins s σ H E I hf st hg
  subst hP hw hK
  obtain⟨xs,x,hq,hx⟩:=hg
  obtain⟨its,rv,p,hz⟩:=I.list hq
  obtain⟨⟨old,e1⟩,e2⟩:=st
  have pL:=p.isList
  have hli:l≠it:=by
   obtain⟨o,q,c,_⟩:=e2
   obtain⟨o',q',c',_⟩:=pL
   intro z;subst z
   rw[q]at q';cases q';rw[c]at c';exact absurd (Value.type.inj c') (by decide)
  have hle:e≠l:=by
   obtain⟨o',q',c',_⟩:=pL
   intro z;subst z
   rw[e1]at q';cases q';exact absurd (Value.type.inj c') (by decide)
  have hlen:i<its.length:=by
   have :=rv.length
   rcases Nat.lt_or_ge i xs.length with h|h
   ·omega
   ·rw[List.getElem?_eq_none h]at hx;cases hx
  refine wpAny_pyNext_enum_itemD (draws1 (A:=X.A.in1) (I.ok.hd hc) it l hli its.toArray) e1 ⟨i,rfl,e2,p.isList⟩ (by simp;exact hlen) ne (by simp;exact⟨ne,hle⟩) fun u h1 tk⟨j,ej,hu⟩o1 i1 t1 z1 k1=>⟨_,rfl,wpAny_letOwnedTupleGo_enum o1 fun h2 o2 b2=>?_⟩
  have ej':j=i:=by omega
  subst ej'
  obtain⟨j2,ej2,i1,_⟩:=i1
  have ej2':j2=j+1:=by omega
  subst ej2'
  obtain⟨u',hu',ru⟩:=rv.get hx
  have eu:u'=u:=by
   have :its[j]? =some u:=by simpa using hu
   rw[hu']at this;exact Option.some.inj this
  subst eu
  have e3:e≠s.heap.objs.size:=uV e1
  have e4:it≠s.heap.objs.size:=by obtain⟨o,q,_⟩:=e2;exact uV q
  have nT:H s.heap.objs.size=none:=I.hok.fresh (aq7 _)
  have t2:h2.get? s.heap.objs.size=some {cls:=.type "tuple",data:=.seq #[.int (j+1:Nat) tk,u']}:=(b2.2 _ (Ne.symm e3)).trans t1
  have I1:Inv X pins σ (upd H s.heap.objs.size (.tup [.int (j+1:Nat),x])) {s with heap:=s.heap.push {cls:=.type "tuple",data:=.seq #[.int (j+1:Nat) tk,u']},toks:=tk+1}:=
   I.laid (fun b v q=>aq13 _ q) (aq7 _) ⟨by show 2<=sizeLine;decide,[.int (j+1:Nat) tk,u'],.cons ⟨_,rfl⟩ (.cons ru .nil),⟨_,aq14 _ rfl,rfl,_,rfl⟩⟩
  have I2:Inv X pins σ (upd H s.heap.objs.size (.tup [.int (j+1:Nat),x])) {s with heap:=h2,toks:=tk+1}:=by
   refine Inv.turnedL (s:={s with heap:=s.heap.push {cls:=.type "tuple",data:=.seq #[.int (j+1:Nat) tk,u']},toks:=tk+1}) (ch:=[e,it]) (t':=tk+1) I1 (fun b o hb q=>?_) fun b hb=>?_
   ·have b1:b≠e:=fun z=>hb (by simp[z])
    have b3:b≠it:=fun z=>hb (by simp[z])
    by_cases bT:b=s.heap.objs.size
    ·subst bT
     have z:(s.heap.push {cls:=.type "tuple",data:=.seq #[.int (j+1:Nat) tk,u']}).get? s.heap.objs.size=some _:=aq14 _ rfl
     rw[z]at q
     exact t2.trans q
    ·have q':s.heap.get? b=some o:=by rw[<-q];exact(Heap.get?_push_ne _ _ _ bT).symm
     exact(b2.2 b b1).trans (k1 b o b1 b3 q')
   ·obtain⟨f0,f1⟩:=hf b hb
    refine⟨?_,f1⟩
    rw[qL ?_]
    ·exact f0
    ·rcases List.mem_cons.mp hb with z|z
     ·rw[z];exact e3
     ·rw[aq20.mp z];exact e4
  refine⟨.ref s.heap.objs.size,_,I2,rfl,⟨s.heap.objs.size,x,nT,rfl,rfl,fun ys hy=>by rw[I.list_inj hy hq];exact hx⟩,⟨⟨u',by simpa using o2⟩,i1.at fun o q=>(b2.2 it (Ne.symm ne)).trans q⟩,fun b hb=>?_⟩
  rw[qL ?_]
  ·exact(hf b hb).1
  ·rcases List.mem_cons.mp hb with z|z
   ·rw[z];exact e3
   ·rw[aq20.mp z];exact e4
 done:=by
  intro X hP hw hK hc i pins s σ H E I hf st hg
  subst hP hw hK
  obtain⟨xs,hq,hx⟩:=hg
  obtain⟨its,rv,p,hz⟩:=I.list hq
  have hl:=rv.length
  obtain⟨⟨old,e1⟩,e2⟩:=st
  exact wpAny_pyNext_enum_endD (qJ1 (A:=X.A.in1) (I.ok.hd hc) it l its.toArray i (by simp;omega)) e1 ⟨rfl,e2,p.isList⟩ fun h' eb=>⟨rfl,I.turnedL (t':=s.toks) (ch:=[e,it]) (fun b o hb q=>eb b o (fun z=>hb (by simp[z])) q) hf⟩
 self:=fun _ _ _ _ _ st h=>let⟨⟨_,e1⟩,_⟩:=st;wpAny_pyIter_enum e1 h
def zU0(K:Fg)(ta:TA):TI:=fun σ H R=>ta σ H fun vs H1=>∃l,vs=[.ref l]/\(∃xs,zS K H1 l xs)/\R (Ite1 K l) H1
theorem qO6{X:Cx}{a:Expr}{ta:TA}{p pos p2 kp p3:Pos}{j:Nat}{es:List Expr}{k0}(hg:Gl X "enumerate")(hm:X.mg "enumerate"=none)(ha:PA X [a] ta)
  (he:backTo pos (starEach [a] X.env)=[(false,eval a X.env)]:=by rfl)
  (hk:eval (.Call (.Name "enumerate" p) [a] [⟨some "start",.Constant (.int 1) j p3,kp⟩] pos) X.env=(do callWith pos (<-eval (.Name "enumerate" p) X.env) [] (backTo pos (starEach [a] X.env)) (backToKw pos (keywordEach [⟨some "start",.Constant (.int 1) j p3,kp⟩] X.env))):=by rfl):
  PI X (.Tuple es k0 p2) (.Call (.Name "enumerate" p) [a] [⟨some "start",.Constant (.int 1) j p3,kp⟩] pos) (zU0 X.K ta):=by
 intro pins s σ H R I h
 rw[hk]
 refine wpAny_bind (vR I hg hm boot_enumerate (nW (thn (ha pos pins s σ H _ I h) fun us s1⟨vs,H1,I1,r1,q1⟩=>?_) he (by rw[he];rfl)))
 obtain⟨l,rfl,⟨xs,hq⟩,q⟩:=q1
 obtain⟨u,rfl,ru⟩:=vals1 r1
 cases ru
 refine kws_cons (wpAny_Constant_int (kws_nil ?_))
 have I2:=I1.tok (s1.toks+1)
 obtain⟨its,rv,pl,hz⟩:=I2.list hq
 refine rW pl.isList fun h' e1 e2 kp=>wpAny_pyIter_enum e1 ?_
 refine⟨_,[s1.heap.objs.size+1,s1.heap.objs.size],_,_,H1,rfl,I2.kept (t':=s1.toks+1) kp,rY l _ _ (Nat.succ_ne_self _),⟨⟨_,e1⟩,e2⟩,fun b hb=>?_,q⟩
 have hb':s1.heap.objs.size<=b:=by
  rcases List.mem_cons.mp hb with z|z
  ·rw[z];exact Nat.le_succ _
  ·rw[aq20.mp z];exact aq7 _
 exact I1.fpOk hb' (I1.hok.fresh hb')
theorem qJ2{K:Fg}{l:Addr}{xs:List V}{g:TG}{tb:TS}{D:Ends}{σ:St}{H:Hp}(Pv:Nat->St->Hp->Prop)(h0:Pv 0 σ H)(hl:∀i σ H,i<=xs.length->Pv i σ H->zS K H l xs)
  (hs:∀i x T σ H,xs[i]? =some x->Pv i σ H->H T=none->g (.ref T) σ (upd H T (.tup [.int (i+1:Nat),x])) fun σ2 H2=>tb {D with nx:=Pv (i+1),ct:=Pv (i+1),bk:=D.nx} σ2 H2)(hd:∀σ H,Pv xs.length σ H->D.nx σ H):
  ∃W:Nat->Nat->St->Hp->Prop,(∃m,W 0 m σ H)/\∀i m σ H,W i m σ H->
   ((Ite1 K l).stop i H/\D.nx σ H)\/((Ite1 K l).go i H/\∃N:St->Hp->Prop,(∀σ' H',N σ' H'->∃m',m'<m/\W (i+1) m' σ' H')/\∀x H',(Ite1 K l).yld i H x H'->g x σ H' fun σ2 H2=>tb {D with nx:=N,ct:=N,bk:=D.nx} σ2 H2):=by
 refine⟨fun i m σ H=>m=xs.length-i/\i<=xs.length/\Pv i σ H,⟨xs.length,by simp,Nat.zero_le _,h0⟩,?_⟩
 rintro i m σ H ⟨rfl,hi,p⟩
 have q:=hl i σ H hi p
 by_cases hlt:i<xs.length
 ·refine .inr ⟨⟨xs,xs[i],q,aq15 hlt⟩,Pv (i+1),fun σ' H' p'=>⟨xs.length-(i+1),by omega,rfl,hlt,p'⟩,fun x H' y=>?_⟩
  obtain⟨T,z,hT,rfl,rfl,hz⟩:=y
  exact hs i z T σ H (hz xs q) p hT
 ·have e:i=xs.length:=by omega
  subst e
  exact .inl ⟨⟨xs,q,aq7 _⟩,hd σ H p⟩
theorem zJ6{P:Program}{w:World}{k:Key}{u:Value}(h:(jU P w).is k u=true):zG (kV k) u:=by
 rw[pO]at h
 cases k with
 |inl i=>obtain⟨t,rfl⟩:=Value.isInt_shape h;exact⟨t,rfl⟩
 |inr x=>obtain⟨t,rfl⟩:=Value.isStrOf_shape h;exact⟨t,rfl⟩
theorem qJ3{P:Program}{w:World}{kvs:List (Key×V)}{vs:List (Key×Value)}(r:KV kvs vs):∀{us:List Value},us.length=vs.length->(∀(j:Nat)u,us[j]? =some u->∃k x,vs[j]? =some (k,x)/\(jU P w).is k u=true)->Vals (kvs.map fun p=>kV p.1) us:=by
 induction r with
 |nil=>
  intro us hl _
  cases us with
  |nil=>exact .nil
  |cons _ _=>simp at hl
 |cons e _ ih=>
  intro us hl h
  cases us with
  |nil=>simp at hl
  |cons u us=>
   obtain⟨k,x,h1,h2⟩:=h 0 u rfl
   have h1':=Option.some.inj h1
   refine .cons ?_ (ih (by simpa using hl) fun j v hv=>h (j+1) v (by simpa using hv))
   have e1:=e.1
   rw[h1']at e1
   show zG (kV _) u
   rw[e1]
   exact zJ6 h2
theorem rO{X:Cx}(hc:X.calm=true):kP X (.type "list") (fun xs H Q=>∃a kvs,xs=[V.ref a]/\H a=some (.dK kvs)/\∀l,H l=none->Q (.ref l) (upd H l (.lst (kvs.map fun p=>kV p.1)))):=by
 intro pins s σ H xs us Q I r h
 obtain⟨a,kvs,rfl,ha,q⟩:=h
 obtain⟨u,rfl,rx⟩:=vals1 r
 cases rx
 obtain⟨hz,lo,vs,rv,hD⟩:kvs.length<=sizeLine/\(a==sysModules)=false/\∃vs,KV kvs vs/\s.heap.DictOf (jU X.prog X.w) a vs:=I.hok a _ ha
 obtain⟨ep,hat⟩:=hD.dictAt
 have hl:kvs.length=vs.length:=Paired.length rv
 refine PySem.W.kdl_call (PySem.W.kdl_dict (knd:=jU X.prog X.w) (kvs:=vs) (ep:=ep) lo) (I.ok.hd hc) hat (by omega) fun h' tk acc c kp e hacc=>?_
 refine⟨.ref s.heap.objs.size,_,I.laid (t':=tk) kp (aq7 _) (show jP X.prog X.w _ h' _ (.lst (kvs.map fun p=>kV p.1))from⟨by simpa using hz,acc.toList,c,qJ3 rv (by rw[Array.length_toList];exact hacc.1) (fun j u hu=>hacc.2 j u (by rw[<-Array.getElem?_toList];exact hu)),by simpa using e⟩),rfl,q _ (I.hok.fresh (aq7 _))⟩
end L2
namespace K23
open PySem L2 PyProof Dt
abbrev sON:Stmt:=top 77
def Pt.names:Pt->List Str
 | .let_ x _ _=>[x]| .fn x _ _=>[x]| .rc f x _ _ _=>[f,x]
 |_=>[]
def yI:Pt->Bool
 | .nam _=>true
 |_=>false
theorem zU1:zI "let"=(["name","part","part"]:List Str):=by decide+kernel
theorem zF6:zI "fn"=(["name","kind","part"]:List Str):=by decide+kernel
theorem zU2:zI "rec"=(["name","name","kind","kind","part"]:List Str):=by decide+kernel
theorem zU3:zI "nil"=(["kind"]:List Str):=by decide+kernel
theorem zU4:¬(("name":Str)="part"):=by decide+kernel
theorem zU5:¬(("kind":Str)="part"):=by decide+kernel
theorem nY:¬(("part":Str)="name"):=by decide+kernel
theorem zU6:¬(("kind":Str)="name"):=by decide+kernel
theorem fZ{p:Pt}(hp:yI p=false)(x:Str):p.fv x↔∃(i:Nat)(q:Pt),(Pt.parts p)[i]? =some q/\q.fv x/\(i+1<(Pt.parts p).length\/x∉Pt.names p):=by
 have c1:∀(q:Pt),(∃(i:Nat)(r:Pt),[q][i]? =some r/\r.fv x/\(i+1<[q].length\/x∉Pt.names p))↔q.fv x/\x∉Pt.names p:=fun q=>by
  constructor
  ·rintro⟨i,r,h1,h2,h3⟩
   match i,h1 with
   |0,h1=>cases h1;exact⟨h2,h3.elim (fun z=>absurd z (by simp)) id⟩
   |i+1,h1=>simp at h1
  ·rintro⟨h1,h2⟩
   exact⟨0,q,rfl,h1,.inr h2⟩
 cases p with
 |nam y=>cases hp
 |num n=>simp[Pt.fv,Pt.parts]
 |tru n=>simp[Pt.fv,Pt.parts]
 |nil n=>simp[Pt.fv,Pt.parts]
 |one u p=>rw[show Pt.parts (.one u p)=[p]from rfl,c1];simp[Pt.fv,Pt.names]
 |fn y k p=>rw[show Pt.parts (.fn y k p)=[p]from rfl,c1];simp[Pt.fv,Pt.names]
 |rc g y k l p=>rw[show Pt.parts (.rc g y k l p)=[p]from rfl,c1];simp[Pt.fv,Pt.names]
 |two u p q=>
  rw[show Pt.parts (.two u p q)=[p,q]from rfl]
  constructor
  ·rintro(h|h)
   ·exact⟨0,p,rfl,h,.inl (by simp)⟩
   ·exact⟨1,q,rfl,h,.inr (by simp[Pt.names])⟩
  ·rintro⟨i,r,h1,h2,h3⟩
   match i,h1 with
   |0,h1=>cases h1;exact .inl h2
   |1,h1=>cases h1;exact .inr h2
   |i+2,h1=>simp at h1
 |let_ y p q=>
  rw[show Pt.parts (.let_ y p q)=[p,q]from rfl]
  constructor
  ·rintro(h|h)
   ·exact⟨0,p,rfl,h,.inl (by simp)⟩
   ·exact⟨1,q,rfl,h.1,.inr (by simp[Pt.names,h.2])⟩
  ·rintro⟨i,r,h1,h2,h3⟩
   match i,h1 with
   |0,h1=>cases h1;exact .inl h2
   |1,h1=>cases h1;exact .inr ⟨h2,by simpa[Pt.names]using h3⟩
   |i+2,h1=>simp at h1
 |ite p q r=>
  rw[show Pt.parts (.ite p q r)=[p,q,r]from rfl]
  constructor
  ·rintro(h|h|h)
   ·exact⟨0,p,rfl,h,.inl (by simp)⟩
   ·exact⟨1,q,rfl,h,.inl (by simp)⟩
   ·exact⟨2,r,rfl,h,.inr (by simp[Pt.names])⟩
  ·rintro⟨i,r',h1,h2,h3⟩
   match i,h1 with
   |0,h1=>cases h1;exact .inl h2
   |1,h1=>cases h1;exact .inr (.inl h2)
   |2,h1=>cases h1;exact .inr (.inr h2)
   |i+3,h1=>simp at h1
theorem qJ4{p:Pt}(hp:yI p=false):szs (Pt.parts p)<=p.sz/\∀q∈Pt.parts p,q.deep<p.deep:=by
 cases p with
 |num n=>simp[Pt.parts,szs,Pt.sz]
 |tru b=>simp[Pt.parts,szs,Pt.sz]
 |nil _=>simp[Pt.parts,szs,Pt.sz]
 |nam _=>cases hp
 |one o p=>simp[Pt.parts,szs,Pt.sz,Pt.deep]
 |two o p q=>simp[Pt.parts,szs,Pt.sz,Pt.deep];omega
 |ite p q r=>simp[Pt.parts,szs,Pt.sz,Pt.deep];omega
 |let_ _ _ _=>simp[Pt.parts,szs,Pt.sz,Pt.deep];omega
 |fn _ _ _=>simp[Pt.parts,szs,Pt.sz,Pt.deep]
 |rc _ _ _ _ _=>simp[Pt.parts,szs,Pt.sz,Pt.deep]
theorem zU7{p:Pt}(hp:yI p=false):decide (V.str (Pt.wd p)=V.str "name")=false:=by
 by_cases hpl:Pt.plain p=true
 ·exact(aQ _ (dE hpl)).1
 ·have h4:∀x∈(["nil","let","fn","rec"]:List Str),decide (V.str x=V.str "name")=false:=by decide+kernel
  refine h4 _ ?_
  cases p with
  |nam _=>cases hp
  |num _=>exact absurd rfl hpl
  |tru _=>exact absurd rfl hpl
  |one _ _=>exact absurd rfl hpl
  |two _ _ _=>exact absurd rfl hpl
  |ite _ _ _=>exact absurd rfl hpl
  |_=>simp[Pt.wd]
theorem fJ(x:Str):∀ns:List Str,pH (.str x) (ns.map V.str)=decide (x∈ns)
 |[]=>rfl
 |n::ns=>by
  have ih:=fJ x ns
  unfold pH at ih⊢
  rw[List.map_cons,List.any_cons,ih]
  by_cases h:x=n
  ·subst h;simp[eqV]
  ·simp[eqV,h]
   intro z;exact absurd z.symm h
theorem qJ5(ns:List Str):(ns.map V.str).all yO=true:=by
 rw[List.all_eq_true];intro y hy
 obtain⟨b,_,rfl⟩:=List.mem_map.mp hy
 rfl
section
variable {P:Program} {w:World} {K:Fg} {mg:Str->Option Value} {base:Heap} {f:Addr} {fd:FuncData}
theorem cY{H:Hp}{p:Pt}{v:V}(hp:yI p=false)(h:qY K H p.dt v):∃a xs,v= .ref a/\zB K H a (.str (Pt.wd p)::xs)/\xs.length<=1000/\qO K H ((Pt.parts p).map Pt.dt) (behind (zI (Pt.wd p)) xs "part")/\behind (zI (Pt.wd p)) xs "name"=(Pt.names p).map V.str:=by
 by_cases hpl:Pt.plain p=true
 ·obtain⟨a,xs,rfl,h1,h2,h3⟩:=cW hpl h
  refine⟨a,xs,rfl,h1,h2,h3,?_⟩
  cases p with
  |num n=>rw[show zI (Pt.wd (.num n))=[]from qO1];rfl
  |tru n=>rw[show zI (Pt.wd (.tru n))=[]from qO2];rfl
  |one o p=>rw[show zI (Pt.wd (.one o p))=_ from zJ2 o];unfold behind;cases xs<;>simp[nY,Pt.names]
  |two o p q=>
   rw[show zI (Pt.wd (.two o p q))=_ from zJ3 o];unfold behind
   match xs with
   |[]=>simp[Pt.names]
   |[_]=>simp[nY,Pt.names]
   |_::_::_=>simp[nY,Pt.names]
  |ite p q r=>
   rw[show zI (Pt.wd (.ite p q r))=_ from zJ4];unfold behind
   match xs with
   |[]=>simp[Pt.names]
   |[_]=>simp[nY,Pt.names]
   |[_,_]=>simp[nY,Pt.names]
   |_::_::_::_=>simp[nY,Pt.names]
  |nam _=>cases hp
  |nil _=>simp[Pt.plain]at hpl
  |let_ _ _ _=>simp[Pt.plain]at hpl
  |fn _ _ _=>simp[Pt.plain]at hpl
  |rc _ _ _ _ _=>simp[Pt.plain]at hpl
 ·cases p with
  |num _=>exact absurd rfl hpl
  |tru _=>exact absurd rfl hpl
  |one _ _=>exact absurd rfl hpl
  |two _ _ _=>exact absurd rfl hpl
  |ite _ _ _=>exact absurd rfl hpl
  |nam _=>cases hp
  |nil k=>
   obtain⟨a,u,rfl,hs,h1⟩:=xF h
   refine⟨a,_,rfl,hs,by simp,?_,?_⟩<;>rw[show zI (Pt.wd (.nil k))=_ from zU3]
   ·rw[show behind (["kind"]:List Str) [u] "part"=[] by unfold behind;simp[zU5]];exact qA
   ·unfold behind;simp[zU6,Pt.names]
  |let_ x p q=>
   obtain⟨a,u,y,z,rfl,hs,hx,h1,h2⟩:=wF h
   cases jE hx
   refine⟨a,_,rfl,hs,by simp,?_,?_⟩<;>rw[show zI (Pt.wd (.let_ x p q))=_ from zU1]
   ·rw[show behind (["name","part","part"]:List Str) [.str x,y,z] "part"=[y,z] by unfold behind;simp[zU4]];exact qG h1 (qG h2 qA)
   ·unfold behind;simp[nY,Pt.names]
  |fn x k p=>
   obtain⟨a,u,y,z,rfl,hs,hx,h1,h2⟩:=wF h
   cases jE hx
   refine⟨a,_,rfl,hs,by simp,?_,?_⟩<;>rw[show zI (Pt.wd (.fn x k p))=_ from zF6]
   ·rw[show behind (["name","kind","part"]:List Str) [.str x,y,z] "part"=[z] by unfold behind;simp[zU4,zU5]];exact qG h2 qA
   ·unfold behind;simp[nY,zU6,Pt.names]
  |rc g x k l p=>
   obtain⟨a,u,y,z,z2,z3,rfl,hs,hg,hx,h1,h2,h3⟩:=tF h
   cases jE hx
   cases jE hg
   refine⟨a,_,rfl,hs,by simp,?_,?_⟩<;>rw[show zI (Pt.wd (.rc g x k l p))=_ from zU2]
   ·rw[show behind (["name","name","kind","kind","part"]:List Str) [.str g,.str x,z,z2,z3] "part"=[z3] by unfold behind;simp[zU4,zU5]];exact qG h3 qA
   ·unfold behind;simp[nY,zU6,Pt.names]
end
theorem cU(kvs:List (Key×V))(k:Key)(u:V):(k∈kvs.map Prod.fst->(vK kvs k u).map Prod.fst=kvs.map Prod.fst)/\(k∉kvs.map Prod.fst->(vK kvs k u).map Prod.fst=kvs.map Prod.fst++[k]):=by
 unfold vK
 have e:((kvs.any fun kv=>decide (kv.1=k))=true)↔k∈kvs.map Prod.fst:=by
  rw[List.any_eq_true]
  constructor
  ·rintro⟨p,hp,e⟩;exact List.mem_map.mpr ⟨p,hp,of_decide_eq_true e⟩
  ·intro h;obtain⟨p,hp,e⟩:=List.mem_map.mp h;exact⟨p,hp,decide_eq_true e⟩
 refine⟨fun h=>?_,fun h=>?_⟩
 ·rw[if_pos (e.mpr h),List.map_map]
  apply List.map_congr_left
  intro a _
  show(if a.1=k then(a.1,u)else a).1=a.1
  split<;>rfl
 ·rw[if_neg (fun z=>h (e.mp z))];simp
theorem nU{x:Str}{xs:List Str}:(Sum.inr x:Key)∈xs.map (fun y=>(Sum.inr y:Key))↔x∈xs:=by
 rw[List.mem_map]
 exact⟨fun⟨y,h,e⟩=>by cases e;exact h,fun h=>⟨x,h,rfl⟩⟩
abbrev xU(kvs:List (Key×V))(xs:List Str):Prop:=kvs.map Prod.fst=xs.map fun y=>(Sum.inr y:Key)
theorem xU.put{kvs:List (Key×V)}{acc ys:List Str}{x:Str}{u:V}(h:xU kvs (Pt.ins acc ys)):xU (vK kvs (Sum.inr x:Key) u) (Pt.ins acc (ys++[x])):=by
 unfold xU at *
 rw[Pt.ins_snoc]
 by_cases z:x∈Pt.ins acc ys
 ·rw[(cU kvs _ u).1 (by rw[h];exact nU.mpr z),if_pos z,h]
 ·rw[(cU kvs _ u).2 (by rw[h];exact fun q=>z (nU.mp q)),if_neg z,h];simp
theorem xU.strs{kvs:List (Key×V)}{xs:List Str}(h:xU kvs xs):kvs.map (fun p=>kV p.1)=xs.map V.str:=by
 have e:kvs.map (fun p=>kV p.1)=(kvs.map Prod.fst).map kV:=by rw[List.map_map];rfl
 rw[e,h,List.map_map];rfl
theorem xU.length{kvs:List (Key×V)}{xs:List Str}(h:xU kvs xs):kvs.length=xs.length:=by
 have :=congrArg List.length h
 simpa using this
theorem qJ6{p:Pt}(h:yI p=false):Pt.outs p=Pt.accs (Pt.names p) (Pt.parts p) (Pt.parts p).length:=by
 cases p with
 |nam x=>cases h
 |num n=>rfl
 |tru n=>rfl
 |nil n=>rfl
 |one u p=>simp[Pt.outs,Pt.accs,Pt.names,Pt.parts,Pt.filter_yes]
 |two u p q=>simp[Pt.outs,Pt.accs,Pt.names,Pt.parts,Pt.filter_yes]
 |ite p q r=>simp[Pt.outs,Pt.accs,Pt.names,Pt.parts,Pt.filter_yes]
 |let_ x p q=>simp[Pt.outs,Pt.accs,Pt.names,Pt.parts,Pt.filter_yes]
 |fn x k p=>simp[Pt.outs,Pt.accs,Pt.names,Pt.parts,Pt.filter_yes]
 |rc f x k l p=>simp[Pt.outs,Pt.accs,Pt.names,Pt.parts,Pt.filter_yes]
theorem fX(ns:List Str)(ps:List Pt):∀i,(Pt.accs ns ps i).length<=szs (ps.take i)
 |0=>by simp[Pt.accs]
 |i+1=>by
  have ih:=fX ns ps i
  rw[Pt.accs]
  cases e:ps[i]?with
  |none=>
   have h:ps.length<=i:=List.getElem?_eq_none_iff.mp e
   rw[List.take_of_length_le h]at ih
   rw[List.take_of_length_le (by omega)];exact ih
  |some q=>
   have h1:=Pt.length_ins (Pt.accs ns ps i) ((Pt.outs q).filter fun x=>decide (i+1<ps.length\/x∉ns))
   have h2:=List.length_filter_le (fun x=>decide (i+1<ps.length\/x∉ns)) (Pt.outs q)
   have h3:=Pt.outs_length q
   have h4:=wP _ _ _ e
   show(Pt.ins _ _).length<=_
   omega
section
variable {P:Program} {w:World} {K:Fg} {mg:Str->Option Value} {base:Heap} {f:Addr} {fd:FuncData}
inductive zJ7(K:Fg)(n:Nat)(vs:List V)(H:Hp)(Q:VK):Prop
 |mk (v:V) (p:Pt) (a_0:vs=[v]) (a_1:qY K H p.dt v) (a_2:p.deep<n) (a_3:p.sz<=50000) (a_4:∀l H',Grow H H'->H l=none->H' l=some (.lst ((Pt.outs p).map V.str))->Q (.ref l) H'):zJ7 K n vs H Q
def qJ7(K:Fg)(n:Nat):Sp:=fun vs H Q x_0=>zJ7 K n vs H Q
structure GlO(mg:Str->Option Value):Prop where
 enumerate:mg "enumerate"=none
 len:mg "len"=none
 list:mg "list"=none
theorem fK:qC ["part","found","bound","parts","place","inner","name"] ["part"] (qU sON):=by walk_at "s"
theorem zU8(F:zK K "outside_names" "outside_names" sON .none f fd):zQ P w K mg base (CXE P w) (0+2) f fd ["part"] (qJ7 K 0):=by
 refine F.ok0 fK (by walk_at "l") ?_
 walk_at "i"
 obtain⟨v,p,rfl,_,hd,_⟩:=h
 exact absurd hd (Nat.not_lt_zero _)
theorem zF7{n:Nat}(F:zK K "outside_names" "outside_names" sON .none f fd)(G:GlO mg)(GV:Kn P w K mg base 1 "values_behind" ["part","sort"] (dP K))(GB:Kn P w K mg base 2 "names_bound" ["part"] (qU4 K))(GO:Kn P w K mg base (n+2) "outside_names" ["part"] (qJ7 K n)):zQ P w K mg base (CXE P w) (n+1+2) f fd ["part"] (qJ7 K (n+1)):=by
 refine F.ok0 (k:=n+2) fK (fun vs H Q E h=>?_) (fun cdv A outer s H vs Q E hr h=>?_)
 ·obtain⟨v,p,rfl,_⟩:=h
  rfl
 ·obtain⟨v,p,rfl,hp,hd,hz,q⟩:=h
  refine⟨_,qX (zH (zZ jS (qM qP (pv 0) qV) qI (nomark _)) (qK (qB (jQ (qQ (qM qP (pv 0) qV) qZ)))) zX)
   (qX (qF (i:=1) fK.nd rfl oI wN)
   (qX (qF (i:=2) fK.nd rfl oI (zO GB (hr.mono (by omega)) (qQ (pv 0) qZ)))
   (qX (qF (i:=3) fK.nd rfl oI (zO GV (hr.mono (by omega)) (qQ (pv 0) (qQ qI qZ))))
   (qX (vS PassesOwn.never rfl (qO6 (by rfl) G.enumerate (qQ (pv 3) qZ)) (iM rfl (xN (jO (i:=4) fK.nd rfl oI) (xN (jO (i:=5) fK.nd rfl oI) yS)))
    (qK (vS PassesOwn.never rfl (iZ (zO GO hr (qQ (pv 5) qZ))) (jO (i:=6) fK.nd rfl oI)
     (qK (zH (oO (zZ oG (pv 4) (zV zR (by rfl) G.len aq27 (qQ (pv 3) qZ)) (nomark _)) (yL (zZ mO (pv 6) (pv 2) rfl))).pt
      (qK (iW (Nat.lt_of_succ_lt hr.u2) (pv 1) (pv 6) vQ rfl)) zX)))))
   (qK (qB (jB (rO rfl) (by rfl) G.list PyProof.Rows.boot_list (qQ (pv 1) qZ)))))))),?_⟩
  walk_at "e"
  by_cases hna:yI p=true
  ·cases p with
   |nam x=>
    obtain⟨a,u,rfl,ha,hx⟩:=xF hp
    cases jE hx
    refine⟨_,rfl,a,_,_,.str "name",rfl,rfl,ha,qW (j:=0) rfl,rfl,_,rfl,ite2 (fun _=>?_) (fun h=>absurd (by decide+kernel) h)⟩
    refine⟨_,rfl,a,_,_,.str x,rfl,rfl,ha,qW (j:=1) rfl,zl1,fun l hl=>?_⟩
    exact q l _ (Grow.put hl) hl qJ
   |_=>cases hna
  ·have hna':yI p=false:=by simpa using hna
   obtain⟨a,ws,rfl,ha,hws,hbe,hbn⟩:=cY hna' hp
   have w1:=zU7 hna'
   obtain⟨hsz,hdp⟩:=qJ4 hna'
   refine⟨_,rfl,a,_,_,.str (Pt.wd p),rfl,rfl,ha,qW (j:=0) rfl,rfl,_,rfl,?_⟩
   rw[w1]
   refine jJ ?_
   intro d hd1
   walk_at "d"
   have g1:Grow H (upd H d (.dK [])):=Grow.put hd1
   have e1:(upd H d (.dK [])) d=some (.dK []):=qJ
   generalize upd H d (.dK [])=H1 at g1 e1⊢
   refine⟨_,rfl,a,Pt.wd p,ws,rfl,zB.mono g1.same ha,hws,fun b H2 g2 n2 e2=>?_⟩
   rw[hbn]at e2
   walk_at "d"
   have g12:=g1.trans g2
   refine⟨_,rfl,a,"part",Pt.wd p,ws,rfl,zB.mono g12.same ha,hws,fun l0 H3 g3 n3 e3=>?_⟩
   walk_at "d"
   have g13:=g12.trans g3
   have hbe3:=hbe.mono g13.same
   generalize behind (zI (Pt.wd p)) ws "part"=zs at e3 hbe3
   have e2':=g3.same _ _ e2
   have e1':=(g2.trans g3).same _ _ e1
   have bd:b≠d:=fun z=>by rw[z,e1]at n2;cases n2
   have ld:l0≠d:=fun z=>by rw[z,g2.same _ _ e1]at n3;cases n3
   have hlen:zs.length=(Pt.parts p).length:=by rw[hbe3.length,aq16]
   refine⟨_,rfl,l0,rfl,⟨_,zS.of e3⟩,?_⟩
   refine qJ2 (K:=K) (l:=l0) (xs:=zs) (fun i σ H4=>∃o4 o5 o6 kvs,σ=[some (.ref a),some (.ref d),some (.ref b),some (.ref l0),o4,o5,o6]/\Grow H H4/\H4 b=some (.lst ((Pt.names p).map V.str))/\H4 l0=some (.lst zs)/\qO K H4 ((Pt.parts p).map Pt.dt) zs/\H4 d=some (.dK kvs)/\xU kvs (Pt.accs (Pt.names p) (Pt.parts p) i)) ?_ ?_ ?_ ?_
   ·exact⟨_,_,_,[],rfl,g13,e2',e3,hbe3,e1',rfl⟩
   ·rintro i σ H4 _ ⟨o4,o5,o6,kvs,rfl,_,_,h,_⟩
    exact zS.of h
   ·rintro i y T σ H4 hy ⟨o4,o5,o6,kvs,rfl,g4,eb,el,hds,ed,hkv⟩ hT
    obtain⟨pi,hpi⟩:∃pi,(Pt.parts p)[i]? =some pi:=by
     have :i<zs.length:=by
      rcases Nat.lt_or_ge i zs.length with h|h
      ·exact h
      ·rw[List.getElem?_eq_none h]at hy;cases hy
     exact⟨_,aq15 (by omega)⟩
    obtain⟨y',hy',hyd⟩:=hds.get (i:=i) (d:=pi.dt) (by rw[aq19,hpi];rfl)
    rw[hy]at hy'
    cases hy'
    have hst:=wP _ _ _ hpi
    have hsl:=nV (Pt.parts p) (i+1)
    have hdi:=hdp pi (aq23 hpi)
    have g5:Grow H4 (upd H4 T (.tup [.int (i+1:Nat),y])):=Grow.put hT
    refine⟨T,_,rfl,zB.of qJ,rfl,_,_,rfl,_,_,rfl,rfl,?_⟩
    walk_at "d"
    have eb5:=g5.same _ _ eb
    have el5:=g5.same _ _ el
    have ed5:=g5.same _ _ ed
    have hds5:=hds.mono g5.same
    have hyd5:=hyd.mono g5.same
    generalize upd H4 T (.tup [.int (i+1:Nat),y])=H5 at g5 eb5 el5 ed5 hds5 hyd5⊢
    refine⟨_,rfl,y,pi,rfl,hyd5,by omega,by omega,fun m H6 g6 n6 e6=>?_⟩
    have hxl:=Pt.outs_length pi
    have hal:=fX (Pt.names p) (Pt.parts p) i
    have hkl:=hkv.length
    have ea:Pt.accs (Pt.names p) (Pt.parts p) (i+1)=Pt.ins (Pt.accs (Pt.names p) (Pt.parts p) i) ((Pt.outs pi).filter fun x=>decide (i+1<(Pt.parts p).length\/x∉Pt.names p)):=by rw[Pt.accs,hpi]
    generalize Pt.outs pi=xs at e6 hxl ea
    have g06:=(g4.trans g5).trans g6
    have eb6:=g6.same _ _ eb5
    have el6:=g6.same _ _ el5
    have ed6:=g6.same _ _ ed5
    have md:m≠d:=fun z=>by rw[z,ed5]at n6;cases n6
    refine⟨m,rfl,⟨_,zS.of e6⟩,?_⟩
    refine bN (K:=K) (a:=m) (xs:=xs.map V.str) (fun k σ H7=>∃o6 kv2,σ=[some (.ref a),some (.ref d),some (.ref b),some (.ref l0),some (.int (i+1:Nat)),some y,o6]/\Grow H H7/\H7 b=some (.lst ((Pt.names p).map V.str))/\H7 l0=some (.lst zs)/\qO K H7 ((Pt.parts p).map Pt.dt) zs/\H7 m=some (.lst (xs.map V.str))/\H7 d=some (.dK kv2)/\kv2.length<=kvs.length+k/\xU kv2 (Pt.ins (Pt.accs (Pt.names p) (Pt.parts p) i) ((xs.take k).filter fun x=>decide (i+1<(Pt.parts p).length\/x∉Pt.names p)))) ?_ ?_ ?_ ?_
    ·exact⟨_,kvs,rfl,g06,eb6,el6,hds5.mono g6.same,e6,ed6,by omega,hkv⟩
    ·rintro k σ H7 _ ⟨o6,kv2,rfl,_,_,_,_,h,_⟩
     exact zS.of h
    ·rintro k z σ H7 hz' ⟨o6,kv2,rfl,g7,eb7,el7,hds7,em7,ed7,hkl7,hkv7⟩
     rw[aq19]at hz'
     obtain⟨x,hx,rfl⟩:=aq6.mp hz'
     walk_at "d"
     have hk1:k<xs.length:=(List.getElem?_eq_some_iff.mp hx).1
     have fin:∀(kv3:List (Key×V)),((i+1<(Pt.parts p).length\/x∉Pt.names p)->kv3=vK kv2 (Sum.inr x:Key) (.bl true))->(¬(i+1<(Pt.parts p).length\/x∉Pt.names p)->kv3=kv2)->kv3.length<=kvs.length+(k+1)/\xU kv3 (Pt.ins (Pt.accs (Pt.names p) (Pt.parts p) i) ((xs.take (k+1)).filter fun x=>decide (i+1<(Pt.parts p).length\/x∉Pt.names p))):=by
      intro kv3 h1 h2
      rw[List.take_add_one,hx,List.filter_append]
      by_cases hc:i+1<(Pt.parts p).length\/x∉Pt.names p
      ·rw[h1 hc]
       refine⟨by have :=kG kv2 (Sum.inr x:Key) (.bl true);omega,?_⟩
       rw[show(some x).toList.filter (fun x=>decide (i+1<(Pt.parts p).length\/x∉Pt.names p))=[x] by simp[hc]]
       exact hkv7.put
      ·rw[h2 hc]
       refine⟨by omega,?_⟩
       rw[show(some x).toList.filter (fun x=>decide (i+1<(Pt.parts p).length\/x∉Pt.names p))=[] by simp[hc],List.append_nil]
       exact hkv7
     refine⟨_,rfl,_,rfl,l0,zs,rfl,.inl (zS.of el7),_,_,rfl,rfl,_,rfl,?_⟩
     have put:∀(hc:i+1<(Pt.parts p).length\/x∉Pt.names p),zQ9 (jV 1) (jV 6) (tC (.bl true)) {nx:=fun σ H7=>∃o6 kv2,σ=[some (.ref a),some (.ref d),some (.ref b),some (.ref l0),some (.int (i+1:Nat)),some y,o6]/\Grow H H7/\H7 b=some (.lst ((Pt.names p).map V.str))/\H7 l0=some (.lst zs)/\qO K H7 ((Pt.parts p).map Pt.dt) zs/\H7 m=some (.lst (xs.map V.str))/\H7 d=some (.dK kv2)/\kv2.length<=kvs.length+(k+1)/\xU kv2 (Pt.ins (Pt.accs (Pt.names p) (Pt.parts p) i) ((xs.take (k+1)).filter fun x=>decide (i+1<(Pt.parts p).length\/x∉Pt.names p))),rt:=Q} [some (.ref a),some (.ref d),some (.ref b),some (.ref l0),some (.int (i+1:Nat)),some y,some (.str x)] H7:=by
      intro hc
      obtain⟨f1,f2⟩:=fin _ (fun _=>rfl) (fun h=>absurd hc h)
      refine⟨_,rfl,_,rfl,d,_,rfl,DPut.k (k:=Sum.inr x) ed7 (by rw[sizeLine_eq];omega),?_⟩
      have kt:jW K H7 (upd H7 d (.dK (vK kv2 (Sum.inr x:Key) (.bl true)))):=fun c us hc'=>by
       rcases hc' with(hc'|⟨o,hc'⟩)|hc'
       ·exact .inl (.inl ((qL (xO hc' ed7 (by intro z;cases z))).trans hc'))
       ·exact .inl (.inr ⟨o,(qL (xO hc' ed7 (by intro z;cases z))).trans hc'⟩)
       ·exact .inr hc'
      exact⟨_,_,rfl,g7.set hd1,(qL bd).trans eb7,(qL ld).trans el7,hds7.monoT kt,(qL md).trans em7,qJ,f1,f2⟩
     by_cases hc1:i+1<(Pt.parts p).length
     ·rw[decide_eq_true (show((i+1:Nat):Int)<(zs.length:Int) by omega)]
      exact jC (jC (put (.inl hc1)))
     ·rw[decide_eq_false (show¬((i+1:Nat):Int)<(zs.length:Int) by omega)]
      refine jJ ⟨_,rfl,_,rfl,b,_,rfl,.inl (zS.of eb7),rfl,qJ5 _,_,rfl,?_⟩
      rw[if_pos rfl,fJ]
      by_cases hc2:x∈Pt.names p
      ·rw[decide_eq_true hc2]
       obtain⟨f1,f2⟩:=fin kv2 (fun h=>h.elim (fun z=>absurd z hc1) (fun z=>absurd hc2 z)) (fun _=>rfl)
       exact jJ ⟨_,kv2,rfl,g7,eb7,el7,hds7,em7,ed7,f1,f2⟩
      ·rw[decide_eq_false hc2]
       exact jC (put (.inr hc2))
    ·rintro σ H7 ⟨o6,kv2,rfl,g7,eb7,el7,hds7,em7,ed7,hkl7,hkv7⟩
     refine⟨_,_,_,kv2,rfl,g7,eb7,el7,hds7,ed7,?_⟩
     rw[aq16,List.take_of_length_le (aq7 _)]at hkv7
     rw[ea];exact hkv7
   ·rintro σ H4 ⟨o4,o5,o6,kvs,rfl,g4,eb,el,hds,ed,hkv⟩
    refine⟨_,rfl,d,kvs,rfl,ed,fun l hl=>?_⟩
    rw[hkv.strs,hlen,<-qJ6 hna']
    exact q l _ (g4.trans (Grow.put hl)) (g4.none _ hl) qJ
end
abbrev qO7:Stmt:=top 99
abbrev qR0:Stmt:=top 100
abbrev nO:Stmt:=top 101
abbrev qO8:Stmt:=top 102
abbrev qR1:Stmt:=top 103
abbrev aZ:Stmt:=top 104
abbrev fY:Stmt:=top 106
abbrev zU9:Stmt:=top 107
abbrev cO:Stmt:=top 108
section
variable {P:Program} {w:World} {K:Fg} {mg:Str->Option Value} {base:Heap} {f:Addr} {fd:FuncData}
inductive uU(H:Hp)(sl:Addr)(S:Pt.Sl)(p:Pt):Prop
 |mk (kvs:List (Key×V)) (a_0:H sl=some (.dK kvs)) (a_1:kvs.length+2*p.deep<=200000) (a_2:∀x,p.fv x->xT kvs (Sum.inr x:Key)=some (.int (Pt.slotOf S x:Nat))):uU H sl S p
theorem uU.mono{H H':Hp}{sl:Addr}{S:Pt.Sl}{p:Pt}(h:uU H sl S p)(g:Grow H H'):uU H' sl S p:=let⟨kvs,a,b,c⟩:=h;⟨kvs,g.same _ _ a,b,c⟩
theorem uU.sub{H:Hp}{sl:Addr}{S:Pt.Sl}{p q:Pt}(h:uU H sl S p)(d:q.deep<=p.deep)(f:∀x,q.fv x->p.fv x):uU H sl S q:=let⟨kvs,a,b,c⟩:=h;⟨kvs,a,by omega,fun x hx=>c x (f x hx)⟩
abbrev ps4:List Str:=["part","slots","height","last"]
abbrev jL(K:Fg)(H:Hp)(c:List AOrd)(ys:List V):Prop:=qO K H (c.map AOrd.dt) ys
theorem jL.len{H:Hp}{c:List AOrd}{ys:List V}(h:jL K H c ys):ys.length=c.length:=by rw[qO.length h,aq16]
theorem jL.code{H:Hp}{p:Pt}{S:Pt.Sl}{h:Nat}{b:Bool}{ys:List V}(g:jL K H (Pt.codeOf p S h b) ys):ys.length+4<=6*p.sz:=by rw[g.len];exact Pt.codeOf_len p S h b
theorem jL.app{H:Hp}{c d:List AOrd}{ys zs:List V}(h:jL K H c ys)(g:jL K H d zs):jL K H (c++d) (ys++zs):=by unfold jL;rw[aq21];exact qO.append h g
theorem jL.one{H:Hp}{o:AOrd}{t:Addr}{vs:List V}(h:zB K H t (.str o.wd::vs))(g:qO K H o.args vs):jL K H [o] [.ref t]:=qG (wX h (qG (wD _) g)) qA
def vD(S:Pt.Sl):Nat->List Pt->List AOrd
 |_,[]=>[]
 |h,p::ps=>Pt.codeOf p S h false++vD S (h+1) ps
theorem fG(S:Pt.Sl):∀(h:Nat)(ps qs:List Pt),vD S h (ps++qs)=vD S h ps++vD S (h+ps.length) qs
 |h,[],qs=>rfl
 |h,p::ps,qs=>by
  show Pt.codeOf p S h false++vD S (h+1) (ps++qs)=_
  rw[fG S (h+1) ps qs,aq17,show h+(ps.length+1)=h+1+ps.length by omega,<-List.append_assoc];rfl
inductive zJ8(K:Fg)(B:Pt->Prop)(vs:List V)(H:Hp)(Q:VK):Prop
 |mk (v:V) (sl:Addr) (h:Nat) (b:Bool) (p:Pt) (S:Pt.Sl) (a_0:vs=[v,.ref sl,.int h,.bl b]) (a_1:qY K H p.dt v) (a_2:B p) (a_3:p.sz<=50000) (a_4:uU H sl S p) (a_5:∀l ys H',Grow H H'->H l=none->H' l=some (.lst ys)->jL K H' (Pt.codeOf p S h b) ys->Q (.ref l) H'):zJ8 K B vs H Q
def rL(K:Fg)(B:Pt->Prop):Sp:=fun vs H Q x_0=>zJ8 K B vs H Q
def wR(K:Fg)(n:Nat):Sp:=rL K fun p=>p.deep<n
inductive qO9(K:Fg)(n:Nat)(vs:List V)(H:Hp)(Q:VK):Prop
 |mk (v:V) (sl:Addr) (h:Nat) (p:Pt) (S:Pt.Sl) (a_0:vs=[v,.ref sl,.int h]) (a_1:qY K H p.dt v) (a_2:Pt.plain p=true) (a_3:p.deep<n+1) (a_4:p.sz<=50000) (a_5:uU H sl S p) (a_6:∀l ys H',Grow H H'->H l=none->H' l=some (.lst ys)->ys.length<=6*szs (Pt.parts p)->jL K H' (vD S h (Pt.parts p)) ys->Q (.ref l) H'):qO9 K n vs H Q
def aJ(K:Fg)(n:Nat):Sp:=fun vs H Q x_0=>qO9 K n vs H Q
theorem qOq{p q:Pt}(hp:Pt.plain p=true)(hq:q∈Pt.parts p):∀x,q.fv x->p.fv x:=by
 intro x hx
 have hn:yI p=false:=by cases p<;>first|rfl|simp[Pt.plain]at hp
 obtain⟨i,hi,e⟩:=List.getElem_of_mem hq
 refine(fZ hn x).mpr ⟨i,q,by rw[aq15 hi,e],hx,.inr ?_⟩
 cases p<;>first|(simp[Pt.names];done)|(simp[Pt.plain]at hp;done)
theorem aX:qC ["part","slots","height","code","count","inner"] ["part","slots","height"] (qU qR0):=by walk_at "s"
theorem zUq{n:Nat}(F:zK K "operands_code" "operands_code" qR0 .none f fd)(zE:mg "enumerate"=none)(GV:Kn P w K mg base 1 "values_behind" ["part","sort"] (dP K))(GC:Kn P w K mg base (3*n+4) "code_of" ps4 (wR K n)):zQ P w K mg base (CXE P w) (3*n+5) f fd ["part","slots","height"] (aJ K n):=by
 refine F.ok0 aX (by walk_at "l") ?_
 walk_at "i"
 obtain⟨v,sl,h0,p,S,rfl,hp,hpl,hd,hz,hs,q⟩:=h
 refine⟨_,qX (qF (i:=3) aX.nd rfl oI (jQ qZ))
  (qX (vS PassesOwn.never rfl (tG (by rfl) zE (qQ (zO GV (hr.mono (by omega)) (qQ (pv 0) (qQ qI qZ))) qZ))
   (iM rfl (xN (jO (i:=4) aX.nd rfl oI) (xN (jO (i:=5) aX.nd rfl oI) yS)))
   (qK (zJ (jT aq0 PySem.F.slot_list_extend PySem.F.type_list_extend lB (pv 3) (qQ (zO GC hr (qQ (pv 5) (qQ (pv 1) (qQ (zU xA (pv 2) (pv 4)) (qQ vQ qZ))))) qZ)))))
  (qK (qB (pv 3)))),?_⟩
 walk_at "e"
 obtain⟨a,ws,rfl,ha,hws,hbe⟩:=cW hpl hp
 obtain⟨hsz,hdp⟩:=yX hpl
 refine⟨zl0,fun l hl=>?_⟩
 walk_at "d"
 have g1:Grow H (upd H l (.lst [])):=Grow.put hl
 have e1:(upd H l (.lst [])) l=some (.lst []):=qJ
 generalize upd H l (.lst [])=H1 at g1 e1⊢
 refine⟨_,rfl,a,"part",Pt.wd p,ws,rfl,zB.mono g1.same ha,hws,fun o H2 g2 n2 e2=>?_⟩
 have g12:=g1.trans g2
 have hbe2:=hbe.mono g12.same
 generalize behind (zI (Pt.wd p)) ws "part"=zs at e2 hbe2
 have lo:o≠l:=fun z=>by rw[z,e1]at n2;cases n2
 have hlen:zs.length=(Pt.parts p).length:=by rw[hbe2.length,aq16]
 refine⟨o,rfl,⟨_,zS.of e2⟩,?_⟩
 refine dF (K:=K) (l:=o) (xs:=zs) (fun i σ H3=>∃o4 o5 ys,σ=[some (.ref a),some (.ref sl),some (.int h0),some (.ref l),o4,o5]/\Grow H H3/\H3 o=some (.lst zs)/\qO K H3 ((Pt.parts p).map Pt.dt) zs/\H3 l=some (.lst ys)/\ys.length<=6*szs ((Pt.parts p).take i)/\jL K H3 (vD S h0 ((Pt.parts p).take i)) ys) ?_ ?_ ?_ ?_
 ·exact⟨_,_,[],rfl,g12,e2,hbe2,g2.same _ _ e1,by simp,qA⟩
 ·rintro i σ H3 _ ⟨o4,o5,ys,rfl,_,h,_⟩
  exact zS.of h
 ·rintro i y T σ H3 hy ⟨o4,o5,ys,rfl,g3,eo,hds,el,hyl,hco⟩ hT
  obtain⟨pi,hpi⟩:∃pi,(Pt.parts p)[i]? =some pi:=by
   have :i<zs.length:=by
    rcases Nat.lt_or_ge i zs.length with h|h
    ·exact h
    ·rw[List.getElem?_eq_none h]at hy;cases hy
   exact⟨_,aq15 (by omega)⟩
  obtain⟨y',hy',hyd⟩:=hds.get (i:=i) (d:=pi.dt) (by rw[aq19,hpi];rfl)
  rw[hy]at hy'
  cases hy'
  have hst:=wP _ _ _ hpi
  have hsl:=nV (Pt.parts p) (i+1)
  have hmem:=aq23 hpi
  have hdi:=hdp pi hmem
  have g4:Grow H3 (upd H3 T (.tup [.int i,y])):=Grow.put hT
  refine⟨T,_,rfl,zB.of qJ,rfl,_,_,rfl,_,_,rfl,rfl,?_⟩
  walk_at "d"
  have el4:=g4.same _ _ el
  have eo4:=g4.same _ _ eo
  have hds4:=hds.mono g4.same
  have hyd4:=hyd.mono g4.same
  generalize upd H3 T (.tup [.int i,y])=H4 at g4 el4 eo4 hds4 hyd4⊢
  have g04:=g3.trans g4
  refine⟨_,rfl,.inl ⟨rfl,_,zS.of el4⟩,_,rfl,_,rfl,_,rfl,_,rfl,_,_,rfl,rfl,y,sl,h0+i,false,pi,S,by rw[show((h0+i:Nat):Int)=(h0:Int)+(i:Int) by omega];rfl,hyd4,by omega,by omega,(hs.mono g04).sub (by omega) (qOq hpl hmem),fun l' ys' H5 g5 n5 e5 hc5=>?_⟩
  have hl5:=hc5.code
  have el5:=g5.same _ _ el4
  refine⟨l,l',ys,ys',rfl,rfl,el5,e5,by rw[sizeLine_eq];omega,?_⟩
  have kt:jW K H5 (upd H5 l (.lst (ys++ys'))):=jM.tups ((jM.refl l H5).set el5) el5
  refine⟨_,_,ys++ys',rfl,(g04.trans g5).set hl,(qL lo).trans (g5.same _ _ eo4),(hds4.mono g5.same).monoT kt,qJ,?_,?_⟩
  ·rw[List.length_append];omega
  ·have hi:i<(Pt.parts p).length:=(List.getElem?_eq_some_iff.mp hpi).1
   rw[List.take_add_one,hpi,fG,List.length_take,Nat.min_eq_left (by omega)]
   show jL K _ (_++(Pt.codeOf pi S (h0+i) false++[])) _
   rw[List.append_nil]
   exact jL.app (qO.monoT kt ((hco.mono g4.same).mono g5.same)) (qO.monoT kt hc5)
 ·rintro σ H3 ⟨o4,o5,ys,rfl,g3,eo,hds,el,hyl,hco⟩
  rw[hlen,List.take_of_length_le (aq7 _)]at hyl hco
  exact⟨_,rfl,q l ys H3 g3 hl el hyl hco⟩
def aK(n:Nat)(p:Pt):Prop:=p.deep<n+1/\∃q r,p= .two .call q r
theorem aV:qC ["part","slots","height","last","order"] ps4 (qU nO):=by walk_at "s"
theorem qOz{n:Nat}(F:zK K "call_code" "call_code" nO .none f fd)(GO:Kn P w K mg base (3*n+5) "operands_code" ["part","slots","height"] (aJ K n)):zQ P w K mg base (CXE P w) (3*n+6) f fd ps4 (rL K (aK n)):=by
 refine F.ok0 aV (by walk_at "l") ?_
 walk_at "i"
 obtain⟨v,sl,h0,b,p,S,rfl,hp,⟨hd,q1,q2,rfl⟩,hz,hs,q⟩:=h
 refine⟨_,qX (qF (i:=4) aV.nd rfl oI (vZ (xI (pv 3)) (zW (qQ qI qZ)) (zW (qQ qI qZ))))
  (qK (qB (zU vJ (zO GO hr (qQ (pv 0) (qQ (pv 1) (qQ (pv 2) qZ)))) (jQ (qQ (pv 4) qZ))))),?_⟩
 walk_at "e"
 have rest:∀(H1:Hp)(c:Addr),Grow H H1->zB K H1 c [.str (if b then AOrd.last else AOrd.call).wd]->qQ8 (sD qZ1 (kS (aJ K n) [] E0 (jK (jV 0) (jK (jV 1) (jK (jV 2) xE)))) (qF2 (jK (jV 4) xE))) {nx:=fun _ H'=>Q .non H',rt:=Q} [some v,some (.ref sl),some (.int h0),some (.bl b),some (.ref c)] H1:=by
  intro H1 c g1 hc1
  refine⟨_,rfl,_,rfl,_,rfl,v,sl,h0,_,S,rfl,hp.mono g1.same,rfl,hd,hz,hs.mono g1,fun l ys H2 g2 n2 e2 hl2 hc2=>?_⟩
  refine⟨_,rfl,zl1,fun l3 hl3=>?_⟩
  have g3:Grow H2 (upd H2 l3 (.lst [.ref c])):=Grow.put hl3
  have e2':=g3.same _ _ e2
  have e3:(upd H2 l3 (.lst [.ref c])) l3=some (.lst [.ref c]):=qJ
  generalize upd H2 l3 (.lst [.ref c])=H3 at g3 e2' e3⊢
  have g03:=(g1.trans g2).trans g3
  have hb:szs (Pt.parts (.two .call q1 q2))+1=(Pt.two .call q1 q2).sz:=(yX (p:=.two .call q1 q2) rfl).1
  refine⟨l,l3,_,_,rfl,rfl,e2',e3,by rw[sizeLine_eq];simp;omega,fun l4 hl4=>?_⟩
  have g4:Grow H3 (upd H3 l4 (.lst (ys++[.ref c]))):=Grow.put hl4
  refine q l4 _ _ (g03.trans g4) (g03.none _ hl4) qJ ?_
  have hcl:jL K (upd H3 l4 (.lst (ys++[.ref c]))) [if b then AOrd.last else AOrd.call] [.ref c]:=jL.one (zB.mono ((g2.trans g3).trans g4).same hc1) (by cases b<;>exact qA)
  have hcy:=jL.app (hc2.mono (g3.trans g4).same) hcl
  have e:vD S h0 (Pt.parts (.two .call q1 q2))++[if b then AOrd.last else AOrd.call]=Pt.codeOf (.two .call q1 q2) S h0 b:=by simp[vD,Pt.parts,Pt.codeOf]
  rw[e]at hcy
  exact hcy
 refine⟨_,rfl,b,rfl,?_⟩
 cases b with
 |true=>exact jC ⟨zl1,fun c hc=>rest _ c (Grow.put hc) (zB.of qJ)⟩
 |false=>exact jJ ⟨zl1,fun c hc=>rest _ c (Grow.put hc) (zB.of qJ)⟩
def zUz:Pt->Pt
 | .two .and p q=>.ite p q (.tru false)
 | .two .or p q=>.ite p (.tru true) q
 |p=>p
inductive IfP:Pt->Prop
 |ite {p q r}:IfP (.ite p q r)
 |and {p q}:IfP (.two .and p q)
 |or {p q}:IfP (.two .or p q)
theorem qOj{p:Pt}(h:IfP p):∃a b c,zUz p= .ite a b c/\a.deep<p.deep/\(b.deep<p.deep\/b.deep=0)/\(c.deep<p.deep\/c.deep=0)/\a.sz+b.sz+c.sz<=p.sz/\(∀x,a.fv x->p.fv x)/\(∀x,b.fv x->p.fv x)/\∀x,c.fv x->p.fv x:=by
 cases h with
 | @ite p q r=>exact⟨p,q,r,rfl,by simp[Pt.deep];omega,.inl (by simp[Pt.deep];omega),.inl (by simp[Pt.deep];omega),by simp only[Pt.sz];omega,fun x h=>.inl h,fun x h=>.inr (.inl h),fun x h=>.inr (.inr h)⟩
 | @and p q=>exact⟨p,q,.tru false,rfl,by simp[Pt.deep];omega,.inl (by simp[Pt.deep];omega),.inr rfl,by simp[Pt.sz],fun x h=>.inl h,fun x h=>.inr h,fun x h=>h.elim⟩
 | @or p q=>exact⟨p,.tru true,q,rfl,by simp[Pt.deep];omega,.inr rfl,.inl (by simp[Pt.deep];omega),by simp[Pt.sz];omega,fun x h=>.inl h,fun x h=>h.elim,fun x h=>.inr h⟩
inductive zJq(K:Fg)(vs:List V)(H:Hp)(Q:VK):Prop
 |mk (v:V) (p:Pt) (a_0:vs=[v]) (a_1:qY K H p.dt v) (a_2:IfP p) (a_3:∀v' H',Grow H H'->qY K H' (zUz p).dt v'->Q v' H'):zJq K vs H Q
def zUj(K:Fg):Sp:=fun vs H Q x_0=>zJq K vs H Q
theorem zE7:qC ["part"] ["part"] (qU qO8):=by walk_at "s"
theorem zF8(F:zK K "as_if" "as_if" qO8 .none f fd):zQ P w K mg base (CXE P w) 1 f fd ["part"] (zUj K):=by
 refine F.ok0 zE7 (by walk_at "l") ?_
 walk_at "i"
 obtain⟨v,p,rfl,hp,hi,q⟩:=h
 refine⟨_,qX (zH (zZ jS (qM qP (pv 0) qV) qI (nomark _)) (qK (qB (zW (qQ qI (qQ (qM qP (pv 0) qV) (qQ (qM qP (pv 0) qV) (qQ (zW (qQ qI (qQ vQ qZ))) qZ))))))) zX)
  (qX (zH (zZ jS (qM qP (pv 0) qV) qI (nomark _)) (qK (qB (zW (qQ qI (qQ (qM qP (pv 0) qV) (qQ (zW (qQ qI (qQ vQ qZ))) (qQ (qM qP (pv 0) qV) qZ))))))) zX)
  (qK (qB (pv 0)))),?_⟩
 walk_at "e"
 cases hi with
 | @ite p1 p2 p3=>
  obtain⟨a,x,y,z,rfl,ha,hx,hy,hz⟩:=wF hp
  refine⟨_,rfl,a,_,_,.str "if",rfl,rfl,ha,qW (j:=0) rfl,rfl,_,rfl,ite2 (fun h=>absurd h (by decide+kernel)) (fun _=>?_)⟩
  refine⟨_,rfl,a,_,_,.str "if",rfl,rfl,ha,qW (j:=0) rfl,rfl,_,rfl,ite2 (fun h=>absurd h (by decide+kernel)) (fun _=>?_)⟩
  exact⟨_,rfl,q _ H (Grow.refl H) hp⟩
 | @and p1 p2=>
  obtain⟨a,x,y,rfl,ha,hx,hy⟩:=dH hp
  refine⟨_,rfl,a,_,_,.str "and",rfl,rfl,ha,qW (j:=0) rfl,rfl,_,rfl,ite2 (fun _=>?_) (fun h=>absurd (by decide+kernel) h)⟩
  refine⟨_,rfl,a,_,_,x,rfl,rfl,ha,qW (j:=1) rfl,_,rfl,a,_,_,y,rfl,rfl,ha,qW (j:=2) rfl,zl2,fun t ht=>?_⟩
  have g1:Grow H (upd H t (.tup [.str "truth",.bl false])):=Grow.put ht
  have e1:zB K (upd H t (.tup [.str "truth",.bl false])) t [.str "truth",.bl false]:=zB.of qJ
  generalize upd H t (.tup [.str "truth",.bl false])=H1 at g1 e1⊢
  refine⟨zl4,fun t2 ht2=>?_⟩
  have g2:Grow H1 (upd H1 t2 (.tup [.str "if",x,y,.ref t])):=Grow.put ht2
  have g12:=g1.trans g2
  exact q _ _ g12 (zQj (zB.of qJ) (hx.mono g12.same) (hy.mono g12.same) (wH (zB.mono g2.same e1) (by rw[qY])))
 | @or p1 p2=>
  obtain⟨a,x,y,rfl,ha,hx,hy⟩:=dH hp
  refine⟨_,rfl,a,_,_,.str "or",rfl,rfl,ha,qW (j:=0) rfl,rfl,_,rfl,ite2 (fun h=>absurd h (by decide+kernel)) (fun _=>?_)⟩
  refine⟨_,rfl,a,_,_,.str "or",rfl,rfl,ha,qW (j:=0) rfl,rfl,_,rfl,ite2 (fun _=>?_) (fun h=>absurd (by decide+kernel) h)⟩
  refine⟨_,rfl,a,_,_,x,rfl,rfl,ha,qW (j:=1) rfl,zl2,fun t ht=>?_⟩
  have g1:Grow H (upd H t (.tup [.str "truth",.bl true])):=Grow.put ht
  have e1:zB K (upd H t (.tup [.str "truth",.bl true])) t [.str "truth",.bl true]:=zB.of qJ
  generalize upd H t (.tup [.str "truth",.bl true])=H1 at g1 e1⊢
  refine⟨_,rfl,a,_,_,y,rfl,rfl,zB.mono g1.same ha,qW (j:=2) rfl,zl4,fun t2 ht2=>?_⟩
  have g2:Grow H1 (upd H1 t2 (.tup [.str "if",x,.ref t,y])):=Grow.put ht2
  have g12:=g1.trans g2
  exact q _ _ g12 (zQj (zB.of qJ) (hx.mono g12.same) (wH (zB.mono g2.same e1) (by rw[qY])) (hy.mono g12.same))
def qI0(p:Pt):Prop:=(∃n,p= .num n)\/(∃b,p= .tru b)\/(∃x,p= .nam x)\/∃k,p= .nil k
inductive qI1(K:Fg)(vs:List V)(H:Hp)(Q:VK):Prop
 |mk (v:V) (sl:Addr) (p:Pt) (S:Pt.Sl) (a_0:vs=[v,.ref sl]) (a_1:qY K H p.dt v) (a_2:qI0 p) (a_3:uU H sl S p) (a_4:∀l ys H',Grow H H'->H l=none->H' l=some (.lst ys)->jL K H' (Pt.codeOf p S 0 false) ys->Q (.ref l) H'):qI1 K vs H Q
def qI2(K:Fg):Sp:=fun vs H Q x_0=>qI1 K vs H Q
theorem zJz:qC ["part","slots","word"] ["part","slots"] (qU zU9):=by walk_at "s"
theorem zO0(F:zK K "value_code" "value_code" zU9 .none f fd)(GU:Kn P w K mg base 1 "looked_up" ["scope","name"] rZ):zQ P w K mg base (CXE P w) 2 f fd ["part","slots"] (qI2 K):=by
 refine F.ok0 zJz (by walk_at "l") ?_
 walk_at "i"
 obtain⟨v,sl,p,S,rfl,hp,hv,hs,q⟩:=h
 refine⟨_,qX (qF (i:=2) zJz.nd rfl oI (qM qP (pv 0) qV))
  (qX (zH (zZ jS (pv 2) qI (nomark _)) (qK (qB (jQ (qQ (zW (qQ qI qZ)) qZ)))) zX)
  (qX (zH (zZ jS (pv 2) qI (nomark _)) (qK (qB (jQ (qQ (zW (qQ qI (qQ (zO GU hr (qQ (pv 1) (qQ (qM qP (pv 0) qV) qZ))) qZ))) qZ)))) zX)
  (qK (qB (jQ (qQ (zW (qQ qI (qQ (qM qP (pv 0) qV) qZ))) qZ)))))),?_⟩
 walk_at "e"
 have fin:∀(H1:Hp)(c:Addr)(o:AOrd)(us:List V),Pt.codeOf p S 0 false=[o]->Grow H H1->zB K H1 c (.str o.wd::us)->qO K H1 o.args us->∀l,H1 l=none->Q (.ref l) (upd H1 l (.lst [.ref c])):=fun H1 c o us e g h1 h2 l hl=>by
  refine q l [.ref c] _ (g.trans (Grow.put hl)) (g.none _ hl) qJ ?_
  rw[e]
  exact jL.one (zB.mono (Grow.put hl).same h1) (h2.mono (Grow.put hl).same)
 have hv':(∃(wd:Str)(a:Addr)(u:V)(o:AOrd),v= .ref a/\zB K H a [.str wd,u]/\¬V.str wd=V.str "nil"/\¬V.str wd=V.str "name"/\Pt.codeOf p S 0 false=[o]/\o.wd="put"/\∀H1,Grow H H1->qO K H1 o.args [u])\/(∃x,p= .nam x)\/∃k,p= .nil k:=by
  rcases hv with⟨n,rfl⟩|⟨b,rfl⟩|h
  ·obtain⟨a,u,rfl,ha,hx⟩:=xF hp
   exact .inl ⟨"num",a,u,.num n,rfl,ha,by decide+kernel,by decide+kernel,rfl,rfl,fun H1 g=>qG (hx.mono g.same) qA⟩
  ·obtain⟨a,u,rfl,ha,hx⟩:=xF hp
   exact .inl ⟨"truth",a,u,.tru b,rfl,ha,by decide+kernel,by decide+kernel,rfl,rfl,fun H1 g=>qG (hx.mono g.same) qA⟩
  ·exact .inr h
 rcases hv' with⟨wd,a,u,o,rfl,ha,h1,h2,h3,h4,h5⟩|⟨x,rfl⟩|⟨k,rfl⟩
 ·refine⟨_,rfl,a,_,_,.str wd,rfl,rfl,ha,qW (j:=0) rfl,?_⟩
  walk_at "d"
  refine⟨_,rfl,rfl,_,rfl,ite2 (fun h=>absurd (of_decide_eq_true h) h1) (fun _=>?_)⟩
  refine⟨_,rfl,rfl,_,rfl,ite2 (fun h=>absurd (of_decide_eq_true h) h2) (fun _=>?_)⟩
  exact⟨_,rfl,a,_,_,u,rfl,rfl,ha,qW (j:=1) rfl,zl2,fun c hc=>⟨zl1,fin _ c o [u] h3 (Grow.put hc) (by rw[h4];exact zB.of qJ) (h5 _ (Grow.put hc))⟩⟩
 ·obtain⟨a,u,rfl,ha,hx⟩:=xF hp
  cases jE hx
  obtain⟨kvs,s1,s2,s3⟩:=hs
  refine⟨_,rfl,a,_,_,.str "name",rfl,rfl,ha,qW (j:=0) rfl,?_⟩
  walk_at "d"
  refine⟨_,rfl,rfl,_,rfl,ite2 (fun h=>absurd h (by decide+kernel)) (fun _=>?_)⟩
  refine⟨_,rfl,rfl,_,rfl,ite2 (fun _=>?_) (fun h=>absurd (by decide+kernel) h)⟩
  exact⟨_,rfl,_,rfl,a,_,_,.str x,rfl,rfl,ha,qW (j:=1) rfl,sl,x,_,kvs,rfl,s1,s3 x rfl,zl2,fun c hc=>⟨zl1,fin _ c (.get (Pt.slotOf S x)) [.int (Pt.slotOf S x:Nat)] rfl (Grow.put hc) (zB.of qJ) (qG (by rw[qY]) qA)⟩⟩
 ·obtain⟨a,u,rfl,ha,hx⟩:=xF hp
  refine⟨_,rfl,a,_,_,.str "nil",rfl,rfl,ha,qW (j:=0) rfl,?_⟩
  walk_at "d"
  refine⟨_,rfl,rfl,_,rfl,ite2 (fun _=>?_) (fun h=>absurd (by decide+kernel) h)⟩
  exact⟨zl1,fun c hc=>⟨zl1,fin _ c .nil [] rfl (Grow.put hc) (zB.of qJ) qA⟩⟩
end
section
variable {P:Program} {w:World} {K:Fg} {mg:Str->Option Value} {base:Heap} {f:Addr} {fd:FuncData}
theorem qJ8{p a b c:Pt}(h:IfP p)(e:zUz p= .ite a b c)(S:Pt.Sl)(n:Nat)(l:Bool):Pt.codeOf p S n l=Pt.ifC l (Pt.codeOf a S n false) (Pt.codeOf b S n l) (Pt.codeOf c S n l):=by
 cases h with
 | @ite p q r=>cases (show Pt.ite p q r=Pt.ite a b c from e);rfl
 | @and p q=>cases (show Pt.ite p q (.tru false)=Pt.ite a b c from e);rfl
 | @or p q=>cases (show Pt.ite p (.tru true) q=Pt.ite a b c from e);rfl
theorem zP{H:Hp}{l:Addr}{xs ys:List V}(h:H l=some (.lst xs)):jW K H (upd H l (.lst ys)):=jM.tups ((jM.refl l H).set h) h
def zJj(n:Nat)(p:Pt):Prop:=p.deep<n+1/\0<n/\IfP p
theorem fD:qC ["part","slots","height","last","choice","first","second","third"] ps4 (qU qR1):=by walk_at "s"
theorem ok_ifC{n:Nat}(F:zK K "if_code" "if_code" qR1 .none f fd)(zL:mg "len"=none)(GA:Kn P w K mg base 1 "as_if" ["part"] (zUj K))(GC:Kn P w K mg base (3*n+4) "code_of" ps4 (wR K n)):zQ P w K mg base (CXE P w) (3*n+5) f fd ps4 (rL K (zJj n)):=by
 refine F.ok0 fD (by walk_at "l") ?_
 walk_at "i"
 obtain⟨v,sl,h0,b,p,S,rfl,hp,⟨hd,hn,hi⟩,hz,hs,q⟩:=h
 refine⟨_,qX (qF (i:=4) fD.nd rfl oI (zO GA (hr.mono (by omega)) (qQ (pv 0) qZ)))
  (qX (qF (i:=5) fD.nd rfl oI (zO GC hr (qQ (qM qP (pv 4) qV) (qQ (pv 1) (qQ (pv 2) (qQ vQ qZ))))))
  (qX (qF (i:=6) fD.nd rfl oI (zO GC hr (qQ (qM qP (pv 4) qV) (qQ (pv 1) (qQ (pv 2) (qQ (pv 3) qZ))))))
  (qX (qF (i:=7) fD.nd rfl oI (zO GC hr (qQ (qM qP (pv 4) qV) (qQ (pv 1) (qQ (pv 2) (qQ (pv 3) qZ))))))
  (qX (zH (iC (xI (pv 3))) (qK (zJ (jT aq0 aq1 aq2 zF (pv 6) (qQ (zW (qQ qI (qQ (zV zR (by rfl) zL aq27 (qQ (pv 7) qZ)) qZ))) qZ)))) zX)
  (qK (qB (zU vJ (zU vJ (zU vJ (pv 5) (jQ (qQ (zW (qQ qI (qQ (zV zR (by rfl) zL aq27 (qQ (pv 6) qZ)) qZ))) qZ))) (pv 6)) (pv 7)))))))),?_⟩
 walk_at "e"
 refine⟨_,rfl,v,p,rfl,hp,hi,fun v' H1 g1 hv'=>?_⟩
 walk_at "d"
 obtain⟨pa,pb,pc,ei,da,db,dc,hsum,fa,fb,fc⟩:=qOj hi
 rw[ei]at hv'
 have ec:=fun l=>qJ8 hi ei S h0 l
 obtain⟨a,x,y,z,rfl,ha,hx,hy,hz'⟩:=wF hv'
 refine⟨_,rfl,a,_,_,x,rfl,rfl,ha,qW (j:=1) rfl,_,rfl,_,rfl,x,sl,h0,false,pa,S,rfl,hx,by omega,by omega,(hs.mono g1).sub (by omega) fa,fun l1 ys1 H2 g2 n2 e1 hc1=>?_⟩
 have hl1:=hc1.code
 walk_at "d"
 have g12:=g1.trans g2
 refine⟨_,rfl,a,_,_,y,rfl,rfl,zB.mono g2.same ha,qW (j:=2) rfl,_,rfl,_,rfl,_,rfl,y,sl,h0,b,pb,S,rfl,hy.mono g2.same,by omega,by omega,(hs.mono g12).sub (by omega) fb,fun l2 ys2 H3 g3 n3 e2 hc2=>?_⟩
 have hl2:=hc2.code
 walk_at "d"
 have g13:=g12.trans g3
 have g23:=g2.trans g3
 refine⟨_,rfl,a,_,_,z,rfl,rfl,zB.mono g23.same ha,qW (j:=3) rfl,_,rfl,_,rfl,_,rfl,z,sl,h0,b,pc,S,rfl,hz'.mono g23.same,by omega,by omega,(hs.mono g13).sub (by omega) fc,fun l3 ys3 H4 g4 n4 e3 hc3=>?_⟩
 have hl3:=hc3.code
 walk_at "d"
 have g14:=g13.trans g4
 have e1':=(g3.trans g4).same _ _ e1
 have e2':=g4.same _ _ e2
 have d12:l1≠l2:=fun z=>by rw[<-z,e1]at n3;cases n3
 have d32:l3≠l2:=fun z=>by rw[z,e2]at n4;cases n4
 have f2:H l2=none:=g12.none _ n3
 have rest:∀(H5:Hp)(zs:List V),Grow H H5->H5 l1=some (.lst ys1)->H5 l2=some (.lst zs)->H5 l3=some (.lst ys3)->zs.length+3<=6*pb.sz->jL K H5 (Pt.codeOf pa S h0 false) ys1->jL K H5 (if b then Pt.codeOf pb S h0 b else Pt.codeOf pb S h0 b++[.skip (Pt.codeOf pc S h0 b).length]) zs->jL K H5 (Pt.codeOf pc S h0 b) ys3->
   qQ8 (sD qZ1 (sD qZ1 (sD qZ1 (jV 5) (qF2 (jK (qZ0 (jK (tC (.str "unless")) (jK (tCB (fun xs H Q=>qV8 K xs H Q) (jK (jV 6) xE)) xE))) xE))) (jV 6)) (jV 7)) {nx:=fun _ H'=>Q .non H',rt:=Q} [some v,some (.ref sl),some (.int h0),some (.bl b),some (.ref a),some (.ref l1),some (.ref l2),some (.ref l3)] H5:=by
  intro H5 zs g5 x1 x2 x3 hl y1 y2 y3
  refine⟨_,rfl,_,rfl,l2,zs,rfl,.inl (zS.of x2),zl2,fun t ht=>?_⟩
  have et:(upd H5 t (.tup [.str "unless",.int zs.length])) t=some (.tup [.str "unless",.int zs.length]):=qJ
  have g6:Grow H5 (upd H5 t (.tup [.str "unless",.int zs.length])):=Grow.put ht
  have x1:=g6.same _ _ x1
  have x2:=g6.same _ _ x2
  have x3:=g6.same _ _ x3
  generalize upd H5 t (.tup [.str "unless",.int zs.length])=H6 at g6 x1 x2 x3 et⊢
  refine⟨zl1,fun l4 hl4=>?_⟩
  have g7:Grow H6 (upd H6 l4 (.lst [.ref t])):=Grow.put hl4
  have x4:(upd H6 l4 (.lst [.ref t])) l4=some (.lst [.ref t]):=qJ
  have x1:=g7.same _ _ x1
  have x2:=g7.same _ _ x2
  have x3:=g7.same _ _ x3
  generalize upd H6 l4 (.lst [.ref t])=H7 at g7 x1 x2 x3 x4⊢
  refine⟨l1,l4,_,_,rfl,rfl,x1,x4,by rw[sizeLine_eq];simp;omega,fun l5 hl5=>?_⟩
  have g8:Grow H7 (upd H7 l5 (.lst (ys1++[.ref t]))):=Grow.put hl5
  have x5:(upd H7 l5 (.lst (ys1++[.ref t]))) l5=some (.lst (ys1++[.ref t])):=qJ
  have x2:=g8.same _ _ x2
  have x3:=g8.same _ _ x3
  generalize upd H7 l5 (.lst (ys1++[.ref t]))=H8 at g8 x2 x3 x5⊢
  refine⟨_,rfl,l5,l2,_,_,rfl,rfl,x5,x2,by rw[sizeLine_eq];simp;omega,fun l6 hl6=>?_⟩
  have g9:Grow H8 (upd H8 l6 (.lst (ys1++[.ref t]++zs))):=Grow.put hl6
  have x6:(upd H8 l6 (.lst (ys1++[.ref t]++zs))) l6=some (.lst (ys1++[.ref t]++zs)):=qJ
  have x3:=g9.same _ _ x3
  generalize upd H8 l6 (.lst (ys1++[.ref t]++zs))=H9 at g9 x3 x6⊢
  have g59:=(((g5.trans g6).trans g7).trans g8).trans g9
  refine⟨_,rfl,l6,l3,_,_,rfl,rfl,x6,x3,by rw[sizeLine_eq];simp;omega,fun l7 hl7=>?_⟩
  refine q l7 _ _ (g59.trans (Grow.put hl7)) (g59.none _ hl7) qJ ?_
  have gx:=(((g6.trans g7).trans g8).trans g9).trans (Grow.put (o:=.lst (ys1++[.ref t]++zs++ys3)) hl7)
  have gt:=((g7.trans g8).trans g9).trans (Grow.put (o:=.lst (ys1++[.ref t]++zs++ys3)) hl7)
  have yt:jL K (upd H9 l7 (.lst (ys1++[.ref t]++zs++ys3))) [.unless (if b then Pt.codeOf pb S h0 b else Pt.codeOf pb S h0 b++[.skip (Pt.codeOf pc S h0 b).length]).length] [.ref t]:=by
   refine jL.one (vs:=[.int zs.length]) (zB.of (gt.same _ _ et)) (qG ?_ qA)
   rw[y2.len,qY]
  rw[ec]
  exact jL.app (jL.app (jL.app (y1.mono gx.same) yt) (y2.mono gx.same)) (y3.mono gx.same)
 refine⟨_,rfl,b,rfl,?_⟩
 cases b with
 |true=>exact jJ (rest H4 ys2 g14 e1' e2' e3 (by omega) (hc1.mono (g3.trans g4).same) (hc2.mono g4.same) hc3)
 |false=>
  refine jC ?_
  refine⟨_,rfl,.inl ⟨rfl,_,zS.of e2'⟩,_,rfl,l3,_,rfl,.inl (zS.of e3),zl2,fun t ht=>?_⟩
  have g5:Grow H4 (upd H4 t (.tup [.str "skip",.int ys3.length])):=Grow.put ht
  have e1':=g5.same _ _ e1'
  have e2':=g5.same _ _ e2'
  have e3:=g5.same _ _ e3
  have et:(upd H4 t (.tup [.str "skip",.int ys3.length])) t=some (.tup [.str "skip",.int ys3.length]):=qJ
  generalize upd H4 t (.tup [.str "skip",.int ys3.length])=H5 at g5 e1' e2' e3 et⊢
  refine⟨l2,ys2,_,rfl,rfl,e2',by rw[sizeLine_eq];omega,?_⟩
  have kt:=zP (K:=K) (ys:=ys2++[.ref t]) e2'
  have ys:jL K H5 [.skip (Pt.codeOf pc S h0 false).length] [.ref t]:=by
   refine jL.one (vs:=[.int ys3.length]) (zB.of et) (qG ?_ qA)
   rw[hc3.len,qY]
  exact rest _ (ys2++[.ref t]) ((g14.trans g5).set f2) ((qL d12).trans e1') qJ ((qL d32).trans e3) (by simp;omega)
   (qO.monoT kt (hc1.mono ((g3.trans g4).trans g5).same)) (qO.monoT kt (jL.app (hc2.mono (g4.trans g5).same) ys)) (qO.monoT kt (hc3.mono g5.same))
def qI3(n:Nat)(p:Pt):Prop:=p.deep<n+1/\∃x q r,p= .let_ x q r
theorem rG:qC ["part","slots","height","last","first","second"] ps4 (qU aZ):=by walk_at "s"
theorem qR2{n:Nat}(F:zK K "let_code" "let_code" aZ .none f fd)(GN:Kn P w K mg base 1 "with_name" ["scope","name","bound"] rQ)(GC:Kn P w K mg base (3*n+4) "code_of" ps4 (wR K n)):zQ P w K mg base (CXE P w) (3*n+5) f fd ps4 (rL K (qI3 n)):=by
 refine F.ok0 rG (by walk_at "l") ?_
 walk_at "i"
 obtain⟨v,sl,h0,b,p,S,rfl,hp,⟨hd,x,p1,p2,rfl⟩,hz,hs,q⟩:=h
 refine⟨_,qX (qF (i:=4) rG.nd rfl oI (zO GC hr (qQ (qM qP (pv 0) qV) (qQ (pv 1) (qQ (pv 2) (qQ vQ qZ))))))
  (qX (qF (i:=5) rG.nd rfl oI (zO GC hr (qQ (qM qP (pv 0) qV) (qQ (zO GN (hr.mono (by omega)) (qQ (pv 1) (qQ (qM qP (pv 0) qV) (qQ (pv 2) qZ)))) (qQ (zU xA (pv 2) qV) (qQ (pv 3) qZ))))))
  (qX (zH (iC (xI (pv 3))) (qK (zJ (jT aq0 aq1 aq2 zF (pv 5) (qQ (zW (qQ qI qZ)) qZ)))) zX)
  (qK (qB (zU vJ (pv 4) (pv 5)))))),?_⟩
 walk_at "e"
 obtain⟨a,v0,v1,v2,rfl,ha,hx,hv1,hv2⟩:=wF hp
 cases jE hx
 simp only[Pt.deep,Pt.sz]at hd hz q
 have hsd:uU H sl S p1:=hs.sub (by simp only[Pt.deep];omega) (fun y h=>.inl h)
 refine⟨_,rfl,a,_,_,v1,rfl,rfl,ha,qW (j:=2) rfl,_,rfl,_,rfl,v1,sl,h0,false,p1,S,rfl,hv1,by omega,by omega,hsd,fun l1 ys1 H1 g1 n1 e1 hc1=>?_⟩
 have hl1:=hc1.code
 walk_at "d"
 obtain⟨kvs,s1,s2,s3⟩:=hs
 simp only[Pt.deep]at s2
 have ha1:=zB.mono g1.same ha
 refine⟨_,rfl,a,_,_,v2,rfl,rfl,ha1,qW (j:=3) rfl,_,rfl,_,rfl,a,_,_,.str x,rfl,rfl,ha1,qW (j:=1) rfl,_,rfl,sl,x,.int h0,kvs,rfl,g1.same _ _ s1,by omega,fun d H2 g2 e2=>?_⟩
 have g12:=g1.trans g2
 have hs2:uU H2 d ((x,h0)::S) p2:=by
  refine⟨_,e2,?_,fun y hy=>?_⟩
  ·have :=kG kvs (Sum.inr x:Key) (.int h0);omega
  ·rw[cQ]
   by_cases z:y=x
   ·subst z;rw[if_pos rfl,Pt.slotOf_eq]
   ·rw[if_neg (fun h=>z (Sum.inr.inj h)),Pt.slotOf_ne _ _ z];exact s3 y (.inr ⟨hy,z⟩)
 refine⟨_,rfl,_,_,rfl,rfl,_,rfl,v2,d,h0+1,b,p2,(x,h0)::S,rfl,hv2.mono g12.same,by omega,by omega,hs2,fun l2 ys2 H3 g3 n3 e3 hc2=>?_⟩
 have hl2:=hc2.code
 walk_at "d"
 have g13:=g12.trans g3
 have e1':=(g2.trans g3).same _ _ e1
 have d12:l1≠l2:=fun z=>by rw[<-z,g2.same _ _ e1]at n3;cases n3
 have f2:H l2=none:=g12.none _ n3
 have rest:∀(H5:Hp)(zs:List V),Grow H H5->H5 l1=some (.lst ys1)->H5 l2=some (.lst zs)->zs.length+3<=6*p2.sz->jL K H5 (Pt.codeOf p1 S h0 false) ys1->jL K H5 (if b then Pt.codeOf p2 ((x,h0)::S) (h0+1) b else Pt.codeOf p2 ((x,h0)::S) (h0+1) b++[.slide]) zs->
   qQ8 (sD qZ1 (jV 4) (jV 5)) {nx:=fun _ H'=>Q .non H',rt:=Q} [some (.ref a),some (.ref sl),some (.int h0),some (.bl b),some (.ref l1),some (.ref l2)] H5:=by
  intro H5 zs g5 x1 x2 hl y1 y2
  refine⟨_,rfl,_,rfl,l1,l2,_,_,rfl,rfl,x1,x2,by rw[sizeLine_eq];omega,fun l7 hl7=>?_⟩
  refine q l7 _ _ (g5.trans (Grow.put hl7)) (g5.none _ hl7) qJ ?_
  rw[Pt.codeOf]
  exact jL.app (y1.mono (Grow.put hl7).same) (y2.mono (Grow.put hl7).same)
 refine⟨_,rfl,b,rfl,?_⟩
 cases b with
 |true=>exact jJ (rest H3 ys2 g13 e1' e3 (by omega) (hc1.mono (g2.trans g3).same) hc2)
 |false=>
  refine jC ?_
  refine⟨_,rfl,.inl ⟨rfl,_,zS.of e3⟩,zl1,fun t ht=>?_⟩
  have g5:Grow H3 (upd H3 t (.tup [.str "slide"])):=Grow.put ht
  have e1':=g5.same _ _ e1'
  have e3:=g5.same _ _ e3
  have et:(upd H3 t (.tup [.str "slide"])) t=some (.tup [.str "slide"]):=qJ
  generalize upd H3 t (.tup [.str "slide"])=H5 at g5 e1' e3 et⊢
  refine⟨l2,ys2,_,rfl,rfl,e3,by rw[sizeLine_eq];omega,?_⟩
  have kt:=zP (K:=K) (ys:=ys2++[.ref t]) e3
  have ys:jL K H5 [.slide] [.ref t]:=jL.one (vs:=[]) (zB.of et) qA
  exact rest _ (ys2++[.ref t]) ((g13.trans g5).set f2) ((qL d12).trans e1') qJ (by simp;omega)
   (qO.monoT kt (hc1.mono ((g2.trans g3).trans g5).same)) (qO.monoT kt (jL.app (hc2.mono g5.same) ys))
theorem Pt.deep_sz:∀p:Pt,p.deep<p.sz
 | .num _=>by simp[Pt.deep,Pt.sz]
 | .tru _=>by simp[Pt.deep,Pt.sz]
 | .nam _=>by simp[Pt.deep,Pt.sz]
 | .nil _=>by simp[Pt.deep,Pt.sz]
 | .one _ p=>by have :=Pt.deep_sz p;simp only[Pt.deep,Pt.sz];omega
 | .two _ p q=>by have :=Pt.deep_sz p;have :=Pt.deep_sz q;simp only[Pt.deep,Pt.sz];omega
 | .ite p q r=>by have :=Pt.deep_sz p;have :=Pt.deep_sz q;have :=Pt.deep_sz r;simp only[Pt.deep,Pt.sz];omega
 | .let_ _ p q=>by have :=Pt.deep_sz p;have :=Pt.deep_sz q;simp only[Pt.deep,Pt.sz];omega
 | .fn _ _ p=>by have :=Pt.deep_sz p;simp only[Pt.deep,Pt.sz];omega
 | .rc _ _ _ _ p=>by have :=Pt.deep_sz p;simp only[Pt.deep,Pt.sz];omega
inductive FnP:Pt->Prop
 |fn {x k p}:FnP (.fn x k p)
 |rc {g x k l p}:FnP (.rc g x k l p)
theorem rM{p q:Pt}(h:FnP p)(e:Pt.parts p=[q])(S:Pt.Sl):Pt.codeOf p S 0 false=
  .func (decide ((Pt.bnd p).length≠1)) ((Pt.outs p).map (Pt.slotOf S)) (Pt.codeOf q (Pt.slotsFor 0 (Pt.outs p++Pt.bnd p)) ((Pt.outs p++Pt.bnd p).length) true).length::Pt.codeOf q (Pt.slotsFor 0 (Pt.outs p++Pt.bnd p)) ((Pt.outs p++Pt.bnd p).length) true:=by
 cases h with
 | @fn x k r=>
  have :r=q:=by simpa[Pt.parts]using e
  subst this
  simp[Pt.codeOf,Pt.told,Pt.bnd]
 | @rc g x k l r=>
  have :r=q:=by simpa[Pt.parts]using e
  subst this
  by_cases z:g=x
  ·subst z;simp[Pt.codeOf,Pt.told,Pt.bnd]
  ·simp[Pt.codeOf,Pt.told,Pt.bnd,z]
theorem qJ9(p:Pt)(h:FnP p):(Pt.outs p++Pt.bnd p).Nodup/\(∀x,x∈Pt.bnd p↔x∈Pt.names p)/\(Pt.bnd p).length<=2:=by
 have e:∀x,x∈Pt.bnd p↔x∈Pt.names p:=by
  intro x
  cases h with
  |fn=>simp[Pt.bnd,Pt.names]
  | @rc g y k l r=>
   by_cases z:g=y
   ·subst z;simp[Pt.bnd,Pt.names]
   ·simp[Pt.bnd,Pt.names,z]
 refine⟨List.nodup_append.mpr ⟨Pt.outs_nodup p,?_,fun a ha b hb z=>?_⟩,e,?_⟩
 ·cases h with
  |fn=>simp[Pt.bnd]
  | @rc g y k l r=>
   by_cases z:g=y
   ·subst z;simp[Pt.bnd]
   ·simp[Pt.bnd,z]
 ·subst z
  have h1:=(Pt.outs_mem a p).mp ha
  have h2:=(e a).mp hb
  cases h with
  |fn=>exact h1.2 (by simpa[Pt.names]using h2)
  |rc=>
   rcases(show a=_\/a=_ by simpa[Pt.names]using h2)with z|z
   ·exact h1.2.1 z
   ·exact h1.2.2 z
 ·cases h with
  |fn=>simp[Pt.bnd]
  | @rc g y k l r=>
   by_cases z:g=y
   ·subst z;simp[Pt.bnd]
   ·simp[Pt.bnd,z]
inductive qI4(K:Fg)(n:Nat)(vs:List V)(H:Hp)(Q:VK):Prop
 |mk (v:V) (sl:Addr) (p:Pt) (S:Pt.Sl) (a_0:vs=[v,.ref sl]) (a_1:qY K H p.dt v) (a_2:p.deep<n+1) (a_3:FnP p) (a_4:p.sz<=50000) (a_5:uU H sl S p) (a_6:∀l ys H',Grow H H'->H l=none->H' l=some (.lst ys)->ys.length+5<=6*p.sz->jL K H' (Pt.codeOf p S 0 false) ys->Q (.ref l) H'):qI4 K n vs H Q
def zX1(K:Fg)(n:Nat):Sp:=fun vs H Q x_0=>qI4 K n vs H Q
theorem uO:qC ["part","slots","kept","bound","inner","slot","name","body","word"] ["part","slots"] (qU fY):=by walk_at "s"
theorem zO1{H:Hp}{p:Pt}{v:V}(h:qY K H p.dt v)(hf:FnP p):∃a ws q u,v= .ref a/\zB K H a (ws++[u])/\qY K H q.dt u/\Pt.parts p=[q]/\q.deep<p.deep/\q.sz+1=p.sz/\∃x r,Pt.names p=x::r/\r.length<=1:=by
 cases hf with
 | @fn x k q=>
  obtain⟨a,v0,v1,v2,rfl,ha,_,_,h3⟩:=wF h
  exact⟨a,[.str "fn",v0,v1],q,v2,rfl,ha,h3,rfl,by simp[Pt.deep],by simp[Pt.sz],x,[],rfl,by simp⟩
 | @rc g x k l q=>
  obtain⟨a,v0,v1,v2,v3,v4,rfl,ha,_,_,_,_,h3⟩:=tF h
  exact⟨a,[.str "rec",v0,v1,v2,v3],q,v4,rfl,ha,h3,rfl,by simp[Pt.deep],by simp[Pt.sz],g,[x],rfl,by simp⟩
theorem aW{p:Pt}(hf:FnP p):yI p=false:=by cases hf<;>rfl
theorem aY{H:Hp}(f:Str->Nat):∀xs:List Str,qO K H (xs.map ((fun k:Nat=>Dt.int (k:Int))∘f)) (xs.map fun x=>V.int (f x:Nat))
 |[]=>qA
 |x::xs=>qG (by rw[Function.comp_apply,qY]) (aY f xs)
structure GlC(mg:Str->Option Value):Prop where
 enumerate:mg "enumerate"=none
 len:mg "len"=none
 tuple:mg "tuple"=none
theorem zO2{n:Nat}(F:zK K "function_code" "function_code" fY .none f fd)(G:GlC mg)(GU:Kn P w K mg base 1 "looked_up" ["scope","name"] rZ)(GB:Kn P w K mg base 2 "names_bound" ["part"] (qU4 K))(GO:Kn P w K mg base (n+3) "outside_names" ["part"] (qJ7 K (n+1)))(GC:Kn P w K mg base (3*n+4) "code_of" ps4 (wR K n)):zQ P w K mg base (CXE P w) (3*n+5) f fd ["part","slots"] (zX1 K n):=by
 refine F.ok0 uO (by walk_at "l") ?_
 walk_at "i"
 obtain⟨v,sl,p,S,rfl,hp,hd,hf,hz,hs,q⟩:=h
 have ndb:((["name"]:List Str)++(["slots"]:List Str)).Nodup:=by decide+kernel
 obtain⟨a',ws',ea,ha',hws,_,hbn⟩:=cY (aW hf) hp
 obtain⟨a,ws,pq,u,rfl,ha,hu,hpa,hdq,hzq,x0,r0,hnm,hr0⟩:=zO1 hp hf
 have ea':a'=a:=by cases ea;rfl
 rw[ea']at ha'
 have hds:=Pt.deep_sz p
 have ec:=rM hf hpa S
 obtain⟨bn1,bn2,bn3⟩:=qJ9 p hf
 have hxl:=Pt.outs_length p
 obtain⟨tl,pls,htl⟩:∃t,PSs (kD (CXE P w) P w K mg base ["part","slots","kept","bound","inner","slot","name","body","word"] "function_code" (qU fY) f cdv A outer s H E).nox ((kE fY).drop 7) t/\
   ∀(H5:Hp)(lk:Addr)(c3 c4 c5 c6:Option V)(l5:Addr)(wd:Str)(ys:List V),Grow H H5->H5 lk=some (.lst ((Pt.outs p).map V.str))->H5 l5=some (.lst ys)->wd=(if decide ((Pt.bnd p).length≠1)then("rec":Str)else("fn":Str))->jL K H5 (Pt.codeOf pq (Pt.slotsFor 0 (Pt.outs p++Pt.bnd p)) ((Pt.outs p++Pt.bnd p).length) true) ys->
    t {nx:=fun _ H'=>Q .non H',rt:=Q} [some (.ref a),some (.ref sl),some (.ref lk),c3,c4,c5,c6,some (.ref l5),some (.str wd)] H5:=by
  refine⟨_,qK (qB (zU vJ (jQ (qQ (zW (qQ (pv 8) (qQ (jB vC (by rfl) G.tuple PyProof.Rows.boot_tuple (qQ (qYj (tM (own:=["name"]) (y:="slots") (i:=1) (by rfl) (by decide+kernel) (by rfl) (by decide+kernel) (by rfl) (by decide+kernel) (by rfl) (.inl (by rfl)) (by rfl) (by decide+kernel)) rfl (iZ (pv 2))
   (fun C s H fp pins=>zO GU (hr.mono (by omega)) (qQ (pv 1) (qQ (pv 0) qZ))) (fun C s H fp pins=>jO (i:=0) ndb rfl oI (Or.inr (by rfl)))) qZ)) (qQ (zV zR (by rfl) G.len aq27 (qQ (pv 7) qZ)) qZ)))) qZ)) (pv 7))),?_⟩
  walk_at "e"
  intro H5 lk c3 c4 c5 c6 l5 wd ys g5 ek e5 hwd hc5
  have hl5:=hc5.code
  have hxf:∀x,x∈Pt.outs p->p.fv x:=fun x=>(Pt.outs_mem x p).mp
  generalize hxs:Pt.outs p=xs at ek hxl hxf ec hc5
  refine⟨_,rfl,_,rfl,lk,rfl,⟨_,zS.of ek⟩,fun D0 hD0=>?_⟩
  have gD:Grow H5 (upd H5 D0 (.lst [])):=Grow.put hD0
  obtain⟨kvs,s1,s2,s3⟩:=hs
  refine cK (K:=K) (a:=lk) (xs:=xs.map V.str) (te:=kS rZ [] E0 (jK (jV 1) (jK (jV 0) xE))) (ix:=[1]) (σ:=[some (.ref a),some (.ref sl),some (.ref lk),c3,c4,c5,c6,some (.ref l5),some (.str wd)])
   (fun i zs H6=>Grow H5 H6/\H6 D0=some (.lst zs)/\zs=(xs.take i).map fun x=>V.int (Pt.slotOf S x:Nat)) ?_ ?_ ?_ ?_
  ·exact⟨gD,qJ,rfl⟩
  ·rintro i zs H6 _ ⟨g6,_⟩
   exact zS.of (g6.same _ _ ek)
  ·rintro i y zs H6 hy ⟨g6,eD,hzl⟩ Q' hq
   rw[aq19]at hy
   obtain⟨x,hx,rfl⟩:=aq6.mp hy
   have hr1:=s3 x (hxf x (aq23 hx))
   have hi:i<xs.length:=(List.getElem?_eq_some_iff.mp hx).1
   exact⟨_,rfl,_,rfl,sl,x,_,kvs,rfl,(g5.trans g6).same _ _ s1,hr1,hq _ H6 eD (by rw[sizeLine_eq,hzl,aq16,List.length_take];omega) ⟨g6.set hD0,qJ,by rw[hzl,List.take_add_one,hx];simp⟩⟩
  ·rintro zs H6 ⟨g6,eD,hzl⟩
   rw[aq16,List.take_of_length_le (aq7 _)]at hzl
   refine⟨D0,zs,rfl,.inl ⟨zS.of eD,fun t0 ht0=>?_⟩⟩
   have g7:Grow H6 (upd H6 t0 (.tup zs)):=Grow.put ht0
   have e0:(upd H6 t0 (.tup zs)) t0=some (.tup zs):=qJ
   generalize upd H6 t0 (.tup zs)=H7 at g7 e0⊢
   have g57:=g6.trans g7
   have e5':=g57.same _ _ e5
   refine⟨_,rfl,l5,ys,rfl,.inl (zS.of e5'),zl3,fun t ht=>?_⟩
   have g8:Grow H7 (upd H7 t (.tup [.str wd,.ref t0,.int ys.length])):=Grow.put ht
   have e5':=g8.same _ _ e5'
   have et:(upd H7 t (.tup [.str wd,.ref t0,.int ys.length])) t=some (.tup [.str wd,.ref t0,.int ys.length]):=qJ
   generalize upd H7 t (.tup [.str wd,.ref t0,.int ys.length])=H8 at g8 e5' et⊢
   refine⟨zl1,fun l6 hl6=>?_⟩
   have g9:Grow H8 (upd H8 l6 (.lst [.ref t])):=Grow.put hl6
   have e5':=g9.same _ _ e5'
   have e6:(upd H8 l6 (.lst [.ref t])) l6=some (.lst [.ref t]):=qJ
   generalize upd H8 l6 (.lst [.ref t])=H9 at g9 e5' e6⊢
   have g59:=((g5.trans g57).trans g8).trans g9
   refine⟨_,rfl,l6,l5,_,_,rfl,rfl,e6,e5',by rw[sizeLine_eq];simp;omega,fun l7 hl7=>?_⟩
   refine q l7 _ _ (g59.trans (Grow.put hl7)) (g59.none _ hl7) qJ (by simp;omega) ?_
   have ga:=g9.trans (Grow.put (o:=.lst ([.ref t]++ys)) hl7)
   rw[ec]
   refine jL.app (c:=[_]) (jL.one (vs:=[.ref t0,.int ys.length]) (zB.of ?_) (qG (wX (zB.of ((g8.trans ga).same _ _ e0)) ?_) (qG ?_ qA))) (hc5.mono ((g57.trans g8).trans ga).same)
   ·rw[ga.same _ _ et,hwd];rfl
   ·rw[hzl,List.map_map]
    exact aY _ xs
   ·rw[hc5.len,qY]
 obtain⟨tm,pms,htm⟩:∃t,PSs (kD (CXE P w) P w K mg base ["part","slots","kept","bound","inner","slot","name","body","word"] "function_code" (qU fY) f cdv A outer s H E).nox ((kE fY).drop 3) t/\
   ∀(H3:Hp)(lk bb:Addr),Grow H H3->H3 lk=some (.lst ((Pt.outs p).map V.str))->H3 bb=some (.lst ((Pt.bnd p).map V.str))->
    t {nx:=fun _ H'=>Q .non H',rt:=Q} [some (.ref a),some (.ref sl),some (.ref lk),some (.ref bb),none,none,none,none,none] H3:=by
  refine⟨_,qX (qF (i:=4) uO.nd rfl oI wN)
   (qX (vS PassesOwn.never rfl (tG (by rfl) G.enumerate (qQ (zU vJ (pv 2) (pv 3)) qZ)) (iM rfl (xN (jO (i:=5) uO.nd rfl oI) (xN (jO (i:=6) uO.nd rfl oI) yS)))
    (qK (iW (Nat.lt_of_succ_lt hr.u2) (pv 4) (pv 6) (pv 5) rfl)))
   (qX (qF (i:=7) uO.nd rfl oI (zO GC hr (qQ (qM qP (pv 0) (lO uT qV)) (qQ (pv 4) (qQ (zV lA (by rfl) G.len aq27 (qQ (pv 4) qZ)) (qQ vQ qZ))))))
   (qX (qF (i:=8) uO.nd rfl oI (vZ (zZ jS (zV zR (by rfl) G.len aq27 (qQ (pv 3) qZ)) qV (nomark _)) qI qI)) pls))),?_⟩
  walk_at "e"
  intro H3 lk bb g3 ek eb
  have hxs:∀x,x∈Pt.outs p↔p.fv x:=fun x=>Pt.outs_mem x p
  generalize hxo:Pt.outs p=xs at ek hxl hxs bn1 htl
  generalize hbo:Pt.bnd p=bs at eb bn1 bn2 bn3 htl
  intro d hd4
  walk_at "d"
  have g4:Grow H3 (upd H3 d (.dK [])):=Grow.put hd4
  have ed:(upd H3 d (.dK [])) d=some (.dK []):=qJ
  have ek:=g4.same _ _ ek
  have eb:=g4.same _ _ eb
  have hd0:H d=none:=g3.none _ hd4
  have kd:lk≠d:=fun z=>by rw[z,ed]at ek;cases ek
  have bd:bb≠d:=fun z=>by rw[z,ed]at eb;cases eb
  generalize upd H3 d (.dK [])=H4 at g4 ek eb ed⊢
  have g04:=g3.trans g4
  refine⟨_,rfl,_,rfl,lk,bb,_,_,rfl,rfl,ek,eb,by rw[sizeLine_eq];simp;omega,fun lc hlc=>?_⟩
  rw[<-aq21]
  have cd:lc≠d:=fun z=>by rw[z,ed]at hlc;cases hlc
  have g5:Grow H4 (upd H4 lc (.lst ((xs++bs).map V.str))):=Grow.put hlc
  have ec:(upd H4 lc (.lst ((xs++bs).map V.str))) lc=some (.lst ((xs++bs).map V.str)):=qJ
  have ek:=g5.same _ _ ek
  have eb:=g5.same _ _ eb
  have ed:=g5.same _ _ ed
  generalize upd H4 lc (.lst ((xs++bs).map V.str))=H5 at g5 ec ek eb ed⊢
  have g05:=g04.trans g5
  refine⟨lc,rfl,⟨_,zS.of ec⟩,?_⟩
  refine dF (K:=K) (l:=lc) (xs:=(xs++bs).map V.str) (fun i σ H6=>∃o5 o6 kvs,σ=[some (.ref a),some (.ref sl),some (.ref lk),some (.ref bb),some (.ref d),o5,o6,none,none]/\Grow H H6/\H6 lc=some (.lst ((xs++bs).map V.str))/\H6 lk=some (.lst (xs.map V.str))/\H6 bb=some (.lst (bs.map V.str))/\H6 d=some (.dK kvs)/\xU kvs ((xs++bs).take i)/\∀j x,j<i->(xs++bs)[j]? =some x->xT kvs (Sum.inr x:Key)=some (.int (j:Nat))) ?_ ?_ ?_ ?_
  ·exact⟨_,_,[],rfl,g05,ec,ek,eb,ed,rfl,fun j x h=>absurd h (Nat.not_lt_zero _)⟩
  ·rintro i σ H6 _ ⟨o5,o6,kvs,rfl,_,h,_⟩
   exact zS.of h
  ·rintro i y T σ H6 hy ⟨o5,o6,kvs,rfl,g6,ec6,ek6,eb6,ed6,hkl,hkx⟩ hT
   rw[aq19]at hy
   obtain⟨x,hx,rfl⟩:=aq6.mp hy
   have hi:i<(xs++bs).length:=(List.getElem?_eq_some_iff.mp hx).1
   rw[List.length_append]at hi
   have g7:Grow H6 (upd H6 T (.tup [.int i,.str x])):=Grow.put hT
   refine⟨T,_,rfl,zB.of qJ,rfl,_,_,rfl,_,_,rfl,rfl,?_⟩
   walk_at "d"
   have ec7:=g7.same _ _ ec6
   have ek7:=g7.same _ _ ek6
   have eb7:=g7.same _ _ eb6
   have ed7:=g7.same _ _ ed6
   generalize upd H6 T (.tup [.int i,.str x])=H7 at g7 ec7 ek7 eb7 ed7⊢
   have hkn:=hkl.length
   rw[List.length_take]at hkn
   refine⟨_,rfl,_,rfl,_,rfl,d,_,rfl,DPut.k (k:=Sum.inr x) ed7 (by rw[sizeLine_eq];omega),?_⟩
   have hnew:x∉(xs++bs).take i:=by
    intro hm
    obtain⟨j,hj,e⟩:=List.getElem_of_mem hm
    rw[List.length_take]at hj
    rw[List.getElem_take]at e
    have hi':i<(xs++bs).length:=(List.getElem?_eq_some_iff.mp hx).1
    have e2:=(List.getElem?_eq_some_iff.mp hx).2
    have :=(List.nodup_iff_pairwise_ne.mp bn1)
    have h3:=List.pairwise_iff_getElem.mp bn1 j i (by omega) hi' (by omega)
    exact h3 (e.trans e2.symm)
   refine⟨_,_,_,rfl,(g6.trans g7).set hd0,(qL cd).trans ec7,(qL kd).trans ek7,(qL bd).trans eb7,qJ,?_,fun j y hj hjy=>?_⟩
   ·unfold xU at *
    rw[(cU kvs _ _).2 (by rw[hkl];exact fun z=>hnew (nU.mp z)),hkl,List.take_add_one,hx];simp
   ·rw[cQ]
    by_cases z:y=x
    ·subst z
     rw[if_pos rfl]
     by_cases z2:j=i
     ·subst z2;rfl
     ·have hm:y∈(xs++bs).take i:=aq23 (i:=j) (by rw[List.getElem?_take_of_lt (show j<i by omega)];exact hjy)
      exact absurd hm hnew
    ·rw[if_neg (fun h=>z (Sum.inr.inj h))]
     have z2:j≠i:=fun e=>by subst e;rw[hx]at hjy;exact z (Option.some.inj hjy).symm
     exact hkx j y (by omega) hjy
  ·rintro σ H6 ⟨o5,o6,kvs,rfl,g6,ec6,ek6,eb6,ed6,hkl,hkx⟩
   rw[aq16]at hkl hkx
   rw[List.take_of_length_le (aq7 _)]at hkl
   have hkn:=hkl.length
   have hkn':=hkn
   rw[List.length_append]at hkn'
   have hsq:uU H6 d (Pt.slotsFor 0 (xs++bs)) pq:=by
    refine⟨kvs,ed6,?_,fun x hx=>?_⟩
    ·omega
    ·have hm:x∈xs++bs:=by
      by_cases z:x∈Pt.names p
      ·exact aq11 _ ((bn2 x).mpr z)
      ·exact List.mem_append_left _ ((hxs x).mpr ((fZ (aW hf) x).mpr ⟨0,pq,by rw[hpa];rfl,hx,.inr z⟩))
     obtain⟨j,hj,e⟩:=List.getElem_of_mem hm
     have e':(xs++bs)[j]? =some x:=by rw[aq15 hj,e]
     rw[hkx j x hj e',Pt.slotOf_for bn1 e',Nat.zero_add]
   refine⟨_,rfl,1,rfl,a,_,-1,u,rfl,rfl,zB.mono g6.same ha,yE ws u,_,rfl,_,rfl,d,kvs,rfl,ed6,u,d,kvs.length,true,pq,Pt.slotsFor 0 (xs++bs),rfl,hu.mono g6.same,by omega,by omega,hsq,fun l5 ys H7 g7 n7 e7 hc7=>?_⟩
   rw[hkn]at hc7
   walk_at "d"
   have ek7:=g7.same _ _ ek6
   have fin:∀wd:Str,_:=fun wd hw=>htl H7 lk (some (.ref bb)) (some (.ref d)) o5 o6 l5 wd ys (g6.trans g7) ek7 e7 hw hc7
   refine⟨_,rfl,bb,_,rfl,.inl (zS.of (g7.same _ _ eb6)),rfl,_,rfl,ite2 (fun hw=>?_) (fun hw=>?_)⟩
   ·have e1:bs.length=1:=by have :=of_decide_eq_true hw;rw[aq16]at this;have :=V.int.inj this;omega
    exact fin "fn" (by rw[e1];rfl)
   ·have e1:bs.length≠1:=fun z=>hw (by rw[aq16,z];rfl)
    exact fin "rec" (by rw[decide_eq_true e1];rfl)
 refine⟨_,qX (qF (i:=2) uO.nd rfl oI (zO GO (hr.mono (by omega)) (qQ (pv 0) qZ)))
  (qX (qF (i:=3) uO.nd rfl oI (zO GB (hr.mono (by omega)) (qQ (pv 0) qZ)))
  (qX (zH (zZ jS (qM zY (pv 3) qV) (qM zY (pv 3) (lO uT qV)) (nomark _)) (qK (qF (i:=3) uO.nd rfl oI (iR qF6 (pv 3) mX (mW qV)))) zX) pms)),?_⟩
 walk_at "e"
 refine⟨_,rfl,.ref a,p,rfl,hp,hd,hz,fun lk H1 g1 n1 e1=>?_⟩
 walk_at "d"
 refine⟨_,rfl,a,Pt.wd p,ws',rfl,zB.mono g1.same ha',hws,fun b H2 g2 n2 e2=>?_⟩
 rw[hbn]at e2
 walk_at "d"
 have g12:=g1.trans g2
 have e1':=g2.same _ _ e1
 have hlast:∃y,atI ((Pt.names p).map V.str) (-1)=some (.str y)/\(y=x0->Pt.bnd p=[x0])/\(y≠x0->Pt.bnd p=Pt.names p):=by
  cases hf with
  | @fn z k r=>
   have e:x0=z:=by have :=hnm;simp[Pt.names]at this;exact this.1.symm
   subst e
   exact⟨x0,yE [] (V.str x0),fun _=>rfl,fun h=>absurd rfl h⟩
  | @rc g z k l r=>
   have e:x0=g:=by have :=hnm;simp[Pt.names]at this;exact this.1.symm
   subst e
   refine⟨z,yE [V.str x0] (V.str z),fun h=>?_,fun h=>?_⟩
   ·subst h;simp[Pt.bnd]
   ·simp[Pt.bnd,Pt.names,Ne.symm h]
 obtain⟨y,hy,hyx,hyn⟩:=hlast
 have hcut:iS ((Pt.names p).map V.str) none (some 1)=([x0]:List Str).map V.str:=by
  rw[hnm]
  match r0,hr0 with
  |[],_=>rfl
  |[y],_=>rfl
 refine⟨_,rfl,b,_,0,.str x0,rfl,rfl,zS.of e2,by rw[hnm];exact qW (j:=0) rfl,_,rfl,1,rfl,b,_,-1,.str y,rfl,rfl,zS.of e2,hy,rfl,_,rfl,ite2 (fun hxy=>?_) (fun hxy=>?_)⟩
 ·have hxy':y=x0:=by have :=of_decide_eq_true hxy;cases this;rfl
  refine⟨_,rfl,_,rfl,b,_,rfl,zS.of e2,fun b2 hb2=>?_⟩
  walk_at "d"
  rw[hcut,<-hyx hxy']
  exact htm _ lk b2 (g12.trans (Grow.put hb2)) ((Grow.put hb2).same _ _ e1') qJ
 ·have hxy':y≠x0:=fun z=>hxy (by rw[z];simp)
  rw[<-hyn hxy']at e2
  exact htm H2 lk b g12 e1' e2
end
abbrev sKO:Stmt:=top 80
def pkeys:List Str:=["call","if","and","or","let"]
def owds:List Str:=["head","tail","empty","first","second","not","cons","pair","plus","minus","times","over","rest","less","same"]
theorem qI5:∀x∈owds,yB x pkeys=none/\pH (.str x) [.str "fn",.str "rec"]=false/\pH (.str x) [.str "num",.str "truth",.str "name",.str "nil"]=false:=by decide+kernel
theorem qI6:∀x∈(["num","truth","name","nil"]:List Str),yB x pkeys=none/\pH (.str x) [.str "fn",.str "rec"]=false/\pH (.str x) [.str "num",.str "truth",.str "name",.str "nil"]=true:=by decide+kernel
theorem qI7:∀x∈(["fn","rec"]:List Str),yB x pkeys=none/\pH (.str x) [.str "fn",.str "rec"]=true:=by decide+kernel
theorem zF9{K:Fg}{H:Hp}{p:Pt}{v:V}(h:qY K H p.dt v):∃a xs,v= .ref a/\zB K H a (.str (Pt.wd p)::xs):=by
 by_cases hn:yI p=true
 ·cases p with
  |nam x=>obtain⟨a,u,rfl,ha,_⟩:=xF h;exact⟨a,_,rfl,ha⟩
  |_=>cases hn
 ·obtain⟨a,xs,e,h1,_⟩:=cY (by simpa using hn) h
  exact⟨a,xs,e,h1⟩
inductive Way:Pt->Prop
 |call {q r}:Way (.two .call q r)
 |iff {p}:IfP p->Way p
 |let_ {x q r}:Way (.let_ x q r)
 |fn {p}:FnP p->Pt.wd p∈(["fn","rec"]:List Str)->Way p
 |val {p}:qI0 p->Pt.wd p∈(["num","truth","name","nil"]:List Str)->p.sz=1->Way p
 |oth {p}:Pt.plain p=true->Pt.wd p∈owds->Way p
theorem way(p:Pt):Way p:=by
 cases p with
 |num n=>exact .val (.inl ⟨n,rfl⟩) (by simp[Pt.wd]) rfl
 |tru n=>exact .val (.inr (.inl ⟨n,rfl⟩)) (by simp[Pt.wd]) rfl
 |nam n=>exact .val (.inr (.inr (.inl ⟨n,rfl⟩))) (by simp[Pt.wd]) rfl
 |nil n=>exact .val (.inr (.inr (.inr ⟨n,rfl⟩))) (by simp[Pt.wd]) rfl
 |one u q=>exact .oth rfl (by cases u<;>simp[Pt.wd,U1.str,owds])
 |two u q r=>
  cases u
  case call=>exact .call
  case and=>exact .iff .and
  case or=>exact .iff .or
  all_goals exact .oth rfl (by simp[Pt.wd,U2.str,owds])
 |ite q r t=>exact .iff .ite
 |let_ x q r=>exact .let_
 |fn x k q=>exact .fn .fn (by simp[Pt.wd])
 |rc g x k l q=>exact .fn .rc (by simp[Pt.wd])
theorem oR{p:Pt}(h:Way p)(hz:(match p with | .fn .. =>true| .rc .. =>true| .num _=>true| .tru _=>true| .nam _=>true| .nil _=>true|_=>false)=true)(S:Pt.Sl)(n:Nat)(b:Bool):Pt.told b (Pt.codeOf p S 0 false)=Pt.codeOf p S n b:=by
 cases p<;>first|(cases hz;done)|(cases b<;>rfl)
theorem rN{p:Pt}(h:Pt.plain p=true)(hw:Pt.wd p∈owds)(S:Pt.Sl)(n:Nat)(b:Bool):∃o:AOrd,o.wd=Pt.wd p/\o.args=[]/\Pt.told b (vD S n (Pt.parts p)++[o])=Pt.codeOf p S n b:=by
 cases p with
 |one u q=>refine⟨Pt.u1 u,by cases u<;>rfl,by cases u<;>rfl,?_⟩;simp[vD,Pt.parts,Pt.codeOf]
 |two u q r=>
  cases u
  case call=>exact absurd hw (by simp[Pt.wd,U2.str];decide+kernel)
  case and=>exact absurd hw (by simp[Pt.wd,U2.str];decide+kernel)
  case or=>exact absurd hw (by simp[Pt.wd,U2.str];decide+kernel)
  case cons=>exact⟨Pt.u2 .cons,rfl,rfl,by simp[vD,Pt.parts,Pt.codeOf]⟩
  case pair=>exact⟨Pt.u2 .pair,rfl,rfl,by simp[vD,Pt.parts,Pt.codeOf]⟩
  case plus=>exact⟨Pt.u2 .plus,rfl,rfl,by simp[vD,Pt.parts,Pt.codeOf]⟩
  case minus=>exact⟨Pt.u2 .minus,rfl,rfl,by simp[vD,Pt.parts,Pt.codeOf]⟩
  case times=>exact⟨Pt.u2 .times,rfl,rfl,by simp[vD,Pt.parts,Pt.codeOf]⟩
  case over=>exact⟨Pt.u2 .over,rfl,rfl,by simp[vD,Pt.parts,Pt.codeOf]⟩
  case rest=>exact⟨Pt.u2 .rest,rfl,rfl,by simp[vD,Pt.parts,Pt.codeOf]⟩
  case less=>exact⟨Pt.u2 .less,rfl,rfl,by simp[vD,Pt.parts,Pt.codeOf]⟩
  case same=>exact⟨Pt.u2 .same,rfl,rfl,by simp[vD,Pt.parts,Pt.codeOf]⟩
 |_=>exact absurd hw (by simp[Pt.wd];decide+kernel)
section
variable {P:Program} {w:World} {K:Fg} {mg:Str->Option Value} {base:Heap} {f:Addr} {fd:FuncData}
theorem oW:qC ["part","slots","height","last","word","code"] ps4 (qU cO):=by walk_at "s"
theorem qI8(F:zK K "code_of" "code_of" cO .none f fd):zQ P w K mg base (CXE P w) (3*0+4) f fd ps4 (wR K 0):=by
 refine F.ok0 oW (by walk_at "l") ?_
 walk_at "i"
 obtain⟨v,sl,h,b,p,S,rfl,_,hd,_⟩:=h
 exact absurd hd (Nat.not_lt_zero _)
theorem qR3{n:Nat}{fC fI fL tb:Addr}(F:zK K "code_of" "code_of" cO .none f fd)(mP:mg "PLACED_CODES"=some (.ref tb))(T1:oE K tb (pkeys.zip [.ref fC,.ref fI,.ref fI,.ref fI,.ref fL]))
  (GC:At P w K mg base (3*n+6) fC ps4 (rL K (aK n)))(GI:At P w K mg base (3*n+5) fI ps4 (rL K (zJj n)))(GL:At P w K mg base (3*n+5) fL ps4 (rL K (qI3 n)))
  (GF:Kn P w K mg base (3*n+5) "function_code" ["part","slots"] (zX1 K n))(GV:Kn P w K mg base 2 "value_code" ["part","slots"] (qI2 K))(GO:Kn P w K mg base (3*n+5) "operands_code" ["part","slots","height"] (aJ K n)):zQ P w K mg base (CXE P w) (3*(n+1)+4) f fd ps4 (wR K (n+1)):=by
 refine F.ok0 (k:=3*n+6) oW (fun vs H Q E h=>?_) (fun cdv A outer s H vs Q E hr h=>?_)
 ·obtain⟨v,sl,h,b,p,S,rfl,_⟩:=h
  rfl
 ·obtain⟨v,sl,h0,b,p,S,rfl,hp,hd,hz,hs,q⟩:=h
  obtain⟨tl,pls,htl⟩:∃t,PSs (kD (CXE P w) P w K mg base ["part","slots","height","last","word","code"] "code_of" (qU cO) f cdv A outer s H E).nox ((kE cO).drop 3) t/\
    ∀(H5:Hp)(c4:Option V)(l:Addr)(ys:List V),Grow H H5->H l=none->H5 l=some (.lst ys)->ys.length+5<=6*p.sz->(∃c,jL K H5 c ys/\Pt.told b c=Pt.codeOf p S h0 b)->
     t {nx:=fun _ H'=>Q .non H',rt:=Q} [some v,some (.ref sl),some (.int h0),some (.bl b),c4,some (.ref l)] H5:=by
   refine⟨_,qK (qB (vZ (xI (pv 3)) (zU vJ (pv 5) (jQ (qQ (zW (qQ qI qZ)) qZ))) (pv 5))),?_⟩
   walk_at "e"
   intro H5 c4 l ys g5 nl e5 hl ⟨c,hc,ec⟩
   refine⟨_,rfl,b,rfl,?_⟩
   cases b with
   |false=>exact jJ ⟨_,rfl,q l ys H5 g5 nl e5 (by rw[<-ec];exact hc)⟩
   |true=>
    refine jC ⟨_,rfl,zl1,fun t ht=>?_⟩
    have g6:Grow H5 (upd H5 t (.tup [.str "tell"])):=Grow.put ht
    have e5:=g6.same _ _ e5
    have et:(upd H5 t (.tup [.str "tell"])) t=some (.tup [.str "tell"]):=qJ
    generalize upd H5 t (.tup [.str "tell"])=H6 at g6 e5 et⊢
    refine⟨zl1,fun l6 hl6=>?_⟩
    have g7:Grow H6 (upd H6 l6 (.lst [.ref t])):=Grow.put hl6
    have e5:=g7.same _ _ e5
    have e6:(upd H6 l6 (.lst [.ref t])) l6=some (.lst [.ref t]):=qJ
    generalize upd H6 l6 (.lst [.ref t])=H7 at g7 e5 e6⊢
    have g57:=(g5.trans g6).trans g7
    refine⟨l,l6,_,_,rfl,rfl,e5,e6,by rw[sizeLine_eq];simp;omega,fun l7 hl7=>?_⟩
    refine q l7 _ _ (g57.trans (Grow.put hl7)) (g57.none _ hl7) qJ ?_
    rw[<-ec]
    exact jL.app (hc.mono ((g6.trans g7).trans (Grow.put hl7)).same) (jL.one (o:=.tell) (vs:=[]) (zB.of ((g7.trans (Grow.put hl7)).same _ _ et)) qA)
  refine⟨_,qX (qF (i:=4) oW.nd rfl oI (qM qP (pv 0) qV))
   (qX (zH (zZ iA (pv 4) (zM (v:=.ref tb) (by rfl) mP rfl) rfl) (qK (qB (wB (CX:=CXE P w) (qM oJ (zM (v:=.ref tb) (by rfl) mP rfl) (pv 4)) (qQ (pv 0) (qQ (pv 1) (qQ (pv 2) (qQ (pv 3) qZ))))))) zX)
   (qX (zH (zZ yQ (pv 4) (zW (qQ qI (qQ qI qZ))) rfl) (qK (qF (i:=5) oW.nd rfl oI (zO GF (hr.mono (by omega)) (qQ (pv 0) (qQ (pv 1) qZ)))))
    (qK (zH (zZ yQ (pv 4) (zW (qQ qI (qQ qI (qQ qI (qQ qI qZ))))) rfl)
     (qK (qF (i:=5) oW.nd rfl oI (zO GV (hr.mono (by omega)) (qQ (pv 0) (qQ (pv 1) qZ)))))
     (qK (qF (i:=5) oW.nd rfl oI (zU vJ (zO GO (hr.mono (by omega)) (qQ (pv 0) (qQ (pv 1) (qQ (pv 2) qZ)))) (jQ (qQ (zW (qQ (pv 4) qZ)) qZ))))))))
   pls)),?_⟩
  walk_at "e"
  obtain⟨a,ws,rfl,ha⟩:=zF9 hp
  refine⟨_,rfl,a,_,_,.str (Pt.wd p),rfl,rfl,ha,qW (j:=0) rfl,?_⟩
  walk_at "d"
  refine⟨_,rfl,_,_,_,rfl,rfl,T1,_,rfl,?_⟩
  cases way p with
  | @call p1 p2=>
   obtain⟨fdg,y3,y4,y5⟩:=GC
   rw[show Pt.wd (.two .call p1 p2)=("call":Str)from rfl,xY (i:=0) (by decide+kernel) (by show 0<5;decide)]
   refine jC ⟨_,rfl,_,_,_,_,rfl,rfl,T1,qS (i:=0) (by decide+kernel) rfl,fC,fdg,_,_,[],[],E0,_,rfl,y3,hr,y4,y5,.nil,zD,_,rfl,_,rfl,_,rfl,_,rfl,?_⟩
   exact⟨_,sl,h0,b,_,S,rfl,hp,⟨hd,_,_,rfl⟩,hz,hs,q⟩
  |iff hi=>
   obtain⟨fdg,y3,y4,y5⟩:=GI
   have hn:0<n:=by
    have hd':p.deep<n+1:=hd
    have :0<p.deep:=by cases hi<;>simp only[Pt.deep]<;>omega
    omega
   obtain⟨i,h1,h2⟩:∃i:Nat,yB (Pt.wd p) pkeys=some i/\([.ref fC,.ref fI,.ref fI,.ref fI,.ref fL]:List V)[i]? =some (.ref fI):=by
    cases hi with
    |ite=>exact⟨1,by rw[Pt.wd];decide+kernel,rfl⟩
    |and=>exact⟨2,by rw[Pt.wd];decide+kernel,rfl⟩
    |or=>exact⟨3,by rw[Pt.wd];decide+kernel,rfl⟩
   rw[xY (i:=i) h1 (List.getElem?_eq_some_iff.mp h2).1]
   refine jC ⟨_,rfl,_,_,_,_,rfl,rfl,T1,qS h1 h2,fI,fdg,_,_,[],[],E0,_,rfl,y3,hr.mono (by omega),y4,y5,.nil,zD,_,rfl,_,rfl,_,rfl,_,rfl,?_⟩
   exact⟨_,sl,h0,b,_,S,rfl,hp,⟨hd,hn,hi⟩,hz,hs,q⟩
  | @let_ x p1 p2=>
   obtain⟨fdg,y3,y4,y5⟩:=GL
   rw[show Pt.wd (.let_ x p1 p2)=("let":Str)from rfl,xY (i:=4) (by decide+kernel) (by show 4<5;decide)]
   refine jC ⟨_,rfl,_,_,_,_,rfl,rfl,T1,qS (i:=4) (by decide+kernel) rfl,fL,fdg,_,_,[],[],E0,_,rfl,y3,hr.mono (by omega),y4,y5,.nil,zD,_,rfl,_,rfl,_,rfl,_,rfl,?_⟩
   exact⟨_,sl,h0,b,_,S,rfl,hp,⟨hd,_,_,_,rfl⟩,hz,hs,q⟩
  |fn hf hw=>
   obtain⟨w1,w2⟩:=qI7 _ hw
   rw[oK w1]
   refine jJ ⟨_,rfl,zl2,fun c1 hc1=>?_⟩
   have g1:Grow H (upd H c1 (.tup [.str "fn",.str "rec"])):=Grow.put hc1
   refine⟨c1,_,rfl,.inr (zB.of qJ),rfl,rfl,_,rfl,?_⟩
   rw[if_neg (c:=false=true) (by decide),w2]
   generalize upd H c1 (.tup [.str "fn",.str "rec"])=H1 at g1⊢
   refine jC ⟨_,rfl,_,rfl,_,sl,p,S,rfl,hp.mono g1.same,hd,hf,hz,hs.mono g1,fun l ys H2 g2 n2 e2 hl2 hc2=>?_⟩
   exact htl H2 _ l ys (g1.trans g2) (g1.none _ n2) e2 hl2 ⟨_,hc2,oR (.fn hf hw) (by cases hf<;>rfl) S h0 b⟩
  |val hv hw hsz=>
   obtain⟨w1,w2,w3⟩:=qI6 _ hw
   rw[oK w1]
   refine jJ ⟨_,rfl,zl2,fun c1 hc1=>?_⟩
   have g1:Grow H (upd H c1 (.tup [.str "fn",.str "rec"])):=Grow.put hc1
   refine⟨c1,_,rfl,.inr (zB.of qJ),rfl,rfl,_,rfl,?_⟩
   rw[if_neg (c:=false=true) (by decide),w2]
   generalize upd H c1 (.tup [.str "fn",.str "rec"])=H1 at g1⊢
   refine jJ ⟨_,rfl,zl4,fun c2 hc2=>?_⟩
   have g2:Grow H1 (upd H1 c2 (.tup [.str "num",.str "truth",.str "name",.str "nil"])):=Grow.put hc2
   refine⟨c2,_,rfl,.inr (zB.of qJ),rfl,rfl,_,rfl,?_⟩
   rw[if_neg (c:=false=true) (by decide),w3]
   generalize upd H1 c2 (.tup [.str "num",.str "truth",.str "name",.str "nil"])=H2 at g2⊢
   have g12:=g1.trans g2
   refine jC ⟨_,rfl,_,rfl,_,sl,p,S,rfl,hp.mono g12.same,hv,hs.mono g12,fun l ys H3 g3 n3 e3 hc3=>?_⟩
   have hy1:ys.length=1:=by rw[hc3.len];rcases hv with⟨_,rfl⟩|⟨_,rfl⟩|⟨_,rfl⟩|⟨_,rfl⟩<;>rfl
   exact htl H3 _ l ys (g12.trans g3) (g12.none _ n3) e3 (by omega) ⟨_,hc3,oR (.val hv hw hsz) (by rcases hv with⟨_,rfl⟩|⟨_,rfl⟩|⟨_,rfl⟩|⟨_,rfl⟩<;>rfl) S h0 b⟩
  |oth hpl hw=>
   obtain⟨w1,w2,w3⟩:=qI5 _ hw
   rw[oK w1]
   refine jJ ⟨_,rfl,zl2,fun c1 hc1=>?_⟩
   have g1:Grow H (upd H c1 (.tup [.str "fn",.str "rec"])):=Grow.put hc1
   refine⟨c1,_,rfl,.inr (zB.of qJ),rfl,rfl,_,rfl,?_⟩
   rw[if_neg (c:=false=true) (by decide),w2]
   generalize upd H c1 (.tup [.str "fn",.str "rec"])=H1 at g1⊢
   refine jJ ⟨_,rfl,zl4,fun c2 hc2=>?_⟩
   have g2:Grow H1 (upd H1 c2 (.tup [.str "num",.str "truth",.str "name",.str "nil"])):=Grow.put hc2
   refine⟨c2,_,rfl,.inr (zB.of qJ),rfl,rfl,_,rfl,?_⟩
   rw[if_neg (c:=false=true) (by decide),w3]
   generalize upd H1 c2 (.tup [.str "num",.str "truth",.str "name",.str "nil"])=H2 at g2⊢
   have g12:=g1.trans g2
   have hsz:=(yX hpl).1
   refine jJ ⟨_,rfl,_,rfl,_,rfl,_,sl,h0,p,S,rfl,hp.mono g12.same,hpl,hd,hz,hs.mono g12,fun l ys H3 g3 n3 e3 hl3 hc3=>?_⟩
   refine⟨_,rfl,zl1,fun t ht=>?_⟩
   have g4:Grow H3 (upd H3 t (.tup [.str (Pt.wd p)])):=Grow.put ht
   have e3:=g4.same _ _ e3
   have et:(upd H3 t (.tup [.str (Pt.wd p)])) t=some (.tup [.str (Pt.wd p)]):=qJ
   generalize upd H3 t (.tup [.str (Pt.wd p)])=H4 at g4 e3 et⊢
   refine⟨zl1,fun l6 hl6=>?_⟩
   have g5:Grow H4 (upd H4 l6 (.lst [.ref t])):=Grow.put hl6
   have e3:=g5.same _ _ e3
   have e6:(upd H4 l6 (.lst [.ref t])) l6=some (.lst [.ref t]):=qJ
   generalize upd H4 l6 (.lst [.ref t])=H5 at g5 e3 e6⊢
   have g05:=((g12.trans g3).trans g4).trans g5
   refine⟨l,l6,_,_,rfl,rfl,e3,e6,by rw[sizeLine_eq];simp;omega,fun l7 hl7=>?_⟩
   obtain⟨o,ho1,ho2,ho3⟩:=rN hpl hw S h0 b
   refine htl _ _ l7 _ (g05.trans (Grow.put hl7)) (g05.none _ hl7) qJ (by simp;omega) ⟨_,jL.app (hc3.mono ((g4.trans g5).trans (Grow.put hl7)).same) (jL.one (o:=o) (vs:=[]) (zB.of ?_) (by rw[ho2];exact qA)),ho3⟩
   rw[(g5.trans (Grow.put hl7)).same _ _ et,ho1]
end
end K23
namespace L2
open PySem PySem.Spec PyProof.Rows PyProof
theorem qI9{n k:Nat}(h:n<2^k)(hk:0<k):n.log2<k:=by
 by_cases z:n=0
 ·subst z;simpa using hk
 ·exact(Nat.log2_lt z).mpr h
theorem qIq{X:Cx}:yP X (binaryOp .FloorDiv) (rI (fun _ j=>j≠0/\j.natAbs<2^64) fun i j=>.int (i.fdiv j)):=opI fun _ _ _ _ _ _ _ hc q=>floordiv_int hc.1 q (.inl (PyProof.noPylong_of_log2 (Nat.lt_trans (qI9 hc.2 (by decide)) (by decide))))
end L2
namespace K23
open PySem L2 PyProof
abbrev sBr:Stmt:=top 30
abbrev qIz:Stmt:=top 31
abbrev rB:Stmt:=top 32
abbrev rD:Stmt:=top 33
abbrev qIj:Stmt:=top 34
abbrev qC0:Stmt:=top 35
abbrev qC1:Stmt:=top 36
abbrev qC2:Stmt:=top 37
abbrev nI:Stmt:=top 39
abbrev rF:Stmt:=top 40
abbrev least:Int:= -9223372036854775808
abbrev round:Int:=18446744073709551616
def fP(n:Int):Int:=(n-least)%round+least
def aI(i:Int):Int:=if i<0 then -i else i
theorem oY(i:Int):aI i=(i.natAbs:Int):=by unfold aI;split<;>omega
inductive W7|plus|minus|times|over|rest|less|same
def W7.str:W7->Str
 | .plus=>"plus"| .minus=>"minus"| .times=>"times"| .over=>"over"| .rest=>"rest"| .less=>"less"| .same=>"same"
def qJq(a b:Int):Int:=(aI a).fdiv (aI b)
noncomputable def sumV:W7->Int->Int->V
 | .plus,a,b=>.int (fP (a+b))
 | .minus,a,b=>.int (fP (a-b))
 | .times,a,b=>.int (fP (a*b))
 | .over,a,b=>.int (fP (if decide (V.bl (decide (a<0))=V.bl (decide (b<0)))=true then qJq a b else -qJq a b))
 | .rest,a,b=>.int (if decide (a<0)=true then -(aI a%aI b)else aI a%aI b)
 | .less,a,b=>.bl (decide (a<b))
 | .same,a,b=>.bl (decide (V.int a=V.int b))
def divs:W7->Bool
 | .over=>true| .rest=>true|_=>false
structure qR4(mg:Str->Option Value):Prop where
 abs:mg "abs"=none
 least:∃t,mg "LEAST_NUMBER"=some (.int least t)
 round:∃t,mg "ROUND"=some (.int round t)
section
variable {P:Program} {w:World} {K:Fg} {mg:Str->Option Value} {base:Heap} {fB:Addr} {fdB:FuncData}
inductive zX2(vs:List V)(H:Hp)(Q:VK):Prop
 |mk (n:Int) (a_0:vs=[.int n]) (a_1:Q (.int (fP n)) H):zX2 vs H Q
def qC3:Sp:=fun vs H Q x_0=>zX2 vs H Q
theorem zEz:qC ["number"] ["number"] (qU sBr):=by walk_at "s"
theorem zFq{f:Addr}{fd:FuncData}(F:zK K "brought_in" "brought_in" sBr .none f fd)(G:qR4 mg):zQ P w K mg base (CXE P w) 1 f fd ["number"] qC3:=by
 refine F.ok0 zEz (by walk_at "l") ?_
 walk_at "i"
 obtain⟨n,rfl,q⟩:=h
 obtain⟨t1,m1⟩:=G.least
 obtain⟨t2,m2⟩:=G.round
 refine⟨_,qK (qB (zU xA (zU kN (zU vT (pv 0) (zM (v:=.int least) (by rfl) m1 ⟨t1,rfl⟩)) (zM (v:=.int round) (by rfl) m2 ⟨t2,rfl⟩)) (zM (v:=.int least) (by rfl) m1 ⟨t1,rfl⟩))),?_⟩
 walk_at "e"
 exact⟨_,rfl,_,_,rfl,rfl,_,_,rfl,rfl,(by show(0:Int)<18446744073709551616;decide),_,_,rfl,rfl,q⟩
inductive qC4(x:W7)(vs:List V)(H:Hp)(Q:VK):Prop
 |mk (a:Int) (b:Int) (a_0:vs=[.int a,.int b]) (a_1:In64 a) (a_2:In64 b) (a_3:(divs x=true->b≠0)) (a_4:Q (sumV x a b) H):qC4 x vs H Q
def oS(x:W7):Sp:=fun vs H Q x_0=>qC4 x vs H Q
theorem zEj:qC ["one","other"] ["one","other"] (qU qIz):=by walk_at "s"
theorem jQ0:qC ["one","other"] ["one","other"] (qU rB):=by walk_at "s"
theorem jQ1:qC ["one","other"] ["one","other"] (qU rD):=by walk_at "s"
theorem zFz:qC ["one","other","cut"] ["one","other"] (qU qIj):=by walk_at "s"
theorem zFj:qC ["one","other","left"] ["one","other"] (qU qC0):=by walk_at "s"
theorem jQ2:qC ["one","other"] ["one","other"] (qU qC1):=by walk_at "s"
theorem jQ3:qC ["one","other"] ["one","other"] (qU qC2):=by walk_at "s"
theorem qR5{f:Addr}{fd:FuncData}(F:zK K "plus" "plus" qIz .none f fd)(GB:zQ P w K mg base (CXE P w) 1 fB fdB ["number"] qC3)(mB:mg "brought_in"=some (.ref fB))(kB:PySem.W.keepIn K (.ref fB)=true)(bB:Binds K fdB ["number"] []):
  zQ P w K mg base (CXE P w) 2 f fd ["one","other"] (oS .plus):=by
 refine F.ok0 zEj (by walk_at "l") ?_
 walk_at "i"
 obtain⟨a,b,rfl,ha,hb,_,q⟩:=h
 refine⟨_,qK (qB (vY GB hr (by rfl) mB kB bB .nil zD (qQ (zU xA (pv 0) (pv 1)) qZ))),?_⟩
 walk_at "e"
 exact⟨_,rfl,_,rfl,_,_,rfl,rfl,_,rfl,q⟩
theorem qC5{f:Addr}{fd:FuncData}(F:zK K "minus" "minus" rB .none f fd)(GB:zQ P w K mg base (CXE P w) 1 fB fdB ["number"] qC3)(mB:mg "brought_in"=some (.ref fB))(kB:PySem.W.keepIn K (.ref fB)=true)(bB:Binds K fdB ["number"] []):
  zQ P w K mg base (CXE P w) 2 f fd ["one","other"] (oS .minus):=by
 refine F.ok0 jQ0 (by walk_at "l") ?_
 walk_at "i"
 obtain⟨a,b,rfl,ha,hb,_,q⟩:=h
 refine⟨_,qK (qB (vY GB hr (by rfl) mB kB bB .nil zD (qQ (zU vT (pv 0) (pv 1)) qZ))),?_⟩
 walk_at "e"
 exact⟨_,rfl,_,rfl,_,_,rfl,rfl,_,rfl,q⟩
theorem qC6{f:Addr}{fd:FuncData}(F:zK K "times" "times" rD .none f fd)(GB:zQ P w K mg base (CXE P w) 1 fB fdB ["number"] qC3)(mB:mg "brought_in"=some (.ref fB))(kB:PySem.W.keepIn K (.ref fB)=true)(bB:Binds K fdB ["number"] []):
  zQ P w K mg base (CXE P w) 2 f fd ["one","other"] (oS .times):=by
 refine F.ok0 jQ1 (by walk_at "l") ?_
 walk_at "i"
 obtain⟨a,b,rfl,ha,hb,_,q⟩:=h
 refine⟨_,qK (qB (vY GB hr (by rfl) mB kB bB .nil zD (qQ (zU yM (pv 0) (pv 1)) qZ))),?_⟩
 walk_at "e"
 have h1: -(2^64)<a/\a<2^64:=by unfold In64 at ha;omega
 exact⟨_,rfl,_,rfl,_,_,rfl,rfl,.inl h1,_,rfl,q⟩
theorem qR6{f:Addr}{fd:FuncData}(F:zK K "over" "over" qIj .none f fd)(G:qR4 mg)(GB:zQ P w K mg base (CXE P w) 1 fB fdB ["number"] qC3)(mB:mg "brought_in"=some (.ref fB))(kB:PySem.W.keepIn K (.ref fB)=true)(bB:Binds K fdB ["number"] []):
  zQ P w K mg base (CXE P w) 2 f fd ["one","other"] (oS .over):=by
 refine F.ok0 zFz (by walk_at "l") ?_
 walk_at "i"
 obtain⟨a,b,rfl,ha,hb,h0,q⟩:=h
 have hb0:b≠0:=h0 rfl
 refine⟨_,qX (qF (i:=2) zFz.nd rfl oI (zU qIq (zV yA (by rfl) G.abs PyProof.Rows.boot_abs (qQ (pv 0) qZ)) (zV yA (by rfl) G.abs PyProof.Rows.boot_abs (qQ (pv 1) qZ))))
  (qK (qB (vY GB hr (by rfl) mB kB bB .nil zD (qQ (vZ (zZ jS (jI oG (pv 0) qV (nomark _)) (jI oG (pv 1) qV (nomark _)) (nomark _)) (pv 2) (lO uT (pv 2))) qZ)))),?_⟩
 walk_at "e"
 have hbb:aI b≠0/\(aI b).natAbs<2^64:=by rw[oY];unfold In64 at hb;omega
 refine⟨_,rfl,_,rfl,_,rfl,_,rfl,_,_,rfl,rfl,hbb,?_⟩
 refine⟨_,rfl,_,_,rfl,rfl,_,rfl,_,_,rfl,rfl,rfl,_,rfl,?_⟩
 have q':Q (.int (fP (if decide (V.bl (decide (a<0))=V.bl (decide (b<0)))=true then qJq a b else -qJq a b))) H:=q
 refine ite2 (fun h=>?_) (fun h=>?_)
 ·rw[if_pos h]at q'
  exact⟨_,rfl,_,rfl,q'⟩
 ·rw[if_neg h]at q'
  exact⟨_,rfl,_,rfl,_,rfl,q'⟩
theorem qR7{f:Addr}{fd:FuncData}(F:zK K "rest" "rest" qC0 .none f fd)(G:qR4 mg):zQ P w K mg base (CXE P w) 2 f fd ["one","other"] (oS .rest):=by
 refine F.ok0 zFj (by walk_at "l") ?_
 walk_at "i"
 obtain⟨a,b,rfl,ha,hb,h0,q⟩:=h
 have hb0:b≠0:=h0 rfl
 refine⟨_,qX (qF (i:=2) zFj.nd rfl oI (zU kN (zV yA (by rfl) G.abs PyProof.Rows.boot_abs (qQ (pv 0) qZ)) (zV yA (by rfl) G.abs PyProof.Rows.boot_abs (qQ (pv 1) qZ))))
  (qK (qB (vZ (zZ oG (pv 0) qV (nomark _)) (lO uT (pv 2)) (pv 2)))),?_⟩
 walk_at "e"
 have hbb:0<aI b:=by rw[oY];omega
 refine⟨_,rfl,_,rfl,_,rfl,_,rfl,_,_,rfl,rfl,hbb,?_⟩
 have q':Q (.int (if decide (a<0)=true then -(aI a%aI b)else aI a%aI b)) H:=q
 refine⟨_,rfl,_,_,rfl,rfl,_,rfl,?_⟩
 refine ite2 (fun h=>?_) (fun h=>?_)
 ·rw[if_pos h]at q'
  exact⟨_,rfl,_,rfl,q'⟩
 ·rw[if_neg h]at q'
  exact⟨_,rfl,q'⟩
theorem qR8{f:Addr}{fd:FuncData}(F:zK K "less" "less" qC1 .none f fd):zQ P w K mg base (CXE P w) 2 f fd ["one","other"] (oS .less):=by
 refine F.ok0 jQ2 (by walk_at "l") ?_
 walk_at "i"
 obtain⟨a,b,rfl,ha,hb,_,q⟩:=h
 refine⟨_,qK (qB (jI oG (pv 0) (pv 1) (nomark _))),?_⟩
 walk_at "e"
 exact⟨_,rfl,_,rfl,_,_,rfl,rfl,q⟩
theorem qR9{f:Addr}{fd:FuncData}(F:zK K "same" "same" qC2 .none f fd):zQ P w K mg base (CXE P w) 2 f fd ["one","other"] (oS .same):=by
 refine F.ok0 jQ3 (by walk_at "l") ?_
 walk_at "i"
 obtain⟨a,b,rfl,ha,hb,_,q⟩:=h
 refine⟨_,qK (qB (jI jS (pv 0) (pv 1) (nomark _))),?_⟩
 walk_at "e"
 exact⟨_,rfl,_,rfl,rfl,q⟩
noncomputable def nought (x:W7) (b:Int):Bool:=divs x&&decide (b=0)
inductive qC7(vs:List V)(H:Hp)(Q:VK):Prop
 |mk (x:W7) (b:Int) (a_0:vs=[.str x.str,.int b]) (a_1:∀H',Grow H H'->Q (.bl (nought x b)) H'):qC7 vs H Q
def zX3:Sp:=fun vs H Q x_0=>qC7 vs H Q
theorem zH0:qC ["word","other"] ["word","other"] (qU nI):=by walk_at "s"
theorem qRq(x:W7):pH (.str x.str) [.str "over",.str "rest"]=divs x:=by cases x<;>decide+kernel
theorem qJz{f:Addr}{fd:FuncData}(F:zK K "is_by_nought" "is_by_nought" nI .none f fd):zQ P w K mg base (CXE P w) 1 f fd ["word","other"] zX3:=by
 refine F.ok0 zH0 (by walk_at "l") ?_
 walk_at "i"
 obtain⟨x,b,rfl,q⟩:=h
 refine⟨_,qK (qB (iG (jI yQ (pv 0) (zW (qQ qI (qQ qI qZ))) rfl) (iL (jI jS (pv 1) qV (nomark _))))),?_⟩
 walk_at "e"
 refine⟨_,rfl,zl2,fun t ht=>?_⟩
 have g:=Grow.put (o:=.tup [.str "over",.str "rest"]) ht
 refine⟨t,_,rfl,.inr (zB.of qJ),rfl,rfl,_,rfl,?_⟩
 have e:(if false=true then !pH (.str x.str) [.str "over",.str "rest"]else pH (.str x.str) [.str "over",.str "rest"])=divs x:=qRq x
 rw[e]
 have q':=q _ g
 unfold nought at q'
 refine ite2 (fun h=>?_) (fun h=>?_)
 ·refine⟨_,rfl,rfl,?_⟩
  rw[h,Bool.true_and]at q'
  have e2:decide (V.int b=V.int 0)=decide (b=0):=by rw[Bool.eq_iff_iff];simp
  rw[e2]
  exact q'
 ·rw[Bool.eq_false_iff.mpr h,Bool.false_and]at q'
  exact q'
structure Sums(P:Program)(w:World)(K:Fg)(mg:Str->Option Value)(base:Heap):Prop where
 tab:∃a D,mg "SUMS"=some (.ref a)/\oE K a D/\∀x:W7,∃f fd,aq28 x.str D=some (.ref f)/\zQ P w K mg base (CXE P w) 2 f fd ["one","other"] (oS x)/\PySem.W.keepIn K (.ref f)=true/\Binds K fd ["one","other"] []
inductive fT(vs:List V)(H:Hp)(Q:VK):Prop
 |mk (x:W7) (a:Int) (b:Int) (a_0:vs=[.str x.str,.int a,.int b]) (a_1:In64 a) (a_2:In64 b) (a_3:(divs x=true->b≠0)) (a_4:Q (sumV x a b) H):fT vs H Q
def aU:Sp:=fun vs H Q x_0=>fT vs H Q
theorem jQ4:qC ["word","one","other"] ["word","one","other"] (qU rF):=by walk_at "s"
theorem qC8{f:Addr}{fd:FuncData}(F:zK K "sum_of" "sum_of" rF .none f fd)(S:Sums P w K mg base):zQ P w K mg base (CXE P w) 3 f fd ["word","one","other"] aU:=by
 refine F.ok0 jQ4 (by walk_at "l") ?_
 walk_at "i"
 obtain⟨x,a,b,rfl,ha,hb,h0,q⟩:=h
 obtain⟨t,D,mS,T,hD⟩:=S.tab
 obtain⟨g,fd',e1,G,kp,bd⟩:=hD x
 refine⟨_,qK (qB (wB (CX:=CXE P w) (qM oJ (zM (v:=.ref t) (by rfl) mS rfl) (pv 0)) (qQ (pv 1) (qQ (pv 2) qZ)))),?_⟩
 walk_at "e"
 refine⟨_,rfl,_,t,D,_,rfl,rfl,T,e1,?_⟩
 refine⟨g,fd',_,_,[],[],E0,2,rfl,G,hr,kp,bd,.nil,zD,?_⟩
 exact⟨_,rfl,_,rfl,a,b,rfl,ha,hb,h0,q⟩
end
end K23
namespace L2
open PySem PySem.Spec PyProof.Rows PyProof Dt
theorem lY(l:Addr)(items:Array Value)(n:Nat)(b:Addr)(items2:Array Value)(n2:Nat)(dct:Option Addr)(sl:Array (Option Value))(hs0:¬(!items.isEmpty&&Builtin.List.listTooLong (items.size+items2.size))=true)(hs1:items.size<=sizeLine)(hs2:items.size+items2.size<=sizeLine+1):
  Meets (Builtin.«list.extend» ⟨[.ref l,.ref b],[]⟩) (fun _ R s=>s.heap.get? l=some {cls:=.type "list",dict:=none,data:=.seq items n,slots:= #[]}/\s.heap.get? b=some {cls:=.type "tuple",dict:=dct,data:=.seq items2 n2,slots:=sl}/\R (.ok (.ret Value.none)) {s with heap:=s.heap.update l (Obj.mapSeq fun x=>x++items2),toks:=s.toks}):=
 .of_wp fun prog w A R s h=>by
  obtain⟨hp,g,d,tk,os⟩:=s;obtain⟨hl,hb,h⟩:=h;have f2:=AutoSeq1.sub_tuple_tuple;have f3:=AutoSeq1.sub_list_list;have f4:=AutoSeq1.sub_tuple_list;have f5:=AutoSeq1.sub_list_tuple
  have hz':(items++items2).size<=sizeLine+1:=by rw[Array.size_append];exact hs2
  wp_walk using(PySem.wpAny_updateSeq hl rfl (hz:=hs1) (_hz':=hz')),AutoSeq1.wpAny_loadPart' hl,AutoSeq1.wpAny_loadPart' hb;exact⟨_,rfl,h⟩
inductive gX(K:Fg)(x:V)(vs:List V)(H:Hp)(Q:VK):Prop
 |mk (l:_) (b:_) (xs:_) (zs:_) (a_0:x= .ref l) (a_1:vs=[.ref b]) (a_2:H l=some (.lst xs)) (a_3:zB K H b zs) (a_4:xs.length+zs.length<=sizeLine) (a_5:Q .non (upd H l (.lst (xs++zs)))):gX K x vs H Q
def qC9(K:Fg):V->List V->Hp->VK->Prop:=fun x vs H Q=>gX K x vs H Q
theorem cI{X:Cx}:MtM X "list.extend" (qC9 X.K):=by
 intro pins s σ H x vs v us Q I rx rv h
 obtain⟨l,b,xs,zs,rfl,rfl,hH,hB,hz,q⟩:=h
 cases rx
 obtain⟨u,rfl,ru⟩:=rv.one
 cases ru
 obtain⟨z,its,n,r,hl,e⟩:=I.lstM hH
 obtain⟨its2,r2,⟨⟨cls,dct,data,sl⟩,e2,hc2,n2,hd2⟩,z2⟩:=I.tuple hB
 simp only at hc2 hd2
 subst hc2 hd2
 have hl2:=r2.length
 have hsz:its.toArray.size+its2.toArray.size<=sizeLine:=by rw[aq18,aq18];omega
 have hlong:¬(!its.toArray.isEmpty&&Builtin.List.listTooLong (its.toArray.size+its2.toArray.size))=true:=by
  rw[dJ hsz,Bool.and_false]
  exact Bool.false_ne_true
 refine call_meets F.slot_list_extend ⟨_,e,rfl⟩ F.entry_list_extend (F.args_list_extend_2 _ _)
  (lY l its.toArray n b its2.toArray n2 dct sl hlong (by rw[aq18];omega) (by omega)) ⟨e,e2,?_⟩
 refine⟨.non,_,I.lset (its':=its++its2) hH e (by simp) (r.append r2) ?_,rfl,q⟩
 rw[List.length_append]
 omega
theorem aO{K:Fg}{a:Addr}{xs:List V}{te:TE}{ix:List Nat}{σ:St}{H:Hp}{D:Addr}{R:Hp->Prop}(Pv:Nat->List V->Hp->Prop)(h0:Pv 0 [] (upd H D (.lst [])))(hx:∀i ys H',i<=xs.length->Pv i ys H'->zB K H' a xs)
  (he:∀i x ys H',xs[i]? =some x->Pv i ys H'->∀Q':VK,(∀y H6,H6 D=some (.lst ys)->ys.length<sizeLine->Pv (i+1) (ys++[y]) (upd H6 D (.lst (ys++[y])))->Q' y H6)->te (kJ ix [some x] σ) H' Q')(q:∀ys H',Pv xs.length ys H'->R H'):
  ∃W:Nat->Nat->List V->Hp->Prop,(∃m,W 0 m [] (upd H D (.lst [])))/\∀i m ys H2,W i m ys H2->
   ((Itt K a).stop i H2/\R H2)\/((Itt K a).go i H2/\∀(o:List (Option V))v H3,o.length=1->(Itt K a).yld i H2 v H3->kO 0 v (kJ ix o σ) H3 fun σ2 H4=>(∃o':List (Option V),σ2=kJ ix o' σ/\o'.length=1)/\
    ifT none σ2 H4 fun b H5=>if b=true then te σ2 H5 fun y H6=>H6 D=some (.lst ys)/\ys.length<sizeLine/\∃m',m'<m/\W (i+1) m' (ys++[y]) (upd H6 D (.lst (ys++[y])))else∃m',m'<m/\W (i+1) m' ys H5):=by
 refine⟨fun i m ys H2=>i<=xs.length/\m=xs.length-i/\Pv i ys H2,⟨_,Nat.zero_le _,rfl,h0⟩,?_⟩
 rintro i m ys H2 ⟨hi,rfl,p⟩
 have hx2:=hx i ys H2 hi p
 by_cases hl:i<xs.length
 ·refine .inr ⟨⟨xs,xs[i],hx2,aq15 hl⟩,fun o v H3 ho hy=>?_⟩
  obtain⟨rfl,hv⟩:=hy
  have hv':=hv xs hx2
  match o,ho with
  |[_],_=>
   refine⟨⟨[some v],rfl,rfl⟩,?_⟩
   dsimp only[ifT]
   exact jC (he i v ys _ hv' p _ fun y H6 e1 e2 p'=>⟨e1,e2,xs.length-(i+1),by omega,hl,rfl,p'⟩)
 ·have e:i=xs.length:=by omega
  subst e
  exact .inl ⟨⟨xs,hx2,aq7 _⟩,q _ _ p⟩
end L2
namespace L2
open PySem
theorem kI{c:Bool}{A B:Prop}(e:c=false)(h:B):if c=true then A else B:=by rw[e];exact jJ h
theorem cC{c:Bool}{A B:Prop}(e:c=true)(h:A):if c=true then A else B:=by rw[e];exact jC h
theorem kW{f:Str}{v:V}:∀{fs:List (Str×V)}{ks:List Str},f∉ks->fs.map (·.1)=ks->xG f v fs=fs++[(f,v)]
 |[],_,_,_=>rfl
 |(g,x)::r,_,h,rfl=>by
  have hg:¬g=f:=fun z=>h (by simp[z])
  rw[jN hg,kW (fs:=r) (ks:=r.map (·.1)) (fun z=>h (by simp only[List.map_cons,List.mem_cons];exact .inr z)) rfl]
  rfl
end L2
namespace K23
open PySem L2 PyProof Dt
abbrev zO3:Stmt:=top 14
abbrev rH:Stmt:=top 15
abbrev qCq:Stmt:=top 16
abbrev zO4:Stmt:=top 17
abbrev qCz:Stmt:=top 47
abbrev rP:Stmt:=top 48
abbrev zO5:Stmt:=top 49
abbrev qCj:Stmt:=top 50
abbrev qL0:Stmt:=top 51
abbrev zO6:Stmt:=top 52
abbrev qL1:Stmt:=top 53
abbrev qL2:Stmt:=top 54
abbrev zO7:Stmt:=top 55
abbrev zO8:Stmt:=top 56
abbrev zO9:Stmt:=top 57
abbrev zOq:Stmt:=top 58
abbrev qL3:Stmt:=top 59
abbrev zOz:Stmt:=top 60
abbrev zOj:Stmt:=top 61
abbrev zI0:Stmt:=top 62
abbrev zI1:Stmt:=top 63
abbrev zI2:Stmt:=top 64
abbrev rR:Stmt:=top 65
abbrev zI3:Stmt:=top 66
abbrev qL4:Stmt:=top 67
abbrev zI4:Stmt:=top 68
abbrev zI5:Stmt:=top 69
abbrev rS:Stmt:=top 70
abbrev zI6:Stmt:=top 71
abbrev rT:Stmt:=top 20
abbrev nG:Stmt:=top 21
abbrev rA:Stmt:=top 22
abbrev qL5:Stmt:=top 23
abbrev zI7:Stmt:=kZ (top 13) 0
abbrev qL6:Stmt:=kZ (top 13) 1
abbrev rE:Stmt:=kZ (top 13) 2
abbrev sQ:Stmt:=kZ (top 13) 4
abbrev qL7:Stmt:=kZ (top 13) 5
abbrev qL8:Stmt:=kZ (top 13) 6
abbrev qL9:Stmt:=kZ (top 13) 7
abbrev zI8:Stmt:=kZ (top 46) 0
abbrev zI9:Stmt:=kZ (top 46) 1
abbrev zIq:Stmt:=kZ (top 46) 2
abbrev sZ:Stmt:=kZ (top 46) 5
structure Ad where
 C:Addr
 CH:Addr
 m:Addr
 dx:Addr
 hp:Addr
 dh:Addr
 l:Addr
 pd:Addr
 st:Addr
 th:Addr
noncomputable def Ad.mv (d:Ad) (a b:Addr):Ad:={d with st:=a,th:=b}
noncomputable def mfl (d:Ad) (m:Ms):List (Str×V):=[("code",.ref d.l),("heap",.ref d.hp),("stack",.ref d.st),("base",.int (m.base:Nat)),("place",.int (m.place:Nat)),("pending",.ref d.pd),("standing",.str m.st.str)]
noncomputable def hfl (d:Ad) (m:Ms):List (Str×V):=[("room",.int (m.room:Nat)),("things",.ref d.th),("made_so_far",.int (m.made:Nat))]
section
variable (d:Ad) (m:Ms)
theorem qLq:(mfl d m).lookup ("code":Str)=some (.ref d.l):=kL _ _ _
theorem wK:(mfl d m).lookup ("heap":Str)=some (.ref d.hp):=by unfold mfl;rw[zC (by decide+kernel),kL]
theorem xL:(mfl d m).lookup ("stack":Str)=some (.ref d.st):=by unfold mfl;rw[zC (by decide+kernel),zC (by decide+kernel),kL]
theorem nM:(mfl d m).lookup ("base":Str)=some (.int (m.base:Nat)):=by unfold mfl;rw[zC (by decide+kernel),zC (by decide+kernel),zC (by decide+kernel),kL]
theorem uL:(mfl d m).lookup ("place":Str)=some (.int (m.place:Nat)):=by unfold mfl;rw[zC (by decide+kernel),zC (by decide+kernel),zC (by decide+kernel),zC (by decide+kernel),kL]
theorem vF:(mfl d m).lookup ("pending":Str)=some (.ref d.pd):=by unfold mfl;rw[zC (by decide+kernel),zC (by decide+kernel),zC (by decide+kernel),zC (by decide+kernel),zC (by decide+kernel),kL]
theorem xR:(mfl d m).lookup ("standing":Str)=some (.str m.st.str):=by unfold mfl;rw[zC (by decide+kernel),zC (by decide+kernel),zC (by decide+kernel),zC (by decide+kernel),zC (by decide+kernel),zC (by decide+kernel),kL]
theorem zIz{f:Str}(h:f∉(["code","heap","stack","base","place","pending","standing"]:List Str)):(mfl d m).lookup f=none:=by
 simp only[List.mem_cons,List.not_mem_nil,or_false,not_or]at h
 obtain⟨h1,h2,h3,h4,h5,h6,h7⟩:=h
 unfold mfl;rw[zC h1,zC h2,zC h3,zC h4,zC h5,zC h6,zC h7];rfl
theorem zIj:(hfl d m).lookup ("room":Str)=some (.int (m.room:Nat)):=kL _ _ _
theorem kM:(hfl d m).lookup ("things":Str)=some (.ref d.th):=by unfold hfl;rw[zC (by decide+kernel),kL]
theorem zC0:(hfl d m).lookup ("made_so_far":Str)=some (.int (m.made:Nat)):=by unfold hfl;rw[zC (by decide+kernel),zC (by decide+kernel),kL]
theorem kF{f:Str}(h:f∉(["room","things","made_so_far"]:List Str)):(hfl d m).lookup f=none:=by
 simp only[List.mem_cons,List.not_mem_nil,or_false,not_or]at h
 obtain⟨h1,h2,h3⟩:=h
 unfold hfl;rw[zC h1,zC h2,zC h3];rfl
theorem qRz(a:Addr):xG "stack" (.ref a) (mfl d m)=mfl {d with st:=a} m:=by unfold mfl;rw[jN (by decide+kernel),jN (by decide+kernel),yJ]
theorem qLz(b:Nat):xG "base" (.int (b:Nat)) (mfl d m)=mfl d {m with base:=b}:=by unfold mfl;rw[jN (by decide+kernel),jN (by decide+kernel),jN (by decide+kernel),yJ]
theorem iU(p:Nat):xG "place" (.int (p:Nat)) (mfl d m)=mfl d {m with place:=p}:=by unfold mfl;rw[jN (by decide+kernel),jN (by decide+kernel),jN (by decide+kernel),jN (by decide+kernel),yJ]
theorem yF(x:Sd):xG "standing" (.str x.str) (mfl d m)=mfl d {m with st:=x}:=by unfold mfl;rw[jN (by decide+kernel),jN (by decide+kernel),jN (by decide+kernel),jN (by decide+kernel),jN (by decide+kernel),jN (by decide+kernel),yJ]
theorem qLj(a:Addr):xG "things" (.ref a) (hfl d m)=hfl {d with th:=a} m:=by unfold hfl;rw[jN (by decide+kernel),yJ]
theorem zC1(n:Nat):xG "made_so_far" (.int (n:Nat)) (hfl d m)=hfl d {m with made:=n}:=by unfold hfl;rw[jN (by decide+kernel),jN (by decide+kernel),yJ]
theorem yC:(mfl d m).length<1000:=by show 7<1000;decide
theorem zX4:(hfl d m).length<1000:=by show 3<1000;decide
end
structure MS(K:Fg)(H0:Hp)(d:Ad)(m:Ms)(H:Hp):Prop where
 g:Grow H0 H
 nm:H0 d.m=none
 nh:H0 d.hp=none
 ns:H0 d.st=none
 np:H0 d.pd=none
 nt:H0 d.th=none
 mo:H d.m=some (.ins d.C d.dx (mfl d m))
 ho:H d.hp=some (.ins d.CH d.dh (hfl d m))
 so:∃vs,H d.st=some (.lst vs)/\qO K H (m.stk.reverse.map AV.dt) vs
 po:∃vs,H d.pd=some (.lst vs)/\qO K H (m.pend.reverse.map Pair2) vs
 lo:∃vs,H d.l=some (.lst vs)/\qO K H (m.code.map AOrd.dt) vs
 to:∃vs,H d.th=some (.lst vs)/\qO K H (m.things.map Th.dt) vs
 mh:d.m≠d.hp
 d1:d.l≠d.st
 d2:d.pd≠d.st
 d3:d.th≠d.st
 d4:d.l≠d.pd
 d5:d.th≠d.pd
 d6:d.l≠d.th
section
variable {K:Fg} {H0 H H':Hp} {d:Ad} {m:Ms}
theorem jA{a C dx:Addr}{fs gs:List (Str×V)}(h:H a=some (.ins C dx fs)):jW K H (upd H a (.ins C dx gs)):=fun b xs hb=>by
 rcases hb with(hb|⟨o,hb⟩)|hb
 ·exact .inl (.inl ((qL (xO hb h (by intro z;cases z))).trans hb))
 ·exact .inl (.inr ⟨o,(qL (xO hb h (by intro z;cases z))).trans hb⟩)
 ·exact .inr hb
theorem xQ{H1 H2:Hp}(x:jW K H H1)(y:jW K H1 H2):jW K H H2:=fun a xs h=>y a xs (x a xs h)
theorem vH(g:Grow H H'):jW K H H':=fun a xs h=>zB.mono g.same h
theorem MS.grow(h:MS K H0 d m H)(g:Grow H H'):MS K H0 d m H':=
 have f:∀{a:Addr}{ds:List Dt},(∃vs,H a=some (.lst vs)/\qO K H ds vs)->∃vs,H' a=some (.lst vs)/\qO K H' ds vs:=fun⟨vs,e,q⟩=>⟨vs,g.same _ _ e,q.mono g.same⟩
 ⟨h.g.trans g,h.nm,h.nh,h.ns,h.np,h.nt,g.same _ _ h.mo,g.same _ _ h.ho,f h.so,f h.po,f h.lo,f h.to,h.mh,h.d1,h.d2,h.d3,h.d4,h.d5,h.d6⟩
theorem jX{a b:Addr}{o:HO}{ds:List Dt}(kt:jW K H (upd H b o))(n:a≠b)(h:∃vs,H a=some (.lst vs)/\qO K H ds vs):∃vs,(upd H b o) a=some (.lst vs)/\qO K (upd H b o) ds vs:=
 let⟨vs,e,q⟩:=h;⟨vs,(qL n).trans e,qO.monoT kt q⟩
theorem MS.setS(h:MS K H0 d m H){s:List AV}{vs:List V}(hv:qO K H (s.reverse.map AV.dt) vs):MS K H0 d {m with stk:=s} (upd H d.st (.lst vs)):=by
 obtain⟨ws,e,_⟩:=h.so
 have kt:=zP (K:=K) (ys:=vs) e
 exact⟨h.g.set h.ns,h.nm,h.nh,h.ns,h.np,h.nt,(qL (xO h.mo e (by intro z;cases z))).trans h.mo,(qL (xO h.ho e (by intro z;cases z))).trans h.ho,⟨vs,qJ,qO.monoT kt hv⟩,
  jX kt h.d2 h.po,jX kt h.d1 h.lo,jX kt h.d3 h.to,h.mh,h.d1,h.d2,h.d3,h.d4,h.d5,h.d6⟩
theorem MS.setP(h:MS K H0 d m H){s:List (Nat×Nat)}{vs:List V}(hv:qO K H (s.reverse.map Pair2) vs):MS K H0 d {m with pend:=s} (upd H d.pd (.lst vs)):=by
 obtain⟨ws,e,_⟩:=h.po
 have kt:=zP (K:=K) (ys:=vs) e
 exact⟨h.g.set h.np,h.nm,h.nh,h.ns,h.np,h.nt,(qL (xO h.mo e (by intro z;cases z))).trans h.mo,(qL (xO h.ho e (by intro z;cases z))).trans h.ho,jX kt h.d2.symm h.so,⟨vs,qJ,qO.monoT kt hv⟩,
  jX kt h.d4 h.lo,jX kt h.d5 h.to,h.mh,h.d1,h.d2,h.d3,h.d4,h.d5,h.d6⟩
theorem MS.setT(h:MS K H0 d m H){s:List Th}{vs:List V}(hv:qO K H (s.map Th.dt) vs):MS K H0 d {m with things:=s} (upd H d.th (.lst vs)):=by
 obtain⟨ws,e,_⟩:=h.to
 have kt:=zP (K:=K) (ys:=vs) e
 exact⟨h.g.set h.nt,h.nm,h.nh,h.ns,h.np,h.nt,(qL (xO h.mo e (by intro z;cases z))).trans h.mo,(qL (xO h.ho e (by intro z;cases z))).trans h.ho,jX kt h.d3.symm h.so,jX kt h.d5.symm h.po,
  jX kt h.d6 h.lo,⟨vs,qJ,qO.monoT kt hv⟩,h.mh,h.d1,h.d2,h.d3,h.d4,h.d5,h.d6⟩
theorem MS.setM(h:MS K H0 d m H)(b p:Nat)(x:Sd):MS K H0 d {m with base:=b,place:=p,st:=x} (upd H d.m (.ins d.C d.dx (mfl d {m with base:=b,place:=p,st:=x}))):=by
 have kt:=jA (K:=K) (gs:=mfl d {m with base:=b,place:=p,st:=x}) h.mo
 have nl:∀{a:Addr}{ds:List Dt},(∃vs,H a=some (.lst vs)/\qO K H ds vs)->a≠d.m:=fun⟨vs,e,_⟩=>xO e h.mo (by intro z;cases z)
 exact⟨h.g.set h.nm,h.nm,h.nh,h.ns,h.np,h.nt,qJ,(qL h.mh.symm).trans h.ho,jX kt (nl h.so) h.so,jX kt (nl h.po) h.po,jX kt (nl h.lo) h.lo,jX kt (nl h.to) h.to,h.mh,h.d1,h.d2,h.d3,h.d4,h.d5,h.d6⟩
theorem MS.setH(h:MS K H0 d m H)(n:Nat):MS K H0 d {m with made:=n} (upd H d.hp (.ins d.CH d.dh (hfl d {m with made:=n}))):=by
 have kt:=jA (K:=K) (gs:=hfl d {m with made:=n}) h.ho
 have nl:∀{a:Addr}{ds:List Dt},(∃vs,H a=some (.lst vs)/\qO K H ds vs)->a≠d.hp:=fun⟨vs,e,_⟩=>xO e h.ho (by intro z;cases z)
 exact⟨h.g.set h.nh,h.nm,h.nh,h.ns,h.np,h.nt,(qL h.mh).trans h.mo,qJ,jX kt (nl h.so) h.so,jX kt (nl h.po) h.po,jX kt (nl h.lo) h.lo,jX kt (nl h.to) h.to,h.mh,h.d1,h.d2,h.d3,h.d4,h.d5,h.d6⟩
theorem uG:∀{ds:List Dt}{us:List V}{e:Dt},qO K H (ds++[e]) us->∃ws x,us=ws++[x]/\qY K H e x/\qO K H ds ws
 |[],us,e,h=>by
  obtain⟨x,r,rfl,hx,hr⟩:=qR h
  cases zA hr
  exact⟨[],x,rfl,hx,qA⟩
 |d::ds,us,e,h=>by
  obtain⟨y,r,rfl,hy,hr⟩:=qR h
  obtain⟨ws,x,rfl,hx,hw⟩:=uG hr
  exact⟨y::ws,x,rfl,hx,qG hy hw⟩
theorem yH{v:AV}{r:List AV}{vs:List V}(h:qO K H ((v::r).reverse.map AV.dt) vs):∃ws x,vs=ws++[x]/\qY K H v.dt x/\qO K H (r.reverse.map AV.dt) ws:=by
 rw[List.reverse_cons,aq21]at h
 exact uG h
theorem nN{v:AV}{r:List AV}{vs:List V}{x:V}(h:qO K H (r.reverse.map AV.dt) vs)(hx:qY K H v.dt x):qO K H ((v::r).reverse.map AV.dt) (vs++[x]):=by
 rw[List.reverse_cons,aq21]
 exact qO.append h (qG hx qA)
theorem vU{s:List AV}{vs:List V}(h:qO K H (s.reverse.map AV.dt) vs):vs.length=s.length:=by rw[h.length,aq16,List.length_reverse]
end
structure Mc(K:Fg)(C:Addr):Prop where
 cl:Cls K C
 n1:xK K C "code"
 n2:xK K C "heap"
 n3:xK K C "stack"
 n4:xK K C "base"
 n5:xK K C "place"
 n6:xK K C "pending"
 n7:xK K C "standing"
structure Hc(K:Fg)(C:Addr):Prop where
 cl:Cls K C
 n1:xK K C "room"
 n2:xK K C "things"
 n3:xK K C "made_so_far"
section
variable {K:Fg} {H0 H:Hp} {d:Ad} {m:Ms} {σ:St} {R:VK}
theorem cL{f:Str}{v:V}(M:Mc K d.C)(h:MS K H0 d m H)(h0:σ[0]? =some (some (.ref d.m)))(n:xK K d.C f)(l:(mfl d m).lookup f=some v)(q:R v H):lK K (jV 0) f σ H R:=
 ⟨_,h0,d.m,d.C,d.dx,_,v,rfl,h.mo,M.cl,n,l,q⟩
theorem wS{v:AV}{r:List AV}(M:Mc K d.C)(h:MS K H0 d m H)(h0:σ[0]? =some (some (.ref d.m)))(e:m.stk=v::r)(q:∀x H',qY K H' v.dt x->MS K H0 d {m with stk:=r} H'->R x H'):qVq K "list" qVz (lK K (jV 0) "stack") σ H R:=by
 obtain⟨vs,hs,hd⟩:=h.so
 rw[e]at hd
 obtain⟨ws,x,rfl,hx,hw⟩:=yH hd
 refine cL M h h0 M.n3 (xL _ _) ⟨.inl ⟨rfl,_,zS.of hs⟩,d.st,_,x,rfl,rfl,hs,by simp,?_⟩
 rw[List.dropLast_concat]
 exact q x _ (qY.monoT (zP hs) hx) (h.setS hw)
theorem qRj{v:AV}{r:List AV}(M:Mc K d.C)(h:MS K H0 d m H)(h0:σ[0]? =some (some (.ref d.m)))(e:m.stk=v::r)(q:∀x H',jW K H H'->MS K H0 d {m with stk:=r} H'->R x H'):qVq K "list" qVz (lK K (jV 0) "stack") σ H R:=by
 obtain⟨vs,hs,hd⟩:=h.so
 rw[e]at hd
 obtain⟨ws,x,rfl,hx,hw⟩:=yH hd
 refine cL M h h0 M.n3 (xL _ _) ⟨.inl ⟨rfl,_,zS.of hs⟩,d.st,_,x,rfl,rfl,hs,by simp,?_⟩
 rw[List.dropLast_concat]
 exact q x _ (zP hs) (h.setS hw)
theorem nB{v:AV}{r:List AV}{a:Addr}{us:List V}(M:Mc K d.C)(h:MS K H0 d m H)(h0:σ[0]? =some (some (.ref d.m)))(e:m.stk=v::r)(ha:zB K H a us)(q:∀x H',qY K H' v.dt x->MS K H0 d {m with stk:=r} H'->zB K H' a us->R x H'):qVq K "list" qVz (lK K (jV 0) "stack") σ H R:=by
 obtain⟨vs,hs,hd⟩:=h.so
 rw[e]at hd
 obtain⟨ws,x,rfl,hx,hw⟩:=yH hd
 refine cL M h h0 M.n3 (xL _ _) ⟨.inl ⟨rfl,_,zS.of hs⟩,d.st,_,x,rfl,rfl,hs,by simp,?_⟩
 rw[List.dropLast_concat]
 exact q x _ (qY.monoT (zP hs) hx) (h.setS hw) (zP hs a us ha)
theorem nD{v:AV}{r:List AV}{y:V}{u:AV}(M:Mc K d.C)(h:MS K H0 d m H)(h0:σ[0]? =some (some (.ref d.m)))(e:m.stk=v::r)(hy:qY K H u.dt y)(q:∀x H',qY K H' v.dt x->MS K H0 d {m with stk:=r} H'->qY K H' u.dt y->R x H'):qVq K "list" qVz (lK K (jV 0) "stack") σ H R:=by
 obtain⟨vs,hs,hd⟩:=h.so
 rw[e]at hd
 obtain⟨ws,x,rfl,hx,hw⟩:=yH hd
 refine cL M h h0 M.n3 (xL _ _) ⟨.inl ⟨rfl,_,zS.of hs⟩,d.st,_,x,rfl,rfl,hs,by simp,?_⟩
 rw[List.dropLast_concat]
 exact q x _ (qY.monoT (zP hs) hx) (h.setS hw) (qY.monoT (zP hs) hy)
theorem xS{te:TE}(M:Mc K d.C)(h:MS K H0 d m H)(h0:σ[0]? =some (some (.ref d.m)))(q:te σ H fun y H1=>yZ (.ref d.st) [y] H1 R):tBM K "list" yZ (lK K (jV 0) "stack") (jK te xE) σ H R:=by
 obtain⟨vs,hs,_⟩:=h.so
 exact cL M h h0 M.n3 (xL _ _) ⟨.inl ⟨rfl,_,zS.of hs⟩,q⟩
theorem jD{v:AV}{y:V}(h:MS K H0 d m H)(hy:qY K H v.dt y)(hl:m.stk.length<sizeLine)(q:∀H',MS K H0 d {m with stk:=v::m.stk} H'->R .non H'):yZ (.ref d.st) [y] H R:=by
 obtain⟨vs,hs,hd⟩:=h.so
 exact⟨d.st,vs,y,rfl,rfl,hs,by rw[vU hd];exact hl,q _ (h.setS (nN hd hy))⟩
theorem sJ{v:AV}{y:V}(h:MS K H0 d m H)(hy:qY K H v.dt y)(hl:m.stk.length<sizeLine)(q:∀H',jW K H H'->MS K H0 d {m with stk:=v::m.stk} H'->R .non H'):yZ (.ref d.st) [y] H R:=by
 obtain⟨vs,hs,hd⟩:=h.so
 exact⟨d.st,vs,y,rfl,rfl,hs,by rw[vU hd];exact hl,q _ (zP hs) (h.setS (nN hd hy))⟩
theorem wT{o:AOrd}{c:V}(h:qY K H o.dt c):∃a us,c= .ref a/\zB K H a (.str o.wd::us)/\qO K H o.args us:=by
 obtain⟨a,vs,rfl,ha,hv⟩:=vW h
 obtain⟨w,us,rfl,hw,hu⟩:=qR hv
 cases jE hw
 exact⟨a,us,rfl,ha,hu⟩
end
end K23
open PySem
noncomputable def AV.ok:AV->Prop
 | .int n=>In64 n
 |_=>True
namespace Ms
structure Wf(m:Ms):Prop where
 hs:m.stk.length<=high
 iv:∀v∈m.stk,v.ok
 it:∀t∈m.things,∀v∈t.held,v.ok
 okc:∀o∈m.code,o.ok
 cl:m.code.length<=1000000
 rm:m.room<=1000
 tr:m.things.length<=m.room
structure Wg(m:Ms):Prop where
 iv:∀v∈m.stk,v.ok
 it:∀t∈m.things,∀v∈t.held,v.ok
theorem uM(n:Int):In64 (bring n):=by unfold bring In64;omega
theorem qS0{s:Sm}{a b:Int}(ha:In64 a)(hb:In64 b)(h:nought s b=false):(sumV s a b).ok:=by
 cases s
 case plus=>exact uM _
 case minus=>exact uM _
 case times=>exact uM _
 case over=>exact uM _
 case less=>trivial
 case same=>trivial
 case rest=>
  have hb0:b≠0:=by simpa[nought]using h
  have h1:a.natAbs%b.natAbs<b.natAbs:=Nat.mod_lt _ (by omega)
  unfold In64 at hb
  show In64 _
  unfold In64
  split<;>omega
theorem gW{ps:List Nat}{v:AV}(h:v.ok):(movedV ps v).ok:=by cases v<;>first|exact h|trivial
theorem cG{α β:Type}{f:α->Option β}:∀{l:List α}{r:List β},l.mapM f=some r->∀b∈r,∃a∈l,f a=some b
 |[],r,h,b,hb=>by
  have :r=[]:=by simpa using h.symm
  subst this;cases hb
 |a::l,r,h,b,hb=>by
  rw[List.mapM_cons]at h
  obtain⟨x,hx,h⟩:=aq5.mp h
  obtain⟨xs,hxs,h⟩:=aq5.mp h
  have :r=x::xs:=(Option.some.inj h).symm
  subst this
  rcases List.mem_cons.mp hb with rfl|hb
  ·exact⟨a,aq22,hx⟩
  ·obtain⟨a',h1,h2⟩:=cG hxs b hb
   exact⟨a',aq10 _ h1,h2⟩
structure Like(m m':Ms):Prop where
 code:m'.code=m.code
 room:m'.room=m.room
theorem collect_of{m m':Ms}(e:m.collect=some m'):m.fuelOf<=10000000/\∃ps ts,found m.things m.fuelOf [] m.stk=some ps/\(ps.mapM fun k=>m.things[k]?)=some ts/\
  {m with things:=ts.map fun t=>⟨t.sort,t.held.map (movedV ps)⟩,stk:=m.stk.map (movedV ps)}=m':=by
 unfold collect at e
 split at e
 ·cases e
 ·rename_i hf
  obtain⟨ps,hp,e⟩:=aq5.mp e
  obtain⟨ts,ht,e⟩:=aq6.mp e
  exact⟨by omega,ps,ts,hp,ht,e⟩
theorem collect_ok{m m':Ms}(h:m.Wg)(e:m.collect=some m'):m'.Wg/\Like m m'/\m'.stk.length=m.stk.length/\m'.made=m.made/\m'.base=m.base/\m'.place=m.place/\m'.pend=m.pend/\m'.st=m.st:=by
 obtain⟨_,ps,ts,_,ht,e⟩:=collect_of e
 subst e
 refine⟨⟨fun v hv=>?_,fun t ht' v hv=>?_⟩,⟨rfl,rfl⟩,by simp,rfl,rfl,rfl,rfl,rfl⟩
 ·obtain⟨u,hu,rfl⟩:=List.mem_map.mp hv
  exact gW (h.iv u hu)
 ·obtain⟨t0,h0,rfl⟩:=List.mem_map.mp ht'
  obtain⟨u,hu,rfl⟩:=List.mem_map.mp hv
  obtain⟨k,_,hk⟩:=cG ht t0 h0
  exact gW (h.it t0 (aq23 hk) u hu)
theorem roomy_ok{m m':Ms}(h:m.Wg)(e:m.roomy=some m'):m'.Wg/\Like m m'/\m'.stk.length=m.stk.length/\m'.place=m.place:=by
 unfold roomy at e
 split at e
 ·obtain⟨m1,e1,e⟩:=aq6.mp e
  obtain⟨h1,h2,h3,_,_,h4,_,_⟩:=collect_ok h e1
  split at e
  ·subst e;exact⟨⟨h1.iv,h1.it⟩,⟨h2.code,h2.room⟩,h3,h4⟩
  ·subst e;exact⟨h1,h2,h3,h4⟩
 ·cases e;exact⟨h,⟨rfl,rfl⟩,rfl,rfl⟩
theorem fE{m:Ms}{k:Nat}{v:AV}(e:m.slot k=some v):v∈m.stk:=by
 unfold slot at e
 split at e
 ·exact aq23 e
 ·cases e
theorem qG0{m:Ms}{s:Srt}{h:List AV}(w:m.Wg)(hh:∀v∈h,v.ok):(m.add s h).Wg:=by
 refine⟨fun v hv=>?_,fun t ht v hv=>?_⟩
 ·rcases List.mem_cons.mp hv with rfl|hv
  ·trivial
  ·exact w.iv v hv
 ·rcases List.mem_append.mp ht with ht|ht
  ·exact w.it t ht v hv
  ·rw[aq20.mp ht]at hv;exact hh v hv
theorem aC{l:List AV}{h:Nat}{v:AV}(e:v∈cut l h):v∈l:=List.mem_of_mem_drop e
theorem hZ{m m':Ms}{k:Nat}{h:AV}(w:m.Wg)(hh:h.ok)(e:m.enter k h=some m'):m'.Wg/\Like m m':=by
 unfold enter at e
 split at e
 ·rename_i s pl rc kept ht
  split at e
  ·cases e
  cases e
  have hk:=w.it _ (aq23 ht)
  refine⟨⟨fun v hv=>?_,w.it⟩,⟨rfl,rfl⟩⟩
  rcases List.mem_cons.mp hv with rfl|hv
  ·exact hh
  rcases List.mem_append.mp hv with hv|hv
  ·split at hv
   ·rw[aq20.mp hv];trivial
   ·cases hv
  rcases List.mem_append.mp hv with hv|hv
  ·exact hk v (aq10 _ (aq10 _ (List.mem_reverse.mp hv)))
  ·exact w.iv v hv
 ·cases e
theorem Wg.stk{m:Ms}(w:m.Wg){s:List AV}(h:∀v∈s,v.ok):({m with stk:=s}:Ms).Wg:=⟨h,w.it⟩
theorem ok_cons{v:AV}{r:List AV}(h:v.ok)(hr:∀u∈r,u.ok):∀u∈v::r,u.ok:=fun u hu=>by
 rcases List.mem_cons.mp hu with rfl|hu
 ·exact h
 ·exact hr u hu
theorem qS1{m m':Ms}{o:AOrd}(w:m.Wg)(hp:m.place<=1000000)(ho:o.ok)(e:m.exec o=some m'):m'.Wg/\Like m m':=by
 have L:Like m m:=⟨rfl,rfl⟩
 cases o with
 |num n=>cases e;exact⟨w.stk (ok_cons ho w.iv),⟨rfl,rfl⟩⟩
 |tru n=>cases e;exact⟨w.stk (ok_cons trivial w.iv),⟨rfl,rfl⟩⟩
 |nil=>cases e;exact⟨w.stk (ok_cons trivial w.iv),⟨rfl,rfl⟩⟩
 |get k=>
  obtain⟨v,hv,rfl⟩:=aq6.mp e
  exact⟨w.stk (ok_cons (w.iv v (fE hv)) w.iv),⟨rfl,rfl⟩⟩
 |make s=>
  obtain⟨m1,e1,e⟩:=aq5.mp e
  obtain⟨w1,l1,_,_⟩:=roomy_ok w e1
  split at e
  ·split at e
   ·rename_i b a r hs
    cases e
    have iv:=w1.iv
    rw[hs]at iv
    have ha:=iv a (by simp)
    have hb:=iv b (by simp)
    exact⟨qG0 (w1.stk fun v hv=>iv v (by simp[hv])) (ok_cons ha (ok_cons hb (by simp))),⟨l1.code,l1.room⟩⟩
   ·cases e
  ·cases e;exact⟨w1,l1⟩
 |take x i=>
  simp only[exec]at e
  split at e
  ·rename_i r hs
   cases e
   exact⟨⟨fun v hv=>w.iv v (by rw[hs];exact aq10 _ hv),w.it⟩,⟨rfl,rfl⟩⟩
  ·rename_i k r hs
   obtain⟨t,ht,e⟩:=aq5.mp e
   obtain⟨v,hv,rfl⟩:=aq6.mp e
   exact⟨w.stk (ok_cons (w.it t (aq23 ht) v (aq23 hv)) fun u hu=>w.iv u (by rw[hs];exact aq10 _ hu)),⟨rfl,rfl⟩⟩
  ·cases e
 |empty=>
  simp only[exec]at e
  split at e
  ·rename_i v r hs
   cases e
   exact⟨w.stk (ok_cons trivial fun u hu=>w.iv u (by rw[hs];exact aq10 _ hu)),⟨rfl,rfl⟩⟩
  ·cases e
 |not=>
  simp only[exec]at e
  split at e
  ·rename_i v r hs
   cases e
   exact⟨w.stk (ok_cons trivial fun u hu=>w.iv u (by rw[hs];exact aq10 _ hu)),⟨rfl,rfl⟩⟩
  ·cases e
 |sum s=>
  simp only[exec]at e
  split at e
  ·rename_i y x r hs
   cases e
   have iv:=w.iv
   rw[hs]at iv
   have hx:In64 x:=iv (.int x) (by simp)
   have hy:In64 y:=iv (.int y) (by simp)
   have hr:∀u∈r,u.ok:=fun u hu=>iv u (by simp[hu])
   by_cases z:nought s y=true
   ·rw[if_pos z];exact⟨⟨hr,w.it⟩,⟨rfl,rfl⟩⟩
   ·rw[if_neg z];exact⟨w.stk (ok_cons (qS0 hx hy (by simpa using z)) hr),⟨rfl,rfl⟩⟩
  ·cases e
 |func rc kept len=>
  obtain⟨m1,e1,e⟩:=aq5.mp e
  obtain⟨w1,l1,_,l2⟩:=roomy_ok w e1
  split at e
  ·obtain⟨vs,hv,e⟩:=aq6.mp e
   subst e
   have hvs:∀v∈vs,v.ok:=fun v h=>by
    obtain⟨k,_,hk⟩:=cG hv v h
    exact w1.iv v (fE hk)
   have w2:=qG0 (s:=.fn) w1 (ok_cons (v:=.int m1.place) (by show In64 _;unfold In64;omega) (ok_cons (v:=.bl rc) trivial hvs))
   exact⟨⟨w2.iv,w2.it⟩,⟨l1.code,l1.room⟩⟩
  ·cases e;exact⟨w1,l1⟩
 |call=>
  simp only[exec]at e
  split at e
  ·cases e;exact⟨⟨w.iv,w.it⟩,⟨rfl,rfl⟩⟩
  ·split at e
   ·rename_i h k r hs
    have hh:h.ok:=w.iv h (by rw[hs];simp)
    obtain⟨a,b⟩:=hZ (m:={m with pend:=(m.place,m.base)::m.pend,base:=m.stk.length}) ⟨w.iv,w.it⟩ hh e
    exact⟨a,⟨b.code,b.room⟩⟩
   ·cases e
 |last=>
  simp only[exec]at e
  split at e
  ·rename_i h k r hs
   have hh:h.ok:=w.iv h (by rw[hs];simp)
   obtain⟨a,b⟩:=hZ (m:={m with stk:=cut r m.base}) ⟨fun v hv=>w.iv v (by rw[hs];simp[aC hv]),w.it⟩ hh e
   exact⟨a,⟨b.code,b.room⟩⟩
  ·cases e
 |tell=>
  simp only[exec]at e
  split at e
  ·rename_i v r hs
   have hv:v.ok:=w.iv v (by rw[hs];simp)
   split at e
   ·split at e
    ·cases e
     exact⟨⟨ok_cons hv fun u hu=>w.iv u (by rw[hs];simp[aC hu]),w.it⟩,⟨rfl,rfl⟩⟩
    ·cases e
   ·cases e
    exact⟨⟨ok_cons hv (by simp),w.it⟩,⟨rfl,rfl⟩⟩
  ·cases e
 |«unless» k=>
  simp only[exec]at e
  split at e
  ·rename_i v r hs
   cases e
   have hr:∀u∈r,u.ok:=fun u hu=>w.iv u (by rw[hs];simp[hu])
   cases v
   ·exact⟨⟨hr,w.it⟩,⟨rfl,rfl⟩⟩
   ·exact⟨⟨hr,w.it⟩,⟨rfl,rfl⟩⟩
  ·cases e
 |skip k=>cases e;exact⟨⟨w.iv,w.it⟩,⟨rfl,rfl⟩⟩
 |slide=>
  simp only[exec]at e
  split at e
  ·rename_i v u r hs
   cases e
   exact⟨⟨ok_cons (w.iv v (by rw[hs];simp)) fun z hz=>w.iv z (by rw[hs];simp[hz]),w.it⟩,⟨rfl,rfl⟩⟩
  ·cases e
theorem nodup_lt_len:∀{n:Nat}{l:List Nat},l.Nodup->(∀k∈l,k<n)->l.length<=n
 |0,l,_,h=>by
  cases l with
  |nil=>simp
  |cons k l=>exact absurd (h k aq22) (Nat.not_lt_zero _)
 |n+1,l,hn,h=>by
  have ih:=nodup_lt_len (n:=n) (l:=l.erase n) (hn.erase n) fun k hk=>by
   have h1:=(List.Nodup.mem_erase_iff hn).mp hk
   have h2:=h k h1.2
   have h3:=h1.1
   omega
  rw[List.length_erase]at ih
  split at ih<;>omega
theorem found_ok{things:List Th}:∀{fuel:Nat}{seen:List Nat}{ws:List AV}{ps:List Nat},found things fuel seen ws=some ps->seen.Nodup->(∀k∈seen,k<things.length)->ps.Nodup/\∀k∈ps,k<things.length
 |fuel,seen,[],ps,e,hn,hl=>by
  have :ps=seen:=by cases fuel<;>(simp[found]at e;exact e.symm)
  subst this;exact⟨hn,hl⟩
 |0,seen,_::_,ps,e,hn,hl=>by simp[found]at e
 |fuel+1,seen,v::ws,ps,e,hn,hl=>by
  cases v with
  |at_ k=>
   simp only[found]at e
   split at e
   ·exact found_ok e hn hl
   ·rename_i hk
    split at e
    ·rename_i t ht
     refine found_ok e (List.nodup_append.mpr ⟨hn,by simp,fun a ha b hb z=>?_⟩) fun j hj=>?_
     ·rw[aq20.mp hb]at z;exact hk (z▸ha)
     ·rcases List.mem_append.mp hj with hj|hj
      ·exact hl j hj
      ·rw[aq20.mp hj];exact(List.getElem?_eq_some_iff.mp ht).1
    ·cases e
  |int n=>exact found_ok (by simpa only[found]using e) hn hl
  |bl n=>exact found_ok (by simpa only[found]using e) hn hl
  |nil=>exact found_ok (by simpa only[found]using e) hn hl
theorem found_len{things:List Th}:∀{fuel:Nat}{seen:List Nat}{ws:List AV}{ps:List Nat},found things fuel seen ws=some ps->ws.length<=fuel
 |fuel,seen,[],ps,e=>by simp
 |0,seen,_::_,ps,e=>by simp[found]at e
 |fuel+1,seen,v::ws,ps,e=>by
  have h:∃seen' ws',ws.length<=ws'.length/\found things fuel seen' ws'=some ps:=by
   cases v with
   |at_ k=>
    simp only[found]at e
    split at e
    ·exact⟨_,_,aq7 _,e⟩
    ·split at e
     ·exact⟨_,_,by simp,e⟩
     ·cases e
   |int n=>exact⟨_,_,aq7 _,by simpa only[found]using e⟩
   |bl n=>exact⟨_,_,aq7 _,by simpa only[found]using e⟩
   |nil=>exact⟨_,_,aq7 _,by simpa only[found]using e⟩
  obtain⟨_,_,h1,h2⟩:=h
  have :=found_len h2
  rw[aq17];omega
theorem found_all{things:List Th}:∀{fuel:Nat}{seen:List Nat}{ws:List AV}{ps:List Nat},found things fuel seen ws=some ps->
  (∀k∈seen,k∈ps)/\(∀k,AV.at_ k∈ws->k∈ps)/\∀k∈ps,k∉seen->∃t,things[k]? =some t/\∀j,AV.at_ j∈t.held->j∈ps
 |fuel,seen,[],ps,e=>by
  have :ps=seen:=by cases fuel<;>(simp[found]at e;exact e.symm)
  subst this
  exact⟨fun k h=>h,fun k h=>by simp at h,fun k h n=>absurd h n⟩
 |0,seen,_::_,ps,e=>by simp[found]at e
 |fuel+1,seen,v::ws,ps,e=>by
  have skip:found things fuel seen ws=some ps->(∀k,v= .at_ k->k∈seen)->(∀k∈seen,k∈ps)/\(∀k,AV.at_ k∈v::ws->k∈ps)/\∀k∈ps,k∉seen->∃t,things[k]? =some t/\∀j,AV.at_ j∈t.held->j∈ps:=by
   intro e hv
   obtain⟨h1,h2,h3⟩:=found_all e
   refine⟨h1,fun k hk=>?_,h3⟩
   rcases List.mem_cons.mp hk with z|z
   ·exact h1 k (hv k z.symm)
   ·exact h2 k z
  cases v with
  |at_ k=>
   simp only[found]at e
   split at e
   ·rename_i hk
    exact skip e fun j z=>by cases z;exact hk
   ·rename_i hk
    split at e
    ·rename_i t ht
     obtain⟨h1,h2,h3⟩:=found_all e
     have hkp:k∈ps:=h1 k (by simp)
     refine⟨fun j hj=>h1 j (by simp[hj]),fun j hj=>?_,fun j hj hn=>?_⟩
     ·rcases List.mem_cons.mp hj with z|z
      ·cases z;exact hkp
      ·exact h2 j (by simp[z])
     ·by_cases z:j=k
      ·subst z;exact⟨t,ht,fun i hi=>h2 i (by simp[hi])⟩
      ·exact h3 j hj (by simp[hn,z])
    ·cases e
  |int n=>exact skip (by simpa only[found]using e) fun j z=>by cases z
  |bl n=>exact skip (by simpa only[found]using e) fun j z=>by cases z
  |nil=>exact skip (by simpa only[found]using e) fun j z=>by cases z
theorem mapM_len{α β:Type}{f:α->Option β}:∀{l:List α}{r:List β},l.mapM f=some r->r.length=l.length
 |[],r,h=>by
  have :r=[]:=by simpa using h.symm
  subst this;rfl
 |a::l,r,h=>by
  rw[List.mapM_cons]at h
  obtain⟨x,hx,h⟩:=aq5.mp h
  obtain⟨xs,hxs,h⟩:=aq5.mp h
  have :r=x::xs:=(Option.some.inj h).symm
  subst this
  rw[aq17,aq17,mapM_len hxs]
theorem collect_tr{m m':Ms}(e:m.collect=some m'):m'.things.length<=m.things.length:=by
 obtain⟨_,ps,ts,hp,ht,e⟩:=collect_of e
 subst e
 obtain⟨h1,h2⟩:=found_ok hp List.nodup_nil (by simp)
 show(ts.map _).length<=_
 rw[aq16,mapM_len ht]
 exact nodup_lt_len h1 h2
theorem hJ{m m':Ms}(h:m.things.length<=m.room)(e:m.roomy=some m'):m'.things.length<=m'.room/\(m'.st= .running->m'.things.length<m'.room):=by
 unfold roomy at e
 split at e
 ·obtain⟨m1,e1,e⟩:=aq6.mp e
  have h1:=collect_tr e1
  have h2:m1.room=m.room:=by
   obtain⟨_,ps,ts,_,_,e1⟩:=collect_of e1
   subst e1;rfl
  split at e
  ·subst e;exact⟨by show m1.things.length<=m1.room;omega,fun z=>by cases z⟩
  ·subst e;exact⟨by omega,fun _=>by omega⟩
 ·cases e;exact⟨h,fun _=>by omega⟩
theorem hX{m m':Ms}{k:Nat}{h:AV}(e:m.enter k h=some m'):m'.things=m.things/\m'.room=m.room:=by
 unfold enter at e
 split at e
 ·split at e
  ·cases e
  ·cases e;exact⟨rfl,rfl⟩
 ·cases e
theorem qS2{m m':Ms}{o:AOrd}(h:m.things.length<=m.room)(e:m.exec o=some m'):m'.things.length<=m'.room:=by
 cases o with
 |num n=>cases e;exact h
 |tru n=>cases e;exact h
 |nil=>cases e;exact h
 |get k=>obtain⟨v,_,rfl⟩:=aq6.mp e;exact h
 |make s=>
  obtain⟨m1,e1,e⟩:=aq5.mp e
  obtain⟨t1,t2⟩:=hJ h e1
  split at e
  ·rename_i hs
   split at e
   ·cases e
    have :=t2 hs
    show(m1.things++[_]).length<=m1.room
    simp;omega
   ·cases e
  ·cases e;exact t1
 |take x i=>
  simp only[exec]at e
  split at e
  ·cases e;exact h
  ·obtain⟨t,_,e⟩:=aq5.mp e
   obtain⟨v,_,rfl⟩:=aq6.mp e
   exact h
  ·cases e
 |empty=>simp only[exec]at e;split at e<;>cases e;exact h
 |not=>simp only[exec]at e;split at e<;>cases e;exact h
 |sum s=>
  simp only[exec]at e
  split at e
  ·cases e;split<;>exact h
  ·cases e
 |func rc kept len=>
  obtain⟨m1,e1,e⟩:=aq5.mp e
  obtain⟨t1,t2⟩:=hJ h e1
  split at e
  ·rename_i hs
   obtain⟨vs,_,e⟩:=aq6.mp e
   subst e
   have :=t2 hs
   show(m1.things++[_]).length<=m1.room
   simp;omega
  ·cases e;exact t1
 |call=>
  simp only[exec]at e
  split at e
  ·cases e;exact h
  ·split at e
   ·obtain⟨a,b⟩:=hX e
    rw[a,b];exact h
   ·cases e
 |last=>
  simp only[exec]at e
  split at e
  ·obtain⟨a,b⟩:=hX e
   rw[a,b];exact h
  ·cases e
 |tell=>
  simp only[exec]at e
  split at e
  ·split at e
   ·split at e
    ·cases e;exact h
    ·cases e
   ·cases e;exact h
  ·cases e
 |«unless» k=>simp only[exec]at e;split at e<;>cases e;split<;>exact h
 |skip k=>cases e;exact h
 |slide=>simp only[exec]at e;split at e<;>cases e;exact h
theorem Wf.g{m:Ms}(w:m.Wf):m.Wg:=⟨w.iv,w.it⟩
theorem Wf.exec{m m':Ms}{o:AOrd}(w:m.Wf)(ho:o.ok)(hp:m.place<=1000000)(e:m.exec o=some m')(hl:m'.stk.length<=high):m'.Wf/\Like m m':=by
 obtain⟨a,b⟩:=qS1 w.g hp ho e
 exact⟨⟨hl,a.iv,a.it,by rw[b.code];exact w.okc,by rw[b.code];exact w.cl,by rw[b.room];exact w.rm,qS2 w.tr e⟩,b⟩
theorem order_of{m m':Ms}(e:m.order=some m'):∃o,m.code[m.place]? =some o/\({m with place:=m.place+1}:Ms).exec o=some m'/\m'.stk.length<=high:=by
 unfold order at e
 obtain⟨o,h1,e⟩:=aq5.mp e
 obtain⟨m1,h2,e⟩:=aq5.mp e
 split at e
 ·cases e;exact⟨o,h1,h2,by assumption⟩
 ·cases e
theorem Wf.order{m m':Ms}(w:m.Wf)(e:m.order=some m'):m'.Wf/\Like m m':=by
 obtain⟨o,h1,h2,h3⟩:=order_of e
 have hl:m.place<m.code.length:=(List.getElem?_eq_some_iff.mp h1).1
 obtain⟨a,b⟩:=Wf.exec (m:={m with place:=m.place+1}) ⟨w.hs,w.iv,w.it,w.okc,w.cl,w.rm,w.tr⟩ (w.okc o (aq23 h1)) (by have :=w.cl;show m.place+1<=_;omega) h2 h3
 exact⟨a,⟨b.code,b.room⟩⟩
end Ms
namespace K23
open PySem L2 PyProof Dt
def w7:Sm->W7
 | .plus=>.plus| .minus=>.minus| .times=>.times| .over=>.over| .rest=>.rest| .less=>.less| .same=>.same
theorem zC2(s:Sm):s.str=(w7 s).str:=by cases s<;>rfl
theorem gY(s:Sm)(b:Int):Ms.nought s b=nought (w7 s) b:=by cases s<;>simp[Ms.nought,nought,w7,divs]
theorem wV(n:Int):fP n=Ms.bring n:=by unfold fP Ms.bring least round;omega
theorem zC3(a b:Int):qJq a b=((a.natAbs/b.natAbs:Nat):Int):=by
 unfold qJq
 rw[oY,oY,Int.fdiv_eq_ediv_of_nonneg _ (by omega)];rfl
theorem zC4{K:Fg}{H:Hp}(s:Sm)(a b:Int):qY K H (Ms.sumV s a b).dt (sumV (w7 s) a b):=by
 cases s
 case plus=>show qY K H (.int _) (V.int _);rw[qY,wV]
 case minus=>show qY K H (.int _) (V.int _);rw[qY,wV]
 case times=>show qY K H (.int _) (V.int _);rw[qY,wV]
 case over=>
  show qY K H (.int _) (V.int _);rw[qY,wV,zC3]
  by_cases e:decide (a<0)=decide (b<0)
  ·rw[if_pos e,if_pos (by rw[e];simp)]
  ·rw[if_neg e,if_neg (by simpa using e)]
 case rest=>
  show qY K H (.int _) (V.int _);rw[qY,oY,oY]
  by_cases e:a<0
  ·rw[if_pos e,if_pos (by simpa using e)];rfl
  ·rw[if_neg e,if_neg (by simpa using e)];rfl
 case less=>show qY K H (.bl _) (V.bl _);rw[qY]
 case same=>show qY K H (.bl _) (V.bl _);rw[qY];congr 1;rw[Bool.eq_iff_iff];simp
theorem uN(v:AV):eqD v.dt .non=decide (v= .nil):=by cases v<;>simp[AV.dt,eqD]
theorem cM(v:AV):dep v.dt<=1:=by cases v<;>simp[AV.dt,dep,deps]
theorem wY{m:Ms}(w:m.Wf):m.stk.length<sizeLine:=by have :=w.hs;unfold Ms.high at this;rw[sizeLine_eq];omega
theorem zC5{n:Nat}(w:n<=Ms.high):n<sizeLine:=by unfold Ms.high at w;rw[sizeLine_eq];omega
section
variable {K:Fg} {H0 H:Hp} {d:Ad} {m:Ms} {σ:St} {D:Ends}
theorem cN(M:Mc K d.C)(h:MS K H0 d m H)(h0:σ[0]? =some (some (.ref d.m)))(x:Sd)(q:∀H',MS K H0 d {m with st:=x} H'->D.nx σ H'):qV0 K (jV 0) (tC (.str x.str)) "standing" D σ H:=
 ⟨_,h0,d.m,d.C,d.dx,_,rfl,h.mo,M.cl,M.n7,yC _ _,by rw[yF];exact q _ (h.setM m.base m.place x)⟩
theorem qJj{v:AV}{y:V}(M:Mc K d.C)(h:MS K H0 d m H)(h0:σ[0]? =some (some (.ref d.m)))(x:Sd)(hy:qY K H v.dt y)(q:∀H',MS K H0 d {m with st:=x} H'->qY K H' v.dt y->D.nx σ H'):qV0 K (jV 0) (tC (.str x.str)) "standing" D σ H:=
 ⟨_,h0,d.m,d.C,d.dx,_,rfl,h.mo,M.cl,M.n7,yC _ _,by rw[yF];exact q _ (h.setM m.base m.place x) (qY.monoT (jA h.mo) hy)⟩
theorem qX0(M:Mc K d.C)(h:MS K H0 d m H)(h0:σ[0]? =some (some (.ref d.m)))(x:Sd)(q:∀H',jW K H H'->MS K H0 d {m with st:=x} H'->D.nx σ H'):qV0 K (jV 0) (tC (.str x.str)) "standing" D σ H:=
 ⟨_,h0,d.m,d.C,d.dx,_,rfl,h.mo,M.cl,M.n7,yC _ _,by rw[yF];exact q _ (jA h.mo) (h.setM m.base m.place x)⟩
theorem nH{tv:TE}(M:Mc K d.C)(h:MS K H0 d m H)(h0:σ[0]? =some (some (.ref d.m)))(q:tv σ H fun y H2=>qF1 (.int (m.place:Nat)) y H2 fun z H3=>∃dx' fs',H3 d.m=some (.ins d.C dx' fs')/\fs'.length<1000/\D.nx σ (upd H3 d.m (.ins d.C dx' (xG "place" z fs')))):sS K (jV 0) tv qF1 "place" D σ H:=
 ⟨_,h0,d.m,d.C,d.dx,_,_,rfl,h.mo,M.cl,M.n5,uL _ _,q⟩
theorem nP(h:MS K H0 d m H)(k:Nat)(q:∀H',MS K H0 d {m with place:=m.place+k} H'->D.nx σ H'):qF1 (.int (m.place:Nat)) (.int (k:Nat)) H fun z H3=>∃dx' fs',H3 d.m=some (.ins d.C dx' fs')/\fs'.length<1000/\D.nx σ (upd H3 d.m (.ins d.C dx' (xG "place" z fs'))):=by
 refine⟨_,_,rfl,rfl,d.dx,_,h.mo,yC _ _,?_⟩
 rw[show((m.place:Int)+(k:Int))=((m.place+k:Nat):Int) by omega,iU]
 exact q _ (h.setM m.base (m.place+k) m.st)
end
inductive zH1(K:Fg)(C:Addr)(CH:Addr)(B:AOrd->Prop)(vs:List V)(H:Hp)(Q:VK):Prop
 |mk (H0:Hp) (d:Ad) (m:Ms) (m':Ms) (o:AOrd) (c:V) (a_0:vs=[.ref d.m,c]) (a_1:d.C=C) (a_2:d.CH=CH) (a_3:MS K H0 d m H) (a_4:qY K H o.dt c) (a_5:B o) (a_6:m.Wf) (a_7:m.st= .running) (a_8:m.place<=1000000) (a_9:m.exec o=some m') (a_10:m'.stk.length<=Ms.high) (a_11:∀a b H',MS K H0 (d.mv a b) m' H'->Q .non H'):zH1 K C CH B vs H Q
def bK(K:Fg)(C CH:Addr)(B:AOrd->Prop):Sp:=fun vs H Q x_0=>zH1 K C CH B vs H Q
section
variable {P:Program} {w:World} {K:Fg} {mg:Str->Option Value} {base:Heap} {C CH f:Addr} {fd:FuncData}
abbrev p2:List Str:=["machine","order"]
theorem zH2:qC p2 p2 (qU zO5):=by walk_at "s"
theorem zC6(F:zK K "put" "put" zO5 .none f fd)(M:Mc K C):zQ P w K mg base (CXE P w) 1 f fd p2 (bK K C CH fun o=>(∃n,o= .num n)\/∃b,o= .tru b):=by
 refine F.ok0 zH2 (by walk_at "l") ?_
 walk_at "i"
 obtain⟨H0,d,m,m',o,c,rfl,rfl,rfl,h,hc,hB,hw,hst,hp,he,hl,q⟩:=h
 obtain⟨ca,us,rfl,hca,hus⟩:=wT hc
 refine⟨_,qK (zJ (jT aq0 aq1 aq2 zF (qT (pv 0) rfl) (qQ (qM qP (pv 1) qV) qZ))),?_⟩
 walk_at "e"
 rcases hB with⟨n,rfl⟩|⟨b,rfl⟩
 ·cases he
  obtain⟨u,r,rfl,hu,hr0⟩:=qR hus
  cases zA hr0
  exact xS M h rfl ⟨_,rfl,ca,_,_,u,rfl,rfl,hca,qW (j:=1) rfl,jD (v:=.int n) h hu (wY hw) fun H' h'=>q d.st d.th H' h'⟩
 ·cases he
  obtain⟨u,r,rfl,hu,hr0⟩:=qR hus
  cases zA hr0
  exact xS M h rfl ⟨_,rfl,ca,_,_,u,rfl,rfl,hca,qW (j:=1) rfl,jD (v:=.bl b) h hu (wY hw) fun H' h'=>q d.st d.th H' h'⟩
theorem zC7:qC p2 p2 (qU qCj):=by walk_at "s"
theorem qS3(F:zK K "put_nil" "put_nil" qCj .none f fd)(M:Mc K C)(zE:mg "EMPTY"=some .none):zQ P w K mg base (CXE P w) 1 f fd p2 (bK K C CH fun o=>o= .nil):=by
 refine F.ok0 zC7 (by walk_at "l") ?_
 walk_at "i"
 obtain⟨H0,d,m,m',o,c,rfl,rfl,rfl,h,hc,rfl,hw,hst,hp,he,hl,q⟩:=h
 refine⟨_,qK (zJ (jT aq0 aq1 aq2 zF (qT (pv 0) rfl) (qQ (zM (v:=.non) (by rfl) zE rfl) qZ))),?_⟩
 walk_at "e"
 cases he
 exact xS M h rfl (jD (v:=.nil) h (by show qY K H .non V.non;rw[qY]) (wY hw) fun H' h'=>q d.st d.th H' h')
theorem zH3:qC ["machine","slot"] ["machine","slot"] (qU zO6):=by walk_at "s"
inductive qG1(K:Fg)(C:Addr)(vs:List V)(H:Hp)(Q:VK):Prop
 |mk (H0:Hp) (d:Ad) (m:Ms) (k:Nat) (v:AV) (a_0:vs=[.ref d.m,.int (k:Nat)]) (a_1:d.C=C) (a_2:MS K H0 d m H) (a_3:m.slot k=some v) (a_4:∀x,qY K H v.dt x->Q x H):qG1 K C vs H Q
def aL(K:Fg)(C:Addr):Sp:=fun vs H Q x_0=>qG1 K C vs H Q
theorem zC8(F:zK K "in_slot" "in_slot" zO6 .none f fd)(M:Mc K C):zQ P w K mg base (CXE P w) 1 f fd ["machine","slot"] (aL K C):=by
 refine F.ok0 zH3 (by walk_at "l") ?_
 walk_at "i"
 obtain⟨H0,d,m,k,v,rfl,rfl,h,he,q⟩:=h
 refine⟨_,qK (qB (qM zY (qT (pv 0) rfl) (zU xA (qT (pv 0) rfl) (pv 1)))),?_⟩
 walk_at "e"
 obtain⟨vs,hs,hd⟩:=h.so
 unfold Ms.slot at he
 split at he
 ·rename_i hlt
  obtain⟨x,hx1,hx2⟩:=hd.get (i:=m.base+k) (d:=v.dt) (by rw[aq19,List.getElem?_reverse hlt,he];rfl)
  refine⟨_,rfl,d.m,d.C,d.dx,_,_,rfl,h.mo,M.cl,M.n3,xL _ _,_,rfl,d.m,d.C,d.dx,_,_,rfl,h.mo,M.cl,M.n4,nM _ _,_,rfl,_,_,rfl,rfl,d.st,vs,_,x,rfl,rfl,zS.of hs,?_,q x hx2⟩
  rw[show((m.base:Int)+(k:Int))=((m.base+k:Nat):Int) by omega]
  exact qW hx1
 ·cases he
theorem zC9:qC p2 p2 (qU qL0):=by walk_at "s"
theorem qS4(F:zK K "put_slot" "put_slot" qL0 .none f fd)(M:Mc K C)(GI:Kn P w K mg base 1 "in_slot" ["machine","slot"] (aL K C)):zQ P w K mg base (CXE P w) 2 f fd p2 (bK K C CH fun o=>∃k,o= .get k):=by
 refine F.ok0 zC9 (by walk_at "l") ?_
 walk_at "i"
 obtain⟨H0,d,m,m',o,c,rfl,rfl,rfl,h,hc,⟨k,rfl⟩,hw,hst,hp,he,hl,q⟩:=h
 obtain⟨ca,us,rfl,hca,hus⟩:=wT hc
 obtain⟨u,r,rfl,hu,hr0⟩:=qR hus
 cases zA hr0
 cases kC hu
 refine⟨_,qK (zJ (jT aq0 aq1 aq2 zF (qT (pv 0) rfl) (qQ (zO GI hr (qQ (pv 0) (qQ (qM qP (pv 1) qV) qZ))) qZ))),?_⟩
 walk_at "e"
 obtain⟨v,hv,rfl⟩:=aq6.mp he
 exact xS M h rfl ⟨_,rfl,_,rfl,ca,_,_,_,rfl,rfl,hca,qW (j:=1) rfl,H0,d,m,k,v,rfl,rfl,h,hv,fun x hx=>jD (v:=v) h hx (wY hw) fun H' h'=>q d.st d.th H' h'⟩
theorem zCq:qC p2 p2 (qU qL2):=by walk_at "s"
theorem qS5(F:zK K "turn_truth" "turn_truth" qL2 .none f fd)(M:Mc K C):zQ P w K mg base (CXE P w) 1 f fd p2 (bK K C CH fun o=>o= .not):=by
 refine F.ok0 zCq (by walk_at "l") ?_
 walk_at "i"
 obtain⟨H0,d,m,m',o,c,rfl,rfl,rfl,h,hc,rfl,hw,hst,hp,he,hl,q⟩:=h
 refine⟨_,qK (zJ (jT aq0 aq1 aq2 zF (qT (pv 0) rfl) (qQ (gA (xV aq0 aq3 aq4 xW (qT (pv 0) rfl))) qZ))),?_⟩
 walk_at "e"
 simp only[Ms.exec]at he
 split at he
 ·rename_i b r hs
  cases he
  have hl1:r.length<sizeLine:=by have :=wY hw;rw[hs]at this;exact Nat.lt_of_succ_lt this
  exact xS M h rfl (wS M h rfl hs fun x H1 hx h1=>⟨b,tN hx,jD (v:=.bl (!b)) h1 (by show qY K H1 (.bl _) _;rw[qY]) hl1 fun H' h'=>q d.st d.th H' h'⟩)
 ·cases he
theorem zH4:qC p2 p2 (qU zO7):=by walk_at "s"
theorem zCz(F:zK K "ask_empty" "ask_empty" zO7 .none f fd)(M:Mc K C)(zE:mg "EMPTY"=some .none):zQ P w K mg base (CXE P w) 2 f fd p2 (bK K C CH fun o=>o= .empty):=by
 refine F.ok0 zH4 (by walk_at "l") ?_
 walk_at "i"
 obtain⟨H0,d,m,m',o,c,rfl,rfl,rfl,h,hc,rfl,hw,hst,hp,he,hl,q⟩:=h
 refine⟨_,qK (zJ (jT aq0 aq1 aq2 zF (qT (pv 0) rfl) (qQ (jI wZ (xV aq0 aq3 aq4 xW (qT (pv 0) rfl)) (zM (v:=.non) (by rfl) zE rfl) (nomark _)) qZ))),?_⟩
 walk_at "e"
 simp only[Ms.exec]at he
 split at he
 ·rename_i v r hs
  cases he
  have hl1:r.length<sizeLine:=by have :=wY hw;rw[hs]at this;exact Nat.lt_of_succ_lt this
  have hdv:=cM v
  refine xS M h rfl (wS M h rfl hs fun x H1 hx h1=>⟨v.dt,.non,hx,by rw[qY],xH hr (by omega),?_⟩)
  rw[uN]
  exact jD (v:=.bl (decide (v= .nil))) h1 (by show qY K H1 (.bl _) _;rw[qY]) hl1 fun H' h'=>q d.st d.th H' h'
 ·cases he
end
section
variable {K:Fg} {H0 H:Hp} {d:Ad} {m:Ms} {σ:St} {D:Ends} {R:VK}
theorem cB{k:Nat}{t:Th}(h:MS K H0 d m H)(e:m.things[k]? =some t):∃ts a u w,H d.th=some (.lst ts)/\ts[k]? =some (.ref a)/\zB K H a [.str t.sort.str,.ref u]/\zB K H u w/\qO K H (t.held.map AV.dt) w:=by
 obtain⟨ts,hs,hd⟩:=h.to
 obtain⟨x,hx1,hx2⟩:=hd.get (i:=k) (d:=t.dt) (by rw[aq19,e];rfl)
 obtain⟨a,u,rfl,ha,hu⟩:=xF hx2
 obtain⟨b,w,rfl,hb,hw⟩:=vW hu
 exact⟨ts,a,b,w,hs,hx1,ha,hb,hw⟩
theorem nR{k:Nat}{x:V}(h:qY K H (AV.at_ k).dt x):∃a,x= .ref a/\zB K H a [.str "at",.int (k:Nat)]:=by
 obtain⟨a,u,rfl,ha,hu⟩:=xF h
 cases kC hu
 exact⟨a,rfl,ha⟩
end
section
variable {P:Program} {w:World} {K:Fg} {mg:Str->Option Value} {base:Heap} {C CH f:Addr} {fd:FuncData}
inductive aG(K:Fg)(CH:Addr)(vs:List V)(H:Hp)(Q:VK):Prop
 |mk (H0:Hp) (d:Ad) (m:Ms) (k:Nat) (t:Th) (x:V) (a_0:vs=[.ref d.hp,x]) (a_1:d.CH=CH) (a_2:MS K H0 d m H) (a_3:qY K H (AV.at_ k).dt x) (a_4:m.things[k]? =some t) (a_5:∀u w,zB K H u w->qO K H (t.held.map AV.dt) w->Q (.ref u) H):aG K CH vs H Q
def cD(K:Fg)(CH:Addr):Sp:=fun vs H Q x_0=>aG K CH vs H Q
theorem zCj:qC ["self","reference"] ["self","reference"] (qU qL8):=by walk_at "s"
theorem qS6(F:zK K "held_by" "Heap.held_by" qL8 .none f fd)(M:Hc K CH):zQ P w K mg base (CXE P w) 1 f fd ["self","reference"] (cD K CH):=by
 refine F.ok0 zCj (by walk_at "l") ?_
 walk_at "i"
 obtain⟨H0,d,m,k,t,x,rfl,rfl,h,hx,ht,q⟩:=h
 refine⟨_,qK (qB (qM qP (qM zY (qT (pv 0) rfl) (qM qP (pv 1) qV)) qV)),?_⟩
 walk_at "e"
 obtain⟨a,rfl,ha⟩:=nR hx
 obtain⟨ts,ta,u,ws,h1,h2,h3,h4,h5⟩:=cB h ht
 exact⟨_,rfl,d.hp,d.CH,d.dh,_,_,rfl,h.ho,M.cl,M.n2,kM _ _,⟨_,rfl,a,_,_,_,rfl,rfl,ha,qW (j:=1) rfl,d.th,ts,_,_,rfl,rfl,zS.of h1,qW h2,ta,_,_,_,rfl,rfl,h3,qW (j:=1) rfl,q u ws h4 h5⟩⟩
inductive aM(K:Fg)(CH:Addr)(vs:List V)(H:Hp)(Q:VK):Prop
 |mk (H0:Hp) (d:Ad) (m:Ms) (k:Nat) (t:Th) (x:V) (a_0:vs=[.ref d.hp,x]) (a_1:d.CH=CH) (a_2:MS K H0 d m H) (a_3:qY K H (AV.at_ k).dt x) (a_4:m.things[k]? =some t) (a_5:Q (.str t.sort.str) H):aM K CH vs H Q
def qG2(K:Fg)(CH:Addr):Sp:=fun vs H Q x_0=>aM K CH vs H Q
theorem zL0:qC ["self","reference"] ["self","reference"] (qU qL7):=by walk_at "s"
theorem qS7(F:zK K "sort_of" "Heap.sort_of" qL7 .none f fd)(M:Hc K CH):zQ P w K mg base (CXE P w) 1 f fd ["self","reference"] (qG2 K CH):=by
 refine F.ok0 zL0 (by walk_at "l") ?_
 walk_at "i"
 obtain⟨H0,d,m,k,t,x,rfl,rfl,h,hx,ht,q⟩:=h
 refine⟨_,qK (qB (qM qP (qM zY (qT (pv 0) rfl) (qM qP (pv 1) qV)) qV)),?_⟩
 walk_at "e"
 obtain⟨a,rfl,ha⟩:=nR hx
 obtain⟨ts,ta,u,ws,h1,h2,h3,h4,h5⟩:=cB h ht
 exact⟨_,rfl,d.hp,d.CH,d.dh,_,_,rfl,h.ho,M.cl,M.n2,kM _ _,⟨_,rfl,a,_,_,_,rfl,rfl,ha,qW (j:=1) rfl,d.th,ts,_,_,rfl,rfl,zS.of h1,qW h2,ta,_,_,_,rfl,rfl,h3,qW (j:=0) rfl,q⟩⟩
inductive zX5(K:Fg)(CH:Addr)(g:Ms->V)(vs:List V)(H:Hp)(Q:VK):Prop
 |mk (H0:Hp) (d:Ad) (m:Ms) (a_0:vs=[.ref d.hp]) (a_1:d.CH=CH) (a_2:MS K H0 d m H) (a_3:Q (g m) H):zX5 K CH g vs H Q
def qX1(K:Fg)(CH:Addr)(g:Ms->V):Sp:=fun vs H Q x_0=>zX5 K CH g vs H Q
theorem zL1:qC ["self"] ["self"] (qU qL6):=by walk_at "s"
theorem qS8(F:zK K "is_full" "Heap.is_full" qL6 .none f fd)(M:Hc K CH)(zL:mg "len"=none):zQ P w K mg base (CXE P w) 1 f fd ["self"] (qX1 K CH fun m=>.bl (decide (m.room<=m.things.length))):=by
 refine F.ok0 zL1 (by walk_at "l") ?_
 walk_at "i"
 obtain⟨H0,d,m,rfl,rfl,h,q⟩:=h
 refine⟨_,qK (qB (jI qE9 (zV zR (by rfl) zL aq27 (qQ (qT (pv 0) rfl) qZ)) (qT (pv 0) rfl) (nomark _))),?_⟩
 walk_at "e"
 obtain⟨ts,hs,hd⟩:=h.to
 refine⟨_,rfl,d.hp,d.CH,d.dh,_,_,rfl,h.ho,M.cl,M.n2,kM _ _,⟨d.th,ts,rfl,.inl (zS.of hs),⟨_,rfl,d.hp,d.CH,d.dh,_,_,rfl,h.ho,M.cl,M.n1,zIj _ _,⟨_,_,rfl,rfl,?_⟩⟩⟩⟩
 have e:decide (((m.room:Nat):Int)<=((ts.length:Nat):Int))=decide (m.room<=m.things.length):=by
  have :ts.length=m.things.length:=by rw[hd.length,aq16]
  rw[Bool.eq_iff_iff];simp;omega
 show Q (V.bl (decide (((m.room:Nat):Int)<=((ts.length:Nat):Int)))) H
 rw[e]
 exact q
theorem qS9:qC ["self"] ["self"] (qU rE):=by walk_at "s"
theorem qG3(F:zK K "used" "Heap.used" rE .none f fd)(M:Hc K CH)(zL:mg "len"=none):zQ P w K mg base (CXE P w) 1 f fd ["self"] (qX1 K CH fun m=>.int (m.things.length:Nat)):=by
 refine F.ok0 qS9 (by walk_at "l") ?_
 walk_at "i"
 obtain⟨H0,d,m,rfl,rfl,h,q⟩:=h
 refine⟨_,qK (qB (zV zR (by rfl) zL aq27 (qQ (qT (pv 0) rfl) qZ))),?_⟩
 walk_at "e"
 obtain⟨ts,hs,hd⟩:=h.to
 refine⟨_,rfl,d.hp,d.CH,d.dh,_,_,rfl,h.ho,M.cl,M.n2,kM _ _,⟨d.th,ts,rfl,.inl (zS.of hs),?_⟩⟩
 rw[hd.length,aq16]
 exact q
inductive qG4(K:Fg)(vs:List V)(H:Hp)(Q:VK):Prop
 |mk (k:Nat) (a_0:vs=[.int (k:Nat)]) (a_1:∀x H',Grow H H'->qY K H' (AV.at_ k).dt x->Q x H'):qG4 K vs H Q
def gU(K:Fg):Sp:=fun vs H Q x_0=>qG4 K vs H Q
theorem zH5:qC ["place"] ["place"] (qU zO3):=by walk_at "s"
theorem zL2(F:zK K "reference_to" "reference_to" zO3 .none f fd):zQ P w K mg base (CXE P w) 1 f fd ["place"] (gU K):=by
 refine F.ok0 zH5 (by walk_at "l") ?_
 walk_at "i"
 obtain⟨k,rfl,q⟩:=h
 refine⟨_,qK (qB (zW (qQ qI (qQ (pv 0) qZ)))),?_⟩
 walk_at "e"
 exact⟨_,rfl,zl2,fun t ht=>q _ _ (Grow.put ht) (wH (zB.of qJ) (by rw[qY]))⟩
inductive aN(K:Fg)(CH:Addr)(vs:List V)(H:Hp)(Q:VK):Prop
 |mk (H0:Hp) (d:Ad) (m:Ms) (s:Srt) (hl:Addr) (hs:List AV) (xs:List V) (a_0:vs=[.ref d.hp,.str s.str,.ref hl]) (a_1:d.CH=CH) (a_2:MS K H0 d m H) (a_3:H hl=some (.lst xs)) (a_4:qO K H (hs.map AV.dt) xs) (a_5:m.things.length<m.room) (a_6:m.room<=1000) (a_7:∀x H',jW K H H'->MS K H0 d {m with things:=m.things++[⟨s,hs⟩],made:=m.made+1} H'->qY K H' (AV.at_ m.things.length).dt x->Q x H'):aN K CH vs H Q
def sX(K:Fg)(CH:Addr):Sp:=fun vs H Q x_0=>aN K CH vs H Q
theorem qSq:qC ["self","sort","held"] ["self","sort","held"] (qU sQ):=by walk_at "s"
theorem qG5{ff:Addr}{ffd:FuncData}(F:zK K "make" "Heap.make" sQ .none f fd)(M:Hc K CH)(zL:mg "len"=none)(zT:mg "tuple"=none)(mF:Meth K CH "is_full" ff)(GF:zQ P w K mg base (CXE P w) 1 ff ffd ["self"] (qX1 K CH fun m=>.bl (decide (m.room<=m.things.length))))(bF:Binds K ffd ["self"] [])
  (GR:Kn P w K mg base 1 "reference_to" ["place"] (gU K)):zQ P w K mg base (CXE P w) 2 f fd ["self","sort","held"] (sX K CH):=by
 refine F.ok0 qSq (by walk_at "l") ?_
 walk_at "i"
 obtain⟨H0,d,m,sr,hl,hs,xs,rfl,rfl,h,h1,h2,hlt,hrm,q⟩:=h
 refine⟨_,qX (zH (xI (vN (pv 0) M.cl mF GF hr bF .nil zD)) uF zX)
  (qX (zJ (jT aq0 aq1 aq2 zF (qT (pv 0) rfl) (qQ (zW (qQ (pv 1) (qQ (jB vC (by rfl) zT PyProof.Rows.boot_tuple (qQ (pv 2) qZ)) qZ))) qZ)))
  (qX (vM (pv 0) qV iH)
  (qK (qB (zO GR hr (qQ (zU vT (zV zR (by rfl) zL aq27 (qQ (qT (pv 0) rfl) qZ)) qV) qZ)))))),?_⟩
 walk_at "e"
 refine⟨_,rfl,d.hp,d.dh,_,rfl,h.ho,kF _ _ (by decide+kernel),H0,d,m,rfl,rfl,h,_,rfl,?_⟩
 rw[decide_eq_false (show¬m.room<=m.things.length by omega)]
 refine jJ ?_
 obtain⟨ts,ht1,ht2⟩:=h.to
 refine⟨_,rfl,d.hp,d.CH,d.dh,_,_,rfl,h.ho,M.cl,M.n2,kM _ _,⟨.inl ⟨rfl,_,zS.of ht1⟩,_,rfl,_,rfl,hl,xs,rfl,.inl ⟨zS.of h1,fun t0 ht0=>?_⟩⟩⟩
 have g1:Grow H (upd H t0 (.tup xs)):=Grow.put ht0
 have e0:(upd H t0 (.tup xs)) t0=some (.tup xs):=qJ
 generalize upd H t0 (.tup xs)=H1 at g1 e0⊢
 refine⟨zl2,fun t1 ht1'=>?_⟩
 have g2:Grow H1 (upd H1 t1 (.tup [.str sr.str,.ref t0])):=Grow.put ht1'
 have e1:(upd H1 t1 (.tup [.str sr.str,.ref t0])) t1=some (.tup [.str sr.str,.ref t0]):=qJ
 generalize upd H1 t1 (.tup [.str sr.str,.ref t0])=H2 at g2 e1⊢
 have g12:=g1.trans g2
 have hM2:=h.grow g12
 have hx:qY K H2 (Th.dt ⟨sr,hs⟩) (.ref t1):=wH (zB.of e1) (wX (zB.of (g2.same _ _ e0)) (h2.mono g12.same))
 have hts:=ht2.mono g12.same
 have htl:ts.length=m.things.length:=by rw[ht2.length,aq16]
 refine⟨d.th,ts,_,rfl,rfl,g12.same _ _ ht1,by rw[sizeLine_eq];omega,?_⟩
 have hM3:=hM2.setT (s:=m.things++[⟨sr,hs⟩]) (vs:=ts++[.ref t1]) (by rw[aq21];exact qO.append hts (qG hx qA))
 have k3:jW K H (upd H2 d.th (.lst (ts++[.ref t1]))):=xQ (vH g12) (zP (g12.same _ _ ht1))
 show uD _ _ _ _ (upd H2 d.th (.lst (ts++[.ref t1])))
 generalize upd H2 d.th (.lst (ts++[.ref t1]))=H3 at hM3 k3⊢
 refine⟨_,rfl,d.hp,d.CH,d.dh,_,_,rfl,hM3.ho,M.cl,M.n3,zC0 _ _,_,_,rfl,rfl,d.dh,_,hM3.ho,zX4 _ _,?_⟩
 rw[show((({m with things:=m.things++[⟨sr,hs⟩]}:Ms).made:Nat):Int)+1=((m.made+1:Nat):Int) by show((m.made:Nat):Int)+1=_;omega,zC1]
 have hM4:=hM3.setH (m.made+1)
 have k4:=xQ k3 (jA (K:=K) (gs:=hfl d {m with things:=m.things++[⟨sr,hs⟩],made:=m.made+1}) hM3.ho)
 generalize upd H3 d.hp _=H4 at hM4 k4⊢
 obtain⟨ts4,hs4,hd4⟩:=hM4.to
 refine⟨_,rfl,d.hp,d.CH,d.dh,_,_,rfl,hM4.ho,M.cl,M.n2,kM _ _,d.th,ts4,rfl,.inl (zS.of hs4),_,_,rfl,rfl,m.things.length,?_,fun x H5 g5 hx5=>?_⟩
 ·have :ts4.length=m.things.length+1:=by rw[hd4.length,aq16];simp
  rw[this]
  show[V.int _]=[V.int _]
  congr 2
  omega
 ·exact q x H5 (xQ k4 (vH g5)) (hM4.grow g5) hx5
end
section
variable {K:Fg} {H0 H:Hp} {d:Ad} {m:Ms} {σ:St} {D:Ends} {R:VK}
theorem cut2(x y:V)(r:List V):iS (x::y::r) (some 2) none=r:=by
 have e:HT.sIx (x::y::r).length 0 (some 2)=2:=by
  simp[HT.sIx]
  try omega
 unfold iS
 rw[e]
 simp[HT.sIx]
theorem qG6(x y:V)(r:List V):¬(HT.sIx (x::y::r).length 0 (some 2)=0/\HT.sIx (x::y::r).length (x::y::r).length none=(x::y::r).length):=by
 rintro⟨h,_⟩
 simp[HT.sIx]at h
 try omega
theorem qSz{l:List AV}{h:Nat}(e:l.length<=h):Ms.cut l h=l:=by unfold Ms.cut;rw[show l.length-h=0 by omega];rfl
theorem qG7{v:AV}{l:List AV}{h:Nat}(e:h<=l.length):Ms.cut (v::l) h=Ms.cut l h:=by
 unfold Ms.cut
 rw[aq17,show l.length+1-h=(l.length-h)+1 by omega];rfl
end
section
variable {P:Program} {w:World} {K:Fg} {mg:Str->Option Value} {base:Heap} {C CH f fH:Addr} {fd fdH:FuncData}
inductive zX6(K:Fg)(C:Addr)(CH:Addr)(vs:List V)(H:Hp)(Q:VK):Prop
 |mk (H0:Hp) (d:Ad) (m:Ms) (m':Ms) (x:Str) (i:Nat) (a_0:vs=[.ref d.m,.int (i:Nat)]) (a_1:d.C=C) (a_2:d.CH=CH) (a_3:MS K H0 d m H) (a_4:m.Wf) (a_5:m.exec (.take x i)=some m') (a_6:∀H',MS K H0 d m' H'->Q .non H'):zX6 K C CH vs H Q
def zL3(K:Fg)(C CH:Addr):Sp:=fun vs H Q x_0=>zX6 K C CH vs H Q
theorem zX7:qC ["machine","which","holder"] ["machine","which"] (qU zOq):=by walk_at "s"
theorem zL4(F:zK K "take_held" "take_held" zOq .none f fd)(M:Mc K C)(N:Hc K CH)(zE:mg "EMPTY"=some .none)(mH:Meth K CH "held_by" fH)(GH:zQ P w K mg base (CXE P w) 1 fH fdH ["self","reference"] (cD K CH))(bH:Binds K fdH ["self","reference"] []):zQ P w K mg base (CXE P w) 2 f fd ["machine","which"] (zL3 K C CH):=by
 refine F.ok0 zX7 (by walk_at "l") ?_
 walk_at "i"
 obtain⟨H0,d,m,m',x,i,rfl,rfl,rfl,h,hw,he,q⟩:=h
 refine⟨_,qX (qF (i:=2) zX7.nd rfl oI (xV aq0 aq3 aq4 xW (qT (pv 0) rfl)))
  (qK (zH (zZ wZ (pv 2) (zM (v:=.non) (by rfl) zE rfl) (nomark _)) (qK (jR (pv 0) qI rfl))
   (qK (zJ (jT aq0 aq1 aq2 zF (qT (pv 0) rfl) (qQ (qM qP (kQ (qT (pv 0) rfl) N.cl mH GH hr bH .nil zD (qQ (pv 2) qZ)) (pv 1)) qZ)))))),?_⟩
 walk_at "e"
 simp only[Ms.exec]at he
 split at he
 ·rename_i r hs
  cases he
  refine wS M h rfl hs fun y H1 hy h1=>?_
  walk_at "d"
  refine⟨_,rfl,AV.nil.dt,.non,hy,by rw[qY],xH hr (Nat.le_trans (cM _) (by decide)),_,rfl,?_⟩
  rw[uN,decide_eq_true rfl]
  exact jC (cN M h1 rfl .ofEmpty fun H' h'=>q H' h')
 ·rename_i k r hs
  obtain⟨t,ht,he⟩:=aq5.mp he
  obtain⟨v,hv,rfl⟩:=aq6.mp he
  have hl1:r.length<sizeLine:=by have :=wY hw;rw[hs]at this;exact Nat.lt_of_succ_lt this
  refine wS M h rfl hs fun y H1 hy h1=>?_
  walk_at "d"
  refine⟨_,rfl,(AV.at_ k).dt,.non,hy,by rw[qY],xH hr (Nat.le_trans (cM _) (by decide)),_,rfl,?_⟩
  rw[uN,decide_eq_false (by intro z;cases z)]
  refine jJ (xS M h1 rfl (⟨_,rfl,d.m,d.C,d.dx,_,_,rfl,h1.mo,M.cl,M.n2,wK _ _,⟨d.hp,d.dh,_,rfl,h1.ho,kF _ _ (by decide+kernel),_,rfl,H0,d,_,k,t,y,rfl,rfl,h1,hy,ht,fun u us hu hus=>?_⟩⟩))
  obtain⟨z,hz1,hz2⟩:=hus.get (i:=i) (d:=v.dt) (by rw[aq19,hv];rfl)
  exact⟨_,rfl,u,us,_,z,rfl,rfl,hu,qW hz1,jD (v:=v) h1 hz2 hl1 fun H' h'=>q H' h'⟩
 ·cases he
theorem zH6:qC p2 p2 (qU zO8):=by walk_at "s"
theorem zH7:qC p2 p2 (qU zO9):=by walk_at "s"
theorem zL5(F:zK K "take_first" "take_first" zO8 .none f fd)(GT:Kn P w K mg base 2 "take_held" ["machine","which"] (zL3 K C CH)):zQ P w K mg base (CXE P w) 3 f fd p2 (bK K C CH fun o=>∃x,o= .take x 0):=by
 refine F.ok0 zH6 (by walk_at "l") ?_
 walk_at "i"
 obtain⟨H0,d,m,m',o,c,rfl,rfl,rfl,h,hc,⟨x,rfl⟩,hw,hst,hp,he,hl,q⟩:=h
 refine⟨_,qK (zJ (zO GT hr (qQ (pv 0) (qQ qV qZ)))),?_⟩
 walk_at "e"
 exact⟨_,rfl,H0,d,m,m',x,0,rfl,rfl,rfl,h,hw,he,fun H' h'=>q d.st d.th H' h'⟩
theorem zL6(F:zK K "take_second" "take_second" zO9 .none f fd)(GT:Kn P w K mg base 2 "take_held" ["machine","which"] (zL3 K C CH)):zQ P w K mg base (CXE P w) 3 f fd p2 (bK K C CH fun o=>∃x,o= .take x 1):=by
 refine F.ok0 zH7 (by walk_at "l") ?_
 walk_at "i"
 obtain⟨H0,d,m,m',o,c,rfl,rfl,rfl,h,hc,⟨x,rfl⟩,hw,hst,hp,he,hl,q⟩:=h
 refine⟨_,qK (zJ (zO GT hr (qQ (pv 0) (qQ qV qZ)))),?_⟩
 walk_at "e"
 exact⟨_,rfl,H0,d,m,m',x,1,rfl,rfl,rfl,h,hw,he,fun H' h'=>q d.st d.th H' h'⟩
theorem sK:qC ["machine","order","other","one"] p2 (qU qL1):=by walk_at "s"
theorem qSj(F:zK K "reckon_sum" "reckon_sum" qL1 .none f fd)(M:Mc K C)(GN:Kn P w K mg base 1 "is_by_nought" ["word","other"] zX3)(GS:Kn P w K mg base 3 "sum_of" ["word","one","other"] aU):zQ P w K mg base (CXE P w) 4 f fd p2 (bK K C CH fun o=>∃x,o= .sum x):=by
 refine F.ok0 sK (by walk_at "l") ?_
 walk_at "i"
 obtain⟨H0,d,m,m',o,c,rfl,rfl,rfl,h,hc,⟨x,rfl⟩,hw,hst,hp,he,hl,q⟩:=h
 obtain⟨ca,us,rfl,hca,hus⟩:=wT hc
 cases zA hus
 refine⟨_,qX (qF (i:=2) sK.nd rfl oI (xV aq0 aq3 aq4 xW (qT (pv 0) rfl)))
  (qX (qF (i:=3) sK.nd rfl oI (xV aq0 aq3 aq4 xW (qT (pv 0) rfl)))
  (qK (zH (xI (zO GN (hr.mono (by omega)) (qQ (qM qP (pv 1) qV) (qQ (pv 2) qZ))))
   (qK (jR (pv 0) qI rfl))
   (qK (zJ (jT aq0 aq1 aq2 zF (qT (pv 0) rfl) (qQ (zO GS hr (qQ (qM qP (pv 1) qV) (qQ (pv 3) (qQ (pv 2) qZ)))) qZ))))))),?_⟩
 walk_at "e"
 simp only[Ms.exec]at he
 split at he
 ·rename_i b a r hs
  have hl1:r.length<sizeLine:=by have :=wY hw;rw[hs]at this;exact Nat.lt_of_succ_lt (Nat.lt_of_succ_lt this)
  have ha:In64 a:=hw.iv (.int a) (by rw[hs];simp)
  have hb:In64 b:=hw.iv (.int b) (by rw[hs];simp)
  have hca':zB K H ca [.str (w7 x).str]:=by rw[<-zC2];exact hca
  obtain⟨g1,g2⟩:Grow H0 H/\True:=⟨h.g,trivial⟩
  have kp:∀{H':Hp}{m1:Ms}{v:AV},MS K H0 d m1 H'->True:=fun _=>trivial
  refine nB M h rfl hs hca' fun y H1 hy h1 hc1=>?_
  walk_at "d"
  cases kC hy
  refine nB M h1 rfl rfl hc1 fun y H2 hy h2 hc2=>?_
  walk_at "d"
  cases kC hy
  refine⟨_,rfl,ca,_,_,_,rfl,rfl,hc2,qW (j:=0) rfl,_,rfl,w7 x,b,rfl,fun H3 g3=>⟨_,rfl,?_⟩⟩
  have h3:=h2.grow g3
  have hc3:=zB.mono g3.same hc2
  rw[<-gY]
  refine ite2 (fun z=>?_) (fun z=>?_)
  ·rw[if_pos z]at he
   cases he
   exact cN M h3 rfl .byNought fun H' h'=>q d.st d.th H' h'
  ·rw[if_neg z]at he
   cases he
   have hz:divs (w7 x)=true->b≠0:=fun e1 e2=>z (by rw[gY];unfold nought;rw[e1,e2];rfl)
   exact xS M h3 rfl ⟨_,rfl,ca,_,_,_,rfl,rfl,hc3,qW (j:=0) rfl,_,rfl,_,rfl,w7 x,a,b,rfl,ha,hb,hz,jD (v:=Ms.sumV x a b) h3 (zC4 x a b) hl1 fun H' h'=>q d.st d.th H' h'⟩
 ·cases he
theorem qT0:qC p2 p2 (qU rS):=by walk_at "s"
theorem qG8(F:zK K "pass_over" "pass_over" rS .none f fd)(M:Mc K C):zQ P w K mg base (CXE P w) 1 f fd p2 (bK K C CH fun o=>∃k,o= .skip k):=by
 refine F.ok0 qT0 (by walk_at "l") ?_
 walk_at "i"
 obtain⟨H0,d,m,m',o,c,rfl,rfl,rfl,h,hc,⟨k,rfl⟩,hw,hst,hp,he,hl,q⟩:=h
 obtain⟨ca,us,rfl,hca,hus⟩:=wT hc
 obtain⟨u,r,rfl,hu,hr0⟩:=qR hus
 cases zA hr0
 cases kC hu
 refine⟨_,qK (vM (pv 0) (qM qP (pv 1) qV) iH),?_⟩
 walk_at "e"
 cases he
 exact nH M h rfl ⟨_,rfl,ca,_,_,_,rfl,rfl,hca,qW (j:=1) rfl,nP h k fun H' h'=>q d.st d.th H' h'⟩
theorem zH8:qC p2 p2 (qU zI5):=by walk_at "s"
theorem zL7(F:zK K "pass_unless" "pass_unless" zI5 .none f fd)(M:Mc K C):zQ P w K mg base (CXE P w) 1 f fd p2 (bK K C CH fun o=>∃k,o= .unless k):=by
 refine F.ok0 zH8 (by walk_at "l") ?_
 walk_at "i"
 obtain⟨H0,d,m,m',o,c,rfl,rfl,rfl,h,hc,⟨k,rfl⟩,hw,hst,hp,he,hl,q⟩:=h
 obtain⟨ca,us,rfl,hca,hus⟩:=wT hc
 obtain⟨u,r,rfl,hu,hr0⟩:=qR hus
 cases zA hr0
 cases kC hu
 refine⟨_,qK (zH (iC (xI (xV aq0 aq3 aq4 xW (qT (pv 0) rfl)))) (qK (vM (pv 0) (qM qP (pv 1) qV) iH)) zX),?_⟩
 walk_at "e"
 simp only[Ms.exec]at he
 split at he
 ·rename_i b r hs
  refine nB M h rfl hs hca fun y H1 hy h1 hc1=>⟨b,tN hy,?_⟩
  cases b with
  |true=>
   cases he
   exact jJ (q d.st d.th H1 h1)
  |false=>
   cases he
   exact jC (nH M h1 rfl ⟨_,rfl,ca,_,_,_,rfl,rfl,hc1,qW (j:=1) rfl,nP h1 k fun H' h'=>q d.st d.th H' h'⟩)
 ·cases he
theorem zX8:qC ["machine","order","value"] p2 (qU zI6):=by walk_at "s"
theorem zL8(F:zK K "slide" "slide" zI6 .none f fd)(M:Mc K C):zQ P w K mg base (CXE P w) 1 f fd p2 (bK K C CH fun o=>o= .slide):=by
 refine F.ok0 zX8 (by walk_at "l") ?_
 walk_at "i"
 obtain⟨H0,d,m,m',o,c,rfl,rfl,rfl,h,hc,rfl,hw,hst,hp,he,hl,q⟩:=h
 refine⟨_,qX (qF (i:=2) zX8.nd rfl oI (xV aq0 aq3 aq4 xW (qT (pv 0) rfl)))
  (qX (zJ (xV aq0 aq3 aq4 xW (qT (pv 0) rfl)))
  (qK (zJ (jT aq0 aq1 aq2 zF (qT (pv 0) rfl) (qQ (pv 2) qZ))))),?_⟩
 walk_at "e"
 simp only[Ms.exec]at he
 split at he
 ·rename_i v u r hs
  cases he
  have hl1:r.length<sizeLine:=by have :=wY hw;rw[hs]at this;exact Nat.lt_of_succ_lt (Nat.lt_of_succ_lt this)
  refine wS M h rfl hs fun y H1 hy h1=>?_
  walk_at "d"
  refine nD M h1 rfl rfl hy fun _ H2 _ h2 hy2=>?_
  exact xS M h2 rfl ⟨_,rfl,jD (v:=v) h2 hy2 hl1 fun H' h'=>q d.st d.th H' h'⟩
 ·cases he
inductive qG9(K:Fg)(C:Addr)(vs:List V)(H:Hp)(Q:VK):Prop
 |mk (H0:Hp) (d:Ad) (m:Ms) (h:Nat) (a_0:vs=[.ref d.m,.int (h:Nat)]) (a_1:d.C=C) (a_2:MS K H0 d m H) (a_3:∀H',jW K H H'->MS K H0 d {m with stk:=Ms.cut m.stk h} H'->Q .non H'):qG9 K C vs H Q
def qGq(K:Fg)(C:Addr):Sp:=fun vs H Q x_0=>qG9 K C vs H Q
theorem zH9:qC ["machine","height"] ["machine","height"] (qU zI4):=by walk_at "s"
theorem zL9(F:zK K "cut_stack" "cut_stack" zI4 .none f fd)(M:Mc K C)(zL:mg "len"=none):zQ P w K mg base (CXE P w) 1 f fd ["machine","height"] (qGq K C):=by
 refine F.ok0 zH9 (by walk_at "l") ?_
 walk_at "i"
 obtain⟨H0,d,m,k,rfl,rfl,h,q⟩:=h
 refine⟨_,qK (wC PassesOwn.never (zZ bD (zV zR (by rfl) zL aq27 (qQ (qT (pv 0) rfl) qZ)) (pv 1) (nomark _)) (qK (zJ (xV aq0 aq3 aq4 xW (qT (pv 0) rfl))))),?_⟩
 walk_at "e"
 refine⟨fun n σ H'=>σ=[some (.ref d.m),some (.int (k:Nat))]/\jW K H H'/\∃s:List AV,n=s.length/\MS K H0 d {m with stk:=s} H'/\Ms.cut s k=Ms.cut m.stk k,⟨_,rfl,fun _ _ h=>h,m.stk,rfl,h,rfl⟩,?_⟩
 rintro n σ H1 ⟨rfl,kt,s,rfl,h1,hc⟩
 obtain⟨vs,hs,hd⟩:=h1.so
 refine⟨_,rfl,d.m,d.C,d.dx,_,_,rfl,h1.mo,M.cl,M.n3,xL _ _,⟨d.st,vs,rfl,.inl (zS.of hs),_,rfl,_,_,rfl,rfl,_,rfl,?_⟩⟩
 have hlen:vs.length=s.length:=vU hd
 refine ite2 (fun z=>?_) (fun z=>?_)
 ·have z':k<s.length:=by have :=of_decide_eq_true z;omega
  match s,z',h1,hc with
  |v::r,z',h1,hc=>
   refine⟨fun σ' H'=>σ'=[some (.ref d.m),some (.int (k:Nat))]/\jW K H H'/\MS K H0 d {m with stk:=r} H'/\Ms.cut r k=Ms.cut m.stk k,fun σ' H'⟨a1,a2,a3,a4⟩=>⟨r.length,by simp,a1,a2,r,rfl,a3,a4⟩,?_⟩
   refine qRj M h1 rfl rfl fun _ H2 kt2 h2=>⟨rfl,fun a xs hx=>kt2 a xs (kt a xs hx),h2,?_⟩
   rw[<-hc,qG7 (by simp at z';omega)]
 ·have z':¬k<s.length:=fun y=>z (by rw[decide_eq_true];omega)
  have e:s=Ms.cut m.stk k:=by rw[<-hc,qSz (by omega)]
  subst e
  exact q H1 kt h1
end
theorem qX2{α:Type}(xs:List α)(u v:α):atI (xs++[u,v]) (-2)=some u:=by
 have hl:(xs++[u,v]).length=xs.length+2:=by simp
 have e:ixN (xs++[u,v]).length (-2)=some xs.length:=by
  unfold ixN
  rw[hl,if_neg (by decide),if_pos (by omega)]
  congr 1
  omega
 unfold atI
 rw[e]
 show(xs++[u,v])[xs.length]? =some u
 simp
section
variable {P:Program} {w:World} {K:Fg} {mg:Str->Option Value} {base:Heap} {C CH f fH:Addr} {fd fdH:FuncData}
inductive qGz(K:Fg)(C:Addr)(CH:Addr)(vs:List V)(H:Hp)(Q:VK):Prop
 |mk (H0:Hp) (d:Ad) (m:Ms) (m':Ms) (k:Nat) (hv:AV) (fx:V) (hx:V) (a_0:vs=[.ref d.m,fx,hx]) (a_1:d.C=C) (a_2:d.CH=CH) (a_3:MS K H0 d m H) (a_4:qY K H (AV.at_ k).dt fx) (a_5:qY K H hv.dt hx) (a_6:m.enter k hv=some m') (a_7:m'.stk.length<=Ms.high) (a_8:∀H',MS K H0 d m' H'->Q .non H'):qGz K C CH vs H Q
def qGj(K:Fg)(C CH:Addr):Sp:=fun vs H Q x_0=>qGz K C CH vs H Q
theorem zX9:qC ["machine","function","handed","held"] ["machine","function","handed"] (qU zI3):=by walk_at "s"
theorem zLq(F:zK K "enter" "enter" zI3 .none f fd)(M:Mc K C)(N:Hc K CH)(mH:Meth K CH "held_by" fH)(GH:zQ P w K mg base (CXE P w) 1 fH fdH ["self","reference"] (cD K CH))(bH:Binds K fdH ["self","reference"] []):zQ P w K mg base (CXE P w) 2 f fd ["machine","function","handed"] (qGj K C CH):=by
 refine F.ok0 zX9 (by walk_at "l") ?_
 walk_at "i"
 obtain⟨H0,d,m,m',k,hv,fx,hx,rfl,rfl,rfl,h,hf,hh,he,hl,q⟩:=h
 refine⟨_,qX (qF (i:=3) zX9.nd rfl oI (kQ (qT (pv 0) rfl) N.cl mH GH hr bH .nil zD (qQ (pv 1) qZ)))
  (qX (jR (pv 0) (qM qP (pv 3) qV) rfl)
  (qX (zJ (jT aq0 PySem.F.slot_list_extend PySem.F.type_list_extend cI (qT (pv 0) rfl) (qQ (iR qV4 (pv 3) (mW qV) mX) qZ)))
  (qX (zH (xI (qM qP (pv 3) qV)) (qK (zJ (jT aq0 aq1 aq2 zF (qT (pv 0) rfl) (qQ (pv 1) qZ)))) zX)
  (qK (zJ (jT aq0 aq1 aq2 zF (qT (pv 0) rfl) (qQ (pv 2) qZ))))))),?_⟩
 walk_at "e"
 unfold Ms.enter at he
 split at he
 ·rename_i sr pl rc kept ht
  split at he
  ·cases he
  rename_i hpl
  cases he
  refine⟨_,rfl,d.m,d.C,d.dx,_,_,rfl,h.mo,M.cl,M.n2,wK _ _,⟨d.hp,d.dh,_,rfl,h.ho,kF _ _ (by decide+kernel),_,rfl,H0,d,m,k,_,fx,rfl,rfl,h,hf,ht,fun u us hu hus=>?_⟩⟩
  walk_at "d"
  obtain⟨u0,us,rfl,h0,hus⟩:=qR hus
  obtain⟨u1,ks,rfl,h1,hks⟩:=qR hus
  cases kC h0
  cases tN h1
  refine⟨_,rfl,u,_,_,_,rfl,rfl,hu,qW (j:=0) rfl,_,rfl,d.m,d.C,d.dx,_,rfl,h.mo,M.cl,M.n5,yC _ _,?_⟩
  rw[show pl=((pl.toNat:Nat):Int) by omega,iU]
  have kt:=jA (K:=K) (gs:=mfl d {m with place:=pl.toNat}) h.mo
  have h2:=h.setM m.base pl.toNat m.st
  have hu2:=kt _ _ hu
  have hks2:=qO.monoT kt hks
  have hf2:=qY.monoT kt hf
  have hh2:=qY.monoT kt hh
  show uD _ _ _ _ (upd H d.m (.ins d.C d.dx (mfl d {m with place:=pl.toNat})))
  generalize upd H d.m (.ins d.C d.dx (mfl d {m with place:=pl.toNat}))=H2 at h2 hu2 hks2 hf2 hh2⊢
  obtain⟨vs,hs,hd⟩:=h2.so
  have hvl:vs.length=m.stk.length:=vU hd
  have hkl:ks.length=kept.length:=by rw[hks.length,aq16]
  have hl':m.stk.length+kept.length+(if rc=true then 1 else 0)+1<=Ms.high:=by
   have e:(hv::((if rc=true then[AV.at_ k]else[])++(kept.reverse++m.stk))).length=m.stk.length+kept.length+(if rc=true then 1 else 0)+1:=by cases rc<;>simp <;>omega
   rw[<-e];exact hl
  refine⟨_,rfl,d.m,d.C,d.dx,_,_,rfl,h2.mo,M.cl,M.n3,xL _ _,⟨.inl ⟨rfl,_,zS.of hs⟩,_,rfl,_,rfl,u,_,rfl,hu2,qG6 _ _ _,fun t ht=>?_⟩⟩
  rw[cut2]
  have g3:Grow H2 (upd H2 t (.tup ks)):=Grow.put ht
  have e3:(upd H2 t (.tup ks)) t=some (.tup ks):=qJ
  have h3:=h2.grow g3
  have hu3:=zB.mono g3.same hu2
  have hks3:=hks2.mono g3.same
  have hf3:=hf2.mono g3.same
  have hh3:=hh2.mono g3.same
  have hs3:=g3.same _ _ hs
  have hd3:=hd.mono g3.same
  generalize upd H2 t (.tup ks)=H3 at g3 e3 h3 hu3 hks3 hf3 hh3 hs3 hd3⊢
  refine⟨d.st,t,vs,ks,rfl,rfl,hs3,zB.of e3,by unfold Ms.high at hl';rw[sizeLine_eq];omega,?_⟩
  have h4:=h3.setS (s:=kept.reverse++m.stk) (vs:=vs++ks) (by rw[List.reverse_append,List.reverse_reverse,aq21];exact qO.append hd3 hks3)
  have kt4:=zP (K:=K) (ys:=vs++ks) hs3
  have hu4:=kt4 _ _ hu3
  have hf4:=qY.monoT kt4 hf3
  have hh4:=qY.monoT kt4 hh3
  show uD _ _ _ _ (upd H3 d.st (.lst (vs++ks)))
  generalize upd H3 d.st (.lst (vs++ks))=H4 at h4 hu4 hf4 hh4⊢
  have fin:∀(s5:List AV)(H5:Hp),s5=(if rc=true then[AV.at_ k]else[])++(kept.reverse++m.stk)->MS K H0 d {m with place:=pl.toNat,stk:=s5} H5->qY K H5 hv.dt hx->qK4 (tBM K "list" yZ (lK K (jV 0) "stack") (jK (jV 2) xE)) {nx:=fun _ H'=>Q .non H',rt:=Q} [some (.ref d.m),some fx,some hx,some (.ref u)] H5:=by
   intro s5 H5 e5 h5 hh5
   refine xS M h5 rfl ⟨_,rfl,jD (v:=hv) h5 hh5 ?_ fun H' h'=>q H' ?_⟩
   ·show s5.length<sizeLine
    have :s5.length+1=(hv::((if rc=true then[AV.at_ k]else[])++(kept.reverse++m.stk))).length:=by rw[e5];rfl
    exact zC5 (by have :=hl;simp only at *;omega)
   ·subst e5;exact h'
  refine⟨_,rfl,u,_,_,_,rfl,rfl,hu4,qW (j:=1) rfl,rc,rfl,?_⟩
  cases rc with
  |true=>
   refine jC (xS M h4 rfl ⟨_,rfl,?_⟩)
   obtain⟨vs4,hs4,hd4⟩:=h4.so
   refine⟨d.st,vs4,fx,rfl,rfl,hs4,by rw[vU hd4];show(kept.reverse++m.stk).length<_;unfold Ms.high at hl';rw[sizeLine_eq];simp at hl'⊢;omega,?_⟩
   exact fin _ _ rfl (h4.setS (nN (v:=.at_ k) hd4 hf4)) (qY.monoT (zP hs4) hh4)
  |false=>exact jJ (fin _ _ rfl h4 hh4)
 ·cases he
structure GlK(mg:Str->Option Value):Prop where
 len:mg "len"=none
 most:∃t,mg "MOST_PENDING"=some (.int 40 t)
theorem zHq:qC p2 p2 (qU zI2):=by walk_at "s"
theorem zLz(F:zK K "call" "call" zI2 .none f fd)(M:Mc K C)(G:GlK mg)(GE:Kn P w K mg base 2 "enter" ["machine","function","handed"] (qGj K C CH)):zQ P w K mg base (CXE P w) 3 f fd p2 (bK K C CH fun o=>o= .call):=by
 refine F.ok0 zHq (by walk_at "l") ?_
 walk_at "i"
 obtain⟨H0,d,m,m',o,c,rfl,rfl,rfl,h,hc,rfl,hw,hst,hp,he,hl,q⟩:=h
 obtain⟨tm,mM⟩:=G.most
 refine⟨_,qX (zH (zZ qE9 (zV zR (by rfl) G.len aq27 (qQ (qT (pv 0) rfl) qZ)) (zM (v:=.int 40) (by rfl) mM ⟨tm,rfl⟩) (nomark _)) (qX (jR (pv 0) qI rfl) (qK qD9)) zX)
  (qX (zJ (jT aq0 aq1 aq2 zF (qT (pv 0) rfl) (qQ (zW (qQ (qT (pv 0) rfl) (qQ (qT (pv 0) rfl) qZ))) qZ)))
  (qX (jR (pv 0) (zV zR (by rfl) G.len aq27 (qQ (qT (pv 0) rfl) qZ)) rfl)
  (qK (zJ (zO GE hr (qQ (pv 0) (qQ (qM zY (qT (pv 0) rfl) (lO uT qV)) (qQ (qM zY (qT (pv 0) rfl) (lO uT qV)) qZ)))))))),?_⟩
 walk_at "e"
 obtain⟨ps,hps,hpd⟩:=h.po
 have hpl:ps.length=m.pend.length:=by rw[hpd.length,aq16,List.length_reverse]
 refine⟨_,rfl,d.m,d.C,d.dx,_,_,rfl,h.mo,M.cl,M.n6,vF _ _,⟨d.pd,ps,rfl,.inl (zS.of hps),_,_,rfl,rfl,_,rfl,?_⟩⟩
 simp only[Ms.exec]at he
 split at he
 ·rename_i h40
  cases he
  rw[decide_eq_true (by omega)]
  exact jC (cN M h rfl .tooDeep fun H' h'=>q d.st d.th H' h')
 ·rename_i h40
  rw[decide_eq_false (by omega)]
  split at he
  ·rename_i hd k r hs
   refine jJ (⟨_,rfl,d.m,d.C,d.dx,_,_,rfl,h.mo,M.cl,M.n6,vF _ _,⟨.inl ⟨rfl,_,zS.of hps⟩,⟨_,rfl,d.m,d.C,d.dx,_,_,rfl,h.mo,M.cl,M.n5,uL _ _,(⟨_,rfl,d.m,d.C,d.dx,_,_,rfl,h.mo,M.cl,M.n4,nM _ _,⟨zl2,fun t ht=>?_⟩⟩)⟩⟩⟩)
   have g1:Grow H (upd H t (.tup [.int (m.place:Nat),.int (m.base:Nat)])):=Grow.put ht
   have e1:(upd H t (.tup [.int (m.place:Nat),.int (m.base:Nat)])) t=some (.tup [.int (m.place:Nat),.int (m.base:Nat)]):=qJ
   have h1:=h.grow g1
   have hps1:=g1.same _ _ hps
   have hpd1:=hpd.mono g1.same
   generalize upd H t (.tup [.int (m.place:Nat),.int (m.base:Nat)])=H1 at g1 e1 h1 hps1 hpd1⊢
   refine⟨d.pd,ps,_,rfl,rfl,hps1,by rw[sizeLine_eq];omega,?_⟩
   have h2:=h1.setP (s:=(m.place,m.base)::m.pend) (vs:=ps++[.ref t]) (by
    rw[List.reverse_cons,aq21]
    exact qO.append hpd1 (qG (wX (zB.of e1) (qG (by rw[qY]) (qG (by rw[qY]) qA))) qA))
   show uD _ _ _ _ (upd H1 d.pd (.lst (ps++[.ref t])))
   generalize upd H1 d.pd (.lst (ps++[.ref t]))=H2 at h2⊢
   obtain⟨vs,hsv,hdv⟩:=h2.so
   refine⟨_,rfl,d.m,d.C,d.dx,_,_,rfl,h2.mo,M.cl,M.n3,xL _ _,⟨d.st,vs,rfl,.inl (zS.of hsv),_,rfl,d.m,d.C,d.dx,_,rfl,h2.mo,M.cl,M.n4,yC _ _,?_⟩⟩
   rw[vU hdv,qLz]
   have h3:=h2.setM m.stk.length m.place m.st
   show Ends.nx _ _ (upd H2 d.m (.ins d.C d.dx (mfl d {m with pend:=(m.place,m.base)::m.pend,base:=m.stk.length})))
   generalize upd H2 d.m (.ins d.C d.dx (mfl d {m with pend:=(m.place,m.base)::m.pend,base:=m.stk.length}))=H3 at h3⊢
   obtain⟨vs3,hs3,hd3⟩:=h3.so
   have hd3':=hd3
   rw[show({m with pend:=(m.place,m.base)::m.pend,base:=m.stk.length,place:=m.place,st:=m.st}:Ms).stk=hd::AV.at_ k::r from hs]at hd3'
   obtain⟨ws,hx,rfl,hhx,hw1⟩:=yH hd3'
   obtain⟨ws2,fx,rfl,hfx,hw2⟩:=yH hw1
   refine⟨_,rfl,⟨_,rfl,d.m,d.C,d.dx,_,_,rfl,h3.mo,M.cl,M.n3,xL _ _,⟨_,rfl,d.st,_,_,fx,rfl,rfl,zS.of hs3,by rw[List.append_assoc];exact qX2 ws2 fx hx,⟨_,rfl,d.m,d.C,d.dx,_,_,rfl,h3.mo,M.cl,M.n3,xL _ _,⟨_,rfl,d.st,_,_,hx,rfl,rfl,zS.of hs3,yE _ hx,?_⟩⟩⟩⟩⟩
   exact⟨H0,d,_,m',k,hd,fx,hx,rfl,rfl,rfl,h3,hfx,hhx,he,hl,fun H' h'=>q d.st d.th H' h'⟩
  ·cases he
theorem nS:qC ["machine","order","handed","function"] p2 (qU rR):=by walk_at "s"
theorem qM0(F:zK K "last_call" "last_call" rR .none f fd)(M:Mc K C)(GC:Kn P w K mg base 1 "cut_stack" ["machine","height"] (qGq K C))(GE:Kn P w K mg base 2 "enter" ["machine","function","handed"] (qGj K C CH)):zQ P w K mg base (CXE P w) 3 f fd p2 (bK K C CH fun o=>o= .last):=by
 refine F.ok0 nS (by walk_at "l") ?_
 walk_at "i"
 obtain⟨H0,d,m,m',o,c,rfl,rfl,rfl,h,hc,rfl,hw,hst,hp,he,hl,q⟩:=h
 refine⟨_,qX (qF (i:=2) nS.nd rfl oI (xV aq0 aq3 aq4 xW (qT (pv 0) rfl)))
  (qX (qF (i:=3) nS.nd rfl oI (xV aq0 aq3 aq4 xW (qT (pv 0) rfl)))
  (qX (zJ (zO GC (hr.mono (by omega)) (qQ (pv 0) (qQ (qT (pv 0) rfl) qZ))))
  (qK (zJ (zO GE hr (qQ (pv 0) (qQ (pv 3) (qQ (pv 2) qZ)))))))),?_⟩
 walk_at "e"
 simp only[Ms.exec]at he
 split at he
 ·rename_i hd k r hs
  refine wS M h rfl hs fun y H1 hy h1=>?_
  walk_at "d"
  refine nD M h1 rfl rfl hy fun z H2 hz h2 hy2=>?_
  walk_at "d"
  refine⟨_,rfl,⟨_,rfl,d.m,d.C,d.dx,_,_,rfl,h2.mo,M.cl,M.n4,nM _ _,⟨H0,d,_,m.base,rfl,rfl,h2,fun H3 kt3 h3=>?_⟩⟩⟩
  exact⟨_,rfl,_,rfl,_,rfl,H0,d,_,m',k,hd,z,y,rfl,rfl,rfl,h3,qY.monoT kt3 hz,qY.monoT kt3 hy2,he,hl,fun H' h'=>q d.st d.th H' h'⟩
 ·cases he
theorem sV:qC ["machine","order","value","went_on"] p2 (qU qL4):=by walk_at "s"
theorem qT1(F:zK K "tell" "tell" qL4 .none f fd)(M:Mc K C)(GC:Kn P w K mg base 1 "cut_stack" ["machine","height"] (qGq K C)):zQ P w K mg base (CXE P w) 2 f fd p2 (bK K C CH fun o=>o= .tell):=by
 refine F.ok0 sV (by walk_at "l") ?_
 walk_at "i"
 obtain⟨H0,d,m,m',o,c,rfl,rfl,rfl,h,hc,rfl,hw,hst,hp,he,hl,q⟩:=h
 refine⟨_,qX (qF (i:=2) sV.nd rfl oI (xV aq0 aq3 aq4 xW (qT (pv 0) rfl)))
  (qX (zH (yT (qT (pv 0) rfl) (fun _=>rfl))
   (qX (zJ (zO GC hr (qQ (pv 0) (qQ (zU vT (qT (pv 0) rfl) qV) qZ))))
   (qX (qF (i:=3) sV.nd rfl oI (xV aq0 aq3 aq4 xW (qT (pv 0) rfl)))
   (qX (jR (pv 0) (qM qP (pv 3) qV) rfl)
   (qK (jR (pv 0) (qM qP (pv 3) qV) rfl)))))
   (qX (zJ (zO GC hr (qQ (pv 0) (qQ qV qZ)))) (qK (jR (pv 0) qI rfl))))
  (qK (zJ (jT aq0 aq1 aq2 zF (qT (pv 0) rfl) (qQ (pv 2) qZ))))),?_⟩
 walk_at "e"
 simp only[Ms.exec]at he
 split at he
 ·rename_i v r hs
  have hl1:r.length<sizeLine:=by have :=wY hw;rw[hs]at this;exact Nat.lt_of_succ_lt this
  refine wS M h rfl hs fun y H1 hy h1=>?_
  walk_at "d"
  obtain⟨ps,hps,hpd⟩:=h1.po
  split at he
  ·rename_i pl bs qq hpe
   split at he
   ·rename_i hb2
    cases he
    have hpd':=hpd
    rw[show({m with stk:=r}:Ms).pend=(pl,bs)::qq from hpe,List.reverse_cons,aq21]at hpd'
    have hne:ps.isEmpty=false:=by
     have :=hpd'.length
     cases ps with
     |nil=>simp at this
     |cons _ _=>rfl
    refine⟨_,rfl,d.m,d.C,d.dx,_,_,rfl,h1.mo,M.cl,M.n6,vF _ _,⟨true,.inl ⟨_,zS.of hps,by rw[hne];rfl⟩,jC ?_⟩⟩
    refine⟨_,rfl,⟨_,rfl,d.m,d.C,d.dx,_,_,rfl,h1.mo,M.cl,M.n4,nM _ _,⟨_,_,rfl,rfl,H0,d,_,m.base-2,?_,rfl,h1,fun H2 kt2 h2=>?_⟩⟩⟩
    ·show[V.ref d.m,V.int _]=[V.ref d.m,V.int _]
     congr 3
     show((m.base:Nat):Int)-2=_
     omega
    have hy2:=qY.monoT kt2 hy
    obtain⟨ps2,hps2,hpd2⟩:=h2.po
    rw[show({m with stk:=Ms.cut r (m.base-2)}:Ms).pend=(pl,bs)::qq from hpe,List.reverse_cons,aq21]at hpd2
    obtain⟨qs,qx,rfl,hqx,hqs⟩:=uG hpd2
    refine⟨_,rfl,d.m,d.C,d.dx,_,_,rfl,h2.mo,M.cl,M.n6,vF _ _,⟨.inl ⟨rfl,_,zS.of hps2⟩,d.pd,_,qx,rfl,rfl,hps2,by simp,?_⟩⟩
    rw[List.dropLast_concat]
    have kt3:=zP (K:=K) (ys:=qs) hps2
    have h3:=h2.setP (s:=qq) (vs:=qs) hqs
    have hy3:=qY.monoT kt3 hy2
    have hq3:=qY.monoT kt3 hqx
    walk_at "d"
    show uD _ _ _ _ (upd H2 d.pd (.lst qs))
    generalize upd H2 d.pd (.lst qs)=H3 at h3 hy3 hq3⊢
    obtain⟨qa,qv,rfl,hqa,hqv⟩:=vW hq3
    obtain⟨u0,us,rfl,hu0,hus⟩:=qR hqv
    obtain⟨u1,us,rfl,hu1,hus⟩:=qR hus
    cases zA hus
    cases kC hu0
    cases kC hu1
    refine⟨_,rfl,qa,_,_,_,rfl,rfl,hqa,qW (j:=0) rfl,_,rfl,d.m,d.C,d.dx,_,rfl,h3.mo,M.cl,M.n5,yC _ _,?_⟩
    rw[iU]
    have kt4:=jA (K:=K) (gs:=mfl d {m with stk:=Ms.cut r (m.base-2),pend:=qq,place:=pl}) h3.mo
    have h4:=h3.setM m.base pl m.st
    have hy4:=qY.monoT kt4 hy3
    have hqa4:=kt4 _ _ hqa
    show Ends.nx _ _ (upd H3 d.m (.ins d.C d.dx (mfl d {m with stk:=Ms.cut r (m.base-2),pend:=qq,place:=pl})))
    generalize upd H3 d.m (.ins d.C d.dx (mfl d {m with stk:=Ms.cut r (m.base-2),pend:=qq,place:=pl}))=H4 at h4 hy4 hqa4⊢
    refine⟨_,rfl,qa,_,_,_,rfl,rfl,hqa4,qW (j:=1) rfl,_,rfl,d.m,d.C,d.dx,_,rfl,h4.mo,M.cl,M.n4,yC _ _,?_⟩
    rw[qLz]
    have kt5:=jA (K:=K) (gs:=mfl d {m with stk:=Ms.cut r (m.base-2),pend:=qq,place:=pl,base:=bs}) h4.mo
    have h5:=h4.setM bs pl m.st
    have hy5:=qY.monoT kt5 hy4
    show Ends.nx _ _ (upd H4 d.m (.ins d.C d.dx (mfl d {m with stk:=Ms.cut r (m.base-2),pend:=qq,place:=pl,base:=bs})))
    generalize upd H4 d.m (.ins d.C d.dx (mfl d {m with stk:=Ms.cut r (m.base-2),pend:=qq,place:=pl,base:=bs}))=H5 at h5 hy5⊢
    refine xS M h5 rfl ⟨_,rfl,jD (v:=v) h5 hy5 ?_ fun H' h'=>q d.st d.th H' h'⟩
    show(Ms.cut r (m.base-2)).length<_
    unfold Ms.cut;rw[List.length_drop];omega
   ·cases he
  ·rename_i hpe
   cases he
   have hps0:ps=[]:=by
    have :=hpd
    rw[show({m with stk:=r}:Ms).pend=[]from hpe]at this
    exact zA this
   subst hps0
   refine⟨_,rfl,d.m,d.C,d.dx,_,_,rfl,h1.mo,M.cl,M.n6,vF _ _,⟨false,.inl ⟨_,zS.of hps,rfl⟩,jJ ?_⟩⟩
   refine⟨_,rfl,H0,d,_,0,rfl,rfl,h1,fun H2 kt2 h2=>?_⟩
   have hy2:=qY.monoT kt2 hy
   refine qJj M h2 rfl .done hy2 fun H3 h3 hy3=>?_
   refine xS M h3 rfl ⟨_,rfl,jD (v:=v) h3 hy3 ?_ fun H' h'=>q d.st d.th H' ?_⟩
   ·show(Ms.cut r 0).length<_
    unfold Ms.cut;rw[List.length_drop];omega
   ·have e:Ms.cut r 0=[]:=by unfold Ms.cut;simp
    rw[e]at h'
    exact h'
 ·cases he
end
theorem nA(x:Sd):decide (V.str x.str=V.str "running")=decide (x= .running):=by cases x<;>decide+kernel
theorem jG:∀x∈(["put","nil","get","cons","pair","head","tail","first","second","empty","not","plus","minus","times","over","rest","less","same","fn","rec","call","last call","unless"]:List Str),pH (.str x) [.str "tell",.str "skip",.str "slide"]=false:=by decide+kernel
theorem nE:∀x∈(["tell","skip","slide"]:List Str),pH (.str x) [.str "tell",.str "skip",.str "slide"]=true:=by decide+kernel
theorem qX3{o:AOrd}(h:o.ok):pH (.str o.wd) [.str "tell",.str "skip",.str "slide"]=Ms.ending o:=by
 cases o with
 |take x i=>
  have h':(x,i)∈([("head",0),("tail",1),("first",0),("second",1)]:List (Str×Nat)):=h
  simp only[List.mem_cons,List.not_mem_nil,or_false,Prod.mk.injEq]at h'
  rcases h' with⟨rfl,_⟩|⟨rfl,_⟩|⟨rfl,_⟩|⟨rfl,_⟩
  ·exact jG "head" (by decide+kernel)
  ·exact jG "tail" (by decide+kernel)
  ·exact jG "first" (by decide+kernel)
  ·exact jG "second" (by decide+kernel)
 |make s=>
  cases s
  ·exact jG "cons" (by decide+kernel)
  ·exact jG "pair" (by decide+kernel)
  ·exact jG "cons" (by decide+kernel)
 |sum s=>
  cases s
  ·exact jG "plus" (by decide+kernel)
  ·exact jG "minus" (by decide+kernel)
  ·exact jG "times" (by decide+kernel)
  ·exact jG "over" (by decide+kernel)
  ·exact jG "rest" (by decide+kernel)
  ·exact jG "less" (by decide+kernel)
  ·exact jG "same" (by decide+kernel)
 |func rc k l=>
  cases rc
  ·exact jG "fn" (by decide+kernel)
  ·exact jG "rec" (by decide+kernel)
 |tell=>exact nE "tell" (by decide+kernel)
 |skip k=>exact nE "skip" (by decide+kernel)
 |slide=>exact nE "slide" (by decide+kernel)
 |num n=>exact jG "put" (by decide+kernel)
 |tru n=>exact jG "put" (by decide+kernel)
 |nil=>exact jG "nil" (by decide+kernel)
 |get n=>exact jG "get" (by decide+kernel)
 |empty=>exact jG "empty" (by decide+kernel)
 |not=>exact jG "not" (by decide+kernel)
 |call=>exact jG "call" (by decide+kernel)
 |last=>exact jG "last call" (by decide+kernel)
 |«unless» n=>exact jG "unless" (by decide+kernel)
section
variable {P:Program} {w:World} {K:Fg} {mg:Str->Option Value} {base:Heap} {C CH f fF fC fM:Addr} {fd fdF fdC fdM:FuncData}
inductive qM1(K:Fg)(C:Addr)(CH:Addr)(vs:List V)(H:Hp)(Q:VK):Prop
 |mk (H0:Hp) (d:Ad) (m:Ms) (m':Ms) (a_0:vs=[.ref d.m]) (a_1:d.C=C) (a_2:d.CH=CH) (a_3:MS K H0 d m H) (a_4:m.Wf) (a_5:m.collect=some m') (a_6:∀a b H',jW K H H'->MS K H0 (d.mv a b) m' H'->Q (.int (m'.things.length:Nat)) H'):qM1 K C CH vs H Q
def qM2(K:Fg)(C CH:Addr):Sp:=fun vs H Q x_0=>qM1 K C CH vs H Q
inductive aB(K:Fg)(C:Addr)(CH:Addr)(vs:List V)(H:Hp)(Q:VK):Prop
 |mk (H0:Hp) (d:Ad) (m:Ms) (m':Ms) (a_0:vs=[.ref d.m]) (a_1:d.C=C) (a_2:d.CH=CH) (a_3:MS K H0 d m H) (a_4:m.Wf) (a_5:m.st= .running) (a_6:m.roomy=some m') (a_7:∀a b H',jW K H H'->MS K H0 (d.mv a b) m' H'->Q (.bl (decide (m'.st= .running))) H'):aB K C CH vs H Q
def sW(K:Fg)(C CH:Addr):Sp:=fun vs H Q x_0=>aB K C CH vs H Q
theorem zLj:qC ["machine"] ["machine"] (qU qL3):=by walk_at "s"
theorem qT2{k:Nat}(F:zK K "has_room" "has_room" qL3 .none f fd)(M:Mc K C)(N:Hc K CH)(mF:Meth K CH "is_full" fF)(GF:zQ P w K mg base (CXE P w) 1 fF fdF ["self"] (qX1 K CH fun m=>.bl (decide (m.room<=m.things.length))))(bF:Binds K fdF ["self"] [])
  (mC:Meth K C "collect" fC)(GC:zQ P w K mg base (CXE P w) (k+1) fC fdC ["self"] (qM2 K C CH))(bC:Binds K fdC ["self"] []):zQ P w K mg base (CXE P w) (k+2) f fd ["machine"] (sW K C CH):=by
 refine F.ok0 zLj (by walk_at "l") ?_
 walk_at "i"
 obtain⟨H0,d,m,m',rfl,rfl,rfl,h,hw,hst,he,q⟩:=h
 have h1r:=hr.mono (show 1<=k+1 by omega)
 refine⟨_,qX (zH (xI (vN (qT (pv 0) rfl) N.cl mF GF h1r bF .nil zD)) (qK (zJ (vN (pv 0) M.cl mC GC hr bC .nil zD))) zX)
  (qX (zH (xI (vN (qT (pv 0) rfl) N.cl mF GF h1r bF .nil zD)) (qK (jR (pv 0) qI rfl)) zX)
  (qK (qB (jI jS (qT (pv 0) rfl) qI (nomark _))))),?_⟩
 walk_at "e"
 have rest:∀(a b:Addr)(m1:Ms)(H1:Hp),jW K H H1->MS K H0 (d.mv a b) m1 H1->m'=(if m1.room<=m1.things.length then {m1 with st:=.noRoom}else m1)->m1.st= .running->
   uD (qK5 (tB (sT d.CH "is_full" (qX1 K d.CH fun m=>.bl (decide (m.room<=m.things.length))) [] E0 (lK K (jV 0) "heap") xE)) (qV0 K (jV 0) (tC (.str "no room")) "standing") sN) (qQ8 (sD rEq (lK K (jV 0) "standing") (tC (.str "running")))) {nx:=fun _ H'=>Q .non H',rt:=Q} [some (.ref d.m)] H1:=by
  intro a b m1 H1 kt h1 e1 hst1
  have M1:Mc K (d.mv a b).C:=M
  refine⟨_,rfl,(d.mv a b).m,(d.mv a b).C,(d.mv a b).dx,_,_,rfl,h1.mo,M.cl,M.n2,wK _ _,⟨d.hp,d.dh,_,rfl,h1.ho,kF _ _ (by decide+kernel),H0,d.mv a b,m1,rfl,rfl,h1,_,rfl,?_⟩⟩
  by_cases z:m1.room<=m1.things.length
  ·rw[decide_eq_true z]
   rw[if_pos z]at e1
   refine jC (qX0 (d:=d.mv a b) M1 h1 rfl .noRoom fun H2 kt2 h2=>?_)
   refine⟨_,rfl,(d.mv a b).m,(d.mv a b).C,(d.mv a b).dx,_,_,rfl,h2.mo,M.cl,M.n7,xR _ _,⟨rfl,?_⟩⟩
   rw[nA]
   have :=q a b H2 (fun x y hx=>kt2 x y (kt x y hx)) (by rw[e1];exact h2)
   rw[e1]at this
   exact this
  ·rw[decide_eq_false z]
   rw[if_neg z]at e1
   refine jJ (⟨_,rfl,(d.mv a b).m,(d.mv a b).C,(d.mv a b).dx,_,_,rfl,h1.mo,M.cl,M.n7,xR _ _,⟨rfl,?_⟩⟩)
   rw[nA]
   have :=q a b H1 kt (by rw[e1];exact h1)
   rw[e1]at this
   exact this
 refine⟨_,rfl,d.m,d.C,d.dx,_,_,rfl,h.mo,M.cl,M.n2,wK _ _,⟨d.hp,d.dh,_,rfl,h.ho,kF _ _ (by decide+kernel),H0,d,m,rfl,rfl,h,_,rfl,?_⟩⟩
 unfold Ms.roomy at he
 by_cases z:m.room<=m.things.length
 ·rw[decide_eq_true z]
  rw[if_pos z]at he
  obtain⟨m1,e1,e2⟩:=aq6.mp he
  obtain⟨_,l1,_,_,_,_,_,hs1⟩:=Ms.collect_ok hw.g e1
  refine jC ⟨_,rfl,d.m,d.dx,_,rfl,h.mo,zIz _ _ (by decide+kernel),H0,d,m,m1,rfl,rfl,rfl,h,hw,e1,fun a b H1 kt h1=>?_⟩
  exact rest a b m1 H1 kt h1 e2.symm (hs1.trans hst)
 ·rw[decide_eq_false z]
  rw[if_neg z]at he
  cases he
  exact jJ (rest d.st d.th m H (fun _ _ h=>h) h (by rw[if_neg z]) hst)
inductive qM3(K:Fg)(C:Addr)(CH:Addr)(vs:List V)(H:Hp)(Q:VK):Prop
 |mk (H0:Hp) (d:Ad) (m:Ms) (m':Ms) (x:Srt) (a_0:vs=[.ref d.m,.str x.str]) (a_1:d.C=C) (a_2:d.CH=CH) (a_3:MS K H0 d m H) (a_4:m.Wf) (a_5:m.st= .running) (a_6:m.exec (.make x)=some m') (a_7:∀a b H',MS K H0 (d.mv a b) m' H'->Q .non H'):qM3 K C CH vs H Q
def qM4(K:Fg)(C CH:Addr):Sp:=fun vs H Q x_0=>qM3 K C CH vs H Q
theorem hV{m m':Ms}(h:m.Wg)(e:m.roomy=some m')(hs:m'.st= .running):m'.things.length<m'.room:=by
 unfold Ms.roomy at e
 split at e
 ·obtain⟨m1,e1,e⟩:=aq6.mp e
  split at e
  ·subst e;cases hs
  ·subst e;omega
 ·cases e;omega
theorem qM5:qC ["machine","sort","second","first"] ["machine","sort"] (qU zI0):=by walk_at "s"
theorem zG0{k:Nat}(F:zK K "make_of_two" "make_of_two" zI0 .none f fd)(M:Mc K C)(N:Hc K CH)(GR:Kn P w K mg base (k+2) "has_room" ["machine"] (sW K C CH))(mM:Meth K CH "make" fM)(GM:zQ P w K mg base (CXE P w) 2 fM fdM ["self","sort","held"] (sX K CH))(bM:Binds K fdM ["self","sort","held"] []):zQ P w K mg base (CXE P w) (k+3) f fd ["machine","sort"] (qM4 K C CH):=by
 refine F.ok0 qM5 (by walk_at "l") ?_
 walk_at "i"
 obtain⟨H0,d,m,m',x,rfl,rfl,rfl,h,hw,hst,he,q⟩:=h
 have h2r:=hr.mono (show 2<=k+2 by omega)
 refine⟨_,qK (zH (xI (zO GR hr (qQ (pv 0) qZ)))
  (qX (qF (i:=2) qM5.nd rfl oI (xV aq0 aq3 aq4 xW (qT (pv 0) rfl)))
  (qX (qF (i:=3) qM5.nd rfl oI (xV aq0 aq3 aq4 xW (qT (pv 0) rfl)))
  (qK (zJ (jT aq0 aq1 aq2 zF (qT (pv 0) rfl) (qQ (kQ (qT (pv 0) rfl) N.cl mM GM h2r bM .nil zD (qQ (pv 1) (qQ (jQ (qQ (pv 3) (qQ (pv 2) qZ))) qZ))) qZ)))))) zX),?_⟩
 walk_at "e"
 obtain⟨m1,e1,he⟩:=aq5.mp he
 obtain⟨_,lk,hl1,_⟩:=Ms.roomy_ok hw.g e1
 refine⟨_,rfl,H0,d,m,m1,rfl,rfl,rfl,h,hw,hst,e1,fun a b H1 kt h1=>⟨_,rfl,?_⟩⟩
 have M1:Mc K (d.mv a b).C:=M
 by_cases z:m1.st= .running
 ·rw[if_pos z]at he
  rw[decide_eq_true z]
  split at he
  ·rename_i y2 y1 r hs
   cases he
   have hlt:=hV hw.g e1 z
   have hl2:r.length<sizeLine:=by have :=wY hw;rw[<-hl1,hs]at this;exact Nat.lt_of_succ_lt (Nat.lt_of_succ_lt this)
   refine jC (wS (d:=d.mv a b) M1 h1 rfl hs fun u2 H2 hu2 h2=>?_)
   walk_at "d"
   refine nD (d:=d.mv a b) M1 h2 rfl rfl hu2 fun u1 H3 hu1 h3 hu2=>?_
   walk_at "d"
   refine xS (d:=d.mv a b) M1 h3 rfl (⟨_,rfl,(d.mv a b).m,(d.mv a b).C,(d.mv a b).dx,_,_,rfl,h3.mo,M.cl,M.n2,wK _ _,⟨d.hp,d.dh,_,rfl,h3.ho,kF _ _ (by decide+kernel),_,rfl,_,rfl,_,rfl,zl2,fun l hl=>?_⟩⟩)
   have g4:Grow H3 (upd H3 l (.lst [u1,u2])):=Grow.put hl
   have e4:(upd H3 l (.lst [u1,u2])) l=some (.lst [u1,u2]):=qJ
   have h4:=h3.grow g4
   have hu1':=hu1.mono g4.same
   have hu2':=hu2.mono g4.same
   generalize upd H3 l (.lst [u1,u2])=H4 at g4 e4 h4 hu1' hu2'⊢
   refine⟨H0,d.mv a b,_,x,l,[y1,y2],_,rfl,rfl,h4,e4,qG hu1' (qG hu2' qA),hlt,by show m1.room<=1000;rw[lk.room];exact hw.rm,fun u H5 _ h5 hu=>?_⟩
   exact jD (d:=d.mv a b) (v:=.at_ m1.things.length) h5 hu hl2 fun H' h'=>q a b H' h'
  ·cases he
 ·rw[if_neg z]at he
  cases he
  rw[decide_eq_false z]
  exact jJ (q a b H1 h1)
theorem zHz:qC p2 p2 (qU zOz):=by walk_at "s"
theorem zHj:qC p2 p2 (qU zOj):=by walk_at "s"
theorem zG1{k:Nat}(F:zK K "make_cell" "make_cell" zOz .none f fd)(GT:Kn P w K mg base (k+3) "make_of_two" ["machine","sort"] (qM4 K C CH)):zQ P w K mg base (CXE P w) (k+4) f fd p2 (bK K C CH fun o=>o= .make .cell):=by
 refine F.ok0 zHz (by walk_at "l") ?_
 walk_at "i"
 obtain⟨H0,d,m,m',o,c,rfl,rfl,rfl,h,hc,rfl,hw,hst,hp,he,hl,q⟩:=h
 refine⟨_,qK (zJ (zO GT hr (qQ (pv 0) (qQ qI qZ)))),?_⟩
 walk_at "e"
 exact⟨_,rfl,H0,d,m,m',.cell,rfl,rfl,rfl,h,hw,hst,he,q⟩
theorem zG2{k:Nat}(F:zK K "make_pair" "make_pair" zOj .none f fd)(GT:Kn P w K mg base (k+3) "make_of_two" ["machine","sort"] (qM4 K C CH)):zQ P w K mg base (CXE P w) (k+4) f fd p2 (bK K C CH fun o=>o= .make .pair):=by
 refine F.ok0 zHj (by walk_at "l") ?_
 walk_at "i"
 obtain⟨H0,d,m,m',o,c,rfl,rfl,rfl,h,hc,rfl,hw,hst,hp,he,hl,q⟩:=h
 refine⟨_,qK (zJ (zO GT hr (qQ (pv 0) (qQ qI qZ)))),?_⟩
 walk_at "e"
 exact⟨_,rfl,H0,d,m,m',.pair,rfl,rfl,rfl,h,hw,hst,he,q⟩
end
section
variable {P:Program} {w:World} {K:Fg} {mg:Str->Option Value} {base:Heap} {C CH f fM fO fS:Addr} {fd fdM fdO fdS:FuncData}
theorem zG3(rc:Bool):decide (V.str (if rc then"rec" else"fn")=V.str "rec")=rc:=by cases rc<;>decide+kernel
theorem cF{α β:Type}{g:α->Option β}:∀{l:List α}{r:List β},l.mapM g=some r->∀{i:Nat}{a:α},l[i]? =some a->∃b,r[i]? =some b/\g a=some b
 |[],r,h,i,a,ha=>by simp at ha
 |x::l,r,h,i,a,ha=>by
  rw[List.mapM_cons]at h
  obtain⟨y,hy,h⟩:=aq5.mp h
  obtain⟨ys,hys,h⟩:=aq5.mp h
  have :r=y::ys:=(Option.some.inj h).symm
  subst this
  cases i with
  |zero=>
   have e:x=a:=by simpa using ha
   subst e
   exact⟨y,rfl,hy⟩
  |succ i=>simpa using cF hys (i:=i) (a:=a) (by simpa using ha)
theorem zXq:qC ["machine","order","kept"] p2 (qU zI1):=by walk_at "s"
theorem zG4{k:Nat}(F:zK K "make_function" "make_function" zI1 .none f fd)(M:Mc K C)(N:Hc K CH)(GR:Kn P w K mg base (k+2) "has_room" ["machine"] (sW K C CH))(GI:Kn P w K mg base 1 "in_slot" ["machine","slot"] (aL K C))(mM:Meth K CH "make" fM)(GM:zQ P w K mg base (CXE P w) 2 fM fdM ["self","sort","held"] (sX K CH))(bM:Binds K fdM ["self","sort","held"] []):zQ P w K mg base (CXE P w) (k+3) f fd p2 (bK K C CH fun o=>∃rc ks n,o= .func rc ks n/\ks.length<=50000):=by
 refine F.ok0 zXq (by walk_at "l") ?_
 walk_at "i"
 obtain⟨H0,d,m,m',o,c,rfl,rfl,rfl,h,hc,⟨rc,ks,n,rfl,hsz⟩,hw,hst,hp,he,hl,q⟩:=h
 have h2r:=hr.mono (show 2<=k+2 by omega)
 have ndb:((["slot"]:List Str)++(["machine"]:List Str)).Nodup:=by decide+kernel
 obtain⟨ca,us,rfl,hca,hus⟩:=wT hc
 obtain⟨u0,us,rfl,hu0,hus⟩:=qR hus
 obtain⟨u1,us,rfl,hu1,hus⟩:=qR hus
 cases zA hus
 cases kC hu1
 obtain⟨ka,kv,rfl,hka,hkv⟩:=vW hu0
 refine⟨_,qK (zH (xI (zO GR hr (qQ (pv 0) qZ)))
  (qX (lE (i:=2) zXq.nd rfl oI (tM (own:=["slot"]) (y:="machine") (i:=0) (by rfl) (by decide+kernel) (by rfl) (by decide+kernel) (by rfl) (by decide+kernel) (by rfl) (.inl (by rfl)) (by rfl) (by decide+kernel)) rfl (zV8 (qM qP (pv 1) qV))
   (fun C s H fp pins=>zO GI (hr.mono (by omega)) (qQ (pv 1) (qQ (pv 0) qZ))) (fun C s H fp pins=>jO (i:=0) ndb rfl oI (Or.inr (by rfl))) (by rfl) oI)
  (qX (zJ (jT aq0 aq1 aq2 zF (qT (pv 0) rfl) (qQ (kQ (qT (pv 0) rfl) N.cl mM GM h2r bM .nil zD (qQ qI (qQ (zU vJ (jQ (qQ (qT (pv 0) rfl) (qQ (jI jS (qM qP (pv 1) qV) qI (nomark _)) qZ))) (pv 2)) qZ))) qZ)))
  (qK (vM (pv 0) (qM qP (pv 1) qV) iH)))) zX),?_⟩
 walk_at "e"
 obtain⟨m1,e1,he⟩:=aq5.mp he
 obtain⟨w1,lk,hl1,hpl⟩:=Ms.roomy_ok hw.g e1
 refine⟨_,rfl,H0,d,m,m1,rfl,rfl,rfl,h,hw,hst,e1,fun a b H1 kt h1=>⟨_,rfl,?_⟩⟩
 have M1:Mc K (d.mv a b).C:=M
 have hca1:=kt _ _ hca
 have hka1:=kt _ _ hka
 by_cases z:m1.st= .running
 ·rw[if_pos z]at he
  rw[decide_eq_true z]
  obtain⟨vs,hvs,he⟩:=aq6.mp he
  subst he
  have hlt:=hV hw.g e1 z
  have hkl:kv.length=ks.length:=by rw[hkv.length,aq16]
  have hvl:vs.length=ks.length:=Ms.mapM_len hvs
  have hks:∀(i:Nat)(x:V),kv[i]? =some x->∃k,ks[i]? =some k/\x=V.int (k:Nat):=by
   intro i x hx
   have hi:i<ks.length:=by rw[<-hkl];exact(List.getElem?_eq_some_iff.mp hx).1
   obtain⟨y,hy1,hy2⟩:=hkv.get (i:=i) (d:=Dt.int (ks[i]:Nat)) (by rw[aq19,aq15 hi];rfl)
   rw[hx]at hy1;cases hy1
   exact⟨ks[i],aq15 hi,kC hy2⟩
  refine jC ⟨_,rfl,ca,_,_,_,rfl,rfl,hca1,qW (j:=1) rfl,ka,rfl,⟨_,hka1⟩,fun D0 hD0=>?_⟩
  have gD:Grow H1 (upd H1 D0 (.lst [])):=Grow.put hD0
  refine aO (K:=K) (a:=ka) (xs:=kv) (te:=kS (aL K d.C) [] E0 (jK (jV 1) (jK (jV 0) xE))) (ix:=[0]) (σ:=[some (.ref d.m),some (.ref ca),none])
   (fun i zs H6=>Grow H1 H6/\H6 D0=some (.lst zs)/\qO K H6 ((vs.take i).map AV.dt) zs) ?_ ?_ ?_ ?_
  ·exact⟨gD,qJ,qA⟩
  ·rintro i zs H6 _ ⟨g6,_⟩
   exact zB.mono g6.same hka1
  ·rintro i x zs H6 hx ⟨g6,eD,hz6⟩ Q' hq
   obtain⟨k',hk1,rfl⟩:=hks i x hx
   obtain⟨v,hv1,hv2⟩:=cF hvs hk1
   have hi:i<vs.length:=(List.getElem?_eq_some_iff.mp hv1).1
   refine⟨_,rfl,_,rfl,H0,d.mv a b,m1,k',v,rfl,rfl,h1.grow g6,hv2,fun y hy=>?_⟩
   have hzl:zs.length=i:=by rw[hz6.length,aq16,List.length_take];omega
   refine hq y H6 eD (by rw[sizeLine_eq];omega) ⟨g6.set hD0,qJ,?_⟩
   have k7:=zP (K:=K) (ys:=zs++[y]) eD
   rw[List.take_add_one,hv1,aq21]
   exact qO.append (qO.monoT k7 hz6) (qG (qY.monoT k7 hy) qA)
  ·rintro zs H6 ⟨g6,eD,hz6⟩
   rw[hkl,<-hvl,List.take_of_length_le (aq7 _)]at hz6
   walk_at "d"
   have h6:=h1.grow g6
   have hca6:=zB.mono g6.same hca1
   refine xS (d:=d.mv a b) M1 h6 rfl (⟨_,rfl,(d.mv a b).m,(d.mv a b).C,(d.mv a b).dx,_,_,rfl,h6.mo,M.cl,M.n2,wK _ _,⟨d.hp,d.dh,_,rfl,h6.ho,kF _ _ (by decide+kernel),⟨_,rfl,(d.mv a b).m,(d.mv a b).C,(d.mv a b).dx,_,_,rfl,h6.mo,M.cl,M.n5,uL _ _,⟨_,rfl,ca,_,_,_,rfl,rfl,hca6,qW (j:=0) rfl,rfl,zl2,fun l hl7=>?_⟩⟩⟩⟩)
   have erc:decide (V.str (AOrd.func rc ks n).wd=V.str "rec")=rc:=zG3 rc
   rw[erc]
   have g7:Grow H6 (upd H6 l (.lst [.int (m1.place:Nat),.bl rc])):=Grow.put hl7
   have e7:(upd H6 l (.lst [.int (m1.place:Nat),.bl rc])) l=some (.lst [.int (m1.place:Nat),.bl rc]):=qJ
   have eD7:=g7.same _ _ eD
   have h7:=h6.grow g7
   have hz7:=hz6.mono g7.same
   have hca7:=zB.mono g7.same hca6
   generalize upd H6 l (.lst [.int (m1.place:Nat),.bl rc])=H7 at g7 e7 eD7 h7 hz7 hca7⊢
   have hzl:zs.length=ks.length:=by rw[hz6.length,aq16,hvl]
   refine⟨_,rfl,l,D0,_,_,rfl,rfl,e7,eD7,by rw[sizeLine_eq];simp;omega,fun l2 hl2=>?_⟩
   have g8:Grow H7 (upd H7 l2 (.lst ([.int (m1.place:Nat),.bl rc]++zs))):=Grow.put hl2
   have e8:(upd H7 l2 (.lst ([.int (m1.place:Nat),.bl rc]++zs))) l2=some (.lst ([.int (m1.place:Nat),.bl rc]++zs)):=qJ
   have h8:=h7.grow g8
   have hz8:=hz7.mono g8.same
   have hca8:=zB.mono g8.same hca7
   generalize upd H7 l2 (.lst ([.int (m1.place:Nat),.bl rc]++zs))=H8 at g8 e8 h8 hz8 hca8⊢
   refine⟨H0,d.mv a b,m1,.fn,l2,.int m1.place:: .bl rc::vs,_,rfl,rfl,h8,e8,qG (by show qY K H8 (.int _) _;rw[qY]) (qG (by show qY K H8 (.bl _) _;rw[qY]) hz8),hlt,by rw[lk.room];exact hw.rm,fun u H9 k9 h9 hu=>?_⟩
   refine sJ (d:=d.mv a b) (v:=.at_ m1.things.length) h9 hu (by show m1.stk.length<_;rw[hl1];exact wY hw) fun H10 k10 h10=>?_
   have hca10:=k10 _ _ (k9 _ _ hca8)
   exact nH (d:=d.mv a b) M1 h10 rfl ⟨_,rfl,ca,_,_,_,rfl,rfl,hca10,qW (j:=2) rfl,nP (d:=d.mv a b) h10 n fun H' h'=>q a b H' h'⟩
 ·rw[if_neg z]at he
  cases he
  rw[decide_eq_false z]
  exact jJ (q a b H1 h1)
end
structure Ords(P:Program)(w:World)(K:Fg)(mg:Str->Option Value)(base:Heap)(C CH:Addr)(n:Nat):Prop where
 tab:∃a D,mg "ORDERS"=some (.ref a)/\oE K a D/\∀o:AOrd,o.ok->∃(f:Addr)(fd:FuncData)(k:Nat)(B:AOrd->Prop),k<=n/\aq28 o.wd D=some (.ref f)/\B o/\zQ P w K mg base (CXE P w) k f fd p2 (bK K C CH B)/\PySem.W.keepIn K (.ref f)=true/\Binds K fd p2 []
section
variable {P:Program} {w:World} {K:Fg} {mg:Str->Option Value} {base:Heap} {C CH f fM fO fS:Addr} {fd fdM fdO fdS:FuncData}
theorem zXz:qC ["machine","order"] ["machine"] (qU rP):=by walk_at "s"
inductive qM6(K:Fg)(C:Addr)(CH:Addr)(vs:List V)(H:Hp)(Q:VK):Prop
 |mk (H0:Hp) (d:Ad) (m:Ms) (m':Ms) (a_0:vs=[.ref d.m]) (a_1:d.C=C) (a_2:d.CH=CH) (a_3:MS K H0 d m H) (a_4:m.Wf) (a_5:m.st= .running) (a_6:m.order=some m') (a_7:∀a b H',MS K H0 (d.mv a b) m' H'->Q .non H'):qM6 K C CH vs H Q
def zXj(K:Fg)(C CH:Addr):Sp:=fun vs H Q x_0=>qM6 K C CH vs H Q
theorem zG5{n:Nat}(F:zK K "do_order" "do_order" rP .none f fd)(M:Mc K C)(O:Ords P w K mg base C CH n):zQ P w K mg base (CXE P w) (n+1) f fd ["machine"] (zXj K C CH):=by
 refine F.ok0 zXz (by walk_at "l") ?_
 walk_at "i"
 obtain⟨H0,d,m,m',rfl,rfl,rfl,h,hw,hst,he,q⟩:=h
 obtain⟨ta,D,mT,T,hT⟩:=O.tab
 obtain⟨o,ho,hx,hl⟩:=Ms.order_of he
 have hok:=hw.okc o (aq23 ho)
 obtain⟨g,fdg,k,B,hk,hD,hB,G,kp,bd⟩:=hT o hok
 refine⟨_,qX (qF (i:=1) zXz.nd rfl oI (qM zY (qT (pv 0) rfl) (qT (pv 0) rfl)))
  (qX (vM (pv 0) qV iH)
  (qK (zJ (wB (CX:=CXE P w) (qM oJ (zM (v:=.ref ta) (by rfl) mT rfl) (qM qP (pv 1) qV)) (qQ (pv 0) (qQ (pv 1) qZ)))))),?_⟩
 walk_at "e"
 obtain⟨cs,hcs,hcd⟩:=h.lo
 obtain⟨c,hc1,hc2⟩:=hcd.get (i:=m.place) (d:=o.dt) (by rw[aq19,ho];rfl)
 refine⟨_,rfl,d.m,d.C,d.dx,_,_,rfl,h.mo,M.cl,M.n1,qLq _ _,(⟨_,rfl,d.m,d.C,d.dx,_,_,rfl,h.mo,M.cl,M.n5,uL _ _,⟨d.l,cs,_,c,rfl,rfl,zS.of hcs,qW hc1,?_⟩⟩)⟩
 walk_at "d"
 refine nH M h rfl ?_
 have kt:=jA (K:=K) (gs:=mfl d {m with place:=m.place+1}) h.mo
 refine⟨_,_,rfl,rfl,d.dx,_,h.mo,yC _ _,?_⟩
 rw[show((m.place:Int)+1)=((m.place+1:Nat):Int) by omega,iU]
 have h1:=h.setM m.base (m.place+1) m.st
 have hc3:=qY.monoT kt hc2
 show Ends.nx _ _ (upd H d.m (.ins d.C d.dx (mfl d {m with place:=m.place+1})))
 generalize upd H d.m (.ins d.C d.dx (mfl d {m with place:=m.place+1}))=H1 at h1 hc3⊢
 have hc4:=hc3
 obtain⟨ca,us,rfl,hca,hus⟩:=wT hc3
 refine⟨_,rfl,ca,_,_,_,rfl,rfl,hca,qW (j:=0) rfl,_,ta,D,_,rfl,rfl,T,hD,?_⟩
 refine⟨g,fdg,_,_,[],[],E0,k,rfl,G,hr.mono hk,kp,bd,.nil,zD,?_⟩
 have hpl:m.place<m.code.length:=(List.getElem?_eq_some_iff.mp ho).1
 exact⟨_,rfl,_,rfl,H0,d,_,m',o,_,rfl,rfl,rfl,h1,hc4,hB,⟨hw.hs,hw.iv,hw.it,hw.okc,hw.cl,hw.rm,hw.tr⟩,hst,by have :=hw.cl;show m.place+1<=_;omega,hx,hl,q⟩
theorem zG6:qC ["machine"] ["machine"] (qU qCz):=by walk_at "s"
inductive aD(K:Fg)(C:Addr)(CH:Addr)(vs:List V)(H:Hp)(Q:VK):Prop
 |mk (H0:Hp) (d:Ad) (m:Ms) (m':Ms) (fuel:Nat) (a_0:vs=[.ref d.m]) (a_1:d.C=C) (a_2:d.CH=CH) (a_3:MS K H0 d m H) (a_4:m.Wf) (a_5:m.st= .running) (a_6:m.step fuel=some m') (a_7:∀a b H',MS K H0 (d.mv a b) m' H'->Q .non H'):aD K C CH vs H Q
def qM7(K:Fg)(C CH:Addr):Sp:=fun vs H Q x_0=>aD K C CH vs H Q
theorem qT3{n:Nat}(F:zK K "do_step" "do_step" qCz .none f fd)(M:Mc K C)(zE:∃a,mg "ENDING_ORDERS"=some (.ref a)/\∀H,zB K H a [.str "tell",.str "skip",.str "slide"])(GO:Kn P w K mg base (n+1) "do_order" ["machine"] (zXj K C CH)):zQ P w K mg base (CXE P w) (n+2) f fd ["machine"] (qM7 K C CH):=by
 refine F.ok0 zG6 (by walk_at "l") ?_
 walk_at "i"
 obtain⟨H0,d,m,m',fuel,rfl,rfl,rfl,h,hw,hst,he,q⟩:=h
 obtain⟨te,mE,sE⟩:=zE
 refine⟨_,qX (zJ (zO GO hr (qQ (pv 0) qZ)))
  (qK (wC PassesOwn.never (yG (zZ jS (qT (pv 0) rfl) qI (nomark _)) (yR (zZ yQ (qM qP (qM zY (qT (pv 0) rfl) (qT (pv 0) rfl)) qV) (zM (v:=.ref te) (by rfl) mE rfl) rfl))).pt
   (qK (zJ (zO GO hr (qQ (pv 0) qZ)))))),?_⟩
 walk_at "e"
 obtain⟨m1,e1,he⟩:=aq5.mp he
 obtain⟨hw1,_⟩:=hw.order e1
 refine⟨_,rfl,H0,d,m,m1,rfl,rfl,rfl,h,hw,hst,e1,fun a b H1 h1=>?_⟩
 refine⟨fun j σ H'=>σ=[some (.ref d.m)]/\∃(a b:Addr)(mc:Ms),MS K H0 (d.mv a b) mc H'/\mc.Wf/\Ms.ends j mc=some m',⟨fuel,rfl,a,b,m1,h1,hw1,he⟩,?_⟩
 rintro j σ H2 ⟨rfl,a,b,mc,h2,hw2,he2⟩
 have M1:Mc K (d.mv a b).C:=M
 cases j with
 |zero=>cases he2
 |succ j=>
  rw[Ms.ends]at he2
  refine⟨_,rfl,(d.mv a b).m,(d.mv a b).C,(d.mv a b).dx,_,_,rfl,h2.mo,M.cl,M.n7,xR _ _,⟨rfl,_,rfl,?_⟩⟩
  rw[nA]
  by_cases z:mc.st= .running
  ·rw[if_pos z]at he2
   rw[decide_eq_true z]
   obtain⟨o,ho,he2⟩:=aq5.mp he2
   obtain⟨cs,hcs,hcd⟩:=h2.lo
   obtain⟨c,hc1,hc2⟩:=hcd.get (i:=mc.place) (d:=o.dt) (by rw[aq19,ho];rfl)
   obtain⟨ca,us,rfl,hca,hus⟩:=wT hc2
   refine jC (⟨_,rfl,(d.mv a b).m,(d.mv a b).C,(d.mv a b).dx,_,_,rfl,h2.mo,M.cl,M.n1,qLq _ _,(⟨_,rfl,(d.mv a b).m,(d.mv a b).C,(d.mv a b).dx,_,_,rfl,h2.mo,M.cl,M.n5,uL _ _,⟨d.l,cs,_,_,rfl,rfl,zS.of hcs,qW hc1,ca,_,_,_,rfl,rfl,hca,qW (j:=0) rfl,te,_,rfl,.inr (sE H2),rfl,rfl,_,rfl,?_⟩⟩)⟩)
   rw[if_neg (c:=false=true) (by decide),qX3 (hw2.okc o (aq23 ho))]
   by_cases z2:Ms.ending o=true
   ·rw[if_pos z2]at he2
    rw[z2]
    obtain⟨m3,e3,he3⟩:=aq5.mp he2
    obtain⟨hw3,_⟩:=hw2.order e3
    refine jC ⟨fun σ' H'=>σ'=[some (.ref d.m)]/\∃(a b:Addr),MS K H0 (d.mv a b) m3 H',fun σ' H'⟨y1,a',b',y2⟩=>⟨j,by omega,y1,a',b',m3,y2,hw3,he3⟩,?_⟩
    exact⟨_,rfl,H0,d.mv a b,mc,m3,rfl,rfl,rfl,h2,hw2,z,e3,fun a' b' H' h'=>⟨rfl,a',b',h'⟩⟩
   ·rw[if_neg z2]at he2
    cases he2
    rw[Bool.eq_false_iff.mpr z2]
    exact jJ (q a b H2 h2)
  ·rw[if_neg z]at he2
   cases he2
   rw[decide_eq_false z]
   exact jJ (jJ (q a b H2 h2))
theorem aF{m':Ms}:∀{fuel:Nat}{m:Ms},m.Wf->Ms.ends fuel m=some m'->m'.Wf
 |0,m,_,h=>by cases h
 |n+1,m,hw,h=>by
  rw[Ms.ends]at h
  split at h
  ·obtain⟨o,ho,h⟩:=aq5.mp h
   split at h
   ·obtain⟨m2,e2,h⟩:=aq5.mp h
    exact aF (hw.order e2).1 h
   ·cases h;exact hw
  ·cases h;exact hw
theorem qT4{m m':Ms}{fuel:Nat}(hw:m.Wf)(he:m.step fuel=some m'):m'.Wf:=by
 obtain⟨m1,e1,h⟩:=aq5.mp he
 exact aF (hw.order e1).1 h
theorem qM8:qC ["self","steps","left"] ["self","steps"] (qU zI9):=by walk_at "s"
inductive qM9(K:Fg)(C:Addr)(CH:Addr)(vs:List V)(H:Hp)(Q:VK):Prop
 |mk (H0:Hp) (d:Ad) (m:Ms) (m':Ms) (fuel:Nat) (n:Int) (a_0:vs=[.ref d.m,.int n]) (a_1:d.C=C) (a_2:d.CH=CH) (a_3:MS K H0 d m H) (a_4:m.Wf) (a_5:m.run fuel n.toNat=some m') (a_6:∀a b H',MS K H0 (d.mv a b) m' H'->m'.Wf->Q (.str m'.st.str) H'):qM9 K C CH vs H Q
def zK0(K:Fg)(C CH:Addr):Sp:=fun vs H Q x_0=>qM9 K C CH vs H Q
theorem zG7{n:Nat}(F:zK K "run" "Machine.run" zI9 .none f fd)(M:Mc K C)(GS:Kn P w K mg base (n+2) "do_step" ["machine"] (qM7 K C CH)):zQ P w K mg base (CXE P w) (n+3) f fd ["self","steps"] (zK0 K C CH):=by
 refine F.ok0 qM8 (by walk_at "l") ?_
 walk_at "i"
 obtain⟨H0,d,m,m',fuel,n0,rfl,rfl,rfl,h,hw,he,q⟩:=h
 refine⟨_,qX (qF (i:=2) qM8.nd rfl oI (pv 1))
  (qX (wC PassesOwn.never (yG (zZ bD (pv 2) qV (nomark _)) (yR (zZ jS (qT (pv 0) rfl) qI (nomark _)))).pt
   (qX (zJ (zO GS hr (qQ (pv 0) qZ))) (qK (qK7 (i:=2) qM8.nd rfl oI qV qK8))))
  (qK (qB (qT (pv 0) rfl)))),?_⟩
 walk_at "e"
 refine⟨_,rfl,?_⟩
 walk_at "d"
 refine⟨fun j σ H'=>∃(z:Int)(a b:Addr)(mc:Ms),σ=[some (.ref d.m),some (.int n0),some (.int z)]/\j=z.toNat/\MS K H0 (d.mv a b) mc H'/\mc.Wf/\Ms.run fuel z.toNat mc=some m',⟨_,n0,d.st,d.th,m,rfl,rfl,h,hw,he⟩,?_⟩
 rintro j σ H1 ⟨z,a,b,mc,rfl,rfl,h1,hw1,he1⟩
 have M1:Mc K (d.mv a b).C:=M
 refine⟨_,rfl,_,_,rfl,rfl,_,rfl,?_⟩
 by_cases hz:0<z
 ·rw[decide_eq_true hz]
  obtain⟨k,hk⟩:∃k:Nat,z.toNat=k+1:=⟨z.toNat-1,by omega⟩
  rw[hk,Ms.run]at he1
  refine jC (⟨_,rfl,(d.mv a b).m,(d.mv a b).C,(d.mv a b).dx,_,_,rfl,h1.mo,M.cl,M.n7,xR _ _,⟨rfl,_,rfl,?_⟩⟩)
  rw[nA]
  by_cases hs:mc.st= .running
  ·rw[if_pos hs]at he1
   rw[decide_eq_true hs]
   obtain⟨m2,e2,he2⟩:=aq5.mp he1
   have hw2:=qT4 hw1 e2
   refine jC ⟨fun σ' H'=>∃(a b:Addr),σ'=[some (.ref d.m),some (.int n0),some (.int (z-1))]/\MS K H0 (d.mv a b) m2 H',fun σ' H'⟨a',b',y1,y2⟩=>⟨(z-1).toNat,by omega,z-1,a',b',m2,y1,rfl,y2,hw2,by rw[show(z-1).toNat=k by omega];exact he2⟩,?_⟩
   exact⟨_,rfl,H0,d.mv a b,mc,m2,fuel,rfl,rfl,rfl,h1,hw1,hs,e2,fun a' b' H' h'=>⟨_,rfl,_,_,rfl,rfl,a',b',rfl,h'⟩⟩
  ·rw[if_neg hs]at he1
   cases he1
   rw[decide_eq_false hs]
   exact jJ (⟨_,rfl,(d.mv a b).m,(d.mv a b).C,(d.mv a b).dx,_,_,rfl,h1.mo,M.cl,M.n7,xR _ _,(q a b H1 h1 hw1)⟩)
 ·rw[decide_eq_false hz]
  rw[show z.toNat=0 by omega,Ms.run]at he1
  cases he1
  exact jJ (jJ (⟨_,rfl,(d.mv a b).m,(d.mv a b).C,(d.mv a b).dx,_,_,rfl,h1.mo,M.cl,M.n7,xR _ _,(q a b H1 h1 hw1)⟩))
end
end K23
namespace L2
open PySem PySem.Spec PyProof.Rows PyProof Dt
section
variable {X:Cx} {pins:List (Addr×Obj)} {σ:St} {H:Hp} {s:Shared}
theorem Inv.freeze{d:Addr}{kvs:List (Key×V)}{o:Obj}(I:Inv X pins σ H s)(hd:H d=some (.dK kvs))(ho:s.heap.get? d=some o):Inv X pins σ (upd H d (.frz o (.dK kvs))) s:=by
 have ne:∀b,H b=none->(upd H d (.frz o (.dK kvs))) b=none:=fun b e=>by
  rw[qL (fun z=>by rw[z,hd]at e;cases e)];exact e
 have nt:∀b u,H b=some u->u≠ .dK kvs->(upd H d (.frz o (.dK kvs))) b=some u:=fun b u e n=>by
  rw[qL (fun z=>by rw[z,hd]at e;exact n (Option.some.inj e).symm)];exact e
 refine⟨I.ok,I.os,I.bare,⟨I.base.keep,I.base.slot,fun b ob e n hx=>ne b (I.base.free b ob e n hx),I.base.there,fun b xs e=>nt b _ (I.base.tups b xs e) (by intro z;cases z),fun b ob u e=>nt b _ (I.base.frzs b ob u e) (by intro z;cases z),fun b ps e=>?_⟩,I.loc,I.cell,ne _ I.free,fun x c e=>ne c (I.freeC x c e),fun p hp=>?_,fun a u e=>?_,I.len⟩
 ·obtain⟨more,q⟩:=I.base.tbls b ps e
  exact⟨more,nt b _ q (by intro z;cases z)⟩
 ·obtain⟨a1,a2,a3⟩:=I.pin p hp
  exact⟨a1,ne _ a2,a3⟩
 ·by_cases z:a=d
  ·subst z
   rw[qJ]at e
   cases e
   exact⟨ho,I.hok a _ hd⟩
  ·rw[qL z]at e
   exact(I.hok a u e).stay (fun b v _ r=>r) (fun b r=>nt b _ r (by intro z;cases z)) (fun b xs r=>nt b _ r (by intro z;cases z))
end
def Itd(d:Addr)(o:Obj)(kvs:List (Key×V)):It:=
 ⟨fun i H=>H d=some (.frz o (.dK kvs))/\i<kvs.length,fun i H x H'=>H'=H/\∃p,kvs[i]? =some p/\x=kV p.1,fun i H=>H d=some (.frz o (.dK kvs))/\kvs.length<=i⟩
theorem qX4{P:Program}{w:World}{K:Fg}{tg:Expr}(d it:Addr)(o:Obj){kvs:List (Key×V)}{vs:List (Key×Value)}{ep:Nat}(hKV:KV kvs vs)(hD:∀h:Heap,h.get? d=some o->h.DictAt (jU P w) d vs ep):Turn P w K tg (Itd d o kvs) [it] it (fun i h=>h.IsKeyIter it d i vs.length ep)where
 mem:=by simp
 obj:=fun i h st b hb=>by
  have e:b=it:=by simpa using hb
  subst e
  obtain⟨o,e,c,d⟩:=st
  exact⟨o,e,fun v z=>by rw[d]at z;cases z⟩
 keep:=fun i h h' st k=>st.at fun o e=>k it (by simp) o e
 item:=by
  intro X hP hw hK hc i pins s σ H E I hf st hg
  subst hP hw hK
  obtain⟨h1,hi⟩:=hg
  have ho:s.heap.get? d=some o:=(I.hok d _ h1).1
  have DA:=hD s.heap ho
  have hl:kvs.length=vs.length:=hKV.length
  have hp:kvs[i]? =some kvs[i]:=aq15 hi
  have hv:vs[i]? =some (kvs[i].1,(vs[i]'(by omega)).2):=by
   rw[aq15 (by omega)]
   have :=congrArg (fun l=>l[i]?) hKV.keys
   simp only[aq19]at this
   rw[hp,aq15 (show i<vs.length by omega)]at this
   have e:kvs[i].1=(vs[i]'(by omega)).1:=by simpa using this
   rw[e]
  obtain⟨f0,f1,f2,f3,f4,f5⟩:=hf it (by simp)
  refine wpAny_pyNext_dict_item st DA hv fun key h' hk st' sb=>?_
  have I1:Inv X pins σ H {s with heap:=h'}:=I.turned (t':=s.toks) (fun b o hb e=>(sb.2 b hb).trans e) f0 f1 f3 f4 f5
  obtain⟨ob,e,c,dd⟩:=id st'
  exact⟨key,rfl,sB (s:={s with heap:=h'}) e c dd (by decide) ⟨kV kvs[i].1,H,I1,zJ6 hk,⟨rfl,_,hp,rfl⟩,st',fun b hb=>(hf b hb).1⟩⟩
 done:=by
  intro X hP hw hK hc i pins s σ H E I hf st hg
  subst hP hw hK
  obtain⟨h1,hi⟩:=hg
  have ho:s.heap.get? d=some o:=(I.hok d _ h1).1
  have DA:=hD s.heap ho
  have hl:kvs.length=vs.length:=hKV.length
  obtain⟨f0,f1,f2,f3,f4,f5⟩:=hf it (by simp)
  exact wpAny_pyNext_dict_end (I.ok.hd hc) st DA (List.getElem?_eq_none (by omega)) fun h' eb=>⟨rfl,I.turned (t':=s.toks) (fun b o hb e=>eb b o hb e) f0 f1 f3 f4 f5⟩
 self:=fun _ _ _ _ _ st h=>wpAny_pyIter_keyiter st h
def zP0(tl:TE):TI:=fun σ H R=>tl σ H fun x H1=>∃d kvs,x= .ref d/\H1 d=some (.dK kvs)/\∀o,R (Itd d o kvs) (upd H1 d (.frz o (.dK kvs)))
theorem qT5{X:Cx}{tg l:Expr}{tl:TE}(hl:PE X l tl):PI X tg l (zP0 tl):=by
 intro pins s σ H R I h
 refine thn (hl pins s σ H _ I h) fun v s1⟨x,H1,I1,r1,q1⟩=>?_
 obtain⟨d,kvs,e,hd,q⟩:=q1
 subst e
 cases r1
 obtain⟨z,lo,vs,r,hD⟩:=zQ8 I1.hok hd
 obtain⟨ep,hat⟩:=hD.dictAt
 have hat':=hat
 obtain⟨o,es,ho,rest⟩:=hat'
 refine wpAny_pyIter_dict lo hat ?_
 have I2:=I1.freeze hd ho
 refine⟨s1.heap.objs.size,[s1.heap.objs.size],_,_,upd H1 d (.frz o (.dK kvs)),rfl,I2.kept (t':=s1.toks) fun b o e=>aq13 _ e,qX4 (vs:=vs) (ep:=ep) d _ o r (fun h e=>hat.at' fun o' e'=>by rw[ho]at e';cases e';exact e),⟨_,aq14 _ rfl,rfl,rfl⟩,fun b hb=>?_,q o⟩
 have e:b=s1.heap.objs.size:=by simpa using hb
 subst e
 exact I2.fpOk (aq7 _) (I2.hok.fresh (aq7 _))
theorem qMq{d:Addr}{o:Obj}{kvs:List (Key×V)}{g:TG}{tb:TS}{D:Ends}{σ:St}{H:Hp}(Pv:Nat->St->Hp->Prop)(h0:Pv 0 σ H)(hl:∀i σ H,i<=kvs.length->Pv i σ H->H d=some (.frz o (.dK kvs)))
  (hs:∀i p σ H,kvs[i]? =some p->Pv i σ H->g (kV p.1) σ H fun σ2 H2=>tb {D with nx:=Pv (i+1),ct:=Pv (i+1),bk:=D.nx} σ2 H2)(hd:∀σ H,Pv kvs.length σ H->D.nx σ H):
  ∃W:Nat->Nat->St->Hp->Prop,(∃m,W 0 m σ H)/\∀i m σ H,W i m σ H->
   ((Itd d o kvs).stop i H/\D.nx σ H)\/((Itd d o kvs).go i H/\∃N:St->Hp->Prop,(∀σ' H',N σ' H'->∃m',m'<m/\W (i+1) m' σ' H')/\∀x H',(Itd d o kvs).yld i H x H'->g x σ H' fun σ2 H2=>tb {D with nx:=N,ct:=N,bk:=D.nx} σ2 H2):=by
 refine⟨fun i m σ H=>m=kvs.length-i/\i<=kvs.length/\Pv i σ H,⟨kvs.length,by simp,Nat.zero_le _,h0⟩,?_⟩
 rintro i m σ H ⟨rfl,hi,p⟩
 have q:=hl i σ H hi p
 by_cases hlt:i<kvs.length
 ·refine .inr ⟨⟨q,hlt⟩,Pv (i+1),fun σ' H' p'=>⟨kvs.length-(i+1),by omega,rfl,hlt,p'⟩,fun x H' y=>?_⟩
  obtain⟨e,pp,hp,rfl⟩:=y
  subst e
  exact hs i pp σ _ hp p
 ·have e:i=kvs.length:=by omega
  subst e
  exact .inl ⟨⟨q,aq7 _⟩,hd σ H p⟩
theorem DGet.f{H:Hp}{a:Addr}{o:Obj}{kvs:List (Key×V)}{k:Key}(e:H a=some (.frz o (.dK kvs))):DGet H a (kV k) (xT kvs k):=.inl ⟨kvs,k,.inr ⟨o,e⟩,rfl,rfl⟩
def jQ5(K:Fg)(tl:TE):TI:=fun σ H R=>tl σ H fun x H1=>∃a,x= .ref a/\(((∃xs,zS K H1 a xs)/\R (Itl K a) H1)\/((∃xs,zB K H1 a xs)/\R (Itt K a) H1))
theorem zG8{X:Cx}{tg l:Expr}{tl:TE}(hl:PE X l tl):PI X tg l (jQ5 X.K tl):=by
 intro pins s σ H R I h
 refine thn (hl pins s σ H _ I h) fun v s1⟨x,H1,I1,r1,q1⟩=>?_
 obtain⟨a,e,q⟩:=q1
 subst e
 cases r1
 rcases q with⟨⟨xs,hq⟩,q⟩|⟨⟨xs,hq⟩,q⟩
 ·obtain⟨its,rv,p,hz⟩:=I1.list hq
  refine wpAny_pyIter_list p.isList ?_
  refine⟨s1.heap.objs.size,[s1.heap.objs.size],_,_,H1,rfl,I1.kept (t':=s1.toks) fun b o e=>aq13 _ e,lU a _,⟨_,aq14 _ rfl,rfl,rfl⟩,fun b hb=>?_,q⟩
  have e:b=s1.heap.objs.size:=by simpa using hb
  subst e
  exact I1.fpOk (aq7 _) (I1.hok.fresh (aq7 _))
 ·obtain⟨its,rv,p,hz⟩:=I1.tuple hq
  refine wpAny_pyIter_tuple p ?_
  refine⟨s1.heap.objs.size,[s1.heap.objs.size],_,_,H1,rfl,I1.kept (t':=s1.toks) fun b o e=>aq13 _ e,iN a _,⟨_,aq14 _ rfl,rfl,rfl⟩,fun b hb=>?_,q⟩
  have e:b=s1.heap.objs.size:=by simpa using hb
  subst e
  exact I1.fpOk (aq7 _) (I1.hok.fresh (aq7 _))
end L2
namespace K23
open PySem L2 PyProof Dt
def jY:Nat->List Nat->List (Key×V)
 |_,[]=>[]
 |i,k::ks=>(Sum.inl (k:Int),.int (i:Nat))::jY (i+1) ks
theorem vP:∀(i:Nat)(ks:List Nat),(jY i ks).length=ks.length
 |_,[]=>rfl
 |i,k::ks=>by rw[jY,aq17,aq17,vP]
theorem yV:∀(i:Nat)(ks:List Nat)(k:Nat),xT (jY i ks) (Sum.inl (k:Int):Key)=if k∈ks then some (.int ((i+ks.idxOf k:Nat):Int))else none
 |i,[],k=>by simp[jY,qW8]
 |i,j::ks,k=>by
  rw[jY]
  by_cases z:j=k
  ·subst z
   rw[xZ rfl,if_pos aq22,List.idxOf_cons_self];rfl
  ·rw[xJ (by intro e;have :=Sum.inl.inj e;omega),yV (i+1) ks k]
   have e:(j==k)=false:=beq_eq_false_iff_ne.mpr z
   by_cases h:k∈ks
   ·rw[if_pos h,if_pos (aq10 _ h),List.idxOf_cons,e]
    congr 3
    simp;omega
   ·rw[if_neg h,if_neg (by simp[h];exact fun q=>z q.symm)]
theorem cH:∀(i:Nat)(ks:List Nat)(k:Nat),jY i (ks++[k])=jY i ks++[(Sum.inl (k:Int),.int ((i+ks.length:Nat):Int))]
 |i,[],k=>rfl
 |i,j::ks,k=>by
  rw[List.cons_append,jY,jY,cH (i+1) ks k,List.cons_append,aq17,show i+1+ks.length=i+(ks.length+1) by omega]
theorem gL:∀(i:Nat)(ks:List Nat)(j k:Nat),ks[j]? =some k->(jY i ks)[j]? =some (Sum.inl (k:Int),.int ((i+j:Nat):Int))
 |i,[],j,k,h=>by simp at h
 |i,x::ks,0,k,h=>by
  have :x=k:=by simpa using h
  subst this;rfl
 |i,x::ks,j+1,k,h=>by
  rw[jY,List.getElem?_cons_succ,gL (i+1) ks j k (by simpa using h),show i+1+j=i+(j+1) by omega]
def qX5:AV->Bool
 | .at_ _=>true
 |_=>false
structure IsT(K:Fg):Prop where
 it:PySem.W.kitOne K (.type "int") (.type "tuple")=some false
 bt:PySem.W.kitOne K (.type "bool") (.type "tuple")=some false
 nt:PySem.W.kitOne K (.type "NoneType") (.type "tuple")=some false
 tt:PySem.W.kitOne K (.type "tuple") (.type "tuple")=some true
theorem IsT.at{K:Fg}(I:IsT K)(v:AV):PySem.W.kitOne K (.type (tyD v.dt)) (.type "tuple")=some (qX5 v):=by
 cases v
 ·exact I.it
 ·exact I.bt
 ·exact I.nt
 ·exact I.tt
structure GlH(mg:Str->Option Value):Prop where
 isi:mg "isinstance"=none
 tuple:mg "tuple"=none
 list:mg "list"=none
 len:mg "len"=none
section
variable {K:Fg} {H0 H:Hp} {d:Ad} {m:Ms}
theorem MS.beside(h:MS K H0 d m H){a:Addr}{o:HO}(kt:jW K H (upd H a o))(n:H0 a=none)(ho:∃u,H a=some u)(e1:a≠d.m)(e2:a≠d.hp)(e3:a≠d.st)(e4:a≠d.pd)(e5:a≠d.th)(e6:a≠d.l):MS K H0 d m (upd H a o):=
 ⟨h.g.set n,h.nm,h.nh,h.ns,h.np,h.nt,(qL e1.symm).trans h.mo,(qL e2.symm).trans h.ho,jX kt e3.symm h.so,jX kt e4.symm h.po,jX kt e6.symm h.lo,jX kt e5.symm h.to,h.mh,h.d1,h.d2,h.d3,h.d4,h.d5,h.d6⟩
theorem MS.fresh(h:MS K H0 d m H){a:Addr}(n:H a=none):H0 a=none/\a≠d.m/\a≠d.hp/\a≠d.st/\a≠d.pd/\a≠d.th/\a≠d.l:=by
 obtain⟨_,h1,_⟩:=h.so
 obtain⟨_,h2,_⟩:=h.po
 obtain⟨_,h3,_⟩:=h.to
 obtain⟨_,h4,_⟩:=h.lo
 exact⟨h.g.none _ n,(qH h.mo n).symm,(qH h.ho n).symm,(qH h1 n).symm,(qH h2 n).symm,(qH h3 n).symm,(qH h4 n).symm⟩
theorem MS.newT(h:MS K H0 d m H){b:Addr}{s:List Th}{vs:List V}(hb:H b=some (.lst vs))(hv:qO K H (s.map Th.dt) vs)(n:H0 b=none)(e3:b≠d.st)(e4:b≠d.pd)(e6:b≠d.l):
  MS K H0 {d with th:=b} {m with things:=s} (upd H d.hp (.ins d.CH d.dh (hfl {d with th:=b} m))):=by
 have kt:=jA (K:=K) (gs:=hfl {d with th:=b} m) h.ho
 have nl:∀{a:Addr}{ds:List Dt},(∃vs,H a=some (.lst vs)/\qO K H ds vs)->a≠d.hp:=fun⟨vs,e,_⟩=>xO e h.ho (by intro z;cases z)
 exact⟨h.g.set h.nh,h.nm,h.nh,h.ns,h.np,n,(qL h.mh).trans h.mo,qJ,jX kt (nl h.so) h.so,jX kt (nl h.po) h.po,jX kt (nl h.lo) h.lo,jX kt (nl ⟨vs,hb,hv⟩) ⟨vs,hb,hv⟩,h.mh,h.d1,h.d2,e3,h.d4,e4,e6.symm⟩
theorem MS.newS(h:MS K H0 d m H){b:Addr}{s:List AV}{vs:List V}(hb:H b=some (.lst vs))(hv:qO K H (s.reverse.map AV.dt) vs)(n:H0 b=none)(e4:b≠d.pd)(e5:b≠d.th)(e6:b≠d.l):
  MS K H0 {d with st:=b} {m with stk:=s} (upd H d.m (.ins d.C d.dx (mfl {d with st:=b} m))):=by
 have kt:=jA (K:=K) (gs:=mfl {d with st:=b} m) h.mo
 have nl:∀{a:Addr}{ds:List Dt},(∃vs,H a=some (.lst vs)/\qO K H ds vs)->a≠d.m:=fun⟨vs,e,_⟩=>xO e h.mo (by intro z;cases z)
 exact⟨h.g.set h.nm,h.nm,h.nh,n,h.np,h.nt,qJ,(qL h.mh.symm).trans h.ho,jX kt (nl ⟨vs,hb,hv⟩) ⟨vs,hb,hv⟩,jX kt (nl h.po) h.po,jX kt (nl h.lo) h.lo,jX kt (nl h.to) h.to,h.mh,e6.symm,e4.symm,e5.symm,h.d4,h.d5,h.d6⟩
theorem oU{a:Addr}{o:HO}{kvs:List (Key×V)}(h:H a=some (.dK kvs)):jW K H (upd H a o):=fun b xs hb=>by
 rcases hb with(hb|⟨o,hb⟩)|hb
 ·exact .inl (.inl ((qL (xO hb h (by intro z;cases z))).trans hb))
 ·exact .inl (.inr ⟨o,(qL (xO hb h (by intro z;cases z))).trans hb⟩)
 ·exact .inr hb
end
section
variable {P:Program} {w:World} {K:Fg} {mg:Str->Option Value} {base:Heap} {C CH f fM fU:Addr} {fd fdM fdU:FuncData}
inductive qMz(K:Fg)(vs:List V)(H:Hp)(Q:VK):Prop
 |mk (v:AV) (x:V) (a_0:vs=[x]) (a_1:qY K H v.dt x) (a_2:Q (.bl (qX5 v)) H):qMz K vs H Q
def cP(K:Fg):Sp:=fun vs H Q x_0=>qMz K vs H Q
theorem qT6:qC ["value"] ["value"] (qU rH):=by walk_at "s"
theorem qMj(F:zK K "is_reference" "is_reference" rH .none f fd)(G:GlH mg)(I:IsT K):zQ P w K mg base (CXE P w) 1 f fd ["value"] (cP K):=by
 refine F.ok0 qT6 (by walk_at "l") ?_
 walk_at "i"
 obtain⟨v,x,rfl,hx,q⟩:=h
 refine⟨_,qK (qB (zV cX (by rfl) G.isi aq26 (qQ (pv 0) (qQ (iQ (v:=.ty "tuple") (by rfl) G.tuple PyProof.Rows.boot_tuple rfl) qZ)))),?_⟩
 walk_at "e"
 exact⟨_,rfl,v.dt,_,"tuple",qX5 v,rfl,hx,I.at v,q⟩
inductive aH(K:Fg)(vs:List V)(H:Hp)(Q:VK):Prop
 |mk (th:Addr) (vl:Addr) (ts:List V) (xs:List V) (things:List Th) (vals:List AV) (fuel:Nat) (ps:List Nat) (a_0:vs=[.ref th,.ref vl]) (a_1:H th=some (.lst ts)) (a_2:qO K H (things.map Th.dt) ts) (a_3:H vl=some (.lst xs)) (a_4:qO K H (vals.reverse.map AV.dt) xs) (a_5:fuel<=10000000) (a_6:Ms.found things fuel [] vals=some ps) (a_7:things.length<=1000) (a_8:∀p H',Grow H H'->H p=none->H' p=some (.dK (jY 0 ps))->Q (.ref p) H'):aH K vs H Q
def qN0(K:Fg):Sp:=fun vs H Q x_0=>aH K vs H Q
theorem bQ:qC ["things","values","places","waiting","value"] ["things","values"] (qU qCq):=by walk_at "s"
theorem qT7(F:zK K "new_places" "new_places" qCq .none f fd)(G:GlH mg)(GI:Kn P w K mg base 1 "is_reference" ["value"] (cP K)):zQ P w K mg base (CXE P w) 2 f fd ["things","values"] (qN0 K):=by
 refine F.ok0 bQ (by walk_at "l") ?_
 walk_at "i"
 obtain⟨th,vl,ts,xs,things,vals,fuel,ps,rfl,ht,htd,hv,hvd,hf,he,h1000,q⟩:=h
 have hu:=Nat.lt_of_succ_lt hr.u2
 refine⟨_,qX (qF (i:=2) bQ.nd rfl oI wN)
  (qX (qF (i:=3) bQ.nd rfl oI (jB wQ (by rfl) G.list PyProof.Rows.boot_list (qQ (pv 1) qZ)))
  (qX (wC PassesOwn.never (yT (pv 3) (fun _=>rfl))
   (qX (qF (i:=4) bQ.nd rfl oI (xV aq0 aq3 aq4 xW (pv 3)))
   (qK (zH (PW.pt (yG (xI (zO GI hr (qQ (pv 4) qZ))) (yR (qK1 (lT hu (qM qP (pv 4) qV) (pv 2))))))
    (qX (iW hu (pv 2) (qM qP (pv 4) qV) (zV lA (by rfl) G.len aq27 (qQ (pv 2) qZ)) rfl)
    (qK (zJ (jT aq0 PySem.F.slot_list_extend PySem.F.type_list_extend cI (pv 3) (qQ (qM qP (qM zY (pv 0) (qM qP (pv 4) qV)) qV) qZ))))) zX))))
  (qK (qB (pv 2))))),?_⟩
 walk_at "e"
 intro p hp
 walk_at "d"
 have g1:Grow H (upd H p (.dK [])):=Grow.put hp
 have e1:(upd H p (.dK [])) p=some (.dK []):=qJ
 generalize upd H p (.dK [])=H1 at g1 e1⊢
 refine⟨_,rfl,vl,xs,rfl,.inl (zS.of (g1.same _ _ hv)),fun wt hwt=>?_⟩
 walk_at "d"
 have g2:Grow H1 (upd H1 wt (.lst xs)):=Grow.put hwt
 have e2:(upd H1 wt (.lst xs)) wt=some (.lst xs):=qJ
 have e1':=g2.same _ _ e1
 have pw:p≠wt:=qH e1 hwt
 have nw:H wt=none:=g1.none _ hwt
 generalize upd H1 wt (.lst xs)=H2 at g2 e2 e1'⊢
 have g12:=g1.trans g2
 refine⟨fun n σ H'=>∃(o:Option V)(seen:List Nat)(ws:List AV)(wv:List V),σ=[some (.ref th),some (.ref vl),some (.ref p),some (.ref wt),o]/\Grow H H'/\H' p=some (.dK (jY 0 seen))/\H' wt=some (.lst wv)/\qO K H' (ws.reverse.map AV.dt) wv/\Ms.found things n seen ws=some ps/\n<=fuel/\seen.Nodup/\∀k∈seen,k<things.length,
  ⟨fuel,_,[],vals,xs,rfl,g12,e1',e2,hvd.mono g12.same,he,aq7 _,List.nodup_nil,by simp⟩,?_⟩
 rintro n σ H3 ⟨o,seen,ws,wv,rfl,g3,ep,ew,hwd,hfd,hn,hnd,hlt⟩
 have hsl:=Ms.nodup_lt_len hnd hlt
 have hwl:wv.length=ws.length:=vU hwd
 have hfl:=Ms.found_len hfd
 match ws,hwd,hfd,hwl,hfl with
 |[],hwd,hfd,hwl,hfl=>
  have :wv=[]:=by cases wv with |nil=>rfl|cons _ _=>simp at hwl
  subst this
  refine⟨_,rfl,false,.inl ⟨_,zS.of ew,rfl⟩,jJ ?_⟩
  have :ps=seen:=by cases n<;>(simp[Ms.found]at hfd;exact hfd.symm)
  subst this
  exact⟨_,rfl,q p H3 g3 hp ep⟩
 |v::ws,hwd,hfd,hwl,hfl=>
  obtain⟨n',rfl⟩:∃n',n=n'+1:=⟨n-1,by simp at hfl;omega⟩
  obtain⟨us,x,rfl,hx,hus⟩:=yH hwd
  refine⟨_,rfl,true,.inl ⟨_,zS.of ew,by simp⟩,jC ?_⟩
  refine⟨fun σ' H'=>∃(o:Option V)(seen:List Nat)(ws:List AV)(wv:List V),σ'=[some (.ref th),some (.ref vl),some (.ref p),some (.ref wt),o]/\Grow H H'/\H' p=some (.dK (jY 0 seen))/\H' wt=some (.lst wv)/\qO K H' (ws.reverse.map AV.dt) wv/\Ms.found things n' seen ws=some ps/\n'<=fuel/\seen.Nodup/\∀k∈seen,k<things.length,
   fun σ' H' hh=>⟨n',by omega,hh⟩,?_⟩
  refine⟨_,rfl,.inl ⟨rfl,_,zS.of ew⟩,wt,_,x,rfl,rfl,ew,by simp,?_⟩
  rw[List.dropLast_concat]
  walk_at "d"
  have kt4:=zP (K:=K) (ys:=us) ew
  have g4:=g3.set (o:=.lst us) nw
  have ep4:(upd H3 wt (.lst us)) p=some (.dK (jY 0 seen)):=(qL pw).trans ep
  have ew4:(upd H3 wt (.lst us)) wt=some (.lst us):=qJ
  have hx4:=qY.monoT kt4 hx
  have hus4:=qO.monoT kt4 hus
  show qK5 _ _ _ _ _ (upd H3 wt (.lst us))
  generalize upd H3 wt (.lst us)=H4 at g4 ep4 ew4 hx4 hus4⊢
  refine⟨_,rfl,v,x,rfl,hx4,_,rfl,?_⟩
  have skip:qX5 v=false\/(∃k,v= .at_ k/\k∈seen)->Ms.found things n' seen ws=some ps:=by
   rintro(z|⟨k,rfl,hk⟩)
   ·cases v
    case at_ k=>cases z
    all_goals simpa only[Ms.found]using hfd
   ·simpa only[Ms.found,if_pos hk]using hfd
  cases v with
  |at_ k=>
   obtain⟨a,rfl,ha⟩:=nR hx4
   refine jC ⟨_,rfl,a,_,_,_,rfl,rfl,ha,qW (j:=1) rfl,_,rfl,p,_,rfl,DGet.k (k:=Sum.inl (k:Int)) ep4,_,rfl,?_⟩
   rw[yV]
   by_cases hk:k∈seen
   ·rw[if_pos hk]
    exact jJ ⟨_,seen,ws,us,rfl,g4,ep4,ew4,hus4,skip (.inr ⟨k,rfl,hk⟩),by omega,hnd,hlt⟩
   ·rw[if_neg hk]
    simp only[Ms.found,if_neg hk]at hfd
    split at hfd
    ·rename_i t htk
     have hkl:k<things.length:=(List.getElem?_eq_some_iff.mp htk).1
     refine jC ⟨_,rfl,p,_,rfl,ep4,_,rfl,_,rfl,a,_,_,_,rfl,rfl,ha,qW (j:=1) rfl,p,_,rfl,DPut.k (k:=Sum.inl (k:Int)) ep4 (by rw[vP,sizeLine_eq];omega),?_⟩
     have hnone:xT (jY 0 seen) (Sum.inl (k:Int):Key)=none:=by rw[yV,if_neg hk]
     rw[qW9 _ hnone,vP,show jY 0 seen++[((Sum.inl (k:Int):Key),V.int ((seen.length:Nat):Int))]=jY 0 (seen++[k]) by rw[cH,Nat.zero_add]]
     have kt5:=oU (K:=K) (o:=.dK (jY 0 (seen++[k]))) ep4
     have g5:=g4.set (o:=.dK (jY 0 (seen++[k]))) hp
     have ep5:(upd H4 p (.dK (jY 0 (seen++[k])))) p=some (.dK (jY 0 (seen++[k]))):=qJ
     have ew5:(upd H4 p (.dK (jY 0 (seen++[k])))) wt=some (.lst us):=(qL pw.symm).trans ew4
     have ha5:=kt5 _ _ ha
     have hus5:=qO.monoT kt5 hus4
     show Ends.nx _ _ (upd H4 p (.dK (jY 0 (seen++[k]))))
     generalize upd H4 p (.dK (jY 0 (seen++[k])))=H5 at g5 ep5 ew5 ha5 hus5⊢
     have ht5:=g5.same _ _ ht
     obtain⟨y,hy1,hy2⟩:=(htd.mono g5.same).get (i:=k) (d:=t.dt) (by rw[aq19,htk];rfl)
     obtain⟨ta,u,rfl,hta,hu'⟩:=xF hy2
     obtain⟨ua,ul,rfl,hua,hul⟩:=vW hu'
     have hull:ul.length=t.held.length:=by rw[hul.length,aq16]
     have hf2:=Ms.found_len hfd
     have husl:us.length=ws.length:=vU hus5
     refine⟨_,rfl,.inl ⟨rfl,_,zS.of ew5⟩,_,rfl,_,rfl,a,_,_,_,rfl,rfl,ha5,qW (j:=1) rfl,th,ts,_,_,rfl,rfl,zS.of ht5,qW hy1,ta,_,_,_,rfl,rfl,hta,qW (j:=1) rfl,wt,ua,us,ul,rfl,rfl,ew5,hua,?_,?_⟩
     ·rw[sizeLine_eq];simp at hf2;omega
     ·have kt6:=zP (K:=K) (ys:=us++ul) ew5
      refine⟨_,seen++[k],t.held.reverse++ws,us++ul,rfl,g5.set nw,(qL pw).trans ep5,qJ,?_,hfd,by omega,List.nodup_append.mpr ⟨hnd,by simp,fun i hi j hj z=>?_⟩,fun j hj=>?_⟩
      ·rw[List.reverse_append,List.reverse_reverse,aq21]
       exact qO.monoT kt6 (qO.append hus5 hul)
      ·rw[aq20.mp hj]at z;exact hk (z▸hi)
      ·rcases List.mem_append.mp hj with hj|hj
       ·exact hlt j hj
       ·rw[aq20.mp hj];exact hkl
    ·cases hfd
  |int i=>exact jJ (jJ ⟨_,seen,ws,us,rfl,g4,ep4,ew4,hus4,skip (.inl rfl),by omega,hnd,hlt⟩)
  |bl i=>exact jJ (jJ ⟨_,seen,ws,us,rfl,g4,ep4,ew4,hus4,skip (.inl rfl),by omega,hnd,hlt⟩)
  |nil=>exact jJ (jJ ⟨_,seen,ws,us,rfl,g4,ep4,ew4,hus4,skip (.inl rfl),by omega,hnd,hlt⟩)
end
end K23
namespace Ms
theorem aP:∀{l:List Nat}{i n:Nat},l[i]? =some n->n<=l.sum
 |[],i,n,h=>by simp at h
 |x::l,0,n,h=>by
  have :x=n:=by simpa using h
  rw[List.sum_cons];omega
 |x::l,i+1,n,h=>by
  have :=aP (l:=l) (i:=i) (n:=n) (by simpa using h)
  rw[List.sum_cons];omega
theorem held_le{m:Ms}{k:Nat}{t:Th}(h:m.things[k]? =some t):t.held.length<=m.fuelOf:=by
 have :=aP (l:=m.things.map fun t=>t.held.length) (i:=k) (n:=t.held.length) (by rw[aq19,h];rfl)
 unfold fuelOf;omega
end Ms
namespace K23
open PySem L2 PyProof Dt
theorem qT8{X:Cx}(K:Fg)(hK:X.K=K):IxR X (qV6 K):=by subst hK;exact qP
section
variable {P:Program} {w:World} {K:Fg} {mg:Str->Option Value} {base:Heap} {C CH f fM fU:Addr} {fd fdM fdU:FuncData}
inductive qN1(K:Fg)(vs:List V)(H:Hp)(Q:VK):Prop
 |mk (a:Addr) (p:Addr) (xs:List V) (vals:List AV) (ps:List Nat) (o:Obj) (a_0:vs=[.ref a,.ref p]) (a_1:(zS K H a xs\/zB K H a xs)) (a_2:qO K H (vals.map AV.dt) xs) (a_3:H p=some (.frz o (.dK (jY 0 ps)))) (a_4:(∀k,AV.at_ k∈vals->k∈ps)) (a_5:vals.length<=10000000) (a_6:∀l zs H',Grow H H'->H l=none->H' l=some (.lst zs)->qO K H' ((vals.map (Ms.movedV ps)).map AV.dt) zs->Q (.ref l) H'):qN1 K vs H Q
def zK1(K:Fg):Sp:=fun vs H Q x_0=>qN1 K vs H Q
theorem zP1:qC ["values","places"] ["values","places"] (qU zO4):=by walk_at "s"
theorem zG9(F:zK K "moved" "moved" zO4 .none f fd)(GI:Kn P w K mg base 1 "is_reference" ["value"] (cP K))(GR:Kn P w K mg base 1 "reference_to" ["place"] (gU K)):zQ P w K mg base (CXE P w) 2 f fd ["values","places"] (zK1 K):=by
 refine F.ok0 zP1 (by walk_at "l") ?_
 walk_at "i"
 obtain⟨a,p,xs,vals,ps,o,rfl,ha,hxs,hp,hin,hle,q⟩:=h
 have ndb:((["value"]:List Str)++(["places"]:List Str)).Nodup:=by decide+kernel
 have hu:=Nat.lt_of_succ_lt hr.u2
 refine⟨_,qK (qB (qYj (tM (own:=["value"]) (y:="places") (i:=1) (by rfl) (by decide+kernel) (by rfl) (by decide+kernel) (by rfl) (by decide+kernel) (by rfl) (.inl (by rfl)) (by rfl) (by decide+kernel)) rfl (zG8 (pv 0))
  (fun C s H fp pins=>vZ (xI (zO GI hr (qQ (pv 0) qZ))) (zO GR hr (qQ (tU hu (pv 1) (qM (qT8 K rfl) (pv 0) qV) (fun _ _=>rfl)) qZ)) (pv 0)) (fun C s H fp pins=>jO (i:=0) ndb rfl oI (Or.inr (by rfl))))),?_⟩
 walk_at "e"
 have hlen:xs.length=vals.length:=by rw[hxs.length,aq16]
 have step:∀(D0:Addr)(i:Nat)(x:V)(zs:List V)(H6:Hp),H D0=none->xs[i]? =some x->Grow H H6->H6 D0=some (.lst zs)->qO K H6 (((vals.take i).map (Ms.movedV ps)).map AV.dt) zs->∀Q':VK,
   (∀y H7,H7 D0=some (.lst zs)->zs.length<sizeLine->(Grow H (upd H7 D0 (.lst (zs++[y])))/\(upd H7 D0 (.lst (zs++[y]))) D0=some (.lst (zs++[y]))/\qO K (upd H7 D0 (.lst (zs++[y]))) (((vals.take (i+1)).map (Ms.movedV ps)).map AV.dt) (zs++[y]))->Q' y H7)->
   tIf (tB (kS (cP K) [] E0 (jK (jV 0) xE))) (kS (gU K) [] E0 (jK (tY (jV 1) (sD (qV6 K) (jV 0) (tC (.int 1)))) xE)) (jV 0) (kJ [1] [some x] [some (.ref a),some (.ref p)]) H6 Q':=by
  intro D0 i x zs H6 hD0 hx g6 eD hz6 Q' hq
  have hi:i<vals.length:=by rw[<-hlen];exact(List.getElem?_eq_some_iff.mp hx).1
  obtain⟨x',hx1,hx2⟩:=hxs.get (i:=i) (d:=(vals[i]).dt) (by rw[aq19,aq15 hi];rfl)
  rw[hx]at hx1;cases hx1
  have hx6:=hx2.mono g6.same
  have hzl:zs.length=i:=by rw[hz6.length,aq16,aq16,List.length_take];omega
  have fin:∀(y:V)(H7:Hp),Grow H6 H7->qY K H7 (Ms.movedV ps vals[i]).dt y->Q' y H7:=by
   intro y H7 g7 hy
   have eD7:=g7.same _ _ eD
   have kt:=zP (K:=K) (ys:=zs++[y]) eD7
   refine hq y H7 eD7 (by rw[sizeLine_eq];omega) ⟨(g6.trans g7).set hD0,qJ,?_⟩
   rw[List.take_add_one,aq15 hi,aq21,aq21]
   exact qO.append (qO.monoT kt (hz6.mono g7.same)) (qG (qY.monoT kt hy) qA)
  refine⟨_,rfl,vals[i],x,rfl,hx6,_,rfl,?_⟩
  cases hvi:vals[i]with
  |at_ k=>
   rw[hvi]at hx6 fin
   obtain⟨b,rfl,hb⟩:=nR hx6
   have hk:k∈ps:=hin k (hvi▸List.getElem_mem hi)
   refine jC ⟨_,rfl,_,rfl,b,_,_,_,rfl,rfl,hb,qW (j:=1) rfl,p,_,rfl,?_,ps.idxOf k,rfl,fun y H7 g7 hy=>fin y H7 g7 hy⟩
   have :=DGet.f (k:=Sum.inl (k:Int)) (g6.same _ _ hp)
   rw[yV,if_pos hk,Nat.zero_add]at this
   exact this
  |int n=>rw[hvi]at hx6 fin;exact jJ ⟨_,rfl,fin x H6 (Grow.refl H6) hx6⟩
  |bl n=>rw[hvi]at hx6 fin;exact jJ ⟨_,rfl,fin x H6 (Grow.refl H6) hx6⟩
  |nil=>rw[hvi]at hx6 fin;exact jJ ⟨_,rfl,fin x H6 (Grow.refl H6) hx6⟩
 rcases ha with ha|ha
 ·refine⟨_,rfl,a,rfl,.inl ⟨⟨_,ha⟩,fun D0 hD0=>?_⟩⟩
  refine cK (K:=K) (a:=a) (xs:=xs) (ix:=[1]) (σ:=[some (.ref a),some (.ref p)]) (te:=tIf (tB (kS (cP K) [] E0 (jK (jV 0) xE))) (kS (gU K) [] E0 (jK (tY (jV 1) (sD (qV6 K) (jV 0) (tC (.int 1)))) xE)) (jV 0))
   (fun i zs H6=>Grow H H6/\H6 D0=some (.lst zs)/\qO K H6 (((vals.take i).map (Ms.movedV ps)).map AV.dt) zs) ⟨Grow.put hD0,qJ,qA⟩ ?_ ?_ ?_
  ·rintro i zs H6 _ ⟨g6,_⟩
   exact g6.same.seq ha
  ·rintro i x zs H6 hx ⟨g6,eD,hz6⟩ Q' hq
   exact step D0 i x zs H6 hD0 hx g6 eD hz6 Q' hq
  ·rintro zs H6 ⟨g6,eD,hz6⟩
   rw[hlen,List.take_of_length_le (aq7 _)]at hz6
   exact q D0 zs H6 g6 hD0 eD hz6
 ·refine⟨_,rfl,a,rfl,.inr ⟨⟨_,ha⟩,fun D0 hD0=>?_⟩⟩
  refine aO (K:=K) (a:=a) (xs:=xs) (ix:=[1]) (σ:=[some (.ref a),some (.ref p)]) (te:=tIf (tB (kS (cP K) [] E0 (jK (jV 0) xE))) (kS (gU K) [] E0 (jK (tY (jV 1) (sD (qV6 K) (jV 0) (tC (.int 1)))) xE)) (jV 0))
   (fun i zs H6=>Grow H H6/\H6 D0=some (.lst zs)/\qO K H6 (((vals.take i).map (Ms.movedV ps)).map AV.dt) zs) ⟨Grow.put hD0,qJ,qA⟩ ?_ ?_ ?_
  ·rintro i zs H6 _ ⟨g6,_⟩
   exact zB.mono g6.same ha
  ·rintro i x zs H6 hx ⟨g6,eD,hz6⟩ Q' hq
   exact step D0 i x zs H6 hD0 hx g6 eD hz6 Q' hq
  ·rintro zs H6 ⟨g6,eD,hz6⟩
   rw[hlen,List.take_of_length_le (aq7 _)]at hz6
   exact q D0 zs H6 g6 hD0 eD hz6
inductive aR(K:Fg)(CH:Addr)(vs:List V)(H:Hp)(Q:VK):Prop
 |mk (H0:Hp) (d:Ad) (m:Ms) (m':Ms) (a_0:vs=[.ref d.hp,.ref d.st]) (a_1:d.CH=CH) (a_2:MS K H0 d m H) (a_3:m.Wf) (a_4:m.collect=some m') (a_5:∀l b zs H',jW K H H'->MS K H0 {d with th:=b} {m with things:=m'.things} H'->H' l=some (.lst zs)->qO K H' (m'.stk.reverse.map AV.dt) zs->H0 l=none->l≠d.pd->l≠b->l≠d.l->Q (.ref l) H'):aR K CH vs H Q
def qN2(K:Fg)(CH:Addr):Sp:=fun vs H Q x_0=>aR K CH vs H Q
theorem cR:qC ["self","values","places","things","place","thing"] ["self","values"] (qU qL9):=by walk_at "s"
theorem qT9(F:zK K "move_together" "Heap.move_together" qL9 .none f fd)(M:Hc K CH)(G:GlH mg)(GP:Kn P w K mg base 2 "new_places" ["things","values"] (qN0 K))(GM:Kn P w K mg base 2 "moved" ["values","places"] (zK1 K)):zQ P w K mg base (CXE P w) 3 f fd ["self","values"] (qN2 K CH):=by
 refine F.ok0 cR (by walk_at "l") ?_
 walk_at "i"
 obtain⟨H0,d,m,m',rfl,rfl,h,hw,he,q⟩:=h
 obtain⟨hfu,ps,ths,hfd,hmm,em⟩:=Ms.collect_of he
 subst em
 refine⟨_,qX (qF (i:=2) cR.nd rfl oI (zO GP hr (qQ (qT (pv 0) rfl) (qQ (pv 1) qZ))))
  (qX (qF (i:=3) cR.nd rfl oI (jQ qZ))
  (qX (vS PassesOwn.never rfl (qT5 (pv 2)) (jO (i:=4) cR.nd rfl oI)
   (qX (qF (i:=5) cR.nd rfl oI (qM zY (qT (pv 0) rfl) (pv 4)))
   (qK (zJ (jT aq0 aq1 aq2 zF (pv 3) (qQ (zW (qQ (qM qP (pv 5) qV) (qQ (jB vC (by rfl) G.tuple PyProof.Rows.boot_tuple (qQ (zO GM hr (qQ (qM qP (pv 5) qV) (qQ (pv 2) qZ))) qZ)) qZ))) qZ))))))
  (qX (jR (pv 0) (pv 3) rfl)
  (qK (qB (zO GM hr (qQ (pv 1) (qQ (pv 2) qZ)))))))),?_⟩
 walk_at "e"
 obtain⟨ts,hts,htd⟩:=h.to
 obtain⟨xs,hxs,hxd⟩:=h.so
 obtain⟨hnd,hlt⟩:=Ms.found_ok hfd List.nodup_nil (by simp)
 obtain⟨_,hall1,hall2⟩:=Ms.found_all hfd
 have hpl:=Ms.nodup_lt_len hnd hlt
 have htl:m.things.length<=1000:=Nat.le_trans hw.tr hw.rm
 refine⟨_,rfl,d.hp,d.CH,d.dh,_,_,rfl,h.ho,M.cl,M.n2,kM _ _,_,rfl,d.th,d.st,ts,xs,m.things,m.stk,_,ps,rfl,hts,htd,hxs,hxd,hfu,hfd,htl,fun p H1 g1 np e1=>?_⟩
 walk_at "d"
 obtain⟨fp0,fp1,fp2,fp3,fp4,fp5,fp6⟩:=h.fresh np
 have h1:=h.grow g1
 refine⟨zl0,fun tl hl=>?_⟩
 walk_at "d"
 obtain⟨ft0,ft1,ft2,ft3,ft4,ft5,ft6⟩:=h1.fresh hl
 have g2:Grow H1 (upd H1 tl (.lst [])):=Grow.put hl
 have e2:(upd H1 tl (.lst [])) tl=some (.lst []):=qJ
 have e1':=g2.same _ _ e1
 have ptl:p≠tl:=qH e1 hl
 have h2:=h1.grow g2
 generalize upd H1 tl (.lst [])=H2 at g2 e2 e1' h2⊢
 have g12:=g1.trans g2
 refine⟨_,rfl,p,_,rfl,e1',fun o=>?_⟩
 have k3:jW K H (upd H2 p (.frz o (.dK (jY 0 ps)))):=xQ (vH g12) (oU e1')
 have h3:=h2.beside (oU (o:=.frz o (.dK (jY 0 ps))) e1') fp0 ⟨_,e1'⟩ fp1 fp2 fp3 fp4 fp5 fp6
 have e3:(upd H2 p (.frz o (.dK (jY 0 ps)))) p=some (.frz o (.dK (jY 0 ps))):=qJ
 have e3':(upd H2 p (.frz o (.dK (jY 0 ps)))) tl=some (.lst []):=(qL ptl.symm).trans e2
 generalize upd H2 p (.frz o (.dK (jY 0 ps)))=H3 at k3 h3 e3 e3'⊢
 refine qMq (d:=p) (o:=o) (kvs:=jY 0 ps) (fun i σ H4=>∃(o4 o5:Option V)(ys:List V),σ=[some (.ref d.hp),some (.ref d.st),some (.ref p),some (.ref tl),o4,o5]/\jW K H H4/\MS K H0 d m H4/\H4 p=some (.frz o (.dK (jY 0 ps)))/\H4 tl=some (.lst ys)/\qO K H4 (((ths.take i).map fun t=>(⟨t.sort,t.held.map (Ms.movedV ps)⟩:Th)).map Th.dt) ys) ?_ ?_ ?_ ?_
 ·exact⟨_,_,[],rfl,k3,h3,e3,e3',qA⟩
 ·rintro i σ H4 _ ⟨o4,o5,ys,rfl,_,_,h,_⟩
  exact h
 ·rintro i pr σ H4 hpr ⟨o4,o5,ys,rfl,k4,h4,ep,et,hys⟩
  have hi:i<ps.length:=by
   have :=(List.getElem?_eq_some_iff.mp hpr).1
   rw[vP]at this;exact this
  have hpi:ps[i]? =some ps[i]:=aq15 hi
  have :=gL 0 ps i ps[i] hpi
  rw[hpr]at this
  cases this
  walk_at "d"
  obtain⟨t,ht1,ht2⟩:=cF hmm hpi
  have hthl:ths.length=ps.length:=Ms.mapM_len hmm
  obtain⟨ts4,ta,ua,ul,q1,q2,q3,q4,q5⟩:=cB h4 ht2
  refine⟨_,rfl,d.hp,d.CH,d.dh,_,_,rfl,h4.ho,M.cl,M.n2,kM _ _,_,rfl,d.th,ts4,_,_,rfl,rfl,zS.of q1,qW q2,?_⟩
  walk_at "d"
  obtain⟨t',ht3,hcl⟩:=hall2 ps[i] (List.getElem_mem hi) (by simp)
  have et':t'=t:=by rw[ht2]at ht3;exact(Option.some.inj ht3).symm
  subst et'
  have hhl:t'.held.length<=10000000:=by
   have h1:=Ms.held_le (m:=m) ht2
   omega
  refine⟨_,rfl,.inl ⟨rfl,_,zS.of et⟩,_,rfl,ta,_,_,_,rfl,rfl,q3,qW (j:=0) rfl,_,rfl,ta,_,_,_,rfl,rfl,q3,qW (j:=1) rfl,_,rfl,ua,p,ul,t'.held,ps,o,rfl,.inr q4,q5,ep,hcl,hhl,fun l5 zs H5 g5 n5 e5 hz5=>?_⟩
  refine⟨l5,zs,rfl,.inl ⟨zS.of e5,fun t6 ht6=>?_⟩⟩
  have g6:Grow H5 (upd H5 t6 (.tup zs)):=Grow.put ht6
  have e6:(upd H5 t6 (.tup zs)) t6=some (.tup zs):=qJ
  generalize upd H5 t6 (.tup zs)=H6 at g6 e6⊢
  refine⟨zl2,fun t7 ht7=>?_⟩
  have g7:Grow H6 (upd H6 t7 (.tup [.str t'.sort.str,.ref t6])):=Grow.put ht7
  have e7:(upd H6 t7 (.tup [.str t'.sort.str,.ref t6])) t7=some (.tup [.str t'.sort.str,.ref t6]):=qJ
  generalize upd H6 t7 (.tup [.str t'.sort.str,.ref t6])=H7 at g7 e7⊢
  have g47:=(g5.trans g6).trans g7
  have hx7:qY K H7 (Th.dt ⟨t'.sort,t'.held.map (Ms.movedV ps)⟩) (.ref t7):=wH (zB.of e7) (wX (zB.of (g7.same _ _ e6)) (hz5.mono (g6.trans g7).same))
  have et7:=g47.same _ _ et
  have h7:=h4.grow g47
  have hyl:ys.length=i:=by rw[hys.length,aq16,aq16,List.length_take];omega
  refine⟨tl,ys,_,rfl,rfl,et7,by rw[sizeLine_eq];omega,?_⟩
  have kt8:=zP (K:=K) (ys:=ys++[.ref t7]) et7
  refine⟨_,_,ys++[.ref t7],rfl,xQ (xQ k4 (vH g47)) kt8,h7.beside kt8 ft0 ⟨_,et7⟩ ft1 ft2 ft3 ft4 ft5 ft6,(qL ptl).trans (g47.same _ _ ep),qJ,?_⟩
  rw[List.take_add_one,ht1,aq21,aq21]
  exact qO.append (qO.monoT kt8 (hys.mono g47.same)) (qG (qY.monoT kt8 hx7) qA)
 ·rintro σ H4 ⟨o4,o5,ys,rfl,k4,h4,ep,et,hys⟩
  rw[vP,<-Ms.mapM_len hmm,List.take_of_length_le (aq7 _)]at hys
  refine⟨_,rfl,_,rfl,d.hp,d.CH,d.dh,_,rfl,h4.ho,M.cl,M.n2,zX4 _ _,?_⟩
  rw[qLj]
  have h5:=h4.newT et hys ft0 ft3 ft4 ft6
  have kt5:=jA (K:=K) (gs:=hfl {d with th:=tl} m) h4.ho
  have ep5:(upd H4 d.hp (.ins d.CH d.dh (hfl {d with th:=tl} m))) p=some (.frz o (.dK (jY 0 ps))):=(qL fp2).trans ep
  have k5:=xQ k4 kt5
  show Ends.nx _ _ (upd H4 d.hp (.ins d.CH d.dh (hfl {d with th:=tl} m)))
  generalize upd H4 d.hp (.ins d.CH d.dh (hfl {d with th:=tl} m))=H5 at h5 ep5 k5⊢
  obtain⟨xs5,hs5,hd5⟩:=h5.so
  have hsl:m.stk.length<=10000000:=by have :=hw.hs;unfold Ms.high at this;omega
  refine⟨_,rfl,_,rfl,d.st,p,xs5,m.stk.reverse,ps,o,rfl,.inl (zS.of hs5),hd5,ep5,fun k hk=>hall1 k (List.mem_reverse.mp hk),by rw[List.length_reverse];exact hsl,fun l zs H6 g6 n6 e6 hz6=>?_⟩
  obtain⟨f0,f1,f2,f3,f4,f5,f6⟩:=h5.fresh n6
  refine q l tl zs H6 (xQ k5 (vH g6)) (h5.grow g6) e6 ?_ f0 f4 f5 f6
  show qO K H6 ((m.stk.map (Ms.movedV ps)).reverse.map AV.dt) zs
  rw[<-List.map_reverse]
  exact hz6
theorem zP2:qC ["self"] ["self"] (qU zIq):=by walk_at "s"
theorem zGq(F:zK K "collect" "Machine.collect" zIq .none f fd)(M:Mc K C)(N:Hc K CH)(mM:Meth K CH "move_together" fM)(GM:zQ P w K mg base (CXE P w) 3 fM fdM ["self","values"] (qN2 K CH))(bM:Binds K fdM ["self","values"] [])(mU:Meth K CH "used" fU)(GU:zQ P w K mg base (CXE P w) 1 fU fdU ["self"] (qX1 K CH fun m=>.int (m.things.length:Nat)))(bU:Binds K fdU ["self"] []):zQ P w K mg base (CXE P w) 4 f fd ["self"] (qM2 K C CH):=by
 refine F.ok0 zP2 (by walk_at "l") ?_
 walk_at "i"
 obtain⟨H0,d,m,m',rfl,rfl,rfl,h,hw,he,q⟩:=h
 have h1r:=hr.mono (show 1<=3 by omega)
 refine⟨_,qX (jR (pv 0) (kQ (qT (pv 0) rfl) N.cl mM GM hr bM .nil zD (qQ (qT (pv 0) rfl) qZ)) rfl)
  (qK (qB (vN (qT (pv 0) rfl) N.cl mU GU h1r bU .nil zD))),?_⟩
 walk_at "e"
 refine⟨_,rfl,d.m,d.C,d.dx,_,_,rfl,h.mo,M.cl,M.n2,wK _ _,d.hp,d.dh,_,rfl,h.ho,kF _ _ (by decide+kernel),_,rfl,d.m,d.C,d.dx,_,_,rfl,h.mo,M.cl,M.n3,xL _ _,H0,d,m,m',rfl,rfl,h,hw,he,fun l b zs H1 k1 h1 e1 hz1 f0 f1 f2 f3=>?_⟩
 refine⟨_,rfl,d.m,d.C,d.dx,_,rfl,h1.mo,M.cl,M.n3,yC _ _,?_⟩
 have h2:MS K H0 (d.mv l b) {m with things:=m'.things,stk:=m'.stk} (upd H1 d.m (.ins d.C d.dx (mfl {d with st:=l} m))):=h1.newS e1 hz1 f0 f1 f2 f3
 rw[show mfl {d with th:=b} {m with things:=m'.things}=mfl d m from rfl,qRz]
 have kt2:=jA (K:=K) (gs:=mfl {d with st:=l} m) h1.mo
 have k2:=xQ k1 kt2
 show Ends.nx _ _ (upd H1 d.m (.ins d.C d.dx (mfl {d with st:=l} m)))
 generalize upd H1 d.m (.ins d.C d.dx (mfl {d with st:=l} m))=H2 at k2 h2⊢
 have em:({m with things:=m'.things,stk:=m'.stk}:Ms)=m':=by
  obtain⟨_,ps,ths,_,_,em⟩:=Ms.collect_of he
  subst em;rfl
 have h3:MS K H0 (d.mv l b) m' H2:=Eq.mp (congrArg (fun x=>MS K H0 (d.mv l b) x H2) em) h2
 refine⟨_,rfl,d.m,d.C,d.dx,_,_,rfl,h3.mo,M.cl,M.n2,wK _ _,d.hp,d.dh,_,rfl,h3.ho,kF _ _ (by decide+kernel),H0,d.mv l b,m',rfl,rfl,h3,?_⟩
 exact q l b H2 k2 h3
end
end K23
inductive Ds where
 |str (x:PySem.Str)|int (n:Int)|bl (b:Bool)|var (i:Nat)|tup (l:List Ds)
namespace L2
open PySem PySem.Spec PyProof.Rows PyProof Dt
mutual
def dsE:Ds->TE
 | .str x=>tC (.str x)
 | .int n=>tC (.int n)
 | .bl b=>tC (.bl b)
 | .var i=>jV i
 | .tup l=>qZ0 (dsA l)
def dsA:List Ds->TA
 |[]=>xE
 |d::l=>jK (dsE d) (dsA l)
end
mutual
def dsD(ρ:Nat->Dt):Ds->Dt
 | .str x=>.str x
 | .int n=>.int n
 | .bl b=>.bl b
 | .var i=>ρ i
 | .tup l=>.tup (sY ρ l)
def sY(ρ:Nat->Dt):List Ds->List Dt
 |[]=>[]
 |d::l=>dsD ρ d::sY ρ l
end
mutual
def qN3(vs:List Nat):Ds->Bool
 | .var i=>vs.contains i
 | .tup l=>decide (l.length<=100)&&aT vs l
 |_=>true
def aT(vs:List Nat):List Ds->Bool
 |[]=>true
 |d::l=>qN3 vs d&&aT vs l
end
theorem hW(ρ:Nat->Dt):∀l:List Ds,(sY ρ l).length=l.length
 |[]=>rfl
 |d::l=>by rw[sY,aq17,aq17,hW]
section
variable {K:Fg} {ρ:Nat->Dt} {σ:St} {vs:List Nat}
mutual
theorem aA:∀(d:Ds)(H:Hp)(Q:VK),qN3 vs d=true->(∀i∈vs,∃v,σ[i]? =some (some v)/\qY K H (ρ i) v)->(∀v H',Grow H H'->qY K H' (dsD ρ d) v->Q v H')->dsE d σ H Q
 | .str x,H,Q,_,_,q=>q _ H (Grow.refl H) (by rw[dsD,qY])
 | .int x,H,Q,_,_,q=>q _ H (Grow.refl H) (by rw[dsD,qY])
 | .bl x,H,Q,_,_,q=>q _ H (Grow.refl H) (by rw[dsD,qY])
 | .var i,H,Q,ho,hv,q=>by
  rw[qN3]at ho
  obtain⟨v,h1,h2⟩:=hv i (by simpa using ho)
  exact⟨v,h1,q v H (Grow.refl H) (by rw[dsD];exact h2)⟩
 | .tup l,H,Q,ho,hv,q=>by
  rw[qN3,Bool.and_eq_true]at ho
  refine qN4 l H _ ho.2 hv fun xs H1 g1 hx=>?_
  have hl:xs.length=l.length:=by rw[hx.length,hW]
  refine⟨by have :=of_decide_eq_true ho.1;rw[sizeLine_eq];omega,fun p hp=>?_⟩
  have g2:Grow H1 (upd H1 p (.tup xs)):=Grow.put hp
  exact q _ _ (g1.trans g2) (by rw[dsD,qY];exact⟨p,xs,rfl,zB.of qJ,hx.mono g2.same⟩)
theorem qN4:∀(l:List Ds)(H:Hp)(Q:List V->Hp->Prop),aT vs l=true->(∀i∈vs,∃v,σ[i]? =some (some v)/\qY K H (ρ i) v)->(∀xs H',Grow H H'->qO K H' (sY ρ l) xs->Q xs H')->dsA l σ H Q
 |[],H,Q,_,_,q=>q [] H (Grow.refl H) (by rw[sY,qO])
 |d::l,H,Q,ho,hv,q=>by
  rw[aT,Bool.and_eq_true]at ho
  refine aA d H _ ho.1 hv fun v H1 g1 h1=>?_
  refine qN4 l H1 _ ho.2 (fun i hi=>let⟨u,a,b⟩:=hv i hi;⟨u,a,b.mono g1.same⟩) fun xs H2 g2 h2=>?_
  exact q (v::xs) H2 (g1.trans g2) (by rw[sY,qO];exact⟨v,xs,rfl,h1.mono g2.same,h2⟩)
end
end
structure PEd(X:Cx)(e:Expr)(d:Ds):Prop where
 h:PE X e (dsE d)
structure PAd(X:Cx)(es:List Expr)(l:List Ds):Prop where
 h:PA X es (dsA l)
section
variable {X:Cx} {es rest:List Expr} {l l':List Ds} {j k:Nat} {p:Pos} {x:Str} {n:Int} {b:Bool} {i:Nat}
theorem dn:PAd X [] []:=⟨qZ⟩
theorem dS(hr:PAd X rest l):PAd X (.Constant (.str x) j p::rest) (.str x::l):=⟨qQ qI hr.h (by rfl)⟩
theorem dI(hr:PAd X rest l):PAd X (.Constant (.int n) j p::rest) (.int n::l):=⟨qQ qV hr.h (by rfl)⟩
theorem dT(h:PAd X es l)(hr:PAd X rest l'):PAd X (.Tuple es k p::rest) (.tup l::l'):=⟨qQ (zW h.h) hr.h (by rfl)⟩
theorem dX(h:PE X (.Name x p) (jV i))(hr:PAd X rest l):PAd X (.Name x p::rest) (.var i::l):=⟨qQ h hr.h (by rfl)⟩
theorem zP3(h:PAd X es l):PEd X (.Tuple es k p) (.tup l):=⟨zW h.h⟩
end
structure PSb(X:Cx)(ss:List Stmt)(t:TS):Prop where
 h:PSs X ss t
section
variable {X:Cx} {st:Stmt} {ta':TA} {t tr:TS} {r:List Stmt} {es es2:List Expr} {l l2:List Ds} {kk k2:Nat} {p p2 p3 pos pos' apos cpos:Pos} {x:Str} {i:Nat} {o a b c e:Expr} {ta tb tc te:TE} {r2:R2}
theorem bS(h:PS X st t)(hr:PSb X r tr):PSb X (st::r) (uD t tr):=⟨qX h hr.h⟩
theorem bO(h:PS X st t):PSb X [st] t:=⟨qK h⟩
theorem unb{R:TS->Prop}{ss:List Stmt}(h:∃t,PSb X ss t/\R t):∃t,PSs X ss t/\R t:=let⟨t,a,b⟩:=h;⟨t,a.h,b⟩
theorem zP4(hN:X.N.Nodup)(hi:X.N[i]? =some x)(hx:Loc X.env.scope x)(h:PAd X es l)(hr:PSb X r tr)(hf:X.fn x=true\/X.env.scope.names.lookup x=some .local:=by first|exact .inl rfl|exact .inr rfl|assumption):
  PSb X (.Assign [.Name x pos'] (.Tuple es kk p) pos::r) (uD (mQ (dsE (.tup l)) (kO i)) tr):=⟨qX (qF hN hi hx (zW h.h) (by rfl) hf) hr.h⟩
end
section
variable {K:Fg} {ρ:Nat->Dt} {σ:St} {vs:List Nat} {d d2:Ds} {j:Nat} {tr:TS} {D:Ends} {H:Hp} {ta tb:TE} {r2:R2}
theorem sU(ho:qN3 vs d=true)(hv:∀i∈vs,∃v,σ[i]? =some (some v)/\qY K H (ρ i) v)(q:∀v H',Grow H H'->qY K H' (dsD ρ d) v->tr D (σ.set j (some v)) H'):uD (mQ (dsE d) (kO j)) tr D σ H:=
 aA d H (fun x H1=>kO j x σ H1 (tr D)) ho hv q
end
end L2
namespace L2
open PySem PySem.Spec PyProof.Rows PyProof
open Dt
section
variable {X:Cx} {t tr ta:TS} {r sa:List Stmt} {es es2 es3:List Expr} {l l2 l3:List Ds} {kk k2 k3:Nat} {p p2 p3 p4 pos pos' apos:Pos} {x:Str} {i:Nat} {b c:Expr} {tb:TE} {r2:R2} {tc:TT}
theorem qTq(hN:X.N.Nodup)(hi:X.N[i]? =some x)(hx:Loc X.env.scope x)(h:PAd X es l)(hf:X.fn x=true\/X.env.scope.names.lookup x=some .local:=by first|exact .inl rfl|exact .inr rfl|assumption):
  PS X (.Assign [.Name x pos'] (.Tuple es kk p) pos) (mQ (dsE (.tup l)) (kO i)):=qF hN hi hx (zW h.h) (by rfl) hf
end
section
variable {K:Fg} {ρ:Nat->Dt} {σ:St} {vs:List Nat} {d d2 d3:Ds} {j:Nat} {tr:TS} {D:Ends} {H:Hp} {tb:TE} {r2:R2}
theorem aE{tc:TT}{t:TS}{b:Bool}(S:St->Hp->Prop)(htc:∀Q,Q b H->tc σ H Q)(hT:b=true->∀D':Ends,(∀σ' H',S σ' H'->D'.nx σ' H')->t D' σ H)(hF:b=false->S σ H)(q:∀σ' H',S σ' H'->D.nx σ' H'):qK5 tc t sN D σ H:=by
 refine htc _ ?_
 cases b
 ·exact jJ (q _ _ (hF rfl))
 ·exact jC (hT rfl D q)
end
structure PAw(X:Cx)(es:List Expr)(t:TA):Prop where
 h:PA X es t
section
variable {X:Cx} {e:Expr} {es rest:List Expr} {te:TE} {t t':TA} {j k i:Nat} {p pos pos':Pos} {x:Str}
theorem wn:PAw X [] xE:=⟨qZ⟩
theorem ws(hr:PAw X rest t):PAw X (.Constant (.str x) j p::rest) (jK (tC (.str x)) t):=⟨qQ qI hr.h (by rfl)⟩
theorem wt(h:PAw X es t)(hr:PAw X rest t'):PAw X (.Tuple es k p::rest) (jK (qZ0 t) t'):=⟨qQ (zW h.h) hr.h (by rfl)⟩
theorem we(h:PE X e te)(hr:PAw X rest t)(hs:starEach (e::rest) X.env=(false,eval e X.env)::starEach rest X.env:=by rfl):PAw X (e::rest) (jK te t):=⟨qQ h hr.h hs⟩
theorem qTz(hN:X.N.Nodup)(hi:X.N[i]? =some x)(hx:Loc X.env.scope x)(h:PAw X es t)(hf:X.fn x=true\/X.env.scope.names.lookup x=some .local:=by first|exact .inl rfl|exact .inr rfl|assumption):
  PS X (.Assign [.Name x pos'] (.Tuple es k p) pos) (mQ (qZ0 t) (kO i)):=qF hN hi hx (zW h.h) (by rfl) hf
end
end L2
namespace L2
open PySem PySem.Spec PySem.W PyProof.Rows PyProof
section
variable {prog:Program} {w:World} {A:Around} {E:Value->Shared->Prop} {s:Shared} {K:Fg} {x C:Addr} {ox:Obj} {od:Option Obj}
theorem hU{Q:Option Value->Shared->Prop}{b:Value}(X:K.In s.heap)(I:W.InstAt s.heap x ox C od)(hs:findIn K (.ref C) "__eq__"=some (some (.builtin "object.__eq__")))
  (h:wpAny (model prog w) A (call (.builtin "object.__eq__") [.ref x,b]) (fun v=>Q (some v)) E s):wpAny (model prog w) A (callSpecialIfBound? (.ref x) "__eq__" [b]) Q E s:=by
 simp only[callSpecialIfBound?,bindSpecialIfBound?]
 refine wpAny_holding (wpAny_bind (wpAny_bind (wpAny_bind (I.type.here ((looks_findIn X hs).here ?_)))))
 simp only[PySem.F.cmp_object.eq.bind]
 refine wpAny_bind (wpAny_askSetting (wpAny_ite ?_))
 have fin:wpAny (model prog w) A (call (.builtin "object.__eq__") ([.ref x]++[b])>>=fun v=>pure (some v)) Q E s:=
  wpAny_bind (wpAny_mono h (fun v s' h'=>wpAny_pure h') fun _ _ h'=>h')
 split
 ·exact wpAny_bind (wpAny_pure (wpAny_pure fin))
 ·exact wpAny_tryCatch (wpAny_bind (wpAny_pure (wpAny_pure fin)))
theorem gG{M:Model}{z:Str}{tk:Tok}{Q:Fin->Shared->Prop}(hx:s.heap.get? x=some ox)(hd:∀v,ox.data≠ .prim v)(hq:Q (.done (.ret .notImplemented)) s):wpAny M A (Builtin.«str.__eq__» ⟨[.str z tk,.ref x],[]⟩) Q E s:=by
 unfold Builtin.«str.__eq__»
 repeat wp_step
 split
 ·rename_i h;exact absurd h (hd _)
 ·repeat wp_step
  exact hq
theorem qN5{Q:Value->Shared->Prop}{z:Str}{tk:Tok}(X:K.In s.heap)(I:W.InstAt s.heap x ox C od)(hm:mroIn K C (.type "object")=some true)(hq:Q .notImplemented s):
  wpAny (model prog w) A (call (.builtin "object.__eq__") [.ref x,.str z tk]) Q E s:=by
 refine wpAny_call (codeAny_call_builtin PySem.F.cmp_object.eq.plain PySem.F.cmpEntry_eq ?_)
 simp only[checkBuiltinCall,PySem.F.cmpKind_eq,PySem.F.cmpSplit_eq]
 refine wpAny_bind ?_
 unfold isInstance
 refine wpAny_bind (I.type.here ((looks_mroIn X hm).here ?_))
 have ha:=PySem.F.cmpArgs_eq (.ref x) (.str z tk)
 repeat wp_step
 exact hq
theorem cS{Q:Option Value->Shared->Prop}{z:Str}{tk:Tok}(hx:s.heap.get? x=some ox)(hd:∀v,ox.data≠ .prim v)(hq:Q (some .notImplemented) s):
  wpAny (model prog w) A (callSpecialIfBound? (.str z tk) "__eq__" [.ref x]) Q E s:=by
 refine wpAny_callSpecialIfBound?_slot (name:="__eq__") (typeIs_str _ _ _) slot_str_eq ?_
 refine wpAny_call (codeAny_call_builtin slot_str_eq.plain entry_str_eq ?_)
 simp only[checkBuiltinCall,show builtinKind "str.__eq__"=some .slot by decide+kernel,show splitId "str.__eq__"=some ("str","__eq__") by decide+kernel]
 refine wpAny_bind (wpAny_isInstance (typeIs_str _ _ _) isSubtype_str_str ?_)
 have ha:=args_str_eq (.str z tk) (.ref x)
 cases hsig:Manifest.signature? "str.__eq__" with
 |none=>exact wpAny_pure (gG hx hd hq)
 |some sig=>
  simp only[argsOk,hsig]at ha
  have h2:Bind.checkArgs "str.__eq__" sig ⟨[.str z tk,.ref x],[]⟩=pure ():=ha
  show wpAny _ _ (Bind.checkArgs "str.__eq__" sig ⟨[.str z tk,.ref x],[]⟩) _ _ _
  rw[h2];exact wpAny_pure (gG hx hd hq)
theorem sO{Q:Value->Shared->Prop}{z:Str}{tk:Tok}(X:K.In s.heap)(I:W.InstAt s.heap x ox C od)(hd:∀v,ox.data≠ .prim v)(hs:findIn K (.ref C) "__eq__"=some (some (.builtin "object.__eq__")))(hm:mroIn K C (.type "object")=some true)(hu:A.units<cLine)(hq:Q (.bool false) s):
  wpAny (model prog w) A (compareOp .Eq (.ref x) (.str z tk)) Q E s:=by
 show wpAny _ _ (richCompare .Eq (.ref x) (.str z tk)) _ _ _
 simp only[richCompare,cmpInfo_Eq]
 refine wpAny_holding (wpAny_bind (wpAny_cRoomFor hu ?_))
 refine wpAny_bind (I.type.here ?_)
 refine wpAny_bind ?_
 repeat wp_step
 rw[show isSubtype (.type "str") (.ref C)=pure false by rw[isSubtype_type];rfl]
 refine wpAny_pure ?_
 rw[if_neg (by decide)]
 simp only[tryCompare]
 refine wpAny_bind (wpAny_bind (hU X I hs (qN5 X I hm (wpAny_pure ?_))))
 dsimp only
 rw[if_pos (by decide)]
 refine wpAny_bind (wpAny_bind (cS I.at_ hd (wpAny_pure ?_)))
 repeat wp_step
 exact hq
end
structure EqC(K:Fg)(C:Addr):Prop where
 eq:findIn K (.ref C) "__eq__"=some (some (.builtin "object.__eq__"))
 ob:mroIn K C (.type "object")=some true
theorem eQ{X:Cx}(hu:X.A.units<cLine):yP X (compareOp .Eq) (fun x y H Q=>(∃p C dx fs z,x= .ref p/\y= .str z/\H p=some (.ins C dx fs)/\EqC X.K C/\Q (.bl false) H)\/∃a z,x= .str a/\y= .str z/\Q (.bl (decide (a=z))) H):=by
 intro pins s σ H x y v u Q I rx ry h
 rcases h with⟨p,C,dx,fs,z,rfl,rfl,e,c,q⟩|⟨a,z,rfl,rfl,q⟩
 ·obtain rfl:v=Value.ref p:=rx
  obtain⟨tk,rfl⟩:=ry
  obtain⟨mA,O,_⟩:=iX I.hok e
  obtain⟨od,J,_⟩:=O.look
  exact sO I.kIn J (fun v h=>by cases h) c.eq c.ob hu ⟨.bl false,H,I,rfl,q⟩
 ·refine jS pins s σ H _ _ v u Q I rx ry ⟨rfl,?_⟩
  have e:decide (V.str a=V.str z)=decide (a=z):=by
   by_cases h:a=z
   ·subst h;simp
   ·rw[decide_eq_false h,decide_eq_false fun y=>h (by injection y)]
  show Q (.bl (decide (V.str a=V.str z))) H
  rw[e];exact q
section
variable {X:Cx} {k:Nat} {f C:Addr} {fd:FuncData} {ps:List Str} {ds:List Value} {dvs:List V} {sp:Sp} {x m:Str} {p pos apos:Pos} {e o:Expr} {es:List Expr} {ta:TE} {t:TA}
theorem qN6{pl:Sem Bool}(he:PE X.nox o ta)(c:Cls X.K C)(hm:Meth X.K C m f)(F:zQ X.prog X.w X.K X.mg X.base (CXE X.prog X.w) k f fd ps sp)(hr:Room k X.A)(hb:Binds X.K fd ps ds)(hd:Vals dvs ds)
  (ht:eval (.Call (.Attribute o m apos) [] [] pos) X.env=(do
   let ov<-eval o X.env
   standAt apos.atName
   let(f,first)<-holding [ov] (getMethod ov m pl)
   callWith pos f first (backTo pos (starEach [] X.env)) (backToKw pos (keywordEach [] X.env))):=by rfl):
  PEx X (.Call (.Attribute o m apos) [] [] pos) (fun σ H Q E=>sT C m sp dvs E ta xE σ H Q):=by
 intro pins s σ H Q E I h
 refine PySem.W.methodCall_KW (pl:=pl) (wpAny_mono (he pins s σ H _ (I.wish _) h) (fun u s1⟨x,H1,I1,rx,a,dx,fs,ex,ea,l,q⟩=>?_) fun _ _ z=>False.elim z) ht
 subst ex
 obtain rfl:u=Value.ref a:=rx
 have I2:=I1.unwish
 refine vE I2 ea c hm l ?_
 have r2:Vals (V.ref a::dvs) (Value.ref a::ds):=.cons rfl hd
 have hl:(Value.ref a::ds).length=ps.length:=r2.length.symm.trans (F.len _ _ _ _ q)
 refine PySem.W.callWith_K0 (first:=[.ref a]) I2.kIn hm.kp ?_
 refine wpAny_call (codeAny_mono (F.run X.A X.stack s1 H1 ⟨[.ref a],[]⟩ (.ref a::ds) (.ref a::dvs) Q E hr I2.env0 (hb s1 [.ref a] I2.kIn hl) r2 q) fun r s' hq=>?_)
 cases r with
 |error e=>exact I2.xp hq
 |ok fl=>
  cases fl with
  |ret u=>exact I2.after hq
  |next=>exact False.elim hq
  |brk=>exact False.elim hq
  |cont=>exact False.elim hq
theorem qTj(M:Mk X.K C f)(F:zQ X.prog X.w X.K X.mg X.base (CXE X.prog X.w) k f fd ps sp)(hr:Room (k+1) X.A)(hg:Gl X x)(hm:X.mg x=some (.ref C))(hb:Binds X.K fd ps ds)(hd:Vals dvs ds)
  (ha:PA X.nox (e::es) t)(hdb:(x==("__debug__":Str))=false:=by decide)(he:starEach (e::es) X.env=(false,eval e X.env)::starEach es X.env:=by rfl)(hpl:(backTo pos (starEach es X.env)).any (·.1)=false:=by rfl):
  PEx X (.Call (.Name x p) (e::es) [] pos) (fun σ H Q E=>zQ1 C sp dvs E t σ H Q):=by
 intro pins s σ H Q E I h
 refine wpAny_Call_Name_kw (kT I hg hm ?_ hdb)
 refine PySem.W.callWith_K (h₀:=X.base) I.ok.mod.kin M.kp (wpAny_mono (ha pos pins s σ H _ (I.wish _) h) (fun us s1⟨vs,H1,I1,r,q⟩=>⟨I1.unwish.kIn,?_⟩) fun _ _ z=>False.elim z) he hpl
 have I:=I1.unwish
 have hq:=q (s1.heap.objs.size+1) s1.heap.objs.size (I.hok.fresh (Nat.le_succ _)) (I.hok.fresh (aq7 _)) (aq9 (Nat.lt_succ_self _))
 have I2:=Inv.made (C:=C) I
 have r2:Vals (V.ref (s1.heap.objs.size+1)::(vs++dvs)) (Value.ref (s1.heap.objs.size+1)::(us++ds)):=.cons rfl (r.append hd)
 have hl:(Value.ref (s1.heap.objs.size+1)::us++ds).length=ps.length:=by
  have e:=r2.length
  rw[F.len _ _ _ _ hq]at e
  exact e.symm
 refine wpAny_call (bP (f:=f) I.kIn M.makes M.init (beq_iff_eq.mp M.fn) (codeAny_mono (F.run _ X.stack _ _ ⟨Value.ref (s1.heap.objs.size+1)::us,[]⟩ (Value.ref (s1.heap.objs.size+1)::(us++ds)) _ _ E (hr.make C us [])
  (I2.env0.make C us []) (hb _ (Value.ref (s1.heap.objs.size+1)::us) I2.kIn hl) r2 hq) fun r s' hq'=>?_))
 cases r with
 |error e=>exact I2.xp hq'
 |ok fl=>
  cases fl with
  |ret u=>
   obtain⟨v,H',I3,rv,ev,q3⟩:=I2.after hq'
   subst ev
   exact⟨rv,⟨V.ref (s1.heap.objs.size+1),H',I3,rfl,q3⟩⟩
  |next=>exact False.elim hq'
  |brk=>exact False.elim hq'
  |cont=>exact False.elim hq'
end
def zK3(K:Fg)(ts1 ts2:Addr->TS)(i:Nat)(C1 C2:Addr)(D:Ends)(σ:St):XK:=fun cls oe H1=>∃e C bm,cls= .ref C/\oe=some e/\XC K C bm/\
 (((Value.ref C::bm).contains (.ref C1)=true/\ts1 e {nx:=fun _ _=>False,rt:=D.rt} (σ.set i (some (.ref e))) H1)\/
  ((Value.ref C::bm).contains (.ref C1)=false/\(Value.ref C::bm).contains (.ref C2)=true/\ts2 e {nx:=fun _ _=>False,rt:=D.rt} (σ.set i (some (.ref e))) H1))
def zP5(K:Fg)(tb:TSx)(ts1 ts2:Addr->TS)(i:Nat)(C1 C2:Addr):TS:=fun D σ H=>tb D (zK3 K ts1 ts2 i C1 C2 D σ) σ H
theorem qA0{X:Cx}{st b₀ b₁:Stmt}{tb:TSx}{c1 c2 n:Str}{i:Nat}{su1 su2:List Stmt}{ts1 ts2:Addr->TS}{C1 C2:Addr}{bm1 bm2:List Value}{p hp p' hp' pos:Pos}(hstk:X.stack=X.env::X.outer)(hfr:X.env.frame=some X.env.locals)(hb:PSx X st tb)
  (hg1:Gl X c1)(hm1:X.mg c1=some (.ref C1))(xd1:XC X.K C1 bm1)(hg2:Gl X c2)(hm2:X.mg c2=some (.ref C2))(xd2:XC X.K C2 bm2)(hN:X.N.Nodup)(hi:X.N[i]? =some n)(hl:X.env.scope.names.lookup n=some .local)
  (hs1:∀e,PSs (X.suite e) (b₀::su1) (ts1 e))(hs2:∀e,PSs (X.suite e) (b₁::su2) (ts2 e))(hdb1:(c1==("__debug__":Str))=false:=by decide)(hdb2:(c2==("__debug__":Str))=false:=by decide):
  PS X (.Try [st] [.ExceptHandler (some (.Name c1 p)) (some n) (b₀::su1) hp,.ExceptHandler (some (.Name c2 p')) (some n) (b₁::su2) hp'] [] [] pos) (zP5 X.K tb ts1 ts2 i C1 C2):=by
 intro pins s σ H D I h
 refine wpAny_Try_except (wpAny_mono (Q:=SP X pins D) (E:=XP X pins σ (zK3 X.K ts1 ts2 i C1 C2 D σ)) ?_ (fun f s1 q=>?_) fun x s1 hx=>?_)
 rotate_left
 ·cases f with
  |next=>exact wpAny_execs_nil q
  |ret u=>exact q
  |brk=>exact q
  |cont=>exact q
 rotate_right
 ·refine wpAny_execs_cons (thn (hb pins s σ H D _ I h) fun f s1 q=>?_)
  cases f with
  |next=>exact wpAny_execs_nil q
  |ret u=>exact q
  |brk=>exact q
  |cont=>exact q
 ·obtain⟨e,C,t,T,d,H1,rfl,I1,he,hT,fx,e',C',bm,e1,e2,xc,q⟩:=hx
  cases e1
  cases e2
  refine thn (I1.noted hstk hfr he hT fx (Q:=fun _ s2=>_) fun s2 T2 I2 hT2 fx2=>?_) fun _ _ z=>z
  have J2:Inv (X.suite e) pins σ H1 s2:=I2.re (fun h=>by cases h) rfl
  obtain⟨nm,qq,N',bs,sn,sub,ab,col,dd,k0,k1,k2,k3,k5,lC⟩:=xc.obj
  obtain⟨vs',sl,ho,hz6,h0,h1⟩:=iV (I2.hok e _ he)
  have KX:=I2.kIn
  obtain⟨hh,g,dr,tk,os⟩:=s2
  have take:∀{c:Str}{Cd:Addr}{bmD:List Value}{b:Stmt}{su:List Stmt}{ts:Addr->TS}{p hp:Pos}{rest:List ExceptHandler},Gl X c->X.mg c=some (.ref Cd)->XC X.K Cd bmD->(∀e,PSs (X.suite e) (b::su) (ts e))->(c==("__debug__":Str))=false->(Value.ref C::bm).contains (.ref Cd)=true->ts e {nx:=fun _ _=>False,rt:=D.rt} (σ.set i (some (.ref e))) H1->
    wpAny (model X.prog X.w) X.A (handleBy (.ref e) X.env (.ExceptHandler (some (.Name c p)) (some n) (b::su) hp::rest)) (SP X pins D) X.xe ⟨hh,g,dr,tk,os⟩:=by
   intro c Cd bmD b su ts p hp rest hg hm xd hs hdb hcon q
   refine XA.handle_as (kT (X:=X.suite e) J2 hg hm ?_ hdb)
   obtain⟨nm',qq',N'',bs',sn',sub',ab',col',dd',j0,j1,j2,j3,j5,lD⟩:=xd.obj
   refine XA.matches_x (KX _ _ lC) (KX _ _ lD) ho rfl xd.ab.base hcon ⟨rfl,?_⟩
   refine XA.flight_some fx2 fun h3 f3 k3' k4=>?_
   obtain⟨t0,t1,t2,t3,t4,t5⟩:=hT2
   have J3:Inv (X.suite e) pins σ H1 ⟨h3,g,dr,tk,os⟩:=J2.turned (t':=tk) (fun b o hb q=>k3' b o hb q) t0 t1 t3 t4 t5
   refine wI (X:=X.suite e) J3 hN hi (.inl hl) (v:=.ref e) rfl (fun s4 J4=>?_) (.inr hl)
   refine wpAny_mono (hs e pins s4 _ H1 _ J4 q) (fun f s5 r5=>?_) fun _ _ z=>z
   cases f with
   |next=>obtain⟨_,_,_,z⟩:=r5;exact z.elim
   |brk=>obtain⟨_,_,_,z⟩:=r5;exact z.elim
   |cont=>obtain⟨_,_,_,z⟩:=r5;exact z.elim
   |ret u=>
    obtain⟨v,σ5,H5,J5,rv,q5⟩:=r5
    obtain⟨m,hn,_⟩:=J5.loc
    have hcls:(X.env.scope.kind== .class||(X.env.scope.kind== .module&&X.env.locals !=X.env.globals))=false:=by rw[I.ok.kind];rfl
    have K5:Inv X pins σ5 H5 s5:=J5.re (X:=X.suite e) (A':=X.A) (cm:=X.calm) (E':=X.xe) I.ok.hd rfl
    exact wpAny_nameGoes hl hn hcls fun h6 m6 hn6 hs6=>⟨v,_,H5,K5.forgot hn6 hs6,rv,q5⟩
  rcases q with⟨hcon,q⟩|⟨hno,hcon,q⟩
  ·exact take hg1 hm1 xd1 hs1 hdb1 hcon q
  ·refine XA.handle_on (kT (X:=X.suite e) J2 hg1 hm1 ?_ hdb1)
   obtain⟨nm',qq',N'',bs',sn',sub',ab',col',dd',j0,j1,j2,j3,j5,lD⟩:=xd1.obj
   exact XA.matches_x (KX _ _ lC) (KX _ _ lD) ho rfl xd1.ab.base hno ⟨rfl,take hg2 hm2 xd2 hs2 hdb2 hcon q⟩
end L2
namespace L2
open PySem PySem.Spec PyProof.Rows PyProof
def bZ(S:Addr):List Value:=[.ref S,.type "ValueError",.type "Exception",.type "BaseException",.type "object"]
def IsX(o:Obj)(C:Addr)(bm:List Value):Prop:=∃nm q N bs sn sub ab col dd k0 k1 k2 k3 k5,o=excClassObj nm q C N bs bm true sn sub ab col dd k0 k1 k2 k3 k5 "ValueError.__new__"
structure kH(K:Fg)(C:Addr)(o:Obj):Prop where
 l:K.lookup C=some o
 sa:PySem.W.findIn K (.ref C) "__setattr__"=some (some (.builtin "object.__setattr__"))
 ga:PySem.W.findIn K (.ref C) "__getattribute__"=some (some (.builtin "BaseException.__getattribute__"))
 gh:PySem.W.findIn K (.ref C) "__getattr__"=some none
 st:PySem.W.findIn K (.ref C) "__str__"=some (some (.builtin "BaseException.__str__"))
 kp:PySem.W.keepIn K (.ref C)=true
 cl:PySem.W.findIn K (.ref C) "__class__"=some (some (.builtin "object.__class__"))
 hd:PySem.W.hasDictIn K C=true
 mr:PySem.W.mroIn K C (.type "object")=some true
theorem qN7(S C:Addr)(self:Value):refuseLoop self "__setattr__" (.ref C::bZ S)=pure ():=by
 unfold bZ
 rw[refuseLoop_ref,refuseLoop_ref]
 rfl
theorem kH.xc{K:Fg}{C S:Addr}{o:Obj}(r:kH K C o)(x:IsX o C (bZ S)):XC K C (bZ S):=by
 obtain⟨nm,q,N,bs,sn,sub,ab,col,dd,k0,k1,k2,k3,k5,rfl⟩:=x
 exact⟨⟨nm,q,N,bs,sn,sub,ab,col,dd,k0,k1,k2,k3,k5,r.l⟩,⟨rfl,rfl,rfl,rfl⟩,rfl,qN7 S C,r.sa,r.ga,r.gh,r.st,r.kp⟩
theorem kH.xi{K:Fg}{C:Addr}{o:Obj}(r:kH K C o)(gt:PySem.W.specialIn K (.builtin "object.__class__") "__get__"=some (some (.builtin "getset_descriptor.__get__")))(tk:PySem.W.takesIn K (.builtin "object.__class__")=some true):XI K C:=
 ⟨r.cl,gt,tk,r.mr,r.hd⟩
theorem XC.mro{K:Fg}{C:Addr}{bm:List Value}(x:XC K C bm)(c:Value):PySem.W.subIn K (.ref C) c=some ((Value.ref C::bm).contains c):=by
 obtain⟨nm,q,N,bs,sn,sub,ab,col,dd,k0,k1,k2,k3,k5,l⟩:=x.obj
 show PySem.W.mroIn K C c=_
 unfold PySem.W.mroIn PySem.W.clsIn
 rw[l]
 rfl
theorem XC.isCls{K:Fg}{C:Addr}{bm:List Value}(x:XC K C bm):(PySem.W.clsIn K C).isSome=true/\PySem.W.typeIn K (.ref C)=some (.type "type"):=by
 obtain⟨nm,q,N,bs,sn,sub,ab,col,dd,k0,k1,k2,k3,k5,l⟩:=x.obj
 constructor
 ·unfold PySem.W.clsIn;rw[l];rfl
 ·show(K.lookup C).map (·.cls)=_;rw[l];rfl
theorem eZ{K:Fg}{C D:Addr}{bm:List Value}(x:XC K C bm)(h1:(PySem.W.clsIn K D).isSome=true)(h2:PySem.W.typeIn K (.ref D)=some (.type "type")):PySem.W.kitOne K (.ref C) (.ref D)=some ((Value.ref C::bm).contains (.ref D)):=by
 unfold PySem.W.kitOne
 by_cases e:(Value.ref C==Value.ref D)=true
 ·rw[if_pos e,List.contains_cons]
  have :(Value.ref D==Value.ref C)=true:=by rw[beq_iff_eq]at e⊢;exact e.symm
  rw[this,Bool.true_or]
 ·rw[if_neg e]
  unfold PySem.W.kitCls
  dsimp only
  rw[if_pos (by rw[h1,h2];rfl)]
  exact x.mro _
theorem zGz{K:Fg}{C:Addr}{T:String}{bm:List Value}(x:XC K C bm)(h1:PySem.W.kitMeta T=true):PySem.W.kitOne K (.ref C) (.type T)=some ((Value.ref C::bm).contains (.type T)):=by
 unfold PySem.W.kitOne
 rw[if_neg (by intro h;cases (beq_iff_eq.mp h))]
 unfold PySem.W.kitCls
 dsimp only
 rw[if_pos h1]
 exact x.mro _
theorem eJ{S C D:Addr}(h:D≠S):(Value.ref C::bZ S).contains (.ref D)=decide (C=D):=by
 have e1:(Value.ref D==Value.ref S)=false:=beq_eq_false_iff_ne.mpr fun z=>h (Value.ref.inj z)
 have e2:(Value.ref D==Value.ref C)=decide (C=D):=by
  by_cases z:C=D
  ·subst z;simp
  ·rw[decide_eq_false z];exact beq_eq_false_iff_ne.mpr fun q=>z (Value.ref.inj q).symm
 unfold bZ
 rw[List.contains_cons,List.contains_cons,e1,e2]
 cases decide (C=D)<;>rfl
theorem zP6{S C:Addr}:(Value.ref C::bZ S).contains (.ref S)=true:=by
 unfold bZ
 rw[List.contains_cons,List.contains_cons,beq_self_eq_true,Bool.true_or,Bool.or_true]
theorem qN8:bootBuiltins "ValueError"=some (.type "ValueError"):=by decide+kernel
structure Cs(K:Fg)(mg:Str->Option Value)(S BT NN UF TL ND NR NM BR:Addr)(bm:List Value):Prop where
 nd:[BT,NN,UF,TL,ND,NR,NM,BR].Nodup
 xc:∀C∈[BT,NN,UF,TL,ND,NR,NM,BR],XC K C bm
 xi:∀C∈[BT,NN,UF,TL,ND,NR,NM,BR],XI K C
 kit:∀C∈[BT,NN,UF,TL,ND,NR,NM,BR],∀D∈[BT,NN,UF,TL,ND,NR,NM,BR],PySem.W.kitOne K (.ref C) (.ref D)=some (decide (C=D))
 kitS:∀C∈[BT,NN,UF,TL,ND,NR,NM,BR],PySem.W.kitOne K (.ref C) (.ref S)=some true
 kitV:∀C∈[BT,NN,UF,TL,ND,NR,NM,BR],PySem.W.kitOne K (.ref C) (.type "ValueError")=some true
 m0:mg "SpeakError"=some (.ref S)
 m1:mg "BadText"=some (.ref BT)
 m2:mg "NoName"=some (.ref NN)
 m3:mg "Unfit"=some (.ref UF)
 m4:mg "TooLong"=some (.ref TL)
 m5:mg "NotDone"=some (.ref ND)
 m6:mg "NoRoom"=some (.ref NR)
 m7:mg "NoMachine"=some (.ref NM)
 m8:mg "BadRow"=some (.ref BR)
theorem gM{C:Addr}:∀{l:List Addr},l.Nodup->C∈l->(l.map fun D=>decide (C=D)).count true=1
 |[],_,h=>by cases h
 |D::l,nd,h=>by
  obtain⟨n1,n2⟩:=List.nodup_cons.mp nd
  rw[List.map_cons,List.count_cons]
  by_cases e:C=D
  ·subst e
   have z:(l.map fun D=>decide (C=D)).count true=0:=by
    rw[List.count_eq_zero]
    intro hm
    obtain⟨D,hD,e⟩:=List.mem_map.mp hm
    have :C=D:=by simpa using e
    subst this
    exact n1 hD
   rw[z]
   simp
  ·have hl:C∈l:=by
    rcases List.mem_cons.mp h with z|z
    ·exact absurd z e
    ·exact z
   rw[gM n2 hl]
   simp[e]
theorem qN9{C:Addr}{H H1:Hp}{xs:List V}{a b:Addr}(g:Grow H H1)(ha:H1 a=none)(hb:H1 b=none)(hab:a≠b):Grow H (upd (upd (upd H1 a (.tup xs)) b (yN true C a none b)) b (yN false C a none b)):=
 (g.trans ((Grow.put ha).trans (Grow.put (by rw[qL (Ne.symm hab)];exact hb)))).set (g.none _ hb)
def Rz(C:Addr)(H:Hp)(E:XK):Prop:=∀e t H',Grow H H'->H e=none->H' e=some (yN false C t none e)->E (.ref C) (some e) H'
theorem eX{C:Addr}{H H1:Hp}{E:XK}{σ:St}{s:Str}(r:Rz C H E)(g:Grow H H1):qW2 H E C (zB7 C (jK (tC (.str s)) xE)) {nx:=fun _ _=>False,rt:=fun _ _=>False} σ H1:=
 ⟨zl1,fun a b ha hb hab=>⟨b,a,none,rfl,qJ,g.none _ hb,r b a _ (qN9 g ha hb hab) (g.none _ hb) qJ⟩⟩
end L2
namespace K23
open PySem L2 PyProof Dt
structure Kp(m:Addr)(H H':Hp):Prop where
 keep:∀b o,b≠m->H b=some o->H' b=some o
 none:∀b,H' b=Option.none->H b=Option.none
section
variable {K:Fg} {m:Addr} {H H1 H2:Hp}
theorem Kp.trans(x:Kp m H H1)(y:Kp m H1 H2):Kp m H H2:=⟨fun b o n e=>y.keep b o n (x.keep b o n e),fun b e=>x.none b (y.none b e)⟩
theorem Kp.of(g:Grow H H1):Kp m H H1:=⟨fun b o _ e=>g.same b o e,g.none⟩
theorem Kp.fld{C dx:Addr}{gs:List (Str×V)}:Kp m H (upd H m (.ins C dx gs)):=⟨fun b o n e=>(qL n).trans e,fun b e=>by
 by_cases z:b=m
 ·subst z;rw[qJ]at e;cases e
 ·rw[qL z]at e;exact e⟩
theorem Kp.tups{C dx:Addr}{fs:List (Str×V)}(x:Kp m H H1)(hm:H m=some (.ins C dx fs)):jW K H H1:=fun b xs hb=>by
 rcases hb with(hb|⟨o,hb⟩)|hb
 ·exact .inl (.inl (x.keep b _ (xO hb hm (by intro z;cases z)) hb))
 ·exact .inl (.inr ⟨o,x.keep b _ (xO hb hm (by intro z;cases z)) hb⟩)
 ·exact .inr hb
theorem Kp.lst{C dx:Addr}{fs:List (Str×V)}{l:Addr}{xs:List V}(x:Kp m H H1)(hm:H m=some (.ins C dx fs))(h:H l=some (.lst xs)):H1 l=some (.lst xs):=x.keep l _ (xO h hm (by intro z;cases z)) h
end
section
variable {P:Program} {w:World} {K:Fg} {mg:Str->Option Value} {base:Heap} {C CH f fH:Addr} {fd fdH:FuncData}
theorem zP7:qC ["self","room"] ["self","room"] (qU zI7):=by walk_at "s"
def hfs(r:V)(l:Addr):List (Str×V):=[("room",r),("things",.ref l),("made_so_far",.int 0)]
inductive qNq(C:Addr)(vs:List V)(H:Hp)(Q:VK):Prop
 |mk (p:Addr) (dx:Addr) (r:V) (a_0:vs=[.ref p,r]) (a_1:H p=some (.ins C dx [])) (a_2:∀l H',Kp p H H'->H' p=some (.ins C dx (hfs r l))->H l=none->H' l=some (.lst [])->Q .non H'):qNq C vs H Q
def zK4(C:Addr):Sp:=fun vs H Q x_0=>qNq C vs H Q
theorem zGj(F:zK K "__init__" "Heap.__init__" zI7 .none f fd)(M:Hc K C):zQ P w K mg base (CXE P w) 1 f fd ["self","room"] (zK4 C):=by
 refine F.ok0 zP7 (by walk_at "l") ?_
 walk_at "i"
 obtain⟨p,dx,r,rfl,hp,q⟩:=h
 refine⟨_,qX (jR (pv 0) (pv 1) rfl) (qX (jR (pv 0) (jQ qZ) rfl) (qK (jR (pv 0) qV rfl))),?_⟩
 walk_at "e"
 refine⟨_,rfl,_,rfl,p,C,dx,[],rfl,hp,M.cl,M.n1,(by decide),?_⟩
 rw[show xG ("room":Str) r []=([("room",r)]:List (Str×V))from rfl]
 have x1:Kp p H (upd H p (.ins C dx ([("room",r)]:List (Str×V)))):=Kp.fld
 have m1:(upd H p (.ins C dx ([("room",r)]:List (Str×V)))) p=some (.ins C dx ([("room",r)]:List (Str×V))):=qJ
 generalize upd H p (.ins C dx ([("room",r)]:List (Str×V)))=H1 at x1 m1⊢
 refine⟨zl0,fun l hl=>?_⟩
 have x2:Kp p H1 (upd H1 l (.lst [])):=Kp.of (Grow.put hl)
 have m2:=(Grow.put (o:=.lst []) hl).same _ _ m1
 have l2:(upd H1 l (.lst [])) l=some (.lst []):=qJ
 generalize upd H1 l (.lst [])=H2 at x2 m2 l2⊢
 refine⟨_,rfl,p,C,dx,_,rfl,m2,M.cl,M.n2,(by show 1<1000;decide),?_⟩
 rw[kW (ks:=["room"]) (by decide+kernel) rfl]
 have x3:Kp p H2 (upd H2 p (.ins C dx (([("room",r)]:List (Str×V))++([("things",.ref l)]:List (Str×V))))):=Kp.fld
 have m3:(upd H2 p (.ins C dx (([("room",r)]:List (Str×V))++([("things",.ref l)]:List (Str×V))))) p=some (.ins C dx (([("room",r)]:List (Str×V))++([("things",.ref l)]:List (Str×V)))):=qJ
 have l3:=x3.lst m2 l2
 generalize upd H2 p (.ins C dx (([("room",r)]:List (Str×V))++([("things",.ref l)]:List (Str×V))))=H3 at x3 m3 l3⊢
 refine⟨_,rfl,p,C,dx,_,rfl,m3,M.cl,M.n3,(by show 2<1000;decide),?_⟩
 rw[kW (ks:=["room","things"]) (by decide+kernel) rfl]
 exact q l _ (((x1.trans x2).trans x3).trans Kp.fld) qJ (x1.none _ hl) (Kp.lst Kp.fld m3 l3)
structure GlM(mg:Str->Option Value):Prop where
 list:mg "list"=none
 leastR:∃t,mg "LEAST_ROOM"=some (.int 8 t)
 greatR:∃t,mg "GREATEST_ROOM"=some (.int 400 t)
theorem zP8:qC ["self","code","room"] ["self","code","room"] (qU zI8):=by walk_at "s"
inductive qNz(K:Fg)(C:Addr)(CH:Addr)(NR:Addr)(vs:List V)(H:Hp)(Q:VK)(E:XK):Prop
 |mk (H0:Hp) (m:Addr) (dx:Addr) (l0:Addr) (cs:List V) (code:List AOrd) (r:Int) (a_0:vs=[.ref m,.ref l0,.int r]) (a_1:Grow H0 H) (a_2:H0 m=none) (a_3:H m=some (.ins C dx [])) (a_4:H0 l0=some (.lst cs)) (a_5:jL K H0 code cs) (a_6:(∀n:Nat,r=(n:Int)->8<=n->n<=400->∀(d:Ad)H',d.C=C->d.CH=CH->d.m=m->MS K H0 d (Ms.new code n) H'->Q .non H')) (a_7:((r<8\/400<r)->Rz NR H E)):qNz K C CH NR vs H Q E
def eK(K:Fg)(C CH NR:Addr):Sp:=fun vs H Q E=>qNz K C CH NR vs H Q E
theorem zM0(F:zK K "__init__" "Machine.__init__" zI8 .none f fd)(M:Mc K C)(N:Hc K CH)(G:GlM mg)(GH:zQ P w K mg base (CXE P w) 1 fH fdH ["self","room"] (zK4 CH))(mH:mg "Heap"=some (.ref CH))(KH:Mk K CH fH)(bH:Binds K fdH ["self","room"] []){NR:Addr}{bm:List Value}(xNR:XC K NR bm)(iNR:PySem.W.findIn K (.ref NR) "__init__"=some (some (.builtin "ValueError.__init__")))(mNR:mg "NoRoom"=some (.ref NR)):
  zQ P w K mg base (CXE P w) 3 f fd ["self","code","room"] (eK K C CH NR):=by
 refine F.okE zP8 (by walk_at "l") ?_
 walk_at "i"
 obtain⟨H0,m,dx,l0,cs,code,r,rfl,g0,nm,hm,hl0,hco,q,qE⟩:=h
 obtain⟨t1,m1⟩:=G.leastR
 obtain⟨t2,m2⟩:=G.greatR
 refine⟨_,qX (zH (oO (zZ oG (pv 2) (zM (v:=.int 8) (by rfl) m1 ⟨t1,rfl⟩) (nomark _)) (yL (zZ bD (pv 2) (zM (v:=.int 400) (by rfl) m2 ⟨t2,rfl⟩) (nomark _)))).pt (qK (iT xNR (pR xNR iNR (by rfl) mNR (qQ qI qZ)))) zX)
  (qX (jR (pv 0) (jB wQ (by rfl) G.list PyProof.Rows.boot_list (qQ (pv 1) qZ)) rfl)
  (qX (jR (pv 0) (iK KH GH hr (by rfl) mH bH .nil zD (qQ (pv 2) qZ)) rfl)
  (qX (jR (pv 0) (jQ qZ) rfl)
  (qX (jR (pv 0) qV rfl)
  (qX (jR (pv 0) qV rfl)
  (qX (jR (pv 0) (jQ qZ) rfl)
  (qK (jR (pv 0) qI rfl)))))))),?_⟩
 walk_at "e"
 refine⟨_,rfl,_,_,rfl,rfl,_,rfl,?_⟩
 refine ite2 (fun z=>eX (qE (.inl (of_decide_eq_true z))) (Grow.refl H)) (fun z8=>?_)
 refine⟨_,rfl,_,_,rfl,rfl,_,rfl,?_⟩
 refine ite2 (fun z=>eX (qE (.inr (of_decide_eq_true z))) (Grow.refl H)) (fun z4=>?_)
 have h8:¬r<8:=fun y=>z8 (decide_eq_true y)
 have h400:¬400<r:=fun y=>z4 (decide_eq_true y)
 obtain⟨r,rfl⟩:∃n:Nat,r=(n:Int):=⟨r.toNat,by omega⟩
 have q:=q r rfl (by omega) (by omega)
 refine⟨_,rfl,l0,cs,rfl,.inl (zS.of (g0.same _ _ hl0)),fun l hl=>?_⟩
 have ml:m≠l:=qH hm hl
 have x1:Kp m H (upd H l (.lst cs)):=Kp.of (Grow.put hl)
 have n1:=(Grow.put (o:=.lst cs) hl).same _ _ hm
 have a1:(upd H l (.lst cs)) l=some (.lst cs):=qJ
 generalize upd H l (.lst cs)=H1 at x1 n1 a1⊢
 refine⟨_,rfl,m,C,dx,_,rfl,n1,M.cl,M.n1,(by show 0<1000;decide),?_⟩
 rw[show xG ("code":Str) (V.ref l) []=([("code",.ref l)]:List (Str×V))from rfl]
 have x2:Kp m H1 (upd H1 m (.ins C dx ([("code",.ref l)]:List (Str×V)))):=Kp.fld
 have n2:(upd H1 m (.ins C dx ([("code",.ref l)]:List (Str×V)))) m=some (.ins C dx ([("code",.ref l)]:List (Str×V))):=qJ
 have a2:=x2.lst n1 a1
 generalize upd H1 m (.ins C dx ([("code",.ref l)]:List (Str×V)))=H2 at x2 n2 a2⊢
 refine⟨_,rfl,fun hp dh hhp hdh nhp=>?_⟩
 have gg:Grow H2 (upd (upd H2 dh (.own hp)) hp (.ins CH dh [])):=(Grow.put hdh).trans (Grow.put (by rw[qL nhp.symm];exact hhp))
 have me:(upd (upd H2 dh (.own hp)) hp (.ins CH dh [])) hp=some (.ins CH dh []):=qJ
 have mhp:m≠hp:=qH n2 hhp
 have lhp:l≠hp:=qH a2 hhp
 have n3:=gg.same _ _ n2
 have a3:=gg.same _ _ a2
 generalize upd (upd H2 dh (.own hp)) hp (.ins CH dh [])=H3 at gg me n3 a3⊢
 refine⟨hp,dh,_,rfl,me,fun th H4 y4 e4 nth eth=>⟨rfl,?_⟩⟩
 have n4:=y4.keep _ _ mhp n3
 have a4:=y4.keep _ _ lhp a3
 have x4:Kp m H2 H4:=⟨fun b o hb e=>y4.keep b o (fun z=>by rw[z,hhp]at e;cases e) (gg.same _ _ e),fun b e=>gg.none b (y4.none b e)⟩
 have lth:l≠th:=qH a3 nth
 have nth2:H2 th=none:=gg.none _ nth
 refine⟨_,rfl,m,C,dx,_,rfl,n4,M.cl,M.n2,(by show 1<1000;decide),?_⟩
 rw[kW (ks:=["code"]) (by decide+kernel) rfl]
 have x5:Kp m H4 (upd H4 m (.ins C dx (([("code",.ref l)]:List (Str×V))++([("heap",.ref hp)]:List (Str×V))))):=Kp.fld
 have n5:(upd H4 m (.ins C dx (([("code",.ref l)]:List (Str×V))++([("heap",.ref hp)]:List (Str×V))))) m=some (.ins C dx (([("code",.ref l)]:List (Str×V))++([("heap",.ref hp)]:List (Str×V)))):=qJ
 generalize upd H4 m (.ins C dx (([("code",.ref l)]:List (Str×V))++([("heap",.ref hp)]:List (Str×V))))=H5 at x5 n5⊢
 have a5:=x5.lst n4 a4
 have t5:=x5.lst n4 eth
 have h5:=x5.keep _ _ mhp.symm e4
 refine⟨zl0,fun st hst=>?_⟩
 have lst':l≠st:=qH a5 hst
 have tst:th≠st:=qH t5 hst
 have x6:Kp m H5 (upd H5 st (.lst [])):=Kp.of (Grow.put hst)
 have n6:=(Grow.put (o:=.lst []) hst).same _ _ n5
 have s6:(upd H5 st (.lst [])) st=some (.lst []):=qJ
 generalize upd H5 st (.lst [])=H6 at x6 n6 s6⊢
 have nst:H0 st=none:=g0.none _ (x1.none _ (x2.none _ (x4.none _ (x5.none _ hst))))
 refine⟨_,rfl,m,C,dx,_,rfl,n6,M.cl,M.n3,(by show 2<1000;decide),?_⟩
 rw[kW (ks:=["code","heap"]) (by decide+kernel) rfl]
 have x7:Kp m H6 (upd H6 m (.ins C dx ((([("code",.ref l)]:List (Str×V))++([("heap",.ref hp)]:List (Str×V)))++([("stack",.ref st)]:List (Str×V))))):=Kp.fld
 have n7:(upd H6 m (.ins C dx ((([("code",.ref l)]:List (Str×V))++([("heap",.ref hp)]:List (Str×V)))++([("stack",.ref st)]:List (Str×V))))) m=some (.ins C dx ((([("code",.ref l)]:List (Str×V))++([("heap",.ref hp)]:List (Str×V)))++([("stack",.ref st)]:List (Str×V)))):=qJ
 generalize upd H6 m (.ins C dx ((([("code",.ref l)]:List (Str×V))++([("heap",.ref hp)]:List (Str×V)))++([("stack",.ref st)]:List (Str×V))))=H7 at x7 n7⊢
 refine⟨_,rfl,m,C,dx,_,rfl,n7,M.cl,M.n4,(by show 3<1000;decide),?_⟩
 rw[kW (ks:=["code","heap","stack"]) (by decide+kernel) rfl]
 have x8:Kp m H7 (upd H7 m (.ins C dx (((([("code",.ref l)]:List (Str×V))++([("heap",.ref hp)]:List (Str×V)))++([("stack",.ref st)]:List (Str×V)))++([("base",.int 0)]:List (Str×V))))):=Kp.fld
 have n8:(upd H7 m (.ins C dx (((([("code",.ref l)]:List (Str×V))++([("heap",.ref hp)]:List (Str×V)))++([("stack",.ref st)]:List (Str×V)))++([("base",.int 0)]:List (Str×V))))) m=some (.ins C dx (((([("code",.ref l)]:List (Str×V))++([("heap",.ref hp)]:List (Str×V)))++([("stack",.ref st)]:List (Str×V)))++([("base",.int 0)]:List (Str×V)))):=qJ
 generalize upd H7 m (.ins C dx (((([("code",.ref l)]:List (Str×V))++([("heap",.ref hp)]:List (Str×V)))++([("stack",.ref st)]:List (Str×V)))++([("base",.int 0)]:List (Str×V))))=H8 at x8 n8⊢
 refine⟨_,rfl,m,C,dx,_,rfl,n8,M.cl,M.n5,(by show 4<1000;decide),?_⟩
 rw[kW (ks:=["code","heap","stack","base"]) (by decide+kernel) rfl]
 have x9:Kp m H8 (upd H8 m (.ins C dx ((((([("code",.ref l)]:List (Str×V))++([("heap",.ref hp)]:List (Str×V)))++([("stack",.ref st)]:List (Str×V)))++([("base",.int 0)]:List (Str×V)))++([("place",.int 0)]:List (Str×V))))):=Kp.fld
 have n9:(upd H8 m (.ins C dx ((((([("code",.ref l)]:List (Str×V))++([("heap",.ref hp)]:List (Str×V)))++([("stack",.ref st)]:List (Str×V)))++([("base",.int 0)]:List (Str×V)))++([("place",.int 0)]:List (Str×V))))) m=some (.ins C dx ((((([("code",.ref l)]:List (Str×V))++([("heap",.ref hp)]:List (Str×V)))++([("stack",.ref st)]:List (Str×V)))++([("base",.int 0)]:List (Str×V)))++([("place",.int 0)]:List (Str×V)))):=qJ
 generalize upd H8 m (.ins C dx ((((([("code",.ref l)]:List (Str×V))++([("heap",.ref hp)]:List (Str×V)))++([("stack",.ref st)]:List (Str×V)))++([("base",.int 0)]:List (Str×V)))++([("place",.int 0)]:List (Str×V))))=H9 at x9 n9⊢
 have x59:=((x6.trans x7).trans x8).trans x9
 have x69:=(x7.trans x8).trans x9
 have a9:=x59.lst n5 a5
 have t9:=x59.lst n5 t5
 have h9:=x59.keep _ _ mhp.symm h5
 have s9:=x69.lst n6 s6
 refine⟨zl0,fun pd hpd=>?_⟩
 have lpd:l≠pd:=qH a9 hpd
 have tpd:th≠pd:=qH t9 hpd
 have spd:st≠pd:=qH s9 hpd
 have x10:Kp m H9 (upd H9 pd (.lst [])):=Kp.of (Grow.put hpd)
 have n10:=(Grow.put (o:=.lst []) hpd).same _ _ n9
 have p10:(upd H9 pd (.lst [])) pd=some (.lst []):=qJ
 generalize upd H9 pd (.lst [])=H10 at x10 n10 p10⊢
 have x05:=(x1.trans x2).trans (x4.trans x5)
 have npd:H0 pd=none:=g0.none _ (x05.none _ (x59.none _ hpd))
 refine⟨_,rfl,m,C,dx,_,rfl,n10,M.cl,M.n6,(by show 5<1000;decide),?_⟩
 rw[kW (ks:=["code","heap","stack","base","place"]) (by decide+kernel) rfl]
 have x11:Kp m H10 (upd H10 m (.ins C dx (((((([("code",.ref l)]:List (Str×V))++([("heap",.ref hp)]:List (Str×V)))++([("stack",.ref st)]:List (Str×V)))++([("base",.int 0)]:List (Str×V)))++([("place",.int 0)]:List (Str×V)))++([("pending",.ref pd)]:List (Str×V))))):=Kp.fld
 have n11:(upd H10 m (.ins C dx (((((([("code",.ref l)]:List (Str×V))++([("heap",.ref hp)]:List (Str×V)))++([("stack",.ref st)]:List (Str×V)))++([("base",.int 0)]:List (Str×V)))++([("place",.int 0)]:List (Str×V)))++([("pending",.ref pd)]:List (Str×V))))) m=some (.ins C dx (((((([("code",.ref l)]:List (Str×V))++([("heap",.ref hp)]:List (Str×V)))++([("stack",.ref st)]:List (Str×V)))++([("base",.int 0)]:List (Str×V)))++([("place",.int 0)]:List (Str×V)))++([("pending",.ref pd)]:List (Str×V)))):=qJ
 generalize upd H10 m (.ins C dx (((((([("code",.ref l)]:List (Str×V))++([("heap",.ref hp)]:List (Str×V)))++([("stack",.ref st)]:List (Str×V)))++([("base",.int 0)]:List (Str×V)))++([("place",.int 0)]:List (Str×V)))++([("pending",.ref pd)]:List (Str×V))))=H11 at x11 n11⊢
 refine⟨_,rfl,m,C,dx,_,rfl,n11,M.cl,M.n7,(by show 6<1000;decide),?_⟩
 rw[kW (ks:=["code","heap","stack","base","place","pending"]) (by decide+kernel) rfl]
 have d0:∃d:Ad,d=⟨C,CH,m,dx,hp,dh,l,pd,st,th⟩:=⟨_,rfl⟩
 obtain⟨d,ed⟩:=d0
 have x12:Kp m H11 (upd H11 m (.ins C dx (mfl ⟨C,CH,m,dx,hp,dh,l,pd,st,th⟩ (Ms.new code r)))):=Kp.fld
 have n12:(upd H11 m (.ins C dx (mfl ⟨C,CH,m,dx,hp,dh,l,pd,st,th⟩ (Ms.new code r)))) m=some (.ins C dx (mfl ⟨C,CH,m,dx,hp,dh,l,pd,st,th⟩ (Ms.new code r))):=qJ
 show Q .non (upd H11 m (.ins C dx (mfl ⟨C,CH,m,dx,hp,dh,l,pd,st,th⟩ (Ms.new code r))))
 generalize upd H11 m (.ins C dx (mfl ⟨C,CH,m,dx,hp,dh,l,pd,st,th⟩ (Ms.new code r)))=H12 at x12 n12⊢
 have x9f:=(x10.trans x11).trans x12
 have x0f:=(x05.trans x59).trans x9f
 have kt0:jW K H H12:=x0f.tups hm
 refine q ⟨C,CH,m,dx,hp,dh,l,pd,st,th⟩ H12 rfl rfl rfl ⟨⟨fun b o e=>x0f.keep b o (qH e nm) (g0.same b o e),fun b e=>g0.none b (x0f.none b e)⟩,nm,g0.none _ (x1.none _ (x2.none _ hhp)),nst,npd,g0.none _ (x1.none _ (x2.none _ nth2)),n12,?_,⟨[],x9f.lst n9 s9,qA⟩,⟨[],(x11.trans x12).lst n10 p10,qA⟩,⟨cs,x9f.lst n9 a9,?_⟩,⟨[],x9f.lst n9 t9,qA⟩,mhp,lst',spd.symm,tst,lpd,tpd,lth⟩
 ·exact x9f.keep _ _ mhp.symm h9
 ·exact qO.monoT kt0 (hco.mono g0.same)
end
end K23
open PySem
inductive Pc where
 |text (s:Str)|value (v:AV)|tail (v:AV)
namespace Ms
noncomputable def bare:AV->Str
 | .nil=>"[]"
 | .bl true=>"true"
 | .bl false=>"false"
 | .int n=>toString n
 | .at_ _=>""
noncomputable def piecesOf (things:List Th):Pc->Option (List Pc)
 | .text _=>none
 | .tail .nil=>some [.text "]"]
 | .tail (.at_ k)=>match things[k]?with
  |some ⟨_,h0::h1::_⟩=>some [.text ",",.value h0,.tail h1]
  |_=>none
 | .tail _=>none
 | .value (.at_ k)=>match things[k]?with
  |some ⟨.cell,h0::h1::_⟩=>some [.text "[",.value h0,.tail h1]
  |some ⟨.pair,h0::h1::_⟩=>some [.text "(",.value h0,.text ",",.value h1,.text ")"]
  |some ⟨.fn,_⟩=>some [.text "fn"]
  |_=>none
 | .value v=>some [.text (bare v)]
noncomputable def texts (things:List Th):Nat->List Pc->Int->List Str->Option (Option (List Str))
 |_,[],_,acc=>some (some acc)
 |0,_::_,_,_=>none
 |n+1,.text s::ws,left,acc=>if left-(s.length:Nat)<0 then some none else texts things n ws (left-(s.length:Nat)) (acc++[s])
 |n+1,p::ws,left,acc=>(piecesOf things p).bind fun ps=>texts things n (ps++ws) left acc
end Ms
namespace Pc
noncomputable def dt:Pc->Dt
 | .text s=>.tup [.str "text",.str s]
 | .value v=>.tup [.str "value",v.dt]
 | .tail v=>.tup [.str "tail",v.dt]
end Pc
namespace K23
open PySem L2 PyProof Dt
theorem hG{n:Int}(h:In64 n):n.natAbs.log2<64:=qI9 (by unfold In64 at h;omega) (by decide)
structure IsB(K:Fg):Prop where
 ib:PySem.W.kitOne K (.type "int") (.type "bool")=some false
 bb:PySem.W.kitOne K (.type "bool") (.type "bool")=some true
structure GlW(mg:Str->Option Value):Prop where
 isi:mg "isinstance"=none
 bool:mg "bool"=none
 str:mg "str"=none
 list:mg "list"=none
 reversed:mg "reversed"=none
 len:mg "len"=none
 empty:mg "EMPTY"=some .none
 shown:∃t,mg "LONGEST_SHOWN"=some (.int 1000 t)
abbrev cT(K:Fg)(H:Hp)(ps:List Pc)(xs:List V):Prop:=qO K H (ps.map Pc.dt) xs
section
variable {K:Fg} {H H':Hp}
theorem vO{t:Addr}{s:Str}(h:H t=some (.tup [.str "text",.str s])):qY K H (Pc.text s).dt (.ref t):=wH (zB.of h) (wD s)
theorem cA{t:Addr}{v:AV}{x:V}(h:H t=some (.tup [.str "value",x]))(hx:qY K H v.dt x):qY K H (Pc.value v).dt (.ref t):=wH (zB.of h) hx
theorem eV{t:Addr}{v:AV}{x:V}(h:H t=some (.tup [.str "tail",x]))(hx:qY K H v.dt x):qY K H (Pc.tail v).dt (.ref t):=wH (zB.of h) hx
end
section
variable {P:Program} {w:World} {K:Fg} {mg:Str->Option Value} {base:Heap} {C CH f fS fH:Addr} {fd fdS fdH:FuncData}
theorem zM1:qC ["value"] ["value"] (qU qL5):=by walk_at "s"
inductive eW(K:Fg)(vs:List V)(H:Hp)(Q:VK):Prop
 |mk (v:AV) (x:V) (a_0:vs=[x]) (a_1:qY K H v.dt x) (a_2:v.ok) (a_3:qX5 v=false) (a_4:Q (.str (Ms.bare v)) H):eW K vs H Q
def sI(K:Fg):Sp:=fun vs H Q x_0=>eW K vs H Q
theorem qA2(F:zK K "bare_text" "bare_text" qL5 .none f fd)(G:GlW mg)(I:IsB K):zQ P w K mg base (CXE P w) 1 f fd ["value"] (sI K):=by
 refine F.ok0 zM1 (by walk_at "l") ?_
 walk_at "i"
 obtain⟨v,x,rfl,hx,hok,ha,q⟩:=h
 refine⟨_,qX (zH (zZ wZ (pv 0) (zM (v:=.non) (by rfl) G.empty rfl) (nomark _)) (qK (qB qI)) zX)
  (qX (zH (xI (zV cX (by rfl) G.isi aq26 (qQ (pv 0) (qQ (iQ (v:=.ty "bool") (by rfl) G.bool PyProof.Rows.boot_bool rfl) qZ)))) (qK (qB (vZ (yT (pv 0) (fun _=>rfl)) qI qI))) zX)
  (qK (qB (jB mZ (by rfl) G.str PyProof.Rows.boot_str (qQ (pv 0) qZ))))),?_⟩
 walk_at "e"
 refine⟨_,rfl,v.dt,.non,hx,by rw[qY],xH hr (Nat.le_trans (cM _) (by decide)),_,rfl,?_⟩
 rw[uN]
 cases v with
 |nil=>rw[decide_eq_true rfl];exact jC q
 |at_ k=>cases ha
 |int n=>
  rw[decide_eq_false (by intro z;cases z)]
  cases kC hx
  exact jJ ⟨_,rfl,.int n,_,"bool",false,rfl,hx,I.ib,_,rfl,jJ ⟨_,rfl,n,rfl,Nat.lt_trans (hG hok) (by decide),q⟩⟩
 |bl b=>
  rw[decide_eq_false (by intro z;cases z)]
  cases tN hx
  refine jJ ⟨_,rfl,.bl b,_,"bool",true,rfl,hx,I.bb,_,rfl,jC ⟨_,rfl,b,rfl,?_⟩⟩
  cases b
  ·exact jJ q
  ·exact jC q
theorem eY:qC ["heap","tail","held"] ["heap","tail"] (qU rA):=by walk_at "s"
inductive pQ(K:Fg)(CH:Addr)(vs:List V)(H:Hp)(Q:VK):Prop
 |mk (H0:Hp) (d:Ad) (m:Ms) (v:AV) (ps:List Pc) (x:V) (a_0:vs=[.ref d.hp,x]) (a_1:qY K H v.dt x) (a_2:d.CH=CH) (a_3:MS K H0 d m H) (a_4:Ms.piecesOf m.things (.tail v)=some ps) (a_5:∀l xs H',Grow H H'->H l=none->H' l=some (.lst xs)->cT K H' ps xs->Q (.ref l) H'):pQ K CH vs H Q
def eU(K:Fg)(CH:Addr):Sp:=fun vs H Q x_0=>pQ K CH vs H Q
theorem qNj(F:zK K "tail_pieces" "tail_pieces" rA .none f fd)(G:GlW mg)(N:Hc K CH)(mH:Meth K CH "held_by" fH)(GH:zQ P w K mg base (CXE P w) 1 fH fdH ["self","reference"] (cD K CH))(bH:Binds K fdH ["self","reference"] []):zQ P w K mg base (CXE P w) 2 f fd ["heap","tail"] (eU K CH):=by
 refine F.ok0 eY (by walk_at "l") ?_
 walk_at "i"
 obtain⟨H0,d,m,v,ps,x,rfl,hx,rfl,h,he,q⟩:=h
 refine⟨_,qX (zH (zZ wZ (pv 1) (zM (v:=.non) (by rfl) G.empty rfl) (nomark _)) (qK (qB (jQ (qQ (zW (qQ qI (qQ qI qZ))) qZ)))) zX)
  (qX (qF (i:=2) eY.nd rfl oI (kQ (pv 0) N.cl mH GH hr bH .nil zD (qQ (pv 1) qZ)))
  (qK (qB (jQ (qQ (zW (qQ qI (qQ qI qZ))) (qQ (zW (qQ qI (qQ (qM qP (pv 2) qV) qZ))) (qQ (zW (qQ qI (qQ (qM qP (pv 2) qV) qZ))) qZ))))))),?_⟩
 walk_at "e"
 refine⟨_,rfl,v.dt,.non,hx,by rw[qY],xH hr (Nat.le_trans (cM _) (by decide)),_,rfl,?_⟩
 rw[uN]
 cases v with
 |nil=>
  rw[decide_eq_true rfl]
  cases he
  refine jC ⟨zl2,fun t ht=>?_⟩
  have g1:Grow H (upd H t (.tup [.str "text",.str "]"])):=Grow.put ht
  have e1:(upd H t (.tup [.str "text",.str "]"])) t=some (.tup [.str "text",.str "]"]):=qJ
  generalize upd H t (.tup [.str "text",.str "]"])=H1 at g1 e1⊢
  refine⟨zl1,fun l hl=>?_⟩
  have g2:Grow H1 (upd H1 l (.lst [.ref t])):=Grow.put hl
  exact q l _ _ (g1.trans g2) (g1.none _ hl) qJ (qG (vO (g2.same _ _ e1)) qA)
 |at_ k=>
  rw[decide_eq_false (by intro z;cases z)]
  simp only[Ms.piecesOf]at he
  split at he
  ·rename_i sr h0 h1 hr' ht
   cases he
   refine jJ ⟨_,rfl,d.hp,d.dh,_,rfl,h.ho,kF _ _ (by decide+kernel),_,rfl,H0,d,m,k,_,x,rfl,rfl,h,hx,ht,fun u us hu hus=>?_⟩
   walk_at "d"
   obtain⟨u0,us,rfl,hu0,hus⟩:=qR hus
   obtain⟨u1,us,rfl,hu1,hus⟩:=qR hus
   refine⟨zl2,fun t1 ht1=>?_⟩
   have g1:Grow H (upd H t1 (.tup [.str "text",.str ","])):=Grow.put ht1
   have e1:(upd H t1 (.tup [.str "text",.str ","])) t1=some (.tup [.str "text",.str ","]):=qJ
   generalize upd H t1 (.tup [.str "text",.str ","])=H1 at g1 e1⊢
   refine⟨_,rfl,u,_,_,u0,rfl,rfl,zB.mono g1.same hu,qW (j:=0) rfl,zl2,fun t2 ht2=>?_⟩
   have g2:Grow H1 (upd H1 t2 (.tup [.str "value",u0])):=Grow.put ht2
   have e2:(upd H1 t2 (.tup [.str "value",u0])) t2=some (.tup [.str "value",u0]):=qJ
   generalize upd H1 t2 (.tup [.str "value",u0])=H2 at g2 e2⊢
   have g12:=g1.trans g2
   refine⟨_,rfl,u,_,_,u1,rfl,rfl,zB.mono g12.same hu,qW (j:=1) rfl,zl2,fun t3 ht3=>?_⟩
   have g3:Grow H2 (upd H2 t3 (.tup [.str "tail",u1])):=Grow.put ht3
   have e3:(upd H2 t3 (.tup [.str "tail",u1])) t3=some (.tup [.str "tail",u1]):=qJ
   generalize upd H2 t3 (.tup [.str "tail",u1])=H3 at g3 e3⊢
   have g13:=g12.trans g3
   refine⟨zl3,fun l hl=>?_⟩
   have g4:Grow H3 (upd H3 l (.lst [.ref t1,.ref t2,.ref t3])):=Grow.put hl
   have g14:=g13.trans g4
   exact q l _ _ g14 (g13.none _ hl) qJ (qG (vO (((g2.trans g3).trans g4).same _ _ e1)) (qG (cA ((g3.trans g4).same _ _ e2) (hu0.mono g14.same)) (qG (eV (g4.same _ _ e3) (hu1.mono g14.same)) qA)))
  ·cases he
 |int n=>cases he
 |bl b=>cases he
end
section
variable {P:Program} {w:World} {K:Fg} {mg:Str->Option Value} {base:Heap} {C CH f fS fH:Addr} {fd fdS fdH:FuncData}
theorem uB:qC ["heap","piece","value","sort","held"] ["heap","piece"] (qU nG):=by walk_at "s"
inductive gN(K:Fg)(CH:Addr)(vs:List V)(H:Hp)(Q:VK):Prop
 |mk (H0:Hp) (d:Ad) (m:Ms) (pc:Pc) (ps:List Pc) (x:V) (a_0:vs=[.ref d.hp,x]) (a_1:qY K H pc.dt x) (a_2:(∀v,pc= .value v->v.ok)) (a_3:d.CH=CH) (a_4:MS K H0 d m H) (a_5:Ms.piecesOf m.things pc=some ps) (a_6:∀l xs H',Grow H H'->H l=none->H' l=some (.lst xs)->cT K H' ps xs->Q (.ref l) H'):gN K CH vs H Q
def cE(K:Fg)(CH:Addr):Sp:=fun vs H Q x_0=>gN K CH vs H Q
theorem qX6(x:Srt):decide (V.str x.str=V.str "cell")=decide (x= .cell):=by cases x<;>decide+kernel
theorem gF(x:Srt):decide (V.str x.str=V.str "pair")=decide (x= .pair):=by cases x<;>decide+kernel
theorem qX7(F:zK K "pieces_of" "pieces_of" nG .none f fd)(N:Hc K CH)(GT:Kn P w K mg base 2 "tail_pieces" ["heap","tail"] (eU K CH))(GI:Kn P w K mg base 1 "is_reference" ["value"] (cP K))(GB:Kn P w K mg base 1 "bare_text" ["value"] (sI K))
  (mS:Meth K CH "sort_of" fS)(GS:zQ P w K mg base (CXE P w) 1 fS fdS ["self","reference"] (qG2 K CH))(bS:Binds K fdS ["self","reference"] [])(mH:Meth K CH "held_by" fH)(GH:zQ P w K mg base (CXE P w) 1 fH fdH ["self","reference"] (cD K CH))(bH:Binds K fdH ["self","reference"] []):zQ P w K mg base (CXE P w) 3 f fd ["heap","piece"] (cE K CH):=by
 refine F.ok0 uB (by walk_at "l") ?_
 walk_at "i"
 obtain⟨H0,d,m,pc,ps,x,rfl,hx,hvo,rfl,h,he,q⟩:=h
 have h1r:=hr.mono (show 1<=2 by omega)
 refine⟨_,qX (qF (i:=2) uB.nd rfl oI (qM qP (pv 1) qV))
  (qX (zH (zZ jS (qM qP (pv 1) qV) qI (nomark _)) (qK (qB (zO GT hr (qQ (pv 0) (qQ (pv 2) qZ))))) zX)
  (qX (zH (iC (xI (zO GI h1r (qQ (pv 2) qZ)))) (qK (qB (jQ (qQ (zW (qQ qI (qQ (zO GB h1r (qQ (pv 2) qZ)) qZ))) qZ)))) zX)
  (qX (qF (i:=3) uB.nd rfl oI (kQ (pv 0) N.cl mS GS h1r bS .nil zD (qQ (pv 2) qZ)))
  (qX (qF (i:=4) uB.nd rfl oI (kQ (pv 0) N.cl mH GH h1r bH .nil zD (qQ (pv 2) qZ)))
  (qX (zH (zZ jS (pv 3) qI (nomark _)) (qK (qB (jQ (qQ (zW (qQ qI (qQ qI qZ))) (qQ (zW (qQ qI (qQ (qM qP (pv 4) qV) qZ))) (qQ (zW (qQ qI (qQ (qM qP (pv 4) qV) qZ))) qZ)))))) zX)
  (qX (zH (zZ jS (pv 3) qI (nomark _)) (qK (qB (jQ (qQ (zW (qQ qI (qQ qI qZ))) (qQ (zW (qQ qI (qQ (qM qP (pv 4) qV) qZ))) (qQ (zW (qQ qI (qQ qI qZ))) (qQ (zW (qQ qI (qQ (qM qP (pv 4) qV) qZ))) (qQ (zW (qQ qI (qQ qI qZ))) qZ)))))))) zX)
  (qK (qB (jQ (qQ (zW (qQ qI (qQ qI qZ))) qZ)))))))))),?_⟩
 walk_at "e"
 cases pc with
 |text t=>cases he
 |tail v=>
  obtain⟨a,y,rfl,ha,hy⟩:=xF hx
  refine⟨_,rfl,a,_,_,y,rfl,rfl,ha,qW (j:=1) rfl,?_⟩
  walk_at "d"
  refine⟨_,rfl,a,_,_,_,rfl,rfl,ha,qW (j:=0) rfl,rfl,_,rfl,ite2 (fun _=>?_) (fun z=>absurd (by decide+kernel) z)⟩
  exact⟨_,rfl,_,rfl,H0,d,m,v,ps,y,rfl,hy,rfl,h,he,q⟩
 |value v=>
  obtain⟨a,y,rfl,ha,hy⟩:=xF hx
  refine⟨_,rfl,a,_,_,y,rfl,rfl,ha,qW (j:=1) rfl,?_⟩
  walk_at "d"
  refine⟨_,rfl,a,_,_,_,rfl,rfl,ha,qW (j:=0) rfl,rfl,_,rfl,ite2 (fun z=>absurd z (by decide+kernel)) (fun _=>?_)⟩
  refine⟨_,rfl,v,y,rfl,hy,_,rfl,?_⟩
  have bareC:qX5 v=false->ps=[.text (Ms.bare v)]->qQ8 (qF2 (jK (qZ0 (jK (tC (.str "text")) (jK (kS (sI K) [] E0 (jK (jV 2) xE)) xE))) xE)) {nx:=fun _ H'=>Q .non H',rt:=Q} [some (.ref d.hp),some (.ref a),some y,none,none] H:=by
   intro hz hps
   subst hps
   refine⟨_,rfl,v,y,rfl,hy,hvo v rfl,hz,zl2,fun t ht=>?_⟩
   have g1:Grow H (upd H t (.tup [.str "text",.str (Ms.bare v)])):=Grow.put ht
   have e1:(upd H t (.tup [.str "text",.str (Ms.bare v)])) t=some (.tup [.str "text",.str (Ms.bare v)]):=qJ
   generalize upd H t (.tup [.str "text",.str (Ms.bare v)])=H1 at g1 e1⊢
   refine⟨zl1,fun l hl=>?_⟩
   have g2:Grow H1 (upd H1 l (.lst [.ref t])):=Grow.put hl
   exact q l _ _ (g1.trans g2) (g1.none _ hl) qJ (qG (vO (g2.same _ _ e1)) qA)
  cases v with
  |int n=>exact jC (bareC rfl (by simpa[Ms.piecesOf]using he.symm))
  |bl n=>exact jC (bareC rfl (by simpa[Ms.piecesOf]using he.symm))
  |nil=>exact jC (bareC rfl (by simpa[Ms.piecesOf]using he.symm))
  |at_ k=>
   refine jJ ?_
   obtain⟨t,ht⟩:∃t,m.things[k]? =some t:=by
    cases e:m.things[k]?with
    |some t=>exact⟨t,rfl⟩
    |none=>simp[Ms.piecesOf,e]at he
   refine⟨_,rfl,d.hp,d.dh,_,rfl,h.ho,kF _ _ (by decide+kernel),_,rfl,H0,d,m,k,t,y,rfl,rfl,h,hy,ht,?_⟩
   walk_at "d"
   refine⟨_,rfl,d.hp,d.dh,_,rfl,h.ho,kF _ _ (by decide+kernel),_,rfl,H0,d,m,k,t,y,rfl,rfl,h,hy,ht,fun u us hu hus=>?_⟩
   walk_at "d"
   refine⟨_,rfl,rfl,_,rfl,?_⟩
   rw[qX6]
   obtain⟨sr,held⟩:=t
   have two:∀{h0 h1:AV}{hr':List AV},held=h0::h1::hr'->∃u0 u1 ur,us=u0::u1::ur/\qY K H h0.dt u0/\qY K H h1.dt u1:=by
    intro h0 h1 hr' eh
    subst eh
    obtain⟨u0,us',rfl,hu0,hus'⟩:=qR hus
    obtain⟨u1,us'',rfl,hu1,_⟩:=qR hus'
    exact⟨u0,u1,us'',rfl,hu0,hu1⟩
   cases sr with
   |cell=>
    rw[decide_eq_true rfl]
    simp only[Ms.piecesOf,ht]at he
    split at he
    ·rename_i sr' h0 h1 hr' eh
     cases he
     have eh':=(Th.mk.inj (Option.some.inj eh)).2
     obtain⟨u0,u1,ur,rfl,hu0,hu1⟩:=two eh'
     refine jC ⟨zl2,fun t1 ht1=>?_⟩
     have g1:Grow H (upd H t1 (.tup [.str "text",.str "["])):=Grow.put ht1
     have e1:(upd H t1 (.tup [.str "text",.str "["])) t1=some (.tup [.str "text",.str "["]):=qJ
     generalize upd H t1 (.tup [.str "text",.str "["])=H1 at g1 e1⊢
     refine⟨_,rfl,u,_,_,u0,rfl,rfl,zB.mono g1.same hu,qW (j:=0) rfl,zl2,fun t2 ht2=>?_⟩
     have g2:Grow H1 (upd H1 t2 (.tup [.str "value",u0])):=Grow.put ht2
     have e2:(upd H1 t2 (.tup [.str "value",u0])) t2=some (.tup [.str "value",u0]):=qJ
     generalize upd H1 t2 (.tup [.str "value",u0])=H2 at g2 e2⊢
     have g12:=g1.trans g2
     refine⟨_,rfl,u,_,_,u1,rfl,rfl,zB.mono g12.same hu,qW (j:=1) rfl,zl2,fun t3 ht3=>?_⟩
     have g3:Grow H2 (upd H2 t3 (.tup [.str "tail",u1])):=Grow.put ht3
     have e3:(upd H2 t3 (.tup [.str "tail",u1])) t3=some (.tup [.str "tail",u1]):=qJ
     generalize upd H2 t3 (.tup [.str "tail",u1])=H3 at g3 e3⊢
     have g13:=g12.trans g3
     refine⟨zl3,fun l hl=>?_⟩
     have g4:Grow H3 (upd H3 l (.lst [.ref t1,.ref t2,.ref t3])):=Grow.put hl
     have g14:=g13.trans g4
     exact q l _ _ g14 (g13.none _ hl) qJ (qG (vO (((g2.trans g3).trans g4).same _ _ e1)) (qG (cA ((g3.trans g4).same _ _ e2) (hu0.mono g14.same)) (qG (eV (g4.same _ _ e3) (hu1.mono g14.same)) qA)))
    all_goals first|(rename_i eh;exact absurd (Th.mk.inj (Option.some.inj eh)).1 (by decide))|cases he
   |pair=>
    rw[decide_eq_false (by intro z;cases z)]
    refine jJ ⟨_,rfl,rfl,_,rfl,?_⟩
    rw[gF,decide_eq_true rfl]
    simp only[Ms.piecesOf,ht]at he
    split at he
    ·rename_i eh;exact absurd (Th.mk.inj (Option.some.inj eh)).1 (by decide)
    ·rename_i sr' h0 h1 hr' eh
     cases he
     have eh':=(Th.mk.inj (Option.some.inj eh)).2
     obtain⟨u0,u1,ur,rfl,hu0,hu1⟩:=two eh'
     refine jC ⟨zl2,fun t1 ht1=>?_⟩
     have g1:Grow H (upd H t1 (.tup [.str "text",.str "("])):=Grow.put ht1
     have e1:(upd H t1 (.tup [.str "text",.str "("])) t1=some (.tup [.str "text",.str "("]):=qJ
     generalize upd H t1 (.tup [.str "text",.str "("])=H1 at g1 e1⊢
     refine⟨_,rfl,u,_,_,u0,rfl,rfl,zB.mono g1.same hu,qW (j:=0) rfl,zl2,fun t2 ht2=>?_⟩
     have g2:Grow H1 (upd H1 t2 (.tup [.str "value",u0])):=Grow.put ht2
     have e2:(upd H1 t2 (.tup [.str "value",u0])) t2=some (.tup [.str "value",u0]):=qJ
     generalize upd H1 t2 (.tup [.str "value",u0])=H2 at g2 e2⊢
     have g12:=g1.trans g2
     refine⟨zl2,fun t3 ht3=>?_⟩
     have g3:Grow H2 (upd H2 t3 (.tup [.str "text",.str ","])):=Grow.put ht3
     have e3:(upd H2 t3 (.tup [.str "text",.str ","])) t3=some (.tup [.str "text",.str ","]):=qJ
     generalize upd H2 t3 (.tup [.str "text",.str ","])=H3 at g3 e3⊢
     have g13:=g12.trans g3
     refine⟨_,rfl,u,_,_,u1,rfl,rfl,zB.mono g13.same hu,qW (j:=1) rfl,zl2,fun t4 ht4=>?_⟩
     have g4:Grow H3 (upd H3 t4 (.tup [.str "value",u1])):=Grow.put ht4
     have e4:(upd H3 t4 (.tup [.str "value",u1])) t4=some (.tup [.str "value",u1]):=qJ
     generalize upd H3 t4 (.tup [.str "value",u1])=H4 at g4 e4⊢
     have g14:=g13.trans g4
     refine⟨zl2,fun t5 ht5=>?_⟩
     have g5:Grow H4 (upd H4 t5 (.tup [.str "text",.str ")"])):=Grow.put ht5
     have e5:(upd H4 t5 (.tup [.str "text",.str ")"])) t5=some (.tup [.str "text",.str ")"]):=qJ
     generalize upd H4 t5 (.tup [.str "text",.str ")"])=H5 at g5 e5⊢
     have g15:=g14.trans g5
     refine⟨(by show 5<=sizeLine;decide),fun l hl=>?_⟩
     have g6:Grow H5 (upd H5 l (.lst [.ref t1,.ref t2,.ref t3,.ref t4,.ref t5])):=Grow.put hl
     have g16:=g15.trans g6
     have g56:=g5.trans g6
     have g46:=g4.trans g56
     have g36:=g3.trans g46
     exact q l _ _ g16 (g15.none _ hl) qJ (qG (vO ((g2.trans g36).same _ _ e1)) (qG (cA (g36.same _ _ e2) (hu0.mono g16.same)) (qG (vO (g46.same _ _ e3)) (qG (cA (g56.same _ _ e4) (hu1.mono g16.same)) (qG (vO (g6.same _ _ e5)) qA)))))
    all_goals first|(rename_i eh;exact absurd (Th.mk.inj (Option.some.inj eh)).1 (by decide))|cases he
   |fn=>
    rw[decide_eq_false (by intro z;cases z)]
    refine jJ ⟨_,rfl,rfl,_,rfl,?_⟩
    rw[gF,decide_eq_false (by intro z;cases z)]
    simp only[Ms.piecesOf,ht]at he
    cases he
    refine jJ ⟨zl2,fun t1 ht1=>?_⟩
    have g1:Grow H (upd H t1 (.tup [.str "text",.str "fn"])):=Grow.put ht1
    have e1:(upd H t1 (.tup [.str "text",.str "fn"])) t1=some (.tup [.str "text",.str "fn"]):=qJ
    generalize upd H t1 (.tup [.str "text",.str "fn"])=H1 at g1 e1⊢
    refine⟨zl1,fun l hl=>?_⟩
    have g2:Grow H1 (upd H1 l (.lst [.ref t1])):=Grow.put hl
    exact q l _ _ (g1.trans g2) (g1.none _ hl) qJ (qG (vO (g2.same _ _ e1)) qA)
end
end K23
open PySem
namespace Ms
theorem pieces_ok{things:List Th}{pc:Pc}{ps:List Pc}(ht:∀t∈things,∀v∈t.held,v.ok)(e:piecesOf things pc=some ps):∀v,Pc.value v∈ps->v.ok:=by
 intro v hv
 cases pc with
 |text s=>cases e
 |tail u=>
  cases u with
  |nil=>cases e;simp at hv
  |at_ k=>
   simp only[piecesOf]at e
   split at e
   ·rename_i hk
    cases e
    have hh:=ht _ (aq23 hk)
    simp at hv
    subst hv
    exact hh _ (by simp)
   ·cases e
  |int n=>cases e
  |bl n=>cases e
 |value u=>
  cases u with
  |nil=>simp[piecesOf]at e;subst e;simp at hv
  |int n=>simp[piecesOf]at e;subst e;simp at hv
  |bl n=>simp[piecesOf]at e;subst e;simp at hv
  |at_ k=>
   simp only[piecesOf]at e
   split at e
   ·rename_i hk
    cases e
    have hh:=ht _ (aq23 hk)
    simp at hv
    subst hv
    exact hh _ (by simp)
   ·rename_i hk
    cases e
    have hh:=ht _ (aq23 hk)
    simp at hv
    rcases hv with rfl|rfl
    ·exact hh _ (by simp)
    ·exact hh _ (by simp)
   ·cases e;simp at hv
   ·cases e
end Ms
namespace K23
open PySem L2 PyProof Dt
theorem qA3{K:Fg}{H:Hp}{p:Pc}{r:List Pc}{vs:List V}(h:cT K H (p::r).reverse vs):∃ws x,vs=ws++[x]/\qY K H p.dt x/\cT K H r.reverse ws:=by
 unfold cT at h
 rw[List.reverse_cons,aq21]at h
 exact uG h
theorem eO{K:Fg}{H:Hp}:∀{ds:List Dt}{vs:List V},qO K H ds vs->qO K H ds.reverse vs.reverse
 |[],vs,h=>by cases zA h;exact qA
 |d::ds,vs,h=>by
  obtain⟨v,r,rfl,hv,hr⟩:=qR h
  rw[List.reverse_cons,List.reverse_cons]
  exact qO.append (eO hr) (qG hv qA)
theorem qA4{n:Int}(h:In64 n):(Str.ofString (toString n)).length<=100:=by
 have e:=int_text_length_le (k:=64) (by decide) (hG h)
 rw[ofString_length];omega
theorem pieces5{things:List Th}{pc:Pc}{ps:List Pc}(hv:∀v,pc= .value v->v.ok)(e:Ms.piecesOf things pc=some ps):ps.length<=5/\∀t,Pc.text t∈ps->t.length<=100:=by
 have c1:∀t∈(["]",",","[","(",")","fn","[]","true","false"]:List Str),t.length<=100:=by decide+kernel
 have one:∀s:Str,s.length<=100->ps=[.text s]->ps.length<=5/\∀t,Pc.text t∈ps->t.length<=100:=fun s hs h=>by
  subst h
  exact⟨by simp,fun t ht=>by simp at ht;subst ht;exact hs⟩
 cases pc with
 |text s=>cases e
 |tail u=>
  cases u with
  |nil=>cases e;exact one _ (c1 _ (by simp)) rfl
  |int n=>cases e
  |bl n=>cases e
  |at_ k=>
   simp only[Ms.piecesOf]at e
   split at e
   ·cases e
    refine⟨by simp,fun t ht=>?_⟩
    simp at ht
    subst ht
    exact c1 _ (by simp)
   ·cases e
 |value u=>
  cases u with
  |nil=>cases e;exact one _ (c1 _ (by simp[Ms.bare])) rfl
  |int n=>cases e;exact one _ (qA4 (hv _ rfl)) rfl
  |bl b=>cases b<;>(cases e;exact one _ (c1 _ (by simp[Ms.bare])) rfl)
  |at_ k=>
   simp only[Ms.piecesOf]at e
   split at e
   ·cases e
    refine⟨by simp,fun t ht=>?_⟩
    simp at ht
    subst ht
    exact c1 _ (by simp)
   ·cases e
    refine⟨by simp,fun t ht=>?_⟩
    simp at ht
    rcases ht with rfl|rfl|rfl<;>exact c1 _ (by simp)
   ·cases e;exact one _ (c1 _ (by simp)) rfl
   ·cases e
section
variable {P:Program} {w:World} {K:Fg} {mg:Str->Option Value} {base:Heap} {C CH f fS fH:Addr} {fd fdS fdH:FuncData}
theorem yW:qC ["heap","value","texts","left","waiting","piece"] ["heap","value"] (qU rT):=by walk_at "s"
inductive pZ(K:Fg)(CH:Addr)(TL:Addr)(vs:List V)(H:Hp)(Q:VK)(E:XK):Prop
 |mk (H0:Hp) (d:Ad) (m:Ms) (v:AV) (x:V) (fuel:Nat) (o:Option (List Str)) (a_0:vs=[.ref d.hp,x]) (a_1:qY K H v.dt x) (a_2:v.ok) (a_3:d.CH=CH) (a_4:MS K H0 d m H) (a_5:m.Wf) (a_6:fuel<=100000) (a_7:Ms.texts m.things fuel [.value v] 1000 []=some o) (a_8:(∀ts,o=some ts->∀H',Grow H H'->Q (.str (Txt.join (Str.ofString "") ts)) H')) (a_9:(o=none->Rz TL H E)):pZ K CH TL vs H Q E
def eI(K:Fg)(CH TL:Addr):Sp:=fun vs H Q E=>pZ K CH TL vs H Q E
def Vi(K:Fg)(m:Ms)(H:Hp)(hp:Addr)(x:V)(tx wt:Addr)(fuel:Nat)(o:Option (List Str))(n:Nat)(σ:St)(H':Hp):Prop:=∃(o5:Option V)(lf:Int)(acc:List Str)(ws:List Pc)(wv:List V),σ=[some (.ref hp),some x,some (.ref tx),some (.int lf),some (.ref wt),o5]/\Grow H H'/\H' tx=some (.lst (acc.map V.str))/\H' wt=some (.lst wv)/\cT K H' ws.reverse wv/\Ms.texts m.things n ws lf acc=some o/\n<=fuel/\acc.length+n<=fuel/\(((acc.map fun t=>t.length).sum:Nat):Int)+lf=1000/\0<=lf/\(∀u,Pc.value u∈ws->u.ok)/\(∀t,Pc.text t∈ws->t.length<=100)/\ws.length+4*n<=4*fuel+1
theorem qB0(F:zK K "value_text" "value_text" rT .none f fd)(G:GlW mg)(GP:Kn P w K mg base 3 "pieces_of" ["heap","piece"] (cE K CH)){TL:Addr}{bm:List Value}(xTL:XC K TL bm)(iTL:PySem.W.findIn K (.ref TL) "__init__"=some (some (.builtin "ValueError.__init__")))(mTL:mg "TooLong"=some (.ref TL)):zQ P w K mg base (CXE P w) 4 f fd ["heap","value"] (eI K CH TL):=by
 refine F.okE yW (by walk_at "l") ?_
 walk_at "i"
 obtain⟨H0,d,m,v,x,fuel,o,rfl,hx,hvo,rfl,h,hw,hfu,he,q,qE⟩:=h
 obtain⟨t1,m1⟩:=G.shown
 refine⟨_,qX (qF (i:=2) yW.nd rfl oI (jQ qZ))
  (qX (qF (i:=3) yW.nd rfl oI (zM (v:=.int 1000) (by rfl) m1 ⟨t1,rfl⟩))
  (qX (qF (i:=4) yW.nd rfl oI (jQ (qQ (zW (qQ qI (qQ (pv 1) qZ))) qZ)))
  (qX (wC PassesOwn.leaving (yT (pv 4) (fun _=>rfl))
   (qX (qF (i:=5) yW.nd rfl oI (xV aq0 aq3 aq4 xW (pv 4)))
   (qK (zH (zZ jS (qM qP (pv 5) qV) qI (nomark _))
    (qX (zJ (jT aq0 aq1 aq2 zF (pv 2) (qQ (qM qP (pv 5) qV) qZ)))
    (qX (qK7 (i:=3) yW.nd rfl oI (zV uZ (by rfl) G.len aq27 (qQ (qM qP (pv 5) qV) qZ)) qK8)
    (qK (zH (zZ oG (pv 3) qV (nomark _)) (qK (iT xTL (pR xTL iTL (by rfl) mTL (qQ qI qZ)))) zX))))
    (qK (zJ (jT aq0 PySem.F.slot_list_extend PySem.F.type_list_extend lB (pv 4) (qQ (zY1 rfl (by rfl) G.list (by rfl) G.reversed (qQ (zO GP hr (qQ (pv 0) (qQ (pv 5) qZ))) qZ)) qZ))))))))
  (qK (qB (jT PySem.F.plainAttrs_str PySem.F.slot_str_join PySem.F.type_str_join qH3 qI (qQ (pv 2) qZ))))))),?_⟩
 walk_at "e"
 refine⟨zl0,fun tx htx=>?_⟩
 walk_at "d"
 have g1:Grow H (upd H tx (.lst [])):=Grow.put htx
 have e1:(upd H tx (.lst [])) tx=some (.lst []):=qJ
 generalize upd H tx (.lst [])=H1 at g1 e1⊢
 show uD _ _ _ _ H1
 refine⟨_,rfl,zl2,fun p hp'=>?_⟩
 have g2:Grow H1 (upd H1 p (.tup [.str "value",x])):=Grow.put hp'
 have e2:(upd H1 p (.tup [.str "value",x])) p=some (.tup [.str "value",x]):=qJ
 generalize upd H1 p (.tup [.str "value",x])=H2 at g2 e2⊢
 refine⟨zl1,fun wt hwt=>?_⟩
 walk_at "d"
 have g3:Grow H2 (upd H2 wt (.lst [.ref p])):=Grow.put hwt
 have e3:(upd H2 wt (.lst [.ref p])) wt=some (.lst [.ref p]):=qJ
 have nw:H wt=none:=(g1.trans g2).none _ hwt
 have txw:tx≠wt:=qH (g2.same _ _ e1) hwt
 have hpc:qY K (upd H2 wt (.lst [.ref p])) (Pc.value v).dt (.ref p):=cA (g3.same _ _ e2) (hx.mono ((g1.trans g2).trans g3).same)
 generalize upd H2 wt (.lst [.ref p])=H3 at g3 e3 hpc⊢
 have g03:=(g1.trans g2).trans g3
 refine⟨fun n σ H'=>Vi K m H d.hp x tx wt fuel o n σ H',
  ⟨fuel,_,_,[],[.value v],[.ref p],rfl,g03,(g2.trans g3).same _ _ e1,e3,qG hpc qA,he,aq7 _,by simp,by simp,by decide,(fun u hu=>by simp at hu;subst hu;exact hvo),(fun t ht=>by simp at ht),(by show 1+4*fuel<=4*fuel+1;omega)⟩,?_⟩
 rintro n σ H4 ⟨o5,lf,acc,ws,wv,rfl,g4,e4,e5,hwd,htx',hn,hac,hsum,hlf,hoks,hts,hwn⟩
 have hwl:wv.length=ws.length:=by rw[hwd.length,aq16,List.length_reverse]
 match ws,hwd,htx',hwl,hoks,hts,hwn with
 |[],hwd,htx',hwl,hoks,hts,hwn=>
  have :wv=[]:=by cases wv with |nil=>rfl|cons _ _=>simp at hwl
  subst this
  refine⟨_,rfl,false,.inl ⟨_,zS.of e5,rfl⟩,jJ ?_⟩
  have ho:o=some acc:=by cases n<;>(simp[Ms.texts]at htx';exact htx'.symm)
  refine⟨rfl,_,rfl,_,tx,acc,rfl,rfl,zS.of e4,(by decide+kernel),?_,q acc ho H4 g4⟩
  omega
 |pc::ws,hwd,htx',hwl,hoks,hts,hwn=>
  obtain⟨n',rfl⟩:∃n',n=n'+1:=by
   cases n with
   |zero=>cases htx'
   |succ k=>exact⟨k,rfl⟩
  simp only[aq17]at hwn
  obtain⟨us,y,rfl,hy,hus⟩:=qA3 hwd
  refine⟨_,rfl,true,.inl ⟨_,zS.of e5,by simp⟩,jC ?_⟩
  refine⟨fun σ' H'=>Vi K m H d.hp x tx wt fuel o n' σ' H',
   fun σ' H' hh=>⟨n',by omega,hh⟩,?_⟩
  refine⟨_,rfl,.inl ⟨rfl,_,zS.of e5⟩,wt,_,y,rfl,rfl,e5,by simp,?_⟩
  rw[List.dropLast_concat]
  walk_at "d"
  have kt5:=zP (K:=K) (ys:=us) e5
  have g5:=g4.set (o:=.lst us) nw
  have a1:(upd H4 wt (.lst us)) tx=some (.lst (acc.map V.str)):=(qL txw).trans e4
  have a2:(upd H4 wt (.lst us)) wt=some (.lst us):=qJ
  have a3:=qY.monoT kt5 hy
  have a4:=qO.monoT kt5 hus
  show qK5 _ _ _ _ _ (upd H4 wt (.lst us))
  generalize upd H4 wt (.lst us)=H5 at g5 a1 a2 a3 a4⊢
  have more:∀(wd:Str)(a:Addr)(z:V)(ps:List Pc),y= .ref a->zB K H5 a [.str wd,z]->¬V.str wd=V.str "text"->(∀u,pc= .value u->u.ok)->Ms.piecesOf m.things pc=some ps->Ms.texts m.things n' (ps++ws) lf acc=some o->
    qK4 (tBM K "list" tZ (jV 4) (jK (zD3 K (jK (kS (cE K d.CH) [] E0 (jK (jV 0) (jK (jV 5) xE))) xE)) xE))
     {nx:=Vi K m H d.hp x tx wt fuel o n',rt:=Q} [some (.ref d.hp),some x,some (.ref tx),some (.int lf),some (.ref wt),some y] H5:=by
   intro wd a z ps ey ha hwd' hok' hps hrest
   refine⟨_,rfl,.inl ⟨rfl,_,zS.of a2⟩,_,rfl,_,rfl,H0,d,m,pc,ps,y,rfl,a3,hok',rfl,h.grow g5,hps,fun l xs H6 g6 n6 b1 b2=>?_⟩
   refine⟨l,_,rfl,zS.of b1,fun l2 hl2=>?_⟩
   have g7:Grow H6 (upd H6 l2 (.lst xs.reverse)):=Grow.put hl2
   have b3:(upd H6 l2 (.lst xs.reverse)) l2=some (.lst xs.reverse):=qJ
   have g67:=g6.trans g7
   have b5:=g67.same _ _ a2
   have b6:=g67.same _ _ a1
   have b7:=b2.mono g7.same
   have b8:=a4.mono g67.same
   have g8:=g5.trans g67
   generalize upd H6 l2 (.lst xs.reverse)=H7 at g7 b3 b5 b6 b7 b8 g67 g8⊢
   obtain⟨h5,ht5⟩:=pieces5 hok' hps
   have hxl:xs.length=ps.length:=by rw[b2.length,aq16]
   have hul:us.length=ws.length:=by rw[hus.length,aq16,List.length_reverse]
   refine⟨wt,l2,us,xs.reverse,rfl,rfl,b5,b3,by rw[sizeLine_eq,List.length_reverse];omega,?_⟩
   have kt8:=zP (K:=K) (ys:=us++xs.reverse) b5
   refine⟨_,lf,acc,ps++ws,us++xs.reverse,rfl,g8.set nw,(qL txw).trans b6,qJ,?_,hrest,by omega,by omega,hsum,hlf,fun u hu=>?_,fun t ht=>?_,by rw[List.length_append];omega⟩
   ·unfold cT
    rw[List.reverse_append,aq21]
    exact qO.monoT kt8 (qO.append b8 (by rw[List.map_reverse];exact eO b7))
   ·rcases List.mem_append.mp hu with hu|hu
    ·exact Ms.pieces_ok hw.it hps u hu
    ·exact hoks u (aq10 _ hu)
   ·rcases List.mem_append.mp ht with ht|ht
    ·exact ht5 t ht
    ·exact hts t (aq10 _ ht)
  cases pc with
  |text t=>
   obtain⟨a,z,rfl,ha,hz⟩:=xF a3
   cases jE hz
   simp only[Ms.texts]at htx'
   have ht100:=hts t aq22
   refine⟨_,rfl,a,_,_,_,rfl,rfl,ha,qW (j:=0) rfl,rfl,_,rfl,ite2 (fun _=>?_) (fun z=>absurd (by decide+kernel) z)⟩
   refine⟨_,rfl,.inl ⟨rfl,_,zS.of a1⟩,_,rfl,a,_,_,.str t,rfl,rfl,ha,qW (j:=1) rfl,tx,acc.map V.str,_,rfl,rfl,a1,by rw[sizeLine_eq,aq16];omega,?_⟩
   have kt6:=zP (K:=K) (ys:=acc.map V.str++[.str t]) a1
   have g6:=g5.set (o:=.lst (acc.map V.str++[.str t])) htx
   have b1:(upd H5 tx (.lst (acc.map V.str++[.str t]))) tx=some (.lst (acc.map V.str++[.str t])):=qJ
   have b2:(upd H5 tx (.lst (acc.map V.str++[.str t]))) wt=some (.lst us):=(qL txw.symm).trans a2
   have b3:=kt6 _ _ ha
   have b4:=qO.monoT kt6 a4
   generalize upd H5 tx (.lst (acc.map V.str++[.str t]))=H6 at g6 b1 b2 b3 b4⊢
   refine⟨_,rfl,_,rfl,a,_,_,.str t,rfl,rfl,b3,qW (j:=1) rfl,_,rfl,(by rw[sizeLine_eq];omega),_,_,rfl,rfl,?_⟩
   walk_at "d"
   refine⟨_,rfl,_,_,rfl,rfl,_,rfl,?_⟩
   refine ite2 (fun z=>?_) (fun z=>?_)
   ·have zz:lf-(t.length:Nat)<0:=of_decide_eq_true z
    rw[if_pos zz]at htx'
    cases htx'
    exact eX (qE rfl) g6
   have hge:¬lf-(t.length:Nat)<0:=fun y=>z (decide_eq_true y)
   rw[if_neg hge]at htx'
   refine⟨_,lf-(t.length:Nat),acc++[t],ws,us,rfl,g6,by rw[aq21];exact b1,b2,b4,htx',by omega,by simp;omega,?_,by omega,(fun u hu=>hoks u (aq10 _ hu)),(fun t ht=>hts t (aq10 _ ht)),by omega⟩
   simp only[aq21,List.sum_append,List.map_cons,List.map_nil,List.sum_cons,List.sum_nil]
   omega
  |value u=>
   obtain⟨a,z,rfl,ha,hz⟩:=xF a3
   simp only[Ms.texts]at htx'
   obtain⟨ps,hps,hrest⟩:=aq5.mp htx'
   refine⟨_,rfl,a,_,_,_,rfl,rfl,ha,qW (j:=0) rfl,rfl,_,rfl,ite2 (fun z=>absurd z (by decide+kernel)) (fun _=>?_)⟩
   exact more "value" a z ps rfl ha (by decide+kernel) (fun v' e'=>by cases e';exact hoks u aq22) hps hrest
  |tail u=>
   obtain⟨a,z,rfl,ha,hz⟩:=xF a3
   simp only[Ms.texts]at htx'
   obtain⟨ps,hps,hrest⟩:=aq5.mp htx'
   refine⟨_,rfl,a,_,_,_,rfl,rfl,ha,qW (j:=0) rfl,rfl,_,rfl,ite2 (fun z=>absurd z (by decide+kernel)) (fun _=>?_)⟩
   exact more "tail" a z ps rfl ha (by decide+kernel) (fun v' e'=>by cases e') hps hrest
theorem zP9{N:List Str}{qual:Str}{scope:Scope}{cd:Value}{A:Around}{outer:List Env}{s0:Shared}{H0:Hp}{E:XK}{k:Nat}{x:Str}{ps:List Str}{sp:Sp}{e:Expr}{es:List Expr}{t:TA}{p pos:Pos}(G:Kn P w K mg base k x ps sp)(hr:Room k (kD (CXE P w) P w K mg base N qual scope f cd A outer s0 H0 E).A)(ha:PA (kD (CXE P w) P w K mg base N qual scope f cd A outer s0 H0 E) (e::es) t)(hg:Gl (kD (CXE P w) P w K mg base N qual scope f cd A outer s0 H0 E) x:=by rfl)(hdb:(x==("__debug__":Str))=false:=by decide)
  (he:starEach (e::es) (kD (CXE P w) P w K mg base N qual scope f cd A outer s0 H0 E).env=(false,eval e (kD (CXE P w) P w K mg base N qual scope f cd A outer s0 H0 E).env)::starEach es (kD (CXE P w) P w K mg base N qual scope f cd A outer s0 H0 E).env:=by rfl)(hpl:(backTo pos (starEach es (kD (CXE P w) P w K mg base N qual scope f cd A outer s0 H0 E).env)).any (·.1)=false:=by rfl):
  PE (kD (CXE P w) P w K mg base N qual scope f cd A outer s0 H0 E) (.Call (.Name x p) (e::es) [] pos) (kS sp [] E t):=by
 obtain⟨f',fd',h1,h2,h3,h4⟩:=G
 exact vY h1 hr hg h2 h3 h4 .nil qZ4 ha hdb he hpl
theorem qA5:qC ["self"] ["self"] (qU sZ):=by walk_at "s"
inductive pJ(K:Fg)(C:Addr)(CH:Addr)(TL:Addr)(ND:Addr)(vs:List V)(H:Hp)(Q:VK)(E:XK):Prop
 |mk (H0:Hp) (d:Ad) (m:Ms) (a_0:vs=[.ref d.m]) (a_1:d.C=C) (a_2:d.CH=CH) (a_3:MS K H0 d m H) (a_4:m.Wf) (a_5:(m.st≠ .done->Rz ND H E)) (a_6:(m.st= .done->∃(v:AV)(fuel:Nat)(o:Option (List Str)),m.stk=[v]/\fuel<=100000/\Ms.texts m.things fuel [.value v] 1000 []=some o/\(∀ts,o=some ts->∀H',Grow H H'->Q (.str (Txt.join (Str.ofString "") ts)) H')/\(o=none->Rz TL H E))):pJ K C CH TL ND vs H Q E
def eC(K:Fg)(C CH TL ND:Addr):Sp:=fun vs H Q E=>pJ K C CH TL ND vs H Q E
theorem qB1{TL:Addr}(F:zK K "shown" "Machine.shown" sZ .none f fd)(M:Mc K C)(GT:Kn P w K mg base 4 "value_text" ["heap","value"] (eI K CH TL)){ND:Addr}{bm:List Value}(xND:XC K ND bm)(iND:PySem.W.findIn K (.ref ND) "__init__"=some (some (.builtin "ValueError.__init__")))(mND:mg "NotDone"=some (.ref ND)):zQ P w K mg base (CXE P w) 5 f fd ["self"] (eC K C CH TL ND):=by
 refine F.okE qA5 (by walk_at "l") ?_
 walk_at "i"
 obtain⟨H0,d,m,rfl,rfl,rfl,h,hw,qN,qD⟩:=h
 refine⟨_,qX (zH (zZ wL (qT (pv 0) rfl) qI (nomark _)) (qK (iT xND (pR xND iND (by rfl) mND (qQ qI qZ)))) zX)
  (qK (qB (zP9 GT hr (qQ (qT (pv 0) rfl) (qQ (qM zY (qT (pv 0) rfl) qV) qZ))))),?_⟩
 walk_at "e"
 refine⟨_,rfl,d.m,d.C,d.dx,_,_,rfl,h.mo,M.cl,M.n7,xR _ _,rfl,_,rfl,?_⟩
 have hd:∀x:Sd,(!decide (V.str x.str=V.str "done"))= !decide (x= .done):=by intro x;cases x<;>decide+kernel
 rw[hd]
 by_cases hst:m.st= .done
 rotate_left
 ·exact cC (by rw[decide_eq_false hst];rfl) (eX (qN hst) (Grow.refl H))
 obtain⟨v,fuel,o,hsk,hfu,he,q,qE⟩:=qD hst
 refine kI (by rw[decide_eq_true hst];rfl) ?_
 obtain⟨vs,hs,hd⟩:=h.so
 rw[hsk]at hd
 obtain⟨x,r,rfl,hx,hr0⟩:=qR hd
 cases zA hr0
 exact⟨_,rfl,d.m,d.C,d.dx,_,_,rfl,h.mo,M.cl,M.n2,wK _ _,_,rfl,d.m,d.C,d.dx,_,_,rfl,h.mo,M.cl,M.n3,xL _ _,d.st,_,_,x,rfl,rfl,zS.of hs,qW (j:=0) rfl,H0,d,m,v,x,fuel,o,rfl,hx,hw.iv v (by rw[hsk];simp),rfl,h,hw,hfu,he,q,qE⟩
end
structure Df(K:Fg)(mg:Str->Option Value)(x:Str)(st:Stmt)(ps:List Str)(f:Addr)(fd:FuncData):Prop where
 fn:zK K x x st .none f fd
 at_:mg x=some (.ref f)
 bi:Binds K fd ps []
section
variable {P:Program} {w:World} {K:Fg} {mg:Str->Option Value} {base:Heap} {f:Addr} {fd:FuncData} {x:Str} {st:Stmt} {ps:List Str} {k:Nat} {sp:Sp}
theorem Df.kn(d:Df K mg x st ps f fd)(h:zQ P w K mg base (CXE P w) k f fd ps sp):Kn P w K mg base k x ps sp:=⟨f,fd,h,d.at_,d.fn.kp,d.bi⟩
theorem Df.at(d:Df K mg x st ps f fd)(h:zQ P w K mg base (CXE P w) k f fd ps sp):At P w K mg base k f ps sp:=⟨fd,h,d.fn.kp,d.bi⟩
end
section
variable {P:Program} {w:World} {K:Fg} {mg:Str->Option Value} {base:Heap}
variable {fFit fLet fFn fRec fON fOpd fCall fIf fLetC fFnC fCode:Addr} {dFit dLet dFn dRec dON dOpd dCall dIf dLetC dFnC dCode:FuncData}
theorem eG(F:Df K mg "fitted" qUj lX fFit dFit)(FL:Df K mg "let_kind" tS lX fLet dLet)(FN:Df K mg "fn_kind" qP6 lX fFn dFn)(FR:Df K mg "rec_kind" tT lX fRec dRec)(G:GlF P w K mg base fLet fFn fRec)(GV:Kn P w K mg base 1 "values_behind" ["part","sort"] (dP K))(GR:Kn P w K mg base 1 "require" ["holds"] oP)(GU:Kn P w K mg base 1 "looked_up" ["scope","name"] rZ)(GP:Kn P w K mg base 1 "pair_kind" ["kinds","pairs"] (zY8 K))(GW:Kn P w K mg base 1 "with_name" ["scope","name","bound"] rQ):
  ∀n,Kn P w K mg base (2*n+2) "fitted" lX (uY K n)
 |0=>F.kn (qPq F.fn)
 |n+1=>by
  have ih:=eG F FL FN FR G GV GR GU GP GW n
  exact F.kn (zYj F.fn G GV GR GU GP (FL.at (zY9 FL.fn ih GW)) (FN.at (zF4 FN.fn ih GW)) (FR.at (zYq FR.fn ih GW GR)) ih)
theorem qB2(F:Df K mg "outside_names" sON ["part"] fON dON)(G:GlO mg)(GV:Kn P w K mg base 1 "values_behind" ["part","sort"] (dP K))(GB:Kn P w K mg base 2 "names_bound" ["part"] (qU4 K)):∀n,Kn P w K mg base (n+2) "outside_names" ["part"] (qJ7 K n)
 |0=>F.kn (zU8 F.fn)
 |n+1=>F.kn (zF7 F.fn G GV GB (qB2 F G GV GB n))
theorem pX{tb:Addr}(F:Df K mg "code_of" cO ps4 fCode dCode)(FO:Df K mg "operands_code" qR0 ["part","slots","height"] fOpd dOpd)(FC:Df K mg "call_code" nO ps4 fCall dCall)(FI:Df K mg "if_code" qR1 ps4 fIf dIf)(FL:Df K mg "let_code" aZ ps4 fLetC dLetC)(FF:Df K mg "function_code" fY ["part","slots"] fFnC dFnC)(G:GlC mg)
  (mP:mg "PLACED_CODES"=some (.ref tb))(T1:oE K tb (pkeys.zip [.ref fCall,.ref fIf,.ref fIf,.ref fIf,.ref fLetC]))(GV:Kn P w K mg base 1 "values_behind" ["part","sort"] (dP K))(GB:Kn P w K mg base 2 "names_bound" ["part"] (qU4 K))(GU:Kn P w K mg base 1 "looked_up" ["scope","name"] rZ)(GW:Kn P w K mg base 1 "with_name" ["scope","name","bound"] rQ)
  (GA:Kn P w K mg base 1 "as_if" ["part"] (zUj K))(GVa:Kn P w K mg base 2 "value_code" ["part","slots"] (qI2 K))(GO:∀n,Kn P w K mg base (n+2) "outside_names" ["part"] (qJ7 K n)):∀n,Kn P w K mg base (3*n+4) "code_of" ps4 (wR K n)
 |0=>F.kn (qI8 F.fn)
 |n+1=>by
  have ih:=pX F FO FC FI FL FF G mP T1 GV GB GU GW GA GVa GO n
  have o:=FO.kn (zUq FO.fn G.enumerate GV ih)
  exact F.kn (qR3 F.fn mP T1 (FC.at (qOz FC.fn o)) (FI.at (ok_ifC FI.fn G.len GA ih)) (FL.at (qR2 FL.fn GW ih)) (FF.kn (zO2 FF.fn G GU GB (GO (n+1)) ih)) GVa o)
end
section
variable {P:Program} {w:World} {K:Fg} {mg:Str->Option Value} {base:Heap} {f:Addr} {fd:FuncData}
inductive zK5(K:Fg)(vs:List V)(H:Hp)(Q:VK):Prop
 |mk (v:V) (p:Pt) (κ:Kd) (a_0:vs=[v]) (a_1:qY K H p.dt v) (a_2:p.deep<70) (a_3:p.sz<=50000) (a_4:Pt.Has [] p κ) (a_5:∀u H',Grow H H'->qY K H' κ.dt u->Q u H'):zK5 K vs H Q
def zPq(K:Fg):Sp:=fun vs H Q x_0=>zK5 K vs H Q
theorem jQ6:qC ["part"] ["part"] (qU sKO):=by walk_at "s"
theorem zPz(F:zK K "kind_of" "kind_of" sKO .none f fd)(GF:Kn P w K mg base 142 "fitted" lX (uY K 70)):zQ P w K mg base (CXE P w) 143 f fd ["part"] (zPq K):=by
 refine F.ok0 jQ6 (by walk_at "l") ?_
 walk_at "i"
 obtain⟨v,p,κ,rfl,hp,hd,hz,hh,q⟩:=h
 refine⟨_,qK (qB (zO GF hr (qQ (pv 0) (qQ wN (qQ (jQ qZ) qZ))))),?_⟩
 walk_at "e"
 refine⟨_,rfl,fun d hd1=>?_⟩
 have g1:Grow H (upd H d (.dK [])):=Grow.put hd1
 have e1:(upd H d (.dK [])) d=some (.dK []):=qJ
 generalize upd H d (.dK [])=H1 at g1 e1⊢
 refine⟨zl0,fun l hl=>?_⟩
 have g2:Grow H1 (upd H1 l (.lst [])):=Grow.put hl
 have e2:(upd H1 l (.lst [])) l=some (.lst []):=qJ
 have e1:=g2.same _ _ e1
 generalize upd H1 l (.lst [])=H2 at g2 e1 e2⊢
 have g12:=g1.trans g2
 refine⟨v,d,l,p,[],κ,0,0,rfl,hp.mono g12.same,hd,hh,⟨[],e1,by simp,fun x k h=>by cases h⟩,by omega,⟨[],[],e2,qA,(fun k h=>by cases h),by simp⟩,by omega,fun u H3 g3 _ hu=>?_⟩
 exact q u H3 (jM.of_new g12 g3 (g1.none _ hl)) hu
inductive zK6(K:Fg)(vs:List V)(H:Hp)(Q:VK):Prop
 |mk (v:V) (p:Pt) (κ:Kd) (a_0:vs=[v]) (a_1:qY K H p.dt v) (a_2:p.deep<70) (a_3:p.sz<=50000) (a_4:Pt.Has [] p κ) (a_5:∀l ys H',Grow H H'->H l=none->H' l=some (.lst ys)->jL K H' (Pt.codeOf p [] 0 true) ys->Q (.ref l) H'):zK6 K vs H Q
def zPj(K:Fg):Sp:=fun vs H Q x_0=>zK6 K vs H Q
theorem jQ7:qC ["part"] ["part"] (qU qO7):=by walk_at "s"
theorem zR0(F:zK K "compiled" "compiled" qO7 .none f fd)(GK:Kn P w K mg base 143 "kind_of" ["part"] (zPq K))(GC:Kn P w K mg base 214 "code_of" ps4 (wR K 70)):zQ P w K mg base (CXE P w) 215 f fd ["part"] (zPj K):=by
 refine F.ok0 jQ7 (by walk_at "l") ?_
 walk_at "i"
 obtain⟨v,p,κ,rfl,hp,hd,hz,hh,q⟩:=h
 refine⟨_,qX (zJ (zO GK (hr.mono (by omega)) (qQ (pv 0) qZ))) (qK (qB (zO GC hr (qQ (pv 0) (qQ wN (qQ qV (qQ vQ qZ))))))),?_⟩
 walk_at "e"
 refine⟨_,rfl,v,p,κ,rfl,hp,hd,hz,hh,fun u H1 g1 _=>?_⟩
 refine⟨_,rfl,fun d hd1=>?_⟩
 have g2:Grow H1 (upd H1 d (.dK [])):=Grow.put hd1
 have e1:(upd H1 d (.dK [])) d=some (.dK []):=qJ
 generalize upd H1 d (.dK [])=H2 at g2 e1⊢
 have g12:=g1.trans g2
 refine⟨v,d,0,true,p,[],rfl,hp.mono g12.same,hd,hz,⟨[],e1,by simp;omega,fun x hx=>?_⟩,fun l ys H3 g3 n3 e3 hc3=>q l ys H3 (g12.trans g3) (g12.none _ n3) e3 hc3⟩
 obtain⟨l,hl⟩:=hh.fv x hx
 cases hl
end
end K23
open PySem
namespace Ms
def iter:Nat->Ms->Option Ms
 |0,m=>some m
 |k+1,m=>if m.st= .running then m.order.bind (iter k)else none
end Ms
open PySem
namespace Pt
def small(k:Kd):Option Kd:=if k.sz<=40 then some k else none
def infer:Cxt->Pt->Option Kd
 |_,.num _=>some .int
 |_,.tru _=>some .bool
 |Γ,.nam x=>(Γ.lookup x).bind small
 |_,.nil k=>if k.sz+1<=40 then some (.list k)else none
 |Γ,.one u p=>(infer Γ p).bind fun k=>(k1 u k).bind small
 |Γ,.two u p q=>(infer Γ p).bind fun k=>(infer Γ q).bind fun l=>(k2 u k l).bind small
 |Γ,.ite p q r=>if infer Γ p=some .bool then(infer Γ q).bind fun k=>if infer Γ r=some k then some k else none else none
 |Γ,.let_ x p q=>(infer Γ p).bind fun k=>infer ((x,k)::Γ) q
 |Γ,.fn x k p=>(infer ((x,k)::Γ) p).bind fun l=>small (.fn k l)
 |Γ,.rc f x k l p=>if infer ((x,k)::(f,.fn k l)::Γ) p=some l then small (.fn k l)else none
theorem wA{k l:Kd}(h:small k=some l):k=l/\l.sz<=40:=by
 unfold small at h
 split at h
 ·cases h;exact⟨rfl,by assumption⟩
 ·cases h
theorem infer_has:∀{p:Pt}{Γ:Cxt}{κ:Kd},infer Γ p=some κ->Has Γ p κ
 | .num _,Γ,κ,h=>by cases h;exact .num
 | .tru _,Γ,κ,h=>by cases h;exact .tru
 | .nam x,Γ,κ,h=>by
  obtain⟨k,h1,h2⟩:=aq5.mp h
  obtain⟨rfl,h3⟩:=wA h2
  exact .nam h1 h3
 | .nil k,Γ,κ,h=>by
  rw[infer]at h
  split at h
  ·cases h;exact .nil (by assumption)
  ·cases h
 | .one u p,Γ,κ,h=>by
  obtain⟨k,h1,h2⟩:=aq5.mp h
  obtain⟨m,h3,h4⟩:=aq5.mp h2
  obtain⟨rfl,h5⟩:=wA h4
  exact .one (infer_has h1) h3 h5
 | .two u p q,Γ,κ,h=>by
  obtain⟨k,h1,h2⟩:=aq5.mp h
  obtain⟨l,h3,h4⟩:=aq5.mp h2
  obtain⟨m,h5,h6⟩:=aq5.mp h4
  obtain⟨rfl,h7⟩:=wA h6
  exact .two (infer_has h1) (infer_has h3) h5 h7
 | .ite p q r,Γ,κ,h=>by
  rw[infer]at h
  split at h
  ·rename_i hp
   obtain⟨k,h1,h2⟩:=aq5.mp h
   split at h2
   ·rename_i hr
    cases h2
    exact .ite (infer_has hp) (infer_has h1) (infer_has hr)
   ·cases h2
  ·cases h
 | .let_ x p q,Γ,κ,h=>by
  obtain⟨k,h1,h2⟩:=aq5.mp h
  exact .let_ (infer_has h1) (infer_has h2)
 | .fn x k p,Γ,κ,h=>by
  obtain⟨l,h1,h2⟩:=aq5.mp h
  obtain⟨rfl,h3⟩:=wA h2
  exact .fn (infer_has h1) h3
 | .rc f x k l p,Γ,κ,h=>by
  rw[infer]at h
  split at h
  ·rename_i hp
   obtain⟨rfl,h3⟩:=wA h
   exact .rc (infer_has hp) h3
  ·cases h
def Nums:Pt->Prop
 | .num n=>In64 n
 | .one _ p=>Nums p
 | .two _ p q=>Nums p/\Nums q
 | .ite p q r=>Nums p/\Nums q/\Nums r
 | .let_ _ p q=>Nums p/\Nums q
 | .fn _ _ p=>Nums p
 | .rc _ _ _ _ p=>Nums p
 |_=>True
theorem xM{c d:List AOrd}(h:∀o∈c,o.ok)(g:∀o∈d,o.ok):∀o∈c++d,o.ok:=fun o ho=>(List.mem_append.mp ho).elim (h o) (g o)
theorem kY{o:AOrd}(h:o.ok):∀x∈[o],x.ok:=fun x hx=>by rw[aq20.mp hx];exact h
theorem ok_told{c:List AOrd}{b:Bool}(h:∀o∈c,o.ok):∀o∈told b c,o.ok:=by
 unfold told
 cases b
 ·exact h
 ·exact xM h (kY trivial)
theorem ok_ifC{c1 c2 c3:List AOrd}{b:Bool}(h1:∀o∈c1,o.ok)(h2:∀o∈c2,o.ok)(h3:∀o∈c3,o.ok):∀o∈ifC b c1 c2 c3,o.ok:=by
 unfold ifC
 cases b
 ·exact xM (xM (xM h1 (kY trivial)) (xM h2 (kY trivial))) h3
 ·exact xM (xM (xM h1 (kY trivial)) h2) h3
theorem zR1(u:U1):(u1 u).ok:=by cases u<;>(first|trivial|(show(_,_)∈_;simp))
theorem zR2(u:U2):(u2 u).ok:=by cases u<;>first|trivial|(show _≠_;intro z;cases z)
theorem codeOf_ok:∀{p:Pt}{sl:Sl}{h:Nat}{b:Bool},Nums p->p.sz<=50000->∀o∈codeOf p sl h b,o.ok
 | .num n,sl,h,b,hn,hz=>ok_told (kY hn)
 | .tru n,sl,h,b,hn,hz=>ok_told (kY trivial)
 | .nam n,sl,h,b,hn,hz=>ok_told (kY trivial)
 | .nil n,sl,h,b,hn,hz=>ok_told (kY trivial)
 | .one u p,sl,h,b,hn,hz=>ok_told (xM (codeOf_ok (p:=p) hn (by simp only[sz]at hz;omega)) (kY (zR1 u)))
 | .two u p q,sl,h,b,hn,hz=>by
  have z1:p.sz<=50000:=by simp only[sz]at hz;omega
  have z2:q.sz<=50000:=by simp only[sz]at hz;omega
  have ho:∀u',(∀o∈told b (codeOf p sl h false++codeOf q sl (h+1) false++[u2 u']),o.ok):=fun u'=>ok_told (xM (xM (codeOf_ok hn.1 z1) (codeOf_ok hn.2 z2)) (kY (zR2 u')))
  cases u
  case call=>exact xM (xM (codeOf_ok hn.1 z1) (codeOf_ok hn.2 z2)) (kY (by cases b<;>trivial))
  case and=>exact ok_ifC (codeOf_ok hn.1 z1) (codeOf_ok hn.2 z2) (ok_told (kY trivial))
  case or=>exact ok_ifC (codeOf_ok hn.1 z1) (ok_told (kY trivial)) (codeOf_ok hn.2 z2)
  case cons=>exact ho .cons
  case pair=>exact ho .pair
  case plus=>exact ho .plus
  case minus=>exact ho .minus
  case times=>exact ho .times
  case over=>exact ho .over
  case rest=>exact ho .rest
  case less=>exact ho .less
  case same=>exact ho .same
 | .ite p q r,sl,h,b,hn,hz=>by
  simp only[sz]at hz
  exact ok_ifC (codeOf_ok hn.1 (by omega)) (codeOf_ok hn.2.1 (by omega)) (codeOf_ok hn.2.2 (by omega))
 | .let_ x p q,sl,h,b,hn,hz=>by
  simp only[sz]at hz
  cases b
  ·exact xM (codeOf_ok hn.1 (by omega)) (xM (codeOf_ok hn.2 (by omega)) (kY trivial))
  ·exact xM (codeOf_ok hn.1 (by omega)) (codeOf_ok hn.2 (by omega))
 | .fn x k p,sl,h,b,hn,hz=>by
  have hl:=outs_length (.fn x k p)
  refine ok_told fun o ho=>?_
  rcases List.mem_cons.mp ho with rfl|ho
  ·show(List.map _ _).length<=50000
   rw[aq16];omega
  ·exact codeOf_ok (p:=p) hn (by simp only[sz]at hz;omega) o ho
 | .rc f x k l p,sl,h,b,hn,hz=>by
  have hl:=outs_length (.rc f x k l p)
  refine ok_told fun o ho=>?_
  rcases List.mem_cons.mp ho with rfl|ho
  ·show(List.map _ _).length<=50000
   rw[aq16];omega
  ·exact codeOf_ok (p:=p) hn (by simp only[sz]at hz;omega) o ho
end Pt
namespace Ms
theorem new_wf{p:Pt}{R:Nat}(hn:p.Nums)(hz:p.sz<=50000)(hR:R<=1000):(new (Pt.codeOf p [] 0 true) R).Wf:=
 ⟨Nat.zero_le _,(fun v h=>by cases h),(fun t h=>by cases h),Pt.codeOf_ok hn hz,by have :=Pt.codeOf_len p [] 0 true;show(Pt.codeOf p [] 0 true).length<=_;omega,hR,Nat.zero_le _⟩
end Ms
open PySem
namespace A23
noncomputable def dbl:Nat->Pt
 |0=>.num 1
 |k+1=>.let_ "x" (dbl k) (.two .pair (.nam "x") (.nam "x"))
noncomputable def lenD:Nat->Nat
 |0=>1
 |k+1=>2*lenD k+3
noncomputable def txD:Nat->Str
 |0=>"1"
 |k+1=>("(":Str)++txD k++","++txD k++")"
noncomputable def pcD:Nat->List Str
 |0=>["1"]
 |k+1=>("(":Str)::(pcD k++((",":Str)::(pcD k++([")"]:List Str))))
noncomputable def ones (n:Nat):Int:=(((10^n-1)/9:Nat):Int)
noncomputable def sizeAt (l:Int) (many k:Nat):Int:=1+(if l/((many:Int)-(k:Int))<17 then l/((many:Int)-(k:Int))else 17)
noncomputable def lf (l0:Int) (many:Nat):Nat->Int
 |0=>l0
 |k+1=>lf l0 many k-sizeAt (lf l0 many k) many k+1
noncomputable def left0 (total many:Nat):Int:=(total:Int)-2-2*(many:Int)+1
noncomputable def lst (f:Nat->Int):Nat->Pt
 |0=>.nil .int
 |k+1=>.two .cons (.num (f k)) (lst f k)
noncomputable def code (p:Pt):List AOrd:=Pt.codeOf p [] 0 true
noncomputable def szOk (p:Pt):Bool:=decide (p.sz<=50000/\p.deep<70)&&(Pt.infer [] p).isSome
noncomputable def numB:Pt->Bool
 | .num n=>decide (-9223372036854775808<=n/\n<=9223372036854775807)
 | .one _ p=>numB p
 | .two _ p q=>numB p&&numB q
 | .ite p q r=>numB p&&numB q&&numB r
 | .let_ _ p q=>numB p&&numB q
 | .fn _ _ p=>numB p
 | .rc _ _ _ _ p=>numB p
 |_=>true
theorem kU:∀{p:Pt},numB p=true->p.Nums
 | .num n,h=>show In64 n from of_decide_eq_true (p:= -9223372036854775808<=n/\n<=9223372036854775807) h
 | .tru _,_=>trivial
 | .nam _,_=>trivial
 | .nil _,_=>trivial
 | .one _ p,h=>kU (p:=p) h
 | .two _ p q,h=>by rw[numB,Bool.and_eq_true]at h;exact⟨kU h.1,kU h.2⟩
 | .ite p q r,h=>by rw[numB,Bool.and_eq_true,Bool.and_eq_true]at h;exact⟨kU h.1.1,kU h.1.2,kU h.2⟩
 | .let_ _ p q,h=>by rw[numB,Bool.and_eq_true]at h;exact⟨kU h.1,kU h.2⟩
 | .fn _ _ p,h=>kU (p:=p) h
 | .rc _ _ _ _ p,h=>kU (p:=p) h
noncomputable def shows (m:Ms):Option (Option (List Str)):=if m.st= .done then match m.stk with
 |[v]=>Ms.texts m.things 4000 [.value v] 1000 []
 |_=>none else none
noncomputable def lens (ts:List Str):Nat:=(ts.map (·.length)).sum
noncomputable def okD (k:Nat):Bool:=match Ms.run 60001 1000 (Ms.new (code (dbl k)) 400)with
 |some m=>decide (shows m=some (if lenD k<=1000 then some (pcD k)else none))&&(match m.collect with
  |some m2=>decide (m2.things.length=k)&&decide (shows m2=some (if lenD k<=1000 then some (pcD k)else none))
  |none=>false)
 |none=>false
noncomputable def trap:Pt:=.one .head (.nil .int)
noncomputable def okT:Bool:=match Ms.run 60001 100 (Ms.new (code trap) 8)with
 |some m=>decide (m.st= .ofEmpty)
 |none=>false
noncomputable def thF (f:Nat->Int) (many:Nat):List Th:=(List.range many).map fun i=>⟨.cell,[.int (f i),if i=0 then .nil else .at_ (i-1)]⟩
noncomputable def fin (f:Nat->Int) (many:Nat):Ms:=⟨code (lst f many),400,thF f many,many,[.at_ (many-1)],0,2*many+2,[],.done⟩
end A23
open PySem
namespace A23
theorem d7:((List.range 8).all fun k=>okD k)=true:=by decide+kernel
theorem d8:((List.range 7).all fun k=>okD (k+8))=true:=by decide+kernel
theorem dz:((List.range 15).all fun k=>szOk (dbl k)&&numB (dbl k))=true:=by decide+kernel
theorem tz:(szOk trap&&numB trap&&okT&&szOk (.num 1)&&numB (.num 1))=true:=by decide+kernel
theorem len1:((List.range 18).all fun s=>decide ((toString (ones (s+1)):Str).length=s+1))=true:=by decide+kernel
section
variable (f:Nat->Int)
theorem r54:Ms.run 60001 4000 (Ms.new (code (lst f 54)) 400)=some (fin f 54):=by kernel_rfl
theorem r55:Ms.run 60001 4000 (Ms.new (code (lst f 55)) 400)=some (fin f 55):=by kernel_rfl
theorem r56:Ms.run 60001 4000 (Ms.new (code (lst f 56)) 400)=some (fin f 56):=by kernel_rfl
theorem r57:Ms.run 60001 4000 (Ms.new (code (lst f 57)) 400)=some (fin f 57):=by kernel_rfl
theorem r58:Ms.run 60001 4000 (Ms.new (code (lst f 58)) 400)=some (fin f 58):=by kernel_rfl
theorem r59:Ms.run 60001 4000 (Ms.new (code (lst f 59)) 400)=some (fin f 59):=by kernel_rfl
theorem r60:Ms.run 60001 4000 (Ms.new (code (lst f 60)) 400)=some (fin f 60):=by kernel_rfl
end
end A23
open PySem
namespace A23
theorem zR3(f:Nat->Int){many:Nat}(h1:54<=many)(h2:many<=60):Ms.run 60001 4000 (Ms.new (code (lst f many)) 400)=some (fin f many):=by
 have :many=54\/many=55\/many=56\/many=57\/many=58\/many=59\/many=60:=by omega
 rcases this with rfl|rfl|rfl|rfl|rfl|rfl|rfl
 ·exact r54 f
 ·exact r55 f
 ·exact r56 f
 ·exact r57 f
 ·exact r58 f
 ·exact r59 f
 ·exact r60 f
def S(f:Nat->Int):Nat->Nat
 |0=>1
 |i+1=>1+(toString (f i):Str).length+S f i
def pr:Nat->AV
 |0=>.nil
 |i+1=>.at_ i
theorem zK7(f:Nat->Int){many i:Nat}(h:i<many):(thF f many)[i]? =some ⟨.cell,[.int (f i),pr i]⟩:=by
 unfold thF
 rw[aq19,List.getElem?_range h]
 cases i with
 |zero=>rfl
 |succ i=>rfl
theorem wE(a:List Str)(s:Str):lens (a++[s])=lens a+s.length:=by simp[lens]
theorem tails(f:Nat->Int){many:Nat}:∀{i:Nat},i<=many->∀(n:Nat)(left:Int)(acc:List Str),4*i+2<=n->0<=left->
  ((S f i:Nat)<=left->∃ts,Ms.texts (thF f many) n [.tail (pr i)] left acc=some (some ts)/\lens ts=lens acc+S f i)/\(left<(S f i:Nat)->Ms.texts (thF f many) n [.tail (pr i)] left acc=some none)
 |0,_,n,left,acc,hn,hl=>by
  obtain⟨n,rfl⟩:∃k,n=k+2:=⟨n-2,by omega⟩
  have e1:("]":Str).length=1:=by decide+kernel
  have e:Ms.texts (thF f many) (n+2) [.tail (pr 0)] left acc=if left-(("]":Str).length:Nat)<0 then some none else some (some (acc++(["]"]:List Str))):=by
   show(if left-(("]":Str).length:Nat)<0 then some none else Ms.texts (thF f many) n [] _ _)=_
   cases n<;>rfl
  rw[e,e1]
  simp only[S]
  constructor
  ·intro h
   exact⟨acc++(["]"]:List Str),by rw[if_neg (by omega)],by rw[wE,e1]⟩
  ·intro h
   rw[if_pos (by omega)]
 |i+1,hi,n,left,acc,hn,hl=>by
  obtain⟨n,rfl⟩:∃k,n=k+4:=⟨n-4,by omega⟩
  have e1:(",":Str).length=1:=by decide+kernel
  have e:Ms.texts (thF f many) (n+4) [.tail (pr (i+1))] left acc=if left-((",":Str).length:Nat)<0 then some none else
    if left-((",":Str).length:Nat)-((toString (f i):Str).length:Nat)<0 then some none else Ms.texts (thF f many) n [.tail (pr i)] (left-((",":Str).length:Nat)-((toString (f i):Str).length:Nat)) (acc++([","]:List Str)++[(toString (f i):Str)]):=by
   show(Ms.piecesOf (thF f many) (.tail (.at_ i))).bind _=_
   have hp:Ms.piecesOf (thF f many) (.tail (.at_ i))=some [.text ",",.value (.int (f i)),.tail (pr i)]:=by
    simp only[Ms.piecesOf]
    rw[zK7 f (show i<many by omega)]
   rw[hp]
   rfl
  rw[e,e1]
  simp only[S]
  by_cases h1:left-1<0
  ·rw[if_pos (by omega)]
   exact⟨fun h=>by omega,fun _=>rfl⟩
  ·rw[if_neg (by omega)]
   by_cases h2:left-1-((toString (f i):Str).length:Nat)<0
   ·rw[if_pos (by omega)]
    exact⟨fun h=>by omega,fun _=>rfl⟩
   ·rw[if_neg (by omega)]
    obtain⟨ih1,ih2⟩:=tails f (many:=many) (i:=i) (by omega) n (left-1-((toString (f i):Str).length:Nat)) (acc++([","]:List Str)++[(toString (f i):Str)]) (by omega) (by omega)
    refine⟨fun h=>?_,fun h=>ih2 (by omega)⟩
    obtain⟨ts,t1,t2⟩:=ih1 (by omega)
    exact⟨ts,t1,by rw[t2,wE,wE,e1];omega⟩
theorem qA6(f:Nat->Int){many:Nat}(h1:54<=many)(h2:many<=60):(S f many<=1000->∃ts,shows (fin f many)=some (some ts)/\lens ts=S f many)/\(1000<S f many->shows (fin f many)=some none):=by
 obtain⟨i,rfl⟩:∃i,many=i+1:=⟨many-1,by omega⟩
 have e1:("[":Str).length=1:=by decide+kernel
 have e:shows (fin f (i+1))=if(1000:Int)-(("[":Str).length:Nat)<0 then some none else
   if(1000:Int)-(("[":Str).length:Nat)-((toString (f i):Str).length:Nat)<0 then some none else Ms.texts (thF f (i+1)) 3996 [.tail (pr i)] ((1000:Int)-(("[":Str).length:Nat)-((toString (f i):Str).length:Nat)) ([]++(["["]:List Str)++[(toString (f i):Str)]):=by
  show Ms.texts (thF f (i+1)) 4000 [.value (.at_ i)] 1000 []=_
  show(Ms.piecesOf (thF f (i+1)) (.value (.at_ i))).bind _=_
  have hp:Ms.piecesOf (thF f (i+1)) (.value (.at_ i))=some [.text "[",.value (.int (f i)),.tail (pr i)]:=by
   simp only[Ms.piecesOf]
   rw[zK7 f (show i<i+1 by omega)]
  rw[hp]
  rfl
 rw[e,e1,if_neg (by decide)]
 simp only[S]
 by_cases h:(1000:Int)-(1:Nat)-((toString (f i):Str).length:Nat)<0
 ·rw[if_pos h]
  exact⟨fun z=>by omega,fun _=>rfl⟩
 ·rw[if_neg h]
  obtain⟨ih1,ih2⟩:=tails f (many:=i+1) (i:=i) (by omega) 3996 ((1000:Int)-(1:Nat)-((toString (f i):Str).length:Nat)) ([]++(["["]:List Str)++[(toString (f i):Str)]) (by omega) (by omega)
  refine⟨fun z=>?_,fun z=>ih2 (by omega)⟩
  obtain⟨ts,t1,t2⟩:=ih1 (by omega)
  exact⟨ts,t1,by rw[t2,wE,wE,e1];show 0+1+_+_=_;omega⟩
theorem bJ{l0:Int}{many:Nat}(h0:0<=l0)(h1:l0<=17*(many:Int)):∀{k:Nat},k<=many->0<=lf l0 many k/\lf l0 many k<=17*((many:Int)-(k:Int))
 |0,_=>by simp only[lf];omega
 |k+1,hk=>by
  obtain⟨a,b⟩:=bJ h0 h1 (k:=k) (by omega)
  simp only[lf,sizeAt]
  generalize lf l0 many k=l at a b
  obtain⟨m,hm⟩:∃m:Int,(many:Int)-(k:Int)=m:=⟨_,rfl⟩
  have hm1:1<=m:=by omega
  rw[hm]at b⊢
  have hm0:m≠0:=by omega
  have hmp:0<m:=by omega
  have q1:m*(l/m)<=l:=Int.mul_ediv_self_le hm0
  have q2:l<m*(l/m+1):=by rw[Int.mul_add,Int.mul_one];exact Int.lt_mul_ediv_self_add hmp
  have q0:0<=l/m:=Int.ediv_nonneg a (by omega)
  generalize l/m=q at q0 q1 q2
  have hq:q<=17:=by
   rcases Int.lt_or_le 17 q with z|z
   ·have :=Int.mul_le_mul_of_nonneg_left (show(18:Int)<=q by omega) (show 0<=m by omega)
    omega
   ·exact z
  have e:(if q<17 then q else 17)=q:=by split<;>omega
  rw[e]
  have hqm:q*1<=q*m:=Int.mul_le_mul_of_nonneg_left hm1 q0
  rw[Int.mul_comm q m]at hqm
  constructor
  ·omega
  ·have h3:(q+1)*(m-1)<=18*(m-1):=Int.mul_le_mul_of_nonneg_right (by omega) (by omega)
   rw[Int.mul_add,Int.mul_one]at q2
   rcases Int.lt_or_le q 17 with z|z
   ·have h4:(q+1)*(m-1)<=17*(m-1):=Int.mul_le_mul_of_nonneg_right (by omega) (by omega)
    rw[Int.mul_sub,Int.mul_one,Int.add_mul,Int.one_mul,Int.mul_comm q m]at h4
    omega
   ·omega
theorem bX{l0:Int}{many:Nat}(h0:0<=l0)(h1:l0<=17*(many:Int)){k:Nat}(hk:k<many):1<=sizeAt (lf l0 many k) many k/\sizeAt (lf l0 many k) many k<=18:=by
 obtain⟨a,b⟩:=bJ h0 h1 (k:=k) (by omega)
 unfold sizeAt
 have q0:0<=lf l0 many k/((many:Int)-(k:Int)):=Int.ediv_nonneg a (by omega)
 split<;>omega
theorem pK{l0:Int}{many:Nat}(h0:0<=l0)(h1:l0<=17*(many:Int)):lf l0 many many=0:=by
 obtain⟨a,b⟩:=bJ h0 h1 (k:=many) (aq7 _)
 omega
def fs(l0:Int)(many:Nat)(k:Nat):Int:=ones (sizeAt (lf l0 many k) many k).toNat
theorem qB3{s:Nat}(h1:1<=s)(h2:s<=18):(toString (ones s):Str).length=s:=by
 have :=List.all_eq_true.mp len1 (s-1) (List.mem_range.mpr (by omega))
 have :=of_decide_eq_true this
 rwa [show s-1+1=s by omega]at this
theorem zR4{l0:Int}{many:Nat}(h0:0<=l0)(h1:l0<=17*(many:Int)):∀{k:Nat},k<=many->((S (fs l0 many) k:Nat):Int)=1+2*(k:Int)+(l0-lf l0 many k)
 |0,_=>by simp only[S,lf];omega
 |k+1,hk=>by
  have ih:=zR4 h0 h1 (k:=k) (by omega)
  obtain⟨a,b⟩:=bX h0 h1 (show k<many by omega)
  simp only[S,lf]
  have e:(toString (fs l0 many k):Str).length=(sizeAt (lf l0 many k) many k).toNat:=qB3 (by omega) (by omega)
  rw[e]
  omega
theorem qA7{total many:Nat}(t1:990<=total)(t2:total<=1010)(h1:54<=many)(h2:many<=60):0<=left0 total many/\left0 total many<=17*(many:Int)/\
  (total<=1000->∃ts,shows (fin (fs (left0 total many) many) many)=some (some ts)/\lens ts=total)/\(1000<total->shows (fin (fs (left0 total many) many) many)=some none):=by
 have a:0<=left0 total many:=by unfold left0;omega
 have b:left0 total many<=17*(many:Int):=by unfold left0;omega
 have hS:=zR4 a b (k:=many) (aq7 _)
 rw[pK a b]at hS
 have e:S (fs (left0 total many) many) many=total:=by
  have :left0 total many=(total:Int)-2-2*(many:Int)+1:=rfl
  omega
 obtain⟨x,y⟩:=qA6 (fs (left0 total many) many) h1 h2
 rw[e]at x y
 exact⟨a,b,x,y⟩
theorem lQ{p:Pt}(h:(szOk p&&numB p)=true):p.sz<=50000/\p.deep<70/\(∃κ,Pt.Has [] p κ)/\p.Nums:=by
 rw[Bool.and_eq_true]at h
 obtain⟨h,hn⟩:=h
 unfold szOk at h
 rw[Bool.and_eq_true]at h
 obtain⟨h4,h5⟩:=of_decide_eq_true h.1
 obtain⟨κ,hκ⟩:=Option.isSome_iff_exists.mp h.2
 exact⟨h4,h5,⟨κ,Pt.infer_has hκ⟩,kU hn⟩
theorem qX8{k:Nat}(h:k<15):(dbl k).sz<=50000/\(dbl k).deep<70/\(∃κ,Pt.Has [] (dbl k) κ)/\(dbl k).Nums:=lQ (List.all_eq_true.mp dz k (List.mem_range.mpr h))
theorem pV(f:Nat->Int):∀k,(lst f k).deep<=k/\(lst f k).sz=2*k+1
 |0=>⟨aq7 _,rfl⟩
 |k+1=>by obtain⟨a,b⟩:=pV f k;simp only[lst,Pt.deep,Pt.sz];omega
theorem eM(f:Nat->Int):∀k,Pt.Has [] (lst f k) (.list .int)
 |0=>.nil (by decide)
 |k+1=>.two .num (eM f k) rfl (by decide)
theorem zM2{k:Nat}(h:k<15):∃m m2,Ms.run 60001 1000 (Ms.new (code (dbl k)) 400)=some m/\shows m=some (if lenD k<=1000 then some (pcD k)else none)/\m.collect=some m2/\m2.things.length=k/\shows m2=some (if lenD k<=1000 then some (pcD k)else none):=by
 have :okD k=true:=by
  by_cases z:k<8
  ·exact List.all_eq_true.mp d7 k (List.mem_range.mpr z)
  ·have :=List.all_eq_true.mp d8 (k-8) (List.mem_range.mpr (by omega))
   rwa [show k-8+8=k by omega]at this
 unfold okD at this
 split at this
 ·rename_i m hm
  rw[Bool.and_eq_true]at this
  obtain⟨a,b⟩:=this
  split at b
  ·rename_i m2 hc
   rw[Bool.and_eq_true]at b
   exact⟨m,m2,hm,of_decide_eq_true a,hc,of_decide_eq_true b.1,of_decide_eq_true b.2⟩
  ·cases b
 ·cases this
theorem lZ{m:Ms}{o:Option (List Str)}(h:shows m=some o):m.st= .done/\∃v,m.stk=[v]/\Ms.texts m.things 4000 [.value v] 1000 []=some o:=by
 unfold shows at h
 split at h
 ·rename_i hs
  split at h
  ·rename_i v hv;exact⟨hs,v,hv,h⟩
  ·cases h
 ·cases h
end A23
namespace L2
open PySem PySem.Spec PyProof.Rows PyProof
theorem qX9{X:Cx}:kP X (.type "int") (fun xs H Q=>∃z n,xs=[.str z]/\PySem.intText? z=some n/\z.length<=640/\Q (.int n) H):=by
 intro pins s σ H xs us Q I r h
 obtain⟨z,n,rfl,hn,hl,q⟩:=h
 obtain⟨u,rfl,e⟩:=vals1 r
 obtain⟨t,rfl⟩:=e
 exact PySem.W.KIN.call_text hn hl ⟨.int n,H,I.tok _,⟨_,rfl⟩,q⟩
end L2
namespace K23
open PySem L2 PyProof Dt
abbrev qB4:Stmt:=top 110
abbrev sC:Stmt:=top 111
abbrev sL:Stmt:=top 112
abbrev qB5:Stmt:=top 113
abbrev zM3:Stmt:=top 114
abbrev qB6:Stmt:=top 115
abbrev sG:Stmt:=top 116
abbrev zM4:Stmt:=top 117
structure GlL(mg:Str->Option Value):Prop where
 len:mg "len"=none
 int:mg "int"=none
 min:mg "min"=none
 range:mg "range"=none
 isi:mg "isinstance"=none
 ver:mg "ValueError"=none
section
variable {P:Program} {w:World} {K:Fg} {mg:Str->Option Value} {base:Heap} {f:Addr} {fd:FuncData}
inductive eB(K:Fg)(vs:List V)(H:Hp)(Q:VK):Prop
 |mk (a:Addr) (ns:List Int) (k:Int) (a_0:vs=[.ref a,.int k]) (a_1:zS K H a (ns.map V.int)) (a_2:ns.length<=63) (a_3:∀(z:Int)(H':Hp),Grow H H'->Q (.int z) H'):eB K vs H Q
def qB7(K:Fg):Sp:=fun vs H Q x_0=>eB K vs H Q
theorem jQ8:qC ["_law_script","_law_k"] ["_law_script","_law_k"] (qU qB4):=by walk_at "s"
theorem qA8{f:Addr}{fd:FuncData}(F:zK K "_law_cell" "_law_cell" qB4 .none f fd)(G:GlL mg):zQ P w K mg base (CXE P w) 1 f fd ["_law_script","_law_k"] (qB7 K):=by
 refine F.ok0 jQ8 (by walk_at "l") ?_
 walk_at "i"
 obtain⟨a,ns,k,rfl,hS,hn,q⟩:=h
 refine⟨_,qX (zH (zZ (qW5 hr.units0) (pv 0) (jQ qZ) (nomark _)) (qK (qB (zU yM (pv 1) qV))) zX)
  (qK (qB (zU xA (qM zY (pv 0) (zU kN (pv 1) (zV zR (by rfl) G.len aq27 (qQ (pv 0) qZ))))
   (zU yM (zU iJ (pv 1) (zV zR (by rfl) G.len aq27 (qQ (pv 0) qZ))) qV)))),?_⟩
 walk_at "e"
 refine⟨_,rfl,(by decide),fun l hl=>?_⟩
 have g1:Grow H (upd H l (.lst [])):=Grow.put hl
 have hS1:=g1.same.seq hS
 refine⟨a,l,_,rfl,rfl,hS1,zS.of qJ,_,rfl,?_⟩
 refine ite2 (fun _=>?_) (fun h=>?_)
 ·exact⟨_,rfl,_,_,rfl,rfl,.inr ⟨by decide,by decide⟩,q _ _ g1⟩
 ·have hne:ns≠[]:=fun e=>h (by rw[e];rfl)
  have hpos:0<ns.length:=List.length_pos_iff.mpr hne
  have hlp:(0:Int)<((ns.map V.int).length:Nat):=by rw[aq16];omega
  have h0:0<=k%((ns.map V.int).length:Nat):=Int.emod_nonneg _ (by omega)
  have h1:k%((ns.map V.int).length:Nat)<((ns.map V.int).length:Nat):=Int.emod_lt_of_pos _ hlp
  obtain⟨j,hj⟩:∃j:Nat,k%((ns.map V.int).length:Nat)=(j:Int):=⟨(k%((ns.map V.int).length:Nat)).toNat,by omega⟩
  have hjl:j<ns.length:=by rw[hj,aq16]at h1;omega
  have hv:(ns.map V.int)[j]? =some (V.int ns[j]):=by rw[aq19,aq15 hjl];rfl
  refine⟨_,rfl,_,rfl,_,rfl,a,_,rfl,.inl hS1,_,_,rfl,rfl,hlp,a,_,_,.int ns[j],rfl,rfl,hS1,?_,?_⟩
  ·rw[hj];exact qW hv
  ·refine⟨_,rfl,_,rfl,a,_,rfl,.inl hS1,_,_,rfl,rfl,⟨hlp,?_⟩,_,_,rfl,rfl,.inr ⟨by decide,by decide⟩,_,_,rfl,rfl,q _ _ g1⟩
   show(((ns.map V.int).length:Nat):Int)<1073741824
   rw[aq16];omega
inductive pW(vs:List V)(H:Hp)(Q:VK):Prop
 |mk (c:Int) (k:Int) (a_0:vs=[.int c,.int k]) (a_1:∀z:Int,0<=z->Q (.int z) H):pW vs H Q
def eP:Sp:=fun vs H Q x_0=>pW vs H Q
theorem zR5:qC ["_law_cell_here","_law_k","_law_more"] ["_law_cell_here","_law_k"] (qU sC):=by walk_at "s"
theorem qB8{f:Addr}{fd:FuncData}(F:zK K "_law_drawn" "_law_drawn" sC .none f fd):zQ P w K mg base (CXE P w) 1 f fd ["_law_cell_here","_law_k"] eP:=by
 refine F.ok0 zR5 (by walk_at "l") ?_
 walk_at "i"
 obtain⟨c,k,rfl,q⟩:=h
 refine⟨_,qX (qF (i:=2) zR5.nd rfl oI (zU kN (zU xA (zU yM (pv 0) qV) (zU yM (zU xA (pv 1) qV) qV)) qV))
  (qK (qB (zU kN (zU qH1 (pv 2) (pv 2)) qV))),?_⟩
 walk_at "e"
 refine⟨_,rfl,_,_,rfl,rfl,.inr ⟨by decide,by decide⟩,_,rfl,_,_,rfl,rfl,_,_,rfl,rfl,.inr ⟨by decide,by decide⟩,_,_,rfl,rfl,_,_,rfl,rfl,(by show(0:Int)<340282366920938463463374607431768211507;decide),?_⟩
 obtain⟨m,hm⟩:∃m,(c*6364136223846793005+(k+1)*1442695040888963407)%340282366920938463463374607431768211507=m:=⟨_,rfl⟩
 have m0:0<=m:=by rw[<-hm];exact Int.emod_nonneg _ (by decide)
 have m1:m<340282366920938463463374607431768211507:=by rw[<-hm];exact Int.emod_lt_of_pos _ (by decide)
 have hb:Builtin.Int.intBits m<=129:=intBits_le_iff.mpr (by
  have :m.natAbs<340282366920938463463374607431768211507:=by omega
  exact Nat.lt_trans this (by decide))
 rw[<-hm]at hb
 refine⟨_,rfl,_,rfl,_,_,rfl,rfl,IntMulOk.of_le (m:=129) (n:=129) hb hb (by decide),_,_,rfl,rfl,(by show(0:Int)<340282366920938463463374607431768211297;decide),?_⟩
 exact q _ (Int.emod_nonneg _ (by decide))
end
section
variable {P:Program} {w:World} {K:Fg} {mg:Str->Option Value} {base:Heap} {S BT NN UF TL ND NR NM BR:Addr} {bm:List Value}
inductive pY(cs:List Addr)(vs:List V)(H:Hp)(Q:VK):Prop
 |mk (e:Addr) (C:Addr) (t:Addr) (d:Option Addr) (nw:Bool) (a_0:vs=[.ref e]) (a_1:C∈cs) (a_2:H e=some (yN nw C t d e)) (a_3:(∀a,d=some a->∃fs,H a=some (.xd fs))) (a_4:∀H',Grow H H'->Q (.bl true) H'):pY cs vs H Q
def eR(cs:List Addr):Sp:=fun vs H Q x_0=>pY cs vs H Q
theorem zM6:qC ["_law_e","_law_flags"] ["_law_e"] (qU sL):=by walk_at "s"
theorem qB9{f:Addr}{fd:FuncData}(F:zK K "_law_alone" "_law_alone" sL .none f fd)(G:GlL mg)(T:Cs K mg S BT NN UF TL ND NR NM BR bm):lP P w K mg base (CXE P w) 1 f fd ["_law_e"] (eR [BT,NN,UF,TL,ND,NR,NM,BR]):=by
 refine F.okS zM6 (by walk_at "l") ?_
 walk_at "i"
 obtain⟨e,C,t,d,nw,rfl,hC,he,hd,q⟩:=h
 refine⟨_,qX (qF (i:=1) zM6.nd rfl oI (jQ
   (qQ (zV xB (by rfl) G.isi aq26 (qQ (pv 0) (qQ (zM (v:=.ref BT) (by rfl) T.m1 rfl) qZ)))
   (qQ (zV xB (by rfl) G.isi aq26 (qQ (pv 0) (qQ (zM (v:=.ref NN) (by rfl) T.m2 rfl) qZ)))
   (qQ (zV xB (by rfl) G.isi aq26 (qQ (pv 0) (qQ (zM (v:=.ref UF) (by rfl) T.m3 rfl) qZ)))
   (qQ (zV xB (by rfl) G.isi aq26 (qQ (pv 0) (qQ (zM (v:=.ref TL) (by rfl) T.m4 rfl) qZ))) qZ))))))
  (qX (qF (i:=1) zM6.nd rfl oI (zU vJ (pv 1) (jQ
   (qQ (zV xB (by rfl) G.isi aq26 (qQ (pv 0) (qQ (zM (v:=.ref ND) (by rfl) T.m5 rfl) qZ)))
   (qQ (zV xB (by rfl) G.isi aq26 (qQ (pv 0) (qQ (zM (v:=.ref NR) (by rfl) T.m6 rfl) qZ)))
   (qQ (zV xB (by rfl) G.isi aq26 (qQ (pv 0) (qQ (zM (v:=.ref NM) (by rfl) T.m7 rfl) qZ)))
   (qQ (zV xB (by rfl) G.isi aq26 (qQ (pv 0) (qQ (zM (v:=.ref BR) (by rfl) T.m8 rfl) qZ))) qZ)))))))
  (qK (qB (iG (jI jS (jT aq0 PySem.F.slot_list_count PySem.F.type_list_count qZ5 (pv 1) (qQ vQ qZ)) qV (nomark _))
   (iG (zV xB (by rfl) G.isi aq26 (qQ (pv 0) (qQ (zM (v:=.ref S) (by rfl) T.m0 rfl) qZ)))
    (iL (zV xB (by rfl) G.isi aq26 (qQ (pv 0) (qQ (iQ (v:=.ty "ValueError") (by rfl) G.ver qN8 rfl) qZ))))))))),?_⟩
 walk_at "e"
 have k:∀D∈[BT,NN,UF,TL,ND,NR,NM,BR],PySem.W.kitOne K (.ref C) (.ref D)=some (decide (C=D)):=T.kit C hC
 have xc:=T.xc C hC
 have xi:=T.xi C hC
 refine⟨_,rfl,e,C,t,d,nw,bm,.ref BT,_,_,rfl,.inl ⟨BT,rfl,rfl⟩,he,hd,xc,xi,k BT (by simp),?_⟩
 refine⟨_,rfl,e,C,t,d,nw,bm,.ref NN,_,_,rfl,.inl ⟨NN,rfl,rfl⟩,he,hd,xc,xi,k NN (by simp),?_⟩
 refine⟨_,rfl,e,C,t,d,nw,bm,.ref UF,_,_,rfl,.inl ⟨UF,rfl,rfl⟩,he,hd,xc,xi,k UF (by simp),?_⟩
 refine⟨_,rfl,e,C,t,d,nw,bm,.ref TL,_,_,rfl,.inl ⟨TL,rfl,rfl⟩,he,hd,xc,xi,k TL (by simp),zl4,fun l hl=>?_⟩
 have g1:Grow H (upd H l (.lst [.bl (decide (C=BT)),.bl (decide (C=NN)),.bl (decide (C=UF)),.bl (decide (C=TL))])):=Grow.put hl
 have he1:=g1.same _ _ he
 have hd1:∀a,d=some a->∃fs,(upd H l (.lst [.bl (decide (C=BT)),.bl (decide (C=NN)),.bl (decide (C=UF)),.bl (decide (C=TL))])) a=some (.xd fs):=fun a h=>let⟨fs,z⟩:=hd a h;⟨fs,g1.same _ _ z⟩
 refine⟨_,rfl,?_⟩
 refine⟨_,rfl,e,C,t,d,nw,bm,.ref ND,_,_,rfl,.inl ⟨ND,rfl,rfl⟩,he1,hd1,xc,xi,k ND (by simp),?_⟩
 refine⟨_,rfl,e,C,t,d,nw,bm,.ref NR,_,_,rfl,.inl ⟨NR,rfl,rfl⟩,he1,hd1,xc,xi,k NR (by simp),?_⟩
 refine⟨_,rfl,e,C,t,d,nw,bm,.ref NM,_,_,rfl,.inl ⟨NM,rfl,rfl⟩,he1,hd1,xc,xi,k NM (by simp),?_⟩
 refine⟨_,rfl,e,C,t,d,nw,bm,.ref BR,_,_,rfl,.inl ⟨BR,rfl,rfl⟩,he1,hd1,xc,xi,k BR (by simp),zl4,fun l2 hl2=>?_⟩
 have hll:l≠l2:=qH qJ hl2
 refine⟨l,l2,_,_,rfl,rfl,(by rw[qL hll,qJ]),qJ,(by show 8<=sizeLine;decide),fun l3 hl3=>?_⟩
 have g2:=(g1.trans (Grow.put (o:=.lst [.bl (decide (C=ND)),.bl (decide (C=NR)),.bl (decide (C=NM)),.bl (decide (C=BR))]) hl2)).trans (Grow.put (o:=.lst ([.bl (decide (C=BT)),.bl (decide (C=NN)),.bl (decide (C=UF)),.bl (decide (C=TL))]++[.bl (decide (C=ND)),.bl (decide (C=NR)),.bl (decide (C=NM)),.bl (decide (C=BR))])) hl3)
 have he2:=g2.same _ _ he
 have hd2:=fun a h=>let⟨fs,z⟩:=hd a h;(⟨fs,g2.same _ _ z⟩:∃fs,_=some (HO.xd fs))
 refine⟨_,rfl,.inl ⟨rfl,_,zS.of qJ⟩,l3,[BT,NN,UF,TL,ND,NR,NM,BR].map (fun D=>decide (C=D)),true,rfl,rfl,zS.of qJ,rfl,?_⟩
 rw[gM T.nd hC]
 refine⟨_,rfl,jC ?_⟩
 refine⟨_,rfl,e,C,t,d,nw,bm,.ref S,_,_,rfl,.inl ⟨S,rfl,rfl⟩,he2,hd2,xc,xi,T.kitS C hC,_,rfl,jC ?_⟩
 exact⟨_,rfl,e,C,t,d,nw,bm,.type "ValueError",_,_,rfl,.inr ⟨_,rfl,rfl⟩,he2,hd2,xc,xi,T.kitV C hC,q _ g2⟩
end
section
variable {P:Program} {w:World} {K:Fg} {mg:Str->Option Value} {base:Heap} {f:Addr} {fd:FuncData} {S BT NN UF TL ND NR NM BR:Addr} {bm:List Value} {C CH fS fI:Addr} {dS dI:FuncData}
abbrev Al(P:Program)(w:World)(K:Fg)(mg:Str->Option Value)(base:Heap)(cs:List Addr):Prop:=∃fA dA,lP P w K mg base (CXE P w) 1 fA dA ["_law_e"] (eR cs)/\mg "_law_alone"=some (.ref fA)/\PySem.W.keepIn K (.ref fA)=true/\Binds K dA ["_law_e"] []
def vL:Option (List Str)->Str
 |some ts=>Txt.join (Str.ofString "") ts
 |none=>"too long"
inductive eS(K:Fg)(C:Addr)(CH:Addr)(vs:List V)(H:Hp)(Q:VK):Prop
 |mk (H0:Hp) (d:Ad) (m:Ms) (z:Str) (a_0:vs=[.ref d.m]) (a_1:d.C=C) (a_2:d.CH=CH) (a_3:MS K H0 d m H) (a_4:m.Wf) (a_5:(m.st≠ .done->z="not done")) (a_6:(m.st= .done->∃(v:AV)(fuel:Nat)(o:Option (List Str)),m.stk=[v]/\fuel<=100000/\Ms.texts m.things fuel [.value v] 1000 []=some o/\z=vL o)) (a_7:∀H',Grow H H'->Q (.str z) H'):eS K C CH vs H Q
def qBq(K:Fg)(C CH:Addr):Sp:=fun vs H Q x_0=>eS K C CH vs H Q
theorem qBz:qC ["_law_machine","_law_e"] ["_law_machine"] (qU qB5):=by walk_at "s"
theorem ok_told(F:zK K "_law_told" "_law_told" qB5 .none f fd)(G:GlL mg)(T:Cs K mg S BT NN UF TL ND NR NM BR bm)(c0:(Value.ref ND::bm).contains (.ref TL)=false)(M:Mc K C)(mS:Meth K C "shown" fS)(GS:zQ P w K mg base (CXE P w) 5 fS dS ["self"] (eC K C CH TL ND))(bS:Binds K dS ["self"] [])
  (GA:Al P w K mg base [BT,NN,UF,TL,ND,NR,NM,BR]):zQ P w K mg base (CXE P w) 6 f fd ["_law_machine"] (qBq K C CH):=by
 obtain⟨fA,dA,GA,mA,kA,bA⟩:=GA
 refine F.ok0 qBz (by walk_at "l") ?_
 walk_at "i"
 obtain⟨H0,d,m,z,rfl,rfl,rfl,hms,hwf,qN,qD,q⟩:=h
 have x4:=T.xc TL (by simp)
 have x5:=T.xc ND (by simp)
 refine'⟨_,qK (qA0 rfl rfl (qW6 (qN6 (pv 0) M.cl mS GS hr bS .nil)) (by rfl) T.m4 x4 (by rfl) T.m5 x5 (i:=1) qBz.nd rfl (by rfl) ?h1 ?h2),?rd⟩
 case h1=>exact fun e=>qK (qB (qM zY (jQ (qQ qI (qQ qI qZ))) (jB uA (by rfl) G.int PyProof.Rows.boot_int (qQ (gA (iE GA ((hr.s.mono (by decide)).mark _) (by rfl) mA kA bA .nil zD (qQ (pv 1) qZ))) qZ))))
 case h2=>exact fun e=>qK (qB (qM zY (jQ (qQ qI (qQ qI qZ))) (jB uA (by rfl) G.int PyProof.Rows.boot_int (qQ (gA (iE GA ((hr.s.mono (by decide)).mark _) (by rfl) mA kA bA .nil zD (qQ (pv 1) qZ))) qZ))))
 refine⟨_,rfl,d.m,d.dx,_,rfl,hms.mo,rfl,H0,d,m,rfl,rfl,rfl,hms,hwf,fun hn=>?_,fun hd=>?_⟩
 ·intro e t H' g he hH
  refine⟨e,ND,bm,rfl,rfl,x5,.inr ⟨c0,by simp,?_⟩⟩
  refine⟨zl2,fun l hl=>?_⟩
  have g1:Grow H' (upd H' l (.lst [.str "not done",.str "other"])):=Grow.put hl
  refine⟨_,rfl,e,ND,t,none,false,rfl,by simp,g1.same _ _ hH,(fun a h=>by cases h),fun H2 g2=>⟨true,rfl,.inr ⟨false,rfl,l,_,_,.str "not done",rfl,rfl,zS.of (g2.same _ _ qJ),qW (j:=0) rfl,qN hn▸q _ ((g.trans g1).trans g2)⟩⟩⟩
 ·obtain⟨v,fuel,o,h1,h2,h3,rfl⟩:=qD hd
  refine⟨v,fuel,o,h1,h2,h3,(fun ts h=>by subst h;exact q),fun ho=>?_⟩
  subst ho
  intro e t H' g he hH
  refine⟨e,TL,bm,rfl,rfl,x4,.inl ⟨by simp,?_⟩⟩
  refine⟨zl2,fun l hl=>?_⟩
  have g1:Grow H' (upd H' l (.lst [.str "too long",.str "other"])):=Grow.put hl
  refine⟨_,rfl,e,TL,t,none,false,rfl,by simp,g1.same _ _ hH,(fun a h=>by cases h),fun H2 g2=>⟨true,rfl,.inr ⟨false,rfl,l,_,_,.str "too long",rfl,rfl,zS.of (g2.same _ _ qJ),qW (j:=0) rfl,q _ ((g.trans g1).trans g2)⟩⟩⟩
inductive eA(K:Fg)(C:Addr)(vs:List V)(H:Hp)(Q:VK):Prop
 |mk (l0:Addr) (cs:List V) (code:List AOrd) (r:Int) (a_0:vs=[.ref l0,.int r]) (a_1:H l0=some (.lst cs)) (a_2:jL K H code cs) (a_3:(¬(r<8\/400<r)->∀x dx fs H',Grow H H'->H' x=some (.ins C dx fs)->Q (.ref x) H')) (a_4:((r<8\/400<r)->∀H',Grow H H'->Q (.str "none") H')):eA K C vs H Q
def qBj(K:Fg)(C:Addr):Sp:=fun vs H Q x_0=>eA K C vs H Q
theorem qD0:qC ["_law_code","_law_room","_law_e"] ["_law_code","_law_room"] (qU qB6):=by walk_at "s"
theorem qA9(F:zK K "_law_made" "_law_made" qB6 .none f fd)(G:GlL mg)(T:Cs K mg S BT NN UF TL ND NR NM BR bm)(mM:mg "Machine"=some (.ref C))(KM:Mk K C fI)(GI:zQ P w K mg base (CXE P w) 3 fI dI ["self","code","room"] (eK K C CH NR))(bI:Binds K dI ["self","code","room"] [])
  (GA:Al P w K mg base [BT,NN,UF,TL,ND,NR,NM,BR]):zQ P w K mg base (CXE P w) 5 f fd ["_law_code","_law_room"] (qBj K C):=by
 obtain⟨fA,dA,GA,mA,kA,bA⟩:=GA
 refine F.ok0 qD0 (by walk_at "l") ?_
 walk_at "i"
 obtain⟨l0,cs,code,r,rfl,hl0,hco,q,qE⟩:=h
 have x6:=T.xc NR (by simp)
 refine'⟨_,qK (zW4 rfl rfl (qW6 (qTj KM GI hr (by rfl) mM bI .nil (qQ (pv 0) (qQ (pv 1) qZ)))) (by rfl) T.m6 x6 (i:=2) qD0.nd rfl (by rfl) ?h1),?rd⟩
 case h1=>exact fun e=>qK (qB (qM zY (jQ (qQ qI (qQ qI qZ))) (jB uA (by rfl) G.int PyProof.Rows.boot_int (qQ (gA (iE GA ((hr.s.mono (by decide)).mark _) (by rfl) mA kA bA .nil zD (qQ (pv 2) qZ))) qZ))))
 refine⟨_,rfl,_,rfl,fun x dx hx hdx ne=>?_⟩
 have gg:Grow H (upd (upd H dx (.own x)) x (.ins C dx [])):=(Grow.put hdx).trans (Grow.put (by rw[qL ne.symm];exact hx))
 have me:(upd (upd H dx (.own x)) x (.ins C dx [])) x=some (.ins C dx []):=qJ
 show eK K C CH NR _ (upd (upd H dx (.own x)) x (.ins C dx [])) _ _
 generalize upd (upd H dx (.own x)) x (.ins C dx [])=H1 at gg me⊢
 refine⟨H,x,dx,l0,cs,code,r,rfl,gg,hx,me,hl0,hco,fun n hn h8 h4 d H' dC dCH dm hms=>⟨rfl,?_⟩,fun hz=>?_⟩
 ·subst dC dm
  exact q (by omega) d.m d.dx _ H' hms.g hms.mo
 ·intro e t H' g he hH
  refine⟨e,NR,bm,rfl,rfl,x6,by simp,?_⟩
  refine⟨zl2,fun l hl=>?_⟩
  have g1:Grow H' (upd H' l (.lst [.str "none",.str "other"])):=Grow.put hl
  refine⟨_,rfl,e,NR,t,none,false,rfl,by simp,g1.same _ _ hH,(fun a h=>by cases h),fun H2 g2=>⟨true,rfl,.inr ⟨false,rfl,l,_,_,.str "none",rfl,rfl,zS.of (g2.same _ _ qJ),qW (j:=0) rfl,qE hz _ (((gg.trans g).trans g1).trans g2)⟩⟩⟩
inductive pU(K:Fg)(vs:List V)(H:Hp)(Q:VK):Prop
 |mk (l0:Addr) (cs:List V) (code:List AOrd) (r:Int) (a_0:vs=[.ref l0,.int r]) (a_1:H l0=some (.lst cs)) (a_2:jL K H code cs) (a_3:∀H',Q (.bl true) H'):pU K vs H Q
def eE(K:Fg):Sp:=fun vs H Q x_0=>pU K vs H Q
theorem qQ0:qC ["_law_code","_law_more","_law_room","_law_made_here"] ["_law_code","_law_more"] (qU sG):=by walk_at "s"
theorem qD1(F:zK K "_law_rooms_right" "_law_rooms_right" sG .none f fd)(EC:EqC K C)(GM:Kn P w K mg base 5 "_law_made" ["_law_code","_law_room"] (qBj K C)):zQ P w K mg base (CXE P w) 6 f fd ["_law_code","_law_more"] (eE K):=by
 refine F.ok0 qQ0 (by walk_at "l") ?_
 walk_at "i"
 obtain⟨l0,cs,code,r,rfl,hl0,hco,q⟩:=h
 have nd:=qQ0.nd
 refine⟨_,qX (vS PassesOwn.never rfl (iZ (jQ (qQ qV (qQ qV (qQ qV (qQ qV (qQ (zU kN (pv 1) qV) (qQ (zU vT qV (zU kN (pv 1) qV)) (qQ (pv 1) qZ))))))))) (jO (i:=2) nd rfl oI)
   (qX (qF (i:=3) nd rfl oI (zO GM hr (qQ (pv 0) (qQ (pv 2) qZ))))
   (qK (zH (oO (zZ wL (jI (eQ hr.units0) (pv 3) qI (nomark _)) (zN6 (jI oG (pv 2) qV (nomark _)) (iL (jI bD (pv 2) qV (nomark _)))) (nomark _)) (yL (zZ (eQ hr.units0) (pv 3) qI (nomark _)))).pt (qK (qB vQ)) zX))))
  (qK (qB vQ)),?_⟩
 walk_at "e"
 refine⟨_,rfl,_,_,rfl,rfl,(by show(0:Int)<500;decide),_,rfl,_,_,rfl,rfl,(by show(0:Int)<9;decide),_,_,rfl,rfl,_,rfl,(by show 7<=sizeLine;decide),fun l hl=>?_⟩
 have g1:Grow H (upd H l (.lst [V.int 7,V.int 8,V.int 400,V.int 401,V.int (r%500),V.int (0-r%9),V.int r])):=Grow.put hl
 have el:(upd H l (.lst [V.int 7,V.int 8,V.int 400,V.int 401,V.int (r%500),V.int (0-r%9),V.int r])) l=some (.lst [V.int 7,V.int 8,V.int 400,V.int 401,V.int (r%500),V.int (0-r%9),V.int r]):=qJ
 have hin:∀x∈[V.int 7,V.int 8,V.int 400,V.int 401,V.int (r%500),V.int (0-r%9),V.int r],∃n,x= .int n:=by
  intro x hx
  simp at hx
  rcases hx with rfl|rfl|rfl|rfl|rfl|rfl|rfl<;>exact⟨_,rfl⟩
 generalize upd H l (.lst [V.int 7,V.int 8,V.int 400,V.int 401,V.int (r%500),V.int (0-r%9),V.int r])=H1 at g1 el⊢
 generalize [V.int 7,V.int 8,V.int 400,V.int 401,V.int (r%500),V.int (0-r%9),V.int r]=xs at el hin⊢
 refine⟨l,rfl,⟨_,zS.of el⟩,?_⟩
 refine bN (K:=K) (xs:=xs) (fun _ σ H2=>∃o2 o3,σ=[some (.ref l0),some (.int r),o2,o3]/\Grow H1 H2) ⟨_,_,rfl,Grow.refl H1⟩ ?_ ?_ ?_
 ·rintro i σ H2 hi ⟨o2,o3,rfl,g2⟩
  exact zS.of (g2.same _ _ el)
 ·rintro i x σ H2 hx ⟨o2,o3,rfl,g2⟩
  obtain⟨n,rfl⟩:=hin x (aq23 hx)
  walk_at "d"
  have g12:=g1.trans g2
  refine⟨_,rfl,_,rfl,l0,cs,code,n,rfl,g12.same _ _ hl0,hco.mono g12.same,fun hz x dx fs H3 g3 hx3=>?_,fun hz H3 g3=>?_⟩
  ·walk_at "d"
   refine⟨_,rfl,.inl ⟨x,C,dx,fs,_,rfl,rfl,hx3,EC,_,rfl,_,_,rfl,rfl,?_⟩⟩
   refine⟨decide (n<8),rfl,ite2 (fun z=>absurd (of_decide_eq_true z) (fun y=>hz (.inl y))) (fun _=>?_)⟩
   refine⟨_,rfl,_,_,rfl,rfl,rfl,_,rfl,kI ?_ ?_⟩
   ·show(!decide (V.bl false=V.bl (decide ((400:Int)<n))))=false
    rw[decide_eq_false (fun y=>hz (.inr y))];decide
   ·exact⟨_,rfl,.inl ⟨x,C,dx,fs,_,rfl,rfl,hx3,EC,_,rfl,kI rfl ⟨_,_,rfl,g2.trans g3⟩⟩⟩
  ·walk_at "d"
   refine⟨_,rfl,.inr ⟨_,_,rfl,rfl,_,rfl,_,_,rfl,rfl,?_⟩⟩
   refine⟨decide (n<8),rfl,ite2 (fun z=>?_) (fun z=>?_)⟩
   ·refine⟨rfl,_,rfl,kI (by decide+kernel) ?_⟩
    exact⟨_,rfl,.inr ⟨_,_,rfl,rfl,_,rfl,kI (by decide+kernel) ⟨_,_,rfl,g2.trans g3⟩⟩⟩
   ·have h4:400<n:=hz.resolve_left fun y=>z (decide_eq_true y)
    refine⟨_,rfl,_,_,rfl,rfl,rfl,_,rfl,kI ?_ ?_⟩
    ·show(!decide (V.bl (decide (("none":Str)="none"))=V.bl (decide ((400:Int)<n))))=false
     rw[decide_eq_true h4];decide+kernel
    ·exact⟨_,rfl,.inr ⟨_,_,rfl,rfl,_,rfl,kI (by decide+kernel) ⟨_,_,rfl,g2.trans g3⟩⟩⟩
 ·rintro σ H2 ⟨o2,o3,rfl,g2⟩
  exact q H2
open A23
inductive qD2(K:Fg)(vs:List V)(H:Hp)(Q:VK):Prop
 |mk (n:Nat) (a_0:vs=[.int (n:Nat)]) (a_1:n<15) (a_2:∀u H',Grow H H'->qY K H' (.tup [(dbl n).dt,.int (lenD n:Nat)]) u->Q u H'):qD2 K vs H Q
def zK8(K:Fg):Sp:=fun vs H Q x_0=>qD2 K vs H Q
theorem zK9:qC ["_law_many","_law_part","_law_length","_law_k"] ["_law_many"] (qU zM3):=by walk_at "s"
theorem qAq:∀{k:Nat},k<=15->lenD k<=1000000:=by
 intro k hk
 have :∀k<16,lenD k<=1000000:=by decide+kernel
 exact this k (by omega)
theorem zM7(F:zK K "_law_doubled" "_law_doubled" zM3 .none f fd)(G:GlL mg):zQ P w K mg base (CXE P w) 1 f fd ["_law_many"] (zK8 K):=by
 refine F.ok0 zK9 (by walk_at "l") ?_
 walk_at "i"
 obtain⟨n,rfl,hn,q⟩:=h
 have nd:=zK9.nd
 refine unb ⟨_,(zP4 (i:=1) nd rfl oI (dS (dI dn))
  (bS (qF (i:=2) nd rfl oI qV)
  (bS (vS PassesOwn.never rfl (uH (by rfl) G.range (qQ (pv 0) qZ)) (jO (i:=3) nd rfl oI)
   (qX (qTq (i:=1) nd rfl oI (dS (dS (dX (pv 1) (dT (dS (dT (dS (dS dn)) (dT (dS (dS dn)) dn))) dn)))))
   (qK (qF (i:=2) nd rfl oI (zU xA (zU yM qV (pv 2)) qV)))))
  (bO (qB (zW (qQ (pv 1) (qQ (pv 2) qZ)))))))),?_⟩
 walk_at "e"
 refine sU (K:=K) (ρ:=fun _=>.non) (vs:=[]) rfl (fun i hi=>by simp at hi) fun v1 H1 g1 h1=>?_
 have h1:qY K H1 (dbl 0).dt v1:=h1
 refine⟨_,rfl,_,rfl,by omega,by omega,?_⟩
 refine uS (n:=n) (fun i σ H2=>∃v o,σ=[some (.int (n:Nat)),some v,some (.int (lenD i:Nat)),o]/\Grow H1 H2/\qY K H2 (dbl i).dt v) ⟨v1,none,rfl,Grow.refl H1,h1⟩ ?_ ?_
 ·rintro i σ H2 hi ⟨v,o,rfl,g2,hv⟩
  walk_at "d"
  refine sU (K:=K) (ρ:=fun _=>(dbl i).dt) (vs:=[1]) rfl (fun j hj=>by simp at hj;subst hj;exact⟨v,rfl,hv⟩) fun u H3 g3 hu=>?_
  have hL:=qAq (show i<=15 by omega)
  refine⟨_,rfl,_,_,rfl,rfl,.inl ⟨by decide,by decide⟩,_,_,rfl,rfl,?_⟩
  walk_at "d"
  have e:((lenD (i+1):Nat):Int)=2*((lenD i:Nat):Int)+3:=by simp only[lenD];omega
  exact⟨u,some (V.int (0+(i:Int))),by rw[e],g2.trans g3,hu⟩
 ·rintro σ H2 ⟨v,o,rfl,g2,hv⟩
  refine⟨_,rfl,_,rfl,zl2,fun l hl=>?_⟩
  have g3:Grow H2 (upd H2 l (.tup [v,.int (lenD n:Nat)])):=Grow.put hl
  exact q _ _ ((g1.trans g2).trans g3) (wX (zB.of qJ) (qG (hv.mono g3.same) (qG (by rw[qY]) qA)))
end
end K23
namespace A23
open PySem
theorem qXq{i k:Nat}(h:i<=k):lenD i<=lenD k:=by
 induction h with
 |refl=>exact aq7 _
 |step _ ih=>exact Nat.le_trans ih (by simp only[lenD];omega)
theorem qQ1:∀k,(txD k).length=lenD k
 |0=>by decide+kernel
 |k+1=>by
  have app:∀a b:Str,(a++b:Str).length=a.length+b.length:=fun a b=>Array.size_append
  have a1:("(":Str).length=1:=by decide+kernel
  have a2:(",":Str).length=1:=by decide+kernel
  have a3:(")":Str).length=1:=by decide+kernel
  rw[txD,app,app,app,app,a1,a2,a3,qQ1 k]
  simp only[lenD];omega
def cat(ps:List Str):List Nat:=ps.flatMap fun p=>p.cps.toList
theorem lJ(p:Str)(ps:List Str):cat (p::ps)=p.cps.toList++cat ps:=rfl
theorem qQ2(ps qs:List Str):cat (ps++qs)=cat ps++cat qs:=List.flatMap_append
theorem gH(s:Str):∀(r:List Str)(a:Array Nat),(r.foldl (fun acc p=>acc++s.cps++p.cps) a).toList=a.toList++r.flatMap fun p=>s.cps.toList++p.cps.toList
 |[],a=>by simp
 |p::r,a=>by
  rw[List.foldl_cons,gH s r]
  simp
theorem glue0:∀ps:List Str,(Builtin.Str.glued "" ps).cps.toList=cat ps
 |[]=>by decide+kernel
 |p::r=>by
  have e:("":Str).cps.toList=[]:=by decide+kernel
  show(r.foldl (fun acc p=>acc++("":Str).cps++p.cps) p.cps).toList=_
  rw[gH,e]
  rfl
theorem iO(a b:Str):(a++b:Str).cps.toList=a.cps.toList++b.cps.toList:=Array.toList_append
theorem zR6:∀n,cat (pcD n)=(txD n).cps.toList
 |0=>rfl
 |k+1=>by
  rw[txD,pcD,lJ,qQ2,lJ,qQ2,zR6 k,iO,iO,iO,iO]
  simp[cat]
theorem zR7(k:Nat):Txt.join (Str.ofString "") (pcD k)=txD k:=by
 have h:(Builtin.Str.glued "" (pcD k)).cps.toList=(txD k).cps.toList:=by rw[glue0,zR6]
 show Builtin.Str.glued "" (pcD k)=_
 generalize Builtin.Str.glued "" (pcD k)=a at h
 generalize txD k=b at h
 obtain⟨a⟩:=a
 obtain⟨b⟩:=b
 exact congrArg Str.mk (Array.toList_inj.mp h)
theorem qXz(ts:List Str):(Txt.join (Str.ofString "") ts).length=lens ts:=by
 show(Builtin.Str.glued "" ts).cps.size=_
 rw[<-Array.length_toList,glue0]
 induction ts with
 |nil=>rfl
 |cons p r ih=>
  rw[lJ,List.length_append,ih]
  simp[lens,Str.length]
theorem qXj{s:Nat}(h1:1<=s)(h2:s<=18):PySem.intText? (Txt.mul "1" ((s:Nat):Int))=some (ones s)/\(Txt.mul "1" ((s:Nat):Int)).length<=640:=by
 have :∀s<19,PySem.intText? (Txt.mul "1" ((s:Nat):Int))=(if s=0 then PySem.intText? (Txt.mul "1" 0)else some (ones s))/\(Txt.mul "1" ((s:Nat):Int)).length<=640:=by decide+kernel
 obtain⟨a,b⟩:=this s (by omega)
 rw[if_neg (by omega)]at a
 exact⟨a,b⟩
theorem qAz{s:Nat}(h:s<=18):In64 (ones s):=by
 have :∀s<19,-9223372036854775808<=ones s/\ones s<=9223372036854775807:=by decide+kernel
 exact this s (by omega)
theorem qAj{L:Int}{N:Nat}(l1:0<=L)(l2:L<=17*(N:Int)):(lst (fs L N) N).Nums:=by
 have :∀k,k<=N->(lst (fs L N) k).Nums:=by
  intro k
  induction k with
  |zero=>intro _;trivial
  |succ k ih=>
   intro hk
   refine⟨?_,ih (by omega)⟩
   obtain⟨a,b⟩:=bX l1 l2 (show k<N by omega)
   exact qAz (by omega)
 exact this N (aq7 _)
theorem qE0:(trap.sz<=50000/\trap.deep<70/\(∃κ,Pt.Has [] trap κ)/\trap.Nums)/\(∃m,Ms.run 60001 100 (Ms.new (code trap) 8)=some m/\m.st= .ofEmpty)/\((Pt.num 1).sz<=50000/\(Pt.num 1).deep<70/\(∃κ,Pt.Has [] (Pt.num 1) κ)/\(Pt.num 1).Nums):=by
 have h:=tz
 simp only[Bool.and_eq_true]at h
 obtain⟨⟨⟨⟨a,b⟩,c⟩,d⟩,e⟩:=h
 refine⟨lQ (by rw[a,b];rfl),?_,lQ (by rw[d,e];rfl)⟩
 unfold okT at c
 split at c
 ·rename_i m hm;exact⟨m,hm,of_decide_eq_true c⟩
 ·cases c
end A23
namespace K23
open PySem L2 PyProof Dt A23
theorem qE1{K:Fg}{H:Hp}{d:Dt}{n:Int}{u:V}(h:qY K H (.tup [d,.int n]) u):∃a v,u= .ref a/\zB K H a [v,.int n]/\qY K H d v:=by
 obtain⟨a,vs,rfl,h1,h2⟩:=vW h
 obtain⟨v,r,rfl,hv,hr⟩:=qR h2
 obtain⟨v2,r2,rfl,hv2,hr2⟩:=qR hr
 cases zA hr2
 cases kC hv2
 exact⟨a,v,rfl,h1,hv⟩
theorem qD3{D:Ends}{x:V}{j:Nat}{u:TS}{σ:St}{H:Hp}(h:u D (σ.set j (some x)) H):sN {D with nx:=uD (mQ (tC x) (kO j)) u D} σ H:=h
theorem yY(a b:Str):(a++b:Str).length=a.length+b.length:=Array.size_append
theorem qE2{K:Fg}{H0 H:Hp}{d:Ad}{m:Ms}{C x:Addr}(h:MS K H0 d m H)(dC:d.C=C)(dm:d.m=x):H x=some (.ins C d.dx (mfl d m)):=by
 subst dC dm;exact h.mo
theorem zM8{m m':Ms}(h:m.Wf)(e:m.collect=some m'):m'.Wf:=by
 obtain⟨c1,c2,c3,c4,c5,c6,c7,c8⟩:=Ms.collect_ok ⟨h.iv,h.it⟩ e
 have ht:=Ms.collect_tr e
 have h1:=h.tr
 exact⟨by rw[c3];exact h.hs,c1.iv,c1.it,by rw[c2.code];exact h.okc,by rw[c2.code];exact h.cl,by rw[c2.room];exact h.rm,by rw[c2.room];omega⟩
section
variable {K:Fg}
theorem mk1{H:Hp}{t:Addr}{x:Str}{d1:Dt}{u1:V}(ht:H t=none)(h1:qY K H d1 u1):Grow H (upd H t (.tup [.str x,u1]))/\qY K (upd H t (.tup [.str x,u1])) (.tup [.str x,d1]) (.ref t):=
 have g:Grow H (upd H t (.tup [.str x,u1])):=Grow.put ht
 ⟨g,wH (zB.of qJ) (h1.mono g.same)⟩
theorem mk2{H:Hp}{t:Addr}{x:Str}{d1 d2:Dt}{u1 u2:V}(ht:H t=none)(h1:qY K H d1 u1)(h2:qY K H d2 u2):Grow H (upd H t (.tup [.str x,u1,u2]))/\qY K (upd H t (.tup [.str x,u1,u2])) (.tup [.str x,d1,d2]) (.ref t):=
 have g:Grow H (upd H t (.tup [.str x,u1,u2])):=Grow.put ht
 ⟨g,tH (zB.of qJ) (h1.mono g.same) (h2.mono g.same)⟩
end
section
variable {P:Program} {w:World} {K:Fg} {mg:Str->Option Value} {base:Heap} {f:Addr} {fd:FuncData}
inductive qD4(K:Fg)(vs:List V)(H:Hp)(Q:VK):Prop
 |mk (a:Addr) (ns:List Int) (a_0:vs=[.ref a]) (a_1:zS K H a (ns.map V.int)) (a_2:ns.length<=63) (a_3:∀H',Q (.bl true) H'):qD4 K vs H Q
def qQ3(K:Fg):Sp:=fun vs H Q x_0=>qD4 K vs H Q
abbrev jQ9:List Str:=["_law_script","_law_more","_law_part","_law_length","_law_machine","_law_due","_law_k","_law_total","_law_many","_law_left","_law_size","_law_text","_law_trap"]
theorem zKq:qC jQ9 ["_law_script"] (qU zM4):=by walk_at "s"
theorem zM9{C CH fI fR fC:Addr}{uI uR uC:FuncData}{NR:Addr}{n:Nat}(F:zK K "law" "law" zM4 .none f fd)(G:GlL mg)(GE:Kn P w K mg base 1 "_law_cell" ["_law_script","_law_k"] (qB7 K))(GD:Kn P w K mg base 1 "_law_drawn" ["_law_cell_here","_law_k"] eP)
  (GB:Kn P w K mg base 1 "_law_doubled" ["_law_many"] (zK8 K))(GC:Kn P w K mg base 215 "compiled" ["part"] (zPj K))(M:Mc K C)(mM:mg "Machine"=some (.ref C))(KM:Mk K C fI)(GI:zQ P w K mg base (CXE P w) 3 fI uI ["self","code","room"] (eK K C CH NR))(bI:Binds K uI ["self","code","room"] [])
  (mR:Meth K C "run" fR)(GR:zQ P w K mg base (CXE P w) (n+3) fR uR ["self","steps"] (zK0 K C CH))(bR:Binds K uR ["self","steps"] [])(hn:n<=200)(mC:Meth K C "collect" fC)(GL:zQ P w K mg base (CXE P w) 4 fC uC ["self"] (qM2 K C CH))(bC:Binds K uC ["self"] [])
  (GT:Kn P w K mg base 6 "_law_told" ["_law_machine"] (qBq K C CH))(GR':Kn P w K mg base 6 "_law_rooms_right" ["_law_code","_law_more"] (eE K)):
  zQ P w K mg base (CXE P w) 216 f fd ["_law_script"] (qQ3 K):=by
 refine F.ok0 zKq (by walk_at "l") ?_
 walk_at "i"
 obtain⟨a,ns,rfl,hS,hns,q⟩:=h
 have h1:=hr.mono (show 1<=215 by decide)
 have h3:=hr.mono (show n+3<=215 by omega)
 have h4:=hr.mono (show 4<=215 by decide)
 have h6:=hr.mono (show 6<=215 by decide)
 have nd:=zKq.nd
 refine unb ⟨_,(bS (qF (i:=1) nd rfl oI (zO GD h1 (qQ (zO GE h1 (qQ (pv 0) (qQ qV qZ))) (qQ qV qZ))))
  (bS (zV6 (zO GB h1 (qQ (zU kN (pv 1) qV) qZ)) (iM rfl (xN (jO (i:=2) nd rfl oI) (xN (jO (i:=3) nd rfl oI) yS))))
  (bS (qF (i:=4) nd rfl oI (iK KM GI (hr.mono (show 4<=215 by decide)) (by rfl) mM bI .nil zD (qQ (zO GC hr (qQ (pv 2) qZ)) (qQ qV qZ))))
  (bS (zH (oO (zZ wL (zO GT h6 (qQ (pv 4) qZ)) qI (nomark _)) (yL (zZ wL (kQ (pv 4) M.cl mR GR h3 bR .nil zD (qQ qV qZ)) qI (nomark _)))).pt (qK (qB vQ)) zX)
  (bS (qF (i:=5) nd rfl oI qI)
  (bS (zH (zZ qE8 (pv 3) qV (nomark _)) (qX (qF (i:=5) nd rfl oI qI)
   (qK (vS PassesOwn.never rfl (uH (by rfl) G.range (qQ (zU kN (pv 1) qV) qZ)) (jO (i:=6) nd rfl oI) (qK (qF (i:=5) nd rfl oI (zU vA (zU vA (zU vA (zU vA qI (pv 5)) qI) (pv 5)) qI)))))) zX)
  (bS (zH (oO (zZ wL (zO GT h6 (qQ (pv 4) qZ)) (pv 5) (nomark _)) (oO (zZ wL (vN (pv 4) M.cl mC GL h4 bC .nil zD) (zU kN (pv 1) qV) (nomark _)) (yL (zZ wL (zO GT h6 (qQ (pv 4) qZ)) (pv 5) (nomark _))))).pt (qK (qB vQ)) zX)
  (bS (qF (i:=7) nd rfl oI (zU xA qV (zU kN (zU iJ (pv 1) qV) qV)))
  (bS (qF (i:=8) nd rfl oI (zU xA qV (zU kN (zU iJ (pv 1) qV) qV)))
  (bS (qF (i:=9) nd rfl oI (zU xA (zU vT (zU vT (pv 7) qV) (zU yM qV (pv 8))) qV))
  (zP4 (i:=2) nd rfl oI (dS (dS dn))
  (bS (vS PassesOwn.never rfl (uH (by rfl) G.range (qQ (pv 8) qZ)) (jO (i:=6) nd rfl oI)
   (qX (qF (i:=10) nd rfl oI (zU xA qV (zV (qQq rfl) (by rfl) G.min PyProof.Rows.boot_min (qQ qV (qQ (zU iJ (pv 9) (zU vT (pv 8) (pv 6))) qZ)))))
   (qX (qF (i:=9) nd rfl oI (zU xA (zU vT (pv 9) (pv 10)) qV))
   (qK (qTz (i:=2) nd rfl oI (ws (wt (ws (we (jB qX9 (by rfl) G.int PyProof.Rows.boot_int (qQ (zU qH2 qI (pv 10)) qZ)) wn)) (we (pv 2) wn))))))))
  (bS (qF (i:=4) nd rfl oI (iK KM GI (hr.mono (show 4<=215 by decide)) (by rfl) mM bI .nil zD (qQ (zO GC hr (qQ (pv 2) qZ)) (qQ qV qZ))))
  (bS (zJ (kQ (pv 4) M.cl mR GR h3 bR .nil zD (qQ qV qZ)))
  (bS (qF (i:=11) nd rfl oI (zO GT h6 (qQ (pv 4) qZ)))
  (bS (zH (oO (yG (zZ bD (pv 7) qV (nomark _)) (yG (zZ jS (pv 9) qV (nomark _)) (yR (zZ wL (pv 11) qI (nomark _))))).pt (yL (yG (zZ qE8 (pv 7) qV (nomark _)) (yG (zZ jS (pv 9) qV (nomark _)) (yR (zZ wL (zV uZ (by rfl) G.len aq27 (qQ (pv 11) qZ)) (pv 7) (nomark _))))).pt)).pt (qK (qB vQ)) zX)
  (bS (qF (i:=12) nd rfl oI (iK KM GI (hr.mono (show 4<=215 by decide)) (by rfl) mM bI .nil zD (qQ (zO GC hr (qQ (@PEd.h _ _ _ (zP3 (dS (dT (dS (dS dn)) dn)))) qZ)) (qQ qV qZ))))
  (bS (zH (oO (zZ wL (kQ (pv 12) M.cl mR GR h3 bR .nil zD (qQ qV qZ)) qI (nomark _)) (yL (zZ wL (zO GT h6 (qQ (pv 12) qZ)) qI (nomark _)))).pt (qK (qB vQ)) zX)
  (bO (qB (zO GR' h6 (qQ (zO GC hr (qQ (@PEd.h _ _ _ (zP3 (dS (dI dn)))) qZ)) (qQ (zO GE h1 (qQ (pv 0) (qQ qV qZ))) qZ))))))))))))))))))))))),?_⟩
 walk_at "e"
 refine⟨_,rfl,a,ns,0,rfl,hS,hns,fun c1 H1 g1=>⟨c1,1,rfl,fun m0 hm0=>?_⟩⟩
 obtain⟨X,rfl⟩:∃X:Nat,m0=(X:Int):=⟨m0.toNat,by omega⟩
 have hk:X%15<15:=Nat.mod_lt _ (by decide)
 have ek:(X:Int)%15=((X%15:Nat):Int):=by omega
 walk_at "d"
 refine⟨_,rfl,_,_,rfl,rfl,(by show(0:Int)<15;decide),X%15,by rw[<-ek];rfl,hk,fun u H2 g2 hu=>?_⟩
 generalize X%15=k at hk ek hu
 obtain⟨ad,pv',rfl,hq,hp⟩:=qE1 hu
 refine⟨ad,_,rfl,hq,rfl,_,_,rfl,_,_,rfl,rfl,?_⟩
 walk_at "d"
 have G2:=g1.trans g2
 obtain⟨y1,y2,⟨κ,y3⟩,y4⟩:=qX8 hk
 refine⟨_,rfl,pv',dbl k,κ,rfl,hp,y2,y1,y3,fun lc ys H3 g3 nl3 el3 hco x dx hx hdx ne=>?_⟩
 have gg:Grow H3 (upd (upd H3 dx (.own x)) x (.ins C dx [])):=(Grow.put hdx).trans (Grow.put (by rw[qL ne.symm];exact hx))
 have me:(upd (upd H3 dx (.own x)) x (.ins C dx [])) x=some (.ins C dx []):=qJ
 generalize upd (upd H3 dx (.own x)) x (.ins C dx [])=H4 at gg me⊢
 refine⟨H3,x,dx,lc,ys,_,400,rfl,gg,hx,me,el3,hco,fun nn hnn h8 h400 d H5 dC dCH dm hms=>⟨rfl,?_⟩,fun hz=>absurd hz (by decide)⟩
 obtain rfl:nn=400:=by omega
 have G3:=G2.trans g3
 have hwf:=Ms.new_wf (R:=400) y4 y1 (by decide)
 obtain⟨m1,m2,r1,s1,c2,t2,s2⟩:=zM2 hk
 obtain⟨e1,v1,k1,w1⟩:=lZ s1
 obtain⟨e2,v2,k2,w2⟩:=lZ s2
 walk_at "d"
 refine⟨_,rfl,H3,d,_,"not done",(by rw[dm];rfl),dC,dCH,hms,hwf,(fun _=>rfl),(fun z=>by cases z),fun H6 g6=>⟨rfl,_,rfl,kI (by decide+kernel) ?_⟩⟩
 have hms6:=hms.grow g6
 refine⟨_,rfl,x,d.dx,_,rfl,qE2 hms6 dC dm,rfl,H3,d,_,m1,60001,1000,(by rw[dm];rfl),dC,dCH,hms6,hwf,r1,fun b1 b2 H7 hms7 hwf7=>?_⟩
 rw[e1]
 refine⟨rfl,_,rfl,kI (by decide+kernel) ?_⟩
 refine qD3 ?_
 refine aE (b:=decide (((lenD k:Nat):Int)<=1000)) (fun σ' H'=>H'=H7/\∃o6,σ'=[some (.ref a),some (.int (X:Nat)),some pv',some (.int (lenD k:Nat)),some (.ref x),some (.str (vL (if lenD k<=1000 then some (pcD k)else none))),o6,none,none,none,none,none,none]) (fun Q' h=>⟨_,rfl,_,_,rfl,rfl,_,rfl,h⟩) (fun hb D' hD=>?_) (fun hb=>?_) ?_
 ·have hle:lenD k<=1000:=by have :=of_decide_eq_true hb;omega
  refine⟨_,rfl,_,_,rfl,rfl,(by show(0:Int)<15;decide),((k:Nat):Int),by rw[<-ek],by omega,by omega,?_⟩
  refine uS (n:=k) (fun i σ H8=>H8=H7/\∃o6,σ=[some (.ref a),some (.int (X:Nat)),some pv',some (.int (lenD k:Nat)),some (.ref x),some (.str (txD i)),o6,none,none,none,none,none,none]) ⟨rfl,none,rfl⟩ ?_ ?_
  ·rintro i σ H8 hi ⟨rfl,o6,rfl⟩
   walk_at "d"
   have hl:=qXq (show i<=k by omega)
   have ht:=qQ1 i
   have b1:("(":Str).length=1:=by decide+kernel
   have b2:(",":Str).length=1:=by decide+kernel
   have b3:(")":Str).length=1:=by decide+kernel
   refine⟨_,rfl,_,_,rfl,rfl,?_,_,_,rfl,rfl,?_,_,rfl,_,_,rfl,rfl,?_,_,_,rfl,rfl,?_,rfl,_,rfl⟩
   ·rw[sizeLine_eq];omega
   ·rw[yY,sizeLine_eq];omega
   ·rw[yY,yY,sizeLine_eq];omega
   ·rw[yY,yY,yY,sizeLine_eq];omega
  ·rintro σ H8 ⟨rfl,o6,rfl⟩
   refine hD _ _ ⟨rfl,o6,?_⟩
   rw[if_pos hle,show vL (some (pcD k))=txD k from zR7 k]
 ·have hgt:¬lenD k<=1000:=by have :=of_decide_eq_false hb;omega
  exact⟨rfl,none,by rw[if_neg hgt];rfl⟩
 rintro σ H8 ⟨rfl,o6,rfl⟩
 refine⟨_,rfl,H3,d.mv b1 b2,m1,_,(by rw[<-dm];rfl),dC,dCH,hms7,hwf7,(fun z=>absurd e1 z),(fun _=>⟨v1,4000,_,k1,by decide,w1,rfl⟩),fun H9 g9=>⟨_,rfl,rfl,_,rfl,kI (by simp) ?_⟩⟩
 have hms9:=hms7.grow g9
 refine⟨_,rfl,x,d.dx,_,rfl,qE2 (d:=d.mv b1 b2) hms9 dC dm,rfl,H3,d.mv b1 b2,m1,m2,(by rw[<-dm];rfl),dC,dCH,hms9,hwf7,c2,fun b3 b4 HA _ hmsA=>?_⟩
 rw[t2]
 refine⟨_,rfl,_,_,rfl,rfl,(by show(0:Int)<15;decide),rfl,_,rfl,kI (by rw[ek];simp) ?_⟩
 refine⟨_,rfl,H3,(d.mv b1 b2).mv b3 b4,m2,_,(by rw[<-dm];rfl),dC,dCH,hmsA,zM8 hwf7 c2,(fun z=>absurd e2 z),(fun _=>⟨v2,4000,_,k2,by decide,w2,rfl⟩),fun HB gB=>⟨_,rfl,rfl,_,rfl,kI (by simp) ?_⟩⟩
 have GB':Grow H HB:=G3.trans ((hmsA.grow gB).g)
 clear hmsA hms9 hms7 hms6 hms
 obtain⟨T,eT,T1,T2⟩:∃T:Nat,(990:Int)+(X:Int)/64%21=(T:Int)/\990<=T/\T<=1010:=⟨990+X/64%21,by omega,by omega,by omega⟩
 obtain⟨N,eN,N1,N2⟩:∃N:Nat,(54:Int)+(X:Int)/4096%7=(N:Int)/\54<=N/\N<=60:=⟨54+X/4096%7,by omega,by omega,by omega⟩
 refine⟨_,rfl,_,_,rfl,rfl,(by show(0:Int)<64/\(64:Int)<1073741824;decide),_,_,rfl,rfl,(by show(0:Int)<21;decide),_,_,rfl,rfl,?_⟩
 walk_at "d"
 rw[eT]
 refine⟨_,rfl,_,_,rfl,rfl,(by show(0:Int)<4096/\(4096:Int)<1073741824;decide),_,_,rfl,rfl,(by show(0:Int)<7;decide),_,_,rfl,rfl,?_⟩
 walk_at "d"
 rw[eN]
 refine⟨_,rfl,_,_,rfl,rfl,_,rfl,_,_,rfl,rfl,.inl ⟨by decide,by decide⟩,_,_,rfl,rfl,_,_,rfl,rfl,?_⟩
 obtain⟨l1,l2,l3,l4⟩:=qA7 T1 T2 N1 N2
 have eL:((T:Nat):Int)-2-2*((N:Nat):Int)+1=left0 T N:=rfl
 walk_at "d"
 rw[eL]
 generalize left0 T N=L at l1 l2 l3 l4
 refine sU (K:=K) (ρ:=fun _=>.non) (vs:=[]) rfl (fun i hi=>by simp at hi) fun p0 HC gC hp0=>?_
 have hp0:qY K HC (lst (fs L N) 0).dt p0:=hp0
 walk_at "d"
 refine⟨_,rfl,_,rfl,by omega,by omega,?_⟩
 refine uS (n:=N) (fun i σ HD=>∃v o6 o10,σ=[some (.ref a),some (.int (X:Nat)),some v,some (.int (lenD k:Nat)),some (.ref x),some (.str (vL (if lenD k<=1000 then some (pcD k)else none))),o6,some (.int (T:Nat)),some (.int (N:Nat)),some (.int (lf L N i)),o10,none,none]/\Grow HC HD/\qY K HD (lst (fs L N) i).dt v) ⟨p0,_,_,rfl,Grow.refl HC,hp0⟩ ?_ ?_
 ·rintro i σ HD hi ⟨v,o6,o10,rfl,gD,hv⟩
  walk_at "d"
  rw[show(0:Int)+(i:Int)=((i:Nat):Int) by omega]
  obtain⟨z1,z2⟩:=bX l1 l2 hi
  refine⟨_,rfl,_,rfl,_,rfl,_,_,rfl,rfl,_,_,rfl,rfl,(by show(0:Int)<(N:Int)-(i:Int)/\(N:Int)-(i:Int)<1073741824;omega),_,_,rfl,_,_,rfl,rfl,?_⟩
  walk_at "d"
  show uD _ _ _ [some (.ref a),some (.int (X:Nat)),some v,some (.int (lenD k:Nat)),some (.ref x),some (.str (vL (if lenD k<=1000 then some (pcD k)else none))),some (.int ((i:Nat):Int)),some (.int (T:Nat)),some (.int (N:Nat)),some (.int (lf L N i)),some (.int (sizeAt (lf L N i) N i)),none,none] HD
  refine⟨_,rfl,_,rfl,_,_,rfl,rfl,_,_,rfl,rfl,?_⟩
  walk_at "d"
  obtain⟨sz,hsz⟩:∃s:Nat,sizeAt (lf L N i) N i=(s:Int):=⟨(sizeAt (lf L N i) N i).toNat,by omega⟩
  have hf:fs L N i=ones sz:=by unfold fs;rw[hsz];rfl
  obtain⟨it1,it2⟩:=qXj (s:=sz) (by omega) (by omega)
  refine⟨_,rfl,_,_,rfl,rfl,(by rw[hsz];exact⟨by omega,by omega,by decide+kernel⟩),_,_,rfl,(by rw[hsz];exact it1),(by rw[hsz];exact it2),zl2,fun a1 ha1=>?_⟩
  obtain⟨f1,x1⟩:=mk1 (K:=K) (x:="num") (d1:=.int (ones sz)) ha1 (by rw[qY])
  show jK _ _ _ (upd HD a1 (.tup [.str "num",.int (ones sz)])) _
  generalize upd HD a1 (.tup [.str "num",.int (ones sz)])=HE at f1 x1⊢
  refine⟨_,rfl,zl3,fun a2 ha2=>?_⟩
  obtain⟨f2,x2⟩:=mk2 (K:=K) (x:="cons") ha2 x1 (hv.mono f1.same)
  refine⟨_,_,_,rfl,(gD.trans f1).trans f2,?_⟩
  show qY K _ (Pt.two .cons (.num (fs L N i)) (lst (fs L N) i)).dt _
  rw[hf]
  exact x2
 rintro σ HD ⟨v,o6,o10,rfl,gD,hv⟩
 rw[pK l1 l2]
 have GD':=(GB'.trans gC).trans gD
 obtain⟨dp,sz⟩:=pV (fs L N) N
 have hnum:=qAj (L:=L) (N:=N) l1 l2
 refine⟨_,rfl,v,lst (fs L N) N,.list .int,rfl,hv,by omega,by omega,eM _ N,fun lc ys HE gE nlE elE hco x dx hx hdx ne=>?_⟩
 have gg:Grow HE (upd (upd HE dx (.own x)) x (.ins C dx [])):=(Grow.put hdx).trans (Grow.put (by rw[qL ne.symm];exact hx))
 have me:(upd (upd HE dx (.own x)) x (.ins C dx [])) x=some (.ins C dx []):=qJ
 generalize upd (upd HE dx (.own x)) x (.ins C dx [])=HF at gg me⊢
 refine⟨HE,x,dx,lc,ys,_,400,rfl,gg,hx,me,elE,hco,fun nn hnn h8 h400 d HG dC dCH dm hms=>⟨rfl,?_⟩,fun hz=>absurd hz (by decide)⟩
 obtain rfl:nn=400:=by omega
 have hwf:=Ms.new_wf (R:=400) hnum (by omega) (by decide)
 have rl:=zR3 (fs L N) N1 N2
 walk_at "d"
 refine⟨_,rfl,x,d.dx,_,rfl,qE2 hms dC dm,rfl,HE,d,_,_,60001,4000,(by rw[dm];rfl),dC,dCH,hms,hwf,rl,fun b1 b2 HH hmsH hwfH=>?_⟩
 obtain⟨o,ho1,ho2⟩:∃o,shows (fin (fs L N) N)=some o/\(T<=1000/\(vL o).length=T\/1000<T/\vL o="too long"):=by
  by_cases z:T<=1000
  ·obtain⟨ts,t1,t2⟩:=l3 z
   exact⟨some ts,t1,.inl ⟨z,by rw[<-t2];exact qXz ts⟩⟩
  ·exact⟨none,l4 (by omega),.inr ⟨by omega,rfl⟩⟩
 obtain⟨e3,v3,k3,w3⟩:=lZ ho1
 refine⟨_,rfl,HE,d.mv b1 b2,_,vL o,(by rw[<-dm];rfl),dC,dCH,hmsH,hwfH,(fun z=>absurd e3 z),(fun _=>⟨v3,4000,o,k3,by decide,w3,rfl⟩),fun HI gI=>?_⟩
 walk_at "d"
 generalize vL o=zt at ho2
 refine aE (b:=false) (fun σ' H'=>σ'=[some (.ref a),some (.int (X:Nat)),some v,some (.int (lenD k:Nat)),some (.ref x),some (.str (vL (if lenD k<=1000 then some (pcD k)else none))),o6,some (.int (T:Nat)),some (.int (N:Nat)),some (.int 0),o10,some (.str zt),none]/\H'=HI) (fun Q' h=>?_) (fun hb=>by cases hb) (fun _=>⟨rfl,rfl⟩) ?_
 ·rcases ho2 with⟨z,hz⟩|⟨z,hz⟩
  ·refine⟨_,rfl,_,_,rfl,rfl,_,rfl,kI (decide_eq_false (by show¬(1000:Int)<(T:Int);omega)) (kI rfl ?_)⟩
   refine⟨_,rfl,_,_,rfl,rfl,_,rfl,cC (decide_eq_true (by show(T:Int)<=1000;omega)) ?_⟩
   refine⟨_,rfl,rfl,_,rfl,cC (by decide+kernel) ?_⟩
   refine⟨_,rfl,_,rfl,by rw[sizeLine_eq];omega,_,rfl,rfl,_,rfl,?_⟩
   show Q' (!decide (V.int (zt.length:Nat)=V.int (T:Nat))) HI
   rw[hz,decide_eq_true rfl];exact h
  ·subst hz
   refine⟨_,rfl,_,_,rfl,rfl,_,rfl,cC (decide_eq_true (by show(1000:Int)<(T:Int);omega)) ?_⟩
   refine⟨_,rfl,rfl,_,rfl,cC (by decide+kernel) ?_⟩
   refine⟨_,rfl,rfl,_,rfl,kI (by decide+kernel) ?_⟩
   exact⟨_,rfl,_,_,rfl,rfl,_,rfl,kI (decide_eq_false (by show¬(T:Int)<=1000;omega)) h⟩
 rintro σ HI2 ⟨rfl,hHI⟩
 rw[hHI]
 have GI':Grow H HI:=(GD'.trans gE).trans ((hmsH.grow gI).g)
 clear hmsH hms
 obtain⟨tz1,tz2,tz3⟩:=qE0
 obtain⟨y1,y2,⟨κ2,y3⟩,y4⟩:=tz1
 refine aA (K:=K) (ρ:=fun _=>.non) (vs:=[]) _ _ _ rfl (fun i hi=>by simp at hi) fun pt HJ gJ hpt=>?_
 have hpt:qY K HJ trap.dt pt:=hpt
 refine⟨pt,trap,κ2,rfl,hpt,y2,y1,y3,fun lc ys HK gK nlK elK hco x dx hx hdx ne=>?_⟩
 have gg:Grow HK (upd (upd HK dx (.own x)) x (.ins C dx [])):=(Grow.put hdx).trans (Grow.put (by rw[qL ne.symm];exact hx))
 have me:(upd (upd HK dx (.own x)) x (.ins C dx [])) x=some (.ins C dx []):=qJ
 generalize upd (upd HK dx (.own x)) x (.ins C dx [])=HL at gg me⊢
 refine⟨HK,x,dx,lc,ys,_,8,rfl,gg,hx,me,elK,hco,fun nn hnn h8 h400 d HM dC dCH dm hms=>⟨rfl,?_⟩,fun hz=>absurd hz (by decide)⟩
 obtain rfl:nn=8:=by omega
 obtain⟨mt,rt,et⟩:=tz2
 walk_at "d"
 refine⟨_,rfl,x,d.dx,_,rfl,qE2 hms dC dm,rfl,HK,d,_,mt,60001,100,(by rw[dm];rfl),dC,dCH,hms,Ms.new_wf (R:=8) y4 y1 (by decide),rt,fun b1 b2 HN hmsN hwfN=>?_⟩
 rw[et]
 refine⟨rfl,_,rfl,kI (by decide+kernel) ?_⟩
 refine⟨_,rfl,HK,d.mv b1 b2,mt,"not done",(by rw[<-dm];rfl),dC,dCH,hmsN,hwfN,(fun _=>rfl),(fun z=>by rw[et]at z;cases z),fun HO gO=>⟨rfl,_,rfl,kI (by decide+kernel) ?_⟩⟩
 have GO':Grow H HO:=((GI'.trans gJ).trans gK).trans ((hmsN.grow gO).g)
 obtain⟨y1,y2,⟨κ3,y3⟩,y4⟩:=tz3
 refine aA (K:=K) (ρ:=fun _=>.non) (vs:=[]) _ _ _ rfl (fun i hi=>by simp at hi) fun p1 HP gP hp1=>?_
 have hp1:qY K HP (Pt.num 1).dt p1:=hp1
 refine⟨p1,.num 1,κ3,rfl,hp1,y2,y1,y3,fun lc ys HR gR nlR elR hco=>?_⟩
 refine⟨_,rfl,a,ns,1,rfl,((GO'.trans gP).trans gR).same.seq hS,hns,fun c2 HS gS=>⟨lc,ys,_,c2,rfl,gS.same _ _ elR,hco.mono gS.same,q⟩⟩
end
end K23
set_option maxHeartbeats 8000000
namespace K23
open PySem L2 PyProof
abbrev ksS:List Str:=(["plus","minus","times","over","rest","less","same"]:List Str)
abbrev zMq:List Str:=(["nil","cons","head","tail","empty","pair","first","second","if","let","fn","rec","call","plus","minus","times","over","rest","less","same","and","or","not"]:List Str)
abbrev ksO:List Str:=(["put","nil","get","cons","head","tail","empty","pair","first","second","plus","minus","times","over","rest","less","same","not","fn","rec","call","last call","tell","unless","skip","slide"]:List Str)
abbrev jQq:List Str:=(["let","fn","rec"]:List Str)
abbrev zR8:List Str:=(["cons","head","tail","empty","first","second","if","call"]:List Str)
abbrev jQz:List Str:=(["num","truth","plus","minus","times","over","rest","less","same","and","or","not"]:List Str)
abbrev jQj:List Str:=(["call","if","and","or","let"]:List Str)
open PySem.W
theorem us1{us:List Value}(h:(us++([]:List Value)).length=1):∃a,us=[a]:=by
 rw[List.append_nil]at h
 exact match us,h with |[a],_=>⟨a,rfl⟩
theorem us2{us:List Value}(h:(us++([]:List Value)).length=2):∃a b,us=[a,b]:=by
 rw[List.append_nil]at h
 exact match us,h with |[a,b],_=>⟨a,b,rfl⟩
theorem us3{us:List Value}(h:(us++([]:List Value)).length=3):∃a b c,us=[a,b,c]:=by
 rw[List.append_nil]at h
 exact match us,h with |[a,b,c],_=>⟨a,b,c,rfl⟩
theorem us4{us:List Value}(h:(us++([]:List Value)).length=4):∃a b c d,us=[a,b,c,d]:=by
 rw[List.append_nil]at h
 exact match us,h with |[a,b,c,d],_=>⟨a,b,c,d,rfl⟩
def Nf(K:Frag)(x:Str)(st:Stmt)(f:Addr)(fd:FuncData):Prop:=nsIn K mainGlobals x=some (some (.ref f))/\∃o cd,K.lookup f=some o/\qP1 o x x st .none cd fd/\codeIn K cd x=true/\keepIn K (.ref f)=true
def Mf(K:Frag)(C:Addr)(x q:Str)(st:Stmt)(f:Addr)(fd:FuncData):Prop:=findIn K (.ref C) x=some (some (.ref f))/\isFn K (.ref f)=true/\∃o cd,K.lookup f=some o/\qP1 o x q st .none cd fd/\codeIn K cd q=true/\keepIn K (.ref f)=true
structure Me(K:Frag)(C:Addr)(x q:Str)(st:Stmt)(ps:List Str)(f:Addr)(fd:FuncData):Prop where
 fn:zK K x q st .none f fd
 mt:Meth K C x f
 bi:Binds K fd ps []
theorem Nf.df{K:Frag}{h:Heap}{mg:Str->Option Value}{x:Str}{st:Stmt}{f:Addr}{fd:FuncData}(n:Nf K x st f fd)(X:K.In h)(G:h.Ns mainGlobals mg)(ps:List Str)(b:zK K x x st .none f fd->Binds K fd ps []):Df K mg x st ps f fd:=by
 obtain⟨a,o,cd,h1,h2,h3,h4⟩:=n
 exact⟨h2.d h1 h3 h4,mg_of X G a,b (h2.d h1 h3 h4)⟩
theorem Mf.me{K:Frag}{C:Addr}{x q:Str}{st:Stmt}{f:Addr}{fd:FuncData}(n:Mf K C x q st f fd)(ps:List Str)(b:zK K x q st .none f fd->Binds K fd ps []):Me K C x q st ps f fd:=by
 obtain⟨a,i,o,cd,h1,h2,h3,h4⟩:=n
 exact⟨h2.d h1 h3 h4,⟨a,i,h4⟩,b (h2.d h1 h3 h4)⟩
theorem zMz(K:Frag):kitOne K (.type "int") (.type "tuple")=some false:=by
 unfold kitOne
 rw[if_neg (by decide)]
 show(if kitMeta "tuple"=true then(fastBuiltinMro "int").map (·.contains (Value.type "tuple"))else none)=some false
 decide+kernel
theorem zMj(K:Frag):kitOne K (.type "bool") (.type "tuple")=some false:=by
 unfold kitOne
 rw[if_neg (by decide)]
 show(if kitMeta "tuple"=true then(fastBuiltinMro "bool").map (·.contains (Value.type "tuple"))else none)=some false
 decide+kernel
theorem zN0(K:Frag):kitOne K (.type "NoneType") (.type "tuple")=some false:=by
 unfold kitOne
 rw[if_neg (by decide)]
 show(if kitMeta "tuple"=true then(fastBuiltinMro "NoneType").map (·.contains (Value.type "tuple"))else none)=some false
 decide+kernel
theorem zN1(K:Frag):kitOne K (.type "int") (.type "bool")=some false:=by
 unfold kitOne
 rw[if_neg (by decide)]
 show(if kitMeta "bool"=true then(fastBuiltinMro "int").map (·.contains (Value.type "bool"))else none)=some false
 decide+kernel
theorem zN2(K:Frag):kitOne K (.type "bool") (.type "bool")=some true:=by
 unfold kitOne
 rw[if_pos (by decide)]
theorem zR9:∀x∈FX.map (·.1),yB x zR8=none:=by decide+kernel
theorem all_mk{l:OpenLaw}{w:World}{K:Frag}{h:Heap}{mg:Str->Option Value}{fa MA HP S BT NN UF TL ND NR NM BR fVb fWn fLu fNb fOn fKo fRq fRw fCn fHk fTk fEk fFk fSk fIk fCk fLk fNk fXk fPk fFt fCm fOp fCc fAi fIc fLc fFc fVc fCo fBr fPl fMi fTi fOv fRe fLe fSa fNo fSo fRf fIr fNp fMv fSt fOr fPu fPn fPs fIs fRk fTt fAe fT1 fT2 fTh fRm fMc fMp fM2 fMf fCa fLa fEn fTe fCu fUn fPo fSl fVt fPi fTp fBa fHi fHf fHu fHm fHs fHb fHv fMa fRu fCl fSh fCe fDr fAl fTo fDb fMd fRr fLw TS pPS0 pPS1 pPS2 pPS3 pPS4 pPS5 pPS6 pPS7 pPS8 pPS9 pPS10 pPS11 pPS12 pPS13 pPS14 pPS15 pPS16 pPS17 pPS18 pPS19 pPS20 pPS21 pPS22 TPS TO TBR TKR pFK0 pFK1 pFK2 pFK3 pFK4 pFK5 pFK6 pFK7 pFK8 pFK9 pFK10 pFK11 TFK TPC TE:Addr}{oBT oNN oUF oTL oND oNR oNM oBR OS OPS opPS0 opPS1 opPS2 opPS3 opPS4 opPS5 opPS6 opPS7 opPS8 opPS9 opPS10 opPS11 opPS12 opPS13 opPS14 opPS15 opPS16 opPS17 opPS18 opPS19 opPS20 opPS21 opPS22 OO OBR OKR OFK opFK0 opFK1 opFK2 opFK3 opFK4 opFK5 opFK6 opFK7 opFK8 opFK9 opFK10 opFK11 OPC oTE:Obj}{fdVb fdWn fdLu fdNb fdOn fdKo fdRq fdRw fdCn fdHk fdTk fdEk fdFk fdSk fdIk fdCk fdLk fdNk fdXk fdPk fdFt fdCm fdOp fdCc fdAi fdIc fdLc fdFc fdVc fdCo fdBr fdPl fdMi fdTi fdOv fdRe fdLe fdSa fdNo fdSo fdRf fdIr fdNp fdMv fdSt fdOr fdPu fdPn fdPs fdIs fdRk fdTt fdAe fdT1 fdT2 fdTh fdRm fdMc fdMp fdM2 fdMf fdCa fdLa fdEn fdTe fdCu fdUn fdPo fdSl fdVt fdPi fdTp fdBa fdHi fdHf fdHu fdHm fdHs fdHb fdHv fdMa fdRu fdCl fdSh fdCe fdDr fdAl fdTo fdDb fdMd fdRr fdLw:FuncData}{tk0 tk1 tk2 tk3 tk4 tk5:Tok}(X:K.In h)(G:h.Ns mainGlobals mg)(hfa:mg "law"=some (.ref fa))
  (aMA:nsIn K mainGlobals "Machine"=some (some (.ref MA)))
  (pgMA:plainGet K MA Str.empty=true)
  (hdMA:hasDictIn K MA=true)
  (poMA:plainOver K MA=true)
  (saMA:findIn K (.ref MA) "__setattr__"=some (some (.builtin "object.__setattr__")))
  (mkMA:makesIn K MA=true)
  (kpMA:keepIn K (.ref MA)=true)
  (nMA_code:findIn K (.ref MA) "code"=some none)
  (nMA_heap:findIn K (.ref MA) "heap"=some none)
  (nMA_stack:findIn K (.ref MA) "stack"=some none)
  (nMA_base:findIn K (.ref MA) "base"=some none)
  (nMA_place:findIn K (.ref MA) "place"=some none)
  (nMA_pending:findIn K (.ref MA) "pending"=some none)
  (nMA_standing:findIn K (.ref MA) "standing"=some none)
  (aHP:nsIn K mainGlobals "Heap"=some (some (.ref HP)))
  (pgHP:plainGet K HP Str.empty=true)
  (hdHP:hasDictIn K HP=true)
  (poHP:plainOver K HP=true)
  (saHP:findIn K (.ref HP) "__setattr__"=some (some (.builtin "object.__setattr__")))
  (mkHP:makesIn K HP=true)
  (kpHP:keepIn K (.ref HP)=true)
  (nHP_room:findIn K (.ref HP) "room"=some none)
  (nHP_things:findIn K (.ref HP) "things"=some none)
  (nHP_made_so_far:findIn K (.ref HP) "made_so_far"=some none)
  (aS:nsIn K mainGlobals "SpeakError"=some (some (.ref S)))
  (sic:isClsIn K S=true)
  (sty:typeIn K (.ref S)=some (.type "type"))
  (xgt:specialIn K (.builtin "object.__class__") "__get__"=some (some (.builtin "getset_descriptor.__get__")))
  (xtk:takesIn K (.builtin "object.__class__")=some true)
  (aBT:nsIn K mainGlobals "BadText"=some (some (.ref BT)))
  (rBT:kH K BT oBT)
  (hBT:IsX oBT BT (bZ S))
  (aNN:nsIn K mainGlobals "NoName"=some (some (.ref NN)))
  (rNN:kH K NN oNN)
  (hNN:IsX oNN NN (bZ S))
  (aUF:nsIn K mainGlobals "Unfit"=some (some (.ref UF)))
  (rUF:kH K UF oUF)
  (hUF:IsX oUF UF (bZ S))
  (aTL:nsIn K mainGlobals "TooLong"=some (some (.ref TL)))
  (rTL:kH K TL oTL)
  (hTL:IsX oTL TL (bZ S))
  (iTL:findIn K (.ref TL) "__init__"=some (some (.builtin "ValueError.__init__")))
  (aND:nsIn K mainGlobals "NotDone"=some (some (.ref ND)))
  (rND:kH K ND oND)
  (hND:IsX oND ND (bZ S))
  (iND:findIn K (.ref ND) "__init__"=some (some (.builtin "ValueError.__init__")))
  (aNR:nsIn K mainGlobals "NoRoom"=some (some (.ref NR)))
  (rNR:kH K NR oNR)
  (hNR:IsX oNR NR (bZ S))
  (iNR:findIn K (.ref NR) "__init__"=some (some (.builtin "ValueError.__init__")))
  (aNM:nsIn K mainGlobals "NoMachine"=some (some (.ref NM)))
  (rNM:kH K NM oNM)
  (hNM:IsX oNM NM (bZ S))
  (aBR:nsIn K mainGlobals "BadRow"=some (some (.ref BR)))
  (rBR:kH K BR oBR)
  (hBR:IsX oBR BR (bZ S))
  (nd:([BT,NN,UF,TL,ND,NR,NM,BR]:List Addr).Nodup)
  (ns:∀D∈([BT,NN,UF,TL,ND,NR,NM,BR]:List Addr),D≠S)
  (eqMA:findIn K (.ref MA) "__eq__"=some (some (.builtin "object.__eq__")))
  (obMA:mroIn K MA (.type "object")=some true)
  (hVb:Nf K "values_behind" sVB fVb fdVb)
  (hWn:Nf K "with_name" sWN fWn fdWn)
  (hLu:Nf K "looked_up" sLU fLu fdLu)
  (hNb:Nf K "names_bound" sNB fNb fdNb)
  (hOn:Nf K "outside_names" sON fOn fdOn)
  (hKo:Nf K "kind_of" sKO fKo fdKo)
  (hRq:Nf K "require" zY6 fRq fdRq)
  (hRw:Nf K "require_word" sRW fRw fdRw)
  (hCn:Nf K "cons_kind" zZ0 fCn fdCn)
  (hHk:Nf K "head_kind" zZ1 fHk fdHk)
  (hTk:Nf K "tail_kind" zZ2 fTk fdTk)
  (hEk:Nf K "empty_kind" qU2 fEk fdEk)
  (hFk:Nf K "first_kind" qU3 fFk fdFk)
  (hSk:Nf K "second_kind" tP fSk fdSk)
  (hIk:Nf K "if_kind" sIf fIk fdIk)
  (hCk:Nf K "call_kind" zZ3 fCk fdCk)
  (hLk:Nf K "let_kind" tS fLk fdLk)
  (hNk:Nf K "fn_kind" qP6 fNk fdNk)
  (hXk:Nf K "rec_kind" tT fXk fdXk)
  (hPk:Nf K "pair_kind" sPK fPk fdPk)
  (hFt:Nf K "fitted" qUj fFt fdFt)
  (hCm:Nf K "compiled" qO7 fCm fdCm)
  (hOp:Nf K "operands_code" qR0 fOp fdOp)
  (hCc:Nf K "call_code" nO fCc fdCc)
  (hAi:Nf K "as_if" qO8 fAi fdAi)
  (hIc:Nf K "if_code" qR1 fIc fdIc)
  (hLc:Nf K "let_code" aZ fLc fdLc)
  (hFc:Nf K "function_code" fY fFc fdFc)
  (hVc:Nf K "value_code" zU9 fVc fdVc)
  (hCo:Nf K "code_of" cO fCo fdCo)
  (hBr:Nf K "brought_in" sBr fBr fdBr)
  (hPl:Nf K "plus" qIz fPl fdPl)
  (hMi:Nf K "minus" rB fMi fdMi)
  (hTi:Nf K "times" rD fTi fdTi)
  (hOv:Nf K "over" qIj fOv fdOv)
  (hRe:Nf K "rest" qC0 fRe fdRe)
  (hLe:Nf K "less" qC1 fLe fdLe)
  (hSa:Nf K "same" qC2 fSa fdSa)
  (hNo:Nf K "is_by_nought" nI fNo fdNo)
  (hSo:Nf K "sum_of" rF fSo fdSo)
  (hRf:Nf K "reference_to" zO3 fRf fdRf)
  (hIr:Nf K "is_reference" rH fIr fdIr)
  (hNp:Nf K "new_places" qCq fNp fdNp)
  (hMv:Nf K "moved" zO4 fMv fdMv)
  (hSt:Nf K "do_step" qCz fSt fdSt)
  (hOr:Nf K "do_order" rP fOr fdOr)
  (hPu:Nf K "put" zO5 fPu fdPu)
  (hPn:Nf K "put_nil" qCj fPn fdPn)
  (hPs:Nf K "put_slot" qL0 fPs fdPs)
  (hIs:Nf K "in_slot" zO6 fIs fdIs)
  (hRk:Nf K "reckon_sum" qL1 fRk fdRk)
  (hTt:Nf K "turn_truth" qL2 fTt fdTt)
  (hAe:Nf K "ask_empty" zO7 fAe fdAe)
  (hT1:Nf K "take_first" zO8 fT1 fdT1)
  (hT2:Nf K "take_second" zO9 fT2 fdT2)
  (hTh:Nf K "take_held" zOq fTh fdTh)
  (hRm:Nf K "has_room" qL3 fRm fdRm)
  (hMc:Nf K "make_cell" zOz fMc fdMc)
  (hMp:Nf K "make_pair" zOj fMp fdMp)
  (hM2:Nf K "make_of_two" zI0 fM2 fdM2)
  (hMf:Nf K "make_function" zI1 fMf fdMf)
  (hCa:Nf K "call" zI2 fCa fdCa)
  (hLa:Nf K "last_call" rR fLa fdLa)
  (hEn:Nf K "enter" zI3 fEn fdEn)
  (hTe:Nf K "tell" qL4 fTe fdTe)
  (hCu:Nf K "cut_stack" zI4 fCu fdCu)
  (hUn:Nf K "pass_unless" zI5 fUn fdUn)
  (hPo:Nf K "pass_over" rS fPo fdPo)
  (hSl:Nf K "slide" zI6 fSl fdSl)
  (hVt:Nf K "value_text" rT fVt fdVt)
  (hPi:Nf K "pieces_of" nG fPi fdPi)
  (hTp:Nf K "tail_pieces" rA fTp fdTp)
  (hBa:Nf K "bare_text" qL5 fBa fdBa)
  (hHi:Mf K HP "__init__" "Heap.__init__" zI7 fHi fdHi)
  (hHf:Mf K HP "is_full" "Heap.is_full" qL6 fHf fdHf)
  (hHu:Mf K HP "used" "Heap.used" rE fHu fdHu)
  (hHm:Mf K HP "make" "Heap.make" sQ fHm fdHm)
  (hHs:Mf K HP "sort_of" "Heap.sort_of" qL7 fHs fdHs)
  (hHb:Mf K HP "held_by" "Heap.held_by" qL8 fHb fdHb)
  (hHv:Mf K HP "move_together" "Heap.move_together" qL9 fHv fdHv)
  (hMa:Mf K MA "__init__" "Machine.__init__" zI8 fMa fdMa)
  (hRu:Mf K MA "run" "Machine.run" zI9 fRu fdRu)
  (hCl:Mf K MA "collect" "Machine.collect" zIq fCl fdCl)
  (hSh:Mf K MA "shown" "Machine.shown" sZ fSh fdSh)
  (hCe:Nf K "_law_cell" qB4 fCe fdCe)
  (hDr:Nf K "_law_drawn" sC fDr fdDr)
  (hAl:Nf K "_law_alone" sL fAl fdAl)
  (hTo:Nf K "_law_told" qB5 fTo fdTo)
  (hDb:Nf K "_law_doubled" zM3 fDb fdDb)
  (hMd:Nf K "_law_made" qB6 fMd fdMd)
  (hRr:Nf K "_law_rooms_right" sG fRr fdRr)
  (hLw:Nf K "law" zM4 fLw fdLw)
  (gq0:nsIn K mainGlobals "LEAST_NUMBER"=some (some (.int (-9223372036854775808) tk0)))
  (gq1:nsIn K mainGlobals "ROUND"=some (some (.int 18446744073709551616 tk1)))
  (gq2:nsIn K mainGlobals "LEAST_ROOM"=some (some (.int 8 tk2)))
  (gq3:nsIn K mainGlobals "GREATEST_ROOM"=some (some (.int 400 tk3)))
  (gq4:nsIn K mainGlobals "LONGEST_SHOWN"=some (some (.int 1000 tk4)))
  (gq5:nsIn K mainGlobals "MOST_PENDING"=some (some (.int 40 tk5)))
  (gE:nsIn K mainGlobals "EMPTY"=some (some .none))
  (aST:nsIn K mainGlobals "SUMS"=some (some (.ref TS)))
  (lST:K.lookup TS=some OS)
  (dST:mN OS (ksS.zip ([.ref fPl,.ref fMi,.ref fTi,.ref fOv,.ref fRe,.ref fLe,.ref fSa]:List V)))
  (sST:(TS==sysModules)=false)
  (aPST:nsIn K mainGlobals "PART_SLOTS"=some (some (.ref TPS)))
  (lPST:K.lookup TPS=some OPS)
  (dPST:mN OPS (zMq.zip ([.ref pPS0,.ref pPS1,.ref pPS2,.ref pPS3,.ref pPS4,.ref pPS5,.ref pPS6,.ref pPS7,.ref pPS8,.ref pPS9,.ref pPS10,.ref pPS11,.ref pPS12,.ref pPS13,.ref pPS14,.ref pPS15,.ref pPS16,.ref pPS17,.ref pPS18,.ref pPS19,.ref pPS20,.ref pPS21,.ref pPS22]:List V)))
  (sPST:(TPS==sysModules)=false)
  (lpPS0:K.lookup pPS0=some opPS0)
  (tpPS0:xX opPS0 ((["kind"]:List Str).map V.str))
  (lpPS1:K.lookup pPS1=some opPS1)
  (tpPS1:xX opPS1 ((["part","part"]:List Str).map V.str))
  (lpPS2:K.lookup pPS2=some opPS2)
  (tpPS2:xX opPS2 ((["part"]:List Str).map V.str))
  (lpPS3:K.lookup pPS3=some opPS3)
  (tpPS3:xX opPS3 ((["part"]:List Str).map V.str))
  (lpPS4:K.lookup pPS4=some opPS4)
  (tpPS4:xX opPS4 ((["part"]:List Str).map V.str))
  (lpPS5:K.lookup pPS5=some opPS5)
  (tpPS5:xX opPS5 ((["part","part"]:List Str).map V.str))
  (lpPS6:K.lookup pPS6=some opPS6)
  (tpPS6:xX opPS6 ((["part"]:List Str).map V.str))
  (lpPS7:K.lookup pPS7=some opPS7)
  (tpPS7:xX opPS7 ((["part"]:List Str).map V.str))
  (lpPS8:K.lookup pPS8=some opPS8)
  (tpPS8:xX opPS8 ((["part","part","part"]:List Str).map V.str))
  (lpPS9:K.lookup pPS9=some opPS9)
  (tpPS9:xX opPS9 ((["name","part","part"]:List Str).map V.str))
  (lpPS10:K.lookup pPS10=some opPS10)
  (tpPS10:xX opPS10 ((["name","kind","part"]:List Str).map V.str))
  (lpPS11:K.lookup pPS11=some opPS11)
  (tpPS11:xX opPS11 ((["name","name","kind","kind","part"]:List Str).map V.str))
  (lpPS12:K.lookup pPS12=some opPS12)
  (tpPS12:xX opPS12 ((["part","part"]:List Str).map V.str))
  (lpPS13:K.lookup pPS13=some opPS13)
  (tpPS13:xX opPS13 ((["part","part"]:List Str).map V.str))
  (lpPS14:K.lookup pPS14=some opPS14)
  (tpPS14:xX opPS14 ((["part","part"]:List Str).map V.str))
  (lpPS15:K.lookup pPS15=some opPS15)
  (tpPS15:xX opPS15 ((["part","part"]:List Str).map V.str))
  (lpPS16:K.lookup pPS16=some opPS16)
  (tpPS16:xX opPS16 ((["part","part"]:List Str).map V.str))
  (lpPS17:K.lookup pPS17=some opPS17)
  (tpPS17:xX opPS17 ((["part","part"]:List Str).map V.str))
  (lpPS18:K.lookup pPS18=some opPS18)
  (tpPS18:xX opPS18 ((["part","part"]:List Str).map V.str))
  (lpPS19:K.lookup pPS19=some opPS19)
  (tpPS19:xX opPS19 ((["part","part"]:List Str).map V.str))
  (lpPS20:K.lookup pPS20=some opPS20)
  (tpPS20:xX opPS20 ((["part","part"]:List Str).map V.str))
  (lpPS21:K.lookup pPS21=some opPS21)
  (tpPS21:xX opPS21 ((["part","part"]:List Str).map V.str))
  (lpPS22:K.lookup pPS22=some opPS22)
  (tpPS22:xX opPS22 ((["part"]:List Str).map V.str))
  (aOT:nsIn K mainGlobals "ORDERS"=some (some (.ref TO)))
  (lOT:K.lookup TO=some OO)
  (dOT:mN OO (ksO.zip ([.ref fPu,.ref fPn,.ref fPs,.ref fMc,.ref fT1,.ref fT2,.ref fAe,.ref fMp,.ref fT1,.ref fT2,.ref fRk,.ref fRk,.ref fRk,.ref fRk,.ref fRk,.ref fRk,.ref fRk,.ref fTt,.ref fMf,.ref fMf,.ref fCa,.ref fLa,.ref fTe,.ref fUn,.ref fPo,.ref fSl]:List V)))
  (sOT:(TO==sysModules)=false)
  (aBRT:nsIn K mainGlobals "BINDING_RULES"=some (some (.ref TBR)))
  (lBRT:K.lookup TBR=some OBR)
  (dBRT:mN OBR (jQq.zip ([.ref fLk,.ref fNk,.ref fXk]:List V)))
  (sBRT:(TBR==sysModules)=false)
  (aKRT:nsIn K mainGlobals "KIND_RULES"=some (some (.ref TKR)))
  (lKRT:K.lookup TKR=some OKR)
  (dKRT:mN OKR (zR8.zip ([.ref fCn,.ref fHk,.ref fTk,.ref fEk,.ref fFk,.ref fSk,.ref fIk,.ref fCk]:List V)))
  (sKRT:(TKR==sysModules)=false)
  (aFKT:nsIn K mainGlobals "FIXED_KINDS"=some (some (.ref TFK)))
  (lFKT:K.lookup TFK=some OFK)
  (dFKT:mN OFK (jQz.zip ([.ref pFK0,.ref pFK1,.ref pFK2,.ref pFK3,.ref pFK4,.ref pFK5,.ref pFK6,.ref pFK7,.ref pFK8,.ref pFK9,.ref pFK10,.ref pFK11]:List V)))
  (sFKT:(TFK==sysModules)=false)
  (lpFK0:K.lookup pFK0=some opFK0)
  (tpFK0:xX opFK0 ((["int"]:List Str).map V.str))
  (lpFK1:K.lookup pFK1=some opFK1)
  (tpFK1:xX opFK1 ((["bool"]:List Str).map V.str))
  (lpFK2:K.lookup pFK2=some opFK2)
  (tpFK2:xX opFK2 ((["int","int","int"]:List Str).map V.str))
  (lpFK3:K.lookup pFK3=some opFK3)
  (tpFK3:xX opFK3 ((["int","int","int"]:List Str).map V.str))
  (lpFK4:K.lookup pFK4=some opFK4)
  (tpFK4:xX opFK4 ((["int","int","int"]:List Str).map V.str))
  (lpFK5:K.lookup pFK5=some opFK5)
  (tpFK5:xX opFK5 ((["int","int","int"]:List Str).map V.str))
  (lpFK6:K.lookup pFK6=some opFK6)
  (tpFK6:xX opFK6 ((["int","int","int"]:List Str).map V.str))
  (lpFK7:K.lookup pFK7=some opFK7)
  (tpFK7:xX opFK7 ((["int","int","bool"]:List Str).map V.str))
  (lpFK8:K.lookup pFK8=some opFK8)
  (tpFK8:xX opFK8 ((["int","int","bool"]:List Str).map V.str))
  (lpFK9:K.lookup pFK9=some opFK9)
  (tpFK9:xX opFK9 ((["bool","bool","bool"]:List Str).map V.str))
  (lpFK10:K.lookup pFK10=some opFK10)
  (tpFK10:xX opFK10 ((["bool","bool","bool"]:List Str).map V.str))
  (lpFK11:K.lookup pFK11=some opFK11)
  (tpFK11:xX opFK11 ((["bool","bool"]:List Str).map V.str))
  (aPCT:nsIn K mainGlobals "PLACED_CODES"=some (some (.ref TPC)))
  (lPCT:K.lookup TPC=some OPC)
  (dPCT:mN OPC (jQj.zip ([.ref fCc,.ref fIc,.ref fIc,.ref fIc,.ref fLc]:List V)))
  (sPCT:(TPC==sysModules)=false)
  (aTE:nsIn K mainGlobals "ENDING_ORDERS"=some (some (.ref TE)))
  (lTE:K.lookup TE=some oTE)
  (tTE:xX oTE [.str "tell",.str "skip",.str "slide"])
  (z_abs:nsIn K mainGlobals "abs"=some none)
  (z_zip:nsIn K mainGlobals "zip"=some none)
  (z_dict:nsIn K mainGlobals "dict"=some none)
  (z_list:nsIn K mainGlobals "list"=some none)
  (z_enumerate:nsIn K mainGlobals "enumerate"=some none)
  (z_len:nsIn K mainGlobals "len"=some none)
  (z_isinstance:nsIn K mainGlobals "isinstance"=some none)
  (z_tuple:nsIn K mainGlobals "tuple"=some none)
  (z_bool:nsIn K mainGlobals "bool"=some none)
  (z_str:nsIn K mainGlobals "str"=some none)
  (z_reversed:nsIn K mainGlobals "reversed"=some none)
  (z_int:nsIn K mainGlobals "int"=some none)
  (z_max:nsIn K mainGlobals "max"=some none)
  (z_min:nsIn K mainGlobals "min"=some none)
  (z_range:nsIn K mainGlobals "range"=some none)
  (z_ValueError:nsIn K mainGlobals "ValueError"=some none):
  ∃fd:FuncData,(∀(s:Shared)(v:Value),BindsTo s fd ⟨[v],[]⟩ [("_law_script",v)])/\∀base:Heap,K.In base->base.Ns mainGlobals mg->zQ l.prog w K mg base (CXE l.prog w) 216 fa fd ["_law_script"] (qQ3 K):=by
 have e:=hfa.symm.trans (mg_of X G hLw.1)
 cases e
 have DVb:=hVb.df X G ["part","sort"] (by walk_at "b2")
 have DWn:=hWn.df X G ["scope","name","bound"] (by walk_at "b3")
 have DLu:=hLu.df X G ["scope","name"] (by walk_at "b2")
 have DNb:=hNb.df X G ["part"] (by walk_at "b1")
 have DOn:=hOn.df X G ["part"] (by walk_at "b1")
 have DKo:=hKo.df X G ["part"] (by walk_at "b1")
 have DRq:=hRq.df X G ["holds"] (by walk_at "b1")
 have DRw:=hRw.df X G ["kind","word"] (by walk_at "b2")
 have DCn:=hCn.df X G ["kinds"] (by walk_at "b1")
 have DHk:=hHk.df X G ["kinds"] (by walk_at "b1")
 have DTk:=hTk.df X G ["kinds"] (by walk_at "b1")
 have DEk:=hEk.df X G ["kinds"] (by walk_at "b1")
 have DFk:=hFk.df X G ["kinds"] (by walk_at "b1")
 have DSk:=hSk.df X G ["kinds"] (by walk_at "b1")
 have DIk:=hIk.df X G ["kinds"] (by walk_at "b1")
 have DCk:=hCk.df X G ["kinds"] (by walk_at "b1")
 have DLk:=hLk.df X G ["part","scope","pairs"] (by walk_at "b3")
 have DNk:=hNk.df X G ["part","scope","pairs"] (by walk_at "b3")
 have DXk:=hXk.df X G ["part","scope","pairs"] (by walk_at "b3")
 have DPk:=hPk.df X G ["kinds","pairs"] (by walk_at "b2")
 have DFt:=hFt.df X G ["part","scope","pairs"] (by walk_at "b3")
 have DCm:=hCm.df X G ["part"] (by walk_at "b1")
 have DOp:=hOp.df X G ["part","slots","height"] (by walk_at "b3")
 have DCc:=hCc.df X G ["part","slots","height","last"] (by walk_at "b4")
 have DAi:=hAi.df X G ["part"] (by walk_at "b1")
 have DIc:=hIc.df X G ["part","slots","height","last"] (by walk_at "b4")
 have DLc:=hLc.df X G ["part","slots","height","last"] (by walk_at "b4")
 have DFc:=hFc.df X G ["part","slots"] (by walk_at "b2")
 have DVc:=hVc.df X G ["part","slots"] (by walk_at "b2")
 have DCo:=hCo.df X G ["part","slots","height","last"] (by walk_at "b4")
 have DBr:=hBr.df X G ["number"] (by walk_at "b1")
 have DPl:=hPl.df X G ["one","other"] (by walk_at "b2")
 have DMi:=hMi.df X G ["one","other"] (by walk_at "b2")
 have DTi:=hTi.df X G ["one","other"] (by walk_at "b2")
 have DOv:=hOv.df X G ["one","other"] (by walk_at "b2")
 have DRe:=hRe.df X G ["one","other"] (by walk_at "b2")
 have DLe:=hLe.df X G ["one","other"] (by walk_at "b2")
 have DSa:=hSa.df X G ["one","other"] (by walk_at "b2")
 have DNo:=hNo.df X G ["word","other"] (by walk_at "b2")
 have DSo:=hSo.df X G ["word","one","other"] (by walk_at "b3")
 have DRf:=hRf.df X G ["place"] (by walk_at "b1")
 have DIr:=hIr.df X G ["value"] (by walk_at "b1")
 have DNp:=hNp.df X G ["things","values"] (by walk_at "b2")
 have DMv:=hMv.df X G ["values","places"] (by walk_at "b2")
 have DSt:=hSt.df X G ["machine"] (by walk_at "b1")
 have DOr:=hOr.df X G ["machine"] (by walk_at "b1")
 have DPu:=hPu.df X G ["machine","order"] (by walk_at "b2")
 have DPn:=hPn.df X G ["machine","order"] (by walk_at "b2")
 have DPs:=hPs.df X G ["machine","order"] (by walk_at "b2")
 have DIs:=hIs.df X G ["machine","slot"] (by walk_at "b2")
 have DRk:=hRk.df X G ["machine","order"] (by walk_at "b2")
 have DTt:=hTt.df X G ["machine","order"] (by walk_at "b2")
 have DAe:=hAe.df X G ["machine","order"] (by walk_at "b2")
 have DT1:=hT1.df X G ["machine","order"] (by walk_at "b2")
 have DT2:=hT2.df X G ["machine","order"] (by walk_at "b2")
 have DTh:=hTh.df X G ["machine","which"] (by walk_at "b2")
 have DRm:=hRm.df X G ["machine"] (by walk_at "b1")
 have DMc:=hMc.df X G ["machine","order"] (by walk_at "b2")
 have DMp:=hMp.df X G ["machine","order"] (by walk_at "b2")
 have DM2:=hM2.df X G ["machine","sort"] (by walk_at "b2")
 have DMf:=hMf.df X G ["machine","order"] (by walk_at "b2")
 have DCa:=hCa.df X G ["machine","order"] (by walk_at "b2")
 have DLa:=hLa.df X G ["machine","order"] (by walk_at "b2")
 have DEn:=hEn.df X G ["machine","function","handed"] (by walk_at "b3")
 have DTe:=hTe.df X G ["machine","order"] (by walk_at "b2")
 have DCu:=hCu.df X G ["machine","height"] (by walk_at "b2")
 have DUn:=hUn.df X G ["machine","order"] (by walk_at "b2")
 have DPo:=hPo.df X G ["machine","order"] (by walk_at "b2")
 have DSl:=hSl.df X G ["machine","order"] (by walk_at "b2")
 have DVt:=hVt.df X G ["heap","value"] (by walk_at "b2")
 have DPi:=hPi.df X G ["heap","piece"] (by walk_at "b2")
 have DTp:=hTp.df X G ["heap","tail"] (by walk_at "b2")
 have DBa:=hBa.df X G ["value"] (by walk_at "b1")
 have EHi:=hHi.me ["self","room"] (by walk_at "b2")
 have EHf:=hHf.me ["self"] (by walk_at "b1")
 have EHu:=hHu.me ["self"] (by walk_at "b1")
 have EHm:=hHm.me ["self","sort","held"] (by walk_at "b3")
 have EHs:=hHs.me ["self","reference"] (by walk_at "b2")
 have EHb:=hHb.me ["self","reference"] (by walk_at "b2")
 have EHv:=hHv.me ["self","values"] (by walk_at "b2")
 have EMa:=hMa.me ["self","code","room"] (by walk_at "b3")
 have ERu:=hRu.me ["self","steps"] (by walk_at "b2")
 have ECl:=hCl.me ["self"] (by walk_at "b1")
 have ESh:=hSh.me ["self"] (by walk_at "b1")
 have DCe:=hCe.df X G ["_law_script","_law_k"] (by walk_at "b2")
 have DDr:=hDr.df X G ["_law_cell_here","_law_k"] (by walk_at "b2")
 have DAl:=hAl.df X G ["_law_e"] (by walk_at "b1")
 have DTo:=hTo.df X G ["_law_machine"] (by walk_at "b1")
 have DDb:=hDb.df X G ["_law_many"] (by walk_at "b1")
 have DMd:=hMd.df X G ["_law_code","_law_room"] (by walk_at "b2")
 have DRr:=hRr.df X G ["_law_code","_law_more"] (by walk_at "b2")
 have DLw:=hLw.df X G ["_law_script"] (by walk_at "b1")
 have mg0:=mg_of X G gq0
 have mg1:=mg_of X G gq1
 have mg2:=mg_of X G gq2
 have mg3:=mg_of X G gq3
 have mg4:=mg_of X G gq4
 have mg5:=mg_of X G gq5
 have mgE:=mg_of X G gE
 have y_abs:=mg_none_of X G z_abs
 have y_zip:=mg_none_of X G z_zip
 have y_dict:=mg_none_of X G z_dict
 have y_list:=mg_none_of X G z_list
 have y_enumerate:=mg_none_of X G z_enumerate
 have y_len:=mg_none_of X G z_len
 have y_isinstance:=mg_none_of X G z_isinstance
 have y_tuple:=mg_none_of X G z_tuple
 have y_bool:=mg_none_of X G z_bool
 have y_str:=mg_none_of X G z_str
 have y_reversed:=mg_none_of X G z_reversed
 have y_int:=mg_none_of X G z_int
 have y_max:=mg_none_of X G z_max
 have y_min:=mg_none_of X G z_min
 have y_range:=mg_none_of X G z_range
 have y_ValueError:=mg_none_of X G z_ValueError
 have mMA:=mg_of X G aMA
 have mHP:=mg_of X G aHP
 have Gsu:qR4 mg:=⟨y_abs,⟨_,mg0⟩,⟨_,mg1⟩⟩
 have Gw:GlW mg:=⟨y_isinstance,y_bool,y_str,y_list,y_reversed,y_len,mgE,⟨_,mg4⟩⟩
 have Gh:GlH mg:=⟨y_isinstance,y_tuple,y_list,y_len⟩
 have Gm:GlM mg:=⟨y_list,⟨_,mg2⟩,⟨_,mg3⟩⟩
 have Gk:GlK mg:=⟨y_len,⟨_,mg5⟩⟩
 have Gl':GlL mg:=⟨y_len,y_int,y_min,y_range,y_isinstance,y_ValueError⟩
 have It:IsT K:=⟨zMz K,zMj K,zN0 K,qU5 K⟩
 have Ib:IsB K:=⟨zN1 K,zN2 K⟩
 have Mc':Mc K MA:=⟨⟨pgMA,hdMA,poMA,saMA⟩,nMA_code,nMA_heap,nMA_stack,nMA_base,nMA_place,nMA_pending,nMA_standing⟩
 have Hc':Hc K HP:=⟨⟨pgHP,hdHP,poHP,saHP⟩,nHP_room,nHP_things,nHP_made_so_far⟩
 have MkH:Mk K HP fHi:=⟨mkHP,hHi.1,hHi.2.1,kpHP⟩
 have MkM:Mk K MA fMa:=⟨mkMA,hMa.1,hMa.2.1,kpMA⟩
 have xBT:=rBT.xc hBT
 have xNN:=rNN.xc hNN
 have xUF:=rUF.xc hUF
 have xTL:=rTL.xc hTL
 have xND:=rND.xc hND
 have xNR:=rNR.xc hNR
 have xNM:=rNM.xc hNM
 have xBR:=rBR.xc hBR
 have mS:=mg_of X G aS
 have mBT:=mg_of X G aBT
 have mNN:=mg_of X G aNN
 have mUF:=mg_of X G aUF
 have mTL:=mg_of X G aTL
 have mND:=mg_of X G aND
 have mNR:=mg_of X G aNR
 have mNM:=mg_of X G aNM
 have mBR:=mg_of X G aBR
 have xall:∀C∈([BT,NN,UF,TL,ND,NR,NM,BR]:List Addr),XC K C (bZ S):=by
  intro C hC
  simp only[List.mem_cons,List.not_mem_nil,or_false]at hC
  rcases hC with rfl|rfl|rfl|rfl|rfl|rfl|rfl|rfl<;>assumption
 have iall:∀C∈([BT,NN,UF,TL,ND,NR,NM,BR]:List Addr),XI K C:=by
  intro C hC
  simp only[List.mem_cons,List.not_mem_nil,or_false]at hC
  rcases hC with rfl|rfl|rfl|rfl|rfl|rfl|rfl|rfl
  ·exact rBT.xi xgt xtk
  ·exact rNN.xi xgt xtk
  ·exact rUF.xi xgt xtk
  ·exact rTL.xi xgt xtk
  ·exact rND.xi xgt xtk
  ·exact rNR.xi xgt xtk
  ·exact rNM.xi xgt xtk
  ·exact rBR.xi xgt xtk
 have Cs':Cs K mg S BT NN UF TL ND NR NM BR (bZ S):=⟨nd,xall,iall,fun C hC D hD=>by
   rw[eZ (xall C hC) (xall D hD).isCls.1 (xall D hD).isCls.2,eJ (ns D hD)],fun C hC=>by
   rw[eZ (xall C hC) sic sty,zP6],fun C hC=>by
   rw[zGz (xall C hC) (by decide+kernel)];rfl,
  mS,mBT,mNN,mUF,mTL,mND,mNR,mNM,mBR⟩
 have cND:(Value.ref ND::bZ S).contains (.ref TL)=false:=by
  rw[eJ (ns TL (by simp))]
  refine decide_eq_false fun z=>?_
  rw[z]at nd
  simp at nd
 have Gv:GlV K mg:=by
  refine⟨y_zip,TPS,_,mg_of X G aPST,dPST.s lPST sPST,fun wd=>?_⟩
  have hh:=gQ (K:=K) (ks:=zMq) (sss:=([["kind"],["part","part"],["part"],["part"],["part"],["part","part"],["part"],["part"],["part","part","part"],["name","part","part"],["name","kind","part"],["name","name","kind","kind","part"],["part","part"],["part","part"],["part","part"],["part","part"],["part","part"],["part","part"],["part","part"],["part","part"],["part","part"],["part","part"],["part"]]:List (List Str))) (vs:=([.ref pPS0,.ref pPS1,.ref pPS2,.ref pPS3,.ref pPS4,.ref pPS5,.ref pPS6,.ref pPS7,.ref pPS8,.ref pPS9,.ref pPS10,.ref pPS11,.ref pPS12,.ref pPS13,.ref pPS14,.ref pPS15,.ref pPS16,.ref pPS17,.ref pPS18,.ref pPS19,.ref pPS20,.ref pPS21,.ref pPS22]:List V)) rfl rfl (fun i ss v e1 e2=>?_) wd
  rotate_left
  ·match i,e1,e2 with
   |0,e1,e2=>cases e1;cases e2;exact⟨_,rfl,(tpPS0.s lpPS0 (by decide))⟩
   |1,e1,e2=>cases e1;cases e2;exact⟨_,rfl,(tpPS1.s lpPS1 (by decide))⟩
   |2,e1,e2=>cases e1;cases e2;exact⟨_,rfl,(tpPS2.s lpPS2 (by decide))⟩
   |3,e1,e2=>cases e1;cases e2;exact⟨_,rfl,(tpPS3.s lpPS3 (by decide))⟩
   |4,e1,e2=>cases e1;cases e2;exact⟨_,rfl,(tpPS4.s lpPS4 (by decide))⟩
   |5,e1,e2=>cases e1;cases e2;exact⟨_,rfl,(tpPS5.s lpPS5 (by decide))⟩
   |6,e1,e2=>cases e1;cases e2;exact⟨_,rfl,(tpPS6.s lpPS6 (by decide))⟩
   |7,e1,e2=>cases e1;cases e2;exact⟨_,rfl,(tpPS7.s lpPS7 (by decide))⟩
   |8,e1,e2=>cases e1;cases e2;exact⟨_,rfl,(tpPS8.s lpPS8 (by decide))⟩
   |9,e1,e2=>cases e1;cases e2;exact⟨_,rfl,(tpPS9.s lpPS9 (by decide))⟩
   |10,e1,e2=>cases e1;cases e2;exact⟨_,rfl,(tpPS10.s lpPS10 (by decide))⟩
   |11,e1,e2=>cases e1;cases e2;exact⟨_,rfl,(tpPS11.s lpPS11 (by decide))⟩
   |12,e1,e2=>cases e1;cases e2;exact⟨_,rfl,(tpPS12.s lpPS12 (by decide))⟩
   |13,e1,e2=>cases e1;cases e2;exact⟨_,rfl,(tpPS13.s lpPS13 (by decide))⟩
   |14,e1,e2=>cases e1;cases e2;exact⟨_,rfl,(tpPS14.s lpPS14 (by decide))⟩
   |15,e1,e2=>cases e1;cases e2;exact⟨_,rfl,(tpPS15.s lpPS15 (by decide))⟩
   |16,e1,e2=>cases e1;cases e2;exact⟨_,rfl,(tpPS16.s lpPS16 (by decide))⟩
   |17,e1,e2=>cases e1;cases e2;exact⟨_,rfl,(tpPS17.s lpPS17 (by decide))⟩
   |18,e1,e2=>cases e1;cases e2;exact⟨_,rfl,(tpPS18.s lpPS18 (by decide))⟩
   |19,e1,e2=>cases e1;cases e2;exact⟨_,rfl,(tpPS19.s lpPS19 (by decide))⟩
   |20,e1,e2=>cases e1;cases e2;exact⟨_,rfl,(tpPS20.s lpPS20 (by decide))⟩
   |21,e1,e2=>cases e1;cases e2;exact⟨_,rfl,(tpPS21.s lpPS21 (by decide))⟩
   |22,e1,e2=>cases e1;cases e2;exact⟨_,rfl,(tpPS22.s lpPS22 (by decide))⟩
   |n+23,e1,e2=>simp at e1
  have eSL:SL=zMq.zip ([["kind"],["part","part"],["part"],["part"],["part"],["part","part"],["part"],["part"],["part","part","part"],["name","part","part"],["name","kind","part"],["name","name","kind","kind","part"],["part","part"],["part","part"],["part","part"],["part","part"],["part","part"],["part","part"],["part","part"],["part","part"],["part","part"],["part","part"],["part"]]:List (List Str)):=rfl
  unfold zI
  rw[eSL]
  rcases hh with⟨h1,h2⟩|⟨ss,tp,h1,h2,h3⟩
  ·exact .inl ⟨by rw[h1];rfl,h2⟩
  ·exact .inr ⟨tp,h2,by rw[h1];exact h3⟩
 have Go:GlO mg:=⟨y_enumerate,y_len,y_list⟩
 have Gc:GlC mg:=⟨y_enumerate,y_len,y_tuple⟩
 refine⟨fdLw,fun s v=>?_,fun base kb nb=>?_⟩
 ·obtain⟨_,_,_,_,nLw,_,_⟩:=hLw
  obtain⟨oc,od,kV,doc,pm,an,ct,osl,rfl,rfl⟩:=nLw
  exact .of_eq rfl
 ·have GVb':=zD6 (P:=l.prog) (w:=w) (base:=base) DVb.fn Gv
  have GVb:=DVb.kn GVb'
  have GRq':=zY7 (P:=l.prog) (w:=w) (base:=base) (mg:=mg) DRq.fn
  have GRq:=DRq.kn GRq'
  have GWn:=DWn.kn (zDq (P:=l.prog) (w:=w) (base:=base) DWn.fn y_dict)
  have GLu:=DLu.kn (zDz (P:=l.prog) (w:=w) (base:=base) (mg:=mg) DLu.fn)
  have GNb:=DNb.kn (zD8 DNb.fn GVb' DVb.at_ DVb.fn.kp DVb.bi)
  have GRw:=DRw.kn (zDj DRw.fn ⟨y_isinstance,y_tuple⟩ GRq' DRq.at_ DRq.fn.kp DRq.bi)
  have GCn:=ok_cons DCn.fn GRq
  have GHk:=qP3 DHk.fn GRw
  have GTk:=qP4 DTk.fn GRw
  have GEk:=qUq DEk.fn GRw
  have GFk:=qUz DFk.fn GRw
  have GSk:=qZz DSk.fn GRw
  have GIk:=zF1 DIk.fn GRq
  have GCk:=qP5 DCk.fn GRq GRw
  have GPk:=DPk.kn (zF3 (P:=l.prog) (w:=w) (base:=base) (mg:=mg) DPk.fn)
  have Gf:GlF l.prog w K mg base fLk fNk fXk:=by
   refine⟨y_list,⟨TBR,mg_of X G aBRT,dBRT.s lBRT sBRT⟩,⟨TKR,_,mg_of X G aKRT,dKRT.s lKRT sKRT,fun wd ks κ m=>oK (zR9 wd (qO3 m)),fun wd R m=>?_⟩,⟨TFK,_,mg_of X G aFKT,dFKT.s lFKT sFKT,fun wd ks κ m=>?_⟩⟩
   ·simp only[KR,List.mem_cons,List.not_mem_nil,or_false,Prod.mk.injEq]at m
    rcases m with⟨rfl,rfl⟩|⟨rfl,rfl⟩|⟨rfl,rfl⟩|⟨rfl,rfl⟩|⟨rfl,rfl⟩|⟨rfl,rfl⟩|⟨rfl,rfl⟩|⟨rfl,rfl⟩
    ·exact⟨xY (i:=0) (by decide+kernel) (by show 0<8;decide),fCn,qS (i:=0) (by decide+kernel) rfl,DCn.at GCn⟩
    ·exact⟨xY (i:=1) (by decide+kernel) (by show 1<8;decide),fHk,qS (i:=1) (by decide+kernel) rfl,DHk.at GHk⟩
    ·exact⟨xY (i:=2) (by decide+kernel) (by show 2<8;decide),fTk,qS (i:=2) (by decide+kernel) rfl,DTk.at GTk⟩
    ·exact⟨xY (i:=3) (by decide+kernel) (by show 3<8;decide),fEk,qS (i:=3) (by decide+kernel) rfl,DEk.at GEk⟩
    ·exact⟨xY (i:=4) (by decide+kernel) (by show 4<8;decide),fFk,qS (i:=4) (by decide+kernel) rfl,DFk.at GFk⟩
    ·exact⟨xY (i:=5) (by decide+kernel) (by show 5<8;decide),fSk,qS (i:=5) (by decide+kernel) rfl,DSk.at GSk⟩
    ·exact⟨xY (i:=6) (by decide+kernel) (by show 6<8;decide),fIk,qS (i:=6) (by decide+kernel) rfl,DIk.at GIk⟩
    ·exact⟨xY (i:=7) (by decide+kernel) (by show 7<8;decide),fCk,qS (i:=7) (by decide+kernel) rfl,DCk.at GCk⟩
   ·simp only[FX,List.mem_cons,List.not_mem_nil,or_false,Prod.mk.injEq]at m
    rcases m with⟨rfl,rfl,rfl⟩|⟨rfl,rfl,rfl⟩|⟨rfl,rfl,rfl⟩|⟨rfl,rfl,rfl⟩|⟨rfl,rfl,rfl⟩|⟨rfl,rfl,rfl⟩|⟨rfl,rfl,rfl⟩|⟨rfl,rfl,rfl⟩|⟨rfl,rfl,rfl⟩|⟨rfl,rfl,rfl⟩|⟨rfl,rfl,rfl⟩|⟨rfl,rfl,rfl⟩
    ·exact⟨_,qS (i:=0) (by decide+kernel) rfl,(tpFK0.s lpFK0 (by decide))⟩
    ·exact⟨_,qS (i:=1) (by decide+kernel) rfl,(tpFK1.s lpFK1 (by decide))⟩
    ·exact⟨_,qS (i:=2) (by decide+kernel) rfl,(tpFK2.s lpFK2 (by decide))⟩
    ·exact⟨_,qS (i:=3) (by decide+kernel) rfl,(tpFK3.s lpFK3 (by decide))⟩
    ·exact⟨_,qS (i:=4) (by decide+kernel) rfl,(tpFK4.s lpFK4 (by decide))⟩
    ·exact⟨_,qS (i:=5) (by decide+kernel) rfl,(tpFK5.s lpFK5 (by decide))⟩
    ·exact⟨_,qS (i:=6) (by decide+kernel) rfl,(tpFK6.s lpFK6 (by decide))⟩
    ·exact⟨_,qS (i:=7) (by decide+kernel) rfl,(tpFK7.s lpFK7 (by decide))⟩
    ·exact⟨_,qS (i:=8) (by decide+kernel) rfl,(tpFK8.s lpFK8 (by decide))⟩
    ·exact⟨_,qS (i:=9) (by decide+kernel) rfl,(tpFK9.s lpFK9 (by decide))⟩
    ·exact⟨_,qS (i:=10) (by decide+kernel) rfl,(tpFK10.s lpFK10 (by decide))⟩
    ·exact⟨_,qS (i:=11) (by decide+kernel) rfl,(tpFK11.s lpFK11 (by decide))⟩
  have GFt:=eG DFt DLk DNk DXk Gf GVb GRq GLu GPk GWn 70
  have GKo:=DKo.kn (zPz DKo.fn GFt)
  have GOn:=qB2 DOn Go GVb GNb
  have GAi:=DAi.kn (zF8 (P:=l.prog) (w:=w) (base:=base) (mg:=mg) DAi.fn)
  have GVc:=DVc.kn (zO0 DVc.fn GLu)
  have GCo:=pX DCo DOp DCc DIc DLc DFc Gc (mg_of X G aPCT) (dPCT.s lPCT sPCT) GVb GNb GLu GWn GAi GVc GOn 70
  have GCm:=DCm.kn (zR0 DCm.fn GKo GCo)
  have GBr:=zFq (P:=l.prog) (w:=w) (base:=base) DBr.fn Gsu
  have GPl:=qR5 DPl.fn GBr DBr.at_ DBr.fn.kp DBr.bi
  have GMi:=qC5 DMi.fn GBr DBr.at_ DBr.fn.kp DBr.bi
  have GTi:=qC6 DTi.fn GBr DBr.at_ DBr.fn.kp DBr.bi
  have GOv:=qR6 DOv.fn Gsu GBr DBr.at_ DBr.fn.kp DBr.bi
  have GRe:=qR7 (P:=l.prog) (w:=w) (base:=base) DRe.fn Gsu
  have GLe:=qR8 (P:=l.prog) (w:=w) (base:=base) (mg:=mg) DLe.fn
  have GSa:=qR9 (P:=l.prog) (w:=w) (base:=base) (mg:=mg) DSa.fn
  have GNo:=DNo.kn (qJz (P:=l.prog) (w:=w) (base:=base) (mg:=mg) DNo.fn)
  have Su:Sums l.prog w K mg base:=by
   refine⟨TS,_,mg_of X G aST,dST.s lST sST,fun x=>?_⟩
   match x with
   | .plus=>exact⟨_,_,qS (i:=0) (by decide+kernel) rfl,GPl,DPl.fn.kp,DPl.bi⟩
   | .minus=>exact⟨_,_,qS (i:=1) (by decide+kernel) rfl,GMi,DMi.fn.kp,DMi.bi⟩
   | .times=>exact⟨_,_,qS (i:=2) (by decide+kernel) rfl,GTi,DTi.fn.kp,DTi.bi⟩
   | .over=>exact⟨_,_,qS (i:=3) (by decide+kernel) rfl,GOv,DOv.fn.kp,DOv.bi⟩
   | .rest=>exact⟨_,_,qS (i:=4) (by decide+kernel) rfl,GRe,DRe.fn.kp,DRe.bi⟩
   | .less=>exact⟨_,_,qS (i:=5) (by decide+kernel) rfl,GLe,DLe.fn.kp,DLe.bi⟩
   | .same=>exact⟨_,_,qS (i:=6) (by decide+kernel) rfl,GSa,DSa.fn.kp,DSa.bi⟩
  have GSo:=DSo.kn (qC8 DSo.fn Su)
  have GRf:=DRf.kn (zL2 (P:=l.prog) (w:=w) (base:=base) (mg:=mg) DRf.fn)
  have GIr:=DIr.kn (qMj (P:=l.prog) (w:=w) (base:=base) DIr.fn Gh It)
  have GNp:=DNp.kn (qT7 DNp.fn Gh GIr)
  have GMv:=DMv.kn (zG9 DMv.fn GIr GRf)
  have GHb:=qS6 (P:=l.prog) (w:=w) (base:=base) (mg:=mg) EHb.fn Hc'
  have GHs:=qS7 (P:=l.prog) (w:=w) (base:=base) (mg:=mg) EHs.fn Hc'
  have GHf:=qS8 (P:=l.prog) (w:=w) (base:=base) EHf.fn Hc' y_len
  have GHu:=qG3 (P:=l.prog) (w:=w) (base:=base) EHu.fn Hc' y_len
  have GHm:=qG5 EHm.fn Hc' y_len y_tuple EHf.mt GHf EHf.bi GRf
  have GHv:=qT9 EHv.fn Hc' Gh GNp GMv
  have GCl:=zGq ECl.fn Mc' Hc' EHv.mt GHv EHv.bi EHu.mt GHu EHu.bi
  have GRm:=DRm.kn (qT2 (k:=3) DRm.fn Mc' Hc' EHf.mt GHf EHf.bi ECl.mt GCl ECl.bi)
  have GM2:=DM2.kn (zG0 DM2.fn Mc' Hc' GRm EHm.mt GHm EHm.bi)
  have GMc:=zG1 DMc.fn GM2
  have GMp:=zG2 DMp.fn GM2
  have GIs:=DIs.kn (zC8 (P:=l.prog) (w:=w) (base:=base) (mg:=mg) DIs.fn Mc')
  have GMf:=zG4 DMf.fn Mc' Hc' GRm GIs EHm.mt GHm EHm.bi
  have GPu:=zC6 (P:=l.prog) (w:=w) (base:=base) (mg:=mg) (CH:=HP) DPu.fn Mc'
  have GPn:=qS3 (P:=l.prog) (w:=w) (base:=base) (CH:=HP) DPn.fn Mc' mgE
  have GPs:=qS4 (CH:=HP) DPs.fn Mc' GIs
  have GTt:=qS5 (P:=l.prog) (w:=w) (base:=base) (mg:=mg) (CH:=HP) DTt.fn Mc'
  have GAe:=zCz (P:=l.prog) (w:=w) (base:=base) (CH:=HP) DAe.fn Mc' mgE
  have GTh:=DTh.kn (zL4 DTh.fn Mc' Hc' mgE EHb.mt GHb EHb.bi)
  have GT1:=zL5 DT1.fn GTh
  have GT2:=zL6 DT2.fn GTh
  have GRk:=qSj (CH:=HP) DRk.fn Mc' GNo GSo
  have GPo:=qG8 (P:=l.prog) (w:=w) (base:=base) (mg:=mg) (CH:=HP) DPo.fn Mc'
  have GUn:=zL7 (P:=l.prog) (w:=w) (base:=base) (mg:=mg) (CH:=HP) DUn.fn Mc'
  have GSl:=zL8 (P:=l.prog) (w:=w) (base:=base) (mg:=mg) (CH:=HP) DSl.fn Mc'
  have GCu:=DCu.kn (zL9 (P:=l.prog) (w:=w) (base:=base) DCu.fn Mc' y_len)
  have GEn:=DEn.kn (zLq DEn.fn Mc' Hc' EHb.mt GHb EHb.bi)
  have GCa:=zLz DCa.fn Mc' Gk GEn
  have GLa:=qM0 DLa.fn Mc' GCu GEn
  have GTe:=qT1 (CH:=HP) DTe.fn Mc' GCu
  have Od:Ords l.prog w K mg base MA HP 7:=by
   refine⟨TO,_,mg_of X G aOT,dOT.s lOT sOT,fun o ho=>?_⟩
   match o,ho with
   | .num n,_=>exact⟨fPu,fdPu,1,_,by decide,(show aq28 ("put":Str) _=_ from qS (i:=0) (by decide+kernel) rfl),.inl ⟨n,rfl⟩,GPu,DPu.fn.kp,DPu.bi⟩
   | .tru b,_=>exact⟨fPu,fdPu,1,_,by decide,(show aq28 ("put":Str) _=_ from qS (i:=0) (by decide+kernel) rfl),.inr ⟨b,rfl⟩,GPu,DPu.fn.kp,DPu.bi⟩
   | .nil,_=>exact⟨fPn,fdPn,1,(fun o=>o= .nil),by decide,(show aq28 ("nil":Str) _=_ from qS (i:=1) (by decide+kernel) rfl),rfl,GPn,DPn.fn.kp,DPn.bi⟩
   | .get k,_=>exact⟨fPs,fdPs,2,_,by decide,(show aq28 ("get":Str) _=_ from qS (i:=2) (by decide+kernel) rfl),⟨k,rfl⟩,GPs,DPs.fn.kp,DPs.bi⟩
   | .make .cell,_=>exact⟨fMc,fdMc,7,(fun o=>o= .make .cell),by decide,(show aq28 ("cons":Str) _=_ from qS (i:=3) (by decide+kernel) rfl),rfl,GMc,DMc.fn.kp,DMc.bi⟩
   | .make .pair,_=>exact⟨fMp,fdMp,7,(fun o=>o= .make .pair),by decide,(show aq28 ("pair":Str) _=_ from qS (i:=7) (by decide+kernel) rfl),rfl,GMp,DMp.fn.kp,DMp.bi⟩
   | .make .fn,ho=>exact absurd rfl ho
   | .take x i,ho=>
    have ho:(x,i)∈([("head",0),("tail",1),("first",0),("second",1)]:List (Str×Nat)):=ho
    simp only[List.mem_cons,List.not_mem_nil,or_false,Prod.mk.injEq]at ho
    rcases ho with⟨rfl,rfl⟩|⟨rfl,rfl⟩|⟨rfl,rfl⟩|⟨rfl,rfl⟩
    ·exact⟨fT1,fdT1,3,_,by decide,(show aq28 ("head":Str) _=_ from qS (i:=4) (by decide+kernel) rfl),⟨_,rfl⟩,GT1,DT1.fn.kp,DT1.bi⟩
    ·exact⟨fT2,fdT2,3,_,by decide,(show aq28 ("tail":Str) _=_ from qS (i:=5) (by decide+kernel) rfl),⟨_,rfl⟩,GT2,DT2.fn.kp,DT2.bi⟩
    ·exact⟨fT1,fdT1,3,_,by decide,(show aq28 ("first":Str) _=_ from qS (i:=8) (by decide+kernel) rfl),⟨_,rfl⟩,GT1,DT1.fn.kp,DT1.bi⟩
    ·exact⟨fT2,fdT2,3,_,by decide,(show aq28 ("second":Str) _=_ from qS (i:=9) (by decide+kernel) rfl),⟨_,rfl⟩,GT2,DT2.fn.kp,DT2.bi⟩
   | .empty,_=>exact⟨fAe,fdAe,2,(fun o=>o= .empty),by decide,(show aq28 ("empty":Str) _=_ from qS (i:=6) (by decide+kernel) rfl),rfl,GAe,DAe.fn.kp,DAe.bi⟩
   | .not,_=>exact⟨fTt,fdTt,1,(fun o=>o= .not),by decide,(show aq28 ("not":Str) _=_ from qS (i:=17) (by decide+kernel) rfl),rfl,GTt,DTt.fn.kp,DTt.bi⟩
   | .sum .plus,_=>exact⟨fRk,fdRk,4,_,by decide,(show aq28 ("plus":Str) _=_ from qS (i:=10) (by decide+kernel) rfl),⟨_,rfl⟩,GRk,DRk.fn.kp,DRk.bi⟩
   | .sum .minus,_=>exact⟨fRk,fdRk,4,_,by decide,(show aq28 ("minus":Str) _=_ from qS (i:=11) (by decide+kernel) rfl),⟨_,rfl⟩,GRk,DRk.fn.kp,DRk.bi⟩
   | .sum .times,_=>exact⟨fRk,fdRk,4,_,by decide,(show aq28 ("times":Str) _=_ from qS (i:=12) (by decide+kernel) rfl),⟨_,rfl⟩,GRk,DRk.fn.kp,DRk.bi⟩
   | .sum .over,_=>exact⟨fRk,fdRk,4,_,by decide,(show aq28 ("over":Str) _=_ from qS (i:=13) (by decide+kernel) rfl),⟨_,rfl⟩,GRk,DRk.fn.kp,DRk.bi⟩
   | .sum .rest,_=>exact⟨fRk,fdRk,4,_,by decide,(show aq28 ("rest":Str) _=_ from qS (i:=14) (by decide+kernel) rfl),⟨_,rfl⟩,GRk,DRk.fn.kp,DRk.bi⟩
   | .sum .less,_=>exact⟨fRk,fdRk,4,_,by decide,(show aq28 ("less":Str) _=_ from qS (i:=15) (by decide+kernel) rfl),⟨_,rfl⟩,GRk,DRk.fn.kp,DRk.bi⟩
   | .sum .same,_=>exact⟨fRk,fdRk,4,_,by decide,(show aq28 ("same":Str) _=_ from qS (i:=16) (by decide+kernel) rfl),⟨_,rfl⟩,GRk,DRk.fn.kp,DRk.bi⟩
   | .func true ks n,ho=>exact⟨fMf,fdMf,6,_,by decide,(show aq28 ("rec":Str) _=_ from qS (i:=19) (by decide+kernel) rfl),⟨_,_,_,rfl,ho⟩,GMf,DMf.fn.kp,DMf.bi⟩
   | .func false ks n,ho=>exact⟨fMf,fdMf,6,_,by decide,(show aq28 ("fn":Str) _=_ from qS (i:=18) (by decide+kernel) rfl),⟨_,_,_,rfl,ho⟩,GMf,DMf.fn.kp,DMf.bi⟩
   | .call,_=>exact⟨fCa,fdCa,3,(fun o=>o= .call),by decide,(show aq28 ("call":Str) _=_ from qS (i:=20) (by decide+kernel) rfl),rfl,GCa,DCa.fn.kp,DCa.bi⟩
   | .last,_=>exact⟨fLa,fdLa,3,(fun o=>o= .last),by decide,(show aq28 ("last call":Str) _=_ from qS (i:=21) (by decide+kernel) rfl),rfl,GLa,DLa.fn.kp,DLa.bi⟩
   | .tell,_=>exact⟨fTe,fdTe,2,(fun o=>o= .tell),by decide,(show aq28 ("tell":Str) _=_ from qS (i:=22) (by decide+kernel) rfl),rfl,GTe,DTe.fn.kp,DTe.bi⟩
   |AOrd.unless k,_=>exact⟨fUn,fdUn,1,_,by decide,(show aq28 ("unless":Str) _=_ from qS (i:=23) (by decide+kernel) rfl),⟨k,rfl⟩,GUn,DUn.fn.kp,DUn.bi⟩
   | .skip k,_=>exact⟨fPo,fdPo,1,_,by decide,(show aq28 ("skip":Str) _=_ from qS (i:=24) (by decide+kernel) rfl),⟨k,rfl⟩,GPo,DPo.fn.kp,DPo.bi⟩
   | .slide,_=>exact⟨fSl,fdSl,1,(fun o=>o= .slide),by decide,(show aq28 ("slide":Str) _=_ from qS (i:=25) (by decide+kernel) rfl),rfl,GSl,DSl.fn.kp,DSl.bi⟩
  have GOr:=DOr.kn (zG5 DOr.fn Mc' Od)
  have GSt:=DSt.kn (qT3 DSt.fn Mc' ⟨TE,mg_of X G aTE,tTE.s lTE (by decide)⟩ GOr)
  have GRu:=zG7 ERu.fn Mc' GSt
  have GBa:=DBa.kn (qA2 (P:=l.prog) (w:=w) (base:=base) DBa.fn Gw Ib)
  have GTp:=DTp.kn (qNj DTp.fn Gw Hc' EHb.mt GHb EHb.bi)
  have GPi:=DPi.kn (qX7 DPi.fn Hc' GTp GIr GBa EHs.mt GHs EHs.bi EHb.mt GHb EHb.bi)
  have GVt:=DVt.kn (qB0 DVt.fn Gw GPi xTL iTL mTL)
  have GSh:=qB1 (CH:=HP) ESh.fn Mc' GVt xND iND mND
  have GHi:=zGj (P:=l.prog) (w:=w) (base:=base) (mg:=mg) EHi.fn Hc'
  have GMa:=zM0 EMa.fn Mc' Hc' Gm GHi mHP MkH EHi.bi xNR iNR mNR
  have GCe:=DCe.kn (qA8 (P:=l.prog) (w:=w) (base:=base) DCe.fn Gl')
  have GDr:=DDr.kn (qB8 (P:=l.prog) (w:=w) (base:=base) (mg:=mg) DDr.fn)
  have GAl:=(show Al l.prog w K mg base [BT,NN,UF,TL,ND,NR,NM,BR]from⟨_,_,qB9 (P:=l.prog) (w:=w) (base:=base) DAl.fn Gl' Cs',DAl.at_,DAl.fn.kp,DAl.bi⟩)
  have GTo:=DTo.kn (ok_told DTo.fn Gl' Cs' cND Mc' ESh.mt GSh ESh.bi GAl)
  have GDb:=DDb.kn (zM7 (P:=l.prog) (w:=w) (base:=base) DDb.fn Gl')
  have GMd:=DMd.kn (qA9 DMd.fn Gl' Cs' mMA MkM GMa EMa.bi GAl)
  have GRr:=DRr.kn (qD1 DRr.fn ⟨eqMA,obMA⟩ GMd)
  exact zM9 DLw.fn Gl' GCe GDr GDb GCm Mc' mMA MkM GMa EMa.bi ERu.mt GRu ERu.bi (by decide) ECl.mt GCl ECl.bi GTo GRr
theorem zRq{P:Program}{w:World}{outer:List Env}{H:Hp}{s:Shared}{e:Value}{s':Shared}(z:CXE P w outer H s (fun _ _ _=>False) e s'):False:=by
 obtain⟨_,_,_,_,_,_,_,_,_,_,_,_,_,_,_,_,y⟩:=z
 exact y
theorem walk{l:OpenLaw}{q:Program}{loose:List Str}{XP:(Str->Option Value)->Heap->Prop}{YP:World->Heap->Prop}{d:DefRec}{K:Params->Frag}(hn:l.most=some 63)(hdf:d.params.defaults=[])
  (hY:∀(w:World)(h:Heap),YP w h->(K w.params).In h)
  (F:∀(w:World)(mg:Str->Option Value)(fa:Addr)(h:Heap),(K w.params).In h->h.Ns mainGlobals mg->mg d.name=some (.ref fa)->
   ∃fd:FuncData,(∀(s:Shared)(u:Value),BindsTo s fd ⟨[u],[]⟩ [("_law_script",u)])/\∀base:Heap,(K w.params).In base->base.Ns mainGlobals mg->zQ l.prog w (K w.params) mg base (CXE l.prog w) 216 fa fd ["_law_script"] (qQ3 (K w.params))):
  WalkO q loose XP YP l.row.toRowW d [] (fun f vs=>PySem.call f vs):=
 L2.qF7 (n:=63) (k:=216) (x:="_law_script") (CX:=fun w=>CXE l.prog w) (sp:=fun w=>qQ3 (K w.params)) hn (by decide) hdf ⟨rfl,by decide,by decide⟩ hY F (fun _ _ a ns hl _ hS=>⟨a,ns,rfl,hS,hl,fun _=>rfl⟩) fun _ _ _ _ _ z=>zRq z
end K23
open PySem PySem.W PyProof.Rows
set_option maxRecDepth 100000 in
set_option maxHeartbeats 0 in
theorem PySem.Challenge.cw_plainspeak_k23_texts_that_are_too_long_holds : PySem.Challenge.rw_plainspeak_k23_texts_that_are_too_long.Holds := by
 w_on;o_law;k_head;(case hw=>w_witness2)
 k_fill
 refine K23.walk (l:=PySem.Challenge.rw_plainspeak_k23_texts_that_are_too_long) rfl rfl (fun w h Y=>PySem.W.kIn_of Y) ?F
 case F=>
  intro w mg fa h KX G hmg
  refine' K23.all_mk KX G hmg ?aMA ?pgMA ?hdMA ?poMA ?saMA ?mkMA ?kpMA ?nMA_code ?nMA_heap ?nMA_stack ?nMA_base ?nMA_place ?nMA_pending ?nMA_standing ?aHP ?pgHP ?hdHP ?poHP ?saHP ?mkHP ?kpHP ?nHP_room ?nHP_things ?nHP_made_so_far ?aS ?sic ?sty ?xgt ?xtk ?aBT ?rBT ?hBT ?aNN ?rNN ?hNN ?aUF ?rUF ?hUF ?aTL ?rTL ?hTL ?iTL ?aND ?rND ?hND ?iND ?aNR ?rNR ?hNR ?iNR ?aNM ?rNM ?hNM ?aBR ?rBR ?hBR ?nd ?ns ?eqMA ?obMA ?hVb ?hWn ?hLu ?hNb ?hOn ?hKo ?hRq ?hRw ?hCn ?hHk ?hTk ?hEk ?hFk ?hSk ?hIk ?hCk ?hLk ?hNk ?hXk ?hPk ?hFt ?hCm ?hOp ?hCc ?hAi ?hIc ?hLc ?hFc ?hVc ?hCo ?hBr ?hPl ?hMi ?hTi ?hOv ?hRe ?hLe ?hSa ?hNo ?hSo ?hRf ?hIr ?hNp ?hMv ?hSt ?hOr ?hPu ?hPn ?hPs ?hIs ?hRk ?hTt ?hAe ?hT1 ?hT2 ?hTh ?hRm ?hMc ?hMp ?hM2 ?hMf ?hCa ?hLa ?hEn ?hTe ?hCu ?hUn ?hPo ?hSl ?hVt ?hPi ?hTp ?hBa ?hHi ?hHf ?hHu ?hHm ?hHs ?hHb ?hHv ?hMa ?hRu ?hCl ?hSh ?hCe ?hDr ?hAl ?hTo ?hDb ?hMd ?hRr ?hLw ?gq0 ?gq1 ?gq2 ?gq3 ?gq4 ?gq5 ?gE ?aST ?lST ?dST ?sST ?aPST ?lPST ?dPST ?sPST ?lpPS0 ?tpPS0 ?lpPS1 ?tpPS1 ?lpPS2 ?tpPS2 ?lpPS3 ?tpPS3 ?lpPS4 ?tpPS4 ?lpPS5 ?tpPS5 ?lpPS6 ?tpPS6 ?lpPS7 ?tpPS7 ?lpPS8 ?tpPS8 ?lpPS9 ?tpPS9 ?lpPS10 ?tpPS10 ?lpPS11 ?tpPS11 ?lpPS12 ?tpPS12 ?lpPS13 ?tpPS13 ?lpPS14 ?tpPS14 ?lpPS15 ?tpPS15 ?lpPS16 ?tpPS16 ?lpPS17 ?tpPS17 ?lpPS18 ?tpPS18 ?lpPS19 ?tpPS19 ?lpPS20 ?tpPS20 ?lpPS21 ?tpPS21 ?lpPS22 ?tpPS22 ?aOT ?lOT ?dOT ?sOT ?aBRT ?lBRT ?dBRT ?sBRT ?aKRT ?lKRT ?dKRT ?sKRT ?aFKT ?lFKT ?dFKT ?sFKT ?lpFK0 ?tpFK0 ?lpFK1 ?tpFK1 ?lpFK2 ?tpFK2 ?lpFK3 ?tpFK3 ?lpFK4 ?tpFK4 ?lpFK5 ?tpFK5 ?lpFK6 ?tpFK6 ?lpFK7 ?tpFK7 ?lpFK8 ?tpFK8 ?lpFK9 ?tpFK9 ?lpFK10 ?tpFK10 ?lpFK11 ?tpFK11 ?aPCT ?lPCT ?dPCT ?sPCT ?aTE ?lTE ?tTE ?z_abs ?z_zip ?z_dict ?z_list ?z_enumerate ?z_len ?z_isinstance ?z_tuple ?z_bool ?z_str ?z_reversed ?z_int ?z_max ?z_min ?z_range ?z_ValueError
  (case aMA|pgMA|hdMA|poMA|saMA|mkMA|kpMA|nMA_code|nMA_heap|nMA_stack|nMA_base|nMA_place|nMA_pending|nMA_standing|aHP|pgHP|hdHP|poHP|saHP|mkHP|kpHP|nHP_room|nHP_things|nHP_made_so_far|aS|sic|sty|xgt|xtk|aBT=>k_is)
  (case rBT=>(constructor<;>k_is))
  (case hBT=>exact⟨_,_,_,_,_,_,_,_,_,_,_,_,_,_,rfl⟩)
  (case aNN=>k_is)
  (case rNN=>(constructor<;>k_is))
  (case hNN=>exact⟨_,_,_,_,_,_,_,_,_,_,_,_,_,_,rfl⟩)
  (case aUF=>k_is)
  (case rUF=>(constructor<;>k_is))
  (case hUF=>exact⟨_,_,_,_,_,_,_,_,_,_,_,_,_,_,rfl⟩)
  (case aTL=>k_is)
  (case rTL=>(constructor<;>k_is))
  (case hTL=>exact⟨_,_,_,_,_,_,_,_,_,_,_,_,_,_,rfl⟩)
  (case iTL|aND=>k_is)
  (case rND=>(constructor<;>k_is))
  (case hND=>exact⟨_,_,_,_,_,_,_,_,_,_,_,_,_,_,rfl⟩)
  (case iND|aNR=>k_is)
  (case rNR=>(constructor<;>k_is))
  (case hNR=>exact⟨_,_,_,_,_,_,_,_,_,_,_,_,_,_,rfl⟩)
  (case iNR|aNM=>k_is)
  (case rNM=>(constructor<;>k_is))
  (case hNM=>exact⟨_,_,_,_,_,_,_,_,_,_,_,_,_,_,rfl⟩)
  (case aBR=>k_is)
  (case rBR=>(constructor<;>k_is))
  (case hBR=>exact⟨_,_,_,_,_,_,_,_,_,_,_,_,_,_,rfl⟩)
  (case nd|ns=>decide)
  (case eqMA|obMA=>k_is)
  (case hVb|hWn|hLu|hNb|hOn|hKo|hRq|hRw|hCn|hHk|hTk|hEk|hFk|hSk|hIk|hCk|hLk|hNk|hXk|hPk|hFt|hCm|hOp|hCc|hAi|hIc|hLc|hFc|hVc|hCo|hBr|hPl|hMi|hTi|hOv|hRe|hLe|hSa|hNo|hSo|hRf|hIr|hNp|hMv|hSt|hOr|hPu|hPn|hPs|hIs|hRk|hTt|hAe|hT1|hT2|hTh|hRm|hMc|hMp|hM2|hMf|hCa|hLa|hEn|hTe|hCu|hUn|hPo|hSl|hVt|hPi|hTp|hBa=>refine⟨?_,?_⟩;k_is;apply Exists.intro;apply Exists.intro;refine⟨?_,?_,?_,?_⟩;k_is;exact⟨_,_,_,_,_,_,_,_,rfl,rfl⟩;k_is;k_is)
  (case hHi|hHf|hHu|hHm|hHs|hHb|hHv|hMa|hRu|hCl|hSh=>refine⟨?_,?_,?_⟩;k_is;k_is;apply Exists.intro;apply Exists.intro;refine⟨?_,?_,?_,?_⟩;k_is;exact⟨_,_,_,_,_,_,_,_,rfl,rfl⟩;k_is;k_is)
  (case hCe|hDr|hAl|hTo|hDb|hMd|hRr|hLw=>refine⟨?_,?_⟩;k_is;apply Exists.intro;apply Exists.intro;refine⟨?_,?_,?_,?_⟩;k_is;exact⟨_,_,_,_,_,_,_,_,rfl,rfl⟩;k_is;k_is)
  (case gq0|gq1|gq2|gq3|gq4|gq5|gE|aST|lST=>k_is)
  (case dST=>exact⟨⟨rfl,rfl,rfl⟩,_,_,rfl,.cons rfl rfl (.cons rfl rfl (.cons rfl rfl (.cons rfl rfl (.cons rfl rfl (.cons rfl rfl (.cons rfl rfl .nil))))))⟩)
  (case sST=>decide)
  (case aPST|lPST=>k_is)
  (case dPST=>exact⟨⟨rfl,rfl,rfl⟩,_,_,rfl,.cons rfl rfl (.cons rfl rfl (.cons rfl rfl (.cons rfl rfl (.cons rfl rfl (.cons rfl rfl (.cons rfl rfl (.cons rfl rfl (.cons rfl rfl (.cons rfl rfl (.cons rfl rfl (.cons rfl rfl (.cons rfl rfl (.cons rfl rfl (.cons rfl rfl (.cons rfl rfl (.cons rfl rfl (.cons rfl rfl (.cons rfl rfl (.cons rfl rfl (.cons rfl rfl (.cons rfl rfl (.cons rfl rfl .nil))))))))))))))))))))))⟩)
  (case sPST=>decide)
  (case lpPS0=>k_is)
  (case tpPS0=>exact⟨rfl,_,_,rfl,.cons ⟨_,rfl⟩ .nil⟩)
  (case lpPS1=>k_is)
  (case tpPS1=>exact⟨rfl,_,_,rfl,.cons ⟨_,rfl⟩ (.cons ⟨_,rfl⟩ .nil)⟩)
  (case lpPS2=>k_is)
  (case tpPS2=>exact⟨rfl,_,_,rfl,.cons ⟨_,rfl⟩ .nil⟩)
  (case lpPS3=>k_is)
  (case tpPS3=>exact⟨rfl,_,_,rfl,.cons ⟨_,rfl⟩ .nil⟩)
  (case lpPS4=>k_is)
  (case tpPS4=>exact⟨rfl,_,_,rfl,.cons ⟨_,rfl⟩ .nil⟩)
  (case lpPS5=>k_is)
  (case tpPS5=>exact⟨rfl,_,_,rfl,.cons ⟨_,rfl⟩ (.cons ⟨_,rfl⟩ .nil)⟩)
  (case lpPS6=>k_is)
  (case tpPS6=>exact⟨rfl,_,_,rfl,.cons ⟨_,rfl⟩ .nil⟩)
  (case lpPS7=>k_is)
  (case tpPS7=>exact⟨rfl,_,_,rfl,.cons ⟨_,rfl⟩ .nil⟩)
  (case lpPS8=>k_is)
  (case tpPS8=>exact⟨rfl,_,_,rfl,.cons ⟨_,rfl⟩ (.cons ⟨_,rfl⟩ (.cons ⟨_,rfl⟩ .nil))⟩)
  (case lpPS9=>k_is)
  (case tpPS9=>exact⟨rfl,_,_,rfl,.cons ⟨_,rfl⟩ (.cons ⟨_,rfl⟩ (.cons ⟨_,rfl⟩ .nil))⟩)
  (case lpPS10=>k_is)
  (case tpPS10=>exact⟨rfl,_,_,rfl,.cons ⟨_,rfl⟩ (.cons ⟨_,rfl⟩ (.cons ⟨_,rfl⟩ .nil))⟩)
  (case lpPS11=>k_is)
  (case tpPS11=>exact⟨rfl,_,_,rfl,.cons ⟨_,rfl⟩ (.cons ⟨_,rfl⟩ (.cons ⟨_,rfl⟩ (.cons ⟨_,rfl⟩ (.cons ⟨_,rfl⟩ .nil))))⟩)
  (case lpPS12=>k_is)
  (case tpPS12=>exact⟨rfl,_,_,rfl,.cons ⟨_,rfl⟩ (.cons ⟨_,rfl⟩ .nil)⟩)
  (case lpPS13=>k_is)
  (case tpPS13=>exact⟨rfl,_,_,rfl,.cons ⟨_,rfl⟩ (.cons ⟨_,rfl⟩ .nil)⟩)
  (case lpPS14=>k_is)
  (case tpPS14=>exact⟨rfl,_,_,rfl,.cons ⟨_,rfl⟩ (.cons ⟨_,rfl⟩ .nil)⟩)
  (case lpPS15=>k_is)
  (case tpPS15=>exact⟨rfl,_,_,rfl,.cons ⟨_,rfl⟩ (.cons ⟨_,rfl⟩ .nil)⟩)
  (case lpPS16=>k_is)
  (case tpPS16=>exact⟨rfl,_,_,rfl,.cons ⟨_,rfl⟩ (.cons ⟨_,rfl⟩ .nil)⟩)
  (case lpPS17=>k_is)
  (case tpPS17=>exact⟨rfl,_,_,rfl,.cons ⟨_,rfl⟩ (.cons ⟨_,rfl⟩ .nil)⟩)
  (case lpPS18=>k_is)
  (case tpPS18=>exact⟨rfl,_,_,rfl,.cons ⟨_,rfl⟩ (.cons ⟨_,rfl⟩ .nil)⟩)
  (case lpPS19=>k_is)
  (case tpPS19=>exact⟨rfl,_,_,rfl,.cons ⟨_,rfl⟩ (.cons ⟨_,rfl⟩ .nil)⟩)
  (case lpPS20=>k_is)
  (case tpPS20=>exact⟨rfl,_,_,rfl,.cons ⟨_,rfl⟩ (.cons ⟨_,rfl⟩ .nil)⟩)
  (case lpPS21=>k_is)
  (case tpPS21=>exact⟨rfl,_,_,rfl,.cons ⟨_,rfl⟩ (.cons ⟨_,rfl⟩ .nil)⟩)
  (case lpPS22=>k_is)
  (case tpPS22=>exact⟨rfl,_,_,rfl,.cons ⟨_,rfl⟩ .nil⟩)
  (case aOT|lOT=>k_is)
  (case dOT=>exact⟨⟨rfl,rfl,rfl⟩,_,_,rfl,.cons rfl rfl (.cons rfl rfl (.cons rfl rfl (.cons rfl rfl (.cons rfl rfl (.cons rfl rfl (.cons rfl rfl (.cons rfl rfl (.cons rfl rfl (.cons rfl rfl (.cons rfl rfl (.cons rfl rfl (.cons rfl rfl (.cons rfl rfl (.cons rfl rfl (.cons rfl rfl (.cons rfl rfl (.cons rfl rfl (.cons rfl rfl (.cons rfl rfl (.cons rfl rfl (.cons rfl rfl (.cons rfl rfl (.cons rfl rfl (.cons rfl rfl (.cons rfl rfl .nil)))))))))))))))))))))))))⟩)
  (case sOT=>decide)
  (case aBRT|lBRT=>k_is)
  (case dBRT=>exact⟨⟨rfl,rfl,rfl⟩,_,_,rfl,.cons rfl rfl (.cons rfl rfl (.cons rfl rfl .nil))⟩)
  (case sBRT=>decide)
  (case aKRT|lKRT=>k_is)
  (case dKRT=>exact⟨⟨rfl,rfl,rfl⟩,_,_,rfl,.cons rfl rfl (.cons rfl rfl (.cons rfl rfl (.cons rfl rfl (.cons rfl rfl (.cons rfl rfl (.cons rfl rfl (.cons rfl rfl .nil)))))))⟩)
  (case sKRT=>decide)
  (case aFKT|lFKT=>k_is)
  (case dFKT=>exact⟨⟨rfl,rfl,rfl⟩,_,_,rfl,.cons rfl rfl (.cons rfl rfl (.cons rfl rfl (.cons rfl rfl (.cons rfl rfl (.cons rfl rfl (.cons rfl rfl (.cons rfl rfl (.cons rfl rfl (.cons rfl rfl (.cons rfl rfl (.cons rfl rfl .nil)))))))))))⟩)
  (case sFKT=>decide)
  (case lpFK0=>k_is)
  (case tpFK0=>exact⟨rfl,_,_,rfl,.cons ⟨_,rfl⟩ .nil⟩)
  (case lpFK1=>k_is)
  (case tpFK1=>exact⟨rfl,_,_,rfl,.cons ⟨_,rfl⟩ .nil⟩)
  (case lpFK2=>k_is)
  (case tpFK2=>exact⟨rfl,_,_,rfl,.cons ⟨_,rfl⟩ (.cons ⟨_,rfl⟩ (.cons ⟨_,rfl⟩ .nil))⟩)
  (case lpFK3=>k_is)
  (case tpFK3=>exact⟨rfl,_,_,rfl,.cons ⟨_,rfl⟩ (.cons ⟨_,rfl⟩ (.cons ⟨_,rfl⟩ .nil))⟩)
  (case lpFK4=>k_is)
  (case tpFK4=>exact⟨rfl,_,_,rfl,.cons ⟨_,rfl⟩ (.cons ⟨_,rfl⟩ (.cons ⟨_,rfl⟩ .nil))⟩)
  (case lpFK5=>k_is)
  (case tpFK5=>exact⟨rfl,_,_,rfl,.cons ⟨_,rfl⟩ (.cons ⟨_,rfl⟩ (.cons ⟨_,rfl⟩ .nil))⟩)
  (case lpFK6=>k_is)
  (case tpFK6=>exact⟨rfl,_,_,rfl,.cons ⟨_,rfl⟩ (.cons ⟨_,rfl⟩ (.cons ⟨_,rfl⟩ .nil))⟩)
  (case lpFK7=>k_is)
  (case tpFK7=>exact⟨rfl,_,_,rfl,.cons ⟨_,rfl⟩ (.cons ⟨_,rfl⟩ (.cons ⟨_,rfl⟩ .nil))⟩)
  (case lpFK8=>k_is)
  (case tpFK8=>exact⟨rfl,_,_,rfl,.cons ⟨_,rfl⟩ (.cons ⟨_,rfl⟩ (.cons ⟨_,rfl⟩ .nil))⟩)
  (case lpFK9=>k_is)
  (case tpFK9=>exact⟨rfl,_,_,rfl,.cons ⟨_,rfl⟩ (.cons ⟨_,rfl⟩ (.cons ⟨_,rfl⟩ .nil))⟩)
  (case lpFK10=>k_is)
  (case tpFK10=>exact⟨rfl,_,_,rfl,.cons ⟨_,rfl⟩ (.cons ⟨_,rfl⟩ (.cons ⟨_,rfl⟩ .nil))⟩)
  (case lpFK11=>k_is)
  (case tpFK11=>exact⟨rfl,_,_,rfl,.cons ⟨_,rfl⟩ (.cons ⟨_,rfl⟩ .nil)⟩)
  (case aPCT|lPCT=>k_is)
  (case dPCT=>exact⟨⟨rfl,rfl,rfl⟩,_,_,rfl,.cons rfl rfl (.cons rfl rfl (.cons rfl rfl (.cons rfl rfl (.cons rfl rfl .nil))))⟩)
  (case sPCT=>decide)
  (case aTE|lTE=>k_is)
  (case tTE=>exact⟨rfl,_,_,rfl,.cons ⟨_,rfl⟩ (.cons ⟨_,rfl⟩ (.cons ⟨_,rfl⟩ .nil))⟩)
  (case z_abs|z_zip|z_dict|z_list|z_enumerate|z_len|z_isinstance|z_tuple|z_bool|z_str|z_reversed|z_int|z_max|z_min|z_range|z_ValueError=>k_is)
