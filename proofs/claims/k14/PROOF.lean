import PyProof.Rows.All
import Wide.All
import OpenK.AllK
import Wide.FinOn
import Lean
import PyProof.EqAt
import PyProof.EqKinds
import PyProof.TupleCall
import PyProof.ExcClass2
import PyProof.StationsW
import PyProof.RulesAs
import PyProof.ExcArgs
import PyProof.InstStoreFacts
import PyProof.ExcStrCall
import PyProof.ExcBaseAll.ValueError
import PyProof.StrWalks
import PyProof.ConsumeWalk
import PyProof.StrLawsIn
import KE.KTab
import PyProof.CompFree
import PyProof.NeKinds
import PyProof.CompMap
import KE.KDictOf
import KE.KRevIter
import PyProof.WalksEnum
import PyProof.ListRange
import PyProof.ZipIter
import PyProof.Rows.Range3
import PyProof.CompUse
import PyProof.Draws
import KE.KDictList
import PyProof.DictIter
import PyProof.DictWalks
import PyProof.InstEq
import PyProof.Rows.FactsCmp_str
import KE.KLam
import PySem.Challenge.RW_plainspeak_k14_kinds_that_dont_fit
set_option hygiene false
local macro_rules| `(tactic|walk_at "s")=> `(tactic|exact⟨rfl,rfl,rfl,by decide+kernel,rfl,by decide+kernel,by decide+kernel⟩)
local macro_rules| `(tactic|walk_at "i")=> `(tactic|intro cdv A outer s H vs Q E hr h)
local macro_rules| `(tactic|walk_at "l")=> `(tactic|(intro vs H Q E h;first|(rcases h;subst_vars;rfl)|((repeat (obtain⟨_,h⟩:=h));subst_vars;rfl)))
local macro_rules| `(tactic|walk_at "d")=> `(tactic|dsimp only[xU,List.set])
local macro_rules| `(tactic|walk_at "b1")=> `(tactic|exact fun F=>F.binds fun _ _ _ _ _ _ s us _ hl=>by obtain⟨a0,rfl⟩:=us1 hl;exact .of_eq rfl)
local macro_rules| `(tactic|walk_at "b2")=> `(tactic|exact fun F=>F.binds fun _ _ _ _ _ _ s us _ hl=>by obtain⟨a0,a1,rfl⟩:=us2 hl;exact .of_eq rfl)
local macro_rules| `(tactic|walk_at "b3")=> `(tactic|exact fun F=>F.binds fun _ _ _ _ _ _ s us _ hl=>by obtain⟨a0,a1,a2,rfl⟩:=us3 hl;exact .of_eq rfl)
local macro_rules| `(tactic|walk_at "b4")=> `(tactic|exact fun F=>F.binds fun _ _ _ _ _ _ s us _ hl=>by obtain⟨a0,a1,a2,a3,rfl⟩:=us4 hl;exact .of_eq rfl)
local macro_rules| `(tactic|walk_at "b5")=> `(tactic|exact fun F=>F.binds fun _ _ _ _ _ _ s us _ hl=>by obtain⟨a0,a1,a2,a3,a4,rfl⟩:=us5 hl;exact .of_eq rfl)
set_option hygiene true
theorem zl0:0<=PySem.sizeLine:=by decide
theorem zl1:1<=PySem.sizeLine:=by decide
theorem zl2:2<=PySem.sizeLine:=by decide
theorem zl3:3<=PySem.sizeLine:=by decide
theorem zl4:4<=PySem.sizeLine:=by decide
theorem zl6:6<=PySem.sizeLine:=by decide
theorem oI{α:Sort _}{a:α}{p:Prop}:a=a\/p:=Or.inl rfl
abbrev Fg:=PySem.W.Frag
abbrev aq0:=@PySem.F.plainAttrs_list
abbrev aq7:=@Nat.le_refl
abbrev aq8:=@PySem.Heap.lt_size
abbrev aq9:=@Nat.ne_of_lt
abbrev aq10:=@List.mem_cons_of_mem
abbrev aq11:=@List.mem_append_right
abbrev aq13:=@PySem.Heap.get?_push_of_some
abbrev aq14:=@PySem.Heap.get?_push_size
abbrev aq15:=@List.getElem?_eq_getElem
abbrev aq16:=@List.length_map
abbrev aq17:=@List.length_cons
abbrev aq18:=@List.size_toArray
abbrev aq19:=@List.getElem?_map
abbrev aq20:=@List.mem_singleton
abbrev aq21:=@List.map_append
abbrev aq22:=@List.mem_cons_self
abbrev aq23:=@List.mem_of_getElem?
abbrev aq26:=@PyProof.Rows.boot_isinstance
abbrev aq27:=@PySem.boot_len
namespace PySem.W.Fast
def tw6183794732765425861:=0
def tw15459514944935734164:=0
def tw1701281532112706399:=0
def tw5592573430947998777:=0
def tw5741713914683392159:=0
def tw2651126150952866841:=0
def tw6743933520470014723:=0
def tw6298148442719170770:=0
def tw9092377151176153700:=0
def tw478253762263593343:=0
def tw215460585404303177:=0
def tw11781399172672193835:=0
def tw11025340897823364757:=0
def tw2220399373756732106:=0
def tw2703699542279681411:=0
def tw6498880598967952034:=0
def tw13662786864992951883:=0
def tw17838338790476147537:=0
def tw4785595511938981268:=0
def tw2942872942316503195:=0
def tw8220645352676024135:=0
def tw3857244826397745493:=0
def tw8212784378840807028:=0
def tw7981960912449205297:=0
def tw9732169211531261455:=0
def tw14568970226866030201:=0
def tw16718496126663941149:=0
def tw1560077920911197050:=0
def tw15117113891738037365:=0
def tw1865001089333858012:=0
def tw9756675403032434899:=0
def tw13142989925005568150:=0
def tw5208243680233400615:=0
def tw17731119176868200767:=0
def tw14662814663782098126:=0
def tw1603803605126538785:=0
def tw12228760640966291661:=0
def tw11971542988224307977:=0
def tw8529113657727138821:=0
def tw12647493284544051447:=0
def tw11296746217166651197:=0
def tw16676701661594446967:=0
def tw17171413204859538511:=0
def tw7945809640175065858:=0
def tw9352347995889029909:=0
def tw4304547125000185956:=0
def tw10774029357830749503:=0
def tw10167016376059916432:=0
def tw8896906521875167454:=0
def tw7510576635415205446:=0
def tw3817635325075049770:=0
def tw5897669216494492638:=0
def tw14357903400303365012:=0
def tw11592391611601594297:=0
def tw14003314762069514301:=0
def tw9261133560995005495:=0
def tw9347465622915351051:=0
def tw18044044177220546215:=0
def tw17920038054568560710:=0
def tw5376453935689700300:=0
def tw11457010850097348467:=0
def tw9358061739751990548:=0
def tw17806810337488439182:=0
def tw14028883979419307270:=0
def tw13481425418681898690:=0
def tw11802936727905584929:=0
def tw1151347921832348396:=0
def tw9818386681643485715:=0
def tw5804191466818871540:=0
def tw16223431794078086069:=0
def tw8995940263508917895:=0
def tw9108273462965637080:=0
def tw4724840535875217383:=0
def tw12109742059851455830:=0
def tw10358400750894348201:=0
def tw8630889553520525034:=0
def tw10533120603526544230:=0
def tw16912707137166346016:=0
def tw1120808506192025637:=0
def tw15162535683296552306:=0
def tw18138708904457375722:=0
def tw14514116013231100777:=0
def tw17643173859843217079:=0
def tw6515388656226671726:=0
def tw9754412859761916749:=0
def tw6218596839021064208:=0
def tw3586408013124619185:=0
def tw10996781759340876302:=0
def tw3912464743072900012:=0
def tw18237926380654694452:=0
def tw995820992745115027:=0
def tw13711730317601638648:=0
def tw5710978040246076490:=0
def tw98815580180578113:=0
def tw13038911940003708977:=0
def tw15654064373296947049:=0
def tw12353508615850386943:=0
def tw11324065810361318781:=0
def tw13015822603923131791:=0
def tw6416341147060636956:=0
def tw11014821995399495325:=0
def tw3069717413109916176:=0
def tw8609249509824410326:=0
def tw10447902052902057103:=0
def tw8221776234363942825:=0
def tw18198068331173440086:=0
def tw3593625401654715827:=0
def tw13031943977081286526:=0
def tw14466412593223831299:=0
def tw262147130992975985:=0
def tw1211367727103012493:=0
def tw13087628518944043096:=0
def tw13320120694484271910:=0
def tw1079143939470167816:=0
def tw13041632908948134424:=0
def tw11855918527136679668:=0
def tw10039024167762196102:=0
def tw8556663866370660887:=0
def tw8701487061577747908:=0
def tw11867332780741894744:=0
def tw18269750886502991887:=0
def tw4546567722923054633:=0
def tw5455913133355064225:=0
def tw3212284845809662601:=0
def tw9080249962916814833:=0
def tw11091550851234843364:=0
def tw16508357875518924247:=0
def tw13215937491281578057:=0
def tw6219878173715498021:=0
def tw9826135547759577800:=0
def tw8264633492626411411:=0
def tw12185133010820766261:=0
def tw16784234433324941849:=0
def tw15950254298308842660:=0
def tw15270906982945924777:=0
def tw1707451197453903906:=0
def tw17774943803452776079:=0
def tw9030746225189311482:=0
def tw2711250661710286940:=0
def tw3347112490387961249:=0
def tw17271236379951795120:=0
def tw305237888464838157:=0
def tw14520676501391718616:=0
def tw1541140588444340681:=0
def tw7313731744738793551:=0
def tw8931470700889193655:=0
def tw16361527702964104301:=0
def tw510499337702861205:=0
def tw14425608640727497665:=0
def tw12959141614947556304:=0
def tw17393118606376249129:=0
def tw13848941694608258876:=0
def tw7095549851524985378:=0
def tw1127026762992232994:=0
def tw930959797596573514:=0
def tw9400390462092795690:=0
def tw6351896480558234998:=0
def tw1851063274958694503:=0
def tw2157023916833327564:=0
def tw14851992691469558028:=0
def tw569323314029902460:=0
def tw1416692101910483969:=0
def tw13623126395711852404:=0
def tw12219187979415563178:=0
def tw4787020419163131541:=0
def tw10925850318131859243:=0
def tw3381638511279134820:=0
def tw2091697233539991488:=0
def tw12892398655575033348:=0
def tw1940550962785370195:=0
def tw4628583335032576154:=0
def tw7403407649327828084:=0
def tw7210980149625642888:=0
def tw2153377830653467433:=0
def tw5288181744700972276:=0
def tw17458740397284036431:=0
def tw11199717139840739053:=0
def tw5659982426240824836:=0
def tw3703448032016005679:=0
def tw8458569684283246857:=0
def tw5451033317973132124:=0
def tw567838963994131136:=0
def tw2703751286129320465:=0
def tw11665608757648488463:=0
def tw8301161485767432784:=0
def tw4821227887996891071:=0
def tw8030707469229931239:=0
def tw6067562619156250001:=0
def tw14491650804907542653:=0
def tw10295005405392797305:=0
def tw17255783793975039106:=0
def tw2800475599306273225:=0
def tw4801083948824349135:=0
def tw15464005439419756693:=0
def tw9004506644046665234:=0
def tw323544826259066905:=0
def tw8861087088294153426:=0
def tw8271242126244125065:=0
def tw17316506282352451161:=0
def tw8293484699041451797:=0
def tw3495735765800127135:=0
def tw8382405525516959265:=0
def tw16889342877292478884:=0
def tw17937408335299969367:=0
def tw6430476335739474815:=0
def tw13072316217470544194:=0
def tw2219672542041949265:=0
def tw10122596130733458330:=0
def tw7433413232319405569:=0
def tw17963381455872329579:=0
def tw5434223559422439068:=0
def tw17289706773697504678:=0
def tw17248308164819999415:=0
def tw6595330790297843237:=0
def tw1858260276317164108:=0
def tw1217898488608023031:=0
def tw8058632994076374568:=0
end PySem.W.Fast
set_option Elab.async false
set_option linter.all false
set_option maxRecDepth 100000
namespace L2
open PySem PySem.Spec PyProof.Rows
abbrev Key:=Sum Int Str
def uX:Key->Value->Bool
 | .inl k,v=>Value.isInt k v
 | .inr x,v=>Value.isStrOf x v
def zJ2(w:World):Key->Int
 | .inl k=>hashInt k
 | .inr x=>hashStr w x
theorem jI:∀{k:Key}{v:Value},uX k v=true->(∃i t,k=Sum.inl i/\v=Value.int i t)\/(∃x t,k=Sum.inr x/\v=Value.str x t)
 | .inl i,v,h=>by
  obtain⟨t,e⟩:=Value.isInt_shape (k:=i) (v:=v) h
  exact .inl ⟨i,t,rfl,e⟩
 | .inr x,v,h=>by
  obtain⟨t,e⟩:=Value.isStrOf_shape (x:=x) (v:=v) h
  exact .inr ⟨x,t,rfl,e⟩
theorem fF(i:Int)(t:Tok):uX (.inl i) (.int i t)=true:=by simp[uX,Value.isInt]
theorem fH(x:Str)(t:Tok):uX (.inr x) (.str x t)=true:=by simp[uX,Value.isStrOf]
theorem qG3(a b:Int):decide ((Sum.inl a:Key)=Sum.inl b)=(a==b):=by
 by_cases e:a=b
 ·subst e;simp
 ·have h:¬(Sum.inl a:Key)=Sum.inl b:=fun q=>e (Sum.inl.inj q)
  rw[decide_eq_false h]
  exact(beq_eq_false_iff_ne.mpr e).symm
theorem qG4(a b:Str):decide ((Sum.inr a:Key)=Sum.inr b)=decide (a=b):=by
 by_cases e:a=b
 ·subst e;simp
 ·have h:¬(Sum.inr a:Key)=Sum.inr b:=fun q=>e (Sum.inr.inj q)
  rw[decide_eq_false h,decide_eq_false e]
theorem qG5(a:Int)(b:Str):decide ((Sum.inl a:Key)=Sum.inr b)=false:=decide_eq_false (fun q=>nomatch q)
theorem qG6(a:Str)(b:Int):decide ((Sum.inr a:Key)=Sum.inl b)=false:=decide_eq_false (fun q=>nomatch q)
def zT(prog:Program)(w:World):PySem.KeyKind prog w Key where
 is:=uX
 hash:=zJ2 w
 inj:=fun v a b ha hb=>by
  rcases jI ha with⟨i,t,rfl,rfl⟩|⟨x,t,rfl,rfl⟩
  ·rcases jI hb with⟨j,u,rfl,e⟩|⟨y,u,rfl,e⟩
   ·injection e with e1 _;rw[e1]
   ·exact nomatch e
  ·rcases jI hb with⟨j,u,rfl,e⟩|⟨y,u,rfl,e⟩
   ·exact nomatch e
   ·injection e with e1 _;rw[e1]
 byValue:=fun k v h=>by
  rcases jI h with⟨i,t,rfl,rfl⟩|⟨x,t,rfl,rfl⟩<;>rfl
 pyHash:=fun hv h=>by
  rcases jI hv with⟨i,t,rfl,rfl⟩|⟨x,t,rfl,rfl⟩
  ·exact wpAny_pyHash_int h
  ·exact wpAny_pyHash_str h
 eqBool:=fun hu hv h=>by
  rcases jI hu with⟨i,t,rfl,rfl⟩|⟨x,t,rfl,rfl⟩
  ·rcases jI hv with⟨j,u,rfl,rfl⟩|⟨y,u,rfl,rfl⟩
   ·rw[qG3]at h;exact wpAny_eqBool_int h
   ·rw[qG5]at h;exact SeqAt.EqAt.int_str i t y u _ _ _ _ h
  ·rcases jI hv with⟨j,u,rfl,rfl⟩|⟨y,u,rfl,rfl⟩
   ·rw[qG6]at h;exact SeqAt.EqAt.str_int x t j u _ _ _ _ h
   ·rw[qG4]at h;exact wpAny_eqBool_str h
 «strs»:=fun k x t v h=>by
  rcases jI h with⟨i,u,rfl,e⟩|⟨y,u,rfl,e⟩
  ·exact nomatch e
  ·injection e with e1 _
   subst e1
   cases v<;>rfl
theorem mO(prog:Program)(w:World)(k:Key)(v:Value):(zT prog w).is k v=uX k v:=rfl
theorem cR(prog:Program)(w:World)(i:Int)(t:Tok):(zT prog w).is (.inl i) (.int i t)=true:=fF i t
theorem cS(prog:Program)(w:World)(x:Str)(t:Tok):(zT prog w).is (.inr x) (.str x t)=true:=fH x t
inductive V where
 |non|bl (b:Bool)|int (i:Int)|str (x:Str)|byt (b:Array UInt8)|flt (b:UInt64)|ref (a:Addr)|ty (n:String)
 deriving DecidableEq
def zY:V->Value->Prop
 | .non,u=>u=Value.none
 | .bl b,u=>u=Value.bool b
 | .int i,u=>∃t,u=Value.int i t
 | .str x,u=>∃t,u=Value.str x t
 | .byt b,u=>∃t,u=Value.bytes b t
 | .flt b,u=>∃t,u=Value.float b t
 | .ref a,u=>u=Value.ref a
 | .ty n,u=>u=Value.type n
abbrev Vals:List V->List Value->Prop:=Paired zY
theorem Vals.length{xs:List V}{us:List Value}(r:Vals xs us):xs.length=us.length:=Paired.length r
theorem Vals.get:∀{xs:List V}{us:List Value}{i:Nat}{x:V},Vals xs us->xs[i]? =some x->∃u,us[i]? =some u/\zY x u
 |_,_,_,_,.nil,e=>by simp at e
 |_,_,0,_,.cons r _,e=>by simp at e;subst e;exact⟨_,rfl,r⟩
 |_,_,i+1,x,.cons _ t,e=>by
  obtain⟨u,h1,h2⟩:=Vals.get (i:=i) (x:=x) t (by simpa using e)
  exact⟨u,by simpa using h1,h2⟩
theorem Vals.append:∀{xs ys:List V}{us ws:List Value},Vals xs us->Vals ys ws->Vals (xs++ys) (us++ws)
 |_,_,_,_,.nil,s=>s
 |_,_,_,_,.cons r t,s=>.cons r (Vals.append t s)
theorem Vals.take:∀{xs:List V}{us:List Value}(n:Nat),Vals xs us->Vals (xs.take n) (us.take n)
 |_,_,0,_=>.nil
 |_,_,_+1,.nil=>.nil
 |_,_,n+1,.cons r t=>.cons r (Vals.take n t)
theorem Vals.drop:∀{xs:List V}{us:List Value}(n:Nat),Vals xs us->Vals (xs.drop n) (us.drop n)
 |_,_,0,r=>r
 |_,_,_+1,.nil=>.nil
 |_,_,n+1,.cons _ t=>Vals.drop n t
def vS:Option V->Option Value->Prop
 |some v,some u=>zY v u
 |none,none=>True
 |_,_=>False
def KV{κ:Type}:List (κ×V)->List (κ×Value)->Prop:=Paired fun(p:κ×V)(q:κ×Value)=>p.1=q.1/\zY p.2 q.2
def kV:Key->V
 | .inl i=>.int i
 | .inr x=>.str x
inductive HO where
 |lst (xs:List V)
 |tup (xs:List V)
 |dK (kvs:List (Key×V))|dT (kvs:List (List Key×V))
 |set (S:Int->Bool) (n:Nat)
 |ins (C dx:Addr) (fs:List (Str×V))
 |own (x:Addr)
 |xd (fs:List (Str×V))
 |met (f x:Addr)
 |rng (lo hi:Int)
 |frz (o:Obj) (u:HO)
 |tbl (ps:Array Value)
 |ext (φ:Heap->Prop)
abbrev Hp:=Addr->Option HO
def upd(H:Hp)(a:Addr)(o:HO):Hp:=fun b=>if b=a then some o else H b
theorem qZ{H:Hp}{a:Addr}{o:HO}:upd H a o a=some o:=by unfold upd;rw[if_pos rfl]
theorem qC{H:Hp}{a b:Addr}{o:HO}(h:b≠a):upd H a o b=H b:=by unfold upd;rw[if_neg h]
theorem iF{H:Hp}{a:Addr}{o u:HO}:upd (upd H a o) a u=upd H a u:=by
 funext b;unfold upd;split<;>rfl
theorem vP{H:Hp}{a b:Addr}{o u:HO}(h:H a=some o)(h':H b=some u)(d:o≠u):a≠b:=by
 intro e;subst e;rw[h]at h';exact d (Option.some.inj h')
theorem zZ{H:Hp}{a b:Addr}{o:HO}(h:H a=some o)(h':H b=none):a≠b:=by
 intro e;subst e;rw[h]at h';cases h'
section
variable (P:Program) (w:World)
def jV(H:Hp)(h:Heap)(a:Addr):HO->Prop
 | .lst xs=>xs.length<=sizeLine/\∃(its:List Value)(n:Nat),Vals xs its/\h.get? a=some {cls:=.type "list",data:=.seq its.toArray n}
 | .tup xs=>xs.length<=sizeLine/\∃its:List Value,Vals xs its/\IsTup h a its.toArray
 | .dK kvs=>kvs.length<=sizeLine/\(a==sysModules)=false/\∃vs,KV kvs vs/\h.DictOf (zT P w) a vs
 | .dT kvs=>kvs.length<=sizeLine/\(a==sysModules)=false/\∃xs:List (List Key×Addr×Value),
   Paired (fun(p:List Key×V)(q:List Key×Addr×Value)=>p.1=q.1/\H q.2.1=some (.tup (p.1.map kV))/\zY p.2 q.2.2) kvs xs/\
   ∃o es ep,h.get? a=some o/\o.ExactDict/\o.data= .dict es ep/\es.toList=xs.map (entryOfKey (tupleKind (zT P w)))/\(xs.map (·.1)).Nodup
 | .set S n=>h.SetOf (intKind P w) a S n
 | .ins C dx fs=>H dx=some (.own a)/\fs.length<=1000/\dx≠a/\h.get? a=some (PySem.W.instObj C dx)/\
   ∃mA,h.Ns1 dx mA/\(∀f,vS (fs.lookup f) (mA f))/\PySem.Within mA (fs.map (·.1))
 | .own _=>∃o,h.get? a=some o
 | .xd fs=>∃mA,h.Ns1 a mA/\∀f,vS (fs.lookup f) (mA f)
 | .rng lo hi=>∃t u v,h.get? a=some {cls:=.type "range",data:=.fields #[.int lo t,.int hi u,.int 1 v]}
 | .frz o u=>h.get? a=some o/\jV H h a u
 | .tbl ps=>h.get? a=some {cls:=.none,data:=.fields ps}
 | .met f x=>h.get? a=some (PySem.W.methodObj (.ref f) (.ref x))
 | .ext φ=>φ h/\(∃o,h.get? a=some o)/\∀h1 h2:Heap,φ h1->(∀o,h1.get? a=some o->h2.get? a=some o)->φ h2
def HOk(H:Hp)(h:Heap):Prop:=∀a o,H a=some o->jV P w H h a o
end
section
variable {P:Program} {w:World} {H H':Hp} {h h':Heap} {a:Addr} {o:HO}
theorem jV.lt(x:jV P w H h a o):a<h.objs.size:=by
 cases o with
 |lst xs=>obtain⟨_,_,_,_,e⟩:=x;exact aq8 e
 |tup xs=>obtain⟨_,_,_,p⟩:=x;exact p.lt
 |dK kvs=>obtain⟨_,_,_,_,o,_,_,e,_⟩:=x;exact aq8 e
 |dT kvs=>obtain⟨_,_,_,_,o,_,_,e,_⟩:=x;exact aq8 e
 |set S n=>obtain⟨o,_,_,_,e,_⟩:=x;exact aq8 e
 |ins C dx fs=>obtain⟨_,_,_,e,_⟩:=x;exact aq8 e
 |own y=>obtain⟨_,e⟩:=x;exact aq8 e
 |xd fs=>obtain⟨_,⟨_,_,_,e,_⟩,_⟩:=x;exact aq8 e
 |rng lo hi=>obtain⟨_,_,_,e⟩:=x;exact aq8 e
 |frz ob u=>obtain⟨e,_⟩:=x;exact aq8 e
 |tbl ps=>exact aq8 (show h.get? a=some _ from x)
 |met f y=>exact aq8 (show h.get? a=some _ from x)
 |ext φ=>obtain⟨_,⟨_,e⟩,_⟩:=x;exact aq8 e
theorem Paired.mapP{α β:Type}{F G:α->β->Prop}:∀{l₁:List α}{l₂:List β},Paired F l₁ l₂->(∀a b,F a b->G a b)->Paired G l₁ l₂
 |_,_,.nil,_=>.nil
 |_,_,.cons r t,f=>.cons (f _ _ r) (Paired.mapP t f)
theorem jV.stay(x:jV P w H h a o)(k:∀b u,(b=a\/H b=some (.own a))->h.get? b=some u->h'.get? b=some u)
  (ho:∀b,H b=some (.own a)->H' b=some (.own a))(ht:∀b xs,H b=some (.tup xs)->H' b=some (.tup xs)):jV P w H' h' a o:=by
 induction o with
 |lst xs=>obtain⟨z,its,n,r,e⟩:=x;exact⟨z,its,n,r,k _ _ (.inl rfl) e⟩
 |tup xs=>obtain⟨z,its,r,ob,e,c⟩:=x;exact⟨z,its,r,ob,k _ _ (.inl rfl) e,c⟩
 |dK kvs=>obtain⟨z,y,vs,r,ob,es,ep,e,c⟩:=x;exact⟨z,y,vs,r,ob,es,ep,k _ _ (.inl rfl) e,c⟩
 |dT kvs=>
  obtain⟨z,y,xs,r,ob,es,ep,e,c⟩:=x
  exact⟨z,y,xs,Paired.mapP r fun p q z=>⟨z.1,ht _ _ z.2.1,z.2.2⟩,ob,es,ep,k _ _ (.inl rfl) e,c⟩
 |set S n=>obtain⟨ob,es,ep,t,e,c⟩:=x;exact⟨ob,es,ep,t,k _ _ (.inl rfl) e,c⟩
 |ins C dx fs=>
  obtain⟨d,z,ne,e,mA,⟨od,es,ep,e2,c⟩,r⟩:=x
  exact⟨ho _ d,z,ne,k _ _ (.inl rfl) e,mA,⟨od,es,ep,k _ _ (.inr d) e2,c⟩,r⟩
 |own y=>obtain⟨ob,e⟩:=x;exact⟨ob,k _ _ (.inl rfl) e⟩
 |xd fs=>obtain⟨mA,⟨od,es,ep,e,c⟩,r⟩:=x;exact⟨mA,⟨od,es,ep,k _ _ (.inl rfl) e,c⟩,r⟩
 |rng lo hi=>obtain⟨t,u,v,e⟩:=x;exact⟨t,u,v,k _ _ (.inl rfl) e⟩
 |frz ob u ih=>obtain⟨e,q⟩:=x;exact⟨k _ _ (.inl rfl) e,ih q⟩
 |tbl ps=>
  have e:h.get? a=some {cls:=.none,data:=.fields ps}:=x
  show h'.get? a=some {cls:=.none,data:=.fields ps}
  exact k a _ (.inl rfl) e
 |met f y=>
  have e:h.get? a=some (PySem.W.methodObj (.ref f) (.ref y)):=x
  show h'.get? a=some (PySem.W.methodObj (.ref f) (.ref y))
  exact k a _ (.inl rfl) e
 |ext φ=>obtain⟨p,⟨o,e⟩,st⟩:=x;exact⟨st _ _ p fun o q=>k _ _ (.inl rfl) q,⟨o,k _ _ (.inl rfl) e⟩,st⟩
theorem HOk.lt(x:HOk P w H h)(e:H a=some o):a<h.objs.size:=(x a o e).lt
theorem HOk.fresh(x:HOk P w H h)(e:h.objs.size<=a):H a=none:=by
 cases q:H a with
 |none=>rfl
 |some u=>exact absurd (Nat.lt_of_lt_of_le (x.lt q) e) (Nat.lt_irrefl _)
theorem HOk.kept(x:HOk P w H h)(k:∀b u,h.get? b=some u->h'.get? b=some u):HOk P w H h':=fun a o e=>
 (x a o e).stay (fun b u _ q=>k b u q) (fun _ q=>q) fun _ _ q=>q
theorem HOk.laid(x:HOk P w H h)(k:∀b u,h.get? b=some u->h'.get? b=some u)(hp:h.objs.size<=a)(new:jV P w (upd H a o) h' a o):HOk P w (upd H a o) h':=fun b u e=>by
 have hn:=x.fresh hp
 by_cases hb:b=a
 ·subst hb;rw[qZ]at e;cases e;exact new
 ·rw[qC hb]at e
  exact(x b u e).stay (fun c v _ q=>k c v q) (fun c q=>by rw[qC (zZ q hn)];exact q) fun c xs q=>by rw[qC (zZ q hn)];exact q
end
def Rd(H:Hp)(a:Addr)(u:HO):Prop:=H a=some u\/∃o,H a=some (.frz o u)
theorem Rd.ok{P:Program}{w:World}{H:Hp}{h:Heap}{a:Addr}{u:HO}(r:Rd H a u)(x:HOk P w H h):jV P w H h a u:=by
 rcases r with r|⟨o,r⟩
 ·exact x a u r
 ·obtain⟨_,q⟩:=x a _ r
  exact q
def Mut:Option HO->Prop
 |some (.lst _)=>True
 |some (.dK _)=>True
 |some (.dT _)=>True
 |some (.set _ _)=>True
 |some (.ins _ _ _)=>True
 |some (.ext _)=>True
 |_=>False
section
variable {P:Program} {w:World} {H:Hp} {h h':Heap} {x e:Addr} {o':HO}
theorem HOk.write(ok:HOk P w H h)(mu:Mut (H x))(he:e=x\/H e=some (.own x))(k:∀b u,b≠e->h.get? b=some u->h'.get? b=some u)(heo:∃u,h'.get? e=some u)
  (new:jV P w (upd H x o') h' x o'):HOk P w (upd H x o') h':=fun b u q=>by
 have nown:∀c y,H c=some (.own y)->c≠x:=fun c y r z=>by subst z;rw[r]at mu;exact mu
 have ntup:∀c xs,H c=some (.tup xs)->c≠x:=fun c xs r z=>by subst z;rw[r]at mu;exact mu
 by_cases hb:b=x
 ·subst hb;rw[qZ]at q;cases q;exact new
 ·rw[qC hb]at q
  by_cases hbe:b=e
  ·have q':H b=some (.own x):=by
    rcases he with z|z
    ·exact absurd (hbe.trans z) hb
    ·rw[hbe];exact z
   rw[q]at q';cases q'
   obtain⟨v,hv⟩:=heo
   exact⟨v,by rw[hbe];exact hv⟩
  ·refine(ok b u q).stay (fun c v hc r=>k c v ?_ r) (fun c r=>by rw[qC (nown c b r)];exact r) fun c xs r=>by rw[qC (ntup c xs r)];exact r
   rcases hc with rfl|hc
   ·exact hbe
   ·rintro rfl
    rcases he with z|z
    ·exact nown c b hc z
    ·rw[hc]at z;cases z;exact hb rfl
end
structure Un(fs ex:List Addr)(H H':Hp)(h h':Heap):Prop where
 keep:∀b o,h.get? b=some o->H b=none->b∉fs->b∉ex->h'.get? b=some o
 slot:∀b o,h.get? b=some o->H b=none->b∈fs->b∉ex->∃sl,h'.get? b=some {o with slots:=sl}
 free:∀b o,h.get? b=some o->H b=none->b∉ex->H' b=none
 there:∀b o,h.get? b=some o->b∉ex->∃o',h'.get? b=some o'
 tups:∀b xs,H b=some (.tup xs)->H' b=some (.tup xs)
 frzs:∀b o u,H b=some (.frz o u)->H' b=some (.frz o u)
 tbls:∀b ps,H b=some (.tbl ps)->∃more,H' b=some (.tbl (ps++more))
section
variable {fs fs' ex ex':List Addr} {H H1 H2:Hp} {h h1 h2 h':Heap} {a x e:Addr} {o:HO}
theorem Un.any(u:Un fs ex H H1 h h1){b:Addr}{ob:Obj}(q:h.get? b=some ob)(n:H b=none)(hx:b∉ex):∃sl,h1.get? b=some {ob with slots:=sl}:=by
 by_cases hb:b∈fs
 ·exact u.slot b ob q n hb hx
 ·exact⟨ob.slots,u.keep b ob q n hb hx⟩
theorem Un.kept(k:∀b u,h.get? b=some u->h'.get? b=some u):Un fs ex H H h h':=
 ⟨fun b ob q _ _ _=>k b ob q,fun b ob q _ _ _=>⟨ob.slots,k b ob q⟩,fun _ _ _ n _=>n,fun b ob q _=>⟨ob,k b ob q⟩,fun _ _ q=>q,fun _ _ _ q=>q,fun _ ps q=>⟨#[],by rw[q];simp⟩⟩
theorem Un.refl:Un fs ex H H h h:=Un.kept fun _ _ q=>q
theorem Un.laid(k:∀b u,h.get? b=some u->h'.get? b=some u)(hp:h.objs.size<=a)(hn:H a=none):Un fs ex H (upd H a o) h h' where
 keep:=fun b u q _ _ _=>k b u q
 slot:=fun b u q _ _ _=>⟨u.slots,k b u q⟩
 free:=fun b u q n _=>by rw[qC (aq9 (Nat.lt_of_lt_of_le (aq8 q) hp))];exact n
 there:=fun b u q _=>⟨u,k b u q⟩
 tups:=fun b xs q=>by rw[qC (zZ q hn)];exact q
 frzs:=fun b u xs q=>by rw[qC (zZ q hn)];exact q
 tbls:=fun b ps q=>⟨#[],by rw[qC (zZ q hn),q];simp⟩
theorem Un.write(mu:Mut (H x))(he:e=x\/H e=some (.own x))(k:∀b u,b≠e->h.get? b=some u->h'.get? b=some u)(heo:∃u,h'.get? e=some u):Un fs ex H (upd H x o) h h':=by
 have hx:∀b,H b=none->b≠x:=fun b n z=>by subst z;rw[n]at mu;exact mu
 have hb:∀b,H b=none->b≠e:=fun b n z=>by
  subst z
  rcases he with r|r
  ·exact hx b n r
  ·rw[n]at r;cases r
 have hm:∀b u,H b=some u->¬Mut (some u)->b≠x:=fun b u q nm z=>by subst z;rw[q]at mu;exact nm mu
 refine⟨fun b u q n _ _=>k b u (hb b n) q,fun b u q n _ _=>⟨u.slots,k b u (hb b n) q⟩,fun b u q n _=>by rw[qC (hx b n)];exact n,fun b u q _=>?_,
  fun b xs q=>by rw[qC (hm b _ q fun z=>z)];exact q,fun b u xs q=>by rw[qC (hm b _ q fun z=>z)];exact q,fun b ps q=>⟨#[],by rw[qC (hm b _ q fun z=>z),q];simp⟩⟩
 by_cases hbe:b=e
 ·subst hbe;exact heo
 ·exact⟨u,k b u hbe q⟩
end
def trk(h:Heap)(H:Hp):List Addr:=(List.range h.objs.size).filter fun a=>(H a).isSome
def oO(h:Heap)(H:Hp):Heap:=PySem.W.hideAll h (trk h H)
theorem fS(h:Heap)(H:Hp):(oO h H).objs.size=h.objs.size:=PySem.W.hideAll_size _ _
theorem wY{h:Heap}{H:Hp}{b:Addr}{o:Obj}(e:h.get? b=some o)(n:H b=none):(oO h H).get? b=some o:=
 PySem.W.hideAll_get _ e fun hm=>by
  have q:(H b).isSome=true:=(List.mem_filter.mp hm).2
  rw[n]at q;simp at q
theorem qJ2{h:Heap}{H:Hp}{b:Addr}{o:Obj}(e:(oO h H).get? b=some o):h.get? b=some o/\H b=none:=by
 have e':h.get? b=some o:=PySem.W.of_hideAll (trk h H) e
 refine⟨e',?_⟩
 cases q:H b with
 |none=>rfl
 |some x=>
  have hm:b∈trk h H:=List.mem_filter.mpr ⟨List.mem_range.mpr (aq8 e'),by simp[q]⟩
  have z:(oO h H).get? b=none:=PySem.W.hideAll_none (trk h H) hm
  rw[z]at e;cases e
def allNews(g h:Heap)(L:Addr):List (Addr×Obj):=(List.range h.objs.size).filterMap fun a=>if a=L\/(g.get? a).isSome=true then none else(h.get? a).map fun o=>(a,o)
def rest(g h:Heap)(L d:Addr):List (Addr×Obj):=(allNews g h L).filter fun p=>decide (p.1≠d)
structure Mod(K:Fg)(mg:Str->Option Value)(base:Heap):Prop where
 kin:K.In base
 glob:base.Ns mainGlobals mg
 blt:∃mb,base.Ns builtinsNs mb/\∀x:Str,x≠"__name__"->mb x=bootBuiltins x
 nolimit:base.NoLimit
structure Cx where
 prog:Program
 w:World
 K:Fg
 mg:Str->Option Value
 base:Heap
 A:Around
 N:List Str
 s₀:Shared
 H₀:Hp
 env:Env
 outer:List Env
 stack:List Env
 ex:List Addr
 fn:Str->Bool
 calm:Bool
 pn:List (Addr×Obj)
 xe:Value->Shared->Prop
def frs(l:List Env):List Addr:=l.filterMap (·.frame)
abbrev Cx.fs(X:Cx):List Addr:=frs X.outer
def Vis(sc:Scope)(x:Str):Prop:=sc.names.lookup x=some .local\/sc.names.lookup x=some .cell\/sc.names.lookup x=some .free
def Loc(sc:Scope)(x:Str):Prop:=sc.names.lookup x=some .local\/sc.names.lookup x=some .cell
def Look(env:Env)(h:Heap)(m:Str->Option Value)(x:Str)(u:Value):Prop:=
 (env.kindOf x=some .local/\m x=some u)\/((env.kindOf x=some .cell\/env.kindOf x=some .free)/\∃c,env.cells.lookup x=some c/\h.IsCell c (some u))
structure Cx.Ok(X:Cx):Prop where
 mod:Mod X.K X.mg X.base
 kind:X.env.scope.kind= .function
 glob:X.env.globals=mainGlobals
 blt:X.env.builtins=builtinsNs
 above:X.s₀.heap.objs.size<=X.env.locals
 inj:∀x y c,X.env.cells.lookup x=some c->X.env.cells.lookup y=some c->x=y
 has:∀x,(X.env.kindOf x=some .cell\/X.env.kindOf x=some .free)->∃c,X.env.cells.lookup x=some c
 cab:∀x c,X.fn x=true->X.env.cells.lookup x=some c->X.s₀.heap.objs.size<=c
 hd:X.calm=true->X.A.handled=none
 frames:X.A.frames=some X.stack
 stk:X.stack=X.outer\/(X.stack=X.env::X.outer/\X.env.frame=some X.env.locals)
 exf:∀b∈X.ex,b≠X.env.locals/\∀x c,X.env.cells.lookup x=some c->c≠b
 bs:∀b o,X.base.get? b=some o->X.s₀.heap.get? b=some o/\X.H₀ b=none
 bsz:X.base.objs.size<=X.s₀.heap.objs.size
 noex:∀b o,X.base.get? b=some o->b∉X.ex
 exfs:∀b∈X.ex,b∉X.fs
 funs:X.s₀.heap.FunFrames X.base X.outer
 frf:∀b∈X.fs,X.H₀ b=none
structure Inv(X:Cx)(pins:List (Addr×Obj))(σ:List (Option V))(H:Hp)(s:Shared):Prop where
 ok:X.Ok
 os:s.os=X.s₀.os
 bare:AllBare s.gens
 base:Un X.fs X.ex X.H₀ H X.s₀.heap s.heap
 loc:∃m,s.heap.Ns X.env.locals m/\∀(i:Nat)(x:Str)(v:V),X.N[i]? =some x->σ[i]? =some (some v)->Vis X.env.scope x->∃u,zY v u/\Look X.env s.heap m x u
 cell:∀x c,X.env.cells.lookup x=some c->∃v,s.heap.IsCell c v
 free:H X.env.locals=none
 freeC:∀x c,X.env.cells.lookup x=some c->H c=none
 pin:∀p∈X.pn++pins,s.heap.get? p.1=some p.2/\H p.1=none/\p.1≠X.env.locals/\p.1∉X.fs/\∀v,p.2.data≠ .cell v
 hok:HOk X.prog X.w H s.heap
 len:σ.length=X.N.length
section
variable {X:Cx} {pins:List (Addr×Obj)} {σ:List (Option V)} {H H':Hp} {s:Shared} {h':Heap}
theorem Cx.Ok.nofr(ok:X.Ok){b:Addr}{o:Obj}(e:X.base.get? b=some o):b∉X.fs:=fun hb=>by
 have :=(ok.funs.mem hb).1
 rw[e]at this;cases this
theorem Inv.bs(I:Inv X pins σ H s):∀b o,X.base.get? b=some o->s.heap.get? b=some o/\H b=none:=fun b o e=>
 ⟨I.base.keep b o (I.ok.bs b o e).1 (I.ok.bs b o e).2 (I.ok.nofr e) (I.ok.noex b o e),I.base.free b o (I.ok.bs b o e).1 (I.ok.bs b o e).2 (I.ok.noex b o e)⟩
theorem Inv.bk(I:Inv X pins σ H s):∀b o,X.base.get? b=some o->s.heap.get? b=some o:=fun b o e=>(I.bs b o e).1
theorem Inv.mod(I:Inv X pins σ H s):Mod X.K X.mg X.base:=I.ok.mod
theorem Inv.kIn(I:Inv X pins σ H s):X.K.In s.heap:=I.ok.mod.kin.keeps I.bk
theorem Inv.lt(I:Inv X pins σ H s):X.env.locals<s.heap.objs.size:=let⟨_,hn,_⟩:=I.loc;hn.lt
theorem Inv.sz(I:Inv X pins σ H s):X.s₀.heap.objs.size<=s.heap.objs.size:=Nat.le_trans I.ok.above (Nat.le_of_lt I.lt)
theorem Inv.nofs(I:Inv X pins σ H s){a:Addr}(h:s.heap.objs.size<=a):a∉X.fs:=fun hb=>by
 obtain⟨_,o,ho,_⟩:=I.ok.funs.mem hb
 exact absurd (Nat.lt_of_lt_of_le (aq8 ho) (Nat.le_trans I.sz h)) (Nat.lt_irrefl _)
theorem Inv.cne(I:Inv X pins σ H s):∀x c,X.env.cells.lookup x=some c->c≠X.env.locals:=fun x c e z=>by
 obtain⟨v,o,ho,hd⟩:=I.cell x c e
 obtain⟨m,⟨o',es,ep,ho',hd',_⟩,_⟩:=I.loc
 rw[z,ho']at ho;cases ho;rw[hd']at hd;cases hd
theorem Inv.funs(I:Inv X pins σ H s):s.heap.FunFrames X.base X.outer:=by
 have all:∀(l:List Env),(∀b∈frs l,b∈X.fs)->X.s₀.heap.FunFrames X.base l->s.heap.FunFrames X.base l:=by
  intro l
  induction l with
  |nil=>intro _ _;trivial
  |cons env r ih=>
   intro hs hl
   obtain⟨hk,⟨L,o,hf,hn,ho,hd⟩,hr⟩:=hl
   have hL:L∈X.fs:=hs L (by unfold frs;rw[List.filterMap_cons,hf];exact aq22)
   obtain⟨sl,e⟩:=I.base.slot L o ho (I.ok.frf L hL) hL fun z=>I.ok.exfs L z hL
   exact⟨hk,⟨L,_,hf,hn,e,hd⟩,ih (fun b hb=>hs b (by unfold frs;rw[List.filterMap_cons,hf];exact aq10 _ hb)) hr⟩
 exact all X.outer (fun _ hb=>hb) I.ok.funs
theorem Inv.stack(I:Inv X pins σ H s):s.heap.FunFrames X.base X.stack:=by
 rcases I.ok.stk with e|⟨e,hf⟩
 ·rw[e];exact I.funs
 ·rw[e]
  obtain⟨m,hn,_⟩:=I.loc
  refine .cons (by rw[I.ok.kind];decide) hf hn ?_ I.funs
  exact Heap.get?_none_of_le (Nat.le_trans I.ok.bsz I.ok.above)
theorem Inv.stkSub(I:Inv X pins σ H s):∀b∈frs X.stack,b∈X.env.locals::X.fs:=fun b hb=>by
 rcases I.ok.stk with e|⟨e,hf⟩
 ·rw[e]at hb;exact aq10 _ hb
 ·rw[e]at hb
  unfold frs at hb
  rw[List.filterMap_cons,hf]at hb
  exact hb
theorem Inv.stkFree(I:Inv X pins σ H s):∀b∈frs X.stack,H b=none:=fun b hb=>by
 rcases List.mem_cons.mp (I.stkSub b hb)with e|hb
 ·rw[e];exact I.free
 ·obtain⟨_,o,ho,_⟩:=I.ok.funs.mem hb
  exact I.base.free b o ho (I.ok.frf b hb) fun z=>I.ok.exfs b z hb
theorem Inv.step{g':Array GenState}{t':Nat}{d':Drawn}{ch:List Addr}(I:Inv X pins σ H s)
  (hch:∀b∈ch,(b∈X.ex\/X.s₀.heap.objs.size<=b)/\b≠X.env.locals/\(∀x c,X.env.cells.lookup x=some c->c≠b)/\∀p∈X.pn++pins,p.1≠b)
  (keep:∀b o,b≠X.env.locals->b∉X.fs->b∉ch->s.heap.get? b=some o->H b=none->h'.get? b=some o)
  (slot:∀b o,b≠X.env.locals->b∈X.fs->b∉ch->s.heap.get? b=some o->H b=none->∃sl,h'.get? b=some {o with slots:=sl})(free:∀b o,b∉ch->s.heap.get? b=some o->H b=none->H' b=none)
  (there:∀b o,b∉ch->s.heap.get? b=some o->∃o',h'.get? b=some o')
  (tups:∀b xs,H b=some (.tup xs)->H' b=some (.tup xs))(frzs:∀b o u,H b=some (.frz o u)->H' b=some (.frz o u))(tbls:∀b ps,H b=some (.tbl ps)->∃more,H' b=some (.tbl (ps++more)))
  (ns:∀m,s.heap.Ns X.env.locals m->h'.Ns X.env.locals m)(hok:HOk X.prog X.w H' h')(hg:AllBare g'):
  Inv X pins σ H' {s with heap:=h',gens:=g',drawn:=d',toks:=t'}:=by
 have neL:∀b o,X.s₀.heap.get? b=some o->b≠X.env.locals:=fun b o e=>aq9 (Nat.lt_of_lt_of_le (aq8 e) I.ok.above)
 have neC:∀b o,X.s₀.heap.get? b=some o->b∉X.ex->b∉ch:=fun b o e hx hb=>by
  rcases(hch b hb).1 with z|z
  ·exact hx z
  ·exact absurd (Nat.lt_of_lt_of_le (aq8 e) z) (Nat.lt_irrefl _)
 have cellK:∀x c,X.env.cells.lookup x=some c->∀v,s.heap.IsCell c v->h'.IsCell c v:=fun x c e v⟨o,ho,hd⟩=>by
  have nch:c∉ch:=fun z=>(hch c z).2.2.1 x c e rfl
  by_cases hc:c∈X.fs
  ·obtain⟨sl,q⟩:=slot c o (I.cne x c e) hc nch ho (I.freeC x c e)
   exact⟨_,q,hd⟩
  ·exact⟨o,keep c o (I.cne x c e) hc nch ho (I.freeC x c e),hd⟩
 refine⟨I.ok,I.os,hg,⟨fun b o e n hb hx=>?_,fun b o e n hb hx=>?_,fun b o e n hx=>?_,fun b o e hx=>?_,fun b xs e=>tups b xs (I.base.tups b xs e),fun b o xs e=>frzs b o xs (I.base.frzs b o xs e),fun b ps e=>?_⟩,?_,fun x c e=>?_,?_,fun x c e=>?_,fun p hp=>?_,hok,I.len⟩
 ·exact keep b o (neL b o e) hb (neC b o e hx) (I.base.keep b o e n hb hx) (I.base.free b o e n hx)
 ·obtain⟨sl,e1⟩:=I.base.slot b o e n hb hx
  obtain⟨sl',e2⟩:=slot b _ (neL b o e) hb (neC b o e hx) e1 (I.base.free b o e n hx)
  exact⟨sl',e2⟩
 ·obtain⟨o',e1⟩:=I.base.there b o e hx
  exact free b o' (neC b o e hx) e1 (I.base.free b o e n hx)
 ·obtain⟨o',e1⟩:=I.base.there b o e hx
  exact there b o' (neC b o e hx) e1
 ·obtain⟨m1,e1⟩:=I.base.tbls b ps e
  obtain⟨m2,e2⟩:=tbls b _ e1
  exact⟨m1++m2,by rw[e2,Array.append_assoc]⟩
 ·obtain⟨m,hn,hl⟩:=I.loc
  refine⟨m,ns m hn,fun i x v e1 e2 e3=>?_⟩
  obtain⟨u,r,l⟩:=hl i x v e1 e2 e3
  refine⟨u,r,?_⟩
  rcases l with l|⟨k,c,e,z⟩
  ·exact .inl l
  ·exact .inr ⟨k,c,e,cellK x c e _ z⟩
 ·obtain⟨v,z⟩:=I.cell x c e
  exact⟨v,cellK x c e v z⟩
 ·obtain⟨m,⟨o,_,_,ho,_⟩,_⟩:=I.loc
  exact free _ o (fun z=>(hch _ z).2.1 rfl) ho I.free
 ·obtain⟨v,o,ho,hd⟩:=I.cell x c e
  exact free c o (fun z=>(hch c z).2.2.1 x c e rfl) ho (I.freeC x c e)
 ·obtain⟨e,n,ne,nf,d⟩:=I.pin p hp
  have nch:p.1∉ch:=fun z=>(hch p.1 z).2.2.2 p hp rfl
  exact⟨keep p.1 p.2 ne nf nch e n,free p.1 p.2 nch e n,ne,nf,d⟩
theorem Inv.un{t':Nat}(I:Inv X pins σ H s)(u:Un X.fs [] H H' s.heap h')(hok:HOk X.prog X.w H' h'):Inv X pins σ H' {s with heap:=h',toks:=t'}:=by
 obtain⟨m,⟨o,es,ep,ho,r⟩,_⟩:=id I.loc
 obtain⟨sl,hL⟩:=u.any ho I.free (by simp)
 exact I.step (g':=s.gens) (d':=s.drawn) (ch:=[]) (fun _ z=>nomatch z) (fun b o _ hb _ e n=>u.keep b o e n hb (by simp)) (fun b o _ hb _ e n=>u.slot b o e n hb (by simp)) (fun b o _ e n=>u.free b o e n (by simp)) (fun b o _ e=>u.there b o e (by simp)) u.tups u.frzs u.tbls (fun m' hm=>by
  obtain⟨o',es',ep',ho',r'⟩:=hm
  rw[ho]at ho';cases ho'
  exact⟨_,es',ep',hL,r'⟩) hok I.bare
theorem Inv.call{g':Array GenState}{t':Nat}{d':Drawn}{ch:List Addr}(I:Inv X pins σ H s)(u:Un (frs X.stack) ch H H' s.heap h')(hok:HOk X.prog X.w H' h')(hg:AllBare g')
  (hch:∀b∈ch,(b∈X.ex\/X.s₀.heap.objs.size<=b)/\b≠X.env.locals/\(∀x c,X.env.cells.lookup x=some c->c≠b)/\∀p∈X.pn++pins,p.1≠b):
  Inv X pins σ H' {s with heap:=h',gens:=g',drawn:=d',toks:=t'}:=by
 obtain⟨m,⟨o,es,ep,ho,r⟩,_⟩:=id I.loc
 obtain⟨sl,hL⟩:=u.any ho I.free fun z=>(hch _ z).2.1 rfl
 exact I.step (ch:=ch) hch (fun b o hL hb hc e n=>u.keep b o e n (fun z=>(List.mem_cons.mp (I.stkSub b z)).elim hL hb) hc) (fun b o _ _ hc e n=>u.any e n hc) (fun b o hc e n=>u.free b o e n hc) (fun b o hc e=>u.there b o e hc) u.tups u.frzs u.tbls (fun m' hm=>by
  obtain⟨o',es',ep',ho',r'⟩:=hm
  rw[ho]at ho';cases ho'
  exact⟨_,es',ep',hL,r'⟩) hok hg
theorem Inv.turned{t':Nat}{it:Addr}(I:Inv X pins σ H s)(k:∀b o,b≠it->s.heap.get? b=some o->h'.get? b=some o)(hn:H it=none)(hL:it≠X.env.locals)
  (h1:it∈X.ex\/X.s₀.heap.objs.size<=it)(h2:∀x c,X.env.cells.lookup x=some c->c≠it)(h3:∀p∈X.pn++pins,p.1≠it):Inv X pins σ H {s with heap:=h',toks:=t'}:=by
 have nit:∀b u,H b=some u->b≠it:=fun b u e z=>by rw[z,hn]at e;cases e
 refine I.step (g':=s.gens) (d':=s.drawn) (ch:=[it]) (fun b hb=>?_) (fun b o _ _ hc e _=>k b o (fun z=>hc (by simp[z])) e) (fun b o _ _ hc e _=>⟨o.slots,k b o (fun z=>hc (by simp[z])) e⟩) (fun _ _ _ _ n=>n)
  (fun b o hc e=>⟨o,k b o (fun z=>hc (by simp[z])) e⟩) (fun _ _ e=>e) (fun _ _ _ e=>e) (fun b ps e=>⟨#[],by rw[e];simp⟩) (fun m hm=>?_) (fun b u e=>?_) I.bare
 ·have e:b=it:=by simpa using hb
  subst e
  exact⟨h1,hL,h2,h3⟩
 ·obtain⟨o,es,ep,ho,r⟩:=hm
  exact⟨o,es,ep,k _ o (Ne.symm hL) ho,r⟩
 ·refine(I.hok b u e).stay (fun c v hc q=>k c v ?_ q) (fun _ q=>q) fun _ _ q=>q
  rcases hc with z|z
  ·rw[z];exact nit b u e
  ·exact nit c _ z
theorem Inv.tok(I:Inv X pins σ H s)(t:Nat):Inv X pins σ H {s with toks:=t}:=I.un (h':=s.heap) (t':=t) Un.refl I.hok
theorem Inv.kept{t':Nat}(I:Inv X pins σ H s)(k:∀b u,s.heap.get? b=some u->h'.get? b=some u):Inv X pins σ H {s with heap:=h',toks:=t'}:=I.un (Un.kept k) (I.hok.kept k)
theorem Inv.laid{a:Addr}{o:HO}{t':Nat}(I:Inv X pins σ H s)(k:∀b u,s.heap.get? b=some u->h'.get? b=some u)(hp:s.heap.objs.size<=a)(new:jV X.prog X.w (upd H a o) h' a o):
  Inv X pins σ (upd H a o) {s with heap:=h',toks:=t'}:=I.un (Un.laid k hp (I.hok.fresh hp)) (I.hok.laid k hp new)
theorem Inv.write{x e:Addr}{o:HO}{t':Nat}(I:Inv X pins σ H s)(mu:Mut (H x))(he:e=x\/H e=some (.own x))(k:∀b u,b≠e->s.heap.get? b=some u->h'.get? b=some u)(heo:∃u,h'.get? e=some u)
  (new:jV X.prog X.w (upd H x o) h' x o):Inv X pins σ (upd H x o) {s with heap:=h',toks:=t'}:=I.un (Un.write mu he k heo) (I.hok.write mu he k heo new)
theorem Inv.pins_of{pins':List (Addr×Obj)}(I:Inv X pins σ H s)(h:∀p∈pins',s.heap.get? p.1=some p.2/\H p.1=none/\p.1≠X.env.locals/\p.1∉X.fs/\∀v,p.2.data≠ .cell v):Inv X pins' σ H s:=
 ⟨I.ok,I.os,I.bare,I.base,I.loc,I.cell,I.free,I.freeC,fun p hp=>(List.mem_append.mp hp).elim (fun z=>I.pin p (List.mem_append_left _ z)) (h p),I.hok,I.len⟩
theorem cT{N:List Str}(hN:N.Nodup){i j:Nat}{x:Str}(a:N[i]? =some x)(b:N[j]? =some x):i=j:=by
 obtain⟨h1,e1⟩:=List.getElem?_eq_some_iff.mp a
 obtain⟨h2,e2⟩:=List.getElem?_eq_some_iff.mp b
 exact(List.getElem_inj hN).mp (e1.trans e2.symm)
theorem fE{M:Model}{A:Around}{E:Value->Shared->Prop}{i:Nat}{x:Str}{v:V}{u:Value}{Q:Unit->Shared->Prop}(I:Inv X pins σ H s)(hN:X.N.Nodup)(hi:X.N[i]? =some x)(hx:Loc X.env.scope x)(r:zY v u)
  (h:∀s',Inv X pins (σ.set i (some v)) H s'->(∃a,Heap.SameBut a s.heap s'.heap/\(a=X.env.locals\/X.env.cells.lookup x=some a))->Q () s')(hf:X.fn x=true\/X.env.scope.names.lookup x=some .local:=by first|exact .inl rfl|exact .inr rfl|assumption):wpAny M A (storeName X.env x u) Q E s:=by
 obtain⟨m,hn,hl⟩:=id I.loc
 have hcls:(X.env.scope.kind== .class||(X.env.scope.kind== .module&&X.env.locals !=X.env.globals))=false:=by rw[I.ok.kind];rfl
 have hiσ:i<σ.length:=by rw[I.len];exact(List.getElem?_eq_some_iff.mp hi).1
 have cne:=I.cne
 have tracked:∀{a:Addr}{h':Heap},(∃o,s.heap.get? a=some o/\H a=none)->Heap.SameBut a s.heap h'->HOk X.prog X.w H h':=fun {a h'}ha hs b ob e=>by
  obtain⟨_,_,hfree⟩:=ha
  refine(I.hok b ob e).stay (fun c w' hc q=>(hs.2 c ?_).trans q) (fun _ q=>q) fun _ _ q=>q
  rintro rfl
  rcases hc with rfl|hc
  ·rw[hfree]at e;cases e
  ·rw[hfree]at hc;cases hc
 rcases hx with hk|hk
 ·refine wpAny_storeName_local hk hn (fun h' hn' hs=>?_) hcls
  obtain⟨oL,_,_,hoL,_⟩:=id hn
  refine h _ ⟨I.ok,I.os,I.bare,⟨fun b o e n hb hx=>?_,fun b o e n hb hx=>?_,I.base.free,fun b o e hx=>?_,I.base.tups,I.base.frzs,I.base.tbls⟩,⟨_,hn',fun j y v' e1 e2 e3=>?_⟩,fun y c e=>?_,I.free,I.freeC,fun p hp=>?_,tracked ⟨oL,hoL,I.free⟩ hs,by simpa using I.len⟩ ⟨_,hs,.inl rfl⟩
  ·exact(hs.2 b (aq9 (Nat.lt_of_lt_of_le (aq8 e) I.ok.above))).trans (I.base.keep b o e n hb hx)
  ·obtain⟨sl,e1⟩:=I.base.slot b o e n hb hx
   exact⟨sl,(hs.2 b (aq9 (Nat.lt_of_lt_of_le (aq8 e) I.ok.above))).trans e1⟩
  ·obtain⟨o',e1⟩:=I.base.there b o e hx
   exact⟨o',(hs.2 b (aq9 (Nat.lt_of_lt_of_le (aq8 e) I.ok.above))).trans e1⟩
  ·by_cases hj:j=i
   ·subst hj
    rw[hi]at e1;cases e1
    rw[List.getElem?_set_self hiσ]at e2
    cases e2
    exact⟨u,r,.inl ⟨hk,by simp⟩⟩
   ·rw[List.getElem?_set_ne (Ne.symm hj)]at e2
    obtain⟨u',r',q⟩:=hl j y v' e1 e2 e3
    refine⟨u',r',?_⟩
    rcases q with⟨k,e⟩|⟨k,c,e,z⟩
    ·refine .inl ⟨k,?_⟩
     have :y≠x:=fun e=>hj (cT hN e1 (e▸hi))
     simp[this,e]
    ·exact .inr ⟨k,c,e,z.sameBut hs (cne y c e)⟩
  ·obtain⟨w',z⟩:=I.cell y c e
   exact⟨w',z.sameBut hs (cne y c e)⟩
  ·obtain⟨e,n,ne,nf,d⟩:=I.pin p hp
   exact⟨(hs.2 p.1 ne).trans e,n,ne,nf,d⟩
 ·have hfn:X.fn x=true:=by
   rcases hf with z|z
   ·exact z
   ·rw[z]at hk;cases hk
  obtain⟨c,hc⟩:=I.ok.has x (.inl hk)
  obtain⟨w',z⟩:=I.cell x c hc
  refine wpAny_storeName_cell I.ok.kind hk hc z (fun h' hc' hs=>?_)
  obtain⟨oc,hoc,hocd⟩:=id z
  refine h {s with heap:=h'} ⟨I.ok,I.os,I.bare,⟨fun b o e n hb hx=>?_,fun b o e n hb hx=>?_,I.base.free,fun b o e hx=>?_,I.base.tups,I.base.frzs,I.base.tbls⟩,⟨m,hn.sameBut hs (Ne.symm (cne x c hc)),fun j y v' e1 e2 e3=>?_⟩,fun y c' e=>?_,I.free,I.freeC,fun p hp=>?_,tracked ⟨oc,hoc,I.freeC x c hc⟩ hs,by simpa using I.len⟩ ⟨c,hs,.inr hc⟩
  ·exact(hs.2 b (aq9 (Nat.lt_of_lt_of_le (aq8 e) (I.ok.cab x c hfn hc)))).trans (I.base.keep b o e n hb hx)
  ·obtain⟨sl,e1⟩:=I.base.slot b o e n hb hx
   exact⟨sl,(hs.2 b (aq9 (Nat.lt_of_lt_of_le (aq8 e) (I.ok.cab x c hfn hc)))).trans e1⟩
  ·obtain⟨o',e1⟩:=I.base.there b o e hx
   exact⟨o',(hs.2 b (aq9 (Nat.lt_of_lt_of_le (aq8 e) (I.ok.cab x c hfn hc)))).trans e1⟩
  ·by_cases hj:j=i
   ·subst hj
    rw[hi]at e1;cases e1
    rw[List.getElem?_set_self hiσ]at e2
    cases e2
    exact⟨u,r,.inr ⟨.inl hk,c,hc,hc'⟩⟩
   ·rw[List.getElem?_set_ne (Ne.symm hj)]at e2
    obtain⟨u',r',q⟩:=hl j y v' e1 e2 e3
    refine⟨u',r',?_⟩
    rcases q with q|⟨k,c',e,z'⟩
    ·exact .inl q
    ·refine .inr ⟨k,c',e,z'.sameBut hs ?_⟩
     rintro rfl
     exact hj (cT hN e1 (I.ok.inj _ _ _ e hc▸hi))
  ·by_cases hcc:c'=c
   ·subst hcc;exact⟨_,hc'⟩
   ·obtain⟨w2,z2⟩:=I.cell y c' e
    exact⟨w2,z2.sameBut hs hcc⟩
  ·obtain⟨e,n,ne,nf,d⟩:=I.pin p hp
   refine⟨(hs.2 p.1 ?_).trans e,n,ne,nf,d⟩
   intro q
   rw[q,hoc]at e
   have q':oc=p.2:=Option.some.inj e
   exact d w' (by rw[<-q'];exact hocd)
theorem uK{M:Model}{A:Around}{E:Value->Shared->Prop}{i:Nat}{x:Str}{v:V}{u:Value}{Q:Unit->Shared->Prop}(I:Inv X pins σ H s)(hN:X.N.Nodup)(hi:X.N[i]? =some x)(hx:Loc X.env.scope x)(r:zY v u)
  (h:∀s',Inv X pins (σ.set i (some v)) H s'->Q () s')(hf:X.fn x=true\/X.env.scope.names.lookup x=some .local:=by first|exact .inl rfl|exact .inr rfl|assumption):wpAny M A (storeName X.env x u) Q E s:=
 fE I hN hi hx r (fun s' I' _=>h s' I') hf
theorem Inv.call'{s':Shared}{ch:List Addr}(I:Inv X pins σ H s)(ho:s'.os=s.os)(u:Un (frs X.stack) ch H H' s.heap s'.heap)(hok:HOk X.prog X.w H' s'.heap)(hg:AllBare s'.gens)
  (hch:∀b∈ch,(b∈X.ex\/X.s₀.heap.objs.size<=b)/\b≠X.env.locals/\(∀x c,X.env.cells.lookup x=some c->c≠b)/\∀p∈X.pn++pins,p.1≠b):Inv X pins σ H' s':=by
 obtain⟨h',g',d',t',o'⟩:=s'
 have e:o'=s.os:=ho
 subst e
 exact I.call (g':=g') (t':=t') (d':=d') u hok hg hch
end
abbrev XK:=Value->Option Addr->Hp->Prop
abbrev St:=List (Option V)
abbrev VK:=V->Hp->Prop
abbrev TE:=St->Hp->VK->Prop
abbrev TT:=St->Hp->(Bool->Hp->Prop)->Prop
abbrev TA:=St->Hp->(List V->Hp->Prop)->Prop
structure Ends where
 nx:St->Hp->Prop
 rt:VK
 bk:St->Hp->Prop:=fun _ _=>False
 ct:St->Hp->Prop:=fun _ _=>False
abbrev TS:=Ends->St->Hp->Prop
def EP(X:Cx)(pins:List (Addr×Obj))(σ:St)(Q:VK)(u:Value)(s':Shared):Prop:=∃v H',Inv X pins σ H' s'/\zY v u/\Q v H'
def TP(X:Cx)(pins:List (Addr×Obj))(σ:St)(Q:Bool->Hp->Prop)(b:Bool)(s':Shared):Prop:=∃H',Inv X pins σ H' s'/\Q b H'
def AP(X:Cx)(pins:List (Addr×Obj))(σ:St)(Q:List V->Hp->Prop)(us:List Value)(s':Shared):Prop:=∃vs H',Inv X pins σ H' s'/\Vals vs us/\Q vs H'
def SP(X:Cx)(pins:List (Addr×Obj))(D:Ends)(f:Flow)(s':Shared):Prop:=
 match f with
 | .next=>∃σ' H',Inv X pins σ' H' s'/\D.nx σ' H'
 | .brk=>∃σ' H',Inv X pins σ' H' s'/\D.bk σ' H'
 | .cont=>∃σ' H',Inv X pins σ' H' s'/\D.ct σ' H'
 | .ret u=>∃v σ' H',Inv X pins σ' H' s'/\zY v u/\D.rt v H'
def PE(X:Cx)(e:Expr)(t:TE):Prop:=
 ∀(pins:List (Addr×Obj))(s:Shared)(σ:St)(H:Hp)(Q:VK),Inv X pins σ H s->t σ H Q->wpAny (model X.prog X.w) X.A (eval e X.env) (EP X pins σ Q) X.xe s
def PT(X:Cx)(e:Expr)(t:TT):Prop:=
 ∀(pins:List (Addr×Obj))(s:Shared)(σ:St)(H:Hp)(Q:Bool->Hp->Prop),Inv X pins σ H s->t σ H Q->wpAny (model X.prog X.w) X.A (isTrue e X.env (eval e X.env)) (TP X pins σ Q) X.xe s
def PW(X:Cx)(e:Expr)(t:TT):Prop:=
 ∀(whole:Sem Value)(pins:List (Addr×Obj))(s:Shared)(σ:St)(H:Hp)(Q:Bool->Hp->Prop),Inv X pins σ H s->t σ H Q->wpAny (model X.prog X.w) X.A (isTrue e X.env whole) (TP X pins σ Q) X.xe s
theorem PW.pt{X:Cx}{e:Expr}{t:TT}(h:PW X e t):PT X e t:=h _
def PA(X:Cx)(es:List Expr)(t:TA):Prop:=
 ∀(pos:Pos)(pins:List (Addr×Obj))(s:Shared)(σ:St)(H:Hp)(Q:List V->Hp->Prop),Inv X pins σ H s->t σ H Q->wpAny (model X.prog X.w) X.A (spliced (backTo pos (starEach es X.env))) (AP X pins σ Q) X.xe s
def PS(X:Cx)(st:Stmt)(t:TS):Prop:=
 ∀(pins:List (Addr×Obj))(s:Shared)(σ:St)(H:Hp)(D:Ends),Inv X pins σ H s->t D σ H->wpAny (model X.prog X.w) X.A (exec st X.env) (SP X pins D) X.xe s
def PSs(X:Cx)(st:List Stmt)(t:TS):Prop:=
 ∀(pins:List (Addr×Obj))(s:Shared)(σ:St)(H:Hp)(D:Ends),Inv X pins σ H s->t D σ H->wpAny (model X.prog X.w) X.A (execs st X.env) (SP X pins D) X.xe s
theorem thn{α:Type}{t:Sem α}{Q Q':α->Shared->Prop}{M:Model}{A:Around}{E:Value->Shared->Prop}{s:Shared}(h:wpAny M A t Q E s)(hQ:∀a s,Q a s->Q' a s):wpAny M A t Q' E s:=wpAny_mono h hQ fun _ _ x=>x
section
variable {X:Cx}
theorem bin{a b:Expr}{ta tb:TE}(ha:PE X a ta)(hb:PE X b tb){pins:List (Addr×Obj)}{s:Shared}{σ:St}{H:Hp}{R:V->V->Hp->Prop}(I:Inv X pins σ H s)(h:ta σ H fun x H1=>tb σ H1 fun y H2=>R x y H2)
  {α:Type}{Q:α->Shared->Prop}{f:Value->Value->Sem α}
  (hf:∀v u s2 x y H2,Inv X pins σ H2 s2->zY x v->zY y u->R x y H2->wpAny (model X.prog X.w) X.A (f v u) Q X.xe s2):
  wpAny (model X.prog X.w) X.A (eval a X.env) (fun v s₁=>wpAny (model X.prog X.w) X.A (eval b X.env) (fun u s₂=>wpAny (model X.prog X.w) X.A (f v u) Q X.xe s₂) X.xe s₁) X.xe s:=by
 refine thn (ha pins s σ H _ I h) fun v s1⟨x,H1,I1,r1,q1⟩=>?_
 refine thn (hb pins s1 σ H1 _ I1 q1) fun u s2⟨y,H2,I2,r2,q2⟩=>?_
 exact hf v u s2 x y H2 I2 r1 r2 q2
inductive qO1(i:Nat)(σ:St)(H:Hp)(Q:VK):Prop
 |mk (v:_) (a_0:σ[i]? =some (some v)) (a_1:Q v H):qO1 i σ H Q
def xG(i:Nat):TE:=fun σ H Q=>qO1 i σ H Q
def tC(v:V):TE:=fun _ H Q=>Q v H
theorem mI{i:Nat}{x:Str}{pos:Pos}(hN:X.N[i]? =some x)(hv:Vis X.env.scope x)(hd:(x==("__debug__":Str))=false:=by decide)(hcd:(x==("__classdict__":Str))=false:=by decide):PE X (.Name x pos) (xG i):=by
 intro pins s σ H Q I h
 obtain⟨v,e,h⟩:=h
 obtain⟨m,hn,hl⟩:=I.loc
 obtain⟨u,r,l⟩:=hl i x v hN e hv
 have fin:EP X pins σ Q u s:=⟨v,H,I,r,h⟩
 rcases l with⟨hk,hm⟩|⟨hk,c,hc,hcell⟩
 ·exact wpAny_Name (wpAny_loadName_local I.ok.kind hk hn hm fin) hd
 ·rcases hk with hk|hk
  ·exact wpAny_Name (wpAny_loadName_cell I.ok.kind hk hc hcell fin) hd
  ·exact wpAny_Name (wpAny_loadName_free I.ok.kind hk hc hcell fin hcd) hd
theorem qX{i j pos}:PE X (.Constant (.int i) j pos) (tC (.int i)):=fun _ _ _ H _ I h=>wpAny_Constant_int ⟨.int i,H,I.tok _,⟨_,rfl⟩,h⟩
theorem kC{b j pos}:PE X (.Constant (.bool b) j pos) (tC (.bl b)):=fun _ _ _ H _ I h=>Constant_bool ⟨.bl b,H,I,rfl,h⟩
theorem qG7{j pos}:PE X (.Constant .none j pos) (tC .non):=fun _ _ _ H _ I h=>Constant_none ⟨.non,H,I,rfl,h⟩
theorem qV{x j pos}:PE X (.Constant (.str x) j pos) (tC (.str x)):=fun _ _ _ H _ I h=>Calls.Constant_str ⟨.str x,H,I.tok _,⟨_,rfl⟩,h⟩
def Gl(X:Cx)(x:Str):Prop:=X.env.kindOf x=some .globalImplicit
theorem xF{E:Value->Shared->Prop}{pins:List (Addr×Obj)}{s:Shared}{σ:St}{H:Hp}{x:Str}{u:Value}{pos:Pos}{Q:Value->Shared->Prop}(I:Inv X pins σ H s)(hg:Gl X x)(hm:X.mg x=some u)(h:Q u s)
  (hd:(x==("__debug__":Str))=false:=by decide):wpAny (model X.prog X.w) X.A (eval (.Name x pos) X.env) Q E s:=
 Calls.Name_function_global I.ok.kind hg (Calls.loadGlobal_global (by rw[I.ok.glob];exact I.mod.glob.keeps I.bk) hm h) hd
theorem kE{E:Value->Shared->Prop}{pins:List (Addr×Obj)}{s:Shared}{σ:St}{H:Hp}{x:Str}{u:Value}{pos:Pos}{Q:Value->Shared->Prop}(I:Inv X pins σ H s)(hg:Gl X x)(hm:X.mg x=none)(hv:bootBuiltins x=some u)(h:Q u s)
  (hn:x≠"__name__":=by decide)(hd:(x==("__debug__":Str))=false:=by decide):wpAny (model X.prog X.w) X.A (eval (.Name x pos) X.env) Q E s:=by
 obtain⟨mb,h1,h2⟩:=I.mod.blt
 exact Calls.Name_function_global I.ok.kind hg (Calls.loadGlobal_builtin (by rw[I.ok.glob];exact I.mod.glob.keeps I.bk) hm (by rw[I.ok.blt];exact h1.keeps I.bk) ((h2 x hn).trans hv) h) hd
theorem jC{x:Str}{v:V}{u:Value}{pos:Pos}(hg:Gl X x)(hm:X.mg x=some u)(r:zY v u)(hd:(x==("__debug__":Str))=false:=by decide):PE X (.Name x pos) (tC v):=
 fun _ _ _ H _ I h=>xF I hg hm ⟨v,H,I,r,h⟩ hd
theorem kH{x:Str}{v:V}{u:Value}{pos:Pos}(hg:Gl X x)(hm:X.mg x=none)(hv:bootBuiltins x=some u)(r:zY v u)(hn:x≠"__name__":=by decide)(hd:(x==("__debug__":Str))=false:=by decide):PE X (.Name x pos) (tC v):=
 fun _ _ _ H _ I h=>kE I hg hm hv ⟨v,H,I,r,h⟩ hn hd
variable {a b:Expr} {ta tb:TE} {pos:Pos}
def PC(X:Cx)(op:CmpOp)(a b:Expr)(t:TE):Prop:=
 ∀(pins:List (Addr×Obj))(s:Shared)(σ:St)(H:Hp)(Q:VK),Inv X pins σ H s->t σ H Q->
  wpAny (model X.prog X.w) X.A (eval a X.env) (fun v s₁=>wpAny (model X.prog X.w) X.A (eval b X.env) (fun u s₂=>wpAny (model X.prog X.w) X.A (compareOp op v u) (EP X pins σ Q) X.xe s₂) X.xe s₁) X.xe s
theorem nobehind(b:Expr){op:CmpOp}(h:op≠ .In)(h2:op≠ .NotIn):behindInMarks op b=false:=by
 have e1:(op==CmpOp.In)=false:=by cases op<;>first|rfl|exact absurd rfl h
 have e2:(op==CmpOp.NotIn)=false:=by cases op<;>first|rfl|exact absurd rfl h2
 cases b<;>simp[behindInMarks,e1,e2]
def zJ3(ta:TE):TE:=fun σ H Q=>ta σ H fun x H1=>Q (.bl (decide (x= .non))) H1
theorem zY.none_iff{x:V}{v:Value}(r:zY x v):(v==Value.none)=decide (x= .non):=by
 cases x with
 |non=>cases r;rfl
 |bl _=>cases r;rfl
 |int _=>obtain⟨t,rfl⟩:=r;rfl
 |str _=>obtain⟨t,rfl⟩:=r;rfl
 |byt _=>obtain⟨t,rfl⟩:=r;rfl
 |flt _=>obtain⟨t,rfl⟩:=r;rfl
 |ref _=>cases r;rfl
 |ty _=>cases r;rfl
theorem qG8{j pos'}(ha:PE X a ta):PC X .Is a (.Constant .none j pos') (zJ3 ta):=by
 intro pins s σ H Q I h
 refine thn (ha pins s σ H _ I h) fun v s1⟨x,H1,I1,r1,q1⟩=>?_
 exact Constant_none (is_none_gen ⟨.bl _,H1,I1,by rw[r1.none_iff];rfl,q1⟩)
inductive tB_(Q:Bool->Hp->Prop)(x:V)(H1:Hp):Prop
 |mk (c:_) (a_0:x= .bl c) (a_1:Q c H1):tB_ Q x H1
def tB(t:TE):TT:=fun σ H Q=>t σ H fun x H1=>tB_ Q x H1
theorem qG9{op:CmpOp}{t:TE}(h:PC X op a b t)(h1:behindInMarks op b=false:=by first|exact nobehind _ (by decide) (by decide)|rfl):PE X (.Compare a [op] [b] pos) t:=fun pins s σ H Q I hw=>wpAny_Compare1 (h pins s σ H Q I hw) h1
theorem qGq{op:CmpOp}{t:TE}(h:PC X op a b t)(h1:behindInMarks op b=false:=by first|exact nobehind _ (by decide) (by decide)|rfl):PT X (.Compare a [op] [b] pos) (tB t):=by
 intro pins s σ H Q I hw
 refine wpAny_isTrue_Compare1 (thn (h pins s σ H _ I hw) fun v s1 h1=>thn h1 fun u s2 h2=>thn h2 fun c s3⟨x,H1,I1,r1,q1⟩=>?_) h1
 obtain⟨d,rfl,q⟩:=q1
 cases r1
 exact wpAny_truthy_bool ⟨H1,I1,q⟩
theorem xW{e:Expr}{t:TE}(h:PE X e t)(he:∀whole,isTrue e X.env whole=(do let v<-whole;standAt e.pos;holding [v] (truthy v)):=by intro _;rfl):PT X e (tB t):=by
 intro pins s σ H Q I hw
 refine isTrue_plain (thn (h pins s σ H _ I hw) fun v s1⟨x,H1,I1,r1,q1⟩=>?_) (he _)
 obtain⟨d,rfl,q⟩:=q1
 cases r1
 exact wpAny_truthy_bool ⟨H1,I1,q⟩
variable {tA tB':TT} {rest:List Expr}
def zJ4(t u:TT):TT:=fun σ H Q=>t σ H fun c H1=>if c=true then u σ H1 Q else Q false H1
def tOr(t u:TT):TT:=fun σ H Q=>t σ H fun c H1=>if c=true then Q true H1 else u σ H1 Q
def zJ5(t:TT):TT:=fun σ H Q=>t σ H fun c H1=>Q (!c) H1
theorem xY(ha:PT X a tA):PW X (.BoolOp .And [a] pos) tA:=by
 intro wh pins s σ H Q I h
 refine isTrue_and (thn (ha pins s σ H Q I h) fun c s1 e=>?_)
 cases c with
 |true=>exact isTrue_and_nil e
 |false=>exact e
theorem uV(ha:PT X a tA):PW X (.BoolOp .Or [a] pos) tA:=by
 intro wh pins s σ H Q I h
 refine isTrue_or (thn (ha pins s σ H Q I h) fun c s1 e=>?_)
 cases c with
 |false=>exact isTrue_or_nil e
 |true=>exact e
theorem xR(ha:PT X a tA)(hb:PW X (.BoolOp .And (b::rest) pos) tB'):PW X (.BoolOp .And (a::b::rest) pos) (zJ4 tA tB'):=by
 intro wh pins s σ H Q I h
 refine isTrue_and (thn (ha pins s σ H _ I h) fun c s1⟨H1,I1,q1⟩=>?_)
 cases c with
 |true=>exact hb wh pins s1 σ H1 Q I1 q1
 |false=>exact⟨H1,I1,q1⟩
theorem cA(ha:PT X a tA)(hb:PW X (.BoolOp .Or (b::rest) pos) tB'):PW X (.BoolOp .Or (a::b::rest) pos) (tOr tA tB'):=by
 intro wh pins s σ H Q I h
 refine isTrue_or (thn (ha pins s σ H _ I h) fun c s1⟨H1,I1,q1⟩=>?_)
 cases c with
 |true=>exact⟨H1,I1,q1⟩
 |false=>exact hb wh pins s1 σ H1 Q I1 q1
theorem vT(ha:PT X a tA):PT X (.UnaryOp .Not a pos) (zJ5 tA):=by
 intro pins s σ H Q I h
 exact isTrue_not (ha pins s σ H (fun c H1=>Q (!c) H1) I h)
inductive rO(tb:TE)(σ:St)(Q:VK)(x:V)(H1:Hp):Prop
 |mk (c:_) (a_0:x= .bl c) (a_1:if c=true then tb σ H1 Q else Q (.bl false) H1):rO tb σ Q x H1
def qR9(ta tb:TE):TE:=fun σ H Q=>ta σ H fun x H1=>rO tb σ Q x H1
inductive rL(Q:VK)(x:V)(H1:Hp):Prop
 |mk (c:_) (a_0:x= .bl c) (a_1:Q (.bl (!c)) H1):rL Q x H1
def qRq(ta:TE):TE:=fun σ H Q=>ta σ H fun x H1=>rL Q x H1
theorem vA{op}{t:TE}(h:PE X a t):PE X (.BoolOp op [a] pos) t:=fun pins s σ H Q I hw=>BoolOp_one (h pins s σ H Q I hw)
theorem vQ(ha:PE X a ta)(hb:PE X (.BoolOp .And (b::rest) pos) tb):PE X (.BoolOp .And (a::b::rest) pos) (qR9 ta tb):=by
 intro pins s σ H Q I h
 refine BoolOp_and (thn (ha pins s σ H _ I h) fun v s1⟨x,H1,I1,r1,q1⟩=>?_)
 obtain⟨c,rfl,q1⟩:=q1
 cases r1
 refine wpAny_truthy_bool ?_
 cases c with
 |true=>exact hb pins s1 σ H1 Q I1 q1
 |false=>exact⟨.bl false,H1,I1,rfl,q1⟩
theorem rG(ha:PE X a ta):PE X (.UnaryOp .Not a pos) (qRq ta):=by
 intro pins s σ H Q I h
 refine UnaryOp_ (thn (ha pins s σ H _ I h) fun v s1⟨x,H1,I1,r1,q1⟩=>?_)
 obtain⟨c,rfl,q1⟩:=q1
 cases r1
 exact not_of (wpAny_truthy_bool ⟨.bl (!c),H1,I1,rfl,q1⟩)
def tIf(t:TT)(ta tb:TE):TE:=fun σ H Q=>t σ H fun c H1=>if c=true then ta σ H1 Q else tb σ H1 Q
theorem wU{c:Expr}(hc:PT X c tA)(ha:PE X a ta)(hb:PE X b tb):PE X (.IfExp c a b pos) (tIf tA ta tb):=by
 intro pins s σ H Q I h
 refine wpAny_IfExp (thn (hc pins s σ H _ I h) fun d s1⟨H1,I1,q1⟩=>?_)
 cases d with
 |true=>exact ha pins s1 σ H1 Q I1 q1
 |false=>exact hb pins s1 σ H1 Q I1 q1
end
def zV(K:Fg)(H:Hp)(a:Addr)(xs:List V):Prop:=
 Rd H a (.lst xs)\/
  ∃(o:Obj)(its:Array Value)(n:Nat),K.lookup a=some o/\o.cls= .type "list"/\o.dict=none/\o.data= .seq its n/\its.size<=sizeLine/\Vals xs its.toList
def qA(K:Fg)(H:Hp)(a:Addr)(xs:List V):Prop:=
 Rd H a (.tup xs)\/
  ∃(o:Obj)(its:Array Value)(n:Nat),K.lookup a=some o/\o.cls= .type "tuple"/\o.data= .seq its n/\its.size<=sizeLine/\Vals xs its.toList
def zJ6:Value->Option V
 | .none=>some .non
 | .bool b=>some (.bl b)
 | .int i _=>some (.int i)
 | .str x _=>some (.str x)
 | .bytes b _=>some (.byt b)
 | .float b _=>some (.flt b)
 | .ref a=>some (.ref a)
 | .type n=>some (.ty n)
 |_=>none
theorem zY.abs{x:V}{u:Value}(r:zY x u):zJ6 u=some x:=by
 cases x with
 |non=>cases r;rfl
 |bl _=>cases r;rfl
 |int _=>obtain⟨t,rfl⟩:=r;rfl
 |str _=>obtain⟨t,rfl⟩:=r;rfl
 |byt _=>obtain⟨t,rfl⟩:=r;rfl
 |flt _=>obtain⟨t,rfl⟩:=r;rfl
 |ref _=>cases r;rfl
 |ty _=>cases r;rfl
theorem zY.inj{x y:V}{u:Value}(r:zY x u)(q:zY y u):x=y:=Option.some.inj (r.abs.symm.trans q.abs)
theorem Vals.inj:∀{xs ys:List V}{us:List Value},Vals xs us->Vals ys us->xs=ys
 |_,_,_,.nil,.nil=>rfl
 |_,_,_,.cons r t,.cons r' t'=>by rw[r.inj r',Vals.inj t t']
section
variable {X:Cx} {pins:List (Addr×Obj)} {σ:St} {H:Hp} {s:Shared} {a:Addr} {xs ys:List V}
theorem zV.of{K:Fg}(h:H a=some (.lst xs)):zV K H a xs:=.inl (.inl h)
theorem qA.of{K:Fg}(h:H a=some (.tup xs)):qA K H a xs:=.inl (.inl h)
theorem Inv.list(I:Inv X pins σ H s)(h:zV X.K H a xs):∃its:List Value,Vals xs its/\PlainL s.heap a its.toArray/\xs.length<=sizeLine:=by
 rcases h with h|⟨o,its,n,hk,hc,hd,hs,hz,r⟩
 ·obtain⟨z,its,n,r,e⟩:=h.ok I.hok
  exact⟨its,r,⟨_,n,e,rfl,rfl,rfl⟩,z⟩
 ·refine⟨its.toList,r,⟨o,n,I.kIn a o hk,hc,hd,by simpa using hs⟩,?_⟩
  have e:=r.length
  simp only[Array.length_toList]at e
  omega
theorem Inv.tuple(I:Inv X pins σ H s)(h:qA X.K H a xs):∃its:List Value,Vals xs its/\IsTup s.heap a its.toArray/\xs.length<=sizeLine:=by
 rcases h with h|⟨o,its,n,hk,hc,hs,hz,r⟩
 ·obtain⟨z,its,r,p⟩:=h.ok I.hok
  exact⟨its,r,p,z⟩
 ·refine⟨its.toList,r,⟨o,I.kIn a o hk,hc,n,by simpa using hs⟩,?_⟩
  have e:=r.length
  simp only[Array.length_toList]at e
  omega
theorem Inv.list_inj(I:Inv X pins σ H s)(h:zV X.K H a xs)(h':zV X.K H a ys):xs=ys:=by
 obtain⟨its,r,⟨o,n,e,_,_,d⟩,_⟩:=I.list h
 obtain⟨its',r',⟨o',n',e',_,_,d'⟩,_⟩:=I.list h'
 rw[e]at e';cases e'
 rw[d]at d'
 injection d' with d1 _
 have :its=its':=by simpa using congrArg Array.toList d1
 subst this
 exact r.inj r'
theorem Inv.tuple_inj(I:Inv X pins σ H s)(h:qA X.K H a xs)(h':qA X.K H a ys):xs=ys:=by
 obtain⟨its,r,⟨o,e,_,n,d⟩,_⟩:=I.tuple h
 obtain⟨its',r',⟨o',e',_,n',d'⟩,_⟩:=I.tuple h'
 rw[e]at e';cases e'
 rw[d]at d'
 injection d' with d1 _
 have :its=its':=by simpa using congrArg Array.toList d1
 subst this
 exact r.inj r'
end
abbrev Cx.wish(X:Cx)(E:Value->Shared->Prop):Cx:={X with xe:=E}
abbrev Cx.nox(X:Cx):Cx:=X.wish fun _ _=>False
theorem Cx.Ok.wish{X:Cx}(ok:X.Ok)(E:Value->Shared->Prop):(X.wish E).Ok:=
 ⟨ok.mod,ok.kind,ok.glob,ok.blt,ok.above,ok.inj,ok.has,ok.cab,ok.hd,ok.frames,ok.stk,ok.exf,ok.bs,ok.bsz,ok.noex,ok.exfs,ok.funs,ok.frf⟩
theorem Cx.Ok.unwish{X:Cx}{E:Value->Shared->Prop}(ok:(X.wish E).Ok):X.Ok:=
 ⟨ok.mod,ok.kind,ok.glob,ok.blt,ok.above,ok.inj,ok.has,ok.cab,ok.hd,ok.frames,ok.stk,ok.exf,ok.bs,ok.bsz,ok.noex,ok.exfs,ok.funs,ok.frf⟩
section
variable {X:Cx} {pins:List (Addr×Obj)} {σ:St} {H:Hp} {s:Shared} {E:Value->Shared->Prop}
theorem Inv.wish(I:Inv X pins σ H s)(E:Value->Shared->Prop):Inv (X.wish E) pins σ H s:=⟨I.ok.wish E,I.os,I.bare,I.base,I.loc,I.cell,I.free,I.freeC,I.pin,I.hok,I.len⟩
theorem Inv.unwish(I:Inv (X.wish E) pins σ H s):Inv X pins σ H s:=⟨I.ok.unwish,I.os,I.bare,I.base,I.loc,I.cell,I.free,I.freeC,I.pin,I.hok,I.len⟩
theorem SP.unwish{D:Ends}{f:Flow}{s':Shared}(h:SP (X.wish E) pins D f s'):SP X pins D f s':=by
 cases f with
 |next=>obtain⟨σ',H',I,q⟩:=h;exact⟨σ',H',I.unwish,q⟩
 |brk=>obtain⟨σ',H',I,q⟩:=h;exact⟨σ',H',I.unwish,q⟩
 |cont=>obtain⟨σ',H',I,q⟩:=h;exact⟨σ',H',I.unwish,q⟩
 |ret u=>obtain⟨v,σ',H',I,r,q⟩:=h;exact⟨v,σ',H',I.unwish,r,q⟩
theorem PSs.nox{st:List Stmt}{t:TS}(h:PSs X.nox st t):PSs X st t:=fun pins s σ H D I hw=>
 wpAny_mono (h pins s σ H D (I.wish _) hw) (fun _ _ q=>q.unwish) fun _ _ z=>False.elim z
end
section
variable {X:Cx} {st:Stmt} {rest:List Stmt} {t u:TS} {e:Expr} {te:TE} {pos:Pos}
def qRz:TS:=fun D σ H=>D.nx σ H
def qRj(t u:TS):TS:=fun D σ H=>t {D with nx:=u D} σ H
theorem qD:PSs X [] qRz:=fun _ _ σ H _ I h=>wpAny_execs_nil ⟨σ,H,I,h⟩
theorem qK(h1:PS X st t)(h2:PSs X rest u):PSs X (st::rest) (qRj t u):=by
 intro pins s σ H D I h
 refine wpAny_execs_cons (thn (h1 pins s σ H {D with nx:=u D} I h) fun f s1 q=>?_)
 cases f with
 |next=>
  obtain⟨σ',H',I',q⟩:=q
  exact h2 pins s1 σ' H' D I' q
 |ret v=>exact q
 |brk=>exact q
 |cont=>exact q
theorem qY(h1:PS X st t):PSs X [st] t:=by
 intro pins s σ H D I h
 refine wpAny_execs_cons (thn (h1 pins s σ H D I h) fun f s1 q=>?_)
 cases f with
 |next=>exact wpAny_execs_nil q
 |ret v=>exact q
 |brk=>exact q
 |cont=>exact q
theorem Inv.quiet{pins:List (Addr×Obj)}{σ:St}{H:Hp}{s:Shared}(I:Inv X pins σ H s):interactive X.env=false:=by simp[interactive,I.ok.kind]
def qS0(te:TE):TS:=fun D σ H=>te σ H fun _ H1=>D.nx σ H1
theorem jK(he:PE X e te)(hs:swapsWith e none pos.line X.env=pure false:=by rfl):PS X (.Expr e pos) (qS0 te):=by
 intro pins s σ H D I h
 exact wpAny_Expr_any (thn (he pins s σ H _ I h) fun v s1⟨x,H1,I1,r1,q1⟩=>⟨σ,H1,I1,q1⟩) I.quiet hs
def rM(te:TE):TS:=fun D σ H=>te σ H D.rt
theorem qG(he:PE X e te):PS X (.Return (some e) pos) (rM te):=by
 intro pins s σ H D I h
 exact wpAny_Return_some (thn (he pins s σ H _ I h) fun v s1⟨x,H1,I1,r1,q1⟩=>⟨x,σ,H1,I1,r1,q1⟩)
def qS1(c:TT)(t u:TS):TS:=fun D σ H=>c σ H fun b H1=>if b=true then t D σ H1 else u D σ H1
theorem zK{c:Expr}{a b:List Stmt}{tc:TT}(hc:PT X c tc)(ha:PSs X a t)(hb:PSs X b u):PS X (.If c a b pos) (qS1 tc t u):=by
 intro pins s σ H D I h
 refine wpAny_If (thn (hc pins s σ H _ I h) fun d s1⟨H1,I1,q1⟩=>?_)
 cases d with
 |true=>exact ha pins s1 σ H1 D I1 q1
 |false=>exact hb pins s1 σ H1 D I1 q1
end
abbrev TG:=V->St->Hp->(St->Hp->Prop)->Prop
abbrev TGs:=List V->St->Hp->(St->Hp->Prop)->Prop
def PG(X:Cx)(target:Expr)(t:TG):Prop:=
 ∀(pins:List (Addr×Obj))(s:Shared)(σ:St)(H:Hp)(v:V)(u:Value)(Q:St->Hp->Prop),Inv X pins σ H s->zY v u->t v σ H Q->
  wpAny (model X.prog X.w) X.A (assign target X.env u) (fun _ s'=>∃σ' H',Inv X pins σ' H' s'/\Q σ' H') X.xe s
def PGs(X:Cx)(ts:List Expr)(t:TGs):Prop:=
 ∀(pins:List (Addr×Obj))(s:Shared)(σ:St)(H:Hp)(vs:List V)(us:List Value)(Q:St->Hp->Prop),Inv X pins σ H s->Vals vs us->t vs σ H Q->
  wpAny (model X.prog X.w) X.A (assignInOrder ((assignEach ts X.env).map (·.2)) us) (fun _ s'=>∃σ' H',Inv X pins σ' H' s'/\Q σ' H') X.xe s
section
variable {X:Cx} {pos:Pos}
def xU(i:Nat):TG:=fun v σ H Q=>Q (σ.set i (some v)) H
theorem jU{i:Nat}{x:Str}(hN:X.N.Nodup)(hi:X.N[i]? =some x)(hx:Loc X.env.scope x)(hf:X.fn x=true\/X.env.scope.names.lookup x=some .local:=by first|exact .inl rfl|exact .inr rfl|assumption):PG X (.Name x pos) (xU i):=by
 intro pins s σ H v u Q I r h
 exact wpAny_assign_Name (uK I hN hi hx r (fun s' I'=>⟨_,H,I',h⟩) hf)
def qJ3:TGs:=fun vs σ H Q=>vs=[]/\Q σ H
inductive rN(t:TG)(u:TGs)(vs:List V)(σ:St)(H:Hp)(Q:St->Hp->Prop):Prop
 |mk (v:_) (r:_) (a_0:vs=v::r) (a_1:t v σ H fun σ' H'=>u r σ' H' Q):rN t u vs σ H Q
def uW(t:TG)(u:TGs):TGs:=fun vs σ H Q=>rN t u vs σ H Q
theorem wO:PGs X [] qJ3:=by
 intro pins s σ H vs us Q I r h
 obtain⟨e,h⟩:=h
 subst e
 cases r
 exact assignInOrder_nil ⟨σ,H,I,h⟩
theorem xJ{e:Expr}{es:List Expr}{t:TG}{u:TGs}(h1:PG X e t)(h2:PGs X es u)
  (hs:(assignEach (e::es) X.env).map (·.2)=assign e X.env::(assignEach es X.env).map (·.2):=by rfl):PGs X (e::es) (uW t u):=by
 intro pins s σ H vs us Q I r h
 obtain⟨v,vr,e1,h⟩:=h
 subst e1
 cases r with
 |cons r rr=>
  rw[hs]
  refine assignInOrder_cons (thn (h1 pins s σ H _ _ _ I r h) fun _ s1⟨σ1,H1,I1,q1⟩=>?_)
  exact h2 pins s1 σ1 H1 _ _ Q I1 rr q1
inductive qO2(K:Fg)(n:Nat)(t:TGs)(v:V)(σ:St)(H:Hp)(Q:St->Hp->Prop):Prop
 |mk (a:_) (xs:_) (a_0:v= .ref a) (a_1:qA K H a xs) (a_2:xs.length=n) (a_3:t xs σ H Q):qO2 K n t v σ H Q
def qJ4(K:Fg)(n:Nat)(t:TGs):TG:=fun v σ H Q=>qO2 K n t v σ H Q
theorem uY{es:List Expr}{k:Nat}{t:TGs}{n:Nat}(hc:X.calm=true)(h:PGs X es t)
  (hn:(assignEach es X.env).length=n:=by rfl)(hst:(assignEach es X.env).findIdx? (·.1)=none:=by rfl):PG X (.Tuple es k pos) (qJ4 X.K n t):=by
 intro pins s σ H v u Q I r hw
 obtain⟨a,xs,e1,hq,hl,hw⟩:=hw
 subst e1
 cases r
 obtain⟨its,rv,ht,hz⟩:=I.tuple hq
 refine assign_Tuple_tuple (I.ok.hd hc) ht (by simp[hn,<-hl,rv.length]) hst fun h' hx=>?_
 have I1:Inv X pins σ H {s with heap:=h'}:=I.kept (t':=s.toks) fun b o e=>hx b o (aq9 (aq8 e)) e
 exact h pins _ σ H xs _ Q I1 (by simpa using rv) hw
def cE(te:TE)(g:TG):TS:=fun D σ H=>te σ H fun x H1=>g x σ H1 D.nx
theorem qH{i:Nat}{x:Str}{e:Expr}{te:TE}{pos':Pos}(hN:X.N.Nodup)(hi:X.N[i]? =some x)(hx:Loc X.env.scope x)(he:PE X e te)(hs:swapsWith e (some (.Name x pos')) pos.line X.env=pure false:=by rfl)(hf:X.fn x=true\/X.env.scope.names.lookup x=some .local:=by first|exact .inl rfl|exact .inr rfl|assumption):
  PS X (.Assign [.Name x pos'] e pos) (cE te (xU i)):=by
 intro pins s σ H D I h
 refine wpAny_Assign_Name (thn (he pins s σ H _ I h) fun v s1⟨y,H1,I1,r1,q1⟩=>?_) hs
 exact uK I1 hN hi hx r1 (fun s2 I2=>⟨_,H1,I2,q1⟩) hf
end
structure It where
 go:Nat->Hp->Prop
 yld:Nat->Hp->V->Hp->Prop
 stop:Nat->Hp->Prop
def kL(X:Cx)(pins:List (Addr×Obj))(H:Hp)(b:Addr):Prop:=
 H b=none/\b≠X.env.locals/\b∉X.fs/\(b∈X.ex\/X.s₀.heap.objs.size<=b)/\(∀x c,X.env.cells.lookup x=some c->c≠b)/\∀p∈X.pn++pins,p.1≠b
theorem Inv.fpOk{X:Cx}{pins:List (Addr×Obj)}{σ:St}{H H':Hp}{s:Shared}{b:Addr}(I:Inv X pins σ H s)(hb:s.heap.objs.size<=b)(hn:H' b=none):kL X pins H' b:=by
 refine⟨hn,Nat.ne_of_gt (Nat.lt_of_lt_of_le I.lt hb),I.nofs hb,.inr (Nat.le_trans I.sz hb),fun x c e z=>?_,fun p hp z=>?_⟩
 ·obtain⟨v,q⟩:=I.cell x c e
  exact absurd (Nat.lt_of_lt_of_le q.lt (by rw[z];exact hb)) (Nat.lt_irrefl _)
 ·exact absurd (Nat.lt_of_lt_of_le (aq8 (I.pin p hp).1) (by rw[z];exact hb)) (Nat.lt_irrefl _)
structure Turn(P:Program)(w:World)(K:Fg)(tg:Expr)(J:It)(fp:List Addr)(it:Addr)(tn:Nat->Heap->Prop):Prop where
 mem:it∈fp
 obj:∀i h,tn i h->∀b∈fp,∃o,h.get? b=some o/\∀v,o.data≠ .cell v
 keep:∀i h h',tn i h->(∀b∈fp,∀o,h.get? b=some o->h'.get? b=some o)->tn i h'
 item:∀(X:Cx),X.prog=P->X.w=w->X.K=K->X.calm=true->∀(i:Nat)(pins:List (Addr×Obj))(s:Shared)(σ:St)(H:Hp)(E:Value->Shared->Prop),Inv X pins σ H s->(∀b∈fp,kL X pins H b)->tn i s.heap->J.go i H->
  wpAny (model P w) X.A (pyNext (.ref it)) (fun r s1=>∃u,r=some u/\
   wpAny (model P w) X.A (letOwnedTupleGo tg (.ref it) u) (fun _ s2=>∃x H',Inv X pins σ H' s2/\zY x u/\J.yld i H x H'/\tn (i+1) s2.heap/\∀b∈fp,H' b=none) E s1) E s
 done:∀(X:Cx),X.prog=P->X.w=w->X.K=K->X.calm=true->∀(i:Nat)(pins:List (Addr×Obj))(s:Shared)(σ:St)(H:Hp)(E:Value->Shared->Prop),Inv X pins σ H s->(∀b∈fp,kL X pins H b)->tn i s.heap->J.stop i H->
  wpAny (model P w) X.A (pyNext (.ref it)) (fun r s1=>r=none/\Inv X pins σ H s1) E s
 self:∀(A:Around)(i:Nat)(s:Shared)(Q:Value->Shared->Prop)(E:Value->Shared->Prop),tn i s.heap->Q (.ref it) s->wpAny (model P w) A (pyIter (.ref it)) Q E s
abbrev TI:=St->Hp->(It->Hp->Prop)->Prop
def PIE(X:Cx)(pins:List (Addr×Obj))(σ:St)(tg:Expr)(R:It->Hp->Prop)(itv:Value)(s2:Shared):Prop:=
 ∃(it:Addr)(fp:List Addr)(tn:Nat->Heap->Prop)(J:It)(H':Hp),itv= .ref it/\Inv X pins σ H' s2/\Turn X.prog X.w X.K tg J fp it tn/\tn 0 s2.heap/\(∀b∈fp,kL X pins H' b)/\R J H'
def PI(X:Cx)(tg iter:Expr)(wi:TI):Prop:=
 ∀(pins:List (Addr×Obj))(s:Shared)(σ:St)(H:Hp)(R:It->Hp->Prop),Inv X pins σ H s->wi σ H R->
  wpAny (model X.prog X.w) X.A (eval iter X.env) (fun v s1=>wpAny (model X.prog X.w) X.A (pyIter v) (PIE X pins σ tg R) X.xe s1) X.xe s
theorem rB{M:Model}{A:Around}{E:Value->Shared->Prop}{s:Shared}{tg:Expr}{it:Addr}{u:Value}{o:Obj}{n:String}{vs:Array Value}{Q:Unit->Shared->Prop}(ho:s.heap.get? it=some o)(hc:o.cls= .type n)(hd:o.data= .fields vs)
  (hn:["enumerate","zip","dict_itemiterator","dict_reverseitemiterator","odict_iterator","itertools.zip_longest","itertools.pairwise"].contains n=false)(hQ:Q () s):wpAny M A (letOwnedTupleGo tg (.ref it) u) Q E s:=by
 unfold letOwnedTupleGo
 cases tg<;>first
  |exact wpAny_pure hQ
  |(cases u<;>first
    |exact wpAny_pure hQ
    |(refine wpAny_bind (wpAny_load ho ?_)
      rw[hc,hd]
      show wpAny M A (if(["enumerate","zip","dict_itemiterator","dict_reverseitemiterator","odict_iterator","itertools.zip_longest","itertools.pairwise"].contains n&&vs[0]? ==some (rawInt _))=true then _ else _) Q E s
      rw[if_neg (by intro h;rw[hn,Bool.false_and]at h;cases h)]
      exact wpAny_pure hQ))
def Itl(K:Fg)(a:Addr):It:=
 ⟨fun i H=>∃xs x,zV K H a xs/\xs[i]? =some x,fun i H x H'=>H'=H/\∀xs,zV K H a xs->xs[i]? =some x,fun i H=>∃xs,zV K H a xs/\xs.length<=i⟩
def Itt(K:Fg)(a:Addr):It:=
 ⟨fun i H=>∃xs x,qA K H a xs/\xs[i]? =some x,fun i H x H'=>H'=H/\∀xs,qA K H a xs->xs[i]? =some x,fun i H=>∃xs,qA K H a xs/\xs.length<=i⟩
def Itr(lo:Int)(n:Nat):It:=⟨fun i _=>i<n,fun i H x H'=>H'=H/\x= .int (lo+i),fun i _=>n<=i⟩
theorem hZ{P:Program}{w:World}{K:Fg}{tg:Expr}(a it:Addr):Turn P w K tg (Itl K a) [it] it (fun i h=>h.IsListIter it a i)where
 mem:=by simp
 obj:=fun i h st b hb=>by
  have e:b=it:=by simpa using hb
  subst e
  obtain⟨o,e,c,d⟩:=st
  exact⟨o,e,fun v z=>by rw[d]at z;cases z⟩
 keep:=fun i h h' st k=>st.at fun o e=>k it (by simp) o e
 item:=by
  intro X hP hw hK hc i pins s σ H E I hf st hg
  subst hP hw hK
  obtain⟨xs,x,hq,hx⟩:=hg
  obtain⟨its,rv,p,hz⟩:=I.list hq
  obtain⟨u,hu,ru⟩:=rv.get hx
  obtain⟨f0,f1,f2,f3,f4,f5⟩:=hf it (by simp)
  refine wpAny_pyNext_list_item st p.isList (x:=u) (by simpa using hu) fun h' st' sb=>?_
  have I1:Inv X pins σ H {s with heap:=h'}:=I.turned (t':=s.toks) (fun b o hb e=>(sb.2 b hb).trans e) f0 f1 f3 f4 f5
  obtain⟨o,e,c,d⟩:=id st'
  exact⟨u,rfl,rB (s:={s with heap:=h'}) e c d (by decide) ⟨x,H,I1,ru,⟨rfl,fun ys hy=>by rw[I.list_inj hy hq];exact hx⟩,st',fun b hb=>(hf b hb).1⟩⟩
 done:=by
  intro X hP hw hK hc i pins s σ H E I hf st hg
  subst hP hw hK
  obtain⟨xs,hq,hx⟩:=hg
  obtain⟨its,rv,p,hz⟩:=I.list hq
  obtain⟨f0,f1,f2,f3,f4,f5⟩:=hf it (by simp)
  have hl:=rv.length
  exact wpAny_pyNext_list_end (I.ok.hd hc) st p.isList (by simp;omega) fun h' eb=>⟨rfl,I.turned (t':=s.toks) (fun b o hb e=>eb b o hb e) f0 f1 f3 f4 f5⟩
 self:=fun _ _ _ _ _ st h=>wpAny_pyIter_listiter st h
theorem mC{P:Program}{w:World}{K:Fg}{tg:Expr}(a it:Addr):Turn P w K tg (Itt K a) [it] it (fun i h=>h.IsTupleIter it a i)where
 mem:=by simp
 obj:=fun i h st b hb=>by
  have e:b=it:=by simpa using hb
  subst e
  obtain⟨o,e,c,d⟩:=st
  exact⟨o,e,fun v z=>by rw[d]at z;cases z⟩
 keep:=fun i h h' st k=>st.at fun o e=>k it (by simp) o e
 item:=by
  intro X hP hw hK hc i pins s σ H E I hf st hg
  subst hP hw hK
  obtain⟨xs,x,hq,hx⟩:=hg
  obtain⟨its,rv,p,hz⟩:=I.tuple hq
  obtain⟨u,hu,ru⟩:=rv.get hx
  obtain⟨f0,f1,f2,f3,f4,f5⟩:=hf it (by simp)
  refine wpAny_pyNext_tuple_item st (show s.heap.IsTuple a its.toArray from p) (x:=u) (by simpa using hu) fun h' st' sb=>?_
  have I1:Inv X pins σ H {s with heap:=h'}:=I.turned (t':=s.toks) (fun b o hb e=>(sb.2 b hb).trans e) f0 f1 f3 f4 f5
  obtain⟨o,e,c,d⟩:=id st'
  exact⟨u,rfl,rB (s:={s with heap:=h'}) e c d (by decide) ⟨x,H,I1,ru,⟨rfl,fun ys hy=>by rw[I.tuple_inj hy hq];exact hx⟩,st',fun b hb=>(hf b hb).1⟩⟩
 done:=by
  intro X hP hw hK hc i pins s σ H E I hf st hg
  subst hP hw hK
  obtain⟨xs,hq,hx⟩:=hg
  obtain⟨its,rv,p,hz⟩:=I.tuple hq
  obtain⟨f0,f1,f2,f3,f4,f5⟩:=hf it (by simp)
  have hl:=rv.length
  exact wpAny_pyNext_tuple_end (I.ok.hd hc) st (show s.heap.IsTuple a its.toArray from p) (by simp;omega) fun h' eb=>⟨rfl,I.turned (t':=s.toks) (fun b o hb e=>eb b o hb e) f0 f1 f3 f4 f5⟩
 self:=fun _ _ _ _ _ st h=>wpAny_pyIter_tupleiter st h
theorem mL{P:Program}{w:World}{K:Fg}{tg:Expr}(it:Addr)(lo:Int)(n:Nat):Turn P w K tg (Itr lo n) [it] it (fun i h=>IsRangeIter h it (lo+(i:Nat)*1) ((n:Int)-(i:Nat)) 1)where
 mem:=by simp
 obj:=fun i h st b hb=>by
  have e:b=it:=by simpa using hb
  subst e
  exact⟨_,st,fun v z=>by
   have z':Data.fields _=Data.cell v:=z
   cases z'⟩
 keep:=fun i h h' st k=>k it (by simp) _ st
 item:=by
  intro X hP hw hK hc i pins s σ H E I hf st hg
  subst hP hw hK
  obtain⟨f0,f1,f2,f3,f4,f5⟩:=hf it (by simp)
  have W:=Walks.range (prog:=X.prog) (w:=X.w) (I.ok.hd hc) it lo 1 n
  refine W.item i s _ _ hg st fun v h' tk hv st' kk=>?_
  obtain⟨t,rfl⟩:=hv
  have I1:Inv X pins σ H {s with heap:=h',toks:=tk}:=I.turned (fun b o hb e=>kk b o (by simpa using hb) e) f0 f1 f3 f4 f5
  refine⟨_,rfl,rB (s:={s with heap:=h',toks:=tk}) (n:="range_iterator") st' rfl rfl (by decide) ⟨.int (lo+i),H,I1,⟨t,?_⟩,⟨rfl,rfl⟩,st',fun b hb=>(hf b hb).1⟩⟩
  rw[Int.mul_one]
 done:=by
  intro X hP hw hK hc i pins s σ H E I hf st hg
  subst hP hw hK
  obtain⟨f0,f1,f2,f3,f4,f5⟩:=hf it (by simp)
  exact wpAny_pyNext_range_end (I.ok.hd hc) st (by have :n<=i:=hg;omega) fun h' eb=>⟨rfl,I.turned (t':=s.toks) (fun b o hb e=>eb b o hb e) f0 f1 f3 f4 f5⟩
 self:=fun _ _ _ _ _ st h=>wpAny_pyIter_rangeiter st h
section
variable {X:Cx} {tg:Expr}
def qS2(K:Fg)(tl:TE):TI:=fun σ H R=>tl σ H fun x H1=>∃a,x= .ref a/\(∃xs,zV K H1 a xs)/\R (Itl K a) H1
def zJ7(K:Fg)(tl:TE):TI:=fun σ H R=>tl σ H fun x H1=>∃a,x= .ref a/\(∃xs,qA K H1 a xs)/\R (Itt K a) H1
theorem vM{l:Expr}{tl:TE}(hl:PE X l tl):PI X tg l (qS2 X.K tl):=by
 intro pins s σ H R I h
 refine thn (hl pins s σ H _ I h) fun v s1⟨x,H1,I1,r1,q1⟩=>?_
 obtain⟨a,e,⟨xs,hq⟩,q⟩:=q1
 subst e
 cases r1
 obtain⟨its,rv,p,hz⟩:=I1.list hq
 refine wpAny_pyIter_list p.isList ?_
 refine⟨s1.heap.objs.size,[s1.heap.objs.size],_,_,H1,rfl,I1.kept (t':=s1.toks) fun b o e=>aq13 _ e,hZ a _,⟨_,aq14 _ rfl,rfl,rfl⟩,fun b hb=>?_,q⟩
 have e:b=s1.heap.objs.size:=by simpa using hb
 subst e
 exact I1.fpOk (aq7 _) (I1.hok.fresh (aq7 _))
theorem qGz{l:Expr}{tl:TE}(hl:PE X l tl):PI X tg l (zJ7 X.K tl):=by
 intro pins s σ H R I h
 refine thn (hl pins s σ H _ I h) fun v s1⟨x,H1,I1,r1,q1⟩=>?_
 obtain⟨a,e,⟨xs,hq⟩,q⟩:=q1
 subst e
 cases r1
 obtain⟨its,rv,p,hz⟩:=I1.tuple hq
 refine wpAny_pyIter_tuple (show s1.heap.IsTuple a its.toArray from p) ?_
 refine⟨s1.heap.objs.size,[s1.heap.objs.size],_,_,H1,rfl,I1.kept (t':=s1.toks) fun b o e=>aq13 _ e,mC a _,⟨_,aq14 _ rfl,rfl,rfl⟩,fun b hb=>?_,q⟩
 have e:b=s1.heap.objs.size:=by simpa using hb
 subst e
 exact I1.fpOk (aq7 _) (I1.hok.fresh (aq7 _))
theorem lQ{pins:List (Addr×Obj)}{σ:St}{H:Hp}{s:Shared}{R:It->Hp->Prop}{E:Value->Shared->Prop}{lo hi:Int}{t u v:Tok}{tk:Nat}(I:Inv X pins σ H s)(h1: -(2^62)<=lo)(h2:lo<2^62)(h3: -(2^62)<=hi)(h4:hi<2^62)
  (q:R (Itr lo (hi-lo).toNat) H):wpAny (model X.prog X.w) X.A (pyIter (.ref s.heap.objs.size)) (PIE X pins σ tg R) E {s with heap:=s.heap.push {cls:=.type "range",data:=.fields #[.int lo t,.int hi u,.int 1 v]},toks:=tk}:=by
 refine wpAny_pyIter_range (IsRange.new ..) (small_one h1 h2 h3 h4) ?_
 have I1:Inv X pins σ H {s with heap:=s.heap.push {cls:=.type "range",data:=.fields #[.int lo t,.int hi u,.int 1 v]},toks:=tk}:=I.kept fun b o e=>aq13 _ e
 refine⟨(s.heap.push {cls:=.type "range",data:=.fields #[.int lo t,.int hi u,.int 1 v]}).objs.size,[(s.heap.push {cls:=.type "range",data:=.fields #[.int lo t,.int hi u,.int 1 v]}).objs.size],_,_,H,rfl,
  I1.kept (t':=tk) fun b o e=>aq13 _ e,mL _ lo (hi-lo).toNat,?_,fun b hb=>?_,q⟩
 ·have e1:lo+((0:Nat):Int)*1=lo:=by simp
  have e2:(((hi-lo).toNat:Nat):Int)-((0:Nat):Int)=Builtin.Range.rangeSize lo hi 1:=by rw[rangeSize_one];split<;>omega
  show IsRangeIter _ _ (lo+((0:Nat):Int)*1) ((((hi-lo).toNat:Nat):Int)-((0:Nat):Int)) 1
  rw[e1,e2]
  exact aq14 _ rfl
 ·have e:b=(s.heap.push {cls:=.type "range",data:=.fields #[.int lo t,.int hi u,.int 1 v]}).objs.size:=by simpa using hb
  subst e
  exact I1.fpOk (aq7 _) (I1.hok.fresh (aq7 _))
def qS3(ta:TA):TI:=fun σ H R=>ta σ H fun vs H1=>∃j:Int,vs=[.int j]/\ -(2^62)<=j/\j<2^62/\R (Itr 0 j.toNat) H1
def qS4(ta:TA):TI:=fun σ H R=>ta σ H fun vs H1=>∃i j:Int,vs=[.int i,.int j]/\(-(2^62)<=i/\i<2^62/\ -(2^62)<=j/\j<2^62)/\R (Itr i (j-i).toNat) H1
theorem hX{a:Expr}{ta:TA}{p pos:Pos}(hg:Gl X "range")(hm:X.mg "range"=none)(ha:PA X [a] ta)(hs:starEach [a] X.env=[(false,eval a X.env)]:=by rfl):PI X tg (.Call (.Name "range" p) [a] [] pos) (qS3 ta):=by
 intro pins s σ H R I h
 refine Call_ (kE I hg hm boot_range (PyProof.Rows.callWith_type1 (thn (ha pos pins s σ H _ I h) fun us s1⟨vs,H1,I1,r1,q1⟩=>?_) hs rfl))
 obtain⟨j,e,q1,q2,q⟩:=q1
 subst e
 cases r1 with
 |cons r rr=>
  cases rr
  obtain⟨t,rfl⟩:=r
  exact call_range_1 (lQ I1 (by omega) (by omega) q1 q2 (by simpa using q))
theorem hV{a b:Expr}{ta:TA}{p pos:Pos}(hg:Gl X "range")(hm:X.mg "range"=none)(ha:PA X [a,b] ta)(hs:starEach [a,b] X.env=[(false,eval a X.env),(false,eval b X.env)]:=by rfl)(hs2:starEach [b] X.env=[(false,eval b X.env)]:=by rfl):
  PI X tg (.Call (.Name "range" p) [a,b] [] pos) (qS4 ta):=by
 intro pins s σ H R I h
 refine Call_ (kE I hg hm boot_range (PyProof.Rows.callWith_type1 (thn (ha pos pins s σ H _ I h) fun us s1⟨vs,H1,I1,r1,q1⟩=>?_) (by rw[hs,hs2]) (by rw[hs2];rfl)))
 obtain⟨i,j,e,⟨q1,q2,q3,q4⟩,q⟩:=q1
 subst e
 cases r1 with
 |cons r rr=>
  cases rr with
  |cons r' rr=>
   cases rr
   obtain⟨t,rfl⟩:=r
   obtain⟨t',rfl⟩:=r'
   exact call_range_2 (lQ I1 q1 q2 q3 q4 q)
def zJ8(wi:TI)(g:TG)(tb:TS):TS:=fun D σ H=>wi σ H fun J H1=>∃W:Nat->Nat->St->Hp->Prop,(∃m,W 0 m σ H1)/\∀i m σ H,W i m σ H->
 (J.stop i H/\D.nx σ H)\/(J.go i H/\∃N:St->Hp->Prop,(∀σ' H',N σ' H'->∃m',m'<m/\W (i+1) m' σ' H')/\∀x H',J.yld i H x H'->g x σ H' fun σ2 H2=>tb {D with nx:=N,ct:=N,bk:=D.nx} σ2 H2)
def uU(fp:List Addr)(h:Heap):List (Addr×Obj):=fp.filterMap fun b=>(h.get? b).map fun o=>(b,o)
theorem xM{fp:List Addr}{h:Heap}{b:Addr}{o:Obj}(hb:b∈fp)(e:h.get? b=some o):(b,o)∈uU fp h:=List.mem_filterMap.mpr ⟨b,hb,by rw[e];rfl⟩
theorem hG{fp:List Addr}{h:Heap}{p:Addr×Obj}(hp:p∈uU fp h):p.1∈fp/\h.get? p.1=some p.2:=by
 obtain⟨b,hb,e⟩:=List.mem_filterMap.mp hp
 cases q:h.get? b with
 |none=>rw[q]at e;cases e
 |some o=>
  rw[q]at e
  have e':(b,o)=p:=Option.some.inj e
  subst e'
  exact⟨hb,q⟩
theorem Inv.pinned{pins:List (Addr×Obj)}{σ:St}{H:Hp}{s:Shared}{fp:List Addr}(I:Inv X pins σ H s)(hf:∀b∈fp,kL X pins H b)(ho:∀b∈fp,∃o,s.heap.get? b=some o/\∀v,o.data≠ .cell v):Inv X (pins++uU fp s.heap) σ H s:=
 I.pins_of fun p hp=>(List.mem_append.mp hp).elim (fun z=>I.pin p (aq11 _ z)) fun z=>by
  obtain⟨hb,e⟩:=hG z
  obtain⟨f0,f1,f2,_⟩:=hf p.1 hb
  obtain⟨o,e',d⟩:=ho p.1 hb
  rw[e]at e';cases e'
  exact⟨e,f0,f1,f2,d⟩
theorem Inv.unpinned{pins pl:List (Addr×Obj)}{σ:St}{H:Hp}{s:Shared}(I:Inv X (pins++pl) σ H s):Inv X pins σ H s:=I.pins_of fun p hp=>I.pin p (aq11 _ (List.mem_append_left _ hp))
theorem vE{iter:Expr}{body:List Stmt}{wi:TI}{g:TG}{tb:TS}{pos:Pos}(hp:PassesOwn (model X.prog X.w) X.A X.env X.xe)(hc:X.calm=true)(hi:PI X tg iter wi)(hg:PG X tg g)(hb:PSs X body tb)
  (hs:∀x,foldedSetIterable iter X.env x=pure x:=by intro _;rfl):PS X (.For tg iter body [] pos) (zJ8 wi g tb):=by
 intro pins s σ H D I h
 refine wpAny_For (thn (hi pins s σ H _ I h) fun v s1 h1=>thn h1 fun itv s2 h2=>?_) hs
 obtain⟨it,fp,tn,J,H2,e,I2,T,st2,f2,W,⟨m0,w0⟩,turn⟩:=h2
 subst e
 have stat:∀{H':Hp},(∀b∈fp,H' b=none)->∀b∈fp,kL X pins H' b:=fun hn b hb=>⟨hn b hb,(f2 b hb).2⟩
 refine codeAny_forLoop_any (fun n s'=>∃i σ' H',Inv X pins σ' H' s'/\tn i s'.heap/\(∀b∈fp,H' b=none)/\W i n σ' H') ?_ m0 ⟨0,σ,H2,I2,st2,fun b hb=>(f2 b hb).1,w0⟩
 rintro n s3 ⟨i,σ3,H3,I3,st3,fr3,w3⟩
 rcases turn i n σ3 H3 w3 with⟨stop,qn⟩|⟨go,N,hN,step⟩
 ·refine wpAny_passesOwn hp (thn (T.done X rfl rfl rfl hc i pins s3 σ3 H3 X.xe I3 (stat fr3) st3 stop) fun r s4⟨hr,I4⟩=>?_)
  subst hr
  exact wpAny_execs_nil ⟨σ3,H3,I4,qn⟩
 ·refine wpAny_passesOwn hp (thn (T.item X rfl rfl rfl hc i pins s3 σ3 H3 X.xe I3 (stat fr3) st3 go) fun r s4⟨u,hr,h4⟩=>?_)
  subst hr
  refine wpAny_passesOwn hp (thn h4 fun _ s5⟨x,H5,I5,r5,y5,st5,fr5⟩=>?_)
  have I5':=I5.pinned (stat fr5) (T.obj _ _ st5)
  refine wpAny_passesOwn hp (thn (hg _ s5 σ3 H5 x u _ I5' r5 (step x H5 y5)) fun _ s6⟨σ6,H6,I6,q6⟩=>?_)
  refine wpAny_passesOwn hp (thn (hb _ s6 σ6 H6 _ I6 q6) fun f s7 q7=>?_)
  have again:∀{σ7:St}{H7:Hp},Inv X (pins++uU fp s5.heap) σ7 H7 s7->N σ7 H7->∃m,m<n/\∃i σ' H',Inv X pins σ' H' s7/\tn i s7.heap/\(∀b∈fp,H' b=none)/\W i m σ' H':=fun {σ7 H7}I7 n7=>by
   obtain⟨m',hm,w7⟩:=hN σ7 H7 n7
   refine⟨m',hm,i+1,σ7,H7,I7.unpinned,T.keep _ _ _ st5 fun b hb o e=>(I7.pin (b,o) (aq11 _ (aq11 _ (xM hb e)))).1,fun b hb=>?_,w7⟩
   obtain⟨o,e,d⟩:=T.obj _ _ st5 b hb
   exact(I7.pin (b,o) (aq11 _ (aq11 _ (xM hb e)))).2.1
  cases f with
  |next=>obtain⟨σ7,H7,I7,n7⟩:=q7;exact again I7 n7
  |cont=>obtain⟨σ7,H7,I7,n7⟩:=q7;exact again I7 n7
  |brk=>obtain⟨σ7,H7,I7,q7⟩:=q7;exact⟨σ7,H7,I7.unpinned,q7⟩
  |ret v=>obtain⟨x7,σ7,H7,I7,r7,q7⟩:=q7;exact⟨x7,σ7,H7,I7.unpinned,r7,q7⟩
end
theorem lZ{K:Fg}{a:Addr}{xs:List V}{g:TG}{tb:TS}{D:Ends}{σ:St}{H:Hp}(Pv:Nat->St->Hp->Prop)(h0:Pv 0 σ H)(hl:∀i σ H,i<=xs.length->Pv i σ H->zV K H a xs)
  (hs:∀i x σ H,xs[i]? =some x->Pv i σ H->g x σ H fun σ2 H2=>tb {D with nx:=Pv (i+1),ct:=Pv (i+1),bk:=D.nx} σ2 H2)(hd:∀σ H,Pv xs.length σ H->D.nx σ H):
  ∃W:Nat->Nat->St->Hp->Prop,(∃m,W 0 m σ H)/\∀i m σ H,W i m σ H->
   ((Itl K a).stop i H/\D.nx σ H)\/((Itl K a).go i H/\∃N:St->Hp->Prop,(∀σ' H',N σ' H'->∃m',m'<m/\W (i+1) m' σ' H')/\∀x H',(Itl K a).yld i H x H'->g x σ H' fun σ2 H2=>tb {D with nx:=N,ct:=N,bk:=D.nx} σ2 H2):=by
 refine⟨fun i m σ H=>m=xs.length-i/\i<=xs.length/\Pv i σ H,⟨xs.length,by simp,Nat.zero_le _,h0⟩,?_⟩
 rintro i m σ H ⟨rfl,hi,p⟩
 have q:=hl i σ H hi p
 by_cases hlt:i<xs.length
 ·refine .inr ⟨⟨xs,xs[i],q,by simp[hlt]⟩,Pv (i+1),fun σ' H' p'=>⟨xs.length-(i+1),by omega,rfl,hlt,p'⟩,fun x H' y=>?_⟩
  obtain⟨e,y⟩:=y
  subst e
  exact hs i x σ _ (y xs q) p
 ·have e:i=xs.length:=by omega
  subst e
  exact .inl ⟨⟨xs,q,aq7 _⟩,hd σ H p⟩
theorem qJ5{K:Fg}{a:Addr}{xs:List V}{g:TG}{tb:TS}{D:Ends}{σ:St}{H:Hp}(Pv:Nat->St->Hp->Prop)(h0:Pv 0 σ H)(hl:∀i σ H,i<=xs.length->Pv i σ H->qA K H a xs)
  (hs:∀i x σ H,xs[i]? =some x->Pv i σ H->g x σ H fun σ2 H2=>tb {D with nx:=Pv (i+1),ct:=Pv (i+1),bk:=D.nx} σ2 H2)(hd:∀σ H,Pv xs.length σ H->D.nx σ H):
  ∃W:Nat->Nat->St->Hp->Prop,(∃m,W 0 m σ H)/\∀i m σ H,W i m σ H->
   ((Itt K a).stop i H/\D.nx σ H)\/((Itt K a).go i H/\∃N:St->Hp->Prop,(∀σ' H',N σ' H'->∃m',m'<m/\W (i+1) m' σ' H')/\∀x H',(Itt K a).yld i H x H'->g x σ H' fun σ2 H2=>tb {D with nx:=N,ct:=N,bk:=D.nx} σ2 H2):=by
 refine⟨fun i m σ H=>m=xs.length-i/\i<=xs.length/\Pv i σ H,⟨xs.length,by simp,Nat.zero_le _,h0⟩,?_⟩
 rintro i m σ H ⟨rfl,hi,p⟩
 have q:=hl i σ H hi p
 by_cases hlt:i<xs.length
 ·refine .inr ⟨⟨xs,xs[i],q,by simp[hlt]⟩,Pv (i+1),fun σ' H' p'=>⟨xs.length-(i+1),by omega,rfl,hlt,p'⟩,fun x H' y=>?_⟩
  obtain⟨e,y⟩:=y
  subst e
  exact hs i x σ _ (y xs q) p
 ·have e:i=xs.length:=by omega
  subst e
  exact .inl ⟨⟨xs,q,aq7 _⟩,hd σ H p⟩
theorem pQ{lo:Int}{n:Nat}{g:TG}{tb:TS}{D:Ends}{σ:St}{H:Hp}(Pv:Nat->St->Hp->Prop)(h0:Pv 0 σ H)
  (hs:∀i σ H,i<n->Pv i σ H->g (.int (lo+i)) σ H fun σ2 H2=>tb {D with nx:=Pv (i+1),ct:=Pv (i+1),bk:=D.nx} σ2 H2)(hd:∀σ H,Pv n σ H->D.nx σ H):
  ∃W:Nat->Nat->St->Hp->Prop,(∃m,W 0 m σ H)/\∀i m σ H,W i m σ H->
   ((Itr lo n).stop i H/\D.nx σ H)\/((Itr lo n).go i H/\∃N:St->Hp->Prop,(∀σ' H',N σ' H'->∃m',m'<m/\W (i+1) m' σ' H')/\∀x H',(Itr lo n).yld i H x H'->g x σ H' fun σ2 H2=>tb {D with nx:=N,ct:=N,bk:=D.nx} σ2 H2):=by
 refine⟨fun i m σ H=>m=n-i/\i<=n/\Pv i σ H,⟨n,by simp,Nat.zero_le _,h0⟩,?_⟩
 rintro i m σ H ⟨rfl,hi,p⟩
 by_cases hlt:i<n
 ·refine .inr ⟨hlt,Pv (i+1),fun σ' H' p'=>⟨n-(i+1),by omega,rfl,hlt,p'⟩,fun x H' y=>?_⟩
  obtain⟨e,y⟩:=y
  subst e y
  exact hs i σ _ hlt p
 ·have e:i=n:=by omega
  subst e
  exact .inl ⟨aq7 _,hd σ H p⟩
abbrev R2:=V->V->Hp->VK->Prop
def wQ(X:Cx)(f:Value->Value->Sem Value)(r:R2):Prop:=
 ∀(pins:List (Addr×Obj))(s:Shared)(σ:St)(H:Hp)(x y:V)(v u:Value)(Q:VK),Inv X pins σ H s->zY x v->zY y u->r x y H Q->
  wpAny (model X.prog X.w) X.A (f v u) (EP X pins σ Q) X.xe s
def UnR(X:Cx)(f:Value->Sem Value)(r:V->Hp->VK->Prop):Prop:=
 ∀(pins:List (Addr×Obj))(s:Shared)(σ:St)(H:Hp)(x:V)(v:Value)(Q:VK),Inv X pins σ H s->zY x v->r x H Q->
  wpAny (model X.prog X.w) X.A (f v) (EP X pins σ Q) X.xe s
def kJ(X:Cx)(f:Value)(r:List V->Hp->VK->Prop):Prop:=
 ∀(pins:List (Addr×Obj))(s:Shared)(σ:St)(H:Hp)(xs:List V)(us:List Value)(Q:VK),Inv X pins σ H s->Vals xs us->r xs H Q->
  wpAny (model X.prog X.w) X.A (call f us) (EP X pins σ Q) X.xe s
def pZ(r:R2)(ta tb:TE):TE:=fun σ H Q=>ta σ H fun x H1=>tb σ H1 fun y H2=>r x y H2 Q
def tUn(r:V->Hp->VK->Prop)(ta:TE):TE:=fun σ H Q=>ta σ H fun x H1=>r x H1 Q
inductive rI_(C:Int->Int->Prop)(g:Int->Int->V)(x:V)(y:V)(H:Hp)(Q:VK):Prop
 |mk (i:_) (j:_) (a_0:x= .int i) (a_1:y= .int j) (a_2:C i j) (a_3:Q (g i j) H):rI_ C g x y H Q
def rI(C:Int->Int->Prop)(g:Int->Int->V):R2:=fun x y H Q=>rI_ C g x y H Q
inductive qS5(g:Int->Int->V)(x:V)(y:V)(H:Hp)(Q:VK):Prop
 |mk (i:_) (j:_) (a_0:x= .int i) (a_1:y= .int j) (a_2:Q (g i j) H):qS5 g x y H Q
def rI0(g:Int->Int->V):R2:=fun x y H Q=>qS5 g x y H Q
inductive rU_(g:Int->V)(x:V)(H:Hp)(Q:VK):Prop
 |mk (i:_) (a_0:x= .int i) (a_1:Q (g i) H):rU_ g x H Q
def rU(g:Int->V):V->Hp->VK->Prop:=fun x H Q=>rU_ g x H Q
section
variable {X:Cx} {a b c:Expr} {ta tb tc:TE} {pos:Pos}
theorem qGj(ha:PE X a ta)(hb:PE X b tb){pins:List (Addr×Obj)}{s:Shared}{σ:St}{H:Hp}{R:V->V->Hp->Prop}(I:Inv X pins σ H s)
  (h:ta σ H fun x H1=>tb σ H1 fun y H2=>R x y H2){Q:Value->Shared->Prop}{f:Value->Value->Sem Value}
  (hf:∀v u s2 x y H2,Inv X pins σ H2 s2->zY x v->zY y u->R x y H2->wpAny (model X.prog X.w) X.A (f v u) Q X.xe s2):
  wpAny (model X.prog X.w) X.A (eval a X.env) (fun v s₁=>wpAny (model X.prog X.w) X.A (eval b X.env) (fun u s₂=>wpAny (model X.prog X.w) X.A (f v u) Q X.xe s₂) X.xe s₁) X.xe s:=by
 refine thn (ha pins s σ H _ I h) fun v s1⟨x,H1,I1,r1,q1⟩=>?_
 refine thn (hb pins s1 σ H1 _ I1 q1) fun u s2⟨y,H2,I2,r2,q2⟩=>?_
 exact hf v u s2 x y H2 I2 r1 r2 q2
theorem qI{op:Operator}{r:R2}(ho:wQ X (binaryOp op) r)(ha:PE X a ta)(hb:PE X b tb):PE X (.BinOp a op b pos) (pZ r ta tb):=by
 intro pins s σ H Q I h
 exact wpAny_BinOp (qGj ha hb I h fun v u s2 x y H2 I2 rx ry q=>ho pins s2 σ H2 x y v u Q I2 rx ry q)
theorem bJ{op:UnaryOp}{r:V->Hp->VK->Prop}(ho:UnR X (unaryOp op) r)(ha:PE X a ta):PE X (.UnaryOp op a pos) (tUn r ta):=by
 intro pins s σ H Q I h
 exact UnaryOp_ (thn (ha pins s σ H _ I h) fun v s1⟨x,H1,I1,r1,q1⟩=>ho pins s1 σ H1 x v Q I1 r1 q1)
theorem opI{f:Value->Value->Sem Value}{C:Int->Int->Prop}{g:Int->Int->Int}
  (rule:∀(i j:Int)(t u:Tok)(s:Shared)(Q:Value->Shared->Prop)(E:Value->Shared->Prop),C i j->Q (.int (g i j) s.toks) {s with toks:=s.toks+1}->wpAny (model X.prog X.w) X.A (f (.int i t) (.int j u)) Q E s):
  wQ X f (rI C fun i j=>.int (g i j)):=by
 intro pins s σ H x y v u Q I rx ry h
 obtain⟨i,j,rfl,rfl,hc,q⟩:=h
 obtain⟨t,rfl⟩:=rx
 obtain⟨t',rfl⟩:=ry
 exact rule i j t t' s _ _ hc ⟨.int (g i j),H,I.tok _,⟨_,rfl⟩,q⟩
theorem qS6{f:Value->Value->Sem Value}{g:Int->Int->Int}
  (rule:∀(i j:Int)(t u:Tok)(s:Shared)(Q:Value->Shared->Prop)(E:Value->Shared->Prop),Q (.int (g i j) s.toks) {s with toks:=s.toks+1}->wpAny (model X.prog X.w) X.A (f (.int i t) (.int j u)) Q E s):
  wQ X f (rI0 fun i j=>.int (g i j)):=by
 intro pins s σ H x y v u Q I rx ry h
 obtain⟨i,j,rfl,rfl,q⟩:=h
 obtain⟨t,rfl⟩:=rx
 obtain⟨t',rfl⟩:=ry
 exact rule i j t t' s _ _ ⟨.int (g i j),H,I.tok _,⟨_,rfl⟩,q⟩
theorem qS7{f:Value->Value->Sem Value}{g:Int->Int->Bool}
  (rule:∀(i j:Int)(t u:Tok)(s:Shared)(Q:Value->Shared->Prop)(E:Value->Shared->Prop),Q (.bool (g i j)) s->wpAny (model X.prog X.w) X.A (f (.int i t) (.int j u)) Q E s):
  wQ X f (rI0 fun i j=>.bl (g i j)):=by
 intro pins s σ H x y v u Q I rx ry h
 obtain⟨i,j,rfl,rfl,q⟩:=h
 obtain⟨t,rfl⟩:=rx
 obtain⟨t',rfl⟩:=ry
 exact rule i j t t' s _ _ ⟨.bl (g i j),H,I,rfl,q⟩
def CDiv(i j:Int):Prop:=0<j/\j<1073741824
def CPow(i j:Int):Prop:=0<=j/\j<=1000000/\i.natAbs<2^64
def CMul(i j:Int):Prop:=(-(2^64)<i/\i<2^64)\/(-(2^64)<j/\j<2^64)
theorem CMul.ok{i j:Int}(h:CMul i j):IntMulOk i j:=by
 rcases h with⟨h1,h2⟩|⟨h1,h2⟩
 ·exact .of_left (intBits_le_64 h1 h2)
 ·exact .of_right (intBits_le_64 h1 h2)
theorem jJ:wQ X (binaryOp .Add) (rI0 fun i j=>.int (i+j)):=qS6 fun _ _ _ _ _ _ _ q=>add_int q
theorem vZ:wQ X (binaryOp .Sub) (rI0 fun i j=>.int (i-j)):=qS6 fun _ _ _ _ _ _ _ q=>sub_int q
theorem jM:wQ X (binaryOp .Mult) (rI CMul fun i j=>.int (i*j)):=opI fun _ _ _ _ _ _ _ hc q=>mul_int q hc.ok
theorem zU:wQ X (binaryOp .FloorDiv) (rI CDiv fun i j=>.int (i/j)):=opI fun i j _ _ _ _ _ hc q=>by
 have h1:(0:Int)<j:=hc.1
 have h2:j<1073741824:=hc.2
 exact floordiv_int (by omega) (by rw[Int.fdiv_eq_ediv_of_nonneg i (by omega)];exact q) (.inl (PyProof.noPylong_small (by omega)))
theorem zM:wQ X (binaryOp .Mod) (rI (fun _ j=>0<j) fun i j=>.int (i%j)):=opI fun i j _ _ _ _ _ hc q=>by
 have h1:(0:Int)<j:=hc
 exact mod_int' (by omega) (by rw[Int.fmod_eq_emod_of_nonneg i (by omega)];exact q)
theorem qM0:wQ X (binaryOp .LShift) (rI CPow fun i j=>.int (i*2^j.toNat)):=opI fun _ _ _ _ _ _ _ hc q=>lshift_int_small hc.1 hc.2.1 hc.2.2 q
theorem unI{f:Value->Sem Value}{g:Int->Int}
  (rule:∀(i:Int)(t:Tok)(s:Shared)(Q:Value->Shared->Prop)(E:Value->Shared->Prop),Q (.int (g i) s.toks) {s with toks:=s.toks+1}->wpAny (model X.prog X.w) X.A (f (.int i t)) Q E s):
  UnR X f (rU fun i=>.int (g i)):=by
 intro pins s σ H x v Q I rx h
 obtain⟨i,rfl,q⟩:=h
 obtain⟨t,rfl⟩:=rx
 exact rule i t s _ _ ⟨.int (g i),H,I.tok _,⟨_,rfl⟩,q⟩
theorem iH:UnR X (unaryOp .USub) (rU fun i=>.int (-i)):=unI fun _ _ _ _ _ q=>neg_int q
end
def scal:V->V->Bool
 | .non,.non=>true| .non,.int _=>true| .int _,.non=>true| .non,.bl _=>true| .bl _,.non=>true| .non,.str _=>true| .str _,.non=>true
 | .int _,.int _=>true| .bl _,.bl _=>true| .str _,.str _=>true| .byt _,.byt _=>true
 | .int _,.str _=>true| .str _,.int _=>true| .bl _,.str _=>true| .str _,.bl _=>true
 |_,_=>false
def rEq:R2:=fun x y H Q=>scal x y=true/\Q (.bl (decide (x=y))) H
theorem qJ6{i j:Int}:decide (V.int i=V.int j)=(i==j):=by
 rw[Bool.eq_iff_iff]
 simp
theorem qM1{i j:Bool}:decide (V.bl i=V.bl j)=(i==j):=by
 rw[Bool.eq_iff_iff]
 simp
theorem qJ7{i j:Str}:decide (V.str i=V.str j)=(i==j):=by
 rw[Bool.eq_iff_iff]
 simp
theorem qJ8{i j:Array UInt8}:decide (V.byt i=V.byt j)=(i.toList==j.toList):=by
 rw[Bool.eq_iff_iff]
 cases i
 cases j
 simp
section
variable {X:Cx} {a b c:Expr} {ta tb tc:TE} {pos:Pos}
theorem xK{pins:List (Addr×Obj)}{σ:St}{H:Hp}{s:Shared}{Q:VK}{k k':Bool}(I:Inv X pins σ H s)(q:Q (.bl k) H)(e:k=k'):EP X pins σ Q (.bool k') s:=by
 subst e
 exact⟨.bl k,H,I,rfl,q⟩
theorem zG:wQ X (compareOp .Eq) rEq:=by
 intro pins s σ H x y v u Q I rx ry h
 obtain⟨hs,q⟩:=h
 cases x with
 |non=>
  cases rx
  cases y with
  |non=>cases ry;exact PySem.EqNone.eq_none_none (xK I q (by simp))
  |bl j=>cases ry;exact PySem.EqNone.eq_none_bool (xK I q (by simp))
  |int j=>obtain⟨t',rfl⟩:=ry;exact PySem.EqNone.eq_none_int (xK I q (by simp))
  |str j=>obtain⟨t',rfl⟩:=ry;exact PySem.EqNone.eq_none_str (xK I q (by simp))
  |_=>exact absurd (show false=true from hs) Bool.false_ne_true
 |bl i=>
  cases rx
  cases y with
  |non=>cases ry;exact PySem.EqNone.eq_bool_none (xK I q (by simp))
  |bl j=>cases ry;exact eq_bool (xK I q qM1)
  |str j=>obtain⟨t',rfl⟩:=ry;exact PySem.EqMixed.eq_bool_str (xK I q (by simp))
  |_=>exact absurd (show false=true from hs) Bool.false_ne_true
 |int i=>
  obtain⟨t,rfl⟩:=rx
  cases y with
  |non=>cases ry;exact PySem.EqNone.eq_int_none (xK I q (by simp))
  |int j=>obtain⟨t',rfl⟩:=ry;exact eq_int (xK I q qJ6)
  |str j=>obtain⟨t',rfl⟩:=ry;exact PySem.EqMixed.eq_int_str (xK I q (by simp))
  |_=>exact absurd (show false=true from hs) Bool.false_ne_true
 |str i=>
  obtain⟨t,rfl⟩:=rx
  cases y with
  |non=>cases ry;exact PySem.EqNone.eq_str_none (xK I q (by simp))
  |bl j=>cases ry;exact PySem.EqMixed.eq_str_bool (xK I q (by simp))
  |int j=>obtain⟨t',rfl⟩:=ry;exact PySem.EqMixed.eq_str_int (xK I q (by simp))
  |str j=>obtain⟨t',rfl⟩:=ry;exact eq_str (xK I q qJ7)
  |_=>exact absurd (show false=true from hs) Bool.false_ne_true
 |byt i=>
  obtain⟨t,rfl⟩:=rx
  cases y with
  |byt j=>obtain⟨t',rfl⟩:=ry;exact PySem.W.eq_bytes (xK I q qJ8)
  |_=>exact absurd (show false=true from hs) Bool.false_ne_true
 |_=>cases y<;>exact absurd (show false=true from hs) Bool.false_ne_true
theorem qS8:wQ X (compareOp .Lt) (rI0 fun i j=>.bl (decide (i<j))):=qS7 fun _ _ _ _ _ _ _ q=>lt_int q
theorem bX:wQ X (compareOp .Gt) (rI0 fun i j=>.bl (decide (j<i))):=qS7 fun _ _ _ _ _ _ _ q=>gt_int q
theorem nomark(b:Expr){op:CmpOp}(h:op≠ .In:=by decide)(h2:op≠ .NotIn:=by decide):behindInMarks op b=false:=by
 have e1:(op==CmpOp.In)=false:=by cases op<;>first|rfl|exact absurd rfl h
 have e2:(op==CmpOp.NotIn)=false:=by cases op<;>first|rfl|exact absurd rfl h2
 cases b<;>simp[behindInMarks,e1,e2]
theorem zS{op:CmpOp}{r:R2}(ho:wQ X (compareOp op) r)(ha:PE X a ta)(hb:PE X b tb)(hm:behindInMarks op b=false):PE X (.Compare a [op] [b] pos) (pZ r ta tb):=by
 intro pins s σ H Q I h
 exact wpAny_Compare1 (qGj ha hb I h fun v u s2 x y H2 I2 rx ry q=>ho pins s2 σ H2 x y v u Q I2 rx ry q) hm
inductive iP(Q:Bool->Hp->Prop)(x:V)(H':Hp):Prop
 |mk (k:_) (a_0:x= .bl k) (a_1:Q k H'):iP Q x H'
def qO3(t:TE):TT:=fun σ H Q=>t σ H fun x H'=>iP Q x H'
theorem qM{op:CmpOp}{r:R2}(ho:wQ X (compareOp op) r)(ha:PE X a ta)(hb:PE X b tb)(hm:behindInMarks op b=false):PT X (.Compare a [op] [b] pos) (qO3 (pZ r ta tb)):=by
 intro pins s σ H Q I h
 refine wpAny_isTrue_Compare1 (thn (ha pins s σ H _ I h) fun v s1⟨x,H1,I1,r1,q1⟩=>thn (hb pins s1 σ H1 _ I1 q1) fun u s2⟨y,H2,I2,r2,q2⟩=>
  thn (ho pins s2 σ H2 x y v u _ I2 r1 r2 q2) fun c s3⟨z,H3,I3,r3,k,e,q3⟩=>?_) hm
 subst e
 cases r3
 exact wpAny_truthy_bool ⟨H3,I3,q3⟩
theorem line63:(sizeLine:Nat)<2^63:=by rw[sizeLine_eq];decide
theorem vals1{x:V}{us:List Value}(r:Vals [x] us):∃u,us=[u]/\zY x u:=by
 cases r with
 |cons r1 r2=>cases r2;exact⟨_,rfl,r1⟩
theorem vals2{x y:V}{us:List Value}(r:Vals [x,y] us):∃u w',us=[u,w']/\zY x u/\zY y w':=by
 cases r with
 |cons r1 r2=>
  cases r2 with
  |cons r3 r4=>cases r4;exact⟨_,_,rfl,r1,r3⟩
theorem pJ(hc:X.calm=true):kJ X (.builtin "max") (fun xs H Q=>∃i j,xs=[.int i,.int j]/\Q (.int (if j>i then j else i)) H):=by
 intro pins s σ H xs us Q I r h
 obtain⟨i,j,rfl,q⟩:=h
 obtain⟨u,w',rfl,⟨t,rfl⟩,⟨t',rfl⟩⟩:=vals2 r
 refine max_two_ints (I.ok.hd hc) fun h' tk k=>⟨_,H,I.kept k,?_,q⟩
 by_cases hj:j>i
 ·rw[if_pos hj,if_pos hj];exact⟨_,rfl⟩
 ·rw[if_neg hj,if_neg hj];exact⟨_,rfl⟩
theorem pX(hc:X.calm=true):kJ X (.builtin "min") (fun xs H Q=>∃i j,xs=[.int i,.int j]/\Q (.int (if j<i then j else i)) H):=by
 intro pins s σ H xs us Q I r h
 obtain⟨i,j,rfl,q⟩:=h
 obtain⟨u,w',rfl,⟨t,rfl⟩,⟨t',rfl⟩⟩:=vals2 r
 refine min_two_ints (I.ok.hd hc) fun h' tk k=>⟨_,H,I.kept k,?_,q⟩
 by_cases hj:j<i
 ·rw[if_pos hj,if_pos hj];exact⟨_,rfl⟩
 ·rw[if_neg hj,if_neg hj];exact⟨_,rfl⟩
theorem zA:kJ X (.type "int") (fun xs H Q=>(∃i,xs=[.int i]/\Q (.int i) H)\/∃k,xs=[.bl k]/\Q (.int (if k then 1 else 0)) H):=by
 intro pins s σ H xs us Q I r h
 rcases h with⟨i,rfl,q⟩|⟨k,rfl,q⟩
 ·obtain⟨u,rfl,t,rfl⟩:=vals1 r
  exact call_int_int ⟨.int i,H,I,⟨_,rfl⟩,q⟩
 ·obtain⟨u,rfl,r1⟩:=vals1 r
  cases r1
  exact call_int_bool ⟨.int (if k then 1 else 0),H,I.tok _,⟨_,rfl⟩,q⟩
end
section
variable {prog:Program} {w:World} {A:Around} {E:Value->Shared->Prop} {s:Shared} {K:Fg} {x dx C f:Addr} {mA:Str->Option Value} {name:Str} {v:Value}
end
theorem vS.some_of{v:V}{o:Option Value}(r:vS (some v) o):∃u,o=some u/\zY v u:=by
 cases o with
 |none=>exact(show False from r).elim
 |some u=>exact⟨u,rfl,r⟩
theorem pK{v:V}{u:Value}(r:zY v u):PySem.W.handedIn u=true:=by
 cases v with
 |non=>cases (show u=Value.none from r);rfl
 |bl b=>cases (show u=Value.bool b from r);rfl
 |int i=>obtain⟨t,e⟩:=(show∃t,u=Value.int i t from r);cases e;rfl
 |str x=>obtain⟨t,e⟩:=(show∃t,u=Value.str x t from r);cases e;rfl
 |byt b=>obtain⟨t,e⟩:=(show∃t,u=Value.bytes b t from r);cases e;rfl
 |flt b=>obtain⟨t,e⟩:=(show∃t,u=Value.float b t from r);cases e;rfl
 |ref a=>cases (show u=Value.ref a from r);rfl
 |ty n=>cases (show u=Value.type n from r);rfl
section
variable {P:Program} {w:World} {H H':Hp} {h h':Heap} {a C dx:Addr} {fs fs':List (Str×V)}
end
def uO(K:Fg)(C:Addr)(f:Str):Prop:=PySem.W.findIn K (.ref C) f=some none
section
variable {X:Cx} {pins:List (Addr×Obj)} {σ:St} {H:Hp} {s:Shared} {a C dx:Addr} {fs:List (Str×V)} {f:Str} {v:V} {A:Around} {E:Value->Shared->Prop}
theorem qJ9{prog:Program}{w:World}{env:Env}{e:Expr}{f:Str}{pos:Pos}{s:Shared}{Q:Value->Shared->Prop}(hb:attributeBase e f env (eval e env)=eval e env)
  (h:wpAny (model prog w) A (eval e env) (fun o s₁=>wpAny (model prog w) A (getAttr o f true) Q E s₁) E s):wpAny (model prog w) A (eval (.Attribute e f pos) env) Q E s:=
 Attribute_any_ h (by rw[arm_eval_Attribute,hb])
end
section
variable {X:Cx} {o e value:Expr} {f:Str} {pos pos' tpos:Pos} {ta tv:TE}
end
section
variable {X:Cx} {pins:List (Addr×Obj)} {σ:St} {H:Hp} {s:Shared} {A:Around} {E:Value->Shared->Prop} {Q:Value->Shared->Prop} {c:Value} {b:Bool}
end
structure Room(k:Nat)(A:Around):Prop where
 hd:A.handled=none
 dp:A.depth+3*k+5<recursionLimit
 un:A.units+16*k+200<cLine
theorem Room.mono{j k:Nat}{A:Around}(r:Room k A)(h:j<=k):Room j A:=⟨r.hd,by have :=r.dp;omega,by have :=r.un;omega⟩
theorem Room.deeper{k:Nat}{A:Around}(r:Room (k+1) A)(env:Env):Room k (A.deeper env):=
 ⟨r.hd,by have :=r.dp;show A.depth+1+3*k+5<_;omega,by have :=r.un;show A.units+3+16*k+200<_;omega⟩
theorem mM{A:Around}{C:Addr}{us:List Value}{kw:List (Str×Value)}:(A.under (.builtin "type.__call__" ⟨.ref C::us,kw⟩)).depth=A.depth+1:=by
 first|rfl|simp[Around.under,Code.weight,Code.isCreation,Code.isGuard,Code.isCaller,Code.frames,Code.isFrame,guardIds]
theorem mN{A:Around}{C:Addr}{us:List Value}{kw:List (Str×Value)}:(A.under (.builtin "type.__call__" ⟨.ref C::us,kw⟩)).units=A.units+1:=by
 first|rfl|simp[Around.under,Code.cUnits,Code.frames,Code.isFrame]
theorem Room.make{k:Nat}{A:Around}(r:Room (k+1) A)(C:Addr)(us:List Value)(kw:List (Str×Value)):Room k (A.under (.builtin "type.__call__" ⟨.ref C::us,kw⟩)):=
 ⟨r.hd,by have :=r.dp;rw[mM];omega,by have :=r.un;rw[mN];omega⟩
theorem Room.depth{k:Nat}{A:Around}(r:Room k A):A.depth<recursionLimit:=by have :=r.dp;omega
theorem Room.units0{k:Nat}{A:Around}(r:Room k A):A.units<cLine:=by have :=r.un;omega
def wI:TA:=fun _ H Q=>Q [] H
def jL(ta:TE)(tr:TA):TA:=fun σ H Q=>ta σ H fun x H1=>tr σ H1 fun xs H2=>Q (x::xs) H2
section
variable {X:Cx} {e:Expr} {es:List Expr} {te:TE} {t:TA} {pos:Pos}
theorem qJ:PA X [] wI:=fun _ _ _ _ H Q I h=>Calls.spliced_nil ⟨[],H,I,.nil,h⟩
theorem qQ(ha:PE X e te)(hr:PA X es t)(hs:starEach (e::es) X.env=(false,eval e X.env)::starEach es X.env:=by rfl):PA X (e::es) (jL te t):=by
 intro pos pins s σ H Q I h
 rw[hs]
 show wpAny _ _ (spliced ((false,eval e X.env)::backTo pos (starEach es X.env))) _ _ s
 refine Calls.spliced_cons (thn (ha pins s σ H _ I h) fun u s1⟨x,H1,I1,r1,q1⟩=>?_)
 exact thn (hr pos pins s1 σ H1 _ I1 q1) fun us s2⟨xs,H2,I2,r2,q2⟩=>⟨x::xs,H2,I2,.cons r1 r2,q2⟩
def mD(t:TA):TE:=fun σ H Q=>t σ H fun xs H1=>xs.length<=sizeLine/\∀p,H1 p=none->Q (.ref p) (upd H1 p (.tup xs))
def qJq(t:TA):TE:=fun σ H Q=>t σ H fun xs H1=>xs.length<=sizeLine/\∀p,H1 p=none->Q (.ref p) (upd H1 p (.lst xs))
theorem qF{x1}(h:PA X es t):PE X (.Tuple es x1 pos) (mD t):=by
 intro pins s σ H Q I hq
 refine wpAny_Tuple_spliced (thn (h pos pins s σ H _ I hq) fun us s1⟨xs,H1,I1,r,z,q⟩=>⟨by rw[<-r.length];exact z,?_⟩)
 have hf:H1 s1.heap.objs.size=none:=I1.hok.fresh (aq7 _)
 refine⟨.ref s1.heap.objs.size,upd H1 s1.heap.objs.size (.tup xs),I1.laid (t':=s1.toks) (fun b u e=>aq13 _ e) (aq7 _) ?_,rfl,q _ hf⟩
 exact⟨z,us,r,⟨_,aq14 _ rfl,rfl,_,rfl⟩⟩
theorem qT(h:PA X es t):PE X (.List es pos) (qJq t):=by
 intro pins s σ H Q I hq
 refine wpAny_List_spliced (thn (h pos pins s σ H _ I hq) fun us s1⟨xs,H1,I1,r,z,q⟩=>⟨by rw[<-r.length];exact z,?_⟩)
 have hf:H1 s1.heap.objs.size=none:=I1.hok.fresh (aq7 _)
 refine⟨.ref s1.heap.objs.size,upd H1 s1.heap.objs.size (.lst xs),I1.laid (t':=s1.toks) (fun b u e=>aq13 _ e) (aq7 _) ?_,rfl,q _ hf⟩
 exact⟨z,us,0,r,aq14 _ rfl⟩
end
abbrev Sp:=List V->Hp->VK->XK->Prop
abbrev CXT:=List Env->Hp->Shared->XK->Value->Shared->Prop
structure Env0(P:Program)(w:World)(K:Fg)(mg:Str->Option Value)(base:Heap)(A:Around)(outer:List Env)(s:Shared)(H:Hp):Prop where
 frames:A.frames=some outer
 mod:Mod K mg base
 bs:∀b o,base.get? b=some o->s.heap.get? b=some o/\H b=none
 bsz:base.objs.size<=s.heap.objs.size
 funs:s.heap.FunFrames base outer
 frf:∀b∈frs outer,H b=none
 hok:HOk P w H s.heap
 bare:AllBare s.gens
def CE(outer:List Env)(P:Program)(w:World)(H:Hp)(s:Shared)(Q:VK)(u:Value)(s':Shared):Prop:=
 ∃v H',s'.os=s.os/\AllBare s'.gens/\Un (frs outer) [] H H' s.heap s'.heap/\HOk P w H' s'.heap/\zY v u/\Q v H'
def CR(CX:CXT)(outer:List Env)(P:Program)(w:World)(H:Hp)(s:Shared)(Q:VK)(E:XK)(r:Result)(s':Shared):Prop:=
 match r with
 | .ok (.ret u)=>CE outer P w H s Q u s'
 | .ok _=>False
 | .error e=>CX outer H s E e s'
structure zC(P:Program)(w:World)(K:Fg)(mg:Str->Option Value)(base:Heap)(CX:CXT)(k:Nat)(f:Addr)(fd:FuncData)(ps:List Str)(sp:Sp):Prop where
 len:∀vs H Q E,sp vs H Q E->vs.length=ps.length
 run:∀(A:Around)(outer:List Env)(s:Shared)(H:Hp)(args:Args)(us:List Value)(vs:List V)(Q:VK)(E:XK),Room k A->Env0 P w K mg base A outer s H->BindsTo s fd args (ps.zip us)->Vals vs us->sp vs H Q E->
  codeAny (model P w) A (.call (.ref f) args) (CR CX outer P w H s Q E) s
theorem zC.mono{P:Program}{w:World}{K:Fg}{mg:Str->Option Value}{base:Heap}{CX:CXT}{j k:Nat}{f:Addr}{fd:FuncData}{ps:List Str}{sp:Sp}(F:zC P w K mg base CX j f fd ps sp)(h:j<=k):
  zC P w K mg base CX k f fd ps sp:=⟨F.len,fun A outer s H args us vs Q E hr=>F.run A outer s H args us vs Q E (hr.mono h)⟩
theorem zC.imp{P:Program}{w:World}{K:Fg}{mg:Str->Option Value}{base:Heap}{CX:CXT}{k:Nat}{f:Addr}{fd:FuncData}{ps:List Str}{sp sp':Sp}(F:zC P w K mg base CX k f fd ps sp)
  (h:∀vs H Q E,sp' vs H Q E->sp vs H Q E):zC P w K mg base CX k f fd ps sp':=
 ⟨fun vs H Q E q=>F.len vs H Q E (h _ _ _ _ q),fun A outer s H args us vs Q E hr he hb hv hs=>F.run A outer s H args us vs Q E hr he hb hv (h _ _ _ _ hs)⟩
theorem Env0.make{P:Program}{w:World}{K:Fg}{mg:Str->Option Value}{base:Heap}{A:Around}{outer:List Env}{s:Shared}{H:Hp}(e:Env0 P w K mg base A outer s H)(C:Addr)(us:List Value)(kw:List (Str×Value)):
  Env0 P w K mg base (A.under (.builtin "type.__call__" ⟨.ref C::us,kw⟩)) outer s H:=⟨by first|exact e.frames|(simpa[Around.under,Code.envs,Code.isFrame,pushEnvs]using e.frames),e.mod,e.bs,e.bsz,e.funs,e.frf,e.hok,e.bare⟩
section
variable {X:Cx} {pins:List (Addr×Obj)} {σ:St} {H:Hp} {s s':Shared}
theorem Inv.env0(I:Inv X pins σ H s):Env0 X.prog X.w X.K X.mg X.base X.A X.stack s H:=
 ⟨I.ok.frames,I.ok.mod,I.bs,Nat.le_trans I.ok.bsz I.sz,I.stack,I.stkFree,I.hok,I.bare⟩
theorem Inv.after{Q:VK}{u:Value}(I:Inv X pins σ H s)(h:CE X.stack X.prog X.w H s Q u s'):EP X pins σ Q u s':=by
 obtain⟨v,H',os,bare,un,hok,r,q⟩:=h
 obtain⟨hh,g,d,t,os'⟩:=s'
 obtain rfl:os'=s.os:=os
 exact⟨v,H',I.call (h':=hh) (g':=g) (d':=d) (t':=t) (ch:=[]) un hok bare (fun b z=>absurd z (by simp)),r,q⟩
end
def uI(sp:Sp)(dvs:List V)(E:XK)(t:TA):TE:=fun σ H Q=>t σ H fun vs H1=>sp (vs++dvs) H1 Q E
def Binds(K:Fg)(fd:FuncData)(ps:List Str)(ds:List Value):Prop:=
 ∀(s:Shared)(us:List Value),K.In s.heap->(us++ds).length=ps.length->BindsTo s fd ⟨us,[]⟩ (ps.zip (us++ds))
def Passes(CX:CXT)(X:Cx)(E:XK):Prop:=∀(pins:List (Addr×Obj))(σ:St)(H:Hp)(s:Shared)(e:Value)(s':Shared),Inv X pins σ H s->CX X.stack H s E e s'->X.xe e s'
section
variable {X:Cx} {CX:CXT} {k:Nat} {f C:Addr} {fd:FuncData} {ps:List Str} {sp:Sp} {dvs:List V} {ds:List Value} {E:XK} {x m:Str} {p pos apos:Pos} {e o:Expr} {es:List Expr} {ta:TE} {t:TA}
theorem rD{pins:List (Addr×Obj)}{σ:St}{H:Hp}{s:Shared}{Q:VK}{us:List Value}{vs:List V}(F:zC X.prog X.w X.K X.mg X.base CX k f fd ps sp)(hr:Room k X.A)(hb:Binds X.K fd ps ds)(hd:Vals dvs ds)(hx:Passes CX X E)
  (I:Inv X pins σ H s)(r:Vals vs us)(h:sp (vs++dvs) H Q E):wpAny (model X.prog X.w) X.A (call (.ref f) us) (EP X pins σ Q) X.xe s:=by
 have r2:Vals (vs++dvs) (us++ds):=r.append hd
 have hl:(us++ds).length=ps.length:=by rw[<-r2.length];exact F.len _ _ _ _ h
 refine wpAny_call (codeAny_mono (F.run X.A X.stack s H ⟨us,[]⟩ (us++ds) (vs++dvs) Q E hr I.env0 (hb s us I.kIn hl) r2 h) fun r s' hq=>?_)
 cases r with
 |error e=>exact hx pins σ H s e s' I hq
 |ok fl=>
  cases fl with
  |ret u=>exact I.after hq
  |next=>exact False.elim hq
  |brk=>exact False.elim hq
  |cont=>exact False.elim hq
theorem yE(F:zC X.prog X.w X.K X.mg X.base CX k f fd ps sp)(hr:Room k X.A)(hg:Gl X x)(hm:X.mg x=some (.ref f))(hk:PySem.W.keepIn X.K (.ref f)=true)(hb:Binds X.K fd ps ds)(hd:Vals dvs ds)(hx:Passes CX X E)
  (ha:PA X (e::es) t)(hdb:(x==("__debug__":Str))=false:=by decide)(he:starEach (e::es) X.env=(false,eval e X.env)::starEach es X.env:=by rfl)(hpl:(backTo pos (starEach es X.env)).any (·.1)=false:=by rfl):
  PE X (.Call (.Name x p) (e::es) [] pos) (uI sp dvs E t):=by
 intro pins s σ H Q I h
 refine wpAny_Call_Name_kw (xF I hg hm ?_ hdb)
 refine PySem.W.callWith_K (h₀:=X.base) I.ok.mod.kin hk (thn (ha pos pins s σ H _ I h) fun us s1⟨vs,H1,I1,r,q⟩=>⟨I1.kIn,?_⟩) he hpl
 exact rD F hr hb hd hx I1 r q
end
section
variable {X:Cx} {CX:CXT} {k:Nat} {f C:Addr} {fd:FuncData} {ps ks:List Str} {sp:Sp} {E:XK} {x m:Str} {p pos apos kpos:Pos} {e o:Expr} {es:List Expr} {kws:List Keyword} {te ta:TE} {t tk:TA} {nm:Option Str}
variable {g:List Value->List Value->List Value} {gV:List V->List V->List V}
end
structure zQ(N P:List Str)(sc:Scope):Prop where
 kind:sc.kind= .function
 co:sc.isCoroutine=false
 gen:sc.isGenerator=false
 nd:N.Nodup
 pre:N.take P.length=P
 par:∀x∈P,sc.names.lookup x=some .local\/sc.names.lookup x=some .cell
 nofree:∀y∈sc.names,y.2≠ .free
theorem oP{kindOf:Str->Option NameKind}{x:Str}:∀{binds:List (Str×Value)}{m:Str->Option Value},(∀v,(x,v)∉binds)->bindL kindOf binds m x=m x
 |[],_,_=>rfl
 |(n,v)::r,m,h=>by
  unfold bindL
  rw[oP fun w hw=>h w (aq10 _ hw)]
  split
  ·have :x≠n:=by rintro rfl;exact h v aq22
   simp[this]
  ·rfl
theorem oR{kindOf:Str->Option NameKind}{x:Str}:∀{binds:List (Str×Value)}{m:Str->Option Value},(∀v,(x,v)∉binds)->bindC kindOf binds m x=m x
 |[],_,_=>rfl
 |(n,v)::r,m,h=>by
  unfold bindC
  rw[oR fun w hw=>h w (aq10 _ hw)]
  split
  ·rfl
  ·have :x≠n:=by rintro rfl;exact h v aq22
   simp[this]
theorem oS{kindOf:Str->Option NameKind}{x:Str}{v:Value}:∀{P:List Str}{vs:List Value}{i:Nat}{m:Str->Option Value},P.Nodup->P[i]? =some x->vs[i]? =some v->kindOf x=some .local->
  bindL kindOf (P.zip vs) m x=some v
 |[],_,_,_,_,h,_,_=>by simp at h
 |_::_,[],_,_,_,_,h,_=>by simp at h
 |p::P,w::vs,0,m,nd,h1,h2,hk=>by
  simp at h1 h2;subst h1;subst h2
  show bindL kindOf ((p,w)::P.zip vs) m p=_
  unfold bindL
  rw[oP fun v hv=>(List.nodup_cons.mp nd).1 (List.of_mem_zip hv).1,if_pos hk]
  simp
 |p::P,w::vs,i+1,m,nd,h1,h2,hk=>by
  show bindL kindOf ((p,w)::P.zip vs) m x=_
  unfold bindL
  exact oS (i:=i) (List.nodup_cons.mp nd).2 (by simpa using h1) (by simpa using h2) hk
theorem oA{kindOf:Str->Option NameKind}{x:Str}{v:Value}:∀{P:List Str}{vs:List Value}{i:Nat}{m:Str->Option Value},P.Nodup->P[i]? =some x->vs[i]? =some v->kindOf x≠some .local->
  bindC kindOf (P.zip vs) m x=some v
 |[],_,_,_,_,h,_,_=>by simp at h
 |_::_,[],_,_,_,_,h,_=>by simp at h
 |p::P,w::vs,0,m,nd,h1,h2,hk=>by
  simp at h1 h2;subst h1;subst h2
  show bindC kindOf ((p,w)::P.zip vs) m p=_
  unfold bindC
  rw[oR fun v hv=>(List.nodup_cons.mp nd).1 (List.of_mem_zip hv).1,if_neg hk]
  simp
 |p::P,w::vs,i+1,m,nd,h1,h2,hk=>by
  show bindC kindOf ((p,w)::P.zip vs) m x=_
  unfold bindC
  exact oA (i:=i) (List.nodup_cons.mp nd).2 (by simpa using h1) (by simpa using h2) hk
def start(N:List Str)(vs:List V):St:=vs.map some++List.replicate (N.length-vs.length) none
def jN(CX:CXT)(P:Program)(w:World)(K:Fg)(mg:Str->Option Value)(base:Heap)(N:List Str)(qual:Str)(scope:Scope)(f:Addr)(cd:Value)(A:Around)(outer:List Env)(s:Shared)(H:Hp)(E:XK):Cx where
 prog:=P
 w:=w
 K:=K
 mg:=mg
 base:=base
 A:=A.deeper (envOfC qual scope s.heap.objs.size f cd)
 N:=N
 s₀:=s
 H₀:=H
 env:=envOfC qual scope s.heap.objs.size f cd
 outer:=outer
 stack:=envOfC qual scope s.heap.objs.size f cd::outer
 ex:=[]
 calm:=true
 fn:=fun _=>true
 pn:=[]
 xe:=fun e s'=>wpAny (model P w) (A.deeper (envOfC qual scope s.heap.objs.size f cd)) (leaving (envOfC qual scope s.heap.objs.size f cd) e) (fun _ s''=>CX outer H s E e s'') (fun e' s''=>CX outer H s E e' s'') s'
theorem lJ{sc:Scope}{n:Nat}{x:Str}(h:sc.names.lookup x=some .cell):∃c,(cellsFrom n sc.names []).lookup x=some c:=by
 have q:=PySem.W.cellsFrom_some sc.names n [] (.inl h)
 exact Option.isSome_iff_exists.mp q
theorem yY{CX:CXT}{P:Program}{w:World}{K:Fg}{mg:Str->Option Value}{base:Heap}{N ps:List Str}{qual:Str}{scope:Scope}{f:Addr}{cd:Value}{A:Around}{outer:List Env}{s s1:Shared}{H:Hp}{E:XK}{us:List Value}{vs:List V}
  (S:zQ N ps scope)(hd:A.handled=none)(e0:Env0 P w K mg base A outer s H)(hl:vs.length=ps.length)(r:Vals vs us)
  (x:InCallC s s.heap.objs.size (bindL (envOfC qual scope s.heap.objs.size f cd).kindOf (ps.zip us) fun _=>none) (cellsFrom (s.heap.objs.size+1) scope.names []) (bindC (envOfC qual scope s.heap.objs.size f cd).kindOf (ps.zip us) fun _=>none) s1):
  Inv (jN CX P w K mg base N qual scope f cd A outer s H E) [] (start N vs) H s1:=by
 have hpl:ps.length<=N.length:=by have :=congrArg List.length S.pre;rw[List.length_take]at this;omega
 obtain⟨h1,tk,rfl,hk⟩:=x.done
 have noA:∀b:Addr,b∉(jN CX P w K mg base N qual scope f cd A outer s H E).ex:=fun b z=>absurd (show b∈([]:List Addr)from z) (by simp)
 refine⟨⟨e0.mod,S.kind,rfl,rfl,aq7 _,fun y z c h1 h2=>?_,fun y hy=>?_,fun y c _ h=>?_,fun _=>hd,Around.frames_deeper e0.frames,.inr ⟨rfl,rfl⟩,fun b z=>absurd z (noA b),e0.bs,e0.bsz,fun b _ _=>noA b,fun b z=>absurd z (noA b),e0.funs,e0.frf⟩,
  rfl,e0.bare,Un.kept hk,⟨_,x.toInCall.ns,fun i y v h1 h2 h3=>?_⟩,fun y c h=>⟨_,x.cell y c h⟩,e0.hok.fresh (aq7 _),fun y c h=>?_,fun p hp=>absurd (show p∈([]:List (Addr×Obj))from hp) (by simp),e0.hok.kept hk,?_⟩
 ·exact name_of_addr x.apart (PySem.mem_of_lookup h1) (PySem.mem_of_lookup h2)
 ·have hy:scope.names.lookup y=some .cell\/scope.names.lookup y=some .free:=hy
  rcases hy with hy|hy
  ·exact lJ hy
  ·exact absurd rfl (S.nofree _ (PySem.mem_of_lookup hy))
 ·exact Nat.le_of_lt (x.above y c (PySem.mem_of_lookup h))
 ·have hi:i<vs.length:=by
   unfold start at h2
   by_cases hi:i<vs.length
   ·exact hi
   ·rw[List.getElem?_append_right (by simpa using hi)]at h2
    rw[List.getElem?_replicate]at h2
    split at h2<;>cases h2
  have ha:vs[i]? =some v:=by
   unfold start at h2
   rw[List.getElem?_append_left (by simpa using hi),aq19]at h2
   cases e:vs[i]?with
   |none=>rw[e]at h2;cases h2
   |some a=>rw[e]at h2;cases h2;rfl
  obtain⟨u,hu,rv⟩:=r.get ha
  have hp:ps[i]? =some y:=by
   rw[<-S.pre,List.getElem?_take_of_lt (by omega)];exact h1
  have ndP:ps.Nodup:=by rw[<-S.pre];exact S.nd.sublist (List.take_sublist _ _)
  refine⟨u,rv,?_⟩
  rcases S.par y (aq23 hp)with k|k
  ·exact .inl ⟨k,oS ndP hp hu k⟩
  ·obtain⟨c,e⟩:=lJ (n:=s.heap.objs.size+1) k
   refine .inr ⟨.inl k,c,e,?_⟩
   have q:=x.cell y c e
   rw[oA ndP hp hu (by show scope.names.lookup y≠_;rw[k];decide)]at q
   exact q
 ·exact e0.hok.fresh (Nat.le_of_lt (x.above y c (PySem.mem_of_lookup h)))
 ·unfold start
  show _=N.length
  rw[List.length_append,aq16,List.length_replicate]
  omega
theorem qO4{CX:CXT}{P:Program}{w:World}{K:Fg}{mg:Str->Option Value}{base:Heap}{k:Nat}{f:Addr}{name qual:Str}{params:Arguments}{body:List Stmt}{scope:Scope}{dV kV doc pm cdv ct oc:Value}{an od:Option Addr}
  {osl:Array (Option Value)}{N ps:List Str}{sp:Sp}(lk:K.lookup f=some ⟨oc,od,.func (PySem.W.fnOf name qual params body scope dV kV doc pm an cdv ct),osl⟩)(hcd:PySem.W.codeIn K cdv qual=true)(S:zQ N ps scope)
  (len:∀vs H Q E,sp vs H Q E->vs.length=ps.length)
  (hbody:∀(A:Around)(outer:List Env)(s:Shared)(H:Hp)(vs:List V)(Q:VK)(E:XK),Room k (A.deeper (envOfC qual scope s.heap.objs.size f cdv))->sp vs H Q E->
   ∃t,PSs (jN CX P w K mg base N qual scope f cdv A outer s H E) body t/\t {nx:=fun _ H'=>Q .non H',rt:=Q} (start N vs) H):
  zC P w K mg base CX (k+1) f (PySem.W.fnOf name qual params body scope dV kV doc pm an cdv ct) ps sp:=by
 refine⟨len,fun A outer s H args us vs Q E hr e0 hb r hsp=>?_⟩
 have hl:=len _ _ _ _ hsp
 have KX:K.In s.heap:=e0.mod.kin.keeps fun b o e=>(e0.bs b o e).1
 have lim:s.heap.NoLimit:=e0.mod.nolimit.keeps fun b o e=>(e0.bs b o e).1
 have hkind:∀y∈ps.zip us,scope.names.lookup y.1=some .local\/(scope.names.lookup y.1=some .cell/\((cellsFrom (s.heap.objs.size+1) scope.names []).lookup y.1).isSome=true):=fun⟨n,v⟩hy=>by
  rcases S.par n (List.of_mem_zip hy).1 with q|q
  ·exact .inl q
  ·exact .inr ⟨q,PySem.W.cellsFrom_some _ _ _ (.inl q)⟩
 refine codeAny_call_function hr.depth (KX _ _ lk) rfl S.co S.gen rfl (PySem.W.codeRec_of KX hcd) (hb _ _ _ _ ?_)
 refine wpAny_newFunctionEnv_cells S.kind hkind fun env he s1 x=>?_
 subst he
 refine⟨lim.keeps x.toInCall.keep,codeAny_func ?_⟩
 obtain⟨t,ht,hq⟩:=hbody A outer s H vs Q E (hr.deeper _) hsp
 have I:Inv (jN CX P w K mg base N qual scope f cdv A outer s H E) [] (start N vs) H s1:=yY S hr.hd e0 hl r x
 refine wpAny_mono (ht [] s1 (start N vs) H _ I hq) (fun fl s' hs=>?_) fun e s' hs=>hs
 have fin:∀{σ':St}{H':Hp}{v:V}{u:Value},Inv (jN CX P w K mg base N qual scope f cdv A outer s H E) [] σ' H' s'->zY v u->Q v H'->CE outer P w H s Q u s':=
  fun {σ' H' v u}J rv q=>⟨v,H',J.os,J.bare,J.base,J.hok,rv,q⟩
 cases fl with
 |ret u=>
  obtain⟨v,σ',H',J,rv,q⟩:=hs
  exact fin J rv q
 |next=>
  obtain⟨σ',H',J,q⟩:=hs
  exact fin (v:=V.non) (u:=Value.none) J rfl q
 |brk=>
  obtain⟨_,_,_,q⟩:=hs
  exact False.elim q
 |cont=>
  obtain⟨_,_,_,q⟩:=hs
  exact False.elim q
section
variable {X:Cx} {x:Str} {p pos:Pos} {e:Expr} {es:List Expr} {t:TA} {id T:String} {r:List V->Hp->VK->Prop}
def tCB(r:List V->Hp->VK->Prop)(t:TA):TE:=fun σ H Q=>t σ H fun vs H1=>r vs H1 Q
theorem zW(hc:kJ X (.builtin id) r)(hg:Gl X x)(hm:X.mg x=none)(hv:bootBuiltins x=some (.builtin id))(ha:PA X (e::es) t)(hn:x≠"__name__":=by decide)(hdb:(x==("__debug__":Str))=false:=by decide)
  (he:starEach (e::es) X.env=(false,eval e X.env)::starEach es X.env:=by rfl)(hpl:(backTo pos (starEach es X.env)).any (·.1)=false:=by rfl):PE X (.Call (.Name x p) (e::es) [] pos) (tCB r t):=by
 intro pins s σ H Q I h
 refine wpAny_Call_Name_kw (kE I hg hm hv ?_ hn hdb)
 exact PyProof.Rows.callWith_builtin1 (thn (ha pos pins s σ H _ I h) fun us s1⟨vs,H1,I1,r1,q1⟩=>hc pins s1 σ H1 vs us Q I1 r1 q1) he hpl
theorem zD(hc:kJ X (.type T) r)(hg:Gl X x)(hm:X.mg x=none)(hv:bootBuiltins x=some (.type T))(ha:PA X (e::es) t)(hn:x≠"__name__":=by decide)(hdb:(x==("__debug__":Str))=false:=by decide)
  (he:starEach (e::es) X.env=(false,eval e X.env)::starEach es X.env:=by rfl)(hpl:(backTo pos (starEach es X.env)).any (·.1)=false:=by rfl):PE X (.Call (.Name x p) (e::es) [] pos) (tCB r t):=by
 intro pins s σ H Q I h
 refine wpAny_Call_Name_kw (kE I hg hm hv ?_ hn hdb)
 exact PyProof.Rows.callWith_type1 (thn (ha pos pins s σ H _ I h) fun us s1⟨vs,H1,I1,r1,q1⟩=>hc pins s1 σ H1 vs us Q I1 r1 q1) he hpl
end
end L2
namespace HT
open PySem PyProof.Rows
section
open PySem.SeqAt
open PySem.AutoSeq1 (wpAny_loadPart')
open PySem.MeetsSeq PySem.MeetsSeq2 PySem.MeetsSeq3
end
section
variable {prog:Program} {w:World} {A:Around} {E:Value->Shared->Prop} {s:Shared}
theorem cat_tup{t b:Addr}{vs ws:List Value}{Q:Value->Shared->Prop}(ht:IsTup s.heap t vs.toArray)(hb:IsTup s.heap b ws.toArray)(hv:vs≠[])
  (h1:ws=[]->Q (.ref t) s)(h2:ws≠[]->Q (.ref s.heap.objs.size) {s with heap:=s.heap.push {cls:=.type "tuple",data:=.seq (vs++ws).toArray}})
  (hsz:vs.length+ws.length<=sizeLine):wpAny (model prog w) A (binaryOp .Add (.ref t) (.ref b)) Q E s:=by
 obtain⟨⟨cls,dd,data,sl⟩,ho,hc,n,hd⟩:=id ht
 obtain⟨⟨cls2,dd2,data2,sl2⟩,ho2,hc2,n2,hd2⟩:=id hb
 simp only at hc hd hc2 hd2
 subst hc hd hc2 hd2
 have e:vs.toArray++ws.toArray=(vs++ws).toArray:=by simp
 by_cases hw:ws=[]
 ·exact concat_meets ⟨_,ho,rfl⟩ ⟨_,ho2,rfl⟩ noFill_tuple_add seq_tuple_add PySem.F.slot_tuple_add PySem.F.entry_tuple_add (PySem.F.args_tuple_add_2 _ _)
   (tuple_addW1 t b vs.toArray ws.toArray n n2 dd dd2 sl sl2 (by simpa using hv) (by simp[hw])) ⟨ho,ho2,h1 hw⟩
 ·refine concat_meets ⟨_,ho,rfl⟩ ⟨_,ho2,rfl⟩ noFill_tuple_add seq_tuple_add PySem.F.slot_tuple_add PySem.F.entry_tuple_add (PySem.F.args_tuple_add_2 _ _)
   (tuple_addW2 t b vs.toArray ws.toArray n n2 dd dd2 sl sl2 (by simpa using hv) (by simpa using hw) (by rw[aq18,aq18];exact hsz)) ⟨ho,ho2,?_⟩
  rw[e]
  exact h2 hw
def sIx(n d:Nat):Option Int->Nat
 |none=>d
 |some v=>if v<0 then(v+(n:Int)).toNat else min v.toNat n
theorem sIx_none(n d:Nat):sIx n d none=d:=rfl
theorem qM2(n d:Nat)(hd:d<=n)(o:Option Int):sIx n d o<=n:=by
 cases o with
 |none=>exact hd
 |some v=>
  show(if v<0 then(v+(n:Int)).toNat else min v.toNat n)<=n
  by_cases hv:v<0
  ·rw[if_pos hv];omega
  ·rw[if_neg hv];exact Nat.min_le_right _ _
theorem bK(v:Int)(n d:Nat):(if v<0 then max (v+(n:Int)) 0 else min v (n:Int))=((sIx n d (some v):Nat):Int):=by
 show(if v<0 then max (v+(n:Int)) 0 else min v (n:Int))=(((if v<0 then(v+(n:Int)).toNat else min v.toNat n):Nat):Int)
 by_cases hv:v<0
 ·simp only[if_pos hv];omega
 ·simp only[if_neg hv];omega
theorem mH(lo hi:Option Int)(n:Nat):Builtin.Slice.sliceAdjust lo hi 1 (n:Int)=(((sIx n 0 lo:Nat):Int),((sIx n n hi:Nat):Int)):=by
 have h1:¬((1:Int)<0):=by omega
 unfold Builtin.Slice.sliceAdjust
 simp only[h1,if_false]
 refine Prod.ext ?_ ?_
 ·cases lo with
  |none=>rfl
  |some v=>exact bK v n 0
 ·cases hi with
  |none=>rfl
  |some v=>exact bK v n n
theorem mR(i j:Nat):Builtin.Slice.slicePlaces (i:Int) (j:Int) 1=j-i:=by
 unfold Builtin.Slice.slicePlaces
 have h1:(1:Int)>0:=by omega
 simp only[h1,if_true,Int.ediv_one]
 split<;>omega
theorem uC{v:Value}{o:Option Int}{Q:Option Int->Shared->Prop}(p:IsPart v o)(h:Q o s):wpAny (model prog w) A (Builtin.Slice.slicePartIndex v) Q E s:=by
 cases p with
 |none=>exact slicePart_none h
 |int i t=>exact slicePart_int h
theorem yU{sl:Addr}{vl vu:Value}{lo hi:Option Int}{n:Nat}{Q:Int×Int×Nat->Shared->Prop}(hs:s.heap.IsSliceOf sl vl vu .none)(pl:IsPart vl lo)(pu:IsPart vu hi)
  (h:Q (((sIx n 0 lo:Nat):Int),1,sIx n n hi-sIx n 0 lo) s):wpAny (model prog w) A (Builtin.Slice.sliceApplied (.ref sl) (pure (n:Int))) Q E s:=by
 obtain⟨os,hos,hcs,hds⟩:=id hs
 unfold Builtin.Slice.sliceApplied Builtin.Slice.sliceFields
 refine wpAny_bind (wpAny_bind (wpAny_field hos hds (x:=vl) rfl (wpAny_bind (wpAny_field hos hds (x:=vu) rfl (wpAny_bind (wpAny_field hos hds (x:=.none) rfl (wpAny_pure ?_)))))))
 refine wpAny_bind (slicePart_none ?_)
 show wpAny _ _ (if((1:Int)==0)=true then _ else _) _ _ s
 rw[if_neg (by decide)]
 refine wpAny_bind (uC pl (wpAny_bind (uC pu (wpAny_bind (wpAny_pure ?_)))))
 show wpAny _ _ (match Builtin.Slice.sliceAdjust lo hi 1 (n:Int)with |(lo,hi)=>pure (lo,(1:Int),Builtin.Slice.slicePlaces lo hi 1)) _ _ s
 rw[mH lo hi n]
 show wpAny _ _ (pure (((sIx n 0 lo:Nat):Int),(1:Int),Builtin.Slice.slicePlaces ((sIx n 0 lo:Nat):Int) ((sIx n n hi:Nat):Int) 1)) _ _ s
 rw[mR]
 exact wpAny_pure h
theorem rF(xs:Array Value)(i k:Nat):((List.range k).filterMap fun(m:Nat)=>xs[((i:Int)+(m:Int)*1).toNat]?).toArray=((xs.toList.drop i).take k).toArray:=by
 have e:(fun(m:Nat)=>xs[((i:Int)+(m:Int)*1).toNat]?)=fun m=>xs[i+m]? :=by
  funext m
  have :((i:Int)+(m:Int)*1).toNat=i+m:=by omega
  rw[this]
 rw[e]
 have :=pick_run xs i k
 rw[List.filterMap_map]at this
 have e2:((fun x=>xs[x]?)∘fun x=>i+x)=fun m=>xs[i+m]? :=rfl
 rw[e2]at this
 rw[this]
theorem getItem_tuple_cut{t sl:Addr}{items:Array Value}{vl vu:Value}{lo hi:Option Int}{Q:Value->Shared->Prop}(ht:IsTup s.heap t items)(hs:s.heap.IsSliceOf sl vl vu .none)(pl:IsPart vl lo)(pu:IsPart vu hi)
  (hw:¬(sIx items.size 0 lo=0/\sIx items.size items.size hi=items.size))
  (h:Q (.ref s.heap.objs.size) {s with heap:=s.heap.push {cls:=.type "tuple",data:=.seq ((items.toList.drop (sIx items.size 0 lo)).take (sIx items.size items.size hi-sIx items.size 0 lo)).toArray}})
  (hsz:items.size<=sizeLine):wpAny (model prog w) A (getItem (.ref t) (.ref sl)) Q E s:=by
 have htake:sizeOk (.seq ((items.toList.drop (sIx items.size 0 lo)).take (sIx items.size items.size hi-sIx items.size 0 lo)).toArray):=by
  show((items.toList.drop (sIx items.size 0 lo)).take (sIx items.size items.size hi-sIx items.size 0 lo)).toArray.size<=sizeLine
  rw[aq18,List.length_take,List.length_drop,Array.length_toList]
  omega
 have hj:sIx items.size items.size hi<=items.size:=qM2 _ _ (aq7 _) hi
 obtain⟨os,hos,hcs,hds⟩:=id hs
 have hTs:s.TypeIs (.ref sl) "slice":=⟨os,hos,hcs⟩
 unfold getItem
 try with_reducible refine wpAny_holding ?_
 first|refine wpAny_bind (wpAny_pure ?_)|skip
 refine wpAny_bind (wpAny_sequenceKey ht.typeIs (by decide) ?_)
 refine wpAny_bind (wpAny_callSpecial?_slot (name:=Str.ofString "__getitem__") ht.typeIs PyProof.Rows.slot_tuple_getitem
  (wpAny_call_entry PyProof.Rows.slot_tuple_getitem ht.typeIs entry_tuple_getitem ?_ (args_tuple_getitem _ _)))
 show wpAny _ _ (Builtin.Tuple.tupleItemsOf (.ref t)>>=_) _ _ s
 refine wpAny_bind (tupleItemsOf_ ht ?_)
 refine wpAny_bind (wpAny_typeOf hTs ?_)
 rw[if_pos (by decide)]
 refine wpAny_bind (yU hs pl pu ?_)
 have hno:¬((((sIx items.size 0 lo:Nat):Int)==0&&(1:Int)==1&&(sIx items.size items.size hi-sIx items.size 0 lo)==items.size)=true):=by
  intro q
  rw[Bool.and_eq_true,Bool.and_eq_true]at q
  have q1:((sIx items.size 0 lo:Nat):Int)=0:=eq_of_beq q.1.1
  have q2:sIx items.size items.size hi-sIx items.size 0 lo=items.size:=eq_of_beq q.2
  exact hw ⟨by omega,by omega⟩
 show wpAny _ _ (if(((sIx items.size 0 lo:Nat):Int)==0&&(1:Int)==1&&(sIx items.size items.size hi-sIx items.size 0 lo)==items.size)=true then _ else _) _ _ s
 rw[if_neg hno,rF]
 first
  |exact wpAny_bind (m:=Builtin.Tuple.tupleExact _) (wpAny_newObj_type (wpAny_pure ⟨_,rfl,wpAny_pure h⟩) htake)
  |exact wpAny_bind (m:=Builtin.Tuple.tupleExact _) (wpAny_newObj_type (wpAny_bind (wpAny_pure (wpAny_pure ⟨_,rfl,wpAny_pure h⟩))) htake)
  |exact wpAny_bind (wpAny_bind (m:=Builtin.Tuple.tupleExact _) (wpAny_newObj_type (wpAny_pure (wpAny_pure ⟨_,rfl,wpAny_pure h⟩)) htake))
  |exact wpAny_bind (wpAny_bind (m:=Builtin.Tuple.tupleExact _) (wpAny_newObj_type (wpAny_pure ⟨_,rfl,wpAny_pure h⟩) htake))
end
end HT
namespace L2
open PySem PySem.Spec PyProof.Rows
abbrev TO:=St->Hp->(Option Int->Hp->Prop)->Prop
def PO(X:Cx)(e:Option Expr)(t:TO):Prop:=
 ∀(pins:List (Addr×Obj))(s:Shared)(σ:St)(H:Hp)(Q:Option Int->Hp->Prop),Inv X pins σ H s->t σ H Q->
  wpAny (model X.prog X.w) X.A (evalPart e X.env) (fun u s'=>∃o H',Inv X pins σ H' s'/\IsPart u o/\Q o H') X.xe s
def qJz:TO:=fun _ H Q=>Q none H
def qS9(t:TE):TO:=fun σ H Q=>t σ H fun x H1=>∃i,x= .int i/\Q (some i) H1
section
variable {X:Cx} {e:Expr} {te:TE} {lo hi:Option Expr} {tl th:TO} {pos p2:Pos}
theorem kO:PO X none qJz:=by
 intro pins s σ H Q I h
 rw[evalPart_none]
 exact wpAny_pure ⟨none,H,I,.none,h⟩
theorem kI(h:PE X e te):PO X (some e) (qS9 te):=by
 intro pins s σ H Q I hw
 rw[evalPart_some]
 refine thn (h pins s σ H _ I hw) fun u s1⟨x,H1,I1,r1,q1⟩=>?_
 obtain⟨i,rfl,q⟩:=q1
 obtain⟨t,rfl⟩:=r1
 exact⟨some i,H1,I1,.int i t,q⟩
def SlR(X:Cx)(r:V->Option Int->Option Int->Hp->VK->Prop):Prop:=
 ∀(pins:List (Addr×Obj))(s:Shared)(σ:St)(H:Hp)(x:V)(v vl vu:Value)(lo hi:Option Int)(sl:Addr)(Q:VK),Inv X pins σ H s->zY x v->s.heap.IsSliceOf sl vl vu .none->IsPart vl lo->IsPart vu hi->r x lo hi H Q->
  ∃T id,typeLookup (.type T) "__getitem__"=pure (some (.builtin id))/\s.TypeIs v T/\wpAny (model X.prog X.w) X.A (getItem v (.ref sl)) (EP X pins σ Q) X.xe s
def tSl(r:V->Option Int->Option Int->Hp->VK->Prop)(te:TE)(tl th:TO):TE:=fun σ H Q=>te σ H fun x H1=>tl σ H1 fun l H2=>th σ H2 fun u H3=>r x l u H3 Q
theorem xH{r:V->Option Int->Option Int->Hp->VK->Prop}(hr:SlR X r)(he:PE X e te)(hl:PO X lo tl)(hu:PO X hi th):PE X (.Subscript e (.Slice lo hi none p2) pos) (tSl r te tl th):=by
 intro pins s σ H Q I h
 refine Subscript_ (thn (he pins s σ H _ I h) fun v s1⟨x,H1,I1,r1,q1⟩=>?_)
 refine wpAny_Slice (thn (hl pins s1 σ H1 _ I1 q1) fun vl s2⟨l,H2,I2,pl,q2⟩=>thn (hu pins s2 σ H2 _ I2 q2) fun vu s3⟨u,H3,I3,pu,q3⟩=>?_)
 rw[evalPart_none]
 refine wpAny_pure ?_
 have I4:Inv X pins σ H3 {s3 with heap:=s3.heap.push {cls:=.type "slice",data:=.fields #[vl,vu,.none]}}:=I3.kept (t':=s3.toks) fun b ob q=>aq13 _ q
 obtain⟨T,id,hT,ht,hg⟩:=hr pins {s3 with heap:=s3.heap.push {cls:=.type "slice",data:=.fields #[vl,vu,.none]}} σ H3 x v vl vu l u s3.heap.objs.size Q I4 r1 (Heap.IsSliceOf.new ..) pl pu q3
 show wpAny (model X.prog X.w) X.A (subscriptTail e (.Slice lo hi none p2) v (.ref s3.heap.objs.size)) (EP X pins σ Q) X.xe {s3 with heap:=s3.heap.push {cls:=.type "slice",data:=.fields #[vl,vu,.none]}}
 exact tail_any (ops:=[.ref s3.heap.objs.size,v]) ht hT hg (by with_unfolding_all rfl)
def vF(xs:List V)(lo hi:Option Int):List V:=(xs.drop (HT.sIx xs.length 0 lo)).take (HT.sIx xs.length xs.length hi-HT.sIx xs.length 0 lo)
theorem yN(xs:List V)(lo hi:Option Int):(vF xs lo hi).length<=xs.length:=by
 unfold vF
 rw[List.length_take,List.length_drop]
 omega
def zJj(K:Fg):V->Option Int->Option Int->Hp->VK->Prop:=fun x lo hi H Q=>∃a xs,x= .ref a/\qA K H a xs/\
 ¬(HT.sIx xs.length 0 lo=0/\HT.sIx xs.length xs.length hi=xs.length)/\∀p,H p=none->Q (.ref p) (upd H p (.tup (vF xs lo hi)))
theorem wZ:SlR X (zJj X.K):=by
 intro pins s σ H x v vl vu lo hi sl Q I rx hs pl pu h
 obtain⟨a,xs,rfl,hx,hw,q⟩:=h
 cases rx
 obtain⟨its,r,ht,hz⟩:=I.tuple hx
 have hlen:its.toArray.size=xs.length:=by rw[aq18];exact r.length.symm
 refine⟨"tuple",_,PyProof.Rows.slot_tuple_getitem.lookup,ht.typeIs,?_⟩
 refine HT.getItem_tuple_cut ht hs pl pu (by rw[hlen];exact hw) ?_ (by rw[hlen];exact hz)
 rw[hlen]
 refine⟨.ref s.heap.objs.size,_,I.laid (t':=s.toks) (o:=.tup (vF xs lo hi)) (fun b ob q=>aq13 _ q) (aq7 _) ?_,rfl,q _ (I.hok.fresh (aq7 _))⟩
 exact⟨Nat.le_trans (yN xs lo hi) hz,_,(r.drop (HT.sIx xs.length 0 lo)).take (HT.sIx xs.length xs.length hi-HT.sIx xs.length 0 lo),IsTup.new _ _⟩
inductive rH(K:Fg)(x:V)(y:V)(H:Hp)(Q:VK):Prop
 |mk (a:_) (b:_) (xs:_) (ys:_) (a_0:x= .ref a) (a_1:y= .ref b) (a_2:qA K H a xs) (a_3:qA K H b ys) (a_4:xs≠[]) (a_5:xs.length+ys.length<=sizeLine) (a_6:(ys=[]->Q (.ref a) H)) (a_7:(ys≠[]->∀p,H p=none->Q (.ref p) (upd H p (.tup (xs++ys))))):rH K x y H Q
def qSq(K:Fg):R2:=fun x y H Q=>rH K x y H Q
theorem Vals.nil_iff{xs:List V}{us:List Value}(r:Vals xs us):us=[]↔xs=[]:=by
 cases r with
 |nil=>simp
 |cons _ _=>simp
theorem wC:wQ X (binaryOp .Add) (qSq X.K):=by
 intro pins s σ H x y v u Q I rx ry h
 obtain⟨a,b,xs,ys,rfl,rfl,ha,hb,hx,hz,q1,q2⟩:=h
 cases rx
 cases ry
 obtain⟨its,r1,p1,_⟩:=I.tuple ha
 obtain⟨its2,r2,p2,_⟩:=I.tuple hb
 refine HT.cat_tup p1 p2 (fun z=>hx (r1.nil_iff.mp z)) (fun z=>⟨.ref a,H,I,rfl,q1 (r2.nil_iff.mp z)⟩) (fun z=>?_) (by rw[<-r1.length,<-r2.length];exact hz)
 refine⟨.ref s.heap.objs.size,_,I.laid (t':=s.toks) (o:=.tup (xs++ys)) (fun b ob q=>aq13 _ q) (aq7 _) ?_,rfl,q2 (fun w=>z (r2.nil_iff.mpr w)) _ (I.hok.fresh (aq7 _))⟩
 exact⟨by rw[List.length_append];exact hz,_,r1.append r2,IsTup.new _ _⟩
end
def ixN(n:Nat)(i:Int):Option Nat:=if 0<=i then(if i<n then some i.toNat else none)else if -(n:Int)<=i then some (i+n).toNat else none
def lX{α:Type}(xs:List α)(i:Int):Option α:=(ixN xs.length i).bind fun j=>xs[j]?
theorem qJj{n:Nat}{i:Int}{j:Nat}(h:ixN n i=some j):seqIndex? i n=some j/\j<n/\ -(n:Int)<=i/\i<n:=by
 unfold ixN at h
 by_cases h0:0<=i
 ·rw[if_pos h0]at h
  by_cases h1:i<n
  ·rw[if_pos h1]at h
   have e:i.toNat=j:=Option.some.inj h
   exact⟨by rw[seqIndex_of h0 h1,e],by omega,by omega,h1⟩
  ·rw[if_neg h1]at h;cases h
 ·rw[if_neg h0]at h
  by_cases h1: -(n:Int)<=i
  ·rw[if_pos h1]at h
   have e:(i+n).toNat=j:=Option.some.inj h
   exact⟨by rw[seqIndex_neg (by omega) h1,e],by omega,h1,by omega⟩
  ·rw[if_neg h1]at h;cases h
theorem iR{α:Type}{xs:List α}{i:Int}{v:α}(h:lX xs i=some v):∃j,seqIndex? i xs.length=some j/\xs[j]? =some v/\j<xs.length/\ -(xs.length:Int)<=i/\i<xs.length:=by
 unfold lX at h
 cases e:ixN xs.length i with
 |none=>rw[e]at h;cases h
 |some j=>
  rw[e]at h
  obtain⟨h1,h2,h3,h4⟩:=qJj e
  exact⟨j,h1,h,h2,h3,h4⟩
theorem qW{α:Type}{xs:List α}{j:Nat}{v:α}(h:xs[j]? =some v):lX xs (j:Int)=some v:=by
 have hj:j<xs.length:=(List.getElem?_eq_some_iff.mp h).1
 have e:ixN xs.length (j:Int)=some j:=by
  unfold ixN
  rw[if_pos (by omega),if_pos (by omega)];simp
 unfold lX;rw[e];exact h
theorem uL{α:Type}(xs:List α)(v:α):lX (xs++[v]) (-1)=some v:=by
 have hl:(xs++[v]).length=xs.length+1:=by simp
 have e:ixN (xs++[v]).length (-1)=some xs.length:=by
  unfold ixN
  rw[hl,if_neg (by decide),if_pos (by omega)]
  congr 1
  omega
 unfold lX
 rw[e]
 show(xs++[v])[xs.length]? =some v
 simp
def bW(b:Expr):Prop:=∀o i,subscripted b false o i=operate [o,i] (getItem o i)
def rP(X:Cx)(r:R2):Prop:=
 ∀(value slice:Expr)(pins:List (Addr×Obj))(s:Shared)(σ:St)(H:Hp)(x y:V)(v u:Value)(Q:VK),Inv X pins σ H s->zY x v->zY y u->r x y H Q->
  subscripted slice false v u=operate [v,u] (getItem v u)->wpAny (model X.prog X.w) X.A (subscriptTail value slice v u) (EP X pins σ Q) X.xe s
def MtR(X:Cx)(id:String)(r:V->List V->Hp->VK->Prop):Prop:=
 ∀(pins:List (Addr×Obj))(s:Shared)(σ:St)(H:Hp)(x:V)(xs:List V)(v:Value)(us:List Value)(Q:VK),Inv X pins σ H s->zY x v->Vals xs us->r x xs H Q->
  wpAny (model X.prog X.w) X.A (call (.builtin id) (v::us)) (EP X pins σ Q) X.xe s
section
variable {X:Cx} {a b:Expr} {ta tb:TE} {pos:Pos}
theorem rP.or{r r':R2}(h:rP X r)(h':rP X r'):rP X (fun x y H Q=>r x y H Q\/r' x y H Q):=by
 intro value slice pins s σ H x y v u Q I rx ry q hs
 rcases q with q|q
 ·exact h value slice pins s σ H x y v u Q I rx ry q hs
 ·exact h' value slice pins s σ H x y v u Q I rx ry q hs
theorem qO{r:R2}(hr:rP X r)(ha:PE X a ta)(hb:PE X b tb)(hs:bW b:=by exact fun _ _=>rfl):PE X (.Subscript a b pos) (pZ r ta tb):=by
 intro pins s σ H Q I h
 exact Subscript_ (qGj ha hb I h fun v u s2 x y H2 I2 rx ry q=>hr a b pins s2 σ H2 x y v u Q I2 rx ry q (hs _ _))
inductive qO6(K:Fg)(x:V)(y:V)(H:Hp)(Q:VK):Prop
 |mk (p:_) (xs:_) (i:_) (v:_) (a_0:x= .ref p) (a_1:y= .int i) (a_2:zV K H p xs) (a_3:lX xs i=some v) (a_4:Q v H):qO6 K x y H Q
def qX0(K:Fg):R2:=fun x y H Q=>qO6 K x y H Q
inductive qO7(K:Fg)(x:V)(y:V)(H:Hp)(Q:VK):Prop
 |mk (p:_) (xs:_) (i:_) (v:_) (a_0:x= .ref p) (a_1:y= .int i) (a_2:qA K H p xs) (a_3:lX xs i=some v) (a_4:Q v H):qO7 K x y H Q
def qX1(K:Fg):R2:=fun x y H Q=>qO7 K x y H Q
inductive qO8(x:V)(y:V)(H:Hp)(Q:VK):Prop
 |mk (z:_) (i:_) (c:_) (a_0:x= .str z) (a_1:y= .int i) (a_2:z.length<=sizeLine) (a_3:lX z.cps.toList i=some c) (a_4:Q (.str ⟨#[c]⟩) H):qO8 x y H Q
def qSz:R2:=fun x y H Q=>qO8 x y H Q
theorem qP:rP X (qX0 X.K):=by
 intro value slice pins s σ H x y v u Q I rx ry h hs
 obtain⟨p,xs,i,z,rfl,rfl,hq,he,q⟩:=h
 cases rx
 obtain⟨t,rfl⟩:=ry
 obtain⟨its,r,pl,hz⟩:=I.list hq
 obtain⟨j,h1,h2,h3,h4,h5⟩:=iR he
 obtain⟨w,ew,rw'⟩:=r.get h2
 have hl:=r.length
 have hn:=line63
 have fin:EP X pins σ Q w s:=⟨z,H,I,rw',q⟩
 by_cases h0:0<=i
 ·have hj:i.toNat=j:=by
   rw[seqIndex_of h0 h5]at h1
   exact Option.some.inj h1
  exact item_listR pl.isList h0 (by omega) (by rw[hj];simpa using ew) fin hs
 ·have hj:(i+(its.toArray.size:Int)).toNat=j:=by
   rw[seqIndex_neg (by omega) h4]at h1
   rw[aq18,<-hl]
   exact Option.some.inj h1
  exact subscriptTail_builtinR (x:=w) pl.isList.typeIs slot_list_getitem.lookup
   (wpAny_getItem_list_neg (Q:=fun r s'=>r=w/\EP X pins σ Q r s') pl.isList (by omega) (by rw[aq18]<;>omega) (by omega) (by rw[hj];simpa using ew) ⟨rfl,fin⟩) hs
theorem qN:rP X (qX1 X.K):=by
 intro value slice pins s σ H x y v u Q I rx ry h hs
 obtain⟨p,xs,i,z,rfl,rfl,hq,he,q⟩:=h
 cases rx
 obtain⟨t,rfl⟩:=ry
 obtain⟨its,r,pl,hz⟩:=I.tuple hq
 obtain⟨j,h1,h2,h3,h4,h5⟩:=iR he
 obtain⟨w,ew,rw'⟩:=r.get h2
 have hl:=r.length
 have hn:=line63
 have fin:EP X pins σ Q w s:=⟨z,H,I,rw',q⟩
 exact subscriptTail_builtinR (x:=w) pl.typeIs slot_tuple_getitem.lookup
  (getItem_tuple (j:=j) (Q:=fun r s'=>r=w/\EP X pins σ Q r s') pl (by omega) (by omega) (by rw[aq18,<-hl];exact h1) (by simpa using ew) ⟨rfl,fin⟩) hs
theorem qM3:rP X qSz:=by
 intro value slice pins s σ H x y v u Q I rx ry h hs
 obtain⟨z,i,c,rfl,rfl,hz,he,q⟩:=h
 obtain⟨t,rfl⟩:=rx
 obtain⟨t',rfl⟩:=ry
 obtain⟨j,h1,h2,h3,h4,h5⟩:=iR he
 have hl:z.cps.toList.length=z.length:=by simp[Str.length]
 rw[hl]at h1 h4 h5
 have hn:=line63
 exact tail_any (typeIs_str s z t) slot_str_getitem.lookup (getItem_str (c:=c) (by
  have e1:decide (i< -(2^63:Int))=false:=decide_eq_false (by omega)
  have e2:decide (i≥2^63)=false:=decide_eq_false (by omega)
  rw[e1,e2,Bool.or_false]) (by rw[h1];simpa using h2) ⟨.str ⟨#[c]⟩,H,I.tok _,⟨_,rfl⟩,q⟩) hs
def rIx(K:Fg):R2:=fun x y H Q=>qX0 K x y H Q\/qX1 K x y H Q\/qSz x y H Q
theorem qM4:rP X (rIx X.K):=qP.or (qN.or qM3)
theorem iS(lo hi:Option Int)(n:Nat):(sliceBounds lo hi none n).1=((HT.sIx n 0 lo:Nat):Int)/\(sliceBounds lo hi none n).2.1=((HT.sIx n n hi:Nat):Int)/\(sliceBounds lo hi none n).2.2=1:=by
 refine⟨?_,?_,rfl⟩
 ·cases lo with
  |none=>simp[sliceBounds,HT.sIx]
  |some i=>
   simp only[sliceBounds,HT.sIx,Option.getD_none,show(1:Int)>0 by decide,if_true]
   by_cases h:i<0
   ·simp only[h,if_true]<;>omega
   ·simp only[h,if_false]<;>omega
 ·cases hi with
  |none=>simp[sliceBounds,HT.sIx]
  |some i=>
   simp only[sliceBounds,HT.sIx,Option.getD_none,show(1:Int)>0 by decide,if_true]
   by_cases h:i<0
   ·simp only[h,if_true]<;>omega
   ·simp only[h,if_false]<;>omega
theorem oG(its:List Value)(lo hi:Option Int):slicePick its.toArray lo hi none=((its.drop (HT.sIx its.length 0 lo)).take (HT.sIx its.length its.length hi-HT.sIx its.length 0 lo)).toArray:=by
 obtain⟨h1,h2,h3⟩:=iS lo hi its.toArray.size
 unfold slicePick
 rw[h1,h2,h3]
 simp only[sliceRange_one,pick_run,aq18]<;>rfl
def zX0(K:Fg):V->Option Int->Option Int->Hp->VK->Prop:=fun x lo hi H Q=>∃a xs,x= .ref a/\zV K H a xs/\∀p,H p=none->Q (.ref p) (upd H p (.lst (vF xs lo hi)))
theorem qX2:SlR X (zX0 X.K):=by
 intro pins s σ H x v vl vu lo hi sl Q I rx hs pl pu h
 obtain⟨a,xs,rfl,hx,q⟩:=h
 cases rx
 obtain⟨its,r,ht,hz⟩:=I.list hx
 have hlen:=r.length
 refine⟨"list",_,slot_list_getitem.lookup,ht.isList.typeIs,?_⟩
 refine wpAny_getItem_list_slice ht.isList hs pl pu .none (by simp) ?_ (by rw[aq18]<;>omega)
 rw[oG,<-hlen]
 refine⟨.ref s.heap.objs.size,_,I.laid (t':=s.toks) (o:=.lst (vF xs lo hi)) (fun b ob q=>aq13 _ q) (aq7 _) ?_,rfl,q _ (I.hok.fresh (aq7 _))⟩
 exact⟨Nat.le_trans (yN xs lo hi) hz,_,0,(r.drop (HT.sIx xs.length 0 lo)).take (HT.sIx xs.length xs.length hi-HT.sIx xs.length 0 lo),aq14 _ rfl⟩
def vJ:V->Bool
 | .non=>true
 | .bl _=>true
 | .int _=>true
 | .str _=>true
 |_=>false
def eqV:V->V->Bool
 | .non,.non=>true
 | .bl a,.bl b=>a==b
 | .bl a,.int b=>(if a then 1 else 0)==b
 | .int a,.bl b=>a==(if b then 1 else 0)
 | .int a,.int b=>a==b
 | .str a,.str b=>a==b
 |_,_=>false
theorem qM5{A:Around}{s:Shared}{y x:V}{u v:Value}(ry:zY y u)(rx:zY x v)(fy:vJ y=true)(fx:vJ x=true):SeqAt.EqAt A s u v (eqV y x):=by
 cases y with
 |non=>
  cases ry
  cases x with
  |non=>cases rx;exact SeqAt.EqAt.same _
  |bl b=>cases rx;exact SeqAt.EqAt.none_bool b
  |int b=>obtain⟨t,rfl⟩:=rx;exact SeqAt.EqAt.none_int b t
  |str b=>obtain⟨t,rfl⟩:=rx;exact SeqAt.EqAt.none_str b t
  |_=>exact absurd (show false=true from fx) Bool.false_ne_true
 |bl a=>
  cases ry
  cases x with
  |non=>cases rx;exact SeqAt.EqAt.bool_none a
  |bl b=>cases rx;exact SeqAt.EqAt.bool_bool a b
  |int b=>obtain⟨t,rfl⟩:=rx;exact SeqAt.EqAt.bool_int a b t
  |str b=>obtain⟨t,rfl⟩:=rx;exact SeqAt.EqAt.bool_str a b t
  |_=>exact absurd (show false=true from fx) Bool.false_ne_true
 |int a=>
  obtain⟨t',rfl⟩:=ry
  cases x with
  |non=>cases rx;exact SeqAt.EqAt.int_none a t'
  |bl b=>cases rx;exact SeqAt.EqAt.int_bool a t' b
  |int b=>obtain⟨t,rfl⟩:=rx;exact SeqAt.EqAt.int_int a t' b t
  |str b=>obtain⟨t,rfl⟩:=rx;exact SeqAt.EqAt.int_str a t' b t
  |_=>exact absurd (show false=true from fx) Bool.false_ne_true
 |str a=>
  obtain⟨t',rfl⟩:=ry
  cases x with
  |non=>cases rx;exact SeqAt.EqAt.str_none a t'
  |bl b=>cases rx;exact SeqAt.EqAt.str_bool a t' b
  |int b=>obtain⟨t,rfl⟩:=rx;exact SeqAt.EqAt.str_int a t' b t
  |str b=>obtain⟨t,rfl⟩:=rx;exact SeqAt.EqAt.str_str a t' b t
  |_=>exact absurd (show false=true from fx) Bool.false_ne_true
 |_=>exact absurd (show false=true from fy) Bool.false_ne_true
def lK(x:V)(u:Value):Bool:=match u with
 | .none=>eqV .non x
 | .bool b=>eqV (.bl b) x
 | .int i _=>eqV (.int i) x
 | .str z _=>eqV (.str z) x
 |_=>false
theorem rR{x y:V}{u:Value}(r:zY y u)(f:vJ y=true):lK x u=eqV y x:=by
 cases y with
 |non=>cases r;rfl
 |bl b=>cases r;rfl
 |int i=>obtain⟨t,rfl⟩:=r;rfl
 |str z=>obtain⟨t,rfl⟩:=r;rfl
 |_=>exact absurd (show false=true from f) Bool.false_ne_true
theorem wG{x:V}:∀{xs:List V}{us:List Value},Vals xs us->xs.all vJ=true->us.any (lK x)=xs.any fun y=>eqV y x
 |_,_,.nil,_=>rfl
 |y::xs,u::us,.cons r t,f=>by
  rw[List.all_cons,Bool.and_eq_true]at f
  rw[List.any_cons,List.any_cons,rR r f.1,wG t f.2]
theorem kM{A:Around}{s:Shared}{x:V}{v:Value}(rx:zY x v)(fx:vJ x=true):∀{xs:List V}{us:List Value},Vals xs us->xs.all vJ=true->∀u∈us,SeqAt.EqAt A s u v (lK x u)
 |_,_,.nil,_=>fun u hu=>by cases hu
 |y::xs,u::us,.cons r t,f=>fun u' hu=>by
  rw[List.all_cons,Bool.and_eq_true]at f
  rcases List.mem_cons.mp hu with rfl|hu
  ·rw[rR r f.1];exact qM5 r rx f.1 fx
  ·exact kM rx fx t f.2 u' hu
def kQ(x:V)(xs:List V):Bool:=xs.any fun y=>eqV y x
inductive qSj(K:Fg)(neg:Bool)(x:V)(y:V)(H:Hp)(Q:VK):Prop
 |mk (p:_) (xs:_) (a_0:y= .ref p) (a_1:(zV K H p xs\/qA K H p xs)) (a_2:vJ x=true) (a_3:xs.all vJ=true) (a_4:Q (.bl (if neg then !kQ x xs else kQ x xs)) H):qSj K neg x y H Q
def rIn(K:Fg)(neg:Bool):R2:=fun x y H Q=>qSj K neg x y H Q
theorem jW:wQ X (compareOp .In) (rIn X.K false):=by
 intro pins s σ H x y v u Q I rx ry h
 obtain⟨p,xs,rfl,hq,fx,fs,q⟩:=h
 cases ry
 rcases hq with hq|hq
 ·obtain⟨its,r,pl,hz⟩:=I.list hq
  refine SeqAt.in_listAt (lK x) pl.isList (fun w hw=>kM rx fx r fs w (by simpa using hw)) ⟨.bl _,H,I,rfl,?_⟩
  rw[show its.toArray.any (lK x)=its.any (lK x) by simp,wG r fs]
  exact q
 ·obtain⟨its,r,pl,hz⟩:=I.tuple hq
  refine SeqAt.in_tupleAt (lK x) pl (fun w hw=>kM rx fx r fs w (by simpa using hw)) ⟨.bl _,H,I,rfl,?_⟩
  rw[show its.toArray.any (lK x)=its.any (lK x) by simp,wG r fs]
  exact q
theorem wM:wQ X (compareOp .NotIn) (rIn X.K true):=by
 intro pins s σ H x y v u Q I rx ry h
 obtain⟨p,xs,rfl,hq,fx,fs,q⟩:=h
 cases ry
 rcases hq with hq|hq
 ·obtain⟨its,r,pl,hz⟩:=I.list hq
  refine SeqAt.notIn_listAt (lK x) pl.isList (fun w hw=>kM rx fx r fs w (by simpa using hw)) ⟨.bl _,H,I,rfl,?_⟩
  rw[show its.toArray.any (lK x)=its.any (lK x) by simp,wG r fs]
  exact q
 ·obtain⟨its,r,pl,hz⟩:=I.tuple hq
  refine SeqAt.notIn_tupleAt (lK x) pl (fun w hw=>kM rx fx r fs w (by simpa using hw)) ⟨.bl _,H,I,rfl,?_⟩
  rw[show its.toArray.any (lK x)=its.any (lK x) by simp,wG r fs]
  exact q
theorem zP:kJ X (.builtin "len") (fun xs H Q=>∃p ys,xs=[.ref p]/\(zV X.K H p ys\/qA X.K H p ys)/\Q (.int ys.length) H):=by
 intro pins s σ H xs us Q I r h
 obtain⟨p,ys,rfl,hq,q⟩:=h
 obtain⟨u,rfl,rx⟩:=vals1 r
 cases rx
 have hn:=line63
 rcases hq with hq|hq
 ·obtain⟨its,r',pl,hz⟩:=I.list hq
  have hlen:=r'.length
  exact Calls.call_len_list pl.isList (by simp only[aq18]<;>omega) ⟨.int ys.length,H,I.tok _,⟨s.toks+1,by rw[aq18,hlen]⟩,q⟩
 ·obtain⟨its,r',pl,hz⟩:=I.tuple hq
  have hlen:=r'.length
  exact len_tuple pl (by simp only[aq18]<;>omega) ⟨.int ys.length,H,I.tok _,⟨s.toks+1,by rw[aq18,hlen]⟩,q⟩
theorem iT:kJ X (.type "list") (fun xs H Q=>∃p ys,xs=[.ref p]/\(zV X.K H p ys\/qA X.K H p ys)/\∀l,H l=none->Q (.ref l) (upd H l (.lst ys))):=by
 intro pins s σ H xs us Q I r h
 obtain⟨p,ys,rfl,hq,q⟩:=h
 obtain⟨u,rfl,rx⟩:=vals1 r
 cases rx
 have fin:∀(its:List Value),Vals ys its->ys.length<=sizeLine->∀(h':Heap)(c':Nat),(∀b o',s.heap.get? b=some o'->h'.get? b=some o')->
   h'.get? s.heap.objs.size=some {cls:=.type "list",dict:=none,data:=.seq its.toArray c',slots:= #[]}->EP X pins σ Q (.ref s.heap.objs.size) {s with heap:=h'}:=fun its r' hz h' c' kp e=>
  ⟨.ref s.heap.objs.size,_,I.laid (t':=s.toks) kp (aq7 _) (show jV X.prog X.w _ h' _ (.lst ys)from⟨hz,its,c',r',e⟩),rfl,q _ (I.hok.fresh (aq7 _))⟩
 rcases hq with hq|hq
 ·obtain⟨its,r',pl,hz⟩:=I.list hq
  have hlen:=r'.length
  obtain⟨o,ho,hc,n,hd⟩:=pl.isList
  exact call_list_seq p (.inl rfl) ho hc hd (fun h' c' kp e=>fin its r' hz h' c' kp e) (by simp only[aq18]<;>omega)
 ·obtain⟨its,r',pl,hz⟩:=I.tuple hq
  have hlen:=r'.length
  obtain⟨o,ho,hc,n,hd⟩:=pl
  exact call_list_seq p (.inr rfl) ho hc hd (fun h' c' kp e=>fin its r' hz h' c' kp e) (by simp only[aq18]<;>omega)
theorem oM:kJ X (.type "tuple") (fun xs H Q=>∃p ys,xs=[.ref p]/\((zV X.K H p ys/\∀l,H l=none->Q (.ref l) (upd H l (.tup ys)))\/(qA X.K H p ys/\Q (.ref p) H))):=by
 intro pins s σ H xs us Q I r h
 obtain⟨p,ys,rfl,h⟩:=h
 obtain⟨u,rfl,rx⟩:=vals1 r
 cases rx
 rcases h with⟨hq,q⟩|⟨hq,q⟩
 ·obtain⟨its,r',pl,hz⟩:=I.list hq
  have hlen:=r'.length
  refine call_tuple_list pl.isList (fun h' kp=>?_) (by simp only[aq18]<;>omega)
  have I1:Inv X pins σ H {s with heap:=h'}:=I.kept (t':=s.toks) kp
  have I2:Inv X pins σ (upd H h'.objs.size (.tup ys)) {s with heap:=h'.push {cls:=.type "tuple",data:=.seq its.toArray}}:=
   I1.laid (t':=s.toks) (fun b o e=>aq13 _ e) (aq7 _) (show jV X.prog X.w _ _ _ (.tup ys)from⟨hz,its,r',IsTup.new _ _⟩)
  exact⟨.ref h'.objs.size,_,I2,rfl,q _ (I1.hok.fresh (aq7 _))⟩
 ·obtain⟨its,r',pl,hz⟩:=I.tuple hq
  exact call_tuple_same pl ⟨.ref p,H,I,rfl,q⟩
def tyV(K:Fg)(T:String)(x:V)(H:Hp):Prop:=match x with
 | .str _=>T="str"
 | .int _=>T="int"
 | .ref p=>(T="list"/\∃xs,zV K H p xs)\/(T="tuple"/\∃o,K.lookup p=some o/\o.cls= .type "tuple"/\o.dict=none)\/
   (T="dict"/\((∃kvs,H p=some (.dK kvs))\/∃kvs,H p=some (.dT kvs)))\/(T="set"/\∃S n,H p=some (.set S n))
 |_=>False
theorem rS{pins:List (Addr×Obj)}{σ:St}{H:Hp}{s:Shared}{T:String}{x:V}{v:Value}(I:Inv X pins σ H s)(r:zY x v)(ty:tyV X.K T x H):
  s.TypeIs v T/\∀a,v= .ref a->∃ob,s.heap.get? a=some ob/\ob.dict=none:=by
 cases x with
 |str z=>
  obtain⟨t,rfl⟩:=r
  cases (show T="str" from ty)
  exact⟨typeIs_str s z t,fun _ e=>nomatch e⟩
 |int i=>
  obtain⟨t,rfl⟩:=r
  cases (show T="int" from ty)
  exact⟨typeIs_int s i t,fun _ e=>nomatch e⟩
 |ref p=>
  cases r
  rcases ty with⟨rfl,xs,hq⟩|⟨rfl,o,hk,hc,hd⟩|⟨rfl,hk⟩|⟨rfl,S,n,hk⟩
  ·obtain⟨its,_,pl,_⟩:=I.list hq
   refine⟨pl.isList.typeIs,fun a e=>?_⟩
   cases e
   obtain⟨o,n,e,c,hd,_⟩:=pl
   exact⟨o,e,hd⟩
  ·refine⟨⟨o,I.kIn p o hk,hc⟩,fun a e=>?_⟩
   cases e
   exact⟨o,I.kIn _ o hk,hd⟩
  ·have z:∃o,s.heap.get? p=some o/\o.ExactDict:=by
    rcases hk with⟨kvs,hk⟩|⟨kvs,hk⟩
    ·obtain⟨_,_,_,_,o,_,_,e,ex,_⟩:=I.hok p _ hk
     exact⟨o,e,ex⟩
    ·obtain⟨_,_,_,_,o,_,_,e,ex,_⟩:=I.hok p _ hk
     exact⟨o,e,ex⟩
   obtain⟨o,e,ex⟩:=z
   refine⟨⟨o,e,ex.1⟩,fun a e2=>?_⟩
   cases e2
   exact⟨o,e,ex.2.1⟩
  ·obtain⟨o,_,_,_,e,ex,_⟩:=I.hok p _ hk
   refine⟨⟨o,e,ex.1⟩,fun a e2=>?_⟩
   cases e2
   exact⟨o,e,ex.2.1⟩
 |_=>exact False.elim ty
def zX2(K:Fg)(T:String)(r:V->List V->Hp->VK->Prop)(to:TE):TE:=fun σ H Q=>to σ H fun x H1=>tyV K T x H1/\r x [] H1 Q
def tBM(K:Fg)(T:String)(r:V->List V->Hp->VK->Prop)(to:TE)(t:TA):TE:=fun σ H Q=>to σ H fun x H1=>tyV K T x H1/\t σ H1 fun xs H2=>r x xs H2 Q
variable {o e:Expr} {es:List Expr} {to:TE} {t:TA} {name:Str} {apos cpos:Pos} {T id:String} {r:V->List V->Hp->VK->Prop}
theorem qM6(pa:PlainAttrs T)(slot:Slot T name id)(hty:typeOf (.builtin id)=pure (.type "method_descriptor"))(hm:MtR X id r)(ho:PE X o to)
  (hbase:attributeBase o name X.env (eval o X.env)=eval o X.env:=by rfl)(hline:(apos.endLine==cpos.line)=true:=by rfl):PE X (.Call (.Attribute o name apos) [] [] cpos) (zX2 X.K T r to):=by
 intro pins s σ H Q I h
 refine wpAny_Call_method0_late hbase hline (thn (ho pins s σ H _ I h) fun v s1⟨x,H1,I1,r1,ty,q1⟩=>?_)
 obtain⟨h1,h2⟩:=rS I1 r1 ty
 exact⟨T,id,pa,slot,hty,h1,h2,Calls.callWith_builtin rfl (PySem.evalArgs_none (hm pins s1 σ H1 x [] v [] Q I1 r1 .nil q1))⟩
theorem yB(pa:PlainAttrs T)(slot:Slot T name id)(hty:typeOf (.builtin id)=pure (.type "method_descriptor"))(hm:MtR X id r)(ho:PE X o to)(ha:PA X (e::es) t)
  (hbase:attributeBase o name X.env (eval o X.env)=eval o X.env:=by rfl)
  (hfew:((backTo cpos (starEach (e::es) X.env)).all (fun x=> !x.1)&&(backToKw cpos (keywordEach [] X.env)).all (fun x=>x.1.isSome)
   &&decide ((e::es).length+([]:List Keyword).length+(if([]:List Keyword).isEmpty then 0 else 1)<30))=true:=by rfl)
  (hline:(apos.endLine==cpos.line)=true:=by rfl)(hs:starEach (e::es) X.env=(false,eval e X.env)::starEach es X.env:=by rfl)(hplain:(backTo cpos (starEach es X.env)).any (·.1)=false:=by rfl):
  PE X (.Call (.Attribute o name apos) (e::es) [] cpos) (tBM X.K T r to t):=by
 intro pins s σ H Q I h
 refine wpAny_Call_method_late hbase hfew hline rfl (thn (ho pins s σ H _ I h) fun v s1⟨x,H1,I1,r1,ty,q1⟩=>?_)
 obtain⟨h1,h2⟩:=rS I1 r1 ty
 refine⟨T,id,pa,slot,hty,h1,h2,?_⟩
 have hA:=ha cpos pins s1 σ H1 _ I1 q1
 rw[hs]at hA⊢
 refine Calls.callWith_builtin (by show(false||(backTo cpos (starEach es X.env)).any (·.1))=false;rw[hplain]<;>rfl) (Calls.evalArgs_plain ?_)
 exact thn hA fun us s2⟨vs,H2,I2,r2,q2⟩=>hm pins s2 σ H2 x vs v us Q I2 r1 r2 q2
end
def MtM(X:Cx)(id:String)(r:V->List V->Hp->VK->Prop):Prop:=
 ∀(pins:List (Addr×Obj))(s:Shared)(σ:St)(H:Hp)(x:V)(xs:List V)(v:Value)(us:List Value)(Q:VK),Inv X pins σ H s->zY x v->Vals xs us->r x xs H Q->
  wpAny (model X.prog X.w) X.A (call (.builtin id) (v::us)) (EP X pins σ Q) X.xe s
theorem Vals.one:∀{x:V}{us:List Value},Vals [x] us->∃u,us=[u]/\zY x u
 |_,_,.cons r .nil=>⟨_,rfl,r⟩
theorem Vals.two:∀{x y:V}{us:List Value},Vals [x,y] us->∃u v,us=[u,v]/\zY x u/\zY y v
 |_,_,_,.cons r (.cons q .nil)=>⟨_,_,rfl,r,q⟩
theorem Vals.zero:∀{us:List Value},Vals [] us->us=[]
 |_,.nil=>rfl
theorem Vals.dropLast{xs:List V}{us:List Value}(h:Vals xs us):Vals xs.dropLast us.dropLast:=by
 induction h with
 |nil=>exact .nil
 |cons r t ih=>
  cases t with
  |nil=>exact .nil
  |cons q t'=>exact .cons r ih
theorem Vals.rep{xs:List V}{us:List Value}(h:Vals xs us):∀k:Nat,Vals (List.replicate k xs).flatten (List.replicate k us).flatten
 |0=>.nil
 |k+1=>by
  rw[List.replicate_succ,List.replicate_succ,List.flatten_cons,List.flatten_cons]
  exact Vals.append h (Vals.rep h k)
theorem mE{α:Type}(l:List α):l.eraseIdx (l.length-1)=l.dropLast:=by
 induction l with
 |nil=>rfl
 |cons a r ih=>
  cases r with
  |nil=>rfl
  |cons b r=>
   have e:(a::b::r).length-1=((b::r).length-1)+1:=by
    have h1:(a::b::r).length=r.length+2:=rfl
    have h2:(b::r).length=r.length+1:=rfl
    omega
   rw[e,List.eraseIdx_cons_succ,ih]
   all_goals rfl
theorem oE(its:List Value):∀(k:Nat)(acc:List Value),
  List.foldl (fun x1 x2=>x1++x2) acc.toArray (List.replicate k its.toArray)=(acc++(List.replicate k its).flatten).toArray
 |0,acc=>by simp
 |k+1,acc=>by
  have e:acc.toArray++its.toArray=(acc++its).toArray:=by simp
  have e2:(acc++its)++(List.replicate k its).flatten=acc++(List.replicate (k+1) its).flatten:=by
   rw[List.replicate_succ,List.flatten_cons,List.append_assoc]
  rw[<-e2,<-oE its k (acc++its),<-e,List.replicate_succ,List.foldl_cons]
section
variable {X:Cx} {pins:List (Addr×Obj)} {σ:St} {H:Hp} {s:Shared} {l b:Addr} {xs ys zs:List V}
theorem Inv.lset{its its':List Value}{n:Nat}{f:Array Value->Array Value}{t':Nat}(I:Inv X pins σ H s)(hH:H l=some (.lst xs))
  (e:s.heap.get? l=some {cls:=.type "list",data:=.seq its.toArray n})(hf:f its.toArray=its'.toArray)(hv:Vals ys its')(hz:ys.length<=sizeLine):
  Inv X pins σ (upd H l (.lst ys)) {s with heap:=s.heap.update l (Obj.mapSeq f),toks:=t'}:=by
 have q:=PySem.IsL.update e f
 rw[hf]at q
 refine I.write (x:=l) (e:=l) (by rw[hH];exact trivial) (.inl rfl) (fun b' u hb hu=>(Heap.get?_update_other s.heap (Obj.mapSeq f) (Ne.symm hb)).trans hu) ⟨_,q⟩ ?_
 exact⟨hz,its',_,hv,q⟩
theorem Inv.lnew{its:List Value}{t':Nat}(I:Inv X pins σ H s)(hv:Vals ys its)(hz:ys.length<=sizeLine):
  Inv X pins σ (upd H s.heap.objs.size (.lst ys)) {s with heap:=s.heap.push {cls:=.type "list",data:=.seq its.toArray},toks:=t'}:=
 I.laid (fun _ _ q=>aq13 _ q) (aq7 _) ⟨hz,its,0,hv,aq14 _ rfl⟩
theorem Inv.fresh(I:Inv X pins σ H s):H s.heap.objs.size=none:=I.hok.fresh (aq7 _)
theorem Inv.lstM(I:Inv X pins σ H s)(hH:H l=some (.lst xs)):xs.length<=sizeLine/\∃(its:List Value)(n:Nat),Vals xs its/\xs.length=its.length/\s.heap.get? l=some {cls:=.type "list",data:=.seq its.toArray n}:=by
 obtain⟨z,its,n,r,e⟩:=I.hok l _ hH
 exact⟨z,its,n,r,r.length,e⟩
theorem lV{n:Nat}(h:n<=sizeLine):Builtin.List.listTooLong n=false:=by
 unfold Builtin.List.listTooLong
 exact decide_eq_false (by omega)
end
section
variable {X:Cx}
inductive lW(x:V)(vs:List V)(H:Hp)(Q:VK):Prop
 |mk (l:_) (xs:_) (y:_) (a_0:x= .ref l) (a_1:vs=[y]) (a_2:H l=some (.lst xs)) (a_3:xs.length<sizeLine) (a_4:Q .non (upd H l (.lst (xs++[y])))):lW x vs H Q
def qX3:V->List V->Hp->VK->Prop:=fun x vs H Q=>lW x vs H Q
theorem kB:MtM X "list.append" qX3:=by
 intro pins s σ H x vs v us Q I rx rv h
 obtain⟨l,xs,y,rfl,rfl,hH,hz,q⟩:=h
 cases rx
 obtain⟨u,rfl,ru⟩:=rv.one
 obtain⟨z,its,n,r,hl,e⟩:=I.lstM hH
 refine call_meets F.slot_list_append ⟨_,e,rfl⟩ F.entry_list_append (F.args_list_append_2 _ _) (PySem.list_append l its.toArray n u (by rw[aq18];omega)) ⟨e,?_⟩
 refine⟨.non,_,I.lset (its':=its++[u]) hH e (by simp) (r.append (.cons ru .nil)) ?_,rfl,q⟩
 rw[List.length_append,List.length_singleton]
 omega
inductive lY(x:V)(vs:List V)(H:Hp)(Q:VK):Prop
 |mk (l:_) (b:_) (xs:_) (zs:_) (a_0:x= .ref l) (a_1:vs=[.ref b]) (a_2:H l=some (.lst xs)) (a_3:H b=some (.lst zs)) (a_4:xs.length+zs.length<=sizeLine) (a_5:Q .non (upd H l (.lst (xs++zs)))):lY x vs H Q
def qX4:V->List V->Hp->VK->Prop:=fun x vs H Q=>lY x vs H Q
theorem pV:MtM X "list.extend" qX4:=by
 intro pins s σ H x vs v us Q I rx rv h
 obtain⟨l,b,xs,zs,rfl,rfl,hH,hB,hz,q⟩:=h
 cases rx
 obtain⟨u,rfl,ru⟩:=rv.one
 cases ru
 obtain⟨z,its,n,r,hl,e⟩:=I.lstM hH
 obtain⟨z2,its2,n2,r2,hl2,e2⟩:=I.lstM hB
 have hsz:its.toArray.size+its2.toArray.size<=sizeLine:=by rw[aq18,aq18];omega
 have hlong:¬(!its.toArray.isEmpty&&Builtin.List.listTooLong (its.toArray.size+its2.toArray.size))=true:=by
  rw[lV hsz,Bool.and_false]
  exact Bool.false_ne_true
 refine call_meets F.slot_list_extend ⟨_,e,rfl⟩ F.entry_list_extend (F.args_list_extend_2 _ _)
  (AutoSeq1.list_extend_list_list_0 l its.toArray n b its2.toArray n2 hlong (by rw[aq18];omega) (by omega)) ⟨e,e2,?_⟩
 refine⟨.non,_,I.lset (its':=its++its2) hH e (by simp) (r.append r2) ?_,rfl,q⟩
 rw[List.length_append]
 omega
inductive qO9(x:V)(vs:List V)(H:Hp)(Q:VK):Prop
 |mk (l:_) (xs:_) (y:_) (a_0:x= .ref l) (a_1:vs=[]) (a_2:H l=some (.lst xs)) (a_3:xs[xs.length-1]? =some y) (a_4:Q y (upd H l (.lst xs.dropLast))):qO9 x vs H Q
def zX4:V->List V->Hp->VK->Prop:=fun x vs H Q=>qO9 x vs H Q
theorem qM7:MtM X "list.pop" zX4:=by
 intro pins s σ H x vs v us Q I rx rv h
 obtain⟨l,xs,y,rfl,rfl,hH,hy,q⟩:=h
 cases rx
 have hus:=rv.zero
 subst hus
 obtain⟨z,its,n,r,hl,e⟩:=I.lstM hH
 obtain⟨u,hu,ru⟩:=r.get hy
 have hy':its.toArray[its.toArray.size-1]? =some u:=by
  show its.toArray[its.length-1]? =some u
  rw[<-Array.getElem?_toList,<-hl]
  exact hu
 refine call_meets F.slot_list_pop ⟨_,e,rfl⟩ F.entry_list_pop (F.args_list_pop_1 _) (MeetsSeq.list_pop_last l its.toArray n u hy' (by rw[aq18];omega)) ⟨e,?_⟩
 refine⟨y,_,I.lset (its':=its.dropLast) hH e ?_ r.dropLast ?_,ru,q⟩
 ·show its.toArray.eraseIdxIfInBounds (its.toArray.size-1)=its.dropLast.toArray
  rw[aq18,List.eraseIdxIfInBounds_toArray,mE]
 ·rw[List.length_dropLast]
  omega
inductive qOq(x:V)(y:V)(H:Hp)(Q:VK):Prop
 |mk (l:_) (b:_) (xs:_) (zs:_) (a_0:x= .ref l) (a_1:y= .ref b) (a_2:H l=some (.lst xs)) (a_3:H b=some (.lst zs)) (a_4:xs.length+zs.length<=sizeLine) (a_5:∀p,H p=none->Q (.ref p) (upd H p (.lst (xs++zs)))):qOq x y H Q
def iA:R2:=fun x y H Q=>qOq x y H Q
theorem jF:wQ X (binaryOp .Add) iA:=by
 intro pins s σ H x y v u Q I rx ry h
 obtain⟨l,b,xs,zs,rfl,rfl,hH,hB,hz,q⟩:=h
 cases rx
 cases ry
 obtain⟨z,its,n,r,hl,e⟩:=I.lstM hH
 obtain⟨z2,its2,n2,r2,hl2,e2⟩:=I.lstM hB
 refine PySem.P.add_list e e2 ?_ (by rw[aq18,aq18];omega)
 have ea:its.toArray++its2.toArray=(its++its2).toArray:=by simp
 rw[ea]
 exact⟨.ref _,_,I.lnew (t':=s.toks) (r.append r2) (by rw[List.length_append];omega),rfl,q _ I.fresh⟩
inductive qOz(x:V)(y:V)(H:Hp)(Q:VK):Prop
 |mk (l:_) (k:_) (xs:_) (a_0:x= .ref l) (a_1:y= .int k) (a_2:H l=some (.lst xs)) (a_3: -(2^63)<=k) (a_4:k<2^63) (a_5:xs.length*k.toNat<=sizeLine) (a_6:∀p,H p=none->Q (.ref p) (upd H p (.lst (List.replicate k.toNat xs).flatten))):qOz x y H Q
def zX5:R2:=fun x y H Q=>qOz x y H Q
theorem qX5{α:Type}(xs:List α)(k:Nat):(List.replicate k xs).flatten.length=k*xs.length:=by
 induction k with
 |zero=>simp
 |succ k ih=>rw[List.replicate_succ,List.flatten_cons,List.length_append,ih,Nat.succ_mul,Nat.add_comm]
theorem qM8:wQ X (binaryOp .Mult) zX5:=by
 intro pins s σ H x y v u Q I rx ry h
 obtain⟨l,k,xs,rfl,rfl,hH,h1,h2,hz,q⟩:=h
 cases rx
 obtain⟨t,rfl⟩:=ry
 obtain⟨z,its,n,r,hl,e⟩:=I.lstM hH
 have hlen:its.toArray.size*k.toNat<=sizeLine:=by rw[aq18,<-hl];exact hz
 have hcap:¬its.toArray.size*k.toNat>(2^63-1)/8:=by
  have :(sizeLine:Nat)<=(2^63-1)/8:=by decide
  omega
 have hfit:¬(!Builtin.List.listFitsIndex k)=true:=by
  rw[fitsIndex_both h1 h2]
  exact Bool.false_ne_true
 have hlong:¬Builtin.List.listTooLong (its.toArray.size*k.toNat)=true:=by
  rw[lV hlen]
  exact Bool.false_ne_true
 have hnew:List.foldl (fun x1 x2=>x1++x2) #[] (List.replicate (if its.toArray.isEmpty=true then 0 else k.toNat) its.toArray)=(List.replicate k.toNat its).flatten.toArray:=by
  have f0:∀m:Nat,List.foldl (fun x1 x2=>x1++x2) #[] (List.replicate m its.toArray)=(List.replicate m its).flatten.toArray:=fun m=>by
   have :=oE its m []
   rw[List.nil_append]at this
   exact this
  rw[f0]
  cases its with
  |nil=>simp
  |cons a r'=>rw[if_neg (by simp)]
 refine wpAny_binaryOp_repeat_ref (T:="list") (U:="int") (by decide) ⟨_,e,rfl⟩ (fun s'=>typeIs_int s' k t) noFill_list_mul F.fills_int_mul F.slot_int_rmul repeat_list F.slot_int_index.lookup
  (call_meets F.slot_int_rmul (typeIs_int s k t) F.entry_int_rmul (F.args_int_rmul_2 _ _) (int___rmul___int_list k t l its.toArray n)
   ⟨e,rfl,⟨_,e,rfl⟩,call_meets F.slot_list_mul ⟨_,e,rfl⟩ F.entry_list_mul (F.args_list_mul_2 _ _) (AutoListH.list___mul___list_int_3 l its.toArray n k t hfit hcap hlong) ⟨e,?_⟩⟩)
 rw[hnew]
 exact⟨.ref _,_,I.lnew (t':=s.toks) (r.rep k.toNat) (by rw[qX5,Nat.mul_comm];exact hz),rfl,q _ I.fresh⟩
end
section
variable {prog:Program} {w:World} {A:Around} {E:Value->Shared->Prop} {s:Shared}
set_option maxRecDepth 100000 in
end
section
variable {X:Cx}
end
end L2
namespace Att
open PySem PySem.W PySem.Calls PyProof.Rows
theorem yR{P:Params}{h:Heap}:∀(ns:List Int)(vs:List Value),WellAll P h vs (ns.map WData.int)->IntsAre vs ns:=by
 intro ns
 induction ns with
 |nil=>
  intro vs w
  rw[List.map_nil]at w
  cases w
  exact .nil
 |cons n ns ih=>
  intro vs w
  rw[List.map_cons]at w
  cases w with
  |cons a b=>
   cases a
   exact .cons _ _ (ih _ b)
theorem pW{l:OpenLaw}{n:Nat}(hn:l.most=some n){P:Params}{h:Heap}{args:List WData}{vals:List Value}
  (hpre:l.row.toRowW.claim.pre args=true)(hwl:WellAll P h vals args):
  ∃a vs ns,vals=[Value.ref a]/\args=[WData.list (ns.map WData.int)]/\h.get? a=some {cls:=.type "list",data:=.seq vs.toArray}/\IntsAre vs ns/\ns.length<=n:=by
 have hsh:WShape.hasAll [] args [.list .int]=true:=(pre_splitW hpre).1
 have hc:l.pre.holds [] {args:=args}=true:=(pre_splitW hpre).2
 obtain⟨d,r,rfl,h1,h2⟩:=hasAllW_cons hsh
 obtain rfl:=hasAllW_nil h2
 obtain⟨xs,rfl,h3⟩:=hasW_list h1
 obtain⟨ns,rfl⟩:=items_int h3
 have hlen:ns.length<=n:=by
  unfold OpenLaw.pre at hc
  have h4:(WTm.not (.lt (.lit (.int (n:Int))) (.len (.arg 0)))).holds [] {args:=[.list (ns.map .int)]}=true:=by
   have h4:=(holds_andW hc).1
   rw[hn]at h4
   exact h4
  have h5:=condW_of h4 (w_not (w_lt w_lit (w_len_list (w_arg rfl))))
  rw[aq16]at h5
  refine Nat.le_of_not_lt fun q=>?_
  have q':(n:Int)<((ns.length:Nat):Int):=by omega
  first
   |(rw[decide_eq_true q']at h5;exact absurd h5 (by decide))
   |(simp at h5;omega)
 cases hwl with
 |cons w1 w2=>
  cases w2
  cases w1 with
  |list ho hall=>exact⟨_,_,ns,rfl,rfl,ho,yR ns _ hall,hlen⟩
theorem pY(l:OpenLaw)(args:List WData):l.row.toRowW.claim.post args (.bool true) args=true:=
 postW_of (r:=l.row.toRowW) (X:=(true==true))
  (show WShape.has [] (.bool true) .bool=true by first|rfl|decide|simp[WShape.has,WShape.arms,WShape.armsAll])
  (show(WTm.eq .res (.lit (.bool true))).value [] {args:=args,res:=some (.bool true),after:=args}=some (.bool (true==true))from w_eq_bool (w_res rfl) w_lit) rfl
theorem attach_call{l:OpenLaw}{n:Nat}{q:Program}{loose:List Str}{XP:(Str->Option Value)->Heap->Prop}{YP:World->Heap->Prop}{d:DefRec}
  (hn:l.most=some n)(hdf:d.params.defaults=[])
  (call:∀(w:World)(s₀ s₁:Shared)(mg mb:Str->Option Value)(fa:Addr)(o:Obj)(pm cd doc:Value)(a:Addr)(vs:List Value)(ns:List Int),
   Ground q loose [] XP w s₀ mg mb s₁.heap->YP w s₁.heap->
   s₁.heap.get? fa=some o->o.data= .func (docDef d.name d.params d.body d.scope pm cd doc)->s₁.heap.CodeRec cd d.name->mg d.name=some (.ref fa)->
   s₁.heap.get? a=some {cls:=.type "list",data:=.seq vs.toArray}->IntsAre vs ns->ns.length<=n->s₁.gens= #[]->
   codeAny (model l.prog w) callerA (.call (.ref fa) ⟨[.ref a],[]⟩) (fun r s'=>r= .ok (.ret (.bool true))/\OldK s₁.heap s'.heap/\s'.os=s₁.os/\AllBare s'.gens) s₁):
  WalkO q loose XP YP l.row.toRowW d [] (fun f vs=>PySem.call f vs):=by
 intro w s₀ s₁ mg mb G Y fa o pm cd doc dV kV ho hd hcd hD hmg hg args vals as hpre hlay hrd hwl hlo
 obtain rfl:dV= .none:=Dflts.none hD hdf
 obtain rfl:kV= .none:=Dflts.noKw hD
 obtain⟨a,vs,ns,rfl,rfl,hobj,hints,hlen⟩:=pW hn hpre hwl
 refine enter_call (codeAny_mono (call w s₀ s₁ mg mb fa o pm cd doc a vs ns G Y ho (fd_plain hd) hcd hmg hobj hints hlen hg) fun r s' hq=>?_)
 obtain⟨rfl,h2,h3,h4⟩:=hq
 exact⟨.inl ⟨.bool true,.bool true,[],rfl,fun _=>rfl,.bool true,pY l _,fun _=>⟨List.Pairwise.nil,fun _ hm=>(nomatch hm)⟩⟩,h2,h3,h4⟩
section
variable {prog:Program} {w:World} {A:Around} {E:Value->Shared->Prop} {s:Shared} {K:Frag}
end
end Att
namespace L2
open PySem PySem.Spec PyProof.Rows
theorem iQ:∀{vs:List Value}{ns:List Int},IntsAre vs ns->Vals (ns.map V.int) vs
 |_,_,.nil=>.nil
 |_,_,.cons n t h=>.cons ⟨t,rfl⟩ (iQ h)
def qX6(s:Stmt)(j:Nat):Stmt:=match s with
 | .ClassDef _ _ _ body _ _ _ _ _ _ _=>body.getD j (.Pass ⟨0,0,0,0⟩)
 |_=>.Pass ⟨0,0,0,0⟩
def iE(s:Stmt):Arguments:=match s with
 | .FunctionDef _ a _ _ _ _ _ _ _ _=>a
 |_=>{posonlyargs:=[],args:=[],vararg:=none,kwonlyargs:=[],kw_defaults:=[],kwarg:=none,defaults:=[]}
def jH(s:Stmt):List Stmt:=match s with
 | .FunctionDef _ _ b _ _ _ _ _ _ _=>b
 |_=>[]
def qL(s:Stmt):Scope:=match s with
 | .FunctionDef _ _ _ _ _ _ sc _ _ _=>sc
 |_=>{kind:=.function,names:=[],isGenerator:=false,isCoroutine:=false}
abbrev E0:XK:=fun _ _ _=>False
section
variable {P:Program} {w:World} {K:Fg} {mg:Str->Option Value} {base:Heap}
end
section
variable {X:Cx}
theorem pv(i:Nat){x:Str}{pos:Pos}(hN:X.N[i]? =some x:=by rfl)(hv:Vis X.env.scope x:=by first|exact Or.inl rfl|exact Or.inr oI|exact Or.inr (Or.inr rfl))(hd:(x==("__debug__":Str))=false:=by decide)
  (hcd:(x==("__classdict__":Str))=false:=by decide):PE X (.Name x pos) (xG i):=mI hN hv hd hcd
end
theorem jQ{A B:Prop}(h:B):if false=true then A else B:=by
 rw[if_neg Bool.false_ne_true]
 exact h
theorem jO{A B:Prop}(h:A):if true=true then A else B:=by
 rw[if_pos rfl]
 exact h
theorem ite2{c A B:Prop}[Decidable c](h1:c->A)(h2:¬c->B):if c then A else B:=by
 by_cases h:c
 ·rw[if_pos h]
  exact h1 h
 ·rw[if_neg h]
  exact h2 h
def Same(H H':Hp):Prop:=∀b o,H b=some o->H' b=some o
theorem Same.refl(H:Hp):Same H H:=fun _ _ h=>h
theorem Same.trans{H H1 H2:Hp}(a:Same H H1)(b:Same H1 H2):Same H H2:=fun c o h=>b c o (a c o h)
theorem Same.seq{K:Fg}{H H':Hp}{a:Addr}{xs:List V}(e:Same H H')(h:zV K H a xs):zV K H' a xs:=by
 rcases h with(h|⟨o,h⟩)|h
 ·exact .inl (.inl (e _ _ h))
 ·exact .inl (.inr ⟨o,e _ _ h⟩)
 ·exact .inr h
end L2
namespace XA
open PySem
def Lk{α:Type}(M:Model)(h:Heap)(t:Sem α)(r:α):Prop:=
 ∀(A:Around)(Q:α->Shared->Prop)(E:Value->Shared->Prop)(s:Shared),(∀b o,h.get? b=some o->s.heap.get? b=some o)->Q r s->wpAny M A t Q E s
theorem Lk.at{α:Type}{M:Model}{A:Around}{t:Sem α}{r:α}{Q:α->Shared->Prop}{E:Value->Shared->Prop}{h:Heap}{g d tk os}(x:Lk M h t r)(q:Q r ⟨h,g,d,tk,os⟩):wpAny M A t Q E ⟨h,g,d,tk,os⟩:=x A Q E _ (fun _ _ e=>e) q
theorem Lk.keeps{α:Type}{M:Model}{h h':Heap}{t:Sem α}{r:α}(x:Lk M h t r)(k:∀b o,h.get? b=some o->h'.get? b=some o):Lk M h' t r:=
 fun A Q E s k' q=>x A Q E s (fun b o e=>k' _ _ (k _ _ e)) q
structure Above(B:String)(bm:List Value):Prop where
 hasB:bm.contains (.type B)=true
 base:bm.contains (.type "BaseException")=true
 noA:bm.contains (.type "AttributeError")=false
 noN:bm.contains (.type "NameError")=false
section
variable {prog:Program} {w:World} {A:Around} {E:Value->Shared->Prop} {h:Heap} {g:Array GenState} {d:Drawn} {t:Nat} {os:OsState}
variable {nm q:Str} {C N:Addr} {bs bm bmB:List Value} {hdct:Bool} {sn:List Str} {sub:List Value} {ab:Bool} {col:Option Bool} {dd:Option Addr} {k0 k1 k2 k3 k5:Option Value} {B newId initId:String}
theorem bY(F:ExcBaseFacts B newId initId bmB)(T:Above B bm){M:Model}{rest:List Value}{Q:Unit->Shared->Prop}(hC:h.get? C=some (excClassObj nm q C N bs bm hdct sn sub ab col dd k0 k1 k2 k3 k5 newId))
  (hq:Q () ⟨h,g,d,t,os⟩):wpAny M A (checkBuiltinCall newId ⟨.ref C::rest,[]⟩) Q E ⟨h,g,d,t,os⟩:=by
 have c1:(Value.ref C::bm).contains (.type B)=true:=by rw[List.contains_cons,T.hasB,Bool.or_true]
 have c2:=F.noStar
 simp only[checkBuiltinCall,F.newKind,F.newSplit,F.newRow]
 repeat (first|refine wpAny_loadPart_at hC ?_|(refine wpAny_isSubtype_exc hC ?_;rw[c1])|refine wpAny_staticBase_exc hC ?_|refine wpAny_madeBy_exc hC ?_|simp only[bne_self_eq_false,Bool.false_eq_true,if_false]|wp_step)
 exact hq
theorem bU(F:ExcBaseFacts B newId initId bmB)(T:Above B bm){R:Result->Shared->Prop}{rest:List Value}(hC:h.get? C=some (excClassObj nm q C N bs bm hdct sn sub ab col dd k0 k1 k2 k3 k5 newId))
  (hq:R (.ok (.ret (.ref (h.objs.size+1)))) ⟨(h.push {cls:=.type "tuple",data:=.seq rest.toArray}).push
   {cls:=.ref C,data:=.fields #[.ref h.objs.size,.none,.none,.none,.bool false,.none]},g,d,t,os⟩)(hrest:rest.length<=sizeLine):
  codeAny (model prog w) A (.builtin newId ⟨.ref C::rest,[]⟩) R ⟨h,g,d,t,os⟩:=by
 have he:=F.ends
 have c1:(Value.ref C::bm).contains (.type B)=true:=by rw[List.contains_cons,T.hasB,Bool.or_true]
 have c2:(Value.ref C::bm).contains (.type "AttributeError")=false:=by rw[List.contains_cons,T.noA];rfl
 have c3:(Value.ref C::bm).contains (.type "NameError")=false:=by rw[List.contains_cons,T.noN];rfl
 refine codeAny_builtinAt F.entry ?_
 unfold Builtin.«BaseException.__new__»
 refine wpAt_bind ?_
 show wpAt _ _ _ (stack>>=_) _ _ _
 refine wpAt_bind (wpAt_stack fun p below=>wpAt_of_wpAny ?_)
 wp_walk
 refine wpAt_of_wpAny ?_
 rw[F.owner]
 repeat (first|with_reducible refine wpAny_madeHere_exc F.canon hC ?_|with_reducible refine wpAny_loadPart_at hC ?_|(with_reducible refine wpAny_isSubtype_exc hC ?_;first|rw[c1]|rw[c2]|rw[c3])|wp_step)
 show R _ _
 rw[Heap.size_push]
 exact hq
theorem tcall_init(F:ExcBaseFacts B newId initId bmB)(T:Above B bm){rest:List Value}{fI:Addr}{oI:Obj}{Q:Fin->Shared->Prop}
  (hC:h.get? C=some (excClassObj nm q C N bs bm hdct sn sub ab col dd k0 k1 k2 k3 k5 newId))(hi:Lk (model prog w) h (typeLookup (.ref C) "__init__") (some (.ref fI)))
  (hfI:h.get? fI=some oI)(hfc:oI.cls= .type "function")
  (hq:wpAny (model prog w) A (call (.ref fI) (.ref (h.objs.size+1)::rest)) (fun r s'=>r= .none/\Q (.done (.ret (.ref (h.objs.size+1)))) s') E
   ⟨(h.push {cls:=.type "tuple",data:=.seq rest.toArray}).push {cls:=.ref C,data:=.fields #[.ref h.objs.size,.none,.none,.none,.bool false,.none]},g,d,t,os⟩)
  (hrest:rest.length<=sizeLine):
  wpAny (model prog w) A (Builtin.«type.__call__» ⟨.ref C::rest,[]⟩) Q E ⟨h,g,d,t,os⟩:=by
 repeat (first|with_reducible refine wpAny_loadPart_at hC ?_|with_reducible refine wpAny_madeBy_exc hC ?_|wp_step)
 refine codeAny_call_builtin_code (Code.quiet_builtin _ F.quiet) (bY F T hC ?_)
 refine bU F T hC ?_ hrest
 show wpAny _ _ _ _ _ _
 have up:∀b o,h.get? b=some o->((h.push {cls:=.type "tuple",data:=.seq rest.toArray}).push {cls:=.ref C,data:=.fields #[.ref h.objs.size,.none,.none,.none,.bool false,.none]}).get? b=some o:=
  fun b o e=>aq13 _ (aq13 _ e)
 have hC1:=up _ _ hC
 have hf1:=up _ _ hfI
 have hi1:=hi.keeps up
 have hg:((h.push {cls:=.type "tuple",data:=.seq rest.toArray}).push
   {cls:=.ref C,data:=.fields #[.ref h.objs.size,.none,.none,.none,.bool false,.none]}).get? (h.objs.size+1)=some
   {cls:=.ref C,data:=.fields #[.ref h.objs.size,.none,.none,.none,.bool false,.none]}:=by heap_get
 have hcC:(Value.ref C::bm).contains (.ref C)=true:=by simp
 unfold isInstance
 repeat (first|with_reducible refine wpAny_loadPart_at hg ?_|(with_reducible refine wpAny_isSubtype_exc hC1 ?_;rw[hcC])|wp_step)
 show wpAny _ _ (typeLookup (.ref C) _) _ _ _
 refine Lk.at hi1 ?_
 refine wpAny_holding (wpAny_bind ?_)
 unfold bindSpecial
 refine wpAny_bind (wpAny_typeOf (T:="function") ⟨_,hf1,hfc⟩ ?_)
 rw[if_pos (by decide)]
 refine wpAny_pure (wpAny_bind (wpAny_mono hq (fun r s' hr=>?_) fun _ _ x=>x))
 obtain⟨rfl,hQ⟩:=hr
 wp_walk
 exact hQ
theorem tcall_bare(F:ExcBaseFacts B newId initId bmB)(T:Above B bm){rest:List Value}{Q:Fin->Shared->Prop}
  (hC:h.get? C=some (excClassObj nm q C N bs bm hdct sn sub ab col dd k0 k1 k2 k3 k5 newId))(hi:Lk (model prog w) h (typeLookup (.ref C) "__init__") (some (.builtin initId)))
  (hq:∀h',(∀b o,h.get? b=some o->h'.get? b=some o)->h'.get? (h.objs.size+1)=some {cls:=.ref C,data:=.fields #[.ref (h.objs.size+2),.none,.none,.none,.bool false,.none]}->
   h'.get? (h.objs.size+2)=some {cls:=.type "tuple",data:=.seq rest.toArray}->Q (.done (.ret (.ref (h.objs.size+1)))) ⟨h',g,d,t,os⟩)
  (hrest:rest.length<=sizeLine):
  wpAny (model prog w) A (Builtin.«type.__call__» ⟨.ref C::rest,[]⟩) Q E ⟨h,g,d,t,os⟩:=by
 repeat (first|with_reducible refine wpAny_loadPart_at hC ?_|with_reducible refine wpAny_madeBy_exc hC ?_|wp_step)
 refine codeAny_call_builtin_code (Code.quiet_builtin _ F.quiet) (bY F T hC ?_)
 refine bU F T hC ?_ hrest
 show wpAny _ _ _ _ _ _
 have up:∀b o,h.get? b=some o->((h.push {cls:=.type "tuple",data:=.seq rest.toArray}).push {cls:=.ref C,data:=.fields #[.ref h.objs.size,.none,.none,.none,.bool false,.none]}).get? b=some o:=
  fun b o e=>aq13 _ (aq13 _ e)
 have hC1:=up _ _ hC
 have hi1:=hi.keeps up
 have hg:((h.push {cls:=.type "tuple",data:=.seq rest.toArray}).push
   {cls:=.ref C,data:=.fields #[.ref h.objs.size,.none,.none,.none,.bool false,.none]}).get? (h.objs.size+1)=some
   {cls:=.ref C,data:=.fields #[.ref h.objs.size,.none,.none,.none,.bool false,.none]}:=by heap_get
 have hcC:(Value.ref C::bm).contains (.ref C)=true:=by simp
 have c1:(Value.ref C::bm).contains (.type B)=true:=by rw[List.contains_cons,T.hasB,Bool.or_true]
 unfold isInstance
 repeat (first|with_reducible refine wpAny_loadPart_at hg ?_|(with_reducible refine wpAny_isSubtype_exc hC1 ?_;rw[hcC])|wp_step)
 show wpAny _ _ (typeLookup (.ref C) _) _ _ _
 refine Lk.at hi1 ?_
 refine wpAny_holding (wpAny_bind (wpAny_of_eq (F.init.bind _) ?_))
 refine wpAny_bind (wpAny_call (codeAny_call_builtin F.init.plain F.initEntry ?_))
 have c3:=F.noStar
 simp only[checkBuiltinCall,F.initKind,F.initSplit,F.initRow]
 repeat (first|with_reducible refine wpAny_loadPart_at hg ?_|with_reducible refine wpAny_loadPart_at hC1 ?_|(with_reducible refine wpAny_isSubtype_exc hC1 ?_;rw[c1])|wp_step)
 refine wpAny_onRaise ?_
 rw[show∀(a b:String)(n:Nat),Bind.check ⟨.positional,"*",B,.self,[⟨"args",.varPos,false⟩]⟩ a b n (List.map (fun x=>x.fst) ({pos:=Value.ref (h.objs.size+1)::rest}:Args).kw)=pure ()from
  fun a b n=>check_star_args _ _ _ _ _ _]
 refine wpAny_pure ?_
 wp_walk
 refine hq _ (fun b o hb=>?_) ?_ ?_
 ·rw[Heap.get?_update_other _ _ (Nat.ne_of_gt (Nat.lt_succ_of_lt (aq8 hb)))]
  exact aq13 _ (up b o hb)
 ·rw[Heap.get?_update_self _ (aq13 _ hg) rfl]
  simp only[Heap.size_push]
  rfl
 ·rw[Heap.get?_update_other _ _ (show h.objs.size+1≠h.objs.size+2 by omega)]
  exact Heap.get?_push_at (by simp only[Heap.size_push]) rfl
theorem call_cls{rest:List Value}{R:Result->Shared->Prop}
  (hC:h.get? C=some (excClassObj nm q C N bs bm hdct sn sub ab col dd k0 k1 k2 k3 k5 newId))
  (hq:wpAny (model prog w) (A.under (.builtin "type.__call__" ⟨.ref C::rest,[]⟩)) (Builtin.«type.__call__» ⟨.ref C::rest,[]⟩)
   (fun fin s'=>match fin with | .done f=>R (.ok f) s'| .again c'=>c'.quiet=true/\codeAny (model prog w) A c' R s') (fun e s'=>R (.error e) s') ⟨h,g,d,t,os⟩):
  codeAny (model prog w) A (.call (.ref C) ⟨rest,[]⟩) R ⟨h,g,d,t,os⟩:=by
 have f1:=tc_lookup
 have f2:=tc_bind (.ref C)
 have hT:(⟨h,g,d,t,os⟩:Shared).TypeIs (.ref C) "type":=⟨_,hC,rfl⟩
 refine codeAny_of_tree ?_
 show wpAny _ _ (callAny (.ref C) _) _ _ _
 repeat (any_goals (first|assumption|with_reducible refine wpAny_loadPart_at hC ?_|wp_step))
 refine⟨rfl,?_⟩
 refine codeAny_call_builtin_at (Code.quiet_builtin _ (by decide+kernel)) entry_typeCall (wpAny_check_type_call_sub hC hq)
end
structure Fly(h:Heap)(e:Addr)(c:Value)(d:Option Addr)(a0:Value)(ot:Option Addr)(fl:Value):Prop where
 obj:∃vs sl,h.get? e=some {cls:=c,dict:=d,data:=.fields vs,slots:=sl}/\vs.size=6/\vs[0]? =some a0/\vs[1]? =some (ot.elim Value.none Value.ref)
 tb:∀T,ot=some T->T≠e/\∃oT ts,h.get? T=some oT/\oT.data= .fields ts/\ts[3]? =some fl
structure yD(fs:List Addr)(e:Addr)(ot:Option Addr)(h h':Heap):Prop where
 keep:∀b o,b≠e->some b≠ot->b∉fs->h.get? b=some o->h'.get? b=some o
 slot:∀b o,b≠e->some b≠ot->h.get? b=some o->∃sl,h'.get? b=some {o with slots:=sl}
 there:∀b o,h.get? b=some o->∃o',h'.get? b=some o'
theorem yO{h:Heap}{a:Addr}{o:Obj}{vs ws:Array Value}{i:Nat}{x:Value}(ha:h.get? a=some o)(hd:o.data= .fields vs):
  ∀b ob,h.get? b=some ob->∃o',(h.update a (Obj.mapFields (·.setIfInBounds i x))).get? b=some o':=fun b ob hb=>by
 by_cases e:b=a
 ·subst e
  exact⟨_,Heap.get?_update_self _ ha (Obj.isFreed_of_fields (Obj.data_mapFields hd _))⟩
 ·exact⟨ob,by rw[Heap.get?_update_other _ _ (Ne.symm e)];exact hb⟩
section
variable {M:Model} {A:Around} {E:Value->Shared->Prop} {s:Shared} {e:Addr} {c a0 fl:Value} {d ot:Option Addr} {T:Addr}
theorem lU{Q:Unit->Shared->Prop}(x:Fly s.heap e c d a0 none fl)(h:Q () s):wpAny M A (setFlight (.ref e) none) Q E s:=by
 obtain⟨⟨vs,sl,he,hz,h0,h1⟩,_⟩:=x
 unfold setFlight
 refine wpAny_bind (wpAny_field he rfl h1 ?_)
 rw[if_neg (by decide)]
 exact wpAny_pure h
theorem flight_to{fr:Option Addr}{Q:Unit->Shared->Prop}(x:Fly s.heap e c d a0 (some T) fl)
  (h:∀h',Fly h' e c d a0 (some T) (fr.elim Value.none fun f=>rawInt f)->(∀b o,b≠T->s.heap.get? b=some o->h'.get? b=some o)->(∀b o,s.heap.get? b=some o->∃o',h'.get? b=some o')->Q () {s with heap:=h'}):
  wpAny M A (setFlight (.ref e) fr) Q E s:=by
 obtain⟨⟨vs,sl,he,hz,h0,h1⟩,tb⟩:=x
 obtain⟨hTe,oT,ts,hT,hdT,h3⟩:=tb T rfl
 have hsz3:3<ts.size:=(Array.getElem?_eq_some_iff.mp h3).1
 unfold setFlight
 refine wpAny_bind (wpAny_field he rfl h1 ?_)
 rw[if_pos (show((some T).elim Value.none Value.ref !=Value.none)=true from by simp)]
 have ot':∀b,b≠T->(s.heap.update T (Obj.mapFields (·.setIfInBounds 3 (fr.elim Value.none fun f=>rawInt f)))).get? b=s.heap.get? b:=
  fun b hb=>Heap.get?_update_other _ _ (Ne.symm hb)
 refine wpAny_setField hT hdT hsz3 (h _ ⟨⟨vs,sl,(ot' e (Ne.symm hTe)).trans he,hz,h0,h1⟩,fun T' e'=>?_⟩ (fun b o hb q=>(ot' b hb).trans q) (yO (ws:=ts) hT hdT))
 cases e'
 exact⟨hTe,_,_,Heap.get?_update_self _ hT (Obj.isFreed_of_fields (Obj.data_mapFields hdT _)),Obj.data_mapFields hdT _,by simp[hsz3]⟩
theorem flight_some{Q:Unit->Shared->Prop}(x:Fly s.heap e c d a0 (some T) fl)
  (h:∀h',Fly h' e c d a0 (some T) .none->(∀b o,b≠T->s.heap.get? b=some o->h'.get? b=some o)->(∀b o,s.heap.get? b=some o->∃o',h'.get? b=some o')->Q () {s with heap:=h'}):
  wpAny M A (setFlight (.ref e) none) Q E s:=flight_to x h
theorem iZ{base:Heap}{env:Env}{outer:List Env}{L:Addr}{head:Value}{hadNext:Bool}{Q:Unit->Shared->Prop}
  (hfr:A.frames=some (env::outer))(hl:s.heap.FunFrames base (env::outer))(hf:env.frame=some L)(x:Fly s.heap e c d a0 ot fl)
  (h:∀h' T',s.heap.objs.size<=T'->Fly h' e c d a0 (some T') (rawInt L)->(∀b o,b≠e->b∉(env::outer).filterMap (·.frame)->s.heap.get? b=some o->h'.get? b=some o)->
   (∀b o,b≠e->s.heap.get? b=some o->∃sl,h'.get? b=some {o with slots:=sl})->(∀b o,s.heap.get? b=some o->∃o',h'.get? b=some o')->Q () {s with heap:=h'}):
  wpAny M A (do let a<-frameOf env;let pl<-entryPlaceOf L hadNext;let b<-EntryCells.newEntry head a .none (rawInt L) .none pl;setField (.ref e) 1 b) Q E s:=by
 obtain⟨⟨vs,sl,he,hz,h0,h1⟩,tb⟩:=x
 have hene:e∉(env::outer).filterMap (·.frame):=fun hm=>by
  obtain⟨_,o,ho,hnf⟩:=hl.mem hm
  rw[he]at ho;injection ho with ho;subst ho;exact hnf vs rfl
 refine wpAny_bind (wpAny_frameOf_fun hfr hl hf fun h₁ hs₁=>?_)
 refine wpAny_bind (wpAny_entryPlaceOf fun pl hpl=>?_)
 unfold EntryCells.newEntry newFields
 refine wpAny_bind (wpAny_newObj_type ?_ (hpl.sizeOk5 _ _ _ _ _))
 have he₁:=(hs₁.2.1 e hene).trans he
 have he₂:=aq13 (h:=h₁) {cls:=.type "traceback",dict:=none,data:=.fields ([head,.ref L,.none,rawInt L,.none]++(if pl.isEmpty then List.replicate 6 Value.none else pl)).toArray} he₁
 have hsz:1<vs.size:=by omega
 refine wpAny_setField he₂ rfl hsz (h _ h₁.objs.size ?_ ⟨?_,fun T' e'=>?_⟩ ?_ ?_ ?_)
 ·exact Nat.le_of_eq hs₁.1.symm
 ·refine⟨vs.setIfInBounds 1 (Value.ref h₁.objs.size),sl,?_,by simp[hz],by rw[Array.getElem?_setIfInBounds_ne (by decide)];exact h0,by simp[hsz]⟩
  exact Heap.get?_update_self (Obj.mapFields (·.setIfInBounds 1 (Value.ref h₁.objs.size))) he₂ (Obj.isFreed_of_fields (Obj.data_mapFields rfl _))
 ·cases e'
  have hTe:h₁.objs.size≠e:=Nat.ne_of_gt (aq8 he₁)
  refine⟨hTe,_,_,(Heap.get?_update_other _ _ (Ne.symm hTe)).trans (aq14 h₁ rfl),rfl,?_⟩
  first|(simp;done)|(rcases hpl with rfl|⟨_,_,_,_,_,_,_,rfl⟩<;>simp)
 ·intro b o hb hn q
  rw[Heap.get?_update_other _ _ (Ne.symm hb)]
  exact aq13 _ ((hs₁.2.1 b hn).trans q)
 ·intro b o hb q
  obtain⟨sl',q'⟩:=hs₁.2.2 b o q
  exact⟨sl',by rw[Heap.get?_update_other _ _ (Ne.symm hb)];exact aq13 _ q'⟩
 ·intro b o q
  obtain⟨sl',q'⟩:=hs₁.2.2 b o q
  exact yO (ws:=vs) he₂ rfl b _ (aq13 _ q')
theorem rT{base:Heap}{env:Env}{outer:List Env}{L:Addr}{Q:Unit->Shared->Prop}(hne:(fl==rawInt L)=false)
  (hfr:A.frames=some (env::outer))(hl:s.heap.FunFrames base (env::outer))(hf:env.frame=some L)(x:Fly s.heap e c d a0 ot fl)
  (h:∀h' T',s.heap.objs.size<=T'->Fly h' e c d a0 (some T') (rawInt L)->yD ((env::outer).filterMap (·.frame)) e ot s.heap h'->Q () {s with heap:=h'}):
  wpAny M A (noteFrame (.ref e) env) Q E s:=by
 obtain⟨⟨vs,sl,he,hz,h0,h1⟩,tb⟩:=id x
 unfold noteFrame
 simp only[hf]
 refine wpAny_bind (wpAny_field he rfl h1 ?_)
 cases ot with
 |none=>
  rw[if_neg (by decide)]
  refine iZ hfr hl hf x fun h' T' hn fx k1 k2 k3=>h h' T' hn fx ⟨fun b o hb _ hnf q=>k1 b o hb hnf q,fun b o hb _ q=>k2 b o hb q,k3⟩
 |some T=>
  obtain⟨hTe,oT,ts,hT,hdT,h3⟩:=tb T rfl
  rw[if_pos (show((some T).elim Value.none Value.ref !=Value.none)=true from by simp)]
  refine wpAny_bind (wpAny_field hT hdT h3 ?_)
  rw[if_neg (show¬((fl==rawInt L)=true)from by rw[hne];decide)]
  refine wpAny_bind (wpAny_setField hT hdT (Array.getElem?_eq_some_iff.mp h3).1 ?_)
  have other:∀b,b≠T->(s.heap.update T (Obj.mapFields (·.setIfInBounds 3 Value.none))).get? b=s.heap.get? b:=fun b hb=>Heap.get?_update_other _ _ (Ne.symm hb)
  have hz3:3<ts.size:=(Array.getElem?_eq_some_iff.mp h3).1
  have x2:Fly (s.heap.update T (Obj.mapFields (·.setIfInBounds 3 Value.none))) e c d a0 (some T) .none:=
   ⟨⟨vs,sl,(other e (Ne.symm hTe)).trans he,hz,h0,h1⟩,fun T' e'=>by
    cases e'
    exact⟨hTe,_,_,Heap.get?_update_self _ hT (Obj.isFreed_of_fields (Obj.data_mapFields hdT _)),Obj.data_mapFields hdT _,by simp[hz3]⟩⟩
  have nr:∀b o,s.heap.get? b=some o->(∀vs,o.data≠ .fields vs)->b≠T:=fun b o hb hnf q=>by
   rw[q,hT]at hb;injection hb with hb;subst hb;exact hnf ts hdT
  refine iZ (s:={s with heap:=s.heap.update T (Obj.mapFields (·.setIfInBounds 3 Value.none))}) hfr
   (hl.of_keeps fun b o hb hnf=>⟨o,(other b (nr b o hb hnf)).trans hb,rfl⟩) hf x2 fun h' T' hn fx k1 k2 k3=>h h' T' ?_ fx ⟨fun b o hb hbT hnf q=>k1 b o hb hnf ?_,fun b o hb hbT q=>k2 b o hb ?_,fun b o q=>?_⟩
  ·have hn':(s.heap.update T (Obj.mapFields (·.setIfInBounds 3 Value.none))).objs.size<=T':=hn
   rw[Heap.size_after_update]at hn'
   exact hn'
  ·exact(other b fun z=>hbT (by rw[z])).trans q
  ·exact(other b fun z=>hbT (by rw[z])).trans q
  ·obtain⟨o2,q2⟩:=yO (ws:=ts) (i:=3) (x:=Value.none) hT hdT b o q
   exact k3 b o2 q2
theorem note_x{base:Heap}{env:Env}{outer:List Env}{L:Addr}{Q:Unit->Shared->Prop}
  (hfr:A.frames=some (env::outer))(hl:s.heap.FunFrames base (env::outer))(hf:env.frame=some L)(x:Fly s.heap e c d a0 ot .none)
  (h:∀h' T',s.heap.objs.size<=T'->Fly h' e c d a0 (some T') (rawInt L)->yD ((env::outer).filterMap (·.frame)) e ot s.heap h'->Q () {s with heap:=h'}):
  wpAny M A (noteFrame (.ref e) env) Q E s:=rT (by simp[rawInt]) hfr hl hf x h
theorem yD.flown{fs:List Addr}{T':Addr}{h h1 h2:Heap}(k:yD fs e ot h h1)(hn:h.objs.size<=T'\/some T'=ot)(k2:∀b o,b≠T'->h1.get? b=some o->h2.get? b=some o)(k3:∀b o,h1.get? b=some o->∃o',h2.get? b=some o'):yD fs e ot h h2:=by
 have ne:∀b o,some b≠ot->h.get? b=some o->b≠T':=fun b o hb q z=>by
  subst z
  rcases hn with hn|hn
  ·exact absurd (aq8 q) (Nat.not_lt.mpr hn)
  ·exact hb hn
 refine⟨fun b o hb hbT hnf q=>k2 b o (ne b o hbT q) (k.keep b o hb hbT hnf q),fun b o hb hbT q=>?_,fun b o q=>?_⟩
 ·obtain⟨sl,q'⟩:=k.slot b o hb hbT q
  exact⟨sl,k2 b _ (ne b o hbT q) q'⟩
 ·obtain⟨o2,q'⟩:=k.there b o q
  exact k3 b o2 q'
theorem leave_y{base:Heap}{env:Env}{outer:List Env}{L:Addr}{fr:Option Addr}{Q:Unit->Shared->Prop}
  (hfr:A.frames=some (env::outer))(hl:s.heap.FunFrames base (env::outer))(hf:env.frame=some L)(x:Fly s.heap e c d a0 ot (fr.elim Value.none fun f=>rawInt f))
  (h:∀h' T',(s.heap.objs.size<=T'\/some T'=ot)->Fly h' e c d a0 (some T') .none->yD ((env::outer).filterMap (·.frame)) e ot s.heap h'->Q () {s with heap:=h'}):
  wpAny M A (leaving env (.ref e)) Q E s:=by
 unfold leaving
 by_cases hL:∃T,ot=some T/\fr=some L
 ·obtain⟨T,rfl,rfl⟩:=hL
  obtain⟨⟨vs,sl,he,hz,h0,h1⟩,tb⟩:=id x
  obtain⟨hTe,oT,ts,hT,hdT,h3⟩:=tb T rfl
  refine wpAny_bind ?_
  unfold noteFrame
  simp only[hf]
  refine wpAny_bind (wpAny_field he rfl h1 ?_)
  rw[if_pos (show((some T).elim Value.none Value.ref !=Value.none)=true from by simp)]
  refine wpAny_bind (wpAny_field hT hdT h3 ?_)
  rw[if_pos (show(((some L).elim Value.none fun f=>rawInt f)==rawInt L)=true from by simp)]
  refine wpAny_pure (flight_some x fun h2 f2 k2 k3=>h h2 T (.inr rfl) f2 ?_)
  exact yD.flown (h1:=s.heap) ⟨fun _ _ _ _ _ q=>q,fun _ o _ _ q=>⟨o.slots,q⟩,fun _ o q=>⟨o,q⟩⟩ (.inr rfl) k2 k3
 ·have go:∀{fl:Value},(fl==rawInt L)=false->Fly s.heap e c d a0 ot fl->wpAny M A (do noteFrame (.ref e) env;setFlight (.ref e) none) Q E s:=fun hne x=>
   wpAny_bind (rT hne hfr hl hf x fun h1 T1 hn f1 k=>flight_some f1 fun h2 f2 k2 k3=>h h2 T1 (.inl hn) f2 (k.flown (.inl hn) k2 k3))
  cases ot with
  |none=>exact go (fl:=.none) (by simp[rawInt]) ⟨x.obj,fun T z=>by cases z⟩
  |some T=>
   refine go ?_ x
   cases fr with
   |none=>simp[rawInt]
   |some f=>
    have :f≠L:=fun z=>hL ⟨T,rfl,by rw[z]⟩
    simp[rawInt]
    intro z;exact this (Int.ofNat_inj.mp z)
theorem leave_x{base:Heap}{env:Env}{outer:List Env}{L:Addr}{Q:Unit->Shared->Prop}
  (hfr:A.frames=some (env::outer))(hl:s.heap.FunFrames base (env::outer))(hf:env.frame=some L)(x:Fly s.heap e c d a0 ot .none)
  (h:∀h' T',(s.heap.objs.size<=T'\/some T'=ot)->Fly h' e c d a0 (some T') .none->yD ((env::outer).filterMap (·.frame)) e ot s.heap h'->Q () {s with heap:=h'}):
  wpAny M A (leaving env (.ref e)) Q E s:=leave_y (fr:=none) hfr hl hf x h
end
section
variable {M:Model} {A:Around} {E:Value->Shared->Prop} {env:Env}
variable {nm q:Str} {C N:Addr} {bs bm bmB:List Value} {hdct:Bool} {sn:List Str} {sub:List Value} {ab:Bool} {col:Option Bool} {dd:Option Addr} {k0 k1 k2 k3 k5:Option Value} {B newId initId:String}
theorem lO{s:Shared}{x:Sem Value}{Q:Flow->Shared->Prop}(hbase:bm.contains (.type "BaseException")=true)(hh:A.handled=none)
  (h:wpAny M A x (fun v s₁=>∃e d a0,v= .ref e/\s₁.heap.get? C=some (excClassObj nm q C N bs bm hdct sn sub ab col dd k0 k1 k2 k3 k5 newId)/\
   Fly s₁.heap e (.ref C) d a0 none .none/\E (.ref e) s₁) E s):
  wpAny M A (raiseStmt env (some x) none) Q E s:=by
 have hcB:(Value.ref C::bm).contains (.type "BaseException")=true:=by rw[List.contains_cons,hbase,Bool.or_true]
 unfold raiseStmt
 refine wpAny_bind (wpAny_mono h (fun v s₁ h₁=>?_) fun _ _ x=>x)
 obtain⟨e,d,a0,rfl,hC,x,hE⟩:=h₁
 obtain⟨hp,g,dr,tk,os⟩:=s₁
 obtain⟨⟨vs,sl,he,hz,h0,h1⟩,tb⟩:=id x
 repeat (first|with_reducible refine wpAny_loadPart_at he ?_|with_reducible refine wpAny_loadPart_at hC ?_|(with_reducible refine wpAny_isSubtype_exc hC ?_;rw[hcB])|with_reducible refine lU x ?_|wp_step)
 exact wpAny_raiseNew_none hh hE
theorem Raise_x{s:Shared}{x:Expr}{pos:Pos}{Q:Flow->Shared->Prop}(hbase:bm.contains (.type "BaseException")=true)(hh:A.handled=none)
  (h:wpAny M A (eval x env) (fun v s₁=>∃e d a0,v= .ref e/\s₁.heap.get? C=some (excClassObj nm q C N bs bm hdct sn sub ab col dd k0 k1 k2 k3 k5 newId)/\
   Fly s₁.heap e (.ref C) d a0 none .none/\E (.ref e) s₁) E s):
  wpAny M A (exec (.Raise (some x) none pos) env) Q E s:=by
 rw[arm_exec_Raise]
 simp only[evalOpt,Option.map]
 refine wpAny_bind (wpAny_standAt (lO (C:=C) (nm:=nm) (q:=q) (N:=N) (bs:=bs) (bm:=bm) (hdct:=hdct) (sn:=sn) (sub:=sub) (ab:=ab) (col:=col) (dd:=dd) (k0:=k0) (k1:=k1) (k2:=k2) (k3:=k3) (k5:=k5) (newId:=newId) hbase hh ?_))
 first
  |exact h
  |exact wpAny_bind (wpAny_mono h (fun v s₃ h₃=>wpAny_bind (wpAny_standAt (wpAny_pure h₃))) fun _ _ x=>x)
end
section
variable {M:Model} {A:Around} {E:Value->Shared->Prop}
variable {nm q:Str} {C N:Addr} {bs bm:List Value} {hdct:Bool} {sn:List Str} {sub:List Value} {ab:Bool} {col:Option Bool} {dd:Option Addr} {k0 k1 k2 k3 k5:Option Value} {newId:String}
variable {nm' q':Str} {D N':Addr} {bs' bm':List Value} {hdct':Bool} {sn':List Str} {sub':List Value} {ab':Bool} {col':Option Bool} {dd':Option Addr} {j0 j1 j2 j3 j5:Option Value} {newId':String}
theorem matches_x{h:Heap}{g:Array GenState}{d:Drawn}{t:Nat}{os:OsState}{e:Addr}{oe:Obj}{b:Bool}{Q:Bool->Shared->Prop}
  (hC:h.get? C=some (excClassObj nm q C N bs bm hdct sn sub ab col dd k0 k1 k2 k3 k5 newId))(hD:h.get? D=some (excClassObj nm' q' D N' bs' bm' hdct' sn' sub' ab' col' dd' j0 j1 j2 j3 j5 newId'))
  (he:h.get? e=some oe)(hcls:oe.cls= .ref C)(hbase:bm'.contains (.type "BaseException")=true)(hb:(Value.ref C::bm).contains (.ref D)=b)
  (hq:Q b ⟨h,g,d,t,os⟩):wpAny M A (excMatches (.ref e) (.ref D)) Q E ⟨h,g,d,t,os⟩:=by
 have hcB:(Value.ref D::bm').contains (.type "BaseException")=true:=by rw[List.contains_cons,hbase,Bool.or_true]
 have f:=tc_notTuple
 unfold excMatches
 repeat (first|(with_reducible refine wpAny_loadPart_at he ?_;rw[hcls])|with_reducible refine wpAny_loadPart_at hD ?_|(with_reducible refine wpAny_isSubtype_exc hD ?_;rw[hcB])|(with_reducible refine wpAny_isSubtype_exc hC ?_;rw[hb])|wp_step)
 cases b
 ·repeat wp_step
  exact hq
 ·repeat wp_step
  exact hq
end
section
variable {prog:Program} {w:World} {A:Around} {E:Value->Shared->Prop} {s:Shared} {env:Env}
theorem handle_as{e:Addr}{t:Expr}{n:Str}{b₀:Stmt}{suite:List Stmt}{pos:Pos}{rest:List ExceptHandler}{Q:Flow->Shared->Prop}
  (h:wpAny (model prog w) (A.mark (some (.ref e))) (eval t env) (fun c s₁=>wpAny (model prog w) (A.mark (some (.ref e))) (excMatches (.ref e) c) (fun b s₁'=>b=true/\
   wpAny (model prog w) (A.mark (some (.ref e))) (setFlight (.ref e) none) (fun _ s₂=>
     wpAny (model prog w) (A.mark (some (.ref e))) (storeName env n (.ref e)) (fun _ s₃=>
      wpAny (model prog w) (A.mark (some (.ref e))) (execs (b₀::suite) env)
       (fun f s₄=>wpAny (model prog w) A (do bindName env n .none;unbindBehindTheSuite env n pos) (fun _ s₅=>Q f s₅) E s₄)
       (fun _ _=>False) s₃) (fun _ _=>False) s₂) (fun _ _=>False) s₁') (fun _ _=>False) s₁) (fun _ _=>False) s):
  wpAny (model prog w) A (handleBy (.ref e) env (.ExceptHandler (some t) (some n) (b₀::suite) pos::rest)) Q E s:=by
 refine wpAny_handleBy_cons (codeAny_handlers_test (wpAny_mono h (fun c s₁ h₁=>wpAny_mono h₁ (fun b s₁' h₂=>?_) fun _ _ x=>x.elim) fun _ _ x=>x.elim)) (by intro q;cases q)
 obtain⟨rfl,h₂⟩:=h₂
 refine codeAny_handlers_suite_as (wpAny_mono h₂ (fun _ s₂ h₃=>wpAny_mono h₃ (fun _ s₃ h₄=>wpAny_mono h₄ (fun f s₄ h₅=>h₅) fun _ _ x=>x.elim) fun _ _ x=>x.elim) fun _ _ x=>x.elim)
theorem handle_on{e:Addr}{t:Expr}{name:Option Str}{body:List Stmt}{pos:Pos}{rest:List ExceptHandler}{Q:Flow->Shared->Prop}
  (h:wpAny (model prog w) (A.mark (some (.ref e))) (eval t env) (fun c s₁=>wpAny (model prog w) (A.mark (some (.ref e))) (excMatches (.ref e) c) (fun b s₁'=>b=false/\
   wpAny (model prog w) A (handleBy (.ref e) env rest) Q E s₁') (fun _ _=>False) s₁) (fun _ _=>False) s):
  wpAny (model prog w) A (handleBy (.ref e) env (.ExceptHandler (some t) name body pos::rest)) Q E s:=by
 refine wpAny_handleBy_cons (codeAny_handlers_test (wpAny_mono h (fun c s₁ h₁=>wpAny_mono h₁ (fun b s₁' h₂=>?_) fun _ _ x=>x.elim) fun _ _ x=>x.elim)) (by intro q;cases q)
 obtain⟨rfl,h₂⟩:=h₂
 exact h₂
end
end XA
set_option maxHeartbeats 4000000
namespace L2
open PySem PySem.Spec PyProof.Rows
def xL(nw:Bool)(C t:Addr)(d:Option Addr)(e:Addr):HO:=.ext fun h=>
 ∃vs sl,h.get? e=some {cls:=.ref C,dict:=d,data:=.fields vs,slots:=sl}/\vs.size=6/\vs[0]? =some (.ref t)/\(nw=true->vs[1]? =some .none)
theorem xL.ne_own{nw:Bool}{C t e:Addr}{d:Option Addr}{x:Addr}:xL nw C t d e≠ .own x:=fun h=>by cases h
theorem xL.ne_tup{nw:Bool}{C t e:Addr}{d:Option Addr}{xs:List V}:xL nw C t d e≠ .tup xs:=fun h=>by cases h
theorem xL.mut{nw:Bool}{C t e:Addr}{d:Option Addr}:Mut (some (xL nw C t d e)):=trivial
theorem rA{nw:Bool}{C t e:Addr}{d:Option Addr}{h1 h2:Heap}
  (x:∃vs sl,h1.get? e=some {cls:=.ref C,dict:=d,data:=.fields vs,slots:=sl}/\vs.size=6/\vs[0]? =some (.ref t)/\(nw=true->vs[1]? =some .none))
  (k:∀o,h1.get? e=some o->h2.get? e=some o):∃vs sl,h2.get? e=some {cls:=.ref C,dict:=d,data:=.fields vs,slots:=sl}/\vs.size=6/\vs[0]? =some (.ref t)/\(nw=true->vs[1]? =some .none):=by
 obtain⟨vs,sl,he,r⟩:=x
 exact⟨vs,sl,k _ he,r⟩
theorem uG{P:Program}{w:World}{H:Hp}{h:Heap}{nw:Bool}{C t e:Addr}{d:Option Addr}{vs:Array Value}{sl:Array (Option Value)}
  (he:h.get? e=some {cls:=.ref C,dict:=d,data:=.fields vs,slots:=sl})(hz:vs.size=6)(h0:vs[0]? =some (.ref t))(h1:nw=true->vs[1]? =some .none):jV P w H h e (xL nw C t d e):=
 ⟨⟨vs,sl,he,hz,h0,h1⟩,⟨_,he⟩,fun _ _ x k=>rA x k⟩
theorem vN{P:Program}{w:World}{H:Hp}{h:Heap}{nw:Bool}{C t e:Addr}{d:Option Addr}(x:jV P w H h e (xL nw C t d e)):
  ∃vs sl,h.get? e=some {cls:=.ref C,dict:=d,data:=.fields vs,slots:=sl}/\vs.size=6/\vs[0]? =some (.ref t)/\(nw=true->vs[1]? =some .none):=x.1
theorem qX7{P:Program}{w:World}{H:Hp}{h:Heap}{C t e:Addr}{d:Option Addr}(x:jV P w H h e (xL true C t d e)):XA.Fly h e (.ref C) d (.ref t) none .none:=by
 obtain⟨vs,sl,he,hz,h0,h1⟩:=vN x
 exact⟨⟨vs,sl,he,hz,h0,h1 rfl⟩,fun T q=>by cases q⟩
theorem qX8{P:Program}{w:World}{H:Hp}{h:Heap}{C t e:Addr}{d ot:Option Addr}{fl:Value}(x:XA.Fly h e (.ref C) d (.ref t) ot fl):jV P w H h e (xL false C t d e):=by
 obtain⟨⟨vs,sl,he,hz,h0,h1⟩,_⟩:=x
 exact uG he hz h0 fun q=>by cases q
theorem HOk.flies{P:Program}{w:World}{H:Hp}{h h':Heap}{nw:Bool}{C t e:Addr}{d ot:Option Addr}{fl:Value}(ok:HOk P w H h)(he:H e=some (xL nw C t d e))
  (x:XA.Fly h' e (.ref C) d (.ref t) ot fl)(k:∀b o,b≠e->H b≠none->h.get? b=some o->h'.get? b=some o):HOk P w (upd H e (xL false C t d e)) h':=fun a o q=>by
 have own:∀c y,H c=some (.own y)->c≠e:=fun c y r z=>by subst z;rw[he]at r;exact xL.ne_own (Option.some.inj r)
 have tup:∀c xs,H c=some (.tup xs)->c≠e:=fun c xs r z=>by subst z;rw[he]at r;exact xL.ne_tup (Option.some.inj r)
 by_cases ha:a=e
 ·subst ha;rw[qZ]at q;cases q;exact qX8 x
 ·rw[qC ha]at q
  refine(ok a o q).stay (fun b u hb r=>?_) (fun c r=>by rw[qC (own c a r)];exact r) fun c xs r=>by rw[qC (tup c xs r)];exact r
  rcases hb with rfl|hb
  ·exact k b u ha (by rw[q];simp) r
  ·exact k b u (own b a hb) (by rw[hb];simp) r
theorem qM9{fs ex:List Addr}{H H1:Hp}{h h':Heap}{nw:Bool}{C t e:Addr}{d:Option Addr}(u:Un fs ex H H1 h h')(he:H1 e=some (xL nw C t d e))(o:HO):Un fs ex H (upd H1 e o) h h':=by
 have ne:∀b u',H1 b=some u'->(∀φ,u'≠ .ext φ)->b≠e:=fun b u' r n z=>by subst z;rw[he]at r;exact n _ (Option.some.inj r).symm
 refine⟨u.keep,u.slot,fun b ob q n hx=>?_,u.there,fun b xs q=>?_,fun b ob xs q=>?_,fun b ps q=>?_⟩
 ·have :=u.free b ob q n hx
  rw[qC (fun z=>by subst z;rw[this]at he;cases he)];exact this
 ·have r:=u.tups b xs q;rw[qC (ne b _ r fun φ z=>by cases z)];exact r
 ·have r:=u.frzs b ob xs q;rw[qC (ne b _ r fun φ z=>by cases z)];exact r
 ·obtain⟨m,r⟩:=u.tbls b ps q;exact⟨m,by rw[qC (ne b _ r fun φ z=>by cases z)];exact r⟩
def CXE(P:Program)(w:World):CXT:=fun outer H s E x s'=>∃(e C t T:Addr)(d:Option Addr)(H':Hp),x= .ref e/\s'.os=s.os/\AllBare s'.gens/\Un (frs outer) [] H H' s.heap s'.heap/\HOk P w H' s'.heap/\
 H' e=some (xL false C t d e)/\s.heap.get? e=none/\s.heap.objs.size<=T/\H' T=none/\XA.Fly s'.heap e (.ref C) d (.ref t) (some T) .none/\E (.ref C) (some e) H'
section
variable {P:Program} {w:World} {K:Fg} {mg:Str->Option Value} {base:Heap} {N:List Str} {qual:Str} {scope:Scope} {f:Addr} {cd:Value} {A:Around} {outer:List Env} {s0:Shared} {H0:Hp} {E:XK}
theorem leaves{pins:List (Addr×Obj)}{σ:St}{H:Hp}{s:Shared}{nw:Bool}{e C t:Addr}{d ot fr:Option Addr}(I:Inv (jN (CXE P w) P w K mg base N qual scope f cd A outer s0 H0 E) pins σ H s)
  (he:H e=some (xL nw C t d e))(hn:s0.heap.get? e=none)(hT:∀T,ot=some T->s0.heap.objs.size<=T/\H T=none)(x:XA.Fly s.heap e (.ref C) d (.ref t) ot (fr.elim Value.none fun f=>rawInt f))
  (hE:E (.ref C) (some e) (upd H e (xL false C t d e))):(jN (CXE P w) P w K mg base N qual scope f cd A outer s0 H0 E).xe (.ref e) s:=by
 have B:=I.base
 have hL:s0.heap.objs.size<=s0.heap.objs.size:=aq7 _
 have frs_eq:((envOfC qual scope s0.heap.objs.size f cd::outer).filterMap (·.frame))=s0.heap.objs.size::frs outer:=rfl
 refine XA.leave_y (base:=base) (env:=envOfC qual scope s0.heap.objs.size f cd) (outer:=outer) (L:=s0.heap.objs.size) I.ok.frames I.stack rfl x fun h' T' hz fx k=>?_
 rw[frs_eq]at k
 have old:∀b o,s0.heap.get? b=some o->b≠e/\some b≠ot/\b≠s0.heap.objs.size:=fun b o q=>
  ⟨fun z=>(by subst z;rw[hn]at q;cases q),fun z=>(by have :=(hT b z.symm).1;exact absurd (aq8 q) (Nat.not_lt.mpr this)),aq9 (aq8 q)⟩
 have un:Un (frs outer) [] H0 H s0.heap h':=
  ⟨fun b o q n hb hx=>(have z:=old b o q;k.keep b o z.1 z.2.1 (fun hm=>(List.mem_cons.mp hm).elim z.2.2 hb) (B.keep b o q n hb hx)),
   fun b o q n hb hx=>(have z:=old b o q;by
    obtain⟨sl,r⟩:=B.slot b o q n hb hx
    obtain⟨sl',r'⟩:=k.slot b _ z.1 z.2.1 r
    exact⟨sl',r'⟩),
   B.free,fun b o q hx=>(by
    obtain⟨o',r⟩:=B.there b o q hx
    exact k.there b o' r),B.tups,B.frzs,B.tbls⟩
 refine⟨e,C,t,T',d,upd H e (xL false C t d e),rfl,I.os,I.bare,qM9 un he _,I.hok.flies he fx fun b o hb hn' q=>?_,qZ,hn,?_,?_,fx,hE⟩
 ·refine k.keep b o hb (fun z=>hn' (hT b z.symm).2) (fun hm=>hn' ?_) q
  exact I.stkFree b hm
 ·rcases hz with hz|hz
  ·exact Nat.le_trans I.sz hz
  ·exact(hT T' hz.symm).1
 ·have fr:H T'=none:=hz.elim I.hok.fresh fun hz=>(hT T' hz.symm).2
  have ne:T'≠e:=fun z=>by subst z;rw[he]at fr;cases fr
  rw[qC ne];exact fr
theorem kD:Passes (CXE P w) (jN (CXE P w) P w K mg base N qual scope f cd A outer s0 H0 E) E:=by
 intro pins σ H s x s' I hx
 obtain⟨e,C,t,T,d,H',rfl,os,bare,un,hok,he,hn,hTn,hT,fx,hE⟩:=hx
 have J:=I.call' (ch:=[]) os un hok bare (fun b z=>absurd z (by simp))
 have up:∀b,s.heap.get? b=none->s0.heap.get? b=none:=fun b q=>by
  cases r:s0.heap.get? b with
  |none=>rfl
  |some o=>
   obtain⟨o',r'⟩:=I.base.there b o r (by show b∉([]:List Addr);simp)
   rw[q]at r';cases r'
 refine leaves (fr:=none) J he (up e hn) (fun T' z=>by cases z;exact⟨Nat.le_trans I.sz hTn,hT⟩) fx ?_
 have e2:upd H' e (xL false C t d e)=H':=by
  funext b
  by_cases z:b=e
  ·subst z;rw[qZ,he]
  ·rw[qC z]
 rw[e2];exact hE
end
end L2
namespace XA
open PySem Builtin Builtin.ObjectAttr
structure XCls(M:Model)(h:Heap)(C:Addr)(l:List Value):Prop where
 mro:Lk M h (mroOf (.ref C)) l
 cd:∃c,Lk M h (classData C) c/\c.hasDict=true
 pass:∀self:Value,refuseLoop self "__setattr__" l=pure ()
 sa:Lk M h (typeLookup (.ref C) "__setattr__") (some (.builtin "object.__setattr__"))
 ga:Lk M h (typeLookup (.ref C) "__getattribute__") (some (.builtin "BaseException.__getattribute__"))
 gh:Lk M h (typeLookup (.ref C) "__getattr__") none
 obj:Lk M h (isSubtype (.ref C) (.type "object")) true
 exc:Lk M h (isSubtype (.ref C) (.type "BaseException")) true
theorem qT1(self v:Value)(name:Str)(tk:Tok):Builtin.«object.__setattr__» ⟨[self,.str name tk,v],[]⟩=
  (do {refuseIfOverridden self "__setattr__";let tp<-typeOf self;let attr<-typeLookup tp name;match <-storeTaker? attr with |some a=>setByDescriptor a self v|none=>storeInOwnDict self tp (.str name tk) name v attr.isSome}):=by kernel_rfl
section
variable {M:Model} {A:Around} {E:Value->Shared->Prop} {h:Heap} {g:Array GenState} {d:Drawn} {t:Nat} {os:OsState} {e:Addr} {o:Obj}
theorem rE{Q:Value->Shared->Prop}(he:h.get? e=some o)(hq:Q o.cls ⟨h,g,d,t,os⟩):wpAny M A (typeOf (.ref e)) Q E ⟨h,g,d,t,os⟩:=by
 unfold typeOf
 repeat (first|with_reducible refine wpAny_loadPart_at he ?_|wp_step)
 exact hq
theorem qT2{C:Addr}{c:Value}{b:Bool}{Q:Bool->Shared->Prop}(he:h.get? e=some o)(hc:o.cls= .ref C)(L:Lk M h (isSubtype (.ref C) c) b)(hq:Q b ⟨h,g,d,t,os⟩):wpAny M A (isInstance (.ref e) c) Q E ⟨h,g,d,t,os⟩:=by
 unfold isInstance
 refine wpAny_bind (rE he ?_)
 rw[hc]
 exact Lk.at L hq
theorem chk_slot{i owner n:String}{rest:List Value}{Q:Unit->Shared->Prop}(hk:builtinKind i=some .slot)(hs:splitId i=some (owner,n))(ha:argsOk i ⟨.ref e::rest,[]⟩)
  {C:Addr}(he:h.get? e=some o)(hc:o.cls= .ref C)(L:Lk M h (isSubtype (.ref C) (.type owner)) true)(hq:Q () ⟨h,g,d,t,os⟩):
  wpAny M A (checkBuiltinCall i ⟨.ref e::rest,[]⟩) Q E ⟨h,g,d,t,os⟩:=by
 simp only[checkBuiltinCall,hk,hs]
 refine wpAny_bind (qT2 he hc L ?_)
 simp only[Bool.not_true,Bool.false_eq_true,if_false]
 cases hsig:Manifest.signature? i with
 |none=>exact wpAny_pure hq
 |some sig=>
  simp only[argsOk,hsig]at ha
  have h2:Bind.checkArgs i sig ⟨.ref e::rest,[]⟩=pure ():=ha
  show wpAny M A (Bind.checkArgs i sig ⟨.ref e::rest,[]⟩) Q E _
  rw[h2];exact wpAny_pure hq
end
section
variable {prog:Program} {w:World} {A:Around} {E:Value->Shared->Prop} {h:Heap} {g:Array GenState} {d:Drawn} {t:Nat} {os:OsState}
variable {C e:Addr} {l:List Value} {vs:Array Value} {sl:Array (Option Value)} {name:Str} {v:Value}
theorem qMq{Q:Fin->Shared->Prop}{tk:Tok}(XC:XCls (model prog w) h C l)(hna:Lk (model prog w) h (typeLookup (.ref C) name) none)
  (he:h.get? e=some {cls:=.ref C,dict:=none,data:=.fields vs,slots:=sl})
  (hq:∀h' tk',h'.get? e=some {cls:=.ref C,dict:=some h.objs.size,data:=.fields vs,slots:=sl}->h'.Ns1 h.objs.size (fun y=>if y=name then some v else none)->
   (∀b o,b≠e->h.get? b=some o->h'.get? b=some o)->Q (.done (.ret .none)) ⟨h',g,d,tk',os⟩):
  wpAny (model prog w) A (Builtin.«object.__setattr__» ⟨[.ref e,.str name tk,v],[]⟩) Q E ⟨h,g,d,t,os⟩:=by
 obtain⟨L1,⟨c,L2,hD⟩,L3,L4,L5,L6,L7,L8⟩:=XC
 have hx1:(h.push {cls:=.type "dict",data:=.dict #[]}).get? e=some {cls:=.ref C,dict:=none,data:=.fields vs,slots:=sl}:=aq13 _ he
 have hxs:e≠h.objs.size:=aq9 (aq8 he)
 have hgd:((h.push {cls:=.type "dict",data:=.dict #[]}).update e fun o=>{cls:=o.cls,dict:=some h.objs.size,data:=o.data,slots:=o.slots}).get? h.objs.size
   =some {cls:=.type "dict",data:=.dict #[]}:=(Heap.get?_update_ne _ _ _ _ hxs.symm).trans (Heap.get?_push_at rfl rfl)
 have hnd:((h.push {cls:=.type "dict",data:=.dict #[]}).update e fun o=>{cls:=o.cls,dict:=some h.objs.size,data:=o.data,slots:=o.slots}).Ns1 h.objs.size (fun _=>none):=
  Heap.Ns1.of_empty ⟨_,#[],_,hgd,rfl,fun x hx=>absurd hx (by simp),fun _=>rfl⟩
 have hge:((h.push {cls:=.type "dict",data:=.dict #[]}).update e fun o=>{cls:=o.cls,dict:=some h.objs.size,data:=o.data,slots:=o.slots}).get? e
   =some {cls:=.ref C,dict:=some h.objs.size,data:=.fields vs,slots:=sl}:=Heap.get?_update_self _ hx1 rfl
 rw[qT1,refuse_eq]
 refine wpAny_bind (wpAny_bind (rE he (wpAny_bind (Lk.at L1 ?_))))
 rw[L3]
 refine wpAny_pure (wpAny_bind (rE he (wpAny_bind (Lk.at hna (wpAny_bind (wpAny_pure ?_))))))
 show wpAny _ _ (storeInOwnDict (.ref e) (.ref C) (.str name tk) name v false) _ _ _
 unfold storeInOwnDict
 refine wpAny_bind (wpAny_pure (wpAny_bind ?_))
 show wpAny _ _ (instanceDict e true) _ _ _
 unfold instanceDict
 refine wpAny_bind (wpAny_loadPart_at he (wpAny_bind (Lk.at L2 ?_)))
 rw[hD]
 refine wpAny_bind (wpAny_alloc' (wpAny_bind (wpAny_update' hx1 (wpAny_pure ?_))))
 show wpAny _ _ (storeInDict h.objs.size (.str name tk) name v) _ _ _
 unfold storeInDict newKeyGuard
 refine wpAny_bind (wpAny_pure (wpAny_bind (wpAny_nsSet1 hnd fun h' hn' hs=>?_)))
 obtain⟨oD,esD,epD,hoD,hdD,hcD⟩:=hn'.count (Within.cons name v Within.nil)
 refine wpAny_bind (wpAny_lookBehind hoD (by rw[hdD];exact pastItsLine_dict (Nat.le_trans hcD (by rw[aq17,List.length_nil,sizeLine_eq];omega))) ?_)
 refine wpAny_pure (hq h' _ ((hs.2 e hxs).trans hge) hn' fun b o hb q=>?_)
 exact(hs.2 b (aq9 (aq8 q))).trans ((Heap.get?_update_ne _ _ _ _ hb).trans (aq13 _ q))
theorem qX9{R:Result->Shared->Prop}{tk:Tok}(XC:XCls (model prog w) h C l)(hna:Lk (model prog w) h (typeLookup (.ref C) name) none)
  (he:h.get? e=some {cls:=.ref C,dict:=none,data:=.fields vs,slots:=sl})
  (hq:∀h' tk',h'.get? e=some {cls:=.ref C,dict:=some h.objs.size,data:=.fields vs,slots:=sl}->h'.Ns1 h.objs.size (fun y=>if y=name then some v else none)->
   (∀b o,b≠e->h.get? b=some o->h'.get? b=some o)->R (.ok (.ret .none)) ⟨h',g,d,tk',os⟩):
  codeAny (model prog w) A (.call (.builtin "object.__setattr__") ⟨[.ref e,.str name tk,v],[]⟩) R ⟨h,g,d,t,os⟩:=by
 refine codeAny_call_builtin F.store_object.slot.plain F.store_object.entry ?_
 have ha:=F.store_object.args (.ref e) (.str name tk) v
 refine chk_slot (i:="object.__setattr__") (owner:="object") (n:="__setattr__") (rest:=[.str name tk,v]) (C:=C) F.store_object.kind F.store_object.split ha he rfl XC.obj ?_
 exact qMq XC hna he hq
theorem store_x{Q:Unit->Shared->Prop}(XC:XCls (model prog w) h C l)(hna:Lk (model prog w) h (typeLookup (.ref C) name) none)
  (he:h.get? e=some {cls:=.ref C,dict:=none,data:=.fields vs,slots:=sl})
  (hq:∀h' tk',h'.get? e=some {cls:=.ref C,dict:=some h.objs.size,data:=.fields vs,slots:=sl}->h'.Ns1 h.objs.size (fun y=>if y=name then some v else none)->
   (∀b o,b≠e->h.get? b=some o->h'.get? b=some o)->Q () ⟨h',g,d,tk',os⟩):
  wpAny (model prog w) A (setAttr (.ref e) name v) Q E ⟨h,g,d,t,os⟩:=by
 have f3:=F.store_object.slot.bind (.ref e)
 have L4:=XC.sa
 have key:codeAny (model prog w) A (.call (.builtin "object.__setattr__") ⟨[.ref e,.str name t,v],[]⟩)
   (fun r s'=>match r with | .ok (.ret _)=>Q () s'| .ok _=>False| .error x=>E x s') ⟨h,g,d,t+1,os⟩:=qX9 XC hna he fun h' tk' a b c=>hq h' tk' a b c
 refine wpAny_bind (wpAny_mkText ?_)
 refine wpAny_bind ?_
 refine wpAny_bind ?_
 refine wpAny_bind ?_
 refine rE he ?_
 refine Lk.at L4 ?_
 refine wpAny_holding ?_
 rw[f3]
 refine wpAny_bind (wpAny_pure (wpAny_bind (wpAny_call (codeAny_mono key fun r s' z=>?_))))
 rcases r with x|(v|_|_|_)<;>first|exact z|exact wpAny_pure (wpAny_pure z)
theorem qMz{Q:Fin->Shared->Prop}{tk:Tok}{dx:Addr}{mA:Str->Option Value}(XC:XCls (model prog w) h C l)(hna:Lk (model prog w) h (typeLookup (.ref C) name) none)
  (he:h.get? e=some {cls:=.ref C,dict:=some dx,data:=.fields vs,slots:=sl})(hn:h.Ns dx mA)(hv:mA name=some v)(hq:Q (.done (.ret v)) ⟨h,g,d,t,os⟩):
  wpAny (model prog w) A (Builtin.«object.__getattribute__» ⟨[.ref e,.str name tk],[]⟩) Q E ⟨h,g,d,t,os⟩:=by
 obtain⟨L1,⟨c,L2,hD⟩,L3,L4,L5,L6,L7,L8⟩:=XC
 unfold Builtin.«object.__getattribute__» ObjectAttr.find ownThenClass inOwnDict ownDict instanceDict
 repeat (first|with_reducible refine wpAny_loadPart_at he ?_|with_reducible refine Lk.at hna ?_|with_reducible refine Lk.at L2 ?_|(with_reducible refine wpAny_nsGet hn ?_;rw[hv])|rw[hD]|wp_step)
 exact hq
theorem qXq{R:Result->Shared->Prop}{tk:Tok}{dx:Addr}{mA:Str->Option Value}(XC:XCls (model prog w) h C l)(hna:Lk (model prog w) h (typeLookup (.ref C) name) none)
  (he:h.get? e=some {cls:=.ref C,dict:=some dx,data:=.fields vs,slots:=sl})(hn:h.Ns dx mA)(hv:mA name=some v)(hq:R (.ok (.ret v)) ⟨h,g,d,t,os⟩):
  codeAny (model prog w) A (.call (.builtin "BaseException.__getattribute__") ⟨[.ref e,.str name tk],[]⟩) R ⟨h,g,d,t,os⟩:=by
 refine codeAny_call_builtin F.excAttr_ValueError.ga.plain F.entry_bexc_ga ?_
 have ha:=F.args_bexc_ga (.ref e) (.str name tk)
 have hk:builtinKind "BaseException.__getattribute__"=some .slot:=by decide+kernel
 have hs:splitId "BaseException.__getattribute__"=some ("BaseException","__getattribute__"):=by decide+kernel
 refine chk_slot (i:="BaseException.__getattribute__") (owner:="BaseException") (n:="__getattribute__") (rest:=[.str name tk]) (C:=C) hk hs ha he rfl XC.exc ?_
 exact qMz XC hna he hn hv hq
theorem load_x{Q:Value->Shared->Prop}{expr:Bool}{dx:Addr}{mA:Str->Option Value}(XC:XCls (model prog w) h C l)(hna:Lk (model prog w) h (typeLookup (.ref C) name) none)
  (he:h.get? e=some {cls:=.ref C,dict:=some dx,data:=.fields vs,slots:=sl})(hn:h.Ns dx mA)(hv:mA name=some v)(hh:handedOut v=pure v)(hq:Q v ⟨h,g,d,t+1,os⟩):
  wpAny (model prog w) A (getAttr (.ref e) name expr) Q E ⟨h,g,d,t,os⟩:=by
 have f3:=F.excAttr_ValueError.ga.bind (.ref e)
 have key:codeAny (model prog w) A (.call (.builtin "BaseException.__getattribute__") ⟨[.ref e,.str name t],[]⟩)
   (fun r s'=>r= .ok (.ret v)/\s'=⟨h,g,d,t+1,os⟩) ⟨h,g,d,t+1,os⟩:=qXq XC hna he hn hv ⟨rfl,rfl⟩
 have hx0:(expr&&onTheHeap (Value.builtin "BaseException.__getattribute__"))=false:=by cases expr<;>rfl
 have hx2:(Value.builtin "BaseException.__getattribute__"==Value.builtin "object.__getattribute__")=false:=by decide+kernel
 have L5:=XC.ga
 have L6:=XC.gh
 unfold getAttr
 refine wpAny_bind (wpAny_mkText ?_)
 unfold getAttrBy
 refine wpAny_holding (wpAny_bind (rE he (wpAny_bind (Lk.at L5 ?_))))
 dsimp only
 rw[hx2,Bool.and_false]
 show wpAny _ _ (getAttrByItsOwn (.ref e) (.str name t) (.ref C) (.builtin "BaseException.__getattribute__") true expr) _ _ _
 unfold getAttrByItsOwn
 refine wpAny_bind (Lk.at L6 (wpAny_bind (wpAny_attempt (wpAny_holding ?_))))
 unfold callGetattribute
 rw[hx0]
 show wpAny _ _ (boundAndCalled (.builtin "BaseException.__getattribute__") (.ref e) (.str name t)) _ _ _
 unfold boundAndCalled
 rw[f3]
 refine wpAny_bind (wpAny_pure (wpAny_call (codeAny_mono key fun r s' z=>?_)))
 obtain⟨rfl,rfl⟩:=z
 show wpAny _ _ (handedOut v) _ _ _
 rw[hh]
 exact wpAny_pure hq
end
open Builtin.BaseException Builtin.Str
section
variable {prog:Program} {w:World} {A:Around} {E:Value->Shared->Prop} {h:Heap} {g:Array GenState} {d:Drawn} {t:Nat} {os:OsState}
variable {C e:Addr} {l:List Value} {vs:Array Value} {sl:Array (Option Value)} {name:Str} {v:Value} {B newId initId:String} {bmB:List Value} {dd:Option Addr}
theorem init_x(F:ExcBaseFacts B newId initId bmB){R:Result->Shared->Prop}{rest:List Value}{c:ClassData}(L:Lk (model prog w) h (isSubtype (.ref C) (.type B)) true)(Lc:Lk (model prog w) h (classData C) c)
  (he:h.get? e=some {cls:=.ref C,dict:=dd,data:=.fields vs,slots:=sl}){t0:Addr}(hz:vs.size=6)(h0:vs[0]? =some (.ref t0))(hrest:rest.length<=sizeLine)
  (hq:∀h',h'.get? e=some {cls:=.ref C,dict:=dd,data:=.fields (vs.setIfInBounds 0 (.ref h.objs.size)),slots:=sl}->h'.get? h.objs.size=some {cls:=.type "tuple",data:=.seq rest.toArray}->
   (∀b o,b≠e->h.get? b=some o->h'.get? b=some o)->R (.ok (.ret .none)) ⟨h',g,d,t,os⟩):
  codeAny (model prog w) A (.call (.builtin initId) ⟨.ref e::rest,[]⟩) R ⟨h,g,d,t,os⟩:=by
 refine codeAny_call_builtin F.init.plain F.initEntry ?_
 have c3:=F.noStar
 simp only[checkBuiltinCall,F.initKind,F.initSplit,F.initRow]
 refine wpAny_bind (qT2 he rfl L ?_)
 repeat (first|with_reducible refine wpAny_loadPart_at he ?_|with_reducible refine Lk.at Lc ?_|wp_step)
 refine wpAny_onRaise ?_
 rw[show∀(a b:String)(n:Nat),Bind.check ⟨.positional,"*",B,.self,[⟨"args",.varPos,false⟩]⟩ a b n (List.map (fun x=>x.fst) ({pos:=Value.ref e::rest}:Args).kw)=pure ()from
  fun a b n=>check_star_args _ _ _ _ _ _]
 refine wpAny_pure ?_
 have he1:(h.push {cls:=.type "tuple",data:=.seq rest.toArray}).get? e=some {cls:=.ref C,dict:=dd,data:=.fields vs,slots:=sl}:=aq13 _ he
 have hne:e≠h.objs.size:=aq9 (aq8 he)
 wp_walk
 rw[h0]
 refine wpAny_pure (wpAny_bind (wpAny_setField he1 rfl (by omega) ?_))
 have hx:((h.push {cls:=.type "tuple",data:=.seq rest.toArray}).update e (Obj.mapFields (·.setIfInBounds 0 (Value.ref h.objs.size)))).get? e=some {cls:=.ref C,dict:=dd,data:=.fields (vs.setIfInBounds 0 (.ref h.objs.size)),slots:=sl}:=
  Heap.get?_update_self (Obj.mapFields (·.setIfInBounds 0 (Value.ref h.objs.size))) he1 (Obj.isFreed_of_fields (Obj.data_mapFields rfl _))
 wp_walk
 refine hq _ hx ?_ fun b o hb q=>?_
 ·exact(Heap.get?_update_other _ _ hne).trans (aq14 _ rfl)
 ·exact(Heap.get?_update_other _ _ (Ne.symm hb)).trans (aq13 _ q)
end
end XA
namespace L2
open PySem PySem.Spec PyProof.Rows
structure XC(K:Fg)(C:Addr)(bm:List Value):Prop where
 obj:∃nm q N bs sn sub ab col dd k0 k1 k2 k3 k5,K.lookup C=some (excClassObj nm q C N bs bm true sn sub ab col dd k0 k1 k2 k3 k5 "ValueError.__new__")
 ab:XA.Above "ValueError" bm
 top:bm.contains (.type "object")=true
 pass:∀self,refuseLoop self "__setattr__" (.ref C::bm)=pure ()
 sa:PySem.W.findIn K (.ref C) "__setattr__"=some (some (.builtin "object.__setattr__"))
 ga:PySem.W.findIn K (.ref C) "__getattribute__"=some (some (.builtin "BaseException.__getattribute__"))
 gh:PySem.W.findIn K (.ref C) "__getattr__"=some none
 st:PySem.W.findIn K (.ref C) "__str__"=some (some (.builtin "BaseException.__str__"))
 kp:PySem.W.keepIn K (.ref C)=true
theorem cQ{K:Fg}{C:Addr}{bm:List Value}{M:Model}{h:Heap}{c:Value}{b:Bool}(x:XC K C bm)(X:K.In h)(e:(Value.ref C::bm).contains c=b):XA.Lk M h (isSubtype (.ref C) c) b:=by
 obtain⟨nm,q,N,bs,sn,sub,ab,col,dd,k0,k1,k2,k3,k5,lC⟩:=x.obj
 intro A Q E s k hq
 obtain⟨hh,g,d,t,os⟩:=s
 refine wpAny_isSubtype_exc (k _ _ (X _ _ lC)) ?_
 rw[e];exact hq
theorem XC.cls{K:Fg}{C:Addr}{bm:List Value}{M:Model}{h:Heap}(x:XC K C bm)(X:K.In h):XA.XCls M h C (.ref C::bm):=by
 obtain⟨nm,q,N,bs,sn,sub,ab,col,dd,k0,k1,k2,k3,k5,lC⟩:=x.obj
 have cdl:∃c:ClassData,XA.Lk M h (classData C) c/\c.hasDict=true:=by
  refine⟨{name:=nm,bases:=bs,mro:=.ref C::bm,ns:=N,qualname:=q,hasDict:=true,slotNames:=sn,subclasses:=sub,abstract:=ab,collection:=col,hasDel:=false},?_,rfl⟩
  intro A Q E s k hq
  unfold classData
  exact wpAny_bind (wpAny_load (k _ _ (X _ _ lC)) (wpAny_pure hq))
 have mrol:XA.Lk M h (mroOf (.ref C)) (.ref C::bm):=by
  intro A Q E s k hq
  obtain⟨hh,g,d,t,os⟩:=s
  exact wpAny_mroOf_exc (k _ _ (X _ _ lC)) hq
 exact⟨mrol,cdl,x.pass,PySem.W.looks_findIn X x.sa,PySem.W.looks_findIn X x.ga,PySem.W.looks_findIn X x.gh,cQ x X (by rw[List.contains_cons,x.top,Bool.or_true]),cQ x X (by rw[List.contains_cons,x.ab.base,Bool.or_true])⟩
theorem Un.laid2{fs ex:List Addr}{H:Hp}{h h':Heap}{a b:Addr}{o u:HO}(k:∀c v,h.get? c=some v->h'.get? c=some v)(ha:h.objs.size<=a)(hb:h.objs.size<=b)(na:H a=none)(nb:H b=none):Un fs ex H (upd (upd H a o) b u) h h' where
 keep:=fun c v q _ _ _=>k c v q
 slot:=fun c v q _ _ _=>⟨v.slots,k c v q⟩
 free:=fun c v q n _=>by rw[qC (aq9 (Nat.lt_of_lt_of_le (aq8 q) hb)),qC (aq9 (Nat.lt_of_lt_of_le (aq8 q) ha))];exact n
 there:=fun c v q _=>⟨v,k c v q⟩
 tups:=fun c xs q=>by rw[qC (zZ q nb),qC (zZ q na)];exact q
 frzs:=fun c v xs q=>by rw[qC (zZ q nb),qC (zZ q na)];exact q
 tbls:=fun c ps q=>⟨#[],by rw[qC (zZ q nb),qC (zZ q na),q];simp⟩
theorem HOk.laid2{P:Program}{w:World}{H:Hp}{h h':Heap}{a b:Addr}{o u:HO}(x:HOk P w H h)(k:∀c v,h.get? c=some v->h'.get? c=some v)(na:H a=none)(nb:H b=none)
  (new1:jV P w (upd (upd H a o) b u) h' a o)(new2:jV P w (upd (upd H a o) b u) h' b u):HOk P w (upd (upd H a o) b u) h':=fun c v e=>by
 by_cases hb:c=b
 ·subst hb;rw[qZ]at e;cases e;exact new2
 ·rw[qC hb]at e
  by_cases ha:c=a
  ·subst ha;rw[qZ]at e;cases e;exact new1
  ·rw[qC ha]at e
   exact(x c v e).stay (fun c v _ q=>k c v q) (fun c q=>by rw[qC (zZ q nb),qC (zZ q na)];exact q) fun c xs q=>by rw[qC (zZ q nb),qC (zZ q na)];exact q
section
variable {X:Cx} {CX:CXT} {k:Nat} {f C:Addr} {fd:FuncData} {ps:List Str} {sp:Sp} {dvs:List V} {ds:List Value} {E:XK} {x m:Str} {p pos apos:Pos} {e o:Expr} {es:List Expr} {ta:TE} {t:TA} {bm:List Value}
def zX6(C:Addr)(sp:Sp)(dvs:List V)(E:XK)(t:TA):TE:=fun σ H Q=>t σ H fun vs H1=>vs.length<=sizeLine/\∀a b,H1 a=none->H1 b=none->a≠b->
 sp (.ref b::(vs++dvs)) (upd (upd H1 a (.tup vs)) b (xL true C a none b)) (fun v H2=>v= .non/\Q (.ref b) H2) E
theorem qXz{pins:List (Addr×Obj)}{σ:St}{H:Hp}{s:Shared}{Q:VK}{us:List Value}{vs:List V}(xc:XC X.K C bm)(hi:PySem.W.findIn X.K (.ref C) "__init__"=some (some (.ref f)))(hfn:PySem.W.typeIn X.K (.ref f)=some (.type "function"))
  (F:zC X.prog X.w X.K X.mg X.base CX k f fd ps sp)(hr:Room (k+1) X.A)(hb:Binds X.K fd ps ds)(hd:Vals dvs ds)
  (hx:Passes CX X E)(I:Inv X pins σ H s)(r:Vals vs us)(hz:vs.length<=sizeLine)
  (h:∀a b,H a=none->H b=none->a≠b->sp (.ref b::(vs++dvs)) (upd (upd H a (.tup vs)) b (xL true C a none b)) (fun v H2=>v= .non/\Q (.ref b) H2) E):
  wpAny (model X.prog X.w) X.A (call (.ref C) us) (EP X pins σ Q) X.xe s:=by
 obtain⟨nm,q,N,bs,sn,sub,ab,col,dd,k0,k1,k2,k3,k5,lC⟩:=xc.obj
 have na:H s.heap.objs.size=none:=I.hok.fresh (aq7 _)
 have nb:H (s.heap.objs.size+1)=none:=I.hok.fresh (Nat.le_succ _)
 have hq:=h s.heap.objs.size (s.heap.objs.size+1) na nb (aq9 (Nat.lt_succ_self _))
 have hus:us.length<=sizeLine:=by rw[<-r.length];exact hz
 have I2:Inv X pins σ (upd (upd H s.heap.objs.size (.tup vs)) (s.heap.objs.size+1) (xL true C s.heap.objs.size none (s.heap.objs.size+1)))
   {s with heap:=(s.heap.push {cls:=.type "tuple",data:=.seq us.toArray}).push {cls:=.ref C,data:=.fields #[.ref s.heap.objs.size,.none,.none,.none,.bool false,.none]}}:=by
  have kk:∀c v,s.heap.get? c=some v->((s.heap.push {cls:=.type "tuple",data:=.seq us.toArray}).push {cls:=.ref C,data:=.fields #[.ref s.heap.objs.size,.none,.none,.none,.bool false,.none]}).get? c=some v:=
   fun c v z=>aq13 _ (aq13 _ z)
  refine I.un (t':=s.toks) (Un.laid2 kk (aq7 _) (Nat.le_succ _) na nb) (I.hok.laid2 kk na nb ?_ ?_)
  ·exact⟨hz,us,r,⟨_,aq13 _ (aq14 _ rfl),rfl,_,rfl⟩⟩
  ·exact uG (by heap_get) rfl rfl fun _=>rfl
 have r2:Vals (V.ref (s.heap.objs.size+1)::(vs++dvs)) (Value.ref (s.heap.objs.size+1)::(us++ds)):=.cons rfl (r.append hd)
 have hl:(Value.ref (s.heap.objs.size+1)::us++ds).length=ps.length:=by
  have e:=r2.length
  rw[F.len _ _ _ _ hq]at e
  exact e.symm
 obtain⟨oI,hoI,hfc⟩:=Option.map_eq_some_iff.mp hfn
 obtain⟨hh,gg,dd',tt,oo⟩:=s
 refine wpAny_call (XA.call_cls (I.kIn _ _ lC) (XA.tcall_init (PySem.F.excBase_ValueError) xc.ab (I.kIn _ _ lC) (PySem.W.looks_findIn I.kIn hi) (I.kIn _ _ hoI) hfc ?_ hus))
 refine wpAny_call (codeAny_mono (F.run _ X.stack _ _ ⟨Value.ref (hh.objs.size+1)::us,[]⟩ (Value.ref (hh.objs.size+1)::(us++ds)) _ _ E (hr.make C us [])
  (I2.env0.make C us []) (hb _ (Value.ref (hh.objs.size+1)::us) I2.kIn hl) r2 hq) fun r s' hq'=>?_)
 cases r with
 |error e=>exact hx pins σ _ _ e s' I2 hq'
 |ok fl=>
  cases fl with
  |ret u=>
   obtain⟨v,H',I3,rv,ev,q3⟩:=I2.after hq'
   subst ev
   exact⟨rv,⟨V.ref (hh.objs.size+1),H',I3,rfl,q3⟩⟩
  |next=>exact False.elim hq'
  |brk=>exact False.elim hq'
  |cont=>exact False.elim hq'
theorem qMj(xc:XC X.K C bm)(hi:PySem.W.findIn X.K (.ref C) "__init__"=some (some (.ref f)))(hfn:PySem.W.typeIn X.K (.ref f)=some (.type "function"))
  (F:zC X.prog X.w X.K X.mg X.base CX k f fd ps sp)(hr:Room (k+1) X.A)(hg:Gl X x)(hm:X.mg x=some (.ref C))(hb:Binds X.K fd ps ds)(hd:Vals dvs ds)(hx:Passes CX X E)
  (ha:PA X (e::es) t)(hdb:(x==("__debug__":Str))=false:=by decide)(he:starEach (e::es) X.env=(false,eval e X.env)::starEach es X.env:=by rfl)(hpl:(backTo pos (starEach es X.env)).any (·.1)=false:=by rfl):
  PE X (.Call (.Name x p) (e::es) [] pos) (zX6 C sp dvs E t):=by
 intro pins s σ H Q I h
 refine wpAny_Call_Name_kw (xF I hg hm ?_ hdb)
 refine PySem.W.callWith_K (h₀:=X.base) I.ok.mod.kin xc.kp (thn (ha pos pins s σ H _ I h) fun us s1⟨vs,H1,I1,r,hz,q⟩=>⟨I1.kIn,?_⟩) he hpl
 exact qXz xc hi hfn F hr hb hd hx I1 r hz q
def qT3(C:Addr)(t:TA):TE:=fun σ H Q=>t σ H fun vs H1=>vs.length<=sizeLine/\∀a b,H1 a=none->H1 b=none->a≠b->Q (.ref b) (upd (upd H1 a (.tup vs)) b (xL true C a none b))
theorem qXj{pins:List (Addr×Obj)}{σ:St}{H:Hp}{s:Shared}{Q:VK}{us:List Value}{vs:List V}(xc:XC X.K C bm)(hi:PySem.W.findIn X.K (.ref C) "__init__"=some (some (.builtin "ValueError.__init__")))
  (I:Inv X pins σ H s)(r:Vals vs us)(hz:vs.length<=sizeLine)
  (h:∀a b,H a=none->H b=none->a≠b->Q (.ref b) (upd (upd H a (.tup vs)) b (xL true C a none b))):
  wpAny (model X.prog X.w) X.A (call (.ref C) us) (EP X pins σ Q) X.xe s:=by
 obtain⟨nm,q,N,bs,sn,sub,ab,col,dd,k0,k1,k2,k3,k5,lC⟩:=xc.obj
 have na:H (s.heap.objs.size+2)=none:=I.hok.fresh (Nat.le_add_right _ _)
 have nb:H (s.heap.objs.size+1)=none:=I.hok.fresh (Nat.le_succ _)
 have hq:=h (s.heap.objs.size+2) (s.heap.objs.size+1) na nb (Nat.ne_of_gt (Nat.lt_succ_self _))
 have hus:us.length<=sizeLine:=by rw[<-r.length];exact hz
 obtain⟨hh,gg,dd',tt,oo⟩:=s
 refine wpAny_call (XA.call_cls (I.kIn _ _ lC) (XA.tcall_bare (PySem.F.excBase_ValueError) xc.ab (I.kIn _ _ lC) (PySem.W.looks_findIn I.kIn hi) (fun h' kk he ht=>?_) hus))
 refine⟨V.ref (hh.objs.size+1),_,?_,rfl,hq⟩
 refine I.un (t':=tt) (Un.laid2 kk (Nat.le_add_right _ _) (Nat.le_succ _) na nb) (I.hok.laid2 kk na nb ?_ ?_)
 ·exact⟨hz,us,r,⟨_,ht,rfl,_,rfl⟩⟩
 ·exact uG he rfl rfl fun _=>rfl
theorem qN0(xc:XC X.K C bm)(hi:PySem.W.findIn X.K (.ref C) "__init__"=some (some (.builtin "ValueError.__init__")))(hg:Gl X x)(hm:X.mg x=some (.ref C))
  (ha:PA X (e::es) t)(hdb:(x==("__debug__":Str))=false:=by decide)(he:starEach (e::es) X.env=(false,eval e X.env)::starEach es X.env:=by rfl)(hpl:(backTo pos (starEach es X.env)).any (·.1)=false:=by rfl):
  PE X (.Call (.Name x p) (e::es) [] pos) (qT3 C t):=by
 intro pins s σ H Q I h
 refine wpAny_Call_Name_kw (xF I hg hm ?_ hdb)
 refine PySem.W.callWith_K (h₀:=X.base) I.ok.mod.kin xc.kp (thn (ha pos pins s σ H _ I h) fun us s1⟨vs,H1,I1,r,hz,q⟩=>⟨I1.kIn,?_⟩) he hpl
 exact qXj xc hi I1 r hz q
end
theorem Un.put2{fs ex:List Addr}{H:Hp}{h h':Heap}{a e:Addr}{o u:HO}(k:∀c v,c≠e->h.get? c=some v->h'.get? c=some v)(he:∃v,h'.get? e=some v)(ha:h.objs.size<=a)(na:H a=none)(mu:Mut (H e)):Un fs ex H (upd (upd H a o) e u) h h':=by
 have ne:∀c,H c=none->c≠e:=fun c n z=>by subst z;rw[n]at mu;exact mu
 have nm:∀c v,H c=some v->¬Mut (some v)->c≠e:=fun c v q n z=>by subst z;rw[q]at mu;exact n mu
 refine⟨fun c v q n _ _=>k c v (ne c n) q,fun c v q n _ _=>⟨v.slots,k c v (ne c n) q⟩,fun c v q n _=>?_,fun c v q _=>?_,fun c xs q=>?_,fun c v xs q=>?_,fun c ps q=>⟨#[],?_⟩⟩
 ·rw[qC (ne c n),qC (aq9 (Nat.lt_of_lt_of_le (aq8 q) ha))];exact n
 ·by_cases z:c=e
  ·subst z;exact he
  ·exact⟨v,k c v z q⟩
 ·rw[qC (nm c _ q fun z=>z),qC (zZ q na)];exact q
 ·rw[qC (nm c _ q fun z=>z),qC (zZ q na)];exact q
 ·rw[qC (nm c _ q fun z=>z),qC (zZ q na),q];simp
theorem HOk.put2{P:Program}{w:World}{H:Hp}{h h':Heap}{a e:Addr}{o u:HO}(x:HOk P w H h)(k:∀c v,c≠e->h.get? c=some v->h'.get? c=some v)(na:H a=none)(mu:Mut (H e))
  (new1:jV P w (upd (upd H a o) e u) h' a o)(new2:jV P w (upd (upd H a o) e u) h' e u):HOk P w (upd (upd H a o) e u) h':=by
 have nm:∀c v,H c=some v->¬Mut (some v)->c≠e:=fun c v q n z=>by subst z;rw[q]at mu;exact n mu
 intro c v q
 by_cases hb:c=e
 ·subst hb;rw[qZ]at q;cases q;exact new2
 ·rw[qC hb]at q
  by_cases ha:c=a
  ·subst ha;rw[qZ]at q;cases q;exact new1
  ·rw[qC ha]at q
   refine(x c v q).stay (fun b w' hb' r=>k b w' ?_ r) (fun b r=>by rw[qC (nm b _ r fun z=>z),qC (zZ r na)];exact r) fun b xs r=>by rw[qC (nm b _ r fun z=>z),qC (zZ r na)];exact r
   rcases hb' with rfl|hb'
   ·exact hb
   ·exact nm b _ hb' fun z=>z
section
variable {P:Program} {w:World} {K:Fg} {mg:Str->Option Value} {base:Heap} {N:List Str} {qual:Str} {scope:Scope} {f:Addr} {cd:Value} {A:Around} {outer:List Env} {s0:Shared} {H0:Hp} {E:XK}
inductive bO(H0:Hp)(E:XK)(C:Addr)(v:V)(H1:Hp):Prop
 |mk (e:_) (t:_) (d:_) (a_0:v= .ref e) (a_1:H1 e=some (xL true C t d e)) (a_2:H0 e=none) (a_3:E (.ref C) (some e) (upd H1 e (xL false C t d e))):bO H0 E C v H1
def sQ(H0:Hp)(E:XK)(C:Addr)(te:TE):TS:=fun x_0 σ H=>te σ H fun v H1=>bO H0 E C v H1
theorem lI{x:Expr}{te:TE}{pos:Pos}{C:Addr}{bm:List Value}(xc:XC K C bm)(hx:PE (jN (CXE P w) P w K mg base N qual scope f cd A outer s0 H0 E) x te):
  PS (jN (CXE P w) P w K mg base N qual scope f cd A outer s0 H0 E) (.Raise (some x) none pos) (sQ H0 E C te):=by
 intro pins s σ H D I h
 obtain⟨nm,q,N',bs,sn,sub,ab,col,dd,k0,k1,k2,k3,k5,lC⟩:=xc.obj
 refine XA.Raise_x (C:=C) (nm:=nm) (q:=q) (N:=N') (bs:=bs) (bm:=bm) (hdct:=true) (sn:=sn) (sub:=sub) (ab:=ab) (col:=col) (dd:=dd) (k0:=k0) (k1:=k1) (k2:=k2) (k3:=k3) (k5:=k5) (newId:="ValueError.__new__") xc.ab.base (I.ok.hd rfl)
  (thn (hx pins s σ H _ I h) fun u s1⟨v,H1,I1,rv,e,t,d,ev,he,h0,hE⟩=>?_)
 subst ev
 obtain rfl:u=Value.ref e:=rv
 have fx:=qX7 (I1.hok e _ he)
 refine⟨e,d,.ref t,rfl,I1.kIn _ _ lC,fx,leaves (fr:=none) I1 he ?_ (fun T z=>by cases z) fx hE⟩
 cases q':s0.heap.get? e with
 |none=>rfl
 |some o=>
  have :=I1.base.free e o q' h0 (by show e∉([]:List Addr);simp)
  rw[he]at this;cases this
end
section
variable {X:Cx} {C S:Addr} {x m:Str} {p pos apos:Pos} {e o value:Expr} {es:List Expr} {ta tv:TE} {t:TA} {bm:List Value} {name:Str} {pos':Pos}
inductive sZ(K:Fg)(Q:VK)(vs:List V)(H1:Hp):Prop
 |mk (e:_) (C:_) (tt:_) (d:_) (nw:_) (bm:_) (rest:_) (a_0:vs= .ref e::rest) (a_1:H1 e=some (xL nw C tt d e)) (a_2:XC K C bm) (a_3:rest.length<=sizeLine) (a_4:∀a,H1 a=none->Q .non (upd (upd H1 a (.tup rest)) e (xL nw C a d e))):sZ K Q vs H1
def qT4(K:Fg)(t:TA):TE:=fun σ H Q=>t σ H fun vs H1=>sZ K Q vs H1
theorem sJ{pl:Sem Bool}(hg:Gl X x)(hm:X.mg x=some (.ref S))(hga:PySem.W.specialIn X.K (.ref S) "__getattribute__"=some (some (.builtin "type.__getattribute__")))
  (hrd:PySem.W.readsIn X.K S (.type "type")=true)(hf:PySem.W.findCls X.K (.ref S) (.type "type") "__init__"=some (.val (.builtin "ValueError.__init__")))
  (ha:PA X (e::es) t)(hdb:(x==("__debug__":Str))=false:=by decide)(he:starEach (e::es) X.env=(false,eval e X.env)::starEach es X.env:=by rfl)(hpl:(backTo pos (starEach es X.env)).any (·.1)=false:=by rfl)
  (ht:eval (.Call (.Attribute (.Name x p) "__init__" apos) (e::es) [] pos) X.env=(do
   let ov<-eval (.Name x p) X.env
   standAt apos.atName
   let(f,first)<-holding [ov] (getMethod ov "__init__" pl)
   callWith pos f first (backTo pos (starEach (e::es) X.env)) (backToKw pos (keywordEach [] X.env))):=by rfl):
  PE X (.Call (.Attribute (.Name x p) "__init__" apos) (e::es) [] pos) (qT4 X.K t):=by
 intro pins s σ H Q I h
 refine PySem.W.methodCall_KW (pl:=pl) (xF I hg hm ?_ hdb) ht
 refine PySem.W.method_cls I.kIn hga (PySem.W.cls_value I.kIn hrd hf (by decide+kernel) ?_)
 have I0:=I.tok (s.toks+1)
 have hA:=ha pos pins _ σ H _ I0 h
 rw[he]at hA⊢
 refine Calls.callWith_builtin (by show(false||(backTo pos (starEach es X.env)).any (·.1))=false;rw[hpl]<;>rfl) (Calls.evalArgs_plain ?_)
 refine thn hA fun us s2⟨vs,H2,I2,r2,e',C',tt,d,nw,bm',rest,ev,hE,xc,hz,q⟩=>?_
 subst ev
 cases r2 with
 | @cons _ u _ us' r1 r3=>
  obtain rfl:u=Value.ref e':=r1
  obtain⟨nm,q',N',bs,sn,sub,ab,col,dd,k0,k1,k2,k3,k5,lC⟩:=xc.obj
  obtain⟨vs',sl,ho,hz6,h0,h1⟩:=vN (I2.hok e' _ hE)
  have hzu:us'.length<=sizeLine:=by rw[<-r3.length];exact hz
  obtain⟨hh,g,d',tk,os⟩:=s2
  have na:H2 hh.objs.size=none:=I2.hok.fresh (aq7 _)
  have mu:Mut (H2 e'):=by rw[hE];exact xL.mut
  have nee:hh.objs.size≠e':=fun z=>by rw[z,hE]at na;cases na
  refine wpAny_call (XA.init_x PySem.F.excBase_ValueError (cQ xc I2.kIn (by rw[List.contains_cons,xc.ab.hasB,Bool.or_true]))
   (fun A' Q' E' s' k' hq'=>by unfold classData;exact wpAny_bind (wpAny_load (k' _ _ (I2.kIn _ _ lC)) (wpAny_pure hq'))) ho hz6 h0 hzu fun h' he' ht' kk=>?_)
  refine⟨.non,_,?_,rfl,q hh.objs.size na⟩
  refine I2.un (t':=tk) (Un.put2 kk ⟨_,he'⟩ (aq7 _) na mu) (I2.hok.put2 kk na mu ?_ ?_)
  ·exact⟨hz,us',r3,⟨_,ht',rfl,_,rfl⟩⟩
  ·refine uG he' (by simpa using hz6) (by simp[hz6]) fun z=>?_
   rw[Array.getElem?_setIfInBounds_ne (by decide)]
   exact h1 z
inductive sX(K:Fg)(f:Str)(N_:St->Hp->Prop)(σ:St)(y:V)(x:V)(H2:Hp):Prop
 |mk (e:_) (C:_) (t:_) (nw:_) (bm:_) (a_0:x= .ref e) (a_1:H2 e=some (xL nw C t none e)) (a_2:XC K C bm) (a_3:uO K C f) (a_4:∀d,H2 d=none->N_ σ (upd (upd H2 d (.xd [(f,y)])) e (xL nw C t (some d) e))):sX K f N_ σ y x H2
def qT5(K:Fg)(ta tv:TE)(f:Str):TS:=fun D σ H=>tv σ H fun y H1=>ta σ H1 fun x H2=>sX K f D.nx σ y x H2
theorem qK0(ha:PE X o ta)(hv:PE X value tv)(hs:swapsWith value (some (.Attribute o name pos')) pos.line X.env=pure false:=by rfl):PS X (.Assign [.Attribute o name pos'] value pos) (qT5 X.K ta tv name):=by
 intro pins s σ H D I h
 refine plainObj_wpAny_Assign_Attribute (thn (hv pins s σ H _ I h) fun u s1⟨y,H1,I1,ry,q⟩=>thn (ha pins s1 σ H1 _ I1 q) fun ov s2⟨x,H2,I2,rx,e',C',t',nw,bm',ex,hE,xc,hna,q2⟩=>?_) hs
 subst ex
 obtain rfl:ov=Value.ref e':=rx
 obtain⟨vs',sl,ho,hz6,h0,h1⟩:=vN (I2.hok e' _ hE)
 obtain⟨hh,g,d',tk,os⟩:=s2
 have na:H2 hh.objs.size=none:=I2.hok.fresh (aq7 _)
 have mu:Mut (H2 e'):=by rw[hE];exact xL.mut
 refine XA.store_x (xc.cls I2.kIn) (PySem.W.looks_findIn I2.kIn hna) ho fun h' tk' he' hn' kk=>?_
 refine⟨σ,_,?_,q2 hh.objs.size na⟩
 refine I2.un (t':=tk') (Un.put2 kk ⟨_,he'⟩ (aq7 _) na mu) (I2.hok.put2 kk na mu ?_ ?_)
 ·refine⟨_,hn',fun g'=>?_⟩
  by_cases z:g'=name
  ·subst z
   simp only[List.lookup,beq_self_eq_true,if_true]
   exact ry
  ·have z':(g'==name)=false:=beq_eq_false_iff_ne.mpr z
   simp only[List.lookup,z',if_neg z]
   trivial
 ·exact uG he' hz6 h0 h1
inductive sK(K:Fg)(f:Str)(Q:VK)(x:V)(H1:Hp):Prop
 |mk (e:_) (C:_) (t:_) (d:_) (nw:_) (bm:_) (fs:_) (v:_) (a_0:x= .ref e) (a_1:H1 e=some (xL nw C t (some d) e)) (a_2:XC K C bm) (a_3:uO K C f) (a_4:H1 d=some (.xd fs)) (a_5:fs.lookup f=some v) (a_6:Q v H1):sK K f Q x H1
def qT6(K:Fg)(ta:TE)(f:Str):TE:=fun σ H Q=>ta σ H fun x H1=>sK K f Q x H1
theorem qK1(he:PE X e ta)(hb:attributeBase e name X.env (eval e X.env)=eval e X.env:=by rfl):PE X (.Attribute e name pos) (qT6 X.K ta name):=by
 intro pins s σ H Q I h
 refine qJ9 hb (thn (he pins s σ H _ I h) fun u s1⟨x,H1,I1,rx,e',C',t',d,nw,bm',fs,v,ex,hE,xc,hna,hd,hl,q⟩=>?_)
 subst ex
 obtain rfl:u=Value.ref e':=rx
 obtain⟨vs',sl,ho,hz6,h0,h1⟩:=vN (I1.hok e' _ hE)
 obtain⟨mA,hn,hr⟩:=(show∃mA,s1.heap.Ns1 d mA/\∀f,vS (fs.lookup f) (mA f)from I1.hok d _ hd)
 obtain⟨u',hu,ru⟩:=vS.some_of (v:=v) (o:=mA name) (by rw[<-hl];exact hr name)
 obtain⟨hh,g,d',tk,os⟩:=s1
 exact XA.load_x (xc.cls I1.kIn) (PySem.W.looks_findIn I1.kIn hna) ho hn.ns hu (PySem.W.handedOut_of (pK ru)) ⟨v,H1,I1.tok _,ru,q⟩
end
open Builtin Builtin.ObjectAttr
structure XI(K:Fg)(C:Addr):Prop where
 cl:PySem.W.findIn K (.ref C) "__class__"=some (some (.builtin "object.__class__"))
 gt:PySem.W.specialIn K (.builtin "object.__class__") "__get__"=some (some (.builtin "getset_descriptor.__get__"))
 tk:PySem.W.takesIn K (.builtin "object.__class__")=some true
 mr:PySem.W.mroIn K C (.type "object")=some true
 hd:PySem.W.hasDictIn K C=true
section
variable {prog:Program} {w:World} {A:Around} {E:Value->Shared->Prop} {K:Fg} {C e:Addr} {bm:List Value} {ox:Obj} {od:Option Obj}
theorem sV{R:Result->Shared->Prop}{tk:Tok}{h:Heap}{g d t os}(xc:XC K C bm)(xi:XI K C)(X:K.In h)(I:PySem.W.InstAt h e ox C od)
  (hq:R (.ok (.ret (.ref C))) ⟨h,g,d,t,os⟩):
  codeAny (model prog w) A (.call (.builtin "BaseException.__getattribute__") ⟨[.ref e,.str "__class__" tk],[]⟩) R ⟨h,g,d,t,os⟩:=by
 refine codeAny_call_builtin PySem.F.excAttr_ValueError.ga.plain PySem.F.entry_bexc_ga ?_
 have ha:=PySem.F.args_bexc_ga (.ref e) (.str "__class__" tk)
 have hk:builtinKind "BaseException.__getattribute__"=some .slot:=by decide+kernel
 have hs:splitId "BaseException.__getattribute__"=some ("BaseException","__getattribute__"):=by decide+kernel
 refine XA.chk_slot (i:="BaseException.__getattribute__") (owner:="BaseException") (n:="__getattribute__") (rest:=[.str "__class__" tk]) (C:=C) hk hs ha I.at_ I.cls (cQ xc X (by rw[List.contains_cons,xc.ab.base,Bool.or_true])) ?_
 have hf:PySem.W.findObj K C od "__class__"=some (.bind (.builtin "getset_descriptor.__get__") (.builtin "object.__class__")):=by
  obtain⟨cd,hc,_⟩:=PySem.W.any_some xi.hd
  unfold PySem.W.findObj
  rw[hc,Option.bind_some,xi.cl,Option.bind_some]
  simp only[xi.gt,xi.tk,Option.bind_some]
 have L0:=I.type (M:=model prog w)
 have L1:=PySem.W.looks_find (M:=model prog w) X I hf
 refine wpAny_bind (wpAny_pure (wpAny_bind (wpAny_pure (wpAny_bind (L0.at (wpAny_bind (L1.at ?_)))))))
 show wpAny _ _ (holding [.builtin "object.__class__"] (call (.builtin "getset_descriptor.__get__") [.builtin "object.__class__",.ref e,.ref C])>>=ret) _ _ _
 refine wpAny_bind (wpAny_holding (wpAny_call ?_))
 exact PySem.W.class_get (ox:=ox) (od:=od) X I xi.mr (wpAny_pure hq)
theorem qK2{Q:Option Value->Shared->Prop}{s:Shared}(xc:XC K C bm)(xi:XI K C)(X:K.In s.heap)(I:PySem.W.InstAt s.heap e ox C od)(hq:Q (some (.ref C)) {s with toks:=s.toks+1}):
  wpAny (model prog w) A (getAttr? (.ref e) "__class__") Q E s:=by
 obtain⟨h,g,d,t,os⟩:=s
 have f3:=PySem.F.excAttr_ValueError.ga.bind (.ref e)
 have key:codeAny (model prog w) A (.call (.builtin "BaseException.__getattribute__") ⟨[.ref e,.str "__class__" t],[]⟩)
   (fun r s'=>r= .ok (.ret (.ref C))/\s'=⟨h,g,d,t+1,os⟩) ⟨h,g,d,t+1,os⟩:=sV xc xi X I ⟨rfl,rfl⟩
 have hx2:(Value.builtin "BaseException.__getattribute__"==Value.builtin "object.__getattribute__")=false:=by decide+kernel
 have L0:=I.type (M:=model prog w)
 have L5:=PySem.W.looks_findIn (M:=model prog w) X xc.ga
 have L6:=PySem.W.looks_findIn (M:=model prog w) X xc.gh
 unfold getAttr? getAttrBy? getAttrBy
 refine wpAny_bind (wpAny_mkText (wpAny_bind (wpAny_attempt (wpAny_holding (wpAny_bind (L0.at (wpAny_bind (L5.at ?_))))))))
 dsimp only
 rw[hx2,Bool.and_false]
 show wpAny _ _ (getAttrByItsOwn (.ref e) (.str "__class__" t) (.ref C) (.builtin "BaseException.__getattribute__") false false) _ _ _
 unfold getAttrByItsOwn
 refine wpAny_bind (L6.at (wpAny_bind (wpAny_attempt (wpAny_holding ?_))))
 show wpAny _ _ (boundAndCalled (.builtin "BaseException.__getattribute__") (.ref e) (.str "__class__" t)) _ _ _
 unfold boundAndCalled
 rw[f3]
 refine wpAny_bind (wpAny_pure (wpAny_call (codeAny_mono key fun r s' z=>?_)))
 obtain⟨rfl,rfl⟩:=z
 exact wpAny_pure (wpAny_pure hq)
theorem qN1(xc:XC K C bm)(xi:XI K C):PySem.W.KitX K (.ref e) (.ref C) (fun h=>PySem.W.InstAt h e ox C od)where
 ty:=fun _ _ _ I=>I.type
 it:=fun _ _ X _=>by
  obtain⟨nm,q,N,bs,sn,sub,ab,col,dd,k0,k1,k2,k3,k5,lC⟩:=xc.obj
  intro A' Q' E' s' k hq
  unfold isType loadHead
  exact wpAny_bind (wpAny_loadPart (k _ _ (X _ _ lC)) (wpAny_pure hq))
 ne:=fun h tp dd its n sl X htp=>by
  obtain⟨nm,q,N,bs,sn,sub,ab,col,dd',k0,k1,k2,k3,k5,lC⟩:=xc.obj
  refine Bool.eq_false_iff.mpr fun q'=>?_
  have e':C=tp:=Value.ref.inj (beq_iff_eq.mp q')
  subst e'
  have z:=(X _ _ lC).symm.trans htp
  injection z with z
  injection z with z1
  exact absurd z1 (by decide)
 ca:=fun X I k=>qK2 xc xi X I k
end
section
variable {X:Cx}
theorem sW{pins:List (Addr×Obj)}{σ:St}{H:Hp}{s:Shared}{nw:Bool}{e C t:Addr}{d:Option Addr}(I:Inv X pins σ H s)(he:H e=some (xL nw C t d e))(hd:∀a,d=some a->∃o,s.heap.get? a=some o):
  ∃ox od,PySem.W.InstAt s.heap e ox C od:=by
 obtain⟨vs',sl,ho,hz6,h0,h1⟩:=vN (I.hok e _ he)
 cases d with
 |none=>exact⟨_,none,⟨ho,rfl,rfl,trivial⟩⟩
 |some a=>
  obtain⟨o,hoa⟩:=hd a rfl
  exact⟨_,some o,⟨ho,rfl,rfl,hoa⟩⟩
theorem xX:kJ X (.builtin "isinstance") (fun xs H Q=>∃e C t d nw bm c cv b,xs=[.ref e,cv]/\((∃D,cv= .ref D/\c= .ref D)\/∃n,cv= .ty n/\c= .type n)/\H e=some (xL nw C t d e)/\(∀a,d=some a->∃fs,H a=some (.xd fs))/\XC X.K C bm/\XI X.K C/\PySem.W.kitOne X.K (.ref C) c=some b/\Q (.bl b) H):=by
 intro pins s σ H xs us Q I r h
 obtain⟨e',C',t',d,nw,bm',c,cv,b,rfl,rc,hE,hd,xc,xi,ko,q⟩:=h
 obtain⟨u,u2,rfl,r1,r2⟩:=vals2 r
 obtain rfl:u=Value.ref e':=r1
 have this:u2=c:=by
  rcases rc with⟨D,rfl,rfl⟩|⟨n,rfl,rfl⟩
  ·exact r2
  ·exact r2
 subst this
 obtain⟨ox,od,hI⟩:=sW I hE (fun a z=>by
  obtain⟨fs,hf⟩:=hd a z
  obtain⟨mA,⟨o,_,_,ho,_⟩,_⟩:=(show∃mA,s.heap.Ns1 a mA/\∀f,vS (fs.lookup f) (mA f)from I.hok a _ hf)
  exact⟨o,ho⟩)
 exact PySem.W.kia_one (qN1 xc xi) I.kIn hI ko (fun z=>nomatch z) fun tk=>⟨.bl b,H,I.tok tk,rfl,q⟩
end
end L2
namespace L2
open PySem PySem.Spec PyProof.Rows PyProof
section
variable {X:Cx}
theorem qK3:wQ X (binaryOp .Mult) (rI IntMulOk fun i j=>.int (i*j)):=opI fun _ _ _ _ _ _ _ hc q=>mul_int q hc
theorem sY(hu:X.A.units<cLine):wQ X (compareOp .Eq) (fun x y H Q=>∃p q xs,x= .ref p/\y= .ref q/\zV X.K H p xs/\zV X.K H q []/\Q (.bl xs.isEmpty) H):=by
 intro pins s σ H x y v u Q I rx ry h
 obtain⟨p,q',xs,rfl,rfl,h1,h2,q⟩:=h
 cases rx
 cases ry
 obtain⟨its,r1,p1,_⟩:=I.list h1
 obtain⟨its2,r2,p2,_⟩:=I.list h2
 cases r2
 cases r1 with
 |nil=>exact SeqAt.eq_listAt (e:=fun _=>true) p1.isList p2.isList rfl hu (fun j h _=>absurd h (by simp)) ⟨.bl true,H,I,rfl,q⟩
 |cons a b=>exact SeqAt.eq_list_lengthsAt p1.isList p2.isList (by simp) hu ⟨.bl false,H,I,rfl,q⟩
theorem pU:MtR X "list.count" (fun x xs H Q=>∃(p:Addr)(bs:List Bool)(k:Bool),x= .ref p/\xs=[.bl k]/\zV X.K H p (bs.map V.bl)/\Q (.int (bs.count k:Nat)) H):=by
 intro pins s σ H x xs v us Q I rx rs h
 obtain⟨p,bs,k,rfl,rfl,hq,q⟩:=h
 cases rx
 obtain⟨u,rfl,e⟩:=vals1 rs
 cases e
 obtain⟨its,rv,⟨⟨cls,dd,data,sl⟩,n,ho,hc,hd,hdata⟩,hz⟩:=I.list hq
 simp only at hc hd hdata
 subst hc hd hdata
 have fl:(bs.map V.bl).all vJ=true:=by
  rw[List.all_eq_true];intro y hy
  obtain⟨b,_,rfl⟩:=List.mem_map.mp hy
  rfl
 refine call_meets PySem.F.slot_list_count ⟨_,ho,rfl⟩ PySem.F.entry_list_count (PySem.F.args_list_count_2 _ _) (SeqAt.list_countAt p its.toArray n none sl (.bool k) (lK (.bl k))) ⟨ho,fun y hy=>kM (x:=.bl k) rfl rfl rv fl y (by simpa using hy),?_⟩
 have key:∀{bs:List Bool}{its:List Value},Vals (bs.map V.bl) its->its.countP (lK (.bl k))=bs.count k:=by
  intro bs
  induction bs with
  |nil=>intro its r;rw[List.map_nil]at r;cases r;rfl
  |cons b bs ih=>
   intro its r
   rw[List.map_cons]at r
   cases r with
   |cons r1 r2=>
    cases r1
    rw[List.countP_cons,List.count_cons,ih r2]
    rfl
 refine⟨.int _,H,I.tok _,⟨_,rfl⟩,?_⟩
 rw[show its.toArray.toList=its from rfl,key rv]
 exact q
end
def oB(K:Fg)(a:Addr)(D:List (Str×V)):Prop:=
 (a==sysModules)=false/\∃o es ep,K.lookup a=some o/\o.ExactDict/\o.data= .dict es ep/\KTD.Rows zY es.toList D
section
variable {prog:Program} {w:World} {A:Around} {E:Value->Shared->Prop} {s:Shared} {a:Addr} {o:Obj} {es:Array DictEntry} {ep:Nat} {D:List (Str×V)} {k:Str} {tk:Tok}
theorem lL{Q:Option Value->Shared->Prop}(ho:s.heap.get? a=some o)(hd:o.data= .dict es ep)(hr:KTD.Rows zY es.toList D)
  (yes:∀v u,KTD.datumAt k D=some v->zY v u->Q (some u) {s with toks:=s.toks+1})(no:KTD.datumAt k D=none->Q none {s with toks:=s.toks+1}):
  wpAny (model prog w) A (dictGet a (.str k tk)) Q E s:=by
 have all:(es.all fun e=>isExactStrKey e.key)=true:=by
  obtain⟨l⟩:=es
  simpa using hr.exact
 have val:Q ((es.toList.find? fun e=>e.key.isStr k).map (·.val)) {s with toks:=s.toks+1}:=by
  cases q:KTD.datumAt k D with
  |some v=>
   obtain⟨u,hu,ru⟩:=hr.find_some q
   rw[hu];exact yes v u q ru
  |none=>rw[hr.find_none q];exact no q
 have same:(es.toList.find? fun e=>e.key.isStr k).map (·.val)=findBy (fun k v=>v.isStr k) es k:=by
  obtain⟨l⟩:=es
  simp[findBy]
 rw[same,findBy_of_findIdx?]at val
 unfold dictGet
 with_reducible refine wpAny_holding ?_
 refine wpAny_bind (wpAny_pyHash_str (wpAny_bind ?_))
 refine KTD.kt_dictFind_strs (s:={s with toks:=s.toks+1}) ho hd all ?_
 cases q:es.findIdx? fun e=>e.key.isStr k with
 |none=>
  rw[q]at val
  exact wpAny_pure val
 |some i=>
  rw[q]at val
  exact wpAny_bind (wpAny_dictEntries (s:={s with toks:=s.toks+1}) ho hd (wpAny_pure val))
theorem qK4{Q:Value->Shared->Prop}(lo:(a==sysModules)=false)(ho:s.heap.get? a=some o)(hc:o.ExactDict)(hd:o.data= .dict es ep)(hr:KTD.Rows zY es.toList D)
  (h:Q (.bool (KTD.inKeys k D)) {s with toks:=s.toks+1}):wpAny (model prog w) A (call (.builtin "dict.__contains__") [.ref a,.str k tk]) Q E s:=by
 refine wpAny_call_entry slot_dict_contains ⟨o,ho,hc.1⟩ entry_dict_contains ?_ (args_dict_contains _ _)
 show wpAny _ _ (dictGet a (.str k tk)>>=_) _ _ s
 refine wpAny_bind (lL ho hd hr (fun v u e _=>?_) fun e=>?_)
 ·have hb:KTD.inKeys k D=true:=by rw[<-KTD.isSome_datumAt,e];rfl
  rw[hb]at h
  exact wpAny_pure ⟨_,rfl,h⟩
 ·have hb:KTD.inKeys k D=false:=by rw[<-KTD.isSome_datumAt,e];rfl
  rw[hb]at h
  show wpAny _ _ (Builtin.Dict.pendingKey? a (.str k tk)>>=_) _ _ _
  exact wpAny_bind (wpAny_pendingKey_other lo (wpAny_pure ⟨_,rfl,h⟩))
end
section
variable {X:Cx}
theorem uM:wQ X (compareOp .In) (fun x y H Q=>∃k a D,x= .str k/\y= .ref a/\oB X.K a D/\Q (.bl (KTD.inKeys k D)) H):=by
 intro pins s σ H x y v u Q I rx ry h
 obtain⟨k,a,D,rfl,rfl,⟨lo,o,es,ep,lk,hc,hd,hr⟩,q⟩:=h
 obtain⟨t,rfl⟩:=rx
 cases ry
 have ho:=I.kIn _ _ lk
 exact In_slot ⟨o,ho,hc.1⟩ slot_dict_contains (qK4 lo ho hc hd hr (wpAny_truthy_bool ⟨.bl _,H,I.tok _,rfl,q⟩))
theorem cZ:rP X (fun x y H Q=>∃k a D v,x= .ref a/\y= .str k/\oB X.K a D/\KTD.datumAt k D=some v/\Q v H):=by
 intro value slice pins s σ H x y v u Q I rx ry h hs
 obtain⟨k,a,D,z,rfl,rfl,⟨lo,o,es,ep,lk,hc,hd,hr⟩,hk,q⟩:=h
 cases rx
 obtain⟨t,rfl⟩:=ry
 have ho:=I.kIn _ _ lk
 obtain⟨u0,hu0,ru0⟩:=hr.find_some hk
 refine subscriptTail_builtinR (x:=u0) (T:="dict") ⟨o,ho,hc.1⟩ slot_dict_getitem.lookup (getItem_slot (T:="dict") ⟨o,ho,hc.1⟩ (by decide) slot_dict_getitem ?_) hs
 refine wpAny_call_entry slot_dict_getitem ⟨o,ho,hc.1⟩ entry_dict_getitem ?_ (args_dict_getitem _ _)
 show wpAny _ _ (dictGet a (.str k t)>>=_) _ _ s
 have all:(es.all fun e=>isExactStrKey e.key)=true:=by
  obtain⟨l⟩:=es
  simpa using hr.exact
 have same:(es.toList.find? fun e=>e.key.isStr k).map (·.val)=findBy (fun k v=>v.isStr k) es k:=by
  obtain⟨l⟩:=es
  simp[findBy]
 rw[same,findBy_of_findIdx?]at hu0
 refine wpAny_bind ?_
 unfold dictGet
 with_reducible refine wpAny_holding ?_
 refine wpAny_bind (wpAny_pyHash_str (wpAny_bind ?_))
 refine KTD.kt_dictFind_strs (s:={s with toks:=s.toks+1}) ho hd all ?_
 cases e:es.findIdx? fun e=>e.key.isStr k with
 |none=>rw[e]at hu0;cases hu0
 |some i=>
  rw[e]at hu0
  refine wpAny_bind (wpAny_dictEntries (s:={s with toks:=s.toks+1}) ho hd (wpAny_pure ?_))
  have e2:es[i]?.map (·.val)=some u0:=hu0
  rw[e2]
  exact wpAny_pure ⟨_,rfl,rfl,z,H,I.tok _,ru0,q⟩
end
def kP(X:Cx)(scope:Scope)(cl:List (Str×Addr))(Nb:List Str)(C:Addr)(s:Shared)(H:Hp)(fp:List Addr)(pins:List (Addr×Obj)):Cx:=
 {X with env:=compEnvC scope cl C X.env,N:=Nb,s₀:=s,H₀:=H,outer:=X.stack,ex:=fp,fn:=fun _=>false,pn:=X.pn++pins,xe:=fun _ _=>False}
section
variable {X:Cx} {scope:Scope} {cl:List (Str×Addr)} {x:Str} {rest:List Str} {ix:List Nat}
theorem yF(g:Str->NameKind->NameKind):∀(names:List (Str×NameKind))(y:Str),(names.map fun p=>(p.1,g p.1 p.2)).lookup y=(names.lookup y).map (g y)
 |[],_=>rfl
 |(n,k)::r,y=>by
  have ih:=yF g r y
  rw[List.map_cons]
  cases hy:y==n with
  |true=>
   have e:y=n:=beq_iff_eq.mp hy
   subst e
   simp only[List.lookup_cons,beq_self_eq_true,Option.map_some]
  |false=>simp only[List.lookup_cons,hy];exact ih
theorem vX(env:Env)(names:List (Str×NameKind))(y:Str):
  (names.map fun(n,k)=>if(k==NameKind.free&&env.scope.kind== .function&&env.kindOf n==some .cell)then(n,NameKind.cell)else(n,k)).lookup y=
   (names.lookup y).map fun k=>if(k==NameKind.free&&env.scope.kind== .function&&env.kindOf y==some .cell)then NameKind.cell else k:=by
 rw[<-yF (fun y k=>if(k==NameKind.free&&env.scope.kind== .function&&env.kindOf y==some .cell)then NameKind.cell else k)]
 congr 1
 refine List.map_congr_left fun p _=>?_
 obtain⟨n,k⟩:=p
 dsimp only
 split<;>rfl
theorem wN{C:Addr}{y:Str}{k:NameKind}(h:(compEnvC scope cl C X.env).kindOf y=some k)(hk:k= .cell\/k= .free)(hcell:∀y∈scope.names,y.2≠ .cell):scope.names.lookup y=some .free:=by
 have e:(compEnvC scope cl C X.env).kindOf y=(scope.names.lookup y).map fun k=>if(k==NameKind.free&&X.env.scope.kind== .function&&X.env.kindOf y==some .cell)then NameKind.cell else k:=vX X.env scope.names y
 rw[e]at h
 cases q:scope.names.lookup y with
 |none=>rw[q]at h;cases h
 |some k0=>
  rw[q]at h
  simp only[Option.map_some,Option.some.injEq]at h
  by_cases hc:(k0==NameKind.free&&X.env.scope.kind== .function&&X.env.kindOf y==some .cell)=true
  ·have :k0= .free:=by
    rw[Bool.and_eq_true,Bool.and_eq_true]at hc
    exact beq_iff_eq.mp hc.1.1
   rw[this]
  ·rw[if_neg hc]at h
   subst h
   rcases hk with rfl|rfl
   ·exact absurd rfl (hcell (y,.cell) (PySem.mem_of_lookup q))
   ·rfl
theorem lG{σ:St}:∀{ix:List Nat}{j i:Nat},ix[j]? =some i->(ix.map fun i=>σ.getD i none)[j]? =some (σ.getD i none):=fun {ix j i}h=>by
 rw[aq19,h];rfl
end
structure kX(k:Nat)(A:Around):Prop where
 dp:A.depth+3*k+5<recursionLimit
 un:A.units+16*k+200<cLine
theorem Room.s{k:Nat}{A:Around}(r:Room k A):kX k A:=⟨r.dp,r.un⟩
theorem kX.mono{j k:Nat}{A:Around}(r:kX k A)(h:j<=k):kX j A:=⟨by have :=r.dp;omega,by have :=r.un;omega⟩
theorem kX.mark{k:Nat}{A:Around}(r:kX k A)(v:Option Value):kX k (A.mark v):=⟨r.dp,r.un⟩
theorem kX.deeper{k:Nat}{A:Around}(r:kX (k+1) A)(env:Env):kX k (A.deeper env):=
 ⟨by have :=r.dp;show A.depth+1+3*k+5<_;omega,by have :=r.un;show A.units+3+16*k+200<_;omega⟩
theorem Inv.re{X:Cx}{pins:List (Addr×Obj)}{σ:St}{H:Hp}{s:Shared}{A':Around}{cm:Bool}{E':Value->Shared->Prop}(I:Inv X pins σ H s)(hd:cm=true->A'.handled=none)(fr:A'.frames=X.A.frames):
  Inv {X with A:=A',calm:=cm,xe:=E'} pins σ H s:=
 ⟨⟨I.ok.mod,I.ok.kind,I.ok.glob,I.ok.blt,I.ok.above,I.ok.inj,I.ok.has,I.ok.cab,hd,fr.trans I.ok.frames,I.ok.stk,I.ok.exf,I.ok.bs,I.ok.bsz,I.ok.noex,I.ok.exfs,I.ok.funs,I.ok.frf⟩,
  I.os,I.bare,I.base,I.loc,I.cell,I.free,I.freeC,I.pin,I.hok,I.len⟩
def bI(CX:CXT)(P:Program)(w:World)(K:Fg)(mg:Str->Option Value)(base:Heap)(N:List Str)(qual:Str)(scope:Scope)(f:Addr)(cd:Value)(A:Around)(outer:List Env)(s:Shared)(H:Hp)(E:XK):Cx:=
 {jN CX P w K mg base N qual scope f cd A outer s H E with calm:=false}
structure iJ(P:Program)(w:World)(K:Fg)(mg:Str->Option Value)(base:Heap)(CX:CXT)(k:Nat)(f:Addr)(fd:FuncData)(ps:List Str)(sp:Sp):Prop where
 len:∀vs H Q E,sp vs H Q E->vs.length=ps.length
 run:∀(A:Around)(outer:List Env)(s:Shared)(H:Hp)(args:Args)(us:List Value)(vs:List V)(Q:VK)(E:XK),kX k A->Env0 P w K mg base A outer s H->BindsTo s fd args (ps.zip us)->Vals vs us->sp vs H Q E->
  codeAny (model P w) A (.call (.ref f) args) (CR CX outer P w H s Q E) s
theorem qN2{CX:CXT}{P:Program}{w:World}{K:Fg}{mg:Str->Option Value}{base:Heap}{k:Nat}{f:Addr}{name qual:Str}{params:Arguments}{body:List Stmt}{scope:Scope}{dV kV doc pm cdv ct oc:Value}{an od:Option Addr}
  {osl:Array (Option Value)}{N ps:List Str}{sp:Sp}(lk:K.lookup f=some ⟨oc,od,.func (PySem.W.fnOf name qual params body scope dV kV doc pm an cdv ct),osl⟩)(hcd:PySem.W.codeIn K cdv qual=true)(S:zQ N ps scope)
  (len:∀vs H Q E,sp vs H Q E->vs.length=ps.length)
  (hbody:∀(A:Around)(outer:List Env)(s:Shared)(H:Hp)(vs:List V)(Q:VK)(E:XK),kX k (A.deeper (envOfC qual scope s.heap.objs.size f cdv))->sp vs H Q E->
   ∃t,PSs (bI CX P w K mg base N qual scope f cdv A outer s H E) body t/\t {nx:=fun _ H'=>Q .non H',rt:=Q} (start N vs) H):
  iJ P w K mg base CX (k+1) f (PySem.W.fnOf name qual params body scope dV kV doc pm an cdv ct) ps sp:=by
 refine⟨len,fun A outer s H args us vs Q E hr e0 hb r hsp=>?_⟩
 have hl:=len _ _ _ _ hsp
 have keep:∀b o,base.get? b=some o->s.heap.get? b=some o:=fun b o e=>(e0.bs b o e).1
 have KX:K.In s.heap:=e0.mod.kin.keeps keep
 have hkind:∀y∈ps.zip us,scope.names.lookup y.1=some .local\/(scope.names.lookup y.1=some .cell/\((cellsFrom (s.heap.objs.size+1) scope.names []).lookup y.1).isSome=true):=fun y hy=>by
  obtain⟨n,v⟩:=y
  rcases S.par n (List.of_mem_zip hy).1 with q|q
  ·exact .inl q
  ·exact .inr ⟨q,PySem.W.cellsFrom_some _ _ _ (.inl q)⟩
 refine codeAny_call_function (by have :=hr.dp;omega) (KX _ _ lk) rfl S.co S.gen rfl (PySem.W.codeRec_of KX hcd) (hb _ _ _ _ (wpAny_newFunctionEnv_cells S.kind hkind fun env he s1 x=>?_))
 subst he
 refine⟨(e0.mod.nolimit.keeps keep).keeps x.toInCall.keep,codeAny_func ?_⟩
 obtain⟨t,ht,hq⟩:=hbody A outer s H vs Q E (hr.deeper _) hsp
 have e1:Env0 P w K mg base {A with handled:=none} outer s H:=⟨e0.frames,e0.mod,e0.bs,e0.bsz,e0.funs,e0.frf,e0.hok,e0.bare⟩
 have I0:=yY (CX:=CX) (qual:=qual) (f:=f) (cd:=cdv) (E:=E) S (A:={A with handled:=none}) rfl e1 hl r x
 have I:Inv (bI CX P w K mg base N qual scope f cdv A outer s H E) [] (start N vs) H s1:=I0.re (A':=A.deeper (envOfC qual scope s.heap.objs.size f cdv)) (cm:=false) (fun h=>by cases h) rfl
 refine wpAny_mono (ht [] s1 (start N vs) H _ I hq) (fun fl s' hs=>?_) fun e s' hs=>hs
 have fin:∀{σ':St}{H':Hp}{v:V}{u:Value},Inv (bI CX P w K mg base N qual scope f cdv A outer s H E) [] σ' H' s'->zY v u->Q v H'->CE outer P w H s Q u s':=
  fun {σ' H' v u}J rv q=>⟨v,H',J.os,J.bare,J.base,J.hok,rv,q⟩
 cases fl with
 |ret u=>
  obtain⟨v,σ',H',J,rv,q⟩:=hs
  exact fin J rv q
 |next=>
  obtain⟨σ',H',J,q⟩:=hs
  exact fin (v:=V.non) (u:=Value.none) J rfl q
 |brk=>exact(hs.elim fun _ z=>z.elim fun _ z=>z.2).elim
 |cont=>exact(hs.elim fun _ z=>z.elim fun _ z=>z.2).elim
section
variable {X:Cx} {CX:CXT} {k:Nat} {f C:Addr} {fd:FuncData} {ps:List Str} {sp:Sp} {dvs:List V} {ds:List Value} {E:XK} {x m:Str} {p pos apos:Pos} {e o:Expr} {es:List Expr} {ta:TE} {t:TA}
theorem qK5{pins:List (Addr×Obj)}{σ:St}{H:Hp}{s:Shared}{Q:VK}{us:List Value}{vs:List V}(F:iJ X.prog X.w X.K X.mg X.base CX k f fd ps sp)(hr:kX k X.A)(hb:Binds X.K fd ps ds)(hd:Vals dvs ds)(hx:Passes CX X E)
  (I:Inv X pins σ H s)(r:Vals vs us)(h:sp (vs++dvs) H Q E):wpAny (model X.prog X.w) X.A (call (.ref f) us) (EP X pins σ Q) X.xe s:=by
 have r2:Vals (vs++dvs) (us++ds):=r.append hd
 have hl:(us++ds).length=ps.length:=r2.length.symm.trans (F.len _ _ _ _ h)
 refine wpAny_call (codeAny_mono (F.run X.A X.stack s H ⟨us,[]⟩ (us++ds) (vs++dvs) Q E hr I.env0 (hb s us I.kIn hl) r2 h) fun r s' hq=>?_)
 cases r with
 |error e=>exact hx pins σ H s e s' I hq
 |ok fl=>
  cases fl with
  |ret u=>exact I.after hq
  |next=>exact False.elim hq
  |brk=>exact False.elim hq
  |cont=>exact False.elim hq
theorem lM(F:iJ X.prog X.w X.K X.mg X.base CX k f fd ps sp)(hr:kX k X.A)(hg:Gl X x)(hm:X.mg x=some (.ref f))(hk:PySem.W.keepIn X.K (.ref f)=true)(hb:Binds X.K fd ps ds)(hd:Vals dvs ds)(hx:Passes CX X E)
  (ha:PA X (e::es) t)(hdb:(x==("__debug__":Str))=false:=by decide)(he:starEach (e::es) X.env=(false,eval e X.env)::starEach es X.env:=by rfl)(hpl:(backTo pos (starEach es X.env)).any (·.1)=false:=by rfl):
  PE X (.Call (.Name x p) (e::es) [] pos) (uI sp dvs E t):=by
 intro pins s σ H Q I h
 refine wpAny_Call_Name_kw (xF I hg hm ?_ hdb)
 exact PySem.W.callWith_K (h₀:=X.base) I.ok.mod.kin hk (thn (ha pos pins s σ H _ I h) fun us s1⟨vs,H1,I1,r,q⟩=>⟨I1.kIn,qK5 F hr hb hd hx I1 r q⟩) he hpl
end
structure zB(K:Fg)(x qual:Str)(st:Stmt)(dV:Value)(f:Addr)(fd:FuncData):Prop where
 ex:∃(oc:Value)(od:Option Addr)(kV doc pm:Value)(an:Option Addr)(cdv ct:Value)(osl:Array (Option Value)),
  fd=PySem.W.fnOf x qual (iE st) (jH st) (qL st) dV kV doc pm an cdv ct/\K.lookup f=some ⟨oc,od,.func fd,osl⟩/\PySem.W.codeIn K cdv qual=true
 kp:PySem.W.keepIn K (.ref f)=true
section
variable {P:Program} {w:World} {K:Fg} {mg:Str->Option Value} {base:Heap} {x qual:Str} {st:Stmt} {dV:Value} {f:Addr} {fd:FuncData} {N ps:List Str} {k:Nat} {sp:Sp}
theorem kR{X:Cx}:Passes (CXE P w) X E0:=fun _ _ _ _ _ _ _ h=>by
 obtain⟨_,_,_,_,_,_,_,_,_,_,_,_,_,_,_,_,z⟩:=h
 exact z.elim
theorem zB.okE(F:zB K x qual st dV f fd)(S:zQ N ps (qL st))(len:∀vs H Q E,sp vs H Q E->vs.length=ps.length)
  (hbody:∀(cdv:Value)(A:Around)(outer:List Env)(s:Shared)(H:Hp)(vs:List V)(Q:VK)(E:XK),Room k (A.deeper (envOfC qual (qL st) s.heap.objs.size f cdv))->sp vs H Q E->
   ∃t,PSs (jN (CXE P w) P w K mg base N qual (qL st) f cdv A outer s H E) (jH st) t/\t {nx:=fun _ H'=>Q .non H',rt:=Q} (start N vs) H):zC P w K mg base (CXE P w) (k+1) f fd ps sp:=by
 obtain⟨oc,od,kV,doc,pm,an,cdv,ct,osl,rfl,lk,hcd⟩:=F.ex
 exact qO4 lk hcd S len fun A outer s H vs Q E hr hsp=>hbody cdv A outer s H vs Q E hr hsp
theorem zB.ok0(F:zB K x qual st dV f fd)(S:zQ N ps (qL st))(len:∀vs H Q E,sp vs H Q E->vs.length=ps.length)
  (hbody:∀(cdv:Value)(A:Around)(outer:List Env)(s:Shared)(H:Hp)(vs:List V)(Q:VK)(E:XK),Room k (A.deeper (envOfC qual (qL st) s.heap.objs.size f cdv))->sp vs H Q E->
   ∃t,PSs (jN (CXE P w) P w K mg base N qual (qL st) f cdv A outer s H E).nox (jH st) t/\t {nx:=fun _ H'=>Q .non H',rt:=Q} (start N vs) H):zC P w K mg base (CXE P w) (k+1) f fd ps sp:=
 F.okE S len fun cdv A outer s H vs Q E hr hsp=>let⟨t,h,q⟩:=hbody cdv A outer s H vs Q E hr hsp;⟨t,h.nox,q⟩
theorem zB.okS(F:zB K x qual st dV f fd)(S:zQ N ps (qL st))(len:∀vs H Q E,sp vs H Q E->vs.length=ps.length)
  (hbody:∀(cdv:Value)(A:Around)(outer:List Env)(s:Shared)(H:Hp)(vs:List V)(Q:VK)(E:XK),kX k (A.deeper (envOfC qual (qL st) s.heap.objs.size f cdv))->sp vs H Q E->
   ∃t,PSs (bI (CXE P w) P w K mg base N qual (qL st) f cdv A outer s H E).nox (jH st) t/\t {nx:=fun _ H'=>Q .non H',rt:=Q} (start N vs) H):iJ P w K mg base (CXE P w) (k+1) f fd ps sp:=by
 obtain⟨oc,od,kV,doc,pm,an,cdv,ct,osl,rfl,lk,hcd⟩:=F.ex
 exact qN2 lk hcd S len fun A outer s H vs Q E hr hsp=>let⟨t,h,q⟩:=hbody cdv A outer s H vs Q E hr hsp;⟨t,h.nox,q⟩
theorem zB.binds{ds:List Value}(F:zB K x qual st dV f fd)
  (h:∀(kV doc pm:Value)(an:Option Addr)(cdv ct:Value)(s:Shared)(us:List Value),K.In s.heap->(us++ds).length=ps.length->BindsTo s (PySem.W.fnOf x qual (iE st) (jH st) (qL st) dV kV doc pm an cdv ct) ⟨us,[]⟩ (ps.zip (us++ds))):Binds K fd ps ds:=by
 obtain⟨oc,od,kV,doc,pm,an,cdv,ct,osl,rfl,lk,hcd⟩:=F.ex
 exact fun s us X hl=>h kV doc pm an cdv ct s us X hl
end
def XP(X:Cx)(pins:List (Addr×Obj))(σ:St)(E:XK)(x:Value)(s':Shared):Prop:=∃(e C t T:Addr)(d:Option Addr)(H':Hp),x= .ref e/\Inv X pins σ H' s'/\H' e=some (xL false C t d e)/\kL X pins H' T/\
 XA.Fly s'.heap e (.ref C) d (.ref t) (some T) .none/\((∀o,X.s₀.heap.get? e=some o->e∈X.ex)/\∀p∈X.pn++pins,p.1≠e)/\E (.ref C) (some e) H'
abbrev TEx:=St->Hp->VK->XK->Prop
def PEx(X:Cx)(e:Expr)(t:TEx):Prop:=
 ∀(pins:List (Addr×Obj))(s:Shared)(σ:St)(H:Hp)(Q:VK)(E:XK),Inv X pins σ H s->t σ H Q E->wpAny (model X.prog X.w) X.A (eval e X.env) (EP X pins σ Q) (XP X pins σ E) s
abbrev TSx:=Ends->XK->St->Hp->Prop
def PSx(X:Cx)(st:Stmt)(t:TSx):Prop:=
 ∀(pins:List (Addr×Obj))(s:Shared)(σ:St)(H:Hp)(D:Ends)(E:XK),Inv X pins σ H s->t D E σ H->wpAny (model X.prog X.w) X.A (exec st X.env) (SP X pins D) (XP X pins σ E) s
section
variable {X:Cx} {k:Nat} {f:Addr} {fd:FuncData} {ps:List Str} {sp:Sp} {dvs:List V} {ds:List Value} {E:XK} {x:Str} {p pos:Pos} {e:Expr} {es:List Expr} {t:TA}
theorem Inv.xp{pins:List (Addr×Obj)}{σ:St}{H:Hp}{s s':Shared}{v:Value}(I:Inv X pins σ H s)(h:CXE X.prog X.w X.stack H s E v s'):XP X pins σ E v s':=by
 obtain⟨e,C,t,T,d,H',rfl,os,bare,un,hok,he,hn,hT,hTn,fx,hE⟩:=h
 refine⟨e,C,t,T,d,H',rfl,I.call' (ch:=[]) os un hok bare (fun b z=>absurd z (by simp)),he,I.fpOk hT hTn,fx,⟨fun o r=>Classical.byContradiction fun z=>?_,fun p hp z=>?_⟩,hE⟩
 ·obtain⟨o',r'⟩:=I.base.there e o r z
  rw[hn]at r';cases r'
 ·have :=(I.pin p hp).1
  rw[z,hn]at this;cases this
theorem qK6(F:zC X.prog X.w X.K X.mg X.base (CXE X.prog X.w) k f fd ps sp)(hr:Room k X.A)(hg:Gl X x)(hm:X.mg x=some (.ref f))(hk:PySem.W.keepIn X.K (.ref f)=true)(hb:Binds X.K fd ps ds)(hd:Vals dvs ds)
  (ha:PA X.nox (e::es) t)(hdb:(x==("__debug__":Str))=false:=by decide)(he:starEach (e::es) X.env=(false,eval e X.env)::starEach es X.env:=by rfl)(hpl:(backTo pos (starEach es X.env)).any (·.1)=false:=by rfl):
  PEx X (.Call (.Name x p) (e::es) [] pos) (fun σ H Q E=>t σ H fun vs H1=>sp (vs++dvs) H1 Q E):=by
 intro pins s σ H Q E I h
 refine wpAny_Call_Name_kw (xF I hg hm ?_ hdb)
 refine PySem.W.callWith_K (h₀:=X.base) I.ok.mod.kin hk (wpAny_mono (ha pos pins s σ H _ (I.wish _) h) (fun us s1⟨vs,H1,I1,r,q⟩=>⟨I1.unwish.kIn,?_⟩) fun _ _ z=>False.elim z) he hpl
 have I2:=I1.unwish
 have r2:Vals (vs++dvs) (us++ds):=r.append hd
 have hl:(us++ds).length=ps.length:=r2.length.symm.trans (F.len _ _ _ _ q)
 refine wpAny_call (codeAny_mono (F.run X.A X.stack s1 H1 ⟨us,[]⟩ (us++ds) (vs++dvs) Q E hr I2.env0 (hb s1 us I2.kIn hl) r2 q) fun r s' hq=>?_)
 cases r with
 |error e=>exact I2.xp hq
 |ok fl=>
  cases fl with
  |ret u=>exact I2.after hq
  |next=>exact False.elim hq
  |brk=>exact False.elim hq
  |cont=>exact False.elim hq
theorem qN3{t:TEx}(he:PEx X e t):PSx X (.Return (some e) pos) (fun D E σ H=>t σ H D.rt E):=by
 intro pins s σ H D E I h
 exact wpAny_Return_some (thn (he pins s σ H _ E I h) fun v s1⟨x,H1,I1,r1,q1⟩=>⟨x,σ,H1,I1,r1,q1⟩)
end
abbrev Cx.suite(X:Cx)(e:Addr):Cx:={X with A:=X.A.mark (some (.ref e)),calm:=false,xe:=fun _ _=>False}
theorem wB{H:Hp}{e:Addr}{o:HO}(h:H e=some o):upd H e o=H:=by
 funext b
 by_cases z:b=e
 ·subst z;rw[qZ,h]
 ·rw[qC z]
section
variable {X:Cx} {pins:List (Addr×Obj)} {σ:St} {H:Hp} {s:Shared} {e C t T:Addr} {d:Option Addr} {Q:Unit->Shared->Prop} {E:Value->Shared->Prop}
theorem Inv.noted(I:Inv X pins σ H s)(hstk:X.stack=X.env::X.outer)(hfr:X.env.frame=some X.env.locals)(he:H e=some (xL false C t d e))(hT:kL X pins H T)(fx:XA.Fly s.heap e (.ref C) d (.ref t) (some T) .none)
  (h:∀s' T',Inv X pins σ H s'->kL X pins H T'->XA.Fly s'.heap e (.ref C) d (.ref t) (some T') .none->Q () s'):
  wpAny (model X.prog X.w) X.A (noteFrame (.ref e) X.env) (fun _ s2=>wpAny (model X.prog X.w) X.A (setFlight (.ref e) none) Q E s2) E s:=by
 have fr:=I.ok.frames
 have st:=I.stack
 rw[hstk]at fr st
 refine XA.note_x fr st hfr fx fun h1 T1 hn f1 k1=>XA.flight_some (s:={s with heap:=h1}) f1 fun h2 f2 k2 k3=>?_
 have frs_eq:((X.env::X.outer).filterMap (·.frame))=frs X.stack:=by rw[hstk];rfl
 rw[frs_eq]at k1
 obtain⟨t0,t1,t2,t3,t4,t5⟩:=hT
 have nT1:∀b o,s.heap.get? b=some o->b≠T1:=fun b o q z=>by subst z;exact absurd (aq8 q) (Nat.not_lt.mpr hn)
 have ee:upd H e (xL false C t d e)=H:=wB he
 have ne:∀b u',H b=some u'->(∀φ,u'≠ .ext φ)->b≠e:=fun b u' r n z=>by subst z;rw[he]at r;exact n _ (Option.some.inj r).symm
 have un:Un (frs X.stack) [T] H H s.heap h2:=
  ⟨fun b o q n hb hx=>k2 b o (nT1 b o q) (k1.keep b o (fun z=>by subst z;rw[he]at n;cases n) (fun z=>hx (by simpa using z)) hb q),
   fun b o q n hb hx=>(by
    obtain⟨sl,r⟩:=k1.slot b o (fun z=>by subst z;rw[he]at n;cases n) (fun z=>hx (by simpa using z)) q
    exact⟨sl,k2 b _ (nT1 b o q) r⟩),
   fun b o q n hx=>n,fun b o q hx=>(by
    obtain⟨o',r⟩:=k1.there b o q
    exact k3 b o' r),fun b xs q=>q,fun b o u q=>q,fun b ps q=>⟨#[],by simpa using q⟩⟩
 have hok:HOk X.prog X.w H h2:=by
  have :=I.hok.flies he f2 fun b o hb hn' q=>(by
   refine k2 b o (nT1 b o q) (k1.keep b o hb (fun z=>hn' (by have z':=Option.some.inj z;rw[z'];exact t0)) (fun hm=>hn' (I.stkFree b hm)) q))
  rw[ee]at this;exact this
 have J:Inv X pins σ H {s with heap:=h2}:=I.call' (s':={s with heap:=h2}) (ch:=[T]) rfl un hok I.bare fun b hb=>by
  have z:b=T:=by simpa using hb
  subst z
  exact⟨t3,t1,t4,t5⟩
 exact h _ T1 J (I.fpOk hn (I.hok.fresh hn)) f2
end
theorem Inv.forgot{X:Cx}{pins:List (Addr×Obj)}{σ:St}{H:Hp}{s:Shared}{h':Heap}{m':Str->Option Value}{tk:Nat}(I:Inv X pins σ H s)(hn:h'.Ns X.env.locals m')(hs:Heap.SameBut X.env.locals s.heap h'):
  Inv X pins (List.replicate X.N.length none) H {s with heap:=h',toks:=tk}:=by
 have nL:∀b o,X.s₀.heap.get? b=some o->b≠X.env.locals:=fun b o e=>aq9 (Nat.lt_of_lt_of_le (aq8 e) I.ok.above)
 refine⟨I.ok,I.os,I.bare,⟨fun b o e n hb hx=>(hs.2 b (nL b o e)).trans (I.base.keep b o e n hb hx),fun b o e n hb hx=>?_,I.base.free,fun b o e hx=>?_,I.base.tups,I.base.frzs,I.base.tbls⟩,⟨m',hn,fun j y v e1 e2 e3=>?_⟩,fun y c e=>?_,I.free,I.freeC,fun p hp=>?_,fun b u e=>?_,by rw[List.length_replicate]⟩
 ·obtain⟨sl,z⟩:=I.base.slot b o e n hb hx
  exact⟨sl,(hs.2 b (nL b o e)).trans z⟩
 ·obtain⟨o',z⟩:=I.base.there b o e hx
  exact⟨o',(hs.2 b (nL b o e)).trans z⟩
 ·rw[List.getElem?_replicate]at e2
  split at e2<;>cases e2
 ·obtain⟨w,z⟩:=I.cell y c e
  exact⟨w,z.sameBut hs (I.cne y c e)⟩
 ·obtain⟨e,n,ne,nf,d⟩:=I.pin p hp
  exact⟨(hs.2 p.1 ne).trans e,n,ne,nf,d⟩
 ·refine(I.hok b u e).stay (fun c v hc z=>(hs.2 c (fun zz=>?_)).trans z) (fun _ z=>z) fun _ _ z=>z
  rcases hc with y|y
  ·rw[<-y,zz,I.free]at e;cases e
  ·rw[zz,I.free]at y;cases y
section
variable {X:Cx}
end
end L2
namespace L2
open PySem PySem.Spec PyProof.Rows
section
variable {κ:Type} [DecidableEq κ]
def jD(kvs:List (κ×V))(k:κ):Option V:=(kvs.find? fun kv=>decide (kv.1=k)).map (·.2)
def kK(kvs:List (κ×V))(k:κ)(v:V):List (κ×V):=
 if(kvs.any fun kv=>decide (kv.1=k))=true then kvs.map (fun kv=>if kv.1=k then(kv.1,v)else kv)else kvs++[(k,v)]
theorem lB{k:κ}:jD ([]:List (κ×V)) k=none:=rfl
theorem jP{p:κ×V}{r:List (κ×V)}{k:κ}(e:p.1=k):jD (p::r) k=some p.2:=by simp[jD,List.find?_cons,e]
theorem jR{p:κ×V}{r:List (κ×V)}{k:κ}(e:¬p.1=k):jD (p::r) k=jD r k:=by simp[jD,List.find?_cons,e]
theorem wD(k:κ):∀kvs:List (κ×V),(kvs.any fun kv=>decide (kv.1=k))=(jD kvs k).isSome
 |[]=>rfl
 |p::r=>by
  rw[List.any_cons]
  by_cases e:p.1=k
  ·simp only[jP e,decide_eq_true e,Bool.true_or,Option.isSome_some]
  ·rw[jR e,decide_eq_false e,Bool.false_or];exact wD k r
theorem lF(k j:κ)(y:V):∀kvs:List (κ×V),jD (kvs.map fun kv=>if kv.1=k then(kv.1,y)else kv) j=(jD kvs j).map fun x=>if j=k then y else x
 |[]=>rfl
 |p::r=>by
  have ih:=lF k j y r
  rw[List.map_cons]
  by_cases h:p.1=k
  ·rw[if_pos h]
   by_cases e:p.1=j
   ·rw[jP (p:=(p.1,y)) e,jP e,Option.map_some,if_pos (e.symm.trans h)]
   ·rw[jR (p:=(p.1,y)) e,jR e,ih]
  ·rw[if_neg h]
   by_cases e:p.1=j
   ·rw[jP (p:=p) e,jP e,Option.map_some,if_neg (fun z=>h (e.trans z))]
   ·rw[jR (p:=p) e,jR e,ih]
theorem iX(k j:κ)(y:V):∀kvs:List (κ×V),jD kvs k=none->jD (kvs++[(k,y)]) j=if j=k then some y else jD kvs j
 |[],_=>by
  by_cases e:k=j
  ·rw[if_pos e.symm];exact jP (p:=(k,y)) e
  ·rw[if_neg (fun z=>e z.symm)];exact jR (p:=(k,y)) e
 |p::r,hn=>by
  rw[List.cons_append]
  have hk:¬p.1=k:=fun z=>by rw[jP z]at hn;cases hn
  rw[jR hk]at hn
  have ih:=iX k j y r hn
  by_cases e:p.1=j
  ·rw[jP e,jP e,if_neg (fun z=>hk (e.trans z))]
  ·rw[jR e,jR e,ih]
theorem vK(kvs:List (κ×V))(k j:κ)(y:V):jD (kK kvs k y) j=if j=k then some y else jD kvs j:=by
 unfold kK
 by_cases a:(kvs.any fun kv=>decide (kv.1=k))=true
 ·rw[if_pos a,lF]
  rw[wD]at a
  by_cases e:j=k
  ·obtain⟨x,hx⟩:=Option.isSome_iff_exists.mp a
   rw[if_pos e,e,hx,Option.map_some,if_pos rfl]
  ·rw[if_neg e]
   cases jD kvs j with
   |none=>rfl
   |some x=>rw[Option.map_some,if_neg e]
 ·rw[if_neg a]
  refine iX k j y kvs ?_
  rw[wD]at a
  cases q:jD kvs k with
  |none=>rfl
  |some x=>rw[q]at a;exact(a rfl).elim
theorem jE(kvs:List (κ×V))(k:κ)(v:V):(kK kvs k v).length<=kvs.length+1:=by
 unfold kK
 split
 ·rw[aq16];omega
 ·rw[List.length_append,aq17,List.length_nil];omega
theorem vS.isSome_eq{o:Option V}{u:Option Value}(r:vS o u):o.isSome=u.isSome:=by
 cases o with
 |none=>cases u with
  |none=>rfl
  |some _=>exact(show False from r).elim
 |some _=>cases u with
  |none=>exact(show False from r).elim
  |some _=>rfl
theorem vS.getD{o:Option V}{u:Option Value}{d:V}{d':Value}(r:vS o u)(rd:zY d d'):zY (o.getD d) (u.getD d'):=by
 cases o with
 |none=>cases u with
  |none=>exact rd
  |some _=>exact(show False from r).elim
 |some _=>cases u with
  |none=>exact(show False from r).elim
  |some _=>exact r
theorem KV.val{kvs:List (κ×V)}{vs:List (κ×Value)}(r:KV kvs vs)(k:κ):vS (jD kvs k) (valueAt vs k):=by
 unfold KV at r
 induction r with
 |nil=>exact True.intro
 | @cons p q ps qs h t ih=>
  obtain⟨h1,h2⟩:=h
  by_cases e:p.1=k
  ·have e':q.1=k:=h1.symm.trans e
   have b:valueAt (q::qs) k=some q.2:=by simp[valueAt,List.find?_cons,e']
   rw[jP e,b];exact h2
  ·have e':¬q.1=k:=fun z=>e (h1.trans z)
   have b:valueAt (q::qs) k=valueAt qs k:=by simp[valueAt,List.find?_cons,e']
   rw[jR e,b];exact ih
theorem KV.any{kvs:List (κ×V)}{vs:List (κ×Value)}(r:KV kvs vs)(k:κ):(kvs.any fun kv=>decide (kv.1=k))=vs.any fun kv=>decide (kv.1=k):=by
 unfold KV at r
 induction r with
 |nil=>rfl
 |cons h t ih=>rw[List.any_cons,List.any_cons,ih,h.1]
theorem KV.repl{kvs:List (κ×V)}{vs:List (κ×Value)}(r:KV kvs vs)(k:κ){y:V}{u:Value}(ry:zY y u):
  KV (kvs.map fun kv=>if kv.1=k then(kv.1,y)else kv) (vs.map fun kv=>if kv.1=k then(kv.1,u)else kv):=by
 unfold KV at r⊢
 induction r with
 |nil=>exact .nil
 | @cons p q ps qs h t ih=>
  rw[List.map_cons,List.map_cons]
  refine .cons ?_ ih
  obtain⟨h1,h2⟩:=h
  by_cases e:p.1=k
  ·rw[if_pos e,if_pos (h1.symm.trans e)];exact⟨h1,ry⟩
  ·rw[if_neg e,if_neg (fun z=>e (h1.trans z))];exact⟨h1,h2⟩
theorem KV.put{kvs:List (κ×V)}{vs:List (κ×Value)}(r:KV kvs vs)(k:κ){y:V}{u:Value}(ry:zY y u):KV (kK kvs k y) (stored vs k u):=by
 unfold kK stored
 rw[r.any k]
 by_cases e:(vs.any fun kv=>decide (kv.1=k))=true
 ·rw[if_pos e,if_pos e];exact r.repl k ry
 ·rw[if_neg e,if_neg e];exact Paired.snoc r ⟨rfl,ry⟩
theorem KV.length{kvs:List (κ×V)}{vs:List (κ×Value)}(r:KV kvs vs):kvs.length=vs.length:=Paired.length r
end
theorem iK{P:Program}{w:World}{k:Key}{u:Value}(r:zY (kV k) u):(zT P w).is k u=true:=by
 cases k with
 |inl i=>obtain⟨t,e⟩:=(show∃t,u=Value.int i t from r);subst e;exact cR P w i t
 |inr x=>obtain⟨t,e⟩:=(show∃t,u=Value.str x t from r);subst e;exact cS P w x t
theorem iV{P:Program}{w:World}:∀{ks:List Key}{us:List Value},Vals (ks.map kV) us->ItemsAre (zT P w) ks us
 |[],_,r=>by rw[List.map_nil]at r;cases r;exact .nil
 |k::ks,_,r=>by
  rw[List.map_cons]at r
  cases r with
  |cons h t=>exact .cons (iK h) (iV t)
abbrev KT(H:Hp):List (List Key×V)->List (List Key×Addr×Value)->Prop:=Paired fun p q=>p.1=q.1/\H q.2.1=some (.tup (p.1.map kV))/\zY p.2 q.2.2
theorem KT.val{H:Hp}{kvs:List (List Key×V)}{xs:List (List Key×Addr×Value)}(r:KT H kvs xs)(k:List Key):vS (jD kvs k) ((atKey xs k).map (·.2)):=by
 induction r with
 |nil=>exact True.intro
 | @cons p q ps qs h t ih=>
  obtain⟨h1,_,h2⟩:=h
  by_cases e:p.1=k
  ·have e':q.1=k:=h1.symm.trans e
   have b:atKey (q::qs) k=some q.2:=by simp[atKey,List.find?_cons,e']
   rw[jP e,b];exact h2
  ·have e':¬q.1=k:=fun z=>e (h1.trans z)
   have b:atKey (q::qs) k=atKey qs k:=by simp[atKey,List.find?_cons,e']
   rw[jR e,b];exact ih
theorem KT.repl{H:Hp}{kvs:List (List Key×V)}{xs:List (List Key×Addr×Value)}(r:KT H kvs xs)(k:List Key){y:V}{u:Value}(ry:zY y u):
  KT H (kvs.map fun kv=>if kv.1=k then(kv.1,y)else kv) (xs.map (putAt k u)):=by
 induction r with
 |nil=>exact .nil
 | @cons p q ps qs h t ih=>
  rw[List.map_cons,List.map_cons]
  refine .cons ?_ ih
  obtain⟨h1,h2,h3⟩:=h
  unfold putAt
  by_cases e:p.1=k
  ·rw[if_pos e,if_pos (h1.symm.trans e)];exact⟨h1,h2,ry⟩
  ·rw[if_neg e,if_neg (fun z=>e (h1.trans z))];exact⟨h1,h2,h3⟩
theorem KT.put{H:Hp}{kvs:List (List Key×V)}{xs:List (List Key×Addr×Value)}(r:KT H kvs xs)(k:List Key){b:Addr}{y:V}{u:Value}(hb:H b=some (.tup (k.map kV)))(ry:zY y u):
  KT H (kK kvs k y) (storedH xs k b u):=by
 have e:(kvs.any fun kv=>decide (kv.1=k))=(atKey xs k).isSome:=by
  rw[wD,(r.val k).isSome_eq,Option.isSome_map]
 unfold kK storedH
 rw[e]
 by_cases q:(atKey xs k).isSome=true
 ·rw[if_pos q,if_pos q];exact r.repl k ry
 ·rw[if_neg q,if_neg q];exact Paired.snoc r ⟨rfl,hb,ry⟩
theorem KT.keeps{H H':Hp}{kvs:List (List Key×V)}{xs:List (List Key×Addr×Value)}(r:KT H kvs xs)(ht:∀b ys,H b=some (.tup ys)->H' b=some (.tup ys)):KT H' kvs xs:=
 Paired.mapP r fun _ _ z=>⟨z.1,ht _ _ z.2.1,z.2.2⟩
section
variable {P:Program} {w:World} {H:Hp} {h:Heap} {a:Addr}
theorem qOj{u:HO}(ok:HOk P w H h)(e:Rd H a u):jV P w H h a u:=e.ok ok
theorem uN{kvs:List (Key×V)}(ok:HOk P w H h)(e:Rd H a (.dK kvs)):kvs.length<=sizeLine/\(a==sysModules)=false/\∃vs,KV kvs vs/\h.DictOf (zT P w) a vs:=
 show jV P w H h a (.dK kvs)from qOj ok e
theorem qI0{kvs:List (Key×V)}(ok:HOk P w H h)(e:H a=some (.dK kvs)):kvs.length<=sizeLine/\(a==sysModules)=false/\∃vs,KV kvs vs/\h.DictOf (zT P w) a vs:=uN ok (.inl e)
theorem uB{ks:List Key}(ok:HOk P w H h)(e:H a=some (.tup (ks.map kV))):(tupleKind (zT P w)).is h ks a:=by
 obtain⟨_,its,r,o,h1,h2,n,h3⟩:=(show jV P w H h a (.tup (ks.map kV))from ok a _ e)
 exact⟨o,its.toArray,n,h1,h2,h3,by simpa using iV r⟩
theorem iW{kvs:List (List Key×V)}(ok:HOk P w H h)(e:Rd H a (.dT kvs)):kvs.length<=sizeLine/\(a==sysModules)=false/\
  ∃xs,KT H kvs xs/\h.DictOfH (tupleKind (zT P w)) a xs:=by
 obtain⟨z,y,xs,r,o,es,ep,h1,h2,h3,h4,h5⟩:=(show jV P w H h a (.dT kvs)from qOj ok e)
 refine⟨z,y,xs,r,o,es,ep,h1,h2,h3,h4,fun x hx=>?_,h5⟩
 have all:∀{l:List (List Key×V)}{m:List (List Key×Addr×Value)},KT H l m->∀x∈m,(tupleKind (zT P w)).is h x.1 x.2.1:=by
  intro l m q
  induction q with
  |nil=>intro x hx;exact nomatch hx
  | @cons p q ps qs hq t ih=>
   intro x hx
   rcases List.mem_cons.mp hx with e|hx
   ·subst e
    exact uB ok (by rw[<-hq.1];exact hq.2.1)
   ·exact ih x hx
 exact all r x hx
theorem qT7{kvs:List (List Key×V)}(ok:HOk P w H h)(e:H a=some (.dT kvs)):kvs.length<=sizeLine/\(a==sysModules)=false/\
  ∃xs,KT H kvs xs/\h.DictOfH (tupleKind (zT P w)) a xs:=iW ok (.inl e)
end
def DGet(H:Hp)(a:Addr)(y:V)(r:Option V):Prop:=
 (∃kvs k,Rd H a (.dK kvs)/\y=kV k/\r=jD kvs k)\/∃kvs k b,Rd H a (.dT kvs)/\y= .ref b/\H b=some (.tup (k.map kV))/\r=jD kvs k
def DPut(H:Hp)(a:Addr)(y v:V)(H':Hp):Prop:=
 (∃kvs k,H a=some (.dK kvs)/\y=kV k/\kvs.length<sizeLine/\H'=upd H a (.dK (kK kvs k v)))\/
 ∃kvs k b,H a=some (.dT kvs)/\y= .ref b/\H b=some (.tup (k.map kV))/\kvs.length<sizeLine/\H'=upd H a (.dT (kK kvs k v))
theorem DGet.k{H:Hp}{a:Addr}{kvs:List (Key×V)}{k:Key}(e:H a=some (.dK kvs)):DGet H a (kV k) (jD kvs k):=.inl ⟨kvs,k,.inl e,rfl,rfl⟩
theorem DPut.k{H:Hp}{a:Addr}{kvs:List (Key×V)}{k:Key}{v:V}(e:H a=some (.dK kvs))(hl:kvs.length<sizeLine):DPut H a (kV k) v (upd H a (.dK (kK kvs k v))):=.inl ⟨kvs,k,e,rfl,hl,rfl⟩
section
variable {X:Cx} {pins:List (Addr×Obj)} {σ:St} {H:Hp} {s:Shared} {a:Addr} {y v:V} {u r:Value} {o:Option V} {A:Around} {E:Value->Shared->Prop}
theorem Inv.big(I:Inv X pins σ H s):sysModules<s.heap.objs.size:=by
 have h:mainGlobals<s.heap.objs.size:=(I.mod.glob.keeps I.bk).lt
 exact Nat.lt_trans (by decide) h
theorem pO{Q:Value->Shared->Prop}(hu:A.units+1<cLine)(I:Inv X pins σ H s)(g:DGet H a y (some v))(ry:zY y u)(h:∀w' s',Inv X pins σ H s'->zY v w'->Q w' s'):
  wpAny (model X.prog X.w) A (getItem (.ref a) u) Q E s:=by
 rcases g with⟨kvs,k,e,ey,l⟩|⟨kvs,k,b,e,ey,eb,l⟩
 ·subst ey
  obtain⟨z,hd,vs,rel,dd⟩:=uN I.hok e
  obtain⟨w',hw,rw'⟩:=vS.some_of (v:=v) (o:=valueAt vs k) (by rw[l];exact rel.val k)
  exact wpAny_getItem_of (iK ry) dd.mapOf hw (h w' _ (I.tok _) rw')
 ·subst ey
  cases (show u=Value.ref b from ry)
  obtain⟨z,hd,xs,rel,dd⟩:=iW I.hok e
  obtain⟨w',hw,rw'⟩:=vS.some_of (v:=v) (o:=(atKey xs k).map (·.2)) (by rw[l];exact rel.val k)
  obtain⟨p,hp,hp2⟩:=Option.map_eq_some_iff.mp hw
  refine wpAny_getItem_heap (tupleKind_room_in1 hu) (uB I.hok eb) dd hp ?_
  rw[hp2]
  exact h w' _ (I.tok _) rw'
theorem qK7{Q:Value->Shared->Prop}(hu:A.units+1<cLine)(I:Inv X pins σ H s)(g:DGet H a y o)(ry:zY y u)(h:∀s',Inv X pins σ H s'->Q (.bool (!o.isSome)) s'):
  wpAny (model X.prog X.w) A (compareOp .NotIn u (.ref a)) Q E s:=by
 rcases g with⟨kvs,k,e,ey,l⟩|⟨kvs,k,b,e,ey,eb,l⟩
 ·subst ey
  obtain⟨z,hd,vs,rel,dd⟩:=uN I.hok e
  refine wpAny_notIn_of (iK ry) hd dd.mapOf ?_
  rw[<-(rel.val k).isSome_eq,<-l]
  exact h _ (I.tok _)
 ·subst ey
  cases (show u=Value.ref b from ry)
  obtain⟨z,hd,xs,rel,dd⟩:=iW I.hok e
  refine wpAny_notIn_heap (tupleKind_room_in1 hu) (uB I.hok eb) hd dd ?_
  have q:=(rel.val k).isSome_eq
  rw[Option.isSome_map]at q
  rw[<-q,<-l]
  exact h _ (I.tok _)
theorem cJ{h':Heap}{t':Nat}{ob:HO}(I:Inv X pins σ H s)(mu:Mut (H a))(hs:Heap.SameBut a s.heap h')(he:∃q,h'.get? a=some q)(new:jV X.prog X.w (upd H a ob) h' a ob):
  Inv X pins σ (upd H a ob) {s with heap:=h',toks:=t'}:=
 I.write (x:=a) (e:=a) mu (.inl rfl) (fun b q hb z=>(hs.2 b hb).trans z) he new
theorem sU{P:Program}{w:World}{H':Hp}{h':Heap}{kvs:List (Key×V)}{vs:List (Key×Value)}(z:kvs.length<=sizeLine)(hd:(a==sysModules)=false)(rel:KV kvs vs)(dd:h'.DictOf (zT P w) a vs):
  jV P w H' h' a (.dK kvs):=⟨z,hd,vs,rel,dd⟩
theorem pI{H':Hp}{Q:Unit->Shared->Prop}(hu:A.units+1<cLine)(I:Inv X pins σ H s)(g:DPut H a y v H')(ry:zY y u)(rv:zY v r)(h:∀s',Inv X pins σ H' s'->Q () s'):
  wpAny (model X.prog X.w) A (setItem (.ref a) u r) Q E s:=by
 rcases g with⟨kvs,k,e,ey,l,eH⟩|⟨kvs,k,b,e,ey,eb,l,eH⟩
 ·subst ey eH
  obtain⟨z,hd,vs,rel,dd⟩:=qI0 I.hok e
  have hz:vs.length<=sizeLine:=by rw[<-rel.length];exact z
  have hl:(kK kvs k v).length<=sizeLine:=by have :=jE kvs k v;omega
  refine wpAny_setItem_pairs (hsz:=hz) (iK ry) dd fun h' dd' hs=>h _ ?_
  have he:∃q,h'.get? a=some q:=let⟨q,_,_,hq,_⟩:=dd';⟨q,hq⟩
  exact cJ I (by rw[e];exact True.intro) hs he (sU hl hd (rel.put k rv) dd')
 ·subst ey eH
  cases (show u=Value.ref b from ry)
  obtain⟨z,hd,xs,rel,dd⟩:=qT7 I.hok e
  have hz:xs.length<=sizeLine:=by rw[<-Paired.length rel];exact z
  have hl:(kK kvs k v).length<=sizeLine:=by have :=jE kvs k v;omega
  refine wpAny_setItem_heap (hsz:=hz) (tupleKind_room_in1 hu) (uB I.hok eb) dd fun h' dd' hs=>h _ ?_
  obtain⟨q,es,ep,hq,h2,h3,h4,_,h5⟩:=dd'
  refine cJ I (by rw[e];exact True.intro) hs ⟨q,hq⟩ ⟨hl,hd,_,(rel.put k eb rv).keeps fun c ys ec=>?_,q,es,ep,hq,h2,h3,h4,h5⟩
  rw[qC (vP ec e (fun z=>nomatch z))]
  exact ec
end
section
variable {X:Cx} {pins:List (Addr×Obj)} {σ:St} {H:Hp} {s:Shared} {a:Addr} {kvs:List (Key×V)} {k:Key} {u:Value} {A:Around} {E:Value->Shared->Prop}
theorem qT8{Q:Value->Shared->Prop}(I:Inv X pins σ H s)(e:Rd H a (.dK kvs))(h:∀t s',Inv X pins σ H s'->Q (.int kvs.length t) s'):wpAny (model X.prog X.w) A (call (.builtin "len") [.ref a]) Q E s:=by
 obtain⟨z,hd,vs,rel,dd⟩:=uN I.hok e
 refine call_len_dict hd dd (by rw[<-rel.length];rw[sizeLine_eq]at z;omega) ?_
 rw[<-rel.length]
 exact h _ _ (I.tok _)
end
def qT9(i:Expr):Prop:=∀ov iv,subscripted i false ov iv=operate [ov,iv] (getItem ov iv)
theorem qK8{prog:Program}{w:World}{A:Around}{E:Value->Shared->Prop}{s:Shared}{env:Env}{value slice:Expr}{pos:Pos}{T id:String}{Q:Value->Shared->Prop}
  (hl:typeLookup (.type T) "__getitem__"=pure (some (.builtin id)))(hs:qT9 slice)
  (h:wpAny (model prog w) A (eval value env) (fun o s₁=>wpAny (model prog w) A (eval slice env) (fun i s₂=>s₂.TypeIs o T/\wpAny (model prog w) A (getItem o i) Q E s₂) E s₁) E s):
  wpAny (model prog w) A (eval (.Subscript value slice pos) env) Q E s:=by
 refine Subscript_ (wpAny_mono h (fun o s₁ h₁=>wpAny_mono h₁ (fun i s₂ h₂=>?_) fun _ _ x=>x) fun _ _ x=>x)
 obtain⟨hT,h₂⟩:=h₂
 unfold subscriptTail
 refine wpAny_bind ?_
 rw[getitemInPython_of_ne hT.not_modules]
 refine wpAny_bind (wpAny_specialOf hT hl ?_)
 have fin:wpAny (model prog w) A (subscripted slice false o i) (fun r s₃=>wpAny (model prog w) A (letTemporaryGo value o r>>=fun _=>pure r) Q E s₃) E s₂:=by
  rw[hs o i]
  exact wpAny_operating (wpAny_mono h₂ (fun r s₃ h₃=>wpAny_bind (wpAny_letTemporaryGo (wpAny_pure h₃))) fun _ _ x=>x)
 first
  |exact wpAny_pure (wpAny_bind fin)
  |exact wpAny_bind (wpAny_pure (wpAny_bind fin))
  |exact wpAny_bind fin
theorem lH{X:Cx}{pins:List (Addr×Obj)}{σ:St}{H:Hp}{s:Shared}{a:Addr}{y:V}{o:Option V}(I:Inv X pins σ H s)(g:DGet H a y o):s.TypeIs (.ref a) "dict":=by
 rcases g with⟨kvs,k,e,_,_⟩|⟨kvs,k,b,e,_,_,_⟩
 ·obtain⟨_,_,vs,_,dd⟩:=uN I.hok e
  exact dd.typeIs
 ·obtain⟨_,_,xs,_,dd⟩:=iW I.hok e
  exact dd.typeIs
inductive sO(Q:VK)(x:V)(y:V)(H2:Hp):Prop
 |mk (a:_) (v:_) (a_0:x= .ref a) (a_1:DGet H2 a y (some v)) (a_2:Q v H2):sO Q x y H2
def qTq(td ty:TE):TE:=fun σ H Q=>td σ H fun x H1=>ty σ H1 fun y H2=>sO Q x y H2
inductive lP(Q:VK)(y:V)(x:V)(H2:Hp):Prop
 |mk (a:_) (o:_) (a_0:x= .ref a) (a_1:DGet H2 a y o) (a_2:Q (.bl (!o.isSome)) H2):lP Q y x H2
def qK9(ty td:TE):TE:=fun σ H Q=>ty σ H fun y H1=>td σ H1 fun x H2=>lP Q y x H2
inductive sI(N_:St->Hp->Prop)(σ:St)(v:V)(x:V)(y:V)(H3:Hp):Prop
 |mk (a:_) (H4:_) (a_0:x= .ref a) (a_1:DPut H3 a y v H4) (a_2:N_ σ H4):sI N_ σ v x y H3
def qI1(td ty tv:TE):TS:=fun D σ H=>tv σ H fun v H1=>td σ H1 fun x H2=>ty σ H2 fun y H3=>sI D.nx σ v x y H3
section
variable {X:Cx} {o i e value:Expr} {pos pos' tpos:Pos} {td ty tv:TE}
theorem qKq(hu:X.A.units+1<cLine)(ho:PE X o td)(hi:PE X i ty)(hs:qT9 i):PE X (.Subscript o i pos) (qTq td ty):=by
 intro pins s σ H Q I h
 refine qK8 PySem.F.slot_dict_getitem.lookup hs (thn (ho pins s σ H _ I h) fun u s1⟨x,H1,I1,rx,q1⟩=>thn (hi pins s1 σ H1 _ I1 q1) fun iv s2⟨y,H2,I2,ry,a,v,ex,g,q2⟩=>?_)
 subst ex
 obtain rfl:u=Value.ref a:=rx
 exact⟨lH I2 g,pO hu I2 g ry fun w' s3 I3 rw'=>⟨v,H2,I3,rw',q2⟩⟩
theorem pG(hu:X.A.units+1<cLine)(hi:PE X i ty)(ho:PE X o td):PC X .NotIn i o (qK9 ty td):=by
 intro pins s σ H Q I h
 refine thn (hi pins s σ H _ I h) fun iv s1⟨y,H1,I1,ry,q1⟩=>thn (ho pins s1 σ H1 _ I1 q1) fun u s2⟨x,H2,I2,rx,a,ov,ex,g,q2⟩=>?_
 subst ex
 obtain rfl:u=Value.ref a:=rx
 exact qK7 hu I2 g ry fun s3 I3=>⟨.bl (!ov.isSome),H2,I3,rfl,q2⟩
theorem cX(hu:X.A.units+1<cLine)(ho:PE X o td)(hi:PE X i ty)(hv:PE X value tv)(hs:swapsWith value (some (.Subscript o i pos')) pos.line X.env=pure false):
  PS X (.Assign [.Subscript o i pos'] value pos) (qI1 td ty tv):=by
 intro pins s σ H D I h
 refine wpAny_Assign_Subscript (thn (hv pins s σ H _ I h) fun r s1⟨v,H1,I1,rv,q1⟩=>thn (ho pins s1 σ H1 _ I1 q1) fun u s2⟨x,H2,I2,rx,q2⟩=>thn (hi pins s2 σ H2 _ I2 q2) fun iv s3⟨y,H3,I3,ry,a,H4,ex,g,q3⟩=>?_) hs
 subst ex
 obtain rfl:u=Value.ref a:=rx
 exact pI hu I3 g ry rv fun s4 I4=>⟨σ,H4,I4,q3⟩
end
theorem lR{P:Program}{w:World}{H:Hp}(h:Heap)(hb:sysModules<h.objs.size):jV P w H (h.push {cls:=.type "dict",data:=.dict #[]}) h.objs.size (.dK []):=
 ⟨Nat.zero_le _,beq_eq_false_iff_ne.mpr (Ne.symm (aq9 hb)),[],.nil,Heap.DictOf.new h⟩
def qN4:TE:=fun _ H Q=>∀p,H p=none->Q (.ref p) (upd H p (.dK []))
section
variable {X:Cx} {pos:Pos}
theorem wF:PE X (.Dict [] [] pos) qN4:=fun pins s σ H Q I h=>
 wpAny_Dict_empty ⟨.ref s.heap.objs.size,_,I.laid (a:=s.heap.objs.size) (o:=.dK []) (t':=s.toks) (fun _ _ q=>aq13 _ q) (aq7 _) (lR s.heap I.big),rfl,h _ (I.hok.fresh (aq7 _))⟩
end
def nQ:List (TE×TE)->St->Hp->(List (V×V)->Hp->Prop)->Prop
 |[],_,H,Q=>Q [] H
 |(tk,tv)::r,σ,H,Q=>tk σ H fun x H1=>tv σ H1 fun y H2=>nQ r σ H2 fun ps H3=>Q ((x,y)::ps) H3
abbrev VV:List (V×V)->List (Value×Value)->Prop:=Paired fun p q=>zY p.1 q.1/\zY p.2 q.2
def PPs(X:Cx)(pos:Pos)(keys:List (Option Expr))(values:List Expr)(trs:List (TE×TE)):Prop:=
 ∀(pins:List (Addr×Obj))(s:Shared)(σ:St)(H:Hp)(Q:List (V×V)->Hp->Prop),Inv X pins σ H s->nQ trs σ H Q->
  wpAny (model X.prog X.w) X.A (evalPairs (pairTrees keys values X.env pos)) (fun vs s'=>∃ps H',Inv X pins σ H' s'/\VV ps vs/\Q ps H') X.xe s
theorem qKz{X:Cx}{pos:Pos}:PPs X pos [] [] []:=fun pins s σ H Q I h=>pairTrees_nil_walk ⟨[],H,I,.nil,h⟩
theorem sC{X:Cx}{pos:Pos}{k v:Expr}{ks:List (Option Expr)}{vs:List Expr}{tk tv:TE}{trs:List (TE×TE)}(hk:PE X k tk)(hv:PE X v tv)(hr:PPs X pos ks vs trs):
  PPs X pos (some k::ks) (v::vs) ((tk,tv)::trs):=fun pins s σ H Q I h=>
 pairTrees_cons_walk (thn (hk pins s σ H _ I h) fun u s1⟨x,H1,I1,rx,q1⟩=>thn (hv pins s1 σ H1 _ I1 q1) fun w2 s2⟨y,H2,I2,ry,q2⟩=>
  thn (hr pins s2 σ H2 _ I2 q2) fun ws s3⟨ps,H3,I3,rel,q3⟩=>⟨(x,y)::ps,H3,I3,.cons ⟨rx,ry⟩ rel,q3⟩)
def xN(kvs more:List (Key×V)):List (Key×V):=more.foldl (fun acc kv=>kK acc kv.1 kv.2) kvs
theorem KV.merge:∀{more:List (Key×V)}{rs:List (Key×Value)}{kvs:List (Key×V)}{vs:List (Key×Value)},KV more rs->KV kvs vs->KV (xN kvs more) (merged vs rs):=by
 intro more rs kvs vs r
 unfold KV at r
 induction r generalizing kvs vs with
 |nil=>intro q;exact q
 | @cons p q ps qs h t ih=>
  intro r0
  have e:KV (kK kvs p.1 p.2) (stored vs q.1 q.2):=by
   have :=r0.put p.1 h.2
   rw[<-h.1];exact this
  exact ih e
theorem vR:∀(more kvs:List (Key×V)),(xN kvs more).length<=kvs.length+more.length
 |[],kvs=>by show kvs.length<=kvs.length+0;omega
 |p::r,kvs=>by
  have h1:=vR r (kK kvs p.1 p.2)
  have h2:=jE kvs p.1 p.2
  show(xN (kK kvs p.1 p.2) r).length<=_
  rw[aq17];omega
theorem uD{P:Program}{w:World}:∀{kvs:List (Key×V)}{ws:List (Value×Value)},VV (kvs.map fun kv=>(kV kv.1,kv.2)) ws->∃rs,Carries (zT P w) ws rs/\KV kvs rs
 |[],_,r=>by rw[List.map_nil]at r;cases r;exact⟨[],True.intro,.nil⟩
 |p::kvs,_,r=>by
  rw[List.map_cons]at r
  cases r with
  | @cons a b as bs h t=>
   obtain⟨rs,c,q⟩:=uD (P:=P) (w:=w) t
   obtain⟨b1,b2⟩:=b
   exact⟨(p.1,b2)::rs,⟨iK h.1,rfl,c⟩,.cons ⟨rfl,h.2⟩ q⟩
def qI2(trs:List (TE×TE)):TE:=fun σ H Q=>∀p,H p=none->nQ trs σ (upd H p (.dK [])) fun ps H2=>H2 p=some (.dK [])/\∃kvs:List (Key×V),ps=kvs.map (fun kv=>(kV kv.1,kv.2))/\kvs.length<=15/\Q (.ref p) (upd H2 p (.dK (xN [] kvs)))
theorem qKj{X:Cx}{pos:Pos}{keys:List (Option Expr)}{values:List Expr}{trs:List (TE×TE)}(h:PPs X pos keys values trs)(hall:keys.all (·.isSome)=true)(hl:keys.length=values.length)(h0:keys≠[])
  (h15:keys.length<=15):PE X (.Dict keys values pos) (qI2 trs):=by
 intro pins s σ H Q I q
 have hn:=I.hok.fresh (aq7 s.heap.objs.size)
 have I1:=I.laid (a:=s.heap.objs.size) (o:=.dK []) (h':=s.heap.push {cls:=.type "dict",data:=.dict #[]}) (t':=s.toks) (fun _ _ q=>aq13 _ q) (aq7 _) (lR s.heap I.big)
 refine wpAny_Dict_walk (knd:=zT X.prog X.w) hall hl h0 h15 (thn (h pins _ σ _ _ I1 (q _ hn)) fun ws s2⟨ps,H2,I2,rel,e,kvs,ep,lk,q2⟩=>?_)
 subst ep
 obtain⟨rs,c,rk⟩:=uD (P:=X.prog) (w:=X.w) rel
 obtain⟨z,hd,vs0,r0,dd⟩:=qI0 I2.hok e
 cases r0
 refine⟨rs,c,dd,fun h' dd' hs=>⟨.ref s.heap.objs.size,_,?_,rfl,q2⟩⟩
 have hz:(xN [] kvs).length<=sizeLine:=by
  have h1:=vR kvs []
  rw[List.length_nil]at h1
  rw[sizeLine_eq];omega
 have he:∃q,h'.get? s.heap.objs.size=some q:=let⟨q,_,_,hq,_⟩:=dd';⟨q,hq⟩
 exact cJ I2 (by rw[e];exact True.intro) hs he (sU hz hd (rk.merge .nil) dd')
structure M2(X:Cx)(o:Expr)(m:Str)(apos:Pos)(e f:Expr)(cpos:Pos):Prop where
 base:attributeBase o m X.env (eval o X.env)=eval o X.env
 few:((backTo cpos (starEach [e,f] X.env)).all (fun x=> !x.1)&&(backToKw cpos (keywordEach [] X.env)).all (fun x=>x.1.isSome)
  &&decide (([e,f]:List Expr).length+([]:List Keyword).length+(if([]:List Keyword).isEmpty then 0 else 1)<30))=true
 line:(apos.endLine==cpos.line)=true
 trees:backTo cpos (starEach [e,f] X.env)=[(false,eval e X.env),(false,eval f X.env)]
def IsD(H:Hp)(a:Addr):Prop:=(∃kvs,Rd H a (.dK kvs))\/∃kvs,Rd H a (.dT kvs)
theorem qN5{X:Cx}{pins:List (Addr×Obj)}{σ:St}{H:Hp}{s:Shared}{a:Addr}(I:Inv X pins σ H s)(d:IsD H a):
  s.TypeIs (.ref a) "dict"/\(∀b,Value.ref a= .ref b->∃ob,s.heap.get? b=some ob/\ob.dict=none)/\(a==sysModules)=false:=by
 rcases d with⟨kvs,e⟩|⟨kvs,e⟩
 ·obtain⟨_,hd,vs,_,dd⟩:=uN I.hok e
  refine⟨dd.typeIs,fun b q=>?_,hd⟩
  cases q
  obtain⟨ob,_,_,h1,h2,_⟩:=dd
  exact⟨ob,h1,h2.2.1⟩
 ·obtain⟨_,hd,xs,_,dd⟩:=iW I.hok e
  refine⟨dd.typeIs,fun b q=>?_,hd⟩
  cases q
  obtain⟨ob,_,_,h1,h2,_⟩:=dd
  exact⟨ob,h1,h2.2.1⟩
section
variable {X:Cx} {pins:List (Addr×Obj)} {σ:St} {H:Hp} {s:Shared} {a:Addr} {y d:V} {u r:Value} {o:Option V} {A:Around} {E:Value->Shared->Prop}
theorem qN6{Q:Value->Shared->Prop}(hu:A.units+1<cLine)(I:Inv X pins σ H s)(g:DGet H a y o)(ry:zY y u)(rd:zY d r)(h:∀w' s',Inv X pins σ H s'->zY (o.getD d) w'->Q w' s'):
  wpAny (model X.prog X.w) A (call (.builtin "dict.get") [.ref a,u,r]) Q E s:=by
 rcases g with⟨kvs,k,e,ey,l⟩|⟨kvs,k,b,e,ey,eb,l⟩
 ·subst ey
  obtain⟨z,hd,vs,rel,dd⟩:=uN I.hok e
  refine call_meetsIn PySem.F.slot_dict_get dd.typeIs PySem.F.entry_dict_get (PySem.F.args_dict_get_3 _ _ _) (meets_dict_get_default (zT X.prog X.w) a (iK ry) hd r) ⟨_,dd.mapOf,h _ _ (I.tok _) ?_⟩
  rw[l]
  exact(rel.val k).getD rd
 ·subst ey
  cases (show u=Value.ref b from ry)
  obtain⟨z,hd,xs,rel,dd⟩:=iW I.hok e
  refine call_meetsIn PySem.F.slot_dict_get dd.typeIs PySem.F.entry_dict_get (PySem.F.args_dict_get_3 _ _ _) (meetsH_dict_get_default (tupleKind (zT X.prog X.w)) a b hd r) ⟨tupleKind_room_in1 hu,k,xs,uB I.hok eb,dd,h _ _ (I.tok _) ?_⟩
  rw[l]
  exact(rel.val k).getD rd
end
inductive bC(ty:TE)(tx:TE)(σ:St)(Q:VK)(x:V)(H1:Hp):Prop
 |mk (a:_) (a_0:x= .ref a) (a_1:IsD H1 a) (a_2:ty σ H1 fun y H2=>tx σ H2 fun z H3=>∃o,DGet H3 a y o/\Q (o.getD z) H3):bC ty tx σ Q x H1
def sL(td ty tx:TE):TE:=fun σ H Q=>td σ H fun x H1=>bC ty tx σ Q x H1
section
variable {X:Cx} {o e f:Expr} {apos cpos:Pos} {td ty tx:TE}
theorem sG(hu:X.A.units+1<cLine)(ho:PE X o td)(he:PE X e ty)(hf:PE X f tx)(m:M2 X o "get" apos e f cpos):PE X (.Call (.Attribute o "get" apos) [e,f] [] cpos) (sL td ty tx):=by
 intro pins s σ H Q I h
 refine wpAny_Call_method m.base m.few m.line PySem.F.plainAttrs_dict PySem.F.slot_dict_get PySem.F.type_dict_get (thn (ho pins s σ H _ I h) fun u s1⟨x,H1,I1,rx,a,ex,d,q1⟩=>?_)
 subst ex
 obtain rfl:u=Value.ref a:=rx
 obtain⟨t1,t2,_⟩:=qN5 I1 d
 refine⟨t1,t2,?_⟩
 rw[m.trees]
 refine Calls.callWith_builtin rfl (Calls.evalArgs_plain (Calls.spliced_cons (thn (he pins s1 σ H1 _ I1 q1) fun iv s2⟨y,H2,I2,ry,q2⟩=>
  Calls.spliced_cons (thn (hf pins s2 σ H2 _ I2 q2) fun fv s3⟨z,H3,I3,rz,ov,g,q3⟩=>Calls.spliced_nil ?_))))
 exact qN6 hu I3 g ry rz fun w' s4 I4 rw'=>⟨_,H3,I4,rw',q3⟩
end
section
variable {X:Cx} {pins:List (Addr×Obj)} {σ:St} {H:Hp} {s:Shared} {a:Addr} {kvs:List (Key×V)} {A:Around} {E:Value->Shared->Prop}
end
section
variable {X:Cx} {pins:List (Addr×Obj)} {σ:St} {H:Hp} {s:Shared} {a:Addr} {y:V} {u:Value} {A:Around} {E:Value->Shared->Prop}
end
section
variable {X:Cx}
theorem pM:kJ X (.builtin "len") (fun xs H Q=>∃a kvs,xs=[V.ref a]/\H a=some (.dK kvs)/\Q (.int kvs.length) H):=by
 intro pins s σ H xs us Q I r h
 obtain⟨a,kvs,rfl,ha,q⟩:=h
 obtain⟨u,rfl,ru⟩:=vals1 r
 cases ru
 exact qT8 I (.inl ha) fun t s' I'=>⟨.int kvs.length,H,I',⟨t,rfl⟩,q⟩
end
section
variable {κ:Type} [DecidableEq κ]
end
end L2
inductive Dt where
 |non|bl (b:Bool)|int (i:Int)|str (x:PySem.Str)|tup (ds:List Dt)
namespace Dt
open PySem
mutual
def eqD:Dt->Dt->Bool
 | .non,.non=>true
 | .bl a,.bl b=>a==b
 | .bl a,.int b=>(if a then 1 else 0)==b
 | .int a,.bl b=>a==(if b then 1 else 0)
 | .int a,.int b=>a==b
 | .str a,.str b=>a==b
 | .tup xs,.tup ys=>eqDs xs ys
 |_,_=>false
def eqDs:List Dt->List Dt->Bool
 |[],[]=>true
 |x::xs,y::ys=>eqD x y&&eqDs xs ys
 |_,_=>false
end
mutual
def dep:Dt->Nat
 | .tup xs=>deps xs+1
 |_=>0
def deps:List Dt->Nat
 |[]=>0
 |x::xs=>max (dep x) (deps xs)
end
mutual
theorem lS:∀d:Dt,eqD d d=true
 | .non=>rfl
 | .bl a=>by simp[eqD]
 | .int a=>by simp[eqD]
 | .str a=>by simp[eqD]
 | .tup xs=>by rw[eqD];exact iY xs
theorem iY:∀ds:List Dt,eqDs ds ds=true
 |[]=>rfl
 |x::xs=>by rw[eqDs,lS x,iY xs];rfl
end
theorem yH:∀{xs ys:List Dt},eqDs xs ys=true->xs.length=ys.length
 |[],[],_=>rfl
 |[],_::_,h=>by simp[eqDs]at h
 |_::_,[],h=>by simp[eqDs]at h
 |x::xs,y::ys,h=>by
  rw[eqDs,Bool.and_eq_true]at h
  rw[aq17,aq17,yH h.2]
theorem vV(z:Dt):∀(xs ys:List Dt),((List.range (min xs.length ys.length)).all (fun j=>eqD (xs.getD j z) (ys.getD j z))&&xs.length==ys.length)=eqDs xs ys
 |[],[]=>rfl
 |[],_::_=>by simp[eqDs]
 |_::_,[]=>by simp[eqDs]
 |x::xs,y::ys=>by
  rw[eqDs,<-vV z xs ys]
  have e:min (x::xs).length (y::ys).length=min xs.length ys.length+1:=by simp only[aq17];omega
  rw[e,List.range_succ_eq_map,List.all_cons,List.all_map]
  have e2:((x::xs).length==(y::ys).length)=(xs.length==ys.length):=by
   rw[Bool.eq_iff_iff,beq_iff_eq,beq_iff_eq,aq17,aq17];omega
  rw[e2,Bool.and_assoc]
  rfl
end Dt
namespace L2
open PySem PySem.Spec PyProof.Rows PyProof Dt
mutual
def qU(K:Fg)(H:Hp):Dt->V->Prop
 | .non,v=>v= .non
 | .bl b,v=>v= .bl b
 | .int i,v=>v= .int i
 | .str x,v=>v= .str x
 | .tup ds,v=>∃a vs,v= .ref a/\qA K H a vs/\qR K H ds vs
def qR(K:Fg)(H:Hp):List Dt->List V->Prop
 |[],vs=>vs=[]
 |d::ds,vs=>∃v r,vs=v::r/\qU K H d v/\qR K H ds r
end
theorem qA.mono{K:Fg}{H H':Hp}{a:Addr}{xs:List V}(e:Same H H')(h:qA K H a xs):qA K H' a xs:=by
 rcases h with(h|⟨o,h⟩)|h
 ·exact .inl (.inl (e _ _ h))
 ·exact .inl (.inr ⟨o,e _ _ h⟩)
 ·exact .inr h
mutual
theorem qU.mono{K:Fg}{H H':Hp}(e:Same H H'):∀{d:Dt}{v:V},qU K H d v->qU K H' d v
 | .non,_,h=>by rw[qU]at h⊢;exact h
 | .bl _,_,h=>by rw[qU]at h⊢;exact h
 | .int _,_,h=>by rw[qU]at h⊢;exact h
 | .str _,_,h=>by rw[qU]at h⊢;exact h
 | .tup ds,_,h=>by
  rw[qU]at h⊢
  obtain⟨a,vs,h1,h2,h3⟩:=h
  exact⟨a,vs,h1,h2.mono e,qR.mono e h3⟩
theorem qR.mono{K:Fg}{H H':Hp}(e:Same H H'):∀{ds:List Dt}{vs:List V},qR K H ds vs->qR K H' ds vs
 |[],_,h=>by rw[qR]at h⊢;exact h
 |d::ds,_,h=>by
  rw[qR]at h⊢
  obtain⟨v,r,h1,h2,h3⟩:=h
  exact⟨v,r,h1,qU.mono e h2,qR.mono e h3⟩
end
theorem qR.length{K:Fg}{H:Hp}:∀{ds:List Dt}{vs:List V},qR K H ds vs->vs.length=ds.length
 |[],_,h=>by rw[qR]at h;rw[h];rfl
 |d::ds,_,h=>by
  rw[qR]at h
  obtain⟨v,r,rfl,_,h3⟩:=h
  rw[aq17,aq17,qR.length h3]
theorem qR.get{K:Fg}{H:Hp}:∀{ds:List Dt}{vs:List V}{i:Nat}{d:Dt},qR K H ds vs->ds[i]? =some d->∃v,vs[i]? =some v/\qU K H d v
 |[],_,_,_,_,e=>by simp at e
 |d::ds,_,0,d',h,e=>by
  rw[qR]at h
  obtain⟨v,r,rfl,h2,_⟩:=h
  have :d=d':=by simpa using e
  subst this
  exact⟨v,rfl,h2⟩
 |d::ds,_,i+1,d',h,e=>by
  rw[qR]at h
  obtain⟨v,r,rfl,_,h3⟩:=h
  obtain⟨v',h4,h5⟩:=qR.get (i:=i) h3 (by simpa using e)
  exact⟨v',by simpa using h4,h5⟩
theorem qR.append{K:Fg}{H:Hp}:∀{ds es:List Dt}{vs ws:List V},qR K H ds vs->qR K H es ws->qR K H (ds++es) (vs++ws)
 |[],_,_,_,h,g=>by rw[qR]at h;subst h;exact g
 |d::ds,_,_,_,h,g=>by
  rw[qR]at h
  obtain⟨v,r,rfl,h2,h3⟩:=h
  rw[List.cons_append,qR]
  exact⟨v,r++_,rfl,h2,qR.append h3 g⟩
section
variable {X:Cx} {pins:List (Addr×Obj)} {σ:St} {H:Hp} {s:Shared}
mutual
theorem cK(I:Inv X pins σ H s):∀{d e:Dt}{v:V},qU X.K H d v->qU X.K H e v->d=e
 | .non,e,v,h,g=>by
  rw[qU]at h
  subst h
  cases e with
  |non=>first|rfl|(rw[qU]at g;cases g)
  |bl c=>rw[qU]at g;cases g;all_goals rfl
  |int c=>rw[qU]at g;cases g;all_goals rfl
  |str c=>rw[qU]at g;cases g;all_goals rfl
  |tup es=>rw[qU]at g;obtain⟨_,_,z,_⟩:=g;cases z
 | .bl b,e,v,h,g=>by
  rw[qU]at h
  subst h
  cases e with
  |non=>first|rfl|(rw[qU]at g;cases g)
  |bl c=>rw[qU]at g;cases g;all_goals rfl
  |int c=>rw[qU]at g;cases g;all_goals rfl
  |str c=>rw[qU]at g;cases g;all_goals rfl
  |tup es=>rw[qU]at g;obtain⟨_,_,z,_⟩:=g;cases z
 | .int i,e,v,h,g=>by
  rw[qU]at h
  subst h
  cases e with
  |non=>first|rfl|(rw[qU]at g;cases g)
  |bl c=>rw[qU]at g;cases g;all_goals rfl
  |int c=>rw[qU]at g;cases g;all_goals rfl
  |str c=>rw[qU]at g;cases g;all_goals rfl
  |tup es=>rw[qU]at g;obtain⟨_,_,z,_⟩:=g;cases z
 | .str x,e,v,h,g=>by
  rw[qU]at h
  subst h
  cases e with
  |non=>first|rfl|(rw[qU]at g;cases g)
  |bl c=>rw[qU]at g;cases g;all_goals rfl
  |int c=>rw[qU]at g;cases g;all_goals rfl
  |str c=>rw[qU]at g;cases g;all_goals rfl
  |tup es=>rw[qU]at g;obtain⟨_,_,z,_⟩:=g;cases z
 | .tup ds,e,v,h,g=>by
  rw[qU]at h
  obtain⟨a,vs,rfl,h2,h3⟩:=h
  cases e with
  |tup es=>
   rw[qU]at g
   obtain⟨a',vs',e1,g2,g3⟩:=g
   cases e1
   have e2:=I.tuple_inj h2 g2
   subst e2
   rw[bL I h3 g3]
  |_=>rw[qU]at g;cases g
theorem bL(I:Inv X pins σ H s):∀{ds es:List Dt}{vs:List V},qR X.K H ds vs->qR X.K H es vs->ds=es
 |[],es,vs,h,g=>by
  rw[qR]at h
  subst h
  cases es with
  |nil=>rfl
  |cons e es=>rw[qR]at g;obtain⟨_,_,z,_⟩:=g;cases z
 |d::ds,es,vs,h,g=>by
  rw[qR]at h
  obtain⟨v,r,rfl,h2,h3⟩:=h
  cases es with
  |nil=>rw[qR]at g;cases g
  |cons e es=>
   rw[qR]at g
   obtain⟨v',r',z,g2,g3⟩:=g
   cases z
   rw[cK I h2 g2,bL I h3 g3]
end
theorem jX(I:Inv X pins σ H s){ds:List Dt}{v:V}{u:Value}(h:qU X.K H (.tup ds) v)(r:zY v u):∃a its,u= .ref a/\s.heap.IsTuple a its/\v= .ref a:=by
 rw[qU]at h
 obtain⟨a,vs,rfl,h2,_⟩:=h
 obtain⟨its,_,ht,_⟩:=I.tuple h2
 exact⟨a,_,r,ht,rfl⟩
mutual
theorem sM(I:Inv X pins σ H s):∀(d e:Dt)(A:Around)(x y:V)(u v:Value),A.units+dep d<cLine->qU X.K H d x->qU X.K H e y->zY x u->zY y v->SeqAt.EqAt A s u v (eqD d e)
 | .non,e,A,x,y,u,v,hu,h,g,r1,r2=>by
  have hu':A.units<cLine:=by omega
  rw[qU]at h;subst h;cases r1
  cases e with
  |non=>rw[qU]at g;subst g;cases r2;exact SeqAt.EqAt.same _
  |bl b=>rw[qU]at g;subst g;cases r2;exact SeqAt.EqAt.none_bool b
  |int b=>rw[qU]at g;subst g;obtain⟨t,rfl⟩:=r2;exact SeqAt.EqAt.none_int b t
  |str b=>rw[qU]at g;subst g;obtain⟨t,rfl⟩:=r2;exact SeqAt.EqAt.none_str b t
  |tup es=>obtain⟨a,its,rfl,ht,_⟩:=jX I g r2;exact SeqAt.EqAt.none_tuple ht hu'
 | .bl b,e,A,x,y,u,v,hu,h,g,r1,r2=>by
  have hu':A.units<cLine:=by omega
  rw[qU]at h;subst h;cases r1
  cases e with
  |non=>rw[qU]at g;subst g;cases r2;exact SeqAt.EqAt.bool_none b
  |bl c=>rw[qU]at g;subst g;cases r2;exact SeqAt.EqAt.bool_bool b c
  |int c=>rw[qU]at g;subst g;obtain⟨t,rfl⟩:=r2;exact SeqAt.EqAt.bool_int b c t
  |str c=>rw[qU]at g;subst g;obtain⟨t,rfl⟩:=r2;exact SeqAt.EqAt.bool_str b c t
  |tup es=>obtain⟨a,its,rfl,ht,_⟩:=jX I g r2;exact SeqAt.EqAt.bool_tuple b ht hu'
 | .int i,e,A,x,y,u,v,hu,h,g,r1,r2=>by
  have hu':A.units<cLine:=by omega
  rw[qU]at h;subst h;obtain⟨t',rfl⟩:=r1
  cases e with
  |non=>rw[qU]at g;subst g;cases r2;exact SeqAt.EqAt.int_none i t'
  |bl c=>rw[qU]at g;subst g;cases r2;exact SeqAt.EqAt.int_bool i t' c
  |int c=>rw[qU]at g;subst g;obtain⟨t,rfl⟩:=r2;exact SeqAt.EqAt.int_int i t' c t
  |str c=>rw[qU]at g;subst g;obtain⟨t,rfl⟩:=r2;exact SeqAt.EqAt.int_str i t' c t
  |tup es=>obtain⟨a,its,rfl,ht,_⟩:=jX I g r2;exact SeqAt.EqAt.int_tuple i t' ht hu'
 | .str i,e,A,x,y,u,v,hu,h,g,r1,r2=>by
  have hu':A.units<cLine:=by omega
  rw[qU]at h;subst h;obtain⟨t',rfl⟩:=r1
  cases e with
  |non=>rw[qU]at g;subst g;cases r2;exact SeqAt.EqAt.str_none i t'
  |bl c=>rw[qU]at g;subst g;cases r2;exact SeqAt.EqAt.str_bool i t' c
  |int c=>rw[qU]at g;subst g;obtain⟨t,rfl⟩:=r2;exact SeqAt.EqAt.str_int i t' c t
  |str c=>rw[qU]at g;subst g;obtain⟨t,rfl⟩:=r2;exact SeqAt.EqAt.str_str i t' c t
  |tup es=>obtain⟨a,its,rfl,ht,_⟩:=jX I g r2;exact SeqAt.EqAt.str_tuple i t' ht hu'
 | .tup ds,e,A,x,y,u,v,hu,h,g,r1,r2=>by
  rw[dep]at hu
  have hu':A.units<cLine:=by omega
  cases e with
  |non=>obtain⟨a,its,rfl,ht,_⟩:=jX I h r1;rw[qU]at g;subst g;cases r2;exact SeqAt.EqAt.tuple_none ht hu'
  |bl c=>obtain⟨a,its,rfl,ht,_⟩:=jX I h r1;rw[qU]at g;subst g;cases r2;exact SeqAt.EqAt.tuple_bool c ht hu'
  |int c=>obtain⟨a,its,rfl,ht,_⟩:=jX I h r1;rw[qU]at g;subst g;obtain⟨t,rfl⟩:=r2;exact SeqAt.EqAt.tuple_int c t ht hu'
  |str c=>obtain⟨a,its,rfl,ht,_⟩:=jX I h r1;rw[qU]at g;subst g;obtain⟨t,rfl⟩:=r2;exact SeqAt.EqAt.tuple_str c t ht hu'
  |tup es=>
   have h0:=h
   have g0:=g
   rw[qU]at h g
   obtain⟨a,vs,rfl,h2,h3⟩:=h
   obtain⟨b,ws,rfl,g2,g3⟩:=g
   cases r1
   cases r2
   by_cases hab:a=b
   ·subst hab
    have e0:=cK I h0 g0
    rw[e0,lS]
    exact SeqAt.EqAt.same _
   ·obtain⟨its,rv,ht,_⟩:=I.tuple h2
    obtain⟨its2,rw',ht2,_⟩:=I.tuple g2
    refine SeqAt.EqAt.of_refs hab ?_
    have l1:its.length=ds.length:=by rw[<-rv.length,h3.length]
    have l2:its2.length=es.length:=by rw[<-rw'.length,g3.length]
    have key:=SeqAt.RcAt.tuples (e:=fun j=>eqD (ds.getD j .non) (es.getD j .non)) (show s.heap.IsTuple a its.toArray from ht) (show s.heap.IsTuple b its2.toArray from ht2) hu' fun j h1 h2'=>by
     have :=wH I ds es A.in1 vs ws its its2 (by show A.units+1+deps ds<cLine;omega) h3 g3 rv rw' j (by simpa using h1) (by simpa using h2')
     simpa using this
    rw[aq18,aq18,l1,l2,vV]at key
    rw[eqD]
    exact key
theorem wH(I:Inv X pins σ H s):∀(ds es:List Dt)(A:Around)(xs ys:List V)(us vs:List Value),A.units+deps ds<cLine->qR X.K H ds xs->qR X.K H es ys->Vals xs us->Vals ys vs->
  ∀(j:Nat)(h1:j<us.length)(h2:j<vs.length),SeqAt.EqAt A s us[j] vs[j] (eqD (ds.getD j .non) (es.getD j .non))
 |[],es,A,xs,ys,us,vs,hu,h,g,r1,r2,j,h1,h2=>by
  rw[qR]at h;subst h;cases r1;simp at h1
 |d::ds,[],A,xs,ys,us,vs,hu,h,g,r1,r2,j,h1,h2=>by
  rw[qR]at g;subst g;cases r2;simp at h2
 |d::ds,e::es,A,xs,ys,us,vs,hu,h,g,r1,r2,j,h1,h2=>by
  rw[deps]at hu
  rw[qR]at h g
  obtain⟨x,xr,rfl,h3,h4⟩:=h
  obtain⟨y,yr,rfl,g3,g4⟩:=g
  cases r1 with
  |cons p1 q1=>
   cases r2 with
   |cons p2 q2=>
    cases j with
    |zero=>exact sM I d e A x y _ _ (by omega) h3 g3 p1 p2
    |succ j=>
     have :=wH I ds es A xr yr _ _ (by omega) h4 g4 q1 q2 j (by simpa using h1) (by simpa using h2)
     simpa using this
end
end
section
variable {X:Cx} {pins:List (Addr×Obj)} {σ:St} {H:Hp} {s:Shared}
theorem qN7(I:Inv X pins σ H s)(d e:Dt)(A:Around)(x y:V)(u v:Value)(hu:A.units+dep d<cLine)(h:qU X.K H d x)(g:qU X.K H e y)(r1:zY x u)(r2:zY y v):SeqAt.RcAt A s u v (eqD d e):=by
 have hu':A.units<cLine:=by omega
 cases d with
 |non=>
  rw[qU]at h;subst h;cases r1
  cases e with
  |non=>rw[qU]at g;subst g;cases r2;exact SeqAt.RcAt.none_none
  |bl c=>rw[qU]at g;subst g;cases r2;exact SeqAt.RcAt.none_bool c
  |int c=>rw[qU]at g;subst g;obtain⟨t,rfl⟩:=r2;exact SeqAt.RcAt.none_int c t
  |str c=>rw[qU]at g;subst g;obtain⟨t,rfl⟩:=r2;exact SeqAt.RcAt.none_str c t
  |tup es=>obtain⟨a,its,rfl,ht,_⟩:=jX I g r2;exact SeqAt.RcAt.none_tuple ht hu'
 |bl b=>
  rw[qU]at h;subst h;cases r1
  cases e with
  |non=>rw[qU]at g;subst g;cases r2;exact SeqAt.RcAt.bool_none b
  |bl c=>rw[qU]at g;subst g;cases r2;exact SeqAt.RcAt.bool_bool b c
  |int c=>rw[qU]at g;subst g;obtain⟨t,rfl⟩:=r2;exact SeqAt.RcAt.bool_int b c t
  |str c=>rw[qU]at g;subst g;obtain⟨t,rfl⟩:=r2;exact SeqAt.RcAt.bool_str b c t
  |tup es=>obtain⟨a,its,rfl,ht,_⟩:=jX I g r2;exact SeqAt.RcAt.bool_tuple b ht hu'
 |int b=>
  rw[qU]at h;subst h;obtain⟨t',rfl⟩:=r1
  cases e with
  |non=>rw[qU]at g;subst g;cases r2;exact SeqAt.RcAt.int_none b t'
  |bl c=>rw[qU]at g;subst g;cases r2;exact SeqAt.RcAt.int_bool b t' c
  |int c=>rw[qU]at g;subst g;obtain⟨t,rfl⟩:=r2;exact SeqAt.RcAt.int_int b t' c t
  |str c=>rw[qU]at g;subst g;obtain⟨t,rfl⟩:=r2;exact SeqAt.RcAt.int_str b t' c t
  |tup es=>obtain⟨a,its,rfl,ht,_⟩:=jX I g r2;exact SeqAt.RcAt.int_tuple b t' ht hu'
 |str b=>
  rw[qU]at h;subst h;obtain⟨t',rfl⟩:=r1
  cases e with
  |non=>rw[qU]at g;subst g;cases r2;exact SeqAt.RcAt.str_none b t'
  |bl c=>rw[qU]at g;subst g;cases r2;exact SeqAt.RcAt.str_bool b t' c
  |int c=>rw[qU]at g;subst g;obtain⟨t,rfl⟩:=r2;exact SeqAt.RcAt.str_int b t' c t
  |str c=>rw[qU]at g;subst g;obtain⟨t,rfl⟩:=r2;exact SeqAt.RcAt.str_str b t' c t
  |tup es=>obtain⟨a,its,rfl,ht,_⟩:=jX I g r2;exact SeqAt.RcAt.str_tuple b t' ht hu'
 |tup ds=>
  cases e with
  |non=>obtain⟨a,its,rfl,ht,_⟩:=jX I h r1;rw[qU]at g;subst g;cases r2;exact SeqAt.RcAt.tuple_none ht hu'
  |bl c=>obtain⟨a,its,rfl,ht,_⟩:=jX I h r1;rw[qU]at g;subst g;cases r2;exact SeqAt.RcAt.tuple_bool c ht hu'
  |int c=>obtain⟨a,its,rfl,ht,_⟩:=jX I h r1;rw[qU]at g;subst g;obtain⟨t,rfl⟩:=r2;exact SeqAt.RcAt.tuple_int c t ht hu'
  |str c=>obtain⟨a,its,rfl,ht,_⟩:=jX I h r1;rw[qU]at g;subst g;obtain⟨t,rfl⟩:=r2;exact SeqAt.RcAt.tuple_str c t ht hu'
  |tup es=>
   rw[qU]at h g
   obtain⟨a,vs,rfl,h2,h3⟩:=h
   obtain⟨b,ws,rfl,g2,g3⟩:=g
   cases r1
   cases r2
   rw[dep]at hu
   obtain⟨its,rv,ht,_⟩:=I.tuple h2
   obtain⟨its2,rw',ht2,_⟩:=I.tuple g2
   have l1:its.length=ds.length:=by rw[<-rv.length,h3.length]
   have l2:its2.length=es.length:=by rw[<-rw'.length,g3.length]
   have key:=SeqAt.RcAt.tuples (e:=fun j=>eqD (ds.getD j .non) (es.getD j .non)) (show s.heap.IsTuple a its.toArray from ht) (show s.heap.IsTuple b its2.toArray from ht2) hu' fun j h1 h2'=>by
    have :=wH I ds es A.in1 vs ws its its2 (by show A.units+1+deps ds<cLine;omega) h3 g3 rv rw' j (by simpa using h1) (by simpa using h2')
    simpa using this
   rw[aq18,aq18,l1,l2,vV]at key
   rw[eqD]
   exact key
theorem qN8(I:Inv X pins σ H s)(d e:Dt)(A:Around)(x y:V)(u v:Value)(hu:A.units+dep d<cLine)(h:qU X.K H d x)(g:qU X.K H e y)(r1:zY x u)(r2:zY y v):SeqAt.RcNeAt A s u v (!eqD d e):=by
 have hu':A.units<cLine:=by omega
 cases d with
 |non=>
  rw[qU]at h;subst h;cases r1
  cases e with
  |non=>rw[qU]at g;subst g;cases r2;exact SeqAt.RcNeAt.none_none
  |bl c=>rw[qU]at g;subst g;cases r2;exact SeqAt.RcNeAt.none_bool c
  |int c=>rw[qU]at g;subst g;obtain⟨t,rfl⟩:=r2;exact SeqAt.RcNeAt.none_int c t
  |str c=>rw[qU]at g;subst g;obtain⟨t,rfl⟩:=r2;exact SeqAt.RcNeAt.none_str c t
  |tup es=>obtain⟨a,its,rfl,ht,_⟩:=jX I g r2;exact SeqAt.RcNeAt.none_tuple ht hu'
 |bl b=>
  rw[qU]at h;subst h;cases r1
  cases e with
  |non=>rw[qU]at g;subst g;cases r2;exact SeqAt.RcNeAt.bool_none b
  |bl c=>rw[qU]at g;subst g;cases r2;exact SeqAt.RcNeAt.bool_bool b c
  |int c=>rw[qU]at g;subst g;obtain⟨t,rfl⟩:=r2;exact SeqAt.RcNeAt.bool_int b c t
  |str c=>rw[qU]at g;subst g;obtain⟨t,rfl⟩:=r2;exact SeqAt.RcNeAt.bool_str b c t
  |tup es=>obtain⟨a,its,rfl,ht,_⟩:=jX I g r2;exact SeqAt.RcNeAt.bool_tuple b ht hu'
 |int b=>
  rw[qU]at h;subst h;obtain⟨t',rfl⟩:=r1
  cases e with
  |non=>rw[qU]at g;subst g;cases r2;exact SeqAt.RcNeAt.int_none b t'
  |bl c=>rw[qU]at g;subst g;cases r2;exact SeqAt.RcNeAt.int_bool b t' c
  |int c=>rw[qU]at g;subst g;obtain⟨t,rfl⟩:=r2;exact SeqAt.RcNeAt.int_int b t' c t
  |str c=>rw[qU]at g;subst g;obtain⟨t,rfl⟩:=r2;exact SeqAt.RcNeAt.int_str b t' c t
  |tup es=>obtain⟨a,its,rfl,ht,_⟩:=jX I g r2;exact SeqAt.RcNeAt.int_tuple b t' ht hu'
 |str b=>
  rw[qU]at h;subst h;obtain⟨t',rfl⟩:=r1
  cases e with
  |non=>rw[qU]at g;subst g;cases r2;exact SeqAt.RcNeAt.str_none b t'
  |bl c=>rw[qU]at g;subst g;cases r2;exact SeqAt.RcNeAt.str_bool b t' c
  |int c=>rw[qU]at g;subst g;obtain⟨t,rfl⟩:=r2;exact SeqAt.RcNeAt.str_int b t' c t
  |str c=>rw[qU]at g;subst g;obtain⟨t,rfl⟩:=r2;exact SeqAt.RcNeAt.str_str b t' c t
  |tup es=>obtain⟨a,its,rfl,ht,_⟩:=jX I g r2;exact SeqAt.RcNeAt.str_tuple b t' ht hu'
 |tup ds=>
  cases e with
  |non=>obtain⟨a,its,rfl,ht,_⟩:=jX I h r1;rw[qU]at g;subst g;cases r2;exact SeqAt.RcNeAt.tuple_none ht hu'
  |bl c=>obtain⟨a,its,rfl,ht,_⟩:=jX I h r1;rw[qU]at g;subst g;cases r2;exact SeqAt.RcNeAt.tuple_bool c ht hu'
  |int c=>obtain⟨a,its,rfl,ht,_⟩:=jX I h r1;rw[qU]at g;subst g;obtain⟨t,rfl⟩:=r2;exact SeqAt.RcNeAt.tuple_int c t ht hu'
  |str c=>obtain⟨a,its,rfl,ht,_⟩:=jX I h r1;rw[qU]at g;subst g;obtain⟨t,rfl⟩:=r2;exact SeqAt.RcNeAt.tuple_str c t ht hu'
  |tup es=>
   rw[qU]at h g
   obtain⟨a,vs,rfl,h2,h3⟩:=h
   obtain⟨b,ws,rfl,g2,g3⟩:=g
   cases r1
   cases r2
   rw[dep]at hu
   obtain⟨its,rv,ht,_⟩:=I.tuple h2
   obtain⟨its2,rw',ht2,_⟩:=I.tuple g2
   have l1:its.length=ds.length:=by rw[<-rv.length,h3.length]
   have l2:its2.length=es.length:=by rw[<-rw'.length,g3.length]
   have key:=SeqAt.RcNeAt.tuples (e:=fun j=>eqD (ds.getD j .non) (es.getD j .non)) (show s.heap.IsTuple a its.toArray from ht) (show s.heap.IsTuple b its2.toArray from ht2) hu' fun j h1 h2'=>by
    have :=wH I ds es A.in1 vs ws its its2 (by show A.units+1+deps ds<cLine;omega) h3 g3 rv rw' j (by simpa using h1) (by simpa using h2')
    simpa using this
   rw[aq18,aq18,l1,l2,vV]at key
   rw[eqD]
   exact key
theorem jS:wQ X (compareOp .Eq) (fun x y H Q=>∃d e,qU X.K H d x/\qU X.K H e y/\X.A.units+dep d<cLine/\Q (.bl (eqD d e)) H):=by
 intro pins s σ H x y v u Q I rx ry h
 obtain⟨d,e,h1,h2,hu,q⟩:=h
 exact qN7 I d e X.A x y v u hu h1 h2 rx ry X.prog X.w X.xe _ ⟨.bl _,H,I,rfl,q⟩
theorem cV:wQ X (compareOp .NotEq) (fun x y H Q=>∃d e,qU X.K H d x/\qU X.K H e y/\X.A.units+dep d<cLine/\Q (.bl (!eqD d e)) H):=by
 intro pins s σ H x y v u Q I rx ry h
 obtain⟨d,e,h1,h2,hu,q⟩:=h
 exact qN8 I d e X.A x y v u hu h1 h2 rx ry X.prog X.w X.xe _ ⟨.bl _,H,I,rfl,q⟩
end
end L2
namespace L2
open PySem PySem.Spec PyProof.Rows PyProof
def xS(ix:List Nat)(o:List (Option V))(σ:St):St:=o++ix.map fun i=>σ.getD i none
def ifT:Option TT->TT
 |none=>fun _ H Q=>Q true H
 |some t=>t
def PIf(X:Cx)(ifs:List Expr)(t:Option TT):Prop:=match ifs,t with
 |[],none=>True
 |[c],some tc=>PT X c tc
 |_,_=>False
def nZ(wi:TI)(g:TG)(tc:Option TT)(te:TE)(n:Nat)(ix:List Nat):TE:=fun σ H Q=>wi σ H fun J H1=>∀D,H1 D=none->∃W:Nat->Nat->List V->Hp->Prop,(∃m,W 0 m [] (upd H1 D (.lst [])))/\∀i m ys H2,W i m ys H2->
 (J.stop i H2/\Q (.ref D) H2)\/(J.go i H2/\∀(o:List (Option V))v H3,o.length=n->J.yld i H2 v H3->g v (xS ix o σ) H3 fun σ2 H4=>(∃o':List (Option V),σ2=xS ix o' σ/\o'.length=n)/\
  ifT tc σ2 H4 fun b H5=>if b=true then te σ2 H5 fun y H6=>H6 D=some (.lst ys)/\ys.length<sizeLine/\∃m',m'<m/\W (i+1) m' (ys++[y]) (upd H6 D (.lst (ys++[y])))else∃m',m'<m/\W (i+1) m' ys H5)
structure yS(X:Cx)(scope:Scope)(cl:List (Str×Addr))(own rest:List Str)(ix:List Nat):Prop where
 clos:closureFor scope X.env=pure cl
 cell:∀y∈scope.names,y.2≠ .cell
 kind:scope.kind= .function
 names:∀y∈scope.names,y.2= .local->scope.names.lookup y.1=some .local
 cls:∀y c,cl.lookup y=some c->X.env.cells.lookup y=some c
 fr:∀y,scope.names.lookup y=some .free->∃c,cl.lookup y=some c
 nd:(own++rest).Nodup
 at_:∀(j:Nat)(y:Str),rest[j]? =some y->∃i:Nat,ix[j]? =some i/\X.N[i]? =some y
 len:ix.length=rest.length
 out:∀y∈rest,scope.names.lookup y=some .free/\(X.env.kindOf y=some .cell\/X.env.kindOf y=some .free)
section
variable {X:Cx} {scope:Scope} {cl:List (Str×Addr)} {own rest:List Str} {ix:List Nat}
theorem qV0(ok:yS X scope cl own rest ix){pins:List (Addr×Obj)}{σ:St}{H:Hp}{s:Shared}{fp:List Addr}(I:Inv X pins σ H s)(hf:∀b∈fp,kL X pins H b)(hb:∀b∈fp,b<s.heap.objs.size):
  (kP X scope cl (own++rest) s.heap.objs.size s H fp pins).Ok where
 mod:=I.ok.mod
 kind:=ok.kind
 glob:=I.ok.glob
 blt:=I.ok.blt
 above:=aq7 _
 inj:=fun y z c h1 h2=>I.ok.inj y z c (ok.cls y c h1) (ok.cls z c h2)
 has:=fun y hy=>by
  rcases hy with hy|hy
  ·exact ok.fr y (wN hy (.inl rfl) ok.cell)
  ·exact ok.fr y (wN hy (.inr rfl) ok.cell)
 cab:=fun y c h _=>by cases h
 hd:=I.ok.hd
 frames:=I.ok.frames
 stk:=.inl rfl
 exf:=fun b hb'=>⟨aq9 (hb b hb'),fun y c h=>(hf b hb').2.2.2.2.1 y c (ok.cls y c h)⟩
 bs:=I.bs
 bsz:=Nat.le_trans I.ok.bsz I.sz
 noex:=fun b o e hb'=>by
  rcases(hf b hb').2.2.2.1 with z|z
  ·exact I.ok.noex b o e z
  ·exact absurd (Nat.lt_of_lt_of_le (Nat.lt_of_lt_of_le (aq8 e) I.ok.bsz) z) (Nat.lt_irrefl _)
 exfs:=fun b hb' hm=>by
  rcases List.mem_cons.mp (I.stkSub b hm)with z|z
  ·exact(hf b hb').2.1 z
  ·exact(hf b hb').2.2.1 z
 funs:=I.stack
 frf:=I.stkFree
theorem uF(ok:yS X scope cl own rest ix){pins:List (Addr×Obj)}{σ:St}{H:Hp}{s:Shared}{fp:List Addr}{h₁:Heap}{tk:Nat}{o:Obj}(I:Inv X pins σ H s)(hf:∀b∈fp,kL X pins H b)(hb:∀b∈fp,b<s.heap.objs.size)
  (hn:h₁.Ns s.heap.objs.size fun _=>none)(hs:Heap.SameBut s.heap.objs.size (s.heap.push o) h₁):
  Inv (kP X scope cl (own++rest) s.heap.objs.size s H fp pins) [] (xS ix (List.replicate own.length none) σ) H {s with heap:=h₁,toks:=tk}:=by
 have kp:∀b u,s.heap.get? b=some u->h₁.get? b=some u:=fun b u e=>(hs.2 b (aq9 (aq8 e))).trans (aq13 _ e)
 refine⟨qV0 ok I hf hb,rfl,I.bare,Un.kept kp,⟨_,hn,fun j y v e1 e2 e3=>?_⟩,fun y c h=>?_,I.hok.fresh (aq7 _),fun y c h=>I.freeC y c (ok.cls y c h),fun p hp=>?_,I.hok.kept kp,?_⟩
 ·have e1':(own++rest)[j]? =some y:=e1
  have e2':(List.replicate own.length none++ix.map fun i=>σ.getD i none)[j]? =some (some v):=e2
  by_cases hj:j<own.length
  ·rw[List.getElem?_append_left (by simpa using hj),List.getElem?_replicate]at e2'
   split at e2'<;>cases e2'
  ·rw[List.getElem?_append_right (by omega)]at e1'
   rw[List.getElem?_append_right (by simpa using hj),List.length_replicate]at e2'
   obtain⟨i,hi,hN⟩:=ok.at_ _ y e1'
   rw[lG hi]at e2'
   have hσ:σ[i]? =some (some v):=by
    have e4:σ.getD i none=some v:=Option.some.inj e2'
    rw[List.getD_eq_getElem?_getD]at e4
    cases q:σ[i]?with
    |none=>rw[q]at e4;cases e4
    |some w=>rw[q]at e4;exact congrArg some e4
   obtain⟨hfree,hout⟩:=ok.out y (aq23 e1')
   obtain⟨m,hm,hl⟩:=I.loc
   obtain⟨u,ru,lk⟩:=hl i y v hN hσ (by rcases hout with z|z;exact .inr (.inl z);exact .inr (.inr z))
   refine⟨u,ru,.inr ⟨?_,?_⟩⟩
   ·have e:(compEnvC scope cl s.heap.objs.size X.env).kindOf y=(scope.names.lookup y).map fun k=>if(k==NameKind.free&&X.env.scope.kind== .function&&X.env.kindOf y==some .cell)then NameKind.cell else k:=vX X.env scope.names y
    show(compEnvC scope cl s.heap.objs.size X.env).kindOf y=some .cell\/(compEnvC scope cl s.heap.objs.size X.env).kindOf y=some .free
    rw[e,hfree,Option.map_some]
    by_cases hc:(NameKind.free==NameKind.free&&X.env.scope.kind== .function&&X.env.kindOf y==some .cell)=true
    ·rw[if_pos hc];exact .inl rfl
    ·rw[if_neg hc];exact .inr rfl
   ·obtain⟨c,hc⟩:=ok.fr y hfree
    have hc2:=ok.cls y c hc
    rcases lk with⟨z,_⟩|⟨_,c',e',ce⟩
    ·rcases hout with z'|z'<;>(rw[z]at z';cases z')
    ·rw[hc2]at e';cases e'
     obtain⟨oc,hoc,hd⟩:=ce
     exact⟨c,hc,oc,kp _ _ hoc,hd⟩
 ·obtain⟨v,oc,hoc,hd⟩:=I.cell y c (ok.cls y c h)
  exact⟨v,oc,kp _ _ hoc,hd⟩
 ·have hp':p∈X.pn++pins:=by simpa[kP]using hp
  obtain⟨e,n,ne,nf,d⟩:=I.pin p hp'
  refine⟨kp _ _ e,n,aq9 (aq8 e),fun hm=>?_,d⟩
  rcases List.mem_cons.mp (I.stkSub _ hm)with z|z
  ·exact ne z
  ·exact nf z
 ·show(xS ix (List.replicate own.length none) σ).length=(own++rest).length
  simp[xS,ok.len]
theorem qTz{Xb:Cx}{ifs:List Expr}{tc:Option TT}(h:PIf Xb ifs tc){pins:List (Addr×Obj)}{s:Shared}{σ:St}{H:Hp}{Q:Bool->Hp->Prop}(I:Inv Xb pins σ H s)(q:ifT tc σ H Q):
  wpAny (model Xb.prog Xb.w) Xb.A (forIn ifs true fun c r=>if r=true then do let ok<-isTrue c Xb.env (eval c Xb.env);pure (ForInStep.yield ok)else pure (ForInStep.yield r)) (TP Xb pins σ Q) Xb.xe s:=by
 cases ifs with
 |nil=>
  cases tc with
  |none=>exact wpAny_pure ⟨H,I,q⟩
  |some tc=>exact h.elim
 |cons c r=>
  cases tc with
  |none=>cases r<;>exact h.elim
  |some tc=>
   cases r with
   |cons c2 r=>exact h.elim
   |nil=>
    have hp:PT Xb c tc:=h
    simp only[List.forIn_cons,List.forIn_nil,if_true]
    refine wpAny_bind (wpAny_bind (thn (hp pins s σ H Q I q) fun b s1 z=>wpAny_pure (wpAny_pure z)))
def sN(X:Cx)(scope:Scope)(cl:List (Str×Addr))(Nb:List Str)(elt:Expr)(te:TE)(XE:Value->Shared->Prop)(s:Shared)(H:Hp)(fp:List Addr)(pins:List (Addr×Obj)):Prop:=
 ∀(pins':List (Addr×Obj))(s':Shared)(σ':St)(H':Hp)(Q':VK),(∀b∈fp,∃ob,(b,ob)∈pins')->Inv (kP X scope cl Nb s.heap.objs.size s H fp pins) pins' σ' H' s'->te σ' H' Q'->
  wpAny (model X.prog X.w) X.A (eval elt (compEnvC scope cl s.heap.objs.size X.env)) (EP (kP X scope cl Nb s.heap.objs.size s H fp pins) pins' σ' Q') XE s'
theorem PE.elt{Nb:List Str}{elt:Expr}{te:TE}{s:Shared}{H:Hp}{fp:List Addr}{pins:List (Addr×Obj)}(he:PE (kP X scope cl Nb s.heap.objs.size s H fp pins) elt te):sN X scope cl Nb elt te (fun _ _=>False) s H fp pins:=
 fun pins' s' σ' H' Q' _ I q=>he pins' s' σ' H' Q' I q
theorem sB{Nb:List Str}{σb:St}{pins:List (Addr×Obj)}{σ:St}{H H':Hp}{s s5:Shared}{fp:List Addr}(I:Inv X pins σ H s)(I5:Inv (kP X scope cl Nb s.heap.objs.size s H fp pins) [] σb H' s5)(hf:∀b∈fp,kL X pins H b){h'':Heap}(hs:Heap.SameBut s.heap.objs.size s5.heap h''):
  Inv X pins σ H' {s5 with heap:=h''}:=by
 have B:=I5.base
 have ne:∀b u,s.heap.get? b=some u->b≠s.heap.objs.size:=fun b u e=>aq9 (aq8 e)
 have un:Un (frs X.stack) fp H H' s.heap h'':=
  ⟨fun b u e n hx hy=>(hs.2 b (ne b u e)).trans (B.keep b u e n hx hy),fun b u e n hx hy=>(let⟨sl,z⟩:=B.slot b u e n hx hy;⟨sl,(hs.2 b (ne b u e)).trans z⟩),B.free,
   fun b u e hy=>(let⟨u',z⟩:=B.there b u e hy;⟨u',(hs.2 b (ne b u e)).trans z⟩),B.tups,B.frzs,B.tbls⟩
 have hok:HOk X.prog X.w H' h'':=fun b u e=>(I5.hok b u e).stay (fun c v hc' z=>(hs.2 c (fun zz=>by
  have fz:H' s.heap.objs.size=none:=I5.free
  rcases hc' with y|y
  ·rw[<-y,zz,fz]at e;cases e
  ·rw[zz,fz]at y;cases y)).trans z) (fun _ z=>z) fun _ _ z=>z
 refine I.call' (s':={s5 with heap:=h''}) (ch:=fp) I5.os un hok I5.bare fun b hm=>?_
 obtain⟨g0,g1,g2,g3,g4,g5⟩:=hf b hm
 exact⟨g3,g1,g4,g5⟩
theorem lT{elt iter tg:Expr}{ifs:List Expr}{pos:Pos}{te:TE}{g:TG}{tc:Option TT}{pins:List (Addr×Obj)}{σ:St}{H:Hp}{s s4:Shared}{fp:List Addr}{it D:Addr}{tn:Nat->Heap->Prop}{J:It}{Q:VK}{RR:Result->Shared->Prop}{W:Nat->Nat->List V->Hp->Prop}{m0:Nat}
  (ok:yS X scope cl own rest ix)(hc:X.calm=true){XE:Value->Shared->Prop}(he:sN X scope cl (own++rest) elt te XE s H fp pins)(hE:∀x s',XE x s'->notedBy (model X.prog X.w) X.A (compEnvC scope cl s.heap.objs.size X.env) (fun x s'=>RR (.error x) s') x s')(hg:∀(C:Addr)(s:Shared)(H:Hp)(fp:List Addr)(pins:List (Addr×Obj)),PG (kP X scope cl (own++rest) C s H fp pins) tg g)
  (hif:∀(C:Addr)(s:Shared)(H:Hp)(fp:List Addr)(pins:List (Addr×Obj)),PIf (kP X scope cl (own++rest) C s H fp pins) ifs tc)
  (I:Inv X pins σ H s)(T:Turn X.prog X.w X.K tg J fp it tn)(hf:∀b∈fp,kL X pins H b)(hb:∀b∈fp,b<s.heap.objs.size)
  (J4:Inv (kP X scope cl (own++rest) s.heap.objs.size s H fp pins) [] (xS ix (List.replicate own.length none) σ) H s4)(st:tn 0 s4.heap)(w0:W 0 m0 [] H)
  (fin:∀f H' s5 o,o.length=own.length->Inv (kP X scope cl (own++rest) s.heap.objs.size s H fp pins) [] (xS ix o σ) H' s5->Q (.ref D) H'->RR (.ok f) s5)
  (turn:∀i m ys H2,W i m ys H2->(J.stop i H2/\Q (.ref D) H2)\/(J.go i H2/\∀(o:List (Option V))v H3,o.length=own.length->J.yld i H2 v H3->g v (xS ix o σ) H3 fun σ2 H4=>(∃o':List (Option V),σ2=xS ix o' σ/\o'.length=own.length)/\
   ifT tc σ2 H4 fun b H5=>if b=true then te σ2 H5 fun y H6=>H6 D=some (.lst ys)/\ys.length<sizeLine/\∃m',m'<m/\W (i+1) m' (ys++[y]) (upd H6 D (.lst (ys++[y])))else∃m',m'<m/\W (i+1) m' ys H5)):
  codeAny (model X.prog X.w) X.A (.compLoop (.ListComp elt [⟨tg,iter,ifs,0⟩] scope pos) 0 (.ref it) (.ref D) (compEnvC scope cl s.heap.objs.size X.env)) RR s4:=by
 have stat:∀{H':Hp},(∀b∈fp,H' b=none)->∀b∈fp,kL (kP X scope cl (own++rest) s.heap.objs.size s H fp pins) [] H' b:=fun hn b hm=>by
  obtain⟨g0,g1,g2,g3,g4,g5⟩:=hf b hm
  refine⟨hn b hm,aq9 (hb b hm),fun z=>?_,.inl hm,fun y c h=>g4 y c (ok.cls y c h),fun p hp=>g5 p (by simpa[kP]using hp)⟩
  rcases List.mem_cons.mp (I.stkSub b z)with z|z
  ·exact g1 z
  ·exact g2 z
 refine codeAny_loop rfl (fun n s'=>∃i ys o H',o.length=own.length/\Inv (kP X scope cl (own++rest) s.heap.objs.size s H fp pins) [] (xS ix o σ) H' s'/\tn i s'.heap/\(∀b∈fp,H' b=none)/\W i n ys H') (fun n s' hI=>?_) m0 ⟨0,[],List.replicate own.length none,H,by simp,J4,st,fun b hm=>(hf b hm).1,w0⟩
 obtain⟨i,ys,o,H',ho,I',st',fr',w'⟩:=hI
 show wpAny _ _ ((compTurn (.ListComp elt [⟨tg,iter,ifs,0⟩] scope pos) 0 (.ref it) (.ref D) (compEnvC scope cl s.heap.objs.size X.env)).onRaise (fun x=>do noteFrame x (compEnvC scope cl s.heap.objs.size X.env);theTreesLotGoes x)) _ _ s'
 refine wpAny_noted ?_
 rw[compTurn_list]
 refine wpAny_bind (wpAny_standAt (wpAny_bind ?_))
 rcases turn i n ys H' w' with⟨stop,q⟩|⟨go,step⟩
 ·refine thn (T.done (kP X scope cl (own++rest) s.heap.objs.size s H fp pins) rfl rfl rfl hc i [] s' _ H' _ I' (stat fr') st' stop) fun r s5⟨hr,I5⟩=>?_
  subst hr
  exact wpAny_pure (fin _ H' s5 o ho I5 q)
 ·refine thn (T.item (kP X scope cl (own++rest) s.heap.objs.size s H fp pins) rfl rfl rfl hc i [] s' _ H' _ I' (stat fr') st' go) fun r s5⟨u,hr,h5⟩=>?_
  subst hr
  refine wpAny_bind (thn h5 fun _ s6⟨xv,H6,I6,r6,y6,st6,fr6⟩=>?_)
  have I6':=I6.pinned (stat fr6) (T.obj _ _ st6)
  refine wpAny_bind (wpAny_mono (hg _ _ _ _ _ _ s6 (xS ix o σ) H6 xv u _ I6' r6 (step o xv H6 ho y6)) (fun _ s7⟨σ7,H7,I7,⟨o',e7,ho'⟩,q7⟩=>?_) fun _ _ z=>z.elim)
  subst e7
  have again:∀{H9:Hp}{s9:Shared}{ys9:List V}{m':Nat},Inv (kP X scope cl (own++rest) s.heap.objs.size s H fp pins) ([]++uU fp s6.heap) (xS ix o' σ) H9 s9->m'<n->W (i+1) m' ys9 H9->
    ∃m,m<n/\∃i ys o H',o.length=own.length/\Inv (kP X scope cl (own++rest) s.heap.objs.size s H fp pins) [] (xS ix o σ) H' s9/\tn i s9.heap/\(∀b∈fp,H' b=none)/\W i m ys H':=fun {H9 s9 ys9 m'}I9 hm w9=>by
   refine⟨m',hm,i+1,ys9,o',H9,ho',I9.unpinned,?_,fun b hm=>?_,w9⟩
   ·exact T.keep _ _ _ st6 fun b hm ob e=>(I9.pin (b,ob) (aq11 _ (aq11 _ (xM hm e)))).1
   ·obtain⟨ob,e,d⟩:=T.obj _ _ st6 b hm
    exact(I9.pin (b,ob) (aq11 _ (aq11 _ (xM hm e)))).2.1
  refine wpAny_bind (wpAny_mono (qTz (hif _ _ _ _ _) I7 q7) (fun b s8⟨H8,I8,q8⟩=>?_) fun _ _ z=>z.elim)
  cases b with
  |false=>
   obtain⟨m',hm',w8⟩:=(show∃m',m'<n/\W (i+1) m' ys H8 from q8)
   exact wpAny_pure ⟨rfl,again I8 hm' w8⟩
  |true=>
   refine wpAny_bind (wpAny_bind (wpAny_mono (he _ s8 _ _ _ (fun b hm=>let⟨ob,e,_⟩:=T.obj _ _ st6 b hm;⟨ob,aq11 _ (xM hm e)⟩) I8 q8) (fun yv s9⟨y,H9,I9,r9,hD,hz,m',hm',w9⟩=>?_) hE))
   refine wpAny_bind (wpAny_mono (kB (X:=kP X scope cl (own++rest) s.heap.objs.size s H fp pins) _ s9 _ H9 (.ref D) [y] (.ref D) [yv] (fun _ H10=>H10=upd H9 D (.lst (ys++[y]))) I9 rfl (.cons r9 .nil) ⟨D,ys,y,rfl,rfl,hD,hz,rfl⟩) (fun _ s10⟨_,H10,I10,_,e10⟩=>?_) fun _ _ z=>z.elim)
   subst e10
   exact wpAny_pure (wpAny_pure ⟨rfl,again I10 hm' w9⟩)
theorem sD{elt iter tg:Expr}{ifs:List Expr}{pos:Pos}{wi:TI}{te:TE}{g:TG}{tc:Option TT}(ok:yS X scope cl own rest ix)(hc:X.calm=true)(hi:PI X tg iter wi)
  (he:∀(C:Addr)(s:Shared)(H:Hp)(fp:List Addr)(pins:List (Addr×Obj)),PE (kP X scope cl (own++rest) C s H fp pins) elt te)(hg:∀(C:Addr)(s:Shared)(H:Hp)(fp:List Addr)(pins:List (Addr×Obj)),PG (kP X scope cl (own++rest) C s H fp pins) tg g)
  (hif:∀(C:Addr)(s:Shared)(H:Hp)(fp:List Addr)(pins:List (Addr×Obj)),PIf (kP X scope cl (own++rest) C s H fp pins) ifs tc)
  (hs:∀x,foldedSetIterable iter X.env x=pure x:=by intro _;rfl):PE X (.ListComp elt [⟨tg,iter,ifs,0⟩] scope pos) (nZ wi g tc te own.length ix):=by
 intro pins s σ H Q I h
 rw[eval_ListComp]
 refine wpAny_comprehension_free (use:=none) rfl hs ok.clos ok.kind ok.names (thn (hi pins s σ H _ I h) fun v s1 h1=>thn h1 fun itv s2 h2=>?_)
 obtain⟨it,fp,tn,J,H1,e,I2,T,st2,f2,hq⟩:=h2
 subst e
 refine wpAny_newObj_type (wpAny_newFunctionEnv ok.cell (by intro y hy;simp at hy) (fun h₁ hns hsb=>?_) ok.kind)
 dsimp only at hns hsb⊢
 have na:H1 s2.heap.objs.size=none:=I2.hok.fresh (aq7 _)
 obtain⟨W,⟨m0,w0⟩,turn⟩:=hq s2.heap.objs.size na
 have I3:=I2.laid (t':=s2.toks) (o:=.lst []) (h':=s2.heap.push {cls:=.type "list",dict:=none,data:=.seq ([]:List Value).toArray}) (fun b u e=>aq13 _ e) (aq7 _) ⟨by decide,[],0,.nil,aq14 _ rfl⟩
 have fa:∀b∈fp,b<s2.heap.objs.size:=fun b hb=>by
  obtain⟨o,ho,_⟩:=T.obj 0 _ st2 b hb
  exact aq8 ho
 generalize hs3:({s2 with heap:=s2.heap.push {cls:=.type "list",dict:=none,data:=.seq ([]:List Value).toArray}}:Shared)=s3 at hns hsb I3⊢
 have z3:s3.heap.objs.size=s2.heap.objs.size+1:=by rw[<-hs3];exact Heap.size_push _ _
 have k3:∀b u,s2.heap.get? b=some u->s3.heap.get? b=some u:=fun b u e=>by rw[<-hs3];exact aq13 _ e
 have fa3:∀b∈fp,b<s3.heap.objs.size:=fun b hb=>by rw[z3];exact Nat.lt_succ_of_lt (fa b hb)
 have f3:∀b∈fp,kL X pins (upd H1 s2.heap.objs.size (.lst [])) b:=fun b hb=>by
  obtain⟨g0,g1⟩:=f2 b hb
  exact⟨by rw[qC (aq9 (fa b hb))];exact g0,g1⟩
 subst hs3
 have J4:=uF ok (tk:=s2.toks+([]:List (Str×Value)).length) I3 f3 fa3 hns hsb
 have st4:tn 0 h₁:=T.keep _ _ _ st2 fun b hm o e=>(hsb.2 b (aq9 (fa3 b hm))).trans (aq13 _ (k3 b o e))
 have loop:=lT (RR:=compPost (model X.prog X.w) X.A X.xe none (EP X pins σ Q) (.ref s2.heap.objs.size) (s2.heap.push {cls:=.type "list",dict:=none,data:=.seq ([]:List Value).toArray}).objs.size) (elt:=elt) (iter:=iter) (pos:=pos) (s4:={s2 with heap:=h₁,toks:=s2.toks+([]:List (Str×Value)).length}) ok hc (he _ _ _ _ _).elt (fun _ _ z=>z.elim) hg hif I3 T f3 fa3 J4 st4 w0 (fun f H' s5 o ho I5 q=>let⟨m,hn,_⟩:=I5.loc;⟨m,hn,fun h'' hs=>⟨.ref s2.heap.objs.size,H',sB I3 I5 f3 hs,rfl,q⟩⟩) turn
 exact codeAny_compStart_list loop (T.self _ 0 _ _ _ st4 loop)
end
open Dt
section
variable {X:Cx} {CX:CXT} {e func:Expr} {es:List Expr} {tf:TE} {t:TA} {pos:Pos}
inductive bM(X:Cx)(CX:CXT)(t:TA)(σ:St)(Q:VK)(x:V)(H1:Hp):Prop
 |mk (f:Addr) (fd:FuncData) (ps:List Str) (sp:Sp) (dvs:List V) (ds:List Value) (E:XK) (k:Nat) (a_0:x= .ref f) (a_1:zC X.prog X.w X.K X.mg X.base CX k f fd ps sp) (a_2:Room k X.A) (a_3:PySem.W.keepIn X.K (.ref f)=true) (a_4:Binds X.K fd ps ds) (a_5:Vals dvs ds) (a_6:Passes CX X E) (a_7:t σ H1 fun vs H2=>sp (vs++dvs) H2 Q E):bM X CX t σ Q x H1
def qN9(X:Cx)(CX:CXT)(tf:TE)(t:TA):TE:=fun σ H Q=>tf σ H fun x H1=>bM X CX t σ Q x H1
theorem uH(hf:PE X func tf)(ha:PA X (e::es) t)(hc:eval (.Call func (e::es) [] pos) X.env=(do callWith pos (<-eval func X.env) [] (backTo pos (starEach (e::es) X.env)) (backToKw pos (keywordEach [] X.env))):=by rfl)
  (he:starEach (e::es) X.env=(false,eval e X.env)::starEach es X.env:=by rfl)(hpl:(backTo pos (starEach es X.env)).any (·.1)=false:=by rfl):
  PE X (.Call func (e::es) [] pos) (qN9 X CX tf t):=by
 intro pins s σ H Q I h
 refine Call_ (thn (hf pins s σ H _ I h) fun u s0⟨x,H0,I0,rx,f,fd,ps,sp,dvs,ds,E,k,ex,F,hr,hk,hb,hd,hx,q⟩=>?_) hc
 subst ex
 obtain rfl:u=Value.ref f:=rx
 exact PySem.W.callWith_K (h₀:=X.base) I.ok.mod.kin hk (thn (ha pos pins s0 σ H0 _ I0 q) fun us s1⟨vs,H1,I1,r,q1⟩=>⟨I1.kIn,rD F hr hb hd hx I1 r q1⟩) he hpl
theorem bB{K:Fg}{H:Hp}:∀{ds:List Dt}{vs:List V},qR K H ds vs->∀v∈vs,∃d∈ds,qU K H d v
 |[],_,h=>by rw[qR]at h;subst h;intro v hv;cases hv
 |d::ds,_,h=>by
  rw[qR]at h
  obtain⟨v,r,rfl,h2,h3⟩:=h
  intro w hw
  rcases List.mem_cons.mp hw with rfl|hw
  ·exact⟨d,aq22,h2⟩
  ·obtain⟨d',m,x⟩:=bB h3 w hw
   exact⟨d',aq10 _ m,x⟩
theorem qNq:wQ X (compareOp .Eq) (fun x y H Q=>∃p q xs ys ds es,x= .ref p/\y= .ref q/\zV X.K H p xs/\zV X.K H q ys/\qR X.K H ds xs/\qR X.K H es ys/\X.A.units+1+deps ds<cLine/\Q (.bl (eqDs ds es)) H):=by
 intro pins s σ H x y v u Q I rx ry h
 obtain⟨p,q',xs,ys,ds,es,rfl,rfl,h1,h2,d1,d2,hu,q⟩:=h
 cases rx
 cases ry
 obtain⟨its,r1,p1,_⟩:=I.list h1
 obtain⟨its2,r2,p2,_⟩:=I.list h2
 have l1:its.length=ds.length:=by rw[<-r1.length,d1.length]
 have l2:its2.length=es.length:=by rw[<-r2.length,d2.length]
 have hu':X.A.units<cLine:=by omega
 by_cases hl:ds.length=es.length
 ·have key:=SeqAt.eq_listAt (prog:=X.prog) (w:=X.w) (A:=X.A) (E:=X.xe) (Q:=EP X pins σ Q) (e:=fun j=>eqD (ds.getD j .non) (es.getD j .non)) p1.isList p2.isList (by simp;omega) hu' (fun j h1 h2'=>by
   have :=wH I ds es X.A.in1 xs ys its its2 (by show X.A.units+1+deps ds<cLine;omega) d1 d2 r1 r2 j (by simpa using h1) (by simpa using h2')
   simpa using this)
  refine key ⟨.bl (eqDs ds es),H,I,?_,q⟩
  rw[aq18,l1,<-vV .non ds es,hl,Nat.min_self]
  simp
  rfl
 ·refine SeqAt.eq_list_lengthsAt p1.isList p2.isList (by simp;omega) hu' ⟨.bl false,H,I,rfl,?_⟩
  have :eqDs ds es=false:=by
   cases e:eqDs ds es with
   |false=>rfl
   |true=>exact absurd (yH e) hl
  rw[this]at q
  exact q
def rY:Dt->String
 | .non=>"NoneType"
 | .bl _=>"bool"
 | .int _=>"int"
 | .str _=>"str"
 | .tup _=>"tuple"
theorem vW:kJ X (.builtin "isinstance") (fun xs H Q=>∃d x n b,xs=[x,.ty n]/\qU X.K H d x/\PySem.W.kitOne X.K (.type (rY d)) (.type n)=some b/\Q (.bl b) H):=by
 intro pins s σ H xs us Q I r h
 obtain⟨d,x,n,b,rfl,hd,ko,q⟩:=h
 obtain⟨u,u2,rfl,r1,r2⟩:=vals2 r
 cases r2
 have fin:∀tk,EP X pins σ Q (.bool b) {s with toks:=tk}:=fun tk=>⟨.bl b,H,I.tok tk,rfl,q⟩
 cases d with
 |non=>rw[qU]at hd;subst hd;cases r1;exact PySem.W.kia_one PySem.W.kitx_none I.kIn True.intro ko (fun z=>nomatch z) fin
 |bl y=>rw[qU]at hd;subst hd;cases r1;exact PySem.W.kia_one PySem.W.kitx_bool I.kIn True.intro ko (fun z=>nomatch z) fin
 |int y=>rw[qU]at hd;subst hd;obtain⟨t,rfl⟩:=r1;exact PySem.W.kia_one PySem.W.kitx_int I.kIn True.intro ko (fun z=>nomatch z) fin
 |str y=>rw[qU]at hd;subst hd;obtain⟨t,rfl⟩:=r1;exact PySem.W.kia_one PySem.W.kitx_str I.kIn True.intro ko (fun z=>nomatch z) fin
 |tup ds=>
  obtain⟨a,its,rfl,ht,_⟩:=jX I hd r1
  obtain⟨o,h1,h2,_⟩:=ht
  exact PySem.W.kia_one PySem.W.kitx_tuple I.kIn ⟨o,h1,h2⟩ ko (fun z=>nomatch z) fin
theorem sH{d:Dt}:∀{ds:List Dt},d∈ds->dep d<=deps ds
 |[],h=>by cases h
 |e::es,h=>by
  rw[deps]
  rcases List.mem_cons.mp h with rfl|h
  ·omega
  ·have :=sH h;omega
def qV1(x:Dt)(ds:List Dt):Bool:=ds.any fun d=>eqD d x
theorem sP{H:Hp}{pins:List (Addr×Obj)}{σ:St}{s:Shared}(I:Inv X pins σ H s)(A:Around)(x:Dt)(xv:V)(xu:Value)(hx:qU X.K H x xv)(rx:zY xv xu):∀{ds:List Dt}{vs:List V}{us:List Value},qR X.K H ds vs->Vals vs us->A.units+deps ds<cLine->
  ∃f:Value->Bool,(∀u∈us,SeqAt.EqAt A s u xu (f u))/\us.map f=ds.map fun d=>eqD d x:=by
 classical
 intro ds vs us hd hv hu
 have one:∀u∈us,∃d∈ds,∃v,qU X.K H d v/\zY v u:=by
  intro u hu'
  obtain⟨i,hi,e⟩:=List.getElem_of_mem hu'
  have hl:=hv.length
  have hi':i<vs.length:=by omega
  obtain⟨d,hdm,hdv⟩:=bB hd vs[i] (List.getElem_mem hi')
  obtain⟨u',h1,h2⟩:=hv.get (aq15 hi')
  rw[aq15 hi,e]at h1
  cases h1
  exact⟨d,hdm,vs[i],hdv,h2⟩
 refine⟨fun u=>if h:∃d v,qU X.K H d v/\zY v u then eqD h.choose x else false,fun u hu'=>?_,?_⟩
 ·obtain⟨d,hdm,v,h1,h2⟩:=one u hu'
  have hex:∃d v,qU X.K H d v/\zY v u:=⟨d,v,h1,h2⟩
  show SeqAt.EqAt A s u xu (if h:∃d v,qU X.K H d v/\zY v u then eqD h.choose x else false)
  rw[dif_pos hex]
  obtain⟨v',g1,g2⟩:=hex.choose_spec
  have ev:v'=v:=g2.inj h2
  subst ev
  have ed:=cK I g1 h1
  rw[ed]
  have hdep:dep d<=deps ds:=sH hdm
  exact sM I d x A _ xv u xu (by omega) h1 hx h2 rx
 ·clear one hu
  induction ds generalizing vs us with
  |nil=>rw[qR]at hd;subst hd;cases hv;rfl
  |cons d ds ih=>
   rw[qR]at hd
   obtain⟨v,r,rfl,h2,h3⟩:=hd
   cases hv with
   | @cons _ u _ us' p q=>
    rw[List.map_cons,List.map_cons,ih h3 q]
    congr 1
    have hex:∃d v,qU X.K H d v/\zY v u:=⟨d,v,h2,p⟩
    rw[dif_pos hex]
    obtain⟨v',g1,g2⟩:=hex.choose_spec
    have ev:v'=v:=g2.inj p
    subst ev
    rw[cK I g1 h2]
theorem wP{α:Type}(f:α->Bool)(l:List α):l.any f=(l.map f).any id:=by rw[List.any_map];rfl
theorem qNz:wQ X (compareOp .In) (fun x y H Q=>∃p xs d ds,y= .ref p/\zV X.K H p xs/\qU X.K H d x/\qR X.K H ds xs/\X.A.units+1+deps ds<cLine/\Q (.bl (qV1 d ds)) H):=by
 intro pins s σ H x y v u Q I rx ry h
 obtain⟨p,xs,d,ds,rfl,hq,hd,hds,hu,q⟩:=h
 cases ry
 obtain⟨its,r,pl,hz⟩:=I.list hq
 obtain⟨f,hf,hm⟩:=sP I X.A.in1 d x v hd rx hds r (by show X.A.units+1+deps ds<cLine;exact hu)
 refine SeqAt.in_listAt f pl.isList (fun w hw=>hf w (by simpa using hw)) ⟨.bl _,H,I,rfl,?_⟩
 have e:its.toArray.any f=qV1 d ds:=by
  rw[show its.toArray.any f=its.any f by simp,wP,hm]
  unfold qV1
  rw[<-wP]
 rw[e]
 exact q
theorem nJ:kJ X (.type "dict") (fun xs H Q=>∃a kvs,xs=[.ref a]/\H a=some (.dK kvs)/\∀b,H b=none->Q (.ref b) (upd H b (.dK kvs))):=by
 intro pins s σ H xs us Q I r h
 obtain⟨a,kvs,rfl,ha,q⟩:=h
 obtain⟨u,rfl,r1⟩:=vals1 r
 cases r1
 obtain⟨hz,hS,vs,rel,m⟩:kvs.length<=sizeLine/\(a==sysModules)=false/\∃vs,KV kvs vs/\s.heap.DictOf (zT X.prog X.w) a vs:=I.hok a _ ha
 have hlen:kvs.length=vs.length:=Paired.length rel
 refine kt_call_dict hS m (by omega) fun h' hd hs=>?_
 have na:H s.heap.objs.size=none:=I.hok.fresh (aq7 _)
 refine⟨.ref s.heap.objs.size,_,I.laid (t':=s.toks) (o:=.dK kvs) (fun b u e=>(hs.2 b (aq9 (aq8 e))).trans (aq13 _ e)) (aq7 _) ⟨hz,beq_eq_false_iff_ne.mpr (Ne.symm (aq9 I.big)),vs,rel,hd⟩,rfl,q _ na⟩
end
end L2
namespace L2
open PySem PySem.Spec PyProof.Rows PyProof
theorem Inv.turnedL{X:Cx}{pins:List (Addr×Obj)}{σ:St}{H:Hp}{s:Shared}{h':Heap}{t':Nat}{ch:List Addr}(I:Inv X pins σ H s)(k:∀b o,b∉ch->s.heap.get? b=some o->h'.get? b=some o)(f:∀b∈ch,kL X pins H b):
  Inv X pins σ H {s with heap:=h',toks:=t'}:=by
 have nit:∀b u,H b=some u->b∉ch:=fun b u e z=>by rw[(f b z).1]at e;cases e
 have nl:X.env.locals∉ch:=fun z=>(f _ z).2.1 rfl
 refine I.step (g':=s.gens) (d':=s.drawn) (ch:=ch) (fun b hb=>let⟨_,a2,_,a4,a5,a6⟩:=f b hb;⟨a4,a2,a5,a6⟩) (fun b o _ _ hc e _=>k b o hc e) (fun b o _ _ hc e _=>⟨o.slots,k b o hc e⟩) (fun _ _ _ _ n=>n)
  (fun b o hc e=>⟨o,k b o hc e⟩) (fun _ _ e=>e) (fun _ _ _ e=>e) (fun b ps e=>⟨#[],by rw[e];simp⟩) (fun m hm=>?_) (fun b u e=>?_) I.bare
 ·obtain⟨o,es,ep,ho,r⟩:=hm
  exact⟨o,es,ep,k _ o nl ho,r⟩
 ·refine(I.hok b u e).stay (fun c v hc q=>k c v ?_ q) (fun _ q=>q) fun _ _ q=>q
  rcases hc with z|z
  ·rw[z];exact nit b u e
  ·exact nit c _ z
inductive sR(K:Fg)(t:TA)(σ:St)(Q:VK)(x:V)(H1:Hp):Prop
 |mk (a:_) (D:_) (a_0:x= .ref a) (a_1:oB K a D) (a_2:t σ H1 fun xs H2=>∃k dv,xs=[.str k,dv]/\Q ((KTD.datumAt k D).getD dv) H2):sR K t σ Q x H1
def qTj(K:Fg)(to:TE)(t:TA):TE:=fun σ H Q=>to σ H fun x H1=>sR K t σ Q x H1
theorem qV2{X:Cx}{o e d:Expr}{to:TE}{t:TA}{apos cpos:Pos}(ho:PE X o to)(ha:PA X [e,d] t)
  (hbase:attributeBase o "get" X.env (eval o X.env)=eval o X.env:=by rfl)
  (hfew:((backTo cpos (starEach [e,d] X.env)).all (fun x=> !x.1)&&(backToKw cpos (keywordEach [] X.env)).all (fun x=>x.1.isSome)&&decide ([e,d].length+([]:List Keyword).length+(if([]:List Keyword).isEmpty then 0 else 1)<30))=true:=by rfl)
  (hline:(apos.endLine==cpos.line)=true:=by rfl)(hs:starEach [e,d] X.env=(false,eval e X.env)::starEach [d] X.env:=by rfl)(hplain:(backTo cpos (starEach [d] X.env)).any (·.1)=false:=by rfl):
  PE X (.Call (.Attribute o "get" apos) [e,d] [] cpos) (qTj X.K to t):=by
 intro pins s σ H Q I h
 refine wpAny_Call_method_late hbase hfew hline rfl (thn (ho pins s σ H _ I h) fun v s1⟨x,H1,I1,r1,q1⟩=>?_)
 obtain⟨a,D,rfl,⟨lo,ob,es,ep,lk,hc,hd,hr⟩,q1⟩:=q1
 cases r1
 refine⟨"dict","dict.get",PySem.F.plainAttrs_dict,PySem.F.slot_dict_get,PySem.F.type_dict_get,⟨ob,I1.kIn _ _ lk,hc.1⟩,fun b z=>?_,?_⟩
 ·cases z
  exact⟨ob,I1.kIn _ _ lk,hc.2.1⟩
 have hA:=ha cpos pins s1 σ H1 _ I1 q1
 rw[hs]at hA⊢
 refine Calls.callWith_builtin (by show(false||(backTo cpos (starEach [d] X.env)).any (·.1))=false;rw[hplain]<;>rfl) (Calls.evalArgs_plain (thn hA fun us s2⟨vs,H2,I2,r2,q2⟩=>?_))
 obtain⟨k,dv,rfl,q⟩:=q2
 obtain⟨u1,u2,rfl,⟨tk,rfl⟩,rd⟩:=Vals.two r2
 have hob:=I2.kIn _ _ lk
 refine wpAny_call_entry PySem.F.slot_dict_get ⟨ob,hob,hc.1⟩ PySem.F.entry_dict_get ?_ (PySem.F.args_dict_get_3 _ _ _)
 show wpAny _ _ (dictGet a (.str k tk)>>=_) _ _ s2
 refine wpAny_bind (lL hob hd hr (fun v u e ru=>?_) fun e=>?_)
 ·rw[e]at q
  exact wpAny_pure ⟨_,rfl,v,H2,I2.tok _,ru,q⟩
 ·rw[e]at q
  show wpAny _ _ (Builtin.Dict.missed a (.str k tk)>>=_) _ _ _
  exact wpAny_bind (wpAny_missed_other lo (wpAny_pure ⟨_,rfl,dv,H2,I2.tok _,rd,q⟩))
def Ite(K:Fg)(l:Addr):It:=⟨fun i H=>∃xs x,zV K H l xs/\xs[i]? =some x,
 fun i H v H'=>∃T x,H T=none/\v= .ref T/\H'=upd H T (.tup [.int i,x])/\∀ys,zV K H l ys->ys[i]? =some x,
 fun i H=>∃xs,zV K H l xs/\xs.length<=i⟩
theorem wR{h:Heap}{a:Addr}{o:Obj}(e:h.get? a=some o):a≠h.objs.size:=aq9 (aq8 e)
theorem pN{P:Program}{w:World}{K:Fg}{es:List Expr}{k0}{pos:Pos}(l e it:Addr)(ne:e≠it):Turn P w K (.Tuple es k0 pos) (Ite K l) [e,it] e (fun i h=>(∃old,IsEnum h e it i old)/\h.IsListIter it l i)where
 mem:=by simp
 obj:=fun i h st b hb=>by
  obtain⟨⟨old,e1⟩,o,e2,c2,d2⟩:=st
  rcases List.mem_cons.mp hb with z|z
  ·rw[z];exact⟨_,e1,fun v z=>by cases z⟩
  ·rw[aq20.mp z];exact⟨o,e2,fun v z=>by rw[d2]at z;cases z⟩
 keep:=fun i h h' st k=>⟨st.1.imp fun old q=>k e (by simp) _ q,st.2.at fun o q=>k it (by simp) o q⟩
 item:=by
  intro X hP hw hK hc i pins s σ H E I hf st hg
  subst hP hw hK
  obtain⟨xs,x,hq,hx⟩:=hg
  obtain⟨its,rv,p,hz⟩:=I.list hq
  obtain⟨u,hu,ru⟩:=rv.get hx
  obtain⟨⟨old,e1⟩,e2⟩:=st
  refine wpAny_pyNext_enum_item e1 e2 p.isList (x:=u) (by simpa using hu) ne fun h1 o1 i1 t1 z1 k1=>⟨_,rfl,wpAny_letOwnedTupleGo_enum o1 fun h2 o2 b2=>?_⟩
  have e3:e≠s.heap.objs.size:=wR e1
  have e4:it≠s.heap.objs.size:=by obtain⟨o,q,_⟩:=e2;exact wR q
  have nT:H s.heap.objs.size=none:=I.hok.fresh (aq7 _)
  have t2:h2.get? s.heap.objs.size=some {cls:=.type "tuple",data:=.seq #[.int i s.toks,u]}:=(b2.2 _ (Ne.symm e3)).trans t1
  have I1:Inv X pins σ (upd H s.heap.objs.size (.tup [.int i,x])) {s with heap:=s.heap.push {cls:=.type "tuple",data:=.seq #[.int i s.toks,u]},toks:=s.toks+1}:=
   I.laid (fun b v q=>aq13 _ q) (aq7 _) ⟨by show 2<=sizeLine;decide,[.int i s.toks,u],.cons ⟨_,rfl⟩ (.cons ru .nil),⟨_,aq14 _ rfl,rfl,_,rfl⟩⟩
  have I2:Inv X pins σ (upd H s.heap.objs.size (.tup [.int i,x])) {s with heap:=h2,toks:=s.toks+1}:=by
   refine Inv.turnedL (s:={s with heap:=s.heap.push {cls:=.type "tuple",data:=.seq #[.int i s.toks,u]},toks:=s.toks+1}) (ch:=[e,it]) (t':=s.toks+1) I1 (fun b o hb q=>?_) fun b hb=>?_
   ·have b1:b≠e:=fun z=>hb (by simp[z])
    have b3:b≠it:=fun z=>hb (by simp[z])
    by_cases bT:b=s.heap.objs.size
    ·subst bT
     have z:(s.heap.push {cls:=.type "tuple",data:=.seq #[.int i s.toks,u]}).get? s.heap.objs.size=some _:=aq14 _ rfl
     rw[z]at q
     exact t2.trans q
    ·have q':s.heap.get? b=some o:=by rw[<-q];exact(Heap.get?_push_ne _ _ _ bT).symm
     exact(b2.2 b b1).trans (k1 b o b1 b3 q')
   ·obtain⟨f0,f1⟩:=hf b hb
    refine⟨?_,f1⟩
    rw[qC ?_]
    ·exact f0
    ·rcases List.mem_cons.mp hb with z|z
     ·rw[z];exact e3
     ·rw[aq20.mp z];exact e4
  refine⟨.ref s.heap.objs.size,_,I2,rfl,⟨s.heap.objs.size,x,nT,rfl,rfl,fun ys hy=>by rw[I.list_inj hy hq];exact hx⟩,⟨⟨u,by simpa using o2⟩,i1.at fun o q=>(b2.2 it (Ne.symm ne)).trans q⟩,fun b hb=>?_⟩
  rw[qC ?_]
  ·exact(hf b hb).1
  ·rcases List.mem_cons.mp hb with z|z
   ·rw[z];exact e3
   ·rw[aq20.mp z];exact e4
 done:=by
  intro X hP hw hK hc i pins s σ H E I hf st hg
  subst hP hw hK
  obtain⟨xs,hq,hx⟩:=hg
  obtain⟨its,rv,p,hz⟩:=I.list hq
  have hl:=rv.length
  obtain⟨⟨old,e1⟩,e2⟩:=st
  exact wpAny_pyNext_enum_end (I.ok.hd hc) e1 e2 p.isList (by simp;omega) fun h' eb=>⟨rfl,I.turnedL (t':=s.toks) (ch:=[e,it]) (fun b o hb q=>eb b o (fun z=>hb (by simp[z])) q) hf⟩
 self:=fun _ _ _ _ _ st h=>let⟨⟨_,e1⟩,_⟩:=st;wpAny_pyIter_enum e1 h
def qA0(K:Fg)(ta:TA):TI:=fun σ H R=>ta σ H fun vs H1=>∃l,vs=[.ref l]/\(∃xs,zV K H1 l xs)/\R (Ite K l) H1
theorem bD{X:Cx}{a:Expr}{ta:TA}{p pos p2:Pos}{es:List Expr}{k0}(hg:Gl X "enumerate")(hm:X.mg "enumerate"=none)(ha:PA X [a] ta)(hs:starEach [a] X.env=[(false,eval a X.env)]:=by rfl):
  PI X (.Tuple es k0 p2) (.Call (.Name "enumerate" p) [a] [] pos) (qA0 X.K ta):=by
 intro pins s σ H R I h
 refine Call_ (kE I hg hm boot_enumerate (PyProof.Rows.callWith_type1 (thn (ha pos pins s σ H _ I h) fun us s1⟨vs,H1,I1,r1,q1⟩=>?_) hs rfl))
 obtain⟨l,rfl,⟨xs,hq⟩,q⟩:=q1
 obtain⟨u,rfl,ru⟩:=vals1 r1
 cases ru
 obtain⟨its,rv,pl,hz⟩:=I1.list hq
 refine call_enumerate_list pl.isList fun h' e1 e2 sz kp=>wpAny_pyIter_enum e1 ?_
 refine⟨_,[s1.heap.objs.size+1,s1.heap.objs.size],_,_,H1,rfl,I1.kept (t':=s1.toks) kp,pN l _ _ (Nat.succ_ne_self _),⟨⟨_,e1⟩,e2⟩,fun b hb=>?_,q⟩
 have hb':s1.heap.objs.size<=b:=by
  rcases List.mem_cons.mp hb with z|z
  ·rw[z];exact Nat.le_succ _
  ·rw[aq20.mp z];exact aq7 _
 exact I1.fpOk hb' (I1.hok.fresh hb')
structure Nx(P:Program)(w:World)(it:Addr)(xs:Array Value)(dp:List Addr)(N:Nat->Heap->Prop):Prop where
 stay:∀k h h',N k h->(∀b∈dp,∀o,h.get? b=some o->h'.get? b=some o)->N k h'
 item:∀(A:Around)(E:Value->Shared->Prop)(s:Shared)(k:Nat)(x:Value)(Q:Value->Shared->Prop),N k s.heap->xs[k]? =some x->(∀g,N (k+1) g->Heap.SameBut it s.heap g->Q x {s with heap:=g})->wpAny (model P w) A (Builtin.SmallTypes.nextOf (.ref it)) Q E s
 fin:∀(A:Around)(E:Value->Shared->Prop)(s:Shared)(k:Nat)(Q:Value->Shared->Prop),A.handled=none->N k s.heap->xs[k]? =none->(∀g e,Heap.ExtBut it s.heap g->(∃o,g.get? e=some o/\o.cls= .type "StopIteration")->E (.ref e) {s with heap:=g})->
  wpAny (model P w) A (Builtin.SmallTypes.nextOf (.ref it)) Q E s
theorem wS(P:Program)(w:World)(it t:Addr)(xs:Array Value)(ne:t≠it):Nx P w it xs [it,t] (fun k h=>h.IsTupleIter it t k/\h.IsTuple t xs)where
 stay:=fun k h h' st f=>by
  obtain⟨⟨o,a1,a2⟩,⟨o',b1,b2⟩⟩:=st
  exact⟨⟨o,f it (by simp) o a1,a2⟩,⟨o',f t (by simp) o' b1,b2⟩⟩
 item:=by
  intro A E s k x Q st ex go
  obtain⟨ti,tt⟩:=st
  obtain⟨o,ob,oc,od⟩:=id ti
  obtain⟨u,ub,uc,un,ud⟩:=id tt
  unfold Builtin.SmallTypes.nextOf
  refine wpAny_bind (wpAny_callSpecial?_slot (name:=Str.ofString "__next__") ti.typeIs F.slot_tuple_iterator_next (wpAny_call_entry F.slot_tuple_iterator_next ti.typeIs F.entry_tuple_iterator_next ?_ (F.args_tuple_iterator_next_1 _)))
  show wpAny _ _ (field (.ref it) 0>>=_) _ _ s
  refine wpAny_bind (wpAny_field ob od (x:=.ref t) rfl ?_)
  show wpAny _ _ (if(Value.ref t==Value.none)=true then _ else _) _ _ s
  rw[if_neg (by intro z;cases z)]
  show wpAny _ _ (field (.ref it) 1>>=_) _ _ s
  refine wpAny_bind (wpAny_field ob od (x:=.int k 0) rfl ?_)
  show wpAny _ _ (seqItems? (.ref t)>>=_) _ _ s
  refine wpAny_bind (wpAny_seqItems ub ud ?_)
  simp only[Int.toNat_natCast,ex]
  refine wpAny_bind (wpAny_setField ob od (by simp) (wpAny_pure ⟨x,rfl,wpAny_pure (go _ ⟨?_,tt.extBut (Heap.SameBut.update ..).extBut ne⟩ (Heap.SameBut.update ..))⟩))
  exact⟨_,Heap.get?_update_self _ ob (Obj.isFreed_of_fields (Obj.data_mapFields od _)),(Obj.cls_mapFields ..).trans oc,by rw[Obj.data_mapFields od];simp[rawInt]⟩
 fin:=by
  intro A E s k Q hh st ex go
  obtain⟨ti,tt⟩:=st
  obtain⟨o,ob,oc,od⟩:=id ti
  obtain⟨u,ub,uc,un,ud⟩:=id tt
  unfold Builtin.SmallTypes.nextOf
  refine wpAny_bind (wpAny_callSpecial?_slot (name:=Str.ofString "__next__") ti.typeIs F.slot_tuple_iterator_next (wpAny_call_entry F.slot_tuple_iterator_next ti.typeIs F.entry_tuple_iterator_next ?_ (F.args_tuple_iterator_next_1 _)))
  show wpAny _ _ (field (.ref it) 0>>=_) _ _ s
  refine wpAny_bind (wpAny_field ob od (x:=.ref t) rfl ?_)
  show wpAny _ _ (if(Value.ref t==Value.none)=true then _ else _) _ _ s
  rw[if_neg (by intro z;cases z)]
  show wpAny _ _ (field (.ref it) 1>>=_) _ _ s
  refine wpAny_bind (wpAny_field ob od (x:=.int k 0) rfl ?_)
  show wpAny _ _ (seqItems? (.ref t)>>=_) _ _ s
  refine wpAny_bind (wpAny_seqItems ub ud ?_)
  simp only[Int.toNat_natCast,ex]
  refine wpAny_bind (wpAny_rule (wpAny_bind (wpAny_setField ob od (by simp) ?_)))
  show wpAny _ _ (newExc (.type "StopIteration") []>>=_) _ _ _
  refine wpAny_bind ?_
  simp only[newExc,newTuple]
  refine wpAny_bind (wpAny_newObj_type ?_ (by size_fits))
  refine wpAny_bind (m:=firstArgMember _ _) (wpAny_of_eq (a:=Value.none) (by first|rfl|(simp only[firstArgMember];rfl)) ?_)
  refine wpAny_newObj_type ?_ (by size_fits)
  simp only[raiseNew]
  refine wpAny_bind (wpAny_handled ?_)
  first|rw[show A.in1.handled=none from hh]|rw[hh]
  refine wpAny_bind (wpAny_pure (wpAny_throw ?_))
  exact go _ _ (((Heap.SameBut.update ..).extBut.push _).push _) ⟨_,aq14 _ rfl,rfl⟩
structure ZAp(z p q i j:Addr)(d1 d2:List Addr):Prop where
 pz:p≠z
 qz:q≠z
 iz:i≠z
 jz:j≠z
 pq:p≠q
 pi:p≠i
 pj:p≠j
 qi:q≠i
 qj:q≠j
 ij:i≠j
 z1:z∉d1
 q1:q∉d1
 j1:j∉d1
 z2:z∉d2
 q2:q∉d2
 i2:i∉d2
section
variable {P:Program} {w:World} {A:Around} {E:Value->Shared->Prop} {s:Shared} {z p q i j:Addr} {xs ys:Array Value} {d1 d2:List Addr} {N1 N2:Nat->Heap->Prop}
theorem xO{d:List Addr}{b c:Addr}(h:c∉d)(m:b∈d):b≠c:=fun e=>h (e▸m)
theorem qV3{k:Nat}{x y a b:Value}{Q:Value->Shared->Prop}(D:ZAp z p q i j d1 d2)(n1:Nx P w i xs d1 N1)(n2:Nx P w j ys d2 N2)(zo:IsZip s.heap z p q .none)(po:IsPair s.heap p (.ref i) (.ref j))(qo:IsPair s.heap q a b)
  (st1:N1 k s.heap)(st2:N2 k s.heap)(ex:xs[k]? =some x)(ey:ys[k]? =some y)
  (go:∀g,IsZip g z p q (rawInt s.heap.objs.size)->IsPair g q x y->N1 (k+1) g->N2 (k+1) g->IsPair g s.heap.objs.size x y->(∀c o,c∉[z,q,i,j]->s.heap.get? c=some o->g.get? c=some o)->Q (.ref s.heap.objs.size) {s with heap:=g})
  (zi:i<s.heap.objs.size)(zj:j<s.heap.objs.size)(m1:∀c∈d1,c<s.heap.objs.size)(m2:∀c∈d2,c<s.heap.objs.size):
  wpAny (model P w) A (Builtin.«zip.__next__» ⟨[.ref z],[]⟩) (fun fin s'=>∃v,fin= .done (.ret v)/\Q v s') E s:=by
 have zl:z<s.heap.objs.size:=aq8 zo
 have ql:q<s.heap.objs.size:=aq8 qo
 show wpAny _ _ (field (.ref z) 2>>=_) _ _ _
 refine wpAny_bind (wpAny_field zo rfl (x:=.bool false) rfl ?_)
 show wpAny _ _ (field (.ref z) 3>>=_) _ _ _
 refine wpAny_bind (wpAny_field zo rfl (x:=.ref p) rfl ?_)
 refine wpAny_bind (wpAny_seqItems po rfl ?_)
 show wpAny _ _ (Builtin.SmallTypes.ownedTupleIsFree (.ref z)>>=_) _ _ _
 refine wpAny_bind ?_
 unfold Builtin.SmallTypes.ownedTupleIsFree
 refine wpAny_bind (wpAny_field zo rfl (x:=.none) rfl (wpAny_pure ?_))
 simp only[if_true]
 refine wpAny_bind (wpAny_rule (wpAny_bind (wpAny_field zo rfl (x:=.ref q) rfl ?_)))
 refine wpAny_bind (wpAny_setField_rec zo (by simp) fun g1 w1 b1=>?_)
 replace w1:IsZip g1 z p q .ellipsis:=w1
 refine wpAny_bind ?_
 simp only[List.zipIdx_cons,List.zipIdx_nil,List.forIn_cons,List.forIn_nil]
 refine wpAny_bind (wpAny_bind (wpAny_onRaise ?_))
 show wpAny _ _ (Builtin.SmallTypes.nextOf (.ref i)>>=_) _ _ _
 have a1:N1 k g1:=n1.stay _ _ _ st1 fun c hc o e=>b1.extBut _ _ (xO D.z1 hc) e
 refine wpAny_bind (n1.item _ _ _ _ _ _ a1 ex fun g2 a2 b2=>wpAny_pure ?_)
 have q2:IsPair g2 q a b:=b2.extBut _ _ D.qi (b1.extBut _ _ D.qz qo)
 refine wpAny_bind (wpAny_seqItems q2 rfl (wpAny_bind (wpAny_updateSeq_pair q2 fun g3 q3 b3=>?_)))
 replace q3:IsPair g3 q x b:=q3
 refine wpAny_bind (wpAny_letGo (wpAny_pure ?_))
 refine wpAny_bind (wpAny_bind (wpAny_onRaise ?_))
 show wpAny _ _ (Builtin.SmallTypes.nextOf (.ref j)>>=_) _ _ _
 have c3:N2 k g3:=n2.stay _ _ _ st2 fun c hc o e=>b3.extBut _ _ (xO D.q2 hc) (b2.extBut _ _ (xO D.i2 hc) (b1.extBut _ _ (xO D.z2 hc) e))
 refine wpAny_bind (n2.item _ _ _ _ _ _ c3 ey fun g4 c4 b4=>wpAny_pure ?_)
 have q4:IsPair g4 q x b:=b4.extBut _ _ D.qj q3
 refine wpAny_bind (wpAny_seqItems q4 rfl (wpAny_bind (wpAny_updateSeq_pair q4 fun g5 q5 b5=>?_)))
 replace q5:IsPair g5 q x y:=q5
 refine wpAny_bind (wpAny_letGo (wpAny_pure (wpAny_pure ?_)))
 refine wpAny_bind (wpAny_seqItems q5 rfl (wpAny_bind (wpAny_newTuple ?_)))
 have sz:g5.objs.size=s.heap.objs.size:=by rw[b5.1,b4.1,b3.1,b2.1,b1.1]
 have w5:IsZip g5 z p q .ellipsis:=b5.extBut _ _ D.qz.symm (b4.extBut _ _ D.jz.symm (b3.extBut _ _ D.qz.symm (b2.extBut _ _ D.iz.symm w1)))
 have k5:∀c o,c∉[z,q,i,j]->s.heap.get? c=some o->g5.get? c=some o:=fun c o hc e=>by
  simp only[List.mem_cons,List.not_mem_nil,or_false,not_or]at hc
  obtain⟨h1,h2,h3,h4⟩:=hc
  exact b5.extBut _ _ h2 (b4.extBut _ _ h4 (b3.extBut _ _ h2 (b2.extBut _ _ h3 (b1.extBut _ _ h1 e))))
 have a5:N1 (k+1) g5:=n1.stay _ _ _ a2 fun c hc o e=>b5.extBut _ _ (xO D.q1 hc) (b4.extBut _ _ (xO D.j1 hc) (b3.extBut _ _ (xO D.q1 hc) e))
 have c5:N2 (k+1) g5:=n2.stay _ _ _ c4 fun c hc o e=>b5.extBut _ _ (xO D.q2 hc) e
 show wpAny _ _ (Builtin.SmallTypes.ownedTupleHandOut (.ref z) (.ref g5.objs.size)>>=_) _ _ _
 refine wpAny_bind ?_
 unfold Builtin.SmallTypes.ownedTupleHandOut
 have w6:IsZip (g5.push {cls:=.type "tuple",data:=.seq #[x,y]}) z p q .ellipsis:=aq13 _ w5
 refine wpAny_bind (wpAny_setField_rec w6 (by simp) fun g7 w7 b7=>?_)
 replace w7:IsZip g7 z p q (rawInt g5.objs.size):=w7
 refine wpAny_setField_rec w7 (by simp) fun g8 w8 b8=>?_
 replace w8:IsZip g8 z p q (rawInt g5.objs.size):=w8
 have up:∀c o,c≠z->g5.get? c=some o->g8.get? c=some o:=fun c o c1 e=>b8.extBut _ _ c1 (b7.extBut _ _ c1 (aq13 _ e))
 have zn:g5.objs.size≠z:=by rw[sz];exact Ne.symm (aq9 zl)
 have t8:IsPair g8 g5.objs.size x y:=b8.extBut _ _ zn (b7.extBut _ _ zn (aq14 _ rfl))
 refine wpAny_pure ⟨_,rfl,?_⟩
 show Q (.ref g5.objs.size) _
 rw[sz]at w8 t8⊢
 exact go g8 w8 (up _ _ D.qz q5) (n1.stay _ _ _ a5 fun c hc o e=>up c o (xO D.z1 hc) e) (n2.stay _ _ _ c5 fun c hc o e=>up c o (xO D.z2 hc) e) t8 fun c o hc e=>up c o (fun h=>hc (by simp[h])) (k5 c o hc e)
theorem qNj{k:Nat}{a b:Value}{Q:Fin->Shared->Prop}(hh:A.handled=none)(D:ZAp z p q i j d1 d2)(n1:Nx P w i xs d1 N1)(n2:Nx P w j ys d2 N2)(zo:IsZip s.heap z p q .none)(po:IsPair s.heap p (.ref i) (.ref j))(qo:IsPair s.heap q a b)
  (st1:N1 k s.heap)(st2:N2 k s.heap)(ex:xs[k]? =none\/ys[k]? =none)
  (go:∀g e,(∀c o,c∉[z,q,i,j]->s.heap.get? c=some o->g.get? c=some o)->(∃o,g.get? e=some o/\o.cls= .type "StopIteration")->E (.ref e) {s with heap:=g}):
  wpAny (model P w) A (Builtin.«zip.__next__» ⟨[.ref z],[]⟩) Q E s:=by
 show wpAny _ _ (field (.ref z) 2>>=_) _ _ _
 refine wpAny_bind (wpAny_field zo rfl (x:=.bool false) rfl ?_)
 show wpAny _ _ (field (.ref z) 3>>=_) _ _ _
 refine wpAny_bind (wpAny_field zo rfl (x:=.ref p) rfl ?_)
 refine wpAny_bind (wpAny_seqItems po rfl ?_)
 show wpAny _ _ (Builtin.SmallTypes.ownedTupleIsFree (.ref z)>>=_) _ _ _
 refine wpAny_bind ?_
 unfold Builtin.SmallTypes.ownedTupleIsFree
 refine wpAny_bind (wpAny_field zo rfl (x:=.none) rfl (wpAny_pure ?_))
 simp only[if_true]
 refine wpAny_bind (wpAny_rule (wpAny_bind (wpAny_field zo rfl (x:=.ref q) rfl ?_)))
 refine wpAny_bind (wpAny_setField_rec zo (by simp) fun g1 w1 b1=>?_)
 replace w1:IsZip g1 z p q .ellipsis:=w1
 refine wpAny_bind ?_
 simp only[List.zipIdx_cons,List.zipIdx_nil,List.forIn_cons,List.forIn_nil]
 refine wpAny_bind (wpAny_bind (wpAny_onRaise ?_))
 show wpAny _ _ (Builtin.SmallTypes.nextOf (.ref i)>>=_) _ _ _
 have a1:N1 k g1:=n1.stay _ _ _ st1 fun c hc o e=>b1.extBut _ _ (xO D.z1 hc) e
 cases ex1:xs[k]?with
 |none=>
  refine wpAny_bind (n1.fin _ _ _ _ _ hh a1 ex1 fun g2 e b2 he=>?_)
  obtain⟨oe,e1,e2⟩:=he
  have w2:IsZip g2 z p q .ellipsis:=b2 _ _ D.iz.symm w1
  have ez:e≠z:=fun t=>by subst t;rw[w2]at e1;cases e1;simp at e2
  refine wpAny_setField_rec w2 (by simp) fun g3 _ b3=>go g3 e (fun c o hc r=>?_) ⟨oe,b3.extBut _ _ ez e1,e2⟩
  simp only[List.mem_cons,List.not_mem_nil,or_false,not_or]at hc
  obtain⟨h1,h2,h3,h4⟩:=hc
  exact b3.extBut _ _ h1 (b2 _ _ h3 (b1.extBut _ _ h1 r))
 |some x=>
  have ey:ys[k]? =none:=by
   rcases ex with h|h
   ·rw[ex1]at h;cases h
   ·exact h
  refine wpAny_bind (n1.item _ _ _ _ _ _ a1 ex1 fun g2 a2 b2=>wpAny_pure ?_)
  have q2:IsPair g2 q a b:=b2.extBut _ _ D.qi (b1.extBut _ _ D.qz qo)
  refine wpAny_bind (wpAny_seqItems q2 rfl (wpAny_bind (wpAny_updateSeq_pair q2 fun g3 q3 b3=>?_)))
  refine wpAny_bind (wpAny_letGo (wpAny_pure ?_))
  refine wpAny_bind (wpAny_bind (wpAny_onRaise ?_))
  show wpAny _ _ (Builtin.SmallTypes.nextOf (.ref j)>>=_) _ _ _
  have c3:N2 k g3:=n2.stay _ _ _ st2 fun c hc o e=>b3.extBut _ _ (xO D.q2 hc) (b2.extBut _ _ (xO D.i2 hc) (b1.extBut _ _ (xO D.z2 hc) e))
  refine wpAny_bind (n2.fin _ _ _ _ _ hh c3 ey fun g4 e b4 he=>?_)
  obtain⟨oe,e1,e2⟩:=he
  have w4:IsZip g4 z p q .ellipsis:=b4 _ _ D.jz.symm (b3.extBut _ _ D.qz.symm (b2.extBut _ _ D.iz.symm w1))
  have ez:e≠z:=fun t=>by subst t;rw[w4]at e1;cases e1;simp at e2
  refine wpAny_setField_rec w4 (by simp) fun g5 _ b5=>go g5 e (fun c o hc r=>?_) ⟨oe,b5.extBut _ _ ez e1,e2⟩
  simp only[List.mem_cons,List.not_mem_nil,or_false,not_or]at hc
  obtain⟨h1,h2,h3,h4⟩:=hc
  exact b5.extBut _ _ h1 (b4 _ _ h4 (b3.extBut _ _ h2 (b2.extBut _ _ h3 (b1.extBut _ _ h1 r))))
end
def Itz(K:Fg)(a b:Addr)(xs ys:List V):It:=⟨fun k H=>qA K H a xs/\qA K H b ys/\k<xs.length/\k<ys.length,
 fun k H v H'=>∃T x y,H T=none/\v= .ref T/\H'=upd H T (.tup [x,y])/\xs[k]? =some x/\ys[k]? =some y,
 fun k H=>qA K H a xs/\qA K H b ys/\(xs.length<=k\/ys.length<=k)⟩
def ZSt(z p q i j l1 l2:Addr)(k:Nat)(h:Heap):Prop:=IsZip h z p q .none/\IsPair h p (.ref i) (.ref j)/\(∃a b,IsPair h q a b)/\h.IsTupleIter i l1 k/\h.IsTupleIter j l2 k
theorem sS{P:Program}{w:World}{K:Fg}{es:List Expr}{k0}{pos:Pos}(z p q i j l1 l2:Addr)(xs ys:List V)(D:ZAp z p q i j [i,l1] [j,l2])(n1:l1≠i)(n2:l2≠j)(fr:p∉[z,q,i,j]):
  Turn P w K (.Tuple es k0 pos) (Itz K l1 l2 xs ys) [z,p,q,i,j] z (ZSt z p q i j l1 l2)where
 mem:=by simp
 obj:=fun k h st b hb=>by
  obtain⟨e1,e2,⟨a,c,e3⟩,⟨o4,e4,_,d4⟩,⟨o5,e5,_,d5⟩⟩:=st
  simp only[List.mem_cons,List.not_mem_nil,or_false]at hb
  rcases hb with rfl|rfl|rfl|rfl|rfl
  ·exact⟨_,e1,fun v z=>by cases z⟩
  ·exact⟨_,e2,fun v z=>by cases z⟩
  ·exact⟨_,e3,fun v z=>by cases z⟩
  ·exact⟨_,e4,fun v z=>by rw[d4]at z;cases z⟩
  ·exact⟨_,e5,fun v z=>by rw[d5]at z;cases z⟩
 keep:=fun k h h' st f=>by
  obtain⟨e1,e2,⟨a,c,e3⟩,⟨o4,e4,r4⟩,⟨o5,e5,r5⟩⟩:=st
  exact⟨f z (by simp) _ e1,f p (by simp) _ e2,⟨a,c,f q (by simp) _ e3⟩,⟨o4,f i (by simp) _ e4,r4⟩,⟨o5,f j (by simp) _ e5,r5⟩⟩
 item:=by
  intro X hP hw hK hc k pins s σ H E I hf st hg
  subst hP hw hK
  obtain⟨hq1,hq2,hx1,hx2⟩:=hg
  obtain⟨e1,e2,⟨a,c,e3⟩,e4,e5⟩:=st
  obtain⟨it1,rv1,p1,z1⟩:=I.tuple hq1
  obtain⟨it2,rv2,p2,z2⟩:=I.tuple hq2
  obtain⟨u1,hu1,ru1⟩:=rv1.get (aq15 hx1)
  obtain⟨u2,hu2,ru2⟩:=rv2.get (aq15 hx2)
  have lt1:∀{b:Addr}{o:Obj},s.heap.get? b=some o->b<s.heap.objs.size:=fun e=>aq8 e
  have li:i<s.heap.objs.size:=by obtain⟨o,e,_⟩:=e4;exact lt1 e
  have lj:j<s.heap.objs.size:=by obtain⟨o,e,_⟩:=e5;exact lt1 e
  have ll1:l1<s.heap.objs.size:=by obtain⟨o,e,_⟩:=p1;exact lt1 e
  have ll2:l2<s.heap.objs.size:=by obtain⟨o,e,_⟩:=p2;exact lt1 e
  have lz:=lt1 e1
  have lp:=lt1 e2
  have lq:=lt1 e3
  have tz:s.TypeIs (.ref z) "zip":=⟨_,e1,rfl⟩
  have nT:H s.heap.objs.size=none:=I.hok.fresh (aq7 _)
  have nf:∀b∈[z,p,q,i,j],b≠s.heap.objs.size:=fun b hb=>by
   simp only[List.mem_cons,List.not_mem_nil,or_false]at hb
   rcases hb with h|h|h|h|h
   ·rw[h];exact aq9 lz
   ·rw[h];exact aq9 lp
   ·rw[h];exact aq9 lq
   ·rw[h];exact aq9 li
   ·rw[h];exact aq9 lj
  unfold pyNext
  refine wpAny_bind (wpAny_attempt (wpAny_callSpecial?_slot (name:=Str.ofString "__next__") tz F.slot_zip_next (wpAny_call_entry F.slot_zip_next tz F.entry_zip_next
   (qV3 D (wS _ _ i l1 it1.toArray n1) (wS _ _ j l2 it2.toArray n2) e1 e2 e3 ⟨e4,p1⟩ ⟨e5,p2⟩ (by simpa using hu1) (by simpa using hu2) (fun g f1 f2 f3 f4 f5 f6=>wpAny_pure ?_) li lj (fun c hc=>?_) (fun c hc=>?_)) (F.args_zip_next_1 _))))
  rotate_left
  ·simp only[List.mem_cons,List.not_mem_nil,or_false]at hc
   rcases hc with rfl|rfl<;>omega
  ·simp only[List.mem_cons,List.not_mem_nil,or_false]at hc
   rcases hc with rfl|rfl<;>omega
  refine⟨_,rfl,wpAny_letOwnedTupleGo_zip f1 fun g' w' b'=>?_⟩
  have I1:Inv X pins σ (upd H s.heap.objs.size (.tup [xs[k],ys[k]])) {s with heap:=s.heap.push {cls:=.type "tuple",data:=.seq #[u1,u2]},toks:=s.toks}:=
   I.laid (fun b v e=>aq13 _ e) (aq7 _) ⟨by show 2<=sizeLine;decide,[u1,u2],.cons ru1 (.cons ru2 .nil),⟨_,aq14 _ rfl,rfl,_,rfl⟩⟩
  have I2:Inv X pins σ (upd H s.heap.objs.size (.tup [xs[k],ys[k]])) {s with heap:=g',toks:=s.toks}:=by
   refine Inv.turnedL (s:={s with heap:=s.heap.push {cls:=.type "tuple",data:=.seq #[u1,u2]},toks:=s.toks}) (ch:=[z,q,i,j]) (t':=s.toks) I1 (fun b o hb e=>?_) fun b hb=>?_
   ·have bz:b≠z:=fun h=>hb (by simp[h])
    by_cases bT:b=s.heap.objs.size
    ·subst bT
     have e':(s.heap.push {cls:=.type "tuple",data:=.seq #[u1,u2]}).get? s.heap.objs.size=some _:=aq14 _ rfl
     rw[e']at e
     exact((b'.2 _ bz).trans f5).trans e
    ·have e':s.heap.get? b=some o:=by rw[<-e];exact(Heap.get?_push_ne _ _ _ bT).symm
     exact(b'.2 b bz).trans (f6 b o hb e')
   ·have hb':b∈[z,p,q,i,j]:=by
     simp only[List.mem_cons,List.not_mem_nil,or_false]at hb⊢
     rcases hb with h|h|h|h<;>simp[h]
    obtain⟨f0,fr⟩:=hf b hb'
    exact⟨by rw[qC (nf b hb')];exact f0,fr⟩
  refine⟨.ref s.heap.objs.size,_,I2,rfl,⟨s.heap.objs.size,xs[k],ys[k],nT,rfl,rfl,aq15 hx1,aq15 hx2⟩,?_,fun b hb=>by rw[qC (nf b hb)];exact(hf b hb).1⟩
  have up:∀{b:Addr}{o:Obj},b≠z->g.get? b=some o->g'.get? b=some o:=fun h e=>(b'.2 _ h).trans e
  exact⟨w',up D.pz (f6 p _ fr e2),⟨_,_,up D.qz f2⟩,f3.1.extBut b'.extBut D.iz,f4.1.extBut b'.extBut D.jz⟩
 done:=by
  intro X hP hw hK hc k pins s σ H E I hf st hg
  subst hP hw hK
  obtain⟨hq1,hq2,hx⟩:=hg
  obtain⟨e1,e2,⟨a,c,e3⟩,e4,e5⟩:=st
  obtain⟨it1,rv1,p1,z1⟩:=I.tuple hq1
  obtain⟨it2,rv2,p2,z2⟩:=I.tuple hq2
  have h1:=rv1.length
  have h2:=rv2.length
  have tz:s.TypeIs (.ref z) "zip":=⟨_,e1,rfl⟩
  unfold pyNext
  refine wpAny_bind (wpAny_attempt (wpAny_callSpecial?_slot (name:=Str.ofString "__next__") tz F.slot_zip_next (wpAny_call_entry F.slot_zip_next tz F.entry_zip_next
   (qNj (I.ok.hd hc) D (wS _ _ i l1 it1.toArray n1) (wS _ _ j l2 it2.toArray n2) e1 e2 e3 ⟨e4,p1⟩ ⟨e5,p2⟩ (hx.imp (fun h=>by simp;omega) fun h=>by simp;omega) fun g e f6 he=>?_) (F.args_zip_next_1 _))))
  obtain⟨oe,e6,e7⟩:=he
  refine wpAny_bind (wpAny_isInstance (T:="StopIteration") (b:=true) ⟨oe,e6,e7⟩ isSubtype_stop (wpAny_pure ⟨rfl,?_⟩))
  exact I.turnedL (t':=s.toks) (ch:=[z,q,i,j]) f6 fun b hb=>hf b (by
   simp only[List.mem_cons,List.not_mem_nil,or_false]at hb⊢
   rcases hb with h|h|h|h<;>simp[h])
 self:=fun _ _ _ _ _ st h=>wpAny_pyIter_zip st.1 h
def zN(h:Heap)(l1 l2:Addr):Heap:=((((h.push {cls:=.type "tuple_iterator",data:=.fields #[.ref l1,.int 0 0]}).push {cls:=.type "tuple_iterator",data:=.fields #[.ref l2,.int 0 0]}).push
 {cls:=.type "tuple",data:=.seq #[.ref h.objs.size,.ref (h.push {cls:=.type "tuple_iterator",data:=.fields #[.ref l1,.int 0 0]}).objs.size]}).push {cls:=.type "tuple",data:=.seq #[.none,.none]}).push
 {cls:=.type "zip",data:=.fields #[.none,.bool false,.bool false,.ref ((h.push {cls:=.type "tuple_iterator",data:=.fields #[.ref l1,.int 0 0]}).push {cls:=.type "tuple_iterator",data:=.fields #[.ref l2,.int 0 0]}).objs.size,
  .ref (((h.push {cls:=.type "tuple_iterator",data:=.fields #[.ref l1,.int 0 0]}).push {cls:=.type "tuple_iterator",data:=.fields #[.ref l2,.int 0 0]}).push
   {cls:=.type "tuple",data:=.seq #[.ref h.objs.size,.ref (h.push {cls:=.type "tuple_iterator",data:=.fields #[.ref l1,.int 0 0]}).objs.size]}).objs.size]}
theorem nX(l1 l2:Addr)(xs ys:Array Value):
  Meets (Builtin.«zip.__new__» ⟨[.type "zip",.ref l1,.ref l2],[]⟩) (fun _ R s=>s.heap.IsTuple l1 xs/\s.heap.IsTuple l2 ys/\R (.ok (.ret (.ref ((zN s.heap l1 l2).objs.size-1)))) {s with heap:=zN s.heap l1 l2}):=
 .of_wp fun prog w A R s h=>by
  obtain⟨hp,g,d,tk,os⟩:=s
  obtain⟨a1,a2,h⟩:=h
  have hsub:=sub_zip
  have b1:Heap.IsTuple (Shared.heap ⟨hp,g,d,tk,os⟩) l1 xs:=a1
  have b2:Heap.IsTuple (Shared.heap ⟨hp.push {cls:=.type "tuple_iterator",data:=.fields #[.ref l1,.int 0 0]},g,d,tk,os⟩) l2 ys:=Heap.IsTuple.push a2 _
  wp_walk using wpAny_pyIter_tuple b1,wpAny_pyIter_tuple b2
  refine⟨_,rfl,?_⟩
  have e:(zN hp l1 l2).objs.size-1=((((hp.push {cls:=.type "tuple_iterator",data:=.fields #[.ref l1,.int 0 0]}).push {cls:=.type "tuple_iterator",data:=.fields #[.ref l2,.int 0 0]}).push
   {cls:=.type "tuple",data:=.seq #[.ref hp.objs.size,.ref (hp.push {cls:=.type "tuple_iterator",data:=.fields #[.ref l1,.int 0 0]}).objs.size]}).push {cls:=.type "tuple",data:=.seq #[.none,.none]}).objs.size:=by
   show(Heap.push _ _).objs.size-1=_
   rw[Heap.size_push]
   rfl
  have h':=h
  rw[e]at h'
  exact h'
theorem qA1{h:Heap}{l1 l2:Addr}:IsZip (zN h l1 l2) (h.objs.size+4) (h.objs.size+2) (h.objs.size+3) .none/\IsPair (zN h l1 l2) (h.objs.size+2) (.ref h.objs.size) (.ref (h.objs.size+1))/\IsPair (zN h l1 l2) (h.objs.size+3) .none .none/\
  (zN h l1 l2).IsTupleIter h.objs.size l1 0/\(zN h l1 l2).IsTupleIter (h.objs.size+1) l2 0/\(zN h l1 l2).objs.size=h.objs.size+5/\∀c o,h.get? c=some o->(zN h l1 l2).get? c=some o:=by
 unfold zN
 simp only[Heap.size_push]
 refine⟨?_,?_,?_,⟨{cls:=.type "tuple_iterator",data:=.fields #[.ref l1,.int 0 0]},?_,rfl,rfl⟩,⟨{cls:=.type "tuple_iterator",data:=.fields #[.ref l2,.int 0 0]},?_,rfl,rfl⟩,?_,fun c o e=>?_⟩
 ·have e:=aq14 ((((h.push {cls:=.type "tuple_iterator",data:=.fields #[.ref l1,.int 0 0]}).push {cls:=.type "tuple_iterator",data:=.fields #[.ref l2,.int 0 0]}).push
   {cls:=.type "tuple",data:=.seq #[.ref h.objs.size,.ref (h.objs.size+1)]}).push {cls:=.type "tuple",data:=.seq #[.none,.none]}) (o:={cls:=.type "zip",data:=.fields #[.none,.bool false,.bool false,.ref (h.objs.size+1+1),.ref (h.objs.size+1+1+1)]}) rfl
  simp only[Heap.size_push]at e
  exact e
 ·have e:=aq14 (((h.push {cls:=.type "tuple_iterator",data:=.fields #[.ref l1,.int 0 0]}).push {cls:=.type "tuple_iterator",data:=.fields #[.ref l2,.int 0 0]})) (o:={cls:=.type "tuple",data:=.seq #[.ref h.objs.size,.ref (h.objs.size+1)]}) rfl
  simp only[Heap.size_push]at e
  exact aq13 _ (aq13 _ e)
 ·have e:=aq14 (((h.push {cls:=.type "tuple_iterator",data:=.fields #[.ref l1,.int 0 0]}).push {cls:=.type "tuple_iterator",data:=.fields #[.ref l2,.int 0 0]}).push
   {cls:=.type "tuple",data:=.seq #[.ref h.objs.size,.ref (h.objs.size+1)]}) (o:={cls:=.type "tuple",data:=.seq #[.none,.none]}) rfl
  simp only[Heap.size_push]at e
  exact aq13 _ e
 ·exact aq13 _ (aq13 _ (aq13 _ (aq13 _ (aq14 _ rfl))))
 ·have e:=aq14 (h.push {cls:=.type "tuple_iterator",data:=.fields #[.ref l1,.int 0 0]}) (o:={cls:=.type "tuple_iterator",data:=.fields #[.ref l2,.int 0 0]}) rfl
  simp only[Heap.size_push]at e
  exact aq13 _ (aq13 _ (aq13 _ e))
 ·trivial
 ·exact aq13 _ (aq13 _ (aq13 _ (aq13 _ (aq13 _ e))))
theorem nn_{a b:Nat}(h:a≠b):(show Addr from a)≠(show Addr from b):=h
theorem zap(n l1 l2:Nat)(h1:l1<n)(h2:l2<n):ZAp (n+4) (n+2) (n+3) n (n+1) [n,l1] [n+1,l2]where
 pz:=nn_ (by omega)
 qz:=nn_ (by omega)
 iz:=nn_ (by omega)
 jz:=nn_ (by omega)
 pq:=nn_ (by omega)
 pi:=nn_ (by omega)
 pj:=nn_ (by omega)
 qi:=nn_ (by omega)
 qj:=nn_ (by omega)
 ij:=nn_ (by omega)
 z1:=show(n+4:Nat)∉([n,l1]:List Nat)from by simp;omega
 q1:=show(n+3:Nat)∉([n,l1]:List Nat)from by simp;omega
 j1:=show(n+1:Nat)∉([n,l1]:List Nat)from by simp;omega
 z2:=show(n+4:Nat)∉([n+1,l2]:List Nat)from by simp;omega
 q2:=show(n+3:Nat)∉([n+1,l2]:List Nat)from by simp;omega
 i2:=show(n:Nat)∉([n+1,l2]:List Nat)from by simp;omega
theorem qA2(n:Nat):n+2∉[n+4,n+3,n,n+1]:=by simp
theorem qB0(n b:Nat)(h:b∈[n+4,n+2,n+3,n,n+1]):n<=b:=by
 simp only[List.mem_cons,List.not_mem_nil,or_false]at h
 omega
def zX7(K:Fg)(ta:TA):TI:=fun σ H R=>ta σ H fun vs H1=>∃a b xs ys,vs=[.ref a,.ref b]/\qA K H1 a xs/\qA K H1 b ys/\R (Itz K a b xs ys) H1
theorem qB1{X:Cx}{a b:Expr}{ta:TA}{p pos p2:Pos}{es:List Expr}{k0}(hg:Gl X "zip")(hm:X.mg "zip"=none)(ha:PA X [a,b] ta)(hs:starEach [a,b] X.env=[(false,eval a X.env),(false,eval b X.env)]:=by rfl)(hs2:starEach [b] X.env=[(false,eval b X.env)]:=by rfl):
  PI X (.Tuple es k0 p2) (.Call (.Name "zip" p) [a,b] [] pos) (zX7 X.K ta):=by
 intro pins s σ H R I h
 refine Call_ (kE I hg hm boot_zip (PyProof.Rows.callWith_type1 (thn (ha pos pins s σ H _ I h) fun us s1⟨vs,H1,I1,r1,q1⟩=>?_) (by rw[hs,hs2]) (by rw[hs2];rfl)))
 obtain⟨l1,l2,xs,ys,rfl,hq1,hq2,q⟩:=q1
 obtain⟨u1,u2,rfl,r1,r2⟩:=Vals.two r1
 cases r1
 cases r2
 obtain⟨it1,rv1,p1,z1⟩:=I1.tuple hq1
 obtain⟨it2,rv2,p2,z2⟩:=I1.tuple hq2
 have ll1:l1<s1.heap.objs.size:=by obtain⟨o,e,_⟩:=p1;exact aq8 e
 have ll2:l2<s1.heap.objs.size:=by obtain⟨o,e,_⟩:=p2;exact aq8 e
 refine callType_new F.called_zip (by decide) (F.typeCall_zip_2 _ _) (F.newCall_zip_2 _ _) (fun obj=>F.args_object_init_3 obj _ _) F.entry_zip_new (nX l1 l2 it1.toArray it2.toArray) ⟨p1,p2,?_⟩
 obtain⟨e1,e2,e3,e4,e5,e6,e7⟩:=qA1 (h:=s1.heap) (l1:=l1) (l2:=l2)
 have e8:(zN s1.heap l1 l2).objs.size-1=s1.heap.objs.size+4:=by rw[e6];rfl
 show _/\_
 rw[e8]
 refine⟨⟨_,e1,rfl⟩,wpAny_pyIter_zip e1 ?_⟩
 have D:=zap _ _ _ ll1 ll2
 refine⟨_,[s1.heap.objs.size+4,s1.heap.objs.size+2,s1.heap.objs.size+3,s1.heap.objs.size,s1.heap.objs.size+1],_,_,H1,rfl,I1.kept (t':=s1.toks) e7,sS _ _ _ _ _ l1 l2 xs ys D (aq9 ll1) (aq9 (Nat.lt_succ_of_lt ll2)) (qA2 _),
  ⟨e1,e2,⟨_,_,e3⟩,e4,e5⟩,fun b hb=>?_,q⟩
 have hb':s1.heap.objs.size<=b:=qB0 _ _ hb
 exact I1.fpOk hb' (I1.hok.fresh hb')
section
variable {prog:Program} {w:World} {A:Around} {E:Value->Shared->Prop} {s:Shared}
end
section
variable {X:Cx} {e:Expr}
end
structure Grow(H H':Hp):Prop where
 same:Same H H'
 none:∀b,H' b=Option.none->H b=Option.none
theorem Grow.refl(H:Hp):Grow H H:=⟨Same.refl H,fun _ h=>h⟩
theorem Grow.trans{H H1 H2:Hp}(a:Grow H H1)(b:Grow H1 H2):Grow H H2:=⟨a.same.trans b.same,fun c h=>a.none c (b.none c h)⟩
theorem Grow.put{H:Hp}{a:Addr}{o:HO}(h:H a=Option.none):Grow H (upd H a o):=⟨fun b u e=>by rw[qC (zZ e h)];exact e,fun b e=>by
 by_cases z:b=a
 ·subst z;exact h
 ·rw[qC z]at e;exact e⟩
theorem Grow.set{H H4:Hp}{D:Addr}{o:HO}(g:Grow H H4)(hD:H D=Option.none):Grow H (upd H4 D o):=
 ⟨fun b u e=>by rw[qC (zZ e hD)];exact g.same b u e,fun b e=>by
  by_cases z:b=D
  ·subst z;exact hD
  ·rw[qC z]at e;exact g.none b e⟩
theorem Room.u2{k:Nat}{A:Around}(r:Room k A):A.units+2<cLine:=by have :=r.un;omega
def qV4(o:Obj)(x qual:Str)(st:Stmt)(dV cdv:Value)(fd:FuncData):Prop:=
 ∃(oc:Value)(od:Option Addr)(kV doc pm:Value)(an:Option Addr)(ct:Value)(osl:Array (Option Value)),o=⟨oc,od,.func fd,osl⟩/\fd=PySem.W.fnOf x qual (iE st) (jH st) (qL st) dV kV doc pm an cdv ct
theorem qV4.d{K:Fg}{f:Addr}{o:Obj}{x qual:Str}{st:Stmt}{dV cdv:Value}{fd:FuncData}(n:qV4 o x qual st dV cdv fd)(l:K.lookup f=some o)(c:PySem.W.codeIn K cdv qual=true)(k:PySem.W.keepIn K (.ref f)=true):zB K x qual st dV f fd:=by
 obtain⟨oc,od,kV,doc,pm,an,ct,osl,rfl,e⟩:=n
 exact⟨⟨oc,od,kV,doc,pm,an,cdv,ct,osl,e,l,c⟩,k⟩
def nV(o:Obj)(D:List (Str×V)):Prop:=o.ExactDict/\∃es ep,o.data= .dict es ep/\PyProof.Rows.KTD.Rows zY es.toList D
theorem nV.s{K:Fg}{a:Addr}{o:Obj}{D:List (Str×V)}(h:nV o D)(l:K.lookup a=some o)(n:(a==sysModules)=false):oB K a D:=let⟨c,es,ep,d,r⟩:=h;⟨n,o,es,ep,l,c,d,r⟩
theorem bF{X:Cx}{scope:Scope}{own:List Str}{y:Str}{c:Addr}{i:Nat}(h1:closureFor scope X.env=pure [(y,c)])(h2:∀z∈scope.names,z.2≠ .cell)(h3:scope.kind= .function)(h4:∀z∈scope.names,z.2= .local->scope.names.lookup z.1=some .local)
  (hc:X.env.cells.lookup y=some c)(hf:∀z∈scope.names,z.2= .free->z.1=y)(hy:scope.names.lookup y=some .free)(ho:X.env.kindOf y=some .cell\/X.env.kindOf y=some .free)(hi:X.N[i]? =some y)(hnd:(own++[y]).Nodup):yS X scope [(y,c)] own [y] [i]:=by
 refine⟨h1,h2,h3,h4,fun z d h=>?_,fun z h=>?_,hnd,fun j z h=>?_,rfl,fun z h=>?_⟩
 ·by_cases e:z=y
  ·subst e
   simp only[List.lookup_cons,beq_self_eq_true]at h
   cases h;exact hc
  ·simp only[List.lookup_cons,beq_eq_false_iff_ne.mpr e]at h
   cases h
 ·have e:z=y:=hf (z,.free) (PySem.mem_of_lookup h) rfl
  subst e
  exact⟨c,by simp[List.lookup_cons]⟩
 ·cases j with
  |zero=>
   have e:y=z:=by simpa using h
   subst e
   exact⟨i,rfl,hi⟩
  |succ j=>simp at h
 ·have e:z=y:=by simpa using h
  subst e
  exact⟨hy,ho⟩
theorem qI3{X:Cx}{scope:Scope}{own:List Str}{x y:Str}{c d:Addr}{i j:Nat}(hne:¬y=x)(h1:closureFor scope X.env=pure [(x,c),(y,d)])(h2:∀z∈scope.names,z.2≠ .cell)(h3:scope.kind= .function)(h4:∀z∈scope.names,z.2= .local->scope.names.lookup z.1=some .local)
  (hc:X.env.cells.lookup x=some c)(hd:X.env.cells.lookup y=some d)(hf:∀z∈scope.names,z.2= .free->z.1=x\/z.1=y)(hx:scope.names.lookup x=some .free)(hy:scope.names.lookup y=some .free)
  (ox:X.env.kindOf x=some .cell\/X.env.kindOf x=some .free)(oy:X.env.kindOf y=some .cell\/X.env.kindOf y=some .free)(hi:X.N[i]? =some x)(hj:X.N[j]? =some y)(hnd:(own++[x,y]).Nodup):yS X scope [(x,c),(y,d)] own [x,y] [i,j]:=by
 refine⟨h1,h2,h3,h4,fun z e h=>?_,fun z h=>?_,hnd,fun k z h=>?_,rfl,fun z h=>?_⟩
 ·by_cases e1:z=x
  ·subst e1
   simp only[List.lookup_cons,beq_self_eq_true]at h
   cases h;exact hc
  ·simp only[List.lookup_cons,beq_eq_false_iff_ne.mpr e1]at h
   by_cases e2:z=y
   ·subst e2
    simp only[beq_self_eq_true]at h
    cases h;exact hd
   ·simp only[beq_eq_false_iff_ne.mpr e2]at h
    cases h
 ·rcases hf (z,.free) (PySem.mem_of_lookup h) rfl with e|e
  ·have e':z=x:=e
   subst e'
   exact⟨c,by simp[List.lookup_cons]⟩
  ·have e':z=y:=e
   subst e'
   exact⟨d,by rw[List.lookup_cons,beq_eq_false_iff_ne.mpr hne,List.lookup_cons,beq_self_eq_true]⟩
 ·match k,h with
  |0,h=>
   have e:x=z:=by simpa using h
   subst e
   exact⟨i,rfl,hi⟩
  |1,h=>
   have e:y=z:=by simpa using h
   subst e
   exact⟨j,rfl,hj⟩
  |k+2,h=>simp at h
 ·rcases(by simpa using h:z=x\/z=y)with e|e
  ·subst e;exact⟨hx,ox⟩
  ·subst e;exact⟨hy,oy⟩
theorem lA{K:Fg}{l:Addr}{xs:List V}{g:TG}{tb:TS}{D:Ends}{σ:St}{H:Hp}(Pv:Nat->St->Hp->Prop)(h0:Pv 0 σ H)(hl:∀i σ H,i<=xs.length->Pv i σ H->zV K H l xs)
  (hs:∀i x T σ H,xs[i]? =some x->Pv i σ H->H T=none->g (.ref T) σ (upd H T (.tup [.int i,x])) fun σ2 H2=>tb {D with nx:=Pv (i+1),ct:=Pv (i+1),bk:=D.nx} σ2 H2)(hd:∀σ H,Pv xs.length σ H->D.nx σ H):
  ∃W:Nat->Nat->St->Hp->Prop,(∃m,W 0 m σ H)/\∀i m σ H,W i m σ H->
   ((Ite K l).stop i H/\D.nx σ H)\/((Ite K l).go i H/\∃N:St->Hp->Prop,(∀σ' H',N σ' H'->∃m',m'<m/\W (i+1) m' σ' H')/\∀x H',(Ite K l).yld i H x H'->g x σ H' fun σ2 H2=>tb {D with nx:=N,ct:=N,bk:=D.nx} σ2 H2):=by
 refine⟨fun i m σ H=>m=xs.length-i/\i<=xs.length/\Pv i σ H,⟨xs.length,by simp,Nat.zero_le _,h0⟩,?_⟩
 rintro i m σ H ⟨rfl,hi,p⟩
 have q:=hl i σ H hi p
 by_cases hlt:i<xs.length
 ·refine .inr ⟨⟨xs,xs[i],q,aq15 hlt⟩,Pv (i+1),fun σ' H' p'=>⟨xs.length-(i+1),by omega,rfl,hlt,p'⟩,fun x H' y=>?_⟩
  obtain⟨T,z,hT,rfl,rfl,hz⟩:=y
  exact hs i z T σ H (hz xs q) p hT
 ·have e:i=xs.length:=by omega
  subst e
  exact .inl ⟨⟨xs,q,aq7 _⟩,hd σ H p⟩
def behind(ss:List Str)(xs:List V)(t:Str):List V:=((ss.zip xs).filter fun p=>decide (p.1=t)).map (·.2)
theorem qB2{K:Fg}{a b:Addr}{ss:List Str}{xs:List V}{t:Str}{σ:St}{i0:Nat}{H:Hp}{D:Addr}{R:Hp->Prop}(hσ:σ.getD i0 none=some (.str t))(h1:qA K H a (ss.map V.str))(h2:qA K H b xs)(hn:xs.length<=1000)(hD:H D=none)
  (q:∀H',Grow H H'->H' D=some (.lst (behind ss xs t))->R H'):
  ∃W:Nat->Nat->List V->Hp->Prop,(∃m,W 0 m [] (upd H D (.lst [])))/\∀i m ys H2,W i m ys H2->
   ((Itz K a b (ss.map V.str) xs).stop i H2/\R H2)\/((Itz K a b (ss.map V.str) xs).go i H2/\∀(o:List (Option V))v H3,o.length=2->(Itz K a b (ss.map V.str) xs).yld i H2 v H3->qJ4 K 2 (uW (xU 0) (uW (xU 1) qJ3)) v (xS [i0] o σ) H3 fun σ2 H4=>(∃o':List (Option V),σ2=xS [i0] o' σ/\o'.length=2)/\
    ifT (some (qO3 (pZ rEq (xG 0) (xG 2)))) σ2 H4 fun b H5=>if b=true then xG 1 σ2 H5 fun y H6=>H6 D=some (.lst ys)/\ys.length<sizeLine/\∃m',m'<m/\W (i+1) m' (ys++[y]) (upd H6 D (.lst (ys++[y])))else∃m',m'<m/\W (i+1) m' ys H5):=by
 have hz:(ss.zip xs).length=min ss.length xs.length:=List.length_zip
 refine⟨fun i m ys H2=>i<=(ss.zip xs).length/\m=(ss.zip xs).length-i/\ys=(((ss.zip xs).take i).filter fun p=>decide (p.1=t)).map (·.2)/\H2 D=some (.lst ys)/\Grow H H2,⟨_,Nat.zero_le _,rfl,rfl,qZ,Grow.put hD⟩,?_⟩
 rintro i m ys H2 ⟨hi,rfl,rfl,hd2,g2⟩
 have a2:=qA.mono g2.same h1
 have b2:=qA.mono g2.same h2
 by_cases hl:i<(ss.zip xs).length
 ·have hs:i<ss.length:=by omega
  have hx:i<xs.length:=by omega
  refine .inr ⟨⟨a2,b2,by rw[aq16];exact hs,hx⟩,fun o v H3 ho hy=>?_⟩
  obtain⟨T,x,y,hT,rfl,rfl,ex,ey⟩:=hy
  have ez:(ss.zip xs)[i]? =some (ss[i],y):=by
   rw[List.getElem?_zip_eq_some]
   exact⟨aq15 hs,ey⟩
  have ex':x= .str ss[i]:=by
   rw[aq19,aq15 hs]at ex
   exact(Option.some.inj ex).symm
  subst ex'
  have tD:D≠T:=zZ hd2 hT
  have g3:Grow H2 (upd H2 T (.tup [.str ss[i],y])):=Grow.put hT
  have lenb:((((ss.zip xs).take i).filter fun p=>decide (p.1=t)).map (·.2)).length<=i:=by
   rw[aq16]
   exact Nat.le_trans (List.length_filter_le _ _) (by rw[List.length_take];omega)
  match o,ho with
  |[_,_],_=>
   refine⟨T,_,rfl,qA.of qZ,rfl,_,_,rfl,_,_,rfl,rfl,⟨[some (.str ss[i]),some y],rfl,rfl⟩,?_⟩
   refine⟨_,rfl,.str t,?_,rfl,_,rfl,?_⟩
   ·show some (σ.getD i0 none)=_
    rw[hσ]
   have e3:decide (V.str ss[i]=V.str t)=decide (ss[i]=t):=by rw[Bool.eq_iff_iff];simp
   rw[e3]
   have tk:(ss.zip xs).take (i+1)=(ss.zip xs).take i++[(ss[i],y)]:=by rw[List.take_add_one,ez];rfl
   refine ite2 (fun hc=>?_) (fun hc=>?_)
   ·refine⟨y,rfl,(qC tD).trans hd2,?_,_,?_,hl,rfl,?_,qZ,(g2.trans g3).set hD⟩
    ·rw[sizeLine_eq];omega
    ·omega
    ·rw[tk,List.filter_append,aq21]
     simp[of_decide_eq_true hc]
   ·refine⟨_,?_,hl,rfl,?_,(qC tD).trans hd2,g2.trans g3⟩
    ·omega
    ·rw[tk,List.filter_append,aq21]
     have hc':¬ss[i]=t:=fun z=>hc (decide_eq_true z)
     simp[hc']
 ·have e:i=(ss.zip xs).length:=by omega
  subst e
  refine .inl ⟨⟨a2,b2,?_⟩,q _ g2 ?_⟩
  ·rw[aq16];omega
  ·rw[hd2,List.take_of_length_le (aq7 _)]
   rfl
theorem cut1(x:V)(r:List V):vF (x::r) (some 1) none=r:=by
 unfold vF
 have e1:HT.sIx (x::r).length 0 (some 1)=1:=by
  show(if(1:Int)<0 then((1:Int)+((x::r).length:Int)).toNat else min (1:Int).toNat (x::r).length)=1
  rw[if_neg (by decide)]
  show min 1 (r.length+1)=1
  omega
 rw[e1,HT.sIx_none]
 simp
theorem kW(x:V)(r:List V):¬(HT.sIx (x::r).length 0 (some 1)=0/\HT.sIx (x::r).length (x::r).length none=(x::r).length):=by
 intro h
 have e1:HT.sIx (x::r).length 0 (some 1)=1:=by
  show(if(1:Int)<0 then((1:Int)+((x::r).length:Int)).toNat else min (1:Int).toNat (x::r).length)=1
  rw[if_neg (by decide)]
  show min 1 (r.length+1)=1
  omega
 rw[e1]at h
 cases h.1
theorem qB3{X:Cx}{scope:Scope}{cl:List (Str×Addr)}{own rest:List Str}{ix:List Nat}{elt iter tg c:Expr}{pos:Pos}{wi:TI}{te:TE}{g:TG}{tc:TT}(ok:yS X scope cl own rest ix)(hc:X.calm=true)(hi:PI X tg iter wi)
  (he:∀(C:Addr)(s:Shared)(H:Hp)(fp:List Addr)(pins:List (Addr×Obj)),PE (kP X scope cl (own++rest) C s H fp pins) elt te)(hg:∀(C:Addr)(s:Shared)(H:Hp)(fp:List Addr)(pins:List (Addr×Obj)),PG (kP X scope cl (own++rest) C s H fp pins) tg g)
  (hif:∀(C:Addr)(s:Shared)(H:Hp)(fp:List Addr)(pins:List (Addr×Obj)),PT (kP X scope cl (own++rest) C s H fp pins) c tc)
  (hs:∀x,foldedSetIterable iter X.env x=pure x:=by intro x;rfl):PE X (.ListComp elt [⟨tg,iter,[c],0⟩] scope pos) (nZ wi g (some tc) te own.length ix):=sD (tc:=some tc) ok hc hi he hg hif hs
theorem sT{X:Cx}{scope:Scope}{cl:List (Str×Addr)}{own rest:List Str}{ix:List Nat}{elt iter tg:Expr}{pos:Pos}{wi:TI}{te:TE}{g:TG}(ok:yS X scope cl own rest ix)(hc:X.calm=true)(hi:PI X tg iter wi)
  (he:∀(C:Addr)(s:Shared)(H:Hp)(fp:List Addr)(pins:List (Addr×Obj)),PE (kP X scope cl (own++rest) C s H fp pins) elt te)(hg:∀(C:Addr)(s:Shared)(H:Hp)(fp:List Addr)(pins:List (Addr×Obj)),PG (kP X scope cl (own++rest) C s H fp pins) tg g)
  (hs:∀x,foldedSetIterable iter X.env x=pure x:=by intro x;rfl):PE X (.ListComp elt [⟨tg,iter,[],0⟩] scope pos) (nZ wi g none te own.length ix):=sD (tc:=none) ok hc hi he hg (fun _ _ _ _ _=>trivial) hs
theorem sA{X:Cx}{n1 n2:Str}{p1 p2 pos:Pos}{k:Nat}(K:Fg)(hK:X.K=K)(hc:X.calm=true)(hN:X.N.Nodup)(h0:X.N[0]? =some n1)(h1:X.N[1]? =some n2)(x1:Loc X.env.scope n1)(x2:Loc X.env.scope n2)(l0:X.env.scope.names.lookup n1=some .local)(l1:X.env.scope.names.lookup n2=some .local):
  PG X (.Tuple [.Name n1 p1,.Name n2 p2] k pos) (qJ4 K 2 (uW (xU 0) (uW (xU 1) qJ3))):=by
 subst hK
 exact uY hc (xJ (jU (i:=0) hN h0 x1 (Or.inr l0)) (xJ (jU (i:=1) hN h1 x2 (Or.inr l1)) wO))
section
variable {X:Cx} {scope:Scope} {cl:List (Str×Addr)} {own rest:List Str} {ix:List Nat}
def sE(X:Cx)(C:Addr)(x:Value)(s':Shared):Prop:=∃m,s'.heap.Ns C m/\∀h',Heap.SameBut C s'.heap h'->∀cenv:Env,cenv.locals=C->wpAny (model X.prog X.w) X.A (passOn "comprehension.variables-let-go" x cenv:Sem Value) (fun _ _=>False) X.xe {s' with heap:=h'}
theorem lE{elt iter tg:Expr}{ifs:List Expr}{pos spos py:Pos}{wi:TI}{te:TE}{g:TG}{tc:Option TT}{i:Nat}{x:Str}(hN:X.N.Nodup)(hi':X.N[i]? =some x)(hx:Loc X.env.scope x)(ok:yS X scope cl own rest ix)(hc:X.calm=true)(hi:PI X tg iter wi)
  {XE:Shared->Hp->List Addr->List (Addr×Obj)->Value->Shared->Prop}(he:∀(s:Shared)(H:Hp)(fp:List Addr)(pins:List (Addr×Obj)),sN X scope cl (own++rest) elt te (XE s H fp pins) s H fp pins)
  (hE:∀(s:Shared)(H:Hp)(fp:List Addr)(pins:List (Addr×Obj))(σ:St)(x:Value)(s':Shared),Inv X pins σ H s->(∀b∈fp,kL X pins H b)->XE s H fp pins x s'->notedBy (model X.prog X.w) X.A (compEnvC scope cl s.heap.objs.size X.env) (sE X s.heap.objs.size) x s')(hg:∀(C:Addr)(s:Shared)(H:Hp)(fp:List Addr)(pins:List (Addr×Obj)),PG (kP X scope cl (own++rest) C s H fp pins) tg g)
  (hif:∀(C:Addr)(s:Shared)(H:Hp)(fp:List Addr)(pins:List (Addr×Obj)),PIf (kP X scope cl (own++rest) C s H fp pins) ifs tc)
  (hsw:swapsWith (.ListComp elt [⟨tg,iter,ifs,0⟩] scope pos) (some (.Name x py)) spos.line X.env=pure true)(hf:X.fn x=true\/X.env.scope.names.lookup x=some .local)
  (hs:∀x,foldedSetIterable iter X.env x=pure x:=by intro _;rfl):PS X (.Assign [.Name x py] (.ListComp elt [⟨tg,iter,ifs,0⟩] scope pos) spos) (cE (nZ wi g tc te own.length ix) (xU i)):=by
 intro pins s σ H E I h
 rw[exec_Assign_Name_used _ _ _ _ hsw]
 refine wpAny_bind (wpAny_standAt (wpAny_bind ?_))
 show wpAny _ X.A (do let _<-comprehension (.ListComp elt [⟨tg,iter,ifs,0⟩] scope pos) scope X.env _ (newList []) false (eval iter X.env) (some (assign (.Name x py) X.env))) _ _ s
 refine wpAny_bind (wpAny_mono (wpAny_comprehension_free (use:=some (assign (.Name x py) X.env)) (Q:=fun _ s'=>SP X pins E .next s') rfl hs ok.clos ok.kind ok.names (thn (hi pins s σ H _ I h) fun v s1 h1=>thn h1 fun itv s2 h2=>?_)) (fun _ s' hq=>wpAny_pure (wpAny_pure hq)) fun _ _ e=>e)
 obtain⟨it,fp,tn,J,H1,e,I2,T,st2,f2,hq⟩:=h2
 subst e
 refine wpAny_newObj_type (wpAny_newFunctionEnv ok.cell (by intro y hy;simp at hy) (fun h₁ hns hsb=>?_) ok.kind)
 dsimp only at hns hsb⊢
 have na:H1 s2.heap.objs.size=none:=I2.hok.fresh (aq7 _)
 obtain⟨W,⟨m0,w0⟩,turn⟩:=hq s2.heap.objs.size na
 have I3:=I2.laid (t':=s2.toks) (o:=.lst []) (h':=s2.heap.push {cls:=.type "list",dict:=none,data:=.seq ([]:List Value).toArray}) (fun b u e=>aq13 _ e) (aq7 _) ⟨by decide,[],0,.nil,aq14 _ rfl⟩
 have fa:∀b∈fp,b<s2.heap.objs.size:=fun b hb=>by
  obtain⟨o,ho,_⟩:=T.obj 0 _ st2 b hb
  exact aq8 ho
 generalize hs3:({s2 with heap:=s2.heap.push {cls:=.type "list",dict:=none,data:=.seq ([]:List Value).toArray}}:Shared)=s3 at hns hsb I3⊢
 have z3:s3.heap.objs.size=s2.heap.objs.size+1:=by rw[<-hs3];exact Heap.size_push _ _
 have k3:∀b u,s2.heap.get? b=some u->s3.heap.get? b=some u:=fun b u e=>by rw[<-hs3];exact aq13 _ e
 have fa3:∀b∈fp,b<s3.heap.objs.size:=fun b hb=>by rw[z3];exact Nat.lt_succ_of_lt (fa b hb)
 have f3:∀b∈fp,kL X pins (upd H1 s2.heap.objs.size (.lst [])) b:=fun b hb=>by
  obtain⟨g0,g1⟩:=f2 b hb
  exact⟨by rw[qC (aq9 (fa b hb))];exact g0,g1⟩
 subst hs3
 have J4:=uF ok (tk:=s2.toks+([]:List (Str×Value)).length) I3 f3 fa3 hns hsb
 have st4:tn 0 h₁:=T.keep _ _ _ st2 fun b hm o e=>(hsb.2 b (aq9 (fa3 b hm))).trans (aq13 _ (k3 b o e))
 refine(fun loop=>codeAny_compStart_list loop (T.self _ 0 _ _ _ st4 loop)) (lT (Q:=fun v H'=>xU i v σ H' E.nx) (elt:=elt) (iter:=iter) (pos:=pos) (s4:={s2 with heap:=h₁,toks:=s2.toks+([]:List (Str×Value)).length}) ok hc (he _ _ _ _) (fun x s' z=>hE _ _ _ _ σ x s' I3 f3 z) hg hif I3 T f3 fa3 J4 st4 w0 (fun f H' s5 o ho I5 q=>?_) turn)
 obtain⟨m,hn,_⟩:=I5.loc
 obtain⟨oC,es,ep,hoC,rC⟩:=id hn
 have nC:H' _=none:=I5.free
 have Jx:=sB I3 I5 f3 (h'':=s5.heap) (Heap.SameBut.refl ..)
 have fC:kL X pins H' (s2.heap.push {cls:=.type "list",dict:=none,data:=.seq ([]:List Value).toArray}).objs.size:=I3.fpOk (aq7 _) nC
 have Jp:=Jx.pinned (fp:=[(s2.heap.push {cls:=.type "list",dict:=none,data:=.seq ([]:List Value).toArray}).objs.size]) (fun b hb=>by rw[aq20.mp hb];exact fC) (fun b hb=>by
  rw[aq20.mp hb]
  exact⟨oC,hoC,fun v z=>by rw[rC.1]at z;cases z⟩)
 show wpAny _ X.A (assign (.Name x py) X.env (.ref s2.heap.objs.size)) _ _ s5
 refine wpAny_mono (jU (pos:=py) hN hi' hx hf _ s5 σ H' (.ref s2.heap.objs.size) (.ref s2.heap.objs.size) (fun σ6 H6=>σ6=σ.set i (some (.ref s2.heap.objs.size))/\H6=H') Jp rfl ⟨rfl,rfl⟩) (fun _ s6⟨σ6,H6,I6,e1,e2⟩=>?_) fun _ _ e=>e
 subst e1 e2
 have pC:=(I6.pin (_,oC) (aq11 _ (aq11 _ (xM (aq20.mpr rfl) hoC)))).1
 refine⟨m,⟨oC,es,ep,pC,rC⟩,fun h' hs'=>⟨_,_,Inv.turnedL (t':=s6.toks) (ch:=[_]) I6.unpinned (fun b o hb e=>(hs'.2 b (fun z=>hb (aq20.mpr z))).trans e) (fun b hb=>by rw[aq20.mp hb];exact fC),q⟩⟩
theorem tQ{elt iter tg:Expr}{ifs:List Expr}{pos spos py:Pos}{wi:TI}{te:TE}{g:TG}{tc:Option TT}{i:Nat}{x:Str}(hN:X.N.Nodup)(hi':X.N[i]? =some x)(hx:Loc X.env.scope x)(ok:yS X scope cl own rest ix)(hc:X.calm=true)(hi:PI X tg iter wi)
  (he:∀(C:Addr)(s:Shared)(H:Hp)(fp:List Addr)(pins:List (Addr×Obj)),PE (kP X scope cl (own++rest) C s H fp pins) elt te)(hg:∀(C:Addr)(s:Shared)(H:Hp)(fp:List Addr)(pins:List (Addr×Obj)),PG (kP X scope cl (own++rest) C s H fp pins) tg g)
  (hif:∀(C:Addr)(s:Shared)(H:Hp)(fp:List Addr)(pins:List (Addr×Obj)),PIf (kP X scope cl (own++rest) C s H fp pins) ifs tc)
  (hsw:swapsWith (.ListComp elt [⟨tg,iter,ifs,0⟩] scope pos) (some (.Name x py)) spos.line X.env=pure true)(hf:X.fn x=true\/X.env.scope.names.lookup x=some .local)
  (hs:∀x,foldedSetIterable iter X.env x=pure x:=by intro _;rfl):PS X (.Assign [.Name x py] (.ListComp elt [⟨tg,iter,ifs,0⟩] scope pos) spos) (cE (nZ wi g tc te own.length ix) (xU i)):=lE hN hi' hx ok hc hi (fun _ _ _ _=>(he _ _ _ _ _).elt) (fun _ _ _ _ _ _ _ _ _ z=>z.elim) hg hif hsw hf hs
end
end L2
open PySem
inductive Kd where
 |int|bool
 |list (k:Kd)|pair (k l:Kd)|fn (k l:Kd)
deriving DecidableEq
namespace Kd
def dt:Kd->Dt
 | .int=>.str "int"
 | .bool=>.str "bool"
 | .list k=>.tup [.str "list",k.dt]
 | .pair k l=>.tup [.str "pair",k.dt,l.dt]
 | .fn k l=>.tup [.str "fun",k.dt,l.dt]
def deep:Kd->Nat
 | .int=>0
 | .bool=>0
 | .list k=>k.deep+1
 | .pair k l=>max k.deep l.deep+1
 | .fn k l=>max k.deep l.deep+1
def sz:Kd->Nat
 | .int=>1
 | .bool=>1
 | .list k=>k.sz+1
 | .pair k l=>k.sz+l.sz+1
 | .fn k l=>k.sz+l.sz+1
theorem deep_sz:∀k:Kd,k.deep<k.sz
 | .int=>by simp[deep,sz]
 | .bool=>by simp[deep,sz]
 | .list k=>by have :=deep_sz k;simp only[deep,sz];omega
 | .pair k l=>by have :=deep_sz k;have :=deep_sz l;simp only[deep,sz];omega
 | .fn k l=>by have :=deep_sz k;have :=deep_sz l;simp only[deep,sz];omega
theorem dep_dt:∀k:Kd,Dt.dep k.dt=k.deep
 | .int=>by simp[dt,Dt.dep,deep]
 | .bool=>by simp[dt,Dt.dep,deep]
 | .list k=>by simp[dt,Dt.dep,Dt.deps,deep,dep_dt k]
 | .pair k l=>by simp[dt,Dt.dep,Dt.deps,deep,dep_dt k,dep_dt l]
 | .fn k l=>by simp[dt,Dt.dep,Dt.deps,deep,dep_dt k,dep_dt l]
theorem zX8:(("list":Str)==("pair":Str))=false:=by decide+kernel
theorem zX9:(("pair":Str)==("list":Str))=false:=by decide+kernel
theorem zXq:(("list":Str)==("fun":Str))=false:=by decide+kernel
theorem zXz:(("fun":Str)==("list":Str))=false:=by decide+kernel
theorem zXj:(("pair":Str)==("fun":Str))=false:=by decide+kernel
theorem zK0:(("fun":Str)==("pair":Str))=false:=by decide+kernel
theorem zK1:(("int":Str)==("bool":Str))=false:=by decide+kernel
theorem zK2:(("bool":Str)==("int":Str))=false:=by decide+kernel
theorem eq_dt:∀k l:Kd,Dt.eqD k.dt l.dt=decide (k=l)
 | .int,.int=>by simp[dt,Dt.eqD]
 | .int,.bool=>by simp[dt,Dt.eqD,zK1]
 | .int,.list _=>by simp[dt,Dt.eqD]
 | .int,.pair _ _=>by simp[dt,Dt.eqD]
 | .int,.fn _ _=>by simp[dt,Dt.eqD]
 | .bool,.int=>by simp[dt,Dt.eqD,zK2]
 | .bool,.bool=>by simp[dt,Dt.eqD]
 | .bool,.list _=>by simp[dt,Dt.eqD]
 | .bool,.pair _ _=>by simp[dt,Dt.eqD]
 | .bool,.fn _ _=>by simp[dt,Dt.eqD]
 | .list _,.int=>by simp[dt,Dt.eqD]
 | .list _,.bool=>by simp[dt,Dt.eqD]
 | .list k,.list l=>by simp[dt,Dt.eqD,Dt.eqDs,eq_dt k l]
 | .list _,.pair _ _=>by simp[dt,Dt.eqD,Dt.eqDs,zX8]
 | .list _,.fn _ _=>by simp[dt,Dt.eqD,Dt.eqDs,zXq]
 | .pair _ _,.int=>by simp[dt,Dt.eqD]
 | .pair _ _,.bool=>by simp[dt,Dt.eqD]
 | .pair _ _,.list _=>by simp[dt,Dt.eqD,Dt.eqDs,zX9]
 | .pair k l,.pair k' l'=>by simp[dt,Dt.eqD,Dt.eqDs,eq_dt k k',eq_dt l l']
 | .pair _ _,.fn _ _=>by simp[dt,Dt.eqD,Dt.eqDs,zXj]
 | .fn _ _,.int=>by simp[dt,Dt.eqD]
 | .fn _ _,.bool=>by simp[dt,Dt.eqD]
 | .fn _ _,.list _=>by simp[dt,Dt.eqD,Dt.eqDs,zXz]
 | .fn _ _,.pair _ _=>by simp[dt,Dt.eqD,Dt.eqDs,zK0]
 | .fn k l,.fn k' l'=>by simp[dt,Dt.eqD,Dt.eqDs,eq_dt k k',eq_dt l l']
end Kd
inductive U1|head|tail|empty|first|second|not
deriving DecidableEq
inductive U2|cons|pair|call|plus|minus|times|over|rest|less|same|and|or
deriving DecidableEq
def U1.str:U1->Str
 | .head=>"head"| .tail=>"tail"| .empty=>"empty"| .first=>"first"| .second=>"second"| .not=>"not"
def U2.str:U2->Str
 | .cons=>"cons"| .pair=>"pair"| .call=>"call"| .plus=>"plus"| .minus=>"minus"| .times=>"times"| .over=>"over"| .rest=>"rest"| .less=>"less"| .same=>"same"| .and=>"and"| .or=>"or"
inductive Pt where
 |num (n:Int)|tru (b:Bool)|nam (x:Str)|nil (k:Kd)
 |one (u:U1) (p:Pt)|two (u:U2) (p q:Pt)|ite (p q r:Pt)
 |let_ (x:Str) (p q:Pt)|fn (x:Str) (k:Kd) (p:Pt)|rc (f x:Str) (k l:Kd) (p:Pt)
abbrev Cxt:=List (Str×Kd)
namespace Pt
def dt:Pt->Dt
 | .num n=>.tup [.str "num",.int n]
 | .tru b=>.tup [.str "truth",.bl b]
 | .nam x=>.tup [.str "name",.str x]
 | .nil k=>.tup [.str "nil",k.dt]
 | .one u p=>.tup [.str u.str,p.dt]
 | .two u p q=>.tup [.str u.str,p.dt,q.dt]
 | .ite p q r=>.tup [.str "if",p.dt,q.dt,r.dt]
 | .let_ x p q=>.tup [.str "let",.str x,p.dt,q.dt]
 | .fn x k p=>.tup [.str "fn",.str x,k.dt,p.dt]
 | .rc f x k l p=>.tup [.str "rec",.str f,.str x,k.dt,l.dt,p.dt]
def k1:U1->Kd->Option Kd
 | .head,.list k=>some k
 | .tail,.list k=>some (.list k)
 | .empty,.list _=>some .bool
 | .first,.pair k _=>some k
 | .second,.pair _ l=>some l
 | .not,.bool=>some .bool
 |_,_=>none
def k2:U2->Kd->Kd->Option Kd
 | .cons,k,.list l=>if k=l then some (.list l)else none
 | .pair,k,l=>some (.pair k l)
 | .call,.fn k l,m=>if k=m then some l else none
 | .plus,.int,.int=>some .int
 | .minus,.int,.int=>some .int
 | .times,.int,.int=>some .int
 | .over,.int,.int=>some .int
 | .rest,.int,.int=>some .int
 | .less,.int,.int=>some .bool
 | .same,.int,.int=>some .bool
 | .and,.bool,.bool=>some .bool
 | .or,.bool,.bool=>some .bool
 |_,_,_=>none
inductive Has:Cxt->Pt->Kd->Prop
 |num {Γ n}:Has Γ (.num n) .int
 |tru {Γ b}:Has Γ (.tru b) .bool
 |nam {Γ x k}:Γ.lookup x=some k->k.sz<=40->Has Γ (.nam x) k
 |nil {Γ k}:k.sz+1<=40->Has Γ (.nil k) (.list k)
 |one {Γ u p k m}:Has Γ p k->k1 u k=some m->m.sz<=40->Has Γ (.one u p) m
 |two {Γ u p q k l m}:Has Γ p k->Has Γ q l->k2 u k l=some m->m.sz<=40->Has Γ (.two u p q) m
 |ite {Γ p q r k}:Has Γ p .bool->Has Γ q k->Has Γ r k->Has Γ (.ite p q r) k
 |let_ {Γ x p q k l}:Has Γ p k->Has ((x,k)::Γ) q l->Has Γ (.let_ x p q) l
 |fn {Γ x k p l}:Has ((x,k)::Γ) p l->(Kd.fn k l).sz<=40->Has Γ (.fn x k p) (.fn k l)
 |rc {Γ f x k l p}:Has ((x,k)::(f,.fn k l)::Γ) p l->(Kd.fn k l).sz<=40->Has Γ (.rc f x k l p) (.fn k l)
def deep:Pt->Nat
 | .one _ p=>p.deep+1
 | .two _ p q=>max p.deep q.deep+1
 | .ite p q r=>max p.deep (max q.deep r.deep)+1
 | .let_ _ p q=>max p.deep q.deep+1
 | .fn _ _ p=>p.deep+1
 | .rc _ _ _ _ p=>p.deep+1
 |_=>0
def sz:Pt->Nat
 | .one _ p=>p.sz+1
 | .two _ p q=>p.sz+q.sz+1
 | .ite p q r=>p.sz+q.sz+r.sz+1
 | .let_ _ p q=>p.sz+q.sz+1
 | .fn _ _ p=>p.sz+1
 | .rc _ _ _ _ p=>p.sz+1
 |_=>1
def fv:Pt->Str->Prop
 | .nam y,x=>x=y
 | .one _ p,x=>p.fv x
 | .two _ p q,x=>p.fv x\/q.fv x
 | .ite p q r,x=>p.fv x\/q.fv x\/r.fv x
 | .let_ y p q,x=>p.fv x\/(q.fv x/\x≠y)
 | .fn y _ p,x=>p.fv x/\x≠y
 | .rc f y _ _ p,x=>p.fv x/\x≠f/\x≠y
 |_,_=>False
theorem lookup_cons_ne{x y:Str}{k:Kd}{Γ:Cxt}(h:x≠y):List.lookup x ((y,k)::Γ)=Γ.lookup x:=by rw[List.lookup_cons,beq_eq_false_iff_ne.mpr h]
end Pt
namespace L2
open PySem PySem.Spec PyProof.Rows PyProof
def wJ(k:Str):List Str->Option Nat
 |[]=>none
 |x::r=>if decide (k=x)=true then some 0 else(wJ k r).map (·+1)
theorem zH{k:Str}:∀{ks:List Str}{vs:List V}{i:Nat}{v:V},wJ k ks=some i->vs[i]? =some v->KTD.datumAt k (ks.zip vs)=some v
 |[],_,_,_,h,_=>by cases h
 |x::r,[],i,v,h,hv=>by simp at hv
 |x::r,u::us,i,v,h,hv=>by
  show(if decide (k=x)=true then some u else KTD.datumAt k (r.zip us))=some v
  have h':(if decide (k=x)=true then some 0 else(wJ k r).map (·+1))=some i:=h
  by_cases z:decide (k=x)=true
  ·rw[if_pos z]at h'⊢
   cases h'
   simpa using hv
  ·rw[if_neg z]at h'⊢
   cases e:wJ k r with
   |none=>rw[e]at h';cases h'
   |some j=>
    rw[e]at h'
    have ei:i=j+1:=by simpa using h'.symm
    subst ei
    exact zH e (by simpa using hv)
theorem yI{k:Str}:∀{ks:List Str}{vs:List V},wJ k ks=none->KTD.inKeys k (ks.zip vs)=false
 |[],_,_=>rfl
 |x::r,[],_=>rfl
 |x::r,u::us,h=>by
  show(decide (k=x)||KTD.inKeys k (r.zip us))=false
  have h':(if decide (k=x)=true then some 0 else(wJ k r).map (·+1))=none:=h
  by_cases z:decide (k=x)=true
  ·rw[if_pos z]at h';cases h'
  ·rw[if_neg z]at h'
   have e:wJ k r=none:=by
    cases e:wJ k r with
    |none=>rfl
    |some j=>rw[e]at h';cases h'
   rw[Bool.eq_false_iff.mpr z,Bool.false_or]
   exact yI e
def jT(o:Obj)(xs:List V):Prop:=o.cls= .type "tuple"/\∃its n,o.data= .seq its n/\Vals xs its.toList
theorem jT.s{K:Fg}{a:Addr}{o:Obj}{xs:List V}(h:jT o xs)(l:K.lookup a=some o)(hz:xs.length<=sizeLine):∀H,qA K H a xs:=fun H=>by
 obtain⟨c,its,n,d,v⟩:=h
 refine .inr ⟨o,its,n,l,c,d,?_,v⟩
 have h1:xs.length=its.toList.length:=v.length
 have h2:its.toList.length=its.size:=by simp
 show its.size<=sizeLine
 rw[<-h2,<-h1]
 exact hz
theorem iU{K:Fg}:∀{ks:List Str}{sss:List (List Str)}{vs:List V},ks.length=sss.length->ks.length=vs.length->(∀(i:Nat)ss v,sss[i]? =some ss->vs[i]? =some v->∃tp,v= .ref tp/\∀H,qA K H tp (ss.map V.str))->
  ∀wd,((ks.zip sss).lookup wd=none/\KTD.datumAt wd (ks.zip vs)=none)\/∃ss tp,(ks.zip sss).lookup wd=some ss/\KTD.datumAt wd (ks.zip vs)=some (.ref tp)/\∀H,qA K H tp (ss.map V.str)
 |[],_,_,_,_,_,wd=>.inl ⟨rfl,rfl⟩
 |x::r,[],_,h,_,_,wd=>by simp at h
 |x::r,ss::sss,[],_,h,_,wd=>by simp at h
 |x::r,ss::sss,v::vs,h1,h2,h3,wd=>by
  show(List.lookup wd ((x,ss)::r.zip sss)=none/\(if decide (wd=x)=true then some v else KTD.datumAt wd (r.zip vs))=none)\/∃ss' tp,List.lookup wd ((x,ss)::r.zip sss)=some ss'/\(if decide (wd=x)=true then some v else KTD.datumAt wd (r.zip vs))=some (.ref tp)/\_
  by_cases z:wd=x
  ·subst z
   rw[if_pos (decide_eq_true rfl)]
   obtain⟨tp,rfl,ht⟩:=h3 0 ss v rfl rfl
   exact .inr ⟨ss,tp,by simp,rfl,ht⟩
  ·rw[if_neg (by simp[z]),List.lookup_cons,beq_eq_false_iff_ne.mpr z]
   exact iU (by simpa using h1) (by simpa using h2) (fun i ss' v' e1 e2=>h3 (i+1) ss' v' (by simpa using e1) (by simpa using e2)) wd
open Dt
section
variable {K:Fg} {H H':Hp}
theorem wX{ds:List Dt}{v:V}(h:qU K H (.tup ds) v):∃a vs,v= .ref a/\qA K H a vs/\qR K H ds vs:=by rw[qU]at h;exact h
theorem zR{x:Str}{v:V}(h:qU K H (.str x) v):v= .str x:=by rw[qU]at h;exact h
theorem zJ(x:Str):qU K H (.str x) (.str x):=by rw[qU]
theorem jZ{vs:List V}(h:qR K H [] vs):vs=[]:=by rw[qR]at h;exact h
theorem qS{d:Dt}{ds:List Dt}{vs:List V}(h:qR K H (d::ds) vs):∃v r,vs=v::r/\qU K H d v/\qR K H ds r:=by rw[qR]at h;exact h
theorem zX:qR K H [] []:=by rw[qR]
theorem qB{d:Dt}{ds:List Dt}{v:V}{vs:List V}(h:qU K H d v)(g:qR K H ds vs):qR K H (d::ds) (v::vs):=by rw[qR];exact⟨v,vs,rfl,h,g⟩
theorem yC{ds:List Dt}{a:Addr}{vs:List V}(h:qA K H a vs)(g:qR K H ds vs):qU K H (.tup ds) (.ref a):=by rw[qU];exact⟨a,vs,rfl,h,g⟩
theorem jB{x:Str}{d:Dt}{v:V}(h:qU K H (.tup [.str x,d]) v):∃a u,v= .ref a/\qA K H a [.str x,u]/\qU K H d u:=by
 obtain⟨a,vs,rfl,hs,h⟩:=wX h
 obtain⟨v0,r,rfl,h0,h⟩:=qS h
 obtain⟨v1,r,rfl,h1,h⟩:=qS h
 cases jZ h;cases zR h0
 exact⟨a,v1,rfl,hs,h1⟩
theorem xV{x:Str}{d e:Dt}{v:V}(h:qU K H (.tup [.str x,d,e]) v):∃a u w,v= .ref a/\qA K H a [.str x,u,w]/\qU K H d u/\qU K H e w:=by
 obtain⟨a,vs,rfl,hs,h⟩:=wX h
 obtain⟨v0,r,rfl,h0,h⟩:=qS h
 obtain⟨v1,r,rfl,h1,h⟩:=qS h
 obtain⟨v2,r,rfl,h2,h⟩:=qS h
 cases jZ h;cases zR h0
 exact⟨a,v1,v2,rfl,hs,h1,h2⟩
theorem xE{x:Str}{d e f:Dt}{v:V}(h:qU K H (.tup [.str x,d,e,f]) v):∃a u w y,v= .ref a/\qA K H a [.str x,u,w,y]/\qU K H d u/\qU K H e w/\qU K H f y:=by
 obtain⟨a,vs,rfl,hs,h⟩:=wX h
 obtain⟨v0,r,rfl,h0,h⟩:=qS h
 obtain⟨v1,r,rfl,h1,h⟩:=qS h
 obtain⟨v2,r,rfl,h2,h⟩:=qS h
 obtain⟨v3,r,rfl,h3,h⟩:=qS h
 cases jZ h;cases zR h0
 exact⟨a,v1,v2,v3,rfl,hs,h1,h2,h3⟩
theorem iO{x:Str}{d e f g i:Dt}{v:V}(h:qU K H (.tup [.str x,d,e,f,g,i]) v):∃a u w y z t,v= .ref a/\qA K H a [.str x,u,w,y,z,t]/\qU K H d u/\qU K H e w/\qU K H f y/\qU K H g z/\qU K H i t:=by
 obtain⟨a,vs,rfl,hs,h⟩:=wX h
 obtain⟨v0,r,rfl,h0,h⟩:=qS h
 obtain⟨v1,r,rfl,h1,h⟩:=qS h
 obtain⟨v2,r,rfl,h2,h⟩:=qS h
 obtain⟨v3,r,rfl,h3,h⟩:=qS h
 obtain⟨v4,r,rfl,h4,h⟩:=qS h
 obtain⟨v5,r,rfl,h5,h⟩:=qS h
 cases jZ h;cases zR h0
 exact⟨a,v1,v2,v3,v4,v5,rfl,hs,h1,h2,h3,h4,h5⟩
theorem jG{x:Str}{d:Dt}{a:Addr}{u:V}(hs:qA K H a [.str x,u])(h1:qU K H d u):qU K H (.tup [.str x,d]) (.ref a):=yC hs (qB (zJ x) (qB h1 zX))
theorem kF{x:Str}{d e:Dt}{a:Addr}{u w:V}(hs:qA K H a [.str x,u,w])(h1:qU K H d u)(h2:qU K H e w):qU K H (.tup [.str x,d,e]) (.ref a):=yC hs (qB (zJ x) (qB h1 (qB h2 zX)))
theorem wA{x:Str}{d e f:Dt}{a:Addr}{u w y:V}(hs:qA K H a [.str x,u,w,y])(h1:qU K H d u)(h2:qU K H e w)(h3:qU K H f y):qU K H (.tup [.str x,d,e,f]) (.ref a):=yC hs (qB (zJ x) (qB h1 (qB h2 (qB h3 zX))))
theorem qA3{x:Str}{d e f g i:Dt}{a:Addr}{u w y z t:V}(hs:qA K H a [.str x,u,w,y,z,t])(h1:qU K H d u)(h2:qU K H e w)(h3:qU K H f y)(h4:qU K H g z)(h5:qU K H i t):qU K H (.tup [.str x,d,e,f,g,i]) (.ref a):=
 yC hs (qB (zJ x) (qB h1 (qB h2 (qB h3 (qB h4 (qB h5 zX))))))
def kY(K:Fg)(H H':Hp):Prop:=∀a xs,qA K H a xs->qA K H' a xs
mutual
theorem qU.monoT(e:kY K H H'):∀{d:Dt}{v:V},qU K H d v->qU K H' d v
 | .non,v,h=>by rw[qU]at h⊢;exact h
 | .bl _,v,h=>by rw[qU]at h⊢;exact h
 | .int _,v,h=>by rw[qU]at h⊢;exact h
 | .str _,v,h=>by rw[qU]at h⊢;exact h
 | .tup ds,v,h=>by
  rw[qU]at h⊢
  obtain⟨a,vs,e1,h1,h2⟩:=h
  exact⟨a,vs,e1,e a vs h1,qR.monoT e h2⟩
theorem qR.monoT(e:kY K H H'):∀{ds:List Dt}{vs:List V},qR K H ds vs->qR K H' ds vs
 |[],vs,h=>by rw[qR]at h⊢;exact h
 |d::ds,vs,h=>by
  rw[qR]at h⊢
  obtain⟨v,r,e1,h1,h2⟩:=h
  exact⟨v,r,e1,qU.monoT e h1,qR.monoT e h2⟩
end
end
structure zF(a:Addr)(H H':Hp):Prop where
 keep:∀b o,b≠a->H b=some o->H' b=some o
 none:∀b,H' b=Option.none->H b=Option.none
theorem zF.refl(a:Addr)(H:Hp):zF a H H:=⟨fun _ _ _ e=>e,fun _ e=>e⟩
theorem zF.trans{a:Addr}{H H1 H2:Hp}(x:zF a H H1)(y:zF a H1 H2):zF a H H2:=⟨fun b o hb e=>y.keep b o hb (x.keep b o hb e),fun b e=>x.none b (y.none b e)⟩
theorem Grow.b{a:Addr}{H H':Hp}(g:Grow H H'):zF a H H':=⟨fun b o _ e=>g.same b o e,g.none⟩
theorem zF.set{a:Addr}{H H':Hp}{o:HO}(g:zF a H H'){u:HO}(hu:H a=some u):zF a H (upd H' a o):=
 ⟨fun b p hb e=>(qC hb).trans (g.keep b p hb e),fun b e=>by
  by_cases z:b=a
  ·subst z;rw[qZ]at e;cases e
  ·rw[qC z]at e;exact g.none b e⟩
theorem zF.tups{K:Fg}{a:Addr}{H H':Hp}{ps:List V}(g:zF a H H')(h:H a=some (.lst ps)):kY K H H':=fun b xs hb=>by
 rcases hb with(hb|⟨o,hb⟩)|hb
 ·exact .inl (.inl (g.keep b _ (vP hb h (by intro z;cases z)) hb))
 ·exact .inl (.inr ⟨o,g.keep b _ (vP hb h (by intro z;cases z)) hb⟩)
 ·exact .inr hb
theorem zF.of_new{a:Addr}{H H1 H2:Hp}(g:Grow H H1)(x:zF a H1 H2)(h:H a=Option.none):Grow H H2:=⟨fun b o e=>x.keep b o (zZ e h) (g.same b o e),fun b e=>g.none b (x.none b e)⟩
def Kn(P:Program)(w:World)(K:Fg)(mg:Str->Option Value)(base:Heap)(k:Nat)(x:Str)(ps:List Str)(sp:Sp):Prop:=
 ∃f fd,zC P w K mg base (CXE P w) k f fd ps sp/\mg x=some (.ref f)/\PySem.W.keepIn K (.ref f)=true/\Binds K fd ps []
section
variable {X:Cx} {k:Nat} {ps:List Str} {sp:Sp} {x:Str} {p pos:Pos} {e:Expr} {es:List Expr} {t:TA}
theorem zI(G:Kn X.prog X.w X.K X.mg X.base k x ps sp)(hr:Room k X.A)(ha:PA X (e::es) t)(hg:Gl X x:=by rfl)
  (hdb:(x==("__debug__":Str))=false:=by decide)(he:starEach (e::es) X.env=(false,eval e X.env)::starEach es X.env:=by rfl)(hpl:(backTo pos (starEach es X.env)).any (·.1)=false:=by rfl):
  PE X (.Call (.Name x p) (e::es) [] pos) (uI sp [] E0 t):=by
 obtain⟨f,fd,F,m,kp,b⟩:=G
 exact yE F hr hg m kp b .nil kR ha hdb he hpl
theorem iI:MtR X "list.index" (fun x xs H Q=>∃(p:Addr)(ys:List V)(xv:V)(d:Dt)(ds:List Dt),x= .ref p/\xs=[xv]/\zV X.K H p ys/\qU X.K H d xv/\qR X.K H ds ys/\X.A.units+1+deps ds<cLine/\qV1 d ds=true/\
  ∀(j:Nat)(e:Dt),ds[j]? =some e->eqD e d=true->Q (.int j) H):=by
 intro pins s σ H x xs v us Q I rx rs h
 obtain⟨p,ys,xv,d,ds,rfl,rfl,hq,hd,hds,hu,hin,q⟩:=h
 cases rx
 obtain⟨u,rfl,e⟩:=vals1 rs
 obtain⟨its,rv,⟨⟨cls,dd,data,sl⟩,n,ho,hc,hdd,hdata⟩,hz⟩:=I.list hq
 simp only at hc hdd hdata
 subst hc hdd hdata
 obtain⟨f,hf,hm⟩:=sP I X.A.in1 d xv u hd e hds rv (by show X.A.units+1+deps ds<cLine;exact hu)
 have hl:its.length=ds.length:=by rw[<-rv.length,hds.length]
 have hany:its.any f=true:=by
  rw[wP,hm,<-wP]
  exact hin
 have hj:its.findIdx f<its.length:=List.findIdx_lt_length_of_exists (by simpa using hany)
 have hit:f its[its.findIdx f]=true:=List.findIdx_getElem
 have hno:∀m(hm:m<its.length),m<its.findIdx f->f its[m]=false:=fun m _ h=>by
  have :=List.not_of_lt_findIdx h
  simpa using this
 refine call_meets PySem.F.slot_list_index ⟨_,ho,rfl⟩ PySem.F.entry_list_index (PySem.F.args_list_index_2 _ _) (SeqAt.list_indexAt p its.toArray n none sl u f (its.findIdx f) (by simpa using hj) ?_ (by simpa using hit) (fun m hm h=>by simpa using hno m (by simpa using hm) h)) ⟨ho,fun y hy=>hf y (by simpa using hy),?_⟩
 ·have :=rv.length
  have :its.length<=sizeLine:=by omega
  rw[sizeLine_eq]at this
  omega
 ·refine⟨.int _,H,I.tok _,⟨_,rfl⟩,?_⟩
  have hj':its.findIdx f<ds.length:=by omega
  refine q _ _ (aq15 hj') ?_
  have :=congrArg (fun l=>l[its.findIdx f]?) hm
  simp only[aq19,aq15 hj,aq15 hj',Option.map_some]at this
  rw[<-Option.some.inj this]
  exact hit
end
theorem uP{K:Fg}{a:Addr}{xs:List V}{te:TE}{ix:List Nat}{σ:St}{H:Hp}{D:Addr}{R:Hp->Prop}(Pv:Nat->List V->Hp->Prop)(h0:Pv 0 [] (upd H D (.lst [])))(hx:∀i ys H',i<=xs.length->Pv i ys H'->zV K H' a xs)
  (he:∀i x ys H',xs[i]? =some x->Pv i ys H'->∀Q':VK,(∀y H6,H6 D=some (.lst ys)->ys.length<sizeLine->Pv (i+1) (ys++[y]) (upd H6 D (.lst (ys++[y])))->Q' y H6)->te (xS ix [some x] σ) H' Q')(q:∀ys H',Pv xs.length ys H'->R H'):
  ∃W:Nat->Nat->List V->Hp->Prop,(∃m,W 0 m [] (upd H D (.lst [])))/\∀i m ys H2,W i m ys H2->
   ((Itl K a).stop i H2/\R H2)\/((Itl K a).go i H2/\∀(o:List (Option V))v H3,o.length=1->(Itl K a).yld i H2 v H3->xU 0 v (xS ix o σ) H3 fun σ2 H4=>(∃o':List (Option V),σ2=xS ix o' σ/\o'.length=1)/\
    ifT none σ2 H4 fun b H5=>if b=true then te σ2 H5 fun y H6=>H6 D=some (.lst ys)/\ys.length<sizeLine/\∃m',m'<m/\W (i+1) m' (ys++[y]) (upd H6 D (.lst (ys++[y])))else∃m',m'<m/\W (i+1) m' ys H5):=by
 refine⟨fun i m ys H2=>i<=xs.length/\m=xs.length-i/\Pv i ys H2,⟨_,Nat.zero_le _,rfl,h0⟩,?_⟩
 rintro i m ys H2 ⟨hi,rfl,p⟩
 have hx2:=hx i ys H2 hi p
 by_cases hl:i<xs.length
 ·refine .inr ⟨⟨xs,xs[i],hx2,aq15 hl⟩,fun o v H3 ho hy=>?_⟩
  obtain⟨rfl,hv⟩:=hy
  have hv':=hv xs hx2
  match o,ho with
  |[_],_=>
   refine⟨⟨[some v],rfl,rfl⟩,?_⟩
   dsimp only[ifT]
   exact jO (he i v ys _ hv' p _ fun y H6 e1 e2 p'=>⟨e1,e2,xs.length-(i+1),by omega,hl,rfl,p'⟩)
 ·have e:i=xs.length:=by omega
  subst e
  exact .inl ⟨⟨xs,hx2,aq7 _⟩,q _ _ p⟩
section
variable {prog:Program} {w:World} {A:Around} {E:Value->Shared->Prop} {s:Shared}
theorem qV5{T newId:String}{self:Value}{rest:List Value}{kw:List (Str×Value)}(hl:typeLookup (.type T) "__init__"=pure (some (.builtin "object.__init__")))
  (hm:Bind.madeBy (.type T)=pure (some newId))(hne:(some newId !=some "object.__new__")=true):
  Meets (Builtin.«object.__init__» ⟨self::rest,kw⟩) (fun _ R s=>s.TypeIs self T/\R (.ok (.ret .none)) s):=by
 refine Meets.of_wp fun prog w A R s hs=>?_
 obtain⟨hT,hq⟩:=hs
 cases rest with
 |nil=>
  cases kw with
  |nil=>exact wpAny_pure ⟨_,rfl,hq⟩
  |cons p q=>
   repeat (any_goals (first|assumption|wp_step))
   exact⟨_,rfl,hq⟩
 |cons a rest=>
  repeat (any_goals (first|assumption|wp_step))
  exact⟨_,rfl,hq⟩
theorem qV6{T newId:String}{Bn:Builtin}{args:List Value}{kw:List (Str×Value)}{S:PySem.Spec}{Q:Value->Shared->Prop}(ft:TypeCalled T newId "object.__init__")
  (hne:(some newId !=some "object.__new__")=true)(hct:checkTypeCall T ⟨args,kw⟩=pure ())(hcn:checkBuiltinCall newId ⟨.type T::args,kw⟩=pure ())
  (hok:∀obj,argsOk "object.__init__" ⟨obj::args,kw⟩)(entryN:entryFor table newId=some Bn)(g:Meets (Bn ⟨.type T::args,kw⟩) S)
  (h:S A.in1 (wants (fun obj s₁=>s₁.TypeIs obj T/\Q obj s₁) E) s):wpAny (model prog w) A (call (.type T) args kw) Q E s:=by
 obtain⟨c,tl,hmro⟩:=ft.mro
 have hmade:=ft.made
 have hsub:=ft.sub
 refine wpAny_call (codeAny_of_tree ?_)
 show wpAny _ _ (callAny (.type T) _) _ _ _
 refine wpAny_pure ⟨Code.quiet_builtin _ (by decide+kernel),codeAny_builtin PySem.F.entry_type_call ?_⟩
 rw[Around.under_plain (weight_type_call_type T args kw) (units_type_call_type T args kw)]
 have h1:=ft.notType
 have h2:=ft.canCreate
 repeat (any_goals (first|assumption|wp_step))
 refine codeAny_mono (codeAny_call_builtin ft.plain entryN (wpAny_of_eq hcn (g prog w A.in1 _ s h))) fun r s₁ hr=>?_
 cases r with
 |error e=>exact hr
 |ok fl=>
  cases fl with
  |ret obj=>
   obtain⟨hT,hq⟩:=hr
   have hli:=ft.init.lookup
   have hbi:=ft.init.bind obj
   repeat (any_goals (first|assumption|wp_step))
   refine codeAny_mono (codeAny_call_builtin ft.init.plain PySem.F.entry_object_init (ft.init.check _ _ _ _ _ _ _ _ hT (hok obj) (qV5 ft.init.lookup ft.made hne prog w A.in1 (wants (fun r s₂=>r= .none/\Q obj s₂) E) s₁ ⟨hT,rfl,hq⟩))) fun r₂ s₂ hr₂=>?_
   cases r₂ with
   |error e=>exact hr₂
   |ok fl₂=>
    cases fl₂ with
    |ret r=>
     obtain⟨rfl,hq⟩:=hr₂
     repeat (any_goals (first|assumption|wp_step))
    |_=>exact hr₂.elim
  |_=>exact hr.elim
theorem gQ(l:Addr)(items:Array Value)(n:Nat)(dct:Option Addr)(sl:Array (Option Value))(t:Tok):
  Meets (Builtin.«enumerate.__new__» ⟨[.type "enumerate",.ref l],[("start",.int 1 t)]⟩) (fun _ R s=>s.heap.get? l=some {cls:=.type "list",dict:=dct,data:=.seq items n,slots:=sl}/\
   R (.ok (.ret (.ref (s.heap.push {cls:=.type "list_iterator",data:=.fields #[.ref l,.int 0 0]}).objs.size)))
    {s with heap:=(s.heap.push {cls:=.type "list_iterator",data:=.fields #[.ref l,.int 0 0]}).push {cls:=.type "enumerate",data:=.fields #[.none,.bool false,.ref s.heap.objs.size,rawInt 1,.none,.none]}}):=
 .of_wp fun prog w A R s h=>by
  obtain⟨hp,g,d,tk,os⟩:=s;obtain⟨hl,h⟩:=h
  have hsub:=sub_enumerate
  have hL:Heap.IsList (Shared.heap ⟨hp,g,d,tk,os⟩) l items:=⟨_,hl,rfl,n,rfl⟩
  wp_walk using AutoSeq1.wpAny_loadPart' hl
  refine wpAny_stack_any fun st=>wpAny_pure ?_
  split
  ·rename_i c _ _ _ _ _
   cases (c==Value.type "enumerate")
   ·wp_walk using AutoSeq1.wpAny_loadPart' hl,wpAny_pyIter_list hL
    exact⟨_,rfl,h⟩
   ·wp_walk using AutoSeq1.wpAny_loadPart' hl,wpAny_pyIter_list hL
    exact⟨_,rfl,h⟩
  ·wp_walk using AutoSeq1.wpAny_loadPart' hl,wpAny_pyIter_list hL
   exact⟨_,rfl,h⟩
theorem pB(a b:Value):checkTypeCall "enumerate" ⟨[a],[("start",b)]⟩=pure ():=by kernel_rfl
theorem tZ(a b:Value):checkBuiltinCall "enumerate.__new__" ⟨[.type "enumerate",a],[("start",b)]⟩=pure ():=by kernel_rfl
theorem nW(a b c:Value):argsOk "object.__init__" ⟨[a,b],[("start",c)]⟩:=by
 unfold argsOk;rw[signature?_of (id:="object.__init__") (n:=['_','_','t','i','n','i','_','_']) (o:=['t','c','e','j','b','o']) (by kernel_rfl) PySem.F.owner_object];kernel_rfl
theorem nY{l:Addr}{items:Array Value}{t:Tok}{Q:Value->Shared->Prop}(hL:s.heap.IsList l items)
  (h:∀h',IsEnum h' (s.heap.objs.size+1) s.heap.objs.size 1 .none->h'.IsListIter s.heap.objs.size l 0->
   (∀b o,s.heap.get? b=some o->h'.get? b=some o)->Q (.ref (s.heap.objs.size+1)) {s with heap:=h'}):
  wpAny (model prog w) A (call (.type "enumerate") [.ref l] [("start",.int 1 t)]) Q E s:=by
 obtain⟨⟨c,dct,dt,sl⟩,hl,hc,n,hd⟩:=hL
 replace hc:c= .type "list":=hc
 replace hd:dt= .seq items n:=hd
 subst hc hd
 refine qV6 PySem.F.called_enumerate (by decide) (pB _ _) (tZ _ _) (fun obj=>nW obj _ _) PySem.F.entry_enumerate_new
  (gQ l items n dct sl t) ⟨hl,?_⟩
 have hz:(s.heap.push {cls:=.type "list_iterator",data:=.fields #[.ref l,.int 0 0]}).objs.size=s.heap.objs.size+1:=Heap.size_push ..
 show _/\_
 rw[hz]
 have he:IsEnum ((s.heap.push {cls:=.type "list_iterator",data:=.fields #[.ref l,.int 0 0]}).push
   {cls:=.type "enumerate",data:=.fields #[.none,.bool false,.ref s.heap.objs.size,rawInt 1,.none,.none]}) (s.heap.objs.size+1) s.heap.objs.size 1 .none:=by
  have :=aq14 (s.heap.push {cls:=.type "list_iterator",data:=.fields #[.ref l,.int 0 0]})
   (o:={cls:=.type "enumerate",data:=.fields #[.none,.bool false,.ref s.heap.objs.size,rawInt 1,.none,.none]}) rfl
  rw[hz]at this;exact this
 exact⟨⟨_,he,rfl⟩,h _ he ⟨_,aq13 _ (aq14 _ rfl),rfl,rfl⟩ fun b o x=>aq13 _ (aq13 _ x)⟩
theorem draws1(hh:A.handled=none)(it l:Addr)(hne:l≠it)(items:Array Value):
  Draws prog w A it [it,l] (items.size+1) (fun i v=>∃j,i=j+1/\items[j]? =some v) (fun i h=>∃j,i=j+1/\h.IsListIter it l j/\h.IsList l items):=by
 have D:=Draws.list (prog:=prog) (w:=w) hh it l hne items
 exact {
  live:=fun i h⟨j,_,st⟩=>D.live j h st
  frame:=fun i h h'⟨j,e,st⟩hk=>⟨j,e,D.frame j h h' st hk⟩
  item:=fun i s Q E hi⟨j,e,st⟩hQ=>D.item j s Q E (by omega) st fun x h' tk p st' sb=>hQ x h' tk ⟨j,e,p⟩ ⟨j+1,by omega,st'⟩ sb
  done:=fun s Q E⟨j,e,st⟩hE=>D.done s Q E (by have :j=items.size:=(by omega);exact this▸st) hE}
theorem pD(hh:A.handled=none)(it l:Addr)(items:Array Value)(i:Nat)(hi:items[i]? =none):
  Draws prog w A it [it,l] (i+1) (fun _ _=>False) (fun k h=>k=i+1/\h.IsListIter it l i/\h.IsList l items)where
 live:=fun _ _ st=>let⟨o,ho,_⟩:=st.2.1;⟨o,ho⟩
 frame:=fun _ _ _ st hk=>⟨st.1,st.2.1.at fun o e=>hk it (by simp) o e,st.2.2.at fun o e=>hk l (by simp) o e⟩
 item:=fun k s Q E hk st hQ=>by have :=st.1;omega
 done:=fun s Q E st hE=>wpAny_nextOf_list_end hh st.2.1 st.2.2 hi hE
end
section
variable {M:Model} {A:Around} {E:Value->Shared->Prop} {s:Shared} {env:Env}
theorem cW{pos:Pos}{T:String}{e:Expr}{rest:List Expr}{kws:List Keyword}{Q:Value->Shared->Prop}
  (h:wpAny M A (spliced (backTo pos (starEach (e::rest) env))) (fun vs s₁=>wpAny M A (evalAll ((backToKw pos (keywordEach kws env)).map (·.2)))
   (fun kvs s₂=>wpAny M A (call (.type T) vs (((backToKw pos (keywordEach kws env)).filterMap (·.1)).zip kvs)) Q E s₂) E s₁) E s)
  (he:backTo pos (starEach (e::rest) env)=(false,eval e env)::backTo pos (starEach rest env):=by rfl)
  (hplain:(backTo pos (starEach (e::rest) env)).any (·.1)=false:=by rfl)
  (hall:(backToKw pos (keywordEach kws env)).all (·.1.isSome)=true:=by rfl)
  (hkw:(backToKw pos (keywordEach kws env)).any (·.1.isNone)=false:=by rfl):
  wpAny M A (callWith pos (.type T) [] (backTo pos (starEach (e::rest) env)) (backToKw pos (keywordEach kws env))) Q E s:=by
 have h2:wpAny M A (evalArgs (.type T) true (backTo pos (starEach (e::rest) env)) (backToKw pos (keywordEach kws env))) (fun a s₁=>wpAny M A (call (.type T) ([]++a.pos) a.kw) Q E s₁) E s:=by
  rw[he]at h⊢
  exact evalArgs_kwB hall h
 unfold callWith
 refine wpAny_bind (wpAny_holding (wpAny_mono h2 (fun a s₁ h₁=>wpAny_bind (wpAny_standAt ?_)) fun _ _ x=>x))
 simp only[hplain,hkw,Bool.or_false]
 refine wpAny_bind (wpAny_pure ?_)
 exact wpAny_bind (wpAny_mono h₁ (fun r s₂ hr=>wpAny_bind (wpAny_holding (wpAny_point (wpAny_pure hr)))) fun _ _ x=>x)
end
def Ite1(K:Fg)(l:Addr):It:=⟨fun i H=>∃xs x,zV K H l xs/\xs[i]? =some x,
 fun i H v H'=>∃T x,H T=none/\v= .ref T/\H'=upd H T (.tup [.int (i+1:Nat),x])/\∀ys,zV K H l ys->ys[i]? =some x,
 fun i H=>∃xs,zV K H l xs/\xs.length<=i⟩
theorem nU{P:Program}{w:World}{K:Fg}{es:List Expr}{k0}{pos:Pos}(l e it:Addr)(ne:e≠it):Turn P w K (.Tuple es k0 pos) (Ite1 K l) [e,it] e (fun i h=>(∃old,IsEnum h e it (i+1:Nat) old)/\h.IsListIter it l i)where
 mem:=by simp
 obj:=fun i h st b hb=>by
  obtain⟨⟨old,e1⟩,o,e2,c2,d2⟩:=st
  rcases List.mem_cons.mp hb with z|z
  ·rw[z];exact⟨_,e1,fun v z=>by cases z⟩
  ·rw[aq20.mp z];exact⟨o,e2,fun v z=>by rw[d2]at z;cases z⟩
 keep:=fun i h h' st k=>⟨st.1.imp fun old q=>k e (by simp) _ q,st.2.at fun o q=>k it (by simp) o q⟩
 item:=by
  intro X hP hw hK hc i pins s σ H E I hf st hg
  subst hP hw hK
  obtain⟨xs,x,hq,hx⟩:=hg
  obtain⟨its,rv,p,hz⟩:=I.list hq
  obtain⟨⟨old,e1⟩,e2⟩:=st
  have pL:=p.isList
  have hli:l≠it:=by
   obtain⟨o,q,c,_⟩:=e2
   obtain⟨o',q',c',_⟩:=pL
   intro z;subst z
   rw[q]at q';cases q';rw[c]at c';exact absurd (Value.type.inj c') (by decide)
  have hle:e≠l:=by
   obtain⟨o',q',c',_⟩:=pL
   intro z;subst z
   rw[e1]at q';cases q';exact absurd (Value.type.inj c') (by decide)
  have hlen:i<its.length:=by
   have :=rv.length
   rcases Nat.lt_or_ge i xs.length with h|h
   ·omega
   ·rw[List.getElem?_eq_none h]at hx;cases hx
  refine wpAny_pyNext_enum_itemD (draws1 (A:=X.A.in1) (I.ok.hd hc) it l hli its.toArray) e1 ⟨i,rfl,e2,p.isList⟩ (by simp;exact hlen) ne (by simp;exact⟨ne,hle⟩) fun u h1 tk⟨j,ej,hu⟩o1 i1 t1 z1 k1=>⟨_,rfl,wpAny_letOwnedTupleGo_enum o1 fun h2 o2 b2=>?_⟩
  have ej':j=i:=by omega
  subst ej'
  obtain⟨j2,ej2,i1,_⟩:=i1
  have ej2':j2=j+1:=by omega
  subst ej2'
  obtain⟨u',hu',ru⟩:=rv.get hx
  have eu:u'=u:=by
   have :its[j]? =some u:=by simpa using hu
   rw[hu']at this;exact Option.some.inj this
  subst eu
  have e3:e≠s.heap.objs.size:=wR e1
  have e4:it≠s.heap.objs.size:=by obtain⟨o,q,_⟩:=e2;exact wR q
  have nT:H s.heap.objs.size=none:=I.hok.fresh (aq7 _)
  have t2:h2.get? s.heap.objs.size=some {cls:=.type "tuple",data:=.seq #[.int (j+1:Nat) tk,u']}:=(b2.2 _ (Ne.symm e3)).trans t1
  have I1:Inv X pins σ (upd H s.heap.objs.size (.tup [.int (j+1:Nat),x])) {s with heap:=s.heap.push {cls:=.type "tuple",data:=.seq #[.int (j+1:Nat) tk,u']},toks:=tk+1}:=
   I.laid (fun b v q=>aq13 _ q) (aq7 _) ⟨by show 2<=sizeLine;decide,[.int (j+1:Nat) tk,u'],.cons ⟨_,rfl⟩ (.cons ru .nil),⟨_,aq14 _ rfl,rfl,_,rfl⟩⟩
  have I2:Inv X pins σ (upd H s.heap.objs.size (.tup [.int (j+1:Nat),x])) {s with heap:=h2,toks:=tk+1}:=by
   refine Inv.turnedL (s:={s with heap:=s.heap.push {cls:=.type "tuple",data:=.seq #[.int (j+1:Nat) tk,u']},toks:=tk+1}) (ch:=[e,it]) (t':=tk+1) I1 (fun b o hb q=>?_) fun b hb=>?_
   ·have b1:b≠e:=fun z=>hb (by simp[z])
    have b3:b≠it:=fun z=>hb (by simp[z])
    by_cases bT:b=s.heap.objs.size
    ·subst bT
     have z:(s.heap.push {cls:=.type "tuple",data:=.seq #[.int (j+1:Nat) tk,u']}).get? s.heap.objs.size=some _:=aq14 _ rfl
     rw[z]at q
     exact t2.trans q
    ·have q':s.heap.get? b=some o:=by rw[<-q];exact(Heap.get?_push_ne _ _ _ bT).symm
     exact(b2.2 b b1).trans (k1 b o b1 b3 q')
   ·obtain⟨f0,f1⟩:=hf b hb
    refine⟨?_,f1⟩
    rw[qC ?_]
    ·exact f0
    ·rcases List.mem_cons.mp hb with z|z
     ·rw[z];exact e3
     ·rw[aq20.mp z];exact e4
  refine⟨.ref s.heap.objs.size,_,I2,rfl,⟨s.heap.objs.size,x,nT,rfl,rfl,fun ys hy=>by rw[I.list_inj hy hq];exact hx⟩,⟨⟨u',by simpa using o2⟩,i1.at fun o q=>(b2.2 it (Ne.symm ne)).trans q⟩,fun b hb=>?_⟩
  rw[qC ?_]
  ·exact(hf b hb).1
  ·rcases List.mem_cons.mp hb with z|z
   ·rw[z];exact e3
   ·rw[aq20.mp z];exact e4
 done:=by
  intro X hP hw hK hc i pins s σ H E I hf st hg
  subst hP hw hK
  obtain⟨xs,hq,hx⟩:=hg
  obtain⟨its,rv,p,hz⟩:=I.list hq
  have hl:=rv.length
  obtain⟨⟨old,e1⟩,e2⟩:=st
  exact wpAny_pyNext_enum_endD (pD (A:=X.A.in1) (I.ok.hd hc) it l its.toArray i (by simp;omega)) e1 ⟨rfl,e2,p.isList⟩ fun h' eb=>⟨rfl,I.turnedL (t':=s.toks) (ch:=[e,it]) (fun b o hb q=>eb b o (fun z=>hb (by simp[z])) q) hf⟩
 self:=fun _ _ _ _ _ st h=>let⟨⟨_,e1⟩,_⟩:=st;wpAny_pyIter_enum e1 h
def qB4(K:Fg)(ta:TA):TI:=fun σ H R=>ta σ H fun vs H1=>∃l,vs=[.ref l]/\(∃xs,zV K H1 l xs)/\R (Ite1 K l) H1
theorem tJ{X:Cx}{a:Expr}{ta:TA}{p pos p2 kp p3:Pos}{j:Nat}{es:List Expr}{k0}(hg:Gl X "enumerate")(hm:X.mg "enumerate"=none)(ha:PA X [a] ta)
  (he:backTo pos (starEach [a] X.env)=[(false,eval a X.env)]:=by rfl)
  (hk:eval (.Call (.Name "enumerate" p) [a] [⟨some "start",.Constant (.int 1) j p3,kp⟩] pos) X.env=(do callWith pos (<-eval (.Name "enumerate" p) X.env) [] (backTo pos (starEach [a] X.env)) (backToKw pos (keywordEach [⟨some "start",.Constant (.int 1) j p3,kp⟩] X.env))):=by rfl):
  PI X (.Tuple es k0 p2) (.Call (.Name "enumerate" p) [a] [⟨some "start",.Constant (.int 1) j p3,kp⟩] pos) (qB4 X.K ta):=by
 intro pins s σ H R I h
 rw[hk]
 refine wpAny_bind (kE I hg hm boot_enumerate (cW (thn (ha pos pins s σ H _ I h) fun us s1⟨vs,H1,I1,r1,q1⟩=>?_) he (by rw[he];rfl)))
 obtain⟨l,rfl,⟨xs,hq⟩,q⟩:=q1
 obtain⟨u,rfl,ru⟩:=vals1 r1
 cases ru
 refine kws_cons (wpAny_Constant_int (kws_nil ?_))
 have I2:=I1.tok (s1.toks+1)
 obtain⟨its,rv,pl,hz⟩:=I2.list hq
 refine nY pl.isList fun h' e1 e2 kp=>wpAny_pyIter_enum e1 ?_
 refine⟨_,[s1.heap.objs.size+1,s1.heap.objs.size],_,_,H1,rfl,I2.kept (t':=s1.toks+1) kp,nU l _ _ (Nat.succ_ne_self _),⟨⟨_,e1⟩,e2⟩,fun b hb=>?_,q⟩
 have hb':s1.heap.objs.size<=b:=by
  rcases List.mem_cons.mp hb with z|z
  ·rw[z];exact Nat.le_succ _
  ·rw[aq20.mp z];exact aq7 _
 exact I1.fpOk hb' (I1.hok.fresh hb')
theorem pF{K:Fg}{l:Addr}{xs:List V}{g:TG}{tb:TS}{D:Ends}{σ:St}{H:Hp}(Pv:Nat->St->Hp->Prop)(h0:Pv 0 σ H)(hl:∀i σ H,i<=xs.length->Pv i σ H->zV K H l xs)
  (hs:∀i x T σ H,xs[i]? =some x->Pv i σ H->H T=none->g (.ref T) σ (upd H T (.tup [.int (i+1:Nat),x])) fun σ2 H2=>tb {D with nx:=Pv (i+1),ct:=Pv (i+1),bk:=D.nx} σ2 H2)(hd:∀σ H,Pv xs.length σ H->D.nx σ H):
  ∃W:Nat->Nat->St->Hp->Prop,(∃m,W 0 m σ H)/\∀i m σ H,W i m σ H->
   ((Ite1 K l).stop i H/\D.nx σ H)\/((Ite1 K l).go i H/\∃N:St->Hp->Prop,(∀σ' H',N σ' H'->∃m',m'<m/\W (i+1) m' σ' H')/\∀x H',(Ite1 K l).yld i H x H'->g x σ H' fun σ2 H2=>tb {D with nx:=N,ct:=N,bk:=D.nx} σ2 H2):=by
 refine⟨fun i m σ H=>m=xs.length-i/\i<=xs.length/\Pv i σ H,⟨xs.length,by simp,Nat.zero_le _,h0⟩,?_⟩
 rintro i m σ H ⟨rfl,hi,p⟩
 have q:=hl i σ H hi p
 by_cases hlt:i<xs.length
 ·refine .inr ⟨⟨xs,xs[i],q,aq15 hlt⟩,Pv (i+1),fun σ' H' p'=>⟨xs.length-(i+1),by omega,rfl,hlt,p'⟩,fun x H' y=>?_⟩
  obtain⟨T,z,hT,rfl,rfl,hz⟩:=y
  exact hs i z T σ H (hz xs q) p hT
 ·have e:i=xs.length:=by omega
  subst e
  exact .inl ⟨⟨xs,q,aq7 _⟩,hd σ H p⟩
theorem qA4{P:Program}{w:World}{k:Key}{u:Value}(h:(zT P w).is k u=true):zY (kV k) u:=by
 rw[mO]at h
 cases k with
 |inl i=>obtain⟨t,rfl⟩:=Value.isInt_shape h;exact⟨t,rfl⟩
 |inr x=>obtain⟨t,rfl⟩:=Value.isStrOf_shape h;exact⟨t,rfl⟩
theorem pH{P:Program}{w:World}{kvs:List (Key×V)}{vs:List (Key×Value)}(r:KV kvs vs):∀{us:List Value},us.length=vs.length->(∀(j:Nat)u,us[j]? =some u->∃k x,vs[j]? =some (k,x)/\(zT P w).is k u=true)->Vals (kvs.map fun p=>kV p.1) us:=by
 induction r with
 |nil=>
  intro us hl _
  cases us with
  |nil=>exact .nil
  |cons _ _=>simp at hl
 |cons e _ ih=>
  intro us hl h
  cases us with
  |nil=>simp at hl
  |cons u us=>
   obtain⟨k,x,h1,h2⟩:=h 0 u rfl
   have h1':=Option.some.inj h1
   refine .cons ?_ (ih (by simpa using hl) fun j v hv=>h (j+1) v (by simpa using hv))
   have e1:=e.1
   rw[h1']at e1
   show zY (kV _) u
   rw[e1]
   exact qA4 h2
theorem nO{X:Cx}(hc:X.calm=true):kJ X (.type "list") (fun xs H Q=>∃a kvs,xs=[V.ref a]/\H a=some (.dK kvs)/\∀l,H l=none->Q (.ref l) (upd H l (.lst (kvs.map fun p=>kV p.1)))):=by
 intro pins s σ H xs us Q I r h
 obtain⟨a,kvs,rfl,ha,q⟩:=h
 obtain⟨u,rfl,rx⟩:=vals1 r
 cases rx
 obtain⟨hz,lo,vs,rv,hD⟩:kvs.length<=sizeLine/\(a==sysModules)=false/\∃vs,KV kvs vs/\s.heap.DictOf (zT X.prog X.w) a vs:=I.hok a _ ha
 obtain⟨ep,hat⟩:=hD.dictAt
 have hl:kvs.length=vs.length:=Paired.length rv
 refine PySem.W.kdl_call (PySem.W.kdl_dict (knd:=zT X.prog X.w) (kvs:=vs) (ep:=ep) lo) (I.ok.hd hc) hat (by omega) fun h' tk acc c kp e hacc=>?_
 refine⟨.ref s.heap.objs.size,_,I.laid (t':=tk) kp (aq7 _) (show jV X.prog X.w _ h' _ (.lst (kvs.map fun p=>kV p.1))from⟨by simpa using hz,acc.toList,c,pH rv (by rw[Array.length_toList];exact hacc.1) (fun j u hu=>hacc.2 j u (by rw[<-Array.getElem?_toList];exact hu)),by simpa using e⟩),rfl,q _ (I.hok.fresh (aq7 _))⟩
section
variable {X:Cx} {pins:List (Addr×Obj)} {σ:St} {H:Hp} {s:Shared}
end
section
variable {K:Fg} {ρ:Nat->Dt} {σ:St} {vs:List Nat}
end
section
variable {X:Cx} {es rest:List Expr} {l l':List Ds} {j k:Nat} {p:Pos} {x:Str} {n:Int} {b:Bool} {i:Nat}
end
section
variable {X:Cx} {st:Stmt} {ta':TA} {t tr:TS} {r:List Stmt} {es es2:List Expr} {l l2:List Ds} {kk k2:Nat} {p p2 p3 pos pos' apos cpos:Pos} {x:Str} {i:Nat} {o a b c e:Expr} {ta tb tc te:TE} {r2:R2}
end
section
variable {K:Fg} {ρ:Nat->Dt} {σ:St} {vs:List Nat} {d d2:Ds} {j:Nat} {tr:TS} {D:Ends} {H:Hp} {ta tb:TE} {r2:R2}
end
end L2
namespace L2
open PySem PySem.Spec PyProof.Rows PyProof
open Dt
section
variable {X:Cx} {t tr ta:TS} {r sa:List Stmt} {es es2 es3:List Expr} {l l2 l3:List Ds} {kk k2 k3:Nat} {p p2 p3 p4 pos pos' apos:Pos} {x:Str} {i:Nat} {b c:Expr} {tb:TE} {r2:R2} {tc:TT}
end
section
variable {K:Fg} {ρ:Nat->Dt} {σ:St} {vs:List Nat} {d d2 d3:Ds} {j:Nat} {tr:TS} {D:Ends} {H:Hp} {tb:TE} {r2:R2}
end
structure PAw(X:Cx)(es:List Expr)(t:TA):Prop where
 h:PA X es t
section
variable {X:Cx} {e:Expr} {es rest:List Expr} {te:TE} {t t':TA} {j k i:Nat} {p pos pos':Pos} {x:Str}
theorem wn:PAw X [] wI:=⟨qJ⟩
theorem ws(hr:PAw X rest t):PAw X (.Constant (.str x) j p::rest) (jL (tC (.str x)) t):=⟨qQ qV hr.h (by rfl)⟩
theorem wt(h:PAw X es t)(hr:PAw X rest t'):PAw X (.Tuple es k p::rest) (jL (mD t) t'):=⟨qQ (qF h.h) hr.h (by rfl)⟩
end
end L2
namespace L2
open PySem PySem.Spec PySem.W PyProof.Rows PyProof
section
variable {prog:Program} {w:World} {A:Around} {E:Value->Shared->Prop} {s:Shared} {K:Fg} {x C:Addr} {ox:Obj} {od:Option Obj}
end
section
variable {X:Cx} {k:Nat} {f C:Addr} {fd:FuncData} {ps:List Str} {ds:List Value} {dvs:List V} {sp:Sp} {x m:Str} {p pos apos:Pos} {e o:Expr} {es:List Expr} {ta:TE} {t:TA}
end
def qI4(K:Fg)(ts1 ts2:Addr->TS)(i:Nat)(C1 C2:Addr)(D:Ends)(σ:St):XK:=fun cls oe H1=>∃e C bm,cls= .ref C/\oe=some e/\XC K C bm/\
 (((Value.ref C::bm).contains (.ref C1)=true/\ts1 e {nx:=fun _ _=>False,rt:=D.rt} (σ.set i (some (.ref e))) H1)\/
  ((Value.ref C::bm).contains (.ref C1)=false/\(Value.ref C::bm).contains (.ref C2)=true/\ts2 e {nx:=fun _ _=>False,rt:=D.rt} (σ.set i (some (.ref e))) H1))
def qA5(K:Fg)(tb:TSx)(ts1 ts2:Addr->TS)(i:Nat)(C1 C2:Addr):TS:=fun D σ H=>tb D (qI4 K ts1 ts2 i C1 C2 D σ) σ H
theorem qV7{X:Cx}{st b₀ b₁:Stmt}{tb:TSx}{c1 c2 n:Str}{i:Nat}{su1 su2:List Stmt}{ts1 ts2:Addr->TS}{C1 C2:Addr}{bm1 bm2:List Value}{p hp p' hp' pos:Pos}(hstk:X.stack=X.env::X.outer)(hfr:X.env.frame=some X.env.locals)(hb:PSx X st tb)
  (hg1:Gl X c1)(hm1:X.mg c1=some (.ref C1))(xd1:XC X.K C1 bm1)(hg2:Gl X c2)(hm2:X.mg c2=some (.ref C2))(xd2:XC X.K C2 bm2)(hN:X.N.Nodup)(hi:X.N[i]? =some n)(hl:X.env.scope.names.lookup n=some .local)
  (hs1:∀e,PSs (X.suite e) (b₀::su1) (ts1 e))(hs2:∀e,PSs (X.suite e) (b₁::su2) (ts2 e))(hdb1:(c1==("__debug__":Str))=false:=by decide)(hdb2:(c2==("__debug__":Str))=false:=by decide):
  PS X (.Try [st] [.ExceptHandler (some (.Name c1 p)) (some n) (b₀::su1) hp,.ExceptHandler (some (.Name c2 p')) (some n) (b₁::su2) hp'] [] [] pos) (qA5 X.K tb ts1 ts2 i C1 C2):=by
 intro pins s σ H D I h
 refine wpAny_Try_except (wpAny_mono (Q:=SP X pins D) (E:=XP X pins σ (qI4 X.K ts1 ts2 i C1 C2 D σ)) ?_ (fun f s1 q=>?_) fun x s1 hx=>?_)
 rotate_left
 ·cases f with
  |next=>exact wpAny_execs_nil q
  |ret u=>exact q
  |brk=>exact q
  |cont=>exact q
 rotate_right
 ·refine wpAny_execs_cons (thn (hb pins s σ H D _ I h) fun f s1 q=>?_)
  cases f with
  |next=>exact wpAny_execs_nil q
  |ret u=>exact q
  |brk=>exact q
  |cont=>exact q
 ·obtain⟨e,C,t,T,d,H1,rfl,I1,he,hT,fx,_,e',C',bm,e1,e2,xc,q⟩:=hx
  cases e1
  cases e2
  refine thn (I1.noted hstk hfr he hT fx (Q:=fun _ s2=>_) fun s2 T2 I2 hT2 fx2=>?_) fun _ _ z=>z
  have J2:Inv (X.suite e) pins σ H1 s2:=I2.re (fun h=>by cases h) rfl
  obtain⟨nm,qq,N',bs,sn,sub,ab,col,dd,k0,k1,k2,k3,k5,lC⟩:=xc.obj
  obtain⟨vs',sl,ho,hz6,h0,h1⟩:=vN (I2.hok e _ he)
  have KX:=I2.kIn
  obtain⟨hh,g,dr,tk,os⟩:=s2
  have take:∀{c:Str}{Cd:Addr}{bmD:List Value}{b:Stmt}{su:List Stmt}{ts:Addr->TS}{p hp:Pos}{rest:List ExceptHandler},Gl X c->X.mg c=some (.ref Cd)->XC X.K Cd bmD->(∀e,PSs (X.suite e) (b::su) (ts e))->(c==("__debug__":Str))=false->(Value.ref C::bm).contains (.ref Cd)=true->ts e {nx:=fun _ _=>False,rt:=D.rt} (σ.set i (some (.ref e))) H1->
    wpAny (model X.prog X.w) X.A (handleBy (.ref e) X.env (.ExceptHandler (some (.Name c p)) (some n) (b::su) hp::rest)) (SP X pins D) X.xe ⟨hh,g,dr,tk,os⟩:=by
   intro c Cd bmD b su ts p hp rest hg hm xd hs hdb hcon q
   refine XA.handle_as (xF (X:=X.suite e) J2 hg hm ?_ hdb)
   obtain⟨nm',qq',N'',bs',sn',sub',ab',col',dd',j0,j1,j2,j3,j5,lD⟩:=xd.obj
   refine XA.matches_x (KX _ _ lC) (KX _ _ lD) ho rfl xd.ab.base hcon ⟨rfl,?_⟩
   refine XA.flight_some fx2 fun h3 f3 k3' k4=>?_
   obtain⟨t0,t1,t2,t3,t4,t5⟩:=hT2
   have J3:Inv (X.suite e) pins σ H1 ⟨h3,g,dr,tk,os⟩:=J2.turned (t':=tk) (fun b o hb q=>k3' b o hb q) t0 t1 t3 t4 t5
   refine uK (X:=X.suite e) J3 hN hi (.inl hl) (v:=.ref e) rfl (fun s4 J4=>?_) (.inr hl)
   refine wpAny_mono (hs e pins s4 _ H1 _ J4 q) (fun f s5 r5=>?_) fun _ _ z=>z
   cases f with
   |next=>obtain⟨_,_,_,z⟩:=r5;exact z.elim
   |brk=>obtain⟨_,_,_,z⟩:=r5;exact z.elim
   |cont=>obtain⟨_,_,_,z⟩:=r5;exact z.elim
   |ret u=>
    obtain⟨v,σ5,H5,J5,rv,q5⟩:=r5
    obtain⟨m,hn,_⟩:=J5.loc
    have hcls:(X.env.scope.kind== .class||(X.env.scope.kind== .module&&X.env.locals !=X.env.globals))=false:=by rw[I.ok.kind];rfl
    have K5:Inv X pins σ5 H5 s5:=J5.re (X:=X.suite e) (A':=X.A) (cm:=X.calm) (E':=X.xe) I.ok.hd rfl
    exact wpAny_nameGoes hl hn hcls fun h6 m6 hn6 hs6=>⟨v,_,H5,K5.forgot hn6 hs6,rv,q5⟩
  rcases q with⟨hcon,q⟩|⟨hno,hcon,q⟩
  ·exact take hg1 hm1 xd1 hs1 hdb1 hcon q
  ·refine XA.handle_on (xF (X:=X.suite e) J2 hg1 hm1 ?_ hdb1)
   obtain⟨nm',qq',N'',bs',sn',sub',ab',col',dd',j0,j1,j2,j3,j5,lD⟩:=xd1.obj
   exact XA.matches_x (KX _ _ lC) (KX _ _ lD) ho rfl xd1.ab.base hno ⟨rfl,take hg2 hm2 xd2 hs2 hdb2 hcon q⟩
end L2
namespace L2
open PySem PySem.Spec PyProof.Rows PyProof
def oF(S:Addr):List Value:=[.ref S,.type "ValueError",.type "Exception",.type "BaseException",.type "object"]
def IsX(o:Obj)(C:Addr)(bm:List Value):Prop:=∃nm q N bs sn sub ab col dd k0 k1 k2 k3 k5,o=excClassObj nm q C N bs bm true sn sub ab col dd k0 k1 k2 k3 k5 "ValueError.__new__"
structure xA(K:Fg)(C:Addr)(o:Obj):Prop where
 l:K.lookup C=some o
 sa:PySem.W.findIn K (.ref C) "__setattr__"=some (some (.builtin "object.__setattr__"))
 ga:PySem.W.findIn K (.ref C) "__getattribute__"=some (some (.builtin "BaseException.__getattribute__"))
 gh:PySem.W.findIn K (.ref C) "__getattr__"=some none
 st:PySem.W.findIn K (.ref C) "__str__"=some (some (.builtin "BaseException.__str__"))
 kp:PySem.W.keepIn K (.ref C)=true
 cl:PySem.W.findIn K (.ref C) "__class__"=some (some (.builtin "object.__class__"))
 hd:PySem.W.hasDictIn K C=true
 mr:PySem.W.mroIn K C (.type "object")=some true
theorem tX(S C:Addr)(self:Value):refuseLoop self "__setattr__" (.ref C::oF S)=pure ():=by
 unfold oF
 rw[refuseLoop_ref,refuseLoop_ref]
 rfl
theorem xA.xc{K:Fg}{C S:Addr}{o:Obj}(r:xA K C o)(x:IsX o C (oF S)):XC K C (oF S):=by
 obtain⟨nm,q,N,bs,sn,sub,ab,col,dd,k0,k1,k2,k3,k5,rfl⟩:=x
 exact⟨⟨nm,q,N,bs,sn,sub,ab,col,dd,k0,k1,k2,k3,k5,r.l⟩,⟨rfl,rfl,rfl,rfl⟩,rfl,tX S C,r.sa,r.ga,r.gh,r.st,r.kp⟩
theorem xA.xi{K:Fg}{C:Addr}{o:Obj}(r:xA K C o)(gt:PySem.W.specialIn K (.builtin "object.__class__") "__get__"=some (some (.builtin "getset_descriptor.__get__")))(tk:PySem.W.takesIn K (.builtin "object.__class__")=some true):XI K C:=
 ⟨r.cl,gt,tk,r.mr,r.hd⟩
theorem XC.mro{K:Fg}{C:Addr}{bm:List Value}(x:XC K C bm)(c:Value):PySem.W.subIn K (.ref C) c=some ((Value.ref C::bm).contains c):=by
 obtain⟨nm,q,N,bs,sn,sub,ab,col,dd,k0,k1,k2,k3,k5,l⟩:=x.obj
 show PySem.W.mroIn K C c=_
 unfold PySem.W.mroIn PySem.W.clsIn
 rw[l]
 rfl
theorem XC.isCls{K:Fg}{C:Addr}{bm:List Value}(x:XC K C bm):(PySem.W.clsIn K C).isSome=true/\PySem.W.typeIn K (.ref C)=some (.type "type"):=by
 obtain⟨nm,q,N,bs,sn,sub,ab,col,dd,k0,k1,k2,k3,k5,l⟩:=x.obj
 constructor
 ·unfold PySem.W.clsIn;rw[l];rfl
 ·show(K.lookup C).map (·.cls)=_;rw[l];rfl
theorem bH{K:Fg}{C D:Addr}{bm:List Value}(x:XC K C bm)(h1:(PySem.W.clsIn K D).isSome=true)(h2:PySem.W.typeIn K (.ref D)=some (.type "type")):PySem.W.kitOne K (.ref C) (.ref D)=some ((Value.ref C::bm).contains (.ref D)):=by
 unfold PySem.W.kitOne
 by_cases e:(Value.ref C==Value.ref D)=true
 ·rw[if_pos e,List.contains_cons]
  have :(Value.ref D==Value.ref C)=true:=by rw[beq_iff_eq]at e⊢;exact e.symm
  rw[this,Bool.true_or]
 ·rw[if_neg e]
  unfold PySem.W.kitCls
  dsimp only
  rw[if_pos (by rw[h1,h2];rfl)]
  exact x.mro _
theorem qB5{K:Fg}{C:Addr}{T:String}{bm:List Value}(x:XC K C bm)(h1:PySem.W.kitMeta T=true):PySem.W.kitOne K (.ref C) (.type T)=some ((Value.ref C::bm).contains (.type T)):=by
 unfold PySem.W.kitOne
 rw[if_neg (by intro h;cases (beq_iff_eq.mp h))]
 unfold PySem.W.kitCls
 dsimp only
 rw[if_pos h1]
 exact x.mro _
theorem bP{S C D:Addr}(h:D≠S):(Value.ref C::oF S).contains (.ref D)=decide (C=D):=by
 have e1:(Value.ref D==Value.ref S)=false:=beq_eq_false_iff_ne.mpr fun z=>h (Value.ref.inj z)
 have e2:(Value.ref D==Value.ref C)=decide (C=D):=by
  by_cases z:C=D
  ·subst z;simp
  ·rw[decide_eq_false z];exact beq_eq_false_iff_ne.mpr fun q=>z (Value.ref.inj q).symm
 unfold oF
 rw[List.contains_cons,List.contains_cons,e1,e2]
 cases decide (C=D)<;>rfl
theorem qA6{S C:Addr}:(Value.ref C::oF S).contains (.ref S)=true:=by
 unfold oF
 rw[List.contains_cons,List.contains_cons,beq_self_eq_true,Bool.true_or,Bool.or_true]
theorem tK:bootBuiltins "ValueError"=some (.type "ValueError"):=by decide+kernel
structure Cs(K:Fg)(mg:Str->Option Value)(S BT NN UF TL ND NR NM BR:Addr)(bm:List Value):Prop where
 nd:[BT,NN,UF,TL,ND,NR,NM,BR].Nodup
 xc:∀C∈[BT,NN,UF,TL,ND,NR,NM,BR],XC K C bm
 xi:∀C∈[BT,NN,UF,TL,ND,NR,NM,BR],XI K C
 kit:∀C∈[BT,NN,UF,TL,ND,NR,NM,BR],∀D∈[BT,NN,UF,TL,ND,NR,NM,BR],PySem.W.kitOne K (.ref C) (.ref D)=some (decide (C=D))
 kitS:∀C∈[BT,NN,UF,TL,ND,NR,NM,BR],PySem.W.kitOne K (.ref C) (.ref S)=some true
 kitV:∀C∈[BT,NN,UF,TL,ND,NR,NM,BR],PySem.W.kitOne K (.ref C) (.type "ValueError")=some true
 m0:mg "SpeakError"=some (.ref S)
 m1:mg "BadText"=some (.ref BT)
 m2:mg "NoName"=some (.ref NN)
 m3:mg "Unfit"=some (.ref UF)
 m4:mg "TooLong"=some (.ref TL)
 m5:mg "NotDone"=some (.ref ND)
 m6:mg "NoRoom"=some (.ref NR)
 m7:mg "NoMachine"=some (.ref NM)
 m8:mg "BadRow"=some (.ref BR)
theorem iC{C:Addr}:∀{l:List Addr},l.Nodup->C∈l->(l.map fun D=>decide (C=D)).count true=1
 |[],_,h=>by cases h
 |D::l,nd,h=>by
  obtain⟨n1,n2⟩:=List.nodup_cons.mp nd
  rw[List.map_cons,List.count_cons]
  by_cases e:C=D
  ·subst e
   have z:(l.map fun D=>decide (C=D)).count true=0:=by
    rw[List.count_eq_zero]
    intro hm
    obtain⟨D,hD,e⟩:=List.mem_map.mp hm
    have :C=D:=by simpa using e
    subst this
    exact n1 hD
   rw[z]
   simp
  ·have hl:C∈l:=by
    rcases List.mem_cons.mp h with z|z
    ·exact absurd z e
    ·exact z
   rw[iC n2 hl]
   simp[e]
theorem tV{C:Addr}{H H1:Hp}{xs:List V}{a b:Addr}(g:Grow H H1)(ha:H1 a=none)(hb:H1 b=none)(hab:a≠b):Grow H (upd (upd (upd H1 a (.tup xs)) b (xL true C a none b)) b (xL false C a none b)):=
 (g.trans ((Grow.put ha).trans (Grow.put (by rw[qC (Ne.symm hab)];exact hb)))).set (g.none _ hb)
def Rz(C:Addr)(H:Hp)(E:XK):Prop:=∀e t H',Grow H H'->H e=none->H' e=some (xL false C t none e)->E (.ref C) (some e) H'
theorem qA7{C:Addr}{H H1:Hp}{E:XK}{σ:St}{s:Str}(r:Rz C H E)(g:Grow H H1):sQ H E C (qT3 C (jL (tC (.str s)) wI)) {nx:=fun _ _=>False,rt:=fun _ _=>False} σ H1:=
 ⟨zl1,fun a b ha hb hab=>⟨b,a,none,rfl,qZ,g.none _ hb,r b a _ (tV g ha hb hab) (g.none _ hb) qZ⟩⟩
section
variable {P:Program} {w:World} {K:Fg} {mg:Str->Option Value} {base:Heap} {N:List Str} {qual:Str} {sc0:Scope} {f:Addr} {cd:Value} {A:Around} {outer:List Env} {s0:Shared} {H0:Hp} {E:XK}
variable {scope:Scope} {cl:List (Str×Addr)} {own rest Nb:List Str} {ix:List Nat}
theorem qB6{pins pins':List (Addr×Obj)}{σ σ':St}{H:Hp}{s s':Shared}{fp:List Addr}{x:Value}(I:Inv (jN (CXE P w) P w K mg base N qual sc0 f cd A outer s0 H0 E) pins σ H s)(hf:∀b∈fp,kL (jN (CXE P w) P w K mg base N qual sc0 f cd A outer s0 H0 E) pins H b)
  (hp:∀b∈fp,∃ob,(b,ob)∈pins')(hx:XP (kP (jN (CXE P w) P w K mg base N qual sc0 f cd A outer s0 H0 E) scope cl Nb s.heap.objs.size s H fp pins) pins' σ' E x s'):
  notedBy (model P w) (A.deeper (envOfC qual sc0 s0.heap.objs.size f cd)) (compEnvC scope cl s.heap.objs.size (envOfC qual sc0 s0.heap.objs.size f cd)) (sE (jN (CXE P w) P w K mg base N qual sc0 f cd A outer s0 H0 E) s.heap.objs.size) x s':=by
 obtain⟨e,C,t,T,d,H',rfl,I5,he,hT,fx,⟨n1,n2⟩,hE⟩:=hx
 obtain⟨t0,t1,t2,t3,t4,t5⟩:=hT
 have nfp:∀b∈fp,b≠e/\b≠T:=fun b hb=>by
  obtain⟨ob,hm⟩:=hp b hb
  exact⟨n2 (b,ob) (aq11 _ hm),t5 (b,ob) (aq11 _ hm)⟩
 have hn:s.heap.get? e=none:=by
  cases r:s.heap.get? e with
  |none=>rfl
  |some o=>exact absurd rfl (nfp e (n1 o r)).1
 have hTn:s.heap.objs.size<=T:=t3.elim (fun z=>absurd rfl (nfp T z).2) id
 have fr5:=I5.stkFree
 obtain⟨m,hm,_⟩:=I5.loc
 have hC0:H' s.heap.objs.size=none:=I5.free
 have neC:s.heap.objs.size≠e:=fun z=>by rw[z,he]at hC0;cases hC0
 have l5:s.heap.objs.size<s'.heap.objs.size:=I5.lt
 have nfC:s.heap.objs.size∉frs (envOfC qual sc0 s0.heap.objs.size f cd::outer):=fun z=>by
  obtain⟨_,o,ho,_⟩:=I.stack.mem z
  exact absurd (aq8 ho) (Nat.lt_irrefl _)
 show wpAny _ _ (noteFrame (.ref e) (envOfC qual sc0 s0.heap.objs.size f cd)) _ _ s'
 refine XA.note_x (base:=base) (env:=envOfC qual sc0 s0.heap.objs.size f cd) (outer:=outer) (L:=s0.heap.objs.size) I.ok.frames I5.funs rfl fx fun h1 T1 hT1 f1 k1=>?_
 have frs_eq:((envOfC qual sc0 s0.heap.objs.size f cd::outer).filterMap (·.frame))=frs (envOfC qual sc0 s0.heap.objs.size f cd::outer):=rfl
 rw[frs_eq]at k1
 have neCT:s.heap.objs.size≠T1:=fun z=>by omega
 refine⟨m,?_,fun h2 hs2 cenv _=>?_⟩
 ·obtain⟨o,es,ep,ho,r⟩:=hm
  exact⟨o,es,ep,k1.keep _ o neC (fun z=>t1 (Option.some.inj z).symm) nfC ho,r⟩
 have f2:XA.Fly h2 e (.ref C) d (.ref t) (some T1) (rawInt s0.heap.objs.size):=by
  obtain⟨⟨vs,sl,z1,z2⟩,tb⟩:=f1
  refine⟨⟨vs,sl,(hs2.2 e (Ne.symm neC)).trans z1,z2⟩,fun T' z=>?_⟩
  obtain⟨y1,oT,ts,y2,y3⟩:=tb T' z
  cases z
  exact⟨y1,oT,ts,(hs2.2 _ (Ne.symm neCT)).trans y2,y3⟩
 unfold PySem.passOn
 obtain⟨⟨vs,sl,z1,z2,z3,z4⟩,_⟩:=id f2
 refine wpAny_bind (wpAny_field z1 rfl z4 ?_)
 rw[if_neg (show¬(((some T1).elim Value.none Value.ref==Value.none)=true)from by simp)]
 refine wpAny_bind (XA.flight_to (s:={s' with heap:=h2}) f2 fun h3 f3 k2 k3=>?_)
 have old:∀b o,s.heap.get? b=some o->b≠e/\b≠T/\b≠s.heap.objs.size/\b≠T1:=fun b o q=>by
  have :=aq8 q
  exact⟨fun z=>(by rw[z,hn]at q;cases q),fun z=>Nat.lt_irrefl _ (Nat.lt_of_lt_of_le this (z▸hTn)),fun z=>Nat.lt_irrefl _ (z▸this),fun z=>Nat.lt_irrefl _ (Nat.lt_of_lt_of_le this (z▸Nat.le_trans (Nat.le_of_lt l5) hT1))⟩
 have K3:∀b o,b≠e->b≠T->b≠s.heap.objs.size->b≠T1->b∉frs (envOfC qual sc0 s0.heap.objs.size f cd::outer)->s'.heap.get? b=some o->h3.get? b=some o:=fun b o a1 a2 a3 a4 a5 q=>
  k2 b o a4 ((hs2.2 b a3).trans (k1.keep b o a1 (fun z=>a2 (Option.some.inj z)) a5 q))
 have un:Un (frs (envOfC qual sc0 s0.heap.objs.size f cd::outer)) fp H H' s.heap h3:=
  ⟨fun b o q n hb hx=>(have z:=old b o q;K3 b o z.1 z.2.1 z.2.2.1 z.2.2.2 hb (I5.base.keep b o q n hb hx)),
   fun b o q n hb hx=>(have z:=old b o q;by
    obtain⟨sl,r⟩:=I5.base.slot b o q n hb hx
    obtain⟨sl',r'⟩:=k1.slot b _ z.1 (fun y=>z.2.1 (Option.some.inj y)) r
    exact⟨sl',k2 b _ z.2.2.2 ((hs2.2 b z.2.2.1).trans r')⟩),
   I5.base.free,fun b o q hx=>(have z:=old b o q;by
    obtain⟨o',r⟩:=I5.base.there b o q hx
    obtain⟨o2,r2⟩:=k1.there b o' r
    exact k3 b o2 ((hs2.2 b z.2.2.1).trans r2)),I5.base.tups,I5.base.frzs,I5.base.tbls⟩
 have hok:HOk P w H' h3:=by
  have :=I5.hok.flies he f3 fun b o hb hn' q=>K3 b o hb (fun z=>hn' (by rw[z];exact t0)) (fun z=>hn' (by rw[z];exact hC0)) (fun z=>absurd (aq8 q) (by rw[z];exact Nat.not_lt.mpr hT1)) (fun z=>hn' (fr5 b z)) q
  rw[wB he]at this;exact this
 have J:=I.call' (s':={s' with heap:=h3}) (ch:=fp) I5.os un hok I5.bare fun b hm=>let⟨_,g1,_,g3,g4,g5⟩:=hf b hm;⟨g3,g1,g4,g5⟩
 refine wpAny_throw (leaves (fr:=cenv.frame) J he ?_ (fun T' z=>by cases z;exact⟨Nat.le_trans I.sz (by omega),I5.hok.fresh hT1⟩) f3 ?_)
 ·cases r:s0.heap.get? e with
  |none=>rfl
  |some o=>
   obtain⟨o',r'⟩:=I.base.there e o r (by show e∉([]:List Addr);simp)
   rw[hn]at r';cases r'
 ·rw[wB he];exact hE
theorem tW{elt iter tg:Expr}{pos spos py:Pos}{wi:TI}{te:TEx}{g:TG}{i:Nat}{x:Str}(hN:N.Nodup)(hi':N[i]? =some x)(hx:Loc sc0 x)(ok:yS (jN (CXE P w) P w K mg base N qual sc0 f cd A outer s0 H0 E) scope cl own rest ix)
  (hi:PI (jN (CXE P w) P w K mg base N qual sc0 f cd A outer s0 H0 E) tg iter wi)
  (he:∀(C:Addr)(s:Shared)(H:Hp)(fp:List Addr)(pins:List (Addr×Obj)),PEx (kP (jN (CXE P w) P w K mg base N qual sc0 f cd A outer s0 H0 E) scope cl (own++rest) C s H fp pins) elt te)
  (hg:∀(C:Addr)(s:Shared)(H:Hp)(fp:List Addr)(pins:List (Addr×Obj)),PG (kP (jN (CXE P w) P w K mg base N qual sc0 f cd A outer s0 H0 E) scope cl (own++rest) C s H fp pins) tg g)
  (hsw:swapsWith (.ListComp elt [⟨tg,iter,[],0⟩] scope pos) (some (.Name x py)) spos.line (envOfC qual sc0 s0.heap.objs.size f cd)=pure true)
  (hs:∀x,foldedSetIterable iter (envOfC qual sc0 s0.heap.objs.size f cd) x=pure x:=by intro _;rfl):
  PS (jN (CXE P w) P w K mg base N qual sc0 f cd A outer s0 H0 E) (.Assign [.Name x py] (.ListComp elt [⟨tg,iter,[],0⟩] scope pos) spos) (cE (nZ wi g none (fun σ H Q=>te σ H Q E) own.length ix) (xU i)):=
 lE (XE:=fun s H fp pins x s'=>∃pins' σ',(∀b∈fp,∃ob,(b,ob)∈pins')/\XP (kP (jN (CXE P w) P w K mg base N qual sc0 f cd A outer s0 H0 E) scope cl (own++rest) s.heap.objs.size s H fp pins) pins' σ' E x s') hN hi' hx ok rfl hi
  (fun s H fp pins pins' s' σ' H' Q' hp I q=>wpAny_mono (he _ s H fp pins pins' s' σ' H' Q' E I q) (fun _ _ z=>z) fun x s' z=>⟨pins',σ',hp,z⟩)
  (fun s H fp pins σ x s' I hf⟨pins',σ',hp,z⟩=>qB6 I hf hp z) hg (fun _ _ _ _ _=>trivial) hsw (.inl rfl) hs
end
end L2
open PySem
inductive Bad|unfit|noname (x:Str)
namespace Pt
def ofO:Option Kd->Except Bad Kd
 |some k=>.ok k
 |none=>.error .unfit
def iteK(k l m:Kd):Except Bad Kd:=if k= .bool/\l=m then .ok l else .error .unfit
def fit:Cxt->Pt->Except Bad Kd
 |_,.num _=>.ok .int
 |_,.tru _=>.ok .bool
 |Γ,.nam x=>match Γ.lookup x with
  |some k=>.ok k
  |none=>.error (.noname x)
 |_,.nil k=>.ok (.list k)
 |Γ,.one u p=>(fit Γ p).bind fun k=>ofO (k1 u k)
 |Γ,.two u p q=>(fit Γ p).bind fun k=>(fit Γ q).bind fun l=>ofO (k2 u k l)
 |Γ,.ite p q r=>(fit Γ p).bind fun k=>(fit Γ q).bind fun l=>(fit Γ r).bind fun m=>iteK k l m
 |Γ,.let_ x p q=>(fit Γ p).bind fun k=>fit ((x,k)::Γ) q
 |Γ,.fn x k p=>(fit ((x,k)::Γ) p).bind fun l=>.ok (.fn k l)
 |Γ,.rc f x k l p=>(fit ((x,k)::(f,.fn k l)::Γ) p).bind fun m=>if m=l then .ok (.fn k l)else .error .unfit
theorem bind_ok{α β:Type}{a:Except Bad α}{f:α->Except Bad β}{y:β}(h:a.bind f= .ok y):∃x,a= .ok x/\f x= .ok y:=by
 cases a with
 |error e=>cases h
 |ok x=>exact⟨x,rfl,h⟩
def gr:Pt->Nat
 | .nil _=>1
 | .one _ p=>p.gr
 | .two _ p q=>max p.gr q.gr+1
 | .ite p q r=>max p.gr (max q.gr r.gr)
 | .let_ _ p q=>p.gr+q.gr
 | .fn _ _ p=>p.gr+1
 | .rc _ _ _ _ p=>p.gr+1
 |_=>0
def Kb(n:Nat):Pt->Prop
 | .nil k=>k.deep<=n
 | .one _ p=>p.Kb n
 | .two _ p q=>p.Kb n/\q.Kb n
 | .ite p q r=>p.Kb n/\q.Kb n/\r.Kb n
 | .let_ _ p q=>p.Kb n/\q.Kb n
 | .fn _ k p=>k.deep<=n/\p.Kb n
 | .rc _ _ k l p=>k.deep<=n/\l.deep<=n/\p.Kb n
 |_=>True
def Cb(n:Nat)(Γ:Cxt):Prop:=∀x k,Γ.lookup x=some k->k.deep<=n
theorem Cb.nil(n:Nat):Cb n []:=fun _ _ h=>by cases h
theorem Cb.mono{m n:Nat}{Γ:Cxt}(h:Cb m Γ)(l:m<=n):Cb n Γ:=fun x k e=>Nat.le_trans (h x k e) l
theorem Cb.cons{n:Nat}{Γ:Cxt}{x:Str}{k:Kd}(h:Cb n Γ)(hk:k.deep<=n):Cb n ((x,k)::Γ):=fun y l e=>by
 by_cases z:y=x
 ·subst z;rw[List.lookup_cons,beq_self_eq_true]at e;cases e;exact hk
 ·rw[lookup_cons_ne z]at e;exact h y l e
theorem qV9{u:U1}{k m:Kd}(h:k1 u k=some m):m.deep<=k.deep:=by
 cases u<;>cases k<;>simp only[k1,reduceCtorEq,Option.some.injEq]at h<;>subst h<;>simp only[Kd.deep]<;>omega
theorem qVq{u:U2}{k l m:Kd}(h:k2 u k l=some m):m.deep<=max k.deep l.deep+1:=by
 cases u
 ·cases l<;>simp only[k2,reduceCtorEq,Option.ite_none_right_eq_some,Option.some.injEq]at h
  obtain⟨rfl,rfl⟩:=h
  simp only[Kd.deep];omega
 ·simp only[k2,Option.some.injEq]at h
  subst h;simp only[Kd.deep];omega
 ·cases k<;>simp only[k2,reduceCtorEq,Option.ite_none_right_eq_some,Option.some.injEq]at h
  obtain⟨rfl,rfl⟩:=h
  simp only[Kd.deep];omega
 all_goals
  cases k<;>cases l<;>simp only[k2,reduceCtorEq,Option.some.injEq]at h<;>subst h<;>simp only[Kd.deep]<;>omega
theorem tY{o:Option Kd}{k:Kd}(h:ofO o= .ok k):o=some k:=by
 cases o with
 |none=>cases h
 |some l=>cases h;rfl
theorem fit_deep:∀(p:Pt){Γ:Cxt}{M n:Nat}{k:Kd},Cb M Γ->p.Kb n->n<=M->fit Γ p= .ok k->k.deep<=M+p.gr
 | .num _,_,_,_,_,_,_,_,h=>by cases h;exact Nat.zero_le _
 | .tru _,_,_,_,_,_,_,_,h=>by cases h;exact Nat.zero_le _
 | .nam x,Γ,_,_,k,hc,_,_,h=>by
  unfold fit at h
  split at h
  ·next l hl=>cases h;exact Nat.le_trans (hc x _ hl) (Nat.le_add_right _ _)
  ·cases h
 | .nil k,_,M,n,_,_,hk,hn,h=>by cases h;simp only[Kd.deep,gr,Kb]at hk⊢;omega
 | .one u p,_,_,_,_,hc,hk,hn,h=>by
  obtain⟨l,h1,h2⟩:=bind_ok h
  have :=fit_deep p hc hk hn h1
  have :=qV9 (tY h2)
  simp only[gr];omega
 | .two u p q,_,_,_,_,hc,hk,hn,h=>by
  obtain⟨l,h1,h⟩:=bind_ok h
  obtain⟨m,h2,h3⟩:=bind_ok h
  have :=fit_deep p hc hk.1 hn h1
  have :=fit_deep q hc hk.2 hn h2
  have :=qVq (tY h3)
  simp only[gr];omega
 | .ite p q r,_,_,_,_,hc,hk,hn,h=>by
  obtain⟨l,h1,h⟩:=bind_ok h
  obtain⟨m,h2,h⟩:=bind_ok h
  obtain⟨o,h3,h⟩:=bind_ok h
  unfold iteK at h
  split at h
  ·cases h
   have :=fit_deep q hc hk.2.1 hn h2
   simp only[gr];omega
  ·cases h
 | .let_ x p q,_,_,_,_,hc,hk,hn,h=>by
  obtain⟨l,h1,h2⟩:=bind_ok h
  have a:=fit_deep p hc hk.1 hn h1
  have :=fit_deep q ((hc.mono (Nat.le_add_right _ p.gr)).cons (x:=x) a) hk.2 (Nat.le_trans hn (Nat.le_add_right _ _)) h2
  simp only[gr];omega
 | .fn x k p,_,_,_,_,hc,hk,hn,h=>by
  obtain⟨l,h1,h2⟩:=bind_ok h
  cases h2
  have :=fit_deep p (hc.cons (x:=x) (Nat.le_trans hk.1 hn)) hk.2 hn h1
  have :=hk.1
  simp only[gr,Kd.deep];omega
 | .rc f x k l p,_,_,_,_,hc,hk,hn,h=>by
  obtain⟨m,h1,h2⟩:=bind_ok h
  split at h2
  ·cases h2
   have :=hk.1;have :=hk.2.1
   simp only[gr,Kd.deep];omega
  ·cases h2
theorem fit_fv:∀(p:Pt){Γ:Cxt}{k:Kd},fit Γ p= .ok k->∀x,p.fv x->∃l,Γ.lookup x=some l
 | .num _,_,_,_,_,z=>z.elim
 | .tru _,_,_,_,_,z=>z.elim
 | .nil _,_,_,_,_,z=>z.elim
 | .nam y,Γ,k,h,x,z=>by
  cases (show x=y from z)
  unfold fit at h
  split at h
  ·next l hl=>exact⟨l,hl⟩
  ·cases h
 | .one u p,_,_,h,x,z=>by
  obtain⟨l,h1,_⟩:=bind_ok h
  exact fit_fv p h1 x z
 | .two u p q,_,_,h,x,z=>by
  obtain⟨l,h1,h⟩:=bind_ok h
  obtain⟨m,h2,_⟩:=bind_ok h
  exact z.elim (fit_fv p h1 x) (fit_fv q h2 x)
 | .ite p q r,_,_,h,x,z=>by
  obtain⟨l,h1,h⟩:=bind_ok h
  obtain⟨m,h2,h⟩:=bind_ok h
  obtain⟨o,h3,_⟩:=bind_ok h
  exact z.elim (fit_fv p h1 x) fun z=>z.elim (fit_fv q h2 x) (fit_fv r h3 x)
 | .let_ y p q,_,_,h,x,z=>by
  obtain⟨l,h1,h2⟩:=bind_ok h
  refine z.elim (fit_fv p h1 x) fun z=>?_
  obtain⟨m,e⟩:=fit_fv q h2 x z.1
  rw[lookup_cons_ne z.2]at e
  exact⟨m,e⟩
 | .fn y k p,_,_,h,x,z=>by
  obtain⟨l,h1,_⟩:=bind_ok h
  obtain⟨m,e⟩:=fit_fv p h1 x z.1
  rw[lookup_cons_ne z.2]at e
  exact⟨m,e⟩
 | .rc f y k l p,_,_,h,x,z=>by
  obtain⟨m,h1,_⟩:=bind_ok h
  obtain⟨o,e⟩:=fit_fv p h1 x z.1
  rw[lookup_cons_ne z.2.2,lookup_cons_ne z.2.1]at e
  exact⟨o,e⟩
theorem gr_sz:∀p:Pt,p.gr<=p.sz
 | .num _=>by simp[gr,sz]
 | .tru _=>by simp[gr,sz]
 | .nam _=>by simp[gr,sz]
 | .nil _=>by simp[gr,sz]
 | .one _ p=>by have :=gr_sz p;simp only[gr,sz];omega
 | .two _ p q=>by have :=gr_sz p;have :=gr_sz q;simp only[gr,sz];omega
 | .ite p q r=>by have :=gr_sz p;have :=gr_sz q;have :=gr_sz r;simp only[gr,sz];omega
 | .let_ _ p q=>by have :=gr_sz p;have :=gr_sz q;simp only[gr,sz];omega
 | .fn _ _ p=>by have :=gr_sz p;simp only[gr,sz];omega
 | .rc _ _ _ _ p=>by have :=gr_sz p;simp only[gr,sz];omega
theorem Has.kb{Γ:Cxt}{p:Pt}{k:Kd}(h:Has Γ p k):p.Kb 40:=by
 induction h with
 |num=>trivial
 |tru=>trivial
 |nam _ _=>trivial
 | @nil _ k e=>have :=Kd.deep_sz k;show k.deep<=40;omega
 |one _ _ _ ih=>exact ih
 |two _ _ _ _ i1 i2=>exact⟨i1,i2⟩
 |ite _ _ _ i1 i2 i3=>exact⟨i1,i2,i3⟩
 |let_ _ _ i1 i2=>exact⟨i1,i2⟩
 | @fn _ _ k _ l _ e ih=>exact⟨by have :=Kd.deep_sz k;simp only[Kd.sz]at e;omega,ih⟩
 | @rc _ _ _ k l _ _ e ih=>exact⟨by have :=Kd.deep_sz k;simp only[Kd.sz]at e;omega,by have :=Kd.deep_sz l;simp only[Kd.sz]at e;omega,ih⟩
end Pt
namespace K14
open PySem L2 PyProof Dt
def top(i:Nat):Stmt:=PySem.Challenge.pw_plainspeak_k14_kinds_that_dont_fit.main.body.getD i (.Pass ⟨0,0,0,0⟩)
abbrev sNN:Stmt:=qX6 (top 3) 0
abbrev sVB:Stmt:=top 12
abbrev sWN:Stmt:=top 14
abbrev sLU:Stmt:=top 15
abbrev sNB:Stmt:=top 16
abbrev qB7:Stmt:=top 21
abbrev sRW:Stmt:=top 22
abbrev qI5:Stmt:=top 23
abbrev qI6:Stmt:=top 24
abbrev qI7:Stmt:=top 25
abbrev tU:Stmt:=top 26
abbrev tO:Stmt:=top 27
abbrev bR:Stmt:=top 28
abbrev sIf:Stmt:=top 29
abbrev qI8:Stmt:=top 30
def SL:List (Str×List Str):=[("nil",["kind"]),("cons",["part","part"]),("head",["part"]),("tail",["part"]),("empty",["part"]),("pair",["part","part"]),("first",["part"]),("second",["part"]),("if",["part","part","part"]),("let",["name","part","part"]),("fn",["name","kind","part"]),
 ("rec",["name","name","kind","kind","part"]),("call",["part","part"]),("plus",["part","part"]),("minus",["part","part"]),("times",["part","part"]),("over",["part","part"]),("rest",["part","part"]),("less",["part","part"]),("same",["part","part"]),("and",["part","part"]),("or",["part","part"]),("not",["part"])]
def zO(wd:Str):List Str:=(SL.lookup wd).getD []
structure GlV(K:Fg)(mg:Str->Option Value):Prop where
 zip:mg "zip"=none
 tab:∃a D,mg "PART_SLOTS"=some (.ref a)/\oB K a D/\∀wd,(zO wd=[]/\PyProof.Rows.KTD.datumAt wd D=none)\/∃tp,PyProof.Rows.KTD.datumAt wd D=some (.ref tp)/\∀H,qA K H tp ((zO wd).map V.str)
structure Spk(K:Fg)(mg:Str->Option Value)(S:Addr):Prop where
 mgS:mg "SpeakError"=some (.ref S)
 ga:PySem.W.specialIn K (.ref S) "__getattribute__"=some (some (.builtin "type.__getattribute__"))
 rd:PySem.W.readsIn K S (.type "type")=true
 fi:PySem.W.findCls K (.ref S) (.type "type") "__init__"=some (.val (.builtin "ValueError.__init__"))
section
variable {P:Program} {w:World} {K:Fg} {mg:Str->Option Value} {base:Heap} {S C:Addr} {bm:List Value}
inductive qA8(C:Addr)(f:Str)(vs:List V)(H:Hp)(Q:VK):Prop
 |mk (e:Addr) (a:Addr) (x:Str) (v:V) (a_0:vs=[.ref e,.str x,v]) (a_1:H e=some (xL true C a none e)) (a_2:∀(a' d:Addr)(H':Hp),H' e=some (xL true C a' (some d) e)->H' a'=some (.tup [.str x])->H' d=some (.xd [(f,v)])->(∀b o,H b=some o->b≠e->H' b=some o)->(∀b,H' b=none->H b=none)->Q .non H'):qA8 C f vs H Q
def spX(C:Addr)(f:Str):Sp:=fun vs H Q x_0=>qA8 C f vs H Q
theorem qA9{C:Addr}{f:Str}{H:Hp}{Q:VK}{e a:Addr}{x:Str}{v:V}(he:H e=some (xL true C a none e))
  (k:∀(a' d:Addr)(H':Hp),H' e=some (xL true C a' (some d) e)->H' a'=some (.tup [.str x])->H' d=some (.xd [(f,v)])->(∀b o,H b=some o->b≠e->H' b=some o)->(∀b,H' b=none->H b=none)->Q .non H')
  {a' d:Addr}(ha:H a'=none)(hd:(upd (upd H a' (.tup [.str x])) e (xL true C a' none e)) d=none):
  Q .non (upd (upd (upd (upd H a' (.tup [.str x])) e (xL true C a' none e)) d (.xd [(f,v)])) e (xL true C a' (some d) e)):=by
 have nea:a'≠e:=fun z=>by subst z;rw[he]at ha;cases ha
 have nde:d≠e:=fun z=>by subst z;rw[qZ]at hd;cases hd
 have nda:d≠a':=fun z=>by subst z;rw[qC nde,qZ]at hd;cases hd
 have hd0:H d=none:=by rw[qC nde,qC nda]at hd;exact hd
 refine k a' d _ qZ ?_ ?_ (fun b o hb hne=>?_) fun b hb=>?_
 ·rw[qC nea,qC (Ne.symm nda),qC nea,qZ]
 ·rw[qC nde,qZ]
 ·rw[qC hne,qC (zZ hb hd0),qC hne,qC (zZ hb ha)]
  exact hb
 ·by_cases z1:b=e
  ·subst z1;rw[qZ]at hb;cases hb
  ·rw[qC z1]at hb
   by_cases z2:b=d
   ·subst z2;exact hd0
   ·rw[qC z2,qC z1]at hb
    by_cases z3:b=a'
    ·subst z3;exact ha
    ·rw[qC z3]at hb;exact hb
theorem zK9:zQ ["self","text","name"] ["self","text","name"] (qL sNN):=by walk_at "s"
theorem qAq{f:Addr}{fd:FuncData}{dV:Value}(F:zB K "__init__" "NoName.__init__" sNN dV f fd)(xs:Spk K mg S)(xc:XC K C bm)(na:uO K C "name"):zC P w K mg base (CXE P w) 1 f fd ["self","text","name"] (spX C "name"):=by
 refine F.ok0 zK9 (by walk_at "l") ?_
 walk_at "i"
 obtain⟨e,a,x,v,rfl,he,k⟩:=h
 refine⟨_,qK (jK (sJ (by rfl) xs.mgS xs.ga xs.rd xs.fi (qQ (pv 0) (qQ (pv 1) qJ)))) (qY (qK0 (pv 0) (pv 2))),?_⟩
 refine⟨_,rfl,_,rfl,e,C,a,none,true,bm,[.str x],rfl,he,xc,zl1,fun a' ha=>⟨_,rfl,_,rfl,e,C,a',true,bm,rfl,qZ,xc,na,fun d hd=>qA9 he k ha hd⟩⟩
end
section
variable {P:Program} {w:World} {K:Fg} {mg:Str->Option Value} {base:Heap}
inductive qI9(K:Fg)(vs:List V)(H:Hp)(Q:VK):Prop
 |mk (pt:Addr) (srt:Str) (wd:Str) (xs:List V) (a_0:vs=[.ref pt,.str srt]) (a_1:qA K H pt (.str wd::xs)) (a_2:xs.length<=1000) (a_3:∀l H',Grow H H'->H l=none->H' l=some (.lst (behind (zO wd) xs srt))->Q (.ref l) H'):qI9 K vs H Q
def gZ(K:Fg):Sp:=fun vs H Q x_0=>qI9 K vs H Q
theorem qAz:zQ ["part","sort","slots"] ["part","sort"] (qL sVB):=by walk_at "s"
theorem qAj{f:Addr}{fd:FuncData}(F:zB K "values_behind" "values_behind" sVB .none f fd)(G:GlV K mg):zC P w K mg base (CXE P w) 1 f fd ["part","sort"] (gZ K):=by
 refine F.ok0 qAz (by walk_at "l") ?_
 walk_at "i"
 obtain⟨pt,srt,wd,xs,rfl,hp,hx,q⟩:=h
 obtain⟨ta,D,mT,T,hT⟩:=G.tab
 have ndb:((["slot","value"]:List Str)++(["sort"]:List Str)).Nodup:=by decide+kernel
 refine⟨_,qK (qH (i:=2) qAz.nd rfl oI (qV2 (jC (v:=.ref ta) (by rfl) mT rfl) (qQ (qO qN (pv 0) qX) (qQ (qF qJ) qJ))))
  (qY (qG (qB3 (bF (own:=["slot","value"]) (i:=1) (by rfl) (by decide+kernel) (by rfl) (by decide+kernel) (by rfl) (by decide+kernel) (by rfl) (.inl (by rfl)) (by rfl) (by decide+kernel)) rfl
   (qB1 (by rfl) G.zip (qQ (pv 2) (qQ (xH wZ (pv 0) (kI qX) kO) qJ)))
   (fun C s H fp pins=>pv 1) (fun C s H fp pins=>sA K rfl rfl ndb rfl rfl oI oI (by rfl) (by rfl))
   (fun C s H fp pins=>qM zG (pv 0) (pv 2) (nomark _))))),?_⟩
 refine⟨ta,D,rfl,T,_,rfl,pt,_,_,.str wd,rfl,rfl,hp,qW (j:=0) rfl,zl0,fun t0 ht0=>?_⟩
 have g0:Grow H (upd H t0 (.tup [])):=Grow.put ht0
 refine⟨wd,.ref t0,rfl,?_⟩
 obtain⟨tp,e1,s1⟩:∃tp,(PyProof.Rows.KTD.datumAt wd D).getD (.ref t0)= .ref tp/\qA K (upd H t0 (.tup [])) tp ((zO wd).map V.str):=by
  rcases hT wd with⟨z1,z2⟩|⟨tp,z1,z2⟩
  ·exact⟨t0,by rw[z2];rfl,by rw[z1];exact qA.of qZ⟩
  ·exact⟨tp,by rw[z1];rfl,z2 _⟩
 walk_at "d"
 rw[e1]
 generalize upd H t0 (.tup [])=H1 at g0 s1⊢
 have hp1:=qA.mono g0.same hp
 refine⟨_,rfl,_,rfl,_,rfl,pt,_,rfl,hp1,kW _ _,fun t1 ht1=>?_⟩
 rw[cut1]
 have g1:Grow H1 (upd H1 t1 (.tup xs)):=Grow.put ht1
 have s2:=qA.mono g1.same s1
 have s3:qA K (upd H1 t1 (.tup xs)) t1 xs:=qA.of qZ
 generalize upd H1 t1 (.tup xs)=H2 at g1 s2 s3⊢
 refine⟨tp,t1,_,_,rfl,s2,s3,fun D0 hD0=>?_⟩
 exact qB2 (i0:=1) (t:=srt) (R:=fun H'=>Q (.ref D0) H') rfl s2 s3 hx hD0 fun H' g e=>q D0 H' ((g0.trans g1).trans g) ((g0.trans g1).none _ hD0) e
structure EU(K:Fg)(mg:Str->Option Value)(UF:Addr)(bu:List Value):Prop where
 x:XC K UF bu
 i:PySem.W.findIn K (.ref UF) "__init__"=some (some (.builtin "ValueError.__init__"))
 m:mg "Unfit"=some (.ref UF)
inductive tI(UF:Addr)(vs:List V)(H:Hp)(Q:VK)(E:XK):Prop
 |mk (b:Bool) (a_0:vs=[.bl b]) (a_1:(b=true->Q .non H)) (a_2:(b=false->Rz UF H E)):tI UF vs H Q E
def yP(UF:Addr):Sp:=fun vs H Q E=>tI UF vs H Q E
theorem qE0:zQ ["holds"] ["holds"] (qL qB7):=by walk_at "s"
theorem qB8{f UF:Addr}{fd:FuncData}{bu:List Value}(F:zB K "require" "require" qB7 .none f fd)(U:EU K mg UF bu):zC P w K mg base (CXE P w) 1 f fd ["holds"] (yP UF):=by
 refine F.okE qE0 (by walk_at "l") ?_
 walk_at "i"
 obtain⟨b,rfl,q,qE⟩:=h
 refine⟨_,qY (zK (vT (xW (pv 0))) (qY (lI U.x (qN0 U.x U.i (by rfl) U.m (qQ qV qJ)))) qD),?_⟩
 refine⟨_,rfl,b,rfl,?_⟩
 cases b with
 |true=>exact jQ (q rfl)
 |false=>exact jO (qA7 (qE rfl) (Grow.refl H))
inductive qIq(K:Fg)(vs:List V)(H:Hp)(Q:VK):Prop
 |mk (pt:Addr) (wd:Str) (xs:List V) (a_0:vs=[.ref pt]) (a_1:qA K H pt (.str wd::xs)) (a_2:xs.length<=1000) (a_3:∀l H',Grow H H'->H l=none->H' l=some (.lst (behind (zO wd) xs "name"))->Q (.ref l) H'):qIq K vs H Q
def tL(K:Fg):Sp:=fun vs H Q x_0=>qIq K vs H Q
theorem zKq:zQ ["part"] ["part"] (qL sNB):=by walk_at "s"
theorem qE1{f fV:Addr}{fd fdV:FuncData}(F:zB K "names_bound" "names_bound" sNB .none f fd)(GV:zC P w K mg base (CXE P w) 1 fV fdV ["part","sort"] (gZ K))(mV:mg "values_behind"=some (.ref fV))(kV:PySem.W.keepIn K (.ref fV)=true)(bV:Binds K fdV ["part","sort"] []):
  zC P w K mg base (CXE P w) 2 f fd ["part"] (tL K):=by
 refine F.ok0 zKq (by walk_at "l") ?_
 walk_at "i"
 obtain⟨pt,wd,xs,rfl,hp,hx,q⟩:=h
 refine⟨_,qY (qG (yE GV hr (by rfl) mV kV bV .nil kR (qQ (pv 0) (qQ qV qJ)))),?_⟩
 exact⟨_,rfl,pt,"name",wd,xs,rfl,hp,hx,q⟩
inductive qIz(vs:List V)(H:Hp)(Q:VK):Prop
 |mk (sc:Addr) (x:Str) (u:V) (kvs:List (Key×V)) (a_0:vs=[.ref sc,.str x,u]) (a_1:H sc=some (.dK kvs)) (a_2:kvs.length<=1000000) (a_3:∀d H',Grow H H'->H' d=some (.dK (kK kvs (Sum.inr x) u))->Q (.ref d) H'):qIz vs H Q
def nI:Sp:=fun vs H Q x_0=>qIz vs H Q
theorem qE2:zQ ["scope","name","bound","inner"] ["scope","name","bound"] (qL sWN):=by walk_at "s"
theorem qE3{f:Addr}{fd:FuncData}(F:zB K "with_name" "with_name" sWN .none f fd)(zd:mg "dict"=none):zC P w K mg base (CXE P w) 1 f fd ["scope","name","bound"] nI:=by
 refine F.ok0 qE2 (by walk_at "l") ?_
 walk_at "i"
 obtain⟨sc,x,u,kvs,rfl,hs,hl,q⟩:=h
 have hu:A.units+0<=A.units:=aq7 _
 refine⟨_,qK (qH (i:=3) qE2.nd rfl oI (zD nJ (by rfl) zd PyProof.Rows.boot_dict (qQ (pv 0) qJ)))
  (qK (cX (Nat.lt_of_succ_lt hr.u2) (pv 3) (pv 1) (pv 2) rfl) (qY (qG (pv 3)))),?_⟩
 refine⟨_,rfl,sc,kvs,rfl,hs,fun d hd=>?_⟩
 walk_at "d"
 have g1:Grow H (upd H d (.dK kvs)):=Grow.put hd
 refine⟨_,rfl,_,rfl,_,rfl,d,_,rfl,DPut.k (k:=Sum.inr x) qZ (by rw[sizeLine_eq];omega),?_⟩
 refine⟨_,rfl,q d _ ?_ qZ⟩
 rw[iF]
 exact Grow.put hd
structure EN(P:Program)(w:World)(K:Fg)(mg:Str->Option Value)(base:Heap)(NN:Addr)(bn:List Value):Prop where
 x:XC K NN bn
 m:mg "NoName"=some (.ref NN)
 g:∃fN fdN,zC P w K mg base (CXE P w) 1 fN fdN ["self","text","name"] (spX NN "name")/\PySem.W.findIn K (.ref NN) "__init__"=some (some (.ref fN))/\PySem.W.typeIn K (.ref fN)=some (.type "function")/\Binds K fdN ["self","text","name"] []
def Rn(NN:Addr)(x:Str)(H:Hp)(E:XK):Prop:=∀e t d H',Grow H H'->H' e=some (xL false NN t (some d) e)->H' d=some (.xd [("name",.str x)])->E (.ref NN) (some e) H'
inductive tG(NN:Addr)(vs:List V)(H:Hp)(Q:VK)(E:XK):Prop
 |mk (sc:Addr) (x:Str) (kvs:List (Key×V)) (a_0:vs=[.ref sc,.str x]) (a_1:H sc=some (.dK kvs)) (a_2:(∀u,jD kvs (Sum.inr x)=some u->Q u H)) (a_3:(jD kvs (Sum.inr x)=none->Rn NN x H E)):tG NN vs H Q E
def bS(NN:Addr):Sp:=fun vs H Q E=>tG NN vs H Q E
inductive qIj(vs:List V)(H:Hp)(Q:VK):Prop
 |mk (sc:Addr) (x:Str) (u:V) (kvs:List (Key×V)) (a_0:vs=[.ref sc,.str x]) (a_1:H sc=some (.dK kvs)) (a_2:jD kvs (Sum.inr x)=some u) (a_3:Q u H):qIj vs H Q
def tM:Sp:=fun vs H Q x_0=>qIj vs H Q
theorem zKz:zQ ["scope","name"] ["scope","name"] (qL sLU):=by walk_at "s"
theorem qB9{f NN:Addr}{fd:FuncData}{bn:List Value}(F:zB K "looked_up" "looked_up" sLU .none f fd)(U:EN P w K mg base NN bn):zC P w K mg base (CXE P w) 3 f fd ["scope","name"] (bS NN):=by
 refine F.okE zKz (by walk_at "l") ?_
 walk_at "i"
 obtain⟨sc,x,kvs,rfl,hs,q,qE⟩:=h
 obtain⟨fN,fdN,GN,hi,hfn,bN⟩:=U.g
 refine⟨_,qK (zK (qGq (pG (Nat.lt_of_succ_lt hr.u2) (pv 1) (pv 0))) (qY (lI U.x (qMj U.x hi hfn GN hr (by rfl) U.m bN .nil kR (qQ qV (qQ (pv 1) qJ))))) qD) (qY (qG (qKq (Nat.lt_of_succ_lt hr.u2) (pv 0) (pv 1) (fun _ _=>rfl)))),?_⟩
 refine⟨_,rfl,_,rfl,sc,_,rfl,DGet.k (k:=Sum.inr x) hs,_,rfl,?_⟩
 have dg:=DGet.k (k:=Sum.inr x) hs
 cases hv:jD kvs (Sum.inr x)with
 |some u=>
  rw[hv]at dg
  exact jQ ⟨_,rfl,_,rfl,sc,u,rfl,dg,q u hv⟩
 |none=>
  refine jO ⟨_,rfl,zl2,fun a b ha hb hab=>⟨b,a,_,_,rfl,qZ,fun a' d H' he ht hd hk hn=>⟨rfl,b,a',some d,rfl,he,hb,?_⟩⟩⟩
  refine qE hv b a' d _ ⟨fun c o hc=>?_,fun c hc=>?_⟩ qZ ?_
  ·have hcb:c≠b:=zZ hc hb
   rw[qC hcb]
   refine hk c o ?_ hcb
   rw[qC hcb,qC (zZ hc ha)]
   exact hc
  ·by_cases z:c=b
   ·subst z;exact hb
   ·rw[qC z]at hc
    have :=hn c hc
    rw[qC z]at this
    by_cases z2:c=a
    ·subst z2;exact ha
    ·rw[qC z2]at this;exact this
  ·have hdb:d≠b:=fun zz=>by subst zz;rw[he]at hd;injection hd with hd;cases hd
   rw[qC hdb];exact hd
def vB:Kd->Str->Bool
 | .list _,x=>decide (V.str "list"=V.str x)
 | .pair _ _,x=>decide (V.str "pair"=V.str x)
 | .fn _ _,x=>decide (V.str "fun"=V.str x)
 |_,_=>false
inductive qC0(K:Fg)(UF:Addr)(vs:List V)(H:Hp)(Q:VK)(E:XK):Prop
 |mk (v:V) (x:Str) (k:Kd) (a_0:vs=[v,.str x]) (a_1:qU K H k.dt v) (a_2:(vB k x=true->Q .non H)) (a_3:(vB k x=false->Rz UF H E)):qC0 K UF vs H Q E
def nG(K:Fg)(UF:Addr):Sp:=fun vs H Q E=>qC0 K UF vs H Q E
theorem tF(K:Fg):PySem.W.kitOne K (.type "tuple") (.type "tuple")=some true:=by
 unfold PySem.W.kitOne
 rw[if_pos (by decide)]
theorem zKj:zQ ["kind","word"] ["kind","word"] (qL sRW):=by walk_at "s"
structure GlI(mg:Str->Option Value):Prop where
 isi:mg "isinstance"=none
 tuple:mg "tuple"=none
variable {fR fW:Addr} {fdR fdW:FuncData}
theorem tH(K:Fg):PySem.W.kitOne K (.type "str") (.type "tuple")=some false:=by
 unfold PySem.W.kitOne
 rw[if_neg (by decide)]
 rfl
theorem cY{H:Hp}{k:Kd}{v:V}(h:qU K H k.dt v):(∃x,v= .str x/\k.dt= .str x/\∀y,vB k y=false)\/∃a x vs ds,v= .ref a/\k.dt= .tup (.str x::ds)/\qA K H a (.str x::vs)/\∀y,vB k y=decide (V.str x=V.str y):=by
 cases k with
 |int=>exact .inl ⟨_,zR h,rfl,fun _=>rfl⟩
 |bool=>exact .inl ⟨_,zR h,rfl,fun _=>rfl⟩
 |list k=>obtain⟨a,u,rfl,hs,_⟩:=jB h;exact .inr ⟨a,_,_,_,rfl,rfl,hs,fun _=>rfl⟩
 |pair k l=>obtain⟨a,u,x,rfl,hs,_⟩:=xV h;exact .inr ⟨a,_,_,_,rfl,rfl,hs,fun _=>rfl⟩
 |fn k l=>obtain⟨a,u,x,rfl,hs,_⟩:=xV h;exact .inr ⟨a,_,_,_,rfl,rfl,hs,fun _=>rfl⟩
theorem xI{f:Addr}{N:List Str}{qual:Str}{scope:Scope}{cd:Value}{A:Around}{outer:List Env}{s0:Shared}{H0:Hp}{E:XK}{k:Nat}{x:Str}{ps:List Str}{sp:Sp}{e:Expr}{es:List Expr}{t:TA}{p pos:Pos}(G:Kn P w K mg base k x ps sp)(hr:Room k (jN (CXE P w) P w K mg base N qual scope f cd A outer s0 H0 E).A)(ha:PA (jN (CXE P w) P w K mg base N qual scope f cd A outer s0 H0 E) (e::es) t)(hg:Gl (jN (CXE P w) P w K mg base N qual scope f cd A outer s0 H0 E) x:=by rfl)(hdb:(x==("__debug__":Str))=false:=by decide)
  (he:starEach (e::es) (jN (CXE P w) P w K mg base N qual scope f cd A outer s0 H0 E).env=(false,eval e (jN (CXE P w) P w K mg base N qual scope f cd A outer s0 H0 E).env)::starEach es (jN (CXE P w) P w K mg base N qual scope f cd A outer s0 H0 E).env:=by rfl)(hpl:(backTo pos (starEach es (jN (CXE P w) P w K mg base N qual scope f cd A outer s0 H0 E).env)).any (·.1)=false:=by rfl):
  PE (jN (CXE P w) P w K mg base N qual scope f cd A outer s0 H0 E) (.Call (.Name x p) (e::es) [] pos) (uI sp [] E t):=by
 obtain⟨f',fd',h1,h2,h3,h4⟩:=G
 exact yE h1 hr hg h2 h3 h4 .nil kD ha hdb he hpl
theorem qE4{f UF:Addr}{fd:FuncData}(F:zB K "require_word" "require_word" sRW .none f fd)(G:GlI mg)(GR:Kn P w K mg base 1 "require" ["holds"] (yP UF)):zC P w K mg base (CXE P w) 2 f fd ["kind","word"] (nG K UF):=by
 refine F.okE zKj (by walk_at "l") ?_
 walk_at "i"
 obtain⟨v,x,k,rfl,hv,q,qE⟩:=h
 refine⟨_,qY (jK (xI GR hr (qQ (vQ (zW vW (by rfl) G.isi aq26 (qQ (pv 0) (qQ (kH (v:=.ty "tuple") (by rfl) G.tuple PyProof.Rows.boot_tuple rfl) qJ)))
  (vA (zS zG (qO qN (pv 0) qX) (pv 1) (nomark _)))) qJ))),?_⟩
 rcases cY hv with⟨y,rfl,e,hw⟩|⟨a,y,vs,ds,rfl,e,hs,hw⟩<;>rw[hw]at q qE<;>rw[e]at hv
 ·exact⟨_,rfl,.str y,_,"tuple",false,rfl,hv,tH K,false,rfl,jQ ⟨false,rfl,q,qE⟩⟩
 ·refine⟨_,rfl,.tup (.str y::ds),_,"tuple",true,rfl,hv,tF K,true,rfl,jO ?_⟩
  exact⟨_,rfl,a,_,_,.str y,rfl,rfl,hs,qW (j:=0) rfl,_,rfl,rfl,_,rfl,q,qE⟩
end
abbrev sPK:Stmt:=top 36
section
variable {P:Program} {w:World} {K:Fg} {mg:Str->Option Value} {base:Heap} {f:Addr} {fd:FuncData}
theorem vY{k n:Nat}{A:Around}(r:Room k A)(h:n<=150):A.units+n<cLine:=by have :=r.un;omega
theorem uR(k:Kd)(h:k.sz<=40):dep k.dt<=40:=by rw[Kd.dep_dt];have :=Kd.deep_sz k;omega
theorem cU{k n:Nat}{A:Around}(r:Room k A)(h:n<=16*k+198):A.units+1+n<cLine:=by have :=r.un;omega
theorem qC1{k:Kd}(h:k.deep<=1100):dep k.dt<=1100:=by rw[Kd.dep_dt];exact h
theorem nM:∀{ks:List Kd},(∀k∈ks,k.deep<=1100)->deps (ks.map Kd.dt)<=1100
 |[],_=>by simp[deps]
 |k::ks,h=>by
  have h1:=qC1 (h k aq22)
  have h2:=nM fun l hl=>h l (aq10 _ hl)
  rw[List.map_cons,deps];omega
theorem xC{k:Nat}{l:Kd}{A:Around}(r:Room k A)(hk:57<=k)(h:l.deep<=1100):A.units+dep l.dt<cLine:=by have :=qC1 h;have :=cU (n:=dep l.dt) r (by omega);omega
def RlE(K:Fg)(UF:Addr)(H:Hp)(Q:VK)(E:XK):Except Bad Kd->Prop
 | .ok m=>∀v H',Grow H H'->qU K H' m.dt v->Q v H'
 | .error _=>Rz UF H E
inductive qC2(K:Fg)(UF:Addr)(n:Nat)(R:List Kd->Except Bad Kd)(vs:List V)(H:Hp)(Q:VK)(E:XK):Prop
 |mk (ks:Addr) (ws:List V) (ds:List Kd) (a_0:vs=[.ref ks]) (a_1:zV K H ks ws) (a_2:qR K H (ds.map Kd.dt) ws) (a_3:(∀d∈ds,d.deep<=1100)) (a_4:ds.length=n) (a_5:RlE K UF H Q E (R ds)):qC2 K UF n R vs H Q E
def cO(K:Fg)(UF:Addr)(n:Nat)(R:List Kd->Except Bad Kd):Sp:=fun vs H Q E=>qC2 K UF n R vs H Q E
def vU(u:U1):List Kd->Except Bad Kd
 |[k]=>Pt.ofO (Pt.k1 u k)
 |_=>.error .unfit
def vH(u:U2):List Kd->Except Bad Kd
 |[k,l]=>Pt.ofO (Pt.k2 u k l)
 |_=>.error .unfit
def rIf:List Kd->Except Bad Kd
 |[k,l,m]=>Pt.iteK k l m
 |_=>.error .unfit
theorem uS{α:Type}{ds:List α}(h:ds.length=1):∃k,ds=[k]:=by match ds,h with |[k],_=>exact⟨k,rfl⟩
theorem tP{α:Type}{ds:List α}(h:ds.length=2):∃k l,ds=[k,l]:=by match ds,h with |[k,l],_=>exact⟨k,l,rfl⟩
theorem tR{α:Type}{ds:List α}(h:ds.length=3):∃k l m,ds=[k,l,m]:=by match ds,h with |[k,l,m],_=>exact⟨k,l,m,rfl⟩
theorem qVz{k:Kd}{H:Hp}{v:V}(h:qU K H (Kd.list k).dt v):∃a u,v= .ref a/\qA K H a [.str "list",u]/\qU K H k.dt u:=jB h
theorem bE{k l:Kd}{H:Hp}{v:V}(h:qU K H (Kd.pair k l).dt v):∃a u w,v= .ref a/\qA K H a [.str "pair",u,w]/\qU K H k.dt u/\qU K H l.dt w:=xV h
theorem qE6{k l:Kd}{H:Hp}{v:V}(h:qU K H (Kd.fn k l).dt v):∃a u w,v= .ref a/\qA K H a [.str "fun",u,w]/\qU K H k.dt u/\qU K H l.dt w:=xV h
theorem gJ(i:Nat)(h:i=23\/i=24\/i=25\/i=26\/i=27\/i=28\/i=29\/i=30):zQ ["kinds"] ["kinds"] (qL (top i)):=by
 rcases h with rfl|rfl|rfl|rfl|rfl|rfl|rfl|rfl<;>exact⟨rfl,rfl,rfl,by decide+kernel,rfl,by decide+kernel,by decide+kernel⟩
theorem qVj{UF:Addr}(F:zB K "head_kind" "head_kind" qI6 .none f fd)(GW:Kn P w K mg base 2 "require_word" ["kind","word"] (nG K UF)):zC P w K mg base (CXE P w) 3 f fd ["kinds"] (cO K UF 1 (vU .head)):=by
 refine F.okE (gJ 24 (by decide)) (fun vs H Q E h=>?_) (fun cdv A outer s H vs Q E hr h=>?_)
 ·obtain⟨ks,ws,ds,rfl,_⟩:=h
  rfl
 ·obtain⟨ks,ws,ds,rfl,hs,hd,hz,hl,q⟩:=h
  obtain⟨k,rfl⟩:=uS hl
  obtain⟨u,r,rfl,hu,hr0⟩:=qS hd
  cases jZ hr0
  refine⟨_,qK (jK (xI GW hr (qQ (qO qP (pv 0) qX) (qQ qV qJ)))) (qY (qG (qO qN (qO qP (pv 0) qX) qX))),?_⟩
  refine⟨_,rfl,ks,_,_,_,rfl,rfl,hs,qW (j:=0) rfl,_,_,k,rfl,hu,fun hw=>?_,fun hw=>?_⟩
  ·cases k with
   |int=>cases hw
   |bool=>cases hw
   |list k=>
    obtain⟨a,y,rfl,ha,hy⟩:=qVz hu
    exact⟨_,rfl,ks,_,_,_,rfl,rfl,hs,qW (j:=0) rfl,a,_,_,y,rfl,rfl,ha,qW (j:=1) rfl,q y H (Grow.refl H) hy⟩
   |pair k l=>
    exact absurd hw (by simp only[vB];decide+kernel)
   |fn k l=>
    exact absurd hw (by simp only[vB];decide+kernel)
  ·cases k with
   |int=>exact q
   |bool=>exact q
   |list k=>exact absurd hw (by simp only[vB];decide+kernel)
   |pair k l=>exact q
   |fn k l=>exact q
theorem qW0{UF:Addr}(F:zB K "tail_kind" "tail_kind" qI7 .none f fd)(GW:Kn P w K mg base 2 "require_word" ["kind","word"] (nG K UF)):zC P w K mg base (CXE P w) 3 f fd ["kinds"] (cO K UF 1 (vU .tail)):=by
 refine F.okE (gJ 25 (by decide)) (fun vs H Q E h=>?_) (fun cdv A outer s H vs Q E hr h=>?_)
 ·obtain⟨ks,ws,ds,rfl,_⟩:=h
  rfl
 ·obtain⟨ks,ws,ds,rfl,hs,hd,hz,hl,q⟩:=h
  obtain⟨k,rfl⟩:=uS hl
  obtain⟨u,r,rfl,hu,hr0⟩:=qS hd
  cases jZ hr0
  refine⟨_,qK (jK (xI GW hr (qQ (qO qP (pv 0) qX) (qQ qV qJ)))) (qY (qG (qO qP (pv 0) qX))),?_⟩
  refine⟨_,rfl,ks,_,_,_,rfl,rfl,hs,qW (j:=0) rfl,_,_,k,rfl,hu,fun hw=>?_,fun hw=>?_⟩
  ·cases k with
   |int=>cases hw
   |bool=>cases hw
   |list k=>
    exact⟨_,rfl,ks,_,_,_,rfl,rfl,hs,qW (j:=0) rfl,q _ H (Grow.refl H) hu⟩
   |pair k l=>
    exact absurd hw (by simp only[vB];decide+kernel)
   |fn k l=>
    exact absurd hw (by simp only[vB];decide+kernel)
  ·cases k with
   |int=>exact q
   |bool=>exact q
   |list k=>exact absurd hw (by simp only[vB];decide+kernel)
   |pair k l=>exact q
   |fn k l=>exact q
theorem tS{UF:Addr}(F:zB K "empty_kind" "empty_kind" tU .none f fd)(GW:Kn P w K mg base 2 "require_word" ["kind","word"] (nG K UF)):zC P w K mg base (CXE P w) 3 f fd ["kinds"] (cO K UF 1 (vU .empty)):=by
 refine F.okE (gJ 26 (by decide)) (fun vs H Q E h=>?_) (fun cdv A outer s H vs Q E hr h=>?_)
 ·obtain⟨ks,ws,ds,rfl,_⟩:=h
  rfl
 ·obtain⟨ks,ws,ds,rfl,hs,hd,hz,hl,q⟩:=h
  obtain⟨k,rfl⟩:=uS hl
  obtain⟨u,r,rfl,hu,hr0⟩:=qS hd
  cases jZ hr0
  refine⟨_,qK (jK (xI GW hr (qQ (qO qP (pv 0) qX) (qQ qV qJ)))) (qY (qG qV)),?_⟩
  refine⟨_,rfl,ks,_,_,_,rfl,rfl,hs,qW (j:=0) rfl,_,_,k,rfl,hu,fun hw=>?_,fun hw=>?_⟩
  ·cases k with
   |int=>cases hw
   |bool=>cases hw
   |list k=>
    exact q _ H (Grow.refl H) (zJ _)
   |pair k l=>
    exact absurd hw (by simp only[vB];decide+kernel)
   |fn k l=>
    exact absurd hw (by simp only[vB];decide+kernel)
  ·cases k with
   |int=>exact q
   |bool=>exact q
   |list k=>exact absurd hw (by simp only[vB];decide+kernel)
   |pair k l=>exact q
   |fn k l=>exact q
theorem tT{UF:Addr}(F:zB K "first_kind" "first_kind" tO .none f fd)(GW:Kn P w K mg base 2 "require_word" ["kind","word"] (nG K UF)):zC P w K mg base (CXE P w) 3 f fd ["kinds"] (cO K UF 1 (vU .first)):=by
 refine F.okE (gJ 27 (by decide)) (fun vs H Q E h=>?_) (fun cdv A outer s H vs Q E hr h=>?_)
 ·obtain⟨ks,ws,ds,rfl,_⟩:=h
  rfl
 ·obtain⟨ks,ws,ds,rfl,hs,hd,hz,hl,q⟩:=h
  obtain⟨k,rfl⟩:=uS hl
  obtain⟨u,r,rfl,hu,hr0⟩:=qS hd
  cases jZ hr0
  refine⟨_,qK (jK (xI GW hr (qQ (qO qP (pv 0) qX) (qQ qV qJ)))) (qY (qG (qO qN (qO qP (pv 0) qX) qX))),?_⟩
  refine⟨_,rfl,ks,_,_,_,rfl,rfl,hs,qW (j:=0) rfl,_,_,k,rfl,hu,fun hw=>?_,fun hw=>?_⟩
  ·cases k with
   |int=>cases hw
   |bool=>cases hw
   |list k=>
    exact absurd hw (by simp only[vB];decide+kernel)
   |pair k l=>
    obtain⟨a,y,z,rfl,ha,hy,hz'⟩:=bE hu
    exact⟨_,rfl,ks,_,_,_,rfl,rfl,hs,qW (j:=0) rfl,a,_,_,y,rfl,rfl,ha,qW (j:=1) rfl,q y H (Grow.refl H) hy⟩
   |fn k l=>
    exact absurd hw (by simp only[vB];decide+kernel)
  ·cases k with
   |int=>exact q
   |bool=>exact q
   |list k=>exact q
   |pair k l=>exact absurd hw (by simp only[vB];decide+kernel)
   |fn k l=>exact q
theorem pP{UF:Addr}(F:zB K "second_kind" "second_kind" bR .none f fd)(GW:Kn P w K mg base 2 "require_word" ["kind","word"] (nG K UF)):zC P w K mg base (CXE P w) 3 f fd ["kinds"] (cO K UF 1 (vU .second)):=by
 refine F.okE (gJ 28 (by decide)) (fun vs H Q E h=>?_) (fun cdv A outer s H vs Q E hr h=>?_)
 ·obtain⟨ks,ws,ds,rfl,_⟩:=h
  rfl
 ·obtain⟨ks,ws,ds,rfl,hs,hd,hz,hl,q⟩:=h
  obtain⟨k,rfl⟩:=uS hl
  obtain⟨u,r,rfl,hu,hr0⟩:=qS hd
  cases jZ hr0
  refine⟨_,qK (jK (xI GW hr (qQ (qO qP (pv 0) qX) (qQ qV qJ)))) (qY (qG (qO qN (qO qP (pv 0) qX) qX))),?_⟩
  refine⟨_,rfl,ks,_,_,_,rfl,rfl,hs,qW (j:=0) rfl,_,_,k,rfl,hu,fun hw=>?_,fun hw=>?_⟩
  ·cases k with
   |int=>cases hw
   |bool=>cases hw
   |list k=>
    exact absurd hw (by simp only[vB];decide+kernel)
   |pair k l=>
    obtain⟨a,y,z,rfl,ha,hy,hz'⟩:=bE hu
    exact⟨_,rfl,ks,_,_,_,rfl,rfl,hs,qW (j:=0) rfl,a,_,_,z,rfl,rfl,ha,qW (j:=2) rfl,q z H (Grow.refl H) hz'⟩
   |fn k l=>
    exact absurd hw (by simp only[vB];decide+kernel)
  ·cases k with
   |int=>exact q
   |bool=>exact q
   |list k=>exact q
   |pair k l=>exact absurd hw (by simp only[vB];decide+kernel)
   |fn k l=>exact q
theorem qW1{UF:Addr}(F:zB K "call_kind" "call_kind" qI8 .none f fd)(GR:Kn P w K mg base 1 "require" ["holds"] (yP UF))(GW:Kn P w K mg base 2 "require_word" ["kind","word"] (nG K UF)):zC P w K mg base (CXE P w) 63 f fd ["kinds"] (cO K UF 2 (vH .call)):=by
 refine F.okE (gJ 30 (by decide)) (fun vs H Q E h=>?_) (fun cdv A outer s H vs Q E hr h=>?_)
 ·obtain⟨ks,ws,ds,rfl,_⟩:=h
  rfl
 ·obtain⟨ks,ws,ds,rfl,hs,hd,hz,hl,q⟩:=h
  obtain⟨k,l,rfl⟩:=tP hl
  obtain⟨u,r,rfl,hu,hr0⟩:=qS hd
  obtain⟨v,r,rfl,hv,hr0⟩:=qS hr0
  cases jZ hr0
  refine⟨_,qK (jK (xI GW (hr.mono (by decide)) (qQ (qO qP (pv 0) qX) (qQ qV qJ))))
   (qK (jK (xI GR (hr.mono (by decide)) (qQ (zS jS (qO qN (qO qP (pv 0) qX) qX) (qO qP (pv 0) qX) (nomark _)) qJ)))
   (qY (qG (qO qN (qO qP (pv 0) qX) qX)))),?_⟩
  refine⟨_,rfl,ks,_,_,_,rfl,rfl,hs,qW (j:=0) rfl,_,_,k,rfl,hu,fun hw=>?_,fun hw=>?_⟩
  ·cases k with
   |int=>cases hw
   |bool=>cases hw
   |list k=>exact absurd hw (by simp only[vB];decide+kernel)
   |pair k k'=>exact absurd hw (by simp only[vB];decide+kernel)
   |fn k m=>
    obtain⟨a,y,z,rfl,ha,hy,hz'⟩:=qE6 hu
    have hk:k.deep<=1100:=by have :=hz (.fn k m) (by simp);simp only[Kd.deep]at this;omega
    refine⟨_,rfl,ks,_,_,_,rfl,rfl,hs,qW (j:=0) rfl,a,_,_,y,rfl,rfl,ha,qW (j:=1) rfl,_,rfl,ks,_,_,v,rfl,rfl,hs,qW (j:=1) rfl,k.dt,l.dt,hy,hv,xC hr (by decide) hk,_,rfl,fun hq=>?_,fun hq=>?_⟩
    ·rw[Kd.eq_dt]at hq
     have e:vH .call [.fn k m,l]= .ok m:=by simp[vH,Pt.k2,Pt.ofO,of_decide_eq_true hq]
     rw[e]at q
     exact⟨_,rfl,ks,_,_,_,rfl,rfl,hs,qW (j:=0) rfl,a,_,_,z,rfl,rfl,ha,qW (j:=2) rfl,q z H (Grow.refl H) hz'⟩
    ·rw[Kd.eq_dt]at hq
     have e:vH .call [.fn k m,l]= .error .unfit:=by simp[vH,Pt.k2,of_decide_eq_false hq,Pt.ofO]
     rw[e]at q
     exact q
  ·cases k with
   |int=>exact q
   |bool=>exact q
   |list k=>exact q
   |pair k k'=>exact q
   |fn k m=>exact absurd hw (by simp only[vB];decide+kernel)
theorem qW2{UF:Addr}(F:zB K "cons_kind" "cons_kind" qI5 .none f fd)(GR:Kn P w K mg base 1 "require" ["holds"] (yP UF)):zC P w K mg base (CXE P w) 63 f fd ["kinds"] (cO K UF 2 (vH .cons)):=by
 refine F.okE (gJ 23 (by decide)) (fun vs H Q E h=>?_) (fun cdv A outer s H vs Q E hr h=>?_)
 ·obtain⟨ks,ws,ds,rfl,_⟩:=h
  rfl
 ·obtain⟨ks,ws,ds,rfl,hs,hd,hz,hl,q⟩:=h
  obtain⟨k,l,rfl⟩:=tP hl
  obtain⟨u,r,rfl,hu,hr0⟩:=qS hd
  obtain⟨v,r,rfl,hv,hr0⟩:=qS hr0
  cases jZ hr0
  refine⟨_,qK (jK (xI GR (hr.mono (by decide)) (qQ (zS jS (qO qP (pv 0) qX) (qF (qQ qV (qQ (qO qP (pv 0) qX) qJ))) (nomark _)) qJ)))
   (qY (qG (qO qP (pv 0) qX))),?_⟩
  refine⟨_,rfl,ks,_,_,v,rfl,rfl,hs,qW (j:=1) rfl,_,rfl,ks,_,_,u,rfl,rfl,hs,qW (j:=0) rfl,zl2,fun c hc=>?_⟩
  have g1:Grow H (upd H c (.tup [.str "list",u])):=Grow.put hc
  have e1:qA K (upd H c (.tup [.str "list",u])) c [.str "list",u]:=qA.of qZ
  generalize upd H c (.tup [.str "list",u])=H1 at g1 e1⊢
  refine⟨l.dt,(Kd.list k).dt,hv.mono g1.same,jG e1 (hu.mono g1.same),xC hr (by decide) (hz l (by simp)),_,rfl,fun hq=>?_,fun hq=>?_⟩<;>rw[Kd.eq_dt]at hq
  ·cases of_decide_eq_true hq
   have e:vH .cons [k,.list k]= .ok (.list k):=by simp[vH,Pt.k2,Pt.ofO]
   rw[e]at q
   exact⟨_,rfl,ks,_,_,v,rfl,rfl,g1.same.seq hs,qW (j:=1) rfl,q v _ g1 (hv.mono g1.same)⟩
  ·have e:vH .cons [k,l]= .error .unfit:=by
    have :=of_decide_eq_false hq
    cases l with
    |list l=>simp[vH,Pt.k2,Pt.ofO,show¬k=l from fun z=>this (by rw[z])]
    |_=>rfl
   rw[e]at q
   exact fun e t H' g hn he=>q e t H' (g1.trans g) (g1.none _ hn) he
theorem qE7{UF:Addr}(F:zB K "if_kind" "if_kind" sIf .none f fd)(GR:Kn P w K mg base 1 "require" ["holds"] (yP UF)):zC P w K mg base (CXE P w) 63 f fd ["kinds"] (cO K UF 3 rIf):=by
 refine F.okE (gJ 29 (by decide)) (fun vs H Q E h=>?_) (fun cdv A outer s H vs Q E hr h=>?_)
 ·obtain⟨ks,ws,ds,rfl,_⟩:=h
  rfl
 ·obtain⟨ks,ws,ds,rfl,hs,hd,hz,hl,q⟩:=h
  obtain⟨k,l,m,rfl⟩:=tR hl
  obtain⟨t,r,rfl,ht,hr0⟩:=qS hd
  obtain⟨u,r,rfl,hu,hr0⟩:=qS hr0
  obtain⟨v,r,rfl,hv,hr0⟩:=qS hr0
  cases jZ hr0
  refine⟨_,qK (jK (xI GR (hr.mono (by decide)) (qQ (vQ (zS jS (qO qP (pv 0) qX) qV (nomark _)) (vA (zS jS (qO qP (pv 0) qX) (qO qP (pv 0) qX) (nomark _)))) qJ)))
   (qY (qG (qO qP (pv 0) qX))),?_⟩
  have q':RlE K UF H Q E (Pt.iteK k l m):=q
  unfold Pt.iteK at q'
  refine⟨_,rfl,ks,_,_,t,rfl,rfl,hs,qW (j:=0) rfl,k.dt,(Kd.bool).dt,ht,zJ _,xC hr (by decide) (hz k (by simp)),?_⟩
  rw[Kd.eq_dt]
  refine⟨_,rfl,ite2 (fun c=>?_) (fun c=>?_)⟩
  ·have c:=of_decide_eq_true c
   refine⟨_,rfl,ks,_,_,u,rfl,rfl,hs,qW (j:=1) rfl,_,rfl,ks,_,_,v,rfl,rfl,hs,qW (j:=2) rfl,l.dt,m.dt,hu,hv,xC hr (by decide) (hz l (by simp)),_,rfl,fun hq=>?_,fun hq=>?_⟩<;>rw[Kd.eq_dt]at hq
   ·rw[if_pos ⟨c,of_decide_eq_true hq⟩]at q'
    exact⟨_,rfl,ks,_,_,u,rfl,rfl,hs,qW (j:=1) rfl,q' u _ (Grow.refl H) hu⟩
   ·rw[if_neg fun z=>of_decide_eq_false hq z.2]at q'
    exact q'
  ·refine⟨false,rfl,(fun h=>by cases h),fun _=>?_⟩
   rw[if_neg fun z=>c (decide_eq_true z.1)]at q'
   exact q'
def wK(K:Fg)(H:Hp)(pr:Addr)(n:Nat):Prop:=∃(ps:List V)(ks:List Kd),H pr=some (.lst ps)/\qR K H (ks.map Kd.dt) ps/\(∀k∈ks,k.deep<=1100)/\ks.length<=n
theorem wK.le{H:Hp}{pr:Addr}{m n:Nat}(h:wK K H pr m)(l:m<=n):wK K H pr n:=let⟨ps,ks,a,b,c,d⟩:=h;⟨ps,ks,a,b,c,Nat.le_trans d l⟩
theorem wK.mono{H H':Hp}{pr:Addr}{n:Nat}(h:wK K H pr n)(g:Grow H H'):wK K H' pr n:=let⟨ps,ks,a,b,c,d⟩:=h;⟨ps,ks,g.same _ _ a,b.mono g.same,c,d⟩
theorem wK.tups{H H':Hp}{pr:Addr}{n:Nat}(h:wK K H pr n)(g:zF pr H H'):kY K H H':=let⟨_,_,a,_,_,_⟩:=h;g.tups a
inductive qC3(K:Fg)(vs:List V)(H:Hp)(Q:VK):Prop
 |mk (ks:Addr) (pr:Addr) (u:V) (v:V) (k:Kd) (l:Kd) (n:Nat) (a_0:vs=[.ref ks,.ref pr]) (a_1:zV K H ks [u,v]) (a_2:qU K H k.dt u) (a_3:qU K H l.dt v) (a_4:(Kd.pair k l).deep<=1100) (a_5:wK K H pr n) (a_6:n<=100000) (a_7:∀r H',zF pr H H'->wK K H' pr (n+1)->qU K H' (Kd.pair k l).dt r->Q r H'):qC3 K vs H Q
def qBq(K:Fg):Sp:=fun vs H Q x_0=>qC3 K vs H Q
theorem qE8:zQ ["kinds","pairs","kind"] ["kinds","pairs"] (qL sPK):=by walk_at "s"
theorem qE9(F:zB K "pair_kind" "pair_kind" sPK .none f fd):zC P w K mg base (CXE P w) 63 f fd ["kinds","pairs"] (qBq K):=by
 refine F.ok0 qE8 (by walk_at "l") ?_
 walk_at "i"
 obtain⟨ks,pr,u,v,k,l,n,rfl,hs,hu,hv,hz,hp,hn,q⟩:=h
 refine⟨_,qK (qH (i:=2) qE8.nd rfl oI (qF (qQ qV (qQ (qO qP (pv 0) qX) (qQ (qO qP (pv 0) qX) qJ)))))
  (qK (zK (qM qNz (pv 2) (pv 1) rfl) (qY (qG (qO qP (pv 1) (yB aq0 PySem.F.slot_list_index PySem.F.type_list_index iI (pv 1) (qQ (pv 2) qJ))))) qD)
  (qK (jK (yB aq0 PySem.F.slot_list_append PySem.F.type_list_append kB (pv 1) (qQ (pv 2) qJ)))
  (qY (qG (pv 2))))),?_⟩
 refine⟨_,rfl,ks,_,_,u,rfl,rfl,hs,qW (j:=0) rfl,_,rfl,ks,_,_,v,rfl,rfl,hs,qW (j:=1) rfl,zl3,fun c hc=>?_⟩
 walk_at "d"
 have g1:Grow H (upd H c (.tup [.str "pair",u,v])):=Grow.put hc
 have e1:qA K (upd H c (.tup [.str "pair",u,v])) c [.str "pair",u,v]:=qA.of qZ
 generalize upd H c (.tup [.str "pair",u,v])=H1 at g1 e1⊢
 have hk:qU K H1 (Kd.pair k l).dt (.ref c):=kF e1 (hu.mono g1.same) (hv.mono g1.same)
 have hp1:=hp.mono g1
 obtain⟨ps,kl,a1,a2,a3,a4⟩:=hp1
 have hdu:=cU hr (Nat.le_trans (nM a3) (by decide))
 refine⟨_,rfl,_,rfl,pr,ps,(Kd.pair k l).dt,kl.map Kd.dt,rfl,zV.of a1,hk,a2,hdu,_,rfl,?_⟩
 refine ite2 (fun hin=>?_) (fun _=>?_)
 ·refine⟨_,rfl,_,rfl,.inl ⟨rfl,_,zV.of a1⟩,_,rfl,pr,ps,_,(Kd.pair k l).dt,kl.map Kd.dt,rfl,rfl,zV.of a1,hk,a2,hdu,hin,fun j e he hj=>?_⟩
  obtain⟨y,hy,dy⟩:=a2.get he
  refine⟨pr,ps,j,y,rfl,rfl,zV.of a1,qW hy,q y H1 g1.b (wK.le ⟨ps,kl,a1,a2,a3,a4⟩ (Nat.le_succ n)) ?_⟩
  rw[aq19]at he
  obtain⟨k',hk',rfl⟩:=Option.map_eq_some_iff.mp he
  rw[Kd.eq_dt]at hj
  rw[of_decide_eq_true hj]at dy
  exact dy
 ·have hl:=a2.length
  rw[aq16]at hl
  refine⟨_,rfl,.inl ⟨rfl,_,zV.of a1⟩,_,rfl,pr,ps,_,rfl,rfl,a1,(by rw[sizeLine_eq];omega),?_⟩
  have gB:zF pr H (upd H1 pr (.lst (ps++[.ref c]))):=by
   obtain⟨ps0,kl0,b1,_⟩:=hp
   exact(Grow.b g1).set b1
  have kt:kY K H1 (upd H1 pr (.lst (ps++[.ref c]))):=zF.tups ((zF.refl pr H1).set a1) a1
  refine⟨_,rfl,q _ _ gB ⟨ps++[.ref c],kl++[Kd.pair k l],qZ,?_,?_,?_⟩ (hk.monoT kt)⟩
  ·rw[aq21]
   exact(a2.monoT kt).append (qB (hk.monoT kt) zX)
  ·intro z hz'
   rcases List.mem_append.mp hz' with h|h
   ·exact a3 z h
   ·rw[aq20.mp h];exact hz
  ·rw[List.length_append];simp;exact a4
end
abbrev dQ:Stmt:=top 32
abbrev qW3:Stmt:=top 33
abbrev dZ:Stmt:=top 34
abbrev tE:Stmt:=top 37
section
variable {P:Program} {w:World} {K:Fg} {mg:Str->Option Value} {base:Heap} {f:Addr} {fd:FuncData}
def vO(K:Fg)(H:Hp)(sc:Addr)(Γ:Cxt)(m:Nat):Prop:=∃kvs,H sc=some (.dK kvs)/\kvs.length<=m/\(∀x k,Γ.lookup x=some k->∃v,jD kvs (Sum.inr x)=some v/\qU K H k.dt v)/\∀x,Γ.lookup x=none->jD kvs (Sum.inr x:Key)=none
theorem vO.monoB{H H':Hp}{sc pr:Addr}{Γ:Cxt}{m n:Nat}(h:vO K H sc Γ m)(p:wK K H pr n)(g:zF pr H H'):vO K H' sc Γ m:=by
 obtain⟨kvs,a,b,c,d⟩:=h
 have kt:=p.tups g
 obtain⟨ps,ks,p1,_⟩:=p
 exact⟨kvs,g.keep _ _ (vP a p1 (by intro z;cases z)) a,b,fun x k e=>let⟨v,e1,e2⟩:=c x k e;⟨v,e1,e2.monoT kt⟩,d⟩
theorem vO.mono{H H':Hp}{sc:Addr}{Γ:Cxt}{m:Nat}(h:vO K H sc Γ m)(g:Grow H H'):vO K H' sc Γ m:=by
 obtain⟨kvs,a,b,c,d⟩:=h
 exact⟨kvs,g.same _ _ a,b,fun x k e=>let⟨v,e1,e2⟩:=c x k e;⟨v,e1,e2.mono g.same⟩,d⟩
theorem vO.put{H H':Hp}{d:Addr}{Γ:Cxt}{m:Nat}{x:Str}{k:Kd}{u:V}{kvs:List (Key×V)}(c:(∀y l,Γ.lookup y=some l->∃v,jD kvs (Sum.inr y)=some v/\qU K H l.dt v)/\∀y,Γ.lookup y=none->jD kvs (Sum.inr y:Key)=none)(hl:kvs.length<=m)(g:Grow H H')(e:H' d=some (.dK (kK kvs (Sum.inr x) u)))(hu:qU K H k.dt u):vO K H' d ((x,k)::Γ) (m+1):=by
 refine⟨_,e,?_,fun y l hy=>?_,fun y hy=>?_⟩
 ·have :=jE kvs (Sum.inr x:Key) u
  omega
 ·rw[vK]
  by_cases z:y=x
  ·subst z
   rw[if_pos rfl]
   rw[List.lookup_cons,beq_self_eq_true]at hy
   cases hy
   exact⟨u,rfl,hu.mono g.same⟩
  ·rw[if_neg (fun h=>z (Sum.inr.inj h))]
   rw[Pt.lookup_cons_ne z]at hy
   obtain⟨v,e1,e2⟩:=c.1 y l hy
   exact⟨v,e1,e2.mono g.same⟩
 ·rw[vK]
  by_cases z:y=x
  ·subst z;rw[List.lookup_cons,beq_self_eq_true]at hy;cases hy
  ·rw[if_neg (fun h=>z (Sum.inr.inj h))]
   rw[Pt.lookup_cons_ne z]at hy
   exact c.2 y hy
def dJ(UF NN pr:Addr)(H:Hp)(E:XK):Bad->Prop
 | .unfit=>∀e t H',zF pr H H'->H' e=some (xL false UF t none e)->E (.ref UF) (some e) H'
 | .noname x=>∀e t d H',zF pr H H'->H' e=some (xL false NN t (some d) e)->H' d=some (.xd [("name",.str x)])->E (.ref NN) (some e) H'
def FtE(K:Fg)(UF NN pr:Addr)(n:Nat)(H:Hp)(Q:VK)(E:XK):Except Bad Kd->Prop
 | .ok κ=>∀v H',zF pr H H'->wK K H' pr n->qU K H' κ.dt v->Q v H'
 | .error b=>dJ UF NN pr H E b
section
variable {UF NN pr:Addr} {H H1:Hp} {Q:VK} {E:XK}
theorem dJ.up{b:Bad}(h:dJ UF NN pr H E b)(g:zF pr H H1):dJ UF NN pr H1 E b:=by
 cases b with
 |unfit=>exact fun e t H' g' he=>h e t H' (g.trans g') he
 |noname x=>exact fun e t d H' g' he hd=>h e t d H' (g.trans g') he hd
theorem dJ.rz(h:dJ UF NN pr H E .unfit)(g:zF pr H H1):Rz UF H1 E:=fun e t H' g' _ he=>h e t H' (g.trans g'.b) he
theorem FtE.up{m n:Nat}{r:Except Bad Kd}(h:FtE K UF NN pr n H Q E r)(g:zF pr H H1)(hn:m<=n):FtE K UF NN pr m H1 Q E r:=by
 cases r with
 |error b=>exact dJ.up h g
 |ok k=>exact fun v H' g' p d=>h v H' (g.trans g') (p.le hn) d
end
structure Fk(Γ:Cxt)(M:Nat)(p:Pt):Prop where
 cb:Pt.Cb M Γ
 kb:p.Kb 40
 lo:41<=M
 hi:M+p.gr<=1100
theorem Fk.deep{Γ:Cxt}{M:Nat}{p:Pt}{k:Kd}(h:Fk Γ M p)(e:Pt.fit Γ p= .ok k):k.deep<=1100:=Nat.le_trans (Pt.fit_deep p h.cb h.kb (Nat.le_trans (by decide) h.lo) e) h.hi
inductive dX(K:Fg)(UF:Addr)(NN:Addr)(B:Pt->Prop)(vs:List V)(H:Hp)(Q:VK)(E:XK):Prop
 |mk (pv:V) (sc:Addr) (pr:Addr) (p:Pt) (Γ:Cxt) (m:Nat) (c:Nat) (M:Nat) (a_0:vs=[pv,.ref sc,.ref pr]) (a_1:qU K H p.dt pv) (a_2:B p) (a_3:Fk Γ M p) (a_4:vO K H sc Γ m) (a_5:m+2*p.deep<=400) (a_6:wK K H pr c) (a_7:c+p.sz<=100000) (a_8:FtE K UF NN pr (c+p.sz) H Q E (Pt.fit Γ p)):dX K UF NN B vs H Q E
def wV(K:Fg)(UF NN:Addr)(B:Pt->Prop):Sp:=fun vs H Q E=>dX K UF NN B vs H Q E
def wE(K:Fg)(UF NN:Addr)(n:Nat):Sp:=wV K UF NN fun p=>p.deep<n
def qC4(n:Nat)(p:Pt):Prop:=p.deep<n+1/\∃x q r,p= .let_ x q r
def qC5(n:Nat)(p:Pt):Prop:=p.deep<n+1/\∃x k q,p= .fn x k q
def qC6(n:Nat)(p:Pt):Prop:=p.deep<n+1/\∃g x k l q,p= .rc g x k l q
abbrev oU:List Str:=["part","scope","pairs"]
theorem aQ:zQ ["part","scope","pairs","bound"] oU (qL dQ):=by walk_at "s"
theorem qBz{n:Nat}{UF NN:Addr}(F:zB K "let_kind" "let_kind" dQ .none f fd)(GF:Kn P w K mg base (2*n+72) "fitted" oU (wE K UF NN n))(GN:Kn P w K mg base 1 "with_name" ["scope","name","bound"] nI):zC P w K mg base (CXE P w) (2*n+73) f fd oU (wV K UF NN (qC4 n)):=by
 refine F.okE aQ (by walk_at "l") ?_
 walk_at "i"
 obtain⟨v,sc,pr,p,Γ,m,c,M,rfl,hp,⟨hd,x,p1,p2,rfl⟩,hh,hs,hm,hpr,hc,q⟩:=h
 have hi:=hh.hi
 simp only[Pt.gr]at hi
 obtain⟨a,v0,v1,v2,rfl,ha,hx,hv1,hv2⟩:=xE hp
 cases zR hx
 simp only[Pt.deep,Pt.sz]at hd hm hc q
 refine⟨_,qK (qH (i:=3) aQ.nd rfl oI (xI GF hr (qQ (qO qN (pv 0) qX) (qQ (pv 1) (qQ (pv 2) qJ)))))
  (qY (qG (xI GF hr (qQ (qO qN (pv 0) qX) (qQ (zI GN (hr.mono (by omega)) (qQ (pv 1) (qQ (qO qN (pv 0) qX) (qQ (pv 3) qJ)))) (qQ (pv 2) qJ)))))),?_⟩
 refine⟨_,rfl,a,_,_,v1,rfl,rfl,ha,qW (j:=2) rfl,_,rfl,_,rfl,v1,sc,pr,p1,Γ,m,c,M,rfl,hv1,by show p1.deep<n;omega,⟨hh.cb,hh.kb.1,hh.lo,by omega⟩,hs,by omega,hpr,by omega,?_⟩
 rw[Pt.fit]at q
 cases h1:Pt.fit Γ p1 with
 |error b=>rw[h1]at q;exact q
 |ok k=>
 rw[h1]at q
 have hk:=Pt.fit_deep p1 hh.cb hh.kb.1 (Nat.le_trans (by decide) hh.lo) h1
 intro u H1 g1 hpr1 hu
 walk_at "d"
 have kt:=hpr.tups g1
 have ha1:=kt _ _ ha
 have hv2':=hv2.monoT kt
 have hs1:=hs.monoB hpr g1
 obtain⟨kvs,s1,s2,s3⟩:=hs1
 refine⟨_,rfl,a,_,_,v2,rfl,rfl,ha1,qW (j:=3) rfl,_,rfl,_,rfl,a,_,_,.str x,rfl,rfl,ha1,qW (j:=1) rfl,_,rfl,sc,x,u,kvs,rfl,s1,by omega,fun d H2 g2 e2=>?_⟩
 have hs2:vO K H2 d ((x,k)::Γ) (m+1):=vO.put s3 s2 g2 e2 hu
 refine⟨_,rfl,v2,d,pr,p2,(x,k)::Γ,m+1,c+p1.sz,M+p1.gr,rfl,hv2'.mono g2.same,by show p2.deep<n;omega,⟨(hh.cb.mono (Nat.le_add_right _ _)).cons hk,hh.kb.2,Nat.le_trans hh.lo (Nat.le_add_right _ _),by omega⟩,hs2,by omega,hpr1.mono g2,by omega,FtE.up q (g1.trans g2.b) (by omega)⟩
theorem qC7:zQ ["part","scope","pairs","told"] oU (qL qW3):=by walk_at "s"
theorem qEq{n:Nat}{UF NN:Addr}(F:zB K "fn_kind" "fn_kind" qW3 .none f fd)(GF:Kn P w K mg base (2*n+72) "fitted" oU (wE K UF NN n))(GN:Kn P w K mg base 1 "with_name" ["scope","name","bound"] nI):zC P w K mg base (CXE P w) (2*n+73) f fd oU (wV K UF NN (qC5 n)):=by
 refine F.okE qC7 (by walk_at "l") ?_
 walk_at "i"
 obtain⟨v,sc,pr,p,Γ,m,c,M,rfl,hp,⟨hd,x,k,p2,rfl⟩,hh,hs,hm,hpr,hc,q⟩:=h
 have hi:=hh.hi
 have lo:=hh.lo
 have hk:=hh.kb.1
 simp only[Pt.gr]at hi
 rw[Pt.fit]at q
 obtain⟨a,v0,v1,v2,rfl,ha,hx,hv1,hv2⟩:=xE hp
 cases zR hx
 simp only[Pt.deep,Pt.sz]at hd hm hc q
 refine⟨_,qK (qH (i:=3) qC7.nd rfl oI (xI GF hr (qQ (qO qN (pv 0) qX) (qQ (zI GN (hr.mono (by omega)) (qQ (pv 1) (qQ (qO qN (pv 0) qX) (qQ (qO qN (pv 0) qX) qJ)))) (qQ (pv 2) qJ)))))
  (qY (qG (qF (qQ qV (qQ (qO qN (pv 0) qX) (qQ (pv 3) qJ)))))),?_⟩
 obtain⟨kvs,s1,s2,s3⟩:=hs
 refine⟨_,rfl,a,_,_,v2,rfl,rfl,ha,qW (j:=3) rfl,_,rfl,_,rfl,a,_,_,.str x,rfl,rfl,ha,qW (j:=1) rfl,_,rfl,a,_,_,v1,rfl,rfl,ha,qW (j:=2) rfl,sc,x,v1,kvs,rfl,s1,by omega,fun d H2 g2 e2=>?_⟩
 have hs2:vO K H2 d ((x,k)::Γ) (m+1):=vO.put s3 s2 g2 e2 hv1
 refine⟨_,rfl,v2,d,pr,p2,(x,k)::Γ,m+1,c,M,rfl,hv2.mono g2.same,by show p2.deep<n;omega,⟨hh.cb.cons (by omega),hh.kb.2,hh.lo,by omega⟩,hs2,by omega,hpr.mono g2,by omega,?_⟩
 cases h2:Pt.fit ((x,k)::Γ) p2 with
 |error b=>rw[h2]at q;exact dJ.up q g2.b
 |ok l=>
 rw[h2]at q
 intro u H3 g3 hpr3 hu
 walk_at "d"
 have kt:kY K H H3:=fun b xs hb=>(hpr.mono g2).tups g3 _ _ (qA.mono g2.same hb)
 refine⟨_,rfl,a,_,_,v1,rfl,rfl,kt _ _ ha,qW (j:=2) rfl,_,rfl,zl3,fun t ht=>?_⟩
 have g4:Grow H3 (upd H3 t (.tup [.str "fun",v1,u])):=Grow.put ht
 exact q _ _ ((g2.b.trans g3).trans g4.b) ((hpr3.mono g4).le (by omega)) (kF (qA.of qZ) ((hv1.monoT kt).mono g4.same) (hu.mono g4.same))
theorem cI:zQ ["part","scope","pairs","kind","knowing_itself","told"] oU (qL dZ):=by walk_at "s"
theorem qBj{n:Nat}{UF NN:Addr}(F:zB K "rec_kind" "rec_kind" dZ .none f fd)(GF:Kn P w K mg base (2*n+72) "fitted" oU (wE K UF NN n))(GN:Kn P w K mg base 1 "with_name" ["scope","name","bound"] nI)(GR:Kn P w K mg base 1 "require" ["holds"] (yP UF)):zC P w K mg base (CXE P w) (2*n+73) f fd oU (wV K UF NN (qC6 n)):=by
 refine F.okE cI (by walk_at "l") ?_
 walk_at "i"
 obtain⟨v,sc,pr,p,Γ,m,c,M,rfl,hp,⟨hd,g,x,k,l,p2,rfl⟩,hh,hs,hm,hpr,hc,q⟩:=h
 have hi:=hh.hi
 have lo:=hh.lo
 have hk:=hh.kb.1
 have hl:=hh.kb.2.1
 simp only[Pt.gr]at hi
 rw[Pt.fit]at q
 have F2:Fk ((x,k)::(g,.fn k l)::Γ) M p2:=⟨(hh.cb.cons (by simp only[Kd.deep];omega)).cons (by omega),hh.kb.2.2,hh.lo,by omega⟩
 obtain⟨a,v0,v1,v2,v3,v4,rfl,ha,hg,hx,hv2,hv3,hv4⟩:=iO hp
 cases zR hx
 cases zR hg
 simp only[Pt.deep,Pt.sz]at hd hm hc q
 refine⟨_,qK (qH (i:=3) cI.nd rfl oI (qF (qQ qV (qQ (qO qN (pv 0) qX) (qQ (qO qN (pv 0) qX) qJ)))))
  (qK (qH (i:=4) cI.nd rfl oI (zI GN (hr.mono (by omega)) (qQ (pv 1) (qQ (qO qN (pv 0) qX) (qQ (pv 3) qJ)))))
  (qK (qH (i:=5) cI.nd rfl oI (xI GF hr (qQ (qO qN (pv 0) qX) (qQ (zI GN (hr.mono (by omega)) (qQ (pv 4) (qQ (qO qN (pv 0) qX) (qQ (qO qN (pv 0) qX) qJ)))) (qQ (pv 2) qJ)))))
  (qK (jK (xI GR (hr.mono (by omega)) (qQ (zS jS (pv 5) (qO qN (pv 0) qX) (nomark _)) qJ)))
  (qY (qG (pv 3)))))),?_⟩
 refine⟨_,rfl,a,_,_,v2,rfl,rfl,ha,qW (j:=3) rfl,_,rfl,a,_,_,v3,rfl,rfl,ha,qW (j:=4) rfl,zl3,fun t ht=>?_⟩
 walk_at "d"
 have g1:Grow H (upd H t (.tup [.str "fun",v2,v3])):=Grow.put ht
 have e1:qA K (upd H t (.tup [.str "fun",v2,v3])) t [.str "fun",v2,v3]:=qA.of qZ
 generalize upd H t (.tup [.str "fun",v2,v3])=H1 at g1 e1⊢
 have hk1:qU K H1 (Kd.fn k l).dt (.ref t):=kF e1 (hv2.mono g1.same) (hv3.mono g1.same)
 obtain⟨kvs,s1,s2,s3⟩:=hs.mono g1
 have ha1:=qA.mono g1.same ha
 refine⟨_,rfl,_,rfl,a,_,_,.str g,rfl,rfl,ha1,qW (j:=1) rfl,_,rfl,sc,g,.ref t,kvs,rfl,s1,by omega,fun d H2 g2 e2=>?_⟩
 walk_at "d"
 have hs2:vO K H2 d ((g,.fn k l)::Γ) (m+1):=vO.put s3 s2 g2 e2 hk1
 have g12:=g1.trans g2
 have ha2:=qA.mono g12.same ha
 obtain⟨kv2,s1,s2,s3⟩:=hs2
 refine⟨_,rfl,a,_,_,v4,rfl,rfl,ha2,qW (j:=5) rfl,_,rfl,_,rfl,a,_,_,.str x,rfl,rfl,ha2,qW (j:=2) rfl,_,rfl,a,_,_,v2,rfl,rfl,ha2,qW (j:=3) rfl,d,x,v2,kv2,rfl,s1,by omega,fun d3 H3 g3 e3=>?_⟩
 have hs3:vO K H3 d3 ((x,k)::(g,.fn k l)::Γ) (m+1+1):=vO.put s3 s2 g3 e3 (hv2.mono g12.same)
 have g13:=g12.trans g3
 refine⟨_,rfl,v4,d3,pr,p2,(x,k)::(g,.fn k l)::Γ,m+1+1,c,M,rfl,hv4.mono g13.same,by show p2.deep<n;omega,F2,hs3,by omega,hpr.mono g13,by omega,?_⟩
 cases h2:Pt.fit ((x,k)::(g,.fn k l)::Γ) p2 with
 |error b=>rw[h2]at q;exact dJ.up q g13.b
 |ok l'=>
 rw[h2]at q
 have q':FtE K UF NN pr (c+(p2.sz+1)) H Q E (if l'=l then .ok (.fn k l)else .error .unfit):=q
 intro u H4 g4 hpr4 hu
 walk_at "d"
 have kt:kY K H3 H4:=(hpr.mono g13).tups g4
 have kt0:kY K H H4:=fun b xs hb=>kt _ _ (qA.mono g13.same hb)
 refine⟨_,rfl,_,rfl,a,_,_,v3,rfl,rfl,kt0 _ _ ha,qW (j:=4) rfl,l'.dt,l.dt,hu,hv3.monoT kt0,xC hr (by omega) (F2.deep h2),_,rfl,fun hq=>?_,fun hq=>?_⟩<;>rw[Kd.eq_dt]at hq
 ·rw[if_pos (of_decide_eq_true hq)]at q'
  exact⟨_,rfl,q' _ _ (g13.b.trans g4) (hpr4.le (by omega)) ((hk1.mono (g2.trans g3).same).monoT kt)⟩
 ·rw[if_neg (of_decide_eq_false hq)]at q'
  exact dJ.rz (NN:=NN) q' (g13.b.trans g4)
end
def Pt.plain:Pt->Bool
 | .num _=>true| .tru _=>true| .one _ _=>true| .two _ _ _=>true| .ite _ _ _=>true
 |_=>false
def Pt.wd:Pt->Str
 | .num _=>"num"| .tru _=>"truth"| .nam _=>"name"| .nil _=>"nil"
 | .one u _=>u.str| .two u _ _=>u.str| .ite _ _ _=>"if"| .let_ _ _ _=>"let"| .fn _ _ _=>"fn"| .rc _ _ _ _ _=>"rec"
def Pt.parts:Pt->List Pt
 | .one _ p=>[p]| .two _ p q=>[p,q]| .ite p q r=>[p,q,r]
 | .let_ _ p q=>[p,q]| .fn _ _ p=>[p]| .rc _ _ _ _ p=>[p]
 |_=>[]
def KR:List (Str×Nat×(List Kd->Except Bad Kd)):=[("cons",2,vH .cons),("head",1,vU .head),("tail",1,vU .tail),("empty",1,vU .empty),("first",1,vU .first),("second",1,vU .second),("if",3,rIf),("call",2,vH .call)]
def FX:List (Str×List Kd×Kd):=[("num",[],.int),("truth",[],.bool),("plus",[.int,.int],.int),("minus",[.int,.int],.int),("times",[.int,.int],.int),("over",[.int,.int],.int),("rest",[.int,.int],.int),("less",[.int,.int],.bool),("same",[.int,.int],.bool),("and",[.bool,.bool],.bool),("or",[.bool,.bool],.bool),("not",[.bool],.bool)]
def kv:Kd->V
 | .int=>.str "int"
 |_=>.str "bool"
def xB(Γ:Cxt):List Pt->Except Bad (List Kd)
 |[]=>.ok []
 |p::ps=>(Pt.fit Γ p).bind fun k=>(xB Γ ps).bind fun ks=>.ok (k::ks)
theorem uT{Γ:Cxt}:∀{ps:List Pt}{ks:List Kd},xB Γ ps= .ok ks->ks.length=ps.length
 |[],_,h=>by cases h;rfl
 |p::ps,ks,h=>by
  obtain⟨k,_,h⟩:=Pt.bind_ok h
  obtain⟨l,h2,h⟩:=Pt.bind_ok h
  cases h
  rw[aq17,aq17,uT h2]
theorem gX{Γ:Cxt}:∀{ps:List Pt}{ks:List Kd}{k:Kd},xB Γ ps= .ok ks->k∈ks->∃p∈ps,Pt.fit Γ p= .ok k
 |[],_,_,h,hk=>by cases h;cases hk
 |p::ps,ks,k,h,hk=>by
  obtain⟨k',h1,h⟩:=Pt.bind_ok h
  obtain⟨l,h2,h⟩:=Pt.bind_ok h
  cases h
  rcases List.mem_cons.mp hk with rfl|hk
  ·exact⟨p,aq22,h1⟩
  ·obtain⟨q,hq,e⟩:=gX h2 hk
   exact⟨q,aq10 _ hq,e⟩
theorem vD{Γ:Cxt}:∀{ps:List Pt}{i:Nat}{p:Pt}{ks:List Kd},ps[i]? =some p->xB Γ (ps.take i)= .ok ks->(∀b,Pt.fit Γ p= .error b->xB Γ ps= .error b)/\∀k,Pt.fit Γ p= .ok k->xB Γ (ps.take (i+1))= .ok (ks++[k])
 |[],i,p,ks,h,_=>by simp at h
 |q::ps,0,p,ks,h,hk=>by
  simp at h
  subst h
  cases hk
  exact⟨fun b e=>by rw[xB,e];rfl,fun k e=>by rw[List.take_succ_cons,xB,e];rfl⟩
 |q::ps,i+1,p,ks,h,hk=>by
  rw[List.take_succ_cons]at hk
  obtain⟨k',h1,hk⟩:=Pt.bind_ok hk
  obtain⟨l,h2,hk⟩:=Pt.bind_ok hk
  cases hk
  obtain⟨a,b⟩:=vD (by simpa using h) h2
  exact⟨fun e z=>by rw[xB,h1];show Except.bind (xB Γ ps) _=_;rw[a e z];rfl,fun k z=>by rw[List.take_succ_cons,xB,h1];show Except.bind (xB Γ (ps.take (i+1))) _=_;rw[b k z];rfl⟩
def Ruled(wd:Str)(ks:List Kd)(r:Except Bad Kd):Prop:=(wd="pair"/\∃k l,ks=[k,l]/\r= .ok (.pair k l))\/(∃n R,(wd,n,R)∈KR/\ks.length=n/\r=R ks)\/∃fs κ,(wd,fs,κ)∈FX/\r=if ks=fs then .ok κ else .error .unfit
theorem iL{Γ:Cxt}{p:Pt}(hp:Pt.plain p=true):(∀b,xB Γ (Pt.parts p)= .error b->Pt.fit Γ p= .error b)/\∀ks,xB Γ (Pt.parts p)= .ok ks->Ruled (Pt.wd p) ks (Pt.fit Γ p):=by
 cases p with
 |num n=>exact⟨fun b h=>(by cases h),fun ks h=>by cases h;exact .inr (.inr ⟨[],.int,by simp[FX,Pt.wd],rfl⟩)⟩
 |tru n=>exact⟨fun b h=>(by cases h),fun ks h=>by cases h;exact .inr (.inr ⟨[],.bool,by simp[FX,Pt.wd],rfl⟩)⟩
 |nam _=>simp[Pt.plain]at hp
 |nil _=>simp[Pt.plain]at hp
 |let_ _ _=>simp[Pt.plain]at hp
 |fn _ _=>simp[Pt.plain]at hp
 |rc _ _=>simp[Pt.plain]at hp
 |ite p q r=>
  simp only[Pt.parts,xB,Pt.fit]
  cases Pt.fit Γ p with
  |error b=>exact⟨fun _ h=>(by cases h;rfl),fun _ h=>(by cases h)⟩
  |ok k=>
  cases Pt.fit Γ q with
  |error b=>exact⟨fun _ h=>(by cases h;rfl),fun _ h=>(by cases h)⟩
  |ok l=>
  cases Pt.fit Γ r with
  |error b=>exact⟨fun _ h=>(by cases h;rfl),fun _ h=>(by cases h)⟩
  |ok m=>exact⟨fun _ h=>(by cases h),fun _ h=>by cases h;exact .inr (.inl ⟨3,rIf,by simp[KR,Pt.wd],rfl,rfl⟩)⟩
 |one u p=>
  simp only[Pt.parts,xB,Pt.fit]
  cases Pt.fit Γ p with
  |error b=>exact⟨fun _ h=>(by cases h;rfl),fun _ h=>(by cases h)⟩
  |ok k=>
   refine⟨fun _ h=>(by cases h),fun _ h=>?_⟩
   cases h
   cases u
   ·exact .inr (.inl ⟨1,vU .head,by simp[KR,Pt.wd,U1.str],rfl,rfl⟩)
   ·exact .inr (.inl ⟨1,vU .tail,by simp[KR,Pt.wd,U1.str],rfl,rfl⟩)
   ·exact .inr (.inl ⟨1,vU .empty,by simp[KR,Pt.wd,U1.str],rfl,rfl⟩)
   ·exact .inr (.inl ⟨1,vU .first,by simp[KR,Pt.wd,U1.str],rfl,rfl⟩)
   ·exact .inr (.inl ⟨1,vU .second,by simp[KR,Pt.wd,U1.str],rfl,rfl⟩)
   ·exact .inr (.inr ⟨[.bool],.bool,by simp[FX,Pt.wd,U1.str],by cases k<;>rfl⟩)
 |two u p q=>
  simp only[Pt.parts,xB,Pt.fit]
  cases Pt.fit Γ p with
  |error b=>exact⟨fun _ h=>(by cases h;rfl),fun _ h=>(by cases h)⟩
  |ok k=>
  cases Pt.fit Γ q with
  |error b=>exact⟨fun _ h=>(by cases h;rfl),fun _ h=>(by cases h)⟩
  |ok l=>
   refine⟨fun _ h=>(by cases h),fun _ h=>?_⟩
   cases h
   cases u
   ·exact .inr (.inl ⟨2,vH .cons,by simp[KR,Pt.wd,U2.str],rfl,rfl⟩)
   ·exact .inl ⟨rfl,k,l,rfl,rfl⟩
   ·exact .inr (.inl ⟨2,vH .call,by simp[KR,Pt.wd,U2.str],rfl,rfl⟩)
   ·exact .inr (.inr ⟨[.int,.int],.int,by simp[FX,Pt.wd,U2.str],by cases k<;>cases l<;>rfl⟩)
   ·exact .inr (.inr ⟨[.int,.int],.int,by simp[FX,Pt.wd,U2.str],by cases k<;>cases l<;>rfl⟩)
   ·exact .inr (.inr ⟨[.int,.int],.int,by simp[FX,Pt.wd,U2.str],by cases k<;>cases l<;>rfl⟩)
   ·exact .inr (.inr ⟨[.int,.int],.int,by simp[FX,Pt.wd,U2.str],by cases k<;>cases l<;>rfl⟩)
   ·exact .inr (.inr ⟨[.int,.int],.int,by simp[FX,Pt.wd,U2.str],by cases k<;>cases l<;>rfl⟩)
   ·exact .inr (.inr ⟨[.int,.int],.bool,by simp[FX,Pt.wd,U2.str],by cases k<;>cases l<;>rfl⟩)
   ·exact .inr (.inr ⟨[.int,.int],.bool,by simp[FX,Pt.wd,U2.str],by cases k<;>cases l<;>rfl⟩)
   ·exact .inr (.inr ⟨[.bool,.bool],.bool,by simp[FX,Pt.wd,U2.str],by cases k<;>cases l<;>rfl⟩)
   ·exact .inr (.inr ⟨[.bool,.bool],.bool,by simp[FX,Pt.wd,U2.str],by cases k<;>cases l<;>rfl⟩)
theorem Fk.parts{Γ:Cxt}{M:Nat}{p q:Pt}(h:Fk Γ M p)(hp:Pt.plain p=true)(hq:q∈Pt.parts p):Fk Γ M q:=by
 have hi:=h.hi
 have kb:=h.kb
 cases p with
 |num _=>cases hq
 |tru _=>cases hq
 |nam _=>simp[Pt.plain]at hp
 |nil _=>simp[Pt.plain]at hp
 |let_ _ _=>simp[Pt.plain]at hp
 |fn _ _=>simp[Pt.plain]at hp
 |rc _ _=>simp[Pt.plain]at hp
 |one u p=>
  simp only[Pt.parts,List.mem_cons,List.not_mem_nil,or_false]at hq
  subst hq
  exact⟨h.cb,kb,h.lo,hi⟩
 |two u p1 p2=>
  simp only[Pt.parts,List.mem_cons,List.not_mem_nil,or_false]at hq
  simp only[Pt.gr]at hi
  rcases hq with rfl|rfl
  ·exact⟨h.cb,kb.1,h.lo,by omega⟩
  ·exact⟨h.cb,kb.2,h.lo,by omega⟩
 |ite p1 p2 p3=>
  simp only[Pt.parts,List.mem_cons,List.not_mem_nil,or_false]at hq
  simp only[Pt.gr]at hi
  rcases hq with rfl|rfl|rfl
  ·exact⟨h.cb,kb.1,h.lo,by omega⟩
  ·exact⟨h.cb,kb.2.1,h.lo,by omega⟩
  ·exact⟨h.cb,kb.2.2,h.lo,by omega⟩
theorem dW:∀ks ls:List Kd,eqDs (ks.map Kd.dt) (ls.map Kd.dt)=decide (ks=ls)
 |[],[]=>by simp[eqDs]
 |[],_::_=>by simp[eqDs]
 |_::_,[]=>by simp[eqDs]
 |k::ks,l::ls=>by simp[eqDs,dW ks ls,Kd.eq_dt]
theorem behind1(u:V):behind (["part"]:List Str) [u] "part"=[u]:=by unfold behind;simp
theorem behind2(u v:V):behind (["part","part"]:List Str) [u,v] "part"=[u,v]:=by unfold behind;simp
theorem behind3(u v x:V):behind (["part","part","part"]:List Str) [u,v,x] "part"=[u,v,x]:=by unfold behind;simp
theorem qC8(u:U1):zO u.str=(["part"]:List Str):=by cases u<;>decide+kernel
theorem qC9(u:U2):zO u.str=(["part","part"]:List Str):=by cases u<;>decide+kernel
theorem qCq:zO "if"=(["part","part","part"]:List Str):=by decide+kernel
theorem aZ:zO "num"=[]:=by decide+kernel
theorem aJ:zO "truth"=[]:=by decide+kernel
theorem jA{k:Str}:∀{ks:List Str}{vs:List V}{i:Nat},wJ k ks=some i->i<vs.length->PyProof.Rows.KTD.inKeys k (ks.zip vs)=true:=fun {ks vs i}h hi=>by
 have :=zH h (aq15 hi)
 rw[<-PyProof.Rows.KTD.isSome_datumAt,this]
 rfl
section
variable {P:Program} {w:World} {K:Fg} {mg:Str->Option Value} {base:Heap} {f:Addr} {fd:FuncData}
theorem uA{H:Hp}{p:Pt}{v:V}(hp:Pt.plain p=true)(h:qU K H p.dt v):∃a xs,v= .ref a/\qA K H a (.str (Pt.wd p)::xs)/\xs.length<=1000/\qR K H ((Pt.parts p).map Pt.dt) (behind (zO (Pt.wd p)) xs "part"):=by
 cases p with
 |num n=>obtain⟨a,u,rfl,hs,h1⟩:=jB h;exact⟨a,_,rfl,hs,by simp,by rw[show zO (Pt.wd (.num n))=[]from aZ];exact zX⟩
 |tru b=>obtain⟨a,u,rfl,hs,h1⟩:=jB h;exact⟨a,_,rfl,hs,by simp,by rw[show zO (Pt.wd (.tru b))=[]from aJ];exact zX⟩
 |one o p=>obtain⟨a,u,rfl,hs,h1⟩:=jB h;exact⟨a,_,rfl,hs,by simp,by rw[show zO (Pt.wd (.one o p))=_ from qC8 o,behind1];exact qB h1 zX⟩
 |two o p q=>obtain⟨a,u,x,rfl,hs,h1,h2⟩:=xV h;exact⟨a,_,rfl,hs,by simp,by rw[show zO (Pt.wd (.two o p q))=_ from qC9 o,behind2];exact qB h1 (qB h2 zX)⟩
 |ite p q r=>obtain⟨a,u,x,y,rfl,hs,h1,h2,h3⟩:=xE h;exact⟨a,_,rfl,hs,by simp,by rw[show zO (Pt.wd (.ite p q r))=_ from qCq,behind3];exact qB h1 (qB h2 (qB h3 zX))⟩
 |nam _=>simp[Pt.plain]at hp
 |nil _=>simp[Pt.plain]at hp
 |let_ _ _ _=>simp[Pt.plain]at hp
 |fn _ _ _=>simp[Pt.plain]at hp
 |rc _ _ _ _ _=>simp[Pt.plain]at hp
theorem gK{p:Pt}(hp:Pt.plain p=true):Pt.wd p∈(["num","truth","if","head","tail","empty","first","second","not","cons","pair","call","plus","minus","times","over","rest","less","same","and","or"]:List Str):=by
 cases p with
 |num n=>simp[Pt.wd]
 |tru b=>simp[Pt.wd]
 |one o p=>cases o<;>simp[Pt.wd,U1.str]
 |two o p q=>cases o<;>simp[Pt.wd,U2.str]
 |ite p q r=>simp[Pt.wd]
 |nam _=>simp[Pt.plain]at hp
 |nil _=>simp[Pt.plain]at hp
 |let_ _ _ _=>simp[Pt.plain]at hp
 |fn _ _ _=>simp[Pt.plain]at hp
 |rc _ _ _ _ _=>simp[Pt.plain]at hp
def bkeys:List Str:=["let","fn","rec"]
theorem dY:∀x∈(["num","truth","if","head","tail","empty","first","second","not","cons","pair","call","plus","minus","times","over","rest","less","same","and","or"]:List Str),decide (V.str x=V.str "name")=false/\decide (V.str x=V.str "nil")=false/\wJ x bkeys=none:=by decide+kernel
theorem qW4:∀x∈FX.map (·.1),decide (V.str x=V.str "pair")=false:=by decide+kernel
theorem qW5:∀x∈(["cons","head","tail","empty","first","second","if","call"]:List Str),decide (V.str x=V.str "pair")=false:=by decide+kernel
theorem qD0{wd:Str}{n:Nat}{R:List Kd->Except Bad Kd}(h:(wd,n,R)∈KR):wd∈(["cons","head","tail","empty","first","second","if","call"]:List Str):=by
 have :wd∈KR.map (·.1):=List.mem_map.mpr ⟨_,h,rfl⟩
 exact this
theorem aX{wd:Str}{ks:List Kd}{κ:Kd}(h:(wd,ks,κ)∈FX):wd∈FX.map (·.1):=List.mem_map.mpr ⟨_,h,rfl⟩
theorem qW6:∀x∈FX,∀k∈x.2.1++[x.2.2],k= .int\/k= .bool:=by decide+kernel
theorem qCz{H:Hp}{k:Kd}(h:k= .int\/k= .bool):qU K H k.dt (kv k):=by rcases h with rfl|rfl<;>exact zJ _
theorem aK{H:Hp}:∀{ks:List Kd},(∀k∈ks,k= .int\/k= .bool)->qR K H (ks.map Kd.dt) (ks.map kv)
 |[],_=>zX
 |k::ks,h=>qB (qCz (h k aq22)) (aK fun l hl=>h l (aq10 _ hl))
def At(P:Program)(w:World)(K:Fg)(mg:Str->Option Value)(base:Heap)(k:Nat)(f:Addr)(ps:List Str)(sp:Sp):Prop:=∃fd,zC P w K mg base (CXE P w) k f fd ps sp/\PySem.W.keepIn K (.ref f)=true/\Binds K fd ps []
structure GlF(P:Program)(w:World)(K:Fg)(mg:Str->Option Value)(base:Heap)(UF fL fN fR:Addr):Prop where
 list:mg "list"=none
 bind:∃a,mg "BINDING_RULES"=some (.ref a)/\oB K a (bkeys.zip [.ref fL,.ref fN,.ref fR])
 rule:∃a D,mg "KIND_RULES"=some (.ref a)/\oB K a D/\(∀wd ks κ,(wd,ks,κ)∈FX->PyProof.Rows.KTD.inKeys wd D=false)/\∀wd n R,(wd,n,R)∈KR->PyProof.Rows.KTD.inKeys wd D=true/\∃g,PyProof.Rows.KTD.datumAt wd D=some (.ref g)/\At P w K mg base 63 g ["kinds"] (cO K UF n R)
 fixd:∃a D,mg "FIXED_KINDS"=some (.ref a)/\oB K a D/\∀wd ks κ,(wd,ks,κ)∈FX->∃tp,PyProof.Rows.KTD.datumAt wd D=some (.ref tp)/\∀H,qA K H tp ((ks++[κ]).map kv)
def szs:List Pt->Nat
 |[]=>0
 |p::ps=>p.sz+szs ps
theorem yQ:∀(ps:List Pt)(i:Nat)(p:Pt),ps[i]? =some p->szs (ps.take (i+1))=szs (ps.take i)+p.sz
 |[],i,p,h=>by simp at h
 |q::ps,0,p,h=>by simp at h;subst h;simp[szs]
 |q::ps,i+1,p,h=>by
  have :=yQ ps i p (by simpa using h)
  simp only[List.take_succ_cons,szs];omega
theorem cC:∀(ps:List Pt)(i:Nat),szs (ps.take i)<=szs ps
 |[],i=>by simp[szs]
 |q::ps,0=>by simp[szs]
 |q::ps,i+1=>by have :=cC ps i;simp only[List.take_succ_cons,szs];omega
theorem xD{p:Pt}(hp:Pt.plain p=true):szs (Pt.parts p)+1=p.sz/\∀q∈Pt.parts p,q.deep<p.deep:=by
 cases p with
 |num n=>simp[Pt.parts,szs,Pt.sz]
 |tru b=>simp[Pt.parts,szs,Pt.sz]
 |one o p=>simp[Pt.parts,szs,Pt.sz,Pt.deep]
 |two o p q=>simp[Pt.parts,szs,Pt.sz,Pt.deep];omega
 |ite p q r=>simp[Pt.parts,szs,Pt.sz,Pt.deep];omega
 |nam _=>simp[Pt.plain]at hp
 |nil _=>simp[Pt.plain]at hp
 |let_ _ _ _=>simp[Pt.plain]at hp
 |fn _ _ _=>simp[Pt.plain]at hp
 |rc _ _ _ _ _=>simp[Pt.plain]at hp
end
section
variable {P:Program} {w:World} {K:Fg} {mg:Str->Option Value} {base:Heap} {f:Addr} {fd:FuncData}
theorem gW{wd:Str}{n:Nat}{R:List Kd->Except Bad Kd}{ks:List Kd}{b:Bad}(h:(wd,n,R)∈KR)(e:R ks= .error b):b= .unfit:=by
 have o:∀{x:Option Kd},Pt.ofO x= .error b->b= .unfit:=fun {x}h=>by cases x<;>cases h;rfl
 have h1:∀u,vU u ks= .error b->b= .unfit:=fun u h=>by unfold vU at h;split at h;exact o h;cases h;rfl
 have h2:∀u,vH u ks= .error b->b= .unfit:=fun u h=>by unfold vH at h;split at h;exact o h;cases h;rfl
 have h3:rIf ks= .error b->b= .unfit:=fun h=>by
  unfold rIf at h
  split at h
  ·unfold Pt.iteK at h;split at h<;>cases h;rfl
  ·cases h;rfl
 simp only[KR,List.mem_cons,List.not_mem_nil,or_false,Prod.mk.injEq]at h
 rcases h with⟨_,_,rfl⟩|⟨_,_,rfl⟩|⟨_,_,rfl⟩|⟨_,_,rfl⟩|⟨_,_,rfl⟩|⟨_,_,rfl⟩|⟨_,_,rfl⟩|⟨_,_,rfl⟩<;>first|exact h1 _ e|exact h2 _ e|exact h3 e
theorem zV2{X:Cx}{k:Nat}{ps:List Str}{sp:Sp}{x:Str}{p pos:Pos}{e:Expr}{es:List Expr}{t:TA}(G:Kn X.prog X.w X.K X.mg X.base k x ps sp)(hr:Room k X.A)(ha:PA X.nox (e::es) t)(hg:Gl X x:=by rfl)
  (hdb:(x==("__debug__":Str))=false:=by decide)(he:starEach (e::es) X.env=(false,eval e X.env)::starEach es X.env:=by rfl)(hpl:(backTo pos (starEach es X.env)).any (·.1)=false:=by rfl):
  PEx X (.Call (.Name x p) (e::es) [] pos) (fun σ H Q E=>t σ H fun vs H1=>sp (vs++[]) H1 Q E):=by
 obtain⟨f,fd,F,m,kp,b⟩:=G
 exact qK6 F hr hg m kp b .nil ha hdb he hpl
theorem iG:zQ ["part","scope","pairs","word","kinds","fixed","told"] oU (qL tE):=by walk_at "s"
theorem qW7{UF NN:Addr}(F:zB K "fitted" "fitted" tE .none f fd):zC P w K mg base (CXE P w) (2*0+72) f fd oU (wE K UF NN 0):=by
 refine F.ok0 iG (by walk_at "l") ?_
 walk_at "i"
 obtain⟨pv,sc,pr,p,Γ,m,c,M,rfl,_,hd,_⟩:=h
 exact absurd hd (Nat.not_lt_zero _)
theorem qD1{n:Nat}{UF NN fL fN fR:Addr}(F:zB K "fitted" "fitted" tE .none f fd)(G:GlF P w K mg base UF fL fN fR)(GV:Kn P w K mg base 1 "values_behind" ["part","sort"] (gZ K))(GR:Kn P w K mg base 1 "require" ["holds"] (yP UF))(GU:Kn P w K mg base 3 "looked_up" ["scope","name"] (bS NN))(GP:Kn P w K mg base 63 "pair_kind" ["kinds","pairs"] (qBq K))
  (GL:At P w K mg base (2*n+73) fL oU (wV K UF NN (qC4 n)))(GN:At P w K mg base (2*n+73) fN oU (wV K UF NN (qC5 n)))(GE:At P w K mg base (2*n+73) fR oU (wV K UF NN (qC6 n)))(GF:Kn P w K mg base (2*n+72) "fitted" oU (wE K UF NN n)):zC P w K mg base (CXE P w) (2*(n+1)+72) f fd oU (wE K UF NN (n+1)):=by
 refine F.okE (k:=2*n+73) iG (fun vs H Q E h=>?_) (fun cdv A outer s H vs Q E hr h=>?_)
 ·obtain⟨pv,sc,pr,p,Γ,m,c,M,rfl,_⟩:=h
  rfl
 ·obtain⟨v,sc,pr,p,Γ,m,c,M,rfl,hp,hd,hh,hs,hm,hpr,hc,q⟩:=h
  have ndb:((["inner"]:List Str)++(["scope","pairs"]:List Str)).Nodup:=by decide+kernel
  obtain⟨t1,mB,T1⟩:=G.bind
  obtain⟨t2,D2,mK,T2,nK,yK⟩:=G.rule
  obtain⟨t3,D3,mF,T3,nF⟩:=G.fixd
  refine⟨_,qK (qH (i:=3) iG.nd rfl oI (qO qN (pv 0) qX))
   (qK (zK (qM zG (pv 3) qV (nomark _)) (qY (qG (xI GU (hr.mono (by omega)) (qQ (pv 1) (qQ (qO qN (pv 0) qX) qJ))))) qD)
   (qK (zK (qM zG (pv 3) qV (nomark _)) (qY (qG (qF (qQ qV (qQ (qO qN (pv 0) qX) qJ))))) qD)
   (qK (zK (qM uM (pv 3) (jC (v:=.ref t1) (by rfl) mB rfl) rfl) (qY (qG (uH (CX:=CXE P w) (qO cZ (jC (v:=.ref t1) (by rfl) mB rfl) (pv 3)) (qQ (pv 0) (qQ (pv 1) (qQ (pv 2) qJ)))))) qD)
   (qK (tW (i:=4) iG.nd rfl oI (qI3 (own:=["inner"]) (x:="scope") (y:="pairs") (i:=1) (j:=2) (by decide+kernel) (by rfl) (by decide+kernel) (by rfl) (by decide+kernel) (by rfl) (by rfl) (by decide+kernel) (by rfl) (by rfl) (.inl (by rfl)) (.inl (by rfl)) (by rfl) (by rfl) (by decide+kernel))
     (vM (zI GV (hr.mono (by omega)) (qQ (pv 0) (qQ qV qJ))))
     (fun C s H fp pins=>zV2 GF (hr.mono (by omega)) (qQ (pv 0) (qQ (pv 1) (qQ (pv 2) qJ)))) (fun C s H fp pins=>jU (i:=0) ndb rfl oI (Or.inr (by rfl))) (by rfl))
   (qK (zK (qM zG (pv 3) qV (nomark _)) (qY (qG (zI GP (hr.mono (by omega)) (qQ (pv 4) (qQ (pv 2) qJ))))) qD)
   (qK (zK (qM uM (pv 3) (jC (v:=.ref t2) (by rfl) mK rfl) rfl) (qY (qG (uH (CX:=CXE P w) (qO cZ (jC (v:=.ref t2) (by rfl) mK rfl) (pv 3)) (qQ (pv 4) qJ)))) qD)
   (qK (qH (i:=5) iG.nd rfl oI (zD iT (by rfl) G.list PyProof.Rows.boot_list (qQ (qO cZ (jC (v:=.ref t3) (by rfl) mF rfl) (pv 3)) qJ)))
   (qK (qH (i:=6) iG.nd rfl oI (qM6 aq0 PySem.F.slot_list_pop PySem.F.type_list_pop qM7 (pv 5)))
   (qK (jK (xI GR (hr.mono (by omega)) (qQ (zS qNq (pv 4) (pv 5) (nomark _)) qJ)))
   (qY (qG (pv 6)))))))))))),?_⟩
  by_cases hpl:Pt.plain p=true
  ·obtain⟨a,xs,rfl,ha,hxs,hbe⟩:=uA hpl hp
   obtain⟨w1,w2,w3⟩:=dY _ (gK hpl)
   obtain⟨hfe,hfo⟩:=iL (Γ:=Γ) hpl
   obtain⟨hsz,hdp⟩:=xD hpl
   refine⟨_,rfl,a,_,_,.str (Pt.wd p),rfl,rfl,ha,qW (j:=0) rfl,?_⟩
   walk_at "d"
   refine⟨_,rfl,rfl,_,rfl,?_⟩
   rw[w1]
   refine jQ ⟨_,rfl,rfl,_,rfl,?_⟩
   rw[w2]
   refine jQ ⟨_,rfl,_,_,_,rfl,rfl,T1,_,rfl,?_⟩
   rw[yI w3]
   refine jQ ⟨_,rfl,a,"part",Pt.wd p,xs,rfl,ha,hxs,fun l0 H1 g1 n1 e1=>?_⟩
   refine⟨l0,rfl,⟨_,zV.of e1⟩,fun D0 hD0=>?_⟩
   have hbe1:=hbe.mono g1.same
   have hpr1:=hpr.mono g1
   have hs1:=hs.mono g1
   generalize behind (zO (Pt.wd p)) xs "part"=zs at e1 hbe1
   have lpr:l0≠pr:=by
    obtain⟨ps,_,x1,_⟩:=hpr
    exact fun z=>by rw[z,x1]at n1;cases n1
   have dpr:D0≠pr:=by
    obtain⟨ps,_,x1,_⟩:=hpr1
    exact fun z=>by rw[z,x1]at hD0;cases hD0
   have dl:l0≠D0:=fun z=>by rw[z,hD0]at e1;cases e1
   have gD:Grow H1 (upd H1 D0 (.lst [])):=Grow.put hD0
   have hlen:zs.length=(Pt.parts p).length:=by rw[hbe1.length,aq16]
   refine uP (K:=K) (a:=l0) (xs:=zs) (te:=fun σ H Q=>(jL (xG 0) (jL (xG 1) (jL (xG 2) wI))) σ H fun vs H1=>wE K UF NN n (vs++[]) H1 Q E) (ix:=[1,2]) (σ:=[some (.ref a),some (.ref sc),some (.ref pr),some (.str (Pt.wd p)),none,none,none])
    (fun i ys H2=>zF pr H1 H2/\H2 D0=some (.lst ys)/\H2 l0=some (.lst zs)/\wK K H2 pr (c+szs ((Pt.parts p).take i))/\∃ks,xB Γ ((Pt.parts p).take i)= .ok ks/\qR K H2 (ks.map Kd.dt) ys) ?_ ?_ ?_ ?_
   ·exact⟨gD.b,qZ,gD.same _ _ e1,hpr1.mono gD,[],by rw[List.take_zero];rfl,zX⟩
   ·rintro i ys H2 _ ⟨_,_,h,_⟩
    exact zV.of h
   ·rintro i x ys H2 hx ⟨gB,eD,el,hp2,ks,hks,hy⟩ Q' hq
    obtain⟨pi,hpi⟩:∃pi,(Pt.parts p)[i]? =some pi:=by
     have :i<zs.length:=by
      rcases Nat.lt_or_ge i zs.length with h|h
      ·exact h
      ·rw[List.getElem?_eq_none h]at hx;cases hx
     exact⟨_,aq15 (by omega)⟩
    obtain⟨x',hx',hxd⟩:=hbe1.get (i:=i) (d:=pi.dt) (by rw[aq19,hpi];rfl)
    rw[hx]at hx'
    cases hx'
    obtain⟨ne,no⟩:=vD hpi hks
    have kt:=hpr1.tups gB
    have hst:=yQ _ _ _ hpi
    have hsl:=cC (Pt.parts p) (i+1)
    have hdi:=hdp pi (aq23 hpi)
    refine⟨_,rfl,_,rfl,_,rfl,x,sc,pr,pi,Γ,m,_,M,rfl,hxd.monoT kt,by show pi.deep<n;omega,hh.parts hpl (aq23 hpi),hs1.monoB hpr1 gB,by omega,hp2,by omega,?_⟩
    cases hk:Pt.fit Γ pi with
    |error b=>
     rw[hfe b (ne b hk)]at q
     exact dJ.up q (g1.b.trans gB)
    |ok k=>
    intro u H3 g3 hp3 hu
    have kt3:=hp2.tups g3
    have eD3:=g3.keep _ _ dpr eD
    refine hq u H3 eD3 ?_ ⟨?_,qZ,(qC dl).trans (g3.keep _ _ lpr el),?_,?_⟩
    ·have :=hy.length
     rw[aq16,uT hks,List.length_take]at this
     rw[sizeLine_eq]
     have :i<(Pt.parts p).length:=(List.getElem?_eq_some_iff.mp hpi).1
     have :(Pt.parts p).length<=3:=by cases p<;>simp[Pt.parts]
     omega
    ·have gg:=gB.trans g3
     refine⟨fun b o hb e=>?_,fun b e=>?_⟩
     ·rw[qC (zZ e hD0)]
      exact gg.keep b o hb e
     ·by_cases z:b=D0
      ·subst z;exact hD0
      ·rw[qC z]at e;exact gg.none b e
    ·have kd:kY K H3 (upd H3 D0 (.lst (ys++[u]))):=zF.tups ((zF.refl D0 H3).set eD3) eD3
     obtain⟨ps,kl,x1,x2,x3,x4⟩:=hp3
     exact⟨ps,kl,(qC dpr.symm).trans x1,x2.monoT kd,x3,by rw[hst];omega⟩
    ·have kd:kY K H3 (upd H3 D0 (.lst (ys++[u]))):=zF.tups ((zF.refl D0 H3).set eD3) eD3
     refine⟨_,no k hk,?_⟩
     rw[aq21]
     exact((hy.monoT kt3).monoT kd).append (qB (hu.monoT kd) zX)
   ·rintro ys H2 ⟨gB,eD,el,hp2,ks,hks,hy⟩
    rw[hlen,List.take_of_length_le (aq7 _)]at hks
    have hru:=hfo ks hks
    have hkd:∀k∈ks,k.deep<=1100:=fun k hk=>let⟨q,hq,e⟩:=gX hks hk;(hh.parts hpl hq).deep e
    rw[hlen,List.take_of_length_le (aq7 _)]at hp2
    have g02:zF pr H H2:=g1.b.trans gB
    walk_at "d"
    refine⟨_,rfl,rfl,_,rfl,?_⟩
    rcases hru with⟨z1,k,l,rfl,hr'⟩|⟨n',R,hR,hn',hr'⟩|⟨fs,κ,hfx,hr'⟩
    ·rw[decide_eq_true (by rw[z1]:V.str (Pt.wd p)=V.str "pair")]
     obtain⟨u,r,rfl,hu,hy⟩:=qS hy
     obtain⟨u',r,rfl,hu',hy⟩:=qS hy
     cases jZ hy
     refine jO ⟨_,rfl,_,rfl,D0,pr,u,u',k,l,_,rfl,zV.of eD,hu,hu',hh.deep hr',hp2,by omega,fun r H3 g3 hp3 hr3=>?_⟩
     rw[hr']at q
     exact q r H3 (g02.trans g3) (hp3.le (by omega)) hr3
    ·rw[qW5 _ (qD0 hR)]
     obtain⟨y1,g,y2,fdg,y3,y4,y5⟩:=yK _ _ R hR
     refine jQ ⟨_,rfl,_,_,_,rfl,rfl,T2,_,rfl,?_⟩
     rw[y1]
     refine jO ⟨_,rfl,_,_,_,_,rfl,rfl,T2,y2,g,fdg,_,_,[],[],E,63,rfl,y3,hr.mono (by omega),y4,y5,.nil,kD,_,rfl,D0,ys,ks,rfl,zV.of eD,hy,hkd,hn',?_⟩
     rw[<-hr']
     cases he:Pt.fit Γ p with
     |ok κ=>
      rw[he]at q
      exact fun r H3 g3 hr3=>q r H3 (g02.trans g3.b) ((hp2.mono g3).le (by omega)) hr3
     |error b=>
      rw[he]at q
      have hb:b= .unfit:=gW hR (hr'.symm.trans he)
      subst hb
      exact dJ.rz (NN:=NN) q g02
    ·rw[qW4 _ (aX hfx)]
     obtain⟨tp,eF,sF⟩:=nF _ _ _ hfx
     have fl:=qW6 _ hfx
     refine jQ ⟨_,rfl,_,_,_,rfl,rfl,T2,_,rfl,?_⟩
     rw[nK _ _ _ hfx]
     refine jQ ⟨_,rfl,_,_,_,_,rfl,rfl,T3,eF,tp,_,rfl,.inr (sF H2),fun l3 hl3=>?_⟩
     walk_at "d"
     have dl':((fs++[κ]).map kv).dropLast=fs.map kv:=by rw[aq21];exact List.dropLast_concat
     refine⟨_,rfl,.inl ⟨rfl,_,zV.of qZ⟩,l3,_,kv κ,rfl,rfl,qZ,by simp,?_⟩
     rw[iF,dl']
     have g3:Grow H2 (upd H2 l3 (.lst (fs.map kv))):=Grow.put hl3
     have e3:(upd H2 l3 (.lst (fs.map kv))) l3=some (.lst (fs.map kv)):=qZ
     generalize upd H2 l3 (.lst (fs.map kv))=H3 at g3 e3⊢
     refine⟨_,rfl,_,rfl,D0,l3,_,_,ks.map Kd.dt,fs.map Kd.dt,rfl,rfl,zV.of (g3.same _ _ eD),zV.of e3,hy.mono g3.same,aK (fun k hk=>fl k (List.mem_append_left _ hk)),cU hr (Nat.le_trans (nM hkd) (by omega)),_,rfl,fun hq=>?_,fun hq=>?_⟩<;>rw[dW]at hq
     ·rw[hr',if_pos (of_decide_eq_true hq)]at q
      exact⟨_,rfl,q _ H3 (g02.trans g3.b) ((hp2.mono g3).le (by omega)) (qCz (fl κ (aq11 _ (aq20.mpr rfl))))⟩
     ·rw[hr',if_neg (of_decide_eq_false hq)]at q
      exact dJ.rz (NN:=NN) q (g02.trans g3.b)
  ·cases p with
   |num _=>exact absurd rfl hpl
   |tru _=>exact absurd rfl hpl
   |one _ _=>exact absurd rfl hpl
   |two _ _ _=>exact absurd rfl hpl
   |ite _ _ _=>exact absurd rfl hpl
   |nam x=>
    obtain⟨a,u,rfl,ha,hx⟩:=jB hp
    cases zR hx
    obtain⟨kvs,s1,s2,s3,s4⟩:=hs
    rw[Pt.fit]at q
    refine⟨_,rfl,a,_,_,.str "name",rfl,rfl,ha,qW (j:=0) rfl,?_⟩
    walk_at "d"
    refine⟨_,rfl,rfl,_,rfl,ite2 (fun _=>?_) (fun h=>absurd (by decide+kernel) h)⟩
    refine⟨_,rfl,_,rfl,a,_,_,.str x,rfl,rfl,ha,qW (j:=1) rfl,sc,x,kvs,rfl,s1,fun r hr1=>?_,fun hr1=>?_⟩
    ·cases hl:Γ.lookup x with
     |none=>rw[s4 x hl]at hr1;cases hr1
     |some k=>
      rw[hl]at q
      obtain⟨v,e1,e2⟩:=s3 x k hl
      rw[hr1]at e1
      cases e1
      exact q _ H (zF.refl _ _) (hpr.le (by omega)) e2
    ·cases hl:Γ.lookup x with
     |none=>
      rw[hl]at q
      exact fun e t d H' g he hd=>q e t d H' g.b he hd
     |some k=>
      obtain⟨v,e1,e2⟩:=s3 x k hl
      rw[hr1]at e1
      cases e1
   |nil k=>
    obtain⟨a,u,rfl,ha,hx⟩:=jB hp
    rw[Pt.fit]at q
    refine⟨_,rfl,a,_,_,.str "nil",rfl,rfl,ha,qW (j:=0) rfl,?_⟩
    walk_at "d"
    refine⟨_,rfl,rfl,_,rfl,ite2 (fun h=>absurd h (by decide+kernel)) (fun _=>?_)⟩
    refine⟨_,rfl,rfl,_,rfl,ite2 (fun _=>?_) (fun h=>absurd (by decide+kernel) h)⟩
    refine⟨_,rfl,a,_,_,u,rfl,rfl,ha,qW (j:=1) rfl,zl2,fun t ht=>?_⟩
    have g1:Grow H (upd H t (.tup [.str "list",u])):=Grow.put ht
    exact q _ _ g1.b ((hpr.mono g1).le (by omega)) (jG (qA.of qZ) (hx.mono g1.same))
   |let_ x p1 p2=>
    obtain⟨fdg,y3,y4,y5⟩:=GL
    obtain⟨a,v0,v1,v2,rfl,ha,hx,hv1,hv2⟩:=xE hp
    refine⟨_,rfl,a,_,_,.str "let",rfl,rfl,ha,qW (j:=0) rfl,?_⟩
    walk_at "d"
    refine⟨_,rfl,rfl,_,rfl,ite2 (fun h=>absurd h (by decide+kernel)) (fun _=>?_)⟩
    refine⟨_,rfl,rfl,_,rfl,ite2 (fun h=>absurd h (by decide+kernel)) (fun _=>?_)⟩
    refine⟨_,rfl,_,_,_,rfl,rfl,T1,_,rfl,?_⟩
    rw[jA (i:=0) (by decide+kernel) (by show 0<3;decide)]
    refine jO ⟨_,rfl,_,_,_,_,rfl,rfl,T1,zH (i:=0) (by decide+kernel) rfl,fL,fdg,_,_,[],[],E,_,rfl,y3,hr,y4,y5,.nil,kD,_,rfl,_,rfl,_,rfl,?_⟩
    exact⟨_,sc,pr,_,Γ,m,c,M,rfl,hp,⟨hd,x,p1,p2,rfl⟩,hh,hs,hm,hpr,hc,q⟩
   |fn x k p2=>
    obtain⟨fdg,y3,y4,y5⟩:=GN
    obtain⟨a,v0,v1,v2,rfl,ha,hx,hv1,hv2⟩:=xE hp
    refine⟨_,rfl,a,_,_,.str "fn",rfl,rfl,ha,qW (j:=0) rfl,?_⟩
    walk_at "d"
    refine⟨_,rfl,rfl,_,rfl,ite2 (fun h=>absurd h (by decide+kernel)) (fun _=>?_)⟩
    refine⟨_,rfl,rfl,_,rfl,ite2 (fun h=>absurd h (by decide+kernel)) (fun _=>?_)⟩
    refine⟨_,rfl,_,_,_,rfl,rfl,T1,_,rfl,?_⟩
    rw[jA (i:=1) (by decide+kernel) (by show 1<3;decide)]
    refine jO ⟨_,rfl,_,_,_,_,rfl,rfl,T1,zH (i:=1) (by decide+kernel) rfl,fN,fdg,_,_,[],[],E,_,rfl,y3,hr,y4,y5,.nil,kD,_,rfl,_,rfl,_,rfl,?_⟩
    exact⟨_,sc,pr,_,Γ,m,c,M,rfl,hp,⟨hd,x,k,p2,rfl⟩,hh,hs,hm,hpr,hc,q⟩
   |rc g x k l p2=>
    obtain⟨fdg,y3,y4,y5⟩:=GE
    obtain⟨a,v0,v1,v2,v3,v4,rfl,ha,_⟩:=iO hp
    refine⟨_,rfl,a,_,_,.str "rec",rfl,rfl,ha,qW (j:=0) rfl,?_⟩
    walk_at "d"
    refine⟨_,rfl,rfl,_,rfl,ite2 (fun h=>absurd h (by decide+kernel)) (fun _=>?_)⟩
    refine⟨_,rfl,rfl,_,rfl,ite2 (fun h=>absurd h (by decide+kernel)) (fun _=>?_)⟩
    refine⟨_,rfl,_,_,_,rfl,rfl,T1,_,rfl,?_⟩
    rw[jA (i:=2) (by decide+kernel) (by show 2<3;decide)]
    refine jO ⟨_,rfl,_,_,_,_,rfl,rfl,T1,zH (i:=2) (by decide+kernel) rfl,fR,fdg,_,_,[],[],E,_,rfl,y3,hr,y4,y5,.nil,kD,_,rfl,_,rfl,_,rfl,?_⟩
    exact⟨_,sc,pr,_,Γ,m,c,M,rfl,hp,⟨hd,g,x,k,l,p2,rfl⟩,hh,hs,hm,hpr,hc,q⟩
end
abbrev sON:Stmt:=top 17
def Pt.names:Pt->List Str
 | .let_ x _ _=>[x]| .fn x _ _=>[x]| .rc f x _ _ _=>[f,x]
 |_=>[]
def yZ:Pt->Bool
 | .nam _=>true
 |_=>false
theorem qD2:zO "let"=(["name","part","part"]:List Str):=by decide+kernel
theorem qEj:zO "fn"=(["name","kind","part"]:List Str):=by decide+kernel
theorem qD3:zO "rec"=(["name","name","kind","kind","part"]:List Str):=by decide+kernel
theorem qD4:zO "nil"=(["kind"]:List Str):=by decide+kernel
theorem qD5:¬(("name":Str)="part"):=by decide+kernel
theorem qD6:¬(("kind":Str)="part"):=by decide+kernel
theorem cL:¬(("part":Str)="name"):=by decide+kernel
theorem qD7:¬(("kind":Str)="name"):=by decide+kernel
theorem uE{p:Pt}(hp:yZ p=false)(x:Str):p.fv x↔∃(i:Nat)(q:Pt),(Pt.parts p)[i]? =some q/\q.fv x/\(i+1<(Pt.parts p).length\/x∉Pt.names p):=by
 have c1:∀(q:Pt),(∃(i:Nat)(r:Pt),[q][i]? =some r/\r.fv x/\(i+1<[q].length\/x∉Pt.names p))↔q.fv x/\x∉Pt.names p:=fun q=>by
  constructor
  ·rintro⟨i,r,h1,h2,h3⟩
   match i,h1 with
   |0,h1=>cases h1;exact⟨h2,h3.elim (fun z=>absurd z (by simp)) id⟩
   |i+1,h1=>simp at h1
  ·rintro⟨h1,h2⟩
   exact⟨0,q,rfl,h1,.inr h2⟩
 cases p with
 |nam y=>cases hp
 |num n=>simp[Pt.fv,Pt.parts]
 |tru n=>simp[Pt.fv,Pt.parts]
 |nil n=>simp[Pt.fv,Pt.parts]
 |one u p=>rw[show Pt.parts (.one u p)=[p]from rfl,c1];simp[Pt.fv,Pt.names]
 |fn y k p=>rw[show Pt.parts (.fn y k p)=[p]from rfl,c1];simp[Pt.fv,Pt.names]
 |rc g y k l p=>rw[show Pt.parts (.rc g y k l p)=[p]from rfl,c1];simp[Pt.fv,Pt.names]
 |two u p q=>
  rw[show Pt.parts (.two u p q)=[p,q]from rfl]
  constructor
  ·rintro(h|h)
   ·exact⟨0,p,rfl,h,.inl (by simp)⟩
   ·exact⟨1,q,rfl,h,.inr (by simp[Pt.names])⟩
  ·rintro⟨i,r,h1,h2,h3⟩
   match i,h1 with
   |0,h1=>cases h1;exact .inl h2
   |1,h1=>cases h1;exact .inr h2
   |i+2,h1=>simp at h1
 |let_ y p q=>
  rw[show Pt.parts (.let_ y p q)=[p,q]from rfl]
  constructor
  ·rintro(h|h)
   ·exact⟨0,p,rfl,h,.inl (by simp)⟩
   ·exact⟨1,q,rfl,h.1,.inr (by simp[Pt.names,h.2])⟩
  ·rintro⟨i,r,h1,h2,h3⟩
   match i,h1 with
   |0,h1=>cases h1;exact .inl h2
   |1,h1=>cases h1;exact .inr ⟨h2,by simpa[Pt.names]using h3⟩
   |i+2,h1=>simp at h1
 |ite p q r=>
  rw[show Pt.parts (.ite p q r)=[p,q,r]from rfl]
  constructor
  ·rintro(h|h|h)
   ·exact⟨0,p,rfl,h,.inl (by simp)⟩
   ·exact⟨1,q,rfl,h,.inl (by simp)⟩
   ·exact⟨2,r,rfl,h,.inr (by simp[Pt.names])⟩
  ·rintro⟨i,r',h1,h2,h3⟩
   match i,h1 with
   |0,h1=>cases h1;exact .inl h2
   |1,h1=>cases h1;exact .inr (.inl h2)
   |2,h1=>cases h1;exact .inr (.inr h2)
   |i+3,h1=>simp at h1
theorem pR{p:Pt}(hp:yZ p=false):szs (Pt.parts p)<=p.sz/\∀q∈Pt.parts p,q.deep<p.deep:=by
 cases p with
 |num n=>simp[Pt.parts,szs,Pt.sz]
 |tru b=>simp[Pt.parts,szs,Pt.sz]
 |nil _=>simp[Pt.parts,szs,Pt.sz]
 |nam _=>cases hp
 |one o p=>simp[Pt.parts,szs,Pt.sz,Pt.deep]
 |two o p q=>simp[Pt.parts,szs,Pt.sz,Pt.deep];omega
 |ite p q r=>simp[Pt.parts,szs,Pt.sz,Pt.deep];omega
 |let_ _ _ _=>simp[Pt.parts,szs,Pt.sz,Pt.deep];omega
 |fn _ _ _=>simp[Pt.parts,szs,Pt.sz,Pt.deep]
 |rc _ _ _ _ _=>simp[Pt.parts,szs,Pt.sz,Pt.deep]
theorem qD8{p:Pt}(hp:yZ p=false):decide (V.str (Pt.wd p)=V.str "name")=false:=by
 by_cases hpl:Pt.plain p=true
 ·exact(dY _ (gK hpl)).1
 ·have h4:∀x∈(["nil","let","fn","rec"]:List Str),decide (V.str x=V.str "name")=false:=by decide+kernel
  refine h4 _ ?_
  cases p with
  |nam _=>cases hp
  |num _=>exact absurd rfl hpl
  |tru _=>exact absurd rfl hpl
  |one _ _=>exact absurd rfl hpl
  |two _ _ _=>exact absurd rfl hpl
  |ite _ _ _=>exact absurd rfl hpl
  |_=>simp[Pt.wd]
theorem gY(x:Str):∀ns:List Str,kQ (.str x) (ns.map V.str)=decide (x∈ns)
 |[]=>rfl
 |n::ns=>by
  have ih:=gY x ns
  unfold kQ at ih⊢
  rw[List.map_cons,List.any_cons,ih]
  by_cases h:x=n
  ·subst h;simp[eqV]
  ·simp[eqV,h]
   intro z;exact absurd z.symm h
theorem pS(ns:List Str):(ns.map V.str).all vJ=true:=by
 rw[List.all_eq_true];intro y hy
 obtain⟨b,_,rfl⟩:=List.mem_map.mp hy
 rfl
section
variable {P:Program} {w:World} {K:Fg} {mg:Str->Option Value} {base:Heap} {f:Addr} {fd:FuncData}
theorem oQ{H:Hp}{p:Pt}{v:V}(hp:yZ p=false)(h:qU K H p.dt v):∃a xs,v= .ref a/\qA K H a (.str (Pt.wd p)::xs)/\xs.length<=1000/\qR K H ((Pt.parts p).map Pt.dt) (behind (zO (Pt.wd p)) xs "part")/\behind (zO (Pt.wd p)) xs "name"=(Pt.names p).map V.str:=by
 by_cases hpl:Pt.plain p=true
 ·obtain⟨a,xs,rfl,h1,h2,h3⟩:=uA hpl h
  refine⟨a,xs,rfl,h1,h2,h3,?_⟩
  cases p with
  |num n=>rw[show zO (Pt.wd (.num n))=[]from aZ];rfl
  |tru n=>rw[show zO (Pt.wd (.tru n))=[]from aJ];rfl
  |one o p=>rw[show zO (Pt.wd (.one o p))=_ from qC8 o];unfold behind;cases xs<;>simp[cL,Pt.names]
  |two o p q=>
   rw[show zO (Pt.wd (.two o p q))=_ from qC9 o];unfold behind
   match xs with
   |[]=>simp[Pt.names]
   |[_]=>simp[cL,Pt.names]
   |_::_::_=>simp[cL,Pt.names]
  |ite p q r=>
   rw[show zO (Pt.wd (.ite p q r))=_ from qCq];unfold behind
   match xs with
   |[]=>simp[Pt.names]
   |[_]=>simp[cL,Pt.names]
   |[_,_]=>simp[cL,Pt.names]
   |_::_::_::_=>simp[cL,Pt.names]
  |nam _=>cases hp
  |nil _=>simp[Pt.plain]at hpl
  |let_ _ _ _=>simp[Pt.plain]at hpl
  |fn _ _ _=>simp[Pt.plain]at hpl
  |rc _ _ _ _ _=>simp[Pt.plain]at hpl
 ·cases p with
  |num _=>exact absurd rfl hpl
  |tru _=>exact absurd rfl hpl
  |one _ _=>exact absurd rfl hpl
  |two _ _ _=>exact absurd rfl hpl
  |ite _ _ _=>exact absurd rfl hpl
  |nam _=>cases hp
  |nil k=>
   obtain⟨a,u,rfl,hs,h1⟩:=jB h
   refine⟨a,_,rfl,hs,by simp,?_,?_⟩<;>rw[show zO (Pt.wd (.nil k))=_ from qD4]
   ·rw[show behind (["kind"]:List Str) [u] "part"=[] by unfold behind;simp[qD6]];exact zX
   ·unfold behind;simp[qD7,Pt.names]
  |let_ x p q=>
   obtain⟨a,u,y,z,rfl,hs,hx,h1,h2⟩:=xE h
   cases zR hx
   refine⟨a,_,rfl,hs,by simp,?_,?_⟩<;>rw[show zO (Pt.wd (.let_ x p q))=_ from qD2]
   ·rw[show behind (["name","part","part"]:List Str) [.str x,y,z] "part"=[y,z] by unfold behind;simp[qD5]];exact qB h1 (qB h2 zX)
   ·unfold behind;simp[cL,Pt.names]
  |fn x k p=>
   obtain⟨a,u,y,z,rfl,hs,hx,h1,h2⟩:=xE h
   cases zR hx
   refine⟨a,_,rfl,hs,by simp,?_,?_⟩<;>rw[show zO (Pt.wd (.fn x k p))=_ from qEj]
   ·rw[show behind (["name","kind","part"]:List Str) [.str x,y,z] "part"=[z] by unfold behind;simp[qD5,qD6]];exact qB h2 zX
   ·unfold behind;simp[cL,qD7,Pt.names]
  |rc g x k l p=>
   obtain⟨a,u,y,z,z2,z3,rfl,hs,hg,hx,h1,h2,h3⟩:=iO h
   cases zR hx
   cases zR hg
   refine⟨a,_,rfl,hs,by simp,?_,?_⟩<;>rw[show zO (Pt.wd (.rc g x k l p))=_ from qD3]
   ·rw[show behind (["name","name","kind","kind","part"]:List Str) [.str g,.str x,z,z2,z3] "part"=[z3] by unfold behind;simp[qD5,qD6]];exact qB h3 zX
   ·unfold behind;simp[cL,qD7,Pt.names]
end
theorem iM:∀{kvs:List (Key×V)},(∀kv∈kvs,∃x,kv.1=Sum.inr x)->∃ks:List Str,kvs.map (fun p=>kV p.1)=ks.map V.str/\ks.length=kvs.length/\∀x,x∈ks↔(jD kvs (Sum.inr x:Key)).isSome=true
 |[],_=>⟨[],rfl,rfl,fun x=>by simp[lB]⟩
 |kv::r,h=>by
  obtain⟨ks,e1,e2,e3⟩:=iM (kvs:=r) fun z hz=>h z (aq10 _ hz)
  obtain⟨y,hy⟩:=h kv aq22
  refine⟨y::ks,?_,by simp[e2],fun x=>?_⟩
  ·rw[List.map_cons,List.map_cons,e1,hy];rfl
  ·by_cases z:x=y
   ·subst z
    rw[jP hy];simp
   ·rw[jR (by rw[hy];exact fun q=>z (Sum.inr.inj q).symm),<-e3 x]
    simp[z]
theorem aV{kvs:List (Key×V)}{x:Str}{u:V}(h:∀kv∈kvs,∃x,kv.1=Sum.inr x):∀kv∈kK kvs (Sum.inr x:Key) u,∃x,kv.1=Sum.inr x:=by
 intro kv hkv
 unfold kK at hkv
 split at hkv
 ·obtain⟨p,hp,rfl⟩:=List.mem_map.mp hkv
  split
  ·exact h p hp
  ·exact h p hp
 ·rcases List.mem_append.mp hkv with z|z
  ·exact h kv z
  ·rw[aq20.mp z];exact⟨x,rfl⟩
def Fnd(p:Pt)(i:Nat)(x:Str):Prop:=∃(j:Nat)(q:Pt),j<i/\(Pt.parts p)[j]? =some q/\q.fv x/\(j+1<(Pt.parts p).length\/x∉Pt.names p)
section
variable {P:Program} {w:World} {K:Fg} {mg:Str->Option Value} {base:Heap} {f:Addr} {fd:FuncData}
inductive qCj(K:Fg)(n:Nat)(vs:List V)(H:Hp)(Q:VK):Prop
 |mk (v:V) (p:Pt) (a_0:vs=[v]) (a_1:qU K H p.dt v) (a_2:p.deep<n) (a_3:p.sz<=50000) (a_4:∀l(xs:List Str)H',Grow H H'->H l=none->H' l=some (.lst (xs.map V.str))->xs.length<=p.sz->(∀x,x∈xs↔p.fv x)->Q (.ref l) H'):qCj K n vs H Q
def pT(K:Fg)(n:Nat):Sp:=fun vs H Q x_0=>qCj K n vs H Q
structure GlO(mg:Str->Option Value):Prop where
 enumerate:mg "enumerate"=none
 len:mg "len"=none
 list:mg "list"=none
theorem gU:zQ ["part","found","bound","parts","place","inner","name"] ["part"] (qL sON):=by walk_at "s"
theorem qD9(F:zB K "outside_names" "outside_names" sON .none f fd):zC P w K mg base (CXE P w) (0+2) f fd ["part"] (pT K 0):=by
 refine F.ok0 gU (by walk_at "l") ?_
 walk_at "i"
 obtain⟨v,p,rfl,_,hd,_⟩:=h
 exact absurd hd (Nat.not_lt_zero _)
theorem zQ0{n:Nat}(F:zB K "outside_names" "outside_names" sON .none f fd)(G:GlO mg)(GV:Kn P w K mg base 1 "values_behind" ["part","sort"] (gZ K))(GB:Kn P w K mg base 2 "names_bound" ["part"] (tL K))(GO:Kn P w K mg base (n+2) "outside_names" ["part"] (pT K n)):zC P w K mg base (CXE P w) (n+1+2) f fd ["part"] (pT K (n+1)):=by
 refine F.ok0 (k:=n+2) gU (fun vs H Q E h=>?_) (fun cdv A outer s H vs Q E hr h=>?_)
 ·obtain⟨v,p,rfl,_⟩:=h
  rfl
 ·obtain⟨v,p,rfl,hp,hd,hz,q⟩:=h
  refine⟨_,qK (zK (qM zG (qO qN (pv 0) qX) qV (nomark _)) (qY (qG (qT (qQ (qO qN (pv 0) qX) qJ)))) qD)
   (qK (qH (i:=1) gU.nd rfl oI wF)
   (qK (qH (i:=2) gU.nd rfl oI (zI GB (hr.mono (by omega)) (qQ (pv 0) qJ)))
   (qK (qH (i:=3) gU.nd rfl oI (zI GV (hr.mono (by omega)) (qQ (pv 0) (qQ qV qJ))))
   (qK (vE PassesOwn.never rfl (tJ (by rfl) G.enumerate (qQ (pv 3) qJ)) (uY rfl (xJ (jU (i:=4) gU.nd rfl oI) (xJ (jU (i:=5) gU.nd rfl oI) wO)))
    (qY (vE PassesOwn.never rfl (vM (zI GO hr (qQ (pv 5) qJ))) (jU (i:=6) gU.nd rfl oI)
     (qY (zK (cA (qM qS8 (pv 4) (zW zP (by rfl) G.len aq27 (qQ (pv 3) qJ)) (nomark _)) (uV (qM wM (pv 6) (pv 2) rfl))).pt
      (qY (cX (Nat.lt_of_succ_lt hr.u2) (pv 1) (pv 6) kC rfl)) qD)))))
   (qY (qG (zD (nO rfl) (by rfl) G.list PyProof.Rows.boot_list (qQ (pv 1) qJ)))))))),?_⟩
  by_cases hna:yZ p=true
  ·cases p with
   |nam x=>
    obtain⟨a,u,rfl,ha,hx⟩:=jB hp
    cases zR hx
    refine⟨_,rfl,a,_,_,.str "name",rfl,rfl,ha,qW (j:=0) rfl,rfl,_,rfl,ite2 (fun _=>?_) (fun h=>absurd (by decide+kernel) h)⟩
    refine⟨_,rfl,a,_,_,.str x,rfl,rfl,ha,qW (j:=1) rfl,zl1,fun l hl=>?_⟩
    exact q l [x] _ (Grow.put hl) hl qZ (by simp[Pt.sz]) (fun y=>by simp[Pt.fv])
   |_=>cases hna
  ·have hna':yZ p=false:=by simpa using hna
   obtain⟨a,ws,rfl,ha,hws,hbe,hbn⟩:=oQ hna' hp
   have w1:=qD8 hna'
   obtain⟨hsz,hdp⟩:=pR hna'
   refine⟨_,rfl,a,_,_,.str (Pt.wd p),rfl,rfl,ha,qW (j:=0) rfl,rfl,_,rfl,?_⟩
   rw[w1]
   refine jQ ?_
   intro d hd1
   walk_at "d"
   have g1:Grow H (upd H d (.dK [])):=Grow.put hd1
   have e1:(upd H d (.dK [])) d=some (.dK []):=qZ
   generalize upd H d (.dK [])=H1 at g1 e1⊢
   refine⟨_,rfl,a,Pt.wd p,ws,rfl,qA.mono g1.same ha,hws,fun b H2 g2 n2 e2=>?_⟩
   rw[hbn]at e2
   walk_at "d"
   have g12:=g1.trans g2
   refine⟨_,rfl,a,"part",Pt.wd p,ws,rfl,qA.mono g12.same ha,hws,fun l0 H3 g3 n3 e3=>?_⟩
   walk_at "d"
   have g13:=g12.trans g3
   have hbe3:=hbe.mono g13.same
   generalize behind (zO (Pt.wd p)) ws "part"=zs at e3 hbe3
   have e2':=g3.same _ _ e2
   have e1':=(g2.trans g3).same _ _ e1
   have bd:b≠d:=fun z=>by rw[z,e1]at n2;cases n2
   have ld:l0≠d:=fun z=>by rw[z,g2.same _ _ e1]at n3;cases n3
   have hlen:zs.length=(Pt.parts p).length:=by rw[hbe3.length,aq16]
   refine⟨_,rfl,l0,rfl,⟨_,zV.of e3⟩,?_⟩
   refine pF (K:=K) (l:=l0) (xs:=zs) (fun i σ H4=>∃o4 o5 o6 kvs,σ=[some (.ref a),some (.ref d),some (.ref b),some (.ref l0),o4,o5,o6]/\Grow H H4/\H4 b=some (.lst ((Pt.names p).map V.str))/\H4 l0=some (.lst zs)/\qR K H4 ((Pt.parts p).map Pt.dt) zs/\H4 d=some (.dK kvs)/\kvs.length<=szs ((Pt.parts p).take i)/\
    (∀kv∈kvs,∃x,kv.1=Sum.inr x)/\∀x,(jD kvs (Sum.inr x:Key)).isSome=true↔Fnd p i x) ?_ ?_ ?_ ?_
   ·refine⟨_,_,_,[],rfl,g13,e2',e3,hbe3,e1',(by simp),(by simp),fun x=>?_⟩
    rw[lB]
    constructor
    ·intro h;cases h
    ·rintro⟨j,_,hj,_⟩;exact absurd hj (Nat.not_lt_zero _)
   ·rintro i σ H4 _ ⟨o4,o5,o6,kvs,rfl,_,_,h,_⟩
    exact zV.of h
   ·rintro i y T σ H4 hy ⟨o4,o5,o6,kvs,rfl,g4,eb,el,hds,ed,hkl,hks,hkv⟩ hT
    obtain⟨pi,hpi⟩:∃pi,(Pt.parts p)[i]? =some pi:=by
     have :i<zs.length:=by
      rcases Nat.lt_or_ge i zs.length with h|h
      ·exact h
      ·rw[List.getElem?_eq_none h]at hy;cases hy
     exact⟨_,aq15 (by omega)⟩
    obtain⟨y',hy',hyd⟩:=hds.get (i:=i) (d:=pi.dt) (by rw[aq19,hpi];rfl)
    rw[hy]at hy'
    cases hy'
    have hst:=yQ _ _ _ hpi
    have hsl:=cC (Pt.parts p) (i+1)
    have hdi:=hdp pi (aq23 hpi)
    have g5:Grow H4 (upd H4 T (.tup [.int (i+1:Nat),y])):=Grow.put hT
    refine⟨T,_,rfl,qA.of qZ,rfl,_,_,rfl,_,_,rfl,rfl,?_⟩
    walk_at "d"
    have eb5:=g5.same _ _ eb
    have el5:=g5.same _ _ el
    have ed5:=g5.same _ _ ed
    have hds5:=hds.mono g5.same
    have hyd5:=hyd.mono g5.same
    generalize upd H4 T (.tup [.int (i+1:Nat),y])=H5 at g5 eb5 el5 ed5 hds5 hyd5⊢
    refine⟨_,rfl,y,pi,rfl,hyd5,by omega,by omega,fun m xs H6 g6 n6 e6 hxl hxs=>?_⟩
    have g06:=(g4.trans g5).trans g6
    have eb6:=g6.same _ _ eb5
    have el6:=g6.same _ _ el5
    have ed6:=g6.same _ _ ed5
    have md:m≠d:=fun z=>by rw[z,ed5]at n6;cases n6
    refine⟨m,rfl,⟨_,zV.of e6⟩,?_⟩
    refine lZ (K:=K) (a:=m) (xs:=xs.map V.str) (fun k σ H7=>∃o6 kv2,σ=[some (.ref a),some (.ref d),some (.ref b),some (.ref l0),some (.int (i+1:Nat)),some y,o6]/\Grow H H7/\H7 b=some (.lst ((Pt.names p).map V.str))/\H7 l0=some (.lst zs)/\qR K H7 ((Pt.parts p).map Pt.dt) zs/\H7 m=some (.lst (xs.map V.str))/\H7 d=some (.dK kv2)/\kv2.length<=kvs.length+k/\
     (∀kv∈kv2,∃x,kv.1=Sum.inr x)/\∀x,(jD kv2 (Sum.inr x:Key)).isSome=true↔(Fnd p i x\/(x∈xs.take k/\(i+1<(Pt.parts p).length\/x∉Pt.names p)))) ?_ ?_ ?_ ?_
    ·exact⟨_,kvs,rfl,g06,eb6,el6,hds5.mono g6.same,e6,ed6,by omega,hks,fun x=>by rw[hkv];simp⟩
    ·rintro k σ H7 _ ⟨o6,kv2,rfl,_,_,_,_,h,_⟩
     exact zV.of h
    ·rintro k z σ H7 hz' ⟨o6,kv2,rfl,g7,eb7,el7,hds7,em7,ed7,hkl7,hks7,hkv7⟩
     rw[aq19]at hz'
     obtain⟨x,hx,rfl⟩:=Option.map_eq_some_iff.mp hz'
     walk_at "d"
     have hk1:k<xs.length:=(List.getElem?_eq_some_iff.mp hx).1
     have tk:∀y,y∈xs.take (k+1)↔y∈xs.take k\/y=x:=fun y=>by rw[List.take_add_one,hx];simp
     have fin:∀(kv3:List (Key×V)),((i+1<(Pt.parts p).length\/x∉Pt.names p)->kv3=kK kv2 (Sum.inr x:Key) (.bl true))->(¬(i+1<(Pt.parts p).length\/x∉Pt.names p)->kv3=kv2)->kv3.length<=kvs.length+(k+1)/\(∀kv∈kv3,∃x,kv.1=Sum.inr x)/\∀y,(jD kv3 (Sum.inr y:Key)).isSome=true↔(Fnd p i y\/(y∈xs.take (k+1)/\(i+1<(Pt.parts p).length\/y∉Pt.names p))):=by
      intro kv3 h1 h2
      by_cases hc:i+1<(Pt.parts p).length\/x∉Pt.names p
      ·rw[h1 hc]
       refine⟨by have :=jE kv2 (Sum.inr x:Key) (.bl true);omega,aV hks7,fun y=>?_⟩
       rw[vK,tk]
       by_cases z:y=x
       ·subst z;simp[hc]
       ·rw[if_neg (fun h=>z (Sum.inr.inj h)),hkv7];simp[z]
      ·rw[h2 hc]
       refine⟨by omega,hks7,fun y=>?_⟩
       rw[hkv7,tk]
       by_cases z:y=x
       ·subst z;simp[hc]
       ·simp[z]
     refine⟨_,rfl,_,rfl,l0,zs,rfl,.inl (zV.of el7),_,_,rfl,rfl,_,rfl,?_⟩
     have put:∀(hc:i+1<(Pt.parts p).length\/x∉Pt.names p),qI1 (xG 1) (xG 6) (tC (.bl true)) {nx:=fun σ H7=>∃o6 kv2,σ=[some (.ref a),some (.ref d),some (.ref b),some (.ref l0),some (.int (i+1:Nat)),some y,o6]/\Grow H H7/\H7 b=some (.lst ((Pt.names p).map V.str))/\H7 l0=some (.lst zs)/\qR K H7 ((Pt.parts p).map Pt.dt) zs/\H7 m=some (.lst (xs.map V.str))/\H7 d=some (.dK kv2)/\kv2.length<=kvs.length+(k+1)/\
       (∀kv∈kv2,∃x,kv.1=Sum.inr x)/\∀x,(jD kv2 (Sum.inr x:Key)).isSome=true↔(Fnd p i x\/(x∈xs.take (k+1)/\(i+1<(Pt.parts p).length\/x∉Pt.names p))),rt:=Q} [some (.ref a),some (.ref d),some (.ref b),some (.ref l0),some (.int (i+1:Nat)),some y,some (.str x)] H7:=by
      intro hc
      obtain⟨f1,f2,f3⟩:=fin _ (fun _=>rfl) (fun h=>absurd hc h)
      refine⟨_,rfl,_,rfl,d,_,rfl,DPut.k (k:=Sum.inr x) ed7 (by rw[sizeLine_eq];omega),?_⟩
      have kt:kY K H7 (upd H7 d (.dK (kK kv2 (Sum.inr x:Key) (.bl true)))):=fun c us hc'=>by
       rcases hc' with(hc'|⟨o,hc'⟩)|hc'
       ·exact .inl (.inl ((qC (vP hc' ed7 (by intro z;cases z))).trans hc'))
       ·exact .inl (.inr ⟨o,(qC (vP hc' ed7 (by intro z;cases z))).trans hc'⟩)
       ·exact .inr hc'
      exact⟨_,_,rfl,g7.set hd1,(qC bd).trans eb7,(qC ld).trans el7,hds7.monoT kt,(qC md).trans em7,qZ,f1,f2,f3⟩
     by_cases hc1:i+1<(Pt.parts p).length
     ·rw[decide_eq_true (show((i+1:Nat):Int)<(zs.length:Int) by omega)]
      exact jO (jO (put (.inl hc1)))
     ·rw[decide_eq_false (show¬((i+1:Nat):Int)<(zs.length:Int) by omega)]
      refine jQ ⟨_,rfl,_,rfl,b,_,rfl,.inl (zV.of eb7),rfl,pS _,_,rfl,?_⟩
      rw[if_pos rfl,gY]
      by_cases hc2:x∈Pt.names p
      ·rw[decide_eq_true hc2]
       obtain⟨f1,f2,f3⟩:=fin kv2 (fun h=>h.elim (fun z=>absurd z hc1) (fun z=>absurd hc2 z)) (fun _=>rfl)
       exact jQ ⟨_,kv2,rfl,g7,eb7,el7,hds7,em7,ed7,f1,f2,f3⟩
      ·rw[decide_eq_false hc2]
       exact jO (put (.inr hc2))
    ·rintro σ H7 ⟨o6,kv2,rfl,g7,eb7,el7,hds7,em7,ed7,hkl7,hks7,hkv7⟩
     refine⟨_,_,_,kv2,rfl,g7,eb7,el7,hds7,ed7,?_,hks7,fun x=>?_⟩
     ·rw[aq16]at hkl7;omega
     ·rw[hkv7,aq16,List.take_of_length_le (aq7 _),hxs]
      constructor
      ·rintro(⟨j,r,h1,h2,h3,h4⟩|⟨h1,h2⟩)
       ·exact⟨j,r,by omega,h2,h3,h4⟩
       ·exact⟨i,pi,by omega,hpi,h1,h2⟩
      ·rintro⟨j,r,h1,h2,h3,h4⟩
       by_cases hj:j<i
       ·exact .inl ⟨j,r,hj,h2,h3,h4⟩
       ·have :j=i:=by omega
        subst this
        rw[hpi]at h2;cases h2
        exact .inr ⟨h3,h4⟩
   ·rintro σ H4 ⟨o4,o5,o6,kvs,rfl,g4,eb,el,hds,ed,hkl,hks,hkv⟩
    obtain⟨ks,k1,k2,k3⟩:=iM hks
    refine⟨_,rfl,d,kvs,rfl,ed,fun l hl=>?_⟩
    rw[k1]
    have gl:Grow H4 (upd H4 l (.lst (ks.map V.str))):=Grow.put hl
    refine q l ks _ (g4.trans gl) (g4.none _ hl) qZ ?_ (fun x=>?_)
    ·rw[hlen,List.take_of_length_le (aq7 _)]at hkl;omega
    ·rw[k3,hkv,uE hna',hlen]
     constructor
     ·rintro⟨j,r,h1,h2,h3,h4⟩;exact⟨j,r,h2,h3,h4⟩
     ·rintro⟨j,r,h2,h3,h4⟩;exact⟨j,r,(List.getElem?_eq_some_iff.mp h2).1,h2,h3,h4⟩
end
abbrev aW:Stmt:=top 39
abbrev qW8:Stmt:=top 40
abbrev cG:Stmt:=top 41
abbrev aY:Stmt:=top 42
abbrev qW9:Stmt:=top 43
abbrev dU:Stmt:=top 44
abbrev gO:Stmt:=top 46
abbrev qDq:Stmt:=top 47
abbrev oZ:Stmt:=top 48
section
variable {P:Program} {w:World} {K:Fg} {mg:Str->Option Value} {base:Heap} {f:Addr} {fd:FuncData}
def yL(H:Hp)(sl:Addr)(p:Pt):Prop:=∃kvs,H sl=some (.dK kvs)/\kvs.length+2*p.deep<=200000/\∀x,p.fv x->(jD kvs (Sum.inr x:Key)).isSome=true
theorem yL.mono{H H':Hp}{sl:Addr}{p:Pt}(h:yL H sl p)(g:Grow H H'):yL H' sl p:=let⟨kvs,a,b,c⟩:=h;⟨kvs,g.same _ _ a,b,c⟩
theorem yL.sub{H:Hp}{sl:Addr}{p q:Pt}(h:yL H sl p)(d:q.deep<=p.deep)(f:∀x,q.fv x->p.fv x):yL H sl q:=let⟨kvs,a,b,c⟩:=h;⟨kvs,a,by omega,fun x hx=>c x (f x hx)⟩
abbrev ps4:List Str:=["part","slots","height","last"]
inductive qL0(K:Fg)(B:Pt->Prop)(vs:List V)(H:Hp)(Q:VK):Prop
 |mk (v:V) (sl:Addr) (h:Int) (b:Bool) (p:Pt) (a_0:vs=[v,.ref sl,.int h,.bl b]) (a_1:qU K H p.dt v) (a_2:B p) (a_3:p.sz<=50000) (a_4:yL H sl p) (a_5:∀l ys H',Grow H H'->H l=none->H' l=some (.lst ys)->ys.length+4<=6*p.sz->Q (.ref l) H'):qL0 K B vs H Q
def nB(K:Fg)(B:Pt->Prop):Sp:=fun vs H Q x_0=>qL0 K B vs H Q
def vI(K:Fg)(n:Nat):Sp:=nB K fun p=>p.deep<n
inductive aU(K:Fg)(n:Nat)(vs:List V)(H:Hp)(Q:VK):Prop
 |mk (v:V) (sl:Addr) (h:Int) (p:Pt) (a_0:vs=[v,.ref sl,.int h]) (a_1:qU K H p.dt v) (a_2:Pt.plain p=true) (a_3:p.deep<n+1) (a_4:p.sz<=50000) (a_5:yL H sl p) (a_6:∀l ys H',Grow H H'->H l=none->H' l=some (.lst ys)->ys.length<=6*szs (Pt.parts p)->Q (.ref l) H'):aU K n vs H Q
def dI(K:Fg)(n:Nat):Sp:=fun vs H Q x_0=>aU K n vs H Q
theorem aO{p q:Pt}(hp:Pt.plain p=true)(hq:q∈Pt.parts p):∀x,q.fv x->p.fv x:=by
 intro x hx
 have hn:yZ p=false:=by cases p<;>first|rfl|simp[Pt.plain]at hp
 obtain⟨i,hi,e⟩:=List.getElem_of_mem hq
 refine(uE hn x).mpr ⟨i,q,by rw[aq15 hi,e],hx,.inr ?_⟩
 cases p<;>first|(simp[Pt.names];done)|(simp[Pt.plain]at hp;done)
theorem dC:zQ ["part","slots","height","code","count","inner"] ["part","slots","height"] (qL qW8):=by walk_at "s"
theorem qDz{n:Nat}(F:zB K "operands_code" "operands_code" qW8 .none f fd)(zE:mg "enumerate"=none)(GV:Kn P w K mg base 1 "values_behind" ["part","sort"] (gZ K))(GC:Kn P w K mg base (3*n+4) "code_of" ps4 (vI K n)):zC P w K mg base (CXE P w) (3*n+5) f fd ["part","slots","height"] (dI K n):=by
 refine F.ok0 dC (by walk_at "l") ?_
 walk_at "i"
 obtain⟨v,sl,h0,p,rfl,hp,hpl,hd,hz,hs,q⟩:=h
 refine⟨_,qK (qH (i:=3) dC.nd rfl oI (qT qJ))
  (qK (vE PassesOwn.never rfl (bD (by rfl) zE (qQ (zI GV (hr.mono (by omega)) (qQ (pv 0) (qQ qV qJ))) qJ))
   (uY rfl (xJ (jU (i:=4) dC.nd rfl oI) (xJ (jU (i:=5) dC.nd rfl oI) wO)))
   (qY (jK (yB aq0 PySem.F.slot_list_extend PySem.F.type_list_extend pV (pv 3) (qQ (zI GC hr (qQ (pv 5) (qQ (pv 1) (qQ (qI jJ (pv 2) (pv 4)) (qQ kC qJ))))) qJ)))))
  (qY (qG (pv 3)))),?_⟩
 obtain⟨a,ws,rfl,ha,hws,hbe⟩:=uA hpl hp
 obtain⟨hsz,hdp⟩:=xD hpl
 refine⟨zl0,fun l hl=>?_⟩
 walk_at "d"
 have g1:Grow H (upd H l (.lst [])):=Grow.put hl
 have e1:(upd H l (.lst [])) l=some (.lst []):=qZ
 generalize upd H l (.lst [])=H1 at g1 e1⊢
 refine⟨_,rfl,a,"part",Pt.wd p,ws,rfl,qA.mono g1.same ha,hws,fun o H2 g2 n2 e2=>?_⟩
 have g12:=g1.trans g2
 have hbe2:=hbe.mono g12.same
 generalize behind (zO (Pt.wd p)) ws "part"=zs at e2 hbe2
 have lo:o≠l:=fun z=>by rw[z,e1]at n2;cases n2
 have hlen:zs.length=(Pt.parts p).length:=by rw[hbe2.length,aq16]
 refine⟨o,rfl,⟨_,zV.of e2⟩,?_⟩
 refine lA (K:=K) (l:=o) (xs:=zs) (fun i σ H3=>∃o4 o5 ys,σ=[some (.ref a),some (.ref sl),some (.int h0),some (.ref l),o4,o5]/\Grow H H3/\H3 o=some (.lst zs)/\qR K H3 ((Pt.parts p).map Pt.dt) zs/\H3 l=some (.lst ys)/\ys.length<=6*szs ((Pt.parts p).take i)) ?_ ?_ ?_ ?_
 ·exact⟨_,_,[],rfl,g12,e2,hbe2,g2.same _ _ e1,by simp⟩
 ·rintro i σ H3 _ ⟨o4,o5,ys,rfl,_,h,_⟩
  exact zV.of h
 ·rintro i y T σ H3 hy ⟨o4,o5,ys,rfl,g3,eo,hds,el,hyl⟩ hT
  obtain⟨pi,hpi⟩:∃pi,(Pt.parts p)[i]? =some pi:=by
   have :i<zs.length:=by
    rcases Nat.lt_or_ge i zs.length with h|h
    ·exact h
    ·rw[List.getElem?_eq_none h]at hy;cases hy
   exact⟨_,aq15 (by omega)⟩
  obtain⟨y',hy',hyd⟩:=hds.get (i:=i) (d:=pi.dt) (by rw[aq19,hpi];rfl)
  rw[hy]at hy'
  cases hy'
  have hst:=yQ _ _ _ hpi
  have hsl:=cC (Pt.parts p) (i+1)
  have hmem:=aq23 hpi
  have hdi:=hdp pi hmem
  have g4:Grow H3 (upd H3 T (.tup [.int i,y])):=Grow.put hT
  refine⟨T,_,rfl,qA.of qZ,rfl,_,_,rfl,_,_,rfl,rfl,?_⟩
  walk_at "d"
  have el4:=g4.same _ _ el
  have eo4:=g4.same _ _ eo
  have hds4:=hds.mono g4.same
  have hyd4:=hyd.mono g4.same
  generalize upd H3 T (.tup [.int i,y])=H4 at g4 el4 eo4 hds4 hyd4⊢
  have g04:=g3.trans g4
  refine⟨_,rfl,.inl ⟨rfl,_,zV.of el4⟩,_,rfl,_,rfl,_,rfl,_,rfl,_,_,rfl,rfl,y,sl,_,false,pi,rfl,hyd4,by omega,by omega,(hs.mono g04).sub (by omega) (aO hpl hmem),fun l' ys' H5 g5 n5 e5 hl5=>?_⟩
  have el5:=g5.same _ _ el4
  refine⟨l,l',ys,ys',rfl,rfl,el5,e5,by rw[sizeLine_eq];omega,?_⟩
  have kt:kY K H5 (upd H5 l (.lst (ys++ys'))):=zF.tups ((zF.refl l H5).set el5) el5
  refine⟨_,_,ys++ys',rfl,(g04.trans g5).set hl,(qC lo).trans (g5.same _ _ eo4),(hds4.mono g5.same).monoT kt,qZ,?_⟩
  rw[List.length_append];omega
 ·rintro σ H3 ⟨o4,o5,ys,rfl,g3,eo,hds,el,hyl⟩
  rw[hlen,List.take_of_length_le (aq7 _)]at hyl
  exact⟨_,rfl,q l ys H3 g3 hl el hyl⟩
def dG(n:Nat)(p:Pt):Prop:=p.deep<n+1/\∃q r,p= .two .call q r
theorem dM:zQ ["part","slots","height","last","order"] ps4 (qL cG):=by walk_at "s"
theorem aI{n:Nat}(F:zB K "call_code" "call_code" cG .none f fd)(GO:Kn P w K mg base (3*n+5) "operands_code" ["part","slots","height"] (dI K n)):zC P w K mg base (CXE P w) (3*n+6) f fd ps4 (nB K (dG n)):=by
 refine F.ok0 dM (by walk_at "l") ?_
 walk_at "i"
 obtain⟨v,sl,h0,b,p,rfl,hp,⟨hd,q1,q2,rfl⟩,hz,hs,q⟩:=h
 refine⟨_,qK (qH (i:=4) dM.nd rfl oI (wU (xW (pv 3)) (qF (qQ qV qJ)) (qF (qQ qV qJ))))
  (qY (qG (qI jF (zI GO hr (qQ (pv 0) (qQ (pv 1) (qQ (pv 2) qJ)))) (qT (qQ (pv 4) qJ))))),?_⟩
 have rest:∀(H1:Hp)(c:V),Grow H H1->rM (pZ iA (uI (dI K n) [] E0 (jL (xG 0) (jL (xG 1) (jL (xG 2) wI)))) (qJq (jL (xG 4) wI))) {nx:=fun _ H'=>Q .non H',rt:=Q} [some v,some (.ref sl),some (.int h0),some (.bl b),some c] H1:=by
  intro H1 c g1
  refine⟨_,rfl,_,rfl,_,rfl,v,sl,h0,_,rfl,hp.mono g1.same,rfl,hd,hz,hs.mono g1,fun l ys H2 g2 n2 e2 hl2=>?_⟩
  refine⟨_,rfl,zl1,fun l3 hl3=>?_⟩
  have g3:Grow H2 (upd H2 l3 (.lst [c])):=Grow.put hl3
  have e2':=g3.same _ _ e2
  have e3:(upd H2 l3 (.lst [c])) l3=some (.lst [c]):=qZ
  generalize upd H2 l3 (.lst [c])=H3 at g3 e2' e3⊢
  have g03:=(g1.trans g2).trans g3
  have hb:szs (Pt.parts (.two .call q1 q2))+1=(Pt.two .call q1 q2).sz:=(xD (p:=.two .call q1 q2) rfl).1
  refine⟨l,l3,_,_,rfl,rfl,e2',e3,by rw[sizeLine_eq];simp;omega,fun l4 hl4=>?_⟩
  exact q l4 _ _ (g03.trans (Grow.put hl4)) (g03.none _ hl4) qZ (by rw[List.length_append];simp;omega)
 refine⟨_,rfl,b,rfl,?_⟩
 cases b with
 |true=>exact jO ⟨zl1,fun c hc=>rest _ _ (Grow.put hc)⟩
 |false=>exact jQ ⟨zl1,fun c hc=>rest _ _ (Grow.put hc)⟩
def zQ1:Pt->Pt
 | .two .and p q=>.ite p q (.tru false)
 | .two .or p q=>.ite p (.tru true) q
 |p=>p
inductive IfP:Pt->Prop
 |ite {p q r}:IfP (.ite p q r)
 |and {p q}:IfP (.two .and p q)
 |or {p q}:IfP (.two .or p q)
theorem aC{p:Pt}(h:IfP p):∃a b c,zQ1 p= .ite a b c/\a.deep<p.deep/\(b.deep<p.deep\/b.deep=0)/\(c.deep<p.deep\/c.deep=0)/\a.sz+b.sz+c.sz<=p.sz/\(∀x,a.fv x->p.fv x)/\(∀x,b.fv x->p.fv x)/\∀x,c.fv x->p.fv x:=by
 cases h with
 | @ite p q r=>exact⟨p,q,r,rfl,by simp[Pt.deep];omega,.inl (by simp[Pt.deep];omega),.inl (by simp[Pt.deep];omega),by simp only[Pt.sz];omega,fun x h=>.inl h,fun x h=>.inr (.inl h),fun x h=>.inr (.inr h)⟩
 | @and p q=>exact⟨p,q,.tru false,rfl,by simp[Pt.deep];omega,.inl (by simp[Pt.deep];omega),.inr rfl,by simp[Pt.sz],fun x h=>.inl h,fun x h=>.inr h,fun x h=>h.elim⟩
 | @or p q=>exact⟨p,.tru true,q,rfl,by simp[Pt.deep];omega,.inr rfl,.inl (by simp[Pt.deep];omega),by simp[Pt.sz];omega,fun x h=>.inl h,fun x h=>h.elim,fun x h=>.inr h⟩
inductive qL1(K:Fg)(vs:List V)(H:Hp)(Q:VK):Prop
 |mk (v:V) (p:Pt) (a_0:vs=[v]) (a_1:qU K H p.dt v) (a_2:IfP p) (a_3:∀v' H',Grow H H'->qU K H' (zQ1 p).dt v'->Q v' H'):qL1 K vs H Q
def qF0(K:Fg):Sp:=fun vs H Q x_0=>qL1 K vs H Q
theorem zV4:zQ ["part"] ["part"] (qL aY):=by walk_at "s"
theorem zQ2(F:zB K "as_if" "as_if" aY .none f fd):zC P w K mg base (CXE P w) 1 f fd ["part"] (qF0 K):=by
 refine F.ok0 zV4 (by walk_at "l") ?_
 walk_at "i"
 obtain⟨v,p,rfl,hp,hi,q⟩:=h
 refine⟨_,qK (zK (qM zG (qO qN (pv 0) qX) qV (nomark _)) (qY (qG (qF (qQ qV (qQ (qO qN (pv 0) qX) (qQ (qO qN (pv 0) qX) (qQ (qF (qQ qV (qQ kC qJ))) qJ))))))) qD)
  (qK (zK (qM zG (qO qN (pv 0) qX) qV (nomark _)) (qY (qG (qF (qQ qV (qQ (qO qN (pv 0) qX) (qQ (qF (qQ qV (qQ kC qJ))) (qQ (qO qN (pv 0) qX) qJ))))))) qD)
  (qY (qG (pv 0)))),?_⟩
 cases hi with
 | @ite p1 p2 p3=>
  obtain⟨a,x,y,z,rfl,ha,hx,hy,hz⟩:=xE hp
  refine⟨_,rfl,a,_,_,.str "if",rfl,rfl,ha,qW (j:=0) rfl,rfl,_,rfl,ite2 (fun h=>absurd h (by decide+kernel)) (fun _=>?_)⟩
  refine⟨_,rfl,a,_,_,.str "if",rfl,rfl,ha,qW (j:=0) rfl,rfl,_,rfl,ite2 (fun h=>absurd h (by decide+kernel)) (fun _=>?_)⟩
  exact⟨_,rfl,q _ H (Grow.refl H) hp⟩
 | @and p1 p2=>
  obtain⟨a,x,y,rfl,ha,hx,hy⟩:=xV hp
  refine⟨_,rfl,a,_,_,.str "and",rfl,rfl,ha,qW (j:=0) rfl,rfl,_,rfl,ite2 (fun _=>?_) (fun h=>absurd (by decide+kernel) h)⟩
  refine⟨_,rfl,a,_,_,x,rfl,rfl,ha,qW (j:=1) rfl,_,rfl,a,_,_,y,rfl,rfl,ha,qW (j:=2) rfl,zl2,fun t ht=>?_⟩
  have g1:Grow H (upd H t (.tup [.str "truth",.bl false])):=Grow.put ht
  have e1:qA K (upd H t (.tup [.str "truth",.bl false])) t [.str "truth",.bl false]:=qA.of qZ
  generalize upd H t (.tup [.str "truth",.bl false])=H1 at g1 e1⊢
  refine⟨zl4,fun t2 ht2=>?_⟩
  have g2:Grow H1 (upd H1 t2 (.tup [.str "if",x,y,.ref t])):=Grow.put ht2
  have g12:=g1.trans g2
  exact q _ _ g12 (wA (qA.of qZ) (hx.mono g12.same) (hy.mono g12.same) (jG (qA.mono g2.same e1) (by rw[qU])))
 | @or p1 p2=>
  obtain⟨a,x,y,rfl,ha,hx,hy⟩:=xV hp
  refine⟨_,rfl,a,_,_,.str "or",rfl,rfl,ha,qW (j:=0) rfl,rfl,_,rfl,ite2 (fun h=>absurd h (by decide+kernel)) (fun _=>?_)⟩
  refine⟨_,rfl,a,_,_,.str "or",rfl,rfl,ha,qW (j:=0) rfl,rfl,_,rfl,ite2 (fun _=>?_) (fun h=>absurd (by decide+kernel) h)⟩
  refine⟨_,rfl,a,_,_,x,rfl,rfl,ha,qW (j:=1) rfl,zl2,fun t ht=>?_⟩
  have g1:Grow H (upd H t (.tup [.str "truth",.bl true])):=Grow.put ht
  have e1:qA K (upd H t (.tup [.str "truth",.bl true])) t [.str "truth",.bl true]:=qA.of qZ
  generalize upd H t (.tup [.str "truth",.bl true])=H1 at g1 e1⊢
  refine⟨_,rfl,a,_,_,y,rfl,rfl,qA.mono g1.same ha,qW (j:=2) rfl,zl4,fun t2 ht2=>?_⟩
  have g2:Grow H1 (upd H1 t2 (.tup [.str "if",x,.ref t,y])):=Grow.put ht2
  have g12:=g1.trans g2
  exact q _ _ g12 (wA (qA.of qZ) (hx.mono g12.same) (jG (qA.mono g2.same e1) (by rw[qU])) (hy.mono g12.same))
def aL(p:Pt):Prop:=(∃n,p= .num n)\/(∃b,p= .tru b)\/(∃x,p= .nam x)\/∃k,p= .nil k
inductive aG(K:Fg)(vs:List V)(H:Hp)(Q:VK):Prop
 |mk (v:V) (sl:Addr) (p:Pt) (a_0:vs=[v,.ref sl]) (a_1:qU K H p.dt v) (a_2:aL p) (a_3:yL H sl p) (a_4:∀l u H',Grow H H'->H l=none->H' l=some (.lst [u])->Q (.ref l) H'):aG K vs H Q
def aM(K:Fg):Sp:=fun vs H Q x_0=>aG K vs H Q
theorem qL2:zQ ["part","slots","word"] ["part","slots"] (qL qDq):=by walk_at "s"
theorem qF1(F:zB K "value_code" "value_code" qDq .none f fd)(GU:Kn P w K mg base 3 "looked_up" ["scope","name"] tM):zC P w K mg base (CXE P w) 4 f fd ["part","slots"] (aM K):=by
 refine F.ok0 qL2 (by walk_at "l") ?_
 walk_at "i"
 obtain⟨v,sl,p,rfl,hp,hv,hs,q⟩:=h
 refine⟨_,qK (qH (i:=2) qL2.nd rfl oI (qO qN (pv 0) qX))
  (qK (zK (qM zG (pv 2) qV (nomark _)) (qY (qG (qT (qQ (qF (qQ qV qJ)) qJ)))) qD)
  (qK (zK (qM zG (pv 2) qV (nomark _)) (qY (qG (qT (qQ (qF (qQ qV (qQ (zI GU hr (qQ (pv 1) (qQ (qO qN (pv 0) qX) qJ))) qJ))) qJ)))) qD)
  (qY (qG (qT (qQ (qF (qQ qV (qQ (qO qN (pv 0) qX) qJ))) qJ)))))),?_⟩
 have fin:∀(H1:Hp)(c:V),Grow H H1->∀l,H1 l=none->Q (.ref l) (upd H1 l (.lst [c])):=fun H1 c g l hl=>q l c _ (g.trans (Grow.put hl)) (g.none _ hl) qZ
 have hv':(∃(wd:Str)(a:Addr)(u:V),v= .ref a/\qA K H a [.str wd,u]/\¬V.str wd=V.str "nil"/\¬V.str wd=V.str "name")\/(∃x,p= .nam x)\/∃k,p= .nil k:=by
  rcases hv with⟨n,rfl⟩|⟨b,rfl⟩|h
  ·obtain⟨a,u,rfl,ha,hx⟩:=jB hp
   exact .inl ⟨"num",a,u,rfl,ha,by decide+kernel,by decide+kernel⟩
  ·obtain⟨a,u,rfl,ha,hx⟩:=jB hp
   exact .inl ⟨"truth",a,u,rfl,ha,by decide+kernel,by decide+kernel⟩
  ·exact .inr h
 rcases hv' with⟨wd,a,u,rfl,ha,h1,h2⟩|⟨x,rfl⟩|⟨k,rfl⟩
 ·refine⟨_,rfl,a,_,_,.str wd,rfl,rfl,ha,qW (j:=0) rfl,?_⟩
  walk_at "d"
  refine⟨_,rfl,rfl,_,rfl,ite2 (fun h=>absurd (of_decide_eq_true h) h1) (fun _=>?_)⟩
  refine⟨_,rfl,rfl,_,rfl,ite2 (fun h=>absurd (of_decide_eq_true h) h2) (fun _=>?_)⟩
  exact⟨_,rfl,a,_,_,u,rfl,rfl,ha,qW (j:=1) rfl,zl2,fun c hc=>⟨zl1,fin _ _ (Grow.put hc)⟩⟩
 ·obtain⟨a,u,rfl,ha,hx⟩:=jB hp
  cases zR hx
  obtain⟨kvs,s1,s2,s3⟩:=hs
  obtain⟨r,hr1⟩:=Option.isSome_iff_exists.mp (s3 x rfl)
  refine⟨_,rfl,a,_,_,.str "name",rfl,rfl,ha,qW (j:=0) rfl,?_⟩
  walk_at "d"
  refine⟨_,rfl,rfl,_,rfl,ite2 (fun h=>absurd h (by decide+kernel)) (fun _=>?_)⟩
  refine⟨_,rfl,rfl,_,rfl,ite2 (fun _=>?_) (fun h=>absurd (by decide+kernel) h)⟩
  exact⟨_,rfl,_,rfl,a,_,_,.str x,rfl,rfl,ha,qW (j:=1) rfl,sl,x,r,kvs,rfl,s1,hr1,zl2,fun c hc=>⟨zl1,fin _ _ (Grow.put hc)⟩⟩
 ·obtain⟨a,u,rfl,ha,hx⟩:=jB hp
  refine⟨_,rfl,a,_,_,.str "nil",rfl,rfl,ha,qW (j:=0) rfl,?_⟩
  walk_at "d"
  refine⟨_,rfl,rfl,_,rfl,ite2 (fun _=>?_) (fun h=>absurd (by decide+kernel) h)⟩
  exact⟨zl1,fun c hc=>⟨zl1,fin _ _ (Grow.put hc)⟩⟩
end
section
variable {P:Program} {w:World} {K:Fg} {mg:Str->Option Value} {base:Heap} {f:Addr} {fd:FuncData}
def qL3(n:Nat)(p:Pt):Prop:=p.deep<n+1/\0<n/\IfP p
theorem gI:zQ ["part","slots","height","last","choice","first","second","third"] ps4 (qL qW9):=by walk_at "s"
theorem qF2{n:Nat}(F:zB K "if_code" "if_code" qW9 .none f fd)(zL:mg "len"=none)(GA:Kn P w K mg base 1 "as_if" ["part"] (qF0 K))(GC:Kn P w K mg base (3*n+4) "code_of" ps4 (vI K n)):zC P w K mg base (CXE P w) (3*n+5) f fd ps4 (nB K (qL3 n)):=by
 refine F.ok0 gI (by walk_at "l") ?_
 walk_at "i"
 obtain⟨v,sl,h0,b,p,rfl,hp,⟨hd,hn,hi⟩,hz,hs,q⟩:=h
 refine⟨_,qK (qH (i:=4) gI.nd rfl oI (zI GA (hr.mono (by omega)) (qQ (pv 0) qJ)))
  (qK (qH (i:=5) gI.nd rfl oI (zI GC hr (qQ (qO qN (pv 4) qX) (qQ (pv 1) (qQ (pv 2) (qQ kC qJ))))))
  (qK (qH (i:=6) gI.nd rfl oI (zI GC hr (qQ (qO qN (pv 4) qX) (qQ (pv 1) (qQ (pv 2) (qQ (pv 3) qJ))))))
  (qK (qH (i:=7) gI.nd rfl oI (zI GC hr (qQ (qO qN (pv 4) qX) (qQ (pv 1) (qQ (pv 2) (qQ (pv 3) qJ))))))
  (qK (zK (vT (xW (pv 3))) (qY (jK (yB aq0 PySem.F.slot_list_append PySem.F.type_list_append kB (pv 6) (qQ (qF (qQ qV (qQ (zW zP (by rfl) zL aq27 (qQ (pv 7) qJ)) qJ))) qJ)))) qD)
  (qY (qG (qI jF (qI jF (qI jF (pv 5) (qT (qQ (qF (qQ qV (qQ (zW zP (by rfl) zL aq27 (qQ (pv 6) qJ)) qJ))) qJ))) (pv 6)) (pv 7)))))))),?_⟩
 refine⟨_,rfl,v,p,rfl,hp,hi,fun v' H1 g1 hv'=>?_⟩
 walk_at "d"
 obtain⟨pa,pb,pc,ei,da,db,dc,hsum,fa,fb,fc⟩:=aC hi
 rw[ei]at hv'
 obtain⟨a,x,y,z,rfl,ha,hx,hy,hz'⟩:=xE hv'
 refine⟨_,rfl,a,_,_,x,rfl,rfl,ha,qW (j:=1) rfl,_,rfl,_,rfl,x,sl,h0,false,pa,rfl,hx,by omega,by omega,(hs.mono g1).sub (by omega) fa,fun l1 ys1 H2 g2 n2 e1 hl1=>?_⟩
 walk_at "d"
 have g12:=g1.trans g2
 refine⟨_,rfl,a,_,_,y,rfl,rfl,qA.mono g2.same ha,qW (j:=2) rfl,_,rfl,_,rfl,_,rfl,y,sl,h0,b,pb,rfl,hy.mono g2.same,by omega,by omega,(hs.mono g12).sub (by omega) fb,fun l2 ys2 H3 g3 n3 e2 hl2=>?_⟩
 walk_at "d"
 have g13:=g12.trans g3
 have g23:=g2.trans g3
 refine⟨_,rfl,a,_,_,z,rfl,rfl,qA.mono g23.same ha,qW (j:=3) rfl,_,rfl,_,rfl,_,rfl,z,sl,h0,b,pc,rfl,hz'.mono g23.same,by omega,by omega,(hs.mono g13).sub (by omega) fc,fun l3 ys3 H4 g4 n4 e3 hl3=>?_⟩
 walk_at "d"
 have g14:=g13.trans g4
 have e1':=(g3.trans g4).same _ _ e1
 have e2':=g4.same _ _ e2
 have d12:l1≠l2:=fun z=>by rw[<-z,e1]at n3;cases n3
 have d32:l3≠l2:=fun z=>by rw[z,e2]at n4;cases n4
 have f2:H l2=none:=g12.none _ n3
 have rest:∀(H5:Hp)(zs:List V),Grow H H5->H5 l1=some (.lst ys1)->H5 l2=some (.lst zs)->H5 l3=some (.lst ys3)->zs.length+3<=6*pb.sz->
   rM (pZ iA (pZ iA (pZ iA (xG 5) (qJq (jL (mD (jL (tC (.str "unless")) (jL (tCB (fun xs H Q=>∃p ys,xs=[V.ref p]/\(zV K H p ys\/qA K H p ys)/\Q (.int ys.length) H) (jL (xG 6) wI)) wI))) wI))) (xG 6)) (xG 7)) {nx:=fun _ H'=>Q .non H',rt:=Q} [some v,some (.ref sl),some (.int h0),some (.bl b),some (.ref a),some (.ref l1),some (.ref l2),some (.ref l3)] H5:=by
  intro H5 zs g5 x1 x2 x3 hl
  refine⟨_,rfl,_,rfl,l2,zs,rfl,.inl (zV.of x2),zl2,fun t ht=>?_⟩
  have g6:Grow H5 (upd H5 t (.tup [.str "unless",.int zs.length])):=Grow.put ht
  have x1:=g6.same _ _ x1
  have x2:=g6.same _ _ x2
  have x3:=g6.same _ _ x3
  generalize upd H5 t (.tup [.str "unless",.int zs.length])=H6 at g6 x1 x2 x3⊢
  refine⟨zl1,fun l4 hl4=>?_⟩
  have g7:Grow H6 (upd H6 l4 (.lst [.ref t])):=Grow.put hl4
  have x4:(upd H6 l4 (.lst [.ref t])) l4=some (.lst [.ref t]):=qZ
  have x1:=g7.same _ _ x1
  have x2:=g7.same _ _ x2
  have x3:=g7.same _ _ x3
  generalize upd H6 l4 (.lst [.ref t])=H7 at g7 x1 x2 x3 x4⊢
  refine⟨l1,l4,_,_,rfl,rfl,x1,x4,by rw[sizeLine_eq];simp;omega,fun l5 hl5=>?_⟩
  have g8:Grow H7 (upd H7 l5 (.lst (ys1++[.ref t]))):=Grow.put hl5
  have x5:(upd H7 l5 (.lst (ys1++[.ref t]))) l5=some (.lst (ys1++[.ref t])):=qZ
  have x2:=g8.same _ _ x2
  have x3:=g8.same _ _ x3
  generalize upd H7 l5 (.lst (ys1++[.ref t]))=H8 at g8 x2 x3 x5⊢
  refine⟨_,rfl,l5,l2,_,_,rfl,rfl,x5,x2,by rw[sizeLine_eq];simp;omega,fun l6 hl6=>?_⟩
  have g9:Grow H8 (upd H8 l6 (.lst (ys1++[.ref t]++zs))):=Grow.put hl6
  have x6:(upd H8 l6 (.lst (ys1++[.ref t]++zs))) l6=some (.lst (ys1++[.ref t]++zs)):=qZ
  have x3:=g9.same _ _ x3
  generalize upd H8 l6 (.lst (ys1++[.ref t]++zs))=H9 at g9 x3 x6⊢
  have g59:=(((g5.trans g6).trans g7).trans g8).trans g9
  refine⟨_,rfl,l6,l3,_,_,rfl,rfl,x6,x3,by rw[sizeLine_eq];simp;omega,fun l7 hl7=>?_⟩
  exact q l7 _ _ (g59.trans (Grow.put hl7)) (g59.none _ hl7) qZ (by simp;omega)
 refine⟨_,rfl,b,rfl,?_⟩
 cases b with
 |true=>exact jQ (rest H4 ys2 g14 e1' e2' e3 (by omega))
 |false=>
  refine jO ?_
  refine⟨_,rfl,.inl ⟨rfl,_,zV.of e2'⟩,_,rfl,l3,_,rfl,.inl (zV.of e3),zl2,fun t ht=>?_⟩
  have g5:Grow H4 (upd H4 t (.tup [.str "skip",.int ys3.length])):=Grow.put ht
  have e1':=g5.same _ _ e1'
  have e2':=g5.same _ _ e2'
  have e3:=g5.same _ _ e3
  generalize upd H4 t (.tup [.str "skip",.int ys3.length])=H5 at g5 e1' e2' e3⊢
  refine⟨l2,ys2,_,rfl,rfl,e2',by rw[sizeLine_eq];omega,?_⟩
  exact rest _ (ys2++[.ref t]) ((g14.trans g5).set f2) ((qC d12).trans e1') qZ ((qC d32).trans e3) (by simp;omega)
def aB(n:Nat)(p:Pt):Prop:=p.deep<n+1/\∃x q r,p= .let_ x q r
theorem nD:zQ ["part","slots","height","last","first","second"] ps4 (qL dU):=by walk_at "s"
theorem qWq{n:Nat}(F:zB K "let_code" "let_code" dU .none f fd)(GN:Kn P w K mg base 1 "with_name" ["scope","name","bound"] nI)(GC:Kn P w K mg base (3*n+4) "code_of" ps4 (vI K n)):zC P w K mg base (CXE P w) (3*n+5) f fd ps4 (nB K (aB n)):=by
 refine F.ok0 nD (by walk_at "l") ?_
 walk_at "i"
 obtain⟨v,sl,h0,b,p,rfl,hp,⟨hd,x,p1,p2,rfl⟩,hz,hs,q⟩:=h
 refine⟨_,qK (qH (i:=4) nD.nd rfl oI (zI GC hr (qQ (qO qN (pv 0) qX) (qQ (pv 1) (qQ (pv 2) (qQ kC qJ))))))
  (qK (qH (i:=5) nD.nd rfl oI (zI GC hr (qQ (qO qN (pv 0) qX) (qQ (zI GN (hr.mono (by omega)) (qQ (pv 1) (qQ (qO qN (pv 0) qX) (qQ (pv 2) qJ)))) (qQ (qI jJ (pv 2) qX) (qQ (pv 3) qJ))))))
  (qK (zK (vT (xW (pv 3))) (qY (jK (yB aq0 PySem.F.slot_list_append PySem.F.type_list_append kB (pv 5) (qQ (qF (qQ qV qJ)) qJ)))) qD)
  (qY (qG (qI jF (pv 4) (pv 5)))))),?_⟩
 obtain⟨a,v0,v1,v2,rfl,ha,hx,hv1,hv2⟩:=xE hp
 cases zR hx
 simp only[Pt.deep,Pt.sz]at hd hz q
 have hsd:yL H sl p1:=hs.sub (by simp only[Pt.deep];omega) (fun y h=>.inl h)
 refine⟨_,rfl,a,_,_,v1,rfl,rfl,ha,qW (j:=2) rfl,_,rfl,_,rfl,v1,sl,h0,false,p1,rfl,hv1,by omega,by omega,hsd,fun l1 ys1 H1 g1 n1 e1 hl1=>?_⟩
 walk_at "d"
 obtain⟨kvs,s1,s2,s3⟩:=hs
 simp only[Pt.deep]at s2
 have ha1:=qA.mono g1.same ha
 refine⟨_,rfl,a,_,_,v2,rfl,rfl,ha1,qW (j:=3) rfl,_,rfl,_,rfl,a,_,_,.str x,rfl,rfl,ha1,qW (j:=1) rfl,_,rfl,sl,x,.int h0,kvs,rfl,g1.same _ _ s1,by omega,fun d H2 g2 e2=>?_⟩
 have g12:=g1.trans g2
 have hs2:yL H2 d p2:=by
  refine⟨_,e2,?_,fun y hy=>?_⟩
  ·have :=jE kvs (Sum.inr x:Key) (.int h0);omega
  ·rw[vK]
   by_cases z:y=x
   ·subst z;rw[if_pos rfl];rfl
   ·rw[if_neg (fun h=>z (Sum.inr.inj h))];exact s3 y (.inr ⟨hy,z⟩)
 refine⟨_,rfl,_,_,rfl,rfl,_,rfl,v2,d,h0+1,b,p2,rfl,hv2.mono g12.same,by omega,by omega,hs2,fun l2 ys2 H3 g3 n3 e3 hl2=>?_⟩
 walk_at "d"
 have g13:=g12.trans g3
 have e1':=(g2.trans g3).same _ _ e1
 have d12:l1≠l2:=fun z=>by rw[<-z,g2.same _ _ e1]at n3;cases n3
 have f2:H l2=none:=g12.none _ n3
 have rest:∀(H5:Hp)(zs:List V),Grow H H5->H5 l1=some (.lst ys1)->H5 l2=some (.lst zs)->zs.length+3<=6*p2.sz->
   rM (pZ iA (xG 4) (xG 5)) {nx:=fun _ H'=>Q .non H',rt:=Q} [some (.ref a),some (.ref sl),some (.int h0),some (.bl b),some (.ref l1),some (.ref l2)] H5:=by
  intro H5 zs g5 x1 x2 hl
  refine⟨_,rfl,_,rfl,l1,l2,_,_,rfl,rfl,x1,x2,by rw[sizeLine_eq];omega,fun l7 hl7=>?_⟩
  exact q l7 _ _ (g5.trans (Grow.put hl7)) (g5.none _ hl7) qZ (by simp;omega)
 refine⟨_,rfl,b,rfl,?_⟩
 cases b with
 |true=>exact jQ (rest H3 ys2 g13 e1' e3 (by omega))
 |false=>
  refine jO ?_
  refine⟨_,rfl,.inl ⟨rfl,_,zV.of e3⟩,zl1,fun t ht=>?_⟩
  have g5:Grow H3 (upd H3 t (.tup [.str "slide"])):=Grow.put ht
  have e1':=g5.same _ _ e1'
  have e3:=g5.same _ _ e3
  generalize upd H3 t (.tup [.str "slide"])=H5 at g5 e1' e3⊢
  refine⟨l2,ys2,_,rfl,rfl,e3,by rw[sizeLine_eq];omega,?_⟩
  exact rest _ (ys2++[.ref t]) ((g13.trans g5).set f2) ((qC d12).trans e1') qZ (by simp;omega)
theorem Pt.deep_sz:∀p:Pt,p.deep<p.sz
 | .num _=>by simp[Pt.deep,Pt.sz]
 | .tru _=>by simp[Pt.deep,Pt.sz]
 | .nam _=>by simp[Pt.deep,Pt.sz]
 | .nil _=>by simp[Pt.deep,Pt.sz]
 | .one _ p=>by have :=Pt.deep_sz p;simp only[Pt.deep,Pt.sz];omega
 | .two _ p q=>by have :=Pt.deep_sz p;have :=Pt.deep_sz q;simp only[Pt.deep,Pt.sz];omega
 | .ite p q r=>by have :=Pt.deep_sz p;have :=Pt.deep_sz q;have :=Pt.deep_sz r;simp only[Pt.deep,Pt.sz];omega
 | .let_ _ p q=>by have :=Pt.deep_sz p;have :=Pt.deep_sz q;simp only[Pt.deep,Pt.sz];omega
 | .fn _ _ p=>by have :=Pt.deep_sz p;simp only[Pt.deep,Pt.sz];omega
 | .rc _ _ _ _ p=>by have :=Pt.deep_sz p;simp only[Pt.deep,Pt.sz];omega
inductive FnP:Pt->Prop
 |fn {x k p}:FnP (.fn x k p)
 |rc {g x k l p}:FnP (.rc g x k l p)
inductive aD(K:Fg)(n:Nat)(vs:List V)(H:Hp)(Q:VK):Prop
 |mk (v:V) (sl:Addr) (p:Pt) (a_0:vs=[v,.ref sl]) (a_1:qU K H p.dt v) (a_2:p.deep<n+1) (a_3:FnP p) (a_4:p.sz<=50000) (a_5:yL H sl p) (a_6:∀l ys H',Grow H H'->H l=none->H' l=some (.lst ys)->ys.length+5<=6*p.sz->Q (.ref l) H'):aD K n vs H Q
def qL4(K:Fg)(n:Nat):Sp:=fun vs H Q x_0=>aD K n vs H Q
theorem yJ:zQ ["part","slots","kept","bound","inner","slot","name","body","word"] ["part","slots"] (qL gO):=by walk_at "s"
theorem qF3{H:Hp}{p:Pt}{v:V}(h:qU K H p.dt v)(hf:FnP p):∃a ws q u,v= .ref a/\qA K H a (ws++[u])/\qU K H q.dt u/\Pt.parts p=[q]/\q.deep<p.deep/\q.sz+1=p.sz/\∃x r,Pt.names p=x::r/\r.length<=1:=by
 cases hf with
 | @fn x k q=>
  obtain⟨a,v0,v1,v2,rfl,ha,_,_,h3⟩:=xE h
  exact⟨a,[.str "fn",v0,v1],q,v2,rfl,ha,h3,rfl,by simp[Pt.deep],by simp[Pt.sz],x,[],rfl,by simp⟩
 | @rc g x k l q=>
  obtain⟨a,v0,v1,v2,v3,v4,rfl,ha,_,_,_,_,h3⟩:=iO h
  exact⟨a,[.str "rec",v0,v1,v2,v3],q,v4,rfl,ha,h3,rfl,by simp[Pt.deep],by simp[Pt.sz],g,[x],rfl,by simp⟩
theorem dB{p:Pt}(hf:FnP p):yZ p=false:=by cases hf<;>rfl
structure GlC(mg:Str->Option Value):Prop where
 enumerate:mg "enumerate"=none
 len:mg "len"=none
 tuple:mg "tuple"=none
theorem qF4{n:Nat}(F:zB K "function_code" "function_code" gO .none f fd)(G:GlC mg)(GU:Kn P w K mg base 3 "looked_up" ["scope","name"] tM)(GB:Kn P w K mg base 2 "names_bound" ["part"] (tL K))(GO:Kn P w K mg base (n+3) "outside_names" ["part"] (pT K (n+1)))(GC:Kn P w K mg base (3*n+4) "code_of" ps4 (vI K n)):zC P w K mg base (CXE P w) (3*n+5) f fd ["part","slots"] (qL4 K n):=by
 refine F.ok0 yJ (by walk_at "l") ?_
 walk_at "i"
 obtain⟨v,sl,p,rfl,hp,hd,hf,hz,hs,q⟩:=h
 have ndb:((["name"]:List Str)++(["slots"]:List Str)).Nodup:=by decide+kernel
 obtain⟨a',ws',ea,ha',hws,_,hbn⟩:=oQ (dB hf) hp
 obtain⟨a,ws,pq,u,rfl,ha,hu,hpa,hdq,hzq,x0,r0,hnm,hr0⟩:=qF3 hp hf
 have ea':a'=a:=by cases ea;rfl
 rw[ea']at ha'
 have hds:=Pt.deep_sz p
 obtain⟨tl,pls,htl⟩:∃t,PSs (jN (CXE P w) P w K mg base ["part","slots","kept","bound","inner","slot","name","body","word"] "function_code" (qL gO) f cdv A outer s H E).nox ((jH gO).drop 7) t/\
   ∀(H5:Hp)(lk:Addr)(c3 c4 c5 c6:Option V)(l5:Addr)(wd:Str)(xs:List Str)(ys:List V),Grow H H5->H5 lk=some (.lst (xs.map V.str))->xs.length<=p.sz->(∀x,x∈xs->p.fv x)->H5 l5=some (.lst ys)->ys.length+4<=6*pq.sz->
    t {nx:=fun _ H'=>Q .non H',rt:=Q} [some (.ref a),some (.ref sl),some (.ref lk),c3,c4,c5,c6,some (.ref l5),some (.str wd)] H5:=by
  refine⟨_,qY (qG (qI jF (qT (qQ (qF (qQ (pv 8) (qQ (zD oM (by rfl) G.tuple PyProof.Rows.boot_tuple (qQ (sT (bF (own:=["name"]) (y:="slots") (i:=1) (by rfl) (by decide+kernel) (by rfl) (by decide+kernel) (by rfl) (by decide+kernel) (by rfl) (.inl (by rfl)) (by rfl) (by decide+kernel)) rfl (vM (pv 2))
   (fun C s H fp pins=>zI GU (hr.mono (by omega)) (qQ (pv 1) (qQ (pv 0) qJ))) (fun C s H fp pins=>jU (i:=0) ndb rfl oI (Or.inr (by rfl)))) qJ)) (qQ (zW zP (by rfl) G.len aq27 (qQ (pv 7) qJ)) qJ)))) qJ)) (pv 7))),?_⟩
  intro H5 lk c3 c4 c5 c6 l5 wd xs ys g5 ek hxl hxf e5 hl5
  refine⟨_,rfl,_,rfl,lk,rfl,⟨_,zV.of ek⟩,fun D0 hD0=>?_⟩
  have gD:Grow H5 (upd H5 D0 (.lst [])):=Grow.put hD0
  obtain⟨kvs,s1,s2,s3⟩:=hs
  refine uP (K:=K) (a:=lk) (xs:=xs.map V.str) (te:=uI tM [] E0 (jL (xG 1) (jL (xG 0) wI))) (ix:=[1]) (σ:=[some (.ref a),some (.ref sl),some (.ref lk),c3,c4,c5,c6,some (.ref l5),some (.str wd)])
   (fun i zs H6=>Grow H5 H6/\H6 D0=some (.lst zs)/\zs.length=i) ?_ ?_ ?_ ?_
  ·exact⟨gD,qZ,rfl⟩
  ·rintro i zs H6 _ ⟨g6,_⟩
   exact zV.of (g6.same _ _ ek)
  ·rintro i y zs H6 hy ⟨g6,eD,hzl⟩ Q' hq
   rw[aq19]at hy
   obtain⟨x,hx,rfl⟩:=Option.map_eq_some_iff.mp hy
   obtain⟨r,hr1⟩:=Option.isSome_iff_exists.mp (s3 x (hxf x (aq23 hx)))
   have hi:i<xs.length:=(List.getElem?_eq_some_iff.mp hx).1
   exact⟨_,rfl,_,rfl,sl,x,r,kvs,rfl,(g5.trans g6).same _ _ s1,hr1,hq r H6 eD (by rw[sizeLine_eq];omega) ⟨g6.set hD0,qZ,by simp[hzl]⟩⟩
  ·rintro zs H6 ⟨g6,eD,hzl⟩
   refine⟨D0,zs,rfl,.inl ⟨zV.of eD,fun t0 ht0=>?_⟩⟩
   have g7:Grow H6 (upd H6 t0 (.tup zs)):=Grow.put ht0
   generalize upd H6 t0 (.tup zs)=H7 at g7⊢
   have g57:=g6.trans g7
   have e5':=g57.same _ _ e5
   refine⟨_,rfl,l5,ys,rfl,.inl (zV.of e5'),zl3,fun t ht=>?_⟩
   have g8:Grow H7 (upd H7 t (.tup [.str wd,.ref t0,.int ys.length])):=Grow.put ht
   have e5':=g8.same _ _ e5'
   generalize upd H7 t (.tup [.str wd,.ref t0,.int ys.length])=H8 at g8 e5'⊢
   refine⟨zl1,fun l6 hl6=>?_⟩
   have g9:Grow H8 (upd H8 l6 (.lst [.ref t])):=Grow.put hl6
   have e5':=g9.same _ _ e5'
   have e6:(upd H8 l6 (.lst [.ref t])) l6=some (.lst [.ref t]):=qZ
   generalize upd H8 l6 (.lst [.ref t])=H9 at g9 e5' e6⊢
   have g59:=((g5.trans g57).trans g8).trans g9
   refine⟨_,rfl,l6,l5,_,_,rfl,rfl,e6,e5',by rw[sizeLine_eq];simp;omega,fun l7 hl7=>?_⟩
   exact q l7 _ _ (g59.trans (Grow.put hl7)) (g59.none _ hl7) qZ (by simp;omega)
 obtain⟨tm,pms,htm⟩:∃t,PSs (jN (CXE P w) P w K mg base ["part","slots","kept","bound","inner","slot","name","body","word"] "function_code" (qL gO) f cdv A outer s H E).nox ((jH gO).drop 3) t/\
   ∀(H3:Hp)(lk bb:Addr)(xs bs:List Str),Grow H H3->H3 lk=some (.lst (xs.map V.str))->xs.length<=p.sz->(∀x,x∈xs↔p.fv x)->H3 bb=some (.lst (bs.map V.str))->bs.length<=2->(∀x,x∈Pt.names p->x∈bs)->
    t {nx:=fun _ H'=>Q .non H',rt:=Q} [some (.ref a),some (.ref sl),some (.ref lk),some (.ref bb),none,none,none,none,none] H3:=by
  refine⟨_,qK (qH (i:=4) yJ.nd rfl oI wF)
   (qK (vE PassesOwn.never rfl (bD (by rfl) G.enumerate (qQ (qI jF (pv 2) (pv 3)) qJ)) (uY rfl (xJ (jU (i:=5) yJ.nd rfl oI) (xJ (jU (i:=6) yJ.nd rfl oI) wO)))
    (qY (cX (Nat.lt_of_succ_lt hr.u2) (pv 4) (pv 6) (pv 5) rfl)))
   (qK (qH (i:=7) yJ.nd rfl oI (zI GC hr (qQ (qO qN (pv 0) (bJ iH qX)) (qQ (pv 4) (qQ (zW pM (by rfl) G.len aq27 (qQ (pv 4) qJ)) (qQ kC qJ))))))
   (qK (qH (i:=8) yJ.nd rfl oI (wU (qM zG (zW zP (by rfl) G.len aq27 (qQ (pv 3) qJ)) qX (nomark _)) qV qV)) pls))),?_⟩
  intro H3 lk bb xs bs g3 ek hxl hxs eb hbl hbs
  intro d hd4
  walk_at "d"
  have g4:Grow H3 (upd H3 d (.dK [])):=Grow.put hd4
  have ed:(upd H3 d (.dK [])) d=some (.dK []):=qZ
  have ek:=g4.same _ _ ek
  have eb:=g4.same _ _ eb
  have hd0:H d=none:=g3.none _ hd4
  have kd:lk≠d:=fun z=>by rw[z,ed]at ek;cases ek
  have bd:bb≠d:=fun z=>by rw[z,ed]at eb;cases eb
  generalize upd H3 d (.dK [])=H4 at g4 ek eb ed⊢
  have g04:=g3.trans g4
  refine⟨_,rfl,_,rfl,lk,bb,_,_,rfl,rfl,ek,eb,by rw[sizeLine_eq];simp;omega,fun lc hlc=>?_⟩
  rw[<-aq21]
  have cd:lc≠d:=fun z=>by rw[z,ed]at hlc;cases hlc
  have g5:Grow H4 (upd H4 lc (.lst ((xs++bs).map V.str))):=Grow.put hlc
  have ec:(upd H4 lc (.lst ((xs++bs).map V.str))) lc=some (.lst ((xs++bs).map V.str)):=qZ
  have ek:=g5.same _ _ ek
  have eb:=g5.same _ _ eb
  have ed:=g5.same _ _ ed
  generalize upd H4 lc (.lst ((xs++bs).map V.str))=H5 at g5 ec ek eb ed⊢
  have g05:=g04.trans g5
  refine⟨lc,rfl,⟨_,zV.of ec⟩,?_⟩
  refine lA (K:=K) (l:=lc) (xs:=(xs++bs).map V.str) (fun i σ H6=>∃o5 o6 kvs,σ=[some (.ref a),some (.ref sl),some (.ref lk),some (.ref bb),some (.ref d),o5,o6,none,none]/\Grow H H6/\H6 lc=some (.lst ((xs++bs).map V.str))/\H6 lk=some (.lst (xs.map V.str))/\H6 bb=some (.lst (bs.map V.str))/\H6 d=some (.dK kvs)/\kvs.length<=i/\∀x,x∈(xs++bs).take i->(jD kvs (Sum.inr x:Key)).isSome=true) ?_ ?_ ?_ ?_
  ·exact⟨_,_,[],rfl,g05,ec,ek,eb,ed,by simp,by simp⟩
  ·rintro i σ H6 _ ⟨o5,o6,kvs,rfl,_,h,_⟩
   exact zV.of h
  ·rintro i y T σ H6 hy ⟨o5,o6,kvs,rfl,g6,ec6,ek6,eb6,ed6,hkl,hkx⟩ hT
   rw[aq19]at hy
   obtain⟨x,hx,rfl⟩:=Option.map_eq_some_iff.mp hy
   have hi:i<(xs++bs).length:=(List.getElem?_eq_some_iff.mp hx).1
   rw[List.length_append]at hi
   have g7:Grow H6 (upd H6 T (.tup [.int i,.str x])):=Grow.put hT
   refine⟨T,_,rfl,qA.of qZ,rfl,_,_,rfl,_,_,rfl,rfl,?_⟩
   walk_at "d"
   have ec7:=g7.same _ _ ec6
   have ek7:=g7.same _ _ ek6
   have eb7:=g7.same _ _ eb6
   have ed7:=g7.same _ _ ed6
   generalize upd H6 T (.tup [.int i,.str x])=H7 at g7 ec7 ek7 eb7 ed7⊢
   refine⟨_,rfl,_,rfl,_,rfl,d,_,rfl,DPut.k (k:=Sum.inr x) ed7 (by rw[sizeLine_eq];omega),?_⟩
   refine⟨_,_,_,rfl,(g6.trans g7).set hd0,(qC cd).trans ec7,(qC kd).trans ek7,(qC bd).trans eb7,qZ,?_,fun y hy=>?_⟩
   ·have :=jE kvs (Sum.inr x:Key) (.int i);omega
   ·rw[vK]
    by_cases z:y=x
    ·subst z;rw[if_pos rfl];rfl
    ·rw[if_neg (fun h=>z (Sum.inr.inj h))]
     rw[List.take_add_one,hx]at hy
     exact hkx y (by simpa[z]using hy)
  ·rintro σ H6 ⟨o5,o6,kvs,rfl,g6,ec6,ek6,eb6,ed6,hkl,hkx⟩
   rw[aq16]at hkl hkx
   rw[List.take_of_length_le (aq7 _)]at hkx
   rw[List.length_append]at hkl
   have hsq:yL H6 d pq:=by
    refine⟨kvs,ed6,?_,fun x hx=>hkx x ?_⟩
    ·omega
    ·by_cases z:x∈Pt.names p
     ·exact aq11 _ (hbs x z)
     ·exact List.mem_append_left _ ((hxs x).mpr ((uE (dB hf) x).mpr ⟨0,pq,by rw[hpa];rfl,hx,.inr z⟩))
   refine⟨_,rfl,1,rfl,a,_,-1,u,rfl,rfl,qA.mono g6.same ha,uL ws u,_,rfl,_,rfl,d,kvs,rfl,ed6,u,d,_,true,pq,rfl,hu.mono g6.same,by omega,by omega,hsq,fun l5 ys H7 g7 n7 e7 hl7=>?_⟩
   walk_at "d"
   have ek7:=g7.same _ _ ek6
   have fin:∀wd:Str,_:=fun wd=>htl H7 lk (some (.ref bb)) (some (.ref d)) o5 o6 l5 wd xs ys (g6.trans g7) ek7 hxl (fun x hx=>(hxs x).mp hx) e7 hl7
   refine⟨_,rfl,bb,_,rfl,.inl (zV.of (g7.same _ _ eb6)),rfl,_,rfl,ite2 (fun _=>?_) (fun _=>?_)⟩
   ·exact fin "fn"
   ·exact fin "rec"
 refine⟨_,qK (qH (i:=2) yJ.nd rfl oI (zI GO (hr.mono (by omega)) (qQ (pv 0) qJ)))
  (qK (qH (i:=3) yJ.nd rfl oI (zI GB (hr.mono (by omega)) (qQ (pv 0) qJ)))
  (qK (zK (qM zG (qO qP (pv 3) qX) (qO qP (pv 3) (bJ iH qX)) (nomark _)) (qY (qH (i:=3) yJ.nd rfl oI (xH qX2 (pv 3) kO (kI qX)))) qD) pms)),?_⟩
 refine⟨_,rfl,.ref a,p,rfl,hp,hd,hz,fun lk xs H1 g1 n1 e1 hxl hxs=>?_⟩
 walk_at "d"
 refine⟨_,rfl,a,Pt.wd p,ws',rfl,qA.mono g1.same ha',hws,fun b H2 g2 n2 e2=>?_⟩
 rw[hbn]at e2
 walk_at "d"
 have g12:=g1.trans g2
 have e1':=g2.same _ _ e1
 have hlast:∃y,lX ((Pt.names p).map V.str) (-1)=some (.str y)/\(y=x0->∀x,x∈Pt.names p->x∈[x0])/\(Pt.names p).length<=2:=by
  rw[hnm]
  match r0,hr0 with
  |[],_=>exact⟨x0,uL [] (V.str x0),fun _ x h=>h,by simp⟩
  |[y],_=>exact⟨y,uL [V.str x0] (V.str y),fun z x h=>by subst z;simpa using h,by simp⟩
 obtain⟨y,hy,hyx,hn2⟩:=hlast
 have hcut:vF ((Pt.names p).map V.str) none (some 1)=([x0]:List Str).map V.str:=by
  rw[hnm]
  match r0,hr0 with
  |[],_=>rfl
  |[y],_=>rfl
 refine⟨_,rfl,b,_,0,.str x0,rfl,rfl,zV.of e2,by rw[hnm];exact qW (j:=0) rfl,_,rfl,1,rfl,b,_,-1,.str y,rfl,rfl,zV.of e2,hy,rfl,_,rfl,ite2 (fun hxy=>?_) (fun _=>?_)⟩
 ·have hxy':y=x0:=by have :=of_decide_eq_true hxy;cases this;rfl
  refine⟨_,rfl,_,rfl,b,_,rfl,zV.of e2,fun b2 hb2=>?_⟩
  walk_at "d"
  rw[hcut]
  exact htm _ lk b2 xs [x0] (g12.trans (Grow.put hb2)) ((Grow.put hb2).same _ _ e1') hxl hxs qZ (by simp) (hyx hxy')
 ·exact htm H2 lk b xs (Pt.names p) g12 e1' hxl hxs e2 hn2 (fun x h=>h)
end
abbrev sKO:Stmt:=top 20
def pkeys:List Str:=["call","if","and","or","let"]
def owds:List Str:=["head","tail","empty","first","second","not","cons","pair","plus","minus","times","over","rest","less","same"]
theorem aF:∀x∈owds,wJ x pkeys=none/\kQ (.str x) [.str "fn",.str "rec"]=false/\kQ (.str x) [.str "num",.str "truth",.str "name",.str "nil"]=false:=by decide+kernel
theorem aH:∀x∈(["num","truth","name","nil"]:List Str),wJ x pkeys=none/\kQ (.str x) [.str "fn",.str "rec"]=false/\kQ (.str x) [.str "num",.str "truth",.str "name",.str "nil"]=true:=by decide+kernel
theorem aP:∀x∈(["fn","rec"]:List Str),wJ x pkeys=none/\kQ (.str x) [.str "fn",.str "rec"]=true:=by decide+kernel
theorem zQ3{K:Fg}{H:Hp}{p:Pt}{v:V}(h:qU K H p.dt v):∃a xs,v= .ref a/\qA K H a (.str (Pt.wd p)::xs):=by
 by_cases hn:yZ p=true
 ·cases p with
  |nam x=>obtain⟨a,u,rfl,ha,_⟩:=jB h;exact⟨a,_,rfl,ha⟩
  |_=>cases hn
 ·obtain⟨a,xs,e,h1,_⟩:=oQ (by simpa using hn) h
  exact⟨a,xs,e,h1⟩
inductive Way:Pt->Prop
 |call {q r}:Way (.two .call q r)
 |iff {p}:IfP p->Way p
 |let_ {x q r}:Way (.let_ x q r)
 |fn {p}:FnP p->Pt.wd p∈(["fn","rec"]:List Str)->Way p
 |val {p}:aL p->Pt.wd p∈(["num","truth","name","nil"]:List Str)->p.sz=1->Way p
 |oth {p}:Pt.plain p=true->Pt.wd p∈owds->Way p
theorem way(p:Pt):Way p:=by
 cases p with
 |num n=>exact .val (.inl ⟨n,rfl⟩) (by simp[Pt.wd]) rfl
 |tru n=>exact .val (.inr (.inl ⟨n,rfl⟩)) (by simp[Pt.wd]) rfl
 |nam n=>exact .val (.inr (.inr (.inl ⟨n,rfl⟩))) (by simp[Pt.wd]) rfl
 |nil n=>exact .val (.inr (.inr (.inr ⟨n,rfl⟩))) (by simp[Pt.wd]) rfl
 |one u q=>exact .oth rfl (by cases u<;>simp[Pt.wd,U1.str,owds])
 |two u q r=>
  cases u
  case call=>exact .call
  case and=>exact .iff .and
  case or=>exact .iff .or
  all_goals exact .oth rfl (by simp[Pt.wd,U2.str,owds])
 |ite q r t=>exact .iff .ite
 |let_ x q r=>exact .let_
 |fn x k q=>exact .fn .fn (by simp[Pt.wd])
 |rc g x k l q=>exact .fn .rc (by simp[Pt.wd])
section
variable {P:Program} {w:World} {K:Fg} {mg:Str->Option Value} {base:Heap} {f:Addr} {fd:FuncData}
theorem yG:zQ ["part","slots","height","last","word","code"] ps4 (qL oZ):=by walk_at "s"
theorem aR(F:zB K "code_of" "code_of" oZ .none f fd):zC P w K mg base (CXE P w) (3*0+4) f fd ps4 (vI K 0):=by
 refine F.ok0 yG (by walk_at "l") ?_
 walk_at "i"
 obtain⟨v,sl,h,b,p,rfl,_,hd,_⟩:=h
 exact absurd hd (Nat.not_lt_zero _)
theorem qWz{n:Nat}{fC fI fL tb:Addr}(F:zB K "code_of" "code_of" oZ .none f fd)(mP:mg "PLACED_CODES"=some (.ref tb))(T1:oB K tb (pkeys.zip [.ref fC,.ref fI,.ref fI,.ref fI,.ref fL]))
  (GC:At P w K mg base (3*n+6) fC ps4 (nB K (dG n)))(GI:At P w K mg base (3*n+5) fI ps4 (nB K (qL3 n)))(GL:At P w K mg base (3*n+5) fL ps4 (nB K (aB n)))
  (GF:Kn P w K mg base (3*n+5) "function_code" ["part","slots"] (qL4 K n))(GV:Kn P w K mg base 4 "value_code" ["part","slots"] (aM K))(GO:Kn P w K mg base (3*n+5) "operands_code" ["part","slots","height"] (dI K n)):zC P w K mg base (CXE P w) (3*(n+1)+4) f fd ps4 (vI K (n+1)):=by
 refine F.ok0 (k:=3*n+6) yG (fun vs H Q E h=>?_) (fun cdv A outer s H vs Q E hr h=>?_)
 ·obtain⟨v,sl,h,b,p,rfl,_⟩:=h
  rfl
 ·obtain⟨v,sl,h0,b,p,rfl,hp,hd,hz,hs,q⟩:=h
  obtain⟨tl,pls,htl⟩:∃t,PSs (jN (CXE P w) P w K mg base ["part","slots","height","last","word","code"] "code_of" (qL oZ) f cdv A outer s H E).nox ((jH oZ).drop 3) t/\
    ∀(H5:Hp)(c4:Option V)(l:Addr)(ys:List V),Grow H H5->H l=none->H5 l=some (.lst ys)->ys.length+5<=6*p.sz->
     t {nx:=fun _ H'=>Q .non H',rt:=Q} [some v,some (.ref sl),some (.int h0),some (.bl b),c4,some (.ref l)] H5:=by
   refine⟨_,qY (qG (wU (xW (pv 3)) (qI jF (pv 5) (qT (qQ (qF (qQ qV qJ)) qJ))) (pv 5))),?_⟩
   intro H5 c4 l ys g5 nl e5 hl
   refine⟨_,rfl,b,rfl,?_⟩
   cases b with
   |false=>exact jQ ⟨_,rfl,q l ys H5 g5 nl e5 (by omega)⟩
   |true=>
    refine jO ⟨_,rfl,zl1,fun t ht=>?_⟩
    have g6:Grow H5 (upd H5 t (.tup [.str "tell"])):=Grow.put ht
    have e5:=g6.same _ _ e5
    generalize upd H5 t (.tup [.str "tell"])=H6 at g6 e5⊢
    refine⟨zl1,fun l6 hl6=>?_⟩
    have g7:Grow H6 (upd H6 l6 (.lst [.ref t])):=Grow.put hl6
    have e5:=g7.same _ _ e5
    have e6:(upd H6 l6 (.lst [.ref t])) l6=some (.lst [.ref t]):=qZ
    generalize upd H6 l6 (.lst [.ref t])=H7 at g7 e5 e6⊢
    have g57:=(g5.trans g6).trans g7
    refine⟨l,l6,_,_,rfl,rfl,e5,e6,by rw[sizeLine_eq];simp;omega,fun l7 hl7=>?_⟩
    exact q l7 _ _ (g57.trans (Grow.put hl7)) (g57.none _ hl7) qZ (by simp;omega)
  refine⟨_,qK (qH (i:=4) yG.nd rfl oI (qO qN (pv 0) qX))
   (qK (zK (qM uM (pv 4) (jC (v:=.ref tb) (by rfl) mP rfl) rfl) (qY (qG (uH (CX:=CXE P w) (qO cZ (jC (v:=.ref tb) (by rfl) mP rfl) (pv 4)) (qQ (pv 0) (qQ (pv 1) (qQ (pv 2) (qQ (pv 3) qJ))))))) qD)
   (qK (zK (qM jW (pv 4) (qF (qQ qV (qQ qV qJ))) rfl) (qY (qH (i:=5) yG.nd rfl oI (zI GF (hr.mono (by omega)) (qQ (pv 0) (qQ (pv 1) qJ)))))
    (qY (zK (qM jW (pv 4) (qF (qQ qV (qQ qV (qQ qV (qQ qV qJ))))) rfl)
     (qY (qH (i:=5) yG.nd rfl oI (zI GV (hr.mono (by omega)) (qQ (pv 0) (qQ (pv 1) qJ)))))
     (qY (qH (i:=5) yG.nd rfl oI (qI jF (zI GO (hr.mono (by omega)) (qQ (pv 0) (qQ (pv 1) (qQ (pv 2) qJ)))) (qT (qQ (qF (qQ (pv 4) qJ)) qJ))))))))
   pls)),?_⟩
  obtain⟨a,ws,rfl,ha⟩:=zQ3 hp
  refine⟨_,rfl,a,_,_,.str (Pt.wd p),rfl,rfl,ha,qW (j:=0) rfl,?_⟩
  walk_at "d"
  refine⟨_,rfl,_,_,_,rfl,rfl,T1,_,rfl,?_⟩
  cases way p with
  | @call p1 p2=>
   obtain⟨fdg,y3,y4,y5⟩:=GC
   rw[show Pt.wd (.two .call p1 p2)=("call":Str)from rfl,jA (i:=0) (by decide+kernel) (by show 0<5;decide)]
   refine jO ⟨_,rfl,_,_,_,_,rfl,rfl,T1,zH (i:=0) (by decide+kernel) rfl,fC,fdg,_,_,[],[],E0,_,rfl,y3,hr,y4,y5,.nil,kR,_,rfl,_,rfl,_,rfl,_,rfl,?_⟩
   exact⟨_,sl,h0,b,_,rfl,hp,⟨hd,_,_,rfl⟩,hz,hs,q⟩
  |iff hi=>
   obtain⟨fdg,y3,y4,y5⟩:=GI
   have hn:0<n:=by
    have hd':p.deep<n+1:=hd
    have :0<p.deep:=by cases hi<;>simp only[Pt.deep]<;>omega
    omega
   obtain⟨i,h1,h2⟩:∃i:Nat,wJ (Pt.wd p) pkeys=some i/\([.ref fC,.ref fI,.ref fI,.ref fI,.ref fL]:List V)[i]? =some (.ref fI):=by
    cases hi with
    |ite=>exact⟨1,by rw[Pt.wd];decide+kernel,rfl⟩
    |and=>exact⟨2,by rw[Pt.wd];decide+kernel,rfl⟩
    |or=>exact⟨3,by rw[Pt.wd];decide+kernel,rfl⟩
   rw[jA (i:=i) h1 (List.getElem?_eq_some_iff.mp h2).1]
   refine jO ⟨_,rfl,_,_,_,_,rfl,rfl,T1,zH h1 h2,fI,fdg,_,_,[],[],E0,_,rfl,y3,hr.mono (by omega),y4,y5,.nil,kR,_,rfl,_,rfl,_,rfl,_,rfl,?_⟩
   exact⟨_,sl,h0,b,_,rfl,hp,⟨hd,hn,hi⟩,hz,hs,q⟩
  | @let_ x p1 p2=>
   obtain⟨fdg,y3,y4,y5⟩:=GL
   rw[show Pt.wd (.let_ x p1 p2)=("let":Str)from rfl,jA (i:=4) (by decide+kernel) (by show 4<5;decide)]
   refine jO ⟨_,rfl,_,_,_,_,rfl,rfl,T1,zH (i:=4) (by decide+kernel) rfl,fL,fdg,_,_,[],[],E0,_,rfl,y3,hr.mono (by omega),y4,y5,.nil,kR,_,rfl,_,rfl,_,rfl,_,rfl,?_⟩
   exact⟨_,sl,h0,b,_,rfl,hp,⟨hd,_,_,_,rfl⟩,hz,hs,q⟩
  |fn hf hw=>
   obtain⟨w1,w2⟩:=aP _ hw
   rw[yI w1]
   refine jQ ⟨_,rfl,zl2,fun c1 hc1=>?_⟩
   have g1:Grow H (upd H c1 (.tup [.str "fn",.str "rec"])):=Grow.put hc1
   refine⟨c1,_,rfl,.inr (qA.of qZ),rfl,rfl,_,rfl,?_⟩
   rw[if_neg Bool.false_ne_true,w2]
   generalize upd H c1 (.tup [.str "fn",.str "rec"])=H1 at g1⊢
   refine jO ⟨_,rfl,_,rfl,_,sl,p,rfl,hp.mono g1.same,hd,hf,hz,hs.mono g1,fun l ys H2 g2 n2 e2 hl2=>?_⟩
   exact htl H2 _ l ys (g1.trans g2) (g1.none _ n2) e2 hl2
  |val hv hw hsz=>
   obtain⟨w1,w2,w3⟩:=aH _ hw
   rw[yI w1]
   refine jQ ⟨_,rfl,zl2,fun c1 hc1=>?_⟩
   have g1:Grow H (upd H c1 (.tup [.str "fn",.str "rec"])):=Grow.put hc1
   refine⟨c1,_,rfl,.inr (qA.of qZ),rfl,rfl,_,rfl,?_⟩
   rw[if_neg Bool.false_ne_true,w2]
   generalize upd H c1 (.tup [.str "fn",.str "rec"])=H1 at g1⊢
   refine jQ ⟨_,rfl,zl4,fun c2 hc2=>?_⟩
   have g2:Grow H1 (upd H1 c2 (.tup [.str "num",.str "truth",.str "name",.str "nil"])):=Grow.put hc2
   refine⟨c2,_,rfl,.inr (qA.of qZ),rfl,rfl,_,rfl,?_⟩
   rw[if_neg Bool.false_ne_true,w3]
   generalize upd H1 c2 (.tup [.str "num",.str "truth",.str "name",.str "nil"])=H2 at g2⊢
   have g12:=g1.trans g2
   refine jO ⟨_,rfl,_,rfl,_,sl,p,rfl,hp.mono g12.same,hv,hs.mono g12,fun l u H3 g3 n3 e3=>?_⟩
   exact htl H3 _ l [u] (g12.trans g3) (g12.none _ n3) e3 (by simp[hsz])
  |oth hpl hw=>
   obtain⟨w1,w2,w3⟩:=aF _ hw
   rw[yI w1]
   refine jQ ⟨_,rfl,zl2,fun c1 hc1=>?_⟩
   have g1:Grow H (upd H c1 (.tup [.str "fn",.str "rec"])):=Grow.put hc1
   refine⟨c1,_,rfl,.inr (qA.of qZ),rfl,rfl,_,rfl,?_⟩
   rw[if_neg Bool.false_ne_true,w2]
   generalize upd H c1 (.tup [.str "fn",.str "rec"])=H1 at g1⊢
   refine jQ ⟨_,rfl,zl4,fun c2 hc2=>?_⟩
   have g2:Grow H1 (upd H1 c2 (.tup [.str "num",.str "truth",.str "name",.str "nil"])):=Grow.put hc2
   refine⟨c2,_,rfl,.inr (qA.of qZ),rfl,rfl,_,rfl,?_⟩
   rw[if_neg Bool.false_ne_true,w3]
   generalize upd H1 c2 (.tup [.str "num",.str "truth",.str "name",.str "nil"])=H2 at g2⊢
   have g12:=g1.trans g2
   have hsz:=(xD hpl).1
   refine jQ ⟨_,rfl,_,rfl,_,rfl,_,sl,h0,p,rfl,hp.mono g12.same,hpl,hd,hz,hs.mono g12,fun l ys H3 g3 n3 e3 hl3=>?_⟩
   refine⟨_,rfl,zl1,fun t ht=>?_⟩
   have g4:Grow H3 (upd H3 t (.tup [.str (Pt.wd p)])):=Grow.put ht
   have e3:=g4.same _ _ e3
   generalize upd H3 t (.tup [.str (Pt.wd p)])=H4 at g4 e3⊢
   refine⟨zl1,fun l6 hl6=>?_⟩
   have g5:Grow H4 (upd H4 l6 (.lst [.ref t])):=Grow.put hl6
   have e3:=g5.same _ _ e3
   have e6:(upd H4 l6 (.lst [.ref t])) l6=some (.lst [.ref t]):=qZ
   generalize upd H4 l6 (.lst [.ref t])=H5 at g5 e3 e6⊢
   have g05:=((g12.trans g3).trans g4).trans g5
   refine⟨l,l6,_,_,rfl,rfl,e3,e6,by rw[sizeLine_eq];simp;omega,fun l7 hl7=>?_⟩
   exact htl _ _ l7 _ (g05.trans (Grow.put hl7)) (g05.none _ hl7) qZ (by simp;omega)
end
def Kd.leaf:Kd->Bool
 | .int=>true| .bool=>true|_=>false
def lfS:Kd->Str
 | .int=>"int"|_=>"bool"
theorem qWj{K:Fg}{k:Kd}{H:Hp}{v:V}(hl:Kd.leaf k=true)(h:qU K H k.dt v):v= .str (lfS k)/\k.dt= .str (lfS k):=by
 cases k with
 |int=>exact⟨zR h,rfl⟩
 |bool=>exact⟨zR h,rfl⟩
 |_=>cases hl
theorem qY0{k:Kd}(hl:Kd.leaf k=false):rY k.dt="tuple":=by cases k<;>first|rfl|cases hl
structure GlS(K:Fg)(mg:Str->Option Value):Prop where
 isi:mg "isinstance"=none
 str:mg "str"=none
 ts:PySem.W.kitOne K (.type "tuple") (.type "str")=some false
theorem nH(K:Fg):PySem.W.kitOne K (.type "str") (.type "str")=some true:=by
 unfold PySem.W.kitOne
 rw[if_pos (by decide)]
structure Df(K:Fg)(mg:Str->Option Value)(x:Str)(st:Stmt)(ps:List Str)(f:Addr)(fd:FuncData):Prop where
 fn:zB K x x st .none f fd
 at_:mg x=some (.ref f)
 bi:Binds K fd ps []
section
variable {P:Program} {w:World} {K:Fg} {mg:Str->Option Value} {base:Heap} {f:Addr} {fd:FuncData} {x:Str} {st:Stmt} {ps:List Str} {k:Nat} {sp:Sp}
theorem Df.kn(d:Df K mg x st ps f fd)(h:zC P w K mg base (CXE P w) k f fd ps sp):Kn P w K mg base k x ps sp:=⟨f,fd,h,d.at_,d.fn.kp,d.bi⟩
theorem Df.at(d:Df K mg x st ps f fd)(h:zC P w K mg base (CXE P w) k f fd ps sp):At P w K mg base k f ps sp:=⟨fd,h,d.fn.kp,d.bi⟩
end
section
variable {P:Program} {w:World} {K:Fg} {mg:Str->Option Value} {base:Heap}
variable {fFit fLet fFn fRec fON fOpd fCall fIf fLetC fFnC fCode fKT fLKT:Addr} {dFit dLet dFn dRec dON dOpd dCall dIf dLetC dFnC dCode dKT dLKT:FuncData}
theorem dD(F:Df K mg "fitted" tE oU fFit dFit)(FL:Df K mg "let_kind" dQ oU fLet dLet)(FN:Df K mg "fn_kind" qW3 oU fFn dFn)(FR:Df K mg "rec_kind" dZ oU fRec dRec){UF NN:Addr}(G:GlF P w K mg base UF fLet fFn fRec)(GV:Kn P w K mg base 1 "values_behind" ["part","sort"] (gZ K))(GR:Kn P w K mg base 1 "require" ["holds"] (yP UF))(GU:Kn P w K mg base 3 "looked_up" ["scope","name"] (bS NN))(GP:Kn P w K mg base 63 "pair_kind" ["kinds","pairs"] (qBq K))(GW:Kn P w K mg base 1 "with_name" ["scope","name","bound"] nI):
  ∀n,Kn P w K mg base (2*n+72) "fitted" oU (wE K UF NN n)
 |0=>F.kn (qW7 F.fn)
 |n+1=>by
  have ih:=dD F FL FN FR G GV GR GU GP GW n
  exact F.kn (qD1 F.fn G GV GR GU GP (FL.at (qBz FL.fn ih GW)) (FN.at (qEq FN.fn ih GW)) (FR.at (qBj FR.fn ih GW GR)) ih)
theorem aA(F:Df K mg "outside_names" sON ["part"] fON dON)(G:GlO mg)(GV:Kn P w K mg base 1 "values_behind" ["part","sort"] (gZ K))(GB:Kn P w K mg base 2 "names_bound" ["part"] (tL K)):∀n,Kn P w K mg base (n+2) "outside_names" ["part"] (pT K n)
 |0=>F.kn (qD9 F.fn)
 |n+1=>F.kn (zQ0 F.fn G GV GB (aA F G GV GB n))
theorem gC{tb:Addr}(F:Df K mg "code_of" oZ ps4 fCode dCode)(FO:Df K mg "operands_code" qW8 ["part","slots","height"] fOpd dOpd)(FC:Df K mg "call_code" cG ps4 fCall dCall)(FI:Df K mg "if_code" qW9 ps4 fIf dIf)(FL:Df K mg "let_code" dU ps4 fLetC dLetC)(FF:Df K mg "function_code" gO ["part","slots"] fFnC dFnC)(G:GlC mg)
  (mP:mg "PLACED_CODES"=some (.ref tb))(T1:oB K tb (pkeys.zip [.ref fCall,.ref fIf,.ref fIf,.ref fIf,.ref fLetC]))(GV:Kn P w K mg base 1 "values_behind" ["part","sort"] (gZ K))(GB:Kn P w K mg base 2 "names_bound" ["part"] (tL K))(GU:Kn P w K mg base 3 "looked_up" ["scope","name"] tM)(GW:Kn P w K mg base 1 "with_name" ["scope","name","bound"] nI)
  (GA:Kn P w K mg base 1 "as_if" ["part"] (qF0 K))(GVa:Kn P w K mg base 4 "value_code" ["part","slots"] (aM K))(GO:∀n,Kn P w K mg base (n+2) "outside_names" ["part"] (pT K n)):∀n,Kn P w K mg base (3*n+4) "code_of" ps4 (vI K n)
 |0=>F.kn (aR F.fn)
 |n+1=>by
  have ih:=gC F FO FC FI FL FF G mP T1 GV GB GU GW GA GVa GO n
  have o:=FO.kn (qDz FO.fn G.enumerate GV ih)
  exact F.kn (qWz F.fn mP T1 (FC.at (aI FC.fn o)) (FI.at (qF2 FI.fn G.len GA ih)) (FL.at (qWq FL.fn GW ih)) (FF.kn (qF4 FF.fn G GU GB (GO (n+1)) ih)) GVa o)
end
theorem qF5{P:Program}{w:World}{K:Fg}{mg:Str->Option Value}{base:Heap}{k:Nat}{x:Str}{ps:List Str}{sp sp':Sp}(G:Kn P w K mg base k x ps sp)(h:∀vs H Q E,sp' vs H Q E->sp vs H Q E):Kn P w K mg base k x ps sp':=let⟨f,fd,F,r⟩:=G;⟨f,fd,F.imp h,r⟩
theorem zQ4{P:Program}{w:World}{K:Fg}{mg:Str->Option Value}{base:Heap}{NN:Addr}{k:Nat}(G:Kn P w K mg base k "looked_up" ["scope","name"] (bS NN)):Kn P w K mg base k "looked_up" ["scope","name"] tM:=
 qF5 G fun _ _ _ _⟨sc,x,u,kvs,e,hs,hv,q⟩=>⟨sc,x,kvs,e,hs,fun u' z=>by rw[hv]at z;cases z;exact q,fun z=>by rw[hv]at z;cases z⟩
section
variable {P:Program} {w:World} {K:Fg} {mg:Str->Option Value} {base:Heap} {f UF NN:Addr} {fd:FuncData}
def ErG(UF NN:Addr)(H:Hp)(E:XK):Bad->Prop
 | .unfit=>∀e t H',Grow H H'->H' e=some (xL false UF t none e)->E (.ref UF) (some e) H'
 | .noname x=>∀e t d H',Grow H H'->H' e=some (xL false NN t (some d) e)->H' d=some (.xd [("name",.str x)])->E (.ref NN) (some e) H'
theorem ErG.b{pr:Addr}{H H1:Hp}{E:XK}{b:Bad}(h:ErG UF NN H E b)(g:Grow H H1)(hp:H pr=none):dJ UF NN pr H1 E b:=by
 cases b with
 |unfit=>exact fun e t H' g' he=>h e t H' (zF.of_new g g' hp) he
 |noname x=>exact fun e t d H' g' he hd=>h e t d H' (zF.of_new g g' hp) he hd
def KoE(K:Fg)(UF NN:Addr)(H:Hp)(Q:VK)(E:XK):Except Bad Kd->Prop
 | .ok κ=>∀u H',Grow H H'->qU K H' κ.dt u->Q u H'
 | .error b=>ErG UF NN H E b
structure Pg(p:Pt):Prop where
 deep:p.deep<50
 sz:p.sz<=50000
 gr:p.gr<=1050
 kb:p.Kb 40
inductive qL5(K:Fg)(UF:Addr)(NN:Addr)(vs:List V)(H:Hp)(Q:VK)(E:XK):Prop
 |mk (v:V) (p:Pt) (a_0:vs=[v]) (a_1:qU K H p.dt v) (a_2:Pg p) (a_3:KoE K UF NN H Q E (Pt.fit [] p)):qL5 K UF NN vs H Q E
def qY1(K:Fg)(UF NN:Addr):Sp:=fun vs H Q E=>qL5 K UF NN vs H Q E
theorem zV7:zQ ["part"] ["part"] (qL sKO):=by walk_at "s"
theorem zQ6(F:zB K "kind_of" "kind_of" sKO .none f fd)(GF:Kn P w K mg base 172 "fitted" oU (wE K UF NN 50)):zC P w K mg base (CXE P w) 173 f fd ["part"] (qY1 K UF NN):=by
 refine F.okE zV7 (by walk_at "l") ?_
 walk_at "i"
 obtain⟨v,p,rfl,hp,hg,q⟩:=h
 refine⟨_,qY (qG (xI GF hr (qQ (pv 0) (qQ wF (qQ (qT qJ) qJ))))),?_⟩
 refine⟨_,rfl,fun d hd1=>?_⟩
 have g1:Grow H (upd H d (.dK [])):=Grow.put hd1
 have e1:(upd H d (.dK [])) d=some (.dK []):=qZ
 generalize upd H d (.dK [])=H1 at g1 e1⊢
 refine⟨zl0,fun l hl=>?_⟩
 have g2:Grow H1 (upd H1 l (.lst [])):=Grow.put hl
 have e2:(upd H1 l (.lst [])) l=some (.lst []):=qZ
 have e1:=g2.same _ _ e1
 generalize upd H1 l (.lst [])=H2 at g2 e1 e2⊢
 have g12:=g1.trans g2
 have nl:H l=none:=g1.none _ hl
 have hd:=hg.deep
 have hz:=hg.sz
 refine⟨v,d,l,p,[],0,0,41,rfl,hp.mono g12.same,hg.deep,⟨Pt.Cb.nil _,hg.kb,aq7 _,by have :=hg.gr;omega⟩,⟨[],e1,by simp,(fun x k h=>by cases h),fun x _=>rfl⟩,by omega,⟨[],[],e2,zX,(fun k h=>by cases h),by simp⟩,by omega,?_⟩
 cases hf:Pt.fit [] p with
 |ok κ=>rw[hf]at q;exact fun u H3 g3 _ hu=>q u H3 (zF.of_new g12 g3 nl) hu
 |error b=>rw[hf]at q;exact ErG.b q g12 nl
def CmE(UF NN:Addr)(H:Hp)(Q:VK)(E:XK):Except Bad Kd->Prop
 | .ok _=>∀l ys H',Grow H H'->H' l=some (.lst ys)->Q (.ref l) H'
 | .error b=>ErG UF NN H E b
inductive qL6(K:Fg)(UF:Addr)(NN:Addr)(vs:List V)(H:Hp)(Q:VK)(E:XK):Prop
 |mk (v:V) (p:Pt) (a_0:vs=[v]) (a_1:qU K H p.dt v) (a_2:Pg p) (a_3:CmE UF NN H Q E (Pt.fit [] p)):qL6 K UF NN vs H Q E
def qF6(K:Fg)(UF NN:Addr):Sp:=fun vs H Q E=>qL6 K UF NN vs H Q E
theorem zV8:zQ ["part"] ["part"] (qL aW):=by walk_at "s"
theorem zQ7(F:zB K "compiled" "compiled" aW .none f fd)(GK:Kn P w K mg base 173 "kind_of" ["part"] (qY1 K UF NN))(GC:Kn P w K mg base 154 "code_of" ps4 (vI K 50)):zC P w K mg base (CXE P w) 174 f fd ["part"] (qF6 K UF NN):=by
 refine F.okE zV8 (by walk_at "l") ?_
 walk_at "i"
 obtain⟨v,p,rfl,hp,hg,q⟩:=h
 refine⟨_,qK (jK (xI GK hr (qQ (pv 0) qJ))) (qY (qG (zI GC (hr.mono (by decide)) (qQ (pv 0) (qQ wF (qQ qX (qQ kC qJ))))))),?_⟩
 refine⟨_,rfl,v,p,rfl,hp,hg,?_⟩
 cases hf:Pt.fit [] p with
 |error b=>rw[hf]at q;exact q
 |ok κ=>
 rw[hf]at q
 intro u H1 g1 _
 refine⟨_,rfl,fun d hd1=>?_⟩
 have g2:Grow H1 (upd H1 d (.dK [])):=Grow.put hd1
 have e1:(upd H1 d (.dK [])) d=some (.dK []):=qZ
 generalize upd H1 d (.dK [])=H2 at g2 e1⊢
 have g12:=g1.trans g2
 have hd:=hg.deep
 refine⟨v,d,0,true,p,rfl,hp.mono g12.same,hg.deep,hg.sz,⟨[],e1,by simp;omega,fun x hx=>?_⟩,fun l ys H3 g3 _ e3 _=>q l ys H3 (g12.trans g3) e3⟩
 obtain⟨l,hl⟩:=Pt.fit_fv p hf x hx
 cases hl
end
abbrev aE:Stmt:=top 50
abbrev nP:Stmt:=top 51
abbrev sLK:Stmt:=top 52
abbrev qF7:Stmt:=top 53
abbrev oJ:Stmt:=top 54
abbrev qF8:Stmt:=top 55
abbrev qY2:Stmt:=top 56
abbrev sOK:Stmt:=top 57
abbrev iN:Stmt:=top 58
abbrev oX:Stmt:=top 59
structure dF(mg:Str->Option Value):Prop where
 len:mg "len"=none
 int:mg "int"=none
 max:mg "max"=none
 min:mg "min"=none
 range:mg "range"=none
section
variable {P:Program} {w:World} {K:Fg} {mg:Str->Option Value} {base:Heap}
inductive dH(K:Fg)(vs:List V)(H:Hp)(Q:VK):Prop
 |mk (a:Addr) (ns:List Int) (k:Int) (a_0:vs=[.ref a,.int k]) (a_1:zV K H a (ns.map V.int)) (a_2:ns.length<=63) (a_3:∀(z:Int)(H':Hp),Grow H H'->Q (.int z) H'):dH K vs H Q
def cM(K:Fg):Sp:=fun vs H Q x_0=>dH K vs H Q
theorem zV9:zQ ["_law_script","_law_k"] ["_law_script","_law_k"] (qL aE):=by walk_at "s"
theorem qY3{f:Addr}{fd:FuncData}(F:zB K "_law_cell" "_law_cell" aE .none f fd)(G:dF mg):zC P w K mg base (CXE P w) 1 f fd ["_law_script","_law_k"] (cM K):=by
 refine F.ok0 zV9 (by walk_at "l") ?_
 walk_at "i"
 obtain⟨a,ns,k,rfl,hS,hn,q⟩:=h
 refine⟨_,qK (zK (qM (sY hr.units0) (pv 0) (qT qJ) (nomark _)) (qY (qG (qI jM (pv 1) qX))) qD)
  (qY (qG (qI jJ (qO qP (pv 0) (qI zM (pv 1) (zW zP (by rfl) G.len aq27 (qQ (pv 0) qJ))))
   (qI jM (qI zU (pv 1) (zW zP (by rfl) G.len aq27 (qQ (pv 0) qJ))) qX)))),?_⟩
 refine⟨_,rfl,(by decide),fun l hl=>?_⟩
 have g1:Grow H (upd H l (.lst [])):=Grow.put hl
 have hS1:=g1.same.seq hS
 refine⟨a,l,_,rfl,rfl,hS1,zV.of qZ,_,rfl,?_⟩
 refine ite2 (fun _=>?_) (fun h=>?_)
 ·exact⟨_,rfl,_,_,rfl,rfl,.inr ⟨by decide,by decide⟩,q _ _ g1⟩
 ·have hne:ns≠[]:=fun e=>h (by rw[e];rfl)
  have hpos:0<ns.length:=List.length_pos_iff.mpr hne
  have hlp:(0:Int)<((ns.map V.int).length:Nat):=by rw[aq16];omega
  have h0:0<=k%((ns.map V.int).length:Nat):=Int.emod_nonneg _ (by omega)
  have h1:k%((ns.map V.int).length:Nat)<((ns.map V.int).length:Nat):=Int.emod_lt_of_pos _ hlp
  obtain⟨j,hj⟩:∃j:Nat,k%((ns.map V.int).length:Nat)=(j:Int):=⟨(k%((ns.map V.int).length:Nat)).toNat,by omega⟩
  have hjl:j<ns.length:=by rw[hj,aq16]at h1;omega
  have hv:(ns.map V.int)[j]? =some (V.int ns[j]):=by rw[aq19,aq15 hjl];rfl
  refine⟨_,rfl,_,rfl,_,rfl,a,_,rfl,.inl hS1,_,_,rfl,rfl,hlp,a,_,_,.int ns[j],rfl,rfl,hS1,?_,?_⟩
  ·rw[hj];exact qW hv
  ·refine⟨_,rfl,_,rfl,a,_,rfl,.inl hS1,_,_,rfl,rfl,⟨hlp,?_⟩,_,_,rfl,rfl,.inr ⟨by decide,by decide⟩,_,_,rfl,rfl,q _ _ g1⟩
   show(((ns.map V.int).length:Nat):Int)<1073741824
   rw[aq16];omega
inductive gG(vs:List V)(H:Hp)(Q:VK):Prop
 |mk (c:Int) (k:Int) (a_0:vs=[.int c,.int k]) (a_1:∀z:Int,0<=z->Q (.int z) H):gG vs H Q
def uQ:Sp:=fun vs H Q x_0=>gG vs H Q
theorem zQ9:zQ ["_law_cell_here","_law_k","_law_more"] ["_law_cell_here","_law_k"] (qL nP):=by walk_at "s"
theorem eQ{f:Addr}{fd:FuncData}(F:zB K "_law_drawn" "_law_drawn" nP .none f fd):zC P w K mg base (CXE P w) 1 f fd ["_law_cell_here","_law_k"] uQ:=by
 refine F.ok0 zQ9 (by walk_at "l") ?_
 walk_at "i"
 obtain⟨c,k,rfl,q⟩:=h
 refine⟨_,qK (qH (i:=2) zQ9.nd rfl oI (qI zM (qI jJ (qI jM (pv 0) qX) (qI jM (qI jJ (pv 1) qX) qX)) qX))
  (qY (qG (qI zM (qI qK3 (pv 2) (pv 2)) qX))),?_⟩
 refine⟨_,rfl,_,_,rfl,rfl,.inr ⟨by decide,by decide⟩,_,rfl,_,_,rfl,rfl,_,_,rfl,rfl,.inr ⟨by decide,by decide⟩,_,_,rfl,rfl,_,_,rfl,rfl,(by show(0:Int)<340282366920938463463374607431768211507;decide),?_⟩
 obtain⟨m,hm⟩:∃m,(c*6364136223846793005+(k+1)*1442695040888963407)%340282366920938463463374607431768211507=m:=⟨_,rfl⟩
 have m0:0<=m:=by rw[<-hm];exact Int.emod_nonneg _ (by decide)
 have m1:m<340282366920938463463374607431768211507:=by rw[<-hm];exact Int.emod_lt_of_pos _ (by decide)
 have hb:Builtin.Int.intBits m<=129:=intBits_le_iff.mpr (by
  have :m.natAbs<340282366920938463463374607431768211507:=by omega
  exact Nat.lt_trans this (by decide))
 rw[<-hm]at hb
 refine⟨_,rfl,_,rfl,_,_,rfl,rfl,IntMulOk.of_le (m:=129) (n:=129) hb hb (by decide),_,_,rfl,rfl,(by show(0:Int)<340282366920938463463374607431768211297;decide),?_⟩
 exact q _ (Int.emod_nonneg _ (by decide))
theorem xZ{xs:List V}{n:Int}(hn:(xs.length:Int)=n)(h0:0<n)(z:Int):∃v,v∈xs/\lX xs (z%n)=some v:=by
 have h1:0<=z%n:=Int.emod_nonneg _ (by omega)
 have h2:z%n<n:=Int.emod_lt_of_pos _ h0
 obtain⟨j,hj⟩:∃j:Nat,z%n=(j:Int):=⟨(z%n).toNat,by omega⟩
 have hl:j<xs.length:=by omega
 exact⟨xs[j],List.getElem_mem hl,by rw[hj];exact qW (aq15 hl)⟩
variable {f:Addr} {fd:FuncData}
inductive eZ(vs:List V)(H:Hp)(Q:VK):Prop
 |mk (m:Int) (a_0:vs=[.int m]) (a_1:∀n H',Grow H H'->Q (.int n) H'):eZ vs H Q
def eJ:Sp:=fun vs H Q x_0=>eZ vs H Q
theorem zQq:zQ ["_law_more"] ["_law_more"] (qL qF7):=by walk_at "s"
theorem qF9(F:zB K "_law_number" "_law_number" qF7 .none f fd):zC P w K mg base (CXE P w) 1 f fd ["_law_more"] eJ:=by
 refine F.ok0 zQq (by walk_at "l") ?_
 walk_at "i"
 obtain⟨m,rfl,q⟩:=h
 refine⟨_,qY (qG (qO qP (qT (qQ (qI vZ (qI zM (pv 0) qX) qX) (qQ (qI zM (pv 0) qX) (qQ (qI vZ qX (qI zM (pv 0) qX)) (qQ (qI vZ (qI zM (pv 0) qX) qX) qJ)))))
  (qI zM (qI zU (pv 0) qX) qX) (fun _ _=>rfl))),?_⟩
 refine⟨_,rfl,_,_,rfl,rfl,(by show(0:Int)<_;decide),_,_,rfl,rfl,_,rfl,_,_,rfl,rfl,(by show(0:Int)<_;decide),_,rfl,_,_,rfl,rfl,(by show(0:Int)<_;decide),_,_,rfl,rfl,_,rfl,_,_,rfl,rfl,(by show(0:Int)<_;decide),_,_,rfl,rfl,zl4,fun l hl=>?_⟩
 obtain⟨v,hv,ha⟩:=xZ (xs:=[.int (m%7-3),.int (m%1000),.int (9223372036854775807-m%2),.int (m%2-9223372036854775808)]) (n:=4) rfl (by decide) (m/8)
 refine⟨_,rfl,_,_,rfl,rfl,⟨by decide,by decide⟩,_,_,rfl,rfl,(by show(0:Int)<_;decide),l,_,_,v,rfl,rfl,zV.of qZ,ha,?_⟩
 have g:=Grow.put (o:=.lst [.int (m%7-3),.int (m%1000),.int (9223372036854775807-m%2),.int (m%2-9223372036854775808)]) hl
 simp only[List.mem_cons,List.not_mem_nil,or_false]at hv
 rcases hv with rfl|rfl|rfl|rfl
 ·exact q _ _ g
 ·exact q _ _ g
 ·exact q _ _ g
 ·exact q _ _ g
inductive qL7(K:Fg)(n:Nat)(vs:List V)(H:Hp)(Q:VK):Prop
 |mk (m:Int) (d:Nat) (a_0:vs=[.int m,.int d]) (a_1:d<n) (a_2:∀v k H',Grow H H'->qU K H' (Kd.dt k) v->k.sz<2^(d+1)->Q v H'):qL7 K n vs H Q
def gM(K:Fg)(n:Nat):Sp:=fun vs H Q x_0=>qL7 K n vs H Q
theorem qFq:zQ ["_law_more","_law_deep","_law_word"] ["_law_more","_law_deep"] (qL sLK):=by walk_at "s"
theorem qFz(F:zB K "_law_kind" "_law_kind" sLK .none f fd):zC P w K mg base (CXE P w) (0+1) f fd ["_law_more","_law_deep"] (gM K 0):=by
 refine F.ok0 qFq (by walk_at "l") ?_
 walk_at "i"
 obtain⟨m,d,rfl,hd,_⟩:=h
 exact absurd hd (Nat.not_lt_zero _)
theorem zQz{n:Nat}(F:zB K "_law_kind" "_law_kind" sLK .none f fd)(GK:Kn P w K mg base (n+1) "_law_kind" ["_law_more","_law_deep"] (gM K n)):zC P w K mg base (CXE P w) (n+1+1) f fd ["_law_more","_law_deep"] (gM K (n+1)):=by
 refine F.ok0 qFq (by walk_at "l") ?_
 walk_at "i"
 obtain⟨m,d,rfl,hd,q⟩:=h
 refine⟨_,qK (zK (cA (qM zG (pv 1) qX (nomark _)) (uV (qM zG (qI zM (pv 0) qX) qX (nomark _)))).pt (qY (qG (qO qP (qT (qQ qV (qQ qV (qQ qV qJ)))) (qI zM (qI zU (pv 0) qX) qX)))) qD)
  (qK (zK (qM zG (qI zM (qI zU (pv 0) qX) qX) qX (nomark _)) (qY (qG (qF (qQ qV (qQ (zI GK hr (qQ (qI zU (pv 0) qX) (qQ (qI vZ (pv 1) qX) qJ))) qJ))))) qD)
  (qK (qH (i:=2) qFq.nd rfl oI (qO qP (qT (qQ qV (qQ qV qJ))) (qI zM (qI zU (pv 0) qX) qX)))
  (qY (qG (qF (qQ (pv 2) (qQ (zI GK hr (qQ (qI zU (pv 0) qX) (qQ (qI vZ (pv 1) qX) qJ))) (qQ (zI GK hr (qQ (qI zU (pv 0) qX) (qQ (qI vZ (pv 1) qX) qJ))) qJ)))))))),?_⟩
 have pw:2^(d+1)=2*2^d:=by rw[Nat.pow_succ];omega
 have pp:0<2^d:=Nat.two_pow_pos d
 refine⟨_,rfl,rfl,_,rfl,ite2 (fun _=>jO ?a) (fun hA=>⟨_,rfl,_,_,rfl,rfl,(by show(0:Int)<_;decide),rfl,_,rfl,ite2 (fun _=>?b) (fun hB=>?c)⟩)⟩
 case a|b=>
  refine⟨zl3,fun l hl=>?_⟩
  obtain⟨v,hv,ha⟩:=xZ (xs:=[.str "int",.str "bool",.str "int"]) (n:=3) rfl (by decide) (m/3)
  refine⟨_,rfl,_,_,rfl,rfl,⟨by decide,by decide⟩,_,_,rfl,rfl,(by show(0:Int)<_;decide),l,_,_,v,rfl,rfl,zV.of qZ,ha,?_⟩
  have g:=Grow.put (o:=.lst [.str "int",.str "bool",.str "int"]) hl
  simp only[List.mem_cons,List.not_mem_nil,or_false]at hv
  rcases hv with rfl|rfl|rfl
  ·exact q _ .int _ g (zJ _) (by rw[Kd.sz];omega)
  ·exact q _ .bool _ g (zJ _) (by rw[Kd.sz];omega)
  ·exact q _ .int _ g (zJ _) (by rw[Kd.sz];omega)
 case c=>
  have hd0:d≠0:=fun z=>hA (by subst z;rfl)
  obtain⟨e,rfl⟩:∃e,d=e+1:=⟨d-1,by omega⟩
  have ed:((e+1:Nat):Int)-1=(e:Int):=by omega
  refine⟨_,rfl,_,_,rfl,rfl,⟨by decide,by decide⟩,_,_,rfl,rfl,(by show(0:Int)<_;decide),rfl,_,rfl,ite2 (fun _=>?_) (fun _=>?_)⟩
  ·refine⟨_,rfl,_,_,rfl,rfl,⟨by decide,by decide⟩,_,rfl,_,_,rfl,rfl,_,e,(by show[V.int _,V.int (((e+1:Nat):Int)-1)]=_;rw[ed]),by omega,fun v k H1 g1 hv hk=>?_⟩
   refine⟨zl2,fun t ht=>?_⟩
   have g2:Grow H1 (upd H1 t (.tup [.str "list",v])):=Grow.put ht
   exact q _ (.list k) _ (g1.trans g2) (jG (qA.of qZ) (hv.mono g2.same)) (by rw[Kd.sz];omega)
  ·refine⟨zl2,fun l hl=>?_⟩
   obtain⟨u,hu,ha⟩:=xZ (xs:=[.str "pair",.str "fun"]) (n:=2) rfl (by decide) (m/9)
   have g0:=Grow.put (o:=.lst [.str "pair",.str "fun"]) hl
   refine⟨_,rfl,_,_,rfl,rfl,⟨by decide,by decide⟩,_,_,rfl,rfl,(by show(0:Int)<_;decide),l,_,_,u,rfl,rfl,zV.of qZ,ha,?_⟩
   walk_at "d"
   generalize upd H l (.lst [.str "pair",.str "fun"])=H0 at g0⊢
   refine⟨_,rfl,_,rfl,_,_,rfl,rfl,⟨by decide,by decide⟩,_,rfl,_,_,rfl,rfl,_,e,(by show[V.int _,V.int (((e+1:Nat):Int)-1)]=_;rw[ed]),by omega,fun v k H1 g1 hv hk=>?_⟩
   refine⟨_,rfl,_,_,rfl,rfl,⟨by decide,by decide⟩,_,rfl,_,_,rfl,rfl,_,e,(by show[V.int _,V.int (((e+1:Nat):Int)-1)]=_;rw[ed]),by omega,fun v2 k2 H2 g2 hv2 hk2=>?_⟩
   refine⟨zl3,fun t ht=>?_⟩
   have g3:Grow H2 (upd H2 t (.tup [u,v,v2])):=Grow.put ht
   have g03:=((g0.trans g1).trans g2).trans g3
   simp only[List.mem_cons,List.not_mem_nil,or_false]at hu
   rcases hu with rfl|rfl
   ·exact q _ (.pair k k2) _ g03 (kF (qA.of qZ) (hv.mono (g2.trans g3).same) (hv2.mono g3.same)) (by rw[Kd.sz];omega)
   ·exact q _ (.fn k k2) _ g03 (kF (qA.of qZ) (hv.mono (g2.trans g3).same) (hv2.mono g3.same)) (by rw[Kd.sz];omega)
end
end K14
namespace L2
open PySem PySem.Spec PyProof.Rows PyProof Dt
theorem jY{b:Bool}{A B:Prop}(hb:b=false)(h:B):if b=true then A else B:=by subst hb;exact jQ h
theorem xQ{b:Bool}{A B:Prop}(hb:b=true)(h:A):if b=true then A else B:=by subst hb;exact jO h
section
variable {X:Cx}
theorem dR{n:Nat}(K:Fg)(hK:X.K=K)(hu:X.A.units+n<cLine):wQ X (compareOp .Eq) (fun x y H Q=>∃d e,qU K H d x/\qU K H e y/\dep d<=n/\Q (.bl (eqD d e)) H):=by
 subst hK
 intro pins s σ H x y v u Q I rx ry h
 obtain⟨d,e,h1,h2,hn,q⟩:=h
 exact jS pins s σ H x y v u Q I rx ry ⟨d,e,h1,h2,by omega,q⟩
theorem gN(hu:X.A.units<cLine):wQ X (compareOp .NotEq) (fun x y H Q=>∃p q xs,x= .ref p/\y= .ref q/\zV X.K H p xs/\zV X.K H q []/\Q (.bl (!xs.isEmpty)) H):=by
 intro pins s σ H x y v u Q I rx ry h
 obtain⟨p,q',xs,rfl,rfl,h1,h2,q⟩:=h
 cases rx
 cases ry
 obtain⟨its,r1,p1,_⟩:=I.list h1
 obtain⟨its2,r2,p2,_⟩:=I.list h2
 cases r2
 cases r1 with
 |nil=>exact SeqAt.RcNeAt.lists (e:=fun _=>true) p1.isList p2.isList rfl hu (fun j h _=>absurd h (by simp)) X.prog X.w X.xe _ ⟨.bl false,H,I,rfl,q⟩
 |cons a b=>exact SeqAt.RcNeAt.lists_lengths p1.isList p2.isList (by simp) hu X.prog X.w X.xe _ ⟨.bl true,H,I,rfl,q⟩
variable {scope:Scope} {cl:List (Str×Addr)} {own rest:List Str} {ix:List Nat}
theorem iB{elt iter tg c:Expr}{pos spos py:Pos}{wi:TI}{te:TE}{g:TG}{tc:TT}{i:Nat}{x:Str}(hN:X.N.Nodup)(hi':X.N[i]? =some x)(hx:Loc X.env.scope x)(ok:yS X scope cl own rest ix)(hc:X.calm=true)(hi:PI X tg iter wi)
  (he:∀(C:Addr)(s:Shared)(H:Hp)(fp:List Addr)(pins:List (Addr×Obj)),PE (kP X scope cl (own++rest) C s H fp pins) elt te)(hg:∀(C:Addr)(s:Shared)(H:Hp)(fp:List Addr)(pins:List (Addr×Obj)),PG (kP X scope cl (own++rest) C s H fp pins) tg g)
  (hif:∀(C:Addr)(s:Shared)(H:Hp)(fp:List Addr)(pins:List (Addr×Obj)),PT (kP X scope cl (own++rest) C s H fp pins) c tc)
  (hsw:swapsWith (.ListComp elt [⟨tg,iter,[c],0⟩] scope pos) (some (.Name x py)) spos.line X.env=pure true)(hf:X.fn x=true\/X.env.scope.names.lookup x=some .local)
  (hs:∀x,foldedSetIterable iter X.env x=pure x:=by intro _;rfl):PS X (.Assign [.Name x py] (.ListComp elt [⟨tg,iter,[c],0⟩] scope pos) spos) (cE (nZ wi g (some tc) te own.length ix) (xU i)):=tQ (tc:=some tc) hN hi' hx ok hc hi he hg hif hsw hf hs
end
theorem eX{K:Fg}{a:Addr}{xs:List V}{te:TE}{tc:TT}{ix:List Nat}{σ:St}{H:Hp}{D:Addr}{R:Hp->Prop}(Pv:Nat->List V->Hp->Prop)(h0:Pv 0 [] (upd H D (.lst [])))(hx:∀i ys H',i<=xs.length->Pv i ys H'->zV K H' a xs)
  (he:∀i x ys H',xs[i]? =some x->Pv i ys H'->∃T u v,x= .ref T/\qA K H' T [u,v]/\∀Q':Bool->Hp->Prop,(∀H5,Pv (i+1) ys H5->Q' false H5)->
   (∀H5,(∀Q'':VK,(∀y H6,H6 D=some (.lst ys)->ys.length<sizeLine->Pv (i+1) (ys++[y]) (upd H6 D (.lst (ys++[y])))->Q'' y H6)->te (xS ix [some u,some v] σ) H5 Q'')->Q' true H5)->tc (xS ix [some u,some v] σ) H' Q')
  (q:∀ys H',Pv xs.length ys H'->R H'):
  ∃W:Nat->Nat->List V->Hp->Prop,(∃m,W 0 m [] (upd H D (.lst [])))/\∀i m ys H2,W i m ys H2->
   ((Itl K a).stop i H2/\R H2)\/((Itl K a).go i H2/\∀(o:List (Option V))v H3,o.length=2->(Itl K a).yld i H2 v H3->qJ4 K 2 (uW (xU 0) (uW (xU 1) qJ3)) v (xS ix o σ) H3 fun σ2 H4=>(∃o':List (Option V),σ2=xS ix o' σ/\o'.length=2)/\
    ifT (some tc) σ2 H4 fun b H5=>if b=true then te σ2 H5 fun y H6=>H6 D=some (.lst ys)/\ys.length<sizeLine/\∃m',m'<m/\W (i+1) m' (ys++[y]) (upd H6 D (.lst (ys++[y])))else∃m',m'<m/\W (i+1) m' ys H5):=by
 refine⟨fun i m ys H2=>i<=xs.length/\m=xs.length-i/\Pv i ys H2,⟨_,Nat.zero_le _,rfl,h0⟩,?_⟩
 rintro i m ys H2 ⟨hi,rfl,p⟩
 have hx2:=hx i ys H2 hi p
 by_cases hl:i<xs.length
 ·refine .inr ⟨⟨xs,xs[i],hx2,aq15 hl⟩,fun o v H3 ho hy=>?_⟩
  obtain⟨rfl,hv⟩:=hy
  have hv':=hv xs hx2
  obtain⟨T,u,w,rfl,hT,hc⟩:=he i v ys _ hv' p
  match o,ho with
  |[_,_],_=>
   refine⟨T,_,rfl,hT,rfl,_,_,rfl,_,_,rfl,rfl,⟨[some u,some w],rfl,rfl⟩,?_⟩
   dsimp only[ifT]
   refine hc _ (fun H5 p5=>jQ ⟨xs.length-(i+1),by omega,hl,rfl,p5⟩) fun H5 h5=>jO (h5 _ fun y H6 e1 e2 p6=>⟨e1,e2,xs.length-(i+1),by omega,hl,rfl,p6⟩)
 ·have e:i=xs.length:=by omega
  subst e
  exact .inl ⟨⟨xs,hx2,aq7 _⟩,q _ _ p⟩
end L2
namespace K14
open PySem L2 PyProof Dt
def edt(e:Str×Kd):Dt:=.tup [.str e.1,e.2.dt]
def cP(K:Fg)(H:Hp)(sc:Addr)(es:Cxt):Prop:=∃vs,H sc=some (.lst vs)/\qR K H (es.map edt) vs/\∀e∈es,e.2.sz<=40
def bdt(es:Cxt)(x:Str):Dt:=match es.reverse.lookup x with
 |none=>.non
 |some k=>k.dt
section
variable {P:Program} {w:World} {K:Fg} {mg:Str->Option Value} {base:Heap} {f:Addr} {fd:FuncData} {H H':Hp} {sc:Addr} {es:Cxt}
theorem cP.mono(h:cP K H sc es)(g:Grow H H'):cP K H' sc es:=let⟨vs,a,b,c⟩:=h;⟨vs,g.same _ _ a,b.mono g.same,c⟩
theorem qFj:qU K H .non .non:=by rw[qU]
theorem gF{vs:List V}(hv:qR K H (es.map edt) vs){i:Nat}{y:V}(hy:vs[i]? =some y):∃x k T u,es[i]? =some (x,k)/\y= .ref T/\qA K H T [.str x,u]/\qU K H k.dt u:=by
 have hl:vs.length=es.length:=by rw[hv.length,aq16]
 have hi:i<vs.length:=by
  rcases Nat.lt_or_ge i vs.length with h|h
  ·exact h
  ·rw[List.getElem?_eq_none h]at hy;cases hy
 have he:es[i]? =some (es[i]'(by omega)):=aq15 (by omega)
 generalize es[i]'(by omega)=e at he
 obtain⟨y',hy',hyd⟩:=hv.get (i:=i) (d:=edt e) (by rw[aq19,he];rfl)
 rw[hy]at hy'
 cases hy'
 obtain⟨T,u,rfl,h1,h2⟩:=jB hyd
 exact⟨e.1,e.2,T,u,he,rfl,h1,h2⟩
theorem gH{i:Nat}{e:Str×Kd}(he:es[i]? =some e):(es.take (i+1)).reverse=e::(es.take i).reverse:=by rw[List.take_add_one,he];simp
theorem eK{i:Nat}{x:Str}{k:Kd}(he:es[i]? =some (x,k)):bdt (es.take (i+1)) x=k.dt:=by
 unfold bdt
 rw[gH he,List.lookup_cons,beq_self_eq_true]
theorem pA{i:Nat}{x y:Str}{k:Kd}(he:es[i]? =some (x,k))(h:¬x=y):bdt (es.take (i+1)) y=bdt (es.take i) y:=by
 unfold bdt
 rw[gH he,List.lookup_cons,beq_eq_false_iff_ne.mpr (fun z=>h z.symm)]
theorem oK{x:Str}{k:Kd}:∀{l:Cxt},l.lookup x=some k->(x,k)∈l
 |[],h=>by cases h
 |(y,j)::l,h=>by
  by_cases e:x=y
  ·subst e
   rw[List.lookup_cons,beq_self_eq_true]at h
   cases h
   exact aq22
  ·rw[List.lookup_cons,beq_eq_false_iff_ne.mpr e]at h
   exact aq10 _ (oK h)
theorem qY4(x:Str)(h:∀e∈es,e.2.sz<=40):dep (bdt es x)<=40:=by
 unfold bdt
 split
 ·simp[dep]
 ·next k hk=>exact uR k (h _ (List.mem_reverse.mp (oK hk)))
theorem qH0{x:Str}{κ:Kd}(h:eqD (bdt es x) κ.dt=true):es.reverse.lookup x=some κ:=by
 unfold bdt at h
 split at h
 ·cases κ<;>simp[Kd.dt,eqD]at h
 ·next k hk=>rw[Kd.eq_dt]at h;rw[hk,of_decide_eq_true h]
def pE(K:Fg)(H:Hp)(sc:Addr)(es:Cxt):Prop:=∃vs,H sc=some (.lst vs)/\qR K H (es.map edt) vs
theorem pE.mono(h:pE K H sc es)(g:Grow H H'):pE K H' sc es:=let⟨vs,a,b⟩:=h;⟨vs,g.same _ _ a,b.mono g.same⟩
theorem cP.v(h:cP K H sc es):pE K H sc es:=let⟨vs,a,b,_⟩:=h;⟨vs,a,b⟩
inductive qL8(K:Fg)(vs:List V)(H:Hp)(Q:VK):Prop
 |mk (x:Str) (sc:Addr) (es:Cxt) (a_0:vs=[.str x,.ref sc]) (a_1:pE K H sc es) (a_2:∀u,qU K H (bdt es x) u->Q u H):qL8 K vs H Q
def eV(K:Fg):Sp:=fun vs H Q x_0=>qL8 K vs H Q
theorem eY:zQ ["_law_name","_law_scope","_law_found","_law_one","_law_kind_here"] ["_law_name","_law_scope"] (qL qF8):=by walk_at "s"
theorem zQj(F:zB K "_law_bound" "_law_bound" qF8 .none f fd):zC P w K mg base (CXE P w) 1 f fd ["_law_name","_law_scope"] (eV K):=by
 refine F.ok0 eY (by walk_at "l") ?_
 walk_at "i"
 obtain⟨x,sc,es,rfl,⟨ws,hsc,hds⟩,q⟩:=h
 refine⟨_,qK (qH (i:=2) eY.nd rfl oI qG7)
  (qK (vE PassesOwn.never rfl (vM (pv 1)) (uY rfl (xJ (jU (i:=3) eY.nd rfl oI) (xJ (jU (i:=4) eY.nd rfl oI) wO)))
   (qY (zK (qM zG (pv 3) (pv 0) (nomark _)) (qY (qH (i:=2) eY.nd rfl oI (pv 4))) qD)))
  (qY (qG (pv 2)))),?_⟩
 have hl:ws.length=es.length:=by rw[hds.length,aq16]
 refine⟨_,rfl,sc,rfl,⟨_,zV.of hsc⟩,?_⟩
 refine lZ (K:=K) (a:=sc) (xs:=ws) (fun i σ H3=>∃o3 o4 u,σ=[some (.str x),some (.ref sc),some u,o3,o4]/\H3=H/\qU K H (bdt (es.take i) x) u) ?_ ?_ ?_ ?_
 ·exact⟨_,_,.non,rfl,rfl,qFj⟩
 ·rintro i σ H3 _ ⟨_,_,_,_,rfl,_⟩
  exact zV.of hsc
 ·rintro i y σ H3 hy ⟨o3,o4,u,rfl,rfl,hu⟩
  obtain⟨n,k,T,kv,he,rfl,hT,hk⟩:=gF hds hy
  refine⟨T,_,rfl,hT,rfl,_,_,rfl,_,_,rfl,rfl,?_⟩
  refine⟨_,rfl,_,rfl,rfl,_,rfl,ite2 (fun c=>?_) (fun c=>?_)⟩
  ·have e:n=x:=by simpa using of_decide_eq_true c
   subst e
   exact⟨_,rfl,_,_,kv,rfl,rfl,by rw[eK he];exact hk⟩
  ·have e:¬n=x:=fun z=>c (by subst z;exact decide_eq_true rfl)
   exact⟨_,_,u,rfl,rfl,by rw[pA he e];exact hu⟩
 ·rintro σ H3 ⟨o3,o4,u,rfl,rfl,hu⟩
  rw[hl,List.take_of_length_le (aq7 _)]at hu
  exact⟨_,rfl,q u hu⟩
abbrev gP:List Str:=["_law_more","_law_kind_here","_law_scope"]
inductive qL9(K:Fg)(n:Nat)(vs:List V)(H:Hp)(Q:VK):Prop
 |mk (m:Int) (v:V) (sc:Addr) (κ:Kd) (es:Cxt) (a_0:vs=[.int m,v,.ref sc]) (a_1:qU K H κ.dt v) (a_2:κ.sz<n) (a_3:κ.sz<=40) (a_4:cP K H sc es) (a_5:es.length+κ.sz<=1000) (a_6:∀u p H',Grow H H'->qU K H' p.dt u->Pt.Has es.reverse p κ->p.deep<κ.sz->p.sz<=κ.sz->Q u H'):qL9 K n vs H Q
def nR(K:Fg)(n:Nat):Sp:=fun vs H Q x_0=>qL9 K n vs H Q
theorem qY5:zQ ["_law_more","_law_kind_here","_law_scope","_law_names"] gP (qL oJ):=by walk_at "s"
theorem qH1(F:zB K "_law_leaf" "_law_leaf" oJ .none f fd):zC P w K mg base (CXE P w) (0+2) f fd gP (nR K 0):=by
 refine F.ok0 qY5 (by walk_at "l") ?_
 walk_at "i"
 obtain⟨m,v,sc,κ,es,rfl,_,hd,_⟩:=h
 exact absurd hd (Nat.not_lt_zero _)
theorem cP.snoc{l:Addr}{ws:List V}{x:Str}{k:Kd}{T:Addr}{u:V}(h:cP K H sc es)(e:H sc=some (.lst ws))(hl:H l=none)(hT:qA K H T [.str x,u])(hu:qU K H k.dt u)(hk:k.sz<=40):cP K (upd H l (.lst (ws++[.ref T]))) l (es++[(x,k)]):=by
 obtain⟨ws',e',hd,hz⟩:=h
 rw[e]at e'
 cases e'
 have g:Grow H (upd H l (.lst (ws++[.ref T]))):=Grow.put hl
 refine⟨_,qZ,?_,fun y hy=>?_⟩
 ·rw[aq21]
  exact(hd.mono g.same).append (qB (jG (qA.mono g.same hT) (hu.mono g.same)) zX)
 ·rcases List.mem_append.mp hy with hy|hy
  ·exact hz y hy
  ·rw[aq20.mp hy];exact hk
theorem zZ0{n:Nat}(F:zB K "_law_leaf" "_law_leaf" oJ .none f fd)(G:dF mg)(GB:Kn P w K mg base 1 "_law_bound" ["_law_name","_law_scope"] (eV K))(GN:Kn P w K mg base 1 "_law_number" ["_law_more"] eJ)(GL:Kn P w K mg base (n+2) "_law_leaf" gP (nR K n)):zC P w K mg base (CXE P w) (n+1+2) f fd gP (nR K (n+1)):=by
 refine F.ok0 qY5 (by walk_at "l") ?_
 walk_at "i"
 obtain⟨m,v,sc,κ,es,rfl,hv,hn,h40,hS,hlen,q⟩:=h
 have ndb:((["_law_name","_law_one"]:List Str)++(["_law_scope","_law_kind_here"]:List Str)).Nodup:=by decide+kernel
 have szp:∀k:Kd,0<k.sz:=fun k=>by have :=Kd.deep_sz k;omega
 obtain⟨tl,pls,htl⟩:∃t,PSs (jN (CXE P w) P w K mg base ["_law_more","_law_kind_here","_law_scope","_law_names"] "_law_leaf" (qL oJ) f cdv A outer s H E).nox ((jH oJ).drop 2) t/\
   ∀nm H5,Grow H H5->t {nx:=fun _ H'=>Q .non H',rt:=Q} [some (.int m),some v,some (.ref sc),some nm] H5:=by
  refine⟨_,qK (qH (i:=0) qY5.nd rfl oI (qI zU (pv 0) qX))
   (qK (zK (qM jS (pv 1) qV (nomark _)) (qY (qG (qF (qQ qV (qQ (zI GN (hr.mono (by omega)) (qQ (pv 0) qJ)) qJ))))) qD)
   (qK (zK (qM jS (pv 1) qV (nomark _)) (qY (qG (qF (qQ qV (qQ (zS zG (qI zM (pv 0) qX) qX (nomark _)) qJ))))) qD)
   (qK (zK (qM zG (qO qN (pv 1) qX) qV (nomark _)) (qY (qG (qF (qQ qV (qQ (qO qN (pv 1) qX) qJ))))) qD)
   (qK (zK (qM zG (qO qN (pv 1) qX) qV (nomark _)) (qY (qG (qF (qQ qV
    (qQ (zI GL hr (qQ (qI zU (pv 0) qX) (qQ (qO qN (pv 1) qX) (qQ (pv 2) qJ))))
    (qQ (zI GL hr (qQ (qI zU (pv 0) qX) (qQ (qO qN (pv 1) qX) (qQ (pv 2) qJ)))) qJ)))))) qD)
   (qY (qG (qF (qQ qV (qQ qV (qQ (qO qN (pv 1) qX)
    (qQ (zI GL hr (qQ (qI zU (pv 0) qX) (qQ (qO qN (pv 1) qX) (qQ (qI jF (pv 2) (qT (qQ (qF (qQ qV (qQ (qO qN (pv 1) qX) qJ))) qJ))) qJ)))) qJ))))))))))),?_⟩
  intro nm H5 g5
  have hv5:=hv.mono g5.same
  have hS5:=hS.mono g5
  have hdep:=vY hr (Nat.le_trans (uR κ h40) (show 40<=150 by decide))
  refine⟨_,rfl,_,_,rfl,rfl,⟨by decide,by decide⟩,?_⟩
  walk_at "d"
  generalize m/16=m'
  refine⟨_,rfl,κ.dt,Kd.int.dt,hv5,zJ _,hdep,_,rfl,?_⟩
  rw[Kd.eq_dt]
  refine ite2 (fun c=>?_) (fun c1=>?_)
  ·cases of_decide_eq_true c
   refine⟨_,rfl,m',rfl,fun z H6 g6=>⟨zl2,fun t ht=>?_⟩⟩
   have g7:Grow H6 (upd H6 t (.tup [.str "num",.int z])):=Grow.put ht
   exact q _ (.num z) _ ((g5.trans g6).trans g7) (jG (qA.of qZ) (by rw[qU])) .num (by simp[Pt.deep,Kd.sz]) (by simp[Pt.sz,Kd.sz])
  refine⟨_,rfl,κ.dt,Kd.bool.dt,hv5,zJ _,hdep,_,rfl,?_⟩
  rw[Kd.eq_dt]
  refine ite2 (fun c=>?_) (fun c2=>?_)
  ·cases of_decide_eq_true c
   refine⟨_,rfl,_,_,rfl,rfl,(by show(0:Int)<_;decide),rfl,zl2,fun t ht=>?_⟩
   exact q _ (.tru (decide (V.int (m'%2)=V.int 1))) _ (g5.trans (Grow.put ht)) (jG (qA.of qZ) (by rw[qU])) .tru (by simp[Pt.deep,Kd.sz]) (by simp[Pt.sz,Kd.sz])
  cases κ with
  |int=>exact absurd (decide_eq_true rfl) c1
  |bool=>exact absurd (decide_eq_true rfl) c2
  |list k=>
   obtain⟨a,u,rfl,ha,hu⟩:=jB hv5
   refine⟨_,rfl,a,_,_,.str "list",rfl,rfl,ha,qW (j:=0) rfl,rfl,_,rfl,xQ (by decide+kernel) ?_⟩
   refine⟨_,rfl,a,_,_,u,rfl,rfl,ha,qW (j:=1) rfl,zl2,fun t ht=>?_⟩
   have g7:Grow H5 (upd H5 t (.tup [.str "nil",u])):=Grow.put ht
   exact q _ (.nil k) _ (g5.trans g7) (jG (qA.of qZ) (hu.mono g7.same)) (.nil h40) (by simp[Pt.deep,Kd.sz]) (by simp[Pt.sz,Kd.sz])
  |pair k l=>
   obtain⟨a,u,x,rfl,ha,hu,hx⟩:=xV hv5
   refine⟨_,rfl,a,_,_,.str "pair",rfl,rfl,ha,qW (j:=0) rfl,rfl,_,rfl,jY (by decide+kernel) ?_⟩
   refine⟨_,rfl,a,_,_,.str "pair",rfl,rfl,ha,qW (j:=0) rfl,rfl,_,rfl,xQ (by decide+kernel) ?_⟩
   have e:(Kd.pair k l).sz=k.sz+l.sz+1:=rfl
   have :=szp k
   have :=szp l
   refine⟨_,rfl,_,_,rfl,rfl,⟨by decide,by decide⟩,_,rfl,a,_,_,u,rfl,rfl,ha,qW (j:=1) rfl,_,rfl,_,u,sc,k,es,rfl,hu,by omega,by omega,hS5,by omega,fun u1 p1 H6 g6 hu1 hp1 d1 z1=>?_⟩
   have ha6:=qA.mono g6.same ha
   refine⟨_,rfl,_,_,rfl,rfl,⟨by decide,by decide⟩,_,rfl,a,_,_,x,rfl,rfl,ha6,qW (j:=2) rfl,_,rfl,_,x,sc,l,es,rfl,hx.mono g6.same,by omega,by omega,hS5.mono g6,by omega,fun u2 p2 H7 g7 hu2 hp2 d2 z2=>?_⟩
   refine⟨zl3,fun t ht=>?_⟩
   have g8:Grow H7 (upd H7 t (.tup [.str "pair",u1,u2])):=Grow.put ht
   refine q _ (.two .pair p1 p2) _ (((g5.trans g6).trans g7).trans g8) (kF (qA.of qZ) (hu1.mono (g7.trans g8).same) (hu2.mono g8.same)) (.two hp1 hp2 rfl h40) ?_ ?_
   ·show max p1.deep p2.deep+1<_;omega
   ·show p1.sz+p2.sz+1<=_;omega
  |fn k l=>
   obtain⟨a,u,x,rfl,ha,hu,hx⟩:=xV hv5
   refine⟨_,rfl,a,_,_,.str "fun",rfl,rfl,ha,qW (j:=0) rfl,rfl,_,rfl,jY (by decide+kernel) ?_⟩
   refine⟨_,rfl,a,_,_,.str "fun",rfl,rfl,ha,qW (j:=0) rfl,rfl,_,rfl,jY (by decide+kernel) ?_⟩
   have e:(Kd.fn k l).sz=k.sz+l.sz+1:=rfl
   have :=szp k
   have :=szp l
   obtain⟨ws,hsc,_,_⟩:=id hS5
   refine⟨_,rfl,a,_,_,u,rfl,rfl,ha,qW (j:=1) rfl,_,rfl,_,_,rfl,rfl,⟨by decide,by decide⟩,_,rfl,a,_,_,x,rfl,rfl,ha,qW (j:=2) rfl,_,rfl,_,rfl,a,_,_,u,rfl,rfl,ha,qW (j:=1) rfl,zl2,fun T hT=>?_⟩
   have g6:Grow H5 (upd H5 T (.tup [.str "u",u])):=Grow.put hT
   have eT:qA K (upd H5 T (.tup [.str "u",u])) T [.str "u",u]:=qA.of qZ
   generalize upd H5 T (.tup [.str "u",u])=H6 at g6 eT⊢
   refine⟨zl1,fun l1 hl1=>?_⟩
   have g7:Grow H6 (upd H6 l1 (.lst [.ref T])):=Grow.put hl1
   have el:(upd H6 l1 (.lst [.ref T])) l1=some (.lst [.ref T]):=qZ
   generalize upd H6 l1 (.lst [.ref T])=H7 at g7 el⊢
   have g57:=g6.trans g7
   have hws:ws.length=es.length:=by
    obtain⟨ws',e',hd,_⟩:=hS5
    rw[hsc]at e';cases e'
    rw[hd.length,aq16]
   refine⟨sc,l1,_,_,rfl,rfl,g57.same _ _ hsc,el,by rw[sizeLine_eq];simp;omega,fun l2 hl2=>?_⟩
   have g8:Grow H7 (upd H7 l2 (.lst (ws++[.ref T]))):=Grow.put hl2
   have hS8:=(hS5.mono g57).snoc (k:=k) (g57.same _ _ hsc) hl2 (qA.mono g7.same eT) (hu.mono g57.same) (by omega)
   generalize upd H7 l2 (.lst (ws++[.ref T]))=H8 at g8 hS8⊢
   have g58:=g57.trans g8
   refine⟨_,x,l2,l,es++[(("u":Str),k)],rfl,hx.mono g58.same,by omega,by omega,hS8,by rw[List.length_append];simp;omega,fun u1 p1 H9 g9 hu1 hp1 d1 z1=>?_⟩
   refine⟨zl4,fun t ht=>?_⟩
   have g10:Grow H9 (upd H9 t (.tup [.str "fn",.str "u",u,u1])):=Grow.put ht
   rw[List.reverse_append]at hp1
   refine q _ (.fn "u" k p1) _ (((g5.trans g58).trans g9).trans g10) (wA (qA.of qZ) (zJ _) (hu.mono ((g58.trans g9).trans g10).same) (hu1.mono g10.same)) (.fn hp1 h40) ?_ ?_
   ·show p1.deep+1<_;omega
   ·show p1.sz+1<=_;omega
 refine⟨_,qK (iB (i:=3) qY5.nd rfl oI (qI3 (own:=["_law_name","_law_one"]) (x:="_law_scope") (y:="_law_kind_here") (i:=2) (j:=1) (by decide+kernel) (by rfl) (by decide+kernel) (by rfl) (by decide+kernel) (by rfl) (by rfl) (by decide+kernel) (by rfl) (by rfl) (.inl (by rfl)) (.inl (by rfl)) (by rfl) (by rfl) (by decide+kernel)) rfl
   (vM (pv 2)) (fun C s H fp pins=>pv 0) (fun C s H fp pins=>sA K rfl rfl ndb rfl rfl oI oI (by rfl) (by rfl))
   (fun C s H fp pins=>PW.pt (xR (qM (dR K rfl (vY hr (aq7 _))) (pv 1) (pv 3) (nomark _)) (xY (qM (dR K rfl (vY hr (aq7 _))) (zI GB (hr.mono (by omega)) (qQ (pv 0) (qQ (pv 2) qJ))) (pv 3) (nomark _))))) (by rfl) (Or.inr (by rfl)))
  (qK (zK (xR (qM (gN hr.units0) (pv 3) (qT qJ) (nomark _)) (xY (qM bX (qI zM (pv 0) qX) qX (nomark _)))).pt
   (qY (qG (qF (qQ qV (qQ (qO qP (pv 3) (qI zM (qI zU (pv 0) qX) (zW zP (by rfl) G.len aq27 (qQ (pv 3) qJ)))) qJ))))) qD) pls),?_⟩
 obtain⟨ws,hsc,hds,hz⟩:=id hS
 have hws:ws.length=es.length:=by rw[hds.length,aq16]
 refine⟨_,rfl,sc,rfl,⟨_,zV.of hsc⟩,fun D hD=>?_⟩
 refine eX (K:=K) (a:=sc) (xs:=ws) (R:=_) (fun i ys H2=>Grow H H2/\H2 D=some (.lst ys)/\ys.length<=i/\∀y∈ys,∃x,y= .str x/\es.reverse.lookup x=some κ) ⟨Grow.put hD,qZ,aq7 _,fun y h=>by cases h⟩ ?_ ?_ ?_
 ·rintro i ys H2 _ ⟨g,_⟩
  exact zV.of (g.same _ _ hsc)
 ·rintro i y ys H2 hy ⟨g,eD,hyl,hall⟩
  obtain⟨x,k,T,kv,he,rfl,hT,hk⟩:=gF (hds.mono g.same) hy
  refine⟨T,.str x,kv,rfl,hT,fun Q' qf qt=>?_⟩
  have hi:i<es.length:=(List.getElem?_eq_some_iff.mp he).1
  have kz:=hz _ (aq23 he)
  refine⟨_,rfl,_,rfl,k.dt,κ.dt,hk,hv.mono g.same,Nat.le_trans (uR k kz) (by decide),_,rfl,ite2 (fun _=>?_) (fun _=>qf _ ⟨g,eD,by omega,hall⟩)⟩
  refine⟨_,rfl,_,rfl,x,sc,es,rfl,(hS.mono g).v,fun u hu=>?_⟩
  refine⟨_,rfl,bdt es x,κ.dt,hu,hv.mono g.same,Nat.le_trans (qY4 x hz) (by decide),_,rfl,?_⟩
  cases hb:eqD (bdt es x) κ.dt with
  |false=>exact qf _ ⟨g,eD,by omega,hall⟩
  |true=>
   refine qt _ fun Q'' hq=>⟨_,rfl,hq _ _ eD (by rw[sizeLine_eq];omega) ⟨g.set hD,qZ,by rw[List.length_append];simp;omega,fun y hy=>?_⟩⟩
   rcases List.mem_append.mp hy with hy|hy
   ·exact hall y hy
   ·rw[aq20.mp hy];exact⟨x,rfl,qH0 hb⟩
 ·rintro ys H2 ⟨g,eD,hyl,hall⟩
  walk_at "d"
  refine⟨_,rfl,zl0,fun l hl=>?_⟩
  have g2:Grow H2 (upd H2 l (.lst [])):=Grow.put hl
  have eD2:=g2.same _ _ eD
  have en:(upd H2 l (.lst [])) l=some (.lst []):=qZ
  generalize upd H2 l (.lst [])=H3 at g2 eD2 en⊢
  have g03:=g.trans g2
  refine⟨D,l,ys,rfl,rfl,zV.of eD2,zV.of en,_,rfl,ite2 (fun hne=>?_) (fun _=>jQ (htl _ _ g03))⟩
  have hne':ys≠[]:=fun z=>absurd hne (by rw[z];simp)
  have hpos:0<ys.length:=List.length_pos_iff.mpr hne'
  have hlp:(0:Int)<((ys.length:Nat):Int):=by omega
  refine⟨_,rfl,_,_,rfl,rfl,(by show(0:Int)<_;decide),_,_,rfl,rfl,_,rfl,ite2 (fun _=>?_) (fun _=>htl _ _ g03)⟩
  obtain⟨y,hy,ha⟩:=xZ (xs:=ys) (n:=(ys.length:Nat)) rfl hlp (m/4)
  obtain⟨x,rfl,hx⟩:=hall y hy
  refine⟨_,rfl,_,rfl,_,_,rfl,rfl,⟨by decide,by decide⟩,_,rfl,D,_,rfl,.inl (zV.of eD2),_,_,rfl,rfl,hlp,D,_,_,.str x,rfl,rfl,zV.of eD2,ha,zl2,fun t ht=>?_⟩
  have g4:Grow H3 (upd H3 t (.tup [.str "name",.str x])):=Grow.put ht
  have :=szp κ
  exact q _ (.nam x) _ (g03.trans g4) (jG (qA.of qZ) (zJ _)) (.nam hx h40) (by show 0<_;omega) (by show 1<=_;omega)
end
def Gz:Nat->Nat
 |0=>31
 |d+1=>3*Gz d+10
theorem Gz31:∀d,31<=Gz d
 |0=>aq7 _
 |d+1=>by have :=Gz31 d;rw[Gz];omega
section
variable {P:Program} {w:World} {K:Fg} {mg:Str->Option Value} {base:Heap} {f:Addr} {fd:FuncData} {H H':Hp} {sa sc:Addr} {es:Cxt} {d:Nat}
structure Tl(K:Fg)(H:Hp)(es:Cxt)(d:Nat)(p:Pt)(κ:Kd)(u:V):Prop where
 at_:qU K H p.dt u
 has:Pt.Has es.reverse p κ
 deep:p.deep<=31+4*d
 sz:p.sz<=Gz d
theorem Tl.mono{p:Pt}{κ:Kd}{u:V}(h:Tl K H es d p κ u)(g:Grow H H'):Tl K H' es d p κ u:=⟨h.at_.mono g.same,h.has,h.deep,h.sz⟩
structure Ev(K:Fg)(H:Hp)(sa sc:Addr)(es:Cxt)(d:Nat):Prop where
 scr:∃ns:List Int,zV K H sa (ns.map V.int)/\ns.length<=63
 sco:cP K H sc es
 len:es.length+2*d<=500
theorem Ev.mono(h:Ev K H sa sc es d)(g:Grow H H'):Ev K H' sa sc es d:=⟨let⟨ns,a,b⟩:=h.scr;⟨ns,g.same.seq a,b⟩,h.sco.mono g,h.len⟩
theorem Ev.le{e:Nat}(h:Ev K H sa sc es d)(he:e<=d):Ev K H sa sc es e:=⟨h.scr,h.sco,by have :=h.len;omega⟩
theorem Ev.wider{sc':Addr}{x:Str}{k:Kd}(h:Ev K H sa sc es (d+1))(hs:cP K H sc' (es++[(x,k)])):Ev K H sa sc' (es++[(x,k)]) d:=⟨h.scr,hs,by have :=h.len;rw[List.length_append];simp;omega⟩
theorem kpos(k:Kd):0<k.sz:=by have :=Kd.deep_sz k;omega
theorem Tl.one{p:Pt}{κ m:Kd}{u:V}{t:Addr}(o:U1)(h:Tl K H es d p κ u)(ht:qA K H t [.str o.str,u])(hk:Pt.k1 o κ=some m)(hm:m.sz<=40):Tl K H es (d+1) (.one o p) m (.ref t):=
 ⟨jG ht h.at_,.one h.has hk hm,by have :=h.deep;show p.deep+1<=_;omega,by have :=h.sz;show p.sz+1<=3*Gz d+10;omega⟩
theorem Tl.two{p1 p2:Pt}{κ1 κ2 m:Kd}{u1 u2:V}{t:Addr}(o:U2)(h1:Tl K H es d p1 κ1 u1)(h2:Tl K H es d p2 κ2 u2)(ht:qA K H t [.str o.str,u1,u2])(hk:Pt.k2 o κ1 κ2=some m)(hm:m.sz<=40):Tl K H es (d+1) (.two o p1 p2) m (.ref t):=
 ⟨kF ht h1.at_ h2.at_,.two h1.has h2.has hk hm,by have :=h1.deep;have :=h2.deep;show max p1.deep p2.deep+1<=_;omega,by have :=h1.sz;have :=h2.sz;show p1.sz+p2.sz+1<=3*Gz d+10;omega⟩
theorem Tl.ite{p1 p2 p3:Pt}{κ:Kd}{u1 u2 u3:V}{t:Addr}(h1:Tl K H es d p1 .bool u1)(h2:Tl K H es d p2 κ u2)(h3:Tl K H es d p3 κ u3)(ht:qA K H t [.str "if",u1,u2,u3]):Tl K H es (d+1) (.ite p1 p2 p3) κ (.ref t):=
 ⟨wA ht h1.at_ h2.at_ h3.at_,.ite h1.has h2.has h3.has,by have :=h1.deep;have :=h2.deep;have :=h3.deep;show max p1.deep (max p2.deep p3.deep)+1<=_;omega,by have :=h1.sz;have :=h2.sz;have :=h3.sz;show p1.sz+p2.sz+p3.sz+1<=3*Gz d+10;omega⟩
theorem yX{x:Str}{k κ:Kd}{p:Pt}(h:Pt.Has (es++[(x,k)]).reverse p κ):Pt.Has ((x,k)::es.reverse) p κ:=by rw[List.reverse_append]at h;exact h
theorem Tl.let_{p1 p2:Pt}{x:Str}{κ1 κ:Kd}{u1 u2:V}{t:Addr}(h1:Tl K H es d p1 κ1 u1)(h2:Tl K H (es++[(x,κ1)]) d p2 κ u2)(ht:qA K H t [.str "let",.str x,u1,u2]):Tl K H es (d+1) (.let_ x p1 p2) κ (.ref t):=
 ⟨wA ht (zJ x) h1.at_ h2.at_,.let_ h1.has (yX h2.has),by have :=h1.deep;have :=h2.deep;show max p1.deep p2.deep+1<=_;omega,by have :=h1.sz;have :=h2.sz;show p1.sz+p2.sz+1<=3*Gz d+10;omega⟩
theorem Tl.fn{p:Pt}{x:Str}{k l:Kd}{u v:V}{t:Addr}(h:Tl K H (es++[(x,k)]) d p l u)(hv:qU K H k.dt v)(ht:qA K H t [.str "fn",.str x,v,u])(hm:(Kd.fn k l).sz<=40):Tl K H es (d+1) (.fn x k p) (.fn k l) (.ref t):=
 ⟨wA ht (zJ x) hv h.at_,.fn (yX h.has) hm,by have :=h.deep;show p.deep+1<=_;omega,by have :=h.sz;show p.sz+1<=3*Gz d+10;omega⟩
theorem widen{x:Str}{k:Kd}{u:V}{Q:VK}(h:cP K H sc es)(hl:es.length<=1000)(hu:qU K H k.dt u)(hk:k.sz<=40)(q:∀l H',Grow H H'->cP K H' l (es++[(x,k)])->Q (.ref l) H'):
  [V.str x,u].length<=sizeLine/\∀T,H T=none->[V.ref T].length<=sizeLine/\∀l1,(upd H T (.tup [.str x,u])) l1=none->iA (.ref sc) (.ref l1) (upd (upd H T (.tup [.str x,u])) l1 (.lst [.ref T])) Q:=by
 refine⟨zl2,fun T hT=>⟨zl1,fun l1 hl1=>?_⟩⟩
 have g6:Grow H (upd H T (.tup [.str x,u])):=Grow.put hT
 have eT:qA K (upd H T (.tup [.str x,u])) T [.str x,u]:=qA.of qZ
 generalize upd H T (.tup [.str x,u])=H6 at g6 eT hl1⊢
 have g7:Grow H6 (upd H6 l1 (.lst [.ref T])):=Grow.put hl1
 have el:(upd H6 l1 (.lst [.ref T])) l1=some (.lst [.ref T]):=qZ
 generalize upd H6 l1 (.lst [.ref T])=H7 at g7 el⊢
 have g57:=g6.trans g7
 obtain⟨ws,hsc,hd,_⟩:=id h
 have hws:ws.length=es.length:=by rw[hd.length,aq16]
 refine⟨sc,l1,_,_,rfl,rfl,g57.same _ _ hsc,el,by rw[sizeLine_eq];simp;omega,fun l2 hl2=>?_⟩
 exact q l2 _ (g57.trans (Grow.put hl2)) ((h.mono g57).snoc (k:=k) (g57.same _ _ hsc) hl2 (qA.mono g7.same eT) (hu.mono g57.same) hk)
abbrev oH:List Str:=["_law_script","_law_k","_law_kind_here","_law_scope","_law_deep"]
inductive dS(K:Fg)(n:Nat)(vs:List V)(H:Hp)(Q:VK):Prop
 |mk (sa:Addr) (k:Int) (v:V) (sc:Addr) (κ:Kd) (es:Cxt) (d:Nat) (a_0:vs=[.ref sa,.int k,v,.ref sc,.int d]) (a_1:Ev K H sa sc es d) (a_2:qU K H κ.dt v) (a_3:d<n) (a_4:κ.sz+4*d<=31) (a_5:∀u p H',Grow H H'->Tl K H' es d p κ u->Q u H'):dS K n vs H Q
def vC(K:Fg)(n:Nat):Sp:=fun vs H Q x_0=>dS K n vs H Q
abbrev eO:List Str:=["_law_script","_law_k","_law_word","_law_kinds","_law_scope","_law_deep"]
inductive eI(K:Fg)(n:Nat)(vs:List V)(H:Hp)(Q:VK):Prop
 |mk (sa:Addr) (k:Int) (wd:Str) (kl:Addr) (sc:Addr) (d:Nat) (v1:V) (v2:V) (κ1:Kd) (κ2:Kd) (es:Cxt) (a_0:vs=[.ref sa,.int k,.str wd,.ref kl,.ref sc,.int d]) (a_1:Ev K H sa sc es d) (a_2:zV K H kl [v1,v2]) (a_3:qU K H κ1.dt v1) (a_4:qU K H κ2.dt v2) (a_5:d<n) (a_6:κ1.sz+4*d<=31) (a_7:κ2.sz+4*d<=31) (a_8:∀t u1 u2 p1 p2 H',Grow H H'->qA K H' t [.str wd,u1,u2]->Tl K H' es d p1 κ1 u1->Tl K H' es d p2 κ2 u2->Q (.ref t) H'):eI K n vs H Q
def eC(K:Fg)(n:Nat):Sp:=fun vs H Q x_0=>eI K n vs H Q
theorem zZ1:zQ ["_law_script","_law_k","_law_word","_law_kinds","_law_scope","_law_deep","_law_one"] eO (qL qY2):=by walk_at "s"
theorem qH2{n j:Nat}(F:zB K "_law_two" "_law_two" qY2 .none f fd)(GP:Kn P w K mg base j "_law_part" oH (vC K n)):zC P w K mg base (CXE P w) (j+1) f fd eO (eC K n):=by
 refine F.ok0 zZ1 (by walk_at "l") ?_
 walk_at "i"
 obtain⟨sa,k,wd,kl,sc,d,v1,v2,κ1,κ2,es,rfl,hE,hk,h1,h2,hd,z1,z2,q⟩:=h
 refine⟨_,qK (qH (i:=6) zZ1.nd rfl oI (zI GP hr (qQ (pv 0) (qQ (qI jJ (qI jM qX (pv 1)) qX) (qQ (qO qP (pv 3) qX) (qQ (pv 4) (qQ (pv 5) qJ)))))))
  (qY (qG (qF (qQ (pv 2) (qQ (pv 6) (qQ (zI GP hr (qQ (pv 0) (qQ (qI jJ (qI jM qX (pv 1)) qX) (qQ (qO qP (pv 3) qX) (qQ (pv 4) (qQ (pv 5) qJ)))))) qJ)))))),?_⟩
 refine⟨_,rfl,_,rfl,_,_,rfl,rfl,.inl ⟨by decide,by decide⟩,_,_,rfl,rfl,_,rfl,kl,_,_,v1,rfl,rfl,hk,qW (j:=0) rfl,_,rfl,_,rfl,sa,_,v1,sc,κ1,es,d,rfl,hE,h1,hd,z1,fun u1 p1 H1 g1 t1=>?_⟩
 walk_at "d"
 refine⟨_,rfl,_,rfl,_,rfl,_,rfl,_,_,rfl,rfl,.inl ⟨by decide,by decide⟩,_,_,rfl,rfl,_,rfl,kl,_,_,v2,rfl,rfl,g1.same.seq hk,qW (j:=1) rfl,_,rfl,_,rfl,sa,_,v2,sc,κ2,es,d,rfl,hE.mono g1,h2.mono g1.same,hd,z2,fun u2 p2 H2 g2 t2=>?_⟩
 refine⟨zl3,fun t ht=>?_⟩
 have g3:Grow H2 (upd H2 t (.tup [.str wd,u1,u2])):=Grow.put ht
 exact q t u1 u2 p1 p2 _ ((g1.trans g2).trans g3) (qA.of qZ) (t1.mono (g2.trans g3)) (t2.mono g3)
abbrev qY6:List Str:=["_law_script","_law_k","_law_kind_here","_law_scope","_law_deep","_law_more"]
inductive qLq(K:Fg)(n:Nat)(vs:List V)(H:Hp)(Q:VK):Prop
 |mk (sa:Addr) (k:Int) (v:V) (sc:Addr) (d:Nat) (m:Int) (κ:Kd) (es:Cxt) (a_0:vs=[.ref sa,.int k,v,.ref sc,.int d,.int m]) (a_1:Ev K H sa sc es (d+1)) (a_2:qU K H κ.dt v) (a_3:d<n) (a_4:κ.sz+4*(d+1)<=31) (a_5:∀u p H',Grow H H'->Tl K H' es (d+1) p κ u->Q u H'):qLq K n vs H Q
def zZ2(K:Fg)(n:Nat):Sp:=fun vs H Q x_0=>qLq K n vs H Q
theorem eG:zQ ["_law_script","_law_k","_law_kind_here","_law_scope","_law_deep","_law_more","_law_word","_law_inner","_law_name"] qY6 (qL sOK):=by walk_at "s"
theorem qH3{n j:Nat}(F:zB K "_law_of_kind" "_law_of_kind" sOK .none f fd)(G:dF mg)(h3:3<=j)(GK:Kn P w K mg base 3 "_law_kind" ["_law_more","_law_deep"] (gM K 2))(GP:Kn P w K mg base j "_law_part" oH (vC K n))(GT:Kn P w K mg base (j+1) "_law_two" eO (eC K n)):zC P w K mg base (CXE P w) (j+2) f fd qY6 (zZ2 K n):=by
 refine F.ok0 eG (by walk_at "l") ?_
 walk_at "i"
 obtain⟨sa,k,v,sc,d,m,κ,es,rfl,hE,hv,hd,hz,q⟩:=h
 have hrP:=hr.mono (show j<=j+1 by omega)
 have hrK:=hr.mono (show 3<=j+1 by omega)
 refine⟨_,qK (zK (qM jS (pv 2) qV (nomark _))
    (qK (qH (i:=6) eG.nd rfl oI (qO qP (qT (qQ qV (qQ qV (qQ qV (qQ qV (qQ qV qJ)))))) (qI zM (pv 5) qX)))
    (qY (qG (zI GT hr (qQ (pv 0) (qQ (pv 1) (qQ (pv 6) (qQ (qT (qQ qV (qQ qV qJ))) (qQ (pv 3) (qQ (pv 4) qJ)))))))))) qD)
  (qK (zK (qM jS (pv 2) qV (nomark _))
    (qK (qH (i:=6) eG.nd rfl oI (qO qP (qT (qQ qV (qQ qV (qQ qV (qQ qV (qQ qV (qQ qV qJ))))))) (qI zM (pv 5) qX)))
    (qK (zK (qM zG (pv 6) qV (nomark _)) (qY (qG (qF (qQ (pv 6) (qQ (zI GP hrP (qQ (pv 0) (qQ (qI jJ (qI jM qX (pv 1)) qX) (qQ qV (qQ (pv 3) (qQ (pv 4) qJ)))))) qJ))))) qD)
    (qK (zK (qM zG (pv 6) qV (nomark _)) (qY (qG (qF (qQ (pv 6) (qQ (zI GP hrP (qQ (pv 0) (qQ (qI jJ (qI jM qX (pv 1)) qX) (qQ (qF (qQ qV (qQ (zI GK hrK (qQ (qI zU (pv 5) qX) (qQ qX qJ))) qJ))) (qQ (pv 3) (qQ (pv 4) qJ)))))) qJ))))) qD)
    (qK (qH (i:=7) eG.nd rfl oI (qO qP (qT (qQ qV (qQ qV qJ))) (zD zA (by rfl) G.int PyProof.Rows.boot_int (qQ (zS jW (pv 6) (qT (qQ qV (qQ qV qJ))) rfl) qJ))))
    (qY (qG (zI GT hr (qQ (pv 0) (qQ (pv 1) (qQ (pv 6) (qQ (qT (qQ (pv 7) (qQ (pv 7) qJ))) (qQ (pv 3) (qQ (pv 4) qJ))))))))))))) qD)
  (qK (zK (qM zG (qO qN (pv 2) qX) qV (nomark _))
    (qK (zK (qM zG (qI zM (pv 5) qX) qX (nomark _)) (qY (qG (qF (qQ qV (qQ (zI GP hrP (qQ (pv 0) (qQ (qI jJ (qI jM qX (pv 1)) qX) (qQ (pv 2) (qQ (pv 3) (qQ (pv 4) qJ)))))) qJ))))) qD)
    (qY (qG (zI GT hr (qQ (pv 0) (qQ (pv 1) (qQ qV (qQ (qT (qQ (qO qN (pv 2) qX) (qQ (pv 2) qJ))) (qQ (pv 3) (qQ (pv 4) qJ)))))))))) qD)
  (qK (zK (qM zG (qO qN (pv 2) qX) qV (nomark _))
    (qY (qG (zI GT hr (qQ (pv 0) (qQ (pv 1) (qQ qV (qQ (qT (qQ (qO qN (pv 2) qX) (qQ (qO qN (pv 2) qX) qJ))) (qQ (pv 3) (qQ (pv 4) qJ))))))))) qD)
  (qK (qH (i:=8) eG.nd rfl oI (qO qP (qT (qQ qV (qQ qV (qQ qV qJ)))) (qI zM (pv 5) qX)))
  (qY (qG (qF (qQ qV (qQ (pv 8) (qQ (qO qN (pv 2) qX) (qQ (zI GP hrP (qQ (pv 0) (qQ (qI jJ (qI jM qX (pv 1)) qX) (qQ (qO qN (pv 2) qX)
   (qQ (qI jF (pv 3) (qT (qQ (qF (qQ (pv 8) (qQ (qO qN (pv 2) qX) qJ))) qJ))) (qQ (pv 4) qJ)))))) qJ))))))))))),?_⟩
 have hdep:=vY hr (Nat.le_trans (uR κ (by omega)) (show 40<=150 by decide))
 have hE':=hE.le (Nat.le_succ d)
 have hlen:=hE.len
 have kp:=kpos κ
 refine⟨_,rfl,κ.dt,Kd.int.dt,hv,zJ _,hdep,_,rfl,?_⟩
 rw[Kd.eq_dt]
 refine ite2 (fun c=>?_) (fun c1=>?_)
 ·cases of_decide_eq_true c
  refine⟨(by show 5<=sizeLine;decide),fun l hl=>?_⟩
  obtain⟨y,hy,ha⟩:=xZ (xs:=[.str "plus",.str "minus",.str "times",.str "over",.str "rest"]) (n:=5) rfl (by decide) m
  refine⟨_,rfl,_,_,rfl,rfl,(by show(0:Int)<_;decide),l,_,_,y,rfl,rfl,zV.of qZ,ha,?_⟩
  have g:=Grow.put (o:=.lst [.str "plus",.str "minus",.str "times",.str "over",.str "rest"]) hl
  generalize upd H l (.lst [.str "plus",.str "minus",.str "times",.str "over",.str "rest"])=H1 at g⊢
  walk_at "d"
  obtain⟨o,rfl,ho⟩:∃o:U2,y= .str o.str/\Pt.k2 o .int .int=some .int:=by
   simp only[List.mem_cons,List.not_mem_nil,or_false]at hy
   rcases hy with rfl|rfl|rfl|rfl|rfl
   ·exact⟨.plus,rfl,rfl⟩
   ·exact⟨.minus,rfl,rfl⟩
   ·exact⟨.times,rfl,rfl⟩
   ·exact⟨.over,rfl,rfl⟩
   ·exact⟨.rest,rfl,rfl⟩
  refine⟨_,rfl,_,rfl,_,rfl,zl2,fun kl hkl=>?_⟩
  have g2:=Grow.put (o:=.lst [.str "int",.str "int"]) hkl
  have ek:zV K (upd H1 kl (.lst [.str "int",.str "int"])) kl [.str "int",.str "int"]:=zV.of qZ
  generalize upd H1 kl (.lst [.str "int",.str "int"])=H2 at g2 ek⊢
  have g02:=g.trans g2
  refine⟨_,rfl,_,rfl,sa,k,_,kl,sc,d,_,_,.int,.int,es,rfl,hE'.mono g02,ek,zJ _,zJ _,hd,by simp only[Kd.sz]at hz⊢;omega,by simp only[Kd.sz]at hz⊢;omega,fun t u1 u2 p1 p2 H3 g3 ht t1 t2=>?_⟩
  exact q _ _ _ (g02.trans g3) (t1.two o t2 ht ho (by decide))
 refine⟨_,rfl,κ.dt,Kd.bool.dt,hv,zJ _,hdep,_,rfl,?_⟩
 rw[Kd.eq_dt]
 refine ite2 (fun c=>?_) (fun c2=>?_)
 ·cases of_decide_eq_true c
  refine⟨zl6,fun l hl=>?_⟩
  obtain⟨y,hy,ha⟩:=xZ (xs:=[.str "less",.str "same",.str "and",.str "or",.str "not",.str "empty"]) (n:=6) rfl (by decide) m
  refine⟨_,rfl,_,_,rfl,rfl,(by show(0:Int)<_;decide),l,_,_,y,rfl,rfl,zV.of qZ,ha,?_⟩
  have g:=Grow.put (o:=.lst [.str "less",.str "same",.str "and",.str "or",.str "not",.str "empty"]) hl
  generalize upd H l (.lst [.str "less",.str "same",.str "and",.str "or",.str "not",.str "empty"])=H1 at g⊢
  walk_at "d"
  have hE1:=hE'.mono g
  have z3:(1:Nat)+4*d<=31:=by simp only[Kd.sz]at hz;omega
  obtain rfl|rfl|⟨o,b,rfl,n1,n2,hb,hk⟩:y= .str "not"\/y= .str "empty"\/∃(o:U2)(b:Bool),y= .str o.str/\decide (V.str o.str=V.str "not")=false/\decide (V.str o.str=V.str "empty")=false/\kQ (.str o.str) [.str "and",.str "or"]=b/\Pt.k2 o (if b then .bool else .int) (if b then .bool else .int)=some .bool:=by
   simp only[List.mem_cons,List.not_mem_nil,or_false]at hy
   rcases hy with rfl|rfl|rfl|rfl|rfl|rfl
   ·exact .inr (.inr ⟨.less,false,rfl,by decide+kernel,by decide+kernel,by decide+kernel,rfl⟩)
   ·exact .inr (.inr ⟨.same,false,rfl,by decide+kernel,by decide+kernel,by decide+kernel,rfl⟩)
   ·exact .inr (.inr ⟨.and,true,rfl,by decide+kernel,by decide+kernel,by decide+kernel,rfl⟩)
   ·exact .inr (.inr ⟨.or,true,rfl,by decide+kernel,by decide+kernel,by decide+kernel,rfl⟩)
   ·exact .inl rfl
   ·exact .inr (.inl rfl)
  ·refine⟨_,rfl,rfl,_,rfl,xQ (by decide+kernel) ?_⟩
   refine⟨_,rfl,_,rfl,_,rfl,_,_,rfl,rfl,.inl ⟨by decide,by decide⟩,_,_,rfl,rfl,_,rfl,_,rfl,sa,_,_,sc,.bool,es,d,rfl,hE1,zJ _,hd,z3,fun u p H2 g2 tp=>?_⟩
   refine⟨zl2,fun t ht=>?_⟩
   have g3:Grow H2 (upd H2 t (.tup [.str "not",u])):=Grow.put ht
   exact q _ _ _ ((g.trans g2).trans g3) ((tp.mono g3).one .not (qA.of qZ) rfl (by decide))
  ·refine⟨_,rfl,rfl,_,rfl,jY (by decide+kernel) ?_⟩
   refine⟨_,rfl,rfl,_,rfl,xQ (by decide+kernel) ?_⟩
   refine⟨_,rfl,_,rfl,_,rfl,_,_,rfl,rfl,.inl ⟨by decide,by decide⟩,_,_,rfl,rfl,_,rfl,_,_,rfl,rfl,⟨by decide,by decide⟩,_,1,rfl,by omega,fun ov ok H2 g2 hov hoz=>?_⟩
   refine⟨zl2,fun T hT=>?_⟩
   have g3:Grow H2 (upd H2 T (.tup [.str "list",ov])):=Grow.put hT
   have aT:qU K (upd H2 T (.tup [.str "list",ov])) (Kd.list ok).dt (.ref T):=jG (qA.of qZ) (hov.mono g3.same)
   generalize upd H2 T (.tup [.str "list",ov])=H3 at g3 aT⊢
   have g13:=g2.trans g3
   have hoz':ok.sz<=3:=by have :(2:Nat)^(1+1)=4:=rfl;omega
   refine⟨_,rfl,_,rfl,sa,_,_,sc,.list ok,es,d,rfl,hE1.mono g13,aT,hd,by simp only[Kd.sz]at hz⊢;omega,fun u p H4 g4 tp=>?_⟩
   refine⟨zl2,fun t ht=>?_⟩
   have g5:Grow H4 (upd H4 t (.tup [.str "empty",u])):=Grow.put ht
   exact q _ _ _ (((g.trans g13).trans g4).trans g5) ((tp.mono g5).one .empty (qA.of qZ) rfl (by decide))
  ·refine⟨_,rfl,rfl,_,rfl,jY n1 ?_⟩
   refine⟨_,rfl,rfl,_,rfl,jY n2 ?_⟩
   refine⟨zl2,fun l0 hl0=>?_⟩
   have g2:=Grow.put (o:=.lst [.str "int",.str "bool"]) hl0
   have e2:zV K (upd H1 l0 (.lst [.str "int",.str "bool"])) l0 [.str "int",.str "bool"]:=zV.of qZ
   generalize upd H1 l0 (.lst [.str "int",.str "bool"])=H2 at g2 e2⊢
   refine⟨_,rfl,zl2,fun l2 hl2=>?_⟩
   have g3:=Grow.put (o:=.lst [.str "and",.str "or"]) hl2
   have e3:zV K (upd H2 l2 (.lst [.str "and",.str "or"])) l2 [.str "and",.str "or"]:=zV.of qZ
   have e2':=g3.same.seq e2
   generalize upd H2 l2 (.lst [.str "and",.str "or"])=H3 at g3 e3 e2'⊢
   have g03:=(g.trans g2).trans g3
   refine⟨l2,_,rfl,.inl e3,rfl,rfl,.inr ⟨b,?_,?_⟩⟩
   ·rw[if_neg Bool.false_ne_true,hb]
   cases b with
   |false=>
    refine⟨l0,_,_,.str "int",rfl,rfl,e2',qW (j:=0) rfl,?_⟩
    walk_at "d"
    refine⟨_,rfl,_,rfl,_,rfl,_,rfl,_,rfl,zl2,fun kl hkl=>?_⟩
    have g4:=Grow.put (o:=.lst [.str "int",.str "int"]) hkl
    have ek:zV K (upd H3 kl (.lst [.str "int",.str "int"])) kl [.str "int",.str "int"]:=zV.of qZ
    generalize upd H3 kl (.lst [.str "int",.str "int"])=H4 at g4 ek⊢
    have g04:=g03.trans g4
    refine⟨_,rfl,_,rfl,sa,k,_,kl,sc,d,_,_,.int,.int,es,rfl,hE'.mono g04,ek,zJ _,zJ _,hd,z3,z3,fun t u1 u2 p1 p2 H5 g5 ht t1 t2=>?_⟩
    exact q _ _ _ (g04.trans g5) (t1.two o t2 ht hk (by decide))
   |true=>
    refine⟨l0,_,_,.str "bool",rfl,rfl,e2',qW (j:=1) rfl,?_⟩
    walk_at "d"
    refine⟨_,rfl,_,rfl,_,rfl,_,rfl,_,rfl,zl2,fun kl hkl=>?_⟩
    have g4:=Grow.put (o:=.lst [.str "bool",.str "bool"]) hkl
    have ek:zV K (upd H3 kl (.lst [.str "bool",.str "bool"])) kl [.str "bool",.str "bool"]:=zV.of qZ
    generalize upd H3 kl (.lst [.str "bool",.str "bool"])=H4 at g4 ek⊢
    have g04:=g03.trans g4
    refine⟨_,rfl,_,rfl,sa,k,_,kl,sc,d,_,_,.bool,.bool,es,rfl,hE'.mono g04,ek,zJ _,zJ _,hd,z3,z3,fun t u1 u2 p1 p2 H5 g5 ht t1 t2=>?_⟩
    exact q _ _ _ (g04.trans g5) (t1.two o t2 ht hk (by decide))
 cases κ with
 |int=>exact absurd (decide_eq_true rfl) c1
 |bool=>exact absurd (decide_eq_true rfl) c2
 |list κ1=>
  obtain⟨a,u,rfl,ha,hu⟩:=jB hv
  have e:(Kd.list κ1).sz=κ1.sz+1:=rfl
  refine⟨_,rfl,a,_,_,.str "list",rfl,rfl,ha,qW (j:=0) rfl,rfl,_,rfl,xQ (by decide+kernel) ?_⟩
  refine⟨_,rfl,_,_,rfl,rfl,(by show(0:Int)<_;decide),rfl,_,rfl,ite2 (fun _=>?_) (fun _=>?_)⟩
  ·refine⟨_,rfl,_,rfl,_,_,rfl,rfl,.inl ⟨by decide,by decide⟩,_,_,rfl,rfl,_,rfl,_,rfl,_,rfl,sa,_,_,sc,.list κ1,es,d,rfl,hE',hv,hd,by omega,fun u p H2 g2 tp=>?_⟩
   refine⟨zl2,fun t ht=>?_⟩
   have g3:Grow H2 (upd H2 t (.tup [.str "tail",u])):=Grow.put ht
   exact q _ _ _ (g2.trans g3) ((tp.mono g3).one .tail (qA.of qZ) rfl (by omega))
  ·refine⟨_,rfl,_,rfl,_,rfl,a,_,_,u,rfl,rfl,ha,qW (j:=1) rfl,_,rfl,zl2,fun kl hkl=>?_⟩
   have g2:=Grow.put (o:=.lst [u,.ref a]) hkl
   have ek:zV K (upd H kl (.lst [u,.ref a])) kl [u,.ref a]:=zV.of qZ
   generalize upd H kl (.lst [u,.ref a])=H2 at g2 ek⊢
   refine⟨_,rfl,_,rfl,sa,k,_,kl,sc,d,_,_,κ1,.list κ1,es,rfl,hE'.mono g2,ek,hu.mono g2.same,hv.mono g2.same,hd,by omega,by omega,fun t u1 u2 p1 p2 H3 g3 ht t1 t2=>?_⟩
   exact q _ _ _ (g2.trans g3) (t1.two .cons t2 ht (by simp[Pt.k2]) (by omega))
 |pair κ1 κ2=>
  obtain⟨a,u,x,rfl,ha,hu,hx⟩:=xV hv
  have e:(Kd.pair κ1 κ2).sz=κ1.sz+κ2.sz+1:=rfl
  refine⟨_,rfl,a,_,_,.str "pair",rfl,rfl,ha,qW (j:=0) rfl,rfl,_,rfl,jY (by decide+kernel) ?_⟩
  refine⟨_,rfl,a,_,_,.str "pair",rfl,rfl,ha,qW (j:=0) rfl,rfl,_,rfl,xQ (by decide+kernel) ?_⟩
  refine⟨_,rfl,_,rfl,_,rfl,a,_,_,u,rfl,rfl,ha,qW (j:=1) rfl,_,rfl,a,_,_,x,rfl,rfl,ha,qW (j:=2) rfl,zl2,fun kl hkl=>?_⟩
  have g2:=Grow.put (o:=.lst [u,x]) hkl
  have ek:zV K (upd H kl (.lst [u,x])) kl [u,x]:=zV.of qZ
  generalize upd H kl (.lst [u,x])=H2 at g2 ek⊢
  refine⟨_,rfl,_,rfl,sa,k,_,kl,sc,d,_,_,κ1,κ2,es,rfl,hE'.mono g2,ek,hu.mono g2.same,hx.mono g2.same,hd,by omega,by omega,fun t u1 u2 p1 p2 H3 g3 ht t1 t2=>?_⟩
  exact q _ _ _ (g2.trans g3) (t1.two .pair t2 ht rfl (by omega))
 |fn κ1 κ2=>
  obtain⟨a,u,x,rfl,ha,hu,hx⟩:=xV hv
  have e:(Kd.fn κ1 κ2).sz=κ1.sz+κ2.sz+1:=rfl
  refine⟨_,rfl,a,_,_,.str "fun",rfl,rfl,ha,qW (j:=0) rfl,rfl,_,rfl,jY (by decide+kernel) ?_⟩
  refine⟨_,rfl,a,_,_,.str "fun",rfl,rfl,ha,qW (j:=0) rfl,rfl,_,rfl,jY (by decide+kernel) ?_⟩
  refine⟨zl3,fun l hl=>?_⟩
  obtain⟨y,hy,ham⟩:=xZ (xs:=[.str "x",.str "y",.str "z"]) (n:=3) rfl (by decide) m
  refine⟨_,rfl,_,_,rfl,rfl,(by show(0:Int)<_;decide),l,_,_,y,rfl,rfl,zV.of qZ,ham,?_⟩
  have g:=Grow.put (o:=.lst [.str "x",.str "y",.str "z"]) hl
  generalize upd H l (.lst [.str "x",.str "y",.str "z"])=H1 at g⊢
  walk_at "d"
  obtain⟨nm,rfl⟩:∃nm:Str,y= .str nm:=by
   simp only[List.mem_cons,List.not_mem_nil,or_false]at hy
   rcases hy with rfl|rfl|rfl<;>exact⟨_,rfl⟩
  have ha1:=qA.mono g.same ha
  have hu1:=hu.mono g.same
  refine⟨_,rfl,_,rfl,a,_,_,u,rfl,rfl,ha1,qW (j:=1) rfl,_,rfl,_,rfl,_,_,rfl,rfl,.inl ⟨by decide,by decide⟩,_,_,rfl,rfl,_,rfl,a,_,_,x,rfl,rfl,ha1,qW (j:=2) rfl,_,rfl,_,rfl,_,rfl,a,_,_,u,rfl,rfl,ha1,qW (j:=1) rfl,?_⟩
  refine widen (K:=K) (k:=κ1) (hE.sco.mono g) (by omega) hu1 (by omega) fun l2 H2 g2 hS2=>?_
  have g02:=g.trans g2
  refine⟨_,rfl,sa,_,x,l2,κ2,es++[(nm,κ1)],d,rfl,(hE.mono g02).wider hS2,hx.mono g02.same,hd,by omega,fun u1 p1 H3 g3 t1=>?_⟩
  refine⟨zl4,fun t ht=>?_⟩
  have g4:Grow H3 (upd H3 t (.tup [.str "fn",.str nm,u,u1])):=Grow.put ht
  exact q _ _ _ ((g02.trans g3).trans g4) ((t1.mono g4).fn (hu.mono ((g02.trans g3).trans g4).same) (qA.of qZ) (by omega))
end
section
variable {P:Program} {w:World} {K:Fg} {mg:Str->Option Value} {base:Heap} {f:Addr} {fd:FuncData} {H H':Hp} {sa sc:Addr} {es:Cxt} {d:Nat}
theorem mk1{t:Addr}{x:Str}{d1:Dt}{u1:V}(ht:H t=none)(h1:qU K H d1 u1):Grow H (upd H t (.tup [.str x,u1]))/\qU K (upd H t (.tup [.str x,u1])) (.tup [.str x,d1]) (.ref t):=by
 have g:Grow H (upd H t (.tup [.str x,u1])):=Grow.put ht
 exact⟨g,jG (qA.of qZ) (h1.mono g.same)⟩
theorem mk2{t:Addr}{x:Str}{d1 d2:Dt}{u1 u2:V}(ht:H t=none)(h1:qU K H d1 u1)(h2:qU K H d2 u2):Grow H (upd H t (.tup [.str x,u1,u2]))/\qU K (upd H t (.tup [.str x,u1,u2])) (.tup [.str x,d1,d2]) (.ref t):=by
 have g:Grow H (upd H t (.tup [.str x,u1,u2])):=Grow.put ht
 exact⟨g,kF (qA.of qZ) (h1.mono g.same) (h2.mono g.same)⟩
theorem mk3{t:Addr}{x:Str}{d1 d2 d3:Dt}{u1 u2 u3:V}(ht:H t=none)(h1:qU K H d1 u1)(h2:qU K H d2 u2)(h3:qU K H d3 u3):Grow H (upd H t (.tup [.str x,u1,u2,u3]))/\qU K (upd H t (.tup [.str x,u1,u2,u3])) (.tup [.str x,d1,d2,d3]) (.ref t):=by
 have g:Grow H (upd H t (.tup [.str x,u1,u2,u3])):=Grow.put ht
 exact⟨g,wA (qA.of qZ) (h1.mono g.same) (h2.mono g.same) (h3.mono g.same)⟩
theorem mk5{t:Addr}{x:Str}{d1 d2 d3 d4 d5:Dt}{u1 u2 u3 u4 u5:V}(ht:H t=none)(h1:qU K H d1 u1)(h2:qU K H d2 u2)(h3:qU K H d3 u3)(h4:qU K H d4 u4)(h5:qU K H d5 u5):Grow H (upd H t (.tup [.str x,u1,u2,u3,u4,u5]))/\qU K (upd H t (.tup [.str x,u1,u2,u3,u4,u5])) (.tup [.str x,d1,d2,d3,d4,d5]) (.ref t):=by
 have g:Grow H (upd H t (.tup [.str x,u1,u2,u3,u4,u5])):=Grow.put ht
 exact⟨g,qA3 (qA.of qZ) (h1.mono g.same) (h2.mono g.same) (h3.mono g.same) (h4.mono g.same) (h5.mono g.same)⟩
theorem cB(n:Int):qU K H (.int n) (.int n):=by rw[qU]
theorem zZ3(n:Bool):qU K H (.bl n) (.bl n):=by rw[qU]
theorem cP.app{l:Addr}{ws us:List V}{fs:Cxt}(h:cP K H sc es)(e:H sc=some (.lst ws))(hl:H l=none)(hu:qR K H (fs.map edt) us)(hk:∀e∈fs,e.2.sz<=40):cP K (upd H l (.lst (ws++us))) l (es++fs):=by
 obtain⟨ws',e',hd,hz⟩:=h
 rw[e]at e'
 cases e'
 have g:Grow H (upd H l (.lst (ws++us))):=Grow.put hl
 refine⟨_,qZ,?_,fun y hy=>?_⟩
 ·rw[aq21]
  exact(hd.mono g.same).append (hu.mono g.same)
 ·rcases List.mem_append.mp hy with hy|hy
  ·exact hz y hy
  ·exact hk y hy
theorem Gz0:Gz 0=31:=rfl
theorem Gz1:Gz 1=103:=rfl
theorem Tl.up{p:Pt}{κ:Kd}{u:V}(h:Tl K H es 1 p κ u):Tl K H es (d+1) p κ u:=⟨h.at_,h.has,by have :=h.deep;omega,by have :=h.sz;have :=Gz31 d;rw[Gz1]at *;rw[Gz];omega⟩
abbrev qY7:List Str:=["_law_script","_law_k","_law_kind_here","_law_scope","_law_more"]
inductive dE(K:Fg)(n:Nat)(vs:List V)(H:Hp)(Q:VK):Prop
 |mk (sa:Addr) (k:Int) (v:V) (sc:Addr) (m:Int) (κ:Kd) (es:Cxt) (a_0:vs=[.ref sa,.int k,v,.ref sc,.int m]) (a_1:Ev K H sa sc es 1) (a_2:qU K H κ.dt v) (a_3:0<n) (a_4:κ.sz+4<=31) (a_5:∀u p H',Grow H H'->Tl K H' es 1 p κ u->Q u H'):dE K n vs H Q
def eM(K:Fg)(n:Nat):Sp:=fun vs H Q x_0=>dE K n vs H Q
theorem cD:zQ ["_law_script","_law_k","_law_kind_here","_law_scope","_law_more","_law_many","_law_inner","_law_again","_law_base","_law_body"] qY7 (qL iN):=by walk_at "s"
abbrev kU(es:Cxt)(κ:Kd):Cxt:=es++[(("f":Str),Kd.fn .int κ),(("n":Str),Kd.int)]
theorem yV(es:Cxt)(κ:Kd):(kU es κ).reverse=(("n":Str),Kd.int)::(("f":Str),Kd.fn .int κ)::es.reverse:=by rw[List.reverse_append];rfl
theorem eN(es:Cxt)(κ:Kd):(kU es κ).reverse.lookup ("n":Str)=some Kd.int:=by rw[yV,List.lookup_cons,beq_self_eq_true]
theorem qH4(es:Cxt)(κ:Kd):(kU es κ).reverse.lookup ("f":Str)=some (Kd.fn .int κ):=by rw[yV,Pt.lookup_cons_ne (by decide+kernel),List.lookup_cons,beq_self_eq_true]
theorem uZ(k l:Kd):Pt.k2 .call (.fn k l) k=some l:=by simp[Pt.k2]
theorem qY8(k:Kd):Pt.k2 .cons k (.list k)=some (.list k):=by simp[Pt.k2]
end
section
variable {P:Program} {w:World} {K:Fg} {mg:Str->Option Value} {base:Heap} {f:Addr} {fd:FuncData} {H H':Hp} {sa sc:Addr} {es:Cxt} {d:Nat}
abbrev NPt:List Str:=["_law_script","_law_k","_law_kind_here","_law_scope","_law_deep","_law_more","_law_way","_law_other","_law_name","_law_wider","_law_test","_law_one","_law_at","_law_pair"]
theorem wW:zQ NPt oH (qL oX):=by walk_at "s"
theorem qH5(F:zB K "_law_part" "_law_part" oX .none f fd):zC P w K mg base (CXE P w) (4*0+46) f fd oH (vC K 0):=by
 refine F.ok0 (k:=45) wW (fun vs H Q E h=>?_) (fun cdv A outer s H vs Q E hr h=>?_)
 ·obtain⟨sa,k,v,sc,κ,es,d,rfl,_⟩:=h
  rfl
 ·obtain⟨sa,k,v,sc,κ,es,d,rfl,_,_,hd,_⟩:=h
  exact absurd hd (Nat.not_lt_zero _)
theorem zZ4{n:Nat}(F:zB K "_law_part" "_law_part" oX .none f fd)(GC:Kn P w K mg base 1 "_law_cell" ["_law_script","_law_k"] (cM K))(GD:Kn P w K mg base 1 "_law_drawn" ["_law_cell_here","_law_k"] uQ)(GL:Kn P w K mg base 43 "_law_leaf" gP (nR K 41))(GK:Kn P w K mg base 3 "_law_kind" ["_law_more","_law_deep"] (gM K 2))
  (GP:Kn P w K mg base (4*n+46) "_law_part" oH (vC K n))(GT:Kn P w K mg base (4*n+46+1) "_law_two" eO (eC K n))(GO:Kn P w K mg base (4*n+46+2) "_law_of_kind" qY6 (zZ2 K n))(GLp:Kn P w K mg base (4*n+46+1) "_law_loop" qY7 (eM K n)):zC P w K mg base (CXE P w) (4*(n+1)+46) f fd oH (vC K (n+1)):=by
 refine F.ok0 (k:=4*n+49) wW (fun vs H Q E h=>?_) (fun cdv A outer s H vs Q E hr h=>?_)
 ·obtain⟨sa,k,v,sc,κ,es,d,rfl,_⟩:=h
  rfl
 ·obtain⟨sa,k,v,sc,κ,es,d,rfl,hE,hv,hd,hz,q⟩:=h
  have h1:=hr.mono (show 1<=4*n+49 by omega)
  have h3:=hr.mono (show 3<=4*n+49 by omega)
  have h43:=hr.mono (show 43<=4*n+49 by omega)
  have hP:=hr.mono (show 4*n+46<=4*n+49 by omega)
  have hT:=hr.mono (show 4*n+46+1<=4*n+49 by omega)
  have hO:=hr.mono (show 4*n+46+2<=4*n+49 by omega)
  obtain⟨tl,pls,htl⟩:∃t,PSs (jN (CXE P w) P w K mg base NPt "_law_part" (qL oX) f cdv A outer s H E).nox ((jH oX).drop 8) t/\
    ∀(e:Nat)(mm wy:Int)(ov:V)(nm:Str)(lw:Addr)(ok:Kd)(H5:Hp),d=e+1->Grow H H5->qU K H5 ok.dt ov->ok.sz<=3->cP K H5 lw (es++[(nm,ok)])->t {nx:=fun _ H'=>Q .non H',rt:=Q} [some (.ref sa),some (.int k),some v,some (.ref sc),some (.int e),some (.int mm),some (.int wy),some ov,some (.str nm),some (.ref lw),none,none,none,none] H5:=by
   refine⟨_,qK (zK (qM zG (pv 6) qX (nomark _))
      (qK (qH (i:=10) wW.nd rfl oI (zI GP hP (qQ (pv 0) (qQ (qI jJ (qI jM qX (pv 1)) qX) (qQ qV (qQ (pv 3) (qQ (pv 4) qJ)))))))
      (qY (qG (qI wC (qF (qQ qV (qQ (pv 10) qJ))) (xH wZ (zI GT hT (qQ (pv 0) (qQ (pv 1) (qQ qV (qQ (qT (qQ (pv 2) (qQ (pv 2) qJ))) (qQ (pv 3) (qQ (pv 4) qJ))))))) (kI qX) kO))))) qD)
    (qK (zK (qM zG (pv 6) qX (nomark _))
      (qK (qH (i:=11) wW.nd rfl oI (zI GP hP (qQ (pv 0) (qQ (qI jJ (qI jM qX (pv 1)) qX) (qQ (pv 7) (qQ (pv 3) (qQ (pv 4) qJ)))))))
      (qY (qG (qF (qQ qV (qQ (pv 8) (qQ (pv 11) (qQ (zI GP hP (qQ (pv 0) (qQ (qI jJ (qI jM qX (pv 1)) qX) (qQ (pv 2) (qQ (pv 9) (qQ (pv 4) qJ)))))) qJ)))))))) qD)
    (qK (zK (qM zG (pv 6) qX (nomark _))
      (qY (qG (zI GT hT (qQ (pv 0) (qQ (pv 1) (qQ qV (qQ (qT (qQ (qF (qQ qV (qQ (pv 7) (qQ (pv 2) qJ)))) (qQ (pv 7) qJ))) (qQ (pv 3) (qQ (pv 4) qJ))))))))) qD)
    (qK (zK (qM zG (pv 6) qX (nomark _))
      (qY (qG (qF (qQ qV (qQ (zI GP hP (qQ (pv 0) (qQ (qI jJ (qI jM qX (pv 1)) qX) (qQ (qF (qQ qV (qQ (pv 2) qJ))) (qQ (pv 3) (qQ (pv 4) qJ)))))) qJ))))) qD)
    (qK (zK (qM zG (pv 6) qX (nomark _))
      (qK (qH (i:=12) wW.nd rfl oI (qI zM (qI zU (pv 5) qX) qX))
      (qK (qH (i:=13) wW.nd rfl oI (qO qP (qT (qQ (qF (qQ qV (qQ (pv 2) (qQ (pv 7) qJ)))) (qQ (qF (qQ qV (qQ (pv 7) (qQ (pv 2) qJ)))) qJ))) (pv 12)))
      (qY (qG (qF (qQ (qO qP (qT (qQ qV (qQ qV qJ))) (pv 12)) (qQ (zI GP hP (qQ (pv 0) (qQ (qI jJ (qI jM qX (pv 1)) qX) (qQ (pv 13) (qQ (pv 3) (qQ (pv 4) qJ)))))) qJ))))))) qD)
    (qK (zK (qM zG (pv 6) qX (nomark _))
      (qY (qG (zI GLp hT (qQ (pv 0) (qQ (pv 1) (qQ (pv 2) (qQ (pv 3) (qQ (qI zU (pv 5) qX) qJ)))))))) qD)
    (qK (zK (qM zG (pv 6) qX (nomark _))
      (qK (qH (i:=11) wW.nd rfl oI (qF (qQ qV (qQ (pv 8) (qQ (pv 7) (qQ (zI GP hP (qQ (pv 0) (qQ (qI jJ (qI jM qX (pv 1)) qX) (qQ (pv 2) (qQ (pv 9) (qQ (pv 4) qJ)))))) qJ))))))
      (qK (qH (i:=9) wW.nd rfl oI (qI jF (pv 3) (qT (qQ (qF (qQ qV (qQ (qF (qQ qV (qQ (pv 7) (qQ (pv 2) qJ)))) qJ))) qJ))))
      (qY (qG (qF (qQ qV (qQ qV (qQ (pv 11) (qQ (qF (qQ qV (qQ (qF (qQ qV (qQ qV qJ))) (qQ (zI GP hP (qQ (pv 0) (qQ (qI jJ (qI jM qX (pv 1)) qX) (qQ (pv 7) (qQ (pv 9) (qQ (pv 4) qJ)))))) qJ)))) qJ))))))))) qD)
    (qY (qG (zI GO hO (qQ (pv 0) (qQ (pv 1) (qQ (pv 2) (qQ (pv 3) (qQ (pv 4) (qQ (qI zU (pv 5) qX) qJ))))))))))))))),?_⟩
   rintro e mm wy ov nm lw ok H5 rfl g5 hov hoz hSw
   have kp:=kpos κ
   have hE5:=hE.mono g5
   have hE5':=hE5.le (Nat.le_succ e)
   have hEw:=hE5.wider hSw
   have hlen:=hE.len
   have hv5:=hv.mono g5.same
   have he:e<n:=by omega
   refine⟨_,rfl,rfl,_,rfl,ite2 (fun _=>?_) (fun _=>?_)⟩
   ·refine⟨_,rfl,_,rfl,_,_,rfl,rfl,.inl ⟨by decide,by decide⟩,_,_,rfl,rfl,_,rfl,_,rfl,sa,_,_,sc,.bool,es,e,rfl,hE5',zJ _,he,by simp only[Kd.sz];omega,fun u0 p0 H6 g6 t0=>?_⟩
    walk_at "d"
    refine⟨_,rfl,zl2,fun c hc=>?_⟩
    have g7:Grow H6 (upd H6 c (.tup [.str "if",u0])):=Grow.put hc
    have ec:qA K (upd H6 c (.tup [.str "if",u0])) c [.str "if",u0]:=qA.of qZ
    generalize upd H6 c (.tup [.str "if",u0])=H7 at g7 ec⊢
    refine⟨_,rfl,_,rfl,_,rfl,_,rfl,zl2,fun kl hkl=>?_⟩
    have g8:Grow H7 (upd H7 kl (.lst [v,v])):=Grow.put hkl
    have ek:zV K (upd H7 kl (.lst [v,v])) kl [v,v]:=zV.of qZ
    generalize upd H7 kl (.lst [v,v])=H8 at g8 ek⊢
    have g68:=g7.trans g8
    have g58:=g6.trans g68
    have hv8:=hv5.mono g58.same
    refine⟨_,rfl,_,rfl,sa,k,"if",kl,sc,e,v,v,κ,κ,es,rfl,hE5'.mono g58,ek,hv8,hv8,he,by omega,by omega,fun t u1 u2 p1 p2 H9 g9 ht t1 t2=>?_⟩
    refine⟨_,rfl,t,_,rfl,ht,kW _ _,fun b hb=>?_⟩
    rw[cut1]
    have g10:Grow H9 (upd H9 b (.tup [u1,u2])):=Grow.put hb
    have eb:qA K (upd H9 b (.tup [u1,u2])) b [u1,u2]:=qA.of qZ
    generalize upd H9 b (.tup [u1,u2])=H10 at g10 eb⊢
    have g710:=(g8.trans g9).trans g10
    refine⟨c,b,_,_,rfl,rfl,qA.mono g710.same ec,eb,by simp,(by show 2+2<=sizeLine;decide),fun z=>(by cases z),fun _ a ha=>?_⟩
    have g11:Grow H10 (upd H10 a (.tup ([.str "if",u0]++[u1,u2]))):=Grow.put ha
    exact q _ _ _ (((g5.trans g6).trans (g7.trans g710)).trans g11) (Tl.ite (t0.mono ((g7.trans g710).trans g11)) (t1.mono (g10.trans g11)) (t2.mono (g10.trans g11)) (qA.of qZ))
   refine⟨_,rfl,rfl,_,rfl,ite2 (fun _=>?_) (fun _=>?_)⟩
   ·refine⟨_,rfl,_,rfl,_,_,rfl,rfl,.inl ⟨by decide,by decide⟩,_,_,rfl,rfl,_,rfl,_,rfl,_,rfl,sa,_,ov,sc,ok,es,e,rfl,hE5',hov,he,by omega,fun u1 p1 H6 g6 t1=>?_⟩
    walk_at "d"
    refine⟨_,rfl,_,rfl,_,rfl,_,rfl,_,_,rfl,rfl,.inl ⟨by decide,by decide⟩,_,_,rfl,rfl,_,rfl,_,rfl,_,rfl,sa,_,v,lw,κ,es++[(nm,ok)],e,rfl,hEw.mono g6,hv5.mono g6.same,he,by omega,fun u2 p2 H7 g7 t2=>?_⟩
    refine⟨zl4,fun a ha=>?_⟩
    have g8:Grow H7 (upd H7 a (.tup [.str "let",.str nm,u1,u2])):=Grow.put ha
    exact q _ _ _ (((g5.trans g6).trans g7).trans g8) (Tl.let_ (t1.mono (g7.trans g8)) (t2.mono g8) (qA.of qZ))
   refine⟨_,rfl,rfl,_,rfl,ite2 (fun _=>?_) (fun _=>?_)⟩
   ·refine⟨_,rfl,_,rfl,_,rfl,_,rfl,zl3,fun T hT=>?_⟩
    obtain⟨g6,x6⟩:=mk2 (K:=K) (x:="fun") hT hov hv5
    generalize upd H5 T (.tup [.str "fun",ov,v])=H6 at g6 x6⊢
    refine⟨_,rfl,zl2,fun kl hkl=>?_⟩
    have g7:Grow H6 (upd H6 kl (.lst [.ref T,ov])):=Grow.put hkl
    have ek:zV K (upd H6 kl (.lst [.ref T,ov])) kl [.ref T,ov]:=zV.of qZ
    generalize upd H6 kl (.lst [.ref T,ov])=H7 at g7 ek⊢
    have g57:=g6.trans g7
    refine⟨_,rfl,_,rfl,sa,k,"call",kl,sc,e,.ref T,ov,.fn ok κ,ok,es,rfl,hE5'.mono g57,ek,x6.mono g7.same,hov.mono g57.same,he,(by show ok.sz+κ.sz+1+4*e<=31;omega),by omega,fun t u1 u2 p1 p2 H9 g9 ht t1 t2=>?_⟩
    exact q _ _ _ ((g5.trans g57).trans g9) (t1.two .call t2 ht (uZ _ _) (by omega))
   refine⟨_,rfl,rfl,_,rfl,ite2 (fun _=>?_) (fun _=>?_)⟩
   ·refine⟨_,rfl,_,rfl,_,_,rfl,rfl,.inl ⟨by decide,by decide⟩,_,_,rfl,rfl,_,rfl,zl2,fun T hT=>?_⟩
    obtain⟨g6,x6⟩:=mk1 (K:=K) (x:="list") hT hv5
    generalize upd H5 T (.tup [.str "list",v])=H6 at g6 x6⊢
    refine⟨_,rfl,_,rfl,sa,_,.ref T,sc,.list κ,es,e,rfl,hE5'.mono g6,x6,he,(by show κ.sz+1+4*e<=31;omega),fun u1 p1 H7 g7 t1=>?_⟩
    refine⟨zl2,fun a ha=>?_⟩
    have g8:Grow H7 (upd H7 a (.tup [.str "head",u1])):=Grow.put ha
    exact q _ _ _ (((g5.trans g6).trans g7).trans g8) ((t1.mono g8).one .head (qA.of qZ) rfl (by omega))
   refine⟨_,rfl,rfl,_,rfl,ite2 (fun _=>?_) (fun _=>?_)⟩
   ·refine⟨_,rfl,_,_,rfl,rfl,⟨by decide,by decide⟩,_,_,rfl,rfl,(by show(0:Int)<_;decide),?_⟩
    walk_at "d"
    obtain⟨z,hzz,h01⟩:∃z:Int,mm/243%2=z/\(z=0\/z=1):=⟨_,rfl,by omega⟩
    rw[hzz]
    refine⟨_,rfl,_,rfl,zl3,fun T1 hT1=>?_⟩
    obtain⟨g6,x6⟩:=mk2 (K:=K) (x:="pair") hT1 hv5 hov
    generalize upd H5 T1 (.tup [.str "pair",v,ov])=H6 at g6 x6⊢
    refine⟨_,rfl,_,rfl,zl3,fun T2 hT2=>?_⟩
    obtain⟨g7,x7⟩:=mk2 (K:=K) (x:="pair") hT2 (hov.mono g6.same) (hv5.mono g6.same)
    generalize upd H6 T2 (.tup [.str "pair",ov,v])=H7 at g7 x7⊢
    refine⟨zl2,fun l hl=>?_⟩
    have g8:Grow H7 (upd H7 l (.lst [.ref T1,.ref T2])):=Grow.put hl
    have el:zV K (upd H7 l (.lst [.ref T1,.ref T2])) l [.ref T1,.ref T2]:=zV.of qZ
    generalize upd H7 l (.lst [.ref T1,.ref T2])=H8 at g8 el⊢
    have g58:=(g6.trans g7).trans g8
    have fin:∀(o:U1)(m:Kd)(pv:V),z=0/\o= .first/\m= .pair κ ok/\pv= .ref T1\/z=1/\o= .second/\m= .pair ok κ/\pv= .ref T2->qU K H8 m.dt pv/\Pt.k1 o m=some κ/\m.sz=κ.sz+ok.sz+1/\lX [V.ref T1,V.ref T2] z=some pv/\lX [V.str "first",V.str "second"] z=some (.str o.str):=by
     rintro o m pv (⟨rfl,rfl,rfl,rfl⟩|⟨rfl,rfl,rfl,rfl⟩)
     ·exact⟨x6.mono (g7.trans g8).same,rfl,rfl,qW (j:=0) rfl,qW (j:=0) rfl⟩
     ·exact⟨x7.mono g8.same,rfl,(by show ok.sz+κ.sz+1=_;omega),qW (j:=1) rfl,qW (j:=1) rfl⟩
    obtain⟨o,m,pw,y1,y2,y3,y4,y5⟩:∃(o:U1)(m:Kd)(pv:V),qU K H8 m.dt pv/\Pt.k1 o m=some κ/\m.sz=κ.sz+ok.sz+1/\lX [V.ref T1,V.ref T2] z=some pv/\lX [V.str "first",V.str "second"] z=some (.str o.str):=by
     rcases h01 with h|h
     ·exact⟨.first,.pair κ ok,.ref T1,fin _ _ _ (.inl ⟨h,rfl,rfl,rfl⟩)⟩
     ·exact⟨.second,.pair ok κ,.ref T2,fin _ _ _ (.inr ⟨h,rfl,rfl,rfl⟩)⟩
    refine⟨_,rfl,l,_,_,pw,rfl,rfl,el,y4,?_⟩
    walk_at "d"
    refine⟨zl2,fun l3 hl3=>?_⟩
    have g9:Grow H8 (upd H8 l3 (.lst [.str "first",.str "second"])):=Grow.put hl3
    have el3:zV K (upd H8 l3 (.lst [.str "first",.str "second"])) l3 [.str "first",.str "second"]:=zV.of qZ
    generalize upd H8 l3 (.lst [.str "first",.str "second"])=H9 at g9 el3⊢
    have g59:=g58.trans g9
    refine⟨_,rfl,l3,_,_,.str o.str,rfl,rfl,el3,y5,_,rfl,_,rfl,_,_,rfl,rfl,.inl ⟨by decide,by decide⟩,_,_,rfl,rfl,_,rfl,_,rfl,_,rfl,sa,_,pw,sc,m,es,e,rfl,hE5'.mono g59,y1.mono g9.same,he,by omega,fun u1 p1 H10 g10 t1=>?_⟩
    refine⟨zl2,fun a ha=>?_⟩
    have g11:Grow H10 (upd H10 a (.tup [.str o.str,u1])):=Grow.put ha
    exact q _ _ _ (((g5.trans g59).trans g10).trans g11) ((t1.mono g11).one o (qA.of qZ) y2 (by omega))
   refine⟨_,rfl,rfl,_,rfl,ite2 (fun _=>?_) (fun _=>?_)⟩
   ·refine⟨_,rfl,_,rfl,_,rfl,_,rfl,_,rfl,_,_,rfl,rfl,⟨by decide,by decide⟩,sa,k,v,sc,_,κ,es,rfl,hE5.le (by omega),hv5,by omega,by omega,fun u p H6 g6 t1=>?_⟩
    exact q _ _ _ (g5.trans g6) t1.up
   refine⟨_,rfl,rfl,_,rfl,ite2 (fun _=>?_) (fun _=>?_)⟩
   ·refine⟨_,rfl,_,rfl,_,rfl,_,rfl,_,_,rfl,rfl,.inl ⟨by decide,by decide⟩,_,_,rfl,rfl,_,rfl,_,rfl,_,rfl,sa,_,v,lw,κ,es++[(nm,ok)],e,rfl,hEw,hv5,he,by omega,fun u1 p1 H6 g6 t1=>?_⟩
    refine⟨zl4,fun a1 ha1=>?_⟩
    obtain⟨g7,x7⟩:=mk3 (K:=K) (x:="fn") (d1:=.str nm) ha1 (zJ _) (hov.mono g6.same) t1.at_
    walk_at "d"
    generalize upd H6 a1 (.tup [.str "fn",.str nm,ov,u1])=H7 at g7 x7⊢
    have g57:=g6.trans g7
    refine⟨_,rfl,_,rfl,_,rfl,zl3,fun T hT=>?_⟩
    obtain⟨g8,x8⟩:=mk2 (K:=K) (x:="fun") hT (hov.mono g57.same) (hv5.mono g57.same)
    generalize upd H7 T (.tup [.str "fun",ov,v])=H8 at g8 x8⊢
    have g58:=g57.trans g8
    have fz:(Kd.fn ok κ).sz<=40:=by show ok.sz+κ.sz+1<=40;omega
    refine widen (K:=K) (k:=.fn ok κ) (hE5.sco.mono g58) (by omega) x8 fz fun l2 H9 g9 hS9=>?_
    have g59:=g58.trans g9
    walk_at "d"
    refine⟨_,rfl,zl2,fun b1 hb1=>?_⟩
    obtain⟨g10,x10⟩:=mk1 (K:=K) (x:="name") (d1:=.str "z") hb1 (zJ _)
    generalize upd H9 b1 (.tup [.str "name",.str "z"])=H10 at g10 x10⊢
    have g510:=g59.trans g10
    refine⟨_,rfl,_,rfl,_,_,rfl,rfl,.inl ⟨by decide,by decide⟩,_,_,rfl,rfl,_,rfl,_,rfl,_,rfl,sa,_,ov,l2,ok,es++[(("z":Str),Kd.fn ok κ)],e,rfl,((hE5.mono g59).wider hS9).mono g10,hov.mono g510.same,he,by omega,fun u2 p2 H11 g11 t2=>?_⟩
    refine⟨zl3,fun b2 hb2=>?_⟩
    obtain⟨g12,x12⟩:=mk2 (K:=K) (x:="call") hb2 (x10.mono g11.same) t2.at_
    generalize upd H11 b2 (.tup [.str "call",.ref b1,u2])=H12 at g12 x12⊢
    refine⟨zl4,fun b3 hb3=>?_⟩
    have g712:=(((g8.trans g9).trans g10).trans g11).trans g12
    obtain⟨g13,x13⟩:=mk3 (K:=K) (x:="let") (d1:=.str "z") hb3 (zJ _) (x7.mono g712.same) x12
    refine q _ (.let_ "z" (.fn nm ok p1) (.two .call (.nam "z") p2)) _ (((g5.trans g57).trans g712).trans g13) ⟨x13,?_,?_,?_⟩
    ·exact .let_ (.fn (yX t1.has) fz) (.two (.nam (by rw[List.lookup_cons,beq_self_eq_true]) fz) (yX t2.has) (uZ _ _) (by omega))
    ·have :=t1.deep;have :=t2.deep;simp only[Pt.deep];omega
    ·have :=t1.sz;have :=t2.sz;rw[Gz];simp only[Pt.sz];omega
   refine⟨_,rfl,_,rfl,_,rfl,_,rfl,_,rfl,_,rfl,_,_,rfl,rfl,⟨by decide,by decide⟩,sa,k,v,sc,e,_,κ,es,rfl,hE5,hv5,he,by omega,fun u p H6 g6 t1=>?_⟩
   exact q _ _ _ (g5.trans g6) t1
  refine⟨_,qK (qH (i:=5) wW.nd rfl oI (zI GD h1 (qQ (zI GC h1 (qQ (pv 0) (qQ (pv 1) qJ))) (qQ (pv 1) qJ))))
   (qK (zK (cA (qM zG (pv 4) qX (nomark _)) (uV (qM zG (qI zM (pv 5) qX) qX (nomark _)))).pt (qY (qG (zI GL h43 (qQ (qI zU (pv 5) qX) (qQ (pv 2) (qQ (pv 3) qJ)))))) qD)
   (qK (qH (i:=6) wW.nd rfl oI (qI zM (qI zU (pv 5) qX) qX))
   (qK (qH (i:=5) wW.nd rfl oI (qI zU (pv 5) qX))
   (qK (qH (i:=7) wW.nd rfl oI (zI GK h3 (qQ (pv 5) (qQ qX qJ))))
   (qK (qH (i:=8) wW.nd rfl oI (qO qP (qT (qQ qV (qQ qV (qQ qV qJ)))) (qI zM (qI zU (pv 5) qX) qX)))
   (qK (qH (i:=9) wW.nd rfl oI (qI jF (pv 3) (qT (qQ (qF (qQ (pv 8) (qQ (pv 7) qJ))) qJ))))
   (qK (qH (i:=4) wW.nd rfl oI (qI vZ (pv 4) qX)) pls))))))),?_⟩
  obtain⟨ns,hns,hnl⟩:=hE.scr
  have hlen:=hE.len
  have kp:=kpos κ
  refine⟨_,rfl,_,rfl,sa,ns,k,rfl,hns,hnl,fun cz H1 g1=>⟨_,rfl,cz,k,rfl,fun m _=>?_⟩⟩
  walk_at "d"
  have hv1:=hv.mono g1.same
  have leaf:∀mm:Int,nR K 41 ([V.int mm,v,.ref sc]++[]) H1 Q E0:=by
   intro mm
   refine⟨mm,v,sc,κ,es,rfl,hv1,by omega,by omega,hE.sco.mono g1,by omega,fun u p H2 g2 x1 x2 x3 x4=>?_⟩
   have :=Gz31 d
   exact q u p H2 (g1.trans g2) ⟨x1,x2,by omega,by omega⟩
  refine⟨_,rfl,rfl,_,rfl,ite2 (fun _=>jO ?a) (fun hA=>⟨_,rfl,_,_,rfl,rfl,(by show(0:Int)<_;decide),rfl,_,rfl,ite2 (fun _=>?b) (fun hB=>?c)⟩)⟩
  case a|b=>exact⟨_,rfl,_,_,rfl,rfl,⟨by decide,by decide⟩,_,rfl,_,rfl,leaf _⟩
  case c=>
   have hd0:d≠0:=fun z=>hA (by subst z;rfl)
   obtain⟨e,rfl⟩:∃e,d=e+1:=⟨d-1,by omega⟩
   have ed:((e+1:Nat):Int)-1=(e:Int):=by omega
   refine⟨_,rfl,_,_,rfl,rfl,⟨by decide,by decide⟩,_,_,rfl,rfl,(by show(0:Int)<_;decide),?_⟩
   walk_at "d"
   refine⟨_,rfl,_,_,rfl,rfl,⟨by decide,by decide⟩,?_⟩
   walk_at "d"
   generalize m/9%12=wy
   generalize m/108=mm
   refine⟨_,rfl,mm,1,rfl,by omega,fun ov ok H2 g2 hov hoz=>?_⟩
   have hoz':ok.sz<=3:=by have :(2:Nat)^(1+1)=4:=rfl;omega
   walk_at "d"
   refine⟨zl3,fun l hl=>?_⟩
   obtain⟨y,hy,ham⟩:=xZ (xs:=[.str "x",.str "y",.str "p1"]) (n:=3) rfl (by decide) (mm/81)
   refine⟨_,rfl,_,_,rfl,rfl,⟨by decide,by decide⟩,_,_,rfl,rfl,(by show(0:Int)<_;decide),l,_,_,y,rfl,rfl,zV.of qZ,ham,?_⟩
   have g3:=Grow.put (o:=.lst [.str "x",.str "y",.str "p1"]) hl
   generalize upd H2 l (.lst [.str "x",.str "y",.str "p1"])=H3 at g3⊢
   walk_at "d"
   obtain⟨nm,rfl⟩:∃nm:Str,y= .str nm:=by
    simp only[List.mem_cons,List.not_mem_nil,or_false]at hy
    rcases hy with rfl|rfl|rfl<;>exact⟨_,rfl⟩
   have g03:=(g1.trans g2).trans g3
   refine⟨_,rfl,_,rfl,_,rfl,?_⟩
   refine widen (K:=K) (k:=ok) (hE.sco.mono g03) (by omega) (hov.mono g3.same) (by omega) fun l2 H4 g4 hS4=>?_
   walk_at "d"
   refine⟨_,rfl,_,_,rfl,rfl,?_⟩
   walk_at "d"
   rw[ed]
   exact htl e mm wy ov nm l2 ok H4 rfl (g03.trans g4) (hov.mono (g3.trans g4).same) hoz' hS4
end
end K14
namespace L2
open PySem PySem.Spec PyProof.Rows PyProof
theorem gR{c:Const}{k:Nat}{p:Pos}{rest:List Expr}{env:Env}:starEach (.Constant c k p::rest) env=(false,eval (.Constant c k p) env)::starEach rest env:=by rfl
theorem eB{x:Str}{p:Pos}{rest:List Expr}{env:Env}:starEach (.Name x p::rest) env=(false,eval (.Name x p) env)::starEach rest env:=by rfl
structure PEw(X:Cx)(e:Expr)(te:TE):Prop where
 h:PE X e te
structure PSw(X:Cx)(ss:List Stmt)(t:TS):Prop where
 h:PSs X ss t
section
variable {X:Cx} {e:Expr} {es rest:List Expr} {te:TE} {t t':TA} {j k:Nat} {p:Pos} {x:Str} {n:Int} {b:Bool}
theorem wi(hr:PAw X rest t):PAw X (.Constant (.int n) j p::rest) (jL (tC (.int n)) t):=⟨qQ qX hr.h gR⟩
theorem wb(hr:PAw X rest t):PAw X (.Constant (.bool b) j p::rest) (jL (tC (.bl b)) t):=⟨qQ kC hr.h gR⟩
theorem wx(h:PE X (.Name x p) te)(hr:PAw X rest t):PAw X (.Name x p::rest) (jL te t):=⟨qQ h hr.h eB⟩
theorem wT(h:PAw X es t):PEw X (.Tuple es k p) (mD t):=⟨qF h.h⟩
theorem wL(h:PAw X es t):PEw X (.List es p) (qJq t):=⟨qT h.h⟩
theorem qH6(h:PEw X e te):PSw X [.Return (some e) p] (rM te):=⟨qY (qG h.h)⟩
theorem qH7{c:Expr}{sa sb:List Stmt}{tc:TT}{ta tb:TS}(hc:PT X c tc)(ha:PSw X sa ta)(hb:PSs X sb tb):PS X (.If c sa sb p) (qS1 tc ta tb):=zK hc ha.h hb
theorem qH8{i:Nat}{p':Pos}{r:List Stmt}{tr:TS}(hN:X.N.Nodup)(hi:X.N[i]? =some x)(hx:Loc X.env.scope x)(he:PEw X e te)(hs:swapsWith e (some (.Name x p')) p.line X.env=pure false)(hf:X.fn x=true\/X.env.scope.names.lookup x=some .local)(hr:PSw X r tr):PSw X (.Assign [.Name x p'] e p::r) (qRj (cE te (xU i)) tr):=⟨qK (qH hN hi hx he.h hs hf) hr.h⟩
theorem zVq{i:Nat}{p':Pos}(hN:X.N.Nodup)(hi:X.N[i]? =some x)(hx:Loc X.env.scope x)(he:PEw X e te)(hs:swapsWith e (some (.Name x p')) p.line X.env=pure false)(hf:X.fn x=true\/X.env.scope.names.lookup x=some .local):PSw X [.Assign [.Name x p'] e p] (cE te (xU i)):=⟨qY (qH hN hi hx he.h hs hf)⟩
end
end L2
namespace K14
open PySem L2 PyProof Dt
section
variable {P:Program} {w:World} {K:Fg} {mg:Str->Option Value} {base:Heap} {f:Addr} {fd:FuncData}
theorem qY9{n j:Nat}(F:zB K "_law_loop" "_law_loop" iN .none f fd)(G:GlS K mg)(GP:Kn P w K mg base j "_law_part" oH (vC K n)):zC P w K mg base (CXE P w) (j+1) f fd qY7 (eM K n):=by
 refine F.ok0 cD (by walk_at "l") ?_
 walk_at "i"
 obtain⟨sa,k,v,sc,m,κ,es,rfl,hE,hv,hn,hz,q⟩:=h
 have hlen:=hE.len
 obtain⟨tl,pls,htl⟩:∃t,PSs (jN (CXE P w) P w K mg base ["_law_script","_law_k","_law_kind_here","_law_scope","_law_more","_law_many","_law_inner","_law_again","_law_base","_law_body"] "_law_loop" (qL iN) f cdv A outer s H E).nox ((jH iN).drop 4) t/\
   ∀(mn:Int)(l2:Addr)(ag:V)(p:Pt)(H5:Hp),Grow H H5->qU K H5 p.dt ag->Pt.Has (kU es κ).reverse p κ->p.deep<=32->p.sz<=37->Ev K H5 sa l2 (kU es κ) 0->t {nx:=fun _ H'=>Q .non H',rt:=Q} [some (.ref sa),some (.int k),some v,some (.ref sc),some (.int m),some (.int mn),some (.ref l2),some ag,none,none] H5:=by
  refine⟨_,qK (qH (i:=8) cD.nd rfl oI (zI GP hr (qQ (pv 0) (qQ (qI jJ (qI jM qX (pv 1)) qX) (qQ (pv 2) (qQ (pv 6) (qQ qX qJ)))))))
   (@PSw.h _ _ _ (qH8 (i:=9) cD.nd rfl oI (wT (ws (wt (ws (wt (ws (ws wn)) (wt (ws (wi wn)) wn))) (wx (pv 8) (wx (pv 7) wn))))) rfl oI (qH6 (wT (ws (wt (ws (ws (ws (ws (wx (pv 2) (wx (pv 9) wn)))))) (wt (ws (wx (pv 5) wn)) wn))))))),?_⟩
  intro mn l2 ag p H5 g5 hag hp hpd hpz hE5
  refine⟨_,rfl,_,rfl,_,_,rfl,rfl,.inl ⟨by decide,by decide⟩,_,_,rfl,rfl,_,rfl,_,rfl,sa,_,v,l2,κ,kU es κ,0,rfl,hE5,hv.mono g5.same,hn,by omega,fun bu bp H6 g6 tb=>?_⟩
  walk_at "d"
  refine⟨zl2,fun a1 ha1=>?_⟩
  obtain⟨g7,x1⟩:=mk1 (K:=K) (x:="name") (d1:=.str "n") ha1 (zJ _)
  generalize upd H6 a1 (.tup [.str "name",.str "n"])=H7 at g7 x1⊢
  refine⟨zl2,fun a2 ha2=>?_⟩
  obtain⟨g8,x2⟩:=mk1 (K:=K) (x:="num") (d1:=.int 1) ha2 (cB _)
  generalize upd H7 a2 (.tup [.str "num",.int 1])=H8 at g8 x2⊢
  refine⟨zl3,fun a3 ha3=>?_⟩
  obtain⟨g9,x3⟩:=mk2 (K:=K) (x:="less") ha3 (x1.mono g8.same) x2
  generalize upd H8 a3 (.tup [.str "less",.ref a1,.ref a2])=H9 at g9 x3⊢
  have g69:=(g7.trans g8).trans g9
  refine⟨_,rfl,_,rfl,zl4,fun a4 ha4=>?_⟩
  obtain⟨g10,x4⟩:=mk3 (K:=K) (x:="if") ha4 x3 (tb.at_.mono g69.same) (hag.mono (g6.trans g69).same)
  walk_at "d"
  generalize upd H9 a4 (.tup [.str "if",.ref a3,bu,ag])=H10 at g10 x4⊢
  have g510:=(g6.trans g69).trans g10
  refine⟨_,rfl,_,rfl,zl6,fun a5 ha5=>?_⟩
  obtain⟨g11,x5⟩:=mk5 (K:=K) (x:="rec") (d1:=.str "f") (d2:=.str "n") (d3:=.str "int") ha5 (zJ _) (zJ _) (zJ _) (hv.mono (g5.trans g510).same) x4
  generalize upd H10 a5 (.tup [.str "rec",.str "f",.str "n",.str "int",v,.ref a4])=H11 at g11 x5⊢
  refine⟨_,rfl,zl2,fun a6 ha6=>?_⟩
  obtain⟨g12,x6⟩:=mk1 (K:=K) (x:="num") (d1:=.int mn) ha6 (cB _)
  generalize upd H11 a6 (.tup [.str "num",.int mn])=H12 at g12 x6⊢
  refine⟨zl3,fun a7 ha7=>?_⟩
  obtain⟨g13,x7⟩:=mk2 (K:=K) (x:="call") ha7 (x5.mono g12.same) x6
  refine q _ (.two .call (.rc "f" "n" .int κ (.ite (.two .less (.nam "n") (.num 1)) bp p)) (.num mn)) _ ((((g5.trans g510).trans g11).trans g12).trans g13) ⟨x7,?_,?_,?_⟩
  ·have hb:=tb.has
   rw[yV]at hb hp
   have hnm:=eN es κ
   rw[yV]at hnm
   exact .two (.rc (.ite (.two (.nam hnm (by decide)) .num rfl (by decide)) hb hp) (by show Kd.int.sz+κ.sz+1<=40;simp only[Kd.sz];omega)) .num (uZ _ _) (by omega)
  ·have :=tb.deep
   simp only[Pt.deep]
   omega
  ·have :=tb.sz
   rw[Gz0]at this
   rw[Gz1]
   simp only[Pt.sz]
   omega
 refine⟨_,qK (qH (i:=5) cD.nd rfl oI (qO qP (qT (qQ (qI zM (pv 4) qX) (qQ (qI zM (pv 4) qX) (qQ (qI jJ qX (qI zM (pv 4) qX)) qJ)))) (qI zM (qI zU (pv 4) qX) qX)))
  (qK (qH (i:=6) cD.nd rfl oI (qI jF (pv 3) (@PEw.h _ _ _ (wL (wt (ws (wt (ws (ws (wx (pv 2) wn))) wn)) (wt (ws (ws wn)) wn))))))
  (@PSw.h _ _ _ (qH8 (i:=7) cD.nd rfl oI (wT (ws (wt (ws (ws wn)) (wt (ws (wt (ws (ws wn)) (wt (ws (wi wn)) wn))) wn)))) rfl oI ⟨qK (zK (PW.pt (xR (qM bX (qI zM (qI zU (pv 4) qX) qX) qX (nomark _)) (xY (qM jS (pv 2) qV (nomark _)))))
    (qY (qH (i:=7) cD.nd rfl oI (qF (qQ qV (qQ (zI GP hr (qQ (pv 0) (qQ (qI jJ (qI jM qX (pv 1)) qX) (qQ (pv 2) (qQ (pv 6) (qQ qX qJ)))))) (qQ (pv 7) qJ))))))
    (qY (zK (PW.pt (xR (qM bX (qI zM (qI zU (pv 4) qX) qX) qX (nomark _)) (xR (vT (xW (zW vW (by rfl) G.isi aq26 (qQ (pv 2) (qQ (kH (v:=.ty "str") (by rfl) G.str PyProof.Rows.boot_str rfl) qJ))))) (xY (qM zG (qO qN (pv 2) qX) qV (nomark _))))))
     (qY (qH (i:=7) cD.nd rfl oI (qF (qQ qV (qQ (zI GP hr (qQ (pv 0) (qQ (qI jJ (qI jM qX (pv 1)) qX) (qQ (qO qN (pv 2) qX) (qQ (pv 6) (qQ qX qJ)))))) (qQ (pv 7) qJ))))))
     (qY (zK (qM zG (qI zM (qI zU (pv 4) qX) qX) qX (nomark _))
      (@PSw.h _ _ _ (zVq (i:=7) cD.nd rfl oI (wT (ws (ws (wx (pv 7) (wt (ws (ws wn)) wn))))) rfl oI)) qD))))) pls⟩))),?_⟩
 have hdep:=vY hr (Nat.le_trans (uR κ (by omega)) (show 40<=150 by decide))
 have kp:=kpos κ
 refine⟨_,rfl,_,_,rfl,rfl,(by show(0:Int)<_;decide),_,rfl,_,_,rfl,rfl,(by show(0:Int)<_;decide),_,rfl,_,_,rfl,rfl,(by show(0:Int)<_;decide),_,_,rfl,rfl,zl3,fun l hl=>?_⟩
 obtain⟨y,hy,hay⟩:=xZ (xs:=[.int (m%6),.int (m%30),.int (39+m%4)]) (n:=3) rfl (by decide) (m/64)
 refine⟨_,rfl,_,_,rfl,rfl,⟨by decide,by decide⟩,_,_,rfl,rfl,(by show(0:Int)<_;decide),l,_,_,y,rfl,rfl,zV.of qZ,hay,?_⟩
 obtain⟨mn,rfl⟩:∃mn:Int,y= .int mn:=by
  simp only[List.mem_cons,List.not_mem_nil,or_false]at hy
  rcases hy with rfl|rfl|rfl<;>exact⟨_,rfl⟩
 have g1:=Grow.put (o:=.lst [.int (m%6),.int (m%30),.int (39+m%4)]) hl
 generalize upd H l (.lst [.int (m%6),.int (m%30),.int (39+m%4)])=H1 at g1⊢
 walk_at "d"
 refine⟨_,rfl,_,rfl,zl3,fun T0 hT0=>?_⟩
 obtain⟨g2,y0⟩:=mk2 (K:=K) (x:="fun") (d1:=.str "int") hT0 (zJ _) (hv.mono g1.same)
 generalize upd H1 T0 (.tup [.str "fun",.str "int",v])=H2 at g2 y0⊢
 refine⟨zl2,fun T1 hT1=>?_⟩
 obtain⟨g3,y1⟩:=mk1 (K:=K) (x:="f") hT1 y0
 generalize upd H2 T1 (.tup [.str "f",.ref T0])=H3 at g3 y1⊢
 refine⟨zl2,fun T2 hT2=>?_⟩
 obtain⟨g4,y2⟩:=mk1 (K:=K) (x:="n") (d1:=.str "int") hT2 (zJ _)
 generalize upd H3 T2 (.tup [.str "n",.str "int"])=H4 at g4 y2⊢
 refine⟨zl2,fun l1 hl1=>?_⟩
 have g5:Grow H4 (upd H4 l1 (.lst [.ref T1,.ref T2])):=Grow.put hl1
 have el:(upd H4 l1 (.lst [.ref T1,.ref T2])) l1=some (.lst [.ref T1,.ref T2]):=qZ
 generalize upd H4 l1 (.lst [.ref T1,.ref T2])=H5 at g5 el⊢
 have g15:=((g2.trans g3).trans g4).trans g5
 have g05:=g1.trans g15
 obtain⟨ws,hsc,hd,_⟩:=id hE.sco
 have hws:ws.length=es.length:=by rw[hd.length,aq16]
 refine⟨sc,l1,_,_,rfl,rfl,g05.same _ _ hsc,el,by rw[sizeLine_eq];simp;omega,fun l2 hl2=>?_⟩
 have g6:Grow H5 (upd H5 l2 (.lst (ws++[.ref T1,.ref T2]))):=Grow.put hl2
 have hS6:cP K (upd H5 l2 (.lst (ws++[.ref T1,.ref T2]))) l2 (kU es κ):=by
  refine(hE.sco.mono g05).app (fs:=[(("f":Str),Kd.fn .int κ),(("n":Str),Kd.int)]) (g05.same _ _ hsc) hl2 (qB (y1.mono (g4.trans g5).same) (qB (y2.mono g5.same) zX)) ?_
  intro e he
  simp only[List.mem_cons,List.not_mem_nil,or_false]at he
  rcases he with rfl|rfl
  ·show Kd.int.sz+κ.sz+1<=40;simp only[Kd.sz];omega
  ·show Kd.int.sz<=40;decide
 walk_at "d"
 generalize upd H5 l2 (.lst (ws++[.ref T1,.ref T2]))=H6 at g6 hS6⊢
 have g06:=g05.trans g6
 have hE6:Ev K H6 sa l2 (kU es κ) 0:=⟨(hE.mono g06).scr,hS6,by rw[List.length_append];simp;omega⟩
 refine⟨zl2,fun a1 ha1=>?_⟩
 obtain⟨g7,x1⟩:=mk1 (K:=K) (x:="name") (d1:=.str "f") ha1 (zJ _)
 generalize upd H6 a1 (.tup [.str "name",.str "f"])=H7 at g7 x1⊢
 refine⟨zl2,fun a2 ha2=>?_⟩
 obtain⟨g8,x2⟩:=mk1 (K:=K) (x:="name") (d1:=.str "n") ha2 (zJ _)
 generalize upd H7 a2 (.tup [.str "name",.str "n"])=H8 at g8 x2⊢
 refine⟨zl2,fun a3 ha3=>?_⟩
 obtain⟨g9,x3⟩:=mk1 (K:=K) (x:="num") (d1:=.int 1) ha3 (cB _)
 generalize upd H8 a3 (.tup [.str "num",.int 1])=H9 at g9 x3⊢
 refine⟨zl3,fun a4 ha4=>?_⟩
 obtain⟨g10,x4⟩:=mk2 (K:=K) (x:="minus") ha4 (x2.mono g9.same) x3
 generalize upd H9 a4 (.tup [.str "minus",.ref a2,.ref a3])=H10 at g10 x4⊢
 refine⟨zl3,fun a5 ha5=>?_⟩
 obtain⟨g11,x5⟩:=mk2 (K:=K) (x:="call") ha5 (x1.mono ((g8.trans g9).trans g10).same) x4
 walk_at "d"
 generalize upd H10 a5 (.tup [.str "call",.ref a1,.ref a4])=H11 at g11 x5⊢
 have g611:=(((g7.trans g8).trans g9).trans g10).trans g11
 have g011:=g06.trans g611
 have hE11:=hE6.mono g611
 have hv11:=hv.mono g011.same
 have ag0:qU K H11 (Pt.two .call (.nam "f") (.two .minus (.nam "n") (.num 1))).dt (.ref a5):=x5
 have fz:(Kd.fn .int κ).sz<=40:=by show Kd.int.sz+κ.sz+1<=40;simp only[Kd.sz];omega
 have hag:Pt.Has (kU es κ).reverse (Pt.two .call (.nam "f") (.two .minus (.nam "n") (.num 1))) κ:=.two (.nam (qH4 es κ) fz) (.two (.nam (eN es κ) (by decide)) .num rfl (by decide)) (uZ _ _) (by omega)
 generalize hp0:Pt.two .call (.nam "f") (.two .minus (.nam "n") (.num 1))=p0 at ag0 hag
 have d0:p0.deep=2:=by rw[<-hp0];rfl
 have s0:p0.sz=5:=by rw[<-hp0];rfl
 have plain:tl {nx:=fun _ H'=>Q .non H',rt:=Q} [some (.ref sa),some (.int k),some v,some (.ref sc),some (.int m),some (.int mn),some (.ref l2),some (.ref a5),none,none] H11:=htl mn l2 (.ref a5) p0 H11 g011 ag0 hag (by omega) (by omega) hE11
 have third:∀b:Bool,if b=true then cE (mD (jL (tC (.str "let")) (jL (tC (.str "y")) (jL (xG 7) (jL (mD (jL (tC (.str "name")) (jL (tC (.str "y")) wI))) wI))))) (xU 7) {nx:=fun σ H'=>tl {nx:=fun _ H'=>Q .non H',rt:=Q} σ H',rt:=Q} [some (.ref sa),some (.int k),some v,some (.ref sc),some (.int m),some (.int mn),some (.ref l2),some (.ref a5),none,none] H11
   else tl {nx:=fun _ H'=>Q .non H',rt:=Q} [some (.ref sa),some (.int k),some v,some (.ref sc),some (.int m),some (.int mn),some (.ref l2),some (.ref a5),none,none] H11:=by
  intro b
  refine ite2 (fun _=>?_) (fun _=>plain)
  refine⟨_,rfl,zl2,fun a6 ha6=>?_⟩
  obtain⟨g12,x6⟩:=mk1 (K:=K) (x:="name") (d1:=.str "y") ha6 (zJ _)
  generalize upd H11 a6 (.tup [.str "name",.str "y"])=H12 at g12 x6⊢
  refine⟨zl4,fun a7 ha7=>?_⟩
  obtain⟨g13,x7⟩:=mk3 (K:=K) (x:="let") (d1:=.str "y") ha7 (zJ _) (ag0.mono g12.same) x6
  exact htl mn l2 _ (.let_ "y" p0 (.nam "y")) _ ((g011.trans g12).trans g13) x7 (.let_ hag (.nam (by rw[List.lookup_cons,beq_self_eq_true]) (by omega))) (by simp only[Pt.deep];omega) (by simp only[Pt.sz];omega) (hE11.mono (g12.trans g13))
 refine⟨_,rfl,_,_,rfl,rfl,⟨by decide,by decide⟩,_,_,rfl,rfl,(by show(0:Int)<_;decide),_,_,rfl,rfl,_,rfl,ite2 (fun c0=>?_) (fun c0=>jQ ?_)⟩
 ·refine⟨_,rfl,κ.dt,Kd.int.dt,hv11,zJ _,hdep,_,rfl,?_⟩
  rw[Kd.eq_dt]
  refine ite2 (fun c=>?_) (fun c1=>?_)
  ·cases of_decide_eq_true c
   refine⟨_,rfl,_,rfl,_,_,rfl,rfl,.inl ⟨by decide,by decide⟩,_,_,rfl,rfl,_,rfl,_,rfl,sa,_,v,l2,.int,kU es .int,0,rfl,hE11,hv11,hn,by decide,fun bu bp H12 g12 tb=>?_⟩
   refine⟨_,rfl,zl3,fun a6 ha6=>?_⟩
   obtain⟨g13,x6⟩:=mk2 (K:=K) (x:="plus") ha6 tb.at_ (ag0.mono g12.same)
   have :=tb.deep
   have :=tb.sz
   rw[Gz0]at this
   exact htl mn l2 _ (.two .plus bp p0) _ ((g011.trans g12).trans g13) x6 (.two tb.has hag rfl (by decide)) (by simp only[Pt.deep];omega) (by simp only[Pt.sz];omega) (hE11.mono (g12.trans g13))
  ·refine⟨_,rfl,_,_,rfl,rfl,⟨by decide,by decide⟩,_,_,rfl,rfl,(by show(0:Int)<_;decide),_,_,rfl,rfl,_,rfl,ite2 (fun _=>?_) (fun z=>absurd c0 z)⟩
   by_cases hlf:Kd.leaf κ=true
   ·obtain⟨rfl,ed⟩:=qWj hlf hv11
    refine⟨_,rfl,κ.dt,_,"str",true,rfl,hv11,by rw[ed];exact nH K,true,rfl,jQ (jQ ?_)⟩
    exact⟨_,rfl,_,_,rfl,rfl,⟨by decide,by decide⟩,_,_,rfl,rfl,(by show(0:Int)<_;decide),rfl,_,rfl,third _⟩
   ·have hlf':Kd.leaf κ=false:=by simpa using hlf
    refine⟨_,rfl,κ.dt,_,"str",false,rfl,hv11,by rw[qY0 hlf'];exact G.ts,false,rfl,jO ?_⟩
    cases κ with
    |int=>cases hlf'
    |bool=>cases hlf'
    |list κ1=>
     obtain⟨a,u,rfl,ha,hu⟩:=jB hv11
     refine⟨_,rfl,a,_,_,.str "list",rfl,rfl,ha,qW (j:=0) rfl,rfl,_,rfl,xQ (by decide+kernel) ?_⟩
     have e:(Kd.list κ1).sz=κ1.sz+1:=rfl
     refine⟨_,rfl,_,rfl,_,_,rfl,rfl,.inl ⟨by decide,by decide⟩,_,_,rfl,rfl,_,rfl,a,_,_,u,rfl,rfl,ha,qW (j:=1) rfl,_,rfl,sa,_,u,l2,κ1,kU es (.list κ1),0,rfl,hE11,hu,hn,by omega,fun bu bp H12 g12 tb=>?_⟩
     refine⟨_,rfl,zl3,fun a6 ha6=>?_⟩
     obtain⟨g13,x6⟩:=mk2 (K:=K) (x:="cons") ha6 tb.at_ (ag0.mono g12.same)
     have :=tb.deep
     have :=tb.sz
     rw[Gz0]at this
     exact htl mn l2 _ (.two .cons bp p0) _ ((g011.trans g12).trans g13) x6 (.two tb.has hag (qY8 _) (by omega)) (by simp only[Pt.deep];omega) (by simp only[Pt.sz];omega) (hE11.mono (g12.trans g13))
    |pair κ1 κ2=>
     obtain⟨a,u,x,rfl,ha,hu,hx⟩:=xV hv11
     refine⟨_,rfl,a,_,_,.str "pair",rfl,rfl,ha,qW (j:=0) rfl,rfl,_,rfl,jY (by decide+kernel) ?_⟩
     exact⟨_,rfl,_,_,rfl,rfl,⟨by decide,by decide⟩,_,_,rfl,rfl,(by show(0:Int)<_;decide),rfl,_,rfl,third _⟩
    |fn κ1 κ2=>
     obtain⟨a,u,x,rfl,ha,hu,hx⟩:=xV hv11
     refine⟨_,rfl,a,_,_,.str "fun",rfl,rfl,ha,qW (j:=0) rfl,rfl,_,rfl,jY (by decide+kernel) ?_⟩
     exact⟨_,rfl,_,_,rfl,rfl,⟨by decide,by decide⟩,_,_,rfl,rfl,(by show(0:Int)<_;decide),rfl,_,rfl,third _⟩
 ·refine⟨_,rfl,_,_,rfl,rfl,⟨by decide,by decide⟩,_,_,rfl,rfl,(by show(0:Int)<_;decide),_,_,rfl,rfl,_,rfl,ite2 (fun z=>absurd z c0) (fun _=>jQ ?_)⟩
  exact⟨_,rfl,_,_,rfl,rfl,⟨by decide,by decide⟩,_,_,rfl,rfl,(by show(0:Int)<_;decide),rfl,_,rfl,third _⟩
end
abbrev eR:Stmt:=top 61
abbrev qH9:Stmt:=top 62
abbrev qHq:Stmt:=top 63
abbrev qHz:Stmt:=top 64
abbrev qYq:Stmt:=top 65
abbrev gS:Stmt:=top 66
abbrev oV:Stmt:=top 67
abbrev fQ:Stmt:=top 68
abbrev qYz:Stmt:=top 69
abbrev nS:Stmt:=top 60
def rdt:Except Bad Kd->Dt
 | .ok k=>k.dt
 | .error .unfit=>.tup [.str "unfit"]
 | .error (.noname x)=>.tup [.str "noname",.str x]
def eS:Except Bad Kd->Bool
 | .ok _=>false
 | .error _=>true
section
variable {P:Program} {w:World} {K:Fg} {mg:Str->Option Value} {base:Heap} {f:Addr} {fd:FuncData}
inductive fZ(K:Fg)(vs:List V)(H:Hp)(Q:VK):Prop
 |mk (v:V) (x:Str) (k:Kd) (a_0:vs=[v,.str x]) (a_1:qU K H k.dt v) (a_2:Q (.bl (vB k x)) H):fZ K vs H Q
def nA(K:Fg):Sp:=fun vs H Q x_0=>fZ K vs H Q
theorem qHj:zQ ["_law_kind_here","_law_word"] ["_law_kind_here","_law_word"] (qL eR):=by walk_at "s"
theorem qYj(F:zB K "_law_form" "_law_form" eR .none f fd)(G:GlS K mg):zC P w K mg base (CXE P w) 1 f fd ["_law_kind_here","_law_word"] (nA K):=by
 refine F.ok0 qHj (by walk_at "l") ?_
 walk_at "i"
 obtain⟨v,x,k,rfl,hv,q⟩:=h
 refine⟨_,qY (qG (vQ (rG (zW vW (by rfl) G.isi aq26 (qQ (pv 0) (qQ (kH (v:=.ty "str") (by rfl) G.str PyProof.Rows.boot_str rfl) qJ)))) (vA (zS zG (qO qN (pv 0) qX) (pv 1) (nomark _))))),?_⟩
 rcases cY hv with⟨y,rfl,e,hw⟩|⟨a,y,vs,ds,rfl,e,hs,hw⟩<;>rw[hw]at q<;>rw[e]at hv
 ·exact⟨_,rfl,.str y,_,"str",true,rfl,hv,nH K,true,rfl,_,rfl,jQ q⟩
 ·refine⟨_,rfl,.tup (.str y::ds),_,"str",false,rfl,hv,G.ts,false,rfl,_,rfl,jO ?_⟩
  exact⟨_,rfl,a,_,_,.str y,rfl,rfl,hs,qW (j:=0) rfl,_,rfl,rfl,q⟩
inductive eE(K:Fg)(vs:List V)(H:Hp)(Q:VK):Prop
 |mk (v:V) (r:Except Bad Kd) (a_0:vs=[v]) (a_1:qU K H (rdt r) v) (a_2:∀H',Grow H H'->Q (.bl (eS r)) H'):eE K vs H Q
def gA(K:Fg):Sp:=fun vs H Q x_0=>eE K vs H Q
theorem zZ5:zQ ["_law_kind_here"] ["_law_kind_here"] (qL qHz):=by walk_at "s"
theorem qQ0{H:Hp}{r:Except Bad Kd}{v:V}(h:qU K H (rdt r) v):(∃x,v= .str x/\rdt r= .str x/\eS r=false)\/∃a x vs ds,v= .ref a/\rdt r= .tup (.str x::ds)/\qA K H a (.str x::vs)/\kQ (.str x) [.str "unfit",.str "noname"]=eS r:=by
 cases r with
 |ok k=>
  cases k with
  |int=>exact .inl ⟨_,zR h,rfl,rfl⟩
  |bool=>exact .inl ⟨_,zR h,rfl,rfl⟩
  |list k=>obtain⟨a,u,rfl,hs,_⟩:=jB h;exact .inr ⟨a,_,_,_,rfl,rfl,hs,by show kQ _ _=false;decide+kernel⟩
  |pair k l=>obtain⟨a,u,x,rfl,hs,_⟩:=xV h;exact .inr ⟨a,_,_,_,rfl,rfl,hs,by show kQ _ _=false;decide+kernel⟩
  |fn k l=>obtain⟨a,u,x,rfl,hs,_⟩:=xV h;exact .inr ⟨a,_,_,_,rfl,rfl,hs,by show kQ _ _=false;decide+kernel⟩
 |error b=>
  cases b with
  |unfit=>
   obtain⟨a,vs,rfl,hs,hd⟩:=wX h
   obtain⟨v0,r,rfl,h0,hd⟩:=qS hd
   cases jZ hd
   cases zR h0
   exact .inr ⟨a,_,_,_,rfl,rfl,hs,by decide+kernel⟩
  |noname x=>obtain⟨a,u,rfl,hs,_⟩:=jB h;exact .inr ⟨a,_,_,_,rfl,rfl,hs,by show kQ _ _=true;decide+kernel⟩
theorem qP0(F:zB K "_law_is_bad" "_law_is_bad" qHz .none f fd)(G:GlS K mg):zC P w K mg base (CXE P w) 1 f fd ["_law_kind_here"] (gA K):=by
 refine F.ok0 zZ5 (by walk_at "l") ?_
 walk_at "i"
 obtain⟨v,r,rfl,hv,q⟩:=h
 refine⟨_,qY (qG (vQ (rG (zW vW (by rfl) G.isi aq26 (qQ (pv 0) (qQ (kH (v:=.ty "str") (by rfl) G.str PyProof.Rows.boot_str rfl) qJ)))) (vA (zS jW (qO qN (pv 0) qX) (qT (qQ qV (qQ qV qJ))) rfl)))),?_⟩
 rcases qQ0 hv with⟨y,rfl,e,hw⟩|⟨a,y,vs,ds,rfl,e,hs,hw⟩<;>rw[e]at hv
 ·refine⟨_,rfl,.str y,_,"str",true,rfl,hv,nH K,true,rfl,_,rfl,jQ ?_⟩
  exact hw▸q H (Grow.refl H)
 ·refine⟨_,rfl,.tup (.str y::ds),_,"str",false,rfl,hv,G.ts,false,rfl,_,rfl,jO ?_⟩
  refine⟨_,rfl,a,_,_,.str y,rfl,rfl,hs,qW (j:=0) rfl,zl2,fun l hl=>?_⟩
  have g:=Grow.put (o:=.lst [.str "unfit",.str "noname"]) hl
  refine⟨l,_,rfl,.inl (zV.of qZ),rfl,rfl,?_⟩
  rw[if_neg Bool.false_ne_true,hw]
  exact q _ g
end
def dk:Bool->Kd
 |true=>.bool
 |false=>.int
theorem qU0(u:U2)(h:u≠ .pair/\u≠ .cons/\u≠ .call):decide (V.str u.str=V.str "pair")=false/\decide (V.str u.str=V.str "cons")=false/\decide (V.str u.str=V.str "call")=false/\∃b c,kQ (.str u.str) [.str "and",.str "or"]=b/\kQ (.str u.str) [.str "and",.str "or",.str "less",.str "same"]=c/\
  ∀k l,Pt.ofO (Pt.k2 u k l)=if k=dk b/\l=dk b then .ok (dk c)else .error .unfit:=by
 cases u with
 |pair=>exact absurd rfl h.1
 |cons=>exact absurd rfl h.2.1
 |call=>exact absurd rfl h.2.2
 |plus=>refine⟨?_,?_,?_,false,false,?_,?_,fun k l=>by cases k<;>cases l<;>rfl⟩<;>decide+kernel
 |minus=>refine⟨?_,?_,?_,false,false,?_,?_,fun k l=>by cases k<;>cases l<;>rfl⟩<;>decide+kernel
 |times=>refine⟨?_,?_,?_,false,false,?_,?_,fun k l=>by cases k<;>cases l<;>rfl⟩<;>decide+kernel
 |over=>refine⟨?_,?_,?_,false,false,?_,?_,fun k l=>by cases k<;>cases l<;>rfl⟩<;>decide+kernel
 |rest=>refine⟨?_,?_,?_,false,false,?_,?_,fun k l=>by cases k<;>cases l<;>rfl⟩<;>decide+kernel
 |less=>refine⟨?_,?_,?_,false,true,?_,?_,fun k l=>by cases k<;>cases l<;>rfl⟩<;>decide+kernel
 |same=>refine⟨?_,?_,?_,false,true,?_,?_,fun k l=>by cases k<;>cases l<;>rfl⟩<;>decide+kernel
 |and=>refine⟨?_,?_,?_,true,true,?_,?_,fun k l=>by cases k<;>cases l<;>rfl⟩<;>decide+kernel
 |or=>refine⟨?_,?_,?_,true,true,?_,?_,fun k l=>by cases k<;>cases l<;>rfl⟩<;>decide+kernel
section
variable {P:Program} {w:World} {K:Fg} {mg:Str->Option Value} {base:Heap} {f:Addr} {fd:FuncData}
theorem pick2{H:Hp}{l:Addr}{x y:V}{Q:VK}(b:Bool)(h:zV K H l [x,y])(q:Q (if b then y else x) H):qX0 K (.ref l) (.int (if b then 1 else 0)) H Q:=by
 cases b
 ·exact⟨l,_,_,x,rfl,rfl,h,qW (j:=0) rfl,q⟩
 ·exact⟨l,_,_,y,rfl,rfl,h,qW (j:=1) rfl,q⟩
theorem vL{H:Hp}{T:Addr}(h:qA K H T [.str "unfit"]):qU K H (rdt (.error .unfit)) (.ref T):=yC h (qB (zJ _) zX)
theorem qLz{H:Hp}(b:Bool):qU K H (dk b).dt (if b then .str "bool" else .str "int"):=by cases b<;>exact zJ _
inductive qQ1(K:Fg)(vs:List V)(H:Hp)(Q:VK):Prop
 |mk (u:U2) (v1:V) (v2:V) (k:Kd) (l:Kd) (a_0:vs=[.str u.str,v1,v2]) (a_1:qU K H k.dt v1) (a_2:qU K H l.dt v2) (a_3:k.deep<=1100) (a_4:l.deep<=1100) (a_5:∀v H',Grow H H'->qU K H' (rdt (Pt.ofO (Pt.k2 u k l))) v->Q v H'):qQ1 K vs H Q
def qQ2(K:Fg):Sp:=fun vs H Q x_0=>qQ1 K vs H Q
theorem qLj:zQ ["_law_word","_law_one","_law_other","_law_due"] ["_law_word","_law_one","_law_other"] (qL qH9):=by walk_at "s"
theorem qP1(F:zB K "_law_of_two" "_law_of_two" qH9 .none f fd)(G:dF mg)(GF:Kn P w K mg base 1 "_law_form" ["_law_kind_here","_law_word"] (nA K)):zC P w K mg base (CXE P w) 60 f fd ["_law_word","_law_one","_law_other"] (qQ2 K):=by
 refine F.ok0 qLj (by walk_at "l") ?_
 walk_at "i"
 obtain⟨u,v1,v2,k,l,rfl,h1,h2,d1,d2,q⟩:=h
 refine⟨_,(qK (zK (qM zG (pv 0) qV (nomark _)) (qY (qG (qF (qQ qV (qQ (pv 1) (qQ (pv 2) qJ)))))) qD)
  (qK (zK (qM zG (pv 0) qV (nomark _)) (qY (qG (qO qP (qT (qQ (qF (qQ qV qJ)) (qQ (pv 2) qJ))) (zD zA (by rfl) G.int PyProof.Rows.boot_int (qQ (zS jS (pv 2) (qF (qQ qV (qQ (pv 1) qJ))) (nomark _)) qJ))))) qD)
  (qK (zK (qM zG (pv 0) qV (nomark _)) (qY (qG (qO qP (qT (qQ (qF (qQ qV qJ)) (qQ (qO qM4 (pv 1) (bJ iH qX)) qJ))) (zD zA (by rfl) G.int PyProof.Rows.boot_int (qQ (vQ (zI GF (hr.mono (by decide)) (qQ (pv 1) (qQ qV qJ))) (vA (zS jS (qO qN (pv 1) qX) (pv 2) (nomark _)))) qJ))))) qD)
  (qK (qH (i:=3) qLj.nd rfl oI (qO qP (qT (qQ qV (qQ qV qJ))) (zD zA (by rfl) G.int PyProof.Rows.boot_int (qQ (zS jW (pv 0) (qT (qQ qV (qQ qV qJ))) rfl) qJ))))
  (qK (zK (cA (qM cV (pv 1) (pv 3) (nomark _)) (uV (qM cV (pv 2) (pv 3) (nomark _)))).pt (qY (qG (qF (qQ qV qJ)))) qD)
  (qY (qG (qO qP (qT (qQ qV (qQ qV qJ))) (zD zA (by rfl) G.int PyProof.Rows.boot_int (qQ (zS jW (pv 0) (qT (qQ qV (qQ qV (qQ qV (qQ qV qJ))))) rfl) qJ)))))))))),?_⟩
 by_cases c1:u= .pair
 ·subst c1
  refine⟨_,rfl,rfl,_,rfl,xQ (by decide+kernel) ⟨_,rfl,_,rfl,zl3,fun t ht=>?_⟩⟩
  have g:=Grow.put (o:=.tup [.str "pair",v1,v2]) ht
  exact q _ _ g (kF (qA.of qZ) (h1.mono g.same) (h2.mono g.same))
 by_cases c2:u= .cons
 ·subst c2
  refine⟨_,rfl,rfl,_,rfl,jY (by decide+kernel) ⟨_,rfl,rfl,_,rfl,xQ (by decide+kernel) ⟨zl1,fun T hT=>?_⟩⟩⟩
  have g1:=Grow.put (o:=.tup [.str "unfit"]) hT
  have e1:qA K (upd H T (.tup [.str "unfit"])) T [.str "unfit"]:=qA.of qZ
  generalize upd H T (.tup [.str "unfit"])=H1 at g1 e1⊢
  refine⟨_,rfl,zl2,fun t ht=>?_⟩
  have g2:=g1.trans (Grow.put (o:=.lst [.ref T,v2]) ht)
  have e2:zV K (upd H1 t (.lst [.ref T,v2])) t [.ref T,v2]:=zV.of qZ
  have e1:=qA.mono (Grow.put (o:=.lst [.ref T,v2]) ht).same e1
  generalize upd H1 t (.lst [.ref T,v2])=H2 at g2 e1 e2⊢
  refine⟨_,rfl,_,rfl,zl2,fun d hd=>?_⟩
  have g3:=Grow.put (o:=.tup [.str "list",v1]) hd
  have e3:qA K (upd H2 d (.tup [.str "list",v1])) d [.str "list",v1]:=qA.of qZ
  generalize upd H2 d (.tup [.str "list",v1])=H3 at g3 e3⊢
  have g:=g2.trans g3
  refine⟨l.dt,(Kd.list k).dt,h2.mono g.same,jG e3 (h1.mono g.same),xC hr (by decide) d2,.inr ⟨_,rfl,pick2 _ (g3.same.seq e2) ?_⟩⟩
  rw[Kd.eq_dt]
  by_cases z:l= .list k
  ·subst z
   rw[decide_eq_true rfl]
   refine q _ _ g ?_
   simp only[Pt.k2,if_true,Pt.ofO,rdt]
   exact h2.mono g.same
  ·rw[decide_eq_false z]
   refine q _ _ g ?_
   have e:Pt.k2 .cons k l=none:=by
    cases l with
    |list l=>simp only[Pt.k2];rw[if_neg fun y=>z (by rw[y])]
    |_=>rfl
   rw[e]
   exact vL (qA.mono g3.same e1)
 by_cases c3:u= .call
 ·subst c3
  refine⟨_,rfl,rfl,_,rfl,jY (by decide+kernel) ⟨_,rfl,rfl,_,rfl,jY (by decide+kernel) ⟨_,rfl,rfl,_,rfl,xQ (by decide+kernel) ⟨zl1,fun T hT=>?_⟩⟩⟩⟩
  have g1:=Grow.put (o:=.tup [.str "unfit"]) hT
  have e1:qA K (upd H T (.tup [.str "unfit"])) T [.str "unfit"]:=qA.of qZ
  generalize upd H T (.tup [.str "unfit"])=H1 at g1 e1⊢
  obtain⟨y,hy,hz⟩:∃y,(∀Q':VK,Q' y H1->rIx K v1 (.int (-1)) H1 Q')/\∀m n,k= .fn m n->qU K H1 n.dt y:=by
   have h1:=h1.mono g1.same
   cases k with
   |int=>cases zR h1;exact⟨.str ⟨#[116]⟩,fun Q' q=>.inr (.inr ⟨_,_,116,rfl,rfl,by decide+kernel,by decide+kernel,q⟩),fun m n z=>by cases z⟩
   |bool=>cases zR h1;exact⟨.str ⟨#[108]⟩,fun Q' q=>.inr (.inr ⟨_,_,108,rfl,rfl,by decide+kernel,by decide+kernel,q⟩),fun m n z=>by cases z⟩
   |list k=>obtain⟨a,u,rfl,hs,hu⟩:=jB h1;exact⟨u,fun Q' q=>.inr (.inl ⟨a,_,_,u,rfl,rfl,hs,rfl,q⟩),fun m n z=>by cases z⟩
   |pair k k'=>obtain⟨a,u,x,rfl,hs,hu,hx⟩:=xV h1;exact⟨x,fun Q' q=>.inr (.inl ⟨a,_,_,x,rfl,rfl,hs,rfl,q⟩),fun m n z=>by cases z⟩
   |fn k k'=>obtain⟨a,u,x,rfl,hs,hu,hx⟩:=xV h1;exact⟨x,fun Q' q=>.inr (.inl ⟨a,_,_,x,rfl,rfl,hs,rfl,q⟩),fun m n z=>by cases z;exact hx⟩
  refine⟨_,rfl,_,rfl,hy _ ⟨zl2,fun t ht=>?_⟩⟩
  have g2:=Grow.put (o:=.lst [.ref T,y]) ht
  have e2:zV K (upd H1 t (.lst [.ref T,y])) t [.ref T,y]:=zV.of qZ
  have g:=g1.trans g2
  have e1:=qA.mono g2.same e1
  have hz:=fun m n z=>(hz m n z).mono g2.same
  generalize upd H1 t (.lst [.ref T,y])=H2 at g2 e1 e2 g hz⊢
  have h1:=h1.mono g.same
  have no:Pt.k2 .call k l=none->Q (.ref T) H2:=fun e=>q _ _ g (by rw[e];exact vL e1)
  refine⟨_,rfl,v1,"fun",k,rfl,h1,_,rfl,ite2 (fun c=>?_) fun c=>.inr ⟨false,rfl,pick2 false e2 (no ?_)⟩⟩
  ·cases k with
   |int=>cases c
   |bool=>cases c
   |list k=>exact absurd c (by simp only[vB];decide+kernel)
   |pair k k'=>exact absurd c (by simp only[vB];decide+kernel)
   |fn m n=>
    obtain⟨a,u,x,rfl,hs,hu,hx⟩:=xV h1
    have dm:m.deep<=1100:=by simp only[Kd.deep]at d1;omega
    refine⟨_,rfl,a,_,_,u,rfl,rfl,hs,qW (j:=1) rfl,_,rfl,m.dt,l.dt,hu,h2.mono g.same,xC hr (by decide) dm,.inr ⟨_,rfl,pick2 _ e2 ?_⟩⟩
    rw[Kd.eq_dt]
    by_cases z:m=l
    ·rw[decide_eq_true z]
     refine q _ _ g ?_
     have e:Pt.k2 .call (.fn m n) l=some n:=by simp only[Pt.k2];rw[if_pos z]
     rw[e]
     exact hz m n rfl
    ·rw[decide_eq_false z]
     exact no (by simp only[Pt.k2];rw[if_neg z])
  ·cases k with
   |fn m n=>exact absurd (by simp only[vB];decide+kernel) c
   |_=>rfl
 obtain⟨w1,w2,w3,b,c,w4,w5,w6⟩:=qU0 u ⟨c1,c2,c3⟩
 refine⟨_,rfl,rfl,_,rfl,jY w1 ⟨_,rfl,rfl,_,rfl,jY w2 ⟨_,rfl,rfl,_,rfl,jY w3 ⟨zl2,fun t ht=>?_⟩⟩⟩⟩
 have g1:=Grow.put (o:=.lst [.str "int",.str "bool"]) ht
 have e1:zV K (upd H t (.lst [.str "int",.str "bool"])) t [.str "int",.str "bool"]:=zV.of qZ
 generalize upd H t (.lst [.str "int",.str "bool"])=H1 at g1 e1⊢
 refine⟨_,rfl,zl2,fun t2 ht2=>?_⟩
 have g2:=Grow.put (o:=.lst [.str "and",.str "or"]) ht2
 have e2:zV K (upd H1 t2 (.lst [.str "and",.str "or"])) t2 [.str "and",.str "or"]:=zV.of qZ
 generalize upd H1 t2 (.lst [.str "and",.str "or"])=H2 at g2 e2⊢
 have g02:=g1.trans g2
 refine⟨t2,_,rfl,.inl e2,rfl,rfl,?_⟩
 rw[if_neg Bool.false_ne_true,w4]
 refine .inr ⟨b,rfl,pick2 b (g2.same.seq e1) ?_⟩
 walk_at "d"
 have hb:qU K H2 (dk b).dt (if b=true then V.str "bool" else V.str "int"):=qLz b
 generalize (if b=true then V.str "bool" else V.str "int")=bv at hb⊢
 refine⟨_,rfl,_,rfl,k.dt,(dk b).dt,h1.mono g02.same,hb,xC hr (by decide) d1,_,rfl,?_⟩
 rw[Kd.eq_dt]
 have no:¬(k=dk b/\l=dk b)->∀H3,Grow H H3->∀T,H3 T=none->Q (.ref T) (upd H3 T (.tup [.str "unfit"])):=fun z H3 g T hT=>by
  refine q _ _ (g.trans (Grow.put hT)) ?_
  rw[w6,if_neg z]
  exact vL (qA.of qZ)
 by_cases z1:k=dk b
 ·rw[decide_eq_true z1]
  refine jQ ⟨_,rfl,_,rfl,l.dt,(dk b).dt,h2.mono g02.same,hb,xC hr (by decide) d2,_,rfl,?_⟩
  rw[Kd.eq_dt]
  by_cases z2:l=dk b
  ·rw[decide_eq_true z2]
   refine jQ ⟨zl2,fun t3 ht3=>?_⟩
   have g3:=g02.trans (Grow.put (o:=.lst [.str "int",.str "bool"]) ht3)
   have e3:zV K (upd H2 t3 (.lst [.str "int",.str "bool"])) t3 [.str "int",.str "bool"]:=zV.of qZ
   generalize upd H2 t3 (.lst [.str "int",.str "bool"])=H3 at g3 e3⊢
   refine⟨_,rfl,zl4,fun t4 ht4=>?_⟩
   have g4:=Grow.put (o:=.lst [.str "and",.str "or",.str "less",.str "same"]) ht4
   have e4:zV K (upd H3 t4 (.lst [.str "and",.str "or",.str "less",.str "same"])) t4 [.str "and",.str "or",.str "less",.str "same"]:=zV.of qZ
   generalize upd H3 t4 (.lst [.str "and",.str "or",.str "less",.str "same"])=H4 at g4 e4⊢
   refine⟨t4,_,rfl,.inl e4,rfl,rfl,?_⟩
   rw[if_neg Bool.false_ne_true,w5]
   refine .inr ⟨c,rfl,pick2 c (g4.same.seq e3) (q _ _ (g3.trans g4) ?_)⟩
   rw[w6,if_pos ⟨z1,z2⟩]
   exact qLz c
  ·rw[decide_eq_false z2]
   exact jO ⟨zl1,fun T hT=>no (fun z=>z2 z.2) H2 g02 T hT⟩
 ·rw[decide_eq_false z1]
  exact jO (jO ⟨zl1,fun T hT=>no (fun z=>z1 z.1) H2 g02 T hT⟩)
inductive qQ3(K:Fg)(vs:List V)(H:Hp)(Q:VK):Prop
 |mk (u:U1) (v1:V) (k:Kd) (a_0:vs=[.str u.str,v1]) (a_1:qU K H k.dt v1) (a_2:k.deep<=1100) (a_3:∀v H',Grow H H'->qU K H' (rdt (Pt.ofO (Pt.k1 u k))) v->Q v H'):qQ3 K vs H Q
def qQ4(K:Fg):Sp:=fun vs H Q x_0=>qQ3 K vs H Q
theorem zZ6:zQ ["_law_word","_law_one"] ["_law_word","_law_one"] (qL qHq):=by walk_at "s"
theorem qP2(F:zB K "_law_of_one" "_law_of_one" qHq .none f fd)(G:dF mg)(GF:Kn P w K mg base 1 "_law_form" ["_law_kind_here","_law_word"] (nA K)):zC P w K mg base (CXE P w) 60 f fd ["_law_word","_law_one"] (qQ4 K):=by
 refine F.ok0 zZ6 (by walk_at "l") ?_
 walk_at "i"
 obtain⟨u,v1,k,rfl,h1,d1,q⟩:=h
 refine⟨_,(qK (zK (qM zG (pv 0) qV (nomark _)) (qY (qG (qO qP (qT (qQ (qF (qQ qV qJ)) (qQ qV qJ))) (zD zA (by rfl) G.int PyProof.Rows.boot_int (qQ (zS jS (pv 1) qV (nomark _)) qJ))))) qD)
  (qK (zK (qM jW (pv 0) (qT (qQ qV (qQ qV qJ))) rfl) (qY (qG (wU (xW (zI GF (hr.mono (by decide)) (qQ (pv 1) (qQ qV qJ)))) (qO qP (qT (qQ (qF (qQ qV qJ)) (qQ (qO qN (pv 1) (qI jJ (bJ iH qX) (zD zA (by rfl) G.int PyProof.Rows.boot_int (qQ (zS zG (pv 0) qV (nomark _)) qJ)))) qJ))) qX) (qF (qQ qV qJ))))) qD)
  (qK (zK (vT (xW (zI GF (hr.mono (by decide)) (qQ (pv 1) (qQ qV qJ))))) (qY (qG (qF (qQ qV qJ)))) qD)
  (qY (qG (qO qP (qT (qQ (qO qN (pv 1) qX) (qQ (pv 1) (qQ qV qJ)))) (yB aq0 PySem.F.slot_list_index PySem.F.type_list_index iI (qT (qQ qV (qQ qV (qQ qV qJ)))) (qQ (pv 0) qJ)))))))),?_⟩
 have no:Pt.k1 u k=none->∀H3,Grow H H3->∀T,H3 T=none->Q (.ref T) (upd H3 T (.tup [.str "unfit"])):=fun z H3 g T hT=>by
  refine q _ _ (g.trans (Grow.put hT)) ?_
  rw[z]
  exact vL (qA.of qZ)
 by_cases c1:u= .not
 ·subst c1
  refine⟨_,rfl,rfl,_,rfl,xQ (by decide+kernel) ⟨zl1,fun T hT=>?_⟩⟩
  have g1:=Grow.put (o:=.tup [.str "unfit"]) hT
  have e1:qA K (upd H T (.tup [.str "unfit"])) T [.str "unfit"]:=qA.of qZ
  generalize upd H T (.tup [.str "unfit"])=H1 at g1 e1⊢
  refine⟨zl2,fun t ht=>?_⟩
  have g2:=Grow.put (o:=.lst [.ref T,.str "bool"]) ht
  have e2:zV K (upd H1 t (.lst [.ref T,.str "bool"])) t [.ref T,.str "bool"]:=zV.of qZ
  have e1:=qA.mono g2.same e1
  generalize upd H1 t (.lst [.ref T,.str "bool"])=H2 at g2 e1 e2⊢
  have g:=g1.trans g2
  refine⟨_,rfl,k.dt,Kd.bool.dt,h1.mono g.same,zJ _,xC hr (by decide) d1,.inr ⟨_,rfl,pick2 _ e2 (q _ _ g ?_)⟩⟩
  rw[Kd.eq_dt]
  cases k with
  |bool=>exact zJ _
  |_=>exact vL e1
 have n1:decide (V.str u.str=V.str "not")=false:=by cases u<;>first|exact absurd rfl c1|decide+kernel
 refine⟨_,rfl,rfl,_,rfl,jY n1 ⟨_,rfl,zl2,fun t ht=>?_⟩⟩
 have g1:=Grow.put (o:=.lst [.str "first",.str "second"]) ht
 have e1:zV K (upd H t (.lst [.str "first",.str "second"])) t [.str "first",.str "second"]:=zV.of qZ
 generalize upd H t (.lst [.str "first",.str "second"])=H1 at g1 e1⊢
 refine⟨t,_,rfl,.inl e1,rfl,rfl,_,rfl,?_⟩
 first|rw[if_neg Bool.false_ne_true]|rw[if_neg (by decide)]
 have hv1:=h1.mono g1.same
 by_cases c2:u= .first\/u= .second
 ·have n2:kQ (.str u.str) [.str "first",.str "second"]=true:=by rcases c2 with rfl|rfl<;>decide+kernel
  rw[n2]
  refine jO ⟨_,rfl,v1,"pair",k,rfl,hv1,_,rfl,ite2 (fun c=>?_) fun c=>⟨zl1,fun T hT=>no ?_ H1 g1 T hT⟩⟩
  ·cases k with
   |int=>cases c
   |bool=>cases c
   |list k=>exact absurd c (by simp only[vB];decide+kernel)
   |fn k k'=>exact absurd c (by simp only[vB];decide+kernel)
   |pair m n=>
    obtain⟨a,x,y,rfl,hs,hx,hy⟩:=xV hv1
    refine⟨zl1,fun T hT=>?_⟩
    have g2:=Grow.put (o:=.tup [.str "unfit"]) hT
    generalize upd H1 T (.tup [.str "unfit"])=H2 at g2⊢
    refine⟨_,rfl,_,rfl,_,rfl,rfl,.inr ⟨_,rfl,_,_,rfl,rfl,?_⟩⟩
    have hs2:=qA.mono g2.same hs
    have g:=g1.trans g2
    rcases c2 with rfl|rfl
    ·rw[show decide (V.str U1.first.str=V.str "second")=false by decide+kernel]
     refine⟨a,_,_,x,rfl,rfl,hs2,rfl,zl2,fun t2 ht2=>?_⟩
     have g3:=Grow.put (o:=.lst [.ref T,x]) ht2
     exact⟨t2,_,_,x,rfl,rfl,zV.of qZ,qW (j:=1) rfl,q x _ (g.trans g3) (hx.mono (g2.trans g3).same)⟩
    ·rw[show decide (V.str U1.second.str=V.str "second")=true by decide+kernel]
     refine⟨a,_,_,y,rfl,rfl,hs2,rfl,zl2,fun t2 ht2=>?_⟩
     have g3:=Grow.put (o:=.lst [.ref T,y]) ht2
     exact⟨t2,_,_,y,rfl,rfl,zV.of qZ,qW (j:=1) rfl,q y _ (g.trans g3) (hy.mono (g2.trans g3).same)⟩
  ·cases k with
   |pair m n=>exact absurd (by simp only[vB];decide+kernel) c
   |_=>rcases c2 with rfl|rfl<;>rfl
 ·have n2:kQ (.str u.str) [.str "first",.str "second"]=false:=by cases u<;>first|exact absurd (.inl rfl) c2|exact absurd (.inr rfl) c2|decide+kernel
  rw[n2]
  refine jQ ⟨_,rfl,v1,"list",k,rfl,hv1,_,rfl,?_⟩
  have nl:vB k "list"=false->Pt.k1 u k=none:=fun h=>by
   cases k with
   |list k=>exact absurd h (by simp only[vB];decide+kernel)
   |_=>cases u<;>first|rfl|exact absurd rfl c1|exact absurd (.inl rfl) c2|exact absurd (.inr rfl) c2
  cases hw:vB k "list" with
  |false=>exact jO ⟨zl1,fun T hT=>no (nl hw) H1 g1 T hT⟩
  |true=>
   cases k with
   |int=>cases hw
   |bool=>cases hw
   |pair k k'=>exact absurd hw (by simp only[vB];decide+kernel)
   |fn k k'=>exact absurd hw (by simp only[vB];decide+kernel)
   |list m=>
    obtain⟨a,x,rfl,hs,hx⟩:=jB hv1
    refine jQ ⟨_,rfl,a,_,_,x,rfl,rfl,hs,qW (j:=1) rfl,_,rfl,zl3,fun t2 ht2=>?_⟩
    have g2:=Grow.put (o:=.lst [x,.ref a,.str "bool"]) ht2
    have e2:zV K (upd H1 t2 (.lst [x,.ref a,.str "bool"])) t2 [x,.ref a,.str "bool"]:=zV.of qZ
    generalize upd H1 t2 (.lst [x,.ref a,.str "bool"])=H2 at g2 e2⊢
    refine⟨zl3,fun t3 ht3=>?_⟩
    have g3:=Grow.put (o:=.lst [.str "head",.str "tail",.str "empty"]) ht3
    have e3:zV K (upd H2 t3 (.lst [.str "head",.str "tail",.str "empty"])) t3 [.str "head",.str "tail",.str "empty"]:=zV.of qZ
    generalize upd H2 t3 (.lst [.str "head",.str "tail",.str "empty"])=H3 at g3 e3⊢
    have g23:=g2.trans g3
    have g:=g1.trans g23
    have e2:=g3.same.seq e2
    refine⟨.inl ⟨rfl,_,e3⟩,_,rfl,t3,_,_,.str u.str,[.str "head",.str "tail",.str "empty"],rfl,rfl,e3,zJ _,qB (zJ _) (qB (zJ _) (qB (zJ _) zX)),cU hr (by decide),?_,fun j e he hj=>?_⟩
    ·cases u<;>first|decide+kernel|exact absurd rfl c1|exact absurd (.inl rfl) c2|exact absurd (.inr rfl) c2
    ·match j,he with
     |0,he=>
      cases he
      refine⟨t2,_,_,x,rfl,rfl,e2,qW (j:=0) rfl,q x _ g ?_⟩
      cases u<;>first|exact hx.mono g23.same|exact absurd hj (by decide+kernel)
     |1,he=>
      cases he
      refine⟨t2,_,_,.ref a,rfl,rfl,e2,qW (j:=1) rfl,q _ _ g ?_⟩
      cases u<;>first|exact hv1.mono g23.same|exact absurd hj (by decide+kernel)
     |2,he=>
      cases he
      refine⟨t2,_,_,.str "bool",rfl,rfl,e2,qW (j:=2) rfl,q _ _ g ?_⟩
      cases u<;>first|exact zJ _|exact absurd hj (by decide+kernel)
     |n+3,he=>simp at he
end
def walked(p:Pt):Bool:=match p with
 | .one _ _=>true| .two _ _ _=>true| .ite _ _ _=>true| .let_ _ _ _=>true
 |_=>false
def yW:Pt->List Kd->Cxt
 | .let_ x _ _,ks=>ks.map fun k=>(x,k)
 |_,_=>[]
def cF(Γ:Cxt)(p:Pt)(i:Nat)(ks:List Kd):Prop:=match p with
 | .let_ x p1 p2=>(i=0/\ks=[])\/(i=1/\∃k,ks=[k]/\Pt.fit Γ p1= .ok k)\/(i=2/\∃k l,ks=[k,l]/\Pt.fit Γ p1= .ok k/\Pt.fit ((x,k)::Γ) p2= .ok l)
 |p=>xB Γ ((Pt.parts p).take i)= .ok ks
theorem cF.zero(Γ:Cxt)(p:Pt):cF Γ p 0 []:=by
 cases p with
 |let_ x p q=>exact .inl ⟨rfl,rfl⟩
 |_=>show xB Γ (List.take 0 _)=_;rw[List.take_zero];rfl
theorem cF.next{Γ:Cxt}{p q:Pt}{i:Nat}{ks:List Kd}(hw:walked p=true)(h:cF Γ p i ks)(hq:(Pt.parts p)[i]? =some q):
  (∀b,Pt.fit ((yW p ks).reverse++Γ) q= .error b->Pt.fit Γ p= .error b)/\∀k,Pt.fit ((yW p ks).reverse++Γ) q= .ok k->cF Γ p (i+1) (ks++[k]):=by
 have pl:∀{p:Pt},Pt.plain p=true->xB Γ ((Pt.parts p).take i)= .ok ks->(Pt.parts p)[i]? =some q->(∀b,Pt.fit Γ q= .error b->Pt.fit Γ p= .error b)/\∀k,Pt.fit Γ q= .ok k->xB Γ ((Pt.parts p).take (i+1))= .ok (ks++[k]):=fun hp h hq=>
  ⟨fun b e=>(iL hp).1 b ((vD hq h).1 b e),(vD hq h).2⟩
 cases p with
 |one _ _=>exact pl rfl h hq
 |two _ _ _=>exact pl rfl h hq
 |ite _ _ _=>exact pl rfl h hq
 |let_ x p1 p2=>
  rcases h with⟨rfl,rfl⟩|⟨rfl,k,rfl,e⟩|⟨rfl,_⟩
  ·cases hq
   exact⟨fun b z=>(by rw[Pt.fit,show Pt.fit Γ q= .error b from z];rfl),fun k z=>.inr (.inl ⟨rfl,k,rfl,z⟩)⟩
  ·cases hq
   exact⟨fun b z=>(by rw[Pt.fit,e];exact z),fun l z=>.inr (.inr ⟨rfl,k,l,rfl,e,z⟩)⟩
  ·cases hq
 |_=>cases hw
theorem cut2(x y:V)(r:List V):vF (x::y::r) (some 2) none=r/\¬(HT.sIx (x::y::r).length 0 (some 2)=0/\HT.sIx (x::y::r).length (x::y::r).length none=(x::y::r).length):=by
 have e1:HT.sIx (x::y::r).length 0 (some 2)=2:=by
  show(if(2:Int)<0 then((2:Int)+((x::y::r).length:Int)).toNat else min (2:Int).toNat (x::y::r).length)=2
  first|rw[if_neg Bool.false_ne_true]|rw[if_neg (by decide)]
  simp only[aq17]
  show min 2 _=2
  omega
 have e2:HT.sIx (x::y::r).length (x::y::r).length none=(x::y::r).length:=rfl
 refine⟨?_,fun h=>by rw[e1]at h;exact absurd h.1 (by decide)⟩
 unfold vF
 rw[e1,e2]
 simp
section
variable {P:Program} {w:World} {K:Fg} {mg:Str->Option Value} {base:Heap} {f:Addr} {fd:FuncData}
theorem pE.cat{H:Hp}{sc l1:Addr}{es fs:Cxt}{us:List V}{Q:VK}(h:pE K H sc es)(hl:es.length+fs.length<=1000)(e1:H l1=some (.lst us))(hu:qR K H (fs.map edt) us)(q:∀l H',Grow H H'->pE K H' l (es++fs)->Q (.ref l) H'):iA (.ref sc) (.ref l1) H Q:=by
 obtain⟨ws,a,b⟩:=h
 have n1:=b.length
 have n2:=hu.length
 rw[aq16]at n1 n2
 refine⟨sc,l1,ws,us,rfl,rfl,a,e1,by rw[sizeLine_eq];omega,fun l hl=>?_⟩
 have g:=Grow.put (o:=.lst (ws++us)) hl
 refine q l _ g ⟨_,qZ,?_⟩
 rw[aq21]
 exact(b.mono g.same).append (hu.mono g.same)
inductive fJ(K:Fg)(n:Nat)(vs:List V)(H:Hp)(Q:VK):Prop
 |mk (v:V) (sc:Addr) (p:Pt) (es:Cxt) (M:Nat) (a_0:vs=[v,.ref sc]) (a_1:qU K H p.dt v) (a_2:p.deep<n) (a_3:pE K H sc es) (a_4:es.length+2*p.deep<=500) (a_5:Fk es.reverse M p) (a_6:∀u H',Grow H H'->qU K H' (rdt (Pt.fit es.reverse p)) u->Q u H'):fJ K n vs H Q
def yM(K:Fg)(n:Nat):Sp:=fun vs H Q x_0=>fJ K n vs H Q
abbrev yT:List Str:=["_law_part_here","_law_scope"]
inductive qQ5(K:Fg)(n:Nat)(vs:List V)(H:Hp)(Q:VK):Prop
 |mk (v:V) (sc:Addr) (p:Pt) (es:Cxt) (M:Nat) (a_0:vs=[v,.ref sc]) (a_1:qU K H p.dt v) (a_2:p.deep<n+1) (a_3:((∃x k q,p= .fn x k q)\/∃g x k l q,p= .rc g x k l q)) (a_4:pE K H sc es) (a_5:es.length+2*p.deep<=500) (a_6:Fk es.reverse M p) (a_7:∀u H',Grow H H'->qU K H' (rdt (Pt.fit es.reverse p)) u->Q u H'):qQ5 K n vs H Q
def qG0(K:Fg)(n:Nat):Sp:=fun vs H Q x_0=>qQ5 K n vs H Q
theorem fX:zQ ["_law_part_here","_law_scope","_law_inner","_law_whole"] yT (qL qYq):=by walk_at "s"
theorem qP3{n:Nat}(F:zB K "_law_function" "_law_function" qYq .none f fd)(G:dF mg)(GF:Kn P w K mg base (2*n+62) "_law_fits" yT (yM K n))(GB:Kn P w K mg base 1 "_law_is_bad" ["_law_kind_here"] (gA K)):zC P w K mg base (CXE P w) (2*n+63) f fd yT (qG0 K n):=by
 refine F.ok0 fX (by walk_at "l") ?_
 walk_at "i"
 obtain⟨v,sc,p,es,M,rfl,hp,hd,hf,hs,hl,hh,q⟩:=h
 refine⟨_,(qK (zK (qM zG (qO qN (pv 0) qX) qV (nomark _)) (qK (qH (i:=2) fX.nd rfl oI (zI GF hr (qQ (qO qN (pv 0) qX) (qQ (qI jF (pv 1) (qT (qQ (qF (qQ (qO qN (pv 0) qX) (qQ (qO qN (pv 0) qX) qJ))) qJ))) qJ)))) (qY (qG (qO qP (qT (qQ (qF (qQ qV (qQ (qO qN (pv 0) qX) (qQ (pv 2) qJ)))) (qQ (pv 2) qJ))) (zD zA (by rfl) G.int PyProof.Rows.boot_int (qQ (zI GB (hr.mono (by omega)) (qQ (pv 2) qJ)) qJ)))))) qD)
  (qK (qH (i:=3) fX.nd rfl oI (qF (qQ qV (qQ (qO qN (pv 0) qX) (qQ (qO qN (pv 0) qX) qJ)))))
  (qK (qH (i:=2) fX.nd rfl oI (zI GF hr (qQ (qO qN (pv 0) qX) (qQ (qI jF (pv 1) (qT (qQ (qF (qQ (qO qN (pv 0) qX) (qQ (pv 3) qJ))) (qQ (qF (qQ (qO qN (pv 0) qX) (qQ (qO qN (pv 0) qX) qJ))) qJ)))) qJ))))
  (qK (zK (xW (zI GB (hr.mono (by omega)) (qQ (pv 2) qJ))) (qY (qG (pv 2))) qD)
  (qY (qG (qO qP (qT (qQ (qF (qQ qV qJ)) (qQ (pv 3) qJ))) (zD zA (by rfl) G.int PyProof.Rows.boot_int (qQ (zS jS (pv 2) (qO qN (pv 0) qX) (nomark _)) qJ))))))))),?_⟩
 have hi:=hh.hi
 have lo:=hh.lo
 have kb:=hh.kb
 rcases hf with⟨x,k,p2,rfl⟩|⟨g,x,k,l,p2,rfl⟩
 ·simp only[Pt.deep,Pt.gr]at hd hl hi
  obtain⟨a,v0,v1,v2,rfl,ha,hx,hv1,hv2⟩:=xE hp
  cases zR hx
  refine⟨_,rfl,a,_,_,.str "fn",rfl,rfl,ha,qW (j:=0) rfl,rfl,_,rfl,xQ (by decide+kernel) ?_⟩
  refine⟨_,rfl,a,_,_,v2,rfl,rfl,ha,qW (j:=3) rfl,_,rfl,_,rfl,a,_,_,.str x,rfl,rfl,ha,qW (j:=1) rfl,_,rfl,a,_,_,v1,rfl,rfl,ha,qW (j:=2) rfl,zl2,fun T hT=>⟨zl1,fun l1 hl1=>?_⟩⟩
  have g1:=Grow.put (o:=.tup [.str x,v1]) hT
  have eT:qA K (upd H T (.tup [.str x,v1])) T [.str x,v1]:=qA.of qZ
  generalize upd H T (.tup [.str x,v1])=H1 at g1 eT hl1⊢
  have g2:=Grow.put (o:=.lst [.ref T]) hl1
  have el:(upd H1 l1 (.lst [.ref T])) l1=some (.lst [.ref T]):=qZ
  generalize upd H1 l1 (.lst [.ref T])=H2 at g2 el⊢
  have g02:=g1.trans g2
  refine pE.cat (K:=K) (fs:=[(x,k)]) (hs.mono g02) (by simp;omega) el (qB (jG (qA.mono g2.same eT) (hv1.mono g02.same)) zX) fun l2 H3 g3 hS=>?_
  have g03:=g02.trans g3
  have er:(es++[(x,k)]).reverse=(x,k)::es.reverse:=by simp
  refine⟨v2,l2,p2,es++[(x,k)],M,rfl,hv2.mono g03.same,by omega,hS,by simp;omega,by rw[er];exact⟨hh.cb.cons (by have :=kb.1;omega),kb.2,lo,by omega⟩,fun u H4 g4 hu=>?_⟩
  rw[er]at hu
  rw[Pt.fit]at q
  have g04:=g03.trans g4
  walk_at "d"
  refine⟨_,rfl,a,_,_,v1,rfl,rfl,qA.mono g04.same ha,qW (j:=2) rfl,_,rfl,zl3,fun T3 hT3=>?_⟩
  have g5:=Grow.put (o:=.tup [.str "fun",v1,u]) hT3
  have e5:qA K (upd H4 T3 (.tup [.str "fun",v1,u])) T3 [.str "fun",v1,u]:=qA.of qZ
  generalize upd H4 T3 (.tup [.str "fun",v1,u])=H5 at g5 e5⊢
  refine⟨_,rfl,zl2,fun l3 hl3=>?_⟩
  have g6:=Grow.put (o:=.lst [.ref T3,u]) hl3
  have e6:zV K (upd H5 l3 (.lst [.ref T3,u])) l3 [.ref T3,u]:=zV.of qZ
  generalize upd H5 l3 (.lst [.ref T3,u])=H6 at g6 e6⊢
  have g46:=g5.trans g6
  refine⟨_,rfl,u,_,rfl,hu.mono g46.same,fun H7 g7=>.inr ⟨_,rfl,pick2 _ (g7.same.seq e6) ?_⟩⟩
  have g47:=g46.trans g7
  cases he:Pt.fit ((x,k)::es.reverse) p2 with
  |error b=>rw[he]at q hu;exact q u H7 (g04.trans g47) (hu.mono g47.same)
  |ok l=>
   rw[he]at q hu
   exact q _ H7 (g04.trans g47) (kF (qA.mono (g6.trans g7).same e5) (hv1.mono (g04.trans g47).same) (hu.mono g47.same))
 ·simp only[Pt.deep,Pt.gr]at hd hl hi
  obtain⟨a,v0,v1,v2,v3,v4,rfl,ha,hg,hx,hv2,hv3,hv4⟩:=iO hp
  cases zR hx
  cases zR hg
  refine⟨_,rfl,a,_,_,.str "rec",rfl,rfl,ha,qW (j:=0) rfl,rfl,_,rfl,jY (by decide+kernel) ?_⟩
  refine⟨_,rfl,a,_,_,v2,rfl,rfl,ha,qW (j:=3) rfl,_,rfl,a,_,_,v3,rfl,rfl,ha,qW (j:=4) rfl,zl3,fun W hW=>?_⟩
  have g1:=Grow.put (o:=.tup [.str "fun",v2,v3]) hW
  have eW:qA K (upd H W (.tup [.str "fun",v2,v3])) W [.str "fun",v2,v3]:=qA.of qZ
  generalize upd H W (.tup [.str "fun",v2,v3])=H1 at g1 eW⊢
  walk_at "d"
  have ha1:=qA.mono g1.same ha
  have hW1:qU K H1 (Kd.fn k l).dt (.ref W):=kF eW (hv2.mono g1.same) (hv3.mono g1.same)
  refine⟨_,rfl,a,_,_,v4,rfl,rfl,ha1,qW (j:=5) rfl,_,rfl,_,rfl,a,_,_,.str g,rfl,rfl,ha1,qW (j:=1) rfl,_,rfl,zl2,fun T hT=>?_⟩
  have g2:=Grow.put (o:=.tup [.str g,.ref W]) hT
  have eT:qA K (upd H1 T (.tup [.str g,.ref W])) T [.str g,.ref W]:=qA.of qZ
  generalize upd H1 T (.tup [.str g,.ref W])=H2 at g2 eT⊢
  have g12:=g1.trans g2
  have ha2:=qA.mono g12.same ha
  refine⟨_,rfl,a,_,_,.str x,rfl,rfl,ha2,qW (j:=2) rfl,_,rfl,a,_,_,v2,rfl,rfl,ha2,qW (j:=3) rfl,zl2,fun T' hT'=>?_⟩
  have g3:=Grow.put (o:=.tup [.str x,v2]) hT'
  have eT':qA K (upd H2 T' (.tup [.str x,v2])) T' [.str x,v2]:=qA.of qZ
  generalize upd H2 T' (.tup [.str x,v2])=H3 at g3 eT'⊢
  refine⟨zl2,fun l1 hl1=>?_⟩
  have g4:=Grow.put (o:=.lst [.ref T,.ref T']) hl1
  have el:(upd H3 l1 (.lst [.ref T,.ref T'])) l1=some (.lst [.ref T,.ref T']):=qZ
  generalize upd H3 l1 (.lst [.ref T,.ref T'])=H4 at g4 el⊢
  have g24:=g3.trans g4
  have g04:=g12.trans g24
  refine pE.cat (K:=K) (fs:=[(g,Kd.fn k l),(x,k)]) (hs.mono g04) (by simp;omega) el (qB (jG (qA.mono g24.same eT) (hW1.mono (g2.trans g24).same)) (qB (jG (qA.mono g4.same eT') (hv2.mono g04.same)) zX)) fun l2 H5 g5 hS=>?_
  have g05:=g04.trans g5
  have er:(es++[(g,Kd.fn k l),(x,k)]).reverse=(x,k)::(g,Kd.fn k l)::es.reverse:=by simp
  have F2:Fk ((x,k)::(g,Kd.fn k l)::es.reverse) M p2:=⟨(hh.cb.cons (by have :=kb.1;have :=kb.2.1;simp only[Kd.deep];omega)).cons (by have :=kb.1;omega),kb.2.2,lo,by omega⟩
  refine⟨v4,l2,p2,es++[(g,Kd.fn k l),(x,k)],M,rfl,hv4.mono g05.same,by omega,hS,by simp;omega,by rw[er];exact F2,fun u H6 g6 hu=>?_⟩
  rw[er]at hu
  rw[Pt.fit]at q
  have g06:=g05.trans g6
  have gW6:Grow H1 H6:=((g2.trans g24).trans g5).trans g6
  walk_at "d"
  refine⟨_,rfl,u,_,rfl,hu,fun H7 g7=>⟨_,rfl,?_⟩⟩
  have g07:=g06.trans g7
  cases he:Pt.fit ((x,k)::(g,Kd.fn k l)::es.reverse) p2 with
  |error b=>rw[he]at q hu;exact jO ⟨_,rfl,q u H7 g07 (hu.mono g7.same)⟩
  |ok m=>
   rw[he]at q hu
   have q':∀u H',Grow H H'->qU K H' (rdt (if m=l then .ok (.fn k l)else .error .unfit)) u->Q u H':=q
   refine jQ ⟨zl1,fun U hU=>?_⟩
   have g8:=Grow.put (o:=.tup [.str "unfit"]) hU
   have eU:qA K (upd H7 U (.tup [.str "unfit"])) U [.str "unfit"]:=qA.of qZ
   generalize upd H7 U (.tup [.str "unfit"])=H8 at g8 eU⊢
   refine⟨_,rfl,zl2,fun l3 hl3=>?_⟩
   have g9:=Grow.put (o:=.lst [.ref U,.ref W]) hl3
   have e9:zV K (upd H8 l3 (.lst [.ref U,.ref W])) l3 [.ref U,.ref W]:=zV.of qZ
   generalize upd H8 l3 (.lst [.ref U,.ref W])=H9 at g9 e9⊢
   have g79:=g8.trans g9
   have g09:=g07.trans g79
   refine⟨_,rfl,_,rfl,a,_,_,v3,rfl,rfl,qA.mono g09.same ha,qW (j:=4) rfl,m.dt,l.dt,hu.mono (g7.trans g79).same,hv3.mono g09.same,xC hr (by omega) (F2.deep he),.inr ⟨_,rfl,pick2 _ e9 (q' _ _ g09 ?_)⟩⟩
   rw[Kd.eq_dt]
   by_cases z:m=l
   ·rw[decide_eq_true z,if_pos z]
    exact hW1.mono ((gW6.trans g7).trans g79).same
   ·rw[decide_eq_false z,if_neg z]
    exact vL (qA.mono g9.same eU)
end
end K14
namespace L2
open PySem PySem.Spec PyProof.Rows PyProof Dt
structure PPw(X:Cx)(pos:Pos)(keys:List (Option Expr))(values:List Expr)(trs:List (TE×TE)):Prop where
 h:PPs X pos keys values trs
section
variable {X:Cx} {pos p p' apos cpos:Pos} {ks:List (Option Expr)} {vs:List Expr} {trs:List (TE×TE)} {a b:Str} {j j':Nat} {o e f:Expr} {td ty tx:TE}
theorem wpn:PPw X pos [] [] []:=⟨qKz⟩
theorem wpc(hr:PPw X pos ks vs trs):PPw X pos (some (.Constant (.str a) j p)::ks) (.Constant (.str b) j' p'::vs) ((tC (.str a),tC (.str b))::trs):=⟨sC qV qV hr.h⟩
theorem zZ7(h:PPw X pos ks vs trs)(hall:ks.all (·.isSome)=true)(hl:ks.length=vs.length)(h0:ks≠[])(h15:ks.length<=15):PEw X (.Dict ks vs pos) (qI2 trs):=⟨qKj h.h hall hl h0 h15⟩
theorem zVz(hu:X.A.units+1<cLine)(ho:PEw X o td)(he:PE X e ty)(hf:PE X f tx)(m:M2 X o "get" apos e f cpos):PEw X (.Call (.Attribute o "get" apos) [e,f] [] cpos) (sL td ty tx):=⟨sG hu ho.h he hf m⟩
theorem uJ(K:Fg)(h:X.K=K):rP X (qX1 K):=by subst h;exact qN
end
end L2
namespace K14
open PySem L2 PyProof Dt
theorem fw:∀x∈(["if","let","head","tail","empty","first","second","not","cons","pair","call","plus","minus","times","over","rest","less","same","and","or"]:List Str),kQ (.str x) [.str "num",.str "truth",.str "nil"]=false/\decide (V.str x=V.str "name")=false/\kQ (.str x) [.str "fn",.str "rec"]=false:=by decide+kernel
theorem rQ{p:Pt}(hw:walked p=true):Pt.wd p∈(["if","let","head","tail","empty","first","second","not","cons","pair","call","plus","minus","times","over","rest","less","same","and","or"]:List Str):=by
 cases p with
 |one o p=>cases o<;>simp[Pt.wd,U1.str]
 |two o p q=>cases o<;>simp[Pt.wd,U2.str]
 |ite p q r=>simp[Pt.wd]
 |let_ x p q=>simp[Pt.wd]
 |_=>cases hw
def qQ6:Pt->Bool
 | .let_ _ _ _=>true
 |_=>false
theorem nE{p:Pt}(hw:walked p=true):decide (V.str (Pt.wd p)=V.str "let")=qQ6 p:=by
 have h1:∀o:U1,decide (V.str o.str=V.str "let")=false:=by intro o;cases o<;>decide+kernel
 have h2:∀o:U2,decide (V.str o.str=V.str "let")=false:=by intro o;cases o<;>decide+kernel
 have h3:decide (V.str "if"=V.str "let")=false/\decide (V.str "let"=V.str "let")=true:=by decide+kernel
 cases p with
 |one o p=>exact h1 o
 |two o p q=>exact h2 o
 |ite p q r=>exact h3.1
 |let_ x p q=>exact h3.2
 |_=>cases hw
def lfP:Pt->Bool
 | .num _=>true| .tru _=>true| .nil _=>true|_=>false
def dNT:List (Key×V):=[(Sum.inr "num",.str "int"),(Sum.inr "truth",.str "bool")]
theorem qQ7:jD (xN [] dNT) (Sum.inr "num":Key)=some (.str "int")/\jD (xN [] dNT) (Sum.inr "truth":Key)=some (.str "bool")/\jD (xN [] dNT) (Sum.inr "nil":Key)=none:=by decide+kernel
theorem Fk.walk{Γ:Cxt}{M i:Nat}{p q:Pt}{ks:List Kd}(hw:walked p=true)(h:Fk Γ M p)(hi:cF Γ p i ks)(hq:(Pt.parts p)[i]? =some q):∃M',Fk ((yW p ks).reverse++Γ) M' q:=by
 have hm:=aq23 hq
 cases p with
 |one _ _=>exact⟨M,h.parts rfl hm⟩
 |two _ _ _=>exact⟨M,h.parts rfl hm⟩
 |ite _ _ _=>exact⟨M,h.parts rfl hm⟩
 |let_ x p1 p2=>
  have h4:=h.hi
  simp only[Pt.gr]at h4
  rcases hi with⟨rfl,rfl⟩|⟨rfl,k,rfl,e⟩|⟨rfl,_⟩
  ·cases hq
   exact⟨M,h.cb,h.kb.1,h.lo,by omega⟩
  ·cases hq
   exact⟨M+p1.gr,(h.cb.mono (Nat.le_add_right _ _)).cons (Pt.fit_deep p1 h.cb h.kb.1 (Nat.le_trans (by decide) h.lo) e),h.kb.2,Nat.le_trans h.lo (Nat.le_add_right _ _),by omega⟩
  ·cases hq
 |_=>cases hw
theorem gE{p q:Pt}(hw:walked p=true)(hq:q∈Pt.parts p):q.deep<p.deep:=by
 cases p with
 |one _ _=>exact(xD rfl).2 q hq
 |two _ _ _=>exact(xD rfl).2 q hq
 |ite _ _ _=>exact(xD rfl).2 q hq
 |let_ x p1 p2=>
  simp only[Pt.parts,List.mem_cons,List.not_mem_nil,or_false]at hq
  simp only[Pt.deep]
  rcases hq with rfl|rfl<;>omega
 |_=>cases hw
theorem kZ{Γ:Cxt}{p:Pt}{ps:List Pt}{ks:List Kd}(h:xB Γ (p::ps)= .ok ks):∃k ls,ks=k::ls/\Pt.fit Γ p= .ok k/\xB Γ ps= .ok ls:=by
 obtain⟨k,h1,h⟩:=Pt.bind_ok h
 obtain⟨ls,h2,z⟩:=Pt.bind_ok h
 cases z
 exact⟨k,ls,rfl,h1,h2⟩
theorem cF.len{Γ:Cxt}{p:Pt}{i:Nat}{ks:List Kd}(h:cF Γ p i ks)(hi:i<=(Pt.parts p).length):ks.length=i:=by
 cases p with
 |let_ x p1 p2=>rcases h with⟨rfl,rfl⟩|⟨rfl,k,rfl,_⟩|⟨rfl,k,l,rfl,_⟩<;>rfl
 |_=>rw[uT h,List.length_take];exact Nat.min_eq_left hi
section
variable {P:Program} {w:World} {K:Fg} {mg:Str->Option Value} {base:Heap} {f:Addr} {fd:FuncData}
theorem rZ{H:Hp}{p:Pt}{v:V}(hw:walked p=true)(h:qU K H p.dt v):∃a y xs ws,v= .ref a/\qA K H a (.str (Pt.wd p)::y::xs)/\qR K H ((Pt.parts p).map Pt.dt) ws/\vF (.str (Pt.wd p)::y::xs) (some (1+if qQ6 p=true then 1 else 0)) none=ws/\
  ¬(HT.sIx (V.str (Pt.wd p)::y::xs).length 0 (some (1+if qQ6 p=true then 1 else 0))=0/\HT.sIx (V.str (Pt.wd p)::y::xs).length (V.str (Pt.wd p)::y::xs).length none=(V.str (Pt.wd p)::y::xs).length)/\∀x q r,p= .let_ x q r->y= .str x:=by
 cases p with
 |one o p=>obtain⟨a,u,rfl,hs,h1⟩:=jB h;exact⟨a,_,_,_,rfl,hs,qB h1 zX,cut1 _ _,kW _ _,fun _ _ _ z=>by cases z⟩
 |two o p q=>obtain⟨a,u,x,rfl,hs,h1,h2⟩:=xV h;exact⟨a,_,_,_,rfl,hs,qB h1 (qB h2 zX),cut1 _ _,kW _ _,fun _ _ _ z=>by cases z⟩
 |ite p q r=>obtain⟨a,u,x,y,rfl,hs,h1,h2,h3⟩:=xE h;exact⟨a,_,_,_,rfl,hs,qB h1 (qB h2 (qB h3 zX)),cut1 _ _,kW _ _,fun _ _ _ z=>by cases z⟩
 |let_ x p q=>
  obtain⟨a,u,y,z,rfl,hs,hx,h1,h2⟩:=xE h
  cases zR hx
  exact⟨a,_,_,_,rfl,hs,qB h1 (qB h2 zX),(cut2 _ _ _).1,(cut2 _ _ _).2,fun _ _ _ z=>by cases z;rfl⟩
 |_=>cases hw
theorem vG:zQ ["_law_part_here","_law_scope","_law_word","_law_kind_here","_law_kinds","_law_one","_law_wider"] yT (qL gS):=by walk_at "s"
theorem qQ8(F:zB K "_law_fits" "_law_fits" gS .none f fd):zC P w K mg base (CXE P w) (2*0+62) f fd yT (yM K 0):=by
 refine F.ok0 vG (by walk_at "l") ?_
 walk_at "i"
 obtain⟨v,sc,p,es,M,rfl,_,hd,_⟩:=h
 exact absurd hd (Nat.not_lt_zero _)
theorem qU2{n:Nat}(F:zB K "_law_fits" "_law_fits" gS .none f fd)(G:dF mg)(GF:Kn P w K mg base (2*n+62) "_law_fits" yT (yM K n))(GB:Kn P w K mg base 1 "_law_is_bad" ["_law_kind_here"] (gA K))(GD:Kn P w K mg base 1 "_law_bound" ["_law_name","_law_scope"] (eV K))(GU:Kn P w K mg base (2*n+63) "_law_function" yT (qG0 K n))
  (G1:Kn P w K mg base 60 "_law_of_one" ["_law_word","_law_one"] (qQ4 K))(G2:Kn P w K mg base 60 "_law_of_two" ["_law_word","_law_one","_law_other"] (qQ2 K)):zC P w K mg base (CXE P w) (2*(n+1)+62) f fd yT (yM K (n+1)):=by
 refine F.ok0 (k:=2*n+63) vG (fun vs H Q E h=>?_) (fun cdv A outer s H vs Q E hr h=>?_)
 ·obtain⟨v,sc,p,es,M,rfl,_⟩:=h
  rfl
 ·obtain⟨v,sc,p,es,M,rfl,hp,hd,hs,hl,hh,q⟩:=h
  have ndb:((["_law_kind_here"]:List Str)++(["_law_part_here"]:List Str)).Nodup:=by decide+kernel
  refine⟨_,(qK (qH (i:=2) vG.nd rfl oI (qO qN (pv 0) qX))
   (qK (qH7 (qM jW (pv 2) (qT (qQ qV (qQ qV (qQ qV qJ)))) rfl) (qH6 (zVz (Nat.lt_of_succ_lt hr.u2) (zZ7 (wpc (wpc wpn)) rfl rfl (by simp) (by show 2<=15;decide)) (pv 2) (qF (qQ qV (qQ (qO qN (pv 0) qX) qJ))) ⟨rfl,rfl,rfl,rfl⟩)) qD)
   (qK (zK (qM zG (pv 2) qV (nomark _)) (qK (qH (i:=3) vG.nd rfl oI (zI GD (hr.mono (by omega)) (qQ (qO qN (pv 0) qX) (qQ (pv 1) qJ)))) (qY (qG (qO qP (qT (qQ (pv 3) (qQ (qF (qQ qV (qQ (qO qN (pv 0) qX) qJ))) qJ))) (zD zA (by rfl) G.int PyProof.Rows.boot_int (qQ (qG9 (qG8 (pv 3))) qJ)))))) qD)
   (qK (zK (qM jW (pv 2) (qT (qQ qV (qQ qV qJ))) rfl) (qY (qG (zI GU hr (qQ (pv 0) (qQ (pv 1) qJ))))) qD)
   (qK (qH (i:=4) vG.nd rfl oI (qT qJ))
   (qK (vE PassesOwn.never rfl (qGz (xH wZ (pv 0) (kI (qI jJ qX (zD zA (by rfl) G.int PyProof.Rows.boot_int (qQ (zS zG (pv 2) qV (nomark _)) qJ)))) kO)) (jU (i:=5) vG.nd rfl oI)
    (qK (qH (i:=6) vG.nd rfl oI (qI jF (pv 1) (qI qM8 (sT (bF (own:=["_law_kind_here"]) (y:="_law_part_here") (i:=0) (by rfl) (by decide+kernel) (by rfl) (by decide+kernel) (by rfl) (by decide+kernel) (by rfl) (.inl (by rfl)) (by rfl) (by decide+kernel)) rfl (vM (pv 4)) (fun C s H fp pins=>(qF (qQ (qO (uJ K rfl) (pv 1) qX) (qQ (pv 0) qJ)))) (fun C s H fp pins=>jU (i:=0) ndb rfl oI (Or.inr (by rfl)))) (zD zA (by rfl) G.int PyProof.Rows.boot_int (qQ (zS zG (pv 2) qV (nomark _)) qJ)))))
   (qK (qH (i:=3) vG.nd rfl oI (zI GF (hr.mono (by omega)) (qQ (pv 5) (qQ (pv 6) qJ))))
   (qK (zK (xW (zI GB (hr.mono (by omega)) (qQ (pv 3) qJ))) (qY (qG (pv 3))) qD)
   (qY (jK (yB aq0 PySem.F.slot_list_append PySem.F.type_list_append kB (pv 4) (qQ (pv 3) qJ))))))))
   (qK (zK (qM zG (pv 2) qV (nomark _)) (qY (qG (qO qP (pv 4) qX))) qD)
   (qK (zK (qM zG (pv 2) qV (nomark _)) (qY (qG (qO qP (qT (qQ (qF (qQ qV qJ)) (qQ (qO qP (pv 4) qX) qJ))) (zD zA (by rfl) G.int PyProof.Rows.boot_int (qQ (vQ (zS jS (qO qP (pv 4) qX) qV (nomark _)) (vA (zS jS (qO qP (pv 4) qX) (qO qP (pv 4) qX) (nomark _)))) qJ))))) qD)
   (qK (zK (qM zG (zW zP (by rfl) G.len aq27 (qQ (pv 4) qJ)) qX (nomark _)) (qY (qG (zI G1 (hr.mono (by omega)) (qQ (pv 2) (qQ (qO qP (pv 4) qX) qJ))))) qD)
   (qY (qG (zI G2 (hr.mono (by omega)) (qQ (pv 2) (qQ (qO qP (pv 4) qX) (qQ (qO qP (pv 4) qX) qJ))))))))))))))),?_⟩
  by_cases hw:walked p=true
  ·obtain⟨a,y,xs,ws,rfl,ha,hws,hcut,hnot,hlet⟩:=rZ hw hp
   obtain⟨w1,w2,w3⟩:=fw _ (rQ hw)
   have wl:=nE hw
   refine⟨_,rfl,a,_,_,.str (Pt.wd p),rfl,rfl,ha,qW (j:=0) rfl,?_⟩
   walk_at "d"
   refine⟨_,rfl,zl3,fun t1 ht1=>?_⟩
   have g1:=Grow.put (o:=.lst [.str "num",.str "truth",.str "nil"]) ht1
   have e1:zV K (upd H t1 (.lst [.str "num",.str "truth",.str "nil"])) t1 [.str "num",.str "truth",.str "nil"]:=zV.of qZ
   generalize upd H t1 (.lst [.str "num",.str "truth",.str "nil"])=H1 at g1 e1⊢
   refine⟨t1,_,rfl,.inl e1,rfl,rfl,_,rfl,?_⟩
   rw[if_neg Bool.false_ne_true,w1]
   refine jQ ⟨_,rfl,rfl,_,rfl,jY w2 ⟨_,rfl,zl2,fun t2 ht2=>?_⟩⟩
   have g2:=Grow.put (o:=.lst [.str "fn",.str "rec"]) ht2
   have e2:zV K (upd H1 t2 (.lst [.str "fn",.str "rec"])) t2 [.str "fn",.str "rec"]:=zV.of qZ
   generalize upd H1 t2 (.lst [.str "fn",.str "rec"])=H2 at g2 e2⊢
   refine⟨t2,_,rfl,.inl e2,rfl,rfl,_,rfl,?_⟩
   rw[if_neg Bool.false_ne_true,w3]
   refine jQ ⟨zl0,fun kl hkl=>?_⟩
   have g3:=Grow.put (o:=.lst []) hkl
   have e3:(upd H2 kl (.lst [])) kl=some (.lst []):=qZ
   generalize upd H2 kl (.lst [])=H3 at g3 e3⊢
   walk_at "d"
   have g03:=(g1.trans g2).trans g3
   have nk:H kl=none:=(g1.trans g2).none _ hkl
   refine⟨_,rfl,_,rfl,rfl,.inr ⟨_,rfl,_,_,rfl,rfl,?_⟩⟩
   rw[wl]
   refine⟨_,rfl,a,_,rfl,qA.mono g03.same ha,hnot,fun t4 ht4=>?_⟩
   rw[hcut]
   have g4:=Grow.put (o:=.tup ws) ht4
   have e4:qA K (upd H3 t4 (.tup ws)) t4 ws:=qA.of qZ
   have e3:=g4.same _ _ e3
   generalize upd H3 t4 (.tup ws)=H4 at g4 e4 e3⊢
   have g04:=g03.trans g4
   have hlen:ws.length=(Pt.parts p).length:=by rw[hws.length,aq16]
   have plen:(Pt.parts p).length<=3:=by cases p<;>simp[Pt.parts]
   refine⟨t4,rfl,⟨_,e4⟩,?_⟩
   refine qJ5 (K:=K) (a:=t4) (xs:=ws) (fun i σ H5=>∃o3 o5 o6 ks vs,σ=[some (.ref a),some (.ref sc),some (.str (Pt.wd p)),o3,some (.ref kl),o5,o6]/\Grow H H5/\H5 kl=some (.lst vs)/\qR K H5 (ks.map Kd.dt) vs/\cF es.reverse p i ks/\qA K H5 t4 ws) ?_ ?_ ?_ ?_
   ·exact⟨_,_,_,[],[],rfl,g04,e3,zX,.zero _ _,e4⟩
   ·rintro i σ H5 _ ⟨_,_,_,_,_,_,_,_,_,_,h⟩
    exact h
   ·rintro i x σ H5 hx ⟨o3,o5,o6,ks,vs,rfl,g5,e5,hks,hF,ht5⟩
    obtain⟨pi,hpi⟩:∃pi,(Pt.parts p)[i]? =some pi:=by
     have :i<ws.length:=(List.getElem?_eq_some_iff.mp hx).1
     exact⟨_,aq15 (by omega)⟩
    have hip:i<(Pt.parts p).length:=(List.getElem?_eq_some_iff.mp hpi).1
    obtain⟨x',hx',hxd⟩:=hws.get (i:=i) (d:=pi.dt) (by rw[aq19,hpi];rfl)
    rw[hx]at hx'
    cases hx'
    have kn:=hF.len (Nat.le_of_lt hip)
    have vn:vs.length=ks.length:=by rw[hks.length,aq16]
    obtain⟨ne,no⟩:=hF.next hw hpi
    obtain⟨M',hM'⟩:=hh.walk hw hF hpi
    have hdi:=gE hw (aq23 hpi)
    walk_at "d"
    refine⟨_,rfl,_,rfl,kl,rfl,⟨_,zV.of e5⟩,fun D0 hD0=>?_⟩
    have gD:=Grow.put (o:=.lst []) hD0
    refine uP (K:=K) (a:=kl) (xs:=vs) (te:=mD (jL (pZ (qX1 K) (xG 1) (tC (.int 1))) (jL (xG 0) wI))) (ix:=[0]) (σ:=[some (.ref a),some (.ref sc),some (.str (Pt.wd p)),o3,some (.ref kl),some x,o6])
     (fun j zs H6=>Grow H5 H6/\H6 D0=some (.lst zs)/\zs.length=j/\∀xn,y= .str xn->qR K H6 ((ks.take j).map fun k=>edt (xn,k)) zs) ?_ ?_ ?_ ?_
    ·exact⟨gD,qZ,rfl,fun _ _=>zX⟩
    ·rintro j zs H6 _ ⟨g6,_⟩
     exact zV.of (g6.same _ _ e5)
    ·rintro j kv zs H6 hkv ⟨g6,e6,hz,hzs⟩ Q' hq
     refine⟨_,rfl,a,_,_,y,rfl,rfl,qA.mono (g5.trans g6).same ha,qW (j:=1) rfl,_,rfl,zl2,fun T hT=>?_⟩
     have g7:=Grow.put (o:=.tup [y,kv]) hT
     have eT:qA K (upd H6 T (.tup [y,kv])) T [y,kv]:=qA.of qZ
     generalize upd H6 T (.tup [y,kv])=H7 at g7 eT⊢
     have hjl:j<vs.length:=(List.getElem?_eq_some_iff.mp hkv).1
     have e7:=g7.same _ _ e6
     have kd:kY K H7 (upd H7 D0 (.lst (zs++[.ref T]))):=zF.tups ((zF.refl D0 H7).set e7) e7
     refine hq _ H7 e7 (by rw[sizeLine_eq];omega) ⟨(g6.trans g7).set hD0,qZ,by simp[hz],fun xn hxn=>?_⟩
     obtain⟨k,hk⟩:∃k,ks[j]? =some k:=⟨_,aq15 (by omega)⟩
     obtain⟨kv',hkv',hd'⟩:=hks.get (i:=j) (d:=k.dt) (by rw[aq19,hk];rfl)
     rw[hkv]at hkv'
     cases hkv'
     subst hxn
     rw[List.take_add_one,hk,aq21]
     exact(((hzs xn rfl).mono g7.same).monoT kd).append (qB ((jG eT (hd'.mono (g6.trans g7).same)).monoT kd) zX)
    ·rintro zs H6 ⟨g6,e6,hz,hzs⟩
     refine⟨_,rfl,rfl,.inr ⟨_,rfl,?_⟩⟩
     rw[wl]
     have hks6:List.take vs.length ks=ks:=List.take_of_length_le (by omega)
     rw[hks6]at hzs
     obtain⟨us,hus,hun,hud⟩:∃us,(List.replicate (if qQ6 p=true then(1:Int)else 0).toNat zs).flatten=us/\us.length<=3/\qR K H6 ((yW p ks).map edt) us:=by
      cases hlt:qQ6 p with
      |false=>
       refine⟨[],rfl,by simp,?_⟩
       have :yW p ks=[]:=by cases p<;>first|rfl|cases hlt
       rw[this];exact zX
      |true=>
       refine⟨zs,by simp,by omega,?_⟩
       cases p with
       |let_ xn p1 p2=>
        have :=hzs xn (hlet _ _ _ rfl)
        show qR K H6 (List.map edt (List.map _ ks)) zs
        rw[List.map_map];exact this
       |_=>cases hlt
     refine⟨D0,_,zs,rfl,rfl,e6,by split<;>decide,by split<;>decide,by rw[sizeLine_eq];split<;>simp <;>omega,fun l1 hl1=>?_⟩
     rw[hus]
     have g7:=Grow.put (o:=.lst us) hl1
     have e7:(upd H6 l1 (.lst us)) l1=some (.lst us):=qZ
     generalize upd H6 l1 (.lst us)=H7 at g7 e7⊢
     have g57:=g6.trans g7
     have g07:=g5.trans g57
     have hext:(yW p ks).length<=3:=by have :=hud.length;rw[aq16]at this;omega
     refine pE.cat (K:=K) (fs:=yW p ks) (hs.mono g07) (by omega) e7 (hud.mono g7.same) fun l2 H8 g8 hS=>?_
     walk_at "d"
     have g58:=g57.trans g8
     have er:(es++yW p ks).reverse=(yW p ks).reverse++es.reverse:=List.reverse_append
     have exl:(yW p ks).length<=1:=by
      cases p with
      |let_ xn p1 p2=>
       simp only[yW,aq16]
       simp only[Pt.parts,aq17,List.length_nil]at hip
       omega
      |_=>simp[yW]
     refine⟨_,rfl,_,rfl,x,l2,pi,es++yW p ks,M',rfl,hxd.mono (g5.trans g58).same,by omega,hS,by rw[List.length_append];omega,by rw[er];exact hM',fun u H9 g9 hu=>?_⟩
     rw[er]at hu
     walk_at "d"
     refine⟨_,rfl,u,_,rfl,hu,fun H10 g10=>⟨_,rfl,?_⟩⟩
     have g510:=(g58.trans g9).trans g10
     have g010:=g5.trans g510
     cases he:Pt.fit ((yW p ks).reverse++es.reverse) pi with
     |error b=>
      rw[he]at hu
      have :=ne b he
      rw[this]at q
      exact jO ⟨_,rfl,q u H10 g010 (hu.mono g10.same)⟩
     |ok k=>
      rw[he]at hu
      have e10:=g510.same _ _ e5
      have kd:kY K H10 (upd H10 kl (.lst (vs++[u]))):=zF.tups ((zF.refl kl H10).set e10) e10
      refine jQ ⟨_,rfl,.inl ⟨rfl,_,zV.of e10⟩,_,rfl,kl,vs,_,rfl,rfl,e10,(by rw[sizeLine_eq];omega),?_⟩
      refine⟨_,_,_,ks++[k],vs++[u],rfl,g010.set nk,qZ,?_,no k he,kd _ _ (qA.mono g510.same ht5)⟩
      rw[aq21]
      exact((hks.mono g510.same).monoT kd).append (qB ((hu.mono g10.same).monoT kd) zX)
   ·rintro σ H5 ⟨o3,o5,o6,ks,vs,rfl,g5,e5,hks,hF,ht5⟩
    rw[hlen]at hF
    refine⟨_,rfl,rfl,_,rfl,?_⟩
    rw[wl]
    have hd5:∀{k:Kd}{q:Pt},q∈Pt.parts p->Pt.plain p=true->Pt.fit es.reverse q= .ok k->k.deep<=1100:=fun hq hp e=>(hh.parts hp hq).deep e
    cases p with
    |let_ xn p1 p2=>
     rcases hF with⟨z,_⟩|⟨z,_⟩|⟨_,k,l,rfl,h1,h2⟩
     ·cases z
     ·cases z
     obtain⟨u1,r,rfl,hu1,hks⟩:=qS hks
     obtain⟨u2,r,rfl,hu2,hks⟩:=qS hks
     cases jZ hks
     rw[Pt.fit,h1,show(Except.ok k).bind (fun k=>Pt.fit ((xn,k)::es.reverse) p2)=Pt.fit ((xn,k)::es.reverse) p2 from rfl,h2]at q
     exact jO ⟨_,rfl,kl,_,_,u2,rfl,rfl,zV.of e5,qW (j:=1) rfl,q _ H5 g5 hu2⟩
    |ite p1 p2 p3=>
     have hF:xB es.reverse [p1,p2,p3]= .ok ks:=hF
     obtain⟨k,ls,rfl,h1,hF⟩:=kZ hF
     obtain⟨l,ls,rfl,h2,hF⟩:=kZ hF
     obtain⟨m,ls,rfl,h3,hF⟩:=kZ hF
     cases hF
     obtain⟨u1,r,rfl,hu1,hks⟩:=qS hks
     obtain⟨u2,r,rfl,hu2,hks⟩:=qS hks
     obtain⟨u3,r,rfl,hu3,hks⟩:=qS hks
     cases jZ hks
     rw[Pt.fit,h1,h2,h3]at q
     have q:∀u H',Grow H H'->qU K H' (rdt (Pt.iteK k l m)) u->Q u H':=q
     have dk:=hd5 (k:=k) (q:=p1) (by simp[Pt.parts]) rfl h1
     have dl:=hd5 (k:=l) (q:=p2) (by simp[Pt.parts]) rfl h2
     refine jQ ⟨_,rfl,rfl,_,rfl,xQ (by show decide (V.str "if"=V.str "if")=true;decide+kernel) ⟨zl1,fun U hU=>?_⟩⟩
     have g6:=Grow.put (o:=.tup [.str "unfit"]) hU
     have eU:qA K (upd H5 U (.tup [.str "unfit"])) U [.str "unfit"]:=qA.of qZ
     generalize upd H5 U (.tup [.str "unfit"])=H6 at g6 eU⊢
     have s6:zV K H6 kl [u1,u2,u3]:=zV.of (g6.same _ _ e5)
     refine⟨_,rfl,kl,_,_,u2,rfl,rfl,s6,qW (j:=1) rfl,zl2,fun t7 ht7=>?_⟩
     have g7:=Grow.put (o:=.lst [.ref U,u2]) ht7
     have e7:zV K (upd H6 t7 (.lst [.ref U,u2])) t7 [.ref U,u2]:=zV.of qZ
     generalize upd H6 t7 (.lst [.ref U,u2])=H7 at g7 e7⊢
     have s7:=g7.same.seq s6
     have g57:=g6.trans g7
     have g07:=g5.trans g57
     have no:¬(k= .bool/\l=m)->Q (.ref U) H7:=fun z=>q _ H7 g07 (by rw[Pt.iteK,if_neg z];exact vL (qA.mono g7.same eU))
     refine⟨_,rfl,kl,_,_,u1,rfl,rfl,s7,qW (j:=0) rfl,k.dt,Kd.bool.dt,hu1.mono g57.same,zJ _,xC hr (by omega) dk,?_⟩
     rw[Kd.eq_dt]
     refine⟨_,rfl,ite2 (fun c=>?_) fun c=>.inr ⟨false,rfl,pick2 false e7 (no fun z=>c (decide_eq_true z.1))⟩⟩
     refine⟨_,rfl,kl,_,_,u2,rfl,rfl,s7,qW (j:=1) rfl,_,rfl,kl,_,_,u3,rfl,rfl,s7,qW (j:=2) rfl,l.dt,m.dt,hu2.mono g57.same,hu3.mono g57.same,xC hr (by omega) dl,.inr ⟨_,rfl,pick2 _ e7 ?_⟩⟩
     rw[Kd.eq_dt]
     by_cases z:l=m
     ·rw[decide_eq_true z]
      exact q _ H7 g07 (by rw[Pt.iteK,if_pos ⟨of_decide_eq_true c,z⟩];exact hu2.mono g57.same)
     ·rw[decide_eq_false z]
      exact no fun y=>z y.2
    |one o p1=>
     have hF:xB es.reverse [p1]= .ok ks:=hF
     obtain⟨k,ls,rfl,h1,hF⟩:=kZ hF
     cases hF
     obtain⟨u1,r,rfl,hu1,hks⟩:=qS hks
     cases jZ hks
     rw[Pt.fit,h1]at q
     have dk:=hd5 (k:=k) (q:=p1) (by simp[Pt.parts]) rfl h1
     have ni:decide (V.str o.str=V.str "if")=false:=by cases o<;>decide+kernel
     refine jQ ⟨_,rfl,rfl,_,rfl,jY ni ⟨_,rfl,kl,_,rfl,.inl (zV.of e5),rfl,_,rfl,xQ (by show decide (V.int 1=V.int 1)=true;decide+kernel) ?_⟩⟩
     exact⟨_,rfl,_,rfl,kl,_,_,u1,rfl,rfl,zV.of e5,qW (j:=0) rfl,o,u1,k,rfl,hu1,dk,fun v H6 g6 hv=>q v H6 (g5.trans g6) hv⟩
    |two o p1 p2=>
     have hF:xB es.reverse [p1,p2]= .ok ks:=hF
     obtain⟨k,ls,rfl,h1,hF⟩:=kZ hF
     obtain⟨l,ls,rfl,h2,hF⟩:=kZ hF
     cases hF
     obtain⟨u1,r,rfl,hu1,hks⟩:=qS hks
     obtain⟨u2,r,rfl,hu2,hks⟩:=qS hks
     cases jZ hks
     rw[Pt.fit,h1,h2]at q
     have dk:=hd5 (k:=k) (q:=p1) (by simp[Pt.parts]) rfl h1
     have dl:=hd5 (k:=l) (q:=p2) (by simp[Pt.parts]) rfl h2
     have ni:decide (V.str o.str=V.str "if")=false:=by cases o<;>decide+kernel
     refine jQ ⟨_,rfl,rfl,_,rfl,jY ni ⟨_,rfl,kl,_,rfl,.inl (zV.of e5),rfl,_,rfl,jY (by show decide (V.int 2=V.int 1)=false;decide+kernel) ?_⟩⟩
     exact⟨_,rfl,_,rfl,kl,_,_,u1,rfl,rfl,zV.of e5,qW (j:=0) rfl,_,rfl,kl,_,_,u2,rfl,rfl,zV.of e5,qW (j:=1) rfl,o,u1,u2,k,l,rfl,hu1,hu2,dk,dl,fun v H6 g6 hv=>q v H6 (g5.trans g6) hv⟩
    |_=>cases hw
  ·by_cases hlf:lfP p=true
   ·obtain⟨a,x,y,rfl,ha,hin,hq⟩:∃a x y,v= .ref a/\qA K H a [.str x,y]/\kQ (.str x) [.str "num",.str "truth",.str "nil"]=true/\∀T H',Grow H H'->qA K H' T [.str "list",y]->Q ((jD (xN [] dNT) (Sum.inr x:Key)).getD (.ref T)) H':=by
     cases p with
     |num m=>obtain⟨a,y,rfl,ha,_⟩:=jB hp;exact⟨a,_,y,rfl,ha,by decide+kernel,fun T H' g _=>q _ H' g (by rw[qQ7.1];exact zJ _)⟩
     |tru m=>obtain⟨a,y,rfl,ha,_⟩:=jB hp;exact⟨a,_,y,rfl,ha,by decide+kernel,fun T H' g _=>q _ H' g (by rw[qQ7.2.1];exact zJ _)⟩
     |nil k=>obtain⟨a,y,rfl,ha,hy⟩:=jB hp;exact⟨a,_,y,rfl,ha,by decide+kernel,fun T H' g hT=>q _ H' g (by rw[qQ7.2.2];exact jG hT (hy.mono g.same))⟩
     |_=>cases hlf
    refine⟨_,rfl,a,_,_,.str x,rfl,rfl,ha,qW (j:=0) rfl,?_⟩
    walk_at "d"
    refine⟨_,rfl,zl3,fun t1 ht1=>?_⟩
    have g1:=Grow.put (o:=.lst [.str "num",.str "truth",.str "nil"]) ht1
    have e1:zV K (upd H t1 (.lst [.str "num",.str "truth",.str "nil"])) t1 [.str "num",.str "truth",.str "nil"]:=zV.of qZ
    generalize upd H t1 (.lst [.str "num",.str "truth",.str "nil"])=H1 at g1 e1⊢
    refine⟨t1,_,rfl,.inl e1,rfl,rfl,_,rfl,?_⟩
    rw[if_neg Bool.false_ne_true,hin]
    refine jO ?_
    intro d1 hd1
    refine⟨qZ,dNT,rfl,by decide,d1,rfl,.inl ⟨_,.inl qZ⟩,_,rfl,?_⟩
    rw[iF]
    have g2:=Grow.put (o:=.dK (xN [] dNT)) hd1
    have e2:(upd H1 d1 (.dK (xN [] dNT))) d1=some (.dK (xN [] dNT)):=qZ
    generalize upd H1 d1 (.dK (xN [] dNT))=H2 at g2 e2⊢
    have g02:=g1.trans g2
    refine⟨_,rfl,a,_,_,y,rfl,rfl,qA.mono g02.same ha,qW (j:=1) rfl,zl2,fun T hT=>?_⟩
    have g3:=Grow.put (o:=.tup [.str "list",y]) hT
    exact⟨_,DGet.k (k:=Sum.inr x) (g3.same _ _ e2),hq T _ (g02.trans g3) (qA.of qZ)⟩
   ·have step:∀(x:Str)(a:Addr)(xs:List V),qA K H a (.str x::xs)->kQ (.str x) [.str "num",.str "truth",.str "nil"]=false->∀Q':Bool->Hp->Prop,(∀H1,Grow H H1->Q' false H1)->∀t1,H t1=none->rIn K false (.str x) (.ref t1) (upd H t1 (.lst [.str "num",.str "truth",.str "nil"])) fun z H1=>iP Q' z H1:=fun x a xs _ hx Q' hq t1 ht1=>by
     refine⟨t1,_,rfl,.inl (zV.of qZ),rfl,rfl,_,rfl,?_⟩
     rw[if_neg Bool.false_ne_true,hx]
     exact hq _ (Grow.put ht1)
    cases p with
    |one _ _=>exact absurd rfl hw
    |two _ _ _=>exact absurd rfl hw
    |ite _ _ _=>exact absurd rfl hw
    |let_ _ _ _=>exact absurd rfl hw
    |num _=>exact absurd rfl hlf
    |tru _=>exact absurd rfl hlf
    |nil _=>exact absurd rfl hlf
    |nam x=>
     obtain⟨a,y,rfl,ha,hy⟩:=jB hp
     cases zR hy
     refine⟨_,rfl,a,_,_,.str "name",rfl,rfl,ha,qW (j:=0) rfl,?_⟩
     walk_at "d"
     refine⟨_,rfl,zl3,fun t1 ht1=>step "name" a _ ha (by decide+kernel) _ (fun H1 g1=>jQ ?_) t1 ht1⟩
     refine⟨_,rfl,rfl,_,rfl,xQ (by decide+kernel) ?_⟩
     refine⟨_,rfl,a,_,_,.str x,rfl,rfl,qA.mono g1.same ha,qW (j:=1) rfl,_,rfl,x,sc,es,rfl,hs.mono g1,fun u hu=>?_⟩
     walk_at "d"
     refine⟨_,rfl,_,rfl,a,_,_,.str x,rfl,rfl,qA.mono g1.same ha,qW (j:=1) rfl,zl2,fun T hT=>?_⟩
     have g2:=Grow.put (o:=.tup [.str "noname",.str x]) hT
     have e2:qA K (upd H1 T (.tup [.str "noname",.str x])) T [.str "noname",.str x]:=qA.of qZ
     generalize upd H1 T (.tup [.str "noname",.str x])=H2 at g2 e2⊢
     refine⟨zl2,fun t3 ht3=>?_⟩
     have g3:=Grow.put (o:=.lst [u,.ref T]) ht3
     have e3:zV K (upd H2 t3 (.lst [u,.ref T])) t3 [u,.ref T]:=zV.of qZ
     generalize upd H2 t3 (.lst [u,.ref T])=H3 at g3 e3⊢
     have g13:=g2.trans g3
     rw[Pt.fit]at q
     refine⟨_,rfl,.inr ⟨_,rfl,pick2 _ e3 (q _ H3 (g1.trans g13) ?_)⟩⟩
     unfold bdt at hu
     cases hlk:es.reverse.lookup x with
     |none=>
      rw[hlk]at hu
      cases (show u= .non by rw[qU]at hu;exact hu)
      rw[decide_eq_true rfl]
      exact jG (qA.mono g3.same e2) (zJ _)
     |some k=>
      rw[hlk]at hu
      have hu:qU K H1 k.dt u:=hu
      have nu:u≠ .non:=fun z=>by
       subst z
       rcases cY hu with⟨y,z,_⟩|⟨b,y,vs,ds,z,_⟩<;>cases z
      rw[decide_eq_false nu]
      exact hu.mono g13.same
    |fn x k p2=>
     obtain⟨a,v0,v1,v2,rfl,ha,_⟩:=xE hp
     refine⟨_,rfl,a,_,_,.str "fn",rfl,rfl,ha,qW (j:=0) rfl,?_⟩
     walk_at "d"
     refine⟨_,rfl,zl3,fun t1 ht1=>step "fn" a _ ha (by decide+kernel) _ (fun H1 g1=>jQ ?_) t1 ht1⟩
     refine⟨_,rfl,rfl,_,rfl,jY (by decide+kernel) ⟨_,rfl,zl2,fun t2 ht2=>?_⟩⟩
     have g2:=g1.trans (Grow.put (o:=.lst [.str "fn",.str "rec"]) ht2)
     refine⟨t2,_,rfl,.inl (zV.of qZ),rfl,rfl,_,rfl,?_⟩
     rw[if_neg Bool.false_ne_true,show kQ (.str "fn") [.str "fn",.str "rec"]=true by decide+kernel]
     exact jO ⟨_,rfl,_,rfl,_,sc,_,es,M,rfl,hp.mono g2.same,hd,.inl ⟨x,k,p2,rfl⟩,hs.mono g2,hl,hh,fun u H' g hu=>q u H' (g2.trans g) hu⟩
    |rc g x k l p2=>
     obtain⟨a,v0,v1,v2,v3,v4,rfl,ha,_⟩:=iO hp
     refine⟨_,rfl,a,_,_,.str "rec",rfl,rfl,ha,qW (j:=0) rfl,?_⟩
     walk_at "d"
     refine⟨_,rfl,zl3,fun t1 ht1=>step "rec" a _ ha (by decide+kernel) _ (fun H1 g1=>jQ ?_) t1 ht1⟩
     refine⟨_,rfl,rfl,_,rfl,jY (by decide+kernel) ⟨_,rfl,zl2,fun t2 ht2=>?_⟩⟩
     have g2:=g1.trans (Grow.put (o:=.lst [.str "fn",.str "rec"]) ht2)
     refine⟨t2,_,rfl,.inl (zV.of qZ),rfl,rfl,_,rfl,?_⟩
     rw[if_neg Bool.false_ne_true,show kQ (.str "rec") [.str "fn",.str "rec"]=true by decide+kernel]
     exact jO ⟨_,rfl,_,rfl,_,sc,_,es,M,rfl,hp.mono g2.same,hd,.inr ⟨g,x,k,l,p2,rfl⟩,hs.mono g2,hl,hh,fun u H' g hu=>q u H' (g2.trans g) hu⟩
end
end K14
namespace L2
open PySem PySem.Spec PyProof.Rows PyProof Dt
section
variable {X:Cx}
theorem rJ(K:Fg)(h:X.K=K):kJ X (.builtin "isinstance") (fun xs H Q=>∃d x n b,xs=[x,.ty n]/\qU K H d x/\PySem.W.kitOne K (.type (rY d)) (.type n)=some b/\Q (.bl b) H):=by subst h;exact vW
theorem rX(K:Fg)(h:X.K=K):wQ X (compareOp .NotIn) (rIn K true):=by subst h;exact wM
theorem wIx{a b:Expr}{ta tb:TE}{pos:Pos}(ha:PEw X a ta)(hb:PE X b tb)(hs:bW b):PEw X (.Subscript a b pos) (pZ (qX0 X.K) ta tb):=⟨qO qP ha.h hb hs⟩
theorem zVj{a b:Expr}{ta tb:TE}{pos:Pos}(ha:PE X a ta)(hb:PEw X b tb):PEw X (.BinOp a .Add b pos) (pZ iA ta tb):=⟨qI jF ha hb.h⟩
end
theorem rK{lo:Int}{n:Nat}{tc:TT}{ix:List Nat}{σ:St}{H:Hp}{D:Addr}{R:Hp->Prop}(Pv:Nat->List V->Hp->Prop)(h0:Pv 0 [] (upd H D (.lst [])))
  (he:∀i ys H',i<n->Pv i ys H'->∀Q':Bool->Hp->Prop,(∀H5,Pv (i+1) ys H5->Q' false H5)->(∀H5,H5 D=some (.lst ys)->ys.length<sizeLine->Pv (i+1) (ys++[.int (lo+i)]) (upd H5 D (.lst (ys++[.int (lo+i)])))->Q' true H5)->tc (xS ix [some (.int (lo+i))] σ) H' Q')
  (q:∀ys H',Pv n ys H'->R H'):
  ∃W:Nat->Nat->List V->Hp->Prop,(∃m,W 0 m [] (upd H D (.lst [])))/\∀i m ys H2,W i m ys H2->
   ((Itr lo n).stop i H2/\R H2)\/((Itr lo n).go i H2/\∀(o:List (Option V))v H3,o.length=1->(Itr lo n).yld i H2 v H3->xU 0 v (xS ix o σ) H3 fun σ2 H4=>(∃o':List (Option V),σ2=xS ix o' σ/\o'.length=1)/\
    ifT (some tc) σ2 H4 fun b H5=>if b=true then xG 0 σ2 H5 fun y H6=>H6 D=some (.lst ys)/\ys.length<sizeLine/\∃m',m'<m/\W (i+1) m' (ys++[y]) (upd H6 D (.lst (ys++[y])))else∃m',m'<m/\W (i+1) m' ys H5):=by
 refine⟨fun i m ys H2=>i<=n/\m=n-i/\Pv i ys H2,⟨_,Nat.zero_le _,rfl,h0⟩,?_⟩
 rintro i m ys H2 ⟨hi,rfl,p⟩
 by_cases hl:i<n
 ·refine .inr ⟨hl,fun o v H3 ho hy=>?_⟩
  obtain⟨rfl,rfl⟩:=hy
  match o,ho with
  |[_],_=>
   refine⟨⟨[some (.int (lo+i))],rfl,rfl⟩,?_⟩
   dsimp only[ifT]
   exact he i ys _ hl p _ (fun H5 p5=>jQ ⟨n-(i+1),by omega,hl,rfl,p5⟩) fun H5 e1 e2 p5=>jO ⟨_,rfl,e1,e2,n-(i+1),by omega,hl,rfl,p5⟩
 ·have e:i=n:=by omega
  subst e
  exact .inl ⟨aq7 _,q _ _ p⟩
end L2
namespace K14
open PySem L2 PyProof Dt
def ptds:Pt->List Dt
 | .num n=>[.str "num",.int n]
 | .tru b=>[.str "truth",.bl b]
 | .nam x=>[.str "name",.str x]
 | .nil k=>[.str "nil",k.dt]
 | .one u p=>[.str u.str,p.dt]
 | .two u p q=>[.str u.str,p.dt,q.dt]
 | .ite p q r=>[.str "if",p.dt,q.dt,r.dt]
 | .let_ x p q=>[.str "let",.str x,p.dt,q.dt]
 | .fn x k p=>[.str "fn",.str x,k.dt,p.dt]
 | .rc f x k l p=>[.str "rec",.str f,.str x,k.dt,l.dt,p.dt]
theorem qU3(p:Pt):p.dt= .tup (ptds p):=by cases p<;>rfl
def plc:Pt->List (Nat×Pt)
 | .one _ p=>[(1,p)]
 | .two _ p q=>[(1,p),(2,q)]
 | .ite p q r=>[(1,p),(2,q),(3,r)]
 | .let_ _ p q=>[(2,p),(3,q)]
 | .fn _ _ p=>[(3,p)]
 | .rc _ _ _ _ p=>[(5,p)]
 |_=>[]
structure BtR(p q:Pt):Prop where
 deep:q.deep<=p.deep+1
 sz:q.sz<=2*p.sz+1
 gr:q.gr<=p.gr+1
 kb:p.Kb 40->q.Kb 40
theorem qU4{p c:Pt}{j:Nat}(h:(j,c)∈plc p):1<=j/\j<(ptds p).length/\(ptds p)[j]? =some c.dt/\c.deep<p.deep/\(p.Kb 40->c.Kb 40)/\∀q,BtR c q->∃p',p'.dt= .tup ((ptds p).set j q.dt)/\BtR p p':=by
 cases p with
 |num _=>cases h
 |tru _=>cases h
 |nam _=>cases h
 |nil _=>cases h
 |one u p=>
  simp only[plc,List.mem_cons,List.not_mem_nil,or_false,Prod.mk.injEq]at h
  obtain⟨rfl,rfl⟩:=h
  exact⟨by decide,by simp[ptds],rfl,by simp only[Pt.deep];omega,id,fun q b=>⟨.one u q,rfl,by have :=b.deep;simp only[Pt.deep];omega,by have :=b.sz;simp only[Pt.sz];omega,b.gr,b.kb⟩⟩
 |two u p q=>
  simp only[plc,List.mem_cons,List.not_mem_nil,or_false,Prod.mk.injEq]at h
  rcases h with⟨rfl,rfl⟩|⟨rfl,rfl⟩
  ·exact⟨by decide,by simp[ptds],rfl,by simp only[Pt.deep];omega,fun z=>z.1,fun q b=>⟨.two u q _,rfl,by have :=b.deep;simp only[Pt.deep];omega,by have :=b.sz;simp only[Pt.sz];omega,by have :=b.gr;simp only[Pt.gr];omega,fun k=>⟨b.kb k.1,k.2⟩⟩⟩
  ·exact⟨by decide,by simp[ptds],rfl,by simp only[Pt.deep];omega,fun z=>z.2,fun q b=>⟨.two u _ q,rfl,by have :=b.deep;simp only[Pt.deep];omega,by have :=b.sz;simp only[Pt.sz];omega,by have :=b.gr;simp only[Pt.gr];omega,fun k=>⟨k.1,b.kb k.2⟩⟩⟩
 |ite p q r=>
  simp only[plc,List.mem_cons,List.not_mem_nil,or_false,Prod.mk.injEq]at h
  rcases h with⟨rfl,rfl⟩|⟨rfl,rfl⟩|⟨rfl,rfl⟩
  ·exact⟨by decide,by simp[ptds],rfl,by simp only[Pt.deep];omega,fun z=>z.1,fun q b=>⟨.ite q _ _,rfl,by have :=b.deep;simp only[Pt.deep];omega,by have :=b.sz;simp only[Pt.sz];omega,by have :=b.gr;simp only[Pt.gr];omega,fun k=>⟨b.kb k.1,k.2⟩⟩⟩
  ·exact⟨by decide,by simp[ptds],rfl,by simp only[Pt.deep];omega,fun z=>z.2.1,fun q b=>⟨.ite _ q _,rfl,by have :=b.deep;simp only[Pt.deep];omega,by have :=b.sz;simp only[Pt.sz];omega,by have :=b.gr;simp only[Pt.gr];omega,fun k=>⟨k.1,b.kb k.2.1,k.2.2⟩⟩⟩
  ·exact⟨by decide,by simp[ptds],rfl,by simp only[Pt.deep];omega,fun z=>z.2.2,fun q b=>⟨.ite _ _ q,rfl,by have :=b.deep;simp only[Pt.deep];omega,by have :=b.sz;simp only[Pt.sz];omega,by have :=b.gr;simp only[Pt.gr];omega,fun k=>⟨k.1,k.2.1,b.kb k.2.2⟩⟩⟩
 |let_ x p q=>
  simp only[plc,List.mem_cons,List.not_mem_nil,or_false,Prod.mk.injEq]at h
  rcases h with⟨rfl,rfl⟩|⟨rfl,rfl⟩
  ·exact⟨by decide,by simp[ptds],rfl,by simp only[Pt.deep];omega,fun z=>z.1,fun q b=>⟨.let_ x q _,rfl,by have :=b.deep;simp only[Pt.deep];omega,by have :=b.sz;simp only[Pt.sz];omega,by have :=b.gr;simp only[Pt.gr];omega,fun k=>⟨b.kb k.1,k.2⟩⟩⟩
  ·exact⟨by decide,by simp[ptds],rfl,by simp only[Pt.deep];omega,fun z=>z.2,fun q b=>⟨.let_ x _ q,rfl,by have :=b.deep;simp only[Pt.deep];omega,by have :=b.sz;simp only[Pt.sz];omega,by have :=b.gr;simp only[Pt.gr];omega,fun k=>⟨k.1,b.kb k.2⟩⟩⟩
 |fn x k p=>
  simp only[plc,List.mem_cons,List.not_mem_nil,or_false,Prod.mk.injEq]at h
  obtain⟨rfl,rfl⟩:=h
  exact⟨by decide,by simp[ptds],rfl,by simp only[Pt.deep];omega,fun z=>z.2,fun q b=>⟨.fn x k q,rfl,by have :=b.deep;simp only[Pt.deep];omega,by have :=b.sz;simp only[Pt.sz];omega,by have :=b.gr;simp only[Pt.gr];omega,fun z=>⟨z.1,b.kb z.2⟩⟩⟩
 |rc f x k l p=>
  simp only[plc,List.mem_cons,List.not_mem_nil,or_false,Prod.mk.injEq]at h
  obtain⟨rfl,rfl⟩:=h
  exact⟨by decide,by simp[ptds],rfl,by simp only[Pt.deep];omega,fun z=>z.2.2,fun q b=>⟨.rc f x k l q,rfl,by have :=b.deep;simp only[Pt.deep];omega,by have :=b.sz;simp only[Pt.sz];omega,by have :=b.gr;simp only[Pt.gr];omega,fun z=>⟨z.1,z.2.1,b.kb z.2.2⟩⟩⟩
theorem qP4:∀p:Pt,0<p.sz:=fun p=>by have :=Pt.deep_sz p;omega
def sel:Dt->Bool
 | .tup (.str x::_)=> !kQ (.str x) [.str "list",.str "fun"]
 |_=>false
theorem cH(p:Pt):sel p.dt=true:=by
 have h1:∀o:U1,kQ (.str o.str) [.str "list",.str "fun"]=false:=by intro o;cases o<;>decide+kernel
 have h2:∀o:U2,kQ (.str o.str) [.str "list",.str "fun"]=false:=by intro o;cases o<;>decide+kernel
 cases p with
 |one o p=>show(!kQ _ _)=true;rw[h1];rfl
 |two o p q=>show(!kQ _ _)=true;rw[h2];rfl
 |_=>simp only[Pt.dt,sel];decide+kernel
theorem qU5{p:Pt}{d:Dt}(h:d∈ptds p):(∃x ds,d= .tup (.str x::ds))\/((rY d="str"\/rY d="int"\/rY d="bool")/\sel d=false):=by
 have hp:∀q:Pt,∃x ds,q.dt= .tup (.str x::ds):=fun q=>by cases q<;>exact⟨_,_,rfl⟩
 have hk:∀k:Kd,(∃x ds,k.dt= .tup (.str x::ds))\/((rY k.dt="str"\/rY k.dt="int"\/rY k.dt="bool")/\sel k.dt=false):=fun k=>by
  cases k with
  |int=>exact .inr ⟨.inl rfl,rfl⟩
  |bool=>exact .inr ⟨.inl rfl,rfl⟩
  |list k=>exact .inl ⟨_,_,rfl⟩
  |pair k l=>exact .inl ⟨_,_,rfl⟩
  |fn k l=>exact .inl ⟨_,_,rfl⟩
 have hs:∀x:Str,(∃y ds,Dt.str x= .tup (.str y::ds))\/((rY (.str x)="str"\/rY (.str x)="int"\/rY (.str x)="bool")/\sel (.str x)=false):=fun x=>.inr ⟨.inl rfl,rfl⟩
 cases p<;>simp only[ptds,List.mem_cons,List.not_mem_nil,or_false]at h
 ·rcases h with rfl|rfl
  ·exact hs _
  ·exact .inr ⟨.inr (.inl rfl),rfl⟩
 ·rcases h with rfl|rfl
  ·exact hs _
  ·exact .inr ⟨.inr (.inr rfl),rfl⟩
 ·rcases h with rfl|rfl<;>exact hs _
 ·rcases h with rfl|rfl
  ·exact hs _
  ·exact hk _
 ·rcases h with rfl|rfl
  ·exact hs _
  ·exact .inl (hp _)
 ·rcases h with rfl|rfl|rfl
  ·exact hs _
  ·exact .inl (hp _)
  ·exact .inl (hp _)
 ·rcases h with rfl|rfl|rfl|rfl
  ·exact hs _
  ·exact .inl (hp _)
  ·exact .inl (hp _)
  ·exact .inl (hp _)
 ·rcases h with rfl|rfl|rfl|rfl
  ·exact hs _
  ·exact hs _
  ·exact .inl (hp _)
  ·exact .inl (hp _)
 ·rcases h with rfl|rfl|rfl|rfl
  ·exact hs _
  ·exact hs _
  ·exact hk _
  ·exact .inl (hp _)
 ·rcases h with rfl|rfl|rfl|rfl|rfl|rfl
  ·exact hs _
  ·exact hs _
  ·exact hs _
  ·exact hk _
  ·exact hk _
  ·exact .inl (hp _)
def told(ds:List Dt)(i:Nat):List V:=((List.range i).filter fun t=>sel (ds.getD (t+1) .non)).map fun(t:Nat)=>V.int (1+(t:Int))
theorem rV(ds:List Dt)(i:Nat):told ds (i+1)=told ds i++(if sel (ds.getD (i+1) .non)=true then[V.int (1+(i:Int))]else[]):=by
 unfold told
 rw[List.range_succ,List.filter_append,aq21]
 by_cases h:sel (ds.getD (i+1) .non)=true
 ·rw[if_pos h,List.filter_cons_of_pos (by exact h)];rfl
 ·rw[if_neg h,List.filter_cons_of_neg (by exact h)];rfl
theorem mQ{p:Pt}(hw:walked p=true):told (ptds p) ((ptds p).length-1)=(plc p).map fun x=>V.int (x.1:Int):=by
 cases p with
 |one u p=>simp[told,ptds,plc,cH,List.range_succ]
 |two u p q=>simp[told,ptds,plc,cH,List.range_succ]
 |ite p q r=>simp[told,ptds,plc,cH,List.range_succ]
 |let_ x p q=>simp[told,ptds,plc,cH,List.range_succ,show sel (.str x)=false from rfl]
 |_=>cases hw
set_option maxHeartbeats 1500000
section
variable {P:Program} {w:World} {K:Fg} {mg:Str->Option Value} {base:Heap} {f:Addr} {fd:FuncData}
inductive fK(K:Fg)(n:Nat)(vs:List V)(H:Hp)(Q:VK):Prop
 |mk (v:V) (m:Int) (p:Pt) (a_0:vs=[v,.int m]) (a_1:qU K H p.dt v) (a_2:p.deep<n) (a_3:p.Kb 40) (a_4:∀u q H',Grow H H'->qU K H' q.dt u->BtR p q->Q u H'):fK K n vs H Q
def oW(K:Fg)(n:Nat):Sp:=fun vs H Q x_0=>fK K n vs H Q
abbrev bQ:List Str:=["_law_part_here","_law_more"]
theorem kS:zQ ["_law_part_here","_law_more","_law_places","_law_at","_law_twos","_law_ones","_law_some"] bQ (qL oV):=by walk_at "s"
theorem fY{H:Hp}:∀{ds:List Dt}{vs:List V}{v:V},v∈vs->qR K H ds vs->∃d∈ds,qU K H d v
 |[],vs,v,h,hd=>by rw[jZ hd]at h;cases h
 |d::ds,vs,v,h,hd=>by
  obtain⟨x,r,rfl,h1,h2⟩:=qS hd
  rcases List.mem_cons.mp h with rfl|h
  ·exact⟨d,aq22,h1⟩
  ·obtain⟨e,he,h3⟩:=fY h h2
   exact⟨e,aq10 _ he,h3⟩
theorem fU{H:Hp}{d:Dt}{u:V}(hu:qU K H d u):∀{ds:List Dt}{vs:List V}(j:Nat),qR K H ds vs->qR K H (ds.set j d) (vs.set j u)
 |[],vs,j,hd=>by rw[jZ hd];exact zX
 |e::ds,vs,0,hd=>by
  obtain⟨x,r,rfl,h1,h2⟩:=qS hd
  exact qB hu h2
 |e::ds,vs,j+1,hd=>by
  obtain⟨x,r,rfl,h1,h2⟩:=qS hd
  exact qB h1 (fU hu j h2)
theorem qQ9{xs:List V}{j:Nat}(h:j<xs.length):vF xs none (some (j:Int))=xs.take j/\¬(HT.sIx xs.length 0 none=0/\HT.sIx xs.length xs.length (some (j:Int))=xs.length):=by
 have e1:HT.sIx xs.length xs.length (some (j:Int))=j:=by
  show(if(j:Int)<0 then((j:Int)+(xs.length:Int)).toNat else min (j:Int).toNat xs.length)=j
  rw[if_neg (by omega)]
  show min j _=j
  omega
 refine⟨?_,fun z=>by rw[e1]at z;omega⟩
 unfold vF
 rw[e1]
 show(xs.drop 0).take (j-0)=_
 rw[List.drop_zero,Nat.sub_zero]
theorem qQq{xs:List V}{j:Nat}(h:j<xs.length):vF xs (some ((j:Int)+1)) none=xs.drop (j+1)/\¬(HT.sIx xs.length 0 (some ((j:Int)+1))=0/\HT.sIx xs.length xs.length none=xs.length):=by
 have e1:HT.sIx xs.length 0 (some ((j:Int)+1))=j+1:=by
  show(if(j:Int)+1<0 then((j:Int)+1+(xs.length:Int)).toNat else min ((j:Int)+1).toNat xs.length)=j+1
  rw[if_neg (by omega)]
  omega
 refine⟨?_,fun z=>by rw[e1]at z;omega⟩
 unfold vF
 rw[e1]
 show(xs.drop (j+1)).take (xs.length-(j+1))=_
 rw[List.take_of_length_le (by rw[List.length_drop];exact aq7 _)]
theorem qP5(K:Fg):PySem.W.kitOne K (.type "int") (.type "tuple")=some false:=by
 unfold PySem.W.kitOne
 first|rw[if_neg Bool.false_ne_true]|rw[if_neg (by decide)]
 rfl
theorem qP6(K:Fg):PySem.W.kitOne K (.type "bool") (.type "tuple")=some false:=by
 unfold PySem.W.kitOne
 first|rw[if_neg Bool.false_ne_true]|rw[if_neg (by decide)]
 rfl
theorem qQz(p:Pt):(kQ (.str (Pt.wd p)) [.str "nil",.str "num",.str "truth",.str "name"]=true/\kQ (.str (Pt.wd p)) [.str "fn",.str "rec"]=false/\plc p=[])\/
  (kQ (.str (Pt.wd p)) [.str "nil",.str "num",.str "truth",.str "name"]=false/\kQ (.str (Pt.wd p)) [.str "fn",.str "rec"]=true/\∃c,plc p=[((ptds p).length-1,c)])\/
  (kQ (.str (Pt.wd p)) [.str "nil",.str "num",.str "truth",.str "name"]=false/\kQ (.str (Pt.wd p)) [.str "fn",.str "rec"]=false/\walked p=true):=by
 have h1:∀o:U1,kQ (.str o.str) [.str "nil",.str "num",.str "truth",.str "name"]=false/\kQ (.str o.str) [.str "fn",.str "rec"]=false:=by intro o;cases o<;>decide+kernel
 have h2:∀o:U2,kQ (.str o.str) [.str "nil",.str "num",.str "truth",.str "name"]=false/\kQ (.str o.str) [.str "fn",.str "rec"]=false:=by intro o;cases o<;>decide+kernel
 have h3:∀x∈(["num","truth","name","nil"]:List Str),kQ (.str x) [.str "nil",.str "num",.str "truth",.str "name"]=true/\kQ (.str x) [.str "fn",.str "rec"]=false:=by decide+kernel
 have h4:∀x∈(["fn","rec"]:List Str),kQ (.str x) [.str "nil",.str "num",.str "truth",.str "name"]=false/\kQ (.str x) [.str "fn",.str "rec"]=true:=by decide+kernel
 have h5:∀x∈(["if","let"]:List Str),kQ (.str x) [.str "nil",.str "num",.str "truth",.str "name"]=false/\kQ (.str x) [.str "fn",.str "rec"]=false:=by decide+kernel
 cases p with
 |one o p=>exact .inr (.inr ⟨(h1 o).1,(h1 o).2,rfl⟩)
 |two o p q=>exact .inr (.inr ⟨(h2 o).1,(h2 o).2,rfl⟩)
 |ite p q r=>have z:=h5 "if" (by simp);exact .inr (.inr ⟨z.1,z.2,rfl⟩)
 |let_ x p q=>have z:=h5 "let" (by simp);exact .inr (.inr ⟨z.1,z.2,rfl⟩)
 |num _=>have z:=h3 "num" (by simp);exact .inl ⟨z.1,z.2,rfl⟩
 |tru _=>have z:=h3 "truth" (by simp);exact .inl ⟨z.1,z.2,rfl⟩
 |nam _=>have z:=h3 "name" (by simp);exact .inl ⟨z.1,z.2,rfl⟩
 |nil _=>have z:=h3 "nil" (by simp);exact .inl ⟨z.1,z.2,rfl⟩
 |fn x k p=>have z:=h4 "fn" (by simp);exact .inr (.inl ⟨z.1,z.2,p,rfl⟩)
 |rc g x k l p=>have z:=h4 "rec" (by simp);exact .inr (.inl ⟨z.1,z.2,p,rfl⟩)
theorem qQj(F:zB K "_law_bent" "_law_bent" oV .none f fd):zC P w K mg base (CXE P w) (0+60) f fd bQ (oW K 0):=by
 refine F.ok0 kS (by walk_at "l") ?_
 walk_at "i"
 obtain⟨v,m,p,rfl,_,hd,_⟩:=h
 exact absurd hd (Nat.not_lt_zero _)
theorem zZ8{H:Hp}{p:Pt}{v:V}(h:qU K H p.dt v):∃a us,v= .ref a/\qA K H a (.str (Pt.wd p)::us)/\qR K H (ptds p) (.str (Pt.wd p)::us):=by
 rw[qU3]at h
 obtain⟨a,vs,rfl,hs,hd⟩:=wX h
 obtain⟨ds,e⟩:∃ds,ptds p= .str (Pt.wd p)::ds:=by cases p<;>exact⟨_,rfl⟩
 rw[e]at hd
 obtain⟨v0,r,rfl,h0,h1⟩:=qS hd
 cases zR h0
 exact⟨a,r,rfl,hs,by rw[e];exact hd⟩
theorem qU6{n:Nat}(F:zB K "_law_bent" "_law_bent" oV .none f fd)(G:dF mg)(GI:GlI mg)(GB:Kn P w K mg base (n+60) "_law_bent" bQ (oW K n)):zC P w K mg base (CXE P w) (n+1+60) f fd bQ (oW K (n+1)):=by
 refine F.ok0 (k:=n+60) kS (fun vs H Q E h=>?_) (fun cdv A outer s H vs Q E hr h=>?_)
 ·obtain⟨v,m,p,rfl,_⟩:=h
  rfl
 ·obtain⟨v,m,p,rfl,hp,hd,kb,q⟩:=h
  have ndb:((["_law_at"]:List Str)++(["_law_part_here"]:List Str)).Nodup:=by decide+kernel
  obtain⟨a,us,rfl,ha,hus⟩:=zZ8 hp
  have cell:=hus.length
  have ul:(V.str (Pt.wd p)::us).length=(ptds p).length:=hus.length
  have u6':(ptds p).length<=6:=by cases p<;>simp[ptds]
  have sz:=qP4 p
  obtain⟨tl,pls,htl⟩:∃t,PSs (jN (CXE P w) P w K mg base ["_law_part_here","_law_more","_law_places","_law_at","_law_twos","_law_ones","_law_some"] "_law_bent" (qL oV) f cdv A outer s H E).nox ((jH oV).drop 3) t/\
    ∀D1 o3 o4 o5 o6 H5,Grow H H5->H5 D1=some (.lst ((plc p).map fun x=>V.int (x.1:Int)))->t {nx:=fun _ H'=>Q .non H',rt:=Q} [some (.ref a),some (.int m),some (.ref D1),o3,o4,o5,o6] H5:=by
   refine⟨_,(qK (zK (xR (qM (gN hr.units0) (pv 2) (qT qJ) (nomark _)) (xY (qM bX (qI zM (pv 1) qX) qX (nomark _)))).pt (qK (qH (i:=3) kS.nd rfl oI (qO qP (pv 2) (qI zM (qI zU (pv 1) qX) (zW zP (by rfl) G.len aq27 (qQ (pv 2) qJ))))) (qY (qG (qI wC (qI wC (xH wZ (pv 0) kO (kI (pv 3))) (qF (qQ (zI GB hr (qQ (qO qN (pv 0) (pv 3)) (qQ (qI zU (pv 1) qX) qJ))) qJ))) (xH wZ (pv 0) (kI (qI jJ (pv 3) qX)) kO))))) qD)
   (qK (zK (xR (qM zG (qO qN (pv 0) qX) qV (nomark _)) (xY (qM zG (qI zM (qI zU (pv 1) qX) qX) qX (nomark _)))).pt (qY (qG (qF (qQ qV (qQ (qO qN (pv 0) qX) (qQ (qO qP (@PEw.h _ _ _ (wL (ws (wt (ws (ws wn)) wn)))) (zD zA (by rfl) G.int PyProof.Rows.boot_int (qQ (zS jS (qO qN (pv 0) qX) qV (nomark _)) qJ))) (qQ (qO qN (pv 0) qX) qJ))))))) qD)
   (qK (qH (i:=4) kS.nd rfl oI (qT (qQ qV (qQ qV (qQ qV (qQ qV (qQ qV (qQ qV qJ))))))))
   (qK (qH (i:=5) kS.nd rfl oI (qT (qQ qV (qQ qV (qQ qV (qQ qV (qQ qV (qQ qV qJ))))))))
   (qK (zK (xR (qM jW (qO qN (pv 0) qX) (pv 4) rfl) (xY (qM zG (qI zM (qI zU (pv 1) qX) qX) qX (nomark _)))).pt (qY (qG (qI wC (qF (qQ (qO qP (pv 4) (qI zM (qI zU (pv 1) qX) qX)) qJ)) (xH wZ (pv 0) (kI qX) kO)))) qD)
   (qK (zK (xR (qM jW (qO qN (pv 0) qX) (pv 5) rfl) (xY (qM zG (qI zM (qI zU (pv 1) qX) qX) qX (nomark _)))).pt (qY (qG (qI wC (qF (qQ (qO qP (pv 5) (qI zM (qI zU (pv 1) qX) qX)) qJ)) (xH wZ (pv 0) (kI qX) kO)))) qD)
   (@PSw.h _ _ _ (qH8 (i:=6) kS.nd rfl oI (wL (wt (ws (wi wn)) (wt (ws (wb wn)) (wt (ws (ws wn)) (wt (ws (ws wn)) (wt (ws (ws wn)) (wt (ws (ws (ws (wx (pv 0) wn)))) wn))))))) rfl oI
   (qH6 (wIx (zVj (pv 6) (wL (wt (ws (wx (pv 0) (wx (pv 0) wn))) (wt (ws (ws wn)) wn)))) (qI zM (qI zU (pv 1) qX) qX) (fun _ _=>rfl))))))))))),?_⟩
   intro D1 o3 o4 o5 o6 H5 g5 eP
   refine⟨_,rfl,zl0,fun l0 hl0=>?_⟩
   have g6:=Grow.put (o:=.lst []) hl0
   have el:zV K (upd H5 l0 (.lst [])) l0 []:=zV.of qZ
   generalize upd H5 l0 (.lst [])=H6 at g6 el⊢
   have s6:=g6.same.seq (zV.of (K:=K) eP)
   have g06:=g5.trans g6
   refine⟨D1,l0,_,rfl,rfl,s6,el,_,rfl,?_⟩
   refine'(fun hN(hY:_=true->_)=>ite2 (fun c=>⟨_,rfl,_,_,rfl,rfl,(by show(0:Int)<_;decide),_,_,rfl,rfl,_,rfl,ite2 (fun _=>hY c) fun _=>hN⟩) fun _=>jQ hN) ?N ?Y
   case Y=>
    intro c
    have hne:plc p≠[]:=fun z=>by rw[z]at c;cases c
    have hpos:0<(plc p).length:=List.length_pos_iff.mpr hne
    obtain⟨y,hy,hat⟩:=xZ (xs:=(plc p).map fun x=>V.int (x.1:Int)) (n:=((plc p).length:Int)) (by rw[aq16]) (by omega) (m/4)
    obtain⟨⟨j,ch⟩,hj,rfl⟩:=List.mem_map.mp hy
    obtain⟨j1,j2,j3,j4,j5,j6⟩:=qU4 hj
    refine⟨_,rfl,_,rfl,_,_,rfl,rfl,⟨by decide,by decide⟩,_,rfl,D1,_,rfl,.inl s6,_,_,rfl,rfl,?_,D1,_,_,_,rfl,rfl,s6,by rw[aq16];exact hat,?_⟩
    ·show(0:Int)<_
     rw[aq16];omega
    walk_at "d"
    have hjl:j<(V.str (Pt.wd p)::us).length:=by rw[ul];exact j2
    obtain⟨x,hx,hxd⟩:=hus.get j3
    have c1:=qQ9 hjl
    have c2:=qQq hjl
    have hatj:lX (V.str (Pt.wd p)::us) (j:Int)=some x:=qW hx
    refine⟨_,rfl,_,rfl,_,rfl,a,_,rfl,qA.mono g06.same ha,c1.2,fun T1 hT1=>?_⟩
    rw[c1.1]
    have g7:=Grow.put (o:=.tup ((V.str (Pt.wd p)::us).take j)) hT1
    have e7:qA K (upd H6 T1 (.tup ((V.str (Pt.wd p)::us).take j))) T1 ((V.str (Pt.wd p)::us).take j):=qA.of qZ
    generalize upd H6 T1 (.tup ((V.str (Pt.wd p)::us).take j))=H7 at g7 e7⊢
    have g07:=g06.trans g7
    refine⟨_,rfl,_,rfl,a,_,_,x,rfl,rfl,qA.mono g07.same ha,hatj,_,rfl,_,_,rfl,rfl,⟨by decide,by decide⟩,x,_,ch,rfl,hxd.mono g07.same,by omega,j5 kb,fun u q' H8 g8 hu bt=>?_⟩
    obtain⟨p',hp',bt'⟩:=j6 q' bt
    have g08:=g07.trans g8
    refine⟨zl1,fun T2 hT2=>?_⟩
    have g9:=Grow.put (o:=.tup [u]) hT2
    have e9:qA K (upd H8 T2 (.tup [u])) T2 [u]:=qA.of qZ
    generalize upd H8 T2 (.tup [u])=H9 at g9 e9⊢
    have tlen:((V.str (Pt.wd p)::us).take j).length=j:=by rw[List.length_take];omega
    refine⟨T1,T2,_,[u],rfl,rfl,qA.mono (g8.trans g9).same e7,e9,(fun z=>by rw[z]at tlen;simp at tlen;omega),by rw[tlen,sizeLine_eq];simp;omega,(fun z=>by cases z),fun _ T3 hT3=>?_⟩
    have g10:=Grow.put (o:=.tup ((V.str (Pt.wd p)::us).take j++[u])) hT3
    have e10:qA K (upd H9 T3 (.tup ((V.str (Pt.wd p)::us).take j++[u]))) T3 ((V.str (Pt.wd p)::us).take j++[u]):=qA.of qZ
    generalize upd H9 T3 (.tup ((V.str (Pt.wd p)::us).take j++[u]))=H10 at g10 e10⊢
    have g810:=g9.trans g10
    have g010:=g08.trans g810
    refine⟨_,rfl,_,rfl,_,_,rfl,rfl,?_⟩
    refine⟨_,rfl,a,_,rfl,qA.mono g010.same ha,c2.2,fun T4 hT4=>?_⟩
    rw[c2.1]
    have g11:=Grow.put (o:=.tup ((V.str (Pt.wd p)::us).drop (j+1))) hT4
    have e11:qA K (upd H10 T4 (.tup ((V.str (Pt.wd p)::us).drop (j+1)))) T4 ((V.str (Pt.wd p)::us).drop (j+1)):=qA.of qZ
    generalize upd H10 T4 (.tup ((V.str (Pt.wd p)::us).drop (j+1)))=H11 at g11 e11⊢
    have g811:=g810.trans g11
    have g011:=g08.trans g811
    have hset:(V.str (Pt.wd p)::us).take j++[u]++(V.str (Pt.wd p)::us).drop (j+1)=(V.str (Pt.wd p)::us).set j u:=by rw[List.set_eq_take_append_cons_drop,if_pos hjl,List.append_assoc];rfl
    have fin:∀H12 T,Grow H11 H12->qA K H12 T ((V.str (Pt.wd p)::us).set j u)->Q (.ref T) H12:=fun H12 T g12 hT=>by
     have g:=g011.trans g12
     refine q _ p' _ g ?_ bt'
     rw[hp']
     exact yC hT (fU (hu.mono (g811.trans g12).same) j (hus.mono g.same))
    refine⟨T3,T4,_,_,rfl,rfl,qA.mono g11.same e10,e11,by simp,?_,fun z=>fin H11 T3 (Grow.refl _) ?_,fun _ T5 hT5=>fin _ T5 (Grow.put hT5) ?_⟩
    ·have :us.length+1=(ptds p).length:=ul
     rw[List.length_append,tlen,List.length_drop,sizeLine_eq];simp;omega
    ·rw[<-hset,z,List.append_nil];exact qA.mono g11.same e10
    ·rw[<-hset];exact qA.of qZ
   case N=>
   refine⟨_,rfl,a,_,_,.str (Pt.wd p),rfl,rfl,qA.mono g06.same ha,qW (j:=0) rfl,rfl,_,rfl,?_⟩
   refine'(fun hN(hY:_=true->_)=>ite2 (fun c=>⟨_,rfl,_,_,rfl,rfl,⟨by decide,by decide⟩,_,_,rfl,rfl,(by show(0:Int)<_;decide),rfl,_,rfl,ite2 (fun _=>hY c) fun _=>hN⟩) fun _=>jQ hN) ?N ?Y
   case Y=>
    intro c
    obtain⟨xn,k,p2,rfl⟩:∃xn k p2,p= .fn xn k p2:=by
     have h1:∀o:U1,decide (V.str o.str=V.str "fn")=false:=by intro o;cases o<;>decide+kernel
     have h2:∀o:U2,decide (V.str o.str=V.str "fn")=false:=by intro o;cases o<;>decide+kernel
     have h3:∀x∈(["num","truth","name","nil","if","let","rec"]:List Str),decide (V.str x=V.str "fn")=false:=by decide+kernel
     have c':=of_decide_eq_true c
     cases p with
     |fn xn k p2=>exact⟨xn,k,p2,rfl⟩
     |one o p=>exact absurd c' (of_decide_eq_false (h1 o))
     |two o p r=>exact absurd c' (of_decide_eq_false (h2 o))
     |_=>exact absurd c' (of_decide_eq_false (h3 _ (by simp[Pt.wd])))
    obtain⟨a',v0,v1,v2,e,ha',hx,hv1,hv2⟩:=xE hp
    cases e
    cases zR hx
    have a6:=qA.mono g06.same ha'
    have dk:k.deep<=1100:=by have :=kb.1;omega
    refine⟨_,rfl,a,_,_,.str xn,rfl,rfl,a6,qW (j:=1) rfl,zl2,fun T hT=>?_⟩
    have g7:=Grow.put (o:=.tup [.str "list",.str "int"]) hT
    have e7:qA K (upd H6 T (.tup [.str "list",.str "int"])) T [.str "list",.str "int"]:=qA.of qZ
    generalize upd H6 T (.tup [.str "list",.str "int"])=H7 at g7 e7⊢
    refine⟨zl2,fun l hl=>?_⟩
    have g8:=Grow.put (o:=.lst [.str "bool",.ref T]) hl
    have e8:zV K (upd H7 l (.lst [.str "bool",.ref T])) l [.str "bool",.ref T]:=zV.of qZ
    generalize upd H7 l (.lst [.str "bool",.ref T])=H8 at g8 e8⊢
    have g68:=g7.trans g8
    have g08:=g06.trans g68
    have a8:=qA.mono g68.same a6
    refine⟨_,rfl,a,_,_,v1,rfl,rfl,a8,qW (j:=2) rfl,k.dt,Kd.bool.dt,hv1.mono g08.same,zJ _,xC hr (by omega) dk,.inr ⟨_,rfl,pick2 _ e8 ?_⟩⟩
    rw[Kd.eq_dt]
    obtain⟨k',hk',dk',hkv⟩:∃k':Kd,(if decide (k= .bool)=true then V.ref T else V.str "bool")=(if decide (k= .bool)=true then V.ref T else V.str "bool")/\k'.deep<=40/\qU K H8 k'.dt (if decide (k= .bool)=true then V.ref T else V.str "bool"):=by
     by_cases z:k= .bool
     ·rw[decide_eq_true z];exact⟨.list .int,rfl,by decide,jG (qA.mono g8.same e7) (zJ _)⟩
     ·rw[decide_eq_false z];exact⟨.bool,rfl,by decide,zJ _⟩
    generalize (if decide (k= .bool)=true then V.ref T else V.str "bool")=kv at hkv⊢
    refine⟨_,rfl,a,_,_,v2,rfl,rfl,a8,qW (j:=3) rfl,zl4,fun T4 hT4=>?_⟩
    have g9:=Grow.put (o:=.tup [.str "fn",.str xn,kv,v2]) hT4
    exact q _ (.fn xn k' p2) _ (g08.trans g9) (wA (qA.of qZ) (zJ _) (hkv.mono g9.same) (hv2.mono (g08.trans g9).same)) ⟨Nat.le_succ _,by simp only[Pt.sz];omega,Nat.le_succ _,fun z=>⟨dk',z.2⟩⟩
   case N=>
   refine⟨zl6,fun l4 hl4=>?_⟩
   have g7:=Grow.put (o:=.lst [.str "cons",.str "pair",.str "call",.str "plus",.str "less",.str "and"]) hl4
   have e4:zV K (upd H6 l4 (.lst [.str "cons",.str "pair",.str "call",.str "plus",.str "less",.str "and"])) l4 [.str "cons",.str "pair",.str "call",.str "plus",.str "less",.str "and"]:=zV.of qZ
   generalize upd H6 l4 (.lst [.str "cons",.str "pair",.str "call",.str "plus",.str "less",.str "and"])=H7 at g7 e4⊢
   walk_at "d"
   refine⟨zl6,fun l5 hl5=>?_⟩
   have g8:=Grow.put (o:=.lst [.str "head",.str "tail",.str "empty",.str "first",.str "second",.str "not"]) hl5
   have e5:zV K (upd H7 l5 (.lst [.str "head",.str "tail",.str "empty",.str "first",.str "second",.str "not"])) l5 [.str "head",.str "tail",.str "empty",.str "first",.str "second",.str "not"]:=zV.of qZ
   have e4:=g8.same.seq e4
   generalize upd H7 l5 (.lst [.str "head",.str "tail",.str "empty",.str "first",.str "second",.str "not"])=H8 at g8 e4 e5⊢
   walk_at "d"
   have g5:=(g06.trans g7).trans g8
   refine⟨_,rfl,a,_,_,.str (Pt.wd p),rfl,rfl,qA.mono g5.same ha,qW (j:=0) rfl,_,rfl,l4,_,rfl,.inl e4,rfl,rfl,_,rfl,?_⟩
   first|rw[if_neg Bool.false_ne_true]|rw[if_neg (by decide)]
   refine'(fun hN(hY:_=true->_)=>ite2 (fun c=>⟨_,rfl,_,_,rfl,rfl,⟨by decide,by decide⟩,_,_,rfl,rfl,(by show(0:Int)<_;decide),rfl,_,rfl,ite2 (fun _=>hY c) fun _=>hN⟩) fun _=>jQ hN) ?N ?Y
   case Y=>
    intro c
    obtain⟨o,p1,p2,rfl⟩:∃o p1 p2,p= .two o p1 p2:=by
     have h2:∀o:U1,kQ (.str o.str) [.str "cons",.str "pair",.str "call",.str "plus",.str "less",.str "and"]=false:=by intro o;cases o<;>decide+kernel
     cases p with
     |two o p1 p2=>exact⟨o,p1,p2,rfl⟩
     |one o p=>exact absurd c (by rw[show Pt.wd (.one o p)=o.str from rfl,h2];decide)
     |_=>simp only[Pt.wd]at c;exact absurd c (by decide+kernel)
    obtain⟨y,hy,hat⟩:=xZ (xs:=[.str "cons",.str "pair",.str "call",.str "plus",.str "less",.str "and"]) (n:=6) rfl (by decide) (m/8)
    refine⟨_,rfl,_,rfl,_,_,rfl,rfl,⟨by decide,by decide⟩,_,_,rfl,rfl,(by show(0:Int)<_;decide),l4,_,_,y,rfl,rfl,e4,hat,zl1,fun T hT=>?_⟩
    have g9:=Grow.put (o:=.tup [y]) hT
    have e9:qA K (upd H8 T (.tup [y])) T [y]:=qA.of qZ
    generalize upd H8 T (.tup [y])=H9 at g9 e9⊢
    have g09:=g5.trans g9
    obtain⟨u1,r,rfl,hu1,hr1⟩:=qS (show qR K H [p1.dt,p2.dt] us from(qS hus).elim fun _ h=>h.elim fun _ h=>by obtain⟨e,_,h⟩:=h;cases e;exact h)
    obtain⟨u2,r,rfl,hu2,hr1⟩:=qS hr1
    cases jZ hr1
    refine⟨_,rfl,_,rfl,a,_,rfl,qA.mono g09.same ha,kW _ _,fun T2 hT2=>?_⟩
    rw[cut1]
    have g10:=Grow.put (o:=.tup [u1,u2]) hT2
    have e10:qA K (upd H9 T2 (.tup [u1,u2])) T2 [u1,u2]:=qA.of qZ
    generalize upd H9 T2 (.tup [u1,u2])=H10 at g10 e10⊢
    refine⟨T,T2,[y],[u1,u2],rfl,rfl,qA.mono g10.same e9,e10,by simp,by show 3<=sizeLine;decide,(fun z=>by cases z),fun _ T3 hT3=>?_⟩
    have g11:=Grow.put (o:=.tup [y,u1,u2]) hT3
    have g012:=(g09.trans g10).trans g11
    obtain⟨o',rfl⟩:∃o':U2,y= .str o'.str:=by
     simp only[List.mem_cons,List.not_mem_nil,or_false]at hy
     rcases hy with rfl|rfl|rfl|rfl|rfl|rfl
     ·exact⟨.cons,rfl⟩
     ·exact⟨.pair,rfl⟩
     ·exact⟨.call,rfl⟩
     ·exact⟨.plus,rfl⟩
     ·exact⟨.less,rfl⟩
     ·exact⟨.and,rfl⟩
    exact q _ (.two o' p1 p2) _ g012 (kF (qA.of qZ) (hu1.mono g012.same) (hu2.mono g012.same)) ⟨Nat.le_succ _,by simp only[Pt.sz];omega,Nat.le_succ _,id⟩
   case N=>
   refine⟨_,rfl,a,_,_,.str (Pt.wd p),rfl,rfl,qA.mono g5.same ha,qW (j:=0) rfl,_,rfl,l5,_,rfl,.inl e5,rfl,rfl,_,rfl,?_⟩
   first|rw[if_neg Bool.false_ne_true]|rw[if_neg (by decide)]
   refine'(fun hN(hY:_=true->_)=>ite2 (fun c=>⟨_,rfl,_,_,rfl,rfl,⟨by decide,by decide⟩,_,_,rfl,rfl,(by show(0:Int)<_;decide),rfl,_,rfl,ite2 (fun _=>hY c) fun _=>hN⟩) fun _=>jQ hN) ?N ?Y
   case Y=>
    intro c
    obtain⟨o,p1,rfl⟩:∃o p1,p= .one o p1:=by
     have h2:∀o:U2,kQ (.str o.str) [.str "head",.str "tail",.str "empty",.str "first",.str "second",.str "not"]=false:=by intro o;cases o<;>decide+kernel
     cases p with
     |one o p1=>exact⟨o,p1,rfl⟩
     |two o p r=>exact absurd c (by rw[show Pt.wd (.two o p r)=o.str from rfl,h2];decide)
     |_=>simp only[Pt.wd]at c;exact absurd c (by decide+kernel)
    obtain⟨y,hy,hat⟩:=xZ (xs:=[.str "head",.str "tail",.str "empty",.str "first",.str "second",.str "not"]) (n:=6) rfl (by decide) (m/8)
    refine⟨_,rfl,_,rfl,_,_,rfl,rfl,⟨by decide,by decide⟩,_,_,rfl,rfl,(by show(0:Int)<_;decide),l5,_,_,y,rfl,rfl,e5,hat,zl1,fun T hT=>?_⟩
    have g9:=Grow.put (o:=.tup [y]) hT
    have e9:qA K (upd H8 T (.tup [y])) T [y]:=qA.of qZ
    generalize upd H8 T (.tup [y])=H9 at g9 e9⊢
    have g09:=g5.trans g9
    obtain⟨u1,r,rfl,hu1,hr1⟩:=qS (show qR K H [p1.dt] us from(qS hus).elim fun _ h=>h.elim fun _ h=>by obtain⟨e,_,h⟩:=h;cases e;exact h)
    cases jZ hr1
    refine⟨_,rfl,_,rfl,a,_,rfl,qA.mono g09.same ha,kW _ _,fun T2 hT2=>?_⟩
    rw[cut1]
    have g10:=Grow.put (o:=.tup [u1]) hT2
    have e10:qA K (upd H9 T2 (.tup [u1])) T2 [u1]:=qA.of qZ
    generalize upd H9 T2 (.tup [u1])=H10 at g10 e10⊢
    refine⟨T,T2,[y],[u1],rfl,rfl,qA.mono g10.same e9,e10,by simp,by show 2<=sizeLine;decide,(fun z=>by cases z),fun _ T3 hT3=>?_⟩
    have g11:=Grow.put (o:=.tup [y,u1]) hT3
    have g012:=(g09.trans g10).trans g11
    obtain⟨o',rfl⟩:∃o':U1,y= .str o'.str:=by
     simp only[List.mem_cons,List.not_mem_nil,or_false]at hy
     rcases hy with rfl|rfl|rfl|rfl|rfl|rfl
     ·exact⟨.head,rfl⟩
     ·exact⟨.tail,rfl⟩
     ·exact⟨.empty,rfl⟩
     ·exact⟨.first,rfl⟩
     ·exact⟨.second,rfl⟩
     ·exact⟨.not,rfl⟩
    exact q _ (.one o' p1) _ g012 (jG (qA.of qZ) (hu1.mono g012.same)) ⟨Nat.le_succ _,by simp only[Pt.sz];omega,Nat.le_succ _,id⟩
   case N=>
   have D0:qR K H8 (([]:List Pt).map Pt.dt) []:=zX
   have g0:Grow H H8:=g5
   clear e4 e5
   refine⟨zl2,fun T0 hT0=>?_⟩
   have gn:=Grow.put (o:=.tup [.str "num",.int 1]) hT0
   have e:qA K (upd H8 T0 (.tup [.str "num",.int 1])) T0 [.str "num",.int 1]:=qA.of qZ
   generalize upd H8 T0 (.tup [.str "num",.int 1])=J0 at gn e⊢
   replace g0:=g0.trans gn
   have D1:qR K J0 (([]++[Pt.num 1]).map Pt.dt) ([]++[.ref T0]):=by
    rw[aq21]
    exact(D0.mono gn.same).append (qB (jG e (cB _)) zX)
   clear e gn
   refine⟨zl2,fun T1 hT1=>?_⟩
   have gn:=Grow.put (o:=.tup [.str "truth",.bl true]) hT1
   have e:qA K (upd J0 T1 (.tup [.str "truth",.bl true])) T1 [.str "truth",.bl true]:=qA.of qZ
   generalize upd J0 T1 (.tup [.str "truth",.bl true])=J1 at gn e⊢
   replace g0:=g0.trans gn
   have D2:qR K J1 (([Pt.num 1]++[Pt.tru true]).map Pt.dt) ([.ref T0]++[.ref T1]):=by
    rw[aq21]
    exact(D1.mono gn.same).append (qB (jG e (zZ3 _)) zX)
   clear e gn
   refine⟨zl2,fun T2 hT2=>?_⟩
   have gn:=Grow.put (o:=.tup [.str "nil",.str "bool"]) hT2
   have e:qA K (upd J1 T2 (.tup [.str "nil",.str "bool"])) T2 [.str "nil",.str "bool"]:=qA.of qZ
   generalize upd J1 T2 (.tup [.str "nil",.str "bool"])=J2 at gn e⊢
   replace g0:=g0.trans gn
   have D3:qR K J2 (([Pt.num 1,Pt.tru true]++[Pt.nil .bool]).map Pt.dt) ([.ref T0,.ref T1]++[.ref T2]):=by
    rw[aq21]
    exact(D2.mono gn.same).append (qB (jG (d:=Kd.bool.dt) e (zJ _)) zX)
   clear e gn
   refine⟨zl2,fun T3 hT3=>?_⟩
   have gn:=Grow.put (o:=.tup [.str "name",.str "nowhere"]) hT3
   have e:qA K (upd J2 T3 (.tup [.str "name",.str "nowhere"])) T3 [.str "name",.str "nowhere"]:=qA.of qZ
   generalize upd J2 T3 (.tup [.str "name",.str "nowhere"])=J3 at gn e⊢
   replace g0:=g0.trans gn
   have D4:qR K J3 (([Pt.num 1,Pt.tru true,Pt.nil .bool]++[Pt.nam "nowhere"]).map Pt.dt) ([.ref T0,.ref T1,.ref T2]++[.ref T3]):=by
    rw[aq21]
    exact(D3.mono gn.same).append (qB (jG e (zJ _)) zX)
   clear e gn
   refine⟨zl2,fun T4 hT4=>?_⟩
   have gn:=Grow.put (o:=.tup [.str "name",.str "x"]) hT4
   have e:qA K (upd J3 T4 (.tup [.str "name",.str "x"])) T4 [.str "name",.str "x"]:=qA.of qZ
   generalize upd J3 T4 (.tup [.str "name",.str "x"])=J4 at gn e⊢
   replace g0:=g0.trans gn
   have D5:qR K J4 (([Pt.num 1,Pt.tru true,Pt.nil .bool,Pt.nam "nowhere"]++[Pt.nam "x"]).map Pt.dt) ([.ref T0,.ref T1,.ref T2,.ref T3]++[.ref T4]):=by
    rw[aq21]
    exact(D4.mono gn.same).append (qB (jG e (zJ _)) zX)
   clear e gn
   refine⟨_,rfl,zl4,fun T5 hT5=>?_⟩
   have gn:=Grow.put (o:=.tup [.str "fn",.str "x",.str "int",.ref a]) hT5
   have e:qA K (upd J4 T5 (.tup [.str "fn",.str "x",.str "int",.ref a])) T5 [.str "fn",.str "x",.str "int",.ref a]:=qA.of qZ
   generalize upd J4 T5 (.tup [.str "fn",.str "x",.str "int",.ref a])=J5 at gn e⊢
   replace g0:=g0.trans gn
   have D6:qR K J5 (([Pt.num 1,Pt.tru true,Pt.nil .bool,Pt.nam "nowhere",Pt.nam "x"]++[Pt.fn "x" .int p]).map Pt.dt) ([.ref T0,.ref T1,.ref T2,.ref T3,.ref T4]++[.ref T5]):=by
    rw[aq21]
    exact(D5.mono gn.same).append (qB (wA e (zJ _) (zJ _) (hp.mono g0.same)) zX)
   clear e gn
   refine⟨zl6,fun L hL=>?_⟩
   have gL:=Grow.put (o:=.lst [.ref T0,.ref T1,.ref T2,.ref T3,.ref T4,.ref T5]) hL
   have eL:(upd J5 L (.lst [.ref T0,.ref T1,.ref T2,.ref T3,.ref T4,.ref T5])) L=some (.lst [.ref T0,.ref T1,.ref T2,.ref T3,.ref T4,.ref T5]):=qZ
   generalize upd J5 L (.lst [.ref T0,.ref T1,.ref T2,.ref T3,.ref T4,.ref T5])=J6 at gL eL⊢
   replace g0:=g0.trans gL
   replace D6:=D6.mono gL.same
   walk_at "d"
   refine⟨_,rfl,_,rfl,_,rfl,zl3,fun T6 hT6=>?_⟩
   have gn:=Grow.put (o:=.tup [.str "pair",.ref a,.ref a]) hT6
   have e:qA K (upd J6 T6 (.tup [.str "pair",.ref a,.ref a])) T6 [.str "pair",.ref a,.ref a]:=qA.of qZ
   generalize upd J6 T6 (.tup [.str "pair",.ref a,.ref a])=J7 at gn e⊢
   replace g0:=g0.trans gn
   have D7:qU K J7 (Pt.two .pair p p).dt (.ref T6):=kF e (hp.mono g0.same) (hp.mono g0.same)
   replace D6:=D6.mono gn.same
   replace eL:=gn.same _ _ eL
   refine⟨zl2,fun T7 hT7=>?_⟩
   have gm:=Grow.put (o:=.tup [.str "name",.str "y"]) hT7
   have e':qA K (upd J7 T7 (.tup [.str "name",.str "y"])) T7 [.str "name",.str "y"]:=qA.of qZ
   generalize upd J7 T7 (.tup [.str "name",.str "y"])=J8 at gm e'⊢
   replace g0:=g0.trans gm
   replace D6:=D6.mono gm.same
   replace eL:=gm.same _ _ eL
   refine⟨zl2,fun L2 hL2=>?_⟩
   have g2:=Grow.put (o:=.lst [.ref T6,.ref T7]) hL2
   have e2:(upd J8 L2 (.lst [.ref T6,.ref T7])) L2=some (.lst [.ref T6,.ref T7]):=qZ
   generalize upd J8 L2 (.lst [.ref T6,.ref T7])=J9 at g2 e2⊢
   refine⟨L,L2,_,_,rfl,rfl,g2.same _ _ eL,e2,(by show 8<=sizeLine;decide),fun L3 hL3=>?_⟩
   have g3:=Grow.put (o:=.lst [.ref T0,.ref T1,.ref T2,.ref T3,.ref T4,.ref T5,.ref T6,.ref T7]) hL3
   have g23:=g2.trans g3
   obtain⟨y,hy,hat⟩:=xZ (xs:=[.ref T0,.ref T1,.ref T2,.ref T3,.ref T4,.ref T5,.ref T6,.ref T7]) (n:=8) rfl (by decide) (m/8)
   refine⟨_,rfl,_,_,rfl,rfl,⟨by decide,by decide⟩,_,_,rfl,rfl,(by show(0:Int)<_;decide),L3,_,_,y,rfl,rfl,zV.of qZ,hat,?_⟩
   have D8:qR K J8 ([Pt.num 1,.tru true,.nil .bool,.nam "nowhere",.nam "x",.fn "x" .int p,.two .pair p p,.nam "y"].map Pt.dt) [.ref T0,.ref T1,.ref T2,.ref T3,.ref T4,.ref T5,.ref T6,.ref T7]:=by
    have :=D6.append (qB (D7.mono gm.same) (qB (jG (d:=.str "y") e' (zJ _)) zX))
    exact this
   obtain⟨d,hd,hyd⟩:=fY hy D8
   obtain⟨r,hr,rfl⟩:=List.mem_map.mp hd
   refine q y r _ (g0.trans g23) (hyd.mono g23.same) ?_
   simp only[List.mem_cons,List.not_mem_nil,or_false]at hr
   rcases hr with rfl|rfl|rfl|rfl|rfl|rfl|rfl|rfl
   ·exact⟨Nat.zero_le _,by simp only[Pt.sz];omega,Nat.zero_le _,fun _=>trivial⟩
   ·exact⟨Nat.zero_le _,by simp only[Pt.sz];omega,Nat.zero_le _,fun _=>trivial⟩
   ·exact⟨Nat.zero_le _,by simp only[Pt.sz];omega,by simp only[Pt.gr];omega,fun _=>Nat.zero_le _⟩
   ·exact⟨Nat.zero_le _,by simp only[Pt.sz];omega,Nat.zero_le _,fun _=>trivial⟩
   ·exact⟨Nat.zero_le _,by simp only[Pt.sz];omega,Nat.zero_le _,fun _=>trivial⟩
   ·exact⟨aq7 _,by simp only[Pt.sz];omega,aq7 _,fun k=>⟨Nat.zero_le _,k⟩⟩
   ·exact⟨by simp only[Pt.deep];omega,by simp only[Pt.sz];omega,by simp only[Pt.gr];omega,fun k=>⟨k,k⟩⟩
   ·exact⟨Nat.zero_le _,by simp only[Pt.sz];omega,Nat.zero_le _,fun _=>trivial⟩
  refine⟨_,qK (iB (i:=2) kS.nd rfl oI (bF (own:=["_law_at"]) (y:="_law_part_here") (i:=0) (by rfl) (by decide+kernel) (by rfl) (by decide+kernel) (by rfl) (by decide+kernel) (by rfl) (.inl (by rfl)) (by rfl) (by decide+kernel)) rfl (hV (by rfl) G.range (qQ qX (qQ (zW zP (by rfl) G.len aq27 (qQ (pv 0) qJ)) qJ))) (fun C s H fp pins=>pv 0) (fun C s H fp pins=>jU (i:=0) ndb rfl oI (Or.inr (by rfl))) (fun C s H fp pins=>(xR (xW (zW (rJ K rfl) (by rfl) GI.isi aq26 (qQ (qO (uJ K rfl) (pv 1) (pv 0)) (qQ (kH (v:=.ty "tuple") (by rfl) GI.tuple PyProof.Rows.boot_tuple rfl) qJ)))) (xY (qM (rX K rfl) (qO (uJ K rfl) (qO (uJ K rfl) (pv 1) (pv 0)) qX) (qT (qQ qV (qQ qV qJ))) rfl))).pt) (by rfl) (Or.inr (by rfl)))
   (qK (zK (qM jW (qO qN (pv 0) qX) (qT (qQ qV (qQ qV (qQ qV (qQ qV qJ))))) rfl) (qY (qH (i:=2) kS.nd rfl oI (qT qJ))) qD)
   (qK (zK (qM jW (qO qN (pv 0) qX) (qT (qQ qV (qQ qV qJ))) rfl) (qY (qH (i:=2) kS.nd rfl oI (qT (qQ (qI vZ (zW zP (by rfl) G.len aq27 (qQ (pv 0) qJ)) qX) qJ)))) qD) pls)),?_⟩
  have ulen:(V.str (Pt.wd p)::us).length=(ptds p).length:=hus.length
  have u6:(ptds p).length<=6:=by cases p<;>simp[ptds]
  have u2:2<=(ptds p).length:=by cases p<;>simp[ptds]
  refine⟨_,rfl,a,_,rfl,.inr ha,1,_,rfl,⟨by decide,by decide,by omega,by rw[ulen];omega⟩,fun D0 hD0=>?_⟩
  have en:(((V.str (Pt.wd p)::us).length:Int)-1).toNat=(ptds p).length-1:=by rw[ulen];omega
  rw[en]
  have gD:=Grow.put (o:=.lst []) hD0
  refine rK (ix:=[0]) (σ:=[some (.ref a),some (.int m),none,none,none,none,none]) (fun i ys H6=>Grow H H6/\H6 D0=some (.lst ys)/\ys=told (ptds p) i) ?_ ?_ ?_
  ·exact⟨gD,qZ,rfl⟩
  ·rintro i ys H6 hi ⟨g6,e6,rfl⟩ Q' qf qt
   obtain⟨d,hdd⟩:∃d,(ptds p)[i+1]? =some d:=⟨_,aq15 (by omega)⟩
   obtain⟨x,hx,hxd⟩:=hus.get hdd
   have ed:(ptds p).getD (i+1) .non=d:=by rw[List.getD_eq_getElem?_getD,hdd];rfl
   have tn:=rV (ptds p) i
   rw[ed]at tn
   have tl6:(told (ptds p) i).length<=i:=by
    unfold told
    rw[aq16]
    exact Nat.le_trans (List.length_filter_le _ _) (by rw[List.length_range];exact aq7 _)
   have hat:lX (V.str (Pt.wd p)::us) (1+(i:Int))=some x:=by
    have :=qW (xs:=V.str (Pt.wd p)::us) (j:=i+1) hx
    rw[show((i+1:Nat):Int)=1+(i:Int) by omega]at this
    exact this
   have a6:=qA.mono g6.same ha
   have fin:∀H7,Grow H6 H7->∀b,b=sel d->Q' b H7:=fun H7 g7 b hb=>by
    cases b with
    |false=>exact qf H7 ⟨g6.trans g7,g7.same _ _ e6,by rw[tn,<-hb];simp⟩
    |true=>
     refine qt H7 (g7.same _ _ e6) (by rw[sizeLine_eq];omega) ⟨(g6.trans g7).set hD0,qZ,?_⟩
     rw[tn,<-hb];rfl
   rcases qU5 (aq23 hdd)with⟨z,ds,rfl⟩|⟨ht,hs⟩
   ·obtain⟨b,vs,rfl,hb,hbd⟩:=wX hxd
    obtain⟨v0,r,rfl,h0,_⟩:=qS hbd
    cases zR h0
    refine⟨_,rfl,_,rfl,a,_,_,_,rfl,rfl,a6,hat,.tup (.str z::ds),_,"tuple",true,rfl,hxd.mono g6.same,tF K,true,rfl,jO ?_⟩
    refine⟨_,rfl,_,rfl,a,_,_,_,rfl,rfl,a6,hat,b,_,_,.str z,rfl,rfl,qA.mono g6.same hb,qW (j:=0) rfl,zl2,fun l hl=>?_⟩
    refine⟨l,_,rfl,.inl (zV.of qZ),rfl,rfl,_,rfl,?_⟩
    rw[if_pos rfl]
    exact fin _ (Grow.put hl) _ rfl
   ·refine⟨_,rfl,_,rfl,a,_,_,_,rfl,rfl,a6,hat,d,_,"tuple",false,rfl,hxd.mono g6.same,?_,false,rfl,jQ (fin H6 (Grow.refl _) _ hs.symm)⟩
    rcases ht with h|h|h<;>rw[h]
    ·exact tH K
    ·exact qP5 K
    ·exact qP6 K
  ·rintro ys H6 ⟨g6,e6,rfl⟩
   walk_at "d"
   have lk:∀(H7:Hp)(xs:List V),Grow H H7->xs.all vJ=true->∀Q':Bool->Hp->Prop,(∀H8,Grow H7 H8->Q' (kQ (.str (Pt.wd p)) xs) H8)->∀t,H7 t=none->rIn K false (.str (Pt.wd p)) (.ref t) (upd H7 t (.lst xs)) fun z H8=>iP Q' z H8:=fun H7 xs g7 hf Q' hq t ht=>by
    refine⟨t,_,rfl,.inl (zV.of qZ),rfl,hf,_,rfl,?_⟩
    first|rw[if_neg Bool.false_ne_true]|rw[if_neg (by decide)]
    exact hq _ (Grow.put ht)
   refine⟨_,rfl,a,_,_,.str (Pt.wd p),rfl,rfl,qA.mono g6.same ha,qW (j:=0) rfl,zl4,fun t1 ht1=>lk H6 _ g6 rfl _ (fun H7 g7=>?_) t1 ht1⟩
   have g07:=g6.trans g7
   rcases qQz p with⟨c1,c2,c3⟩|⟨c1,c2,c,c3⟩|⟨c1,c2,c3⟩
   ·rw[c1]
    refine jO ⟨zl0,fun D1 hD1=>?_⟩
    have g8:=Grow.put (o:=.lst []) hD1
    have e8:(upd H7 D1 (.lst [])) D1=some (.lst []):=qZ
    generalize upd H7 D1 (.lst [])=H8 at g8 e8⊢
    walk_at "d"
    have g08:=g07.trans g8
    refine⟨_,rfl,a,_,_,.str (Pt.wd p),rfl,rfl,qA.mono g08.same ha,qW (j:=0) rfl,zl2,fun t2 ht2=>lk H8 _ g08 rfl _ (fun H9 g9=>?_) t2 ht2⟩
    rw[c2]
    exact jQ (htl D1 _ _ _ _ H9 (g08.trans g9) (by rw[c3];exact g9.same _ _ e8))
   ·rw[c1]
    refine jQ ⟨_,rfl,a,_,_,.str (Pt.wd p),rfl,rfl,qA.mono g07.same ha,qW (j:=0) rfl,zl2,fun t2 ht2=>lk H7 _ g07 rfl _ (fun H8 g8=>?_) t2 ht2⟩
    rw[c2]
    have g08:=g07.trans g8
    refine jO ⟨_,rfl,a,_,rfl,.inr (qA.mono g08.same ha),_,_,rfl,rfl,zl1,fun D1 hD1=>?_⟩
    walk_at "d"
    refine htl D1 _ _ _ _ _ (g08.trans (Grow.put hD1)) ?_
    rw[c3,qZ,ulen]
    simp only[List.map_cons,List.map_nil]
    rw[show(((ptds p).length-1:Nat):Int)=((ptds p).length:Int)-1 by omega]
   ·rw[c1]
    refine jQ ⟨_,rfl,a,_,_,.str (Pt.wd p),rfl,rfl,qA.mono g07.same ha,qW (j:=0) rfl,zl2,fun t2 ht2=>lk H7 _ g07 rfl _ (fun H8 g8=>?_) t2 ht2⟩
    rw[c2]
    refine jQ (htl D0 _ _ _ _ H8 (g07.trans g8) ?_)
    rw[(g7.trans g8).same _ _ e6,mQ c3]
end
end K14
set_option maxHeartbeats 4000000
namespace L2
open PySem PySem.Spec PySem.W PyProof.Rows PyProof
abbrev qU7:Arguments:={posonlyargs:=[],args:=[],vararg:=none,kwonlyargs:=[],kw_defaults:=[],kwarg:=none,defaults:=[]}
abbrev xP(v g:Str):Scope:={kind:=.function,names:=[(v,.free),(g,.globalImplicit)],isGenerator:=false,isCoroutine:=false,more:=[]}
abbrev iD(v g:Str)(gp vp cp:Pos):Expr:=.Call (.Name g gp) [.Name v vp] [] cp
def cxL(P:Program)(w:World)(K:Fg)(mg:Str->Option Value)(base:Heap)(qual v g:Str)(f c:Addr)(cd:Value)(A:Around)(outer:List Env)(s:Shared)(H:Hp)(E:XK):Cx where
 prog:=P
 w:=w
 K:=K
 mg:=mg
 base:=base
 A:=A.deeper (envX qual (xP v g) s.heap.objs.size f cd [(v,c)])
 N:=[v]
 s₀:=s
 H₀:=H
 env:=envX qual (xP v g) s.heap.objs.size f cd [(v,c)]
 outer:=outer
 stack:=envX qual (xP v g) s.heap.objs.size f cd [(v,c)]::outer
 ex:=[]
 calm:=true
 fn:=fun _=>false
 pn:=[]
 xe:=fun e s'=>wpAny (model P w) (A.deeper (envX qual (xP v g) s.heap.objs.size f cd [(v,c)])) (leaving (envX qual (xP v g) s.heap.objs.size f cd [(v,c)]) e) (fun _ s''=>CXE P w outer H s E e s'') (fun e' s''=>CXE P w outer H s E e' s'') s'
section
variable {P:Program} {w:World} {K:Fg} {mg:Str->Option Value} {base:Heap} {qual v g:Str} {f c:Addr} {cd:Value} {A:Around} {outer:List Env} {s0:Shared} {H0:Hp} {E:XK}
theorem bZ:Passes (CXE P w) (cxL P w K mg base qual v g f c cd A outer s0 H0 E) E:=by
 intro pins σ H s x s' I hx
 obtain⟨e,C,t,T,d,H',rfl,os,bare,un,hok,he,hn,hTn,hT,fx,hE⟩:=hx
 have J:=I.call' (ch:=[]) os un hok bare (fun b z=>absurd z (by simp))
 have B:=J.base
 have hn0:s0.heap.get? e=none:=by
  cases r:s0.heap.get? e with
  |none=>rfl
  |some o=>
   obtain⟨o',r'⟩:=I.base.there e o r (by show e∉([]:List Addr);simp)
   rw[hn]at r';cases r'
 have hT0:s0.heap.objs.size<=T:=Nat.le_trans I.sz hTn
 refine XA.leave_x (base:=base) (env:=envX qual (xP v g) s0.heap.objs.size f cd [(v,c)]) (outer:=outer) (L:=s0.heap.objs.size) J.ok.frames J.stack rfl fx fun h' T' hz fx' k=>?_
 have frs_eq:((envX qual (xP v g) s0.heap.objs.size f cd [(v,c)]::outer).filterMap (·.frame))=s0.heap.objs.size::frs outer:=rfl
 rw[frs_eq]at k
 have old:∀b o,s0.heap.get? b=some o->b≠e/\some b≠some T/\b≠s0.heap.objs.size:=fun b o q=>
  ⟨fun z=>(by rw[z,hn0]at q;cases q),fun z=>absurd (aq8 q) (Nat.not_lt.mpr (by rw[Option.some.inj z];exact hT0)),aq9 (aq8 q)⟩
 have un':Un (frs outer) [] H0 H' s0.heap h':=
  ⟨fun b o q n hb hx=>(have z:=old b o q;k.keep b o z.1 z.2.1 (fun hm=>(List.mem_cons.mp hm).elim z.2.2 hb) (B.keep b o q n hb hx)),
   fun b o q n hb hx=>(have z:=old b o q;by
    obtain⟨sl,r⟩:=B.slot b o q n hb hx
    obtain⟨sl',r'⟩:=k.slot b _ z.1 z.2.1 r
    exact⟨sl',r'⟩),
   B.free,fun b o q hx=>(by
    obtain⟨o',r⟩:=B.there b o q hx
    exact k.there b o' r),B.tups,B.frzs,B.tbls⟩
 refine⟨e,C,t,T',d,H',rfl,J.os,J.bare,un',?_,he,hn0,?_,?_,fx',hE⟩
 ·have :=J.hok.flies he fx' fun b o hb hn' q=>k.keep b o hb (fun z=>hn' (by rw[Option.some.inj z];exact hT)) (fun hm=>hn' (J.stkFree b hm)) q
  rw[wB he]at this;exact this
 ·rcases hz with hz|hz
  ·exact Nat.le_trans J.sz hz
  ·rw[Option.some.inj hz];exact hT0
 ·rcases hz with hz|hz
  ·exact J.hok.fresh hz
  ·rw[Option.some.inj hz];exact hT
end
abbrev kT(qual v g:Str)(gp vp cp:Pos)(c:Addr)(pm cdv ct:Value):FuncData:=kla_fn "<lambda>" qual qU7 (iD v g gp vp cp) (xP v g) [(v,c)] pm cdv ct
def LmO(f:Addr)(fd:FuncData):HO:=.ext fun h=>h.get? f=some {cls:=.type "function",data:=.func fd}
def CdO(c:Addr)(q:Str):HO:=.ext fun h=>h.CodeRec (.ref c) q
theorem qZ0{P:Program}{w:World}{H:Hp}{h:Heap}{f:Addr}{fd:FuncData}(e:h.get? f=some {cls:=.type "function",data:=.func fd}):jV P w H h f (LmO f fd):=⟨e,⟨_,e⟩,fun _ _ x k=>k _ x⟩
theorem qP7{P:Program}{w:World}{H:Hp}{h:Heap}{c:Addr}{q:Str}(e:h.CodeRec (.ref c) q):jV P w H h c (CdO c q):=by
 refine⟨e,?_,fun h1 h2 x k=>?_⟩
 ·obtain⟨c',o,vs,t,z,ho,_⟩:=e
  cases z
  exact⟨o,ho⟩
 ·obtain⟨c',o,vs,t,z,ho,r⟩:=x
  cases z
  exact⟨_,o,vs,t,rfl,k _ ho,r⟩
section
variable {P:Program} {w:World} {K:Fg} {mg:Str->Option Value} {base:Heap} {qual v g:Str} {gp vp cp:Pos} {f c c':Addr} {pm ct:Value} {A:Around} {outer:List Env} {s:Shared} {H:Hp} {E:XK} {Q:VK} {k:Nat} {pn:Str} {sp:Sp} {pv:V} {u:Value}
theorem qU9(hr:Room (k+1) A)(e0:Env0 P w K mg base A outer s H)(ho:s.heap.get? f=some {cls:=.type "function",data:=.func (kT qual v g gp vp cp c pm (.ref c') ct)})(hcd:s.heap.CodeRec (.ref c') qual)
  (hc:s.heap.IsCell c (some u))(hcn:H c=none)(ru:zY pv u)(G:Kn P w K mg base k g [pn] sp)(hvg:(v==g)=false)(hgv:(g==v)=false)(hd1:(v==("__debug__":Str))=false)(hd2:(v==("__classdict__":Str))=false)(hd3:(g==("__debug__":Str))=false)
  (q:sp [pv] H Q E):codeAny (model P w) A (.call (.ref f) ⟨[],[]⟩) (CR (CXE P w) outer P w H s Q E) s:=by
 have kp:∀b o,base.get? b=some o->s.heap.get? b=some o:=fun b o e=>(e0.bs b o e).1
 refine kla_callFunE hr.depth ho rfl rfl rfl rfl hcd ?_
 rw[show bindArgs (kT qual v g gp vp cp c pm (.ref c') ct) ⟨[],[]⟩=pure []from rfl]
 refine wpAny_pure (wpAny_newFunctionEnv (by intro x hx;simp at hx;rcases hx with rfl|rfl<;>(intro z;cases z)) (by intro x hx;simp at hx) (fun h₁ hns hsb=>⟨(e0.mod.nolimit.keeps kp).fresh _ hsb,?_⟩) rfl)
 show codeAny _ _ (.expr (iD v g gp vp cp) (envX qual (xP v g) s.heap.objs.size f (.ref c') [(v,c)])) _ _
 have hk:∀b o,s.heap.get? b=some o->h₁.get? b=some o:=fun b o e=>hsb.extBut b o (aq9 (aq8 e)) (aq13 _ e)
 have hcv:(cxL P w K mg base qual v g f c (.ref c') A outer s H E).env.cells.lookup v=some c:=by show List.lookup v [(v,c)]=_;simp
 have one:∀y d,(cxL P w K mg base qual v g f c (.ref c') A outer s H E).env.cells.lookup y=some d->y=v/\d=c:=fun y d h=>by
  have h:List.lookup y [(v,c)]=some d:=h
  by_cases z:y=v
  ·subst z;simp at h;exact⟨rfl,h.symm⟩
  ·rw[List.lookup_cons,beq_eq_false_iff_ne.mpr z]at h;cases h
 have noA:∀b:Addr,b∉(cxL P w K mg base qual v g f c (.ref c') A outer s H E).ex:=fun b z=>absurd (show b∈([]:List Addr)from z) (by simp)
 have I:Inv (cxL P w K mg base qual v g f c (.ref c') A outer s H E) [] [some pv] H {s with heap:=h₁,toks:=s.toks+([]:List (Str×Value)).length}:=by
  refine⟨⟨e0.mod,rfl,rfl,rfl,aq7 _,fun y z d h1 h2=>?_,fun y hy=>?_,fun y d h _=>(by cases h),fun _=>hr.hd,Around.frames_deeper e0.frames,.inr ⟨rfl,rfl⟩,fun b z=>absurd z (noA b),e0.bs,e0.bsz,fun b _ _=>noA b,fun b z=>absurd z (noA b),e0.funs,e0.frf⟩,
   rfl,e0.bare,Un.kept hk,⟨_,hns,fun i y x h1 h2 h3=>?_⟩,fun y d h=>?_,e0.hok.fresh (aq7 _),fun y d h=>?_,fun p hp=>absurd (show p∈([]:List (Addr×Obj))from hp) (by simp),e0.hok.kept hk,rfl⟩
  ·rw[(one y d h1).1,(one z d h2).1]
  ·have hy:(xP v g).names.lookup y=some .cell\/(xP v g).names.lookup y=some .free:=hy
   by_cases z:y=v
   ·subst z;exact⟨c,hcv⟩
   ·exfalso
    have e1:(xP v g).names.lookup y=List.lookup y [(g,NameKind.globalImplicit)]:=by show List.lookup y [(v,NameKind.free),(g,.globalImplicit)]=_;rw[List.lookup_cons,beq_eq_false_iff_ne.mpr z]
    rw[e1]at hy
    by_cases z2:y=g
    ·subst z2;simp at hy
    ·rw[List.lookup_cons,beq_eq_false_iff_ne.mpr z2]at hy;simp at hy
  ·match i,h1,h2 with
   |0,h1,h2=>
    cases (show some v=some y from h1)
    cases (show some (some pv)=some (some x)from h2)
    obtain⟨oc,hoc,hd⟩:=hc
    refine⟨u,ru,.inr ⟨.inr ?_,c,hcv,oc,hk _ _ hoc,hd⟩⟩
    show List.lookup v [(v,NameKind.free),(g,.globalImplicit)]=_
    simp
   |i+1,h1,h2=>cases (show([]:List (Option V))[i]? =some (some x)from h2)
  ·obtain⟨rfl,rfl⟩:=one y d h
   obtain⟨oc,hoc,hd⟩:=hc
   exact⟨_,oc,hk _ _ hoc,hd⟩
  ·rw[(one y d h).2];exact hcn
 obtain⟨fg,fdg,F,mG,kG,bG⟩:=G
 have hgl:Gl (cxL P w K mg base qual v g f c (.ref c') A outer s H E) g:=by
  show List.lookup g [(v,NameKind.free),(g,.globalImplicit)]=some .globalImplicit
  rw[List.lookup_cons,hgv];simp
 have hvis:Vis (cxL P w K mg base qual v g f c (.ref c') A outer s H E).env.scope v:=.inr (.inr (by show List.lookup v [(v,NameKind.free),(g,.globalImplicit)]=_;simp))
 have pe:PE (cxL P w K mg base qual v g f c (.ref c') A outer s H E) (iD v g gp vp cp) (uI sp [] E (jL (xG 0) wI)):=
  yE F (hr.deeper _) hgl mG kG bG .nil bZ (qQ (mI (i:=0) rfl hvis hd1 hd2) qJ) hd3
 refine kla_codeExpr (wpAny_mono (pe [] _ [some pv] H Q I ⟨pv,rfl,q⟩) (fun x s' hs=>?_) fun e s' hs=>hs)
 obtain⟨y,H',J,ry,hq⟩:=hs
 exact⟨y,H',J.os,J.bare,J.base,J.hok,ry,hq⟩
end
theorem qZ1{X:Cx}{k i:Nat}{r v g pn:Str}{gp vp cp p pos:Pos}{c:Addr}{pv:V}{u:Value}{sp:Sp}(hN:X.N[i]? =some r)(hv:Vis X.env.scope r)(hr:Room (k+1) X.A)(hex:X.ex=[])(hc:X.s₀.heap.IsCell c (some u))(hcn:X.H₀ c=none)(ru:zY pv u)
  (G:Kn X.prog X.w X.K X.mg X.base k g [pn] sp)(hvg:(v==g)=false)(hgv:(g==v)=false)(hd1:(v==("__debug__":Str))=false)(hd2:(v==("__classdict__":Str))=false)(hd3:(g==("__debug__":Str))=false)(hd:(r==("__debug__":Str))=false:=by decide)(hcd:(r==("__classdict__":Str))=false:=by decide):
  PEx X (.Call (.Name r p) [] [] pos) (fun σ H Q E=>∃f qual pm c' ct,σ[i]? =some (some (.ref f))/\H f=some (LmO f (kT qual v g gp vp cp c pm (.ref c') ct))/\H c'=some (CdO c' qual)/\sp [pv] H Q E):=by
 rintro pins s σ H Q E I ⟨f,qual,pm,c',ct,e,hf,hcd',q⟩
 refine wpAny_Call_Name_kw (wpAny_mono (mI (X:=X.nox) hN hv hd hcd pins s σ H (fun x H1=>x= .ref f/\H1=H) (I.wish _) ⟨_,e,rfl,rfl⟩) (fun y s1⟨x,H1,I1,rx,e1,e2⟩=>?_) fun _ _ z=>False.elim z)
 subst e1 e2
 cases rx
 have I2:=I1.unwish
 have ho:s1.heap.get? f=some {cls:=.type "function",data:=.func (kT qual v g gp vp cp c pm (.ref c') ct)}:=(I2.hok f _ hf).1
 have hc1:s1.heap.IsCell c (some u):=by
  obtain⟨oc,hoc,hd⟩:=hc
  obtain⟨sl,z⟩:=I2.base.any hoc hcn (by rw[hex];simp)
  exact⟨_,z,hd⟩
 have hn1:H1 c=none:=by
  obtain⟨oc,hoc,hd⟩:=hc
  exact I2.base.free c oc hoc hcn (by rw[hex];simp)
 refine callWith_F0 ⟨_,_,_,_,ho⟩ (wpAny_call (codeAny_mono (qU9 hr I2.env0 ho (I2.hok c' _ hcd').1 hc1 hn1 ru G hvg hgv hd1 hd2 hd3 q) fun r s' hq=>?_))
 cases r with
 |error e=>exact I2.xp hq
 |ok fl=>
  cases fl with
  |ret u=>exact I2.after hq
  |next=>exact False.elim hq
  |brk=>exact False.elim hq
  |cont=>exact False.elim hq
def mZ(H:Hp)(T:Addr)(q:Str):Prop:=∃ps,H T=some (.tbl ps)/\TriplesOk ps.toList/\∀pos cv,codeAmong pos ps.toList=some cv->∃c,cv= .ref c/\H c=some (CdO c q)
theorem mZ.mono{H H':Hp}{T:Addr}{q:Str}(h:mZ H T q)(g:Grow H H'):mZ H' T q:=by
 obtain⟨ps,a,b,c⟩:=h
 exact⟨ps,g.same _ _ a,b,fun pos cv e=>let⟨d,z,y⟩:=c pos cv e;⟨d,z,g.same _ _ y⟩⟩
theorem yA{p q:Pos}{c cv:Value}(l:List Value)(h:TriplesOk l)(e:codeAmong p (l++[rawInt q.line,rawInt q.col,c])=some cv):codeAmong p l=some cv\/cv=c:=by
 fun_induction TriplesOk l with
 |case1=>
  simp only[List.nil_append,codeAmong,rawInt]at e
  split at e
  ·exact .inr (Option.some.inj e).symm
  ·cases e
 |case2 a t b u x rest ih=>
  simp only[List.cons_append,codeAmong]at e⊢
  split at e
  ·rename_i hc;rw[if_pos hc];exact .inl e
  ·rename_i hc;rw[if_neg hc];exact ih h e
 |case3 l h1 h2=>exact h.elim
structure Lamd(H H':Hp)(T f c c':Addr)(q v g:Str)(gp vp cp:Pos)(pm ct:Value):Prop where
 grow:zF T H H'
 tb:mZ H' T q
 new:H f=none
 fn:H' f=some (LmO f (kT q v g gp vp cp c pm (.ref c') ct))
 cd:H' c'=some (CdO c' q)
section
variable {X:Cx}
theorem qP8{v g qual:Str}{gp vp cp pos:Pos}{c cc T:Addr}(hcl:closureFor (xP v g) X.env=pure [(v,c)])(hcode:X.env.code= .ref cc)(hq:X.env.qual++("<lambda>":Str)=qual)(C:CodeHd X.base cc T)(hb:X.base.BuiltinsAt X.mg T)(hgT:mainGlobals≠T):
  PE X (.Lambda qU7 (iD v g gp vp cp) (xP v g) pos) (fun σ H Q=>mZ H T qual/\∀f c' pm ct H',Lamd H H' T f c c' qual v g gp vp cp pm ct->Q (.ref f) H'):=by
 rintro pins s σ H Q I ⟨⟨ps,hT,ht,hc⟩,q⟩
 refine kla_eval rfl ?_
 rw[hq]
 have hP:s.heap.get? T=some (tabObj ps):=I.hok T _ hT
 have C':CodeHd s.heap cc T:=C.keeps I.bk
 have G':s.heap.Ns mainGlobals X.mg:=I.ok.mod.glob.keeps I.bk
 have B':s.heap.BuiltinsAt X.mg T:=by
  obtain⟨bm,o,b1,b2,b3,b4,b5,r⟩:=hb
  exact⟨bm,o,b1,b2,b3,b4,I.bk _ _ b5,r⟩
 have kne:∀b o,H b=some o->(∀ps,o≠ .tbl ps)->b≠T:=fun b o e n z=>by rw[z,hT]at e;cases e;exact n _ rfl
 cases hf:codeAmong pos ps.toList with
 |some cv=>
  obtain⟨c',rfl,hc'⟩:=hc pos cv hf
  refine kla_makeFunctionHit (mg:=X.mg) hcl I.ok.glob G' hcode C' hP ht hf B' fun ctv h' tk k hz=>?_
  have hn:H h'.objs.size=none:=I.hok.fresh hz
  have I1:=I.kept (h':=h') (t':=tk) k
  have J:=I1.laid (a:=h'.objs.size) (o:=LmO h'.objs.size (kT qual v g gp vp cp c ((X.mg "__name__").getD .none) (.ref c') ctv)) (t':=tk) (h':=h'.push {cls:=.type "function",data:=.func (kT qual v g gp vp cp c ((X.mg "__name__").getD .none) (.ref c') ctv)}) (fun b u e=>aq13 _ e) (aq7 _) (qZ0 (aq14 _ rfl))
  have gr:Grow H (upd H h'.objs.size (LmO h'.objs.size (kT qual v g gp vp cp c ((X.mg "__name__").getD .none) (.ref c') ctv))):=Grow.put hn
  exact⟨.ref h'.objs.size,_,J,rfl,q _ c' _ ctv _ ⟨gr.b,mZ.mono ⟨ps,hT,ht,hc⟩ gr,hn,qZ,gr.same _ _ hc'⟩⟩
 |none=>
  refine kla_makeFunction (mg:=X.mg) hcl I.ok.glob G' hcode C' hP ht hf hgT B' fun c' ctv h' tk hx h1 h2 hrec htb=>?_
  have hn:H h'.objs.size=none:=I.hok.fresh (Nat.le_trans h1 (Nat.le_of_lt h2))
  have hn':H c'=none:=I.hok.fresh h1
  have Tc:T≠c':=fun z=>by rw[<-z,hT]at hn';cases hn'
  have Tf:T≠h'.objs.size:=fun z=>by rw[<-z,hT]at hn;cases hn
  have cf:c'≠h'.objs.size:=aq9 h2
  generalize hfd:kT qual v g gp vp cp c ((X.mg "__name__").getD .none) (.ref c') ctv=fd
  have e0:(h'.push {cls:=.type "function",data:=.func fd}).get? h'.objs.size=some {cls:=.type "function",data:=.func fd}:=aq14 _ rfl
  generalize hh2:h'.push {cls:=.type "function",data:=.func fd}=h2' at e0
  have hpush:∀b o,h'.get? b=some o->h2'.get? b=some o:=fun b o e=>by rw[<-hh2];exact aq13 _ e
  have htb':=hpush _ _ htb
  have hrec':h2'.CodeRec (.ref c') qual:=by
   obtain⟨c2,o,vs,t,z,ho,r⟩:=hrec
   exact⟨c2,o,vs,t,z,hpush _ _ ho,r⟩
  generalize hps:ps++ #[rawInt pos.line,rawInt pos.col,.ref c']=ps' at htb htb'
  generalize hH:upd (upd (upd H T (.tbl ps')) c' (CdO c' qual)) h'.objs.size (LmO h'.objs.size fd)=H'
  have eT:H' T=some (.tbl ps'):=by rw[<-hH,qC Tf,qC Tc,qZ]
  have ec:H' c'=some (CdO c' qual):=by rw[<-hH,qC cf,qZ]
  have ef:H' h'.objs.size=some (LmO h'.objs.size fd):=by rw[<-hH,qZ]
  have eo:∀b,b≠T->b≠c'->b≠h'.objs.size->H' b=H b:=fun b a1 a2 a3=>by rw[<-hH,qC a3,qC a2,qC a1]
  have es:∀b o,b≠T->H b=some o->H' b=some o:=fun b o a e=>by rw[eo b a (zZ e hn') (zZ e hn)];exact e
  have keep:∀b o,b≠T->s.heap.get? b=some o->h2'.get? b=some o:=fun b o a e=>hpush _ _ (hx b o a e)
  have lt:∀b o,s.heap.get? b=some o->b≠c'/\b≠h'.objs.size:=fun b o e=>by
   have :=aq8 e
   exact⟨fun z=>Nat.lt_irrefl _ (Nat.lt_of_lt_of_le this (z▸h1)),fun z=>Nat.lt_irrefl _ (Nat.lt_of_lt_of_le this (z▸Nat.le_trans h1 (Nat.le_of_lt h2)))⟩
  have un:Un X.fs [] H H' s.heap h2':=by
   refine⟨fun b o e n _ _=>keep b o (fun z=>by rw[z,hT]at n;cases n) e,fun b o e n _ _=>⟨o.slots,keep b o (fun z=>by rw[z,hT]at n;cases n) e⟩,fun b o e n _=>?_,fun b o e _=>?_,fun b xs e=>es b _ (kne b _ e (by intro _ z;cases z)) e,fun b o u e=>es b _ (kne b _ e (by intro _ z;cases z)) e,fun b qs e=>?_⟩
   ·rw[eo b (fun z=>by rw[z,hT]at n;cases n) (lt b o e).1 (lt b o e).2];exact n
   ·by_cases z:b=T
    ·exact⟨_,z▸htb'⟩
    ·exact⟨o,keep b o z e⟩
   ·by_cases z:b=T
    ·subst z
     rw[hT]at e
     cases e
     exact⟨_,by rw[eT,<-hps]⟩
    ·exact⟨#[],by rw[es b _ z e];simp⟩
  have hok:HOk X.prog X.w H' h2':=fun b o e=>by
   by_cases z1:b=h'.objs.size
   ·subst z1;rw[ef]at e;cases e;exact qZ0 e0
   by_cases z2:b=c'
   ·subst z2;rw[ec]at e;cases e;exact qP7 hrec'
   by_cases z3:b=T
   ·subst z3;rw[eT]at e;cases e;exact htb'
   rw[eo b z3 z2 z1]at e
   refine(I.hok b o e).stay (fun d u hd r=>keep d u (fun z=>?_) r) (fun d r=>es d _ (kne d _ r (by intro _ z;cases z)) r) fun d xs r=>es d _ (kne d _ r (by intro _ z;cases z)) r
   rcases hd with y|y
   ·exact z3 (y▸z)
   ·rw[z,hT]at y;cases y
  have J:Inv X pins σ H' {s with heap:=h2',toks:=tk}:=I.un un hok
  have hfr:zF T H H':=⟨fun b o a e=>es b o a e,fun b e=>by
   by_cases z:b=T
   ·rw[z,eT]at e;cases e
   ·by_cases y:b=c'
    ·rw[y];exact hn'
    ·by_cases x:b=h'.objs.size
     ·rw[x];exact hn
     ·rw[eo b z y x]at e;exact e⟩
  show EP X pins σ Q (.ref h'.objs.size) {s with heap:=h'.push {cls:=.type "function",data:=.func (kT qual v g gp vp cp c ((X.mg "__name__").getD .none) (.ref c') ctv)},toks:=tk}
  rw[hfd,hh2]
  refine⟨.ref h'.objs.size,H',J,rfl,q _ c' ((X.mg "__name__").getD .none) ctv H' ⟨hfr,⟨ps',eT,?_,fun p cv e=>?_⟩,hn,by rw[hfd];exact ef,ec⟩⟩
  ·rw[<-hps,Array.toList_append];exact TriplesOk_snoc _ _ _ _ ht
  ·rw[<-hps,Array.toList_append]at e
   rcases yA _ ht e with z|z
   ·obtain⟨d,y1,y2⟩:=hc p cv z
    exact⟨d,y1,es d _ (kne d _ y2 (by intro _ z;cases z)) y2⟩
   ·exact⟨c',z,ec⟩
end
structure qZ2(P:Program)(w:World)(K:Fg)(mg:Str->Option Value)(base:Heap)(k:Nat)(f:Addr)(fd:FuncData)(ps:List Str)(sp:Shared->Sp):Prop where
 len:∀s vs H Q E,sp s vs H Q E->vs.length=ps.length
 run:∀(A:Around)(outer:List Env)(s:Shared)(H:Hp)(args:Args)(us:List Value)(vs:List V)(Q:VK)(E:XK),Room k A->Env0 P w K mg base A outer s H->BindsTo s fd args (ps.zip us)->Vals vs us->sp s vs H Q E->
  codeAny (model P w) A (.call (.ref f) args) (CR (CXE P w) outer P w H s Q E) s
theorem zB.okH{P:Program}{w:World}{K:Fg}{mg:Str->Option Value}{base:Heap}{x qual:Str}{st:Stmt}{dV:Value}{f:Addr}{fd:FuncData}{N ps:List Str}{k:Nat}{sp:Shared->Sp}(F:zB K x qual st dV f fd)(S:zQ N ps (qL st))(len:∀s vs H Q E,sp s vs H Q E->vs.length=ps.length)
  (hbody:∀(cdv:Value)(A:Around)(outer:List Env)(s:Shared)(H:Hp)(vs:List V)(Q:VK)(E:XK),Room k (A.deeper (envOfC qual (qL st) s.heap.objs.size f cdv))->sp s vs H Q E->
   ∃t,PSs (jN (CXE P w) P w K mg base N qual (qL st) f cdv A outer s H E) (jH st) t/\t {nx:=fun _ H'=>Q .non H',rt:=Q} (start N vs) H):qZ2 P w K mg base (k+1) f fd ps sp:=by
 obtain⟨oc,od,kV,doc,pm,an,cdv,ct,osl,rfl,lk,hcd⟩:=F.ex
 refine⟨len,fun A outer s H args us vs Q E hr e0 hb r hsp=>?_⟩
 have hl:=len _ _ _ _ _ hsp
 have KX:K.In s.heap:=e0.mod.kin.keeps fun b o e=>(e0.bs b o e).1
 have hkind:∀y∈ps.zip us,(qL st).names.lookup y.1=some .local\/((qL st).names.lookup y.1=some .cell/\((cellsFrom (s.heap.objs.size+1) (qL st).names []).lookup y.1).isSome=true):=fun⟨n,v⟩hy=>by
  rcases S.par n (List.of_mem_zip hy).1 with q|q
  ·exact .inl q
  ·exact .inr ⟨q,PySem.W.cellsFrom_some _ _ _ (.inl q)⟩
 refine codeAny_call_function hr.depth (KX _ _ lk) rfl S.co S.gen rfl (PySem.W.codeRec_of KX hcd) (hb _ _ _ _ (wpAny_newFunctionEnv_cells S.kind hkind fun env he s1 x=>?_))
 subst he
 refine⟨(e0.mod.nolimit.keeps fun b o e=>(e0.bs b o e).1).keeps x.toInCall.keep,codeAny_func ?_⟩
 obtain⟨t,ht,hq⟩:=hbody cdv A outer s H vs Q E (hr.deeper _) hsp
 refine wpAny_mono (ht [] s1 (start N vs) H _ (yY S hr.hd e0 hl r x) hq) (fun fl s' hs=>?_) fun e s' hs=>hs
 cases fl with
 |ret u=>
  obtain⟨v,σ',H',J,rv,q⟩:=hs
  exact⟨v,H',J.os,J.bare,J.base,J.hok,rv,q⟩
 |next=>
  obtain⟨σ',H',J,q⟩:=hs
  exact⟨.non,H',J.os,J.bare,J.base,J.hok,rfl,q⟩
 |brk=>exact(hs.elim fun _ z=>z.elim fun _ z=>z.2).elim
 |cont=>exact(hs.elim fun _ z=>z.elim fun _ z=>z.2).elim
theorem mJ{X:Cx}{k i:Nat}{x v g qual:Str}{gp vp cp lp p pos:Pos}{c cc T fT:Addr}{fdT:FuncData}{pr:Str}{spT:V->Hp->VK->Prop}(hcl:closureFor (xP v g) X.env=pure [(v,c)])(hcc:X.env.cells.lookup v=some c)(hN:X.N[i]? =some v)(hvc:X.env.scope.names.lookup v=some .cell)(hcode:X.env.code= .ref cc)(hq:X.env.qual++("<lambda>":Str)=qual)
  (C:CodeHd X.base cc T)(hb:X.base.BuiltinsAt X.mg T)(hgT:mainGlobals≠T)
  (F:qZ2 X.prog X.w X.K X.mg X.base k fT fdT [pr] (fun s vs H Q _=>∃f c' pm ct u pv,vs=[.ref f]/\H f=some (LmO f (kT qual v g gp vp cp c pm (.ref c') ct))/\H c'=some (CdO c' qual)/\s.heap.IsCell c (some u)/\H c=none/\zY pv u/\spT pv H Q))
  (hr:Room k X.A)(hg:Gl X x)(hm:X.mg x=some (.ref fT))(hk:keepIn X.K (.ref fT)=true)(hbd:Binds X.K fdT [pr] [])(hdb:(x==("__debug__":Str))=false:=by decide):
  PE X (.Call (.Name x p) [.Lambda qU7 (iD v g gp vp cp) (xP v g) lp] [] pos) (fun σ H Q=>∃pv,σ[i]? =some (some pv)/\mZ H T qual/\∀f c' pm ct H',Lamd H H' T f c c' qual v g gp vp cp pm ct->spT pv H' Q):=by
 rintro pins s σ H Q I ⟨pv,hσ,hT,q⟩
 refine wpAny_Call_Name_kw (xF I hg hm ?_ hdb)
 have ha:PA X [.Lambda qU7 (iD v g gp vp cp) (xP v g) lp] _:=qQ (qP8 (pos:=lp) (gp:=gp) (vp:=vp) (cp:=cp) hcl hcode hq C hb hgT) qJ
 refine callWith_K (h₀:=X.base) I.ok.mod.kin hk (thn (ha pos pins s σ H (fun vs H1=>∃f c' pm ct,vs=[.ref f]/\Lamd H H1 T f c c' qual v g gp vp cp pm ct) I ⟨hT,fun f c' pm ct H' h=>⟨f,c',pm,ct,rfl,h⟩⟩) fun us s1⟨vs,H1,I1,r,f,c',pm,ct,e,L⟩=>⟨I1.kIn,?_⟩) rfl rfl
 subst e
 have hl:(us++[]).length=[pr].length:=by rw[List.append_nil,<-r.length];rfl
 obtain⟨m,hn,hloc⟩:=I1.loc
 obtain⟨u,ru,lk⟩:=hloc i v pv hN hσ (.inr (.inl hvc))
 have hcell:s1.heap.IsCell c (some u):=by
  rcases lk with⟨z,_⟩|⟨_,d,z,y⟩
  ·exact absurd (show X.env.scope.names.lookup v=some .local from z) (by rw[hvc];decide)
  ·rw[hcc]at z;cases z;exact y
 have hbs:BindsTo s1 fdT ⟨us,[]⟩ ([pr].zip us):=by have :=hbd s1 us I1.kIn hl;rw[List.append_nil]at this;exact this
 refine wpAny_call (codeAny_mono (F.run X.A X.stack s1 H1 ⟨us,[]⟩ us [.ref f] Q E0 hr I1.env0 hbs r ⟨f,c',pm,ct,u,pv,rfl,L.fn,L.cd,hcell,I1.freeC v c hcc,ru,q f c' pm ct H1 L⟩) fun r s' hq=>?_)
 cases r with
 |error e=>exact(kR (X:=X) pins σ H1 s1 e s' I1 hq)
 |ok fl=>
  cases fl with
  |ret u=>exact I1.after hq
  |next=>exact False.elim hq
  |brk=>exact False.elim hq
  |cont=>exact False.elim hq
theorem rW{P:Program}{w:World}{K:Fg}{mg mb:Str->Option Value}{k:Nat}{fa a cc T:Addr}{fd:FuncData}{x:Str}{sp:Addr->Sp}{s₁:Shared}{vs:List Value}{ns:List Int}
  (KX:K.In s₁.heap)(hns:s₁.heap.Ns mainGlobals mg)(hb:s₁.heap.Ns builtinsNs mb)(hbb:∀x:Str,x≠"__name__"->mb x=bootBuiltins x)(hlim:s₁.heap.NoLimit)(hg:s₁.gens= #[])
  (hC:CodeHd s₁.heap cc T)(hT:s₁.heap.get? T=some (tabObj #[]))(hKT:noTabs K=true)(hBM:∃bm ob,mg "__builtins__"=some (.ref bm)/\bm≠builtinsNs/\s₁.heap.get? bm=some ob/\ob.cls= .type "module"/\ob.dict=some builtinsNs/\ob.data= .plain)
  (ha:s₁.heap.get? a=some {cls:=.type "list",data:=.seq vs.toArray})(hi:IntsAre vs ns)(hl:ns.length<=sizeLine)(hr:Room k callerA)
  (F:∀base:Heap,K.In base->base.Ns mainGlobals mg->CodeHd base cc T->base.BuiltinsAt mg T->mainGlobals≠T->zC P w K mg base (CXE P w) k fa fd [x] (sp T))(hbind:∀(s:Shared)(u:Value),BindsTo s fd ⟨[u],[]⟩ [(x,u)])
  (hsp:∀H:Hp,H T=some (.tbl #[])->zV K H a (ns.map V.int)->sp T [.ref a] H (fun v _=>v= .bl true) fun _ _ _=>False):
  codeAny (model P w) callerA (.call (.ref fa) ⟨[.ref a],[]⟩) (fun r s'=>r= .ok (.ret (.bool true))/\OldK s₁.heap s'.heap/\s'.os=s₁.os/\AllBare s'.gens) s₁:=by
 have rv:=iQ hi
 have lenV:=hi.length
 have aT:a≠T:=fun z=>by rw[z,hT]at ha;cases ha
 have nK:K.lookup T=none:=by
  cases q:K.lookup T with
  |none=>rfl
  |some o=>
   have e:=KX T o q
   rw[hT]at e
   cases e
   exact absurd (show false=true from List.all_eq_true.mp hKT (T,tabObj #[]) (mem_of_lookupK q)) Bool.false_ne_true
 have core:∀H:Hp,H T=some (.tbl #[])->zV K H a (ns.map V.int)->HOk P w H s₁.heap->(∀b u,H b=some u->b=T\/(b=a/\K.lookup a=none/\∃o xs,u= .frz o (.lst xs)))->
   codeAny (model P w) callerA (.call (.ref fa) ⟨[.ref a],[]⟩) (fun r s'=>r= .ok (.ret (.bool true))/\OldK s₁.heap s'.heap/\s'.os=s₁.os/\AllBare s'.gens) s₁:=by
  intro H eT hS hok hA
  have noA:∀{b:Addr}{o:Obj},s₁.heap.get? b=some o->o.cls≠ .none->(∀xs n,o.data≠ .seq xs n)->H b=none:=fun {b o}e c1 c2=>by
   cases q:H b with
   |none=>rfl
   |some u=>
    rcases hA b u q with rfl|⟨rfl,_⟩
    ·rw[hT]at e;cases e;exact absurd rfl c1
    ·rw[ha]at e;cases e;exact absurd rfl (c2 _ _)
  have nsK:∀{b:Addr}{m:Str->Option Value},s₁.heap.Ns b m->(oO s₁.heap H).Ns b m:=fun {b m}⟨o,es,ep,e,d,r⟩=>⟨o,es,ep,wY e (by
   cases q:H b with
   |none=>rfl
   |some u=>
    rcases hA b u q with rfl|⟨rfl,_⟩
    ·rw[hT]at e;cases e;cases d
    ·rw[ha]at e;cases e;cases d),d,r⟩
  have hKb:K.In (oO s₁.heap H):=fun b o e=>wY (KX b o e) (by
   cases q:H b with
   |none=>rfl
   |some u=>
    rcases hA b u q with rfl|⟨rfl,z,_⟩
    ·rw[nK]at e;cases e
    ·rw[z]at e;cases e)
  have hM:Mod K mg (oO s₁.heap H):=⟨hKb,nsK hns,⟨mb,nsK hb,hbb⟩,let⟨mc,h1,h2⟩:=hlim;⟨mc,nsK h1,h2⟩⟩
  have e0:Env0 P w K mg (oO s₁.heap H) callerA [] s₁ H:=⟨rfl,hM,fun b o e=>qJ2 e,Nat.le_of_eq (fS _ _),trivial,fun b hb=>absurd (show b∈([]:List Addr)from hb) (by simp),hok,.of_eq hg⟩
  have gT:mainGlobals≠T:=fun z=>by
   obtain⟨o,es,ep,e,d,_⟩:=hns
   rw[z,hT]at e;cases e;cases d
  have C0:CodeHd (oO s₁.heap H) cc T:=by
   obtain⟨o,vs,file,tf,flags,tg,inF,text,tt,e,r1,r⟩:=hC
   exact⟨o,vs,file,tf,flags,tg,inF,text,tt,wY e (noA e (by rw[r1];nofun) (fun xs n z=>by rw[r.1]at z;cases z)),r1,r⟩
  have B0:(oO s₁.heap H).BuiltinsAt mg T:=by
   obtain⟨bm,ob,b1,b2,b3,b4,b5,b6⟩:=hBM
   refine⟨bm,ob,b1,b2,fun z=>?_,fun z=>?_,wY b3 (noA b3 (by rw[b4];nofun) (fun xs n z=>by rw[b6]at z;cases z)),b4,b5,b6⟩
   ·obtain⟨o,es,ep,e,d,_⟩:=hns
    rw[z,e]at b3;cases b3;rw[d]at b6;cases b6
   ·rw[z,hT]at b3;cases b3;cases b4
  refine codeAny_mono ((F _ hKb (nsK hns) C0 B0 gT).run callerA [] s₁ H ⟨[.ref a],[]⟩ [.ref a] [.ref a] _ _ hr e0 (hbind s₁ (.ref a)) (.cons rfl .nil) (hsp H eT hS)) fun r s' h=>?_
  cases r with
  |error e=>
   obtain⟨_,_,_,_,_,_,_,_,_,_,_,_,_,_,_,_,z⟩:=h
   exact z.elim
  |ok fl=>
   cases fl with
   |next=>exact False.elim h
   |brk=>exact False.elim h
   |cont=>exact False.elim h
   |ret u=>
    obtain⟨v,H',os,bare,un,hok',r',q⟩:=h
    have q':v= .bl true:=q
    subst q'
    obtain rfl:u=Value.bool true:=r'
    obtain⟨more,eT'⟩:=un.tbls T #[] eT
    have hT':s'.heap.get? T=some (tabObj (#[]++more)):=hok' T _ eT'
    have keep:∀b o,b≠T->s₁.heap.get? b=some o->s'.heap.get? b=some o:=fun b o hbT e=>by
     cases q:H b with
     |none=>exact un.keep b o e q (by intro z;exact absurd (show b∈([]:List Addr)from z) (by simp)) (by simp)
     |some u=>
      rcases hA b u q with z|⟨_,_,ob,xs,rfl⟩
      ·exact absurd z hbT
      ·obtain⟨e1,_⟩:=hok b _ q
       obtain⟨e2,_⟩:=hok' b _ (un.frzs b ob _ q)
       rw[e]at e1;cases e1
       exact e2
    refine⟨rfl,⟨fun b o e=>?_,fun b o e=>?_⟩,os,bare⟩
    ·by_cases hbT:b=T
     ·subst hbT
      rw[hT]at e
      cases e
      exact .inr (.inl ⟨(hC.tab hT).isCodeTable,rfl,#[],more,rfl,hT'⟩)
     ·exact .inl (keep b o hbT e)
    ·by_cases hbT:b=T
     ·subst hbT;exact⟨_,hT'⟩
     ·exact⟨o,keep b o hbT e⟩
 cases hk:K.lookup a with
 |some o=>
  have e:=KX a o hk
  rw[ha]at e
  cases e
  refine core (fun b=>if b=T then some (.tbl #[])else none) (if_pos rfl) (.inr ⟨_,vs.toArray,_,hk,rfl,rfl,rfl,by rw[aq18,lenV];exact hl,by simpa using rv⟩) (fun b u z=>?_) fun b u z=>?_
  ·by_cases hb:b=T
   ·subst hb
    have z':=(if_pos rfl).symm.trans z
    cases z'
    exact hT
   ·have z':=(if_neg hb).symm.trans z
    cases z'
  ·by_cases hb:b=T
   ·exact .inl hb
   ·have z':=(if_neg hb).symm.trans z
    cases z'
 |none=>
  have eA:(fun b=>if b=T then some (HO.tbl #[])else if b=a then some (.frz {cls:=.type "list",data:=.seq vs.toArray} (.lst (ns.map V.int)))else none) a=some (.frz {cls:=.type "list",data:=.seq vs.toArray} (.lst (ns.map V.int))):=by
   show(if a=T then _ else _)=_
   rw[if_neg aT,if_pos rfl]
  refine core (fun b=>if b=T then some (.tbl #[])else if b=a then some (.frz {cls:=.type "list",data:=.seq vs.toArray} (.lst (ns.map V.int)))else none) (if_pos rfl) (.inl (.inr ⟨_,eA⟩)) (fun b u z=>?_) fun b u z=>?_
  ·by_cases hb:b=T
   ·subst hb
    have z':=(if_pos rfl).symm.trans z
    cases z'
    exact hT
   ·by_cases hb2:b=a
    ·subst hb2
     cases eA.symm.trans z
     exact⟨ha,by rw[aq16];exact hl,vs,_,rv,ha⟩
    ·have z':=((if_neg hb).trans (if_neg hb2)).symm.trans z
     cases z'
  ·by_cases hb:b=T
   ·exact .inl hb
   ·by_cases hb2:b=a
    ·subst hb2
     cases eA.symm.trans z
     exact .inr ⟨rfl,hk,_,_,rfl⟩
    ·have z':=((if_neg hb).trans (if_neg hb2)).symm.trans z
     cases z'
theorem qP9{l:PySem.W.OpenLaw}{n k:Nat}{q:Program}{loose:List Str}{XP:(Str->Option Value)->Heap->Prop}{YP:World->Heap->Prop}{d:DefRec}{K:Params->Fg}{sp:World->Addr->Sp}{x:Str}
  (hn:l.most=some n)(hn2:n<=sizeLine)(hdf:d.params.defaults=[])(hr:Room k callerA)(hrec:(recsOf q).find? (fun e=>e.name==d.name)=some d)
  (hY:∀(w:World)(h:Heap),YP w h->(K w.params).In h)
  (F:∀(w:World)(mg:Str->Option Value)(fa:Addr)(h:Heap),(K w.params).In h->h.Ns mainGlobals mg->mg d.name=some (.ref fa)->
   ∃(fd:FuncData)(cc T:Addr),tabIn (K w.params) d.name=some (cc,T)/\noTabs (K w.params)=true/\(∀(s:Shared)(u:Value),BindsTo s fd ⟨[u],[]⟩ [(x,u)])/\
    ∀base:Heap,(K w.params).In base->base.Ns mainGlobals mg->CodeHd base cc T->base.BuiltinsAt mg T->mainGlobals≠T->zC l.prog w (K w.params) mg base (CXE l.prog w) k fa fd [x] (sp w T))
  (hsp:∀(w:World)(H:Hp)(a T:Addr)(ns:List Int),ns.length<=n->H T=some (.tbl #[])->zV (K w.params) H a (ns.map V.int)->sp w T [.ref a] H (fun v _=>v= .bl true) fun _ _ _=>False):
  PySem.W.WalkO q loose XP YP l.row.toRowW d [] (fun f vs=>PySem.call f vs):=by
 refine Att.attach_call hn hdf fun w s₀ s₁ mg mb fa o pm cd doc a vs ns G Y ho hd hcd hmg hobj hints hlen hg=>?_
 have KX:=hY w _ Y
 obtain⟨fd,cc,T,hti,hnt,hb,hF⟩:=F w mg fa _ KX G.T.g hmg
 obtain⟨hC,hT⟩:=tab_of G.T KX hrec hti
 exact rW KX G.T.g G.T.b G.T.builtins G.T.nolimit hg hC hT hnt G.T.bmain hobj hints (Nat.le_trans hlen hn2) hr hF hb fun H e hS=>hsp w H a T ns hlen e hS
end L2
namespace L2
open PySem PySem.Spec PyProof.Rows PyProof Dt
theorem qZ3{X:Cx}:kJ X (.builtin "isinstance") (fun xs H Q=>∃p ys n b,xs=[.ref p,.ty n]/\zV X.K H p ys/\PySem.W.kitOne X.K (.type "list") (.type n)=some b/\Q (.bl b) H):=by
 intro pins s σ H xs us Q I r h
 obtain⟨p,ys,n,b,rfl,hq,ko,q⟩:=h
 obtain⟨u,u2,rfl,r1,r2⟩:=vals2 r
 cases r2
 cases r1
 obtain⟨its,rv,pl,hz⟩:=I.list hq
 obtain⟨o,h1,h2,_⟩:=pl.isList
 exact PySem.W.kia_one PySem.W.kitx_list I.kIn ⟨o,h1,h2⟩ ko (fun z=>nomatch z) fun tk=>⟨.bl b,H,I.tok tk,rfl,q⟩
theorem zB.okC{P:Program}{w:World}{K:Fg}{mg:Str->Option Value}{base:Heap}{x qual:Str}{st:Stmt}{dV:Value}{f cc:Addr}{fd:FuncData}{N ps:List Str}{k:Nat}{sp:Sp}(F:zB K x qual st dV f fd)(hc:fd.code= .ref cc)(S:zQ N ps (qL st))(len:∀vs H Q E,sp vs H Q E->vs.length=ps.length)
  (hbody:∀(A:Around)(outer:List Env)(s:Shared)(H:Hp)(vs:List V)(Q:VK)(E:XK),Room k (A.deeper (envOfC qual (qL st) s.heap.objs.size f (.ref cc)))->sp vs H Q E->
   ∃t,PSs (jN (CXE P w) P w K mg base N qual (qL st) f (.ref cc) A outer s H E).nox (jH st) t/\t {nx:=fun _ H'=>Q .non H',rt:=Q} (start N vs) H):zC P w K mg base (CXE P w) (k+1) f fd ps sp:=by
 obtain⟨oc,od,kV,doc,pm,an,cdv,ct,osl,rfl,lk,hcd⟩:=F.ex
 obtain rfl:cdv= .ref cc:=hc
 exact qO4 lk hcd S len fun A outer s H vs Q E hr hsp=>let⟨t,h,q⟩:=hbody A outer s H vs Q E hr hsp;⟨t,h.nox,q⟩
end L2
namespace K14
open PySem L2 PyProof Dt
structure GlA(mg:Str->Option Value):Prop where
 isi:mg "isinstance"=none
 ver:mg "ValueError"=none
section
variable {P:Program} {w:World} {K:Fg} {mg:Str->Option Value} {base:Heap} {S BT NN UF TL ND NR NM BR:Addr} {bm:List Value}
inductive mX(cs:List Addr)(vs:List V)(H:Hp)(Q:VK):Prop
 |mk (e:Addr) (C:Addr) (t:Addr) (d:Option Addr) (nw:Bool) (a_0:vs=[.ref e]) (a_1:C∈cs) (a_2:H e=some (xL nw C t d e)) (a_3:(∀a,d=some a->∃fs,H a=some (.xd fs))) (a_4:∀H',Grow H H'->Q (.bl true) H'):mX cs vs H Q
def fG(cs:List Addr):Sp:=fun vs H Q x_0=>mX cs vs H Q
theorem qPq:zQ ["_law_e","_law_flags"] ["_law_e"] (qL nS):=by walk_at "s"
theorem qZ4{f:Addr}{fd:FuncData}(F:zB K "_law_alone" "_law_alone" nS .none f fd)(G:GlA mg)(T:Cs K mg S BT NN UF TL ND NR NM BR bm):iJ P w K mg base (CXE P w) 1 f fd ["_law_e"] (fG [BT,NN,UF,TL,ND,NR,NM,BR]):=by
 refine F.okS qPq (by walk_at "l") ?_
 walk_at "i"
 obtain⟨e,C,t,d,nw,rfl,hC,he,hd,q⟩:=h
 refine⟨_,qK (qH (i:=1) qPq.nd rfl oI (qT
   (qQ (zW xX (by rfl) G.isi aq26 (qQ (pv 0) (qQ (jC (v:=.ref BT) (by rfl) T.m1 rfl) qJ)))
   (qQ (zW xX (by rfl) G.isi aq26 (qQ (pv 0) (qQ (jC (v:=.ref NN) (by rfl) T.m2 rfl) qJ)))
   (qQ (zW xX (by rfl) G.isi aq26 (qQ (pv 0) (qQ (jC (v:=.ref UF) (by rfl) T.m3 rfl) qJ)))
   (qQ (zW xX (by rfl) G.isi aq26 (qQ (pv 0) (qQ (jC (v:=.ref TL) (by rfl) T.m4 rfl) qJ))) qJ))))))
  (qK (qH (i:=1) qPq.nd rfl oI (qI jF (pv 1) (qT
   (qQ (zW xX (by rfl) G.isi aq26 (qQ (pv 0) (qQ (jC (v:=.ref ND) (by rfl) T.m5 rfl) qJ)))
   (qQ (zW xX (by rfl) G.isi aq26 (qQ (pv 0) (qQ (jC (v:=.ref NR) (by rfl) T.m6 rfl) qJ)))
   (qQ (zW xX (by rfl) G.isi aq26 (qQ (pv 0) (qQ (jC (v:=.ref NM) (by rfl) T.m7 rfl) qJ)))
   (qQ (zW xX (by rfl) G.isi aq26 (qQ (pv 0) (qQ (jC (v:=.ref BR) (by rfl) T.m8 rfl) qJ))) qJ)))))))
  (qY (qG (vQ (zS zG (yB aq0 PySem.F.slot_list_count PySem.F.type_list_count pU (pv 1) (qQ kC qJ)) qX (nomark _))
   (vQ (zW xX (by rfl) G.isi aq26 (qQ (pv 0) (qQ (jC (v:=.ref S) (by rfl) T.m0 rfl) qJ)))
    (vA (zW xX (by rfl) G.isi aq26 (qQ (pv 0) (qQ (kH (v:=.ty "ValueError") (by rfl) G.ver tK rfl) qJ))))))))),?_⟩
 have k:∀D∈[BT,NN,UF,TL,ND,NR,NM,BR],PySem.W.kitOne K (.ref C) (.ref D)=some (decide (C=D)):=T.kit C hC
 have xc:=T.xc C hC
 have xi:=T.xi C hC
 refine⟨_,rfl,e,C,t,d,nw,bm,.ref BT,_,_,rfl,.inl ⟨BT,rfl,rfl⟩,he,hd,xc,xi,k BT (by simp),?_⟩
 refine⟨_,rfl,e,C,t,d,nw,bm,.ref NN,_,_,rfl,.inl ⟨NN,rfl,rfl⟩,he,hd,xc,xi,k NN (by simp),?_⟩
 refine⟨_,rfl,e,C,t,d,nw,bm,.ref UF,_,_,rfl,.inl ⟨UF,rfl,rfl⟩,he,hd,xc,xi,k UF (by simp),?_⟩
 refine⟨_,rfl,e,C,t,d,nw,bm,.ref TL,_,_,rfl,.inl ⟨TL,rfl,rfl⟩,he,hd,xc,xi,k TL (by simp),zl4,fun l hl=>?_⟩
 have g1:Grow H (upd H l (.lst [.bl (decide (C=BT)),.bl (decide (C=NN)),.bl (decide (C=UF)),.bl (decide (C=TL))])):=Grow.put hl
 have he1:=g1.same _ _ he
 have hd1:∀a,d=some a->∃fs,(upd H l (.lst [.bl (decide (C=BT)),.bl (decide (C=NN)),.bl (decide (C=UF)),.bl (decide (C=TL))])) a=some (.xd fs):=fun a h=>let⟨fs,z⟩:=hd a h;⟨fs,g1.same _ _ z⟩
 refine⟨_,rfl,?_⟩
 refine⟨_,rfl,e,C,t,d,nw,bm,.ref ND,_,_,rfl,.inl ⟨ND,rfl,rfl⟩,he1,hd1,xc,xi,k ND (by simp),?_⟩
 refine⟨_,rfl,e,C,t,d,nw,bm,.ref NR,_,_,rfl,.inl ⟨NR,rfl,rfl⟩,he1,hd1,xc,xi,k NR (by simp),?_⟩
 refine⟨_,rfl,e,C,t,d,nw,bm,.ref NM,_,_,rfl,.inl ⟨NM,rfl,rfl⟩,he1,hd1,xc,xi,k NM (by simp),?_⟩
 refine⟨_,rfl,e,C,t,d,nw,bm,.ref BR,_,_,rfl,.inl ⟨BR,rfl,rfl⟩,he1,hd1,xc,xi,k BR (by simp),zl4,fun l2 hl2=>?_⟩
 have hll:l≠l2:=zZ qZ hl2
 refine⟨l,l2,_,_,rfl,rfl,(by rw[qC hll,qZ]),qZ,(by show 8<=sizeLine;decide),fun l3 hl3=>?_⟩
 have g2:=(g1.trans (Grow.put (o:=.lst [.bl (decide (C=ND)),.bl (decide (C=NR)),.bl (decide (C=NM)),.bl (decide (C=BR))]) hl2)).trans (Grow.put (o:=.lst ([.bl (decide (C=BT)),.bl (decide (C=NN)),.bl (decide (C=UF)),.bl (decide (C=TL))]++[.bl (decide (C=ND)),.bl (decide (C=NR)),.bl (decide (C=NM)),.bl (decide (C=BR))])) hl3)
 have he2:=g2.same _ _ he
 have hd2:=fun a h=>let⟨fs,z⟩:=hd a h;(⟨fs,g2.same _ _ z⟩:∃fs,_=some (HO.xd fs))
 refine⟨_,rfl,.inl ⟨rfl,_,zV.of qZ⟩,l3,[BT,NN,UF,TL,ND,NR,NM,BR].map (fun D=>decide (C=D)),true,rfl,rfl,zV.of qZ,rfl,?_⟩
 rw[iC T.nd hC]
 refine⟨_,rfl,jO ?_⟩
 refine⟨_,rfl,e,C,t,d,nw,bm,.ref S,_,_,rfl,.inl ⟨S,rfl,rfl⟩,he2,hd2,xc,xi,T.kitS C hC,_,rfl,jO ?_⟩
 exact⟨_,rfl,e,C,t,d,nw,bm,.type "ValueError",_,_,rfl,.inr ⟨_,rfl,rfl⟩,he2,hd2,xc,xi,T.kitV C hC,q _ g2⟩
end
section
variable {P:Program} {w:World} {K:Fg} {mg:Str->Option Value} {base:Heap} {f:Addr} {fd:FuncData} {S BT NN UF TL ND NR NM BR:Addr} {bm:List Value}
abbrev Al(P:Program)(w:World)(K:Fg)(mg:Str->Option Value)(base:Heap)(cs:List Addr):Prop:=∃fA dA,iJ P w K mg base (CXE P w) 1 fA dA ["_law_e"] (fG cs)/\mg "_law_alone"=some (.ref fA)/\PySem.W.keepIn K (.ref fA)=true/\Binds K dA ["_law_e"] []
def xT(K:Fg)(UF NN:Addr)(Q:VK):XK:=fun cls oe H1=>(∃e t,cls= .ref UF/\oe=some e/\H1 e=some (xL false UF t none e)/\∀v H2,Grow H1 H2->qU K H2 (rdt (.error .unfit)) v->Q v H2)\/
 ∃e t d x,cls= .ref NN/\oe=some e/\H1 e=some (xL false NN t (some d) e)/\H1 d=some (.xd [("name",.str x)])/\∀v H2,Grow H1 H2->qU K H2 (rdt (.error (.noname x))) v->Q v H2
def spT(K:Fg)(UF NN:Addr)(sp:Sp)(pv:V)(H:Hp)(Q:VK):Prop:=∀E,(∀cls oe H1,xT K UF NN Q cls oe H1->E cls oe H1)->sp [pv] H Q E
theorem qZ5:zQ ["_law_rule","_law_e"] ["_law_rule"] (qL fQ):=by walk_at "s"
theorem fB{k:Nat}{g qual:Str}{gp vp cp:Pos}{c:Addr}{sp:Sp}(hk:1<=k)(F:zB K "_law_told" "_law_told" fQ .none f fd)(zi:mg "int"=none)(T:Cs K mg S BT NN UF TL ND NR NM BR bm)(c0:(Value.ref NN::bm).contains (.ref UF)=false)(na:uO K NN "name")(GA:Al P w K mg base [BT,NN,UF,TL,ND,NR,NM,BR])(GK:Kn P w K mg base k g ["part"] sp)
  (hvg:("_law_part_here"==g)=false)(hgv:(g=="_law_part_here")=false)(hgd:(g==("__debug__":Str))=false):
  qZ2 P w K mg base (k+2) f fd ["_law_rule"] (fun s vs H Q _=>∃f c' pm ct u pv,vs=[.ref f]/\H f=some (LmO f (kT qual "_law_part_here" g gp vp cp c pm (.ref c') ct))/\H c'=some (CdO c' qual)/\s.heap.IsCell c (some u)/\H c=none/\zY pv u/\spT K UF NN sp pv H Q):=by
 obtain⟨fA,dA,GA,mA,kA,bA⟩:=GA
 refine F.okH qZ5 (fun s vs H Q E h=>?_) (fun cdv A outer s H vs Q E hr h=>?_)
 ·obtain⟨f,c',pm,ct,u,pw,rfl,_⟩:=h
  rfl
 ·obtain⟨fL,c',pm,ct,u,pw,rfl,hf,hcd,hc,hcn,ru,q⟩:=h
  have x2:=T.xc NN (by simp)
  have x3:=T.xc UF (by simp)
  refine'⟨_,qY (qV7 rfl rfl (qN3 (qZ1 (i:=0) (r:="_law_rule") (v:="_law_part_here") (g:=g) (gp:=gp) (vp:=vp) (cp:=cp) (c:=c) (pv:=pw) rfl oI hr rfl hc hcn ru GK hvg hgv (by decide) (by decide) hgd)) (by rfl) T.m3 x3 (by rfl) T.m2 x2 (i:=1) qZ5.nd rfl (by rfl) ?h1 ?h2),?rd⟩
  case h1=>exact fun e=>qY (qG (qO qP (qT (qQ (qF (qQ qV qJ)) (qQ (qF (qQ qV qJ)) qJ))) (zD zA (by rfl) zi PyProof.Rows.boot_int (qQ (lM GA ((hr.s.mono (by omega)).mark _) (by rfl) mA kA bA .nil kR (qQ (pv 1) qJ)) qJ))))
  case h2=>exact fun e=>qY (qG (qO qP (qT (qQ (qF (qQ qV qJ)) (qQ (qF (qQ qV (qQ (qK1 (pv 1)) qJ))) qJ))) (zD zA (by rfl) zi PyProof.Rows.boot_int (qQ (lM GA ((hr.s.mono (by omega)).mark _) (by rfl) mA kA bA .nil kR (qQ (pv 1) qJ)) qJ))))
  refine⟨fL,qual,pm,c',ct,rfl,hf,hcd,q _ fun cls oe H1 hx=>?_⟩
  rcases hx with⟨e,t,rfl,rfl,he,q⟩|⟨e,t,d,x,rfl,rfl,he,hd,q⟩
  ·refine⟨e,UF,bm,rfl,rfl,x3,.inl ⟨by simp,?_⟩⟩
   refine⟨zl1,fun T1 hT1=>?_⟩
   have g1:=Grow.put (o:=.tup [.str "other"]) hT1
   generalize upd H1 T1 (.tup [.str "other"])=H2 at g1⊢
   refine⟨zl1,fun T2 hT2=>?_⟩
   have g2:=Grow.put (o:=.tup [.str "unfit"]) hT2
   have e2:qA K (upd H2 T2 (.tup [.str "unfit"])) T2 [.str "unfit"]:=qA.of qZ
   generalize upd H2 T2 (.tup [.str "unfit"])=H3 at g2 e2⊢
   refine⟨zl2,fun l hl=>?_⟩
   have g3:=Grow.put (o:=.lst [.ref T1,.ref T2]) hl
   have e3:zV K (upd H3 l (.lst [.ref T1,.ref T2])) l [.ref T1,.ref T2]:=zV.of qZ
   generalize upd H3 l (.lst [.ref T1,.ref T2])=H4 at g3 e3⊢
   have g:=(g1.trans g2).trans g3
   refine⟨_,rfl,e,UF,t,none,false,rfl,by simp,g.same _ _ he,(fun a h=>by cases h),fun H5 g5=>.inr ⟨true,rfl,pick2 true (g5.same.seq e3) (q _ _ (g.trans g5) (vL (qA.mono (g3.trans g5).same e2)))⟩⟩
  ·refine⟨e,NN,bm,rfl,rfl,x2,.inr ⟨c0,by simp,?_⟩⟩
   refine⟨zl1,fun T1 hT1=>?_⟩
   have g1:=Grow.put (o:=.tup [.str "other"]) hT1
   generalize upd H1 T1 (.tup [.str "other"])=H2 at g1⊢
   refine⟨_,rfl,e,NN,t,d,false,bm,_,.str x,rfl,g1.same _ _ he,x2,na,g1.same _ _ hd,rfl,zl2,fun T2 hT2=>?_⟩
   have g2:=Grow.put (o:=.tup [.str "noname",.str x]) hT2
   have e2:qA K (upd H2 T2 (.tup [.str "noname",.str x])) T2 [.str "noname",.str x]:=qA.of qZ
   generalize upd H2 T2 (.tup [.str "noname",.str x])=H3 at g2 e2⊢
   refine⟨zl2,fun l hl=>?_⟩
   have g3:=Grow.put (o:=.lst [.ref T1,.ref T2]) hl
   have e3:zV K (upd H3 l (.lst [.ref T1,.ref T2])) l [.ref T1,.ref T2]:=zV.of qZ
   generalize upd H3 l (.lst [.ref T1,.ref T2])=H4 at g3 e3⊢
   have g:=(g1.trans g2).trans g3
   refine⟨_,rfl,e,NN,t,some d,false,rfl,by simp,g.same _ _ he,(fun a h=>by cases h;exact⟨_,g.same _ _ hd⟩),fun H5 g5=>.inr ⟨true,rfl,pick2 true (g5.same.seq e3) (q _ _ (g.trans g5) (jG (qA.mono (g3.trans g5).same e2) (zJ _)))⟩⟩
end
end K14
namespace L2
open PySem PySem.Spec PyProof.Rows PyProof Dt
theorem qPz{n k:Nat}(h:n<2^k)(hk:0<k):n.log2<k:=by
 by_cases z:n=0
 ·subst z;simpa using hk
 ·exact(Nat.log2_lt z).mpr h
theorem qZ6{X:Cx}:wQ X (binaryOp .FloorDiv) (rI (fun _ j=>j≠0/\j.natAbs<2^64) fun i j=>.int (i.fdiv j)):=opI fun _ _ _ _ _ _ _ hc q=>floordiv_int hc.1 q (.inl (PyProof.noPylong_of_log2 (Nat.lt_trans (qPz hc.2 (by decide)) (by decide))))
theorem zF.tupsT{K:Fg}{a:Addr}{H H':Hp}{ps:Array Value}(g:zF a H H')(h:H a=some (.tbl ps)):kY K H H':=fun b xs hb=>by
 rcases hb with(hb|⟨o,hb⟩)|hb
 ·exact .inl (.inl (g.keep b _ (vP hb h (by intro z;cases z)) hb))
 ·exact .inl (.inr ⟨o,g.keep b _ (vP hb h (by intro z;cases z)) hb⟩)
 ·exact .inr hb
theorem zF.lstT{K:Fg}{a b:Addr}{H H':Hp}{ps:Array Value}{xs:List V}(g:zF a H H')(h:H a=some (.tbl ps))(hb:zV K H b xs):zV K H' b xs:=by
 rcases hb with(hb|⟨o,hb⟩)|hb
 ·exact .inl (.inl (g.keep b _ (vP hb h (by intro z;cases z)) hb))
 ·exact .inl (.inr ⟨o,g.keep b _ (vP hb h (by intro z;cases z)) hb⟩)
 ·exact .inr hb
theorem qUq{b:Bool}{t u:TS}{D:Ends}{σ:St}{H:Hp}(P:St->Hp->Prop)(hr:∀σ H,P σ H->D.nx σ H)(ht:b=true->(∀σ H,P σ H->D.nx σ H)->t D σ H)(hu:b=false->(∀σ H,P σ H->D.nx σ H)->u D σ H):if b=true then t D σ H else u D σ H:=by
 cases b
 ·exact jQ (hu rfl hr)
 ·exact jO (ht rfl hr)
end L2
namespace K14
open PySem PySem.W L2 PyProof Dt
section
variable {P:Program} {w:World} {K:Fg} {mg:Str->Option Value} {base:Heap} {f:Addr} {fd:FuncData} {S BT NN UF TL ND NR NM BR:Addr} {bm:List Value}
variable {fFs fFu fBe fTo:Addr} {dFs dFu dBe dTo:FuncData}
theorem mW(F:Df K mg "_law_fits" gS yT fFs dFs)(FU:Df K mg "_law_function" qYq yT fFu dFu)(G:dF mg)(GB:Kn P w K mg base 1 "_law_is_bad" ["_law_kind_here"] (gA K))(GD:Kn P w K mg base 1 "_law_bound" ["_law_name","_law_scope"] (eV K))(G1:Kn P w K mg base 60 "_law_of_one" ["_law_word","_law_one"] (qQ4 K))(G2:Kn P w K mg base 60 "_law_of_two" ["_law_word","_law_one","_law_other"] (qQ2 K)):
  ∀n,Kn P w K mg base (2*n+62) "_law_fits" yT (yM K n)
 |0=>F.kn (qQ8 F.fn)
 |n+1=>by
  have ih:=mW F FU G GB GD G1 G2 n
  exact F.kn (qU2 F.fn G ih GB GD (FU.kn (qP3 FU.fn G ih GB)) G1 G2)
theorem mY(F:Df K mg "_law_bent" oV bQ fBe dBe)(G:dF mg)(GI:GlI mg):∀n,Kn P w K mg base (n+60) "_law_bent" bQ (oW K n)
 |0=>F.kn (qQj F.fn)
 |n+1=>F.kn (qU6 F.fn G GI (mY F G GI n))
theorem qUz{pw:V}{p:Pt}{H:Hp}{Q:VK}(hp:qU K H p.dt pw)(hg:Pg p)(q:∀v H',Grow H H'->qU K H' (rdt (Pt.fit [] p)) v->Q v H'):spT K UF NN (qY1 K UF NN) pw H Q:=by
 intro E hE
 refine⟨pw,p,rfl,hp,hg,?_⟩
 cases hf:Pt.fit [] p with
 |ok κ=>rw[hf]at q;exact q
 |error b=>
  rw[hf]at q
  cases b with
  |unfit=>exact fun e t H' g he=>hE _ _ _ (.inl ⟨e,t,rfl,rfl,he,fun v H2 g2 h=>q v H2 (g.trans g2) h⟩)
  |noname x=>exact fun e t d H' g he hd=>hE _ _ _ (.inr ⟨e,t,d,x,rfl,rfl,he,hd,fun v H2 g2 h=>q v H2 (g.trans g2) h⟩)
theorem qUj{pw:V}{p:Pt}{H:Hp}{Q:VK}(hp:qU K H p.dt pw)(hg:Pg p)(q1:∀κ,Pt.fit [] p= .ok κ->∀l ys H',Grow H H'->H' l=some (.lst ys)->Q (.ref l) H')(q2:∀b,Pt.fit [] p= .error b->∀v H',Grow H H'->qU K H' (rdt (.error b)) v->Q v H'):spT K UF NN (qF6 K UF NN) pw H Q:=by
 intro E hE
 refine⟨pw,p,rfl,hp,hg,?_⟩
 cases hf:Pt.fit [] p with
 |ok κ=>exact q1 κ hf
 |error b=>
  cases b with
  |unfit=>exact fun e t H' g he=>hE _ _ _ (.inl ⟨e,t,rfl,rfl,he,fun v H2 g2 h=>q2 _ hf v H2 (g.trans g2) h⟩)
  |noname x=>exact fun e t d H' g he hd=>hE _ _ _ (.inr ⟨e,t,d,x,rfl,rfl,he,hd,fun v H2 g2 h=>q2 _ hf v H2 (g.trans g2) h⟩)
theorem qPj(K:Fg):PySem.W.kitOne K (.type "list") (.type "list")=some true:=by
 unfold PySem.W.kitOne
 rw[if_pos (by decide)]
theorem qZ7(r:Except Bad Kd):(!eqD (rdt r) (rdt r))=false:=by
 rcases r with(_|x)|k
 ·rfl
 ·simp[rdt,eqD,eqDs]
 ·rw[rdt,Kd.eq_dt];simp
theorem qO0{p:Pt}(h:Fk [] 41 p):dep (rdt (Pt.fit [] p))<=1100:=by
 cases hf:Pt.fit [] p with
 |ok κ=>rw[rdt,Kd.dep_dt];exact h.deep hf
 |error b=>cases b<;>simp[rdt,dep,deps]
inductive qZ8(K:Fg)(T:Addr)(vs:List V)(H:Hp)(Q:VK):Prop
 |mk (a:Addr) (ns:List Int) (a_0:vs=[.ref a]) (a_1:H T=some (.tbl #[])) (a_2:zV K H a (ns.map V.int)) (a_3:ns.length<=63) (a_4:∀H',Q (.bl true) H'):qZ8 K T vs H Q
def fD(K:Fg)(T:Addr):Sp:=fun vs H Q x_0=>qZ8 K T vs H Q
theorem oY:zQ ["_law_script","_law_k","_law_more","_law_part_here","_law_due","_law_found"] ["_law_script"] (qL qYz):=by walk_at "s"
theorem qR0{cc T:Addr}(F:zB K "law" "law" qYz .none f fd)(hcc:fd.code= .ref cc)(C:CodeHd base cc T)(hbt:base.BuiltinsAt mg T)(hgT:mainGlobals≠T)(G:dF mg)(GI:GlS K mg)(zL:mg "list"=none)(GC:Kn P w K mg base 1 "_law_cell" ["_law_script","_law_k"] (cM K))(GD:Kn P w K mg base 1 "_law_drawn" ["_law_cell_here","_law_k"] uQ)(GK:Kn P w K mg base 4 "_law_kind" ["_law_more","_law_deep"] (gM K 3))(GP:Kn P w K mg base 62 "_law_part" oH (vC K 4))
  (GE:Kn P w K mg base 110 "_law_bent" bQ (oW K 50))(GF:Kn P w K mg base 162 "_law_fits" yT (yM K 50))(GB:Kn P w K mg base 1 "_law_is_bad" ["_law_kind_here"] (gA K))(GO:Kn P w K mg base 173 "kind_of" ["part"] (qY1 K UF NN))(GM:Kn P w K mg base 174 "compiled" ["part"] (qF6 K UF NN))
  (DT:Df K mg "_law_told" fQ ["_law_rule"] fTo dTo)(TC:Cs K mg S BT NN UF TL ND NR NM BR bm)(c0:(Value.ref NN::bm).contains (.ref UF)=false)(na:uO K NN "name")(GA:Al P w K mg base [BT,NN,UF,TL,ND,NR,NM,BR]):zC P w K mg base (CXE P w) 216 f fd ["_law_script"] (fD K T):=by
 refine F.okC hcc oY (fun vs H Q E h=>?_) (fun A outer s H vs Q E hr h=>?_)
 ·obtain⟨a,ns,rfl,_⟩:=h
  rfl
 ·obtain⟨a,ns,rfl,hT0,hS,hn,q⟩:=h
  have h1:=hr.mono (show 1<=215 by decide)
  have h4:=hr.mono (show 4<=215 by decide)
  have h62:=hr.mono (show 62<=215 by decide)
  have h110:=hr.mono (show 110<=215 by decide)
  have h162:=hr.mono (show 162<=215 by decide)
  have h175:=hr.mono (show 175<=215 by decide)
  have h176:=hr.mono (show 176<=215 by decide)
  refine⟨_,qK (vE PassesOwn.never rfl (hX (by rfl) G.range (qQ (zW (pJ rfl) (by rfl) G.max PyProof.Rows.boot_max (qQ qX (qQ (zW (pX rfl) (by rfl) G.min PyProof.Rows.boot_min (qQ qX (qQ (zW zP (by rfl) G.len aq27 (qQ (pv 0) qJ)) qJ))) qJ))) qJ))
    (jU (i:=1) oY.nd rfl oI)
    (qK (qH (i:=2) oY.nd rfl oI (zI GD h1 (qQ (zI GC h1 (qQ (pv 0) (qQ (pv 1) qJ))) (qQ (qI jJ (pv 1) qX) qJ))))
    (qK (qH (i:=3) oY.nd rfl (Or.inr rfl) (zI GE h110 (qQ (zI GP h62 (qQ (pv 0) (qQ (qI jM qX (pv 1)) (qQ (zI GK h4 (qQ (pv 2) (qQ qX qJ))) (qQ (qT qJ) (qQ (qI jJ qX (qI zM (pv 2) qX)) qJ)))))) (qQ (qI zU (pv 2) qX) qJ))))
    (qK (zK (qM zG (qI zM (qI zU (pv 2) qX) qX) qX (nomark _)) (qY (qH (i:=3) oY.nd rfl (Or.inr rfl) (zI GE h110 (qQ (pv 3) (qQ (qI qZ6 (pv 2) (qI qM0 qX qX)) qJ))))) qD)
    (qK (qH (i:=4) oY.nd rfl oI (zI GF h162 (qQ (pv 3) (qQ (qT qJ) qJ))))
    (qK (zK (qM cV (mJ (i:=3) (c:=s.heap.objs.size+1) (qual:="law.<locals>.<lambda>") rfl rfl rfl rfl rfl rfl C hbt hgT (fB (k:=173) (by decide) DT.fn G.int TC c0 na GA GO (by decide) (by decide) (by decide)) h175 (by rfl) DT.at_ DT.fn.kp DT.bi) (pv 4) (nomark _)) (qY (qG kC)) qD)
    (qK (qH (i:=5) oY.nd rfl oI (mJ (i:=3) (c:=s.heap.objs.size+1) (qual:="law.<locals>.<lambda>") rfl rfl rfl rfl rfl rfl C hbt hgT (fB (k:=174) (by decide) DT.fn G.int TC c0 na GA GM (by decide) (by decide) (by decide)) h176 (by rfl) DT.at_ DT.fn.kp DT.bi))
    (qY (zK (cA (PW.pt (xR (xW (zI GB h1 (qQ (pv 4) qJ))) (xY (qM cV (pv 5) (pv 4) (nomark _))))) (uV (PW.pt (xR (vT (xW (zI GB h1 (qQ (pv 4) qJ)))) (xY (vT (xW (zW qZ3 (by rfl) GI.isi aq26 (qQ (pv 5) (qQ (kH (v:=.ty "list") (by rfl) zL PyProof.Rows.boot_list rfl) qJ)))))))))).pt (qY (qG kC)) qD)))))))))
   (qY (qG kC)),?_⟩
  obtain⟨J,hJ,hJ2⟩:∃J:Int,(if(if(((ns.map V.int).length:Nat):Int)<8 then(((ns.map V.int).length:Nat):Int)else 8)>1 then(if(((ns.map V.int).length:Nat):Int)<8 then(((ns.map V.int).length:Nat):Int)else 8)else 1)=J/\(-(2^62)<=J/\J<2^62):=by
   refine⟨_,rfl,?_⟩
   split<;>split<;>omega
  refine⟨_,rfl,a,_,rfl,.inl hS,_,_,rfl,_,_,rfl,_,rfl,?_,?_,?_⟩
  ·rw[hJ];exact hJ2.1
  ·rw[hJ];exact hJ2.2
  refine pQ (fun _ σ H1=>∃o1 o2 o3 o4 o5,σ=[some (.ref a),o1,o2,o3,o4,o5]/\zV K H1 a (ns.map V.int)/\mZ H1 T "law.<locals>.<lambda>") ⟨_,_,_,_,_,rfl,hS,⟨#[],hT0,trivial,fun pos cv e=>by cases e⟩⟩ ?_ ?_
  ·rintro i σ H1 hi ⟨o1,o2,o3,o4,o5,rfl,hS1,hT1⟩
   walk_at "d"
   generalize (0:Int)+(i:Int)=k
   refine⟨_,rfl,_,rfl,a,ns,k,rfl,hS1,hn,fun c1 H2 g2=>⟨_,rfl,_,_,rfl,rfl,c1,_,rfl,fun m _=>?_⟩⟩
   walk_at "d"
   refine⟨_,rfl,_,rfl,_,_,rfl,rfl,.inl ⟨by decide,by decide⟩,_,rfl,m,2,rfl,by omega,fun v κ H3 g3 hv hk=>?_⟩
   have hk':κ.sz<=7:=by have :(2:Nat)^(2+1)=8:=rfl;omega
   have G3:=g2.trans g3
   refine⟨zl0,fun l hl=>?_⟩
   have g4:Grow H3 (upd H3 l (.lst [])):=Grow.put hl
   have el:(upd H3 l (.lst [])) l=some (.lst []):=qZ
   generalize upd H3 l (.lst [])=H4 at g4 el⊢
   have G4:=G3.trans g4
   have hv4:=hv.mono g4.same
   obtain⟨d,hd,hd4⟩:∃d:Nat,1+m%3=(d:Int)/\d<=3:=⟨(1+m%3).toNat,by omega,by omega⟩
   refine⟨_,rfl,_,_,rfl,rfl,(by show(0:Int)<_;decide),_,_,rfl,rfl,a,40*k,v,l,κ,[],d,?_,⟨⟨ns,G4.same.seq hS1,hn⟩,⟨[],el,zX,fun e h=>by cases h⟩,by simp;omega⟩,hv4,by omega,by omega,fun u p H5 g5 tp=>?_⟩
   ·show[V.ref a,V.int (40*k),v,V.ref l,V.int (1+m%3)]=_;rw[hd]
   have G5:=G4.trans g5
   have pd:p.deep<=43:=by have :=tp.deep;omega
   have pz:p.sz<=967:=by
    have :=tp.sz
    have h4:Gz d<=Gz 3:=by
     match d,hd4 with
     |0,_=>decide
     |1,_=>decide
     |2,_=>decide
     |3,_=>decide
    have h5:Gz 3=967:=rfl
    omega
   have pk:=tp.has.kb
   have pg:=Pt.gr_sz p
   refine⟨_,rfl,_,_,rfl,rfl,⟨by decide,by decide⟩,u,m/64,p,rfl,tp.at_,by omega,pk,fun u1 p1 H6 g6 hu1 b1=>?_⟩
   have G6:=G5.trans g6
   have d1:=b1.deep
   have z1:=b1.sz
   have r1:=b1.gr
   have k1:=b1.kb pk
   walk_at "d"
   refine⟨_,rfl,_,_,rfl,rfl,⟨by decide,by decide⟩,_,_,rfl,rfl,(by show(0:Int)<_;decide),rfl,_,rfl,?_⟩
   refine qUq (fun σ H7=>∃u2 p2,σ=[some (.ref a),some (.int k),some (.int m),some u2,o4,o5]/\Grow H1 H7/\qU K H7 p2.dt u2/\Pg p2) ?_ ?_ ?_
   ·rintro σ H7 ⟨u2,p2,rfl,G7,hu2,hg⟩
    have gd:=hg.deep
    have hF:Fk [] 41 p2:=⟨Pt.Cb.nil _,hg.kb,aq7 _,by have :=hg.gr;omega⟩
    have hdep:(jN (CXE P w) P w K mg base ["_law_script","_law_k","_law_more","_law_part_here","_law_due","_law_found"] "law" (qL qYz) f (.ref cc) A outer s H E).nox.A.units+dep (rdt (Pt.fit [] p2))<cLine:=by
     have :=qO0 hF
     have :=hr.un
     show(A.deeper _).units+_<_
     omega
    refine⟨_,rfl,zl0,fun l2 hl2=>?_⟩
    have g8:Grow H7 (upd H7 l2 (.lst [])):=Grow.put hl2
    have e8:(upd H7 l2 (.lst [])) l2=some (.lst []):=qZ
    generalize upd H7 l2 (.lst [])=H8 at g8 e8⊢
    refine⟨u2,l2,p2,[],41,rfl,hu2.mono g8.same,hg.deep,⟨[],e8,zX⟩,by simp;omega,hF,fun du H9 g9 hdu=>?_⟩
    replace hdu:qU K H9 (rdt (Pt.fit [] p2)) du:=hdu
    have G9:=(G7.trans g8).trans g9
    walk_at "d"
    have hT9:=hT1.mono G9
    refine⟨u2,rfl,hT9,fun fL c' pm ct H10 L1=>?_⟩
    obtain⟨ps9,t9,_⟩:=id hT9
    have k1:=L1.grow.tupsT (K:=K) t9
    have hu10:=qU.monoT k1 (hu2.mono (g8.trans g9).same)
    have hdu10:=qU.monoT k1 hdu
    have hS10:=L1.grow.lstT t9 (G9.same.seq hS1)
    refine qUz hu10 hg fun v1 H11 g11 hv1=>?_
    refine⟨_,rfl,_,_,hv1,hdu10.mono g11.same,hdep,_,rfl,jY (qZ7 _) ?_⟩
    have hT11:=L1.tb.mono g11
    refine⟨u2,rfl,hT11,fun fM c2 pm2 ct2 H12 L2'=>?_⟩
    obtain⟨ps11,t11,_⟩:=id hT11
    have k2:=L2'.grow.tupsT (K:=K) t11
    have hu12:=qU.monoT k2 (hu10.mono g11.same)
    have hdu12:=qU.monoT k2 (hdu10.mono g11.same)
    have hS12:=L2'.grow.lstT t11 (g11.same.seq hS10)
    refine qUj hu12 hg (fun κ hf lc ys H13 g13 e13=>?_) (fun b hf v2 H13 g13 hv2=>?_)
    ·walk_at "d"
     rw[hf]at hdu12
     refine⟨_,rfl,du,.ok κ,rfl,hdu12.mono g13.same,fun H14 g14=>⟨_,rfl,jY rfl (jQ ?_)⟩⟩
     refine⟨_,rfl,du,.ok κ,rfl,hdu12.mono (g13.trans g14).same,fun H15 g15=>⟨_,rfl,xQ rfl ?_⟩⟩
     have g:=(g13.trans g14).trans g15
     refine⟨_,rfl,lc,ys,"list",true,rfl,zV.of ((g14.trans g15).same _ _ e13),qPj K,true,rfl,jY rfl ?_⟩
     exact⟨_,_,_,_,_,rfl,g.same.seq hS12,L2'.tb.mono g⟩
    ·walk_at "d"
     rw[hf]at hdu12 hdep
     refine⟨_,rfl,du,.error b,rfl,hdu12.mono g13.same,fun H14 g14=>⟨_,rfl,xQ rfl ?_⟩⟩
     refine⟨_,rfl,_,rfl,_,_,hv2.mono g14.same,hdu12.mono (g13.trans g14).same,hdep,_,rfl,jY (qZ7 _) ?_⟩
     refine⟨_,rfl,du,.error b,rfl,hdu12.mono (g13.trans g14).same,fun H15 g15=>⟨_,rfl,jY rfl (jY rfl ?_)⟩⟩
     have g:=(g13.trans g14).trans g15
     exact⟨_,_,_,_,_,rfl,g.same.seq hS12,L2'.tb.mono g⟩
   ·intro _ rest
    refine⟨_,rfl,_,rfl,_,_,rfl,rfl,⟨by decide,by decide,by decide⟩,_,_,rfl,rfl,⟨by decide,by decide⟩,u1,_,p1,rfl,hu1,by omega,k1,fun u2 p2 H7 g7 hu2 b2=>?_⟩
    have d2:=b2.deep
    have z2:=b2.sz
    have r2:=b2.gr
    exact rest _ _ ⟨u2,p2,rfl,G6.trans g7,hu2,⟨by omega,by omega,by omega,b2.kb k1⟩⟩
   ·intro _ rest
    exact rest _ _ ⟨u1,p1,rfl,G6,hu1,⟨by omega,by omega,by omega,k1⟩⟩
  ·rintro σ H1 ⟨o1,o2,o3,o4,o5,rfl,_⟩
   exact q H1
end
end K14
set_option maxHeartbeats 8000000
namespace K14
open PySem L2 PyProof Dt
section
variable {P:Program} {w:World} {K:Fg} {mg:Str->Option Value} {base:Heap} {f:Addr} {fd:FuncData}
theorem mU{fT fO fL fP:Addr}{dT dO dL dP:FuncData}(F:Df K mg "_law_part" oX oH fP dP)(FT:Df K mg "_law_two" qY2 eO fT dT)(FO:Df K mg "_law_of_kind" sOK qY6 fO dO)(FL:Df K mg "_law_loop" iN qY7 fL dL)(G:dF mg)(GS:GlS K mg)(GC:Kn P w K mg base 1 "_law_cell" ["_law_script","_law_k"] (cM K))(GD:Kn P w K mg base 1 "_law_drawn" ["_law_cell_here","_law_k"] uQ)(GL:Kn P w K mg base 43 "_law_leaf" gP (nR K 41))(GK:Kn P w K mg base 3 "_law_kind" ["_law_more","_law_deep"] (gM K 2)):
  ∀n,Kn P w K mg base (4*n+46) "_law_part" oH (vC K n)
 |0=>F.kn (qH5 F.fn)
 |n+1=>by
  have ih:=mU F FT FO FL G GS GC GD GL GK n
  have t:=FT.kn (qH2 FT.fn ih)
  exact F.kn (zZ4 F.fn GC GD GL GK ih t (FO.kn (qH3 FO.fn G (by omega) GK ih t)) (FL.kn (qY9 FL.fn GS ih)))
theorem qZ9(F:Df K mg "_law_leaf" oJ gP f fd)(G:dF mg)(GB:Kn P w K mg base 1 "_law_bound" ["_law_name","_law_scope"] (eV K))(GN:Kn P w K mg base 1 "_law_number" ["_law_more"] eJ):∀n,Kn P w K mg base (n+2) "_law_leaf" gP (nR K n)
 |0=>F.kn (qH1 F.fn)
 |n+1=>F.kn (zZ0 F.fn G GB GN (qZ9 F G GB GN n))
theorem qZq(F:Df K mg "_law_kind" sLK ["_law_more","_law_deep"] f fd):∀n,Kn P w K mg base (n+1) "_law_kind" ["_law_more","_law_deep"] (gM K n)
 |0=>F.kn (qFz F.fn)
 |n+1=>F.kn (zQz F.fn (qZq F n))
end
abbrev qR1:List Str:=(["nil","cons","head","tail","empty","pair","first","second","if","let","fn","rec","call","plus","minus","times","over","rest","less","same","and","or","not"]:List Str)
abbrev zW1:List Str:=(["let","fn","rec"]:List Str)
abbrev zZ9:List Str:=(["cons","head","tail","empty","first","second","if","call"]:List Str)
abbrev zW2:List Str:=(["num","truth","plus","minus","times","over","rest","less","same","and","or","not"]:List Str)
abbrev zW3:List Str:=(["call","if","and","or","let"]:List Str)
open PySem.W
theorem us1{us:List Value}(h:(us++([]:List Value)).length=1):∃a0,us=[a0]:=by
 rw[List.append_nil]at h
 exact match us,h with |[a0],_=>⟨a0,rfl⟩
theorem us2{us:List Value}(h:(us++([]:List Value)).length=2):∃a0 a1,us=[a0,a1]:=by
 rw[List.append_nil]at h
 exact match us,h with |[a0,a1],_=>⟨a0,a1,rfl⟩
theorem us3{us:List Value}(h:(us++([]:List Value)).length=3):∃a0 a1 a2,us=[a0,a1,a2]:=by
 rw[List.append_nil]at h
 exact match us,h with |[a0,a1,a2],_=>⟨a0,a1,a2,rfl⟩
theorem us4{us:List Value}(h:(us++([]:List Value)).length=4):∃a0 a1 a2 a3,us=[a0,a1,a2,a3]:=by
 rw[List.append_nil]at h
 exact match us,h with |[a0,a1,a2,a3],_=>⟨a0,a1,a2,a3,rfl⟩
theorem us5{us:List Value}(h:(us++([]:List Value)).length=5):∃a0 a1 a2 a3 a4,us=[a0,a1,a2,a3,a4]:=by
 rw[List.append_nil]at h
 exact match us,h with |[a0,a1,a2,a3,a4],_=>⟨a0,a1,a2,a3,a4,rfl⟩
theorem us6{us:List Value}(h:(us++([]:List Value)).length=6):∃a0 a1 a2 a3 a4 a5,us=[a0,a1,a2,a3,a4,a5]:=by
 rw[List.append_nil]at h
 exact match us,h with |[a0,a1,a2,a3,a4,a5],_=>⟨a0,a1,a2,a3,a4,a5,rfl⟩
def Nf(K:Frag)(x:Str)(st:Stmt)(f:Addr)(fd:FuncData):Prop:=nsIn K mainGlobals x=some (some (.ref f))/\∃o cd,K.lookup f=some o/\qV4 o x x st .none cd fd/\codeIn K cd x=true/\keepIn K (.ref f)=true
theorem Nf.df{K:Frag}{h:Heap}{mg:Str->Option Value}{x:Str}{st:Stmt}{f:Addr}{fd:FuncData}(n:Nf K x st f fd)(X:K.In h)(G:h.Ns mainGlobals mg)(ps:List Str)(b:zB K x x st .none f fd->Binds K fd ps []):Df K mg x st ps f fd:=by
 obtain⟨a,o,cd,h1,h2,h3,h4⟩:=n
 exact⟨h2.d h1 h3 h4,mg_of X G a,b (h2.d h1 h3 h4)⟩
def zZq(o:Obj)(T:Addr):Prop:=∃c d vs s,o=⟨c,d,.fields vs,s⟩/\vs[11]? =some (Value.ref T)
theorem qZz{K:Frag}{x:Str}{st:Stmt}{f c T:Addr}{fd:FuncData}{oc:Obj}(n:Nf K x st f fd)(hc:fd.code= .ref c)(lc:K.lookup c=some oc)(hf:zZq oc T):tabIn K x=some (c,T):=by
 obtain⟨a,o,cd,h1,⟨_,_,_,_,_,_,_,_,rfl,e⟩,_,_⟩:=n
 obtain⟨_,_,vs,_,rfl,hv⟩:=hf
 unfold tabIn
 subst e
 obtain rfl:cd= .ref c:=hc
 simp only[a,h1,lc,hv,fnOf]
theorem qR2(K:Frag):kitOne K (.type "tuple") (.type "str")=some false:=by
 unfold kitOne
 rw[if_neg (by decide)]
 show(if kitMeta "str"=true then(fastBuiltinMro "tuple").map (·.contains (Value.type "str"))else none)=some false
 decide+kernel
theorem zZz:∀x∈FX.map (·.1),wJ x zZ9=none:=by decide+kernel
theorem all_mk{l:OpenLaw}{w:World}{K:Frag}{h:Heap}{mg:Str->Option Value}{fa S fN tN CC TT BT NN UF TL ND NR NM BR fVb fWn fLu fNb fOn fKo fRq fRw fCn fHk fTk fEk fFk fSk fIk fCk fLk fNk fXk fPk fFt fCm fOp fCc fAi fIc fLc fFc fVc fCo fCe fDr fLq fNu fLf fBd fTw fOf fLp fPa fFo fO2 fO1 fIb fFu fFs fBe fTo fAl fLw pPS0 pPS1 pPS2 pPS3 pPS4 pPS5 pPS6 pPS7 pPS8 pPS9 pPS10 pPS11 pPS12 pPS13 pPS14 pPS15 pPS16 pPS17 pPS18 pPS19 pPS20 pPS21 pPS22 TPS TBR TKR pFK0 pFK1 pFK2 pFK3 pFK4 pFK5 pFK6 pFK7 pFK8 pFK9 pFK10 pFK11 TFK TPC:Addr}{oN otN oCC oBT oNN oUF oTL oND oNR oNM oBR OPS opPS0 opPS1 opPS2 opPS3 opPS4 opPS5 opPS6 opPS7 opPS8 opPS9 opPS10 opPS11 opPS12 opPS13 opPS14 opPS15 opPS16 opPS17 opPS18 opPS19 opPS20 opPS21 opPS22 OBR OKR OFK opFK0 opFK1 opFK2 opFK3 opFK4 opFK5 opFK6 opFK7 opFK8 opFK9 opFK10 opFK11 OPC:Obj}{cdN dN:Value}{fdN fdVb fdWn fdLu fdNb fdOn fdKo fdRq fdRw fdCn fdHk fdTk fdEk fdFk fdSk fdIk fdCk fdLk fdNk fdXk fdPk fdFt fdCm fdOp fdCc fdAi fdIc fdLc fdFc fdVc fdCo fdCe fdDr fdLq fdNu fdLf fdBd fdTw fdOf fdLp fdPa fdFo fdO2 fdO1 fdIb fdFu fdFs fdBe fdTo fdAl fdLw:FuncData}{nN:Nat}(X:K.In h)(G:h.Ns mainGlobals mg)(hfa:mg "law"=some (.ref fa))
  (aS:nsIn K mainGlobals "SpeakError"=some (some (.ref S)))
  (sga:specialIn K (.ref S) "__getattribute__"=some (some (.builtin "type.__getattribute__")))
  (srd:readsIn K S (.type "type")=true)
  (sfi:findCls K (.ref S) (.type "type") "__init__"=some (.val (.builtin "ValueError.__init__")))
  (sic:isClsIn K S=true)
  (sty:typeIn K (.ref S)=some (.type "type"))
  (xgt:specialIn K (.builtin "object.__class__") "__get__"=some (some (.builtin "getset_descriptor.__get__")))
  (xtk:takesIn K (.builtin "object.__class__")=some true)
  (aBT:nsIn K mainGlobals "BadText"=some (some (.ref BT)))
  (rBT:xA K BT oBT)
  (hBT:IsX oBT BT (oF S))
  (aNN:nsIn K mainGlobals "NoName"=some (some (.ref NN)))
  (rNN:xA K NN oNN)
  (hNN:IsX oNN NN (oF S))
  (aUF:nsIn K mainGlobals "Unfit"=some (some (.ref UF)))
  (rUF:xA K UF oUF)
  (hUF:IsX oUF UF (oF S))
  (aTL:nsIn K mainGlobals "TooLong"=some (some (.ref TL)))
  (rTL:xA K TL oTL)
  (hTL:IsX oTL TL (oF S))
  (aND:nsIn K mainGlobals "NotDone"=some (some (.ref ND)))
  (rND:xA K ND oND)
  (hND:IsX oND ND (oF S))
  (aNR:nsIn K mainGlobals "NoRoom"=some (some (.ref NR)))
  (rNR:xA K NR oNR)
  (hNR:IsX oNR NR (oF S))
  (aNM:nsIn K mainGlobals "NoMachine"=some (some (.ref NM)))
  (rNM:xA K NM oNM)
  (hNM:IsX oNM NM (oF S))
  (aBR:nsIn K mainGlobals "BadRow"=some (some (.ref BR)))
  (rBR:xA K BR oBR)
  (hBR:IsX oBR BR (oF S))
  (iUF:findIn K (.ref UF) "__init__"=some (some (.builtin "ValueError.__init__")))
  (nd:([BT,NN,UF,TL,ND,NR,NM,BR]:List Addr).Nodup)
  (ns:∀D∈([BT,NN,UF,TL,ND,NR,NM,BR]:List Addr),D≠S)
  (naN:findIn K (.ref NN) "name"=some none)
  (aN:findIn K (.ref NN) "__init__"=some (some (.ref fN)))
  (lN:K.lookup fN=some oN)
  (nN':qV4 oN "__init__" "NoName.__init__" sNN (.ref tN) cdN fdN)
  (cN:codeIn K cdN "NoName.__init__"=true)
  (kN:keepIn K (.ref fN)=true)
  (ltN:K.lookup tN=some otN)
  (stN:otN.data= .seq #[dN] nN)
  (tyN:typeIn K (.ref fN)=some (.type "function"))
  (hVb:Nf K "values_behind" sVB fVb fdVb)
  (hWn:Nf K "with_name" sWN fWn fdWn)
  (hLu:Nf K "looked_up" sLU fLu fdLu)
  (hNb:Nf K "names_bound" sNB fNb fdNb)
  (hOn:Nf K "outside_names" sON fOn fdOn)
  (hKo:Nf K "kind_of" sKO fKo fdKo)
  (hRq:Nf K "require" qB7 fRq fdRq)
  (hRw:Nf K "require_word" sRW fRw fdRw)
  (hCn:Nf K "cons_kind" qI5 fCn fdCn)
  (hHk:Nf K "head_kind" qI6 fHk fdHk)
  (hTk:Nf K "tail_kind" qI7 fTk fdTk)
  (hEk:Nf K "empty_kind" tU fEk fdEk)
  (hFk:Nf K "first_kind" tO fFk fdFk)
  (hSk:Nf K "second_kind" bR fSk fdSk)
  (hIk:Nf K "if_kind" sIf fIk fdIk)
  (hCk:Nf K "call_kind" qI8 fCk fdCk)
  (hLk:Nf K "let_kind" dQ fLk fdLk)
  (hNk:Nf K "fn_kind" qW3 fNk fdNk)
  (hXk:Nf K "rec_kind" dZ fXk fdXk)
  (hPk:Nf K "pair_kind" sPK fPk fdPk)
  (hFt:Nf K "fitted" tE fFt fdFt)
  (hCm:Nf K "compiled" aW fCm fdCm)
  (hOp:Nf K "operands_code" qW8 fOp fdOp)
  (hCc:Nf K "call_code" cG fCc fdCc)
  (hAi:Nf K "as_if" aY fAi fdAi)
  (hIc:Nf K "if_code" qW9 fIc fdIc)
  (hLc:Nf K "let_code" dU fLc fdLc)
  (hFc:Nf K "function_code" gO fFc fdFc)
  (hVc:Nf K "value_code" qDq fVc fdVc)
  (hCo:Nf K "code_of" oZ fCo fdCo)
  (hCe:Nf K "_law_cell" aE fCe fdCe)
  (hDr:Nf K "_law_drawn" nP fDr fdDr)
  (hLq:Nf K "_law_kind" sLK fLq fdLq)
  (hNu:Nf K "_law_number" qF7 fNu fdNu)
  (hLf:Nf K "_law_leaf" oJ fLf fdLf)
  (hBd:Nf K "_law_bound" qF8 fBd fdBd)
  (hTw:Nf K "_law_two" qY2 fTw fdTw)
  (hOf:Nf K "_law_of_kind" sOK fOf fdOf)
  (hLp:Nf K "_law_loop" iN fLp fdLp)
  (hPa:Nf K "_law_part" oX fPa fdPa)
  (hFo:Nf K "_law_form" eR fFo fdFo)
  (hO2:Nf K "_law_of_two" qH9 fO2 fdO2)
  (hO1:Nf K "_law_of_one" qHq fO1 fdO1)
  (hIb:Nf K "_law_is_bad" qHz fIb fdIb)
  (hFu:Nf K "_law_function" qYq fFu fdFu)
  (hFs:Nf K "_law_fits" gS fFs fdFs)
  (hBe:Nf K "_law_bent" oV fBe fdBe)
  (hTo:Nf K "_law_told" fQ fTo fdTo)
  (hAl:Nf K "_law_alone" nS fAl fdAl)
  (hLw:Nf K "law" qYz fLw fdLw)
  (hcd:fdLw.code= .ref CC)
  (lCC:K.lookup CC=some oCC)
  (fCC:zZq oCC TT)
  (hnt:noTabs K=true)
  (aPST:nsIn K mainGlobals "PART_SLOTS"=some (some (.ref TPS)))
  (lPST:K.lookup TPS=some OPS)
  (dPST:nV OPS (qR1.zip ([.ref pPS0,.ref pPS1,.ref pPS2,.ref pPS3,.ref pPS4,.ref pPS5,.ref pPS6,.ref pPS7,.ref pPS8,.ref pPS9,.ref pPS10,.ref pPS11,.ref pPS12,.ref pPS13,.ref pPS14,.ref pPS15,.ref pPS16,.ref pPS17,.ref pPS18,.ref pPS19,.ref pPS20,.ref pPS21,.ref pPS22]:List V)))
  (sPST:(TPS==sysModules)=false)
  (lpPS0:K.lookup pPS0=some opPS0)
  (tpPS0:jT opPS0 ((["kind"]:List Str).map V.str))
  (lpPS1:K.lookup pPS1=some opPS1)
  (tpPS1:jT opPS1 ((["part","part"]:List Str).map V.str))
  (lpPS2:K.lookup pPS2=some opPS2)
  (tpPS2:jT opPS2 ((["part"]:List Str).map V.str))
  (lpPS3:K.lookup pPS3=some opPS3)
  (tpPS3:jT opPS3 ((["part"]:List Str).map V.str))
  (lpPS4:K.lookup pPS4=some opPS4)
  (tpPS4:jT opPS4 ((["part"]:List Str).map V.str))
  (lpPS5:K.lookup pPS5=some opPS5)
  (tpPS5:jT opPS5 ((["part","part"]:List Str).map V.str))
  (lpPS6:K.lookup pPS6=some opPS6)
  (tpPS6:jT opPS6 ((["part"]:List Str).map V.str))
  (lpPS7:K.lookup pPS7=some opPS7)
  (tpPS7:jT opPS7 ((["part"]:List Str).map V.str))
  (lpPS8:K.lookup pPS8=some opPS8)
  (tpPS8:jT opPS8 ((["part","part","part"]:List Str).map V.str))
  (lpPS9:K.lookup pPS9=some opPS9)
  (tpPS9:jT opPS9 ((["name","part","part"]:List Str).map V.str))
  (lpPS10:K.lookup pPS10=some opPS10)
  (tpPS10:jT opPS10 ((["name","kind","part"]:List Str).map V.str))
  (lpPS11:K.lookup pPS11=some opPS11)
  (tpPS11:jT opPS11 ((["name","name","kind","kind","part"]:List Str).map V.str))
  (lpPS12:K.lookup pPS12=some opPS12)
  (tpPS12:jT opPS12 ((["part","part"]:List Str).map V.str))
  (lpPS13:K.lookup pPS13=some opPS13)
  (tpPS13:jT opPS13 ((["part","part"]:List Str).map V.str))
  (lpPS14:K.lookup pPS14=some opPS14)
  (tpPS14:jT opPS14 ((["part","part"]:List Str).map V.str))
  (lpPS15:K.lookup pPS15=some opPS15)
  (tpPS15:jT opPS15 ((["part","part"]:List Str).map V.str))
  (lpPS16:K.lookup pPS16=some opPS16)
  (tpPS16:jT opPS16 ((["part","part"]:List Str).map V.str))
  (lpPS17:K.lookup pPS17=some opPS17)
  (tpPS17:jT opPS17 ((["part","part"]:List Str).map V.str))
  (lpPS18:K.lookup pPS18=some opPS18)
  (tpPS18:jT opPS18 ((["part","part"]:List Str).map V.str))
  (lpPS19:K.lookup pPS19=some opPS19)
  (tpPS19:jT opPS19 ((["part","part"]:List Str).map V.str))
  (lpPS20:K.lookup pPS20=some opPS20)
  (tpPS20:jT opPS20 ((["part","part"]:List Str).map V.str))
  (lpPS21:K.lookup pPS21=some opPS21)
  (tpPS21:jT opPS21 ((["part","part"]:List Str).map V.str))
  (lpPS22:K.lookup pPS22=some opPS22)
  (tpPS22:jT opPS22 ((["part"]:List Str).map V.str))
  (aBRT:nsIn K mainGlobals "BINDING_RULES"=some (some (.ref TBR)))
  (lBRT:K.lookup TBR=some OBR)
  (dBRT:nV OBR (zW1.zip ([.ref fLk,.ref fNk,.ref fXk]:List V)))
  (sBRT:(TBR==sysModules)=false)
  (aKRT:nsIn K mainGlobals "KIND_RULES"=some (some (.ref TKR)))
  (lKRT:K.lookup TKR=some OKR)
  (dKRT:nV OKR (zZ9.zip ([.ref fCn,.ref fHk,.ref fTk,.ref fEk,.ref fFk,.ref fSk,.ref fIk,.ref fCk]:List V)))
  (sKRT:(TKR==sysModules)=false)
  (aFKT:nsIn K mainGlobals "FIXED_KINDS"=some (some (.ref TFK)))
  (lFKT:K.lookup TFK=some OFK)
  (dFKT:nV OFK (zW2.zip ([.ref pFK0,.ref pFK1,.ref pFK2,.ref pFK3,.ref pFK4,.ref pFK5,.ref pFK6,.ref pFK7,.ref pFK8,.ref pFK9,.ref pFK10,.ref pFK11]:List V)))
  (sFKT:(TFK==sysModules)=false)
  (lpFK0:K.lookup pFK0=some opFK0)
  (tpFK0:jT opFK0 ((["int"]:List Str).map V.str))
  (lpFK1:K.lookup pFK1=some opFK1)
  (tpFK1:jT opFK1 ((["bool"]:List Str).map V.str))
  (lpFK2:K.lookup pFK2=some opFK2)
  (tpFK2:jT opFK2 ((["int","int","int"]:List Str).map V.str))
  (lpFK3:K.lookup pFK3=some opFK3)
  (tpFK3:jT opFK3 ((["int","int","int"]:List Str).map V.str))
  (lpFK4:K.lookup pFK4=some opFK4)
  (tpFK4:jT opFK4 ((["int","int","int"]:List Str).map V.str))
  (lpFK5:K.lookup pFK5=some opFK5)
  (tpFK5:jT opFK5 ((["int","int","int"]:List Str).map V.str))
  (lpFK6:K.lookup pFK6=some opFK6)
  (tpFK6:jT opFK6 ((["int","int","int"]:List Str).map V.str))
  (lpFK7:K.lookup pFK7=some opFK7)
  (tpFK7:jT opFK7 ((["int","int","bool"]:List Str).map V.str))
  (lpFK8:K.lookup pFK8=some opFK8)
  (tpFK8:jT opFK8 ((["int","int","bool"]:List Str).map V.str))
  (lpFK9:K.lookup pFK9=some opFK9)
  (tpFK9:jT opFK9 ((["bool","bool","bool"]:List Str).map V.str))
  (lpFK10:K.lookup pFK10=some opFK10)
  (tpFK10:jT opFK10 ((["bool","bool","bool"]:List Str).map V.str))
  (lpFK11:K.lookup pFK11=some opFK11)
  (tpFK11:jT opFK11 ((["bool","bool"]:List Str).map V.str))
  (aPCT:nsIn K mainGlobals "PLACED_CODES"=some (some (.ref TPC)))
  (lPCT:K.lookup TPC=some OPC)
  (dPCT:nV OPC (zW3.zip ([.ref fCc,.ref fIc,.ref fIc,.ref fIc,.ref fLc]:List V)))
  (sPCT:(TPC==sysModules)=false)
  (z_zip:nsIn K mainGlobals "zip"=some none)
  (z_dict:nsIn K mainGlobals "dict"=some none)
  (z_isinstance:nsIn K mainGlobals "isinstance"=some none)
  (z_tuple:nsIn K mainGlobals "tuple"=some none)
  (z_list:nsIn K mainGlobals "list"=some none)
  (z_enumerate:nsIn K mainGlobals "enumerate"=some none)
  (z_len:nsIn K mainGlobals "len"=some none)
  (z_str:nsIn K mainGlobals "str"=some none)
  (z_int:nsIn K mainGlobals "int"=some none)
  (z_max:nsIn K mainGlobals "max"=some none)
  (z_min:nsIn K mainGlobals "min"=some none)
  (z_range:nsIn K mainGlobals "range"=some none)
  (z_ValueError:nsIn K mainGlobals "ValueError"=some none):
  ∃(fd:FuncData)(cc T:Addr),tabIn K "law"=some (cc,T)/\noTabs K=true/\(∀(s:Shared)(u:Value),BindsTo s fd ⟨[u],[]⟩ [("_law_script",u)])/\
    ∀base:Heap,K.In base->base.Ns mainGlobals mg->CodeHd base cc T->base.BuiltinsAt mg T->mainGlobals≠T->zC l.prog w K mg base (CXE l.prog w) 216 fa fd ["_law_script"] (fD K T):=by
 have e:=hfa.symm.trans (mg_of X G hLw.1)
 cases e
 have DVb:=hVb.df X G ["part","sort"] (by walk_at "b2")
 have DWn:=hWn.df X G ["scope","name","bound"] (by walk_at "b3")
 have DLu:=hLu.df X G ["scope","name"] (by walk_at "b2")
 have DNb:=hNb.df X G ["part"] (by walk_at "b1")
 have DOn:=hOn.df X G ["part"] (by walk_at "b1")
 have DKo:=hKo.df X G ["part"] (by walk_at "b1")
 have DRq:=hRq.df X G ["holds"] (by walk_at "b1")
 have DRw:=hRw.df X G ["kind","word"] (by walk_at "b2")
 have DCn:=hCn.df X G ["kinds"] (by walk_at "b1")
 have DHk:=hHk.df X G ["kinds"] (by walk_at "b1")
 have DTk:=hTk.df X G ["kinds"] (by walk_at "b1")
 have DEk:=hEk.df X G ["kinds"] (by walk_at "b1")
 have DFk:=hFk.df X G ["kinds"] (by walk_at "b1")
 have DSk:=hSk.df X G ["kinds"] (by walk_at "b1")
 have DIk:=hIk.df X G ["kinds"] (by walk_at "b1")
 have DCk:=hCk.df X G ["kinds"] (by walk_at "b1")
 have DLk:=hLk.df X G ["part","scope","pairs"] (by walk_at "b3")
 have DNk:=hNk.df X G ["part","scope","pairs"] (by walk_at "b3")
 have DXk:=hXk.df X G ["part","scope","pairs"] (by walk_at "b3")
 have DPk:=hPk.df X G ["kinds","pairs"] (by walk_at "b2")
 have DFt:=hFt.df X G ["part","scope","pairs"] (by walk_at "b3")
 have DCm:=hCm.df X G ["part"] (by walk_at "b1")
 have DOp:=hOp.df X G ["part","slots","height"] (by walk_at "b3")
 have DCc:=hCc.df X G ["part","slots","height","last"] (by walk_at "b4")
 have DAi:=hAi.df X G ["part"] (by walk_at "b1")
 have DIc:=hIc.df X G ["part","slots","height","last"] (by walk_at "b4")
 have DLc:=hLc.df X G ["part","slots","height","last"] (by walk_at "b4")
 have DFc:=hFc.df X G ["part","slots"] (by walk_at "b2")
 have DVc:=hVc.df X G ["part","slots"] (by walk_at "b2")
 have DCo:=hCo.df X G ["part","slots","height","last"] (by walk_at "b4")
 have DCe:=hCe.df X G ["_law_script","_law_k"] (by walk_at "b2")
 have DDr:=hDr.df X G ["_law_cell_here","_law_k"] (by walk_at "b2")
 have DLq:=hLq.df X G ["_law_more","_law_deep"] (by walk_at "b2")
 have DNu:=hNu.df X G ["_law_more"] (by walk_at "b1")
 have DLf:=hLf.df X G ["_law_more","_law_kind_here","_law_scope"] (by walk_at "b3")
 have DBd:=hBd.df X G ["_law_name","_law_scope"] (by walk_at "b2")
 have DTw:=hTw.df X G ["_law_script","_law_k","_law_word","_law_kinds","_law_scope","_law_deep"] (fun F=>F.binds fun _ _ _ _ _ _ s us _ hl=>by obtain⟨a0,a1,a2,a3,a4,a5,rfl⟩:=us6 hl;exact .of_eq rfl)
 have DOf:=hOf.df X G ["_law_script","_law_k","_law_kind_here","_law_scope","_law_deep","_law_more"] (fun F=>F.binds fun _ _ _ _ _ _ s us _ hl=>by obtain⟨a0,a1,a2,a3,a4,a5,rfl⟩:=us6 hl;exact .of_eq rfl)
 have DLp:=hLp.df X G ["_law_script","_law_k","_law_kind_here","_law_scope","_law_more"] (by walk_at "b5")
 have DPa:=hPa.df X G ["_law_script","_law_k","_law_kind_here","_law_scope","_law_deep"] (by walk_at "b5")
 have DFo:=hFo.df X G ["_law_kind_here","_law_word"] (by walk_at "b2")
 have DO2:=hO2.df X G ["_law_word","_law_one","_law_other"] (by walk_at "b3")
 have DO1:=hO1.df X G ["_law_word","_law_one"] (by walk_at "b2")
 have DIb:=hIb.df X G ["_law_kind_here"] (by walk_at "b1")
 have DFu:=hFu.df X G ["_law_part_here","_law_scope"] (by walk_at "b2")
 have DFs:=hFs.df X G ["_law_part_here","_law_scope"] (by walk_at "b2")
 have DBe:=hBe.df X G ["_law_part_here","_law_more"] (by walk_at "b2")
 have DTo:=hTo.df X G ["_law_rule"] (by walk_at "b1")
 have DAl:=hAl.df X G ["_law_e"] (by walk_at "b1")
 have DLw:=hLw.df X G ["_law_script"] (by walk_at "b1")
 have y_zip:=mg_none_of X G z_zip
 have y_dict:=mg_none_of X G z_dict
 have y_isinstance:=mg_none_of X G z_isinstance
 have y_tuple:=mg_none_of X G z_tuple
 have y_list:=mg_none_of X G z_list
 have y_enumerate:=mg_none_of X G z_enumerate
 have y_len:=mg_none_of X G z_len
 have y_str:=mg_none_of X G z_str
 have y_int:=mg_none_of X G z_int
 have y_max:=mg_none_of X G z_max
 have y_min:=mg_none_of X G z_min
 have y_range:=mg_none_of X G z_range
 have y_ValueError:=mg_none_of X G z_ValueError
 have xBT:=rBT.xc hBT
 have xNN:=rNN.xc hNN
 have xUF:=rUF.xc hUF
 have xTL:=rTL.xc hTL
 have xND:=rND.xc hND
 have xNR:=rNR.xc hNR
 have xNM:=rNM.xc hNM
 have xBR:=rBR.xc hBR
 have mS:=mg_of X G aS
 have mBT:=mg_of X G aBT
 have mNN:=mg_of X G aNN
 have mUF:=mg_of X G aUF
 have mTL:=mg_of X G aTL
 have mND:=mg_of X G aND
 have mNR:=mg_of X G aNR
 have mNM:=mg_of X G aNM
 have mBR:=mg_of X G aBR
 have xall:∀C∈([BT,NN,UF,TL,ND,NR,NM,BR]:List Addr),XC K C (oF S):=by
  intro C hC
  simp only[List.mem_cons,List.not_mem_nil,or_false]at hC
  rcases hC with rfl|rfl|rfl|rfl|rfl|rfl|rfl|rfl<;>assumption
 have iall:∀C∈([BT,NN,UF,TL,ND,NR,NM,BR]:List Addr),XI K C:=by
  intro C hC
  simp only[List.mem_cons,List.not_mem_nil,or_false]at hC
  rcases hC with rfl|rfl|rfl|rfl|rfl|rfl|rfl|rfl
  ·exact rBT.xi xgt xtk
  ·exact rNN.xi xgt xtk
  ·exact rUF.xi xgt xtk
  ·exact rTL.xi xgt xtk
  ·exact rND.xi xgt xtk
  ·exact rNR.xi xgt xtk
  ·exact rNM.xi xgt xtk
  ·exact rBR.xi xgt xtk
 have Cs':Cs K mg S BT NN UF TL ND NR NM BR (oF S):=⟨nd,xall,iall,fun C hC D hD=>by
   rw[bH (xall C hC) (xall D hD).isCls.1 (xall D hD).isCls.2,bP (ns D hD)],fun C hC=>by
   rw[bH (xall C hC) sic sty,qA6],fun C hC=>by
   rw[qB5 (xall C hC) (by decide+kernel)];rfl,
  mS,mBT,mNN,mUF,mTL,mND,mNR,mNM,mBR⟩
 have cNN:(Value.ref NN::oF S).contains (.ref UF)=false:=by
  rw[bP (ns UF (by simp))]
  refine decide_eq_false fun z=>?_
  rw[z]at nd
  simp at nd
 have FN:=nN'.d lN cN kN
 have bN3:Binds K fdN ["self","text","name"] []:=FN.binds fun _ _ _ _ _ _ s us X' hl=>match us,hl with |[_,_,_],_=>.of_defaults rfl (X' _ _ ltN) stN rfl rfl
 have Sp':Spk K mg S:=⟨mS,sga,srd,sfi⟩
 have Eu:EU K mg UF (oF S):=⟨xUF,iUF,mUF⟩
 have Gv:GlV K mg:=by
  refine⟨y_zip,TPS,_,mg_of X G aPST,dPST.s lPST sPST,fun wd=>?_⟩
  have hh:=iU (K:=K) (ks:=qR1) (sss:=([["kind"],["part","part"],["part"],["part"],["part"],["part","part"],["part"],["part"],["part","part","part"],["name","part","part"],["name","kind","part"],["name","name","kind","kind","part"],["part","part"],["part","part"],["part","part"],["part","part"],["part","part"],["part","part"],["part","part"],["part","part"],["part","part"],["part","part"],["part"]]:List (List Str))) (vs:=([.ref pPS0,.ref pPS1,.ref pPS2,.ref pPS3,.ref pPS4,.ref pPS5,.ref pPS6,.ref pPS7,.ref pPS8,.ref pPS9,.ref pPS10,.ref pPS11,.ref pPS12,.ref pPS13,.ref pPS14,.ref pPS15,.ref pPS16,.ref pPS17,.ref pPS18,.ref pPS19,.ref pPS20,.ref pPS21,.ref pPS22]:List V)) rfl rfl (fun i ss v e1 e2=>?_) wd
  rotate_left
  ·match i,e1,e2 with
   |0,e1,e2=>cases e1;cases e2;exact⟨_,rfl,(tpPS0.s lpPS0 (by decide))⟩
   |1,e1,e2=>cases e1;cases e2;exact⟨_,rfl,(tpPS1.s lpPS1 (by decide))⟩
   |2,e1,e2=>cases e1;cases e2;exact⟨_,rfl,(tpPS2.s lpPS2 (by decide))⟩
   |3,e1,e2=>cases e1;cases e2;exact⟨_,rfl,(tpPS3.s lpPS3 (by decide))⟩
   |4,e1,e2=>cases e1;cases e2;exact⟨_,rfl,(tpPS4.s lpPS4 (by decide))⟩
   |5,e1,e2=>cases e1;cases e2;exact⟨_,rfl,(tpPS5.s lpPS5 (by decide))⟩
   |6,e1,e2=>cases e1;cases e2;exact⟨_,rfl,(tpPS6.s lpPS6 (by decide))⟩
   |7,e1,e2=>cases e1;cases e2;exact⟨_,rfl,(tpPS7.s lpPS7 (by decide))⟩
   |8,e1,e2=>cases e1;cases e2;exact⟨_,rfl,(tpPS8.s lpPS8 (by decide))⟩
   |9,e1,e2=>cases e1;cases e2;exact⟨_,rfl,(tpPS9.s lpPS9 (by decide))⟩
   |10,e1,e2=>cases e1;cases e2;exact⟨_,rfl,(tpPS10.s lpPS10 (by decide))⟩
   |11,e1,e2=>cases e1;cases e2;exact⟨_,rfl,(tpPS11.s lpPS11 (by decide))⟩
   |12,e1,e2=>cases e1;cases e2;exact⟨_,rfl,(tpPS12.s lpPS12 (by decide))⟩
   |13,e1,e2=>cases e1;cases e2;exact⟨_,rfl,(tpPS13.s lpPS13 (by decide))⟩
   |14,e1,e2=>cases e1;cases e2;exact⟨_,rfl,(tpPS14.s lpPS14 (by decide))⟩
   |15,e1,e2=>cases e1;cases e2;exact⟨_,rfl,(tpPS15.s lpPS15 (by decide))⟩
   |16,e1,e2=>cases e1;cases e2;exact⟨_,rfl,(tpPS16.s lpPS16 (by decide))⟩
   |17,e1,e2=>cases e1;cases e2;exact⟨_,rfl,(tpPS17.s lpPS17 (by decide))⟩
   |18,e1,e2=>cases e1;cases e2;exact⟨_,rfl,(tpPS18.s lpPS18 (by decide))⟩
   |19,e1,e2=>cases e1;cases e2;exact⟨_,rfl,(tpPS19.s lpPS19 (by decide))⟩
   |20,e1,e2=>cases e1;cases e2;exact⟨_,rfl,(tpPS20.s lpPS20 (by decide))⟩
   |21,e1,e2=>cases e1;cases e2;exact⟨_,rfl,(tpPS21.s lpPS21 (by decide))⟩
   |22,e1,e2=>cases e1;cases e2;exact⟨_,rfl,(tpPS22.s lpPS22 (by decide))⟩
   |n+23,e1,e2=>simp at e1
  have eSL:SL=qR1.zip ([["kind"],["part","part"],["part"],["part"],["part"],["part","part"],["part"],["part"],["part","part","part"],["name","part","part"],["name","kind","part"],["name","name","kind","kind","part"],["part","part"],["part","part"],["part","part"],["part","part"],["part","part"],["part","part"],["part","part"],["part","part"],["part","part"],["part","part"],["part"]]:List (List Str)):=rfl
  unfold zO
  rw[eSL]
  rcases hh with⟨h1,h2⟩|⟨ss,tp,h1,h2,h3⟩
  ·exact .inl ⟨by rw[h1];rfl,h2⟩
  ·exact .inr ⟨tp,h2,by rw[h1];exact h3⟩
 have Gs:GlS K mg:=⟨y_isinstance,y_str,qR2 K⟩
 have Gi:GlI mg:=⟨y_isinstance,y_tuple⟩
 have Ga:GlA mg:=⟨y_isinstance,y_ValueError⟩
 have Gl':dF mg:=⟨y_len,y_int,y_max,y_min,y_range⟩
 have Go:GlO mg:=⟨y_enumerate,y_len,y_list⟩
 have Gc:GlC mg:=⟨y_enumerate,y_len,y_tuple⟩
 refine⟨fdLw,CC,TT,qZz hLw hcd lCC fCC,hnt,fun s v=>?_,fun base kb nb hCd hBt hgT=>?_⟩
 ·obtain⟨_,_,_,_,nLw,_,_⟩:=hLw
  obtain⟨oc,od,kV,doc,pm,an,ct,osl,rfl,rfl⟩:=nLw
  exact .of_eq rfl
 ·have GVb':=qAj (P:=l.prog) (w:=w) (base:=base) DVb.fn Gv
  have GVb:=DVb.kn GVb'
  have GRq:=DRq.kn (qB8 (P:=l.prog) (w:=w) (base:=base) DRq.fn Eu)
  have GNn:=qAq (P:=l.prog) (w:=w) (base:=base) FN Sp' xNN naN
  have En:EN l.prog w K mg base NN (oF S):=⟨xNN,mNN,_,_,GNn,aN,tyN,bN3⟩
  have GWn:=DWn.kn (qE3 (P:=l.prog) (w:=w) (base:=base) DWn.fn y_dict)
  have GLu:=DLu.kn (qB9 DLu.fn En)
  have GLv:=zQ4 GLu
  have GNb:=DNb.kn (qE1 DNb.fn GVb' DVb.at_ DVb.fn.kp DVb.bi)
  have GRw:=DRw.kn (qE4 DRw.fn Gi GRq)
  have GCn:=qW2 DCn.fn GRq
  have GHk:=qVj DHk.fn GRw
  have GTk:=qW0 DTk.fn GRw
  have GEk:=tS DEk.fn GRw
  have GFk:=tT DFk.fn GRw
  have GSk:=pP DSk.fn GRw
  have GIk:=qE7 DIk.fn GRq
  have GCk:=qW1 DCk.fn GRq GRw
  have GPk:=DPk.kn (qE9 (P:=l.prog) (w:=w) (base:=base) (mg:=mg) DPk.fn)
  have Gf:GlF l.prog w K mg base UF fLk fNk fXk:=by
   refine⟨y_list,⟨TBR,mg_of X G aBRT,dBRT.s lBRT sBRT⟩,⟨TKR,_,mg_of X G aKRT,dKRT.s lKRT sKRT,fun wd ks κ m=>yI (zZz wd (aX m)),fun wd n R m=>?_⟩,⟨TFK,_,mg_of X G aFKT,dFKT.s lFKT sFKT,fun wd ks κ m=>?_⟩⟩
   ·simp only[KR,List.mem_cons,List.not_mem_nil,or_false,Prod.mk.injEq]at m
    rcases m with⟨rfl,rfl,rfl⟩|⟨rfl,rfl,rfl⟩|⟨rfl,rfl,rfl⟩|⟨rfl,rfl,rfl⟩|⟨rfl,rfl,rfl⟩|⟨rfl,rfl,rfl⟩|⟨rfl,rfl,rfl⟩|⟨rfl,rfl,rfl⟩
    ·exact⟨jA (i:=0) (by decide+kernel) (by show 0<8;decide),fCn,zH (i:=0) (by decide+kernel) rfl,DCn.at (GCn.mono (by decide))⟩
    ·exact⟨jA (i:=1) (by decide+kernel) (by show 1<8;decide),fHk,zH (i:=1) (by decide+kernel) rfl,DHk.at (GHk.mono (by decide))⟩
    ·exact⟨jA (i:=2) (by decide+kernel) (by show 2<8;decide),fTk,zH (i:=2) (by decide+kernel) rfl,DTk.at (GTk.mono (by decide))⟩
    ·exact⟨jA (i:=3) (by decide+kernel) (by show 3<8;decide),fEk,zH (i:=3) (by decide+kernel) rfl,DEk.at (GEk.mono (by decide))⟩
    ·exact⟨jA (i:=4) (by decide+kernel) (by show 4<8;decide),fFk,zH (i:=4) (by decide+kernel) rfl,DFk.at (GFk.mono (by decide))⟩
    ·exact⟨jA (i:=5) (by decide+kernel) (by show 5<8;decide),fSk,zH (i:=5) (by decide+kernel) rfl,DSk.at (GSk.mono (by decide))⟩
    ·exact⟨jA (i:=6) (by decide+kernel) (by show 6<8;decide),fIk,zH (i:=6) (by decide+kernel) rfl,DIk.at (GIk.mono (by decide))⟩
    ·exact⟨jA (i:=7) (by decide+kernel) (by show 7<8;decide),fCk,zH (i:=7) (by decide+kernel) rfl,DCk.at (GCk.mono (by decide))⟩
   ·simp only[FX,List.mem_cons,List.not_mem_nil,or_false,Prod.mk.injEq]at m
    rcases m with⟨rfl,rfl,rfl⟩|⟨rfl,rfl,rfl⟩|⟨rfl,rfl,rfl⟩|⟨rfl,rfl,rfl⟩|⟨rfl,rfl,rfl⟩|⟨rfl,rfl,rfl⟩|⟨rfl,rfl,rfl⟩|⟨rfl,rfl,rfl⟩|⟨rfl,rfl,rfl⟩|⟨rfl,rfl,rfl⟩|⟨rfl,rfl,rfl⟩|⟨rfl,rfl,rfl⟩
    ·exact⟨_,zH (i:=0) (by decide+kernel) rfl,(tpFK0.s lpFK0 (by decide))⟩
    ·exact⟨_,zH (i:=1) (by decide+kernel) rfl,(tpFK1.s lpFK1 (by decide))⟩
    ·exact⟨_,zH (i:=2) (by decide+kernel) rfl,(tpFK2.s lpFK2 (by decide))⟩
    ·exact⟨_,zH (i:=3) (by decide+kernel) rfl,(tpFK3.s lpFK3 (by decide))⟩
    ·exact⟨_,zH (i:=4) (by decide+kernel) rfl,(tpFK4.s lpFK4 (by decide))⟩
    ·exact⟨_,zH (i:=5) (by decide+kernel) rfl,(tpFK5.s lpFK5 (by decide))⟩
    ·exact⟨_,zH (i:=6) (by decide+kernel) rfl,(tpFK6.s lpFK6 (by decide))⟩
    ·exact⟨_,zH (i:=7) (by decide+kernel) rfl,(tpFK7.s lpFK7 (by decide))⟩
    ·exact⟨_,zH (i:=8) (by decide+kernel) rfl,(tpFK8.s lpFK8 (by decide))⟩
    ·exact⟨_,zH (i:=9) (by decide+kernel) rfl,(tpFK9.s lpFK9 (by decide))⟩
    ·exact⟨_,zH (i:=10) (by decide+kernel) rfl,(tpFK10.s lpFK10 (by decide))⟩
    ·exact⟨_,zH (i:=11) (by decide+kernel) rfl,(tpFK11.s lpFK11 (by decide))⟩
  have GFt:=dD DFt DLk DNk DXk Gf GVb GRq GLu GPk GWn 50
  have GKo:=DKo.kn (zQ6 DKo.fn GFt)
  have GOn:=aA DOn Go GVb GNb
  have GAi:=DAi.kn (zQ2 (P:=l.prog) (w:=w) (base:=base) (mg:=mg) DAi.fn)
  have GVc:=DVc.kn (qF1 DVc.fn GLv)
  have GCo:=gC DCo DOp DCc DIc DLc DFc Gc (mg_of X G aPCT) (dPCT.s lPCT sPCT) GVb GNb GLv GWn GAi GVc GOn 50
  have GCm:=DCm.kn (zQ7 DCm.fn GKo GCo)
  have GCe:=DCe.kn (qY3 (P:=l.prog) (w:=w) (base:=base) DCe.fn Gl')
  have GDr:=DDr.kn (eQ (P:=l.prog) (w:=w) (base:=base) (mg:=mg) DDr.fn)
  have GNu:=DNu.kn (qF9 (P:=l.prog) (w:=w) (base:=base) (mg:=mg) DNu.fn)
  have GBd:=DBd.kn (zQj (P:=l.prog) (w:=w) (base:=base) (mg:=mg) DBd.fn)
  have GLq:=qZq (P:=l.prog) (w:=w) (base:=base) DLq
  have GLf:=qZ9 DLf Gl' GBd GNu 41
  have GPa:=mU DPa DTw DOf DLp Gl' Gs GCe GDr GLf (GLq 2) 4
  have GFo:=DFo.kn (qYj (P:=l.prog) (w:=w) (base:=base) DFo.fn Gs)
  have GIb:=DIb.kn (qP0 (P:=l.prog) (w:=w) (base:=base) DIb.fn Gs)
  have GO2:=DO2.kn (qP1 DO2.fn Gl' GFo)
  have GO1:=DO1.kn (qP2 DO1.fn Gl' GFo)
  have GFs:=mW DFs DFu Gl' GIb GBd GO1 GO2 50
  have GBe:=mY (P:=l.prog) (w:=w) (base:=base) DBe Gl' Gi 50
  have GAl:=(show Al l.prog w K mg base [BT,NN,UF,TL,ND,NR,NM,BR]from⟨_,_,qZ4 (P:=l.prog) (w:=w) (base:=base) DAl.fn Ga Cs',DAl.at_,DAl.fn.kp,DAl.bi⟩)
  exact qR0 DLw.fn hcd hCd hBt hgT Gl' Gs y_list GCe GDr (GLq 3) GPa GBe GFs GIb GKo GCm DTo Cs' cNN naN GAl
theorem walk{l:OpenLaw}{q:Program}{loose:List Str}{XP:(Str->Option Value)->Heap->Prop}{YP:World->Heap->Prop}{d:DefRec}{K:Params->Frag}(hn:l.most=some 63)(hdf:d.params.defaults=[])(hrec:(PyProof.Rows.recsOf q).find? (fun e=>e.name==d.name)=some d)
  (hY:∀(w:World)(h:Heap),YP w h->(K w.params).In h)
  (F:∀(w:World)(mg:Str->Option Value)(fa:Addr)(h:Heap),(K w.params).In h->h.Ns mainGlobals mg->mg d.name=some (.ref fa)->
   ∃(fd:FuncData)(cc T:Addr),tabIn (K w.params) d.name=some (cc,T)/\noTabs (K w.params)=true/\(∀(s:Shared)(u:Value),BindsTo s fd ⟨[u],[]⟩ [("_law_script",u)])/\
    ∀base:Heap,(K w.params).In base->base.Ns mainGlobals mg->CodeHd base cc T->base.BuiltinsAt mg T->mainGlobals≠T->zC l.prog w (K w.params) mg base (CXE l.prog w) 216 fa fd ["_law_script"] (fD (K w.params) T)):
  WalkO q loose XP YP l.row.toRowW d [] (fun f vs=>PySem.call f vs):=
 L2.qP9 (n:=63) (k:=216) (x:="_law_script") (sp:=fun w T=>fD (K w.params) T) hn (by decide) hdf ⟨rfl,by decide,by decide⟩ hrec hY F fun _ _ a T ns hl e hS=>⟨a,ns,rfl,e,hS,hl,fun _=>rfl⟩
end K14
open PySem PySem.W PyProof.Rows
set_option maxRecDepth 100000 in
set_option maxHeartbeats 0 in
theorem PySem.Challenge.cw_plainspeak_k14_kinds_that_dont_fit_holds : PySem.Challenge.rw_plainspeak_k14_kinds_that_dont_fit.Holds := by
 w_on;o_law;k_head;(case hw=>w_witness2)
 k_fill
 refine K14.walk (l:=PySem.Challenge.rw_plainspeak_k14_kinds_that_dont_fit) rfl rfl rfl (fun w h Y=>PySem.W.km_in_of Y) ?F
 case F=>
  intro w mg fa h KX G hmg
  refine' K14.all_mk KX G hmg ?aS ?sga ?srd ?sfi ?sic ?sty ?xgt ?xtk ?aBT ?rBT ?hBT ?aNN ?rNN ?hNN ?aUF ?rUF ?hUF ?aTL ?rTL ?hTL ?aND ?rND ?hND ?aNR ?rNR ?hNR ?aNM ?rNM ?hNM ?aBR ?rBR ?hBR ?iUF ?nd ?ns ?naN ?aN ?lN ?nN' ?cN ?kN ?ltN ?stN ?tyN ?hVb ?hWn ?hLu ?hNb ?hOn ?hKo ?hRq ?hRw ?hCn ?hHk ?hTk ?hEk ?hFk ?hSk ?hIk ?hCk ?hLk ?hNk ?hXk ?hPk ?hFt ?hCm ?hOp ?hCc ?hAi ?hIc ?hLc ?hFc ?hVc ?hCo ?hCe ?hDr ?hLq ?hNu ?hLf ?hBd ?hTw ?hOf ?hLp ?hPa ?hFo ?hO2 ?hO1 ?hIb ?hFu ?hFs ?hBe ?hTo ?hAl ?hLw ?hcd ?lCC ?fCC ?hnt ?aPST ?lPST ?dPST ?sPST ?lpPS0 ?tpPS0 ?lpPS1 ?tpPS1 ?lpPS2 ?tpPS2 ?lpPS3 ?tpPS3 ?lpPS4 ?tpPS4 ?lpPS5 ?tpPS5 ?lpPS6 ?tpPS6 ?lpPS7 ?tpPS7 ?lpPS8 ?tpPS8 ?lpPS9 ?tpPS9 ?lpPS10 ?tpPS10 ?lpPS11 ?tpPS11 ?lpPS12 ?tpPS12 ?lpPS13 ?tpPS13 ?lpPS14 ?tpPS14 ?lpPS15 ?tpPS15 ?lpPS16 ?tpPS16 ?lpPS17 ?tpPS17 ?lpPS18 ?tpPS18 ?lpPS19 ?tpPS19 ?lpPS20 ?tpPS20 ?lpPS21 ?tpPS21 ?lpPS22 ?tpPS22 ?aBRT ?lBRT ?dBRT ?sBRT ?aKRT ?lKRT ?dKRT ?sKRT ?aFKT ?lFKT ?dFKT ?sFKT ?lpFK0 ?tpFK0 ?lpFK1 ?tpFK1 ?lpFK2 ?tpFK2 ?lpFK3 ?tpFK3 ?lpFK4 ?tpFK4 ?lpFK5 ?tpFK5 ?lpFK6 ?tpFK6 ?lpFK7 ?tpFK7 ?lpFK8 ?tpFK8 ?lpFK9 ?tpFK9 ?lpFK10 ?tpFK10 ?lpFK11 ?tpFK11 ?aPCT ?lPCT ?dPCT ?sPCT ?z_zip ?z_dict ?z_isinstance ?z_tuple ?z_list ?z_enumerate ?z_len ?z_str ?z_int ?z_max ?z_min ?z_range ?z_ValueError
  (case aS|sga|srd|sfi|sic|sty|xgt|xtk|aBT=>k_is)
  (case rBT=>(constructor<;>k_is))
  (case hBT=>exact⟨_,_,_,_,_,_,_,_,_,_,_,_,_,_,rfl⟩)
  (case aNN=>k_is)
  (case rNN=>(constructor<;>k_is))
  (case hNN=>exact⟨_,_,_,_,_,_,_,_,_,_,_,_,_,_,rfl⟩)
  (case aUF=>k_is)
  (case rUF=>(constructor<;>k_is))
  (case hUF=>exact⟨_,_,_,_,_,_,_,_,_,_,_,_,_,_,rfl⟩)
  (case aTL=>k_is)
  (case rTL=>(constructor<;>k_is))
  (case hTL=>exact⟨_,_,_,_,_,_,_,_,_,_,_,_,_,_,rfl⟩)
  (case aND=>k_is)
  (case rND=>(constructor<;>k_is))
  (case hND=>exact⟨_,_,_,_,_,_,_,_,_,_,_,_,_,_,rfl⟩)
  (case aNR=>k_is)
  (case rNR=>(constructor<;>k_is))
  (case hNR=>exact⟨_,_,_,_,_,_,_,_,_,_,_,_,_,_,rfl⟩)
  (case aNM=>k_is)
  (case rNM=>(constructor<;>k_is))
  (case hNM=>exact⟨_,_,_,_,_,_,_,_,_,_,_,_,_,_,rfl⟩)
  (case aBR=>k_is)
  (case rBR=>(constructor<;>k_is))
  (case hBR=>exact⟨_,_,_,_,_,_,_,_,_,_,_,_,_,_,rfl⟩)
  (case iUF=>k_is)
  (case nd|ns=>decide)
  (case naN|aN|lN=>k_is)
  (case nN'=>exact⟨_,_,_,_,_,_,_,_,rfl,rfl⟩)
  (case cN|kN|ltN=>k_is)
  (case stN=>rfl)
  (case tyN=>k_is)
  (case hVb|hWn|hLu|hNb|hOn|hKo|hRq|hRw|hCn|hHk|hTk|hEk|hFk|hSk|hIk|hCk|hLk|hNk|hXk|hPk|hFt|hCm|hOp|hCc|hAi|hIc|hLc|hFc|hVc|hCo|hCe|hDr|hLq|hNu|hLf|hBd|hTw|hOf|hLp|hPa|hFo|hO2|hO1|hIb|hFu|hFs|hBe|hTo|hAl|hLw=>refine⟨?_,?_⟩;k_is;apply Exists.intro;apply Exists.intro;refine⟨?_,?_,?_,?_⟩;k_is;exact⟨_,_,_,_,_,_,_,_,rfl,rfl⟩;k_is;k_is)
  (case hcd=>rfl)
  (case lCC=>k_is)
  (case fCC=>exact⟨_,_,_,_,rfl,rfl⟩)
  (case hnt=>kernel_rfl)
  (case aPST|lPST=>k_is)
  (case dPST=>exact⟨⟨rfl,rfl,rfl⟩,_,_,rfl,.cons rfl rfl (.cons rfl rfl (.cons rfl rfl (.cons rfl rfl (.cons rfl rfl (.cons rfl rfl (.cons rfl rfl (.cons rfl rfl (.cons rfl rfl (.cons rfl rfl (.cons rfl rfl (.cons rfl rfl (.cons rfl rfl (.cons rfl rfl (.cons rfl rfl (.cons rfl rfl (.cons rfl rfl (.cons rfl rfl (.cons rfl rfl (.cons rfl rfl (.cons rfl rfl (.cons rfl rfl (.cons rfl rfl .nil))))))))))))))))))))))⟩)
  (case sPST=>decide)
  (case lpPS0=>k_is)
  (case tpPS0=>exact⟨rfl,_,_,rfl,.cons ⟨_,rfl⟩ .nil⟩)
  (case lpPS1=>k_is)
  (case tpPS1=>exact⟨rfl,_,_,rfl,.cons ⟨_,rfl⟩ (.cons ⟨_,rfl⟩ .nil)⟩)
  (case lpPS2=>k_is)
  (case tpPS2=>exact⟨rfl,_,_,rfl,.cons ⟨_,rfl⟩ .nil⟩)
  (case lpPS3=>k_is)
  (case tpPS3=>exact⟨rfl,_,_,rfl,.cons ⟨_,rfl⟩ .nil⟩)
  (case lpPS4=>k_is)
  (case tpPS4=>exact⟨rfl,_,_,rfl,.cons ⟨_,rfl⟩ .nil⟩)
  (case lpPS5=>k_is)
  (case tpPS5=>exact⟨rfl,_,_,rfl,.cons ⟨_,rfl⟩ (.cons ⟨_,rfl⟩ .nil)⟩)
  (case lpPS6=>k_is)
  (case tpPS6=>exact⟨rfl,_,_,rfl,.cons ⟨_,rfl⟩ .nil⟩)
  (case lpPS7=>k_is)
  (case tpPS7=>exact⟨rfl,_,_,rfl,.cons ⟨_,rfl⟩ .nil⟩)
  (case lpPS8=>k_is)
  (case tpPS8=>exact⟨rfl,_,_,rfl,.cons ⟨_,rfl⟩ (.cons ⟨_,rfl⟩ (.cons ⟨_,rfl⟩ .nil))⟩)
  (case lpPS9=>k_is)
  (case tpPS9=>exact⟨rfl,_,_,rfl,.cons ⟨_,rfl⟩ (.cons ⟨_,rfl⟩ (.cons ⟨_,rfl⟩ .nil))⟩)
  (case lpPS10=>k_is)
  (case tpPS10=>exact⟨rfl,_,_,rfl,.cons ⟨_,rfl⟩ (.cons ⟨_,rfl⟩ (.cons ⟨_,rfl⟩ .nil))⟩)
  (case lpPS11=>k_is)
  (case tpPS11=>exact⟨rfl,_,_,rfl,.cons ⟨_,rfl⟩ (.cons ⟨_,rfl⟩ (.cons ⟨_,rfl⟩ (.cons ⟨_,rfl⟩ (.cons ⟨_,rfl⟩ .nil))))⟩)
  (case lpPS12=>k_is)
  (case tpPS12=>exact⟨rfl,_,_,rfl,.cons ⟨_,rfl⟩ (.cons ⟨_,rfl⟩ .nil)⟩)
  (case lpPS13=>k_is)
  (case tpPS13=>exact⟨rfl,_,_,rfl,.cons ⟨_,rfl⟩ (.cons ⟨_,rfl⟩ .nil)⟩)
  (case lpPS14=>k_is)
  (case tpPS14=>exact⟨rfl,_,_,rfl,.cons ⟨_,rfl⟩ (.cons ⟨_,rfl⟩ .nil)⟩)
  (case lpPS15=>k_is)
  (case tpPS15=>exact⟨rfl,_,_,rfl,.cons ⟨_,rfl⟩ (.cons ⟨_,rfl⟩ .nil)⟩)
  (case lpPS16=>k_is)
  (case tpPS16=>exact⟨rfl,_,_,rfl,.cons ⟨_,rfl⟩ (.cons ⟨_,rfl⟩ .nil)⟩)
  (case lpPS17=>k_is)
  (case tpPS17=>exact⟨rfl,_,_,rfl,.cons ⟨_,rfl⟩ (.cons ⟨_,rfl⟩ .nil)⟩)
  (case lpPS18=>k_is)
  (case tpPS18=>exact⟨rfl,_,_,rfl,.cons ⟨_,rfl⟩ (.cons ⟨_,rfl⟩ .nil)⟩)
  (case lpPS19=>k_is)
  (case tpPS19=>exact⟨rfl,_,_,rfl,.cons ⟨_,rfl⟩ (.cons ⟨_,rfl⟩ .nil)⟩)
  (case lpPS20=>k_is)
  (case tpPS20=>exact⟨rfl,_,_,rfl,.cons ⟨_,rfl⟩ (.cons ⟨_,rfl⟩ .nil)⟩)
  (case lpPS21=>k_is)
  (case tpPS21=>exact⟨rfl,_,_,rfl,.cons ⟨_,rfl⟩ (.cons ⟨_,rfl⟩ .nil)⟩)
  (case lpPS22=>k_is)
  (case tpPS22=>exact⟨rfl,_,_,rfl,.cons ⟨_,rfl⟩ .nil⟩)
  (case aBRT|lBRT=>k_is)
  (case dBRT=>exact⟨⟨rfl,rfl,rfl⟩,_,_,rfl,.cons rfl rfl (.cons rfl rfl (.cons rfl rfl .nil))⟩)
  (case sBRT=>decide)
  (case aKRT|lKRT=>k_is)
  (case dKRT=>exact⟨⟨rfl,rfl,rfl⟩,_,_,rfl,.cons rfl rfl (.cons rfl rfl (.cons rfl rfl (.cons rfl rfl (.cons rfl rfl (.cons rfl rfl (.cons rfl rfl (.cons rfl rfl .nil)))))))⟩)
  (case sKRT=>decide)
  (case aFKT|lFKT=>k_is)
  (case dFKT=>exact⟨⟨rfl,rfl,rfl⟩,_,_,rfl,.cons rfl rfl (.cons rfl rfl (.cons rfl rfl (.cons rfl rfl (.cons rfl rfl (.cons rfl rfl (.cons rfl rfl (.cons rfl rfl (.cons rfl rfl (.cons rfl rfl (.cons rfl rfl (.cons rfl rfl .nil)))))))))))⟩)
  (case sFKT=>decide)
  (case lpFK0=>k_is)
  (case tpFK0=>exact⟨rfl,_,_,rfl,.cons ⟨_,rfl⟩ .nil⟩)
  (case lpFK1=>k_is)
  (case tpFK1=>exact⟨rfl,_,_,rfl,.cons ⟨_,rfl⟩ .nil⟩)
  (case lpFK2=>k_is)
  (case tpFK2=>exact⟨rfl,_,_,rfl,.cons ⟨_,rfl⟩ (.cons ⟨_,rfl⟩ (.cons ⟨_,rfl⟩ .nil))⟩)
  (case lpFK3=>k_is)
  (case tpFK3=>exact⟨rfl,_,_,rfl,.cons ⟨_,rfl⟩ (.cons ⟨_,rfl⟩ (.cons ⟨_,rfl⟩ .nil))⟩)
  (case lpFK4=>k_is)
  (case tpFK4=>exact⟨rfl,_,_,rfl,.cons ⟨_,rfl⟩ (.cons ⟨_,rfl⟩ (.cons ⟨_,rfl⟩ .nil))⟩)
  (case lpFK5=>k_is)
  (case tpFK5=>exact⟨rfl,_,_,rfl,.cons ⟨_,rfl⟩ (.cons ⟨_,rfl⟩ (.cons ⟨_,rfl⟩ .nil))⟩)
  (case lpFK6=>k_is)
  (case tpFK6=>exact⟨rfl,_,_,rfl,.cons ⟨_,rfl⟩ (.cons ⟨_,rfl⟩ (.cons ⟨_,rfl⟩ .nil))⟩)
  (case lpFK7=>k_is)
  (case tpFK7=>exact⟨rfl,_,_,rfl,.cons ⟨_,rfl⟩ (.cons ⟨_,rfl⟩ (.cons ⟨_,rfl⟩ .nil))⟩)
  (case lpFK8=>k_is)
  (case tpFK8=>exact⟨rfl,_,_,rfl,.cons ⟨_,rfl⟩ (.cons ⟨_,rfl⟩ (.cons ⟨_,rfl⟩ .nil))⟩)
  (case lpFK9=>k_is)
  (case tpFK9=>exact⟨rfl,_,_,rfl,.cons ⟨_,rfl⟩ (.cons ⟨_,rfl⟩ (.cons ⟨_,rfl⟩ .nil))⟩)
  (case lpFK10=>k_is)
  (case tpFK10=>exact⟨rfl,_,_,rfl,.cons ⟨_,rfl⟩ (.cons ⟨_,rfl⟩ (.cons ⟨_,rfl⟩ .nil))⟩)
  (case lpFK11=>k_is)
  (case tpFK11=>exact⟨rfl,_,_,rfl,.cons ⟨_,rfl⟩ (.cons ⟨_,rfl⟩ .nil)⟩)
  (case aPCT|lPCT=>k_is)
  (case dPCT=>exact⟨⟨rfl,rfl,rfl⟩,_,_,rfl,.cons rfl rfl (.cons rfl rfl (.cons rfl rfl (.cons rfl rfl (.cons rfl rfl .nil))))⟩)
  (case sPCT=>decide)
  (case z_zip|z_dict|z_isinstance|z_tuple|z_list|z_enumerate|z_len|z_str|z_int|z_max|z_min|z_range|z_ValueError=>k_is)
