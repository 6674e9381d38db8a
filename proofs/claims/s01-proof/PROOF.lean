import PyProof.Rows.All
import Wide.All
import OpenK.AllK
import Wide.FinOn
import PyProof.EqAt
import PyProof.EqKinds
import PyProof.TupleCall
import KE.BitLaws
import Open.SpecLaws
import KE.OsHead
import KE.OsGo
import PyWqdrme
import KE.KDictSum
import KE.KDictLaws
import PyProof.Rows.SortShellAny
import PyProof.Draws
import KE.KMinKey
import PySem.Challenge.RW_drumback_s01_answers
set_option Elab.async false
set_option linter.all false
set_option maxRecDepth 100000
set_option maxHeartbeats 4000000
set_option genSizeOf false
set_option compiler.extract_closed false
section
open PySem PySem.W PyProof.Rows
namespace PySem.W.Fast
theorem V:True:=⟨⟩
def tw88883318806802401:=V
def tw11894218286098021239:=V
def tw13009368966044354552:=V
def tw9090867557223338393:=V
def tw2523333746546072816:=V
def tw16947219661792083208:=V
def tw4702296229067322194:=V
def tw10524497686973669989:=V
def tw17402347704405038620:=V
def tw8184425756428504685:=V
def tw13752303481382339859:=V
def tw13606558505125030579:=V
def tw5155482715675640133:=V
def tw4611239385313958937:=V
def tw6012657815180158718:=V
def tw6300674021947948058:=V
def tw17984867289410530564:=V
def tw7471576425108506736:=V
def tw7715777401451347054:=V
def tw6195020963949044072:=V
def tw10768029275746288395:=V
def tw4395833012063874165:=V
def tw14015943538618520549:=V
def tw9302585975304539901:=V
def tw1824410601274059405:=V
def tw5779712921090883737:=V
def tw11503355718463894424:=V
def tw394355596428923641:=V
def tw15006631454416688188:=V
def tw13861943433058217471:=V
def tw13805725714764287768:=V
def tw10544108584255801925:=V
def tw6680907828540584578:=V
def tw1759137789724773821:=V
def tw1527105546080130631:=V
def tw7562825893327744417:=V
def tw1636385842677036217:=V
def tw8720355427905757305:=V
def tw15715349475133824412:=V
def tw11209436387417404721:=V
def tw14183363875353553490:=V
def tw12709478653342845767:=V
def tw17911273558746718997:=V
def tw15467663724209223942:=V
def tw4626345755856437731:=V
def tw9492655606908430298:=V
def tw9487933123745342597:=V
def tw17751852456358656473:=V
def tw4949792021300851184:=V
def tw11079622595915387475:=V
def tw17608626240009453360:=V
def tw16917729641318354076:=V
def tw10689115168842407937:=V
def tw7657660700995032282:=V
def tw10801489880239912938:=V
def tw1342763620586440799:=V
def tw3620981869845444936:=V
def tw9700358376495229347:=V
def tw1389970254763079014:=V
def tw12234430001941936420:=V
def tw16026829341418002214:=V
def tw13299701168804332916:=V
def tw18105248596604634254:=V
def tw9814138196153423125:=V
def tw6960000781819665127:=V
def tw3548621448849711774:=V
def tw1445986555617813417:=V
def tw18350931840802438363:=V
def tw11715131983675754098:=V
def tw12925096539483562615:=V
def tw11890185404662155511:=V
def tw15779596483312825509:=V
def tw2675006470463154967:=V
def tw1118455381438544373:=V
def tw4829056271409961961:=V
def tw6828738136589117639:=V
def tw4897075041638538485:=V
def tw2056949456058897464:=V
def tw1384891928774533088:=V
def tw3700264474484538885:=V
def tw345123214009340663:=V
def tw9287716311568435111:=V
def tw15740745686746995224:=V
def tw3040338957406703219:=V
def tw11224971729874691669:=V
def tw15644377111496976366:=V
def tw13819171813583800435:=V
def tw9539482386211277475:=V
def tw8787093278593774242:=V
def tw5011203843515324268:=V
def tw15952494633262437092:=V
def tw9778267977981081526:=V
def tw16507861131843912783:=V
def tw8961351736955615308:=V
def tw5836634267805740482:=V
def tw4274654090320789247:=V
def tw2186144598601459045:=V
def tw11544779869535156613:=V
def tw18029563857181713538:=V
def tw2789964480300200566:=V
def tw12308493597407831166:=V
def tw14743321056225188398:=V
def tw10230522604585964633:=V
def tw11427961345073806293:=V
def tw13700616526518542560:=V
def tw16622796188699386934:=V
def tw6634118480784813987:=V
def tw15524449330437382674:=V
def tw1386289655360176166:=V
def tw17869315855829577179:=V
def tw11888429664146219031:=V
def tw14025376744175411161:=V
def tw8318356496695814623:=V
def tw14625495815268928184:=V
def tw16457755483343251093:=V
def tw1189748906044956658:=V
def tw7263594260134620559:=V
def tw15546002490314237712:=V
def tw10102509003974892558:=V
def tw13284694414156159122:=V
def tw14057678969307583024:=V
def tw7664281571161839333:=V
def tw489923794404529184:=V
def tw15782099336185912942:=V
def tw5500916846187560159:=V
def tw6343207787848211073:=V
def tw11573727378685733567:=V
def tw12617671812270069691:=V
def tw1309005618498801599:=V
def tw12243624215412419692:=V
def tw986758525483390798:=V
def tw9905146108512822641:=V
def tw16325308442201981676:=V
def tw5550179287818306167:=V
def tw18190904763176885616:=V
def tw13209317672277919202:=V
def tw7306783860347492648:=V
def tw7963227738165258870:=V
def tw11228025043547505672:=V
def tw11634520849814634087:=V
def tw15715409498318899771:=V
def tw7934335889841587253:=V
def tw3993130622017238970:=V
def tw6791931548654002250:=V
def tw474973252550617745:=V
def tw14390046076867987122:=V
def tw8444565009123716010:=V
def tw7671971219044284710:=V
def tw3234206746132382345:=V
def tw3850112921750918254:=V
def tw12812995679842154341:=V
def tw12042028116827895051:=V
def tw15675804966110779797:=V
def tw12801190161435555160:=V
def tw4939066972454943314:=V
def tw2938735213922076734:=V
def tw16990656637258066573:=V
def tw9055211871541037698:=V
def tw8417405690812974083:=V
def tw13746699066407854215:=V
def tw9137690005344116541:=V
def tw11342669446801638564:=V
def tw3452592286636528735:=V
def tw4620382962465536654:=V
def tw2931606080158031469:=V
def tw7051353452746284195:=V
def tw2467692728588256828:=V
def tw6270070810268879682:=V
def tw7019551155245507204:=V
def tw1814836793416977353:=V
def tw10165859450096383661:=V
def tw1811120225807131244:=V
def tw3503090038244579469:=V
def tw14560226696775652871:=V
def tw14232061088065486460:=V
def tw13768990919636841973:=V
def tw4847388224332333357:=V
def tw13292565947890544887:=V
def tw12204810630839414257:=V
def tw2973327464495904253:=V
def tw15940007388607061875:=V
def tw838183565589817347:=V
def tw18013418934270348595:=V
def tw2808894280216210713:=V
def tw11708504536895311370:=V
def tw9464327299648392600:=V
def tw1821056778956079876:=V
def tw13022238205952779017:=V
def tw12015950741338669400:=V
def tw17911452650163123093:=V
def tw6502538355153695694:=V
def tw9385361152867430374:=V
def tw3234346815449822874:=V
def tw15514896711095909692:=V
def tw13353809322401542278:=V
def tw3852329193177297170:=V
def tw2184145389813133008:=V
def tw13843048291095481031:=V
def tw850321343311774329:=V
def tw13617285447686160863:=V
def tw10449910599302821083:=V
def tw16553393404863850456:=V
def tw12224267157746954527:=V
def tw7024611713213873087:=V
def tw15793101303632351281:=V
def tw16320265423416586259:=V
def tw10131443729290439709:=V
def tw3577196810754288338:=V
def tw17688987944734596486:=V
def tw9686919247258776599:=V
def tw4670077769577027910:=V
def tw3668956142615518455:=V
def tw7803190810598309935:=V
def tw3233416179625276381:=V
def tw536978494274873733:=V
def tw9800437762535500020:=V
def tw12447273000120672832:=V
def tw6031801450146287866:=V
def tw14908685537482076794:=V
def tw7061132055050778992:=V
def tw4549136226418685809:=V
def tw6504473872918501402:=V
def tw10625293751093833756:=V
def tw16545897233959880905:=V
def tw17787952494964854669:=V
def tw619582484904598657:=V
def tw14714740346358883694:=V
def tw4233639158996848821:=V
def tw16953223452862051989:=V
def tw16930164031762448747:=V
def tw15839118266093127993:=V
def tw12297003403596844827:=V
def tw15091958097626439408:=V
def tw5108734988535320914:=V
def tw3929647866682455569:=V
def tw13212513662577776804:=V
def tw17900212080343400025:=V
def tw9487816181099854243:=V
def tw3322094292190899670:=V
def tw13443041561731842458:=V
def tw17083939180363384873:=V
def tw10357008320929727311:=V
def tw266043005185604891:=V
def tw2268158195917288555:=V
def tw9085115642560576728:=V
def tw9028143900733279788:=V
def tw14751369575055239397:=V
def tw7501198255154257616:=V
def tw6035495101455372012:=V
def tw12461029799761337601:=V
def tw9406493754987863420:=V
def tw10980303655814010770:=V
def tw13411754101882767602:=V
def tw8909460397616735346:=V
def tw2077912130661847055:=V
def tw18004105148699913131:=V
def tw15721369554863130644:=V
def tw14714217661255348208:=V
def tw8509945138742420966:=V
def tw5493185612277528801:=V
def tw17323373169716435927:=V
def tw9706711337917725114:=V
def tw15151983371466915350:=V
def tw13992890155351825218:=V
def tw12952514966293633068:=V
def tw602077610222031294:=V
def tw12596507195798995044:=V
def tw9658768324776561046:=V
def tw3866722025039064481:=V
def tw521601191421639758:=V
def tw16390367616177443035:=V
def tw13765755728689785867:=V
def tw14800630130909022689:=V
def tw7649967432363526366:=V
def tw6218478817597472848:=V
def tw15397187912620540958:=V
def tw2066226922745453933:=V
def tw1223304861623111341:=V
def tw5220128751245215685:=V
def tw5860787703943848144:=V
def tw7725046006576427895:=V
def tw15538825702016379323:=V
def tw6675916061738576347:=V
def tw15686276669524355360:=V
def tw553807880925888590:=V
def tw5651662904772991615:=V
def tw878550144952124199:=V
def tw9175442531000341152:=V
def tw17295318862128022562:=V
def tw15398038247426128961:=V
def tw7661510856350181627:=V
def tw17756013116050947598:=V
def tw17366395714378050385:=V
def tw12521035364927625310:=V
def tw5896378381848622148:=V
def tw17541946611668763208:=V
def tw8768534821219616963:=V
def tw15201127045996037675:=V
def tw8273043405941393303:=V
def tw11743711616920266001:=V
def tw220910816901968649:=V
def tw9199013402456452631:=V
def tw10903325380773987336:=V
def tw825922252228746934:=V
def tw10868982867929097415:=V
def tw14095382250976733377:=V
def tw69091611707605728:=V
def tw14499282523015357243:=V
def tw17301993035925065741:=V
def tw15960267164636118307:=V
def tw8472694679457897791:=V
def tw9568677342794082634:=V
def tw15880243055476103977:=V
def tw9363592498388434485:=V
def tw14147644967007602889:=V
def tw7506671260067446500:=V
def tw6202621214470348260:=V
def tw14551213087495663264:=V
def tw13399061134215790546:=V
def tw5529690921103396249:=V
def tw12229637188468857129:=V
def tw3325340747743023129:=V
def tw16073347631123635938:=V
def tw2299042502977906600:=V
def tw5163603613688291448:=V
def tw5755034309942402984:=V
def tw9034351059321514293:=V
def tw3144162450769354496:=V
def tw14259667288972812722:=V
def tw10605950478151082703:=V
def tw385637260769293916:=V
def tw4451123464182068221:=V
def tw14926060091961864287:=V
def tw7939264756480999557:=V
def tw12080555625085471296:=V
def tw6312582975701423914:=V
def tw17378965601541255313:=V
def tw12055616716069322218:=V
def tw1840195549613680177:=V
def tw10415242133318227539:=V
def tw5383119540138916965:=V
def tw17410310536329691449:=V
def tw2923879380746613990:=V
def tw18279056214052615695:=V
def tw14168733748618617532:=V
def tw4314595620140544038:=V
def tw16116358700292526159:=V
def tw747406253300294581:=V
def tw13383450037748488770:=V
def tw14837402705781883327:=V
def tw4715996742806224074:=V
def tw10236117714526934876:=V
def tw5493335718224122364:=V
def tw1535161490588887123:=V
def tw1880919928828790763:=V
def tw382670909426682986:=V
def tw13400834046694399698:=V
def tw6141668271216472801:=V
def tw11062459445821851758:=V
def tw16878698597339393100:=V
def tw15734810810485496788:=V
def tw9726159818684986348:=V
def tw81516991857470224:=V
def tw15102816016868540897:=V
def tw5656179735912033859:=V
def tw3852655541024039942:=V
def tw2534310138094373906:=V
def tw7363077465314796214:=V
def tw5667286803624836604:=V
def tw2672362028929667955:=V
def tw3198378338907021824:=V
def tw7370416374034700038:=V
def tw9412498270889583790:=V
def tw3494564790153845382:=V
def tw13067631954086142483:=V
def tw6250892933647400200:=V
def tw10047617327283121169:=V
def tw362296348001439125:=V
def tw10700747331639609582:=V
def tw6740740407294420725:=V
def tw18345908586721442327:=V
def tw3066016350326297993:=V
def tw12276882211104849984:=V
def tw7996697552515322498:=V
def tw8859965719085587156:=V
def tw1710513063436005931:=V
def tw653587007557934004:=V
def tw15348505920186428327:=V
def tw15830785417849782863:=V
def tw3496219529090039729:=V
def tw15535090132242802506:=V
def tw12851630111233297818:=V
def tw3116326049323363319:=V
def tw11340188097441703121:=V
def tw9177067247498596605:=V
def tw15470339474662922136:=V
def tw17240626620579692109:=V
def tw14181313541203362389:=V
def tw16192349475698247939:=V
def tw5462025453708902449:=V
def tw2906338826338409870:=V
def tw8329585154280469801:=V
def tw13861472505162555925:=V
def tw2412841421294023239:=V
def tw13959627834392357497:=V
def tw16687954500897121276:=V
def tw17629036107650182657:=V
def tw12194041035026564083:=V
def tw17010389732378396108:=V
def tw9409564585986830900:=V
def tw12523444461760240717:=V
def tw5359891629573489183:=V
def tw1816649418092805799:=V
def tw5846790902433758254:=V
def tw2347602052272627542:=V
def tw10001003446009856851:=V
def tw4296544806006883482:=V
def tw4411989760057234304:=V
def tw10826976551423410608:=V
def tw17470620955399936150:=V
def tw7282758162789583312:=V
def tw17952553574109916973:=V
def tw10932283684524895494:=V
def tw1143449803791759577:=V
def tw3197425021825268592:=V
def tw12248605248962759068:=V
def tw1276617924135389822:=V
def tw5479028667440893073:=V
def tw3293543457139576626:=V
def tw9537038583517214074:=V
def tw11085317863154861661:=V
def tw6891805706865824770:=V
def tw2961628030749219125:=V
def tw8488700631847014263:=V
def tw17933729032041326448:=V
def tw13050237776501863280:=V
def tw15930764966473584339:=V
def tw7511832125496584798:=V
def tw7270401482549416538:=V
def tw6842211909658644877:=V
end PySem.W.Fast
local macro_rules|`(tactic|o_law)=>`(tactic|skip)
local macro_rules|`(tactic|k_head)=>`(tactic|k_headS)
local macro_rules|`(tactic|w_witness2)=>`(tactic|exact ⟨[.list [.int 6]],by decide +kernel,by decide +kernel⟩)
local macro_rules|`(tactic|rfl)=>`(tactic|exact .trans (b:=defOf {Challenge.pw_drumback_s01_answers with main.body:=Challenge.pw_drumback_s01_answers.main.body.drop 177} Challenge.nm_drumback_s01_answers) (by kernel_rfl) (by eq_refl))
lay_quick wideGood expectedOf
set_option maxHeartbeats 0 in
open_top My.hd for PySem.Challenge.rw_drumback_s01_answers
end
noncomputable section
theorem Z{α:Sort u}{a:α}:a=a:=rfl
namespace DM
open Drum
theorem HY(h:¬-10000000000<n):isWord n=false:=by unfold isWord TEN;exact decide_eq_false (by omega)
theorem HX(h:-10000000000<n):isWord n=decide (n<10000000000):=by unfold isWord TEN;exact decide_eq_decide.mpr (by omega)
theorem HW(h:¬-100000000000000000000<n):isLong n=false:=by unfold isLong TEN;exact decide_eq_false (by omega)
theorem HV(h:-100000000000000000000<n):isLong n=decide (n<100000000000000000000):=by unfold isLong TEN;exact decide_eq_decide.mpr (by omega)
theorem bR:isWord n=true↔-10000000000<n∧n<10000000000:=by unfold isWord TEN;rw[decide_eq_true_iff];omega
theorem dD:isLong n=true↔-100000000000000000000<n∧n<100000000000000000000:=by unfold isLong TEN;rw[decide_eq_true_iff];omega
theorem cZ(n:Int):(if n<0 then -n else n)=(n.natAbs:Int):=by split<;>omega
theorem EJ(n:Int):upper n=if n<0 then -((n.natAbs:Int)/10000000000)else(n.natAbs:Int)/10000000000:=by unfold upper signed TEN;split<;>omega
theorem DF(n:Int):lower n=if n<0 then -((n.natAbs:Int) % 10000000000)else(n.natAbs:Int) % 10000000000:=by unfold lower signed TEN;split<;>omega
theorem IC(n:Int)(k:Nat):signed n k=if n<0 then -(k:Int)else(k:Int):=rfl
theorem Ge(h:isLong n=true):isWord (upper n)=true:=by rw[dD]at h;rw[bR,EJ];split<;>omega
theorem oX(n:Int):isWord (lower n)=true:=by rw[bR,DF];split<;>omega
theorem Dr(v:Int):isLong (fitted v).1=true:=by
 unfold fitted;split
 ·assumption
 ·rw[dD];show _<signed v (v.natAbs % (TEN*TEN))∧signed v (v.natAbs % (TEN*TEN))<_;unfold signed TEN;split<;>omega
theorem Hd(a b:Int):a.tdiv b=if(decide (a<0)==decide (b<0))=true then(a.natAbs:Int)/(b.natAbs:Int)else -((a.natAbs:Int)/(b.natAbs:Int)):=by
 rcases Int.lt_or_le a 0 with ha|ha<;>rcases Int.lt_or_le b 0 with e|e
 ·obtain⟨x,rfl⟩:∃x:Nat,a= -(x:Int):=⟨a.natAbs,by omega⟩;obtain⟨y,rfl⟩:∃y:Nat,b= -(y:Int):=⟨b.natAbs,by omega⟩;simp only[ha,e,decide_true,beq_self_eq_true,if_true,Int.neg_tdiv,Int.tdiv_neg,Int.neg_neg,Int.natAbs_neg,Int.natAbs_natCast];rfl
 ·obtain⟨x,rfl⟩:∃x:Nat,a= -(x:Int):=⟨a.natAbs,by omega⟩;obtain⟨y,rfl⟩:∃y:Nat,b=(y:Int):=⟨b.natAbs,by omega⟩;have d:¬((y:Int)<0):=by omega
  simp only[ha,d,decide_true,decide_false,Int.neg_tdiv,Int.natAbs_neg,Int.natAbs_natCast];rfl
 ·obtain⟨x,rfl⟩:∃x:Nat,a=(x:Int):=⟨a.natAbs,by omega⟩;obtain⟨y,rfl⟩:∃y:Nat,b= -(y:Int):=⟨b.natAbs,by omega⟩;have c:¬((x:Int)<0):=by omega
  simp only[c,e,decide_true,decide_false,Int.tdiv_neg,Int.natAbs_neg,Int.natAbs_natCast];rfl
 ·obtain⟨x,rfl⟩:∃x:Nat,a=(x:Int):=⟨a.natAbs,by omega⟩;obtain⟨y,rfl⟩:∃y:Nat,b=(y:Int):=⟨b.natAbs,by omega⟩;have c:¬((x:Int)<0):=by omega
  have d:¬((y:Int)<0):=by omega
  simp only[c,d,decide_false,beq_self_eq_true,if_true,Int.natAbs_natCast];rfl
theorem Ku(a:Int)(k:Nat):right a k=a.tdiv ((10:Int)^k):=by
 have b:(10:Int)^k=((10^k:Nat):Int):=by simp
 have c:¬((10:Int)^k<0):=by rw[b];exact Int.not_lt.mpr (Int.natCast_nonneg _)
 rw[Hd];unfold right signed;by_cases ha:a<0
 ·simp only[ha,c,decide_true,decide_false,if_true];rw[b,Int.natAbs_natCast];rfl
 ·simp only[ha,c,decide_false,if_false,beq_self_eq_true,if_true];rw[b,Int.natAbs_natCast];rfl
def nH:Nat→Nat→Nat
 |0,_=>0
 |f+1,n=>n % 10+nH f (n/10)
theorem ra:∀f,nH f 0=0
 |0=>rfl
 |f+1=>by unfold nH;rw[ra f]
theorem q_:∀(f g n:Nat),n<10^f→f≤g→nH g n=nH f n
 |0,g,n,h,_=>by
  have:n=0:=by simpa using h
  subst this;rw[ra];rfl
 |f+1,0,n,_,h=>by omega
 |f+1,g+1,n,h,a=>by unfold nH;rw[q_ f g (n/10) (by rw[Nat.pow_succ]at h;omega) (by omega)]
theorem xD{a:Type}(f:Nat→a)(n:Nat):(List.range (n+1)).map f=f 0::(List.range n).map (fun k=>f (k+1)):=by rw[List.range_succ_eq_map,List.map_cons,List.map_map];rfl
theorem Aw:∀(f n:Nat),sumN ((List.range f).map fun k=>digit n k)=nH f n
 |0,_=>rfl
 |f+1,n=>by
  rw[xD];show digit n 0+sumN _=_;have:(fun k=>digit n (k+1))=fun k=>digit (n/10) k:=by funext k;unfold digit;rw[Nat.pow_succ,Nat.mul_comm,← Nat.div_div_eq_div_mul]
  rw[this,Aw f (n/10)];have a:digit n 0=n % 10:=by unfold digit;rw[Nat.pow_zero,Nat.div_one]
  rw[a];rfl
theorem sQ{v:Int}(h:v.natAbs<10^f)(a:f≤20):digitSum v=nH f v.natAbs:=by unfold digitSum;rw[Aw];exact q_ f 20 _ h a
theorem E5(a k:Nat):(a:Int)-(a:Int) % 40+((a:Int)+(k:Int)) % 40=((around a k:Nat):Int):=by unfold around PLACES;omega
theorem fA(k:Nat)(h:a<2000):around a k<2000:=by unfold around PLACES;omega
theorem fB(a:Nat):around a 0=a:=by unfold around PLACES;omega
theorem Ei(a:Int)(k:Nat):round a k=signed a ((a.natAbs+10^k/2)/10^k):=by
 unfold round;refine congrArg _ ?_;cases k with
 |zero=>simp only[Nat.pow_zero];omega
 |succ k=>
  have d:0<10^k:=Nat.pow_pos (by decide);have e:10^(k+1)=2*(5*10^k):=by rw[Nat.pow_succ];omega
  rw[e];have b:2*(5*10^k)/2=5*10^k:=by omega
  rw[b,Nat.mul_comm 2 (2*(5*10^k)),← Nat.div_div_eq_div_mul (2*a.natAbs+2*(5*10^k)),Nat.div_div_eq_div_mul,Nat.mul_comm (2*(5*10^k)) 2,← Nat.div_div_eq_div_mul];have c:(2*a.natAbs+2*(5*10^k))/2=a.natAbs+5*10^k:=by omega
  rw[c]
theorem zT(h:n<10)(a:0<n):digits n=1:=by unfold digits;rw[if_neg (by omega),Nat.toDigits_of_lt_base h];rfl
theorem mm(h:10≤n):digits n=digits (n/10)+1:=by unfold digits;rw[if_neg (by omega),if_neg (by omega)];have hm:n % 10<10:=Nat.mod_lt n (by decide);have t:Nat.toDigits 10 (n/10)++Nat.toDigits 10 (n % 10)=Nat.toDigits 10 (10*(n/10)+n % 10):=Nat.toDigits_append_toDigits (by decide) (by omega) hm;rw[Nat.div_add_mod]at t;rw[← t,List.length_append,Nat.toDigits_of_lt_base hm];rfl
theorem digits_le(k:Nat):∀n,n<10^k↔digits n≤k:=by
 induction k with
 |zero=>
  intro n;constructor
  ·intro h;have:n=0:=by simpa using h
   subst this;decide
  ·intro h;by_cases a:n=0
   ·subst a;decide
   ·by_cases b:n<10
    ·rw[zT b (by omega)]at h;omega
    ·rw[mm (by omega)]at h;omega
 |succ k c=>
  intro n;by_cases a:n=0
  ·subst a;have:0<10^(k+1):=Nat.pow_pos (by decide);simp[digits,this]
  ·by_cases b:n<10
   ·rw[zT b (by omega)];have:0<10^k:=Nat.pow_pos (by decide);have:10^(k+1)=10^k*10:=Nat.pow_succ ..;omega
   ·rw[mm (by omega)];have:=c (n/10);have e:10^(k+1)=10^k*10:=Nat.pow_succ ..;rw[e];omega
theorem Fg(h:0<n):0<digits n:=by have:=digits_le 0 n;simp at this;omega
theorem oI(h:0<n)(t:Nat):digits (n*10^t)=digits n+t:=by
 induction t with
 |zero=>simp
 |succ t c=>
  have b:0<10^t:=Nat.pow_pos (by decide);have d:0<n*10^t:=Nat.mul_pos h b;have e:n*10^(t+1)=10*(n*10^t):=by rw[Nat.pow_succ,← Nat.mul_assoc];omega
  rw[e,mm (by omega)];have a:10*(n*10^t)/10=n*10^t:=by omega
  rw[a,c];omega
theorem Ac(h:0<n)(t:Nat):n*10^t*10<100000000000000000000↔digits n+t<20:=by
 have e:n*10^t*10=n*10^(t+1):=by rw[Nat.pow_succ,Nat.mul_assoc]
 have:=digits_le 20 (n*10^(t+1));rw[oI h]at this;have a:(10:Nat)^20=100000000000000000000:=by decide
 rw[a]at this;rw[e,this];omega
end DM
namespace DM
open Drum
structure Wf(m:Machine):Prop where
 len:m.drum.length=2000
 wd:∀w∈m.drum,isWord w=true
 a:isLong m.a=true
 d:isWord m.d=true
 nx:m.next<2000
theorem Wf.at_{m:Machine}(h:Wf m)(a:Nat):isWord (m.at_ a)=true:=by
 unfold Machine.at_;rw[List.getD_eq_getElem?_getD];cases e:m.drum[a]? with
 |none=>decide
 |some w=>exact h.wd w (List.mem_of_getElem? e)
theorem AQ{m:Machine}(h:Wf m)(ha:a<2000):m.drum[a]?=some (m.at_ a):=by unfold Machine.at_;rw[List.getD_eq_getElem?_getD,List.getElem?_eq_getElem (by rw[h.len];exact ha)];rfl
theorem mem_set{l:List Int}{v w:Int}(h:w∈l.set i v):w∈l∨w=v:=by
 rcases List.mem_or_eq_of_mem_set h with h|h
 ·exact .inl h
 ·exact .inr h
theorem Wf.put{m:Machine}(h:Wf m)(a:Nat)(c:isWord v=true):Wf (m.put a v):=
 ⟨by show(m.drum.set a v).length=2000;rw[List.length_set];exact h.len,fun w b=>by
  rcases mem_set b with b|b
  ·exact h.wd w b
  ·rw[b];exact c,h.a,h.d,h.nx⟩
theorem Wf.tG(h:Wf m)(b:isLong v=true):Wf {m with a:=v}:=⟨h.len,h.wd,b,h.d,h.nx⟩
theorem Wf.Ky(h:Wf m)(b:isWord v=true):Wf {m with d:=v}:=⟨h.len,h.wd,h.a,b,h.nx⟩
theorem Wf.xK(h:Wf m){v:Bool}:Wf {m with over:=v}:=⟨h.len,h.wd,h.a,h.d,h.nx⟩
theorem Wf.Eo(h:Wf m){v:Nat}(b:v<2000):Wf {m with next:=v}:=⟨h.len,h.wd,h.a,h.d,b⟩
theorem Wf.Kz(h:Wf m){v:Nat}:Wf {m with tick:=v}:=⟨h.len,h.wd,h.a,h.d,h.nx⟩
theorem Wf.sumTo(h:Wf m)(v:Int):Wf (sumTo m (fitted v)):=⟨h.len,h.wd,Dr v,h.d,h.nx⟩
theorem sJ(h:isWord v=true):isLong v=true:=by rw[bR]at h;rw[dD];omega
theorem J7(h:isWord v=true):isWord (-v)=true:=by rw[bR]at h ⊢;omega
theorem LO{a b x y:Nat}(c:a<x)(d:b<y):a*b<x*y:=Nat.mul_lt_mul_of_lt_of_le c (Nat.le_of_lt d) (by omega)
theorem J6(ha:isWord a=true)(f:isWord b=true):isLong (a*b)=true:=by
 have c:a.natAbs<10000000000:=by rw[bR]at ha;omega
 have d:b.natAbs<10000000000:=by rw[bR]at f;omega
 have e:=LO c d;rw[← Int.natAbs_mul]at e;rw[dD];omega
theorem BP(a b:Int):(a.tdiv b).natAbs=a.natAbs/b.natAbs:=Int.natAbs_tdiv a b
theorem C8{a d:Int}(hd:¬(d=0∨d.natAbs*TEN≤a.natAbs)):isWord (a.tdiv d)=true:=by
 have h:(a.tdiv d).natAbs<10000000000:=by rw[BP,Nat.div_lt_iff_lt_mul (by omega)];unfold TEN at hd;rw[Nat.mul_comm];omega
 rw[bR];omega
theorem J3{a d:Int}(b:isWord d=true)(c:d≠0):isWord (a.tmod d)=true:=by
 have h:(a.tmod d).natAbs<d.natAbs:=by rw[Int.natAbs_tmod];exact Nat.mod_lt _ (by omega)
 rw[bR]at b ⊢;omega
theorem oh(a:Int)(n:Nat):(signed a n).natAbs=n:=by unfold signed;split<;>omega
theorem wF{a b:Int}(h:isLong a=true)(c:b.natAbs≤a.natAbs):isLong b=true:=by rw[dD]at h ⊢;omega
theorem FZ(h:isLong a=true)(k:Nat):isLong (right a k)=true:=by refine wF h ?_;unfold right;rw[oh];exact Nat.div_le_self _ _
theorem F0(h:isLong a=true)(k:Nat):isLong (round a k)=true:=by
 refine wF h ?_;rw[Ei,oh];have b:0<10^k:=Nat.pow_pos (by decide);by_cases c:10^k=1
 ·rw[c];omega
 ·have d:(a.natAbs+10^k/2)/10^k≤(a.natAbs*10^k+10^k/2)/10^k:=Nat.div_le_div_right (by have:=Nat.le_mul_of_pos_right a.natAbs b;omega)
  have e:(a.natAbs*10^k+10^k/2)/10^k=a.natAbs:=by rw[Nat.add_comm,Nat.add_mul_div_right _ _ b,Nat.div_eq_of_lt (by omega)];omega
  omega
theorem Fd(h:isLong a=true):isLong (count a).1=true:=by
 unfold count;show isLong (a*(10:Int)^(if a=0 then 0 else 20-digits a.natAbs))=true;by_cases c:a=0
 ·subst c;decide
 ·rw[if_neg c];have b:0<a.natAbs:=by omega
  have f:digits a.natAbs≤20:=(digits_le 20 _).mp (by rw[dD]at h;have d:(10:Nat)^20=100000000000000000000:=(by decide);omega);have hd:=(digits_le 20 (a.natAbs*10^(20-digits a.natAbs))).mpr (by rw[oI b];omega);have e:(a*(10:Int)^(20-digits a.natAbs)).natAbs=a.natAbs*10^(20-digits a.natAbs):=by rw[Int.natAbs_mul,Int.natAbs_pow];rfl
  rw[← e]at hd;have d:(10:Nat)^20=100000000000000000000:=by decide
  rw[dD];omega
theorem Wf.Cb{d:Nat}{c:List Int}(a:∀w∈c,isWord w=true):∀(l:List Nat) {m:Machine},Wf m→Wf (l.foldl (fun(x:Machine) (k:Nat)=>x.put (around d k) (c.getD k 0)) m)
 |[],_,h=>h
 |k::l,m,h=>Wf.Cb a l (h.put _ (by
   rw[List.getD_eq_getElem?_getD];cases e:c[k]? with
   |none=>decide
   |some w=>exact a w (List.mem_of_getElem? e)))
theorem eF{c:List Int}:∀(l:List Nat) (m:Machine),l.foldl (fun(x:Machine) (k:Nat)=>x.put (around d k) (c.getD k 0)) m={m with drum:=l.foldl (fun(x:List Int) (k:Nat)=>x.set (around d k) (c.getD k 0)) m.drum}
 |[],_=>rfl
 |k::l,m=>by rw[List.foldl_cons,eF l,List.foldl_cons];rfl
theorem Hy(m:Machine)(o:Order)(c:Card)(n:Nat):does {m with next:=n} o c={does m o c with m:={(does m o c).m with next:=n}}:=by
 unfold does;split<;>first
  |rfl
  |(split<;>rfl)
  |(rw[eF,eF];rfl)
  |skip
 rename_i h
 have e:lookUp {m with next:=n} o.d m.d=lookUp m o.d m.d:=rfl;show(match lookUp {m with next:=n} o.d m.d with|some k=>_|none=>_)=_;rw[e];cases lookUp m o.d m.d<;>rfl
theorem Le(h:Wf m)(o:Order)(f:∀w∈c,isWord w=true):Wf (does m o c).m:=by
 unfold does;split
 case h_1=>exact h.tG (sJ h.d)
 case h_2=>exact h.tG (sJ (J7 h.d))
 case h_3=>exact h.sumTo _
 case h_4=>exact h.sumTo _
 case h_5=>exact h.sumTo _
 case h_6=>exact h.sumTo _
 case h_7=>exact h.sumTo _
 case h_8=>exact h.sumTo _
 case h_9=>exact h.tG (J6 (oX _) h.d)
 case h_10=>
  split
  ·exact h.xK
  ·rename_i j b
   have hn:¬(m.d=0∨m.d.natAbs*TEN≤m.a.natAbs):=fun z=>b (by unfold by_;rw[if_pos z]);have e:by_ m.a m.d=(m.a.tdiv m.d,m.a.tmod m.d,false):=by unfold by_;rw[if_neg hn]
   rw[e];exact(h.tG (sJ (C8 hn))).Ky (J3 h.d (fun z=>hn (.inl z)))
 case h_11=>exact h.put _ (oX _)
 case h_12=>exact h.put _ (Ge h.a)
 case h_13=>exact h.put _ h.d
 case h_14=>exact h.sumTo _
 case h_15=>exact h.tG (FZ h.a _)
 case h_16=>exact h.tG (F0 h.a _)
 case h_17=>
  refine(h.tG (Fd h.a)).Ky ?_;unfold count;show isWord (((20-digits m.a.natAbs:Nat)):Int)=true;rw[bR];omega
 case h_18=>exact h
 case h_19=>exact h
 case h_20=>exact h.xK
 case h_21=>
  split
  ·rename_i k g
   have i:k<40:=List.mem_range.mp (List.mem_of_find?_eq_some g);exact h.tG (by rw[dD];omega)
  ·exact h.xK
 case h_22=>exact Wf.Cb f _ h
 case h_23=>exact h
 case h_24=>exact h
noncomputable def eN(c d:Nat)(m:Machine)(a:Card):Machine:={(does m ⟨c,d,0⟩ a).m with next:=if(does m ⟨c,d,0⟩ a).jump=true then d else m.next}
def j4(c d:Nat)(m:Machine)(a:Card):Nat:=(does m ⟨c,d,0⟩ a).behind+(if c=60 then(lookUp m d m.d).getD 39 else 0)
theorem Ld(h:Wf m)(b:∀w∈a,isWord w=true)(hd:(does m ⟨c,d,0⟩ a).jump=true→d<2000):Wf (eN c d m a):=by
 unfold eN;refine(Le h _ b).Eo ?_;split
 ·rename_i e;exact hd e
 ·exact h.nx
theorem EB(m:Machine)(a:List Card)(h:faultOf (m.at_ m.next) (!a.isEmpty)=none)(i:(orderOf (m.at_ m.next)).code≠0):
  m.step a=(let o:=orderOf (m.at_ m.next)
   let m1:={loaded m o with next:=o.n}
   ({eN o.code o.d m1 (a.headD [])with tick:=((if waits o.code=true then comes (comes m.tick (place m.next)+3) (place o.d)+1 else comes m.tick (place m.next)+3)+j4 o.code o.d m1 (a.headD [])) % WRAP},
    o.code==70,(does m1 ⟨o.code,o.d,0⟩ (a.headD [])).out)):=by
 unfold Machine.step;simp only[h,if_neg i];generalize j:orderOf (m.at_ m.next)=o at*;have e:does {loaded m o with next:=o.n} ⟨o.code,o.d,0⟩ (a.headD [])={does (loaded m o) o (a.headD [])with m:={(does (loaded m o) o (a.headD [])).m with next:=o.n}}:=Hy _ _ _ _;unfold eN j4;rw[e];simp only;have f:lookUp {loaded m o with next:=o.n} o.d (loaded m o).d=if o.code=60 then lookUp m o.d m.d else lookUp {loaded m o with next:=o.n} o.d (loaded m o).d:=by
  split
  ·rename_i z
   have:loads o.code=false:=by rw[z];decide
   unfold loaded;rw[this];rfl
  ·rfl
 have g:passed m o (comes m.tick (place m.next)+3)+(does (loaded m o) o (a.headD [])).behind=(if waits o.code=true then comes (comes m.tick (place m.next)+3) (place o.d)+1 else comes m.tick (place m.next)+3)+((does (loaded m o) o (a.headD [])).behind+(if o.code=60 then(lookUp {loaded m o with next:=o.n} o.d (loaded m o).d).getD 39 else 0)):=by
  unfold passed;by_cases b:o.code=60
  ·have c:waits o.code=true:=by rw[b];decide
   rw[if_pos c,if_pos c,if_pos b,if_pos b,f,if_pos b];omega
  ·rw[if_neg b,if_neg b];split<;>omega
 rw[g]
def F9:Operand→Bytes
 |.none=>[]
 |.word x _=>x
 |.to x=>x
 |.times _=>[]
def num:Operand→Nat
 |.none=>0
 |.word _ k=>k
 |.to _=>0
 |.times k=>k
noncomputable def b4(c:Nat)(x:Bytes):Option Operand:=if sortOf c=1 then wordIn x else if sortOf c=2 then(if isName x=true then some (.to x)else none)else(small 0 20 x).map .times
def bT(c:Nat)(r:List Bytes):Option Operand:=
 if sortOf c=0 then(if r=[]then some .none else none)else match r with
 |[x]=>b4 c x
 |_=>none
noncomputable def h_(name:Option Name)(P:List Bytes)(a:Option Name):Option Item:=match P with
 |[]=>none
 |x::r=>(codeOf x).bind fun c=>if c=0∧a.isSome=true then none else(bT c r).map fun o=>.order name c o a
def bz(name:Option Name)(P:List Bytes):Option Item:=
 if 2≤P.length∧P[P.length-2]?=some [45,62]then(if isName (P.getLastD [])=true then h_ name (P.take (P.length-2)) (some (P.getLastD []))else none)else h_ name P none
def xq(a:List Bytes):Option Item:=match a with
 |[]=>none
 |x::r=>if x.getLast?=some 58 then(if isName x.dropLast=true then bz (some x.dropLast) r else none)else bz none (x::r)
noncomputable def wO(a:List Bytes):Option Item:=match a with
 |x::_::b=>if isName x=true∧1≤b.length∧b.length≤40∧(b.all fun w=>(readWord w).isSome)=true then some (.numbers x (b.map fun w=>(readWord w).getD 0))else none
 |_=>none
def zZ(a:List Bytes):Option Item:=if 2≤a.length∧a[1]?=some [61]then wO a else xq a
theorem dB(name:Option Name)(x:Bytes)(r:List Bytes)(f:Option Name):h_ name (x::r) f=(codeOf x).bind fun c=>if c=0∧f.isSome=true then none else(bT c r).map fun o=>.order name c o f:=rfl
theorem jR(x y:Bytes)(ws:List Bytes):wO (x::y::ws)=if isName x=true∧1≤ws.length∧ws.length≤40∧(ws.all fun w=>(readWord w).isSome)=true then some (.numbers x (ws.map fun w=>(readWord w).getD 0))else none:=rfl
theorem A_:codeOf [45,62]=none:=by decide
theorem Hu:codeOf [61]=none:=by decide
theorem BJ:isName [45,62]=false:=by decide
theorem xl(c:Nat):b4 c [45,62]=none:=by
 have a:wordIn [45,62]=none:=by decide
 have b:small 0 20 [45,62]=none:=by decide
 unfold b4;rw[a,b,BJ];split
 ·rfl
 ·split<;>rfl
theorem iy:∀ws:List Bytes,numbersIn ws=if(ws.all fun w=>(readWord w).isSome)=true then some (ws.map fun w=>(readWord w).getD 0)else none
 |[]=>rfl
 |w::ws=>by
  unfold numbersIn;rw[iy ws];cases e:readWord w with
  |none=>simp[e]
  |some v=>
   simp only[List.all_cons,e,Option.isSome_some,Bool.true_and,List.map_cons,Option.getD_some,Option.bind_some];split<;>rfl
noncomputable def jN(c:Nat)(l:List Bytes):Option (Option Name):=match l with
 |[]=>some none
 |[a,x]=>if a=[45,62]∧isName x=true∧c≠0 then some (some x)else none
 |_=>none
theorem me(c:Nat)(l:List Bytes):behindIn c l=if sortOf c=0 then(jN c l).map fun n=>(.none,n)else match l with
  |[]=>none
  |x::r=>(b4 c x).bind fun o=>(jN c r).map fun n=>(o,n):=rfl
theorem lf(name:Option Name)(x:Bytes)(r:List Bytes):orderIn name (x::r)=(codeOf x).bind fun c=>(behindIn c r).map fun y=>.order name c y.1 y.2:=rfl
theorem dW(h:sortOf c=0)(r:List Bytes):bT c r=if r=[]then some .none else none:=by unfold bT;rw[if_pos h]
theorem iA(h:¬sortOf c=0)(x:Bytes):bT c [x]=b4 c x:=by unfold bT;rw[if_neg h]
theorem iz(h:¬sortOf c=0):bT c []=none:=by unfold bT;rw[if_neg h]
theorem eS(c:Nat)(x y:Bytes)(r:List Bytes):bT c (x::y::r)=none:=by
 unfold bT;split
 ·rw[if_neg (by simp)]
 ·rfl
theorem cj(h:sortOf c=0)(l:List Bytes):behindIn c l=(jN c l).map fun n=>(.none,n):=by rw[me,if_pos h]
theorem AT(h:¬sortOf c=0):behindIn c []=none:=by rw[me,if_neg h]
theorem cR(h:¬sortOf c=0)(x:Bytes)(r:List Bytes):behindIn c (x::r)=(b4 c x).bind fun o=>(jN c r).map fun n=>(o,n):=by rw[me,if_neg h]
theorem kK(c:Nat)(a x:Bytes):jN c [a,x]=if a=[45,62]∧isName x=true∧c≠0 then some (some x)else none:=rfl
theorem jq(c:Nat)(a x y:Bytes)(r:List Bytes):jN c (a::x::y::r)=none:=rfl
theorem fD(name:Option Name)(c:Nat)(r:List Bytes)(f:Option Name):(if c=0∧f.isSome=true then none else(bT c r).map fun o=>Item.order name c o f)=match f with
  |none=>(bT c r).map fun o=>Item.order name c o none
  |some z=>if c=0 then none else(bT c r).map fun o=>Item.order name c o (some z):=by
 cases f<;>simp
theorem oS(name:Option Name)(x:Bytes)(r:List Bytes):bz name (x::r)=orderIn name (x::r):=by
 rw[lf]
 match r with
 |[]=>
  have e:bz name [x]=h_ name [x] none:=by unfold bz;rw[if_neg (by simp)]
  rw[e,dB];refine congrArg _ (funext fun c=>?_);rw[fD];simp only;by_cases b:sortOf c=0
  ·rw[dW b,cj b];rfl
  ·rw[iz b,AT b];rfl
 |[y]=>
  by_cases m:x=[45,62]
  ·subst m;have e:bz name [[45,62],y]=none:=by unfold bz;rw[if_pos (by simp)];split<;>rfl
   rw[e,A_];rfl
  ·have e:bz name [x,y]=h_ name [x,y] none:=by unfold bz;rw[if_neg (by simp[m])]
   rw[e,dB];refine congrArg _ (funext fun c=>?_);rw[fD];simp only;by_cases b:sortOf c=0
   ·rw[dW b,cj b];rfl
   ·rw[iA b,cR b];cases b4 c y<;>rfl
 |[y,z]=>
  by_cases j:y=[45,62]
  ·subst j;have e:bz name [x,[45,62],z]=if isName z=true then h_ name [x] (some z)else none:=by unfold bz;rw[if_pos (by simp)];rfl
   rw[e,dB];cases codeOf x with
   |none=>split<;>rfl
   |some c=>
    simp only[Option.bind_some];rw[fD];simp only;by_cases b:sortOf c=0
    ·rw[dW b,cj b,kK];by_cases g:isName z=true<;>by_cases i:c=0<;>simp[g,i]
    ·rw[iz b,cR b,xl];simp
  ·have e:bz name [x,y,z]=h_ name [x,y,z] none:=by unfold bz;rw[if_neg (by simp[j])]
   rw[e,dB];refine congrArg _ (funext fun c=>?_);rw[fD,eS];simp only;by_cases b:sortOf c=0
   ·rw[cj b,kK,if_neg (fun h=>j h.1)];rfl
   ·rw[cR b];cases b4 c y<;>rfl
 |[y,a,z]=>
  by_cases ha:a=[45,62]
  ·subst ha;have e:bz name [x,y,[45,62],z]=if isName z=true then h_ name [x,y] (some z)else none:=by unfold bz;rw[if_pos (by simp)];rfl
   rw[e,dB];cases codeOf x with
   |none=>split<;>rfl
   |some c=>
    simp only[Option.bind_some];rw[fD];simp only;by_cases b:sortOf c=0
    ·rw[dW b,cj b,jq];simp
    ·have i:¬c=0:=fun h=>b (by rw[h];rfl);rw[iA b,cR b,kK];by_cases g:isName z=true
     ·simp only[g,i,if_true,if_false,true_and,ne_eq,not_false_eq_true];cases b4 c y<;>rfl
     ·simp only[g,if_false,false_and,and_false];cases b4 c y<;>rfl
  ·have e:bz name [x,y,a,z]=h_ name [x,y,a,z] none:=by unfold bz;rw[if_neg (by simp[ha])]
   rw[e,dB];refine congrArg _ (funext fun c=>?_);rw[fD,eS];simp only;by_cases b:sortOf c=0
   ·rw[cj b,jq];rfl
   ·rw[cR b,kK,if_neg (fun h=>ha h.1)];cases b4 c y<;>rfl
 |y::a::z::u::d=>
  have l:∀(f:Option Name) (p q:Bytes) (k:List Bytes),h_ name (x::p::q::k) f=none:=by
   intro f p q k;rw[dB];cases codeOf x with
   |none=>rfl
   |some c=>
    simp only[Option.bind_some];rw[eS];split<;>rfl
  have o:((codeOf x).bind fun c=>(behindIn c (y::a::z::u::d)).map fun w=>Item.order name c w.1 w.2)=none:=by
   cases codeOf x with
   |none=>rfl
   |some c=>
    simp only[Option.bind_some];by_cases b:sortOf c=0
    ·rw[cj b,jq];rfl
    ·rw[cR b,jq];cases b4 c y<;>rfl
  rw[o];unfold bz;split
  ·split
   ·have n:(x::y::a::z::u::d).take ((x::y::a::z::u::d).length-2)=x::y::a::(z::u::d).take d.length:=by simp
    rw[n];exact l _ _ _ _
   ·rfl
  ·exact l _ _ _ _
theorem eU(c:UInt8):∀b:Bytes,split c b≠[]
 |[]=>by unfold split;simp
 |x::r=>by
  unfold split;split
  ·simp
  ·split<;>simp
theorem FD{x:Bytes}(h:x.getLast?=some 58):isName x=false:=by
 cases e:isName x with
 |false=>rfl
 |true=>
  exfalso;have hm:(58:UInt8)∈x:=List.mem_of_getLast? h;unfold isName at e;rw[Bool.and_eq_true]at e;cases x with
  |nil=>simp at hm
  |cons c r=>
   have a:=e.2;simp only[Bool.and_eq_true,List.all_eq_true]at a;rcases List.mem_cons.mp hm with z|z
   ·rw[← z]at a;exact absurd a.1 (by decide)
   ·exact absurd (a.2 58 z) (by decide)
theorem JU(b:Bytes):zZ (split 32 b)=lineIn b:=by
 unfold lineIn;generalize i:split 32 b=parts;cases parts with
 |nil=>exact absurd i (eU 32 b)
 |cons x r=>
  simp only;by_cases c:r.head?=some [61]
  ·have g:2≤(x::r).length∧(x::r)[1]?=some [61]:=by
    cases r with
    |nil=>simp at c
    |cons y a=>simp at c;subst c;simp
   unfold zZ;rw[if_pos g];obtain⟨a,rfl⟩:∃a,r=[61]::a:=by
    cases r with
    |nil=>simp at c
    |cons y a=>simp at c;subst c;exact⟨a,Z⟩
   by_cases d:x.getLast?=some 58
   ·rw[if_pos d];rw[jR,FD d,if_neg (by simp)];split
    ·rw[lf,Hu];rfl
    ·rfl
   ·rw[if_neg d,if_pos c];rw[jR];simp only[List.length_cons,List.drop_succ_cons,List.drop_zero];rw[iy];by_cases hn:isName x=true
    ·by_cases e:1≤a.length
     ·by_cases f:a.length≤40
      ·rw[if_pos (show isName x=true∧2≤a.length+1∧a.length+1≤41 from⟨hn,by omega,by omega⟩)];simp only[hn,e,f,true_and];split<;>rfl
      ·rw[if_neg (fun z=>f z.2.2.1),if_neg (fun z=>f (by omega))]
     ·rw[if_neg (fun z=>e z.2.1),if_neg (fun z=>e (by omega))]
    ·rw[if_neg (fun z=>hn z.1),if_neg (fun z=>hn z.1)]
  ·have g:¬(2≤(x::r).length∧(x::r)[1]?=some [61]):=by
    rintro⟨_,h⟩;cases r with
    |nil=>simp at h
    |cons y a=>simp at h;subst h;simp at c
   unfold zZ;rw[if_neg g];unfold xq;simp only;by_cases d:x.getLast?=some 58
   ·rw[if_pos d,if_pos d];split
    ·cases r with
     |nil=>unfold bz h_;rw[if_neg (by simp)];rfl
     |cons y a=>exact oS _ _ _
    ·rfl
   ·rw[if_neg d,if_neg d,if_neg c];exact oS _ _ _
noncomputable def Gk:Bytes:=[10,32,97,98,99,100,101,102,103,104,105,106,107,108,109,110,111,112,113,114,115,116,117,118,119,120,121,122,65,66,67,68,69,70,71,72,73,74,75,76,77,78,79,80,81,82,83,84,85,86,87,88,89,90,48,49,50,51,52,53,54,55,56,57,58,45,62,43,61]
def sign(c:UInt8):Bool:=Gk.contains c
def tH(c:UInt8):UInt8:=if sign c=true then c else 63
theorem Cw(p:UInt8→Bool)(h:(List.range 256).all (fun n=>p (UInt8.ofNat n))=true)(c:UInt8):p c=true:=by have:=List.all_eq_true.mp h c.toNat (List.mem_range.mpr c.toNat_lt);rw[UInt8.ofNat_toNat]at this;exact this
theorem og(c:UInt8)(h:isSmall c=true):sign c=true:=by have:=Cw (fun c=>!isSmall c||sign c) (by decide +kernel) c;simp only[h,Bool.not_true,Bool.false_or]at this;exact this
theorem jV(c:UInt8)(h:isDigit c=true):sign c=true:=by have:=Cw (fun c=>!isDigit c||sign c) (by decide +kernel) c;simp only[h,Bool.not_true,Bool.false_or]at this;exact this
theorem iF(h:isName b=true):∀c∈b,sign c=true:=by
 unfold isName at h;rw[Bool.and_eq_true]at h;cases b with
 |nil=>simp
 |cons x r=>
  have a:=h.2;simp only[Bool.and_eq_true,List.all_eq_true,Bool.or_eq_true]at a;intro c d;rcases List.mem_cons.mp d with z|z
  ·rw[z];exact og _ a.1
  ·rcases a.2 c z with y|y
   ·exact og _ y
   ·exact jV _ y
def dg(t:Bytes):Bytes:=if t.head?=some 45 then t.drop 1 else t
def vl(t:Bytes):Int:=if t.head?=some 45 then -(numberOf (dg t):Int)else(numberOf (dg t):Int)
theorem iB(t:Bytes):readWord t=if dg t=[]∨(dg t).all isDigit=false∨10<(dg t).length∨((dg t).head?=some 48∧1<(dg t).length)∨(t.head?=some 45∧vl t=0)then none else some (vl t):=rfl
theorem Ap(h:(readWord b).isSome=true):∀c∈b,sign c=true:=by
 rw[iB]at h;have hn:¬(dg b=[]∨(dg b).all isDigit=false∨10<(dg b).length∨((dg b).head?=some 48∧1<(dg b).length)∨(b.head?=some 45∧vl b=0)):=fun z=>by rw[if_pos z]at h;simp at h
 simp only[not_or]at hn;have hd:∀c∈dg b,isDigit c=true:=List.all_eq_true.mp (by simpa using hn.2.1);unfold dg at hd;intro c a;cases b with
 |nil=>simp at a
 |cons x r=>
  by_cases d:x=45
  ·subst d;rcases List.mem_cons.mp a with z|z
   ·rw[z];decide
   ·exact jV _ (hd c (by simpa using z))
  ·rw[if_neg (by simpa using d)]at hd;exact jV _ (hd c a)
theorem xP(h:small lo a b=some n):∀c∈b,sign c=true:=by
 refine Ap ?_;unfold small at h;cases e:readWord b with
 |none=>rw[e]at h;simp at h
 |some v=>rfl
theorem rO(s:UInt8):∀(b:Bytes) (c:UInt8),c∈b→c=s∨∃x∈split s b,c∈x
 |[],_,h=>by simp at h
 |y::r,c,h=>by
  by_cases g:y=s
  ·have e:split s (y::r)=[]::split s r:=by show(if y=s then _ else _)=_;rw[if_pos g]
   rcases List.mem_cons.mp h with z|z
   ·exact .inl (z.trans g)
   ·rcases rO s r c z with q|⟨x,d,a⟩
    ·exact .inl q
    ·exact .inr ⟨x,by rw[e];exact List.mem_cons_of_mem _ d,a⟩
  ·cases f:split s r with
   |nil=>exact absurd f (eU s r)
   |cons hd tl=>
    have e:split s (y::r)=(y::hd)::tl:=by show(if y=s then _ else _)=_;rw[if_neg g,f]
    rcases List.mem_cons.mp h with z|z
    ·exact .inr ⟨y::hd,by rw[e];exact List.mem_cons_self ..,by rw[z];exact List.mem_cons_self ..⟩
    ·rcases rO s r c z with q|⟨x,d,a⟩
     ·exact .inl q
     ·rw[f]at d;rcases List.mem_cons.mp d with w|w
      ·exact .inr ⟨y::hd,by rw[e];exact List.mem_cons_self ..,List.mem_cons_of_mem _ (by rw[← w];exact a)⟩
      ·exact .inr ⟨x,by rw[e];exact List.mem_cons_of_mem _ w,a⟩
theorem pE(d:sign s=true)(h:∀x∈split s b,∀c∈x,sign c=true):∀c∈b,sign c=true:=fun c a=>by
 rcases rO s b c a with q|⟨x,e,a⟩
 ·rw[q];exact d
 ·exact h x e c a
theorem IA(h:codeOf b=some c):∀x∈b,sign x=true:=by
 unfold codeOf at h;cases e:names.find? fun(x:Nat×String)=>(x.2.toList.map fun(c:Char)=>UInt8.ofNat c.toNat)==b with
 |none=>rw[e]at h;simp at h
 |some y=>
  have hm:=List.mem_of_find?_eq_some e;have d:=List.find?_some e;have a:(names.all fun x=>(x.2.toList.map fun(c:Char)=>UInt8.ofNat c.toNat).all sign)=true:=by decide +kernel
  have:=List.all_eq_true.mp a y hm;rw[eq_of_beq d]at this;exact List.all_eq_true.mp this
theorem Er(h:wordIn b=some o):∀c∈b,sign c=true:=by
 refine pE (s:=43) (by decide) fun x a=>?_;unfold wordIn at h;split at h
 ·rename_i y e
  rw[e]at a;have:x=y:=by simpa using a
  subst this;split at h
  ·rename_i hn;exact iF hn
  ·simp at h
 ·rename_i y k e
  rw[e]at a;split at h
  ·rename_i hn
   cases d:small 1 39 k with
   |none=>rw[d]at h;simp at h
   |some n=>
    have:x=y∨x=k:=by simpa using a
    rcases this with z|z
    ·rw[z];exact iF hn
    ·rw[z];exact xP d
  ·simp at h
 ·simp at h
theorem za(h:b4 c b=some o):∀x∈b,sign x=true:=by
 unfold b4 at h;split at h
 ·exact Er h
 ·split at h
  ·split at h
   ·rename_i hn;exact iF hn
   ·simp at h
  ·cases a:small 0 20 b with
   |none=>rw[a]at h;simp at h
   |some n=>exact xP a
theorem xN(h:jN c l=some n):∀x∈l,∀y∈x,sign y=true:=by
 unfold jN at h;split at h
 ·simp
 ·rename_i a x
  split at h
  ·rename_i b
   intro z d;have:z=a∨z=x:=by simpa using d
   rcases this with q|q
   ·rw[q,b.1];decide
   ·rw[q];exact iF b.2.1
  ·simp at h
 ·simp at h
theorem Ep(h:behindIn c l=some y):∀x∈l,∀z∈x,sign z=true:=by
 by_cases b:sortOf c=0
 ·rw[cj b]at h;cases e:jN c l with
  |none=>rw[e]at h;simp at h
  |some n=>exact xN e
 ·cases l with
  |nil=>simp
  |cons x r=>
   rw[cR b]at h;cases e:b4 c x with
   |none=>rw[e]at h;simp at h
   |some o=>
    rw[e]at h;cases a:jN c r with
    |none=>rw[a]at h;simp at h
    |some n=>
     intro z d;rcases List.mem_cons.mp d with q|q
     ·rw[q];exact za e
     ·exact xN a z q
theorem xO(h:orderIn name l=some i):∀x∈l,∀z∈x,sign z=true:=by
 cases l with
 |nil=>simp
 |cons x r=>
  rw[lf]at h;cases e:codeOf x with
  |none=>rw[e]at h;simp at h
  |some c=>
   rw[e,Option.bind_some]at h;cases a:behindIn c r with
   |none=>rw[a]at h;simp at h
   |some y=>
    intro z b;rcases List.mem_cons.mp b with q|q
    ·rw[q];exact IA e
    ·exact Ep a z q
theorem Cg(h:numbersIn l=some v):∀x∈l,∀z∈x,sign z=true:=by
 rw[iy]at h;split at h
 ·rename_i ha
  intro x a;exact Ap (List.all_eq_true.mp ha x a)
 ·simp at h
theorem IB(h:lineIn b=some i):∀c∈b,sign c=true:=by
 refine pE (s:=32) (by decide) ?_;unfold lineIn at h;generalize split 32 b=parts at h ⊢;cases parts with
 |nil=>simp
 |cons x r=>
  simp only at h;intro z g;split at h
  ·rename_i f
   split at h
   ·rename_i hn
    rcases List.mem_cons.mp g with q|q
    ·subst q;intro c d;have a:z≠[]:=fun e=>by rw[e]at f;simp at f
     rw[← List.dropLast_concat_getLast a]at d;rcases List.mem_append.mp d with w|w
     ·exact iF hn c w
     ·have k:z.getLast a=58:=by rw[List.getLast?_eq_some_getLast a]at f;exact Option.some.inj f
      rw[k]at w;rw[List.mem_singleton.mp w];decide
    ·exact xO h z q
   ·simp at h
  ·split at h
   ·rename_i j
    split at h
    ·rename_i hn
     cases r with
     |nil=>simp at j
     |cons y m=>
      have l:y=[61]:=by simpa using j
      cases e:numbersIn m with
      |none=>simp[e]at h
      |some v=>
       rcases List.mem_cons.mp g with q|q
       ·rw[q];exact iF hn.1
       ·rcases List.mem_cons.mp q with w|w
        ·rw[w,l];decide
        ·exact Cg e z w
    ·simp at h
   ·exact xO h z g
noncomputable def i7(t:Bytes):List (Option Item):=((split 10 t).dropLast.map lineIn)++(if(split 10 t).getLastD []=[]then[]else[none])
theorem de(s:UInt8)(r:Bytes):split s (s::r)=[]::split s r:=by show(if s=s then _ else _)=_;rw[if_pos Z]
theorem cF{s y:UInt8}(h:y≠s)(r:Bytes):∃hd tl,split s r=hd::tl∧split s (y::r)=(y::hd)::tl:=by
 cases a:split s r with
 |nil=>exact absurd a (eU s r)
 |cons hd tl=>exact⟨hd,tl,Z,by show(if y=s then _ else _)=_;rw[if_neg h,a]⟩
theorem pG(s:UInt8):∀t:Bytes,(split s t).getLast?=some []↔(t=[]∨t.getLast?=some s)
 |[]=>by have e:split s []=[[]]:=rfl;rw[e];simp
 |[y]=>by
  by_cases f:y=s
  ·subst f;rw[de];simp[show split y []=[[]]from Z]
  ·obtain⟨hd,tl,d,c⟩:=cF f [];have i:split s []=[[]]:=rfl;rw[i]at d;obtain⟨rfl,rfl⟩:hd=[]∧tl=[]:=by simpa using d.symm
   rw[c];simp[f]
 |y::z::r=>by
  have g:=pG s (z::r);have m:(y::z::r).getLast?=(z::r).getLast?:=by rw[List.getLast?_cons_cons]
  have d:∀l:List Bytes,l≠[]→∀a:Bytes,(a::l).getLast?=l.getLast?:=fun l u a=>by
   cases l with
   |nil=>exact absurd Z u
   |cons b v=>rw[List.getLast?_cons_cons]
  rw[m];by_cases f:y=s
  ·subst f;rw[de,d _ (eU _ _),g];simp
  ·obtain⟨hd,tl,c,i⟩:=cF f (z::r);rw[i];rw[c]at g;cases tl with
   |nil=>
    have o:([y::hd]:List Bytes).getLast?=some (y::hd):=rfl;have p:([hd]:List Bytes).getLast?=some hd:=rfl;rw[o];rw[p]at g;constructor
    ·intro h;simp at h
    ·intro h;rcases h with h|h
     ·simp at h
     ·have:=g.mpr (.inr h);have:hd=[]:=Option.some.inj this;subst this;exfalso;by_cases k:z=s
      ·rw[k,de]at c;have:=(List.cons.inj c).2;exact eU s r this
      ·obtain⟨q,j,_,n⟩:=cF k r;rw[n]at c;simp at c
   |cons b j=>
    rw[d _ (by simp)];rw[d _ (by simp)]at g;rw[g];simp
theorem Dd(t:Bytes):ended t=true↔(t=[]∨t.getLast?=some 10):=by
 unfold ended;cases h:t.getLast? with
 |none=>simp[List.getLast?_eq_none_iff.mp h]
 |some c=>
  have:t≠[]:=fun e=>by rw[e]at h;simp at h
  simp[this]
theorem Md(t:Bytes):((linesOf t).zipIdx.map fun(u:Bytes×Nat)=>if ended t=false∧u.2+1=(linesOf t).length then none else lineIn u.1)=i7 t:=by
 unfold i7 linesOf;simp only;have b:=eU 10 t;by_cases c:(split 10 t).getLast?=some []
 ·have d:ended t=true:=(Dd t).mpr ((pG 10 t).mp c);have hd:(split 10 t).getLastD []=[]:=by rw[List.getLastD_eq_getLast?,c];rfl
  rw[if_pos c,if_pos hd,List.append_nil];apply List.ext_getElem
  ·simp
  ·intro i f h;simp[d]
 ·have d:ended t=false:=by
   cases e:ended t with
   |false=>rfl
   |true=>exact absurd ((pG 10 t).mpr ((Dd t).mp e)) c
  have hd:¬(split 10 t).getLastD []=[]:=fun z=>c (by rw[List.getLastD_eq_getLast?,List.getLast?_eq_some_getLast b]at z;rw[List.getLast?_eq_some_getLast b];exact congrArg some z)
  rw[if_neg c,if_neg hd];have g:0<(split 10 t).length:=List.length_pos_iff.mpr b;apply List.ext_getElem
  ·simp;omega
  ·intro i f h;have j:i<(split 10 t).length:=by simpa using f
   by_cases a:i+1=(split 10 t).length
   ·rw[List.getElem_append_right (by simp;omega)];simp[d,a]
   ·rw[List.getElem_append_left (by simp;omega)];simp[d,a]
noncomputable def jk:List (Option Item)→Option (List Item)
 |[]=>some []
 |none::_=>none
 |some x::r=>(jk r).map (x::·)
theorem all_eq:∀(l:List (Option Item)) (k:Nat),(∃j,all l k=.error j∧jk l=none)∨∃p,all l k=.ok p∧jk l=some p
 |[],k=>.inr ⟨[],Z,Z⟩
 |none::r,k=>.inl ⟨k,Z,Z⟩
 |some x::r,k=>by
  rcases all_eq r (k+1)with⟨j,a,b⟩|⟨p,a,b⟩
  ·exact .inl ⟨j,by unfold all;rw[a],by unfold jk;rw[b];rfl⟩
  ·exact .inr ⟨x::p,by unfold all;rw[a],by unfold jk;rw[b];rfl⟩
def jD(t:Bytes):Option Program:=(jk (i7 t)).bind fun p=>if faultIn p=none then some p else none
theorem mL(t:Bytes):(∃f,readProgram t=.error f∧jD t=none)∨∃p,readProgram t=.ok p∧jD t=some p:=by
 unfold readProgram jD;rw[Md];rcases all_eq (i7 t) 0 with⟨j,a,b⟩|⟨p,a,b⟩
 ·exact .inl ⟨_,by rw[a],by rw[b];rfl⟩
 ·rw[a,b];simp only[Option.bind_some];cases e:faultIn p with
  |none=>exact .inr ⟨p,Z,by rw[if_pos Z]⟩
  |some f=>exact .inl ⟨f,Z,by rw[if_neg (by simp)]⟩
theorem j0:∀{l:List (Option Item)} {p:List Item},jk l=some p→l=p.map some
 |[],p,h=>by
  have:p=[]:=by simpa[jk]using h.symm
  subst this;rfl
 |none::r,p,h=>by simp[jk]at h
 |some x::r,p,h=>by
  unfold jk at h;cases e:jk r with
  |none=>rw[e]at h;simp at h
  |some q=>
   rw[e]at h;have:x::q=p:=by simpa using h
   subst this;rw[j0 e];rfl
theorem tq(h:jD t=some p):∀c∈t,sign c=true:=by
 unfold jD at h;cases e:jk (i7 t)with
 |none=>rw[e]at h;simp at h
 |some q=>
  have b:=j0 e;refine pE (s:=10) (by decide) fun x j=>?_;have a:=eU 10 t;rw[← List.dropLast_concat_getLast a]at j;unfold i7 at b;rcases List.mem_append.mp j with w|w
  ·have hm:lineIn x∈(split 10 t).dropLast.map lineIn:=List.mem_map_of_mem w;have f:lineIn x∈q.map some:=by rw[← b];exact List.mem_append_left _ hm
   obtain⟨i,_,d⟩:=List.mem_map.mp f;exact IB d.symm
  ·have g:x=(split 10 t).getLastD []:=by rw[List.getLastD_eq_getLast?,List.getLast?_eq_some_getLast a];exact List.mem_singleton.mp w
   by_cases k:(split 10 t).getLastD []=[]
   ·rw[g,k];simp
   ·rw[if_neg k]at b;have:(none:Option Item)∈q.map some:=by rw[← b];simp
    obtain⟨i,_,d⟩:=List.mem_map.mp this;simp at d
theorem NN{t:Bytes}(h:∀c∈t,sign c=true):t.map tH=t:=by
 have:∀c∈t,tH c=c:=fun c a=>by unfold tH;rw[if_pos (h c a)]
 rw[List.map_congr_left this];simp
theorem Kr(t:Bytes):jD (t.map tH)=jD t:=by
 by_cases h:∀c∈t,sign c=true
 ·rw[NN h]
 ·have a:jD t=none:=by
   cases e:jD t with
   |none=>rfl
   |some p=>exact absurd (tq e) h
  have b:jD (t.map tH)=none:=by
   cases e:jD (t.map tH)with
   |none=>rfl
   |some p=>
    exfalso;refine h fun c d=>?_;have:=tq e (tH c) (List.mem_map_of_mem d);unfold tH at this;split at this
    ·assumption
    ·exact absurd this (by decide)
  rw[a,b]
def FM:Operand→Nat
 |.none=>0
 |.word _ _=>1
 |.to _=>2
 |.times _=>3
def DS:Option Name→Prop
 |none=>True
 |some x=>isName x=true
def Kc:Operand→Prop
 |.none=>True
 |.word x k=>isName x=true∧k<40
 |.to x=>isName x=true
 |.times k=>k≤20
structure Gj(n:Option Name)(c:Nat)(o:Operand)(f:Option Name):Prop where
 known:known c=true
 sort:FM o=sortOf c
 nm:DS n
 op:Kc o
 fl:DS f
 bL:f.isSome=true→c≠0
def He:Item→Prop
 |.order n c o f=>Gj n c o f
 |.numbers n l=>isName n=true∧1≤l.length∧l.length≤40∧∀w∈l,isWord w=true
theorem ql(h:isName x=true):x≠[]:=fun e=>by rw[e]at h;exact absurd h (by decide)
theorem pT(h:codeOf b=some c):known c=true:=by
 unfold codeOf at h;cases e:names.find? fun(x:Nat×String)=>(x.2.toList.map fun(c:Char)=>UInt8.ofNat c.toNat)==b with
 |none=>rw[e]at h;simp at h
 |some y=>
  rw[e]at h;have:y.1=c:=by simpa using h
  unfold known;exact List.any_eq_true.mpr ⟨y,List.mem_of_find?_eq_some e,by simp[this]⟩
theorem Es(h:small lo a b=some n):lo≤n∧n≤a:=by
 unfold small at h;cases e:readWord b with
 |none=>rw[e]at h;simp at h
 |some v=>
  rw[e]at h;simp only at h;split at h
  ·rename_i c
   have:v.toNat=n:=by simpa using h
   omega
  ·simp at h
theorem I0(h:wordIn b=some o):FM o=1∧Kc o:=by
 unfold wordIn at h;split at h
 ·split at h
  ·rename_i x e hn
   have:o=.word x 0:=by simpa using h.symm
   subst this;exact⟨Z,hn,by omega⟩
  ·simp at h
 ·rename_i x k e
  split at h
  ·rename_i hn
   cases a:small 1 39 k with
   |none=>rw[a]at h;simp at h
   |some n=>
    rw[a]at h;have:o=.word x n:=by simpa using h.symm
    subst this;exact⟨Z,hn,by have:=Es a;omega⟩
  ·simp at h
 ·simp at h
theorem tf(h:bT c r=some o):FM o=sortOf c∧Kc o:=by
 by_cases a:sortOf c=0
 ·rw[dW a]at h;split at h
  ·have:o=.none:=by simpa using h.symm
   subst this;exact⟨a.symm,trivial⟩
  ·simp at h
 ·match r with
  |[]=>rw[iz a]at h;simp at h
  |[x]=>
   rw[iA a]at h;unfold b4 at h;split at h
   ·rename_i b
    have:=I0 h;exact⟨by rw[this.1,b],this.2⟩
   ·rename_i b
    split at h
    ·rename_i d
     split at h
     ·rename_i hn
      have:o=.to x:=by simpa using h.symm
      subst this;exact⟨d.symm,hn⟩
     ·simp at h
    ·rename_i d
     cases f:small 0 20 x with
     |none=>rw[f]at h;simp at h
     |some n=>
      rw[f]at h;have:o=.times n:=by simpa using h.symm
      subst this;refine⟨?_,(Es f).2⟩;show 3=sortOf c;unfold sortOf at a b d ⊢;by_cases e:(10≤c∧c≤32)∨c=60∨c=70∨c=71
      ·rw[if_pos e]at b;exact absurd Z b
      ·by_cases g:50≤c∧c≤52
       ·rw[if_neg e,if_pos g]at d;exact absurd Z d
       ·by_cases i:40≤c∧c≤42
        ·rw[if_neg e,if_neg g,if_pos i]
        ·rw[if_neg e,if_neg g,if_neg i]at a;exact absurd Z a
  |x::y::r=>rw[eS]at h;simp at h
theorem CM(hn:DS n)(d:DS f)(h:h_ n P f=some i):He i:=by
 cases P with
 |nil=>simp[h_]at h
 |cons x r=>
  rw[dB]at h;cases b:codeOf x with
  |none=>rw[b]at h;simp at h
  |some c=>
   rw[b,Option.bind_some]at h;split at h
   ·simp at h
   ·rename_i e
    cases a:bT c r with
    |none=>rw[a]at h;simp at h
    |some o=>
     rw[a]at h;have:i=.order n c o f:=by simpa using h.symm
     subst this;exact⟨pT b,(tf a).1,hn,(tf a).2,d,fun z w=>e ⟨w,z⟩⟩
theorem xo(hn:DS n)(h:orderIn n l=some i):He i:=by
 cases l with
 |nil=>simp[orderIn]at h
 |cons x r=>
  rw[← oS]at h;unfold bz at h;split at h
  ·split at h
   ·rename_i hz;exact CM (f:=some _) hn hz h
   ·simp at h
  ·exact CM (f:=none) hn trivial h
theorem sY:∀(l:Bytes) (a:Nat),(∀c∈l,isDigit c=true)→l.foldl (fun(n:Nat) (c:UInt8)=>10*n+(c.toNat-48)) a<(a+1)*10^l.length
 |[],a,_=>by simp
 |c::l,a,h=>by
  have d:=sY l (10*a+(c.toNat-48)) fun x b=>h x (List.mem_cons_of_mem _ b);have g:c.toNat-48≤9:=by have:=h c (List.mem_cons_self ..);unfold isDigit at this;simp only[Bool.and_eq_true,decide_eq_true_eq]at this;have f:c.toNat≤57:=UInt8.le_iff_toNat_le.mp this.2;omega
  rw[List.foldl_cons,List.length_cons,Nat.pow_succ];refine Nat.lt_of_lt_of_le d ?_;have:(10*a+(c.toNat-48)+1)*10^l.length≤((a+1)*10)*10^l.length:=Nat.mul_le_mul_right _ (by omega);have e:(a+1)*(10^l.length*10)=(a+1)*10*10^l.length:=by rw[Nat.mul_comm (10^l.length) 10,Nat.mul_assoc]
  omega
theorem y_(h:readWord b=some v):isWord v=true:=by
 rw[iB]at h;split at h
 ·simp at h
 ·rename_i hn
  simp only[not_or]at hn;have hd:∀c∈dg b,isDigit c=true:=List.all_eq_true.mp (by simpa using hn.2.1);have:=sY (dg b) 0 hd;have d:10^(dg b).length≤10^10:=Nat.pow_le_pow_right (by decide) (by omega);have f:v=vl b:=by simpa using h.symm
  have e:numberOf (dg b)=(dg b).foldl (fun(n:Nat) (c:UInt8)=>10*n+(c.toNat-48)) 0:=rfl;have a:(10:Nat)^10=10000000000:=by decide
  rw[f,bR];unfold vl;split<;>omega
theorem H_(h:lineIn b=some i):He i:=by
 unfold lineIn at h;generalize split 32 b=parts at h;cases parts with
 |nil=>simp at h
 |cons x r=>
  simp only at h;split at h
  ·split at h
   ·rename_i hn;exact xo (n:=some _) hn h
   ·simp at h
  ·split at h
   ·split at h
    ·rename_i j
     cases e:numbersIn (r.drop 1)with
     |none=>rw[e]at h;simp at h
     |some v=>
      rw[e]at h;have:i=.numbers x v:=by simpa using h.symm
      subst this;have a:=e;rw[iy]at a;split at a
      ·rename_i ha
       have d:v=(r.drop 1).map fun w=>(readWord w).getD 0:=by simpa using a.symm
       refine⟨j.1,by rw[d];simp;omega,by rw[d];simp;omega,?_⟩;intro w g;rw[d]at g;obtain⟨y,k,f⟩:=List.mem_map.mp g;have:=List.all_eq_true.mp ha y k;cases c:readWord y with
       |none=>rw[c]at this;simp at this
       |some u=>rw[c]at f;rw[← show u=w from f];exact y_ c
      ·simp at a
    ·simp at h
   ·exact xo (n:=none) trivial h
def Ji(p:Program):Prop:=∀i∈p,He i
theorem Ek(h:jk (i7 t)=some p):Ji p:=fun i a=>by
 have b:=j0 h;have hm:some i∈i7 t:=by rw[b];exact List.mem_map_of_mem a
 unfold i7 at hm;rcases List.mem_append.mp hm with w|w
 ·obtain⟨x,_,e⟩:=List.mem_map.mp w;exact H_ e
 ·split at w
  ·simp at w
  ·simp at w
theorem HI(p:Program)(i:Item)(x:Name):find (p++[i]) x=(find p x).or (if i.name=some x then some p.length else none):=by
 unfold find;rw[List.findIdx?_append];congr 1;by_cases h:i.name=some x
 ·simp[List.findIdx?_cons,h]
 ·simp[List.findIdx?_cons,h]
theorem find_some{p:Program}(h:find p x=some k):∃i,p[k]?=some i∧i.name=some x:=by unfold find at h;rw[List.findIdx?_eq_some_iff_getElem]at h;obtain⟨b,a,_⟩:=h;exact⟨p[k],List.getElem?_eq_getElem b,eq_of_beq a⟩
theorem Lj{p:Program}{k:Nat}{i:Item}(h:p[k]?=some i)(b:i.name=some x):∃j,find p x=some j∧j≤k:=by
 unfold find;cases e:p.findIdx? (fun i=>i.name==some x)with
 |none=>
  rw[List.findIdx?_eq_none_iff]at e;have:=e i (List.mem_of_getElem? h);rw[b]at this;simp at this
 |some j=>
  refine⟨j,Z,?_⟩;rw[List.findIdx?_eq_some_iff_getElem]at e;obtain⟨g,_,c⟩:=e;refine Nat.le_of_not_lt fun bL=>?_;have:=c k bL;have d:=List.getElem?_eq_some_iff.mp h;obtain⟨f,a⟩:=d;rw[a,b]at this;simp at this
theorem mq{p:Program}:firstLine p bad=none↔∀k i,p[k]?=some i→bad k i=false:=by
 unfold firstLine;rw[List.findSome?_eq_none_iff];constructor
 ·intro h k i a;have:=h (i,k) (List.mem_zipIdx_iff_getElem?.mpr a);simpa using this
 ·intro h u b;have:=h u.2 u.1 (List.mem_zipIdx_iff_getElem?.mp b);simp[this]
theorem named_eq{i:Item}(b:i.name=some x)(a:find p x=some j)(c:j≤k):named p k i=!decide (j=k):=by
 unfold named;rw[b];simp only[a,Option.any_some];by_cases h:j=k
 ·simp[h]
 ·simp[h];omega
def bM(p:Program)(k:Nat):Bool:=(p[k]?.map Item.isOrder).getD false
noncomputable def bY(p:Program):List Nat:=(List.range p.length).filter (bM p)
def bS(p:Program)(j:Nat):Option Nat:=((p.drop j).findIdx? Item.isOrder).map fun i=>j+i
theorem iw(p:Program)(k:Nat):following p k=bS p (k+1):=rfl
theorem BQ{p:Program}(h:p.length≤j):bS p j=none:=by unfold bS;rw[List.drop_eq_nil_of_le h];rfl
theorem yM{p:Program}{i:Item}(h:p[j]?=some i):bS p j=if i.isOrder=true then some j else bS p (j+1):=by
 unfold bS;obtain⟨a,e⟩:=List.getElem?_eq_some_iff.mp h;rw[List.drop_eq_getElem_cons a,e,List.findIdx?_cons];split
 ·rfl
 ·rw[Option.map_map];congr 1;funext n;simp only[Function.comp];omega
theorem jQ(h:bS p j=some k):j≤k∧bM p k=true∧∀m,j≤m→m<k→bM p m=false:=by
 unfold bS at h;cases e:(p.drop j).findIdx? Item.isOrder with
 |none=>rw[e]at h;simp at h
 |some i=>
  rw[e]at h;have f:j+i=k:=by simpa using h
  rw[List.findIdx?_eq_some_iff_getElem]at e;obtain⟨d,a,c⟩:=e;have g:i<p.length-j:=by simpa using d
  refine⟨by omega,?_,fun m _ _=>?_⟩
  ·unfold bM;rw[← f,List.getElem?_eq_getElem (by omega)];rw[List.getElem_drop]at a;simpa using a
  ·have:=c (m-j) (by omega);rw[List.getElem_drop]at this;unfold bM;rw[List.getElem?_eq_getElem (by omega)];have b:j+(m-j)=m:=by omega
   simp only[b]at this;simpa using this
theorem nX(h:bS p j=none):∀m,j≤m→bM p m=false:=by
 unfold bS at h;have e:(p.drop j).findIdx? Item.isOrder=none:=by simpa using h
 rw[List.findIdx?_eq_none_iff]at e;intro m hm;unfold bM;cases em:p[m]? with
 |none=>rfl
 |some i=>
  have a:i∈p.drop j:=by refine List.mem_of_getElem? (i:=m-j) ?_;rw[List.getElem?_drop,show j+(m-j)=m by omega];exact em
  simpa using e i a
theorem iM{p:Program}(h:bM p k=true):k<p.length:=by
 unfold bM at h;cases e:p[k]? with
 |none=>rw[e]at h;simp at h
 |some i=>exact(List.getElem?_eq_some_iff.mp e).1
theorem fG:k∈bY p↔bM p k=true:=by unfold bY;rw[List.mem_filter,List.mem_range];exact⟨fun h=>h.2,fun h=>⟨iM h,h⟩⟩
theorem p9(q:Nat→Bool):∀(n j:Nat),(∀m,m<j→q m=false)→q j=true→j<n→((List.range n).filter q).head?=some j:=by
 intro n j b c f;have e:List.range n=List.range j++(List.range (n-j)).map (fun i=>j+i):=by rw[← List.range_add];congr 1;omega
 rw[e,List.filter_append];have a:(List.range j).filter q=[]:=List.filter_eq_nil_iff.mpr fun m hm=>by rw[b m (List.mem_range.mp hm)];simp
 obtain⟨r,d⟩:∃r,n-j=r+1:=⟨n-j-1,by omega⟩;rw[a,d,List.range_succ_eq_map,List.map_cons,List.nil_append,List.filter_cons];simp[c]
theorem FN(p:Program):(bY p).head?=bS p 0:=by
 cases e:bS p 0 with
 |none=>
  have:bY p=[]:=List.filter_eq_nil_iff.mpr fun m _=>by rw[nX e m (Nat.zero_le _)];simp
  rw[this];rfl
 |some j=>
  obtain⟨_,a,b⟩:=jQ e;exact p9 _ _ _ (fun m hm=>b m (Nat.zero_le _) hm) a (iM a)
theorem Hm(p:Program):beginsAt p=((bY p).head?).getD 0:=by rw[FN];unfold beginsAt bS;simp
theorem qW(p:Program):p.any Item.isOrder=!(bY p).isEmpty:=by
 cases e:bY p with
 |nil=>
  simp only[List.isEmpty_nil,Bool.not_true];rw[List.any_eq_false];intro i c b;obtain⟨k,d⟩:=List.mem_iff_getElem?.mp c;have:k∈bY p:=fG.mpr (by unfold bM;rw[d];exact b);rw[e]at this;simp at this
 |cons k r=>
  simp only[List.isEmpty_cons,Bool.not_false];have:k∈bY p:=by rw[e];exact List.mem_cons_self ..
  have h:=fG.mp this;unfold bM at h;cases a:p[k]? with
  |none=>rw[a]at h;simp at h
  |some i=>exact List.any_eq_true.mpr ⟨i,List.mem_of_getElem? a,by rw[a]at h;simpa using h⟩
theorem mE(h:(bY p).getLast?=some l):∀k,bM p k=true→k≤l:=by
 intro k c;have hm:=fG.mpr c;have b:(bY p).Pairwise (·<·):=List.Pairwise.filter _ List.pairwise_lt_range;have a:bY p≠[]:=fun e=>by rw[e]at hm;simp at hm
 have d:(bY p).getLast a=l:=by rw[List.getLast?_eq_some_getLast a]at h;exact Option.some.inj h
 rw[← List.dropLast_concat_getLast a]at hm b;rcases List.mem_append.mp hm with w|w
 ·have:=(List.pairwise_append.mp b).2.2 k w _ (List.mem_singleton.mpr Z);omega
 ·have:=List.mem_singleton.mp w;omega
theorem Dt{p:Program}{f:Option Name}(h:(bY p).getLast?=some l)(j:p[l]?=some (.order n c o f)):
  (∀k i,p[k]?=some i→goesOn p k i=true)↔(c=0∨f.isSome=true):=by
 have hn:bS p (l+1)=none:=by
  cases e:bS p (l+1)with
  |none=>rfl
  |some k=>
   obtain⟨m,b,_⟩:=jQ e;have:=mE h k b;omega
 constructor
 ·intro d;have:=d l _ j;cases f with
  |some x=>exact .inr Z
  |none=>
   unfold goesOn at this;simp only[iw,hn,Option.isSome_none,Bool.or_false,beq_iff_eq]at this;exact .inl this
 ·intro d k i g;cases i with
  |numbers _ _=>rfl
  |order t q u r=>
   cases r with
   |some x=>rfl
   |none=>
    unfold goesOn;by_cases a:k=l
    ·subst a;rw[j]at g;obtain⟨rfl,rfl,rfl,rfl⟩:n=t∧c=q∧o=u∧f=none:=by simpa using g
     rcases d with z|z
     ·simp[z]
     ·simp at z
    ·have s:bM p k=true:=by unfold bM;rw[g];rfl
     have bL:k<l:=Nat.lt_of_le_of_ne (mE h k s) a;have:(following p k).isSome=true:=by
      rw[iw];cases e:bS p (k+1)with
      |some _=>rfl
      |none=>
       have m:=nX e l (by omega);have b:bM p l=true:=by unfold bM;rw[j];rfl
       rw[m]at b;simp at b
     rw[this];simp
theorem BH{p:Program}(h:bY p=[]):∀k i,p[k]?=some i→goesOn p k i=true:=by
 intro k i a;cases i with
 |numbers _ _=>rfl
 |order n c o f=>
  have:k∈bY p:=fG.mpr (by unfold bM;rw[a];rfl);rw[h]at this;simp at this
def b5(d:List Int)(w:List (Nat×Int)):List Int:=w.foldl (fun d u=>d.set u.1 u.2) d
theorem jT(d:List Int)(v w:List (Nat×Int)):b5 d (v++w)=b5 (b5 d v) w:=List.foldl_append ..
theorem tF(d:List Int)(v:List (Nat×Int))(u:Nat×Int):b5 d (v++[u])=(b5 d v).set u.1 u.2:=by rw[jT];rfl
theorem dX(w:List (Nat×Int)):∀d:List Int,(b5 d w).length=d.length:=by
 induction w with
 |nil=>intro d;rfl
 |cons u w a=>intro d;show(b5 (d.set u.1 u.2) w).length=_;rw[a,List.length_set]
theorem FE{c:Type}{l:List c}(nd:l.Nodup){i j:Nat}(a:i<l.length)(b:j<l.length)(e:l[i]=l[j]):i=j:=by
 rcases Nat.lt_trichotomy i j with h|h|h
 ·exact absurd e (List.pairwise_iff_getElem.mp nd i j a b h)
 ·exact h
 ·exact absurd e.symm (List.pairwise_iff_getElem.mp nd j i b a h)
theorem iL{c β:Type}{f g:c→List β}:∀{l:List c},(∀a∈l,f a=g a)→l.flatMap f=l.flatMap g
 |[],_=>rfl
 |a::l,h=>by rw[List.flatMap_cons,List.flatMap_cons,h a (List.mem_cons_self ..),iL fun b d=>h b (List.mem_cons_of_mem _ d)]
theorem En{v w:List (Nat×Int)}(h:v.Perm w)(nd:(v.map (·.1)).Nodup)(d:List Int):b5 d v=b5 d w:=by
 unfold b5;refine List.Perm.foldl_eq' h (fun x f y g z=>?_) d;by_cases e:x.1=y.1
 ·have:x=y:=by obtain⟨i,b,rfl⟩:=List.mem_iff_getElem.mp f;obtain⟨j,c,rfl⟩:=List.mem_iff_getElem.mp g;have a:i=j:=FE nd (by simpa using b) (by simpa using c) (by simpa using e);subst a;rfl
  rw[this]
 ·exact List.set_comm _ _ e
noncomputable def Cz(p:Program)(l:Placing)(k:Nat):List (Nat×Int):=(wordsOf p l k).zipIdx.map fun u=>(around (l.getD k 0) u.2,u.1)
theorem v_{b β γ:Type}(f:γ→β→γ)(g:b→List β):∀(l:List b) (z:γ),l.foldl (fun m k=>(g k).foldl f m) z=(l.flatMap g).foldl f z
 |[],_=>rfl
 |a::l,z=>by rw[List.foldl_cons,List.flatMap_cons,List.foldl_append,v_ f g l]
theorem G1:∀(w:List (Nat×Int)) (m:Machine),w.foldl (fun(x:Machine) (u:Nat×Int)=>x.put u.1 u.2) m={m with drum:=b5 m.drum w}
 |[],_=>rfl
 |u::w,m=>by rw[List.foldl_cons,G1 w];rfl
theorem Ir(p:Program)(l:Placing):placed p l={new (l.getD (beginsAt p) 0)with drum:=b5 (List.replicate 2000 0) ((List.range p.length).flatMap (Cz p l))}:=by
 unfold placed;have e:(fun(m:Machine) (k:Nat)=>(wordsOf p l k).zipIdx.foldl (fun(x:Machine) (u:Int×Nat)=>x.put (around (l.getD k 0) u.2) u.1) m)=fun m k=>(Cz p l k).foldl (fun(x:Machine) (u:Nat×Int)=>x.put u.1 u.2) m:=by funext m k;unfold Cz;rw[List.foldl_map]
 rw[e,v_,G1];rfl
def pq(p:Program)(l:Placing):List (Nat×Int):=(bY p).map fun k=>(l.getD k 0,orderWord p l k)
def LQ(p:Program)(l:Placing):List (Nat×Int):=((List.range p.length).filter fun k=>!bM p k).flatMap (Cz p l)
theorem Mv{l:Placing}(h:bM p k=true):Cz p l k=[(l.getD k 0,orderWord p l k)]:=by
 unfold bM at h;cases e:p[k]? with
 |none=>rw[e]at h;simp at h
 |some i=>
  cases i with
  |numbers _ _=>rw[e]at h;simp[Item.isOrder]at h
  |order n c o f=>
   unfold Cz wordsOf;rw[e];simp only[List.zipIdx_cons,List.zipIdx_nil,List.map_cons,List.map_nil];rw[fB]
theorem mr{b β:Type}(f:b→β):∀l:List b,l.flatMap (fun a=>[f a])=l.map f
 |[]=>rfl
 |a::l=>by rw[List.flatMap_cons,mr f l];rfl
theorem L1(p:Program)(l:Placing):pq p l=(bY p).flatMap (Cz p l):=by unfold pq;rw[← mr];unfold bY;refine iL fun k a=>?_;exact(Mv (List.mem_filter.mp a).2).symm
theorem KO(p:Program)(l:Placing):((List.range p.length).flatMap (Cz p l)).Perm (pq p l++LQ p l):=by rw[L1];unfold LQ bY;rw[← List.flatMap_append];exact List.Perm.flatMap_right _ (List.filter_append_perm _ _).symm
def fY(p:Program)(l:Placing)(k:Nat):List Nat:=(List.range ((p[k]?.map Item.size).getD 0)).map (around (l.getD k 0))
theorem yg(p:Program)(l:Placing)(k:Nat):(wordsOf p l k).length=(p[k]?.map Item.size).getD 0:=by
 unfold wordsOf;cases p[k]? with
 |none=>rfl
 |some i=>cases i<;>rfl
theorem Gi{a:Type}(l:List a):l.zipIdx.map (·.2)=List.range l.length:=by rw[List.zipIdx_map_snd,List.range_eq_range']
theorem KM(p:Program)(l:Placing)(k:Nat):(Cz p l k).map (·.1)=fY p l k:=by unfold Cz fY;rw[List.map_map,← yg p l k,← Gi,List.map_map];rfl
theorem all_keys(p:Program)(l:Placing):∀a:List Nat,(a.flatMap (Cz p l)).map (·.1)=a.flatMap (fY p l)
 |[]=>rfl
 |k::a=>by rw[List.flatMap_cons,List.flatMap_cons,List.map_append,KM,all_keys p l a]
theorem pz{p:Program}{l:Placing}(h:((List.range p.length).flatMap (fY p l)).Nodup):
  placed p l={new (l.getD (beginsAt p) 0)with drum:=b5 (b5 (List.replicate 2000 0) (pq p l)) (LQ p l)}:=by
 rw[Ir,En (KO p l) (by rw[all_keys];exact h),jT]
theorem EW{c:Type}(f:Item→Nat→List c):∀(p:Program) (l:Placing),l.length=p.length→(p.zip l).flatMap (fun u=>f u.1 u.2)=(List.range p.length).flatMap fun k=>match p[k]? with
  |some i=>f i (l.getD k 0)
  |none=>[]
 |[],l,_=>by simp
 |i::p,[],h=>by simp at h
 |i::p,a::l,h=>by have b:=EW f p l (by simpa using h);rw[List.zip_cons_cons,List.flatMap_cons,b,List.length_cons,List.range_succ_eq_map,List.flatMap_cons,List.flatMap_map];rfl
theorem Ht{p:Program}{l:Placing}(h:l.length=p.length):(p.zip l).flatMap (fun u=>cellsOf u.1 u.2)=(List.range p.length).flatMap (fY p l):=by rw[EW cellsOf p l h];refine iL fun k a=>?_;have:k<p.length:=List.mem_range.mp a;unfold fY cellsOf;rw[List.getElem?_eq_getElem this];rfl
def sZ(p:Program)(l:List Int):Bool:=l.all (fun(a:Int)=>DrumListSeed.within a WORDS)&&fits p (l.map Int.toNat)
theorem jh:DrumListSeed.within a WORDS=true↔0≤a∧a<2000:=by unfold DrumListSeed.within WORDS;simp only[Bool.and_eq_true,decide_eq_true_eq];exact Iff.rfl
theorem ny{p:Program}{l:List Int}(h:l.length=p.length):sZ p l=true↔(∀z∈l,0≤z∧z<2000)∧((List.range p.length).flatMap (fY p (l.map Int.toNat))).Nodup:=by
 unfold sZ fits;rw[Ht (by simpa using h)];simp only[Bool.and_eq_true,List.all_eq_true,decide_eq_true_eq,beq_iff_eq,List.length_map];constructor
 ·rintro⟨c,_,_,e⟩;exact⟨fun z b=>jh.mp (c z b),e⟩
 ·rintro⟨c,d⟩;refine⟨fun z b=>jh.mpr (c z b),h,fun a ha=>?_,d⟩;obtain⟨z,b,rfl⟩:=List.mem_map.mp ha;have:=c z b;show z.toNat<2000;omega
theorem BU(a:j≤n)(h:((List.range n).flatMap (fY p l)).Nodup):((List.range j).flatMap (fY p l)).Nodup:=by
 have e:List.range n=List.range j++(List.range (n-j)).map (fun i=>j+i):=by rw[← List.range_add];congr 1;omega
 rw[e,List.flatMap_append]at h;exact(List.nodup_append.mp h).1
theorem fg{a:Type}(f:Nat→List a)(j:Nat):(List.range (j+1)).flatMap f=(List.range j).flatMap f++f j:=by rw[List.range_succ,List.flatMap_append,List.flatMap_cons,List.flatMap_nil,List.append_nil]
theorem i6{a:Type}(f:Nat→a)(j:Nat):(List.range (j+1)).map f=(List.range j).map f++[f j]:=by rw[List.range_succ,List.map_append];rfl
theorem kO(f:Nat):eights f []=[]:=by cases f<;>rfl
theorem jt(f:Nat){l:List Int}(h:l≠[]):eights (f+1) l=l.take 8::eights f (l.drop 8):=by show(if l=[]then[]else l.take 8::eights f (l.drop 8))=_;rw[if_neg h]
theorem Bf(f:Nat)(l:List Int):(eights (f+1) l).drop 1=eights f (l.drop 8):=by
 by_cases h:l=[]
 ·subst h;rw[kO];simp[kO]
 ·rw[jt f h];rfl
theorem sU(l:List Int):∀(r n:Nat),r≤n→(eights n l).drop r=eights (n-r) (l.drop (8*r))
 |0,n,_=>by simp
 |r+1,n,h=>by have a:=sU l r n (by omega);obtain⟨f,hf⟩:∃f,n-r=f+1:=⟨n-r-1,by omega⟩;rw[← List.drop_drop,a,hf,Bf,List.drop_drop];congr 1;omega
def aR(ws:List Int)(r:Nat):List Card:=(DrumListSeed.hands ws).drop r
theorem vy{ws:List Int}(h:r≤ws.length):aR ws r=eights (ws.length+1-r) (ws.drop (8*r)):=by unfold aR DrumListSeed.hands;exact sU ws r _ (by omega)
theorem nS{ws:List Int}(h:r≤ws.length):(aR ws r).isEmpty=!decide (r*8<ws.length):=by
 rw[vy h];obtain⟨f,hf⟩:∃f,ws.length+1-r=f+1:=⟨ws.length-r,by omega⟩;rw[hf];by_cases b:r*8<ws.length
 ·have a:ws.drop (8*r)≠[]:=fun e=>by have:=List.drop_eq_nil_iff.mp e;omega
  rw[jt f a];simp[b]
 ·rw[List.drop_eq_nil_of_le (by omega),kO];simp[b]
theorem pQ{ws:List Int}(h:r*8<ws.length):(aR ws r).headD []=(ws.drop (8*r)).take 8:=by
 rw[vy (by omega)];obtain⟨f,hf⟩:∃f,ws.length+1-r=f+1:=⟨ws.length-r,by omega⟩;have a:ws.drop (8*r)≠[]:=fun e=>by have:=List.drop_eq_nil_iff.mp e;omega
 rw[hf,jt f a];rfl
theorem AZ(ws:List Int)(r:Nat):(aR ws r).drop 1=aR ws (r+1):=by unfold aR;rw[List.drop_drop]
theorem CV(h:∀w∈ws,isWord w=true)(r:Nat):∀w∈(aR ws r).headD [],isWord w=true:=by
 by_cases a:r*8<ws.length
 ·rw[pQ a];exact fun w c=>h w (List.mem_of_mem_drop (List.mem_of_mem_take c))
 ·have:(aR ws r).headD []=[]:=by
   by_cases b:r≤ws.length
   ·have:=nS b;simp[a]at this;rw[this];rfl
   ·unfold aR DrumListSeed.hands;have e:(eights (ws.length+1) ws).length≤r:=by
     refine Nat.le_trans ?_ (by omega:ws.length+1≤r);have:∀(f:Nat) (l:List Int),(eights f l).length≤f:=by
      intro f
      induction f with
      |zero=>intro l;simp[eights]
      |succ f d=>
       intro l;by_cases z:l=[]
       ·subst z;rw[kO];simp
       ·rw[jt f z];simp;exact d _
     exact this _ _
    rw[List.drop_eq_nil_of_le e];rfl
  rw[this];simp
theorem zR(a t:Nat):(t:Int)+((a:Int)-(t:Int)) % 40=((comes t (place a):Nat):Int):=by unfold comes place PLACES;omega
theorem gH(h:0≤v):v/100000000=((orderOf v).code:Int)∧v/10000 % 10000=((orderOf v).d:Int)∧v % 10000=((orderOf v).n:Int):=by unfold orderOf;refine⟨?_,?_,?_⟩<;>(simp only;omega)
theorem vZ(v:Int)(b:Bool):faultOf v b=match faultOf v true with
  |some f=>some f
  |none=>if(orderOf v).code=70∧b=false then some 6 else none:=by
 unfold faultOf;simp only;split
 ·rfl
 ·split
  ·rfl
  ·split
   ·rfl
   ·split
    ·rfl
    ·cases b<;>simp
def kx(v:Int)(b:Bool):Nat:=match faultOf v b with
 |some f=>f
 |none=>if(orderOf v).code=0 then 1 else 0
theorem rA(h:faultOf v b=some f):f≠0:=by
 unfold faultOf at h;simp only at h;split at h
 ·have:2=f:=by simpa using h
  omega
 ·split at h
  ·have:3=f:=by simpa using h
   omega
  ·split at h
   ·have:4=f:=by simpa using h
    omega
   ·split at h
    ·have:5=f:=by simpa using h
     omega
    ·split at h
     ·have:6=f:=by simpa using h
      omega
     ·simp at h
theorem xX(h:kx v b=0):faultOf v b=none∧(orderOf v).code≠0:=by
 unfold kx at h;cases e:faultOf v b with
 |some f=>rw[e]at h;exact absurd h (rA e)
 |none=>
  rw[e]at h;refine⟨Z,fun z=>?_⟩;simp[z]at h
theorem Au{m:Machine}{a:List Card}(h:kx (m.at_ m.next) (!a.isEmpty)≠0):
  m.step a=({m with tick:=(comes m.tick (place m.next)+3) % WRAP,state:=kx (m.at_ m.next) (!a.isEmpty)},false,[]):=by
 unfold Machine.step kx at*;simp only at*;cases e:faultOf (m.at_ m.next) (!a.isEmpty)with
 |some f=>rfl
 |none=>
  rw[e]at h;simp only at h ⊢;by_cases b:(orderOf (m.at_ m.next)).code=0
  ·rw[if_pos b,if_pos b]
  ·rw[if_neg b]at h;exact absurd Z h
theorem dC(h:faultOf v b=none):0≤v∧known (orderOf v).code=true∧((orderOf v).code≠0→(orderOf v).n<2000)∧(addresses (orderOf v).code=true→(orderOf v).d<2000)∧
  (40≤(orderOf v).code∧(orderOf v).code≤42→(orderOf v).d≤20)∧((orderOf v).code=70→b=true):=by
 unfold faultOf at h;simp only at h;split at h
 ·simp at h
 ·rename_i g
  split at h
  ·simp at h
  ·rename_i c
   split at h
   ·simp at h
   ·rename_i a
    split at h
    ·simp at h
    ·rename_i e
     split at h
     ·simp at h
     ·rename_i f
      unfold WORDS at a;refine⟨by omega,by simpa using c,fun z=>?_,fun z=>?_,fun z=>?_,fun z=>?_⟩
      ·exact Nat.lt_of_not_le fun w=>a (.inl ⟨z,w⟩)
      ·exact Nat.lt_of_not_le fun w=>a (.inr ⟨z,w⟩)
      ·exact Nat.le_of_not_lt fun w=>e ⟨z.1,z.2,w⟩
      ·cases b with
       |true=>rfl
       |false=>exact absurd ⟨z,Z⟩ f
theorem El{m:Machine}(h:m.state≠0):Drum.run k u m c=⟨m,0,0,[]⟩:=by
 cases k with
 |zero=>rfl
 |succ k=>show(if m.state≠0∨u≤m.tick then _ else _)=_;rw[if_pos (.inl h)]
theorem Kw{k:Nat}{m:Machine}(h:m.state=0)(a:m.tick<WRAP):Drum.run (k+1) WRAP m c=
  (let x:=m.step c
   let r:=Drum.run k WRAP x.1 (if x.2.1=true then c.drop 1 else c)
   ⟨r.m,r.begun+1,r.read+(if x.2.1=true then 1 else 0),x.2.2++r.punched⟩):=by
 show(if m.state≠0∨WRAP≤m.tick then _ else _)=_;rw[if_neg (by rintro(z|z)<;>omega)]
abbrev oH:=PyFlat.calls PyWqdrme.shape
theorem Ej{l x t:List Int}(h:PyFlat.row l=some (x,t)):∃n:Nat,l=(n:Int)::(x++t)∧x.length=n:=by
 cases l with
 |nil=>simp[PyFlat.row]at h
 |cons n r=>
  unfold PyFlat.row at h;dsimp only at h;split at h
  ·rename_i b
   have a:r.take n.toNat=x∧r.drop n.toNat=t:=by simpa using h
   refine⟨n.toNat,?_,?_⟩
   ·rw[← a.1,← a.2,List.take_append_drop];congr 1;omega
   ·rw[← a.1,List.length_take];omega
  ·simp at h
inductive Form:Int→List Int→List (List Int)→List Int→Prop
 |new (s:Int) (t:List Int):Form 1 (s::t) [[1,s]] t
 |poke (a v:Int) (t:List Int):Form 2 (a::v::t) [[2,a,v]] t
 |peek (a:Int) (t:List Int):Form 3 (a::t) [[3,a]] t
 |place (x y t:List Int):Form 4 ((x.length:Int)::(x++(y.length:Int)::(y++t))) [[4],x,y] t
 |run (o:Int) (x t:List Int):Form 5 (o::(x.length:Int)::(x++t)) [[5,o],x] t
 |told (t:List Int):Form 6 t [[6]] t
 |rewind (t:List Int):Form 7 t [[7]] t
 |reach (t:List Int):Form 8 t [[8]] t
 |why (t:List Int):Form 9 t [[9]] t
 |text (t:List Int):Form 10 t [[10]] t
 |placing (t:List Int):Form 11 t [[11]] t
theorem rows0(r:List Int):PyFlat.rows 0 r=some ([],r):=rfl
theorem MY{xs:List (List Int)}{t:List Int}(h:PyFlat.rows 1 r=some (xs,t)):∃x,xs=[x]∧r=(x.length:Int)::(x++t):=by
 unfold PyFlat.rows at h;cases e:PyFlat.row r with
 |none=>rw[e]at h;simp at h
 |some y=>
  obtain⟨x,s⟩:=y;rw[e]at h;simp only[rows0]at h;have a:[x]=xs∧s=t:=by simpa using h
  obtain⟨n,b,c⟩:=Ej e;exact⟨x,a.1.symm,by rw[b,a.2,c]⟩
theorem P6{xs:List (List Int)}{t:List Int}(h:PyFlat.rows 2 r=some (xs,t)):∃x y,xs=[x,y]∧r=(x.length:Int)::(x++(y.length:Int)::(y++t)):=by
 unfold PyFlat.rows at h;cases e:PyFlat.row r with
 |none=>rw[e]at h;simp at h
 |some z=>
  obtain⟨x,s⟩:=z;rw[e]at h;simp only at h;cases a:PyFlat.rows 1 s with
  |none=>rw[a]at h;simp at h
  |some j=>
   obtain⟨i,t'⟩:=j;rw[a]at h;simp only at h;obtain⟨y,c,d⟩:=MY a;have b:x::i=xs∧t'=t:=by simpa using h
   obtain⟨n,f,g⟩:=Ej e;exact⟨x,y,by rw[← b.1,c],by rw[f,d,b.2,g]⟩
theorem Hr(h:PyFlat.call PyWqdrme.shape (p::r)=some (c,t)):Form p r c t:=by
 unfold PyFlat.call at h;dsimp only at h;cases e:PyWqdrme.shape p with
 |none=>rw[e]at h;simp at h
 |some u=>
  obtain⟨n,k⟩:=u;rw[e]at h;simp only at h;split at h
  ·simp at h
  ·rename_i b
   cases d:PyFlat.rows k (r.drop n)with
   |none=>rw[d]at h;simp at h
   |some z=>
    obtain⟨f,t'⟩:=z;rw[d]at h;have j:(p::r.take n)::f=c∧t'=t:=by simpa using h
    obtain⟨l,q⟩:=j;subst q;subst l;unfold PyWqdrme.shape at e
    repeat' split at e
    all_goals first|(simp at e;done)|skip
    all_goals
     obtain⟨hn,m⟩:_=n∧_=k:=by simpa using e
     subst hn;subst m
     subst_vars
    ·match r,b with
     |s::r,_=>
      have:r=t'∧[]=f:=by simpa[rows0,and_comm]using d
      obtain⟨rfl,rfl⟩:=this;exact .new s r
     |[],b=>exact absurd (by simp) b
    ·match r,b with
     |a::v::r,_=>
      have:r=t'∧[]=f:=by simpa[rows0,and_comm]using d
      obtain⟨rfl,rfl⟩:=this;exact .poke a v r
     |[a],b=>exact absurd (by simp) b
     |[],b=>exact absurd (by simp) b
    ·match r,b with
     |a::r,_=>
      have:r=t'∧[]=f:=by simpa[rows0,and_comm]using d
      obtain⟨rfl,rfl⟩:=this;exact .peek a r
     |[],b=>exact absurd (by simp) b
    ·obtain⟨x,y,rfl,g⟩:=P6 d;have i:r=_:=g;rw[i];exact .place x y t'
    ·match r,b with
     |o::r,_=>
      obtain⟨x,rfl,g⟩:=MY d;have i:r=_:=g;rw[i];exact .run o x t'
     |[],b=>exact absurd (by simp) b
    all_goals
     have:r=t'∧[]=f:=by simpa[rows0,and_comm]using d
     obtain⟨rfl,rfl⟩:=this
    ·exact .told r
    ·exact .rewind r
    ·exact .reach r
    ·exact .why r
    ·exact .text r
    ·exact .placing r
theorem zQ(h:oH f []=some cs):cs=[]:=by cases f<;>exact(by simpa[PyFlat.calls]using h.symm)
theorem vx(h:oH f (p::r)=some cs):∃d c t a,Form p r c t∧oH d t=some a∧cs=c::a:=by
 cases f with
 |zero=>simp[PyFlat.calls]at h
 |succ f=>
  unfold oH PyFlat.calls at h;cases e:PyFlat.call PyWqdrme.shape (p::r)with
  |none=>rw[e]at h;simp at h
  |some z=>
   obtain⟨c,t⟩:=z;rw[e]at h;simp only at h;cases b:PyFlat.calls PyWqdrme.shape f t with
   |none=>rw[b]at h;simp at h
   |some a=>
    rw[b]at h;exact⟨f,c,t,a,Hr e,b,by simpa using h.symm⟩
theorem Gh(h:Form p l c t):PyWqdrme.whole c=c:=by cases h<;>rfl
theorem m6:∀{cs:List (List (List Int))} {f:Nat} {l:List Int},oH f l=some cs→cs.map PyWqdrme.whole=cs
 |[],_,_,_=>rfl
 |c::cs,f,l,h=>by
  cases l with
  |nil=>cases zQ h
  |cons p r=>
   obtain⟨g,d,t,a,hf,b,e⟩:=vx h;obtain⟨rfl,rfl⟩:=List.cons.inj e;rw[List.map_cons,Gh hf,m6 b]
abbrev Al:=PyFlat.played ListNeutral.step
theorem CL{l:List Int}(h:PyWqdrme.answers_asked l=true):∃cs,oH l.length l=some cs∧(∀c∈cs,ListNeutral.asked1 c=true)∧PyWqdrme.answers l=PyFlat.told (Al ListNeutral.start cs)∧(PyWqdrme.answers l).length≤10000000:=by
 unfold PyWqdrme.answers_asked at h;cases e:PyWqdrme.calls l with
 |none=>rw[e]at h;simp at h
 |some cs=>
  rw[e]at h;simp only[Bool.and_eq_true]at h;obtain⟨⟨_,d⟩,f⟩:=h;unfold PyWqdrme.calls at e;cases a:PyFlat.calls PyWqdrme.shape l.length l with
  |none=>rw[a]at e;simp at e
  |some b=>
   rw[a]at e;have g:b=cs:=(m6 a).symm.trans (by simpa using e);subst g;refine⟨b,a,?_,?_,?_⟩
   ·unfold ListNeutral.asked at d;simp only[Bool.and_eq_true,List.all_eq_true]at d;exact d.2
   ·unfold PyWqdrme.answers PyWqdrme.calls;rw[a];simp only;rw[m6 a]
   ·unfold PyFlat.short at f;exact of_decide_eq_true f
theorem IP(s:Machine)(c:List (List Int))(cs:List (List (List Int))):PyFlat.told (Al s (c::cs))=(((ListNeutral.step s c).2.length:Int)::(ListNeutral.step s c).2)++PyFlat.told (Al (ListNeutral.step s c).1 cs):=by have e:Al s (c::cs)=(ListNeutral.step s c).2::Al (ListNeutral.step s c).1 cs:=rfl;unfold PyFlat.told;rw[e,List.flatMap_cons]
def nx(m:Machine)(a:Nat):List Nat:=match m.orderAt a with
 |some o=>goesTo o
 |none=>[]
inductive Ja(m:Machine):Nat→Prop
 |start:Ja m m.next
 |step {a b:Nat}:Ja m a→b∈nx m a→Ja m b
theorem cO{m:Machine}(h:m.orderAt a=some o):faultOf (m.at_ a) true=none∧o=orderOf (m.at_ a):=by
 unfold Machine.orderAt at h;split at h
 ·rename_i hn
  exact⟨by simpa using hn,(Option.some.inj h).symm⟩
 ·cases h
theorem qA{m:Machine}:m.orderAt a=none↔faultOf (m.at_ a) true≠none:=by unfold Machine.orderAt;cases faultOf (m.at_ a) true<;>simp
theorem k_{m:Machine}(h:faultOf (m.at_ a) true=none):m.orderAt a=some (orderOf (m.at_ a)):=by unfold Machine.orderAt;rw[h];rfl
theorem P0{a b:Nat}(h:b∈nx m a):b<2000:=by
 unfold nx at h;split at h
 ·rename_i o i
  obtain⟨g,rfl⟩:=cO i;obtain⟨_,_,g1,g2,_⟩:=dC g;unfold goesTo at h;split at h
  ·cases h
  ·rename_i c
   split at h
   ·rename_i j
    rw[List.mem_cons,List.mem_singleton]at h;rcases h with rfl|rfl
    ·exact g1 c
    ·refine g2 ?_;unfold addresses;have d:((orderOf (m.at_ a)).code==0)=false:=by simpa using c
     have e:((orderOf (m.at_ a)).code==1)=false:=by simp;omega
     have f:decide ((orderOf (m.at_ a)).code≤43)=false:=by simp;omega
     rw[d,e,f,Bool.and_false];rfl
   ·rw[List.mem_singleton]at h;subst h;exact g1 c
 ·cases h
theorem Ja.lt{m:Machine}(hn:m.next<2000)(h:Ja m x):x<2000:=by
 cases h with
 |start=>exact hn
 |step _ a=>exact P0 a
theorem sX:∀(n:Nat) (l:List Nat),l.length≤n→l.eraseDups.Nodup
 |_,[],_=>by simp
 |0,_::_,h=>absurd h (Nat.not_succ_le_zero _)
 |n+1,a::l,h=>by rw[List.eraseDups_cons,List.nodup_cons];refine⟨fun hm=>?_,sX n _ (Nat.le_trans (List.length_filter_le _ _) (Nat.le_of_succ_le_succ h))⟩;have:=(List.mem_filter.mp (List.mem_eraseDups.mp hm)).2;simp at this
theorem cq{ns:List Nat}{m:Nat}(h:ns.Nodup)(a:∀x∈ns,x<m):ns.length≤m:=by have:ns.length≤(List.range m).length:=h.length_le_of_subset (fun x b=>List.mem_range.mpr (a x b));simpa using this
theorem xE{m:Machine}(hn:m.next<2000):∀(k:Nat) (l d:List Nat),l.Nodup→(∀a∈l,Ja m a)→(∀a∈l,a∉d→∀b∈nx m a,b∈l)→(∀a∈d,a∈l)→2000<k+l.length→
  (∀x∈l,x∈reachBy m k l d)∧(∀x∈reachBy m k l d,Ja m x)∧∀a∈reachBy m k l d,∀b∈nx m a,b∈reachBy m k l d
 |0,l,d,nd,o,_,_,y=>by have:=cq nd fun x p=>(o x p).lt hn;omega
 |k+1,l,d,nd,o,v,z,y=>by
  have e:reachBy m (k+1) l d=if(((d.flatMap (nx m)).filter fun a=>!l.contains a).eraseDups)=[]then l else reachBy m k (l++((d.flatMap (nx m)).filter fun a=>!l.contains a).eraseDups) ((d.flatMap (nx m)).filter fun a=>!l.contains a).eraseDups:=rfl;rw[e];generalize j:((d.flatMap (nx m)).filter fun a=>!l.contains a).eraseDups=new;have f:∀x,x∈new↔(∃a∈d,x∈nx m a)∧x∉l:=fun x=>by rw[← j,List.mem_eraseDups,List.mem_filter,List.mem_flatMap];simp
  have t:new.Nodup:=by rw[← j];exact sX _ _ (Nat.le_refl _)
  split
  ·rename_i he
   refine⟨fun x p=>p,o,fun a ha b n=>?_⟩;by_cases g:a∈d
   ·by_cases i:b∈l
    ·exact i
    ·have:b∈new:=(f b).mpr ⟨⟨a,g,n⟩,i⟩;rw[he]at this;cases this
   ·exact v a ha g b n
  ·rename_i u
   have w:0<new.length:=List.length_pos_iff.mpr u;obtain⟨A,B,C⟩:=xE hn k (l++new) new (by
     rw[List.nodup_append];exact⟨nd,t,fun a ha b n e=>by subst e;exact((f a).mp n).2 ha⟩)
    (fun a ha=>by
     rcases List.mem_append.mp ha with h|h
     ·exact o a h
     ·obtain⟨⟨c,r,s⟩,_⟩:=(f a).mp h;exact .step (o c (z c r)) s)
    (fun a ha q b n=>by
     rcases List.mem_append.mp ha with h|h
     ·by_cases g:a∈d
      ·by_cases i:b∈l
       ·exact List.mem_append.mpr (.inl i)
       ·exact List.mem_append.mpr (.inr ((f b).mpr ⟨⟨a,g,n⟩,i⟩))
      ·exact List.mem_append.mpr (.inl (v a h g b n))
     ·exact absurd h q)
    (fun a ha=>List.mem_append.mpr (.inr ha)) (by rw[List.length_append];omega)
   exact⟨fun x p=>A x (List.mem_append.mpr (.inl p)),B,C⟩
theorem Aa{m:Machine}(hn:m.next<2000):x∈reachFrom m WORDS [m.next]↔Ja m x:=by
 obtain⟨d,e,f⟩:=xE hn WORDS [m.next] [m.next] (by simp) (fun a ha=>by rw[List.mem_singleton]at ha;subst ha;exact .start) (fun a ha b=>absurd ha b) (fun _ h=>h) (by show 2000<2000+1;omega);constructor
 ·exact e x
 ·intro h
  induction h with
  |start=>exact d _ (by simp)
  |step _ b c=>exact f _ c _ b
def bo(l:List Nat):List Nat:=(List.range WORDS).filter fun a=>l.contains a
theorem bf{x:Nat}:x∈bo l↔x<2000∧x∈l:=by unfold bo;rw[List.mem_filter,List.mem_range];simp[WORDS]
theorem fw(l:List Nat):(bo l).Nodup:=List.nodup_range.sublist List.filter_sublist
theorem g8(l:List Nat):(bo l).Pairwise (·<·):=List.Pairwise.sublist List.filter_sublist List.pairwise_lt_range
theorem pD(h:∀x,x<2000→(x∈l↔x∈b)):bo l=bo b:=by unfold bo;refine List.filter_congr fun x a=>?_;have:=h x (List.mem_range.mp a);rw[Bool.eq_iff_iff];simpa using this
theorem qH(l:List Nat):(bo l).length≤2000:=cq (fw l) fun _ a=>(bf.mp a).1
theorem mO{ns:List Nat}{c:List Int}(nd:ns.Nodup)(f:∀x∈ns,x<2000)(g:c.Perm (ns.map fun(n:Nat)=>(n:Int)))(i:c.Pairwise (· ≤·)):c=(bo ns).map fun(n:Nat)=>(n:Int):=by
 have j:(bo ns).Perm ns:=(List.perm_ext_iff_of_nodup (fw ns) nd).mpr fun a=>by rw[bf];exact⟨fun h=>h.2,fun h=>⟨f a h,h⟩⟩
 refine List.Perm.eq_of_pairwise (le:=(· ≤·)) (fun a b _ _ d e=>Int.le_antisymm d e) i ?_ (g.trans (j.map _).symm);rw[List.pairwise_map];exact(g8 ns).imp fun h=>by omega
theorem cQ(m:Machine):m.seen.orders=bo (reachFrom m WORDS [m.next]):=id Z
theorem oY{m:Machine}(hn:m.next<2000):x∈m.seen.orders↔Ja m x:=by rw[cQ,bf,Aa hn];exact⟨fun h=>h.2,fun h=>⟨h.lt hn,h⟩⟩
theorem Em(m:Machine):m.seen.listed=m.seen.orders.filterMap fun a=>(m.orderAt a).map fun o=>(a,o):=id Z
def g_(m:Machine):List Nat:=m.seen.listed.flatMap fun u=>uses u.2
theorem su(m:Machine):m.seen.used=bo (g_ m):=id Z
noncomputable def uq(m:Machine)(p:Nat→Bool):List Nat:=(m.seen.listed.filter fun u=>p u.2.code).map fun u=>u.2.d
theorem tE(m:Machine):m.seen.tables=uq m (· ==60):=id Z
theorem xJ(m:Machine):m.seen.cards=uq m fun c=>c==70||c==71:=id Z
theorem d_{m:Machine}{u:Nat×Order}:u∈m.seen.listed↔u.1∈m.seen.orders∧m.orderAt u.1=some u.2:=by
 rw[Em,List.mem_filterMap];constructor
 ·rintro⟨a,ha,e⟩;cases h:m.orderAt a with
  |none=>rw[h]at e;cases e
  |some o=>rw[h]at e;cases e;exact⟨ha,h⟩
 ·rintro⟨b,c⟩;exact⟨u.1,b,by rw[c];rfl⟩
theorem c6{m:Machine}{x:Nat}:x∈uq m p↔∃a o,a∈m.seen.orders∧m.orderAt a=some o∧p o.code=true∧x=o.d:=by
 unfold uq;rw[List.mem_map];constructor
 ·rintro⟨u,g,rfl⟩;obtain⟨b,c⟩:=List.mem_filter.mp g;obtain⟨e,f⟩:=d_.mp b;exact⟨u.1,u.2,e,f,c,Z⟩
 ·rintro⟨a,o,b,c,e,rfl⟩;exact⟨(a,o),List.mem_filter.mpr ⟨d_.mpr ⟨b,c⟩,e⟩,Z⟩
def gb(c:Nat):Bool:=decide (10≤c∧c≤32)
theorem Bd(g:∀c,known c=true→p c=true→addresses c=true){x:Nat}(h:x∈uq m p):x<2000:=by obtain⟨a,o,_,d,e,rfl⟩:=c6.mp h;obtain⟨f,rfl⟩:=cO d;obtain⟨_,b,g1,g2,_⟩:=dC f;exact g2 (g _ b e)
def cells(n b:Nat):List Nat:=(List.range n).map (around b)
def tagged(n b:Nat):List (Nat×Nat):=(cells n b).map fun x=>(x,b)
def fi(m:Machine):List (Nat×Nat):=(bo m.seen.tables).flatMap (tagged 40)++((bo m.seen.cards).flatMap (tagged 8)++(bo (uq m gb)).flatMap (tagged 1))
def f9(m:Machine)(x:Nat):Option Nat:=((fi m).find? fun u=>u.1==x).map (·.2)
theorem nv{m:Machine}{x:Nat}:x∈g_ m↔(∃d∈m.seen.tables,x∈cells 40 d)∨(∃d∈m.seen.cards,x∈cells 8 d)∨x∈uq m gb:=by
 unfold g_;rw[List.mem_flatMap,tE,xJ];constructor
 ·rintro⟨u,i,b⟩;obtain⟨e,f⟩:=d_.mp i;unfold uses at b;split at b
  ·rename_i c
   rw[List.mem_singleton]at b;exact .inr (.inr (c6.mpr ⟨u.1,u.2,e,f,by unfold gb;exact decide_eq_true c,b⟩))
  ·split at b
   ·rename_i c
    exact .inl ⟨u.2.d,c6.mpr ⟨u.1,u.2,e,f,by simp[c],Z⟩,b⟩
   ·split at b
    ·rename_i c
     exact .inr (.inl ⟨u.2.d,c6.mpr ⟨u.1,u.2,e,f,by rcases c with h|h<;>simp[h],Z⟩,b⟩)
    ·cases b
 ·rintro(⟨d,hd,b⟩|⟨d,hd,b⟩|hd)
  ·obtain⟨a,o,e,f,g,rfl⟩:=c6.mp hd;have c:o.code=60:=by simpa using g
   refine⟨(a,o),d_.mpr ⟨e,f⟩,?_⟩;unfold uses;rw[if_neg (by show¬(10≤o.code∧o.code≤32);omega),if_pos c];exact b
  ·obtain⟨a,o,e,f,g,rfl⟩:=c6.mp hd;have c:o.code=70∨o.code=71:=by simpa using g
   refine⟨(a,o),d_.mpr ⟨e,f⟩,?_⟩;unfold uses;rw[if_neg (by show¬(10≤o.code∧o.code≤32);omega),if_neg (by show¬o.code=60;omega),if_pos c];exact b
  ·obtain⟨a,o,e,f,g,rfl⟩:=c6.mp hd;have c:10≤o.code∧o.code≤32:=by unfold gb at g;simpa using g
   refine⟨(a,o),d_.mpr ⟨e,f⟩,?_⟩;unfold uses;rw[if_pos c];simp
theorem nE{m:Machine}{x:Nat}(h:x∈m.seen.tables):x<2000:=Bd (p:=(· ==60)) (fun c _ h=>by
 have:c=60:=by simpa using h
 rw[this];rfl) h
theorem pR{m:Machine}{x:Nat}(h:x∈m.seen.cards):x<2000:=Bd (p:=fun c=>c==70||c==71) (fun c _ h=>by
 have:c=70∨c=71:=by simpa using h
 rcases this with rfl|rfl<;>rfl) h
theorem xQ{x:Nat}(h:x∈uq m gb):x<2000:=Bd (fun c _ h=>by
 have:10≤c∧c≤32:=by unfold gb at h;simpa using h
 unfold addresses;have a:(c==0)=false:=by simp;omega
 have b:(c==1)=false:=by simp;omega
 have d:decide (40≤c)=false:=by simp;omega
 rw[a,b,d];rfl) h
theorem Js{n b x:Nat}(a:b<2000)(h:x∈cells n b):x<2000:=by obtain⟨k,_,rfl⟩:=List.mem_map.mp h;exact fA k a
theorem wJ{x:Nat}:(∃u∈fi m,u.1=x)↔x∈g_ m:=by
 rw[nv];unfold fi;constructor
 ·rintro⟨u,i,rfl⟩;rcases List.mem_append.mp i with h|h
  ·obtain⟨b,c,a⟩:=List.mem_flatMap.mp h;obtain⟨y,e,rfl⟩:=List.mem_map.mp a;exact .inl ⟨b,(bf.mp c).2,e⟩
  ·rcases List.mem_append.mp h with h|h
   ·obtain⟨b,c,a⟩:=List.mem_flatMap.mp h;obtain⟨y,e,rfl⟩:=List.mem_map.mp a;exact .inr (.inl ⟨b,(bf.mp c).2,e⟩)
   ·obtain⟨b,c,a⟩:=List.mem_flatMap.mp h;obtain⟨y,e,rfl⟩:=List.mem_map.mp a;have:y=b:=by
     obtain⟨k,g,rfl⟩:=List.mem_map.mp e;have:k=0:=by have:=List.mem_range.mp g;omega
     rw[this,fB]
    subst this;exact .inr (.inr (bf.mp c).2)
 ·rintro(⟨d,hd,f⟩|⟨d,hd,f⟩|hd)
  ·exact⟨(x,d),List.mem_append.mpr (.inl (List.mem_flatMap.mpr ⟨d,bf.mpr ⟨nE hd,hd⟩,List.mem_map.mpr ⟨x,f,Z⟩⟩)),Z⟩
  ·exact⟨(x,d),List.mem_append.mpr (.inr (List.mem_append.mpr (.inl (List.mem_flatMap.mpr ⟨d,bf.mpr ⟨pR hd,hd⟩,List.mem_map.mpr ⟨x,f,Z⟩⟩)))),Z⟩
  ·refine⟨(x,x),List.mem_append.mpr (.inr (List.mem_append.mpr (.inr (List.mem_flatMap.mpr ⟨x,bf.mpr ⟨xQ hd,hd⟩,List.mem_map.mpr ⟨x,?_,Z⟩⟩)))),Z⟩;exact List.mem_map.mpr ⟨0,by simp,fB x⟩
theorem zW{u:Nat×Nat}(h:u∈fi m):u.1<2000∧u.2<2000:=by
 unfold fi at h;have q:∀{l:List Nat} {n:Nat} {u:Nat×Nat},u∈(bo l).flatMap (tagged n)→u.1<2000∧u.2<2000:=fun{l n u} d=>by obtain⟨b,c,a⟩:=List.mem_flatMap.mp d;obtain⟨y,e,rfl⟩:=List.mem_map.mp a;have:=(bf.mp c).1;exact⟨Js this e,this⟩
 rcases List.mem_append.mp h with h|h
 ·exact q h
 ·rcases List.mem_append.mp h with h|h<;>exact q h
theorem qj{m:Machine}{x:Nat}:x∈m.seen.used↔x∈g_ m:=by rw[su,bf];refine⟨fun h=>h.2,fun h=>⟨?_,h⟩⟩;obtain⟨u,a,rfl⟩:=wJ.mpr h;exact(zW a).1
theorem mv{m:Machine}:(f9 m x).isSome=true↔x∈m.seen.used:=by unfold f9;rw[Option.isSome_map,List.find?_isSome,qj,← wJ];simp
theorem wC(ha:a<2000)(hm:a∈l)(c:∀b∈l,a≤b):least l=some a:=by
 unfold least;rw[List.find?_range_eq_some];refine⟨by simpa using hm,List.mem_range.mpr ha,fun j _=>?_⟩;have:j∉l:=fun h=>by have:=c j h;omega
 simpa using this
theorem wB(h:∀b∈l,¬b<2000):least l=none:=by unfold least;rw[List.find?_eq_none];intro x c a;exact h x (by simpa using a) (List.mem_range.mp c)
theorem cU(h:least l=some a):a<2000∧a∈l∧∀b∈l,a≤b:=by unfold least at h;rw[List.find?_range_eq_some]at h;obtain⟨c,d,e⟩:=h;refine⟨List.mem_range.mp d,by simpa using c,fun b f=>Nat.le_of_not_lt fun bL=>?_⟩;have:=e b bL;simp at this;exact this f
theorem cT(h:least l=none):∀b∈l,¬b<2000:=fun b a bL=>by unfold least at h;rw[List.find?_eq_none]at h;exact h b (List.mem_range.mpr bL) (by simpa using a)
theorem DC(h:∀x,x∈l↔x∈b):least l=least b:=by
 have:(fun a=>l.contains a)=fun a=>b.contains a:=funext fun x=>by rw[Bool.eq_iff_iff];simpa using h x
 unfold least;rw[this]
theorem qf{l:List Nat}(r:l.Pairwise (·<·))(o:∀x∈l,x<2000){i a:Nat}(c:l[i]?=some a)(q:p a=true)(e:∀j b,j<i→l[j]?=some b→p b=false):least (l.filter p)=some a:=by
 refine wC (o a (List.mem_of_getElem? c)) (List.mem_filter.mpr ⟨List.mem_of_getElem? c,q⟩) fun b n=>?_;obtain⟨m,f⟩:=List.mem_filter.mp n;obtain⟨j,d⟩:=List.mem_iff_getElem?.mp m;rcases Nat.lt_trichotomy j i with h|h|h
 ·rw[e j b h d]at f;cases f
 ·subst h;rw[c]at d;cases d;exact Nat.le_refl _
 ·obtain⟨g,s⟩:=List.getElem?_eq_some_iff.mp c;obtain⟨k,t⟩:=List.getElem?_eq_some_iff.mp d;have:=List.pairwise_iff_getElem.mp r i j g k h;omega
theorem qg{l:List Nat}(a:∀b∈l,p b=false):least (l.filter p)=none:=by
 have:l.filter p=[]:=List.filter_eq_nil_iff.mpr fun b c=>by rw[a b c];decide
 rw[this];exact wB nofun
theorem sN(b k:Nat):band (around b k)=band b:=by unfold band around PLACES;omega
theorem cp:x∈cells 40 b↔band x=band b:=by
 unfold cells;rw[List.mem_map];constructor
 ·rintro⟨k,_,rfl⟩;exact sN b k
 ·intro h;refine⟨(x % 40+40-b % 40) % 40,List.mem_range.mpr (by omega),?_⟩;unfold band PLACES at h;unfold around PLACES;omega
theorem vA(h:x∈cells n b):band x=band b:=by obtain⟨k,_,rfl⟩:=List.mem_map.mp h;exact sN b k
theorem cW(h:0<n):b∈cells n b:=List.mem_map.mpr ⟨0,List.mem_range.mpr h,fB b⟩
theorem CY(h:n≤40):(cells n b).Nodup:=by unfold cells;rw[List.nodup_iff_pairwise_ne,List.pairwise_map];refine List.Pairwise.imp_of_mem ?_ (List.pairwise_lt_range (n:=n));intro i j a d c e;have f:=List.mem_range.mp a;have g:=List.mem_range.mp d;unfold around PLACES at e;omega
def hits(n a b:Nat):Bool:=(cells n b).any fun x=>(cells n a).contains x
theorem qb:hits n a b=true↔∃x,x∈cells n a∧x∈cells n b:=by
 unfold hits;rw[List.any_eq_true];constructor
 ·rintro⟨x,c,d⟩;exact⟨x,by simpa using d,c⟩
 ·rintro⟨x,c,d⟩;exact⟨x,d,by simpa using c⟩
noncomputable def FO(n:Nat)(S:List Nat):List Nat:=S.filter fun b=>S.any fun a=>decide (a<b)&&hits n a b
def Jk(B:List Nat)(a:Nat):Bool:=B.any fun b=>band a==band b&&b != a
def md(B C:List Nat):List Nat:=C.filter (Jk B)
theorem nu:b∈FO n S↔b∈S∧∃a∈S,a<b∧∃x,x∈cells n a∧x∈cells n b:=by
 unfold FO;rw[List.mem_filter,List.any_eq_true];refine and_congr Iff.rfl ?_;constructor
 ·rintro⟨a,d,c⟩;rw[Bool.and_eq_true,decide_eq_true_eq,qb]at c;exact⟨a,d,c⟩
 ·rintro⟨a,d,c⟩;exact⟨a,d,by rw[Bool.and_eq_true,decide_eq_true_eq,qb];exact c⟩
theorem z_:a∈md B C↔a∈C∧∃b∈B,band a=band b∧b≠a:=by unfold md Jk;rw[List.mem_filter,List.any_eq_true];simp
theorem fI{m:Machine}{x:Nat}:x∈bo m.seen.tables↔x∈m.seen.tables:=by rw[bf];exact⟨fun h=>h.2,fun h=>⟨nE h,h⟩⟩
theorem fH{m:Machine}{x:Nat}:x∈bo m.seen.cards↔x∈m.seen.cards:=by rw[bf];exact⟨fun h=>h.2,fun h=>⟨pR h,h⟩⟩
def clashes(m:Machine):List Nat:=FO 40 (bo m.seen.tables)++(FO 8 (bo m.seen.cards)++md (bo m.seen.tables) (bo m.seen.cards))
theorem z9{T:List Nat}{q:Nat→Nat→Bool}(g:∀a b,q a b=true→q b a=true)(e:∀a b,q a b=true→a≠b):x∈(T.flatMap fun a=>(T.filter fun b=>q a b).map fun b=>max a b)↔x∈T∧∃a∈T,a<x∧q a x=true:=by
 rw[List.mem_flatMap];constructor
 ·rintro⟨a,ha,h⟩;obtain⟨b,f,rfl⟩:=List.mem_map.mp h;obtain⟨d,c⟩:=List.mem_filter.mp f;have:=e a b c;rcases Nat.lt_or_gt_of_ne this with bL|bL
  ·rw[Nat.max_eq_right (Nat.le_of_lt bL)];exact⟨d,a,ha,bL,c⟩
  ·rw[Nat.max_eq_left (Nat.le_of_lt bL)];exact⟨ha,b,d,bL,g a b c⟩
 ·rintro⟨i,a,ha,bL,h⟩;exact⟨a,ha,List.mem_map.mpr ⟨x,List.mem_filter.mpr ⟨i,h⟩,Nat.max_eq_right (Nat.le_of_lt bL)⟩⟩
theorem kI:across a b=true↔a≠b∧∃x,x∈cells 8 a∧x∈cells 8 b:=by unfold across;rw[Bool.and_eq_true,List.any_eq_true];simp only[bne_iff_ne,ne_eq,List.contains_iff_mem];exact Iff.rfl
theorem DI{m:Machine}{x:Nat}:x∈m.seen.crossed↔x∈clashes m:=by
 unfold Seen.crossed clashes;rw[List.mem_append,List.mem_append,List.mem_append,List.mem_append,nu,nu,z_,
  z9 (fun a b h=>by simp at h ⊢;exact⟨h.1.symm,fun z=>h.2 z.symm⟩) (fun a b h=>by simp at h;exact h.2),
  z9 (fun a b h=>by rw[kI]at h ⊢;exact⟨fun z=>h.1 z.symm,h.2.imp fun _ q=>⟨q.2,q.1⟩⟩) (fun a b h=>(kI.mp h).1)]
 simp only[fI,fH];refine or_congr ?_ (or_congr ?_ ?_)
 ·refine and_congr Iff.rfl ⟨?_,?_⟩
  ·rintro⟨a,d,c,e⟩;simp at e;exact⟨a,d,c,x,cp.mpr e.1.symm,cW (by decide)⟩
  ·rintro⟨a,d,c,y,e,f⟩;refine⟨a,d,c,?_⟩;simp;exact⟨(cp.mp e).symm.trans (cp.mp f),by omega⟩
 ·refine and_congr Iff.rfl ⟨?_,?_⟩
  ·rintro⟨a,d,c,e⟩;exact⟨a,d,c,(kI.mp e).2⟩
  ·rintro⟨a,d,c,e⟩;exact⟨a,d,c,kI.mpr ⟨by omega,e⟩⟩
 ·rw[List.mem_filter,List.any_eq_true];refine and_congr Iff.rfl ⟨?_,?_⟩
  ·rintro⟨b,d,c⟩;simp at c;exact⟨b,d,c.1,fun z=>c.2 z.symm⟩
  ·rintro⟨b,d,c,e⟩;exact⟨b,d,by simp;exact⟨c,fun z=>e z.symm⟩⟩
theorem yI(m:Machine):least m.seen.crossed=least (clashes m):=DC fun _=>DI
structure Clean(m:Machine):Prop where
 good:∀a∈m.seen.orders,∃o,m.orderAt a=some o
 apart:∀a∈m.seen.orders,a∉m.seen.used
 tab:∀a∈m.seen.tables,∀b∈m.seen.tables,band a=band b→a=b
 C3:∀a∈m.seen.cards,∀b∈m.seen.cards,∀x,x∈cells 8 a→x∈cells 8 b→a=b
 mix:∀a∈m.seen.cards,∀b∈m.seen.tables,band a=band b→b=a
theorem eK{m:Machine}{a:Nat}(h:a∈m.seen.orders):a<2000:=by rw[cQ]at h;exact(bf.mp h).1
theorem Fb{a:Nat}(h:a∈clashes m):a<2000:=by
 unfold clashes at h;rcases List.mem_append.mp h with h|h
 ·exact(bf.mp (List.mem_filter.mp h).1).1
 ·rcases List.mem_append.mp h with h|h
  ·exact(bf.mp (List.mem_filter.mp h).1).1
  ·exact(bf.mp (List.mem_filter.mp h).1).1
def eO(m:Machine):List Nat:=m.seen.orders.filter fun a=>(m.orderAt a).isNone
def dI(m:Machine):List Nat:=m.seen.orders.filter fun a=>m.seen.used.contains a
theorem EI(m:Machine):m.seen.unlisted m=match least (eO m)with
  |some a=>some (1,a)
  |none=>match least (dI m)with
   |some a=>some (2,a)
   |none=>(least (clashes m)).map fun a=>(3,a):=by
 rw[← yI];rfl
theorem CZ(p:least (eO m)=none)(q:least (dI m)=none)(r:least (clashes m)=none):Clean m:=by
 have l:∀a∈eO m,False:=fun a h=>cT p a h (eK (List.mem_filter.mp h).1);have n:∀a∈dI m,False:=fun a h=>cT q a h (eK (List.mem_filter.mp h).1);have i:∀a∈clashes m,False:=fun a h=>cT r a h (Fb h);have j:∀b,b∈FO 40 (bo m.seen.tables)→False:=fun b h=>i b (List.mem_append.mpr (.inl h));have k:∀b,b∈FO 8 (bo m.seen.cards)→False:=fun b h=>i b (List.mem_append.mpr (.inr (List.mem_append.mpr (.inl h))));have t:∀b,b∈md (bo m.seen.tables) (bo m.seen.cards)→False:=fun b h=>i b (List.mem_append.mpr (.inr (List.mem_append.mpr (.inr h))));refine⟨fun a ha=>?_,fun a ha s=>?_,fun a ha b d c=>?_,fun a ha b d x f g=>?_,fun a ha b d c=>?_⟩
 ·cases e:m.orderAt a with
  |some o=>exact⟨o,Z⟩
  |none=>exact(l a (List.mem_filter.mpr ⟨ha,by rw[e];rfl⟩)).elim
 ·exact n a (List.mem_filter.mpr ⟨ha,by simpa using s⟩)
 ·rcases Nat.lt_trichotomy a b with h|h|h
  ·exact(j b (nu.mpr ⟨fI.mpr d,a,fI.mpr ha,h,a,cW (by decide),cp.mpr c⟩)).elim
  ·exact h
  ·exact(j a (nu.mpr ⟨fI.mpr ha,b,fI.mpr d,h,b,cW (by decide),cp.mpr c.symm⟩)).elim
 ·rcases Nat.lt_trichotomy a b with h|h|h
  ·exact(k b (nu.mpr ⟨fH.mpr d,a,fH.mpr ha,h,x,f,g⟩)).elim
  ·exact h
  ·exact(k a (nu.mpr ⟨fH.mpr ha,b,fH.mpr d,h,x,g,f⟩)).elim
 ·by_cases e:b=a
  ·exact e
  ·exact(t a (z_.mpr ⟨fH.mpr ha,b,fI.mpr d,c,e⟩)).elim
theorem E7(s:Seen)(a:Nat):s.blockOf a=match s.tables.find? fun b=>band a==band b with
  |some b=>(b,40)
  |none=>match s.cards.find? fun b=>(cells 8 b).contains a with
   |some b=>(b,8)
   |none=>(a,1):=id Z
inductive Bk(m:Machine)(x:Nat):Nat→Nat→Prop
 |tab {b:Nat}:b∈m.seen.tables→band x=band b→Bk m x b 40
 |C3 {c:Nat}:(∀b∈m.seen.tables,band x≠band b)→c∈m.seen.cards→x∈cells 8 c→Bk m x c 8
 |one:(∀b∈m.seen.tables,band x≠band b)→(∀c∈m.seen.cards,x∉cells 8 c)→Bk m x x 1
theorem eQ(m:Machine)(x:Nat):Bk m x (m.seen.blockOf x).1 (m.seen.blockOf x).2:=by
 rw[E7];cases d:m.seen.tables.find? (fun b=>band x==band b)with
 |some b=>
  have a:=List.find?_some d;exact .tab (List.mem_of_find?_eq_some d) (by simpa using a)
 |none=>
  have f:∀b∈m.seen.tables,band x≠band b:=fun b h e=>by have:=List.find?_eq_none.mp d b h;simp at this;exact this e
  dsimp only;cases a:m.seen.cards.find? (fun b=>(cells 8 b).contains x)with
  |some c=>
   have g:=List.find?_some a;exact .C3 f (List.mem_of_find?_eq_some a) (by simpa using g)
  |none=>
   refine .one f fun c i e=>?_;have:=List.find?_eq_none.mp a c i;simp at this;exact this e
theorem Bk.uniq(C:Clean m)(h:Bk m x b n)(h':Bk m x i j):b=i∧n=j:=by
 cases h with
 |tab e d=>
  cases h' with
  |tab a c=>exact⟨C.tab _ e _ a (d.symm.trans c),Z⟩
  |C3 a _ _=>exact absurd d (a _ e)
  |one a _=>exact absurd d (a _ e)
 |C3 e d g=>
  cases h' with
  |tab a c=>exact absurd c (e _ a)
  |C3 a c f=>exact⟨C.C3 _ d _ c x g f,Z⟩
  |one a c=>exact absurd g (c _ d)
 |one e d=>
  cases h' with
  |tab a c=>exact absurd c (e _ a)
  |C3 a c f=>exact absurd f (d _ c)
  |one _ _=>exact⟨Z,Z⟩
theorem Bk.block{m:Machine}(C:Clean m)(h:Bk m x b n):m.seen.blockOf x=(b,n):=by obtain⟨a,c⟩:=(eQ m x).uniq C h;rw[← a,← c]
theorem Bk.le(h:Bk m x b n):n≤40∧0<n:=by cases h<;>decide
def jP(m:Machine)(y:Nat):Prop:=y∈m.seen.used∧(m.seen.blockOf y).1=y
instance (m:Machine) (y:Nat):Decidable (jP m y):=inferInstanceAs (Decidable (_∧_))
theorem EL{m:Machine}{x b:Nat}(a:b∈m.seen.tables)(h:x∈cells 40 b):x∈m.seen.used:=qj.mpr (nv.mpr (.inl ⟨b,a,h⟩))
theorem EK{m:Machine}{x b:Nat}(a:b∈m.seen.cards)(h:x∈cells 8 b):x∈m.seen.used:=qj.mpr (nv.mpr (.inr (.inl ⟨b,a,h⟩)))
theorem va{m:Machine}(_:Clean m)(f:x∈m.seen.used)(h:Bk m x b n):x∈cells n b∧b∈m.seen.used∧Bk m b b n:=by
 cases h with
 |tab a c=>exact⟨cp.mpr c,EL a (cW (by decide)),.tab a Z⟩
 |C3 a c d=>
  refine⟨d,EK c (cW (by decide)),.C3 (fun b e=>?_) c (cW (by decide))⟩;rw[← vA d];exact a b e
 |one a c=>exact⟨cW (by decide),f,.one a c⟩
theorem JR{m:Machine}(j:b∈m.seen.used)(h:Bk m b c n)(f:c=b)(d:x∈cells n c):x∈m.seen.used∧Bk m x c n:=by
 cases h with
 |tab a e=>exact⟨EL a d,.tab a (cp.mp d)⟩
 |C3 a e l=>
  refine⟨EK e d,.C3 (fun t i=>?_) e d⟩;rw[vA d,f];exact a t i
 |one a e=>
  have:x=b:=by
   obtain⟨k,g,rfl⟩:=List.mem_map.mp d;have:k=0:=by have:=List.mem_range.mp g;omega
   rw[this,fB]
  subst this;exact⟨j,.one a e⟩
theorem Lx{m:Machine}(_:Clean m)(a:b∈m.seen.used)(h:Bk m b b n)(c:x∈cells n b):x∈m.seen.used∧Bk m x b n:=JR a h Z c
theorem nj{m:Machine}(C:Clean m)(P:x∈m.seen.used):f9 m x=some (m.seen.blockOf x).1:=by
 have B:=mv.mpr P;unfold f9 at B ⊢;cases e:(fi m).find? (fun u=>u.1==x)with
 |none=>rw[e]at B;cases B
 |some u=>
  have D:u.1=x:=by simpa using List.find?_some e
  have hm:=List.mem_of_find?_eq_some e;have t:∀{l:List Nat} {n:Nat} {v:Nat×Nat},v∈(bo l).flatMap (tagged n)→v.2∈l∧v.1∈cells n v.2:=fun{l n v} h=>by obtain⟨b,i,r⟩:=List.mem_flatMap.mp h;obtain⟨y,Q,rfl⟩:=List.mem_map.mp r;exact⟨(bf.mp i).2,Q⟩
  have mk:∀{l:List Nat} {n:Nat} {b y:Nat},b<2000→b∈l→y∈cells n b→(y,b)∈(bo l).flatMap (tagged n):=fun{l n b y} I q r=>
   List.mem_flatMap.mpr ⟨b,bf.mpr ⟨I,q⟩,List.mem_map.mpr ⟨y,r,Z⟩⟩
  obtain⟨_,as,bs,L,O⟩:=List.find?_eq_some_iff_append.mp e;have E:Bk m x u.2 (m.seen.blockOf x).2:=by
   unfold fi at hm L;by_cases H:∃b∈m.seen.tables,band x=band b
   ·obtain⟨b,i,s⟩:=H;have z:Bk m x b 40:=.tab i s;have w:(m.seen.blockOf x).2=40:=((eQ m x).uniq C z).2;rw[w];have A:∃v,((bo m.seen.tables).flatMap (tagged 40)).find? (fun u=>u.1==x)=some v:=by rw[← Option.isSome_iff_exists,List.find?_isSome];exact⟨(x,b),mk (nE i) i (cp.mpr s),by simp⟩
    obtain⟨v,f⟩:=A;unfold fi at e;rw[List.find?_append,f]at e;cases e;obtain⟨g,g2⟩:=t (List.mem_of_find?_eq_some f);exact .tab g (by rw[← D];exact cp.mp g2)
   ·have d:∀b∈m.seen.tables,band x≠band b:=fun b i M=>H ⟨b,i,M⟩;have A:((bo m.seen.tables).flatMap (tagged 40)).find? (fun u=>u.1==x)=none:=by
     rw[List.find?_eq_none];intro v f p;obtain⟨g,g2⟩:=t f;have:v.1=x:=by simpa using p
     rw[this]at g2;exact d _ g (cp.mp g2)
    unfold fi at e;rw[List.find?_append,A,Option.none_or]at e;by_cases G:∃c∈m.seen.cards,x∈cells 8 c
    ·obtain⟨c,j,a⟩:=G;have J:(m.seen.blockOf x).2=8:=((eQ m x).uniq C (.C3 d j a)).2;rw[J];have o:∃v,((bo m.seen.cards).flatMap (tagged 8)).find? (fun u=>u.1==x)=some v:=by rw[← Option.isSome_iff_exists,List.find?_isSome];exact⟨(x,c),mk (pR j) j a,by simp⟩
     obtain⟨v,f⟩:=o;rw[List.find?_append,f]at e;cases e;obtain⟨g,g2⟩:=t (List.mem_of_find?_eq_some f);rw[D]at g2;exact .C3 d g g2
    ·have a:∀c∈m.seen.cards,x∉cells 8 c:=fun c q r=>G ⟨c,q,r⟩;have q:(m.seen.blockOf x).2=1:=((eQ m x).uniq C (.one d a)).2;rw[q];have o:((bo m.seen.cards).flatMap (tagged 8)).find? (fun u=>u.1==x)=none:=by
      rw[List.find?_eq_none];intro v f p;obtain⟨g,g2⟩:=t f;have:v.1=x:=by simpa using p
      rw[this]at g2;exact a _ g g2
     rw[List.find?_append,o,Option.none_or]at e;obtain⟨_,g2⟩:=t (List.mem_of_find?_eq_some e);have:u.2=x:=by
      obtain⟨k,N,F⟩:=List.mem_map.mp g2;have:k=0:=by have:=List.mem_range.mp N;omega
      rw[this,fB,D]at F;exact F
     rw[this];exact .one d a
  have:=(E.uniq C (eQ m x)).1;show some u.2=_;rw[this]
def jO(m:Machine)(y:Nat):Nat:=(m.seen.used.filter fun x=>f9 m x==some y).length
theorem yb(m:Machine):m.seen.used.Nodup:=by rw[su];exact fw _
theorem vB{m:Machine}(C:Clean m)(f:y∈m.seen.used)(h:Bk m y y n):jO m y=n:=by
 unfold jO;have p:(m.seen.used.filter fun x=>f9 m x==some y).Perm (cells n y):=by
  refine(List.perm_ext_iff_of_nodup ((yb m).sublist List.filter_sublist) (CY h.le.1)).mpr fun x=>?_;rw[List.mem_filter];constructor
  ·rintro⟨b,c⟩;rw[nj C b]at c;have e:(m.seen.blockOf x).1=y:=by simpa using c
   obtain⟨a,_,h3⟩:=va C b (eQ m x);rw[e]at a h3;rw[(h3.uniq C h).2]at a;exact a
  ·intro b;obtain⟨a,d⟩:=Lx C f h b;refine⟨a,?_⟩;rw[nj C a,d.block C];simp
 rw[p.length_eq];unfold cells;simp
theorem La(C:Clean m)(h:¬jP m y):jO m y=0:=by
 unfold jO;rw[List.length_eq_zero_iff,List.filter_eq_nil_iff];intro x d c;rw[nj C d]at c;have e:(m.seen.blockOf x).1=y:=by simpa using c
 obtain⟨f,a,b⟩:=va C d (eQ m x);rw[e]at a b;exact h ⟨a,by rw[b.block C]⟩
theorem jP.bk{m:Machine}(h:jP m y):Bk m y y (m.seen.blockOf y).2:=by have:=eQ m y;rw[h.2]at this;exact this
theorem nh(C:Clean m):jO m y≠0↔jP m y:=by
 constructor
 ·intro h;exact Classical.byContradiction fun hn=>h (La C hn)
 ·intro h;rw[vB C h.1 h.bk];have:=h.bk.le.2;omega
def aX(m:Machine):List Nat:=(List.range 2000).filter fun y=>jO m y != 0
theorem nG{m:Machine}{x:Nat}(h:x∈m.seen.used):x<2000:=by rw[su]at h;exact(bf.mp h).1
theorem cK(C:Clean m):y∈aX m↔jP m y:=by unfold aX;rw[List.mem_filter,List.mem_range,bne_iff_ne,nh C];exact⟨fun h=>h.2,fun h=>⟨nG h.1,h⟩⟩
theorem gT(m:Machine):(aX m).Nodup:=List.nodup_range.sublist List.filter_sublist
theorem Dq{m:Machine}:(m.seen.listed.find? fun u=>u.1==a)=if a∈m.seen.orders then(m.orderAt a).map fun o=>(a,o)else none:=by
 cases e:m.seen.listed.find? (fun u=>u.1==a)with
 |some u=>
  have b:u.1=a:=by simpa using List.find?_some e
  obtain⟨c,d⟩:=d_.mp (List.mem_of_find?_eq_some e);rw[b]at c d;rw[if_pos c,d,← b];rfl
 |none=>
  split
  ·rename_i h
   cases f:m.orderAt a with
   |none=>rfl
   |some o=>
    have:=List.find?_eq_none.mp e (a,o) (d_.mpr ⟨h,f⟩);simp at this
  ·rfl
noncomputable def itemOf(m:Machine)(a:Nat):Item:=if a∈m.seen.orders then m.seen.orderItem a (orderOf (m.at_ a))else .numbers (addressName a) ((List.range (m.seen.blockOf a).2).map fun k=>m.at_ (around a k))
theorem zY{m:Machine}(C:Clean m)(a:Nat):m.seen.itemAt m a=if a∈m.seen.orders∨jP m a then[(itemOf m a,a)]else[]:=by
 unfold Seen.itemAt itemOf;rw[Dq];by_cases h:a∈m.seen.orders
 ·obtain⟨o,c⟩:=C.good a h;rw[if_pos h,c,if_pos h,(cO c).2,if_pos (show a∈m.seen.orders∨jP m a from .inl h)];rfl
 ·rw[if_neg h];dsimp only;by_cases b:jP m a
  ·rw[if_pos (show _∧_ from⟨by simpa using b.1,b.2⟩),if_pos (.inr b),if_neg h]
  ·rw[if_neg (fun z=>b ⟨by simpa using z.1,z.2⟩),if_neg (fun z=>z.elim h b)]
def a8(m:Machine):List Nat:=m.next::(bo (m.seen.orders++aX m)).filter fun a=>a != m.next
theorem o6{m:Machine}(hn:m.next<2000):m.next∈m.seen.orders:=(oY hn).mpr .start
theorem FW{m:Machine}(C:Clean m)(hn:m.next<2000):m.seen.program m=(a8 m).map fun a=>(itemOf m a,a):=by
 unfold Seen.program a8;rw[zY C,if_pos (.inl (o6 hn)),List.map_cons,List.singleton_append];refine congrArg (fun z=>(itemOf m m.next,m.next)::z) ?_;have e:(List.range WORDS).filter (fun a=>a != m.next)=(List.range WORDS).filter (fun a=>a != m.next):=rfl;have b:∀l:List Nat,l.flatMap (m.seen.itemAt m)=(l.filter fun a=>decide (a∈m.seen.orders++aX m)).map fun a=>(itemOf m a,a):=by
  intro l
  induction l with
  |nil=>rfl
  |cons a r c=>
   rw[List.flatMap_cons,c,zY C,List.filter_cons];have:(a∈m.seen.orders∨jP m a)↔a∈m.seen.orders++aX m:=by rw[List.mem_append,cK C]
   by_cases h:a∈m.seen.orders++aX m
   ·rw[if_pos (this.mpr h),if_pos (decide_eq_true h)];rfl
   ·rw[if_neg (fun z=>h (this.mp z)),if_neg (by simpa using h)];rfl
 rw[b];unfold bo;rw[List.filter_filter,List.filter_filter];refine congrArg (List.map _) (List.filter_congr fun a _=>?_);rw[Bool.and_comm];congr 1;rw[Bool.eq_iff_iff];simp
theorem tj{m:Machine}(C:Clean m)(hn:m.next<2000):(a8 m).length=m.seen.orders.length+(aX m).length:=by
 have c:(m.seen.orders++aX m).Nodup:=by rw[List.nodup_append];refine⟨by rw[cQ];exact fw _,gT m,fun a ha b d e=>?_⟩;subst e;exact C.apart a ha ((cK C).mp d).1
 have bL:∀x∈m.seen.orders++aX m,x<2000:=fun x f=>by
  rcases List.mem_append.mp f with h|h
  ·exact eK h
  ·exact nG ((cK C).mp h).1
 have p:(a8 m).Perm (m.seen.orders++aX m):=by
  refine(List.perm_ext_iff_of_nodup ?_ c).mpr fun x=>?_
  ·unfold a8;rw[List.nodup_cons];refine⟨fun h=>?_,(fw _).sublist List.filter_sublist⟩;have:=(List.mem_filter.mp h).2;simp at this
  ·unfold a8;rw[List.mem_cons,List.mem_filter,bf];constructor
   ·rintro(rfl|h)
    ·exact List.mem_append.mpr (.inl (o6 hn))
    ·exact h.1.2
   ·intro h;by_cases e:x=m.next
    ·exact .inl e
    ·exact .inr ⟨⟨bL x h,h⟩,by simpa using e⟩
 rw[p.length_eq,List.length_append]
def qa(m:Machine):Option (Nat×Nat):=match least (eO m)with
 |some a=>some (1,a)
 |none=>match least (dI m)with
  |some a=>some (2,a)
  |none=>match least (clashes m)with
   |some a=>some (3,a)
   |none=>if 400<m.seen.orders.length+(aX m).length then some (4,0)else none
theorem wg(h:qa m=none):Clean m:=by
 unfold qa at h;cases b:least (eO m)with
 |some a=>rw[b]at h;cases h
 |none=>
  cases c:least (dI m)with
  |some a=>rw[b,c]at h;cases h
  |none=>
   cases d:least (clashes m)with
   |some a=>rw[b,c,d]at h;cases h
   |none=>exact CZ b c d
def kz(m:Machine):Bytes:=(a8 m).flatMap fun a=>(itemOf m a).text
theorem list_eq{m:Machine}(hn:m.next<2000):m.list=match qa m with
  |some f=>.error f
  |none=>.ok (kz m,a8 m):=by
 unfold Machine.list;dsimp only;rw[EI];unfold qa;cases b:least (eO m)with
 |some a=>rfl
 |none=>
  cases c:least (dI m)with
  |some a=>rfl
  |none=>
   cases d:least (clashes m)with
   |some a=>rfl
   |none=>
    have C:=CZ b c d;dsimp only[Option.map_none];rw[FW C hn,List.length_map,tj C hn];rw[show ITEMS=400 from Z];by_cases h:400<m.seen.orders.length+(aX m).length
    ·rw[if_pos h,if_pos h]
    ·rw[if_neg h,if_neg h];dsimp only;rw[List.map_map,List.map_map];refine congrArg Except.ok (Prod.ext ?_ ?_)
     ·show text _=kz m;unfold text kz;rw[List.flatMap_map];rfl
     ·show(a8 m).map _=a8 m;exact List.map_id _
end DM
open List (all_cons all_eq_true all_map any_cons any_eq_true any_map append_assoc append_nil cons drop_drop drop_eq_nil_of_le drop_length drop_zero filter_append filter_cons filter_nil find?_cons flatMap_append flatMap_cons flatMap_nil flatten_cons foldl getD_eq_getElem?_getD getElem?_eq_getElem getElem?_eq_none getElem?_map getElem?_range getElem?_take getElem_map getElem_range getElem_take length length_append length_cons length_drop length_dropLast length_eq_zero_iff length_filter_le length_map length_nil length_pos_iff length_range length_replicate length_take lookup_cons map map_append map_congr_left map_cons map_drop map_map map_nil map_singleton map_take mem_append mem_append_right mem_cons mem_cons_of_mem mem_cons_self mem_filter mem_filterMap mem_iff_getElem? mem_map mem_of_getElem? mem_singleton nil_append nodup_append nodup_cons nodup_nil not_mem_nil of_mem_zip range range_succ range_zero replicate replicate_succ size_toArray sum sum_cons take_length take_of_length_le take_zero)
open PySem.W (Frag Looks WalkOS callWith_K cellsFrom_some codeIn emptyDict findIn fnOf handedIn hasDictIn instObj isFn kdl_dict keepIn kia_one kitOne kitx_dict kitx_list lookIn makesIn methodCall_KW methodObj mg_of mroIn nsIn plainGet plainGet_of plainOver specialIn takerIn takesIn typeIn)
open PySem.W (WData Codec OpenSpec Well WellAll ReadsW ReadsAllW)
namespace L2
open PySem PySem.Spec PyProof.Rows
abbrev Key:=Sum Int Str
def qe:Key→Value→Bool
 |.inl k,v=>Value.isInt k v
 |.inr x,v=>Value.isStrOf x v
def QY(w:World):Key→Int
 |.inl k=>hashInt k
 |.inr x=>hashStr w x
theorem ck:∀{k:Key} {v:Value},qe k v=true→(∃i t,k=Sum.inl i∧v=Value.int i t)∨(∃x t,k=Sum.inr x∧v=Value.str x t)
 |.inl i,v,h=>by obtain⟨t,e⟩:=Value.isInt_shape (k:=i) (v:=v) h;exact .inl ⟨i,t,Z,e⟩
 |.inr x,v,h=>by obtain⟨t,e⟩:=Value.isStrOf_shape (x:=x) (v:=v) h;exact .inr ⟨x,t,Z,e⟩
theorem z7(i:Int)(t:Tok):qe (.inl i) (.int i t)=true:=by simp[qe,Value.isInt]
theorem H0(x:Str)(t:Tok):qe (.inr x) (.str x t)=true:=by simp[qe,Value.isStrOf]
theorem NA(a b:Int):decide ((Sum.inl a:Key)=Sum.inl b)=(a==b):=by
 by_cases e:a=b
 ·subst e;simp
 ·have h:¬(Sum.inl a:Key)=Sum.inl b:=fun q=>e (Sum.inl.inj q);rw[decide_eq_false h];exact(beq_eq_false_iff_ne.mpr e).symm
theorem ND(a b:Str):decide ((Sum.inr a:Key)=Sum.inr b)=decide (a=b):=by
 by_cases e:a=b
 ·subst e;simp
 ·have h:¬(Sum.inr a:Key)=Sum.inr b:=fun q=>e (Sum.inr.inj q);rw[decide_eq_false h,decide_eq_false e]
theorem NB(a:Int)(b:Str):decide ((Sum.inl a:Key)=Sum.inr b)=false:=decide_eq_false (fun q=>nomatch q)
theorem NC(a:Str)(b:Int):decide ((Sum.inr a:Key)=Sum.inl b)=false:=decide_eq_false (fun q=>nomatch q)
def bp(prog:Program)(w:World):PySem.KeyKind prog w Key where
 is:=qe
 hash:=QY w
 inj:=fun v a b ha z=>by
  rcases ck ha with⟨i,t,rfl,rfl⟩|⟨x,t,rfl,rfl⟩
  ·rcases ck z with⟨j,u,rfl,e⟩|⟨y,u,rfl,e⟩
   ·injection e with n _;rw[n]
   ·exact nomatch e
  ·rcases ck z with⟨j,u,rfl,e⟩|⟨y,u,rfl,e⟩
   ·exact nomatch e
   ·injection e with n _;rw[n]
 byValue:=fun k v h=>by rcases ck h with⟨i,t,rfl,rfl⟩|⟨x,t,rfl,rfl⟩<;>rfl
 pyHash:=fun q h=>by
  rcases ck q with⟨i,t,rfl,rfl⟩|⟨x,t,rfl,rfl⟩
  ·exact wpAny_pyHash_int h
  ·exact wpAny_pyHash_str h
 eqBool:=fun B q h=>by
  rcases ck B with⟨i,t,rfl,rfl⟩|⟨x,t,rfl,rfl⟩
  ·rcases ck q with⟨j,u,rfl,rfl⟩|⟨y,u,rfl,rfl⟩
   ·rw[NA]at h;exact wpAny_eqBool_int h
   ·rw[NB]at h;exact SeqAt.EqAt.int_str i t y u _ _ _ _ h
  ·rcases ck q with⟨j,u,rfl,rfl⟩|⟨y,u,rfl,rfl⟩
   ·rw[NC]at h;exact SeqAt.EqAt.str_int x t j u _ _ _ _ h
   ·rw[ND]at h;exact wpAny_eqBool_str h
 «strs»:=fun k x t v h=>by
  rcases ck h with⟨i,u,rfl,e⟩|⟨y,u,rfl,e⟩
  ·exact nomatch e
  ·injection e with n _
   subst n;cases v<;>rfl
theorem DJ(prog:Program)(w:World)(i:Int)(t:Tok):(bp prog w).is (.inl i) (.int i t)=true:=z7 i t
theorem DK(prog:Program)(w:World)(x:Str)(t:Tok):(bp prog w).is (.inr x) (.str x t)=true:=H0 x t
end L2
namespace L2
open PySem PySem.Spec PyProof.Rows
inductive V where
 |bV|bl (b:Bool)|int (i:Int)|str (x:Str)|E1 (b:Array UInt8)|Nu (b:UInt64)|ref (a:Addr)|ty (n:String)
 deriving DecidableEq
def RelV:V→Value→Prop
 |.bV,u=>u=Value.none
 |.bl b,u=>u=Value.bool b
 |.int i,u=>∃t,u=Value.int i t
 |.str x,u=>∃t,u=Value.str x t
 |.E1 b,u=>∃t,u=Value.bytes b t
 |.Nu b,u=>∃t,u=Value.float b t
 |.ref a,u=>u=Value.ref a
 |.ty n,u=>u=Value.type n
abbrev Vals:List V→List Value→Prop:=Paired RelV
theorem Vals.length{xs:List V}{us:List Value}(r:Vals xs us):xs.length=us.length:=Paired.length r
theorem Vals.get:∀{xs:List V} {us:List Value} {i:Nat} {x:V},Vals xs us→xs[i]?=some x→∃u,us[i]?=some u∧RelV x u
 |_,_,_,_,.nil,e=>by simp at e
 |_,_,0,_,.cons r _,e=>by simp at e;subst e;exact⟨_,Z,r⟩
 |_,_,i+1,x,.cons _ t,e=>by obtain⟨u,h1,h2⟩:=Vals.get (i:=i) (x:=x) t (by simpa using e);exact⟨u,by simpa using h1,h2⟩
theorem Vals.set{x:V}{u:Value}(r:RelV x u):∀{xs:List V} {us:List Value} (i:Nat),Vals xs us→Vals (xs.set i x) (us.set i u)
 |_,_,_,.nil=>.nil
 |_,_,0,.cons _ t=>.cons r t
 |_,_,i+1,.cons q t=>.cons q (Vals.set r i t)
theorem Vals.append:∀{xs ys:List V} {us ws:List Value},Vals xs us→Vals ys ws→Vals (xs++ys) (us++ws)
 |_,_,_,_,.nil,s=>s
 |_,_,_,_,.cons r t,s=>.cons r (Vals.append t s)
theorem Vals.take:∀{xs:List V} {us:List Value} (n:Nat),Vals xs us→Vals (xs.take n) (us.take n)
 |_,_,0,_=>.nil
 |_,_,_+1,.nil=>.nil
 |_,_,n+1,.cons r t=>.cons r (Vals.take n t)
theorem Vals.drop:∀{xs:List V} {us:List Value} (n:Nat),Vals xs us→Vals (xs.drop n) (us.drop n)
 |_,_,0,r=>r
 |_,_,_+1,.nil=>.nil
 |_,_,n+1,.cons _ t=>Vals.drop n t
def kE:Option V→Option Value→Prop
 |some v,some u=>RelV v u
 |none,none=>True
 |_,_=>False
def KV{κ:Type}:List (κ×V)→List (κ×Value)→Prop:=Paired fun(p:κ×V) (q:κ×Value)=>p.1=q.1∧RelV p.2 q.2
def kV:Key→V
 |.inl i=>.int i
 |.inr x=>.str x
inductive HO where
 |lst (xs:List V)
 |tup (xs:List V)
 |dK (kvs:List (Key×V))|dT (kvs:List (List Key×V))
 |set (S:Int→Bool) (n:Nat)
 |ins (C dx:Addr) (fs:List (Str×V))
 |own (x:Addr)
 |xd (fs:List (Str×V))
 |met (f x:Addr)
 |Rh (lo hi:Int)
 |gB (o:Obj) (u:HO)
 |Oa (ps:Array Value)
 |ext (φ:Heap→Prop)
abbrev Hp:=Addr→Option HO
def upd(H:Hp)(a:Addr)(o:HO):Hp:=fun b=>if b=a then some o else H b
theorem ae:upd H a o a=some o:=by unfold upd;rw[if_pos Z]
theorem aw(h:b≠a):upd H a o b=H b:=by unfold upd;rw[if_neg h]
theorem a9:upd (upd H a o) a u=upd H a u:=by funext b;unfold upd;split<;>rfl
theorem dQ{H:Hp}(h:H a=some o)(h':H b=some u)(d:o≠u):a≠b:=by intro e;subst e;rw[h]at h';exact d (Option.some.inj h')
theorem aj{H:Hp}(h:H a=some o)(h':H b=none):a≠b:=by intro e;subst e;rw[h]at h';cases h'
section
variable (P:Program) (w:World)
def b8(H:Hp)(h:Heap)(a:Addr):HO→Prop
 |.lst xs=>xs.length≤sizeLine∧∃(j:List Value) (n:Nat),Vals xs j∧h.get? a=some {cls:=.type "list",data:=.seq j.toArray n}
 |.tup xs=>xs.length≤sizeLine∧∃j:List Value,Vals xs j∧IsTup h a j.toArray
 |.dK kvs=>kvs.length≤sizeLine∧(a==sysModules)=false∧∃z,KV kvs z∧h.DictOf (bp P w) a z
 |.dT kvs=>kvs.length≤sizeLine∧(a==sysModules)=false∧∃xs:List (List Key×Addr×Value),
   Paired (fun(p:List Key×V) (q:List Key×Addr×Value)=>p.1=q.1∧H q.2.1=some (.tup (p.1.map kV))∧RelV p.2 q.2.2) kvs xs∧
   ∃o es ep,h.get? a=some o∧o.ExactDict∧o.data=.dict es ep∧es.toList=xs.map (entryOfKey (tupleKind (bp P w)))∧(xs.map (·.1)).Nodup
 |.set S n=>h.SetOf (intKind P w) a S n
 |.ins C dx fs=>H dx=some (.own a)∧fs.length≤1000∧dx≠a∧h.get? a=some (instObj C dx)∧
   ∃mA,h.Ns1 dx mA∧(∀f,kE (fs.lookup f) (mA f))∧PySem.Within mA (fs.map (·.1))
 |.own _=>∃o,h.get? a=some o
 |.xd fs=>∃mA,h.Ns1 a mA∧∀f,kE (fs.lookup f) (mA f)
 |.Rh lo hi=>∃t u v,h.get? a=some {cls:=.type "range",data:=.fields #[.int lo t,.int hi u,.int 1 v]}
 |.gB o u=>h.get? a=some o∧b8 H h a u
 |.Oa ps=>h.get? a=some {cls:=.none,data:=.fields ps}
 |.met f x=>h.get? a=some (methodObj (.ref f) (.ref x))
 |.ext φ=>φ h∧(∃o,h.get? a=some o)∧∀h1 h2:Heap,φ h1→(∀o,h1.get? a=some o→h2.get? a=some o)→φ h2
def l8(H:Hp)(h:Heap):Prop:=∀a o,H a=some o→b8 P w H h a o
end
section
variable {P:Program} {w:World} {H H':Hp} {h h':Heap} {a:Addr} {o:HO}
theorem b8.lt(x:b8 P w H h a o):a<h.objs.size:=by
 cases o with
 |lst xs=>obtain⟨_,_,_,_,e⟩:=x;exact Heap.lt_size e
 |tup xs=>obtain⟨_,_,_,p⟩:=x;exact p.lt
 |dK kvs=>obtain⟨_,_,_,_,o,_,_,e,_⟩:=x;exact Heap.lt_size e
 |dT kvs=>obtain⟨_,_,_,_,o,_,_,e,_⟩:=x;exact Heap.lt_size e
 |set S n=>obtain⟨o,_,_,_,e,_⟩:=x;exact Heap.lt_size e
 |ins C dx fs=>obtain⟨_,_,_,e,_⟩:=x;exact Heap.lt_size e
 |own y=>obtain⟨_,e⟩:=x;exact Heap.lt_size e
 |xd fs=>obtain⟨_,⟨_,_,_,e,_⟩,_⟩:=x;exact Heap.lt_size e
 |Rh lo hi=>obtain⟨_,_,_,e⟩:=x;exact Heap.lt_size e
 |gB j u=>obtain⟨e,_⟩:=x;exact Heap.lt_size e
 |Oa ps=>exact Heap.lt_size (show h.get? a=some _ from x)
 |met f y=>exact Heap.lt_size (show h.get? a=some _ from x)
 |ext φ=>obtain⟨_,⟨_,e⟩,_⟩:=x;exact Heap.lt_size e
theorem Paired.NM{j β:Type}{F G:j→β→Prop}:∀{l₁:List j} {l₂:List β},Paired F l₁ l₂→(∀a b,F a b→G a b)→Paired G l₁ l₂
 |_,_,.nil,_=>.nil
 |_,_,.cons r t,f=>.cons (f _ _ r) (Paired.NM t f)
theorem b8.sy(x:b8 P w H h a o)(k:∀b u,(b=a∨H b=some (.own a))→h.get? b=some u→h'.get? b=some u)
 (F:∀b,H b=some (.own a)→H' b=some (.own a))(G:∀b xs,H b=some (.tup xs)→H' b=some (.tup xs)):b8 P w H' h' a o:=by
 induction o with
 |lst xs=>obtain⟨z,B,n,r,e⟩:=x;exact⟨z,B,n,r,k _ _ (.inl Z) e⟩
 |tup xs=>obtain⟨z,B,r,j,e,c⟩:=x;exact⟨z,B,r,j,k _ _ (.inl Z) e,c⟩
 |dK kvs=>obtain⟨z,y,vs,r,j,es,ep,e,c⟩:=x;exact⟨z,y,vs,r,j,es,ep,k _ _ (.inl Z) e,c⟩
 |dT kvs=>
  obtain⟨z,y,xs,r,j,es,ep,e,c⟩:=x;exact⟨z,y,xs,Paired.NM r fun p q z=>⟨z.1,G _ _ z.2.1,z.2.2⟩,j,es,ep,k _ _ (.inl Z) e,c⟩
 |set S n=>obtain⟨j,es,ep,t,e,c⟩:=x;exact⟨j,es,ep,t,k _ _ (.inl Z) e,c⟩
 |ins C dx fs=>
  obtain⟨d,z,ne,e,mA,⟨od,es,ep,D,c⟩,r⟩:=x;exact⟨F _ d,z,ne,k _ _ (.inl Z) e,mA,⟨od,es,ep,k _ _ (.inr d) D,c⟩,r⟩
 |own y=>obtain⟨j,e⟩:=x;exact⟨j,k _ _ (.inl Z) e⟩
 |xd fs=>obtain⟨mA,⟨od,es,ep,e,c⟩,r⟩:=x;exact⟨mA,⟨od,es,ep,k _ _ (.inl Z) e,c⟩,r⟩
 |Rh lo hi=>obtain⟨t,u,v,e⟩:=x;exact⟨t,u,v,k _ _ (.inl Z) e⟩
 |gB j u I=>obtain⟨e,q⟩:=x;exact⟨k _ _ (.inl Z) e,I q⟩
 |Oa ps=>
  have e:h.get? a=some {cls:=.none,data:=.fields ps}:=x;show h'.get? a=some {cls:=.none,data:=.fields ps};exact k a _ (.inl Z) e
 |met f y=>
  have e:h.get? a=some (methodObj (.ref f) (.ref y)):=x;show h'.get? a=some (methodObj (.ref f) (.ref y));exact k a _ (.inl Z) e
 |ext φ=>obtain⟨p,⟨o,e⟩,st⟩:=x;exact⟨st _ _ p fun o q=>k _ _ (.inl Z) q,⟨o,k _ _ (.inl Z) e⟩,st⟩
theorem l8.lt(x:l8 P w H h)(e:H a=some o):a<h.objs.size:=(x a o e).lt
theorem l8.fresh(x:l8 P w H h)(e:h.objs.size≤a):H a=none:=by
 cases q:H a with
 |none=>rfl
 |some u=>exact absurd (Nat.lt_of_lt_of_le (x.lt q) e) (Nat.lt_irrefl _)
theorem l8.kept(x:l8 P w H h)(k:∀b u,h.get? b=some u→h'.get? b=some u):l8 P w H h':=fun a o e=>
 (x a o e).sy (fun b u _ q=>k b u q) (fun _ q=>q) fun _ _ q=>q
theorem l8.laid(x:l8 P w H h)(k:∀b u,h.get? b=some u→h'.get? b=some u)(n:h.objs.size≤a)(new:b8 P w (upd H a o) h' a o):l8 P w (upd H a o) h':=fun b u e=>by
 have hn:=x.fresh n;by_cases j:b=a
 ·subst j;rw[ae]at e;cases e;exact new
 ·rw[aw j]at e;exact(x b u e).sy (fun c v _ q=>k c v q) (fun c q=>by rw[aw (aj q hn)];exact q) fun c xs q=>by rw[aw (aj q hn)];exact q
end
def Rd(H:Hp)(a:Addr)(u:HO):Prop:=H a=some u∨∃o,H a=some (.gB o u)
theorem Rd.ok(r:Rd H a u)(x:l8 P w H h):b8 P w H h a u:=by
 rcases r with r|⟨o,r⟩
 ·exact x a u r
 ·obtain⟨_,q⟩:=x a _ r;exact q
def MG:Option HO→Prop
 |some (.lst _)=>True
 |some (.dK _)=>True
 |some (.dT _)=>True
 |some (.set _ _)=>True
 |some (.ins _ _ _)=>True
 |some (.ext _)=>True
 |_=>False
section
variable {P:Program} {w:World} {H:Hp} {h h':Heap} {x e:Addr} {o':HO}
theorem l8.write(ok:l8 P w H h)(G:MG (H x))(he:e=x∨H e=some (.own x))(k:∀b u,b≠e→h.get? b=some u→h'.get? b=some u)(I:∃u,h'.get? e=some u)
 (new:b8 P w (upd H x o') h' x o'):l8 P w (upd H x o') h':=fun b u q=>by
 have n:∀c y,H c=some (.own y)→c≠x:=fun c y r z=>by subst z;rw[r]at G;exact G
 have B:∀c xs,H c=some (.tup xs)→c≠x:=fun c xs r z=>by subst z;rw[r]at G;exact G
 by_cases D:b=x
 ·subst D;rw[ae]at q;cases q;exact new
 ·rw[aw D]at q;by_cases j:b=e
  ·have J:H b=some (.own x):=by
    rcases he with z|z
    ·exact absurd (j.trans z) D
    ·rw[j];exact z
   rw[q]at J;cases J;obtain⟨v,L⟩:=I;exact⟨v,by rw[j];exact L⟩
  ·refine(ok b u q).sy (fun c v F r=>k c v ?_ r) (fun c r=>by rw[aw (n c b r)];exact r) fun c xs r=>by rw[aw (B c xs r)];exact r
   rcases F with rfl|F
   ·exact j
   ·rintro rfl;rcases he with z|z
    ·exact n c b F z
    ·rw[F]at z;cases z;exact D Z
end
structure Un(fs ex:List Addr)(H H':Hp)(h h':Heap):Prop where
 keep:∀b o,h.get? b=some o→H b=none→b∉fs→b∉ex→h'.get? b=some o
 slot:∀b o,h.get? b=some o→H b=none→b∈fs→b∉ex→∃sl,h'.get? b=some {o with slots:=sl}
 free:∀b o,h.get? b=some o→H b=none→b∉ex→H' b=none
 there:∀b o,h.get? b=some o→b∉ex→∃o',h'.get? b=some o'
 Cv:∀b xs,H b=some (.tup xs)→H' b=some (.tup xs)
 uD:∀b o u,H b=some (.gB o u)→H' b=some (.gB o u)
 Ct:∀b ps,H b=some (.Oa ps)→∃more,H' b=some (.Oa (ps++more))
section
variable {fs fs' ex ex':List Addr} {H H1 H2:Hp} {h h1 h2 h':Heap} {a x e:Addr} {o:HO}
theorem Un.any(u:Un fs ex H H1 h h1)(q:h.get? b=some j)(n:H b=none)(B:b∉ex):∃D,h1.get? b=some {j with slots:=D}:=by
 by_cases z:b∈fs
 ·exact u.slot b j q n z B
 ·exact⟨j.slots,u.keep b j q n z B⟩
theorem Un.kept(k:∀b u,h.get? b=some u→h'.get? b=some u):Un fs ex H H h h':=
 ⟨fun b j q _ _ _=>k b j q,fun b j q _ _ _=>⟨j.slots,k b j q⟩,fun _ _ _ n _=>n,fun b j q _=>⟨j,k b j q⟩,fun _ _ q=>q,fun _ _ _ q=>q,fun _ ps q=>⟨#[],by rw[q];simp⟩⟩
theorem Un.refl:Un fs ex H H h h:=Un.kept fun _ _ q=>q
theorem Un.laid(k:∀b u,h.get? b=some u→h'.get? b=some u)(j:h.objs.size≤a)(hn:H a=none):Un fs ex H (upd H a o) h h' where
 keep:=fun b u q _ _ _=>k b u q
 slot:=fun b u q _ _ _=>⟨u.slots,k b u q⟩
 free:=fun b u q n _=>by rw[aw (Nat.ne_of_lt (Nat.lt_of_lt_of_le (Heap.lt_size q) j))];exact n
 there:=fun b u q _=>⟨u,k b u q⟩
 Cv:=fun b xs q=>by rw[aw (aj q hn)];exact q
 uD:=fun b u xs q=>by rw[aw (aj q hn)];exact q
 Ct:=fun b ps q=>⟨#[],by rw[aw (aj q hn),q];simp⟩
theorem Un.write(B:MG (H x))(he:e=x∨H e=some (.own x))(k:∀b u,b≠e→h.get? b=some u→h'.get? b=some u)(D:∃u,h'.get? e=some u):Un fs ex H (upd H x o) h h':=by
 have G:∀b,H b=none→b≠x:=fun b n z=>by subst z;rw[n]at B;exact B
 have F:∀b,H b=none→b≠e:=fun b n z=>by
  subst z;rcases he with r|r
  ·exact G b n r
  ·rw[n]at r;cases r
 have hm:∀b u,H b=some u→¬MG (some u)→b≠x:=fun b u q nm z=>by subst z;rw[q]at B;exact nm B
 refine⟨fun b u q n _ _=>k b u (F b n) q,fun b u q n _ _=>⟨u.slots,k b u (F b n) q⟩,fun b u q n _=>by rw[aw (G b n)];exact n,fun b u q _=>?_,
  fun b xs q=>by rw[aw (hm b _ q fun z=>z)];exact q,fun b u xs q=>by rw[aw (hm b _ q fun z=>z)];exact q,fun b ps q=>⟨#[],by rw[aw (hm b _ q fun z=>z),q];simp⟩⟩
 by_cases j:b=e
 ·subst j;exact D
 ·exact⟨u,k b u j q⟩
end
def QB(h:Heap)(H:Hp):List Addr:=(range h.objs.size).filter fun a=>(H a).isSome
def p_(h:Heap)(H:Hp):Heap:=PySem.W.hideAll h (QB h H)
theorem zV(h:Heap)(H:Hp):(p_ h H).objs.size=h.objs.size:=PySem.W.hideAll_size _ _
theorem Du{h:Heap}(e:h.get? b=some o)(n:H b=none):(p_ h H).get? b=some o:=
 PySem.W.hideAll_get _ e fun hm=>by have q:(H b).isSome=true:=(mem_filter.mp hm).2;rw[n]at q;simp at q
theorem GO{h:Heap}(e:(p_ h H).get? b=some o):h.get? b=some o∧H b=none:=by
 have j:h.get? b=some o:=PySem.W.of_hideAll (QB h H) e;refine⟨j,?_⟩;cases q:H b with
 |none=>rfl
 |some x=>
  have hm:b∈QB h H:=mem_filter.mpr ⟨List.mem_range.mpr (Heap.lt_size j),by simp[q]⟩;have z:(p_ h H).get? b=none:=PySem.W.hideAll_none (QB h H) hm;rw[z]at e;cases e
end L2
namespace L2
open PySem PySem.Spec PyProof.Rows
structure Mod(K:Frag)(mg:Str→Option Value)(base:Heap):Prop where
 Of:K.In base
 glob:base.Ns mainGlobals mg
 blt:∃mb,base.Ns builtinsNs mb∧∀x:Str,x≠"__name__"→mb x=bootBuiltins x
 nolimit:base.NoLimit
structure Cx where
 prog:Program
 w:World
 K:Frag
 mg:Str→Option Value
 base:Heap
 A:Around
 N:List Str
 Am:Shared
 M3:Hp
 env:Env
 outer:List Env
 stack:List Env
 ex:List Addr
 fn:Str→Bool
 calm:Bool
 pn:List (Addr×Obj)
 xe:Value→Shared→Prop
def JI(l:List Env):List Addr:=l.filterMap (·.frame)
abbrev Cx.fs(X:Cx):List Addr:=JI X.outer
def Oe(j:Scope)(x:Str):Prop:=j.names.lookup x=some .local∨j.names.lookup x=some .cell∨j.names.lookup x=some .free
def Loc(j:Scope)(x:Str):Prop:=j.names.lookup x=some .local∨j.names.lookup x=some .cell
def Look(env:Env)(h:Heap)(m:Str→Option Value)(x:Str)(u:Value):Prop:=
 (env.kindOf x=some .local∧m x=some u)∨((env.kindOf x=some .cell∨env.kindOf x=some .free)∧∃c,env.cells.lookup x=some c∧h.IsCell c (some u))
structure Cx.Ok(X:Cx):Prop where
 mod:Mod X.K X.mg X.base
 kind:X.env.scope.kind=.function
 glob:X.env.globals=mainGlobals
 blt:X.env.builtins=builtinsNs
 above:X.Am.heap.objs.size≤X.env.locals
 inj:∀x y c,X.env.cells.lookup x=some c→X.env.cells.lookup y=some c→x=y
 has:∀x,(X.env.kindOf x=some .cell∨X.env.kindOf x=some .free)→∃c,X.env.cells.lookup x=some c
 Pg:∀x c,X.fn x=true→X.env.cells.lookup x=some c→X.Am.heap.objs.size≤c
 hd:X.calm=true→X.A.handled=none
 frames:X.A.frames=some X.stack
 Qz:X.stack=X.outer∨(X.stack=X.env::X.outer∧X.env.frame=some X.env.locals)
 Qx:∀b∈X.ex,b≠X.env.locals∧∀x c,X.env.cells.lookup x=some c→c≠b
 bs:∀b o,X.base.get? b=some o→X.Am.heap.get? b=some o∧X.M3 b=none
 KP:X.base.objs.size≤X.Am.heap.objs.size
 J8:∀b o,X.base.get? b=some o→b∉X.ex
 JC:∀b∈X.ex,b∉X.fs
 uE:X.Am.heap.FunFrames X.base X.outer
 Nv:∀b∈X.fs,X.M3 b=none
structure Inv(X:Cx)(pins:List (Addr×Obj))(σ:List (Option V))(H:Hp)(s:Shared):Prop where
 ok:X.Ok
 os:s.os=X.Am.os
 bare:AllBare s.gens
 base:Un X.fs X.ex X.M3 H X.Am.heap s.heap
 loc:∃m,s.heap.Ns X.env.locals m∧∀(i:Nat) (x:Str) (v:V),X.N[i]?=some x→σ[i]?=some (some v)→Oe X.env.scope x→∃u,RelV v u∧Look X.env s.heap m x u
 cell:∀x c,X.env.cells.lookup x=some c→∃v,s.heap.IsCell c v
 free:H X.env.locals=none
 j6:∀x c,X.env.cells.lookup x=some c→H c=none
 pin:∀p∈X.pn++pins,s.heap.get? p.1=some p.2∧H p.1=none∧p.1≠X.env.locals∧p.1∉X.fs∧∀v,p.2.data≠.cell v
 bj:l8 X.prog X.w H s.heap
 len:σ.length=X.N.length
section
variable {X:Cx} {pins:List (Addr×Obj)} {σ:List (Option V)} {H H':Hp} {s:Shared} {h':Heap}
theorem Cx.Ok.Q0(ok:X.Ok){b:Addr}(e:X.base.get? b=some o):b∉X.fs:=fun j=>by have:=(ok.uE.mem j).1;rw[e]at this;cases this
theorem Inv.bs(I:Inv X pins σ H s):∀b o,X.base.get? b=some o→s.heap.get? b=some o∧H b=none:=fun b o e=>
 ⟨I.base.keep b o (I.ok.bs b o e).1 (I.ok.bs b o e).2 (I.ok.Q0 e) (I.ok.J8 b o e),I.base.free b o (I.ok.bs b o e).1 (I.ok.bs b o e).2 (I.ok.J8 b o e)⟩
theorem Inv.bk(I:Inv X pins σ H s):∀b o,X.base.get? b=some o→s.heap.get? b=some o:=fun b o e=>(I.bs b o e).1
theorem Inv.mod(I:Inv X pins σ H s):Mod X.K X.mg X.base:=I.ok.mod
theorem Inv.nr(I:Inv X pins σ H s):X.K.In s.heap:=I.ok.mod.Of.keeps I.bk
theorem Inv.fr(I:Inv X pins σ H s):∃m,Fr X.base X.env.locals s.heap m:=
 let⟨m,hn,_⟩:=I.loc
 ⟨m,hn,I.bk,Nat.le_trans I.ok.KP I.ok.above⟩
theorem Inv.lt(I:Inv X pins σ H s):X.env.locals<s.heap.objs.size:=let⟨_,hn,_⟩:=I.loc;hn.lt
theorem Inv.sz(I:Inv X pins σ H s):X.Am.heap.objs.size≤s.heap.objs.size:=Nat.le_trans I.ok.above (Nat.le_of_lt I.lt)
theorem Inv.Q1(I:Inv X pins σ H s){a:Addr}(h:s.heap.objs.size≤a):a∉X.fs:=fun j=>by obtain⟨_,o,n,_⟩:=I.ok.uE.mem j;exact absurd (Nat.lt_of_lt_of_le (Heap.lt_size n) (Nat.le_trans I.sz h)) (Nat.lt_irrefl _)
theorem Inv.Ng(I:Inv X pins σ H s):∀x c,X.env.cells.lookup x=some c→c≠X.env.locals:=fun x c e z=>by obtain⟨v,o,q,hd⟩:=I.cell x c e;obtain⟨m,⟨o',es,ep,n,j,_⟩,_⟩:=I.loc;rw[z,n]at q;cases q;rw[j]at hd;cases hd
theorem Inv.uE(I:Inv X pins σ H s):s.heap.FunFrames X.base X.outer:=by
 have all:∀(l:List Env),(∀b∈JI l,b∈X.fs)→X.Am.heap.FunFrames X.base l→s.heap.FunFrames X.base l:=by
  intro l
  induction l with
  |nil=>intro _ _;trivial
  |cons env r J=>
   intro q D;obtain⟨B,⟨L,o,hf,hn,F,hd⟩,G⟩:=D;have j:L∈X.fs:=q L (by unfold JI;rw[List.filterMap_cons,hf];exact mem_cons_self);obtain⟨M,e⟩:=I.base.slot L o F (I.ok.Nv L j) j fun z=>I.ok.JC L z j;exact⟨B,⟨L,_,hf,hn,e,hd⟩,J (fun b n=>q b (by unfold JI;rw[List.filterMap_cons,hf];exact mem_cons_of_mem _ n)) G⟩
 exact all X.outer (fun _ n=>n) I.ok.uE
theorem Inv.stack(I:Inv X pins σ H s):s.heap.FunFrames X.base X.stack:=by
 rcases I.ok.Qz with e|⟨e,j⟩
 ·rw[e];exact I.uE
 ·rw[e];obtain⟨m,hn,_⟩:=I.loc;refine .cons (by rw[I.ok.kind];decide) j hn ?_ I.uE;exact Heap.get?_none_of_le (Nat.le_trans I.ok.KP I.ok.above)
theorem Inv.F4(I:Inv X pins σ H s):∀b∈JI X.stack,b∈X.env.locals::X.fs:=fun b j=>by
 rcases I.ok.Qz with e|⟨e,n⟩
 ·rw[e]at j;exact mem_cons_of_mem _ j
 ·rw[e]at j;unfold JI at j;rw[List.filterMap_cons,n]at j;exact j
theorem Inv.G7(I:Inv X pins σ H s):∀b∈JI X.stack,H b=none:=fun b j=>by
 rcases mem_cons.mp (I.F4 b j)with e|j
 ·rw[e];exact I.free
 ·obtain⟨_,o,n,_⟩:=I.ok.uE.mem j;exact I.base.free b o n (I.ok.Nv b j) fun z=>I.ok.JC b z j
theorem Inv.step{t':Nat}{d':Drawn}{ch:List Addr}(I:Inv X pins σ H s)
 (D:∀b∈ch,(b∈X.ex∨X.Am.heap.objs.size≤b)∧b≠X.env.locals∧(∀x c,X.env.cells.lookup x=some c→c≠b)∧∀p∈X.pn++pins,p.1≠b)
 (keep:∀b o,b≠X.env.locals→b∉X.fs→b∉ch→s.heap.get? b=some o→H b=none→h'.get? b=some o)
 (slot:∀b o,b≠X.env.locals→b∈X.fs→b∉ch→s.heap.get? b=some o→H b=none→∃U,h'.get? b=some {o with slots:=U})(free:∀b o,b∉ch→s.heap.get? b=some o→H b=none→H' b=none)
 (there:∀b o,b∉ch→s.heap.get? b=some o→∃o',h'.get? b=some o')
 (Cv:∀b xs,H b=some (.tup xs)→H' b=some (.tup xs))(uD:∀b o u,H b=some (.gB o u)→H' b=some (.gB o u))(Ct:∀b ps,H b=some (.Oa ps)→∃O,H' b=some (.Oa (ps++O)))
 (ns:∀m,s.heap.Ns X.env.locals m→h'.Ns X.env.locals m)(bj:l8 X.prog X.w H' h')(hg:AllBare g'):
  Inv X pins σ H' {s with heap:=h',gens:=g',drawn:=d',toks:=t'}:=by
 have S:∀b o,X.Am.heap.get? b=some o→b≠X.env.locals:=fun b o e=>Nat.ne_of_lt (Nat.lt_of_lt_of_le (Heap.lt_size e) I.ok.above);have J:∀b o,X.Am.heap.get? b=some o→b∉X.ex→b∉ch:=fun b o e j L=>by
  rcases(D b L).1 with z|z
  ·exact j z
  ·exact absurd (Nat.lt_of_lt_of_le (Heap.lt_size e) z) (Nat.lt_irrefl _)
 have B:∀x c,X.env.cells.lookup x=some c→∀v,s.heap.IsCell c v→h'.IsCell c v:=fun x c e v ⟨o,M,hd⟩=>by
  have F:c∉ch:=fun z=>(D c z).2.2.1 x c e Z;by_cases Y:c∈X.fs
  ·obtain⟨U,q⟩:=slot c o (I.Ng x c e) Y F M (I.j6 x c e);exact⟨_,q,hd⟩
  ·exact⟨o,keep c o (I.Ng x c e) Y F M (I.j6 x c e),hd⟩
 refine⟨I.ok,I.os,hg,⟨fun b o e n L j=>?_,fun b o e n L j=>?_,fun b o e n j=>?_,fun b o e j=>?_,fun b xs e=>Cv b xs (I.base.Cv b xs e),fun b o xs e=>uD b o xs (I.base.uD b o xs e),fun b ps e=>?_⟩,?_,fun x c e=>?_,?_,fun x c e=>?_,fun p hp=>?_,bj,I.len⟩
 ·exact keep b o (S b o e) L (J b o e j) (I.base.keep b o e n L j) (I.base.free b o e n j)
 ·obtain⟨U,G⟩:=I.base.slot b o e n L j;obtain⟨W,N⟩:=slot b _ (S b o e) L (J b o e j) G (I.base.free b o e n j);exact⟨W,N⟩
 ·obtain⟨o',G⟩:=I.base.there b o e j;exact free b o' (J b o e j) G (I.base.free b o e n j)
 ·obtain⟨o',G⟩:=I.base.there b o e j;exact there b o' (J b o e j) G
 ·obtain⟨m1,G⟩:=I.base.Ct b ps e;obtain⟨m2,N⟩:=Ct b _ G;exact⟨m1++m2,by rw[N,Array.append_assoc]⟩
 ·obtain⟨m,hn,hl⟩:=I.loc;refine⟨m,ns m hn,fun i x v G N e3=>?_⟩;obtain⟨u,r,l⟩:=hl i x v G N e3;refine⟨u,r,?_⟩;rcases l with l|⟨k,c,e,z⟩
  ·exact .inl l
  ·exact .inr ⟨k,c,e,B x c e _ z⟩
 ·obtain⟨v,z⟩:=I.cell x c e;exact⟨v,B x c e v z⟩
 ·obtain⟨m,⟨o,_,_,M,_⟩,_⟩:=I.loc;exact free _ o (fun z=>(D _ z).2.1 Z) M I.free
 ·obtain⟨v,o,M,hd⟩:=I.cell x c e;exact free c o (fun z=>(D c z).2.2.1 x c e Z) M (I.j6 x c e)
 ·obtain⟨e,n,ne,nf,d⟩:=I.pin p hp;have F:p.1∉ch:=fun z=>(D p.1 z).2.2.2 p hp Z;exact⟨keep p.1 p.2 ne nf F e n,free p.1 p.2 F e n,ne,nf,d⟩
theorem Inv.un{t':Nat}(I:Inv X pins σ H s)(u:Un X.fs [] H H' s.heap h')(bj:l8 X.prog X.w H' h'):Inv X pins σ H' {s with heap:=h',toks:=t'}:=by
 obtain⟨m,⟨o,es,ep,F,r⟩,_⟩:=id I.loc;obtain⟨L,G⟩:=u.any F I.free (by simp);exact I.step (g':=s.gens) (d':=s.drawn) (ch:=[]) (fun _ z=>nomatch z) (fun b o _ D _ e n=>u.keep b o e n D (by simp)) (fun b o _ D _ e n=>u.slot b o e n D (by simp)) (fun b o _ e n=>u.free b o e n (by simp)) (fun b o _ e=>u.there b o e (by simp)) u.Cv u.uD u.Ct (fun _ hm=>by obtain⟨o',B,q,j,J⟩:=hm;rw[F]at j;cases j;exact⟨_,B,q,G,J⟩) bj I.bare
theorem Inv.call{t':Nat}{d':Drawn}(I:Inv X pins σ H s)(u:Un (JI X.stack) ch H H' s.heap h')(bj:l8 X.prog X.w H' h')(M:AllBare g')
 (q:∀b∈ch,(b∈X.ex∨X.Am.heap.objs.size≤b)∧b≠X.env.locals∧(∀x c,X.env.cells.lookup x=some c→c≠b)∧∀p∈X.pn++pins,p.1≠b):
  Inv X pins σ H' {s with heap:=h',gens:=g',drawn:=d',toks:=t'}:=by
 obtain⟨m,⟨o,es,ep,J,r⟩,_⟩:=id I.loc;obtain⟨O,G⟩:=u.any J I.free fun z=>(q _ z).2.1 Z;exact I.step (ch:=ch) q (fun b o G L j e n=>u.keep b o e n (fun z=>(mem_cons.mp (I.F4 b z)).elim G L) j) (fun b o _ _ j e n=>u.any e n j) (fun b o j e n=>u.free b o e n j) (fun b o j e=>u.there b o e j) u.Cv u.uD u.Ct (fun _ hm=>by obtain⟨o',F,D,B,N⟩:=hm;rw[J]at B;cases B;exact⟨_,F,D,G,N⟩) bj M
theorem Inv.turned{t':Nat}(I:Inv X pins σ H s)(k:∀b o,b≠it→s.heap.get? b=some o→h'.get? b=some o)(hn:H it=none)(D:it≠X.env.locals)
 (h1:it∈X.ex∨X.Am.heap.objs.size≤it)(h2:∀x c,X.env.cells.lookup x=some c→c≠it)(F:∀p∈X.pn++pins,p.1≠it):Inv X pins σ H {s with heap:=h',toks:=t'}:=by
 have B:∀b u,H b=some u→b≠it:=fun b u e z=>by rw[z,hn]at e;cases e
 refine I.step (g':=s.gens) (d':=s.drawn) (ch:=[it]) (fun b G=>?_) (fun b o _ _ j e _=>k b o (fun z=>j (by simp[z])) e) (fun b o _ _ j e _=>⟨o.slots,k b o (fun z=>j (by simp[z])) e⟩) (fun _ _ _ _ n=>n)
  (fun b o j e=>⟨o,k b o (fun z=>j (by simp[z])) e⟩) (fun _ _ e=>e) (fun _ _ _ e=>e) (fun b ps e=>⟨#[],by rw[e];simp⟩) (fun m hm=>?_) (fun b u e=>?_) I.bare
 ·have e:b=it:=by simpa using G
  subst e;exact⟨h1,D,h2,F⟩
 ·obtain⟨o,es,ep,J,r⟩:=hm;exact⟨o,es,ep,k _ o (Ne.symm D) J,r⟩
 ·refine(I.bj b u e).sy (fun c v j q=>k c v ?_ q) (fun _ q=>q) fun _ _ q=>q;rcases j with z|z
  ·rw[z];exact B b u e
  ·exact B c _ z
theorem Inv.tok(I:Inv X pins σ H s)(t:Nat):Inv X pins σ H {s with toks:=t}:=I.un (h':=s.heap) (t':=t) Un.refl I.bj
theorem Inv.kept{t':Nat}(I:Inv X pins σ H s)(k:∀b u,s.heap.get? b=some u→h'.get? b=some u):Inv X pins σ H {s with heap:=h',toks:=t'}:=I.un (Un.kept k) (I.bj.kept k)
theorem Inv.laid{t':Nat}(I:Inv X pins σ H s)(k:∀b u,s.heap.get? b=some u→h'.get? b=some u)(j:s.heap.objs.size≤a)(new:b8 X.prog X.w (upd H a o) h' a o):
  Inv X pins σ (upd H a o) {s with heap:=h',toks:=t'}:=I.un (Un.laid k j (I.bj.fresh j)) (I.bj.laid k j new)
theorem Inv.write{t':Nat}(I:Inv X pins σ H s)(n:MG (H x))(he:e=x∨H e=some (.own x))(k:∀b u,b≠e→s.heap.get? b=some u→h'.get? b=some u)(j:∃u,h'.get? e=some u)
 (new:b8 X.prog X.w (upd H x o) h' x o):Inv X pins σ (upd H x o) {s with heap:=h',toks:=t'}:=I.un (Un.write n he k j) (I.bj.write n he k j new)
theorem Inv.weak{j:List (Option V)}(I:Inv X pins σ H s)(D:j.length=σ.length)(w:∀(i:Nat) v,j[i]?=some (some v)→σ[i]?=some (some v)):Inv X pins j H s:=
 ⟨I.ok,I.os,I.bare,I.base,let⟨m,hn,n⟩:=I.loc;⟨m,hn,fun i x v q z B=>n i x v q (w i v z) B⟩,I.cell,I.free,I.j6,I.pin,I.bj,D.trans I.len⟩
theorem Inv.GV(I:Inv X pins σ H s)(h:∀p∈pins',s.heap.get? p.1=some p.2∧H p.1=none∧p.1≠X.env.locals∧p.1∉X.fs∧∀v,p.2.data≠.cell v):Inv X pins' σ H s:=
 ⟨I.ok,I.os,I.bare,I.base,I.loc,I.cell,I.free,I.j6,fun p j=>(mem_append.mp j).elim (fun z=>I.pin p (List.mem_append_left _ z)) (h p),I.bj,I.len⟩
theorem wM{N:List Str}(q:N.Nodup){i j:Nat}(a:N[i]?=some x)(b:N[j]?=some x):i=j:=by obtain⟨h1,e1⟩:=List.getElem?_eq_some_iff.mp a;obtain⟨h2,n⟩:=List.getElem?_eq_some_iff.mp b;exact(List.getElem_inj q).mp (e1.trans n.symm)
theorem Av(I:Inv X pins σ H s)(hN:X.N.Nodup)(hi:X.N[i]?=some x)(J:Loc X.env.scope x)(r:RelV v u)
 (h:∀s',Inv X pins (σ.set i (some v)) H s'→(∃a,Heap.SameBut a s.heap s'.heap∧(a=X.env.locals∨X.env.cells.lookup x=some a))→Q () s')(hf:X.fn x=true∨X.env.scope.names.lookup x=some .local:=by first|exact .inl rfl|exact .inr rfl|assumption):wpAny M A (storeName X.env x u) Q E s:=by
 obtain⟨m,hn,hl⟩:=id I.loc;have a2:(X.env.scope.kind==.class||(X.env.scope.kind==.module&&X.env.locals != X.env.globals))=false:=by rw[I.ok.kind];rfl
 have hiσ:i<σ.length:=by rw[I.len];exact(List.getElem?_eq_some_iff.mp hi).1
 have Ng:=I.Ng;have F:∀{a:Addr} {h':Heap},(∃o,s.heap.get? a=some o∧H a=none)→Heap.SameBut a s.heap h'→l8 X.prog X.w H h':=fun{a h'} ha B b ob e=>by
  obtain⟨_,_,hfree⟩:=ha;refine(I.bj b ob e).sy (fun c w' G q=>(B.2 c ?_).trans q) (fun _ q=>q) fun _ _ q=>q;rintro rfl;rcases G with rfl|G
  ·rw[hfree]at e;cases e
  ·rw[hfree]at G;cases G
 rcases J with O|O
 ·refine wpAny_storeName_local O hn (fun h' b3 B=>?_) a2;obtain⟨oL,_,_,b9,_⟩:=id hn;refine h _ ⟨I.ok,I.os,I.bare,⟨fun b o e n S J=>?_,fun b o e n S J=>?_,I.base.free,fun b o e J=>?_,I.base.Cv,I.base.uD,I.base.Ct⟩,⟨_,b3,fun j y v' D L e3=>?_⟩,fun y c e=>?_,I.free,I.j6,fun p hp=>?_,F ⟨oL,b9,I.free⟩ B,by simpa using I.len⟩ ⟨_,B,.inl Z⟩
  ·exact(B.2 b (Nat.ne_of_lt (Nat.lt_of_lt_of_le (Heap.lt_size e) I.ok.above))).trans (I.base.keep b o e n S J)
  ·obtain⟨sl,D⟩:=I.base.slot b o e n S J;exact⟨sl,(B.2 b (Nat.ne_of_lt (Nat.lt_of_lt_of_le (Heap.lt_size e) I.ok.above))).trans D⟩
  ·obtain⟨o',D⟩:=I.base.there b o e J;exact⟨o',(B.2 b (Nat.ne_of_lt (Nat.lt_of_lt_of_le (Heap.lt_size e) I.ok.above))).trans D⟩
  ·by_cases W:j=i
   ·subst W;rw[hi]at D;cases D;rw[List.getElem?_set_self hiσ]at L;cases L;exact⟨u,r,.inl ⟨O,by simp⟩⟩
   ·rw[List.getElem?_set_ne (Ne.symm W)]at L;obtain⟨u',r',q⟩:=hl j y v' D L e3;refine⟨u',r',?_⟩;rcases q with⟨k,e⟩|⟨k,c,e,z⟩
    ·refine .inl ⟨k,?_⟩;have:y≠x:=fun e=>W (wM hN D (e▸hi));simp[this,e]
    ·exact .inr ⟨k,c,e,z.sameBut B (Ng y c e)⟩
  ·obtain⟨w',z⟩:=I.cell y c e;exact⟨w',z.sameBut B (Ng y c e)⟩
  ·obtain⟨e,n,ne,nf,d⟩:=I.pin p hp;exact⟨(B.2 p.1 ne).trans e,n,ne,nf,d⟩
 ·have U:X.fn x=true:=by
   rcases hf with z|z
   ·exact z
   ·rw[z]at O;cases O
  obtain⟨c,G⟩:=I.ok.has x (.inl O);obtain⟨w',z⟩:=I.cell x c G;refine wpAny_storeName_cell I.ok.kind O G z (fun h' Y B=>?_);obtain⟨oc,b1,b2⟩:=id z;refine h {s with heap:=h'} ⟨I.ok,I.os,I.bare,⟨fun b o e n S J=>?_,fun b o e n S J=>?_,I.base.free,fun b o e J=>?_,I.base.Cv,I.base.uD,I.base.Ct⟩,⟨m,hn.sameBut B (Ne.symm (Ng x c G)),fun j y v' D L e3=>?_⟩,fun y c' e=>?_,I.free,I.j6,fun p hp=>?_,F ⟨oc,b1,I.j6 x c G⟩ B,by simpa using I.len⟩ ⟨c,B,.inr G⟩
  ·exact(B.2 b (Nat.ne_of_lt (Nat.lt_of_lt_of_le (Heap.lt_size e) (I.ok.Pg x c U G)))).trans (I.base.keep b o e n S J)
  ·obtain⟨sl,D⟩:=I.base.slot b o e n S J;exact⟨sl,(B.2 b (Nat.ne_of_lt (Nat.lt_of_lt_of_le (Heap.lt_size e) (I.ok.Pg x c U G)))).trans D⟩
  ·obtain⟨o',D⟩:=I.base.there b o e J;exact⟨o',(B.2 b (Nat.ne_of_lt (Nat.lt_of_lt_of_le (Heap.lt_size e) (I.ok.Pg x c U G)))).trans D⟩
  ·by_cases W:j=i
   ·subst W;rw[hi]at D;cases D;rw[List.getElem?_set_self hiσ]at L;cases L;exact⟨u,r,.inr ⟨.inl O,c,G,Y⟩⟩
   ·rw[List.getElem?_set_ne (Ne.symm W)]at L;obtain⟨u',r',q⟩:=hl j y v' D L e3;refine⟨u',r',?_⟩;rcases q with q|⟨k,c',e,z'⟩
    ·exact .inl q
    ·refine .inr ⟨k,c',e,z'.sameBut B ?_⟩;rintro rfl;exact W (wM hN D (I.ok.inj _ _ _ e G▸hi))
  ·by_cases a1:c'=c
   ·subst a1;exact⟨_,Y⟩
   ·obtain⟨w2,z2⟩:=I.cell y c' e;exact⟨w2,z2.sameBut B a1⟩
  ·obtain⟨e,n,ne,nf,d⟩:=I.pin p hp;refine⟨(B.2 p.1 ?_).trans e,n,ne,nf,d⟩;intro q;rw[q,b1]at e;have q':oc=p.2:=Option.some.inj e;exact d w' (by rw[← q'];exact b2)
theorem xY(I:Inv X pins σ H s)(n:X.N.Nodup)(hi:X.N[i]?=some x)(z:Loc X.env.scope x)(r:RelV v u)
 (h:∀s',Inv X pins (σ.set i (some v)) H s'→Q () s')(q:X.fn x=true∨X.env.scope.names.lookup x=some .local:=by first|exact .inl rfl|exact .inr rfl|assumption):wpAny M A (storeName X.env x u) Q E s:=
 Av I n hi z r (fun s' j _=>h s' j) q
theorem Inv.Ph{s':Shared}(I:Inv X pins σ H s)(q:s'.os=s.os)(u:Un (JI X.stack) ch H H' s.heap s'.heap)(bj:l8 X.prog X.w H' s'.heap)(n:AllBare s'.gens)
 (j:∀b∈ch,(b∈X.ex∨X.Am.heap.objs.size≤b)∧b≠X.env.locals∧(∀x c,X.env.cells.lookup x=some c→c≠b)∧∀p∈X.pn++pins,p.1≠b):Inv X pins σ H' s':=by
 obtain⟨h',g',d',t',o'⟩:=s';have e:o'=s.os:=q;subst e;exact I.call (g':=g') (t':=t') (d':=d') u bj n j
end
abbrev XK:=Value→Option Addr→Hp→Prop
abbrev St:=List (Option V)
abbrev VK:=V→Hp→Prop
abbrev TE:=St→Hp→VK→Prop
abbrev TT:=St→Hp→(Bool→Hp→Prop)→Prop
abbrev TA:=St→Hp→(List V→Hp→Prop)→Prop
structure Ends where
 nx:St→Hp→Prop
 rt:VK
 bk:St→Hp→Prop:=fun _ _=>False
 ct:St→Hp→Prop:=fun _ _=>False
abbrev TS:=Ends→St→Hp→Prop
inductive EP(X:Cx)(pins:List (Addr×Obj))(σ:St)(Q:VK)(u:Value)(s:Shared):Prop
 |mk (v:V) (H:Hp) (i:Inv X pins σ H s) (r:RelV v u) (q:Q v H):EP X pins σ Q u s
inductive TP(X:Cx)(pins:List (Addr×Obj))(σ:St)(Q:Bool→Hp→Prop)(b:Bool)(s:Shared):Prop
 |mk (H:Hp) (i:Inv X pins σ H s) (q:Q b H):TP X pins σ Q b s
inductive AP(X:Cx)(pins:List (Addr×Obj))(σ:St)(Q:List V→Hp→Prop)(us:List Value)(s:Shared):Prop
 |mk (vs:List V) (H:Hp) (i:Inv X pins σ H s) (r:Vals vs us) (q:Q vs H):AP X pins σ Q us s
inductive Sx(X:Cx)(pins:List (Addr×Obj))(σ:St)(Q:Hp→Prop)(s:Shared):Prop
 |mk (H:Hp) (i:Inv X pins σ H s) (q:Q H):Sx X pins σ Q s
inductive Sh(X:Cx)(pins:List (Addr×Obj))(Q:St→Hp→Prop)(s:Shared):Prop
 |mk (σ:St) (H:Hp) (i:Inv X pins σ H s) (q:Q σ H):Sh X pins Q s
inductive SA(X:Cx)(pins:List (Addr×Obj))(Q:VK)(u:Value)(s:Shared):Prop
 |mk (v:V) (σ:St) (H:Hp) (i:Inv X pins σ H s) (r:RelV v u) (q:Q v H):SA X pins Q u s
def SP(X:Cx)(pins:List (Addr×Obj))(D:Ends)(f:Flow)(s':Shared):Prop:=
 match f with
 |.next=>Sh X pins D.nx s'
 |.brk=>Sh X pins D.bk s'
 |.cont=>Sh X pins D.ct s'
 |.ret u=>SA X pins D.rt u s'
def PE(X:Cx)(e:Expr)(t:TE):Prop:=
 ∀(pins:List (Addr×Obj)) (s:Shared) (σ:St) (H:Hp) (Q:VK),Inv X pins σ H s→t σ H Q→wpAny (model X.prog X.w) X.A (eval e X.env) (EP X pins σ Q) X.xe s
def PT(X:Cx)(e:Expr)(t:TT):Prop:=
 ∀(pins:List (Addr×Obj)) (s:Shared) (σ:St) (H:Hp) (Q:Bool→Hp→Prop),Inv X pins σ H s→t σ H Q→wpAny (model X.prog X.w) X.A (isTrue e X.env (eval e X.env)) (TP X pins σ Q) X.xe s
def PW(X:Cx)(e:Expr)(t:TT):Prop:=
 ∀(j:Sem Value) (pins:List (Addr×Obj)) (s:Shared) (σ:St) (H:Hp) (Q:Bool→Hp→Prop),Inv X pins σ H s→t σ H Q→wpAny (model X.prog X.w) X.A (isTrue e X.env j) (TP X pins σ Q) X.xe s
theorem PW.pt(h:PW X e t):PT X e t:=h _
def PA(X:Cx)(es:List Expr)(t:TA):Prop:=
 ∀(pos:Pos) (pins:List (Addr×Obj)) (s:Shared) (σ:St) (H:Hp) (Q:List V→Hp→Prop),Inv X pins σ H s→t σ H Q→wpAny (model X.prog X.w) X.A (spliced (backTo pos (starEach es X.env))) (AP X pins σ Q) X.xe s
def PS(X:Cx)(st:Stmt)(t:TS):Prop:=
 ∀(pins:List (Addr×Obj)) (s:Shared) (σ:St) (H:Hp) (D:Ends),Inv X pins σ H s→t D σ H→wpAny (model X.prog X.w) X.A (exec st X.env) (SP X pins D) X.xe s
def AH(X:Cx)(st:List Stmt)(t:TS):Prop:=
 ∀(pins:List (Addr×Obj)) (s:Shared) (σ:St) (H:Hp) (D:Ends),Inv X pins σ H s→t D σ H→wpAny (model X.prog X.w) X.A (execs st X.env) (SP X pins D) X.xe s
theorem bO{n:Type}{t:Sem n}{Q j:n→Shared→Prop}{M:Model}{A:Around}{E:Value→Shared→Prop}{s:Shared}(h:wpAny M A t Q E s)(q:∀a s,Q a s→j a s):wpAny M A t j E s:=wpAny_mono h q fun _ _ x=>x
end L2
namespace L2
open PySem PySem.Spec PyProof.Rows
section
variable {X:Cx}
inductive O4(i:Nat)(σ:St)(H:Hp)(Q:VK):Prop
 |mk (v:V) (e:σ[i]?=some (some v)) (q:Q v H):O4 i σ H Q
def pH(i:Nat):TE:=fun σ H Q=>O4 i σ H Q
def tC(v:V):TE:=fun _ H Q=>Q v H
theorem NX(B:X.N[i]?=some x)(F:Oe X.env.scope x)(hd:(x==("__debug__":Str))=false:=by decide)(q:(x==("__classdict__":Str))=false:=by decide):PE X (.Name x pos) (pH i):=by
 intro pins s σ H Q I h;obtain⟨v,e,h⟩:=h;obtain⟨m,hn,D⟩:=I.loc;obtain⟨u,r,l⟩:=D i x v B e F;have fin:EP X pins σ Q u s:=⟨v,H,I,r,h⟩;rcases l with⟨n,hm⟩|⟨n,c,z,j⟩
 ·exact wpAny_Name (wpAny_loadName_local I.ok.kind n hn hm fin) hd
 ·rcases n with n|n
  ·exact wpAny_Name (wpAny_loadName_cell I.ok.kind n z j fin) hd
  ·exact wpAny_Name (wpAny_loadName_free I.ok.kind n z j fin q) hd
theorem au{i j pos}:PE X (.Constant (.int i) j pos) (tC (.int i)):=fun _ _ _ H _ I h=>wpAny_Constant_int ⟨.int i,H,I.tok _,⟨_,Z⟩,h⟩
theorem iZ{b j pos}:PE X (.Constant (.bool b) j pos) (tC (.bl b)):=fun _ _ _ H _ I h=>Constant_bool ⟨.bl b,H,I,Z,h⟩
theorem a_{j pos}:PE X (.Constant .none j pos) (tC .bV):=fun _ _ _ H _ I h=>Constant_none ⟨.bV,H,I,Z,h⟩
theorem aZ{x j pos}:PE X (.Constant (.str x) j pos) (tC (.str x)):=fun _ _ _ H _ I h=>Calls.Constant_str ⟨.str x,H,I.tok _,⟨_,Z⟩,h⟩
def Gl(X:Cx)(x:Str):Prop:=X.env.kindOf x=some .globalImplicit
theorem BL{H:Hp}{Q:Value→Shared→Prop}(I:Inv X pins σ H s)(j:Gl X x)(hm:X.mg x=some u)(h:Q u s)
 (hd:(x==("__debug__":Str))=false:=by decide):wpAny (model X.prog X.w) X.A (eval (.Name x pos) X.env) Q E s:=
 Calls.Name_function_global I.ok.kind j (Calls.loadGlobal_global (by rw[I.ok.glob];exact I.mod.glob.keeps I.bk) hm h) hd
theorem mx{H:Hp}{Q:Value→Shared→Prop}(I:Inv X pins σ H s)(j:Gl X x)(hm:X.mg x=none)(n:bootBuiltins x=some u)(h:Q u s)
 (hn:x≠"__name__":=by decide)(hd:(x==("__debug__":Str))=false:=by decide):wpAny (model X.prog X.w) X.A (eval (.Name x pos) X.env) Q E s:=by
 obtain⟨q,h1,h2⟩:=I.mod.blt;exact Calls.Name_function_global I.ok.kind j (Calls.loadGlobal_builtin (by rw[I.ok.glob];exact I.mod.glob.keeps I.bk) hm (by rw[I.ok.blt];exact h1.keeps I.bk) ((h2 x hn).trans n) h) hd
theorem L4(j:Gl X x)(hm:X.mg x=some u)(r:RelV v u)(hd:(x==("__debug__":Str))=false:=by decide):PE X (.Name x pos) (tC v):=
 fun _ _ _ H _ I h=>BL I j hm ⟨v,H,I,r,h⟩ hd
variable {a b:Expr} {ta tb:TE} {pos:Pos}
def PC(X:Cx)(op:CmpOp)(a b:Expr)(t:TE):Prop:=
 ∀(pins:List (Addr×Obj)) (s:Shared) (σ:St) (H:Hp) (Q:VK),Inv X pins σ H s→t σ H Q→
  wpAny (model X.prog X.w) X.A (eval a X.env) (fun v s₁=>wpAny (model X.prog X.w) X.A (eval b X.env) (fun u s₂=>wpAny (model X.prog X.w) X.A (compareOp op v u) (EP X pins σ Q) X.xe s₂) X.xe s₁) X.xe s
inductive RB(Q:Bool→Hp→Prop)(x:V)(H:Hp):Prop
 |mk (c:Bool) (e:x=.bl c) (q:Q c H):RB Q x H
def tB(t:TE):TT:=fun σ H Q=>t σ H (RB Q)
theorem FT(h:PC X op a b t)(h1:behindInMarks op b=false:=by first|exact j _ (by decide) (by decide)|rfl):PE X (.Compare a [op] [b] pos) t:=fun pins s σ H Q I n=>wpAny_Compare1 (h pins s σ H Q I n) h1
theorem so{op:CmpOp}{t:TE}(h:PC X op a b t)(h1:behindInMarks op b=false:=by first|exact nobehind _ (by decide) (by decide)|rfl):PT X (.Compare a [op] [b] pos) (tB t):=by intro pins s σ H Q I n;refine wpAny_isTrue_Compare1 (bO (h pins s σ H _ I n) fun v _ h1=>bO h1 fun u _ h2=>bO h2 fun c D ⟨x,H1,j,B,z⟩=>?_) h1;obtain⟨d,rfl,q⟩:=z;cases B;exact wpAny_truthy_bool ⟨H1,j,q⟩
theorem bJ{e:Expr}{t:TE}(h:PE X e t)(he:∀j,isTrue e X.env j=(do let v ← j;standAt e.pos;holding [v] (truthy v)):=by intro _;rfl):PT X e (tB t):=by intro pins s σ H Q I z;refine isTrue_plain (bO (h pins s σ H _ I z) fun v F ⟨x,H1,n,D,B⟩=>?_) (he _);obtain⟨d,rfl,q⟩:=B;cases D;exact wpAny_truthy_bool ⟨H1,n,q⟩
variable {tA tB':TT} {rest:List Expr}
def Mm(t u:TT):TT:=fun σ H Q=>t σ H fun c H1=>if c=true then u σ H1 Q else Q false H1
def Sb(t u:TT):TT:=fun σ H Q=>t σ H fun c H1=>if c=true then Q true H1 else u σ H1 Q
def Rp(t:TT):TT:=fun σ H Q=>t σ H fun c H1=>Q (!c) H1
theorem d9(ha:PT X a tA):PW X (.BoolOp .And [a] pos) tA:=by
 intro j pins s σ H Q I h;refine isTrue_and (bO (ha pins s σ H Q I h) fun c _ e=>?_);cases c with
 |true=>exact isTrue_and_nil e
 |false=>exact e
theorem i5(ha:PT X a tA):PW X (.BoolOp .Or [a] pos) tA:=by
 intro j pins s σ H Q I h;refine isTrue_or (bO (ha pins s σ H Q I h) fun c _ e=>?_);cases c with
 |false=>exact isTrue_or_nil e
 |true=>exact e
theorem fq(ha:PT X a tA)(q:PW X (.BoolOp .And (b::rest) pos) tB'):PW X (.BoolOp .And (a::b::rest) pos) (Mm tA tB'):=by
 intro B pins s σ H Q I h;refine isTrue_and (bO (ha pins s σ H _ I h) fun c z ⟨H1,j,n⟩=>?_);cases c with
 |true=>exact q B pins z σ H1 Q j n
 |false=>exact⟨H1,j,n⟩
theorem jC(ha:PT X a tA)(q:PW X (.BoolOp .Or (b::rest) pos) tB'):PW X (.BoolOp .Or (a::b::rest) pos) (Sb tA tB'):=by
 intro B pins s σ H Q I h;refine isTrue_or (bO (ha pins s σ H _ I h) fun c z ⟨H1,j,n⟩=>?_);cases c with
 |true=>exact⟨H1,j,n⟩
 |false=>exact q B pins z σ H1 Q j n
theorem dJ(ha:PT X a tA):PT X (.UnaryOp .Not a pos) (Rp tA):=by intro pins s σ H Q I h;exact isTrue_not (bO (ha pins s σ H (fun c H1=>Q (!c) H1) I h) fun _ _ ⟨a,b,c⟩=>⟨a,b,c⟩)
def Qa(ta tb:TE):TE:=fun σ H Q=>ta σ H fun x H1=>∃c,x=.bl c∧if c=true then tb σ H1 Q else Q (.bl false) H1
def Rq(ta tb:TE):TE:=fun σ H Q=>ta σ H fun x H1=>∃c,x=.bl c∧if c=true then Q (.bl true) H1 else tb σ H1 Q
theorem mH{op}(h:PE X a t):PE X (.BoolOp op [a] pos) t:=fun pins s σ H Q I j=>BoolOp_one (h pins s σ H Q I j)
theorem sj(ha:PE X a ta)(q:PE X (.BoolOp .And (b::rest) pos) tb):PE X (.BoolOp .And (a::b::rest) pos) (Qa ta tb):=by
 intro pins s σ H Q I h;refine BoolOp_and (bO (ha pins s σ H _ I h) fun v B ⟨x,H1,n,z,j⟩=>?_);obtain⟨c,rfl,j⟩:=j;cases z;refine wpAny_truthy_bool ?_;cases c with
 |true=>exact q pins B σ H1 Q n j
 |false=>exact⟨.bl false,H1,n,Z,j⟩
theorem MU(ha:PE X a ta)(q:PE X (.BoolOp .Or (b::rest) pos) tb):PE X (.BoolOp .Or (a::b::rest) pos) (Rq ta tb):=by
 intro pins s σ H Q I h;refine BoolOp_or (bO (ha pins s σ H _ I h) fun v B ⟨x,H1,n,z,j⟩=>?_);obtain⟨c,rfl,j⟩:=j;cases z;refine wpAny_truthy_bool ?_;cases c with
 |false=>exact q pins B σ H1 Q n j
 |true=>exact⟨.bl true,H1,n,Z,j⟩
def R_(t:TT)(ta tb:TE):TE:=fun σ H Q=>t σ H fun c H1=>if c=true then ta σ H1 Q else tb σ H1 Q
theorem dS{c:Expr}(B:PT X c tA)(ha:PE X a ta)(z:PE X b tb):PE X (.IfExp c a b pos) (R_ tA ta tb):=by
 intro pins s σ H Q I h;refine wpAny_IfExp (bO (B pins s σ H _ I h) fun d q ⟨H1,j,n⟩=>?_);cases d with
 |true=>exact ha pins q σ H1 Q j n
 |false=>exact z pins q σ H1 Q j n
end
end L2
namespace L2
open PySem PySem.Spec PyProof.Rows
def aT(K:Frag)(H:Hp)(a:Addr)(xs:List V):Prop:=
 Rd H a (.lst xs)∨
  ∃(o:Obj) (j:Array Value) (n:Nat),K.lookup a=some o∧o.cls=.type "list"∧o.dict=none∧o.data=.seq j n∧j.size≤sizeLine∧Vals xs j.toList
def h9(K:Frag)(H:Hp)(a:Addr)(xs:List V):Prop:=
 Rd H a (.tup xs)∨
  ∃(o:Obj) (j:Array Value) (n:Nat),K.lookup a=some o∧o.cls=.type "tuple"∧o.data=.seq j n∧j.size≤sizeLine∧Vals xs j.toList
noncomputable def QN:Value→Option V
 |.none=>some .bV
 |.bool b=>some (.bl b)
 |.int i _=>some (.int i)
 |.str x _=>some (.str x)
 |.bytes b _=>some (.E1 b)
 |.float b _=>some (.Nu b)
 |.ref a=>some (.ref a)
 |.type n=>some (.ty n)
 |_=>none
theorem RelV.abs(r:RelV x u):QN u=some x:=by
 cases x with
 |bV=>cases r;rfl
 |bl _=>cases r;rfl
 |int _=>obtain⟨t,rfl⟩:=r;rfl
 |str _=>obtain⟨t,rfl⟩:=r;rfl
 |E1 _=>obtain⟨t,rfl⟩:=r;rfl
 |Nu _=>obtain⟨t,rfl⟩:=r;rfl
 |ref _=>cases r;rfl
 |ty _=>cases r;rfl
theorem RelV.inj(r:RelV x u)(q:RelV y u):x=y:=Option.some.inj (r.abs.symm.trans q.abs)
theorem Vals.inj:∀{xs ys:List V} {us:List Value},Vals xs us→Vals ys us→xs=ys
 |_,_,_,.nil,.nil=>rfl
 |_,_,_,.cons r t,.cons j n=>by rw[r.inj j,Vals.inj t n]
section
variable {X:Cx} {pins:List (Addr×Obj)} {σ:St} {H:Hp} {s:Shared} {a:Addr} {xs ys:List V}
theorem aT.of{K:Frag}(h:H a=some (.lst xs)):aT K H a xs:=.inl (.inl h)
theorem h9.of{K:Frag}(h:H a=some (.tup xs)):h9 K H a xs:=.inl (.inl h)
theorem Inv.list(I:Inv X pins σ H s)(h:aT X.K H a xs):∃j:List Value,Vals xs j∧PlainL s.heap a j.toArray∧xs.length≤sizeLine:=by
 rcases h with h|⟨o,j,n,B,q,hd,D,F,r⟩
 ·obtain⟨z,j,n,r,e⟩:=h.ok I.bj;exact⟨j,r,⟨_,n,e,Z,Z,Z⟩,z⟩
 ·refine⟨j.toList,r,⟨o,n,I.nr a o B,q,hd,by simpa using D⟩,?_⟩;have e:=r.length;simp only[Array.length_toList]at e;omega
theorem Inv.tuple(I:Inv X pins σ H s)(h:h9 X.K H a xs):∃j:List Value,Vals xs j∧IsTup s.heap a j.toArray∧xs.length≤sizeLine:=by
 rcases h with h|⟨o,j,n,B,q,D,F,r⟩
 ·obtain⟨z,j,r,p⟩:=h.ok I.bj;exact⟨j,r,p,z⟩
 ·refine⟨j.toList,r,⟨o,I.nr a o B,q,n,by simpa using D⟩,?_⟩;have e:=r.length;simp only[Array.length_toList]at e;omega
theorem Inv.qh(I:Inv X pins σ H s)(h:aT X.K H a xs)(h':aT X.K H a ys):xs=ys:=by
 obtain⟨q,r,⟨o,n,e,_,_,d⟩,_⟩:=I.list h;obtain⟨j,D,⟨o',F,z,_,_,d'⟩,_⟩:=I.list h';rw[e]at z;cases z;rw[d]at d';injection d' with B _
 have:q=j:=by simpa using congrArg Array.toList B
 subst this;exact r.inj D
theorem Inv.IQ(I:Inv X pins σ H s)(h:h9 X.K H a xs)(h':h9 X.K H a ys):xs=ys:=by
 obtain⟨q,r,⟨o,e,_,n,d⟩,_⟩:=I.tuple h;obtain⟨j,D,⟨o',z,_,F,d'⟩,_⟩:=I.tuple h';rw[e]at z;cases z;rw[d]at d';injection d' with B _
 have:q=j:=by simpa using congrArg Array.toList B
 subst this;exact r.inj D
end
abbrev Cx.zf(X:Cx)(E:Value→Shared→Prop):Cx:={X with xe:=E}
abbrev Cx.KQ(X:Cx):Cx:=X.zf fun _ _=>False
theorem Cx.Ok.zf{X:Cx}(ok:X.Ok)(E:Value→Shared→Prop):(X.zf E).Ok:=
 ⟨ok.mod,ok.kind,ok.glob,ok.blt,ok.above,ok.inj,ok.has,ok.Pg,ok.hd,ok.frames,ok.Qz,ok.Qx,ok.bs,ok.KP,ok.J8,ok.JC,ok.uE,ok.Nv⟩
theorem Cx.Ok.m4{X:Cx}(ok:(X.zf E).Ok):X.Ok:=
 ⟨ok.mod,ok.kind,ok.glob,ok.blt,ok.above,ok.inj,ok.has,ok.Pg,ok.hd,ok.frames,ok.Qz,ok.Qx,ok.bs,ok.KP,ok.J8,ok.JC,ok.uE,ok.Nv⟩
section
variable {X:Cx} {pins:List (Addr×Obj)} {σ:St} {H:Hp} {s:Shared} {E:Value→Shared→Prop}
theorem Inv.zf(I:Inv X pins σ H s)(E:Value→Shared→Prop):Inv (X.zf E) pins σ H s:=⟨I.ok.zf E,I.os,I.bare,I.base,I.loc,I.cell,I.free,I.j6,I.pin,I.bj,I.len⟩
theorem Inv.m4(I:Inv (X.zf E) pins σ H s):Inv X pins σ H s:=⟨I.ok.m4,I.os,I.bare,I.base,I.loc,I.cell,I.free,I.j6,I.pin,I.bj,I.len⟩
theorem SP.m4(h:SP (X.zf E) pins D f s'):SP X pins D f s':=by
 cases f with
 |next=>obtain⟨j,H',I,q⟩:=h;exact⟨j,H',I.m4,q⟩
 |brk=>obtain⟨j,H',I,q⟩:=h;exact⟨j,H',I.m4,q⟩
 |cont=>obtain⟨j,H',I,q⟩:=h;exact⟨j,H',I.m4,q⟩
 |ret u=>obtain⟨v,j,H',I,r,q⟩:=h;exact⟨v,j,H',I.m4,r,q⟩
theorem AH.KQ{st:List Stmt}{t:TS}(h:AH X.KQ st t):AH X st t:=fun pins s σ H D I j=>
 wpAny_mono (h pins s σ H D (I.zf _) j) (fun _ _ q=>q.m4) fun _ _ z=>False.elim z
end
section
variable {X:Cx} {st:Stmt} {rest:List Stmt} {t u:TS} {e:Expr} {te:TE} {pos:Pos}
def Hc:TS:=fun D σ H=>D.nx σ H
def ED(t u:TS):TS:=fun D σ H=>t {D with nx:=u D} σ H
theorem aA:AH X [] Hc:=fun _ _ σ H _ I h=>wpAny_execs_nil ⟨σ,H,I,h⟩
theorem af(h1:PS X st t)(h2:AH X rest u):AH X (st::rest) (ED t u):=by
 intro pins s σ H D I h;refine wpAny_execs_cons (bO (h1 pins s σ H {D with nx:=u D} I h) fun f z q=>?_);cases f with
 |next=>
  obtain⟨j,H',n,q⟩:=q;exact h2 pins z j H' D n q
 |ret v=>exact q
 |brk=>exact q
 |cont=>exact q
theorem ah(h1:PS X st t):AH X [st] t:=by
 intro pins s σ H D I h;refine wpAny_execs_cons (bO (h1 pins s σ H D I h) fun f _ q=>?_);cases f with
 |next=>exact wpAny_execs_nil q
 |ret v=>exact q
 |brk=>exact q
 |cont=>exact q
theorem Inv.quiet{H:Hp}(I:Inv X pins σ H s):interactive X.env=false:=by simp[interactive,I.ok.kind]
def Qh(te:TE):TS:=fun D σ H=>te σ H fun _ H1=>D.nx σ H1
theorem bu(he:PE X e te)(n:swapsWith e none pos.line X.env=pure false:=by rfl):PS X (.Expr e pos) (Qh te):=by intro pins s σ H D I h;exact wpAny_Expr_any (bO (he pins s σ H _ I h) fun v B ⟨x,H1,j,z,q⟩=>⟨σ,H1,j,q⟩) I.quiet n
def Cq(te:TE):TS:=fun D σ H=>te σ H D.rt
theorem ak(he:PE X e te):PS X (.Return (some e) pos) (Cq te):=by intro pins s σ H D I h;exact wpAny_Return_some (bO (he pins s σ H _ I h) fun v z ⟨x,H1,j,q,n⟩=>⟨x,σ,H1,j,q,n⟩)
def Mp(c:TT)(t u:TS):TS:=fun D σ H=>c σ H fun b H1=>if b=true then t D σ H1 else u D σ H1
theorem aM{c:Expr}{a b:List Stmt}{tc:TT}(B:PT X c tc)(ha:AH X a t)(z:AH X b u):PS X (.If c a b pos) (Mp tc t u):=by
 intro pins s σ H D I h;refine wpAny_If (bO (B pins s σ H _ I h) fun d q ⟨H1,j,n⟩=>?_);cases d with
 |true=>exact ha pins q σ H1 D j n
 |false=>exact z pins q σ H1 D j n
end
abbrev TG:=V→St→Hp→(St→Hp→Prop)→Prop
abbrev M7:=List V→St→Hp→(St→Hp→Prop)→Prop
def PG(X:Cx)(j:Expr)(t:TG):Prop:=
 ∀(pins:List (Addr×Obj)) (s:Shared) (σ:St) (H:Hp) (v:V) (u:Value) (Q:St→Hp→Prop),Inv X pins σ H s→RelV v u→t v σ H Q→
  wpAny (model X.prog X.w) X.A (assign j X.env u) (fun _=>Sh X pins Q) X.xe s
def OM(X:Cx)(q:List Expr)(t:M7):Prop:=
 ∀(pins:List (Addr×Obj)) (s:Shared) (σ:St) (H:Hp) (n:List V) (j:List Value) (Q:St→Hp→Prop),Inv X pins σ H s→Vals n j→t n σ H Q→
  wpAny (model X.prog X.w) X.A (assignInOrder ((assignEach q X.env).map (·.2)) j) (fun _=>Sh X pins Q) X.xe s
abbrev M8:=V→V→V→Hp→(Hp→Prop)→Prop
def M6(X:Cx)(t:M8):Prop:=
 ∀(pins:List (Addr×Obj)) (s:Shared) (σ:St) (H:Hp) (o i v:V) (n j u:Value) (Q:Hp→Prop),Inv X pins σ H s→RelV o n→RelV i j→RelV v u→t o i v H Q→
  wpAny (model X.prog X.w) X.A (setItem n j u) (fun _=>Sx X pins σ Q) X.xe s
abbrev O_:=V→V→Hp→VK→Prop
def QK(X:Cx)(op:Operator)(t:O_):Prop:=
 ∀(pins:List (Addr×Obj)) (s:Shared) (σ:St) (H:Hp) (x y:V) (v u:Value) (Q:VK),Inv X pins σ H s→RelV x v→RelV y u→t x y H Q→
  wpAny (model X.prog X.w) X.A (inplaceOp op v u) (EP X pins σ Q) X.xe s
section
variable {X:Cx} {pos:Pos}
def eR(i:Nat):TG:=fun v σ H Q=>Q (σ.set i (some v)) H
theorem B9(n:X.N.Nodup)(hi:X.N[i]?=some x)(z:Loc X.env.scope x)(q:X.fn x=true∨X.env.scope.names.lookup x=some .local:=by first|exact .inl rfl|exact .inr rfl|assumption):PG X (.Name x pos) (eR i):=by intro pins s σ H v u Q I r h;exact wpAny_assign_Name (xY I n hi z r (fun s' j=>⟨_,H,j,h⟩) q)
def QU:M7:=fun j σ H Q=>j=[]∧Q σ H
inductive O6(t:TG)(u:M7)(vs:List V)(σ:St)(H:Hp)(Q:St→Hp→Prop):Prop
 |mk (v:V) (r:List V) (e:vs=v::r) (q:t v σ H fun σ' H'=>u r σ' H' Q):O6 t u vs σ H Q
def Px(t:TG)(u:M7):M7:=O6 t u
theorem cP:OM X [] QU:=by intro pins s σ H n j Q I r h;obtain⟨e,h⟩:=h;subst e;cases r;exact assignInOrder_nil ⟨σ,H,I,h⟩
theorem aU{e:Expr}{es:List Expr}{t:TG}{u:M7}(h1:PG X e t)(h2:OM X es u)
 (z:(assignEach (e::es) X.env).map (·.2)=assign e X.env::(assignEach es X.env).map (·.2):=by rfl):OM X (e::es) (Px t u):=by
 intro pins s σ H L G Q I r h;obtain⟨v,J,q,h⟩:=h;subst q;cases r with
 |cons r D=>
  rw[z];refine assignInOrder_cons (bO (h1 pins s σ H _ _ _ I r h) fun _ F ⟨j,H1,n,B⟩=>?_);exact h2 pins F j H1 _ _ Q n D B
inductive RC(K:Frag)(n:Nat)(t:M7)(v:V)(σ:St)(H:Hp)(Q:St→Hp→Prop):Prop
 |mk (a:Addr) (xs:List V) (e:v=.ref a) (h:h9 K H a xs) (l:xs.length=n) (q:t xs σ H Q):RC K n t v σ H Q
def Py(K:Frag)(n:Nat)(t:M7):TG:=RC K n t
theorem eu(F:X.calm=true)(h:OM X es t)
 (hn:(assignEach es X.env).length=n:=by rfl)(j:(assignEach es X.env).findIdx? (·.1)=none:=by rfl):PG X (.Tuple es k pos) (Py X.K n t):=by
 intro pins s σ H v u Q I r q;obtain⟨a,xs,D,J,G,q⟩:=q;subst D;cases r;obtain⟨N,z,L,hz⟩:=I.tuple J;refine assign_Tuple_tuple (I.ok.hd F) L (by simp[hn,← G,z.length]) j fun h' M=>?_;have B:Inv X pins σ H {s with heap:=h'}:=I.kept (t':=s.toks) fun b o e=>M b o (Nat.ne_of_lt (Heap.lt_size e)) e;exact h pins _ σ H xs _ Q B (by simpa using z) q
def QV(to n:TE)(t:M8):TG:=fun v σ H Q=>to σ H fun o H1=>n σ H1 fun i H2=>t o i v H2 fun j=>Q σ j
theorem pw{o i:Expr}{to q:TE}{t:M8}(G:PE X o to)(hi:PE X i q)(J:M6 X t)
 (ha:∀v,assign (.Subscript o i pos) X.env v=(do
   let j ← holding [v] (eval o X.env);let n ← holding [v,j] (eval i X.env)
   standAt pos
   holding [v,j,n] (setItem j n v)
   release [v,j,n] []):=by intro _;rfl):PG X (.Subscript o i pos) (QV to q t):=by
 intro pins s σ H v u Q I r h;rw[ha];refine wpAny_bind (wpAny_holding (bO (G pins s σ H _ I h) fun j U ⟨x,H1,B,O,L⟩=>?_));refine wpAny_bind (wpAny_holding (bO (hi pins U σ H1 _ B L) fun n W ⟨y,H2,D,S,M⟩=>?_));refine wpAny_bind (wpAny_standAt (wpAny_bind (wpAny_holding (bO (J pins W σ H2 x y v j n u _ D O S r M) fun _ Y ⟨z,F,N⟩=>?_))));exact wpAny_release ⟨σ,z,F,N⟩
def IJ(te:TE)(g:TG):TS:=fun D σ H=>te σ H fun x H1=>g x σ H1 D.nx
theorem pB{tg e:Expr}{te:TE}{g:TG}(he:PE X e te)(n:PG X tg g)(z:swapsWithSole [tg] e pos.line X.env=pure false:=by rfl)(B:swappedStores [tg] e X.env=pure none:=by rfl)
 (h1:(assignEach [tg] X.env).map (·.2)=[assign tg X.env]:=by rfl):PS X (.Assign [tg] e pos) (IJ te g):=by
 intro pins s σ H D I h;refine wpAny_Assign_stores (bO (he pins s σ H _ I h) fun v J ⟨x,H1,j,G,F⟩=>?_) z B;rw[h1];exact bO (n pins J σ H1 x v _ j G F) fun _ _ q=>q
theorem FX{i:Nat}{x:Str}{e:Expr}{te:TE}{pos':Pos}(q:X.N.Nodup)(hi:X.N[i]?=some x)(F:Loc X.env.scope x)(he:PE X e te)(B:swapsWith e (some (.Name x pos')) pos.line X.env=pure false:=by rfl)(z:X.fn x=true∨X.env.scope.names.lookup x=some .local:=by first|exact .inl rfl|exact .inr rfl|assumption):
  PS X (.Assign [.Name x pos'] e pos) (IJ te (eR i)):=by
 intro pins s σ H D I h;refine wpAny_Assign_Name (bO (he pins s σ H _ I h) fun v L ⟨y,H1,j,J,G⟩=>?_) B;exact xY j q hi F J (fun _ n=>⟨_,H1,n,G⟩) z
inductive OT(i:Nat)(te:TE)(ti:O_)(D:Ends)(σ:St)(H:Hp):Prop
 |mk (x:V) (e:σ[i]?=some (some x)) (q:te σ H fun y H1=>ti x y H1 fun z H2=>D.nx (σ.set i (some z)) H2):OT i te ti D σ H
def Rk(i:Nat)(te:TE)(j:O_):TS:=OT i te j
theorem xA{i:Nat}{x:Str}{e:Expr}{te:TE}{op:Operator}{F:O_}{pos':Pos}(O:X.N.Nodup)(hi:X.N[i]?=some x)(q:Loc X.env.scope x)(he:PE X e te)(Y:QK X op F)(U:X.fn x=true∨X.env.scope.names.lookup x=some .local:=by first|exact .inl rfl|exact .inr rfl|assumption):
  PS X (.AugAssign (.Name x pos') op e pos) (Rk i te F):=by
 intro pins s σ H D I h;obtain⟨v,M,h⟩:=h;obtain⟨m,hn,W⟩:=I.loc;have B:Oe X.env.scope x:=by rcases q with k|k;exact .inl k;exact .inr (.inl k)
 obtain⟨u,r,l⟩:=W i x v hi M B;refine wpAny_AugAssign_Name ?_;have go:wpAny (model X.prog X.w) X.A (eval e X.env) (fun w s₂=>wpAny (model X.prog X.w) X.A (inplaceOp op u w) (fun r s₃=>wpAny (model X.prog X.w) X.A (storeName X.env x r) (fun _=>SP X pins D .next) X.xe s₃) X.xe s₂) X.xe s:=by refine bO (he pins s σ H _ I h) fun w s1 ⟨y,H1,G,r1,q1⟩=>?_;refine bO (Y pins s1 σ H1 v y u w _ G r r1 q1) fun z s2 ⟨zv,H2,J,r2,q2⟩=>?_;exact xY J O hi q r2 (fun _ L=>⟨_,H2,L,q2⟩) U
 rcases l with⟨j,hm⟩|⟨j,c,S,n⟩
 ·exact wpAny_loadName_local I.ok.kind j hn hm go
 ·rcases j with j|j
  ·exact wpAny_loadName_cell I.ok.kind j S n go
  ·rcases q with k|k
   ·have:X.env.scope.names.lookup x=some .free:=j;rw[k]at this;cases this
   ·have:X.env.scope.names.lookup x=some .free:=j;rw[k]at this;cases this
def Qb(to J te:TE)(j:V→V→Hp→VK→Prop)(q:O_)(n:M8):TS:=fun D σ H=>to σ H fun o H1=>J σ H1 fun i H2=>j o i H2 fun x B=>te σ B fun y F=>q x y F fun z G=>n o i z G fun I=>D.nx σ I
def OL(X:Cx)(t:V→V→Hp→VK→Prop):Prop:=
 ∀(pins:List (Addr×Obj)) (s:Shared) (σ:St) (H:Hp) (o i:V) (n j:Value) (Q:VK),Inv X pins σ H s→RelV o n→RelV i j→t o i H Q→
  wpAny (model X.prog X.w) X.A (getItem n j) (EP X pins σ Q) X.xe s
theorem GZ{o i e:Expr}{to J te:TE}{j:V→V→Hp→VK→Prop}{B:O_}{n:M8}{op:Operator}{tpos:Pos}(ho:PE X o to)(hi:PE X i J)(hg:OL X j)(he:PE X e te)(hp:QK X op B)(hs:M6 X n)
 (ha:∀z q new,augStore i z q new=(do holding [new,z,q] (setItem z q new);release [new,z,q] [];pure .next):=by intros;rfl):PS X (.AugAssign (.Subscript o i tpos) op e pos) (Qb to J te j B n):=by
 intro pins s σ H D I h;refine wpAny_AugAssign_SubscriptAny (bO (ho pins s σ H _ I h) fun z s1 ⟨L,H1,W,F,q1⟩=>?_) ha;refine bO (hi pins s1 σ H1 _ W q1) fun q s2 ⟨M,H2,Y,G,q2⟩=>?_;refine bO (hg pins s2 σ H2 L M z q _ Y F G q2) fun old s3 ⟨x3,N,I3,r3,q3⟩=>?_;refine bO (he pins s3 σ N _ I3 q3) fun v s4 ⟨x4,O,I4,r4,q4⟩=>?_;refine bO (hp pins s4 σ O x3 x4 old v _ I4 r3 r4 q4) fun new s5 ⟨x5,S,I5,r5,q5⟩=>?_;exact bO (hs pins s5 σ S L M x5 z q new _ I5 F G r5 q5) fun _ s6 ⟨U,I6,q6⟩=>⟨σ,U,I6,q6⟩
inductive O7(f:Int→Int→Int)(x y:V)(H:Hp)(Q:VK):Prop
 |mk (i j:Int) (e:x=.int i) (e2:y=.int j) (q:Q (.int (f i j)) H):O7 f x y H Q
def R4(f:Int→Int→Int):O_:=O7 f
theorem oT:QK X .Add (R4 fun i j=>i+j):=by intro pins s σ H x y v u Q I B D h;obtain⟨i,j,n,z,q⟩:=h;subst n;subst z;obtain⟨t,rfl⟩:=B;obtain⟨F,rfl⟩:=D;exact iadd_int ⟨.int _,H,I.tok _,⟨_,Z⟩,q⟩
end
section
variable {X:Cx} {pos:Pos}
def KE(c:TT)(tb:TS):TS:=fun D σ H=>∃W:Nat→St→Hp→Prop,(∃m,W m σ H)∧∀m σ H,W m σ H→
 c σ H fun b H1=>if b=true then∃N:St→Hp→Prop,(∀j H',N j H'→∃n,n<m∧W n j H')∧tb {D with nx:=N,ct:=N,bk:=D.nx} σ H1 else D.nx σ H1
theorem mK{c:Expr}{z:List Stmt}{tc:TT}{tb:TS}(hp:PassesOwn (model X.prog X.w) X.A X.env X.xe)(hc:PT X c tc)(hb:AH X z tb):PS X (.While c z [] pos) (KE tc tb):=by
 intro pins s σ H D I h;obtain⟨W,⟨m0,w0⟩,turn⟩:=h;refine wpAny_While (codeAny_whileLoop (fun n s'=>∃F H',Inv X pins F H' s'∧W n F H') ?_ m0 ⟨σ,H,I,w0⟩);rintro n s1 ⟨q,H1,I1,w1⟩;refine wpAny_passesOwn hp (bO (hc pins s1 q H1 _ I1 (turn n q H1 w1)) fun b s2 ⟨H2,U,G⟩=>?_);cases b with
 |true=>
  obtain⟨N,Y,G⟩:=G;rw[if_pos Z];refine wpAny_passesOwn hp (bO (hb pins s2 q H2 _ U G) fun f _ J=>?_);cases f with
  |next=>
   obtain⟨j,B,L,O⟩:=J;obtain⟨M,hm,S⟩:=Y j B O;exact⟨M,hm,j,B,L,S⟩
  |cont=>
   obtain⟨j,B,L,O⟩:=J;obtain⟨M,hm,S⟩:=Y j B O;exact⟨M,hm,j,B,L,S⟩
  |brk=>exact J
  |ret v=>exact J
 |false=>
  rw[if_neg Bool.false_ne_true];exact wpAny_execs_nil ⟨q,H2,U,G⟩
end
structure It where
 go:Nat→Hp→Prop
 CB:Nat→Hp→V→Hp→Prop
 stop:Nat→Hp→Prop
def ui(X:Cx)(pins:List (Addr×Obj))(H:Hp)(b:Addr):Prop:=
 H b=none∧b≠X.env.locals∧b∉X.fs∧(b∈X.ex∨X.Am.heap.objs.size≤b)∧(∀x c,X.env.cells.lookup x=some c→c≠b)∧∀p∈X.pn++pins,p.1≠b
theorem Inv.Ds{H H':Hp}{s:Shared}(I:Inv X pins σ H s)(j:s.heap.objs.size≤b)(hn:H' b=none):ui X pins H' b:=by
 refine⟨hn,Nat.ne_of_gt (Nat.lt_of_lt_of_le I.lt j),I.Q1 j,.inr (Nat.le_trans I.sz j),fun x c e z=>?_,fun p n z=>?_⟩
 ·obtain⟨v,q⟩:=I.cell x c e;exact absurd (Nat.lt_of_lt_of_le q.lt (by rw[z];exact j)) (Nat.lt_irrefl _)
 ·exact absurd (Nat.lt_of_lt_of_le (Heap.lt_size (I.pin p n).1) (by rw[z];exact j)) (Nat.lt_irrefl _)
structure Turn(P:Program)(w:World)(K:Frag)(tg:Expr)(J:It)(fp:List Addr)(it:Addr)(tn:Nat→Heap→Prop):Prop where
 mem:it∈fp
 obj:∀i h,tn i h→∀b∈fp,∃o,h.get? b=some o∧∀v,o.data≠.cell v
 keep:∀i h h',tn i h→(∀b∈fp,∀o,h.get? b=some o→h'.get? b=some o)→tn i h'
 item:∀(X:Cx),X.prog=P→X.w=w→X.K=K→X.calm=true→∀(i:Nat) (pins:List (Addr×Obj)) (s:Shared) (σ:St) (H:Hp) (E:Value→Shared→Prop),Inv X pins σ H s→(∀b∈fp,ui X pins H b)→tn i s.heap→J.go i H→
  wpAny (model P w) X.A (pyNext (.ref it)) (fun r s1=>∃u,r=some u∧
   wpAny (model P w) X.A (letOwnedTupleGo tg (.ref it) u) (fun _ s2=>∃x H',Inv X pins σ H' s2∧RelV x u∧J.CB i H x H'∧tn (i+1) s2.heap∧∀b∈fp,H' b=none) E s1) E s
 done:∀(X:Cx),X.prog=P→X.w=w→X.K=K→X.calm=true→∀(i:Nat) (pins:List (Addr×Obj)) (s:Shared) (σ:St) (H:Hp) (E:Value→Shared→Prop),Inv X pins σ H s→(∀b∈fp,ui X pins H b)→tn i s.heap→J.stop i H→
  wpAny (model P w) X.A (pyNext (.ref it)) (fun r s1=>r=none∧Inv X pins σ H s1) E s
 self:∀(A:Around) (i:Nat) (s:Shared) (Q:Value→Shared→Prop) (E:Value→Shared→Prop),tn i s.heap→Q (.ref it) s→wpAny (model P w) A (pyIter (.ref it)) Q E s
abbrev TI:=St→Hp→(It→Hp→Prop)→Prop
inductive OO(X:Cx)(pins:List (Addr×Obj))(σ:St)(tg:Expr)(R:It→Hp→Prop)(itv:Value)(s2:Shared):Prop
 |mk (it:Addr) (fp:List Addr) (tn:Nat→Heap→Prop) (J:It) (H':Hp) (e:itv=.ref it) (i:Inv X pins σ H' s2) (t:Turn X.prog X.w X.K tg J fp it tn) (z:tn 0 s2.heap) (f:∀b∈fp,ui X pins H' b) (r:R J H'):OO X pins σ tg R itv s2
def PI(X:Cx)(tg j:Expr)(q:TI):Prop:=
 ∀(pins:List (Addr×Obj)) (s:Shared) (σ:St) (H:Hp) (R:It→Hp→Prop),Inv X pins σ H s→q σ H R→
  wpAny (model X.prog X.w) X.A (eval j X.env) (fun v n=>wpAny (model X.prog X.w) X.A (pyIter v) (OO X pins σ tg R) X.xe n) X.xe s
theorem sW{s:Shared}{o:Obj}{Q:Unit→Shared→Prop}(z:s.heap.get? it=some o)(q:o.cls=.type n)(hd:o.data=.fields vs)
 (hn:["enumerate","zip","dict_itemiterator","dict_reverseitemiterator","odict_iterator","itertools.zip_longest","itertools.pairwise"].contains n=false)(j:Q () s):wpAny M A (letOwnedTupleGo tg (.ref it) u) Q E s:=by
 unfold letOwnedTupleGo;cases tg<;>first
  |exact wpAny_pure j
  |(cases u<;>first
    |exact wpAny_pure j
    |(refine wpAny_bind (wpAny_load z ?_)
      rw[q,hd];show wpAny M A (if(["enumerate","zip","dict_itemiterator","dict_reverseitemiterator","odict_iterator","itertools.zip_longest","itertools.pairwise"].contains n&&vs[0]?==some (rawInt _))=true then _ else _) Q E s;rw[if_neg (by intro h;rw[hn,Bool.false_and]at h;cases h)];exact wpAny_pure j))
def MD(K:Frag)(a:Addr):It:=
 ⟨fun i H=>∃xs x,aT K H a xs∧xs[i]?=some x,fun i H x H'=>H'=H∧∀xs,aT K H a xs→xs[i]?=some x,fun i H=>∃xs,aT K H a xs∧xs.length≤i⟩
def OA(K:Frag)(a:Addr):It:=
 ⟨fun i H=>∃xs x,h9 K H a xs∧xs[i]?=some x,fun i H x H'=>H'=H∧∀xs,h9 K H a xs→xs[i]?=some x,fun i H=>∃xs,h9 K H a xs∧xs.length≤i⟩
def KY(lo:Int)(n:Nat):It:=⟨fun i _=>i<n,fun i H x H'=>H'=H∧x=.int (lo+i),fun i _=>n≤i⟩
theorem IV{P:Program}{w:World}{K:Frag}{tg:Expr}(a n:Addr):Turn P w K tg (MD K a) [n] n (fun i h=>h.IsListIter n a i) where
 mem:=by simp
 obj:=fun i h st b j=>by
  have e:b=n:=by simpa using j
  subst e;obtain⟨o,e,c,d⟩:=st;exact⟨o,e,fun v z=>by rw[d]at z;cases z⟩
 keep:=fun i h h' st k=>st.at fun o e=>k n (by simp) o e
 item:=by intro X M O L hc i pins s σ H E I B st N;subst M O L;obtain⟨xs,x,D,S⟩:=N;obtain⟨U,Y,p,hz⟩:=I.list D;obtain⟨u,hu,ru⟩:=Y.get S;obtain⟨F,f1,f2,G,f4,J⟩:=B n (by simp);refine wpAny_pyNext_list_item st p.isList (x:=u) (by simpa using hu) fun h' q sb=>?_;have I1:Inv X pins σ H {s with heap:=h'}:=I.turned (t':=s.toks) (fun b o j e=>(sb.2 b j).trans e) F f1 G f4 J;obtain⟨o,e,c,d⟩:=id q;exact⟨u,Z,sW (s:={s with heap:=h'}) e c d (by decide) ⟨x,H,I1,ru,⟨Z,fun ys hy=>by rw[I.qh hy D];exact S⟩,q,fun b j=>(B b j).1⟩⟩
 done:=by intro X M O L hc i pins s σ H E I B st N;subst M O L;obtain⟨xs,D,S⟩:=N;obtain⟨U,Y,p,hz⟩:=I.list D;obtain⟨F,f1,f2,G,f4,J⟩:=B n (by simp);have hl:=Y.length;exact wpAny_pyNext_list_end (I.ok.hd hc) st p.isList (by simp;omega) fun h' eb=>⟨Z,I.turned (t':=s.toks) (fun b o j e=>eb b o j e) F f1 G f4 J⟩
 self:=fun _ _ _ _ _ st h=>wpAny_pyIter_listiter st h
theorem Gd{P:Program}{w:World}{K:Frag}{tg:Expr}(a n:Addr):Turn P w K tg (OA K a) [n] n (fun i h=>h.IsTupleIter n a i) where
 mem:=by simp
 obj:=fun i h st b j=>by
  have e:b=n:=by simpa using j
  subst e;obtain⟨o,e,c,d⟩:=st;exact⟨o,e,fun v z=>by rw[d]at z;cases z⟩
 keep:=fun i h h' st k=>st.at fun o e=>k n (by simp) o e
 item:=by intro X N S M hc i pins s σ H E I D st O;subst N S M;obtain⟨xs,x,F,U⟩:=O;obtain⟨q,Y,p,hz⟩:=I.tuple F;obtain⟨u,hu,ru⟩:=Y.get U;obtain⟨G,f1,f2,J,f4,L⟩:=D n (by simp);refine wpAny_pyNext_tuple_item st (show s.heap.IsTuple a q.toArray from p) (x:=u) (by simpa using hu) fun h' B sb=>?_;have I1:Inv X pins σ H {s with heap:=h'}:=I.turned (t':=s.toks) (fun b o j e=>(sb.2 b j).trans e) G f1 J f4 L;obtain⟨o,e,c,d⟩:=id B;exact⟨u,Z,sW (s:={s with heap:=h'}) e c d (by decide) ⟨x,H,I1,ru,⟨Z,fun ys hy=>by rw[I.IQ hy F];exact U⟩,B,fun b j=>(D b j).1⟩⟩
 done:=by intro X N S M hc i pins s σ H E I D st O;subst N S M;obtain⟨xs,F,U⟩:=O;obtain⟨q,Y,p,hz⟩:=I.tuple F;obtain⟨G,f1,f2,J,f4,L⟩:=D n (by simp);have hl:=Y.length;exact wpAny_pyNext_tuple_end (I.ok.hd hc) st (show s.heap.IsTuple a q.toArray from p) (by simp;omega) fun h' eb=>⟨Z,I.turned (t':=s.toks) (fun b o j e=>eb b o j e) G f1 J f4 L⟩
 self:=fun _ _ _ _ _ st h=>wpAny_pyIter_tupleiter st h
theorem Gc{P:Program}{w:World}{K:Frag}{tg:Expr}(j:Addr)(lo:Int)(n:Nat):Turn P w K tg (KY lo n) [j] j (fun i h=>IsRangeIter h j (lo+(i:Nat)*1) ((n:Int)-(i:Nat)) 1) where
 mem:=by simp
 obj:=fun i h st b q=>by
  have e:b=j:=by simpa using q
  subst e;exact⟨_,st,fun v z=>by have z':Data.fields _=Data.cell v:=z;cases z'⟩
 keep:=fun i h h' st k=>k j (by simp) _ st
 item:=by intro X M S L N i pins s σ H E I D st O;subst M S L;obtain⟨F,f1,f2,G,f4,J⟩:=D j (by simp);have W:=Walks.range (prog:=X.prog) (w:=X.w) (I.ok.hd N) j lo 1 n;refine W.item i s _ _ O st fun v h' tk hv B kk=>?_;obtain⟨t,rfl⟩:=hv;have U:Inv X pins σ H {s with heap:=h',toks:=tk}:=I.turned (fun b o q e=>kk b o (by simpa using q) e) F f1 G f4 J;refine⟨_,Z,sW (s:={s with heap:=h',toks:=tk}) (n:="range_iterator") B Z Z (by decide) ⟨.int (lo+i),H,U,⟨t,?_⟩,⟨Z,Z⟩,B,fun b q=>(D b q).1⟩⟩;rw[Int.mul_one]
 done:=by intro X M S L N i pins s σ H E I D st O;subst M S L;obtain⟨F,f1,f2,G,f4,J⟩:=D j (by simp);exact wpAny_pyNext_range_end (I.ok.hd N) st (by have:n≤i:=O;omega) fun h' Y=>⟨Z,I.turned (t':=s.toks) (fun b o q e=>Y b o q e) F f1 G f4 J⟩
 self:=fun _ _ _ _ _ st h=>wpAny_pyIter_rangeiter st h
end L2
namespace L2
open PySem PySem.Spec PyProof.Rows
section
variable {X:Cx} {tg:Expr}
def PJ(K:Frag)(tl:TE):TI:=fun σ H R=>tl σ H fun x H1=>∃a,x=.ref a∧(∃xs,aT K H1 a xs)∧R (MD K a) H1
def QW(K:Frag)(tl:TE):TI:=fun σ H R=>tl σ H fun x H1=>∃a,x=.ref a∧(∃xs,h9 K H1 a xs)∧R (OA K a) H1
theorem bK{l:Expr}{tl:TE}(z:PE X l tl):PI X tg l (PJ X.K tl):=by
 intro pins s σ H R I h;refine bO (z pins s σ H _ I h) fun v j ⟨x,H1,I1,G,F⟩=>?_;obtain⟨a,e,⟨xs,B⟩,q⟩:=F;subst e;cases G;obtain⟨D,J,p,hz⟩:=I1.list B;refine wpAny_pyIter_list p.isList ?_;refine⟨j.heap.objs.size,[j.heap.objs.size],_,_,H1,Z,I1.kept (t':=j.toks) fun b o e=>Heap.get?_push_of_some _ e,IV a _,⟨_,Heap.get?_push_size _ Z,Z,Z⟩,fun b n=>?_,q⟩;have e:b=j.heap.objs.size:=by simpa using n
 subst e;exact I1.Ds (Nat.le_refl _) (I1.bj.fresh (Nat.le_refl _))
theorem NZ{l:Expr}{tl:TE}(B:PE X l tl):PI X tg l (QW X.K tl):=by
 intro pins s σ H R I h;refine bO (B pins s σ H _ I h) fun v j ⟨x,H1,I1,G,F⟩=>?_;obtain⟨a,e,⟨xs,D⟩,q⟩:=F;subst e;cases G;obtain⟨n,J,p,hz⟩:=I1.tuple D;refine wpAny_pyIter_tuple (show j.heap.IsTuple a n.toArray from p) ?_;refine⟨j.heap.objs.size,[j.heap.objs.size],_,_,H1,Z,I1.kept (t':=j.toks) fun b o e=>Heap.get?_push_of_some _ e,Gd a _,⟨_,Heap.get?_push_size _ Z,Z,Z⟩,fun b z=>?_,q⟩;have e:b=j.heap.objs.size:=by simpa using z
 subst e;exact I1.Ds (Nat.le_refl _) (I1.bj.fresh (Nat.le_refl _))
theorem Kq{H:Hp}{s:Shared}{E:Value→Shared→Prop}{lo hi:Int}{t u v:Tok}{tk:Nat}(I:Inv X pins σ H s)(h1:-(2^62)≤lo)(h2:lo<2^62)(B:-(2^62)≤hi)(D:hi<2^62)
 (q:R (KY lo (hi-lo).toNat) H):wpAny (model X.prog X.w) X.A (pyIter (.ref s.heap.objs.size)) (OO X pins σ tg R) E {s with heap:=s.heap.push {cls:=.type "range",data:=.fields #[.int lo t,.int hi u,.int 1 v]},toks:=tk}:=by
 refine wpAny_pyIter_range (IsRange.new ..) (small_one h1 h2 B D) ?_;have j:Inv X pins σ H {s with heap:=s.heap.push {cls:=.type "range",data:=.fields #[.int lo t,.int hi u,.int 1 v]},toks:=tk}:=I.kept fun b o e=>Heap.get?_push_of_some _ e;refine⟨(s.heap.push {cls:=.type "range",data:=.fields #[.int lo t,.int hi u,.int 1 v]}).objs.size,[(s.heap.push {cls:=.type "range",data:=.fields #[.int lo t,.int hi u,.int 1 v]}).objs.size],_,_,H,Z,
  j.kept (t':=tk) fun b o e=>Heap.get?_push_of_some _ e,Gc _ lo (hi-lo).toNat,?_,fun b F=>?_,q⟩
 ·have n:lo+((0:Nat):Int)*1=lo:=by simp
  have z:(((hi-lo).toNat:Nat):Int)-((0:Nat):Int)=Builtin.Range.rangeSize lo hi 1:=by rw[rangeSize_one];split<;>omega
  show IsRangeIter _ _ (lo+((0:Nat):Int)*1) ((((hi-lo).toNat:Nat):Int)-((0:Nat):Int)) 1;rw[n,z];exact Heap.get?_push_size _ Z
 ·have e:b=(s.heap.push {cls:=.type "range",data:=.fields #[.int lo t,.int hi u,.int 1 v]}).objs.size:=by simpa using F
  subst e;exact j.Ds (Nat.le_refl _) (j.bj.fresh (Nat.le_refl _))
def PL(ta:TA):TI:=fun σ H R=>ta σ H fun n H1=>∃j:Int,n=[.int j]∧-(2^62)≤j∧j<2^62∧R (KY 0 j.toNat) H1
theorem Aj{a:Expr}{ta:TA}{p pos:Pos}(B:Gl X "range")(hm:X.mg "range"=none)(ha:PA X [a] ta)(D:starEach [a] X.env=[(false,eval a X.env)]:=by rfl):PI X tg (.Call (.Name "range" p) [a] [] pos) (PL ta):=by
 intro pins s σ H R I h;refine Call_ (mx I B hm boot_range (PyProof.Rows.callWith_type1 (bO (ha pos pins s σ H _ I h) fun M L ⟨N,H1,z,G,n⟩=>?_) D Z));obtain⟨j,e,n,F,q⟩:=n;subst e;cases G with
 |cons r J=>
  cases J;obtain⟨t,rfl⟩:=r;exact call_range_1 (Kq z (by omega) (by omega) n F (by simpa using q))
def Rn(z:TI)(g:TG)(tb:TS):TS:=fun D σ H=>z σ H fun J H1=>∃W:Nat→Nat→St→Hp→Prop,(∃m,W 0 m σ H1)∧∀i m σ H,W i m σ H→
 (J.stop i H∧D.nx σ H)∨(J.go i H∧∃N:St→Hp→Prop,(∀j H',N j H'→∃q,q<m∧W (i+1) q j H')∧∀x H',J.CB i H x H'→g x σ H' fun n H2=>tb {D with nx:=N,ct:=N,bk:=D.nx} n H2)
def xx(j:List Addr)(h:Heap):List (Addr×Obj):=j.filterMap fun b=>(h.get? b).map fun o=>(b,o)
theorem oZ{h:Heap}{b:Addr}(n:b∈j)(e:h.get? b=some o):(b,o)∈xx j h:=mem_filterMap.mpr ⟨b,n,by rw[e];rfl⟩
theorem Ii{h:Heap}{p:Addr×Obj}(B:p∈xx n h):p.1∈n∧h.get? p.1=some p.2:=by
 obtain⟨b,z,e⟩:=mem_filterMap.mp B;cases q:h.get? b with
 |none=>rw[q]at e;cases e
 |some o=>
  rw[q]at e;have j:(b,o)=p:=Option.some.inj e;subst j;exact⟨z,q⟩
theorem Inv.pinned{s:Shared}(I:Inv X pins σ H s)(D:∀b∈n,ui X pins H b)(F:∀b∈n,∃o,s.heap.get? b=some o∧∀v,o.data≠.cell v):Inv X (pins++xx n s.heap) σ H s:=
 I.GV fun p G=>(mem_append.mp G).elim (fun z=>I.pin p (mem_append_right _ z)) fun z=>by obtain⟨q,e⟩:=Ii z;obtain⟨B,f1,f2,_⟩:=D p.1 q;obtain⟨o,j,d⟩:=F p.1 q;rw[e]at j;cases j;exact⟨e,B,f1,f2,d⟩
theorem Inv.qR{pins pl:List (Addr×Obj)}{H:Hp}(I:Inv X (pins++pl) σ H s):Inv X pins σ H s:=I.GV fun p j=>I.pin p (mem_append_right _ (List.mem_append_left _ j))
theorem bx{F:Expr}{O:List Stmt}{wi:TI}{g:TG}{tb:TS}{pos:Pos}(hp:PassesOwn (model X.prog X.w) X.A X.env X.xe)(hc:X.calm=true)(hi:PI X tg F wi)(hg:PG X tg g)(B:AH X O tb)
 (hs:∀x,foldedSetIterable F X.env x=pure x:=by intro _;rfl):PS X (.For tg F O [] pos) (Rn wi g tb):=by
 intro pins s σ H D I h;refine wpAny_For (bO (hi pins s σ H _ I h) fun v _ h1=>bO h1 fun _ _ h2=>?_) hs;obtain⟨it,Y,tn,J,H2,e,I2,T,b3,f2,W,⟨m0,w0⟩,turn⟩:=h2;subst e;have G:∀{H':Hp},(∀b∈Y,H' b=none)→∀b∈Y,ui X pins H' b:=fun hn b B=>⟨hn b B,(f2 b B).2⟩;refine codeAny_forLoop_any (fun n s'=>∃i L H',Inv X pins L H' s'∧tn i s'.heap∧(∀b∈Y,H' b=none)∧W i n L H') ?_ m0 ⟨0,σ,H2,I2,b3,fun b B=>(f2 b B).1,w0⟩;rintro n s3 ⟨i,M,H3,I3,a2,a1,w3⟩;rcases turn i n M H3 w3 with⟨stop,qn⟩|⟨go,N,hN,step⟩
 ·refine wpAny_passesOwn hp (bO (T.done X Z Z Z hc i pins s3 M H3 X.xe I3 (G a1) a2 stop) fun r s4 ⟨hr,I4⟩=>?_);subst hr;exact wpAny_execs_nil ⟨M,H3,I4,qn⟩
 ·refine wpAny_passesOwn hp (bO (T.item X Z Z Z hc i pins s3 M H3 X.xe I3 (G a1) a2 go) fun r s4 ⟨u,hr,h4⟩=>?_);subst hr;refine wpAny_passesOwn hp (bO h4 fun _ s5 ⟨x,H5,I5,r5,y5,U,b2⟩=>?_);have b1:=I5.pinned (G b2) (T.obj _ _ U);refine wpAny_passesOwn hp (bO (hg _ s5 M H5 x u _ b1 r5 (step x H5 y5)) fun _ s6 ⟨σ6,H6,I6,q6⟩=>?_);refine wpAny_passesOwn hp (bO (B _ s6 σ6 H6 _ I6 q6) fun f s7 S=>?_);have again:∀{j:St} {q:Hp},Inv X (pins++xx Y s5.heap) j q s7→N j q→∃m,m<n∧∃i L H',Inv X pins L H' s7∧tn i s7.heap∧(∀b∈Y,H' b=none)∧W i m L H':=fun{j q} z n7=>by obtain⟨m',hm,w7⟩:=hN j q n7;refine⟨m',hm,i+1,j,q,z.qR,T.keep _ _ _ U fun b B o e=>(z.pin (b,o) (mem_append_right _ (mem_append_right _ (oZ B e)))).1,fun b B=>?_,w7⟩;obtain⟨o,e,d⟩:=T.obj _ _ U b B;exact(z.pin (b,o) (mem_append_right _ (mem_append_right _ (oZ B e)))).2.1
  cases f with
  |next=>obtain⟨j,q,z,n7⟩:=S;exact again z n7
  |cont=>obtain⟨j,q,z,n7⟩:=S;exact again z n7
  |brk=>obtain⟨j,q,z,S⟩:=S;exact⟨j,q,z.qR,S⟩
  |ret v=>obtain⟨x7,j,q,z,r7,S⟩:=S;exact⟨x7,j,q,z.qR,r7,S⟩
end
theorem cu{K:Frag}{a:Addr}{xs:List V}{g:TG}{tb:TS}{D:Ends}{σ:St}{H:Hp}(Pv:Nat→St→Hp→Prop)(B:Pv 0 σ H)(F:∀i σ H,i≤xs.length→Pv i σ H→aT K H a xs)
 (G:∀i x σ H,xs[i]?=some x→Pv i σ H→g x σ H fun n H2=>tb {D with nx:=Pv (i+1),ct:=Pv (i+1),bk:=D.nx} n H2)(hd:∀σ H,Pv xs.length σ H→D.nx σ H):
  ∃W:Nat→Nat→St→Hp→Prop,(∃m,W 0 m σ H)∧∀i m σ H,W i m σ H→
   ((MD K a).stop i H∧D.nx σ H)∨((MD K a).go i H∧∃N:St→Hp→Prop,(∀j H',N j H'→∃z,z<m∧W (i+1) z j H')∧∀x H',(MD K a).CB i H x H'→g x σ H' fun n H2=>tb {D with nx:=N,ct:=N,bk:=D.nx} n H2):=by
 refine⟨fun i m σ H=>m=xs.length-i∧i≤xs.length∧Pv i σ H,⟨xs.length,by simp,Nat.zero_le _,B⟩,?_⟩;rintro i m σ H ⟨rfl,hi,p⟩;have q:=F i σ H hi p;by_cases bL:i<xs.length
 ·refine .inr ⟨⟨xs,xs[i],q,by simp[bL]⟩,Pv (i+1),fun j H' I=>⟨xs.length-(i+1),by omega,Z,bL,I⟩,fun x H' y=>?_⟩;obtain⟨e,y⟩:=y;subst e;exact G i x σ _ (y xs q) p
 ·have e:i=xs.length:=by omega
  subst e;exact .inl ⟨⟨xs,q,Nat.le_refl _⟩,hd σ H p⟩
theorem Ln{K:Frag}{a:Addr}{xs:List V}{g:TG}{tb:TS}{D:Ends}{σ:St}{H:Hp}(Pv:Nat→St→Hp→Prop)(B:Pv 0 σ H)(F:∀i σ H,i≤xs.length→Pv i σ H→h9 K H a xs)
 (G:∀i x σ H,xs[i]?=some x→Pv i σ H→g x σ H fun n H2=>tb {D with nx:=Pv (i+1),ct:=Pv (i+1),bk:=D.nx} n H2)(hd:∀σ H,Pv xs.length σ H→D.nx σ H):
  ∃W:Nat→Nat→St→Hp→Prop,(∃m,W 0 m σ H)∧∀i m σ H,W i m σ H→
   ((OA K a).stop i H∧D.nx σ H)∨((OA K a).go i H∧∃N:St→Hp→Prop,(∀j H',N j H'→∃z,z<m∧W (i+1) z j H')∧∀x H',(OA K a).CB i H x H'→g x σ H' fun n H2=>tb {D with nx:=N,ct:=N,bk:=D.nx} n H2):=by
 refine⟨fun i m σ H=>m=xs.length-i∧i≤xs.length∧Pv i σ H,⟨xs.length,by simp,Nat.zero_le _,B⟩,?_⟩;rintro i m σ H ⟨rfl,hi,p⟩;have q:=F i σ H hi p;by_cases bL:i<xs.length
 ·refine .inr ⟨⟨xs,xs[i],q,by simp[bL]⟩,Pv (i+1),fun j H' I=>⟨xs.length-(i+1),by omega,Z,bL,I⟩,fun x H' y=>?_⟩;obtain⟨e,y⟩:=y;subst e;exact G i x σ _ (y xs q) p
 ·have e:i=xs.length:=by omega
  subst e;exact .inl ⟨⟨xs,q,Nat.le_refl _⟩,hd σ H p⟩
theorem HJ{lo:Int}{n:Nat}{g:TG}{tb:TS}{D:Ends}{σ:St}{H:Hp}(Pv:Nat→St→Hp→Prop)(B:Pv 0 σ H)
 (F:∀i σ H,i<n→Pv i σ H→g (.int (lo+i)) σ H fun q H2=>tb {D with nx:=Pv (i+1),ct:=Pv (i+1),bk:=D.nx} q H2)(hd:∀σ H,Pv n σ H→D.nx σ H):
  ∃W:Nat→Nat→St→Hp→Prop,(∃m,W 0 m σ H)∧∀i m σ H,W i m σ H→
   ((KY lo n).stop i H∧D.nx σ H)∨((KY lo n).go i H∧∃N:St→Hp→Prop,(∀j H',N j H'→∃z,z<m∧W (i+1) z j H')∧∀x H',(KY lo n).CB i H x H'→g x σ H' fun q H2=>tb {D with nx:=N,ct:=N,bk:=D.nx} q H2):=by
 refine⟨fun i m σ H=>m=n-i∧i≤n∧Pv i σ H,⟨n,by simp,Nat.zero_le _,B⟩,?_⟩;rintro i m σ H ⟨rfl,hi,p⟩;by_cases bL:i<n
 ·refine .inr ⟨bL,Pv (i+1),fun j H' G=>⟨n-(i+1),by omega,Z,bL,G⟩,fun x H' y=>?_⟩;obtain⟨e,y⟩:=y;subst e y;exact F i σ _ bL p
 ·have e:i=n:=by omega
  subst e;exact .inl ⟨Nat.le_refl _,hd σ H p⟩
theorem ye{D:Ends}{H:Hp}(Pv:St→Hp→Prop)(μ:St→Hp→Nat)(z:Pv σ H)
 (B:∀σ H,Pv σ H→c σ H fun b H1=>if b=true then tb {D with nx:=fun j H'=>Pv j H'∧μ j H'<μ σ H,ct:=fun j H'=>Pv j H'∧μ j H'<μ σ H,bk:=D.nx} σ H1 else D.nx σ H1)
 (mono:∀σ H Q n,(∀b H1,Q b H1→n b H1)→c σ H Q→c σ H n):KE c tb D σ H:=by
 refine⟨fun m σ H=>m=μ σ H∧Pv σ H,⟨_,Z,z⟩,?_⟩;rintro m σ H ⟨rfl,p⟩;refine mono σ H _ _ (fun b H1 q=>?_) (B σ H p);cases b with
 |true=>exact⟨_,fun j H' ⟨F,l⟩=>⟨_,l,Z,F⟩,q⟩
 |false=>exact q
end L2
namespace L2
open PySem PySem.Spec PyProof.Rows
abbrev R2:=V→V→Hp→VK→Prop
def qU(X:Cx)(f:Value→Value→Sem Value)(r:R2):Prop:=
 ∀(pins:List (Addr×Obj)) (s:Shared) (σ:St) (H:Hp) (x y:V) (v u:Value) (Q:VK),Inv X pins σ H s→RelV x v→RelV y u→r x y H Q→
  wpAny (model X.prog X.w) X.A (f v u) (EP X pins σ Q) X.xe s
def QM(X:Cx)(f:Value→Sem Value)(r:V→Hp→VK→Prop):Prop:=
 ∀(pins:List (Addr×Obj)) (s:Shared) (σ:St) (H:Hp) (x:V) (v:Value) (Q:VK),Inv X pins σ H s→RelV x v→r x H Q→
  wpAny (model X.prog X.w) X.A (f v) (EP X pins σ Q) X.xe s
def iG(X:Cx)(f:Value)(r:List V→Hp→VK→Prop):Prop:=
 ∀(pins:List (Addr×Obj)) (s:Shared) (σ:St) (H:Hp) (xs:List V) (j:List Value) (Q:VK),Inv X pins σ H s→Vals xs j→r xs H Q→
  wpAny (model X.prog X.w) X.A (call f j) (EP X pins σ Q) X.xe s
def Jd(r:R2)(ta tb:TE):TE:=fun σ H Q=>ta σ H fun x H1=>tb σ H1 fun y H2=>r x y H2 Q
def Se(r:V→Hp→VK→Prop)(ta:TE):TE:=fun σ H Q=>ta σ H fun x H1=>r x H1 Q
inductive RD(C:Int→Int→Prop)(g:Int→Int→V)(x y:V)(H:Hp)(Q:VK):Prop
 |mk (i j:Int) (e:x=.int i) (e2:y=.int j) (c:C i j) (q:Q (g i j) H):RD C g x y H Q
def rI(C:Int→Int→Prop)(g:Int→Int→V):R2:=RD C g
inductive O8(g:Int→Int→V)(x y:V)(H:Hp)(Q:VK):Prop
 |mk (i j:Int) (e:x=.int i) (e2:y=.int j) (q:Q (g i j) H):O8 g x y H Q
def Jc(g:Int→Int→V):R2:=O8 g
inductive RE(g:Int→V)(x:V)(H:Hp)(Q:VK):Prop
 |mk (i:Int) (e:x=.int i) (q:Q (g i) H):RE g x H Q
def rU(g:Int→V):V→Hp→VK→Prop:=RE g
section
variable {X:Cx} {a b c:Expr} {ta tb tc:TE} {pos:Pos}
theorem Nb(ha:PE X a ta)(z:PE X b tb){pins:List (Addr×Obj)}{s:Shared}{σ:St}{H:Hp}{R:V→V→Hp→Prop}(I:Inv X pins σ H s)
 (h:ta σ H fun x H1=>tb σ H1 fun y H2=>R x y H2){Q:Value→Shared→Prop}{f:Value→Value→Sem Value}
 (B:∀v u j x y H2,Inv X pins σ H2 j→RelV x v→RelV y u→R x y H2→wpAny (model X.prog X.w) X.A (f v u) Q X.xe j):
  wpAny (model X.prog X.w) X.A (eval a X.env) (fun v s₁=>wpAny (model X.prog X.w) X.A (eval b X.env) (fun u s₂=>wpAny (model X.prog X.w) X.A (f v u) Q X.xe s₂) X.xe s₁) X.xe s:=by
 refine bO (ha pins s σ H _ I h) fun v L ⟨x,H1,n,G,D⟩=>?_;refine bO (z pins L σ H1 _ n D) fun u j ⟨y,H2,q,J,F⟩=>?_;exact B v u j x y H2 q G J F
theorem aN(z:qU X (binaryOp op) r)(ha:PE X a ta)(n:PE X b tb):PE X (.BinOp a op b pos) (Jd r ta tb):=by intro pins s σ H Q I h;exact wpAny_BinOp (Nb ha n I h fun v u F x y H2 j B D q=>z pins F σ H2 x y v u Q j B D q)
theorem kg{op:UnaryOp}{r:V→Hp→VK→Prop}(n:QM X (unaryOp op) r)(ha:PE X a ta):PE X (.UnaryOp op a pos) (Se r ta):=by intro pins s σ H Q I h;exact UnaryOp_ (bO (ha pins s σ H _ I h) fun v B ⟨x,H1,j,z,q⟩=>n pins B σ H1 x v Q j z q)
theorem Q2{g:Int→Int→Int}
 (rule:∀(i j:Int) (t u:Tok) (s:Shared) (Q:Value→Shared→Prop) (E:Value→Shared→Prop),C i j→Q (.int (g i j) s.toks) {s with toks:=s.toks+1}→wpAny (model X.prog X.w) X.A (f (.int i t) (.int j u)) Q E s):
  qU X f (rI C fun i j=>.int (g i j)):=by
 intro pins s σ H x y v u Q I z B h;obtain⟨i,j,rfl,rfl,n,q⟩:=h;obtain⟨t,rfl⟩:=z;obtain⟨D,rfl⟩:=B;exact rule i j t D s _ _ n ⟨.int (g i j),H,I.tok _,⟨_,Z⟩,q⟩
theorem P1{g:Int→Int→Int}
 (rule:∀(i j:Int) (t u:Tok) (s:Shared) (Q:Value→Shared→Prop) (E:Value→Shared→Prop),Q (.int (g i j) s.toks) {s with toks:=s.toks+1}→wpAny (model X.prog X.w) X.A (f (.int i t) (.int j u)) Q E s):
  qU X f (Jc fun i j=>.int (g i j)):=by
 intro pins s σ H x y v u Q I n z h;obtain⟨i,j,rfl,rfl,q⟩:=h;obtain⟨t,rfl⟩:=n;obtain⟨B,rfl⟩:=z;exact rule i j t B s _ _ ⟨.int (g i j),H,I.tok _,⟨_,Z⟩,q⟩
theorem LZ{g:Int→Int→Bool}
 (rule:∀(i j:Int) (t u:Tok) (s:Shared) (Q:Value→Shared→Prop) (E:Value→Shared→Prop),Q (.bool (g i j)) s→wpAny (model X.prog X.w) X.A (f (.int i t) (.int j u)) Q E s):
  qU X f (Jc fun i j=>.bl (g i j)):=by
 intro pins s σ H x y v u Q I n z h;obtain⟨i,j,rfl,rfl,q⟩:=h;obtain⟨t,rfl⟩:=n;obtain⟨B,rfl⟩:=z;exact rule i j t B s _ _ ⟨.bl (g i j),H,I,Z,q⟩
theorem cy:qU X (binaryOp .Add) (Jc fun i j=>.int (i+j)):=P1 fun _ _ _ _ _ _ _ q=>add_int q
theorem iY:qU X (binaryOp .Sub) (Jc fun i j=>.int (i-j)):=P1 fun _ _ _ _ _ _ _ q=>sub_int q
theorem gG:qU X (binaryOp .Mod) (rI (fun _ j=>0<j) fun i j=>.int (i % j)):=Q2 fun i j _ _ _ _ _ n q=>by have h1:(0:Int)<j:=n;exact mod_int' (by omega) (by rw[Int.fmod_eq_emod_of_nonneg i (by omega)];exact q)
theorem Sf{g:Int→Int}
 (rule:∀(i:Int) (t:Tok) (s:Shared) (Q:Value→Shared→Prop) (E:Value→Shared→Prop),Q (.int (g i) s.toks) {s with toks:=s.toks+1}→wpAny (model X.prog X.w) X.A (f (.int i t)) Q E s):
  QM X f (rU fun i=>.int (g i)):=by
 intro pins s σ H x v Q I j h;obtain⟨i,rfl,q⟩:=h;obtain⟨t,rfl⟩:=j;exact rule i t s _ _ ⟨.int (g i),H,I.tok _,⟨_,Z⟩,q⟩
theorem gJ:QM X (unaryOp .USub) (rU fun i=>.int (-i)):=Sf fun _ _ _ _ _ q=>neg_int q
end
noncomputable def P9:V→V→Bool
 |.bV,.bV=>true|.bV,.int _=>true|.int _,.bV=>true|.bV,.bl _=>true|.bl _,.bV=>true|.bV,.str _=>true|.str _,.bV=>true
 |.int _,.int _=>true|.bl _,.bl _=>true|.str _,.str _=>true|.E1 _,.E1 _=>true
 |.int _,.str _=>true|.str _,.int _=>true|.bl _,.str _=>true|.str _,.bl _=>true
 |_,_=>false
def Q6:R2:=fun x y H Q=>P9 x y=true∧Q (.bl (decide (x=y))) H
def R6:R2:=fun x y H Q=>P9 x y=true∧Q (.bl (!decide (x=y))) H
theorem Gw:decide (V.int i=V.int j)=(i==j):=by rw[Bool.eq_iff_iff];simp
theorem Bc:decide (V.bl i=V.bl j)=(i==j):=by rw[Bool.eq_iff_iff];simp
theorem Gx:decide (V.str i=V.str j)=(i==j):=by rw[Bool.eq_iff_iff];simp
theorem Gv{i j:Array UInt8}:decide (V.E1 i=V.E1 j)=(i.toList==j.toList):=by rw[Bool.eq_iff_iff];cases i;cases j;simp
section
variable {X:Cx} {a b c:Expr} {ta tb tc:TE} {pos:Pos}
theorem bE{Q:VK}(I:Inv X pins σ H s)(q:Q (.bl k) H)(e:k=j):EP X pins σ Q (.bool j) s:=by subst e;exact⟨.bl k,H,I,Z,q⟩
theorem bN:qU X (compareOp .Eq) Q6:=by
 intro pins s σ H x y v u Q I D n h;obtain⟨B,q⟩:=h;cases x with
 |bV=>
  cases D;cases y with
  |bV=>cases n;exact PySem.EqNone.eq_none_none (bE I q (by simp))
  |bl j=>cases n;exact PySem.EqNone.eq_none_bool (bE I q (by simp))
  |int j=>obtain⟨z,rfl⟩:=n;exact PySem.EqNone.eq_none_int (bE I q (by simp))
  |str j=>obtain⟨z,rfl⟩:=n;exact PySem.EqNone.eq_none_str (bE I q (by simp))
  |_=>exact absurd (show false=true from B) Bool.false_ne_true
 |bl i=>
  cases D;cases y with
  |bV=>cases n;exact PySem.EqNone.eq_bool_none (bE I q (by simp))
  |bl j=>cases n;exact eq_bool (bE I q Bc)
  |str j=>obtain⟨z,rfl⟩:=n;exact PySem.EqMixed.eq_bool_str (bE I q (by simp))
  |_=>exact absurd (show false=true from B) Bool.false_ne_true
 |int i=>
  obtain⟨t,rfl⟩:=D;cases y with
  |bV=>cases n;exact PySem.EqNone.eq_int_none (bE I q (by simp))
  |int j=>obtain⟨z,rfl⟩:=n;exact eq_int (bE I q Gw)
  |str j=>obtain⟨z,rfl⟩:=n;exact PySem.EqMixed.eq_int_str (bE I q (by simp))
  |_=>exact absurd (show false=true from B) Bool.false_ne_true
 |str i=>
  obtain⟨t,rfl⟩:=D;cases y with
  |bV=>cases n;exact PySem.EqNone.eq_str_none (bE I q (by simp))
  |bl j=>cases n;exact PySem.EqMixed.eq_str_bool (bE I q (by simp))
  |int j=>obtain⟨z,rfl⟩:=n;exact PySem.EqMixed.eq_str_int (bE I q (by simp))
  |str j=>obtain⟨z,rfl⟩:=n;exact eq_str (bE I q Gx)
  |_=>exact absurd (show false=true from B) Bool.false_ne_true
 |E1 i=>
  obtain⟨t,rfl⟩:=D;cases y with
  |E1 j=>obtain⟨z,rfl⟩:=n;exact PySem.W.eq_bytes (bE I q Gv)
  |_=>exact absurd (show false=true from B) Bool.false_ne_true
 |_=>cases y<;>exact absurd (show false=true from B) Bool.false_ne_true
theorem d6:qU X (compareOp .NotEq) R6:=by
 intro pins s σ H x y v u Q I D n h;obtain⟨B,q⟩:=h;cases x with
 |bV=>
  cases D;cases y with
  |bV=>cases n;exact PySem.EqNone.ne_none_none (bE I q (by simp))
  |bl j=>cases n;exact PySem.EqNone.ne_none_bool (bE I q (by simp))
  |int j=>obtain⟨z,rfl⟩:=n;exact PySem.EqNone.ne_none_int (bE I q (by simp))
  |str j=>obtain⟨z,rfl⟩:=n;exact PySem.EqNone.ne_none_str (bE I q (by simp))
  |_=>exact absurd (show false=true from B) Bool.false_ne_true
 |bl i=>
  cases D;cases y with
  |bV=>cases n;exact PySem.EqNone.ne_bool_none (bE I q (by simp))
  |bl j=>cases n;exact ne_bool (bE I q (congrArg not Bc))
  |str j=>obtain⟨z,rfl⟩:=n;exact PySem.EqMixed.ne_bool_str (bE I q (by simp))
  |_=>exact absurd (show false=true from B) Bool.false_ne_true
 |int i=>
  obtain⟨t,rfl⟩:=D;cases y with
  |bV=>cases n;exact PySem.EqNone.ne_int_none (bE I q (by simp))
  |int j=>obtain⟨z,rfl⟩:=n;exact ne_int (bE I q (congrArg not Gw))
  |str j=>obtain⟨z,rfl⟩:=n;exact PySem.EqMixed.ne_int_str (bE I q (by simp))
  |_=>exact absurd (show false=true from B) Bool.false_ne_true
 |str i=>
  obtain⟨t,rfl⟩:=D;cases y with
  |bV=>cases n;exact PySem.EqNone.ne_str_none (bE I q (by simp))
  |bl j=>cases n;exact PySem.EqMixed.ne_str_bool (bE I q (by simp))
  |int j=>obtain⟨z,rfl⟩:=n;exact PySem.EqMixed.ne_str_int (bE I q (by simp))
  |str j=>obtain⟨z,rfl⟩:=n;exact ne_str (bE I q (congrArg not Gx))
  |_=>exact absurd (show false=true from B) Bool.false_ne_true
 |E1 i=>
  obtain⟨t,rfl⟩:=D;cases y with
  |E1 j=>obtain⟨z,rfl⟩:=n;exact PySem.W.ne_bytes (bE I q (congrArg not Gv))
  |_=>exact absurd (show false=true from B) Bool.false_ne_true
 |_=>cases y<;>exact absurd (show false=true from B) Bool.false_ne_true
theorem iX:qU X (compareOp .Lt) (Jc fun i j=>.bl (decide (i<j))):=LZ fun _ _ _ _ _ _ _ q=>lt_int q
theorem xk:qU X (compareOp .LtE) (Jc fun i j=>.bl (decide (i≤j))):=LZ fun _ _ _ _ _ _ _ q=>le_int q
theorem mD:qU X (compareOp .Gt) (Jc fun i j=>.bl (decide (j<i))):=LZ fun _ _ _ _ _ _ _ q=>gt_int q
theorem n8:qU X (compareOp .GtE) (Jc fun i j=>.bl (decide (j≤i))):=LZ fun _ _ _ _ _ _ _ q=>ge_int q
theorem xj:qU X (compareOp .Is) (fun x y H Q=>y=.bV∧Q (.bl (decide (x=.bV))) H):=by
 intro pins s σ H x y v u Q I j n h;obtain⟨rfl,q⟩:=h;cases n;refine is_none_gen (bE I q ?_);cases x<;>first
  |(cases j;rfl)
  |(obtain⟨t,rfl⟩:=j;rfl)
theorem nz:qU X (compareOp .IsNot) (fun x y H Q=>y=.bV∧Q (.bl (!decide (x=.bV))) H):=by
 intro pins s σ H x y v u Q I j n h;obtain⟨rfl,q⟩:=h;cases n;refine isnot_none_gen (bE I q ?_);cases x<;>first
  |(cases j;rfl)
  |(obtain⟨t,rfl⟩:=j;rfl)
theorem aB(b:Expr)(h:op≠.In:=by decide)(h2:op≠.NotIn:=by decide):behindInMarks op b=false:=by
 have j:(op==CmpOp.In)=false:=by cases op<;>first|rfl|exact absurd rfl h
 have n:(op==CmpOp.NotIn)=false:=by cases op<;>first|rfl|exact absurd rfl h2
 cases b<;>simp[behindInMarks,j,n]
theorem d7(z:qU X (compareOp op) r)(ha:PE X a ta)(n:PE X b tb)(hm:behindInMarks op b=false):PE X (.Compare a [op] [b] pos) (Jd r ta tb):=by intro pins s σ H Q I h;exact wpAny_Compare1 (Nb ha n I h fun v u F x y H2 j B D q=>z pins F σ H2 x y v u Q j B D q) hm
def xZ(t:TE):TT:=fun σ H Q=>t σ H (RB Q)
theorem az{op:CmpOp}{r:R2}(F:qU X (compareOp op) r)(ha:PE X a ta)(D:PE X b tb)(hm:behindInMarks op b=false):PT X (.Compare a [op] [b] pos) (xZ (Jd r ta tb)):=by
 intro pins s σ H Q I h;refine wpAny_isTrue_Compare1 (bO (ha pins s σ H _ I h) fun v S ⟨x,H1,n,M,G⟩=>bO (D pins S σ H1 _ n G) fun u U ⟨y,H2,q,N,J⟩=>
  bO (F pins U σ H2 x y v u _ q M N J) fun c W ⟨z,j,B,O,k,e,L⟩=>?_) hm
 subst e;cases O;exact wpAny_truthy_bool ⟨j,B,L⟩
def N6(r q:R2)(ta tb tc:TE):TE:=fun σ H Q=>ta σ H fun x H1=>tb σ H1 fun y H2=>r x y H2 fun z j=>∃k,z=.bl k∧
 (if k=true then tc σ j fun B n=>q y B n Q else Q (.bl false) j)
theorem kf{op j:CmpOp}{r F:R2}(U:qU X (compareOp op) r)(n:qU X (compareOp j) F)(ha:PE X a ta)(O:PE X b tb)(S:PE X c tc)
 (hm:lastMarks [op,j] [b,c]=false:=by with_unfolding_all rfl):PE X (.Compare a [op,j] [b,c] pos) (N6 r F ta tb tc):=by
 intro pins s σ H Q I h;refine Compare_chain (bO (ha pins s σ H _ I h) fun v s1 ⟨x,H1,L,r1,W⟩=>chain_link (bO (O pins s1 σ H1 _ L W) fun u s2 ⟨y,H2,M,G,Y⟩=>
  bO (U pins s2 σ H2 x y v u _ M r1 G Y) fun d s3 ⟨z,q,B,r3,k,e,D⟩=>?_)) hm
 subst e;cases r3;refine wpAny_truthy_bool ?_;cases k with
 |false=>exact ite_ff ⟨.bl false,q,B,Z,D⟩
 |true=>exact ite_tt (chain_last (bO (S pins s3 σ q _ B D) fun w' s4 ⟨z',J,N,r4,q4⟩=>n pins s4 σ J y z' u w' Q N G r4 q4))
theorem oV:(sizeLine:Nat)<2^63:=by rw[sizeLine_eq];decide
theorem iW:qU X (binaryOp .Add) (fun x y H Q=>∃i j,x=.str i∧y=.str j∧i.length+j.length≤sizeLine∧Q (.str (i++j)) H):=by intro pins s σ H x y v u Q I n z h;obtain⟨i,j,rfl,rfl,hz,q⟩:=h;obtain⟨t,rfl⟩:=n;obtain⟨B,rfl⟩:=z;exact add_str (fun B tk=>⟨.str (i++j),H,I.tok _,⟨_,Z⟩,q⟩) hz
theorem vals1{us:List Value}(r:Vals [x] us):∃u,us=[u]∧RelV x u:=by
 cases r with
 |cons j n=>cases n;exact⟨_,Z,j⟩
theorem dN:iG X (.builtin "abs") (fun xs H Q=>∃i,xs=[.int i]∧Q (.int (if i<0 then -i else i)) H):=by intro pins s σ H xs j Q I r h;obtain⟨i,rfl,q⟩:=h;obtain⟨u,rfl,t,rfl⟩:=vals1 r;exact call_abs_int fun u tk=>⟨.int (if i<0 then -i else i),H,I.tok _,⟨_,Z⟩,q⟩
theorem iu:iG X (.type "str") (fun xs H Q=>∃i,xs=[.int i]∧i.natAbs.log2<1920∧Q (.str (toString i)) H):=by intro pins s σ H xs j Q I r h;obtain⟨i,rfl,hz,q⟩:=h;obtain⟨u,rfl,t,rfl⟩:=vals1 r;exact PySem.P.str_of_int hz ⟨.str _,H,I.tok _,⟨_,Z⟩,q⟩
theorem CU:iG X (.builtin "ord") (fun xs H Q=>∃x,xs=[.str x]∧x.length=1∧Q (.int (x.cps.getD 0 0:Nat)) H):=by intro pins s σ H xs j Q I r h;obtain⟨x,rfl,hz,q⟩:=h;obtain⟨u,rfl,t,rfl⟩:=vals1 r;exact ord_of_one hz ⟨.int _,H,I.tok _,⟨_,Z⟩,q⟩
end
end L2
namespace L2
open PySem PySem.Spec PyProof.Rows
structure E3(h:Heap)(x dx C:Addr)(mA:Str→Option Value):Prop where
 obj:h.get? x=some (instObj C dx)
 ns:h.Ns1 dx mA
 ne:dx≠x
theorem Ib{h:Heap}(n:h.Ns1 dx mA):∃B,h.get? dx=some B∧∀name,lookIn name B=some (mA name):=by
 obtain⟨o,es,ep,G,hd,F,_,hm⟩:=n;refine⟨o,G,fun name=>?_⟩;have e:=hm name;unfold nsFind findBy at e;rw[← Array.find?_toList]at e;unfold lookIn;rw[hd];dsimp only;split
 ·rename_i y q
  rw[q]at e;exact congrArg some e
 ·rename_i q
  rw[q]at e;have a:es.toList.any (·.refKey)=false:=by rw[List.any_eq_false];intro y I;obtain⟨z,t,j⟩:=F y (Array.mem_toList_iff.mp I);simp[DictEntry.refKey,j]
  have D:¬es.toList.any (·.refKey)=true:=by rw[a];exact Bool.false_ne_true
  rw[if_neg D];exact congrArg some e
theorem E3.look(I:E3 h x dx C mA):∃j,PySem.W.InstAt h x (instObj C dx) C (some j)∧∀name,lookIn name j=some (mA name):=
 let⟨j,q,n⟩:=Ib I.ns
 ⟨j,⟨I.obj,Z,Z,q⟩,n⟩
section
variable {prog:Program} {w:World} {A:Around} {E:Value→Shared→Prop} {s:Shared} {K:Frag} {x dx C f:Addr} {mA:Str→Option Value} {name:Str} {v:Value}
theorem get_map{Q:Value→Shared→Prop}(X:K.In s.heap)(I:E3 s.heap x dx C mA)(n:plainGet K C name=true)(q:hasDictIn K C=true)
 (ha:findIn K (.ref C) name=some none)(B:mA name=some v)(j:handedIn v=true)(h:Q v {s with toks:=s.toks+1}):
  wpAny (model prog w) A (getAttr (.ref x) name expr) Q E s:=by
 obtain⟨D,J,z⟩:=I.look;exact PySem.W.get_value X J (plainGet_of n).1 (PySem.W.findObj_own q ha Z (by rw[z,B])) j h
theorem JM{Q:Value×List Value→Shared→Prop}(X:K.In s.heap)(I:E3 s.heap x dx C mA)(j:plainGet K C name=true)
 (n:findIn K (.ref C) name=some (some (.ref f)))(z:isFn K (.ref f)=true)(B:mA name=none)(h:Q (.ref f,[.ref x]) s):
  wpAny (model prog w) A (getMethod (.ref x) name pl) Q E s:=by
 obtain⟨D,J,q⟩:=I.look;exact PySem.W.method_fn X J (plainGet_of j).1 (plainGet_of j).2 n (beq_iff_eq.mp z) (by show(lookIn name D).map (·.isSome)=some false;rw[q,B];rfl) h
theorem Mg{ns:List Str}{Q:Unit→Shared→Prop}(X:K.In s.heap)(I:E3 s.heap x dx C mA)
 (O:findIn K (.ref C) "__setattr__"=some (some (.builtin "object.__setattr__")))(N:plainOver K C=true)(S:takerIn K C name=some none)(M:hasDictIn K C=true)
 (U:PySem.Within mA ns)(hsz:ns.length≤sizeLine)
 (h:∀h',E3 h' x dx C (fun y=>if y=name then some v else mA y)→Heap.SameBut dx s.heap h'→Q () {s with heap:=h',toks:=s.toks+2}):
  wpAny (model prog w) A (setAttr (.ref x) name v) Q E s:=by
 obtain⟨od,J,hl⟩:=I.look;refine PySem.W.set_plain X J O (PySem.W.osa_open (s:={s with toks:=s.toks+1}) (r:=none) X J N S fun b=>?_);obtain⟨cd,L,z⟩:=PySem.W.any_some M;have Y:s.heap.get? x=some ⟨.ref C,some dx,.plain,#[]⟩:=I.obj;refine wpAny_bind (wpAny_pure (wpAny_bind (wpAny_bind (wpAny_loadPart Y (wpAny_bind (Looks.here (s:={s with toks:=s.toks+1}) (PySem.W.looks_clsIn X L) ?_))))));rw[z];refine wpAny_pure (a:=some dx) (wpAny_bind (wpAny_pure (wpAny_bind ?_)));refine wpAny_nsSet1 (s:={s with toks:=s.toks+1}) I.ns fun h' j n=>?_;obtain⟨oD,G,F,D,B,q⟩:=j.count (PySem.Within.cons name v U);refine wpAny_bind (wpAny_lookBehind D (by rw[B];exact pastItsLine_dict (Nat.le_trans q (by rw[length_cons];omega))) ?_);exact wpAny_pure (h _ ⟨(n.2 _ (Ne.symm I.ne)).trans I.obj,j,I.ne⟩ n)
theorem J1{vs:List Value}{j:List (Str×Value)}(X:K.In s.heap)(hm:makesIn K C=true)
 (hi:findIn K (.ref C) "__init__"=some (some (.ref f)))(n:typeIn K (.ref f)=some (.type "function"))
 (h:codeAny (model prog w) (A.under (.builtin "type.__call__" ⟨.ref C::vs,j⟩)) (.call (.ref f) ⟨.ref (s.heap.objs.size+1)::vs,j⟩) (PySem.W.InitBack (s.heap.objs.size+1) R)
   {s with heap:=(s.heap.push emptyDict).push (instObj C s.heap.objs.size)}):
  codeAny (model prog w) A (.call (.ref C) ⟨vs,j⟩) R s:=by
 obtain⟨q,g,d,t,os⟩:=s;exact PySem.W.make_core (PySem.W.makes_of X hm) (PySem.W.looks_findIn X hi) (fun self=>PySem.W.bind_fn X self n) (.inl Z) h
end
def aP(f:Str)(v:V):List (Str×V)→List (Str×V)
 |[]=>[(f,v)]
 |(g,x)::r=>if g=f then(g,v)::r else(g,x)::aP f v r
theorem jw(f g:Str)(v:V):∀fs:List (Str×V),(aP f v fs).lookup g=if g=f then some v else fs.lookup g
 |[]=>by
  show List.lookup g [(f,v)]=_;by_cases h:g=f
  ·have j:(g==f)=true:=beq_iff_eq.mpr h;simp only[List.lookup,j,if_pos h]
  ·have j:(g==f)=false:=beq_eq_false_iff_ne.mpr h;simp only[List.lookup,j,if_neg h]
 |(k,x)::r=>by
  have q:=jw f g v r;rw[show aP f v ((k,x)::r)=(if k=f then(k,v)::r else(k,x)::aP f v r)from Z];by_cases n:k=f
  ·rw[if_pos n];by_cases h:g=k
   ·have j:(g==k)=true:=beq_iff_eq.mpr h;simp only[List.lookup,j,if_pos (h.trans n)]
   ·have j:(g==k)=false:=beq_eq_false_iff_ne.mpr h;simp only[List.lookup,j,if_neg (fun e:g=f=>h (e.trans n.symm))]
  ·rw[if_neg n];by_cases h:g=k
   ·have j:(g==k)=true:=beq_iff_eq.mpr h;simp only[List.lookup,j,if_neg (fun e:g=f=>n (h.symm.trans e))]
   ·have j:(g==k)=false:=beq_eq_false_iff_ne.mpr h;simp only[List.lookup,j];exact q
theorem rG(f:Str)(v:V):∀fs:List (Str×V),f∈(aP f v fs).map (·.1)∧∀g,g∈fs.map (·.1)→g∈(aP f v fs).map (·.1)
 |[]=>⟨by simp[aP],fun g h=>by simp at h⟩
 |(k,x)::r=>by
  obtain⟨n,i2⟩:=rG f v r;rw[show aP f v ((k,x)::r)=(if k=f then(k,v)::r else(k,x)::aP f v r)from Z];by_cases j:k=f
  ·rw[if_pos j];subst j;exact⟨by simp,fun g h=>by simpa using h⟩
  ·rw[if_neg j];refine⟨?_,fun g h=>?_⟩
   ·rw[map_cons];exact mem_cons_of_mem _ n
   ·rw[map_cons]at h ⊢;rcases mem_cons.mp h with e|e
    ·exact mem_cons.mpr (.inl e)
    ·exact mem_cons_of_mem _ (i2 g e)
theorem di(f:Str)(v:V):∀fs:List (Str×V),(aP f v fs).length≤fs.length+1
 |[]=>by simp[aP]
 |(k,x)::r=>by
  have n:=di f v r;rw[show aP f v ((k,x)::r)=(if k=f then(k,v)::r else(k,x)::aP f v r)from Z];by_cases j:k=f
  ·rw[if_pos j,length_cons,length_cons];omega
  ·rw[if_neg j,length_cons,length_cons];omega
theorem kE.some_of(r:kE (some v) o):∃u,o=some u∧RelV v u:=by
 cases o with
 |none=>exact(show False from r).elim
 |some u=>exact⟨u,Z,r⟩
theorem kE.none_of(r:kE none o):o=none:=by
 cases o with
 |none=>rfl
 |some u=>exact(show False from r).elim
theorem HL(r:RelV v u):handedIn u=true:=by
 cases v with
 |bV=>cases(show u=Value.none from r);rfl
 |bl b=>cases(show u=Value.bool b from r);rfl
 |int i=>obtain⟨t,e⟩:=(show∃t,u=Value.int i t from r);cases e;rfl
 |str x=>obtain⟨t,e⟩:=(show∃t,u=Value.str x t from r);cases e;rfl
 |E1 b=>obtain⟨t,e⟩:=(show∃t,u=Value.bytes b t from r);cases e;rfl
 |Nu b=>obtain⟨t,e⟩:=(show∃t,u=Value.float b t from r);cases e;rfl
 |ref a=>cases(show u=Value.ref a from r);rfl
 |ty n=>cases(show u=Value.type n from r);rfl
section
variable {P:Program} {w:World} {H H':Hp} {h h':Heap} {a C dx:Addr} {fs fs':List (Str×V)}
theorem vc(bj:l8 P w H h)(e:H a=some (.ins C dx fs)):∃mA,E3 h a dx C mA∧(∀f,kE (fs.lookup f) (mA f))∧PySem.Within mA (fs.map (·.1))∧fs.length≤1000∧H dx=some (.own a):=by obtain⟨d,z,ne,j,mA,n,r,q⟩:=(show b8 P w H h a (.ins C dx fs)from bj a _ e);exact⟨mA,⟨j,n,ne⟩,r,q,z,d⟩
end
structure Jf(K:Frag)(C:Addr):Prop where
 pg:plainGet K C Str.empty=true
 hd:hasDictIn K C=true
 po:plainOver K C=true
 sa:findIn K (.ref C) "__setattr__"=some (some (.builtin "object.__setattr__"))
theorem Jf.get{K:Frag}{C:Addr}(c:Jf K C)(f:Str):plainGet K C f=true:=c.pg
def bD(K:Frag)(C:Addr)(f:Str):Prop:=findIn K (.ref C) f=some none
theorem bD.Qp{K:Frag}{C:Addr}{f:Str}(n:bD K C f):takerIn K C f=some none:=by unfold takerIn;rw[show findIn K (.ref C) f=some none from n];rfl
structure Meth(K:Frag)(C:Addr)(m:Str)(f:Addr):Prop where
 at_:findIn K (.ref C) m=some (some (.ref f))
 fn:isFn K (.ref f)=true
 kp:keepIn K (.ref f)=true
section
variable {X:Cx} {pins:List (Addr×Obj)} {σ:St} {H:Hp} {s:Shared} {a C dx:Addr} {fs:List (Str×V)} {f:Str} {v:V} {A:Around} {E:Value→Shared→Prop}
theorem wa{Q:Value→Shared→Prop}(I:Inv X pins σ H s)(e:H a=some (.ins C dx fs))(c:Jf X.K C)(n:bD X.K C f)(l:fs.lookup f=some v)
 (h:∀u s',Inv X pins σ H s'→RelV v u→Q u s'):wpAny (model X.prog X.w) A (getAttr (.ref a) f b) Q E s:=by
 obtain⟨mA,O,r,_,_,_⟩:=vc I.bj e;obtain⟨u,q,j⟩:=kE.some_of (v:=v) (o:=mA f) (by rw[← l];exact r f);exact get_map I.nr O (c.get f) c.hd n q (HL j) (h u _ (I.tok _) j)
theorem we{Q:Value×List Value→Shared→Prop}(I:Inv X pins σ H s)(e:H a=some (.ins C dx fs))(c:Jf X.K C)(k:Meth X.K C m g)(l:fs.lookup m=none)
 (h:Q (.ref g,[.ref a]) s):wpAny (model X.prog X.w) A (getMethod (.ref a) m pl) Q E s:=by
 obtain⟨mA,O,r,_,_,_⟩:=vc I.bj e;have hn:mA m=none:=kE.none_of (by rw[← l];exact r m);exact JM I.nr O (c.get m) k.at_ k.fn hn h
theorem xM{Q:Unit→Shared→Prop}(I:Inv X pins σ H s)(e:H a=some (.ins C dx fs))(c:Jf X.K C)(n:bD X.K C f)(N:fs.length<1000)(L:RelV y u)
 (h:∀s',Inv X pins σ (upd H a (.ins C dx (aP f y fs))) s'→Q () s'):wpAny (model X.prog X.w) A (setAttr (.ref a) f u) Q E s:=by
 obtain⟨mA,O,r,wi,_,B⟩:=vc I.bj e;have J:(fs.map (·.1)).length≤sizeLine:=by rw[length_map,sizeLine_eq];omega
 refine Mg I.nr O c.sa c.po n.Qp c.hd wi J fun h' j M=>h _ ?_;have hd:∃o,h'.get? dx=some o:=let⟨o,_,_,D,_⟩:=j.ns;⟨o,D⟩;refine I.write (x:=a) (e:=dx) (by rw[e];exact True.intro) (.inr B) (fun b q F z=>(M.2 b F).trans z) hd ?_;refine⟨by rw[aw O.ne];exact B,?_,O.ne,j.obj,_,j.ns,fun g=>?_,fun g G=>?_⟩
 ·have:=di f y fs;omega
 ·show kE ((aP f y fs).lookup g) (if g=f then some u else mA g);rw[jw];by_cases q:g=f
  ·rw[if_pos q,if_pos q];exact L
  ·rw[if_neg q,if_neg q];exact r g
 ·by_cases q:g=f
  ·rw[q];exact(rG f y fs).1
  ·refine(rG f y fs).2 g (wi g fun z=>G ?_);show(if g=f then some u else mA g)=none;rw[if_neg q];exact z
theorem Inv.made(I:Inv X pins σ H s):Inv X pins σ (upd (upd H s.heap.objs.size (.own (s.heap.objs.size+1))) (s.heap.objs.size+1) (.ins C s.heap.objs.size []))
  {s with heap:=(s.heap.push emptyDict).push (instObj C s.heap.objs.size)}:=by
 have j:(s.heap.push emptyDict).get? s.heap.objs.size=some emptyDict:=Heap.get?_push_size s.heap Z;have z:((s.heap.push emptyDict).push (instObj C s.heap.objs.size)).get? (s.heap.objs.size+1)=some (instObj C s.heap.objs.size):=by have:=Heap.get?_push_size (s.heap.push emptyDict) (o:=instObj C s.heap.objs.size) Z;rwa[Heap.size_push]at this
 have B:(s.heap.push emptyDict).Ns s.heap.objs.size (fun _=>none):=⟨emptyDict,#[],_,j,Z,(fun e D=>absurd D (by simp)),fun _=>rfl⟩;have n:=I.laid (a:=s.heap.objs.size) (o:=.own (s.heap.objs.size+1)) (h':=s.heap.push emptyDict) (t':=s.toks) (fun b u q=>Heap.get?_push_of_some _ q) (Nat.le_refl _) ⟨_,j⟩;refine n.laid (a:=s.heap.objs.size+1) (o:=.ins C s.heap.objs.size []) (t':=s.toks) (fun b u q=>Heap.get?_push_of_some _ q) (Nat.le_of_eq (Heap.size_push _ _)) ?_;have ne:s.heap.objs.size≠s.heap.objs.size+1:=Nat.ne_of_lt (Nat.lt_succ_self _);refine⟨by rw[aw ne,ae],Nat.zero_le _,ne,z,fun _=>none,(Heap.Ns1.of_empty B).at fun o q=>Heap.get?_push_of_some _ q,fun _=>True.intro,fun y F=>absurd Z F⟩
theorem K5(j:attributeBase e f env (eval e env)=eval e env)
 (h:wpAny (model prog w) A (eval e env) (fun o s₁=>wpAny (model prog w) A (getAttr o f true) Q E s₁) E s):wpAny (model prog w) A (eval (.Attribute e f pos) env) Q E s:=
 Attribute_any_ h (by rw[arm_eval_Attribute,j])
end
inductive OX(K:Frag)(f:Str)(Q:VK)(x:V)(H:Hp):Prop
 |mk (a C dx:Addr) (fs:List (Str×V)) (v:V) (e:x=.ref a) (h:H a=some (.ins C dx fs)) (c:Jf K C) (n:bD K C f) (l:fs.lookup f=some v) (q:Q v H):OX K f Q x H
def Qi(K:Frag)(ta:TE)(f:Str):TE:=fun σ H Q=>ta σ H (OX K f Q)
inductive MO(K:Frag)(f:Str)(D:Ends)(σ:St)(y:V)(x:V)(H:Hp):Prop
 |mk (a C dx:Addr) (fs:List (Str×V)) (e:x=.ref a) (h:H a=some (.ins C dx fs)) (c:Jf K C) (n:bD K C f) (l:fs.length<1000) (q:D.nx σ (upd H a (.ins C dx (aP f y fs)))):MO K f D σ y x H
def P8(K:Frag)(ta tv:TE)(f:Str):TS:=fun D σ H=>tv σ H fun y H1=>ta σ H1 (MO K f D σ y)
def Ov(X:Cx)(op:Operator)(rd:V→V→Hp→VK→Prop):Prop:=
 ∀(pins:List (Addr×Obj)) (s:Shared) (σ:St) (H:Hp) (x y:V) (u v:Value) (Q:VK),Inv X pins σ H s→RelV x u→RelV y v→rd x y H Q→wpAny (model X.prog X.w) X.A (inplaceOp op u v) (EP X pins σ Q) X.xe s
inductive Sn(f:Str)(D:Ends)(σ:St)(a C:Addr)(z:V)(H:Hp):Prop
 |mk (dx:Addr) (fs:List (Str×V)) (h:H a=some (.ins C dx fs)) (l:fs.length<1000) (q:D.nx σ (upd H a (.ins C dx (aP f z fs)))):Sn f D σ a C z H
inductive Sy(K:Frag)(tv:TE)(rd:V→V→Hp→VK→Prop)(f:Str)(D:Ends)(σ:St)(x:V)(H:Hp):Prop
 |mk (a C dx:Addr) (fs:List (Str×V)) (v:V) (e:x=.ref a) (h:H a=some (.ins C dx fs)) (c:Jf K C) (n:bD K C f) (l:fs.lookup f=some v) (q:tv σ H fun y H2=>rd v y H2 (Sn f D σ a C)):Sy K tv rd f D σ x H
def Mf(K:Frag)(ta tv:TE)(rd:V→V→Hp→VK→Prop)(f:Str):TS:=fun D σ H=>ta σ H (Sy K tv rd f D σ)
section
variable {X:Cx} {o e value:Expr} {f:Str} {pos pos' tpos:Pos} {ta tv:TE}
theorem ay(he:PE X e ta)(D:attributeBase e f X.env (eval e X.env)=eval e X.env):PE X (.Attribute e f pos) (Qi X.K ta f):=by intro pins s σ H Q I h;refine K5 D (bO (he pins s σ H _ I h) fun u J ⟨x,H1,j,G,a,C,dx,fs,v,ex,B,c,n,l,q⟩=>?_);subst ex;obtain rfl:u=Value.ref a:=G;exact wa j B c n l fun _ _ z F=>⟨v,H1,z,F,q⟩
theorem aV(ha:PE X o ta)(J:PE X value tv)(G:swapsWith value (some (.Attribute o f pos')) pos.line X.env=pure false):PS X (.Assign [.Attribute o f pos'] value pos) (P8 X.K ta tv f):=by intro pins s σ H D I h;refine plainObj_wpAny_Assign_Attribute (bO (J pins s σ H _ I h) fun u S ⟨y,H1,j,O,q⟩=>bO (ha pins S σ H1 _ j q) fun L U ⟨x,H2,z,N,a,C,dx,fs,ex,F,c,n,l,M⟩=>?_) G;subst ex;obtain rfl:L=Value.ref a:=N;exact xM z F c n l O fun _ B=>⟨σ,_,B,M⟩
theorem sk{op:Operator}{rd:V→V→Hp→VK→Prop}(ha:PE X o ta)(S:PE X value tv)(B:Ov X op rd):PS X (.AugAssign (.Attribute o f tpos) op value pos) (Mf X.K ta tv rd f):=by intro pins s σ H D I h;refine wpAny_AugAssign_AttributeAny (bO (ha pins s σ H _ I h) fun W s1 ⟨x,H1,F,rx,a,C,dx,fs,v,ex,O,c,n,l,q⟩=>?_);subst ex;obtain rfl:W=Value.ref a:=rx;refine wa F O c n l fun u s2 G ru=>bO (S pins s2 σ H1 _ G q) fun w3 s3 ⟨y,H2,J,ry,Y⟩=>bO (B pins s3 σ H2 v y u w3 _ J ru ry Y) fun w4 s4 ⟨z,H3,L,rz,N,fs',j,U,q4⟩=>?_;exact xM L j c n U rz fun _ M=>⟨σ,_,M,q4⟩
inductive MN(x y:V)(H:Hp)(Q:VK):Prop
 |mk (i j:Int) (e:x=.int i) (e2:y=.int j) (q:Q (.int (i+j)) H):MN x y H Q
def Q3:V→V→Hp→VK→Prop:=MN
theorem Fv:Ov X .Add Q3:=by rintro pins s σ H x y u v Q I z B ⟨i,j,rfl,rfl,q⟩;obtain⟨t,rfl⟩:=(show∃t,u=Value.int i t from z);obtain⟨n,rfl⟩:=(show∃n,v=Value.int j n from B);exact PyProof.Rows.iadd_int ⟨.int (i+j),H,I.tok _,⟨_,Z⟩,q⟩
end
section
variable {X:Cx} {pins:List (Addr×Obj)} {σ:St} {H:Hp} {s:Shared} {A:Around} {E:Value→Shared→Prop} {Q:Value→Shared→Prop} {c:Value} {b:Bool}
inductive lY(K:Frag)(H:Hp):V→Value→Prop where
 |bV:lY K H .bV (.type "NoneType")
 |bl (x:Bool):lY K H (.bl x) (.type "bool")
 |int (i:Int):lY K H (.int i) (.type "int")
 |str (x:Str):lY K H (.str x) (.type "str")
 |Nu (x:UInt64):lY K H (.Nu x) (.type "float")
 |lst {a:Addr} {xs:List V} (e:H a=some (.lst xs)):lY K H (.ref a) (.type "list")
 |gB {a:Addr} {o:Obj} {xs:List V} (e:H a=some (.gB o (.lst xs))):lY K H (.ref a) (.type "list")
 |tup {a:Addr} {xs:List V} (e:H a=some (.tup xs)):lY K H (.ref a) (.type "tuple")
 |dK {a:Addr} {kvs:List (Key×V)} (e:H a=some (.dK kvs)):lY K H (.ref a) (.type "dict")
 |dT {a:Addr} {kvs:List (List Key×V)} (e:H a=some (.dT kvs)):lY K H (.ref a) (.type "dict")
 |ins {a C dx:Addr} {fs:List (Str×V)} (e:H a=some (.ins C dx fs)) (cl:Jf K C) (ha:findIn K (.ref C) "__class__"=some (some (.builtin "object.__class__")))
   (hn:specialIn K (.builtin "object.__class__") "__get__"=some (some (.builtin "getset_descriptor.__get__"))) (rC:takesIn K (.builtin "object.__class__")=some true)
   (hm:mroIn K C (.type "object")=some true):lY K H (.ref a) (.ref C)
theorem HZ(I:Inv X pins σ H s)(B:RelV x u)(ty:lY X.K H x t)(e:kitOne X.K t c=some b)(h:∀tk,Q (.bool b) {s with toks:=tk}):
  wpAny (model X.prog X.w) A (call (.builtin "isinstance") [u,c]) Q E s:=by
 cases ty with
 |bV=>cases(show u=Value.none from B);exact kia_one PySem.W.kitx_none I.nr True.intro e (fun z=>nomatch z) h
 |bl y=>cases(show u=Value.bool y from B);exact kia_one PySem.W.kitx_bool I.nr True.intro e (fun z=>nomatch z) h
 |int i=>obtain⟨t,q⟩:=(show∃t,u=Value.int i t from B);cases q;exact kia_one PySem.W.kitx_int I.nr True.intro e (fun z=>nomatch z) h
 |str y=>obtain⟨t,q⟩:=(show∃t,u=Value.str y t from B);cases q;exact kia_one PySem.W.kitx_str I.nr True.intro e (fun z=>nomatch z) h
 |Nu y=>obtain⟨t,q⟩:=(show∃t,u=Value.float y t from B);cases q;exact kia_one PySem.W.kitx_float I.nr True.intro e (fun z=>nomatch z) h
 |@lst a xs j=>
  cases(show u=Value.ref a from B);obtain⟨_,_,n,_,h1⟩:=(show b8 X.prog X.w H s.heap a (.lst xs)from I.bj a _ j);exact kia_one kitx_list I.nr ⟨_,h1,Z⟩ e (fun z=>nomatch z) h
 |@gB a D xs j=>
  cases(show u=Value.ref a from B);obtain⟨_,_,_,n,_,h1⟩:=(show b8 X.prog X.w H s.heap a (.gB D (.lst xs))from I.bj a _ j);exact kia_one kitx_list I.nr ⟨_,h1,Z⟩ e (fun z=>nomatch z) h
 |@tup a xs j=>
  cases(show u=Value.ref a from B);obtain⟨_,_,_,p⟩:=(show b8 X.prog X.w H s.heap a (.tup xs)from I.bj a _ j);obtain⟨o,h1,h2,_⟩:=p;exact kia_one PySem.W.kitx_tuple I.nr ⟨o,h1,h2⟩ e (fun z=>nomatch z) h
 |@dK a kvs j=>
  cases(show u=Value.ref a from B);obtain⟨_,_,vs,_,p⟩:=(show b8 X.prog X.w H s.heap a (.dK kvs)from I.bj a _ j);obtain⟨o,es,ep,h1,h2,_⟩:=p;exact kia_one kitx_dict I.nr ⟨o,h1,h2.1⟩ e (fun z=>nomatch z) h
 |@dT a kvs j=>
  cases(show u=Value.ref a from B);obtain⟨_,_,xs,_,o,es,ep,h1,h2,_⟩:=(show b8 X.prog X.w H s.heap a (.dT kvs)from I.bj a _ j);exact kia_one kitx_dict I.nr ⟨o,h1,h2.1⟩ e (fun z=>nomatch z) h
 |@ins a C dx fs j cl ha hn rC hm=>
  cases(show u=Value.ref a from B);obtain⟨mA,O,_⟩:=vc I.bj j;obtain⟨F,J,_⟩:=O.look;exact kia_one (PySem.W.kitx_own (cl.get _) cl.hd ha hn rC hm) I.nr J e (fun z=>nomatch z) h
end
end L2
namespace L2
open PySem PySem.Spec PyProof.Rows
structure eB(k:Nat)(A:Around):Prop where
 hd:A.handled=none
 dp:A.depth+3*k+5<recursionLimit
 un:A.units+16*k+200<cLine
theorem eB.mono(r:eB k A)(h:j≤k):eB j A:=⟨r.hd,by have:=r.dp;omega,by have:=r.un;omega⟩
theorem eB.deeper{A:Around}(r:eB (k+1) A)(env:Env):eB k (A.deeper env):=
 ⟨r.hd,by have:=r.dp;show A.depth+1+3*k+5<_;omega,by have:=r.un;show A.units+3+16*k+200<_;omega⟩
theorem Fy{A:Around}{us:List Value}{j:List (Str×Value)}:(A.under (.builtin "type.__call__" ⟨.ref C::us,j⟩)).depth=A.depth+1:=by
 first|rfl|simp[Around.under,Code.weight,Code.isCreation,Code.isGuard,Code.isCaller,Code.frames,Code.isFrame,guardIds]
theorem Fz{A:Around}{us:List Value}{j:List (Str×Value)}:(A.under (.builtin "type.__call__" ⟨.ref C::us,j⟩)).units=A.units+1:=by
 first|rfl|simp[Around.under,Code.cUnits,Code.frames,Code.isFrame]
theorem eB.make{A:Around}(r:eB (k+1) A)(C:Addr)(us:List Value)(j:List (Str×Value)):eB k (A.under (.builtin "type.__call__" ⟨.ref C::us,j⟩)):=
 ⟨r.hd,by have:=r.dp;rw[Fy];omega,by have:=r.un;rw[Fz];omega⟩
theorem eB.depth{A:Around}(r:eB k A):A.depth<recursionLimit:=by have:=r.dp;omega
theorem eB.units{A:Around}(r:eB k A):A.units+64<cLine:=by have:=r.un;omega
def u0:TA:=fun _ H Q=>Q [] H
def jL(ta:TE)(j:TA):TA:=fun σ H Q=>ta σ H fun x H1=>j σ H1 fun xs H2=>Q (x::xs) H2
section
variable {X:Cx} {e:Expr} {es:List Expr} {te:TE} {t:TA} {pos:Pos}
theorem ai:PA X [] u0:=fun _ _ _ _ H Q I h=>Calls.spliced_nil ⟨[],H,I,.nil,h⟩
theorem aa(ha:PE X e te)(q:PA X es t)(z:starEach (e::es) X.env=(false,eval e X.env)::starEach es X.env:=by rfl):PA X (e::es) (jL te t):=by intro pos pins s σ H Q I h;rw[z];show wpAny _ _ (spliced ((false,eval e X.env)::backTo pos (starEach es X.env))) _ _ s;refine Calls.spliced_cons (bO (ha pins s σ H _ I h) fun u J ⟨x,H1,j,F,B⟩=>?_);exact bO (q pos pins J σ H1 _ j B) fun M L ⟨xs,H2,n,G,D⟩=>⟨x::xs,H2,n,.cons F G,D⟩
def Qo(t:TA):TE:=fun σ H Q=>t σ H fun xs H1=>xs.length≤sizeLine∧∀p,H1 p=none→Q (.ref p) (upd H1 p (.tup xs))
def Ro(t:TA):TE:=fun σ H Q=>t σ H fun xs H1=>xs.length≤sizeLine∧∀p,H1 p=none→Q (.ref p) (upd H1 p (.lst xs))
theorem fk{G}(h:PA X es t):PE X (.Tuple es G pos) (Qo t):=by intro pins s σ H Q I D;refine wpAny_Tuple_spliced (bO (h pos pins s σ H _ I D) fun F j ⟨xs,H1,n,r,z,q⟩=>⟨by rw[← r.length];exact z,?_⟩);have B:H1 j.heap.objs.size=none:=n.bj.fresh (Nat.le_refl _);refine⟨.ref j.heap.objs.size,upd H1 j.heap.objs.size (.tup xs),n.laid (t':=j.toks) (fun b u e=>Heap.get?_push_of_some _ e) (Nat.le_refl _) ?_,Z,q _ B⟩;exact⟨z,F,r,⟨_,Heap.get?_push_size _ Z,Z,_,Z⟩⟩
theorem a3(h:PA X es t):PE X (.List es pos) (Ro t):=by intro pins s σ H Q I D;refine wpAny_List_spliced (bO (h pos pins s σ H _ I D) fun F j ⟨xs,H1,n,r,z,q⟩=>⟨by rw[← r.length];exact z,?_⟩);have B:H1 j.heap.objs.size=none:=n.bj.fresh (Nat.le_refl _);refine⟨.ref j.heap.objs.size,upd H1 j.heap.objs.size (.lst xs),n.laid (t':=j.toks) (fun b u e=>Heap.get?_push_of_some _ e) (Nat.le_refl _) ?_,Z,q _ B⟩;exact⟨z,F,0,r,Heap.get?_push_size _ Z⟩
end
abbrev Sp:=List V→Hp→VK→XK→Prop
abbrev Mw:=List Env→Hp→Shared→XK→Value→Shared→Prop
structure CF(P:Program)(w:World)(K:Frag)(mg:Str→Option Value)(base:Heap)(A:Around)(outer:List Env)(s:Shared)(H:Hp):Prop where
 frames:A.frames=some outer
 mod:Mod K mg base
 bs:∀b o,base.get? b=some o→s.heap.get? b=some o∧H b=none
 KP:base.objs.size≤s.heap.objs.size
 uE:s.heap.FunFrames base outer
 Nv:∀b∈JI outer,H b=none
 bj:l8 P w H s.heap
 bare:AllBare s.gens
def CE(outer:List Env)(P:Program)(w:World)(H:Hp)(s:Shared)(Q:VK)(u:Value)(s':Shared):Prop:=
 ∃v H',s'.os=s.os∧AllBare s'.gens∧Un (JI outer) [] H H' s.heap s'.heap∧l8 P w H' s'.heap∧RelV v u∧Q v H'
def CR(CX:Mw)(outer:List Env)(P:Program)(w:World)(H:Hp)(s:Shared)(Q:VK)(E:XK)(r:Result)(s':Shared):Prop:=
 match r with
 |.ok (.ret u)=>CE outer P w H s Q u s'
 |.ok _=>False
 |.error e=>CX outer H s E e s'
structure jY(P:Program)(w:World)(K:Frag)(mg:Str→Option Value)(base:Heap)(CX:Mw)(k:Nat)(f:Addr)(fd:FuncData)(ps:List Str)(sp:Sp):Prop where
 len:∀vs H Q E,sp vs H Q E→vs.length=ps.length
 run:∀(A:Around) (outer:List Env) (s:Shared) (H:Hp) (args:Args) (us:List Value) (vs:List V) (Q:VK) (E:XK),eB k A→CF P w K mg base A outer s H→BindsTo s fd args (ps.zip us)→Vals vs us→sp vs H Q E→
  codeAny (model P w) A (.call (.ref f) args) (CR CX outer P w H s Q E) s
theorem jY.mono{P:Program}{w:World}{K:Frag}{mg:Str→Option Value}{base:Heap}{CX:Mw}{j k:Nat}{f:Addr}{fd:FuncData}{ps:List Str}{sp:Sp}(F:jY P w K mg base CX j f fd ps sp)(h:j≤k):
  jY P w K mg base CX k f fd ps sp:=⟨F.len,fun A outer s H n z B Q E q=>F.run A outer s H n z B Q E (q.mono h)⟩
theorem jY.imp{P:Program}{w:World}{K:Frag}{mg:Str→Option Value}{base:Heap}{CX:Mw}{k:Nat}{f:Addr}{fd:FuncData}{ps:List Str}{sp n:Sp}(F:jY P w K mg base CX k f fd ps sp)
 (h:∀vs H Q E,n vs H Q E→sp vs H Q E):jY P w K mg base CX k f fd ps n:=
 ⟨fun vs H Q E q=>F.len vs H Q E (h _ _ _ _ q),fun A outer s H j J vs Q E D B z I G=>F.run A outer s H j J vs Q E D B z I (h _ _ _ _ G)⟩
theorem CF.make{P:Program}{w:World}{K:Frag}{mg:Str→Option Value}{base:Heap}{A:Around}{outer:List Env}{s:Shared}{H:Hp}(e:CF P w K mg base A outer s H)(C:Addr)(us:List Value)(j:List (Str×Value)):
  CF P w K mg base (A.under (.builtin "type.__call__" ⟨.ref C::us,j⟩)) outer s H:=⟨by first|exact e.frames|(simpa[Around.under,Code.envs,Code.isFrame,pushEnvs]using e.frames),e.mod,e.bs,e.KP,e.uE,e.Nv,e.bj,e.bare⟩
section
variable {X:Cx} {pins:List (Addr×Obj)} {σ:St} {H:Hp} {s s':Shared}
theorem Inv.Pl(I:Inv X pins σ H s):CF X.prog X.w X.K X.mg X.base X.A X.stack s H:=
 ⟨I.ok.frames,I.ok.mod,I.bs,Nat.le_trans I.ok.KP I.sz,I.stack,I.G7,I.bj,I.bare⟩
theorem Inv.after(I:Inv X pins σ H s)(h:CE X.stack X.prog X.w H s Q u s'):EP X pins σ Q u s':=by obtain⟨v,H',os,bare,un,bj,r,q⟩:=h;obtain⟨n,g,d,t,j⟩:=s';obtain rfl:j=s.os:=os;exact⟨v,H',I.call (h':=n) (g':=g) (d':=d) (t':=t) (ch:=[]) un bj bare (fun b z=>absurd z (by simp)),r,q⟩
end
def Binds(K:Frag)(fd:FuncData)(ps:List Str)(ds:List Value):Prop:=
 ∀(s:Shared) (j:List Value),K.In s.heap→(j++ds).length=ps.length→BindsTo s fd ⟨j,[]⟩ (ps.zip (j++ds))
theorem Binds.all{K:Frag}{fd:FuncData}{ps:List Str}(h:∀us:List Value,us.length=ps.length→bindArgs fd ⟨us,[]⟩=pure (ps.zip us)):Binds K fd ps []:=fun s us _ j=>by rw[append_nil]at j ⊢;exact .of_eq (h us j)
def Passes(CX:Mw)(X:Cx)(E:XK):Prop:=∀(pins:List (Addr×Obj)) (σ:St) (H:Hp) (s:Shared) (e:Value) (s':Shared),Inv X pins σ H s→CX X.stack H s E e s'→X.xe e s'
section
variable {X:Cx} {CX:Mw} {k:Nat} {f C:Addr} {fd:FuncData} {ps:List Str} {sp:Sp} {dvs:List V} {ds:List Value} {E:XK} {x m:Str} {p pos apos:Pos} {e o:Expr} {es:List Expr} {ta:TE} {t:TA}
theorem Cd(F:jY X.prog X.w X.K X.mg X.base CX k f fd ps sp)(B:eB k X.A)(q:Binds X.K fd ps ds)(hd:Vals dvs ds)(D:Passes CX X E)
 (I:Inv X pins σ H s)(r:Vals vs us)(h:sp (vs++dvs) H Q E):wpAny (model X.prog X.w) X.A (call (.ref f) us) (EP X pins σ Q) X.xe s:=by
 have n:Vals (vs++dvs) (us++ds):=r.append hd;have z:(us++ds).length=ps.length:=by rw[← n.length];exact F.len _ _ _ _ h
 refine wpAny_call (codeAny_mono (F.run X.A X.stack s H ⟨us,[]⟩ (us++ds) (vs++dvs) Q E B I.Pl (q s us I.nr z) n h) fun r s' j=>?_);cases r with
 |error e=>exact D pins σ H s e s' I j
 |ok fl=>
  cases fl with
  |ret u=>exact I.after j
  |next=>exact False.elim j
  |brk=>exact False.elim j
  |cont=>exact False.elim j
structure Mk(K:Frag)(C f:Addr):Prop where
 makes:makesIn K C=true
 init:findIn K (.ref C) "__init__"=some (some (.ref f))
 fn:isFn K (.ref f)=true
 kp:keepIn K (.ref C)=true
theorem Kv{Q:VK}(M:Mk X.K C f)(F:jY X.prog X.w X.K X.mg X.base CX k f fd ps sp)(J:eB (k+1) X.A)(D:Binds X.K fd ps ds)(hd:Vals dvs ds)
 (L:Passes CX X E)(I:Inv X pins σ H s)(r:Vals vs us)
 (h:∀x dx,H x=none→H dx=none→dx≠x→sp (.ref x::(vs++dvs)) (upd (upd H dx (.own x)) x (.ins C dx [])) (fun v H2=>v=.bV∧Q (.ref x) H2) E):
  wpAny (model X.prog X.w) X.A (call (.ref C) us) (EP X pins σ Q) X.xe s:=by
 have q:=h (s.heap.objs.size+1) s.heap.objs.size (I.bj.fresh (Nat.le_succ _)) (I.bj.fresh (Nat.le_refl _)) (Nat.ne_of_lt (Nat.lt_succ_self _));have n:=Inv.made (C:=C) I;have z:Vals (V.ref (s.heap.objs.size+1)::(vs++dvs)) (Value.ref (s.heap.objs.size+1)::(us++ds)):=.cons Z (r.append hd);have G:(Value.ref (s.heap.objs.size+1)::us++ds).length=ps.length:=by have e:=z.length;rw[F.len _ _ _ _ q]at e;exact e.symm
 refine wpAny_call (J1 (f:=f) I.nr M.makes M.init (beq_iff_eq.mp M.fn) (codeAny_mono (F.run _ X.stack _ _ ⟨Value.ref (s.heap.objs.size+1)::us,[]⟩ (Value.ref (s.heap.objs.size+1)::(us++ds)) _ _ E (J.make C us [])
  (n.Pl.make C us []) (D _ (Value.ref (s.heap.objs.size+1)::us) n.nr G) z q) fun r s' j=>?_))
 cases r with
 |error e=>exact L pins σ _ _ e s' n j
 |ok fl=>
  cases fl with
  |ret u=>
   obtain⟨v,H',B,O,ev,N⟩:=n.after j;subst ev;exact⟨O,⟨V.ref (s.heap.objs.size+1),H',B,Z,N⟩⟩
  |next=>exact False.elim j
  |brk=>exact False.elim j
  |cont=>exact False.elim j
end
def PK(X:Cx)(kws:List Keyword)(t:TA):Prop:=
 ∀(pos:Pos) (pins:List (Addr×Obj)) (s:Shared) (σ:St) (H:Hp) (Q:List V→Hp→Prop),Inv X pins σ H s→t σ H Q→wpAny (model X.prog X.w) X.A (evalAll ((backToKw pos (keywordEach kws X.env)).map (·.2))) (AP X pins σ Q) X.xe s
section
variable {X:Cx} {CX:Mw} {k:Nat} {f C:Addr} {fd:FuncData} {ps ks:List Str} {sp:Sp} {E:XK} {x m:Str} {p pos apos kpos:Pos} {e o:Expr} {es:List Expr} {kws:List Keyword} {te ta:TE} {t tk:TA} {nm:Option Str}
theorem Kk:PK X [] u0:=fun _ _ _ _ H Q I h=>wpAny_evalAll_nil ⟨[],H,I,.nil,h⟩
theorem GW(ha:PE X e te)(q:PK X kws t):PK X (⟨nm,e,kpos⟩::kws) (jL te t):=by intro pos pins s σ H Q I h;show wpAny _ _ (evalAll ((do let v ← eval e X.env;standAt pos;pure v)::(backToKw pos (keywordEach kws X.env)).map (·.2))) _ _ s;refine wpAny_evalAll_cons (wpAny_bind (bO (ha pins s σ H _ I h) fun u G ⟨x,H1,j,D,z⟩=>wpAny_bind (wpAny_standAt (wpAny_pure ?_))));exact bO (q pos pins G σ H1 _ j z) fun L J ⟨xs,H2,n,F,B⟩=>⟨x::xs,H2,n,.cons D F,B⟩
variable {g:List Value→List Value→List Value} {gV:List V→List V→List V}
end
structure eA(N P:List Str)(sc:Scope):Prop where
 kind:sc.kind=.function
 co:sc.isCoroutine=false
 gen:sc.isGenerator=false
 nd:N.Nodup
 pre:N.take P.length=P
 par:∀x∈P,sc.names.lookup x=some .local∨sc.names.lookup x=some .cell
 NP:∀y∈sc.names,y.2≠.free
theorem zO{kindOf:Str→Option NameKind}{x:Str}:∀{binds:List (Str×Value)} {m:Str→Option Value},(∀v,(x,v)∉binds)→bindL kindOf binds m x=m x
 |[],_,_=>rfl
 |(n,v)::r,m,h=>by
  unfold bindL;rw[zO fun w j=>h w (mem_cons_of_mem _ j)];split
  ·have:x≠n:=by rintro rfl;exact h v mem_cons_self
   simp[this]
  ·rfl
theorem zM{kindOf:Str→Option NameKind}{x:Str}:∀{binds:List (Str×Value)} {m:Str→Option Value},(∀v,(x,v)∉binds)→bindC kindOf binds m x=m x
 |[],_,_=>rfl
 |(n,v)::r,m,h=>by
  unfold bindC;rw[zM fun w j=>h w (mem_cons_of_mem _ j)];split
  ·rfl
  ·have:x≠n:=by rintro rfl;exact h v mem_cons_self
   simp[this]
theorem zN{kindOf:Str→Option NameKind}{x:Str}{v:Value}:∀{P:List Str} {vs:List Value} {i:Nat} {m:Str→Option Value},P.Nodup→P[i]?=some x→vs[i]?=some v→kindOf x=some .local→
  bindL kindOf (P.zip vs) m x=some v
 |[],_,_,_,_,h,_,_=>by simp at h
 |_::_,[],_,_,_,_,h,_=>by simp at h
 |p::P,w::vs,0,m,nd,h1,h2,j=>by simp at h1 h2;subst h1;subst h2;show bindL kindOf ((p,w)::P.zip vs) m p=_;unfold bindL;rw[zO fun v n=>(nodup_cons.mp nd).1 (of_mem_zip n).1,if_pos j];simp
 |p::P,w::vs,i+1,m,nd,h1,h2,j=>by show bindL kindOf ((p,w)::P.zip vs) m x=_;unfold bindL;exact zN (i:=i) (nodup_cons.mp nd).2 (by simpa using h1) (by simpa using h2) j
theorem zL{kindOf:Str→Option NameKind}{x:Str}{v:Value}:∀{P:List Str} {vs:List Value} {i:Nat} {m:Str→Option Value},P.Nodup→P[i]?=some x→vs[i]?=some v→kindOf x≠some .local→
  bindC kindOf (P.zip vs) m x=some v
 |[],_,_,_,_,h,_,_=>by simp at h
 |_::_,[],_,_,_,_,h,_=>by simp at h
 |p::P,w::vs,0,m,nd,h1,h2,j=>by simp at h1 h2;subst h1;subst h2;show bindC kindOf ((p,w)::P.zip vs) m p=_;unfold bindC;rw[zM fun v n=>(nodup_cons.mp nd).1 (of_mem_zip n).1,if_neg j];simp
 |p::P,w::vs,i+1,m,nd,h1,h2,j=>by show bindC kindOf ((p,w)::P.zip vs) m x=_;unfold bindC;exact zL (i:=i) (nodup_cons.mp nd).2 (by simpa using h1) (by simpa using h2) j
def start(N:List Str)(vs:List V):St:=vs.map some++replicate (N.length-vs.length) none
noncomputable def um(CX:Mw)(P:Program)(w:World)(K:Frag)(mg:Str→Option Value)(base:Heap)(N:List Str)(n:Str)(j:Scope)(f:Addr)(cd:Value)(A:Around)(outer:List Env)(s:Shared)(H:Hp)(E:XK):Cx where
 prog:=P
 w:=w
 K:=K
 mg:=mg
 base:=base
 A:=A.deeper (envOfC n j s.heap.objs.size f cd)
 N:=N
 Am:=s
 M3:=H
 env:=envOfC n j s.heap.objs.size f cd
 outer:=outer
 stack:=envOfC n j s.heap.objs.size f cd::outer
 ex:=[]
 calm:=true
 fn:=fun _=>true
 pn:=[]
 xe:=fun e s'=>wpAny (model P w) (A.deeper (envOfC n j s.heap.objs.size f cd)) (leaving (envOfC n j s.heap.objs.size f cd) e) (fun _ q=>CX outer H s E e q) (fun z q=>CX outer H s E z q) s'
theorem CW{j:Scope}(h:j.names.lookup x=some .cell):∃c,(cellsFrom n j.names []).lookup x=some c:=by have q:=cellsFrom_some j.names n [] (.inl h);exact Option.isSome_iff_exists.mp q
theorem HU{CX:Mw}{P:Program}{w:World}{K:Frag}{mg:Str→Option Value}{base:Heap}{N ps:List Str}{B:Str}{j:Scope}{f:Addr}{cd:Value}{A:Around}{outer:List Env}{s O:Shared}{H:Hp}{E:XK}{us:List Value}{vs:List V}
 (S:eA N ps j)(hd:A.handled=none)(D:CF P w K mg base A outer s H)(hl:vs.length=ps.length)(r:Vals vs us)
 (x:InCallC s s.heap.objs.size (bindL (envOfC B j s.heap.objs.size f cd).kindOf (ps.zip us) fun _=>none) (cellsFrom (s.heap.objs.size+1) j.names []) (bindC (envOfC B j s.heap.objs.size f cd).kindOf (ps.zip us) fun _=>none) O):
  Inv (um CX P w K mg base N B j f cd A outer s H E) [] (start N vs) H O:=by
 have U:ps.length≤N.length:=by have:=congrArg length S.pre;rw[length_take]at this;omega
 obtain⟨h1,tk,rfl,L⟩:=x.done;have G:∀b:Addr,b∉(um CX P w K mg base N B j f cd A outer s H E).ex:=fun b z=>absurd (show b∈([]:List Addr)from z) (by simp);refine⟨⟨D.mod,S.kind,Z,Z,Nat.le_refl _,fun y z c h1 h2=>?_,fun y F=>?_,fun y c _ h=>?_,fun _=>hd,Around.frames_deeper D.frames,.inr ⟨Z,Z⟩,fun b z=>absurd z (G b),D.bs,D.KP,fun b _ _=>G b,fun b z=>absurd z (G b),D.uE,D.Nv⟩,
  rfl,D.bare,Un.kept L,⟨_,x.toInCall.ns,fun i y v h1 h2 _=>?_⟩,fun y c h=>⟨_,x.cell y c h⟩,D.bj.fresh (Nat.le_refl _),fun y c h=>?_,fun p I=>absurd (show p∈([]:List (Addr×Obj))from I) (by simp),D.bj.kept L,?_⟩
 ·exact name_of_addr x.apart (PySem.mem_of_lookup h1) (PySem.mem_of_lookup h2)
 ·have F:j.names.lookup y=some .cell∨j.names.lookup y=some .free:=F;rcases F with F|F
  ·exact CW F
  ·exact absurd Z (S.NP _ (PySem.mem_of_lookup F))
 ·exact Nat.le_of_lt (x.above y c (PySem.mem_of_lookup h))
 ·have hi:i<vs.length:=by
   unfold start at h2;by_cases hi:i<vs.length
   ·exact hi
   ·rw[List.getElem?_append_right (by simpa using hi)]at h2;rw[List.getElem?_replicate]at h2;split at h2<;>cases h2
  have ha:vs[i]?=some v:=by
   unfold start at h2;rw[List.getElem?_append_left (by simpa using hi),getElem?_map]at h2;cases e:vs[i]? with
   |none=>rw[e]at h2;cases h2
   |some a=>rw[e]at h2;cases h2;rfl
  obtain⟨u,M,Y⟩:=r.get ha;have I:ps[i]?=some y:=by rw[← S.pre,List.getElem?_take_of_lt (by omega)];exact h1
  have J:ps.Nodup:=by rw[← S.pre];exact S.nd.sublist (List.take_sublist _ _)
  refine⟨u,Y,?_⟩;rcases S.par y (mem_of_getElem? I)with k|k
  ·exact .inl ⟨k,zN J I M k⟩
  ·obtain⟨c,e⟩:=CW (n:=s.heap.objs.size+1) k;refine .inr ⟨.inl k,c,e,?_⟩;have q:=x.cell y c e;rw[zL J I M (by show j.names.lookup y≠_;rw[k];decide)]at q;exact q
 ·exact D.bj.fresh (Nat.le_of_lt (x.above y c (PySem.mem_of_lookup h)))
 ·unfold start;show _=N.length;rw[length_append,length_map,length_replicate];omega
theorem Pw{K:Frag}{dV kV G pm j ct oc:Value}{an od:Option Addr}
 {a1:Array (Option Value)}{N ps:List Str}(lk:K.lookup f=some ⟨oc,od,.func (fnOf name qual params body scope dV kV G pm an j ct),a1⟩)(O:codeIn K j qual=true)(S:eA N ps scope)
 (len:∀vs H Q E,sp vs H Q E→vs.length=ps.length)
 (B:∀(A:Around) (outer:List Env) (s:Shared) (H:Hp) (vs:List V) (Q:VK) (E:XK),eB k (A.deeper (envOfC qual scope s.heap.objs.size f j))→sp vs H Q E→
   ∃t,AH (um CX P w K mg base N qual scope f j A outer s H E) body t∧t {nx:=fun _ H'=>Q .bV H',rt:=Q} (start N vs) H):
  jY P w K mg base CX (k+1) f (fnOf name qual params body scope dV kV G pm an j ct) ps sp:=by
 refine⟨len,fun A outer s H _ us vs Q E U L hb r M=>?_⟩;have hl:=len _ _ _ _ M;have KX:K.In s.heap:=L.mod.Of.keeps fun b o e=>(L.bs b o e).1;have Y:s.heap.NoLimit:=L.mod.nolimit.keeps fun b o e=>(L.bs b o e).1;have D:∀y∈ps.zip us,scope.names.lookup y.1=some .local∨(scope.names.lookup y.1=some .cell∧((cellsFrom (s.heap.objs.size+1) scope.names []).lookup y.1).isSome=true):=fun⟨n,v⟩ hy=>by
  rcases S.par n (of_mem_zip hy).1 with q|q
  ·exact .inl q
  ·exact .inr ⟨q,cellsFrom_some _ _ _ (.inl q)⟩
 refine codeAny_call_function U.depth (KX _ _ lk) Z S.co S.gen Z (PySem.W.codeRec_of KX O) (hb _ _ _ _ ?_);refine wpAny_newFunctionEnv_cells S.kind D fun env he s1 x=>?_;subst he;refine⟨Y.keeps x.toInCall.keep,codeAny_func ?_⟩;obtain⟨t,ht,hq⟩:=B A outer s H vs Q E (U.deeper _) M;have I:Inv (um CX P w K mg base N qual scope f j A outer s H E) [] (start N vs) H s1:=HU S U.hd L hl r x;refine wpAny_mono (ht [] s1 (start N vs) H _ I hq) (fun fl s' F=>?_) fun e s' F=>F;have fin:∀{z:St} {H':Hp} {v:V} {u:Value},Inv (um CX P w K mg base N qual scope f j A outer s H E) [] z H' s'→RelV v u→Q v H'→CE outer P w H s Q u s':=
  fun{z H' v u} J rv q=>⟨v,H',J.os,J.bare,J.base,J.bj,rv,q⟩
 cases fl with
 |ret u=>
  obtain⟨v,z,H',J,rv,q⟩:=F;exact fin J rv q
 |next=>
  obtain⟨z,H',J,q⟩:=F;exact fin (v:=V.bV) (u:=Value.none) J Z q
 |brk=>
  obtain⟨_,_,_,q⟩:=F;exact False.elim q
 |cont=>
  obtain⟨_,_,_,q⟩:=F;exact False.elim q
end L2
namespace L2
open PySem PySem.Spec PyProof.Rows
section
variable {X:Cx} {x:Str} {p pos:Pos} {e:Expr} {es:List Expr} {t:TA} {id T:String} {r:List V→Hp→VK→Prop}
def Qc(r:List V→Hp→VK→Prop)(t:TA):TE:=fun σ H Q=>t σ H fun j H1=>r j H1 Q
theorem aF(q:iG X (.builtin id) r)(z:Gl X x)(hm:X.mg x=none)(B:bootBuiltins x=some (.builtin id))(ha:PA X (e::es) t)(hn:x≠"__name__":=by decide)(j:(x==("__debug__":Str))=false:=by decide)
 (he:starEach (e::es) X.env=(false,eval e X.env)::starEach es X.env:=by rfl)(hpl:(backTo pos (starEach es X.env)).any (·.1)=false:=by rfl):PE X (.Call (.Name x p) (e::es) [] pos) (Qc r t):=by
 intro pins s σ H Q I h;refine wpAny_Call_Name_kw (mx I z hm B ?_ hn j);exact PyProof.Rows.callWith_builtin1 (bO (ha pos pins s σ H _ I h) fun J G ⟨L,H1,n,F,D⟩=>q pins G σ H1 L J Q n F D) he hpl
theorem eL(q:iG X (.type T) r)(z:Gl X x)(hm:X.mg x=none)(B:bootBuiltins x=some (.type T))(ha:PA X (e::es) t)(hn:x≠"__name__":=by decide)(j:(x==("__debug__":Str))=false:=by decide)
 (he:starEach (e::es) X.env=(false,eval e X.env)::starEach es X.env:=by rfl)(hpl:(backTo pos (starEach es X.env)).any (·.1)=false:=by rfl):PE X (.Call (.Name x p) (e::es) [] pos) (Qc r t):=by
 intro pins s σ H Q I h;refine wpAny_Call_Name_kw (mx I z hm B ?_ hn j);exact PyProof.Rows.callWith_type1 (bO (ha pos pins s σ H _ I h) fun J G ⟨L,H1,n,F,D⟩=>q pins G σ H1 L J Q n F D) he hpl
end
end L2
namespace HT
open PySem PyProof.Rows
section
variable {prog:Program} {w:World} {A:Around} {E:Value→Shared→Prop} {s:Shared}
def gz(n d:Nat):Option Int→Nat
 |none=>d
 |some v=>if v<0 then(v+(n:Int)).toNat else min v.toNat n
theorem qF(n d:Nat):gz n d none=d:=rfl
theorem nD(n d k:Nat):gz n d (some (k:Int))=min k n:=by show(if(k:Int)<0 then((k:Int)+(n:Int)).toNat else min (k:Int).toNat n)=min k n;rw[if_neg (by omega),Int.toNat_natCast]
theorem Kx(n d:Nat)(hd:d≤n)(o:Option Int):gz n d o≤n:=by
 cases o with
 |none=>exact hd
 |some v=>
  show(if v<0 then(v+(n:Int)).toNat else min v.toNat n)≤n;by_cases j:v<0
  ·rw[if_pos j];omega
  ·rw[if_neg j];exact Nat.min_le_right _ _
end
end HT
namespace L2
open PySem PySem.Spec PyProof.Rows
abbrev TO:=St→Hp→(Option Int→Hp→Prop)→Prop
def PO(X:Cx)(e:Option Expr)(t:TO):Prop:=
 ∀(pins:List (Addr×Obj)) (s:Shared) (σ:St) (H:Hp) (Q:Option Int→Hp→Prop),Inv X pins σ H s→t σ H Q→
  wpAny (model X.prog X.w) X.A (evalPart e X.env) (fun u s'=>∃o H',Inv X pins σ H' s'∧IsPart u o∧Q o H') X.xe s
def Mr:TO:=fun _ H Q=>Q none H
def Qn(t:TE):TO:=fun σ H Q=>t σ H fun x H1=>∃i,x=.int i∧Q (some i) H1
section
variable {X:Cx} {e:Expr} {te:TE} {lo hi:Option Expr} {tl th:TO} {pos p2:Pos}
theorem nA:PO X none Mr:=by intro pins s σ H Q I h;rw[evalPart_none];exact wpAny_pure ⟨none,H,I,.none,h⟩
theorem d8(h:PE X e te):PO X (some e) (Qn te):=by intro pins s σ H Q I n;rw[evalPart_some];refine bO (h pins s σ H _ I n) fun u D ⟨x,H1,j,B,z⟩=>?_;obtain⟨i,rfl,q⟩:=z;obtain⟨t,rfl⟩:=B;exact⟨some i,H1,j,.int i t,q⟩
def QL(X:Cx)(r:V→Option Int→Option Int→Hp→VK→Prop):Prop:=
 ∀(pins:List (Addr×Obj)) (s:Shared) (σ:St) (H:Hp) (x:V) (v vl n:Value) (lo hi:Option Int) (j:Addr) (Q:VK),Inv X pins σ H s→RelV x v→s.heap.IsSliceOf j vl n .none→IsPart vl lo→IsPart n hi→r x lo hi H Q→
  ∃T id,typeLookup (.type T) "__getitem__"=pure (some (.builtin id))∧s.TypeIs v T∧wpAny (model X.prog X.w) X.A (getItem v (.ref j)) (EP X pins σ Q) X.xe s
def Sd(r:V→Option Int→Option Int→Hp→VK→Prop)(te:TE)(tl th:TO):TE:=fun σ H Q=>te σ H fun x H1=>tl σ H1 fun l H2=>th σ H2 fun u j=>r x l u j Q
theorem eT{r:V→Option Int→Option Int→Hp→VK→Prop}(N:QL X r)(he:PE X e te)(M:PO X lo tl)(S:PO X hi th):PE X (.Subscript e (.Slice lo hi none p2) pos) (Sd r te tl th):=by intro pins s σ H Q I h;refine Subscript_ (bO (he pins s σ H _ I h) fun v s1 ⟨x,H1,B,r1,U⟩=>?_);refine wpAny_Slice (bO (M pins s1 σ H1 _ B U) fun vl s2 ⟨l,H2,D,pl,W⟩=>bO (S pins s2 σ H2 _ D W) fun n j ⟨u,z,F,pu,Y⟩=>?_);rw[evalPart_none];refine wpAny_pure ?_;have G:Inv X pins σ z {j with heap:=j.heap.push {cls:=.type "slice",data:=.fields #[vl,n,.none]}}:=F.kept (t':=j.toks) fun b _ q=>Heap.get?_push_of_some _ q;obtain⟨T,id,J,O,L⟩:=N pins {j with heap:=j.heap.push {cls:=.type "slice",data:=.fields #[vl,n,.none]}} σ z x v vl n l u j.heap.objs.size Q G r1 (Heap.IsSliceOf.new ..) pl pu Y;show wpAny (model X.prog X.w) X.A (subscriptTail e (.Slice lo hi none p2) v (.ref j.heap.objs.size)) (EP X pins σ Q) X.xe {j with heap:=j.heap.push {cls:=.type "slice",data:=.fields #[vl,n,.none]}};exact tail_any (ops:=[.ref j.heap.objs.size,v]) O J L (by with_unfolding_all rfl)
def kM(xs:List V)(lo hi:Option Int):List V:=(xs.drop (HT.gz xs.length 0 lo)).take (HT.gz xs.length xs.length hi-HT.gz xs.length 0 lo)
theorem ml(xs:List V)(lo hi:Option Int):(kM xs lo hi).length≤xs.length:=by unfold kM;rw[length_take,length_drop];omega
end
end L2
namespace L2
open PySem PySem.Spec PyProof.Rows
def JV(n:Nat)(i:Int):Option Nat:=if 0≤i then(if i<n then some i.toNat else none)else if -(n:Int)≤i then some (i+n).toNat else none
def EZ{n:Type}(xs:List n)(i:Int):Option n:=(JV xs.length i).bind fun j=>xs[j]?
theorem GF(h:JV n i=some j):seqIndex? i n=some j∧j<n∧-(n:Int)≤i∧i<n:=by
 unfold JV at h;by_cases q:0≤i
 ·rw[if_pos q]at h;by_cases h1:i<n
  ·rw[if_pos h1]at h;have e:i.toNat=j:=Option.some.inj h;exact⟨by rw[seqIndex_of q h1,e],by omega,by omega,h1⟩
  ·rw[if_neg h1]at h;cases h
 ·rw[if_neg q]at h;by_cases h1:-(n:Int)≤i
  ·rw[if_pos h1]at h;have e:(i+n).toNat=j:=Option.some.inj h;exact⟨by rw[seqIndex_neg (by omega) h1,e],by omega,h1,by omega⟩
  ·rw[if_neg h1]at h;cases h
theorem u5{n:Type}{xs:List n}{i:Int}{v:n}(h:EZ xs i=some v):∃j,seqIndex? i xs.length=some j∧xs[j]?=some v∧j<xs.length∧-(xs.length:Int)≤i∧i<xs.length:=by
 unfold EZ at h;cases e:JV xs.length i with
 |none=>rw[e]at h;cases h
 |some j=>
  rw[e]at h;obtain⟨h1,h2,q,z⟩:=GF e;exact⟨j,h1,h,h2,q,z⟩
theorem a5{n:Type}{xs:List n}{j:Nat}{v:n}(h:xs[j]?=some v):EZ xs (j:Int)=some v:=by
 have q:j<xs.length:=(List.getElem?_eq_some_iff.mp h).1;have e:JV xs.length (j:Int)=some j:=by unfold JV;rw[if_pos (by omega),if_pos (by omega)];simp
 unfold EZ;rw[e];exact h
def K3(b:Expr):Prop:=∀o i,subscripted b false o i=operate [o,i] (getItem o i)
def OC(X:Cx)(r:R2):Prop:=
 ∀(value j:Expr) (pins:List (Addr×Obj)) (s:Shared) (σ:St) (H:Hp) (x y:V) (v u:Value) (Q:VK),Inv X pins σ H s→RelV x v→RelV y u→r x y H Q→
  subscripted j false v u=operate [v,u] (getItem v u)→wpAny (model X.prog X.w) X.A (subscriptTail value j v u) (EP X pins σ Q) X.xe s
def KZ(X:Cx)(id:String)(r:V→List V→Hp→VK→Prop):Prop:=
 ∀(pins:List (Addr×Obj)) (s:Shared) (σ:St) (H:Hp) (x:V) (xs:List V) (v:Value) (j:List Value) (Q:VK),Inv X pins σ H s→RelV x v→Vals xs j→r x xs H Q→
  wpAny (model X.prog X.w) X.A (call (.builtin id) (v::j)) (EP X pins σ Q) X.xe s
section
variable {X:Cx} {a b:Expr} {ta tb:TE} {pos:Pos}
theorem bB(z:OC X r)(ha:PE X a ta)(n:PE X b tb)(B:K3 b):PE X (.Subscript a b pos) (Jd r ta tb):=by intro pins s σ H Q I h;exact Subscript_ (Nb ha n I h fun v u G x y H2 j D F q=>z a b pins G σ H2 x y v u Q j D F q (B _ _))
inductive OY(K:Frag)(x y:V)(H:Hp)(Q:VK):Prop
 |mk (p:Addr) (xs:List V) (i:Int) (v:V) (e:x=.ref p) (e2:y=.int i) (h:aT K H p xs) (a:EZ xs i=some v) (q:Q v H):OY K x y H Q
def N1(K:Frag):R2:=OY K
inductive O0(K:Frag)(x y:V)(H:Hp)(Q:VK):Prop
 |mk (p:Addr) (xs:List V) (i:Int) (v:V) (e:x=.ref p) (e2:y=.int i) (h:h9 K H p xs) (a:EZ xs i=some v) (q:Q v H):O0 K x y H Q
def Q8(K:Frag):R2:=O0 K
inductive OZ(x y:V)(H:Hp)(Q:VK):Prop
 |mk (z:Str) (i:Int) (c:Nat) (e:x=.str z) (e2:y=.int i) (l:z.length≤sizeLine) (a:EZ z.cps.toList i=some c) (q:Q (.str ⟨#[c]⟩) H):OZ x y H Q
def Q7:R2:=OZ
theorem a4:OC X (N1 X.K):=by
 intro value F pins s σ H x y v u Q I U W h L;obtain⟨p,xs,i,z,rfl,rfl,S,he,q⟩:=h;cases U;obtain⟨t,rfl⟩:=W;obtain⟨B,r,pl,hz⟩:=I.list S;obtain⟨j,h1,h2,Y,M,N⟩:=u5 he;obtain⟨w,G,D⟩:=r.get h2;have O:=r.length;have hn:=oV;have fin:EP X pins σ Q w s:=⟨z,H,I,D,q⟩;by_cases J:0≤i
 ·have n:i.toNat=j:=by rw[seqIndex_of J N]at h1;exact Option.some.inj h1
  exact item_listR pl.isList J (by omega) (by rw[n];simpa using G) fin L
 ·have n:(i+(B.toArray.size:Int)).toNat=j:=by rw[seqIndex_neg (by omega) M]at h1;rw[size_toArray,← O];exact Option.some.inj h1
  exact subscriptTail_builtinR (x:=w) pl.isList.typeIs slot_list_getitem.lookup
   (wpAny_getItem_list_neg (Q:=fun r s'=>r=w∧EP X pins σ Q r s') pl.isList (by omega) (by rw[size_toArray]<;>omega) (by omega) (by rw[n];simpa using G) ⟨Z,fin⟩) L
theorem kT:OC X (Q8 X.K):=by
 intro value B pins s σ H x y v u Q I M N h J;obtain⟨p,xs,i,z,rfl,rfl,G,he,q⟩:=h;cases M;obtain⟨t,rfl⟩:=N;obtain⟨L,r,pl,hz⟩:=I.tuple G;obtain⟨j,h1,h2,O,S,U⟩:=u5 he;obtain⟨w,D,n⟩:=r.get h2;have F:=r.length;have hn:=oV;have fin:EP X pins σ Q w s:=⟨z,H,I,n,q⟩;exact subscriptTail_builtinR (x:=w) pl.typeIs slot_tuple_getitem.lookup
  (getItem_tuple (j:=j) (Q:=fun r s'=>r=w∧EP X pins σ Q r s') pl (by omega) (by omega) (by rw[size_toArray,← F];exact h1) (by simpa using D) ⟨Z,fin⟩) J
theorem JX:OC X Q7:=by
 intro value n pins s σ H x y v u Q I M N h L;obtain⟨z,i,c,rfl,rfl,hz,he,q⟩:=h;obtain⟨t,rfl⟩:=M;obtain⟨S,rfl⟩:=N;obtain⟨j,h1,h2,O,F,G⟩:=u5 he;have J:z.cps.toList.length=z.length:=by simp[Str.length]
 rw[J]at h1 F G;have hn:=oV;exact tail_any (typeIs_str s z t) slot_str_getitem.lookup (getItem_str (c:=c) (by have B:decide (i < -(2^63:Int))=false:=decide_eq_false (by omega);have D:decide (i≥2^63)=false:=decide_eq_false (by omega);rw[B,D,Bool.or_false]) (by rw[h1];simpa using h2) ⟨.str ⟨#[c]⟩,H,I.tok _,⟨_,Z⟩,q⟩) L
theorem FA(q:List Value)(n j:Nat)(u:Value):Obj.mapSeq (·.setIfInBounds j u) {cls:=.type "list",data:=.seq q.toArray n}={cls:=.type "list",data:=.seq (q.set j u).toArray n}:=by simp[Obj.mapSeq]
theorem Inv.lst{H:Hp}{s:Shared}(I:Inv X pins σ H s)(h:H p=some (.lst xs)):
  ∃(j:List Value) (n:Nat),Vals xs j∧s.heap.get? p=some {cls:=.type "list",data:=.seq j.toArray n}∧xs.length≤sizeLine:=by
 obtain⟨z,j,n,r,e⟩:=I.bj p _ h;exact⟨j,n,r,e,z⟩
theorem Inv.NK{s:Shared}{xs ys:List V}{j its':List Value}{f:Obj→Obj}(I:Inv X pins σ H s)(h:H p=some (.lst xs))
 (F:s.heap.get? p=some {cls:=.type "list",data:=.seq j.toArray n})(z:f {cls:=.type "list",data:=.seq j.toArray n}={cls:=.type "list",data:=.seq its'.toArray B})(r:Vals ys its')(G:ys.length≤sizeLine)(t:Nat):
  Inv X pins σ (upd H p (.lst ys)) {s with heap:=s.heap.update p f,toks:=t}:=by
 have e:(s.heap.update p f).get? p=some {cls:=.type "list",data:=.seq its'.toArray B}:=by rw[Heap.get?_update_self f F (by rw[z]<;>rfl),z]
 refine I.write (x:=p) (e:=p) (by rw[h];trivial) (.inl Z) (fun b u D q=>(Heap.get?_update_other _ _ (Ne.symm D)).trans q) ⟨_,e⟩ ?_;exact⟨G,its',B,r,e⟩
inductive MM(o i v:V)(H:Hp)(Q:Hp→Prop):Prop
 |mk (p:Addr) (xs:List V) (k:Int) (j:Nat) (e:o=.ref p) (e2:i=.int k) (h:H p=some (.lst xs)) (a:JV xs.length k=some j) (q:Q (upd H p (.lst (xs.set j v)))):MM o i v H Q
def P5:V→V→V→Hp→(Hp→Prop)→Prop:=MM
theorem set_list:M6 X P5:=by
 intro pins s σ H o i v ov iv u Q I U S Y h;obtain⟨p,xs,k,j,rfl,rfl,N,O,q⟩:=h;cases U;obtain⟨t,rfl⟩:=S;obtain⟨z,n,r,F,hz⟩:=I.lst N;obtain⟨h1,h2,L,M⟩:=GF O;have D:=r.length;have hn:=oV;have G:Inv X pins σ (upd H p (.lst (xs.set j v))) {s with heap:=s.heap.update p (Obj.mapSeq (·.setIfInBounds j u))}:=
  I.NK N F (FA z n j u) (r.set Y j) (by rw[List.length_set];exact hz) s.toks
 by_cases J:0≤k
 ·have B:k.toNat=j:=by rw[seqIndex_of J M]at h1;exact Option.some.inj h1
  exact PySem.W.ki_setAt F J (by omega) (by rw[size_toArray,← D];exact M) (by rw[B];exact⟨_,G,q⟩)
 ·have B:(k+(z.toArray.size:Int)).toNat=j:=by rw[seqIndex_neg (by omega) L]at h1;rw[size_toArray,← D];exact Option.some.inj h1
  exact PySem.W.ki_setBack F (by omega) (by rw[size_toArray,← D];exact L) (by omega) (by rw[B];exact⟨_,G,q⟩)
theorem Ci(lo hi:Option Int)(n:Nat):(sliceBounds lo hi none n).1=((HT.gz n 0 lo:Nat):Int)∧(sliceBounds lo hi none n).2.1=((HT.gz n n hi:Nat):Int)∧(sliceBounds lo hi none n).2.2=1:=by
 refine⟨?_,?_,Z⟩
 ·cases lo with
  |none=>simp[sliceBounds,HT.gz]
  |some i=>
   simp only[sliceBounds,HT.gz,Option.getD_none,show(1:Int)>0 by decide,if_true];by_cases h:i<0
   ·simp only[h,if_true]<;>omega
   ·simp only[h,if_false]<;>omega
 ·cases hi with
  |none=>simp[sliceBounds,HT.gz]
  |some i=>
   simp only[sliceBounds,HT.gz,Option.getD_none,show(1:Int)>0 by decide,if_true];by_cases h:i<0
   ·simp only[h,if_true]<;>omega
   ·simp only[h,if_false]<;>omega
theorem zb(j:List Value)(lo hi:Option Int):slicePick j.toArray lo hi none=((j.drop (HT.gz j.length 0 lo)).take (HT.gz j.length j.length hi-HT.gz j.length 0 lo)).toArray:=by obtain⟨h1,h2,n⟩:=Ci lo hi j.toArray.size;unfold slicePick;rw[h1,h2,n];simp only[sliceRange_one,pick_run,size_toArray]<;>rfl
inductive O2(K:Frag)(x:V)(lo hi:Option Int)(H:Hp)(Q:VK):Prop
 |mk (a:Addr) (xs:List V) (e:x=.ref a) (h:aT K H a xs) (q:∀p,H p=none→Q (.ref p) (upd H p (.lst (kM xs lo hi)))):O2 K x lo hi H Q
def Ra(K:Frag):V→Option Int→Option Int→Hp→VK→Prop:=O2 K
theorem jE:QL X (Ra X.K):=by intro pins s σ H x v vl M lo hi L Q I J z F G h;obtain⟨a,xs,rfl,B,q⟩:=h;cases J;obtain⟨D,r,n,hz⟩:=I.list B;have j:=r.length;refine⟨"list",_,slot_list_getitem.lookup,n.isList.typeIs,?_⟩;refine wpAny_getItem_list_slice n.isList z F G .none (by simp) ?_ (by rw[size_toArray]<;>omega);rw[zb,← j];refine⟨.ref s.heap.objs.size,_,I.laid (t':=s.toks) (o:=.lst (kM xs lo hi)) (fun b _ q=>Heap.get?_push_of_some _ q) (Nat.le_refl _) ?_,Z,q _ (I.bj.fresh (Nat.le_refl _))⟩;exact⟨Nat.le_trans (ml xs lo hi) hz,_,0,(r.drop (HT.gz xs.length 0 lo)).take (HT.gz xs.length xs.length hi-HT.gz xs.length 0 lo),Heap.get?_push_size _ Z⟩
def sV:V→Bool
 |.bV=>true
 |.bl _=>true
 |.int _=>true
 |.str _=>true
 |_=>false
noncomputable def MS:V→V→Bool
 |.bV,.bV=>true
 |.bl a,.bl b=>a==b
 |.bl a,.int b=>(if a then 1 else 0)==b
 |.int a,.bl b=>a==(if b then 1 else 0)
 |.int a,.int b=>a==b
 |.str a,.str b=>a==b
 |_,_=>false
theorem Nj(z:RelV y u)(j:RelV x v)(B:sV y=true)(q:sV x=true):SeqAt.EqAt A s u v (MS y x):=by
 cases y with
 |bV=>
  cases z;cases x with
  |bV=>cases j;exact SeqAt.EqAt.same _
  |bl b=>cases j;exact SeqAt.EqAt.none_bool b
  |int b=>obtain⟨t,rfl⟩:=j;exact SeqAt.EqAt.none_int b t
  |str b=>obtain⟨t,rfl⟩:=j;exact SeqAt.EqAt.none_str b t
  |_=>exact absurd (show false=true from q) Bool.false_ne_true
 |bl a=>
  cases z;cases x with
  |bV=>cases j;exact SeqAt.EqAt.bool_none a
  |bl b=>cases j;exact SeqAt.EqAt.bool_bool a b
  |int b=>obtain⟨t,rfl⟩:=j;exact SeqAt.EqAt.bool_int a b t
  |str b=>obtain⟨t,rfl⟩:=j;exact SeqAt.EqAt.bool_str a b t
  |_=>exact absurd (show false=true from q) Bool.false_ne_true
 |int a=>
  obtain⟨n,rfl⟩:=z;cases x with
  |bV=>cases j;exact SeqAt.EqAt.int_none a n
  |bl b=>cases j;exact SeqAt.EqAt.int_bool a n b
  |int b=>obtain⟨t,rfl⟩:=j;exact SeqAt.EqAt.int_int a n b t
  |str b=>obtain⟨t,rfl⟩:=j;exact SeqAt.EqAt.int_str a n b t
  |_=>exact absurd (show false=true from q) Bool.false_ne_true
 |str a=>
  obtain⟨n,rfl⟩:=z;cases x with
  |bV=>cases j;exact SeqAt.EqAt.str_none a n
  |bl b=>cases j;exact SeqAt.EqAt.str_bool a n b
  |int b=>obtain⟨t,rfl⟩:=j;exact SeqAt.EqAt.str_int a n b t
  |str b=>obtain⟨t,rfl⟩:=j;exact SeqAt.EqAt.str_str a n b t
  |_=>exact absurd (show false=true from q) Bool.false_ne_true
 |_=>exact absurd (show false=true from B) Bool.false_ne_true
def Lg(x:V)(u:Value):Bool:=match u with
 |.none=>MS .bV x
 |.bool b=>MS (.bl b) x
 |.int i _=>MS (.int i) x
 |.str z _=>MS (.str z) x
 |_=>false
theorem JB(r:RelV y u)(f:sV y=true):Lg x u=MS y x:=by
 cases y with
 |bV=>cases r;rfl
 |bl b=>cases r;rfl
 |int i=>obtain⟨t,rfl⟩:=r;rfl
 |str z=>obtain⟨t,rfl⟩:=r;rfl
 |_=>exact absurd (show false=true from f) Bool.false_ne_true
theorem AK{x:V}:∀{xs:List V} {us:List Value},Vals xs us→xs.all sV=true→us.any (Lg x)=xs.any fun y=>MS y x
 |_,_,.nil,_=>rfl
 |y::xs,u::us,.cons r t,f=>by rw[all_cons,Bool.and_eq_true]at f;rw[any_cons,any_cons,JB r f.1,AK t f.2]
theorem wI{A:Around}{s:Shared}{x:V}{v:Value}(q:RelV x v)(n:sV x=true):∀{xs:List V} {us:List Value},Vals xs us→xs.all sV=true→∀u∈us,SeqAt.EqAt A s u v (Lg x u)
 |_,_,.nil,_=>fun u j=>by cases j
 |y::xs,u::us,.cons r t,f=>fun z j=>by
  rw[all_cons,Bool.and_eq_true]at f;rcases mem_cons.mp j with rfl|j
  ·rw[JB r f.1];exact Nj r q f.1 n
  ·exact wI q n t f.2 z j
def PU(x:V)(xs:List V):Bool:=xs.any fun y=>MS y x
inductive Rz(K:Frag)(neg:Bool)(x y:V)(H:Hp)(Q:VK):Prop
 |mk (p:Addr) (xs:List V) (e:y=.ref p) (h:aT K H p xs∨h9 K H p xs) (f:sV x=true) (g:xs.all sV=true) (q:Q (.bl (if neg then !PU x xs else PU x xs)) H):Rz K neg x y H Q
def RO(K:Frag)(neg:Bool):R2:=Rz K neg
theorem se:qU X (compareOp .In) (RO X.K false):=by
 intro pins s σ H x y v u Q I D F h;obtain⟨p,xs,rfl,n,B,fs,q⟩:=h;cases F;rcases n with n|n
 ·obtain⟨j,r,pl,hz⟩:=I.list n;refine SeqAt.in_listAt (Lg x) pl.isList (fun w z=>wI D B r fs w (by simpa using z)) ⟨.bl _,H,I,Z,?_⟩;rw[show j.toArray.any (Lg x)=j.any (Lg x)by simp,AK r fs];exact q
 ·obtain⟨j,r,pl,hz⟩:=I.tuple n;refine SeqAt.in_tupleAt (Lg x) pl (fun w z=>wI D B r fs w (by simpa using z)) ⟨.bl _,H,I,Z,?_⟩;rw[show j.toArray.any (Lg x)=j.any (Lg x)by simp,AK r fs];exact q
theorem aO:iG X (.builtin "len") (fun xs H Q=>∃p ys,xs=[.ref p]∧(aT X.K H p ys∨h9 X.K H p ys)∧Q (.int ys.length) H):=by
 intro pins s σ H xs F Q I r h;obtain⟨p,ys,rfl,n,q⟩:=h;obtain⟨u,rfl,D⟩:=vals1 r;cases D;have hn:=oV;rcases n with n|n
 ·obtain⟨z,B,pl,hz⟩:=I.list n;have j:=B.length;exact Calls.call_len_list pl.isList (by simp only[size_toArray]<;>omega) ⟨.int ys.length,H,I.tok _,⟨s.toks+1,by rw[size_toArray,j]⟩,q⟩
 ·obtain⟨z,B,pl,hz⟩:=I.tuple n;have j:=B.length;exact len_tuple pl (by simp only[size_toArray]<;>omega) ⟨.int ys.length,H,I.tok _,⟨s.toks+1,by rw[size_toArray,j]⟩,q⟩
theorem pP:iG X (.builtin "len") (fun xs H Q=>∃z,xs=[.str z]∧z.length≤sizeLine∧Q (.int z.length) H):=by intro pins s σ H xs j Q I r h;obtain⟨z,rfl,hz,q⟩:=h;obtain⟨u,rfl,t,rfl⟩:=vals1 r;have hn:=oV;exact len_str (by omega) ⟨.int z.length,H,I.tok _,⟨_,Z⟩,q⟩
def Rr(K:Frag)(T:String)(x:V)(H:Hp):Prop:=match x with
 |.str _=>T="str"
 |.int _=>T="int"
 |.ref p=>(T="list"∧∃xs,aT K H p xs)∨(T="tuple"∧∃o,K.lookup p=some o∧o.cls=.type "tuple"∧o.dict=none)∨
   (T="dict"∧((∃kvs,H p=some (.dK kvs))∨∃kvs,H p=some (.dT kvs)))∨(T="set"∧∃S n,H p=some (.set S n))
 |_=>False
theorem KH{s:Shared}(I:Inv X pins σ H s)(r:RelV x v)(ty:Rr X.K T x H):
  s.TypeIs v T∧∀a,v=.ref a→∃B,s.heap.get? a=some B∧B.dict=none:=by
 cases x with
 |str z=>
  obtain⟨t,rfl⟩:=r;cases(show T="str" from ty);exact⟨typeIs_str s z t,fun _ e=>nomatch e⟩
 |int i=>
  obtain⟨t,rfl⟩:=r;cases(show T="int" from ty);exact⟨typeIs_int s i t,fun _ e=>nomatch e⟩
 |ref p=>
  cases r;rcases ty with⟨rfl,xs,F⟩|⟨rfl,o,j,D,hd⟩|⟨rfl,j⟩|⟨rfl,S,n,j⟩
  ·obtain⟨G,_,pl,_⟩:=I.list F;refine⟨pl.isList.typeIs,fun a e=>?_⟩;cases e;obtain⟨o,n,e,c,hd,_⟩:=pl;exact⟨o,e,hd⟩
  ·refine⟨⟨o,I.nr p o j,D⟩,fun a e=>?_⟩;cases e;exact⟨o,I.nr _ o j,hd⟩
  ·have z:∃o,s.heap.get? p=some o∧o.ExactDict:=by
    rcases j with⟨kvs,j⟩|⟨kvs,j⟩
    ·obtain⟨_,_,_,_,o,_,_,e,ex,_⟩:=I.bj p _ j;exact⟨o,e,ex⟩
    ·obtain⟨_,_,_,_,o,_,_,e,ex,_⟩:=I.bj p _ j;exact⟨o,e,ex⟩
   obtain⟨o,e,ex⟩:=z;refine⟨⟨o,e,ex.1⟩,fun a q=>?_⟩;cases q;exact⟨o,e,ex.2.1⟩
  ·obtain⟨o,_,_,_,e,ex,_⟩:=I.bj p _ j;refine⟨⟨o,e,ex.1⟩,fun a q=>?_⟩;cases q;exact⟨o,e,ex.2.1⟩
 |_=>exact False.elim ty
def Rl(K:Frag)(T:String)(r:V→List V→Hp→VK→Prop)(to:TE):TE:=fun σ H Q=>to σ H fun x H1=>Rr K T x H1∧r x [] H1 Q
def R8(K:Frag)(T:String)(r:V→List V→Hp→VK→Prop)(to:TE)(t:TA):TE:=fun σ H Q=>to σ H fun x H1=>Rr K T x H1∧t σ H1 fun xs H2=>r x xs H2 Q
variable {o e:Expr} {es:List Expr} {to:TE} {t:TA} {name:Str} {apos cpos:Pos} {T id:String} {r:V→List V→Hp→VK→Prop}
theorem FR(F:PlainAttrs T)(slot:Slot T name id)(q:typeOf (.builtin id)=pure (.type "method_descriptor"))(hm:KZ X id r)(D:PE X o to)
 (j:attributeBase o name X.env (eval o X.env)=eval o X.env:=by rfl)(n:(apos.endLine==cpos.line)=true:=by rfl):PE X (.Call (.Attribute o name apos) [] [] cpos) (Rl X.K T r to):=by
 intro pins s σ H Q I h;refine wpAny_Call_method0_late j n (bO (D pins s σ H _ I h) fun v J ⟨x,H1,z,B,ty,G⟩=>?_);obtain⟨h1,h2⟩:=KH z B ty;exact⟨T,id,F,slot,q,h1,h2,Calls.callWith_builtin Z (PySem.evalArgs_none (hm pins J σ H1 x [] v [] Q z B .nil G))⟩
theorem mG(N:PlainAttrs T)(slot:Slot T name id)(B:typeOf (.builtin id)=pure (.type "method_descriptor"))(hm:KZ X id r)(L:PE X o to)(ha:PA X (e::es) t)
 (n:attributeBase o name X.env (eval o X.env)=eval o X.env:=by rfl)
 (z:((backTo cpos (starEach (e::es) X.env)).all (fun x=>!x.1)&&(backToKw cpos (keywordEach [] X.env)).all (fun x=>x.1.isSome)
   &&decide ((e::es).length+([]:List Keyword).length+(if([]:List Keyword).isEmpty then 0 else 1)<30))=true:=by rfl)
 (q:(apos.endLine==cpos.line)=true:=by rfl)(M:starEach (e::es) X.env=(false,eval e X.env)::starEach es X.env:=by rfl)(j:(backTo cpos (starEach es X.env)).any (·.1)=false:=by rfl):
  PE X (.Call (.Attribute o name apos) (e::es) [] cpos) (R8 X.K T r to t):=by
 intro pins s σ H Q I h;refine wpAny_Call_method_late n z q Z (bO (L pins s σ H _ I h) fun v W ⟨x,H1,D,G,ty,O⟩=>?_);obtain⟨h1,h2⟩:=KH D G ty;refine⟨T,id,N,slot,B,h1,h2,?_⟩;have F:=ha cpos pins W σ H1 _ D O;rw[M]at F ⊢;refine Calls.callWith_builtin (by show(false||(backTo cpos (starEach es X.env)).any (·.1))=false;rw[j]<;>rfl) (Calls.evalArgs_plain ?_);exact bO F fun us Y ⟨vs,H2,J,U,S⟩=>hm pins Y σ H2 x vs v us Q J G U S
end
end L2
namespace L2
open PySem PySem.Spec PyProof.Rows
def Qu(X:Cx)(id:String)(r:V→List V→Hp→VK→Prop):Prop:=
 ∀(pins:List (Addr×Obj)) (s:Shared) (σ:St) (H:Hp) (x:V) (xs:List V) (v:Value) (j:List Value) (Q:VK),Inv X pins σ H s→RelV x v→Vals xs j→r x xs H Q→
  wpAny (model X.prog X.w) X.A (call (.builtin id) (v::j)) (EP X pins σ Q) X.xe s
theorem Vals.one{us:List Value}(h:Vals [x] us):∃u,us=[u]∧RelV x u:=by cases h with|cons r h=>cases h;exact⟨_,Z,r⟩
theorem Vals.two{us:List Value}(h:Vals [x,y] us):∃u v,us=[u,v]∧RelV x u∧RelV y v:=by cases h with|cons r h=>cases h with|cons q h=>cases h;exact⟨_,_,Z,r,q⟩
theorem Vals.zero:∀{us:List Value},Vals [] us→us=[]
 |_,.nil=>rfl
theorem Vals.dropLast{xs:List V}{us:List Value}(h:Vals xs us):Vals xs.dropLast us.dropLast:=by
 induction h with
 |nil=>exact .nil
 |cons r t j=>
  cases t with
  |nil=>exact .nil
  |cons q n=>exact .cons r j
theorem Vals.reverse{xs:List V}{us:List Value}(h:Vals xs us):Vals xs.reverse us.reverse:=by
 induction h with
 |nil=>exact .nil
 |cons r t j=>rw[List.reverse_cons,List.reverse_cons];exact Vals.append j (.cons r .nil)
theorem Vals.rep{xs:List V}{us:List Value}(h:Vals xs us):∀k:Nat,Vals (replicate k xs).flatten (replicate k us).flatten
 |0=>.nil
 |k+1=>by rw[replicate_succ,replicate_succ,flatten_cons,flatten_cons];exact Vals.append h (Vals.rep h k)
theorem Fi{n:Type}(l:List n):l.eraseIdx (l.length-1)=l.dropLast:=by
 induction l with
 |nil=>rfl
 |cons a r j=>
  cases r with
  |nil=>rfl
  |cons b r=>
   have e:(a::b::r).length-1=((b::r).length-1)+1:=by have h1:(a::b::r).length=r.length+2:=rfl;have h2:(b::r).length=r.length+1:=rfl;omega
   rw[e,List.eraseIdx_cons_succ,j]
   all_goals rfl
theorem foldl_rep(j:List Value):∀(k:Nat) (acc:List Value),
  foldl (fun q z=>q++z) acc.toArray (replicate k j.toArray)=(acc++(replicate k j).flatten).toArray
 |0,acc=>by simp
 |k+1,acc=>by
  have e:acc.toArray++j.toArray=(acc++j).toArray:=by simp
  have n:(acc++j)++(replicate k j).flatten=acc++(replicate (k+1) j).flatten:=by rw[replicate_succ,flatten_cons,append_assoc]
  rw[← n,← foldl_rep j k (acc++j),← e,replicate_succ,List.foldl_cons]
section
variable {X:Cx} {pins:List (Addr×Obj)} {σ:St} {H:Hp} {s:Shared} {l b:Addr} {xs ys zs:List V}
theorem Inv.LL{j its':List Value}{f:Array Value→Array Value}{t':Nat}(I:Inv X pins σ H s)(z:H l=some (.lst xs))
 (e:s.heap.get? l=some {cls:=.type "list",data:=.seq j.toArray n})(D:f j.toArray=its'.toArray)(G:Vals ys its')(J:ys.length≤sizeLine):
  Inv X pins σ (upd H l (.lst ys)) {s with heap:=s.heap.update l (Obj.mapSeq f),toks:=t'}:=by
 have q:=PySem.IsL.update e f;rw[D]at q;refine I.write (x:=l) (e:=l) (by rw[z];exact trivial) (.inl Z) (fun _ u B F=>(Heap.get?_update_other s.heap (Obj.mapSeq f) (Ne.symm B)).trans F) ⟨_,q⟩ ?_;exact⟨J,its',_,G,q⟩
theorem Inv.PX{t':Nat}(I:Inv X pins σ H s)(n:Vals ys j)(z:ys.length≤sizeLine):
  Inv X pins σ (upd H s.heap.objs.size (.lst ys)) {s with heap:=s.heap.push {cls:=.type "list",data:=.seq j.toArray},toks:=t'}:=
 I.laid (fun _ _ q=>Heap.get?_push_of_some _ q) (Nat.le_refl _) ⟨z,j,0,n,Heap.get?_push_size _ Z⟩
theorem Inv.fresh(I:Inv X pins σ H s):H s.heap.objs.size=none:=I.bj.fresh (Nat.le_refl _)
theorem Inv.DG(I:Inv X pins σ H s)(q:H l=some (.lst xs)):xs.length≤sizeLine∧∃(j:List Value) (n:Nat),Vals xs j∧xs.length=j.length∧s.heap.get? l=some {cls:=.type "list",data:=.seq j.toArray n}:=by obtain⟨z,j,n,r,e⟩:=I.bj l _ q;exact⟨z,j,n,r,r.length,e⟩
theorem DT(h:n≤sizeLine):Builtin.List.listTooLong n=false:=by unfold Builtin.List.listTooLong;exact decide_eq_false (by omega)
end
section
variable {X:Cx}
inductive OS(x:V)(vs:List V)(H:Hp)(Q:VK):Prop
 |mk (l:Addr) (xs:List V) (y:V) (e:x=.ref l) (e2:vs=[y]) (h:H l=some (.lst xs)) (z:xs.length<sizeLine) (q:Q .bV (upd H l (.lst (xs++[y])))):OS x vs H Q
def Ma:V→List V→Hp→VK→Prop:=OS
theorem fJ:Qu X "list.append" Ma:=by intro pins s σ H x N v M Q I J G h;obtain⟨l,xs,y,rfl,rfl,B,hz,q⟩:=h;cases J;obtain⟨u,rfl,D⟩:=G.one;obtain⟨z,j,n,r,L,e⟩:=I.DG B;refine call_meets F.slot_list_append ⟨_,e,Z⟩ F.entry_list_append (F.args_list_append_2 _ _) (PySem.list_append l j.toArray n u (by rw[size_toArray];omega)) ⟨e,?_⟩;refine⟨.bV,_,I.LL (its':=j++[u]) B e (by simp) (r.append (.cons D .nil)) ?_,Z,q⟩;rw[length_append,List.length_singleton];omega
inductive OW(x:V)(vs:List V)(H:Hp)(Q:VK):Prop
 |mk (l b:Addr) (xs zs:List V) (e:x=.ref l) (e2:vs=[.ref b]) (h:H l=some (.lst xs)) (h2:H b=some (.lst zs)) (z:xs.length+zs.length≤sizeLine) (q:Q .bV (upd H l (.lst (xs++zs)))):OW x vs H Q
def Mb:V→List V→Hp→VK→Prop:=OW
theorem rQ:Qu X "list.extend" Mb:=by
 intro pins s σ H x vs v us Q I W U h;obtain⟨l,b,xs,zs,rfl,rfl,G,L,hz,q⟩:=h;cases W;obtain⟨u,rfl,S⟩:=U.one;cases S;obtain⟨z,its,n,r,Y,e⟩:=I.DG G;obtain⟨z2,j,N,O,M,J⟩:=I.DG L;have D:its.toArray.size+j.toArray.size≤sizeLine:=by rw[size_toArray,size_toArray];omega
 have B:¬(!its.toArray.isEmpty&&Builtin.List.listTooLong (its.toArray.size+j.toArray.size))=true:=by rw[DT D,Bool.and_false];exact Bool.false_ne_true
 refine call_meets F.slot_list_extend ⟨_,e,Z⟩ F.entry_list_extend (F.args_list_extend_2 _ _)
  (AutoSeq1.list_extend_list_list_0 l its.toArray n b j.toArray N B (by rw[size_toArray];omega) (by omega)) ⟨e,J,?_⟩
 refine⟨.bV,_,I.LL (its':=its++j) G e (by simp) (r.append O) ?_,Z,q⟩;rw[length_append];omega
def Q9:V→List V→Hp→VK→Prop:=fun x j H Q=>∃l xs y,x=.ref l∧j=[]∧H l=some (.lst xs)∧xs[xs.length-1]?=some y∧Q y (upd H l (.lst xs.dropLast))
theorem J4:Qu X "list.pop" Q9:=by
 intro pins s σ H x U v S Q I O N h;obtain⟨l,xs,y,rfl,rfl,D,L,q⟩:=h;cases O;have j:=N.zero;subst j;obtain⟨z,its,n,r,G,e⟩:=I.DG D;obtain⟨u,J,M⟩:=r.get L;have B:its.toArray[its.toArray.size-1]?=some u:=by show its.toArray[its.length-1]?=some u;rw[← Array.getElem?_toList,← G];exact J
 refine call_meets F.slot_list_pop ⟨_,e,Z⟩ F.entry_list_pop (F.args_list_pop_1 _) (MeetsSeq.list_pop_last l its.toArray n u B (by rw[size_toArray];omega)) ⟨e,?_⟩;refine⟨y,_,I.LL (its':=its.dropLast) D e ?_ r.dropLast ?_,M,q⟩
 ·show its.toArray.eraseIdxIfInBounds (its.toArray.size-1)=its.dropLast.toArray;rw[size_toArray,List.eraseIdxIfInBounds_toArray,Fi]
 ·rw[length_dropLast];omega
def Km:V→List V→Hp→VK→Prop:=fun x j H Q=>∃l xs,x=.ref l∧j=[]∧H l=some (.lst xs)∧Q .bV (upd H l (.lst xs.reverse))
theorem FC:Qu X "list.reverse" Km:=by intro pins s σ H x N v M Q I J G h;obtain⟨l,xs,rfl,rfl,D,q⟩:=h;cases J;have B:=G.zero;subst B;obtain⟨z,j,n,r,L,e⟩:=I.DG D;refine call_meets F.slot_list_reverse ⟨_,e,Z⟩ F.entry_list_reverse (F.args_list_reverse_1 _) (AutoSeq1.list_reverse_list_0 l j.toArray n (by rw[size_toArray];omega)) ⟨e,?_⟩;refine⟨.bV,_,I.LL (its':=j.reverse) D e (by simp) r.reverse ?_,Z,q⟩;rw[List.length_reverse];omega
def Q5:R2:=fun x y H Q=>∃l b xs zs,x=.ref l∧y=.ref b∧H l=some (.lst xs)∧H b=some (.lst zs)∧xs.length+zs.length≤sizeLine∧∀p,H p=none→Q (.ref p) (upd H p (.lst (xs++zs)))
theorem k9:qU X (binaryOp .Add) Q5:=by
 intro pins s σ H x y v u Q I M N h;obtain⟨l,b,xs,zs,rfl,rfl,G,F,hz,q⟩:=h;cases M;cases N;obtain⟨z,its,n,r,O,e⟩:=I.DG G;obtain⟨U,j,S,L,J,B⟩:=I.DG F;refine PySem.P.add_list e B ?_ (by rw[size_toArray,size_toArray];omega);have D:its.toArray++j.toArray=(its++j).toArray:=by simp
 rw[D];exact⟨.ref _,_,I.PX (t':=s.toks) (r.append L) (by rw[length_append];omega),Z,q _ I.fresh⟩
def Q_:R2:=fun x y H Q=>∃l k xs,x=.ref l∧y=.int k∧H l=some (.lst xs)∧-(2^63)≤k∧k<2^63∧xs.length*k.toNat≤sizeLine∧
 ∀p,H p=none→Q (.ref p) (upd H p (.lst (replicate k.toNat xs).flatten))
theorem len_rep{n:Type}(xs:List n)(k:Nat):(replicate k xs).flatten.length=k*xs.length:=by
 induction k with
 |zero=>simp
 |succ k j=>rw[replicate_succ,flatten_cons,length_append,j,Nat.succ_mul,Nat.add_comm]
theorem Ke:qU X (binaryOp .Mult) Q_:=by
 intro pins s σ H x y v u Q I W Y h;obtain⟨l,k,xs,rfl,rfl,O,h1,h2,hz,q⟩:=h;cases W;obtain⟨t,rfl⟩:=Y;obtain⟨z,its,n,r,S,e⟩:=I.DG O;have G:its.toArray.size*k.toNat≤sizeLine:=by rw[size_toArray,← S];exact hz
 have B:¬its.toArray.size*k.toNat>(2^63-1)/8:=by
  have:(sizeLine:Nat)≤(2^63-1)/8:=by decide
  omega
 have D:¬(!Builtin.List.listFitsIndex k)=true:=by rw[fitsIndex_both h1 h2];exact Bool.false_ne_true
 have j:¬Builtin.List.listTooLong (its.toArray.size*k.toNat)=true:=by rw[DT G];exact Bool.false_ne_true
 have J:foldl (fun L M=>L++M) #[] (replicate (if its.toArray.isEmpty=true then 0 else k.toNat) its.toArray)=(replicate k.toNat its).flatten.toArray:=by
  have N:∀m:Nat,foldl (fun L M=>L++M) #[] (replicate m its.toArray)=(replicate m its).flatten.toArray:=fun m=>by have:=foldl_rep its m [];rw[nil_append]at this;exact this
  rw[N];cases its with
  |nil=>simp
  |cons a r'=>rw[if_neg (by simp)]
 refine wpAny_binaryOp_repeat_ref (T:="list") (U:="int") (by decide) ⟨_,e,Z⟩ (fun s'=>typeIs_int s' k t) noFill_list_mul F.fills_int_mul F.slot_int_rmul repeat_list F.slot_int_index.lookup
  (call_meets F.slot_int_rmul (typeIs_int s k t) F.entry_int_rmul (F.args_int_rmul_2 _ _) (int___rmul___int_list k t l its.toArray n)
   ⟨e,Z,⟨_,e,Z⟩,call_meets F.slot_list_mul ⟨_,e,Z⟩ F.entry_list_mul (F.args_list_mul_2 _ _) (AutoListH.list___mul___list_int_3 l its.toArray n k t D B j) ⟨e,?_⟩⟩)
 rw[J];exact⟨.ref _,_,I.PX (t':=s.toks) (r.rep k.toNat) (by rw[len_rep,Nat.mul_comm];exact hz),Z,q _ I.fresh⟩
end
end L2
namespace L2
open PySem PySem.Spec PyProof.Rows
theorem Vals.ints:∀{ns:List Int} {us:List Value},Vals (ns.map V.int) us→IntsAre us ns
 |[],us,h=>by rw[map_nil]at h;cases h;exact IntsAre.nil
 |n::ns,us,h=>by
  rw[map_cons]at h;cases h with
  |cons r t=>
   obtain⟨k,rfl⟩:=r;exact IntsAre.cons n k (Vals.ints t)
theorem iD:∀{us:List Value} {ns:List Int},IntsAre us ns→Vals (ns.map V.int) us
 |_,_,.nil=>by rw[map_nil];exact Paired.nil
 |_,_,.cons n t h=>by rw[map_cons];exact Paired.cons (show RelV (V.int n) (Value.int n t)from⟨t,Z⟩) (iD h)
theorem Vals.QQ:∀{bs:List Bool} {us:List Value},Vals (bs.map V.bl) us→us=bs.map Value.bool
 |[],us,h=>by rw[map_nil]at h;cases h;rfl
 |b::bs,us,h=>by
  rw[map_cons]at h;cases h with
  |cons r t=>
   cases r;rw[Vals.QQ t,map_cons]
theorem Vals.Ks{us:List Value}(r:Vals [V.ref a] us):us=[Value.ref a]:=by
 cases r with
 |cons r t=>
  cases t;cases r;rfl
theorem Dz{s:Shared}{Q:Value→Shared→Prop}(j:s.heap.IsList l items)
 (h:∀s₂:Shared,s₂={s with heap:=s.heap.push {cls:=.type "list_iterator",data:=.fields #[.ref l,.int 0 0]}}→
   (s₂.heap.IsListIter s.heap.objs.size l 0∧s₂.heap.IsList l items)→l≠s.heap.objs.size→Q (.ref s.heap.objs.size) s₂):wpAny (model prog w) A (pyIter (.ref l)) Q E s:=by
 have bL:l<s.heap.objs.size:=by obtain⟨_,e,_⟩:=j;exact Heap.lt_size e
 exact wpAny_pyIter_list j (h _ Z ⟨⟨_,Heap.get?_push_size _ Z,Z,Z⟩,j.push _⟩ (Nat.ne_of_lt bL))
theorem ug{bs:List Bool}{j:List Value}(e:j=bs.map Value.bool):
  TruthOf prog w A (fun i v=>j.toArray[i]?=some v) (fun i=>bs.getD i false):=fun i v s Q E F D=>by
 have q:j[i]?=some v:=by simpa using F
 rw[e,getElem?_map]at q;obtain⟨b,z,rfl⟩:=Option.map_eq_some_iff.mp q;have B:bs.getD i false=b:=by rw[getD_eq_getElem?_getD,z]<;>rfl
 have n:Q (bs.getD i false) s:=D;rw[B]at n;exact wpAny_truthy_bool n
theorem any_range:∀bs:List Bool,(range bs.length).any (fun i=>bs.getD i false)=bs.any id
 |[]=>rfl
 |b::bs=>by
  rw[length_cons,List.range_succ_eq_map,any_cons,any_map,any_cons,← any_range bs]
  all_goals rfl
theorem all_range:∀bs:List Bool,(range bs.length).all (fun i=>bs.getD i false)=bs.all id
 |[]=>rfl
 |b::bs=>by
  rw[length_cons,List.range_succ_eq_map,all_cons,all_map,all_cons,← all_range bs]
  all_goals rfl
section
variable {X:Cx}
def Q4(K:Frag):List V→Hp→VK→Prop:=fun j H Q=>∃(a:Addr) (bs:List Bool),j=[V.ref a]∧aT K H a (bs.map V.bl)∧Q (.bl (bs.any id)) H
def P4(K:Frag):List V→Hp→VK→Prop:=fun j H Q=>∃(a:Addr) (bs:List Bool),j=[V.ref a]∧aT K H a (bs.map V.bl)∧Q (.bl (bs.all id)) H
theorem Jv(J:X.calm=true):iG X (.builtin "any") (Q4 X.K):=by
 intro pins s σ H U S Q I r h;obtain⟨a,bs,rfl,N,q⟩:=h;obtain⟨z,O,M,_⟩:=I.list N;rw[Vals.Ks r];have D:=O.QQ;refine call_any_walk (Dz M.isList fun s₂ G st n=>?_);subst G;refine⟨_,_,_,_,_,_,_,Z,Walks.list (A:=X.A.in1) (I.ok.hd J) _ a n z.toArray,st,ug D,fun h' tk L=>?_⟩;refine⟨.bl _,H,I.kept fun b o B=>L b o (fun j=>?_) (Heap.get?_push_of_some _ B),?_,q⟩
 ·rcases mem_cons.mp j with F|j
  ·exact absurd (F▸Heap.lt_size B) (Nat.lt_irrefl _)
  ·cases j
 ·show Value.bool _=Value.bool _;rw[← any_range,D,size_toArray,length_map]
theorem Bb(J:X.calm=true):iG X (.builtin "all") (P4 X.K):=by
 intro pins s σ H U S Q I r h;obtain⟨a,bs,rfl,N,q⟩:=h;obtain⟨z,O,M,_⟩:=I.list N;rw[Vals.Ks r];have D:=O.QQ;refine call_all_walk (Dz M.isList fun s₂ G st n=>?_);subst G;refine⟨_,_,_,_,_,_,_,Z,Walks.list (A:=X.A.in1) (I.ok.hd J) _ a n z.toArray,st,ug D,fun h' tk L=>?_⟩;refine⟨.bl _,H,I.kept fun b o B=>L b o (fun j=>?_) (Heap.get?_push_of_some _ B),?_,q⟩
 ·rcases mem_cons.mp j with F|j
  ·exact absurd (F▸Heap.lt_size B) (Nat.lt_irrefl _)
  ·cases j
 ·show Value.bool _=Value.bool _;rw[← all_range,D,size_toArray,length_map]
end
end L2
namespace L2
open PySem PySem.Spec PyProof.Rows
abbrev Je(h:Heap)(c:Addr)(v:Option Value):Prop:=h.IsCell c v
noncomputable def Rg(j q:Scope):Scope:=
 {j with names:=j.names.map fun(n,k)=>if(k==.free&&q.kind==.function&&q.names.lookup n==some .cell)then(n,.cell)else(n,k)}
noncomputable def bZ(cells:List (Str×Addr)):List (Str×NameKind)→List (Str×Addr)→List (Str×Addr)
 |[],acc=>acc
 |(n,k)::r,acc=>if k==.free then bZ cells r ((n,(cells.lookup n).getD 0)::acc)else bZ cells r acc
theorem pS(env:Env)(f:Str×NameKind→List (Str×Addr)→Sem (ForInStep (List (Str×Addr))))
 (z:∀n k c,f (n,k) c=if k==.free then(do let a ← cellOf env n;pure (.yield ((n,a)::c)))else pure (.yield c)):
  ∀(names:List (Str×NameKind)) (acc:List (Str×Addr)),(∀y∈names,y.2=.free→∃c,env.cells.lookup y.1=some c)→forIn names acc f=pure (bZ env.cells names acc)
 |[],acc,_=>by rw[List.forIn_nil];rfl
 |(n,k)::r,acc,h=>by
  rw[List.forIn_cons,z];have B:=fun acc=>pS env f z r acc fun y F=>h y (mem_cons_of_mem _ F);unfold bZ;by_cases j:(k==NameKind.free)=true
  ·rw[if_pos j,if_pos j];obtain⟨c,q⟩:=h (n,k) mem_cons_self (by simpa using j);have e:cellOf env n=pure c:=by unfold cellOf;rw[q]
   rw[e];have D:(env.cells.lookup n).getD 0=c:=by rw[q];rfl
   rw[D];exact B _
  ·rw[if_neg j,if_neg j];exact B _
theorem Fc{j:Scope}{env:Env}(h:∀y∈j.names,y.2=.free→∃c,env.cells.lookup y.1=some c):closureFor j env=pure (bZ env.cells j.names []):=by simp only[closureFor];rw[pS env _ (fun n k c=>rfl) j.names [] h];rfl
theorem mem_lookup{j:Type}:∀{l:List (Str×j)} {n:Str} {c:j},(n,c)∈l→∃q,l.lookup n=some q
 |(k,v)::r,n,c,h=>by
  rw[lookup_cons];cases z:n==k with
  |true=>exact⟨_,Z⟩
  |false=>
   rcases mem_cons.mp h with e|h
   ·cases e;simp at z
   ·exact mem_lookup h
theorem js{cells:List (Str×Addr)}:∀{names:List (Str×NameKind)} {acc:List (Str×Addr)} {n:Str} {c:Addr},(n,c)∈bZ cells names acc→(n,c)∈acc∨((n,.free)∈names∧c=(cells.lookup n).getD 0)
 |[],_,_,_,h=>.inl h
 |(m,k)::r,acc,n,c,h=>by
  unfold bZ at h;split at h
  ·rename_i j
   have j:k=.free:=by simpa using j
   rcases js h with h|⟨h1,h2⟩
   ·rcases mem_cons.mp h with e|h
    ·cases e;exact .inr ⟨j▸mem_cons_self,Z⟩
    ·exact .inl h
   ·exact .inr ⟨mem_cons_of_mem _ h1,h2⟩
  ·rcases js h with h|⟨h1,h2⟩
   ·exact .inl h
   ·exact .inr ⟨mem_cons_of_mem _ h1,h2⟩
theorem mi{cells:List (Str×Addr)}:∀{names:List (Str×NameKind)} {acc:List (Str×Addr)} {p:Str×Addr},p∈acc→p∈bZ cells names acc
 |[],_,_,h=>h
 |(m,k)::r,acc,p,h=>by
  unfold bZ;split
  ·exact mi (mem_cons_of_mem _ h)
  ·exact mi h
theorem mj{cells:List (Str×Addr)}:∀{names:List (Str×NameKind)} {acc:List (Str×Addr)} {n:Str},(n,.free)∈names→(n,(cells.lookup n).getD 0)∈bZ cells names acc
 |(m,k)::r,acc,n,h=>by
  unfold bZ;rcases mem_cons.mp h with e|h
  ·cases e;exact mi mem_cons_self
  ·split
   ·exact mj h
   ·exact mj h
theorem j1:∀{names:List (Str×NameKind)} {h:Heap} {acc:List (Str×Addr)} {x:Str} {c:Addr},(x,c)∈cellsFrom h.objs.size names acc→
  (x,c)∈acc∨((x,.cell)∈names∧h.objs.size≤c∧Je (pushCells h names) c none)
 |[],_,_,_,_,h=>.inl h
 |(n,k)::r,h,acc,x,c,hm=>by
  unfold cellsFrom at hm;unfold pushCells;split at hm
  ·rename_i j
   rw[if_pos j];have j:k=.cell:=by simpa using j
   rw[← Heap.size_push h {cls:=.type "cell",data:=.cell none}]at hm;rcases j1 hm with hm|⟨h1,h2,q⟩
   ·rcases mem_cons.mp hm with e|hm
    ·cases e;exact .inr ⟨j▸mem_cons_self,Nat.le_refl _,_,pushCells_keeps r _ _ _ (Heap.get?_push_size _ Z),Z⟩
    ·exact .inl hm
   ·rw[Heap.size_push]at h2;exact .inr ⟨mem_cons_of_mem _ h1,Nat.le_of_succ_le h2,q⟩
  ·rename_i j
   rw[if_neg j];rcases j1 hm with hm|⟨h1,h2,q⟩
   ·exact .inl hm
   ·exact .inr ⟨mem_cons_of_mem _ h1,h2,q⟩
theorem nc:∀{names:List (Str×NameKind)} {n:Nat} {acc:List (Str×Addr)} {p:Str×Addr},p∈acc→p∈cellsFrom n names acc
 |[],_,_,_,h=>h
 |(m,k)::r,n,acc,p,h=>by
  unfold cellsFrom;split
  ·exact nc (mem_cons_of_mem _ h)
  ·exact nc h
theorem qX:∀{names:List (Str×NameKind)} {n:Nat} {acc:List (Str×Addr)} {x:Str},(x,.cell)∈names→∃c,(x,c)∈cellsFrom n names acc
 |(m,k)::r,n,acc,x,h=>by
  unfold cellsFrom;rcases mem_cons.mp h with e|h
  ·cases e;exact⟨n,nc mem_cons_self⟩
  ·split
   ·exact qX h
   ·exact qX h
theorem qY:∀{names:List (Str×NameKind)} {h:Heap} {acc:List (Str×Addr)} {x y:Str} {c:Addr},(∀p∈acc,p.2<h.objs.size)→(∀x y c,(x,c)∈acc→(y,c)∈acc→x=y)→
  (x,c)∈cellsFrom h.objs.size names acc→(y,c)∈cellsFrom h.objs.size names acc→x=y
 |[],_,_,_,_,_,_,hi,h1,h2=>hi _ _ _ h1 h2
 |(n,k)::r,h,acc,x,y,c,j,hi,h1,h2=>by
  unfold cellsFrom at h1 h2;split at h1
  ·rename_i q
   rw[if_pos q]at h2;rw[← Heap.size_push h {cls:=.type "cell",data:=.cell none}]at h1 h2;refine qY (h:=h.push _) (fun p z=>?_) (fun x y c a b=>?_) h1 h2
   ·rw[Heap.size_push];rcases mem_cons.mp z with rfl|z
    ·exact Nat.lt_succ_self _
    ·exact Nat.lt_succ_of_lt (j p z)
   ·rcases mem_cons.mp a with e|a<;>rcases mem_cons.mp b with B|b
    ·cases e;cases B;rfl
    ·cases e;exact absurd (j _ b) (Nat.lt_irrefl _)
    ·cases B;exact absurd (j _ a) (Nat.lt_irrefl _)
    ·exact hi _ _ _ a b
  ·rename_i q
   rw[if_neg q]at h2;exact qY j hi h1 h2
theorem DP{M:Model}{A:Around}{E:Value→Shared→Prop}{s:Shared}{q:Scope}{B:Addr}{j:List (Str×Addr)}{F:Str}{D:Option Addr}{code:Value}{around:Env}{z:Addr}{Q:Env→Shared→Prop}
 (h:Q (newEnv q s.heap.objs.size B (cellsFrom (s.heap.objs.size+1) q.names j) F D code (some around) z)
   {s with heap:=pushCells (s.heap.push {cls:=.type "dict",data:=.dict #[]}) q.names}):
  wpAny M A (newFunctionEnv q B j [] F D code (some around) z) Q E s:=by
 simp only[newFunctionEnv,Option.isSome_some,if_true];refine wpAny_bind (wpAny_alloc ?_);refine wpAny_bind (wpAny_layCells _ (fun n k c=>rfl) q.names j _ _ ?_);rw[show({s with heap:=s.heap.push {cls:=.type "dict",data:=.dict #[]}}:Shared).heap.objs.size=s.heap.objs.size+1 from Heap.size_push ..];rw[List.forIn_nil];exact wpAny_bind (wpAny_pure (wpAny_pure h))
theorem my{j:Scope}:∀{names:List (Str×NameKind)} {x:Str} {k:NameKind},
  (names.map fun(n,k)=>if(k==NameKind.free&&j.kind==.function&&j.names.lookup n==some .cell)then(n,NameKind.cell)else(n,k)).lookup x=some k→
  ∃B,names.lookup x=some B∧(k=B∨(B=.free∧k=.cell))
 |[],_,_,h=>by simp at h
 |(n,k₀)::r,x,k,h=>by
  have D:=@my j r x k;have h':List.lookup x ((if(k₀==NameKind.free&&j.kind==.function&&j.names.lookup n==some .cell)=true then(n,NameKind.cell)else(n,k₀))::(r.map _))=some k:=h;cases z:x==n with
  |true=>
   simp only[lookup_cons,z];by_cases q:(k₀==NameKind.free&&j.kind==.function&&j.names.lookup n==some .cell)=true
   ·rw[if_pos q]at h';simp only[lookup_cons,z]at h';cases h';simp only[Bool.and_eq_true,beq_iff_eq]at q;exact⟨k₀,Z,.inr ⟨q.1.1,Z⟩⟩
   ·rw[if_neg q]at h';simp only[lookup_cons,z]at h';cases h';exact⟨_,Z,.inl Z⟩
  |false=>
   simp only[lookup_cons,z];by_cases q:(k₀==NameKind.free&&j.kind==.function&&j.names.lookup n==some .cell)=true
   ·rw[if_pos q]at h';simp only[lookup_cons,z]at h';exact D h'
   ·rw[if_neg q]at h';simp only[lookup_cons,z]at h';exact D h'
structure CC(N:List Str)(sc scope:Scope)(own:List (Str×Nat)):Prop where
 kind:scope.kind=.function
 uniq:∀y∈scope.names,scope.names.lookup y.1=some y.2
 ix:∀p∈own,N[p.2]?=some p.1
 free:∀y∈scope.names,y.2=.free→sc.names.lookup y.1=some .cell∨sc.names.lookup y.1=some .free
 own:∀y∈scope.names,y.2=.local∨y.2=.cell→y.1∈own.map (·.1)∨y.1∉N
def wipe(σ:St):List Nat→St
 |[]=>σ
 |v::j=>(wipe σ j).set v none
theorem m7(σ:St):∀vs:List Nat,(wipe σ vs).length=σ.length
 |[]=>rfl
 |v::vs=>by unfold wipe;rw[List.length_set,m7 σ vs]
theorem sI{σ:St}{i:Nat}{x:V}:∀{vs:List Nat},(wipe σ vs)[i]?=some (some x)→σ[i]?=some (some x)∧i∉vs
 |[],h=>⟨h,by simp⟩
 |v::vs,h=>by
  unfold wipe at h;by_cases hi:v=i
  ·subst hi;by_cases j:v<(wipe σ vs).length
   ·rw[List.getElem?_set_self j]at h;cases h
   ·rw[getElem?_eq_none (by simpa using j)]at h;cases h
  ·rw[List.getElem?_set_ne hi]at h;obtain⟨h1,h2⟩:=sI h;exact⟨h1,by simp only[mem_cons,not_or];exact⟨fun e=>hi e.symm,h2⟩⟩
noncomputable abbrev Cx.AU(X:Cx)(s:Shared)(H:Hp)(j:Scope)(n:Env)(q:List Addr):Cx:={X with Am:=s,M3:=H,env:=n,outer:=X.stack,ex:=q,fn:=fun x=>j.names.lookup x==some .cell,pn:=[],xe:=fun _ _=>False}
section
variable {X:Cx} {pins:List (Addr×Obj)} {σ:St} {H:Hp} {s:Shared}
theorem CN{j:Scope}{own:List (Str×Nat)}{fp:List Addr}(I:Inv X pins σ H s)(ok:CC X.N X.env.scope j own)(hN:X.N.Nodup)(F:∀b∈fp,ui X pins H b∧b<s.heap.objs.size):
  Inv (X.AU s H j (compEnvC j (cellsFrom (s.heap.objs.size+1) j.names (bZ X.env.cells j.names [])) s.heap.objs.size X.env) fp) [] (wipe σ (own.map (·.2))) H {s with heap:=pushCells (s.heap.push {cls:=.type "dict",data:=.dict #[]}) j.names}:=by
 have Y:∀y∈j.names,y.2=.free→∃c,X.env.cells.lookup y.1=some c:=fun y M e=>by
  rcases ok.free y M e with k|k
  ·exact I.ok.has _ (.inl k)
  ·exact I.ok.has _ (.inr k)
 generalize hcenv:compEnvC j (cellsFrom (s.heap.objs.size+1) j.names (bZ X.env.cells j.names [])) s.heap.objs.size X.env=cenv;have kp:∀b o,s.heap.get? b=some o→(pushCells (s.heap.push {cls:=.type "dict",data:=.dict #[]}) j.names).get? b=some o:=fun b o e=>pushCells_keeps _ _ _ _ (Heap.get?_push_of_some _ e);have hL:cenv.locals=s.heap.objs.size:=by rw[← hcenv];rfl
 have B:cenv.cells=cellsFrom (s.heap.objs.size+1) j.names (bZ X.env.cells j.names []):=by rw[← hcenv];rfl
 have a2:cenv.scope=Rg j X.env.scope:=by rw[← hcenv];rfl
 rw[← Heap.size_push s.heap {cls:=.type "dict",data:=.dict #[]}]at B;have cm:∀{y c},(y,c)∈bZ X.env.cells j.names []→X.env.cells.lookup y=some c∧c<s.heap.objs.size:=fun{y c} hm=>by
  rcases js hm with hm|⟨h1,rfl⟩
  ·cases hm
  ·obtain⟨c,hc⟩:=Y _ h1 Z;rw[hc];obtain⟨w,z⟩:=I.cell _ _ hc;exact⟨Z,z.lt⟩
 have mem:∀{y c},cenv.cells.lookup y=some c→(X.env.cells.lookup y=some c∧c<s.heap.objs.size)∨(s.heap.objs.size+1≤c∧Je (pushCells (s.heap.push {cls:=.type "dict",data:=.dict #[]}) j.names) c none):=fun{y c} e=>by
  rw[B]at e;rcases j1 (PySem.mem_of_lookup e)with hm|⟨_,h2,h3⟩
  ·exact .inl (cm hm)
  ·rw[Heap.size_push]at h2;exact .inr ⟨h2,h3⟩
 have look:∀{y},j.names.lookup y=some .free→∃c,cenv.cells.lookup y=some c∧X.env.cells.lookup y=some c:=fun{y} hl=>by
  have M:(y,NameKind.free)∈j.names:=PySem.mem_of_lookup hl;obtain⟨c',D⟩:=mem_lookup (nc (names:=j.names) (n:=(s.heap.push {cls:=.type "dict",data:=.dict #[]}).objs.size) (mj (cells:=X.env.cells) (acc:=[]) M));rw[← B]at D;refine⟨c',D,?_⟩;rw[B]at D;rcases j1 (PySem.mem_of_lookup D)with hm|⟨h1,_,_⟩
  ·exact(cm hm).1
  ·have:=ok.uniq _ h1;rw[hl]at this;cases this
 have c0:(X.AU s H j cenv fp).Ok:=by
  refine⟨I.ok.mod,by show cenv.scope.kind=_;rw[a2];exact ok.kind,by show cenv.globals=_;rw[← hcenv];exact I.ok.glob,by show cenv.builtins=_;rw[← hcenv];exact I.ok.blt,by show s.heap.objs.size≤cenv.locals;rw[hL];exact Nat.le_refl _,
   fun y z c O S=>?_,fun y M=>?_,fun y c z e=>?_,I.ok.hd,I.ok.frames,.inl Z,fun b U=>⟨?_,fun y c e z=>?_⟩,I.bs,Nat.le_trans I.ok.KP I.sz,fun b o e U=>?_,fun b U z=>?_,I.stack,I.G7⟩
  ·have O:cenv.cells.lookup y=some c:=O;have S:cenv.cells.lookup z=some c:=S;rw[B]at O S;refine qY (fun p hp=>?_) (fun y z c a b=>I.ok.inj y z c (cm a).1 (cm b).1) (PySem.mem_of_lookup O) (PySem.mem_of_lookup S);rw[Heap.size_push];exact Nat.lt_succ_of_lt (cm (y:=p.1) (c:=p.2) hp).2
  ·show∃c,cenv.cells.lookup y=some c;have G:∀k,cenv.kindOf y=some k→(k=.cell∨k=.free)→∃c,cenv.cells.lookup y=some c:=fun k hk a1=>by
    unfold Env.kindOf at hk;rw[a2]at hk;obtain⟨W,e,r⟩:=my hk;have:W=.cell∨W=.free:=by
     rcases r with rfl|⟨rfl,_⟩
     ·exact a1
     ·exact .inr Z
    rcases this with rfl|rfl
    ·obtain⟨c,hm⟩:=qX (n:=(s.heap.push {cls:=.type "dict",data:=.dict #[]}).objs.size) (acc:=bZ X.env.cells j.names []) (PySem.mem_of_lookup e);obtain⟨c',D⟩:=mem_lookup hm;exact⟨c',by rw[B];exact D⟩
    ·obtain⟨c,h1,_⟩:=look e;exact⟨c,h1⟩
   rcases M with M|M
   ·exact G _ M (.inl Z)
   ·exact G _ M (.inr Z)
  ·have z:(j.names.lookup y==some NameKind.cell)=true:=z;have z:j.names.lookup y=some .cell:=by simpa using z
   have e:cenv.cells.lookup y=some c:=e;rw[B]at e;rcases j1 (PySem.mem_of_lookup e)with hm|⟨_,h2,_⟩
   ·rcases js hm with hm|⟨h1,_⟩
    ·cases hm
    ·have q:=ok.uniq _ h1;rw[z]at q;cases q
   ·rw[Heap.size_push]at h2;exact Nat.le_of_succ_le h2
  ·show b≠cenv.locals;rw[hL];exact Nat.ne_of_lt (F b U).2
  ·have e:cenv.cells.lookup y=some c:=e;rcases mem e with⟨h1,_⟩|⟨h1,_⟩
   ·exact(F b U).1.2.2.2.2.1 y c h1 z
   ·have h2:s.heap.objs.size+1≤b:=by rw[← z];exact h1
    exact absurd (Nat.lt_of_lt_of_le (F b U).2 (Nat.le_of_succ_le h2)) (Nat.lt_irrefl _)
  ·rcases(F b U).1.2.2.2.1 with z|z
   ·exact I.ok.J8 b o e z
   ·exact absurd (Nat.lt_of_lt_of_le (Heap.lt_size e) (Nat.le_trans I.ok.KP z)) (Nat.lt_irrefl _)
  ·rcases mem_cons.mp (I.F4 b z)with z|z
   ·exact(F b U).1.2.1 z
   ·exact(F b U).1.2.2.1 z
 refine⟨c0,Z,I.bare,Un.kept kp,⟨fun _=>none,?_,fun i y av O S J=>?_⟩,fun y c e=>?_,?_,fun y c e=>?_,fun p hp=>?_,I.bj.kept kp,by rw[m7];exact I.len⟩
 ·show Heap.Ns _ cenv.locals _;rw[hL];exact Heap.Ns.keeps (Heap.Ns.new ..) fun b o e=>pushCells_keeps _ _ _ _ e
 ·obtain⟨S,b3⟩:=sI S;have L:j.names.lookup y=some .free∧(cenv.kindOf y=some .cell∨cenv.kindOf y=some .free):=by
   have G:∀k,cenv.scope.names.lookup y=some k→k=.local∨k=.cell∨k=.free→j.names.lookup y=some .free∧(cenv.kindOf y=some .cell∨cenv.kindOf y=some .free):=fun k hk a1=>by
    have b1:=hk;rw[a2]at hk;obtain⟨W,e,r⟩:=my hk;have no:¬(W=.local∨W=.cell):=fun hh=>by
     rcases ok.own _ (PySem.mem_of_lookup e) hh with D|D
     ·obtain⟨p,hp,b9⟩:=mem_map.mp D;have J:=ok.ix p hp;have:p.1=y:=b9;rw[this]at J;exact b3 (mem_map.mpr ⟨p,hp,wM hN J O⟩)
     ·exact D (mem_of_getElem? O)
    rcases r with rfl|⟨rfl,rfl⟩
    ·rcases a1 with rfl|rfl|rfl
     ·exact absurd (.inl Z) no
     ·exact absurd (.inr Z) no
     ·exact⟨e,.inr b1⟩
    ·exact⟨e,.inl b1⟩
   have J:Oe cenv.scope y:=J;rcases J with J|J|J
   ·exact G _ J (.inl Z)
   ·exact G _ J (.inr (.inl Z))
   ·exact G _ J (.inr (.inr Z))
  obtain⟨m,hn,hl⟩:=I.loc;have b2:Oe X.env.scope y:=(ok.free _ (PySem.mem_of_lookup L.1) Z).elim (fun k=>.inr (.inl k)) (fun k=>.inr (.inr k));obtain⟨w,r,q⟩:=hl i y av O S b2;refine⟨w,r,.inr ⟨L.2,?_⟩⟩;obtain⟨c,h1,h2⟩:=look L.1;rcases q with⟨k,_⟩|⟨_,c',D,z⟩
  ·have k:X.env.scope.names.lookup y=some .local:=k;rcases ok.free _ (PySem.mem_of_lookup L.1) rfl with W|W<;>rw[show X.env.scope.names.lookup y=_ from W]at k<;>cases k
  ·rw[h2]at D;cases D;exact⟨c,h1,z.keeps kp⟩
 ·have e:cenv.cells.lookup y=some c:=e;rcases mem e with⟨h1,_⟩|⟨_,z⟩
  ·obtain⟨w,z⟩:=I.cell y c h1;exact⟨w,z.keeps kp⟩
  ·exact⟨_,z⟩
 ·show H cenv.locals=none;rw[hL];exact I.bj.fresh (Nat.le_refl _)
 ·have e:cenv.cells.lookup y=some c:=e;rcases mem e with⟨h1,_⟩|⟨h1,_⟩
  ·exact I.j6 y c h1
  ·exact I.bj.fresh (Nat.le_of_succ_le h1)
 ·exact absurd (show p∈([]:List (Addr×Obj))++[]from hp) (by simp)
theorem M9{xs:List V}{Q:Value→Shared→Prop}(I:Inv X pins σ H s)(hD:H D=some (.lst xs))(G:xs.length<sizeLine)(r:RelV y v)
 (h:∀s',Inv X pins σ (upd H D (.lst (xs++[y]))) s'→Q .none s'):wpAny (model X.prog X.w) X.A (call (.builtin "list.append") [.ref D,v]) Q E s:=by
 obtain⟨J,z,n,B,e⟩:=I.bj D _ hD;have M:=B.length;refine append_at (hsz:=by rw[size_toArray];omega) e fun h' L j=>?_;refine h {s with heap:=h'} (I.write (t':=s.toks) (by rw[hD];trivial) (.inl Z) (fun b u F q=>(L.2 b F).trans q) ⟨_,j⟩ ⟨by rw[length_append];exact G,z++[v],n+1,B.append (.cons r .nil),?_⟩);rw[j];simp
def OQ(X:Cx)(j:List Expr)(t:TT):Prop:=
 ∀(pins:List (Addr×Obj)) (s:Shared) (σ:St) (H:Hp) (Q:Bool→Hp→Prop),Inv X pins σ H s→t σ H Q→
  wpAny (model X.prog X.w) X.A (forIn j true fun c r=>if r=true then do let ok ← isTrue c X.env (eval c X.env);pure (ForInStep.yield ok)else pure (ForInStep.yield r)) (TP X pins σ Q) X.xe s
def N_:TT:=fun _ H Q=>Q true H
theorem eM:OQ X [] N_:=fun _ _ _ H _ I h=>wpAny_tests_nil ⟨H,I,h⟩
theorem Ca(h:PT X c t):OQ X [c] t:=fun pins s σ H Q I j=>wpAny_tests_one (h pins s σ H Q I j)
end
theorem IM{n:Type}{t:Sem n}{Q j:n→Shared→Prop}{M:Model}{A:Around}{E:Value→Shared→Prop}{s:Shared}(h:wpAny M A t Q (fun _ _=>False) s)(q:∀a s,Q a s→j a s):wpAny M A t j E s:=wpAny_mono h q fun _ _ z=>False.elim z
theorem Ba{R:Result→Shared→Prop}{B j z:Expr}{q:Scope}(I:Nat→Shared→Prop)
 (D:∀n s,I n s→wpAny (model prog w) A (pyNext it) (fun r s₁=>match r with
   |none=>R (.ok .next) s₁
   |some v=>wpAny (model prog w) A (letOwnedTupleGo j it v) (fun _ s₁'=>wpAny (model prog w) A (assign j env v) (fun _ s₂=>
     wpAny (model prog w) A (forIn ifs true fun c r=>if r=true then do let ok ← isTrue c env (eval c env);pure (ForInStep.yield ok)else pure (ForInStep.yield r)) (fun ok s₃=>
      if ok=true then wpAny (model prog w) A (eval B env) (fun x s₄=>
       wpAny (model prog w) A (call (.builtin "list.append") [acc,x]) (fun _ s₅=>∃m,m<n∧I m s₅) (notedBy (model prog w) A env fun e s'=>R (.error e) s') s₄) (notedBy (model prog w) A env fun e s'=>R (.error e) s') s₃
      else∃m,m<n∧I m s₃) (notedBy (model prog w) A env fun e s'=>R (.error e) s') s₂) (notedBy (model prog w) A env fun e s'=>R (.error e) s') s₁') (notedBy (model prog w) A env fun e s'=>R (.error e) s') s₁) (notedBy (model prog w) A env fun e s'=>R (.error e) s') s)
 (n:Nat)(h:I n s):
  codeAny (model prog w) A (.compLoop (.ListComp B [⟨j,z,ifs,0⟩] q pos) 0 it acc env) R s:=by
 refine codeAny_loop Z I (fun n s F=>?_) n h;show wpAny _ A ((compTurn (.ListComp B [⟨j,z,ifs,0⟩] q pos) 0 it acc env).onRaise (fun x=>do noteFrame x env;theTreesLotGoes x)) _ _ s;refine wpAny_noted ?_;rw[compTurn_list];refine wpAny_bind (wpAny_standAt (wpAny_bind (wpAny_mono (D n s F) (fun r s₁ h₁=>?_) fun _ _ h'=>h')));cases r with
 |none=>exact wpAny_pure h₁
 |some v=>
  refine wpAny_bind (wpAny_mono h₁ (fun _ s₁' h₁'=>?_) fun _ _ h'=>h');refine wpAny_bind (wpAny_mono h₁' (fun _ s₂ h₂=>wpAny_bind (wpAny_mono h₂ (fun ok s₃ h₃=>?_) fun _ _ h'=>h')) fun _ _ h'=>h');cases ok with
  |false=>exact wpAny_pure ⟨Z,h₃⟩
  |true=>
   exact wpAny_bind (wpAny_bind (wpAny_mono h₃ (fun x s₄ h₄=>wpAny_bind (wpAny_mono h₄ (fun _ s₅ h₅=>wpAny_pure (wpAny_pure ⟨Z,h₅⟩)) fun _ _ h'=>h')) fun _ _ h'=>h'))
section
variable {X:Cx}
def Qk(G:TI)(g:TG)(tt:TT)(te:TE)(vs:List Nat):TE:=fun σ H Q=>G σ H fun J H1=>∀D,H1 D=none→∃W:Nat→Nat→Hp→Prop,(∃m,W 0 m (upd H1 D (.lst [])))∧∀i m H,W i m H→
 (J.stop i H∧Q (.ref D) H)∨(J.go i H∧∃q:Hp→Prop,(∀H',q H'→∃F,F<m∧W (i+1) F H')∧∀x H',J.CB i H x H'→g x (wipe σ vs) H' fun n H2=>wipe n vs=wipe σ vs∧tt n H2 fun b z=>
  if b=true then te n z fun y B=>∃j,B D=some (.lst j)∧j.length<sizeLine∧q (upd B D (.lst (j++[y])))else q z)
theorem GI{pins:List (Addr×Obj)}{s:Shared}{σ:St}{H:Hp}{Q:VK}{S tg L:Expr}{U:List Expr}{B:Scope}{own:List (Str×Nat)}{pos pos':Pos}{wi:TI}{g:TG}{tt:TT}{te:TE}{use:Option (Value→Sem Unit)}{Qf:Value→Shared→Prop}
 (hc:X.calm=true)(hN:X.N.Nodup)(I:Inv X pins σ H s)(hi:PI X tg L wi)(ok:CC X.N X.env.scope B own)
 (hg:∀(s:Shared) (H:Hp) (C:Addr) (cl:List (Str×Addr)) (F:List Addr),PG (X.AU s H B (compEnvC B cl C X.env) F) tg g)(ht:∀(s:Shared) (H:Hp) (C:Addr) (cl:List (Str×Addr)) (F:List Addr),OQ (X.AU s H B (compEnvC B cl C X.env) F) U tt)
 (he:∀(s:Shared) (H:Hp) (C:Addr) (cl:List (Str×Addr)) (F:List Addr),PE (X.AU s H B (compEnvC B cl C X.env) F) S te)(hs:∀x,foldedSetIterable L X.env x=pure x)
 (h:Qk wi g tt te (own.map (·.2)) σ H Q)
 (e0:∀D C s' m H',Inv X pins σ H' s'→Q (.ref D) H'→s'.heap.Ns C m→ui X pins H' C→compPost (model X.prog X.w) X.A X.xe use Qf (.ref D) C (.ok .next) s'):
  wpAny (model X.prog X.w) X.A (comprehension (.ListComp S [⟨tg,L,U,0⟩] B pos) B X.env pos' (newList []) false (eval L X.env) use) Qf X.xe s:=by
 have b1:∀y∈B.names,y.2=.free→∃c,X.env.cells.lookup y.1=some c:=fun y hy e=>by
  rcases ok.free y hy e with k|k
  ·exact I.ok.has _ (.inl k)
  ·exact I.ok.has _ (.inr k)
 refine wpAny_comprehension_free (use:=use) Z hs (Fc b1) ok.kind (fun y hy e=>by rw[ok.uniq y hy,e])
  (bO (hi pins s σ H _ I h) fun _ _ hx=>bO hx fun _ s2 h2=>?_)
 obtain⟨it,F,tn,J,H2,e,I2,T,c3,f2,q⟩:=h2;subst e;refine wpAny_newObj_type (DP ?_) (by show 0≤sizeLine;decide);generalize hD:s2.heap.objs.size=D;have d3:H2 D=none:=I2.bj.fresh (Nat.le_of_eq hD);obtain⟨W,⟨m0,w0⟩,turn⟩:=q D d3;generalize b9:({s2 with heap:=s2.heap.push {cls:=.type "list",data:=.seq ([]:List Value).toArray}}:Shared)=s3;have I3:Inv X pins σ (upd H2 D (.lst [])) s3:=by rw[← b9];refine I2.laid (t':=s2.toks) (fun b o e=>Heap.get?_push_of_some _ e) (Nat.le_of_eq hD) ⟨Nat.zero_le _,[],0,.nil,?_⟩;rw[← hD];exact Heap.get?_push_size _ Z
 have h3:s3.heap=s2.heap.push {cls:=.type "list",data:=.seq ([]:List Value).toArray}:=by rw[← b9]
 have sz:∀b∈F,b<s2.heap.objs.size:=fun b G=>by obtain⟨o,e,_⟩:=T.obj _ _ c3 b G;exact Heap.lt_size e
 have f3:∀b∈F,ui X pins (upd H2 D (.lst [])) b∧b<s3.heap.objs.size:=fun b G=>by have bL:=sz b G;refine⟨⟨?_,(f2 b G).2⟩,by rw[h3,Heap.size_push];exact Nat.lt_succ_of_lt bL⟩;rw[aw (by rw[← hD];exact Nat.ne_of_lt bL)];exact(f2 b G).1
 have e4:tn 0 s3.heap:=T.keep _ _ _ c3 fun b _ o e=>by rw[h3];exact Heap.get?_push_of_some _ e
 have I4:=CN I3 ok hN f3;have pg:=hg s3 (upd H2 D (.lst [])) s3.heap.objs.size (cellsFrom (s3.heap.objs.size+1) B.names (bZ X.env.cells B.names [])) F;have pt:=ht s3 (upd H2 D (.lst [])) s3.heap.objs.size (cellsFrom (s3.heap.objs.size+1) B.names (bZ X.env.cells B.names [])) F;have pe:=he s3 (upd H2 D (.lst [])) s3.heap.objs.size (cellsFrom (s3.heap.objs.size+1) B.names (bZ X.env.cells B.names [])) F;show codeAny _ _ (.compStart (.ListComp S [⟨tg,L,U,0⟩] B pos) 0 (.ref it) (.ref D) (compEnvC B (cellsFrom (s3.heap.objs.size+1) B.names (bZ X.env.cells B.names [])) s3.heap.objs.size X.env)) (compPost (model X.prog X.w) X.A X.xe use Qf (.ref D) s3.heap.objs.size) {s3 with heap:=pushCells (s3.heap.push {cls:=.type "dict",data:=.dict #[]}) B.names};have c2:∀b∈F,(upd H2 D (.lst [])) b=none:=fun b G=>(f3 b G).1.1;generalize e1:compEnvC B (cellsFrom (s3.heap.objs.size+1) B.names (bZ X.env.cells B.names [])) s3.heap.objs.size X.env=ce at I4 pg pt pe ⊢;have cL:ce.locals=s3.heap.objs.size:=by subst e1;rfl
 generalize e6:upd H2 D (.lst [])=O at I3 I4 pg pt pe w0 c2 f3;generalize e2:({s3 with heap:=pushCells (s3.heap.push {cls:=.type "dict",data:=.dict #[]}) B.names}:Shared)=s4 at I4 ⊢;have c4:tn 0 s4.heap:=T.keep _ _ _ e4 fun b _ o e=>by rw[← e2];exact pushCells_keeps _ _ _ _ (Heap.get?_push_of_some _ e)
 have M:∀{σ':St} {H':Hp} {s':Shared},Inv (X.AU s3 O B ce F) [] σ' H' s'→(∀b∈F,H' b=none)→∀b∈F,ui (X.AU s3 O B ce F) [] H' b:=fun{σ' H' s'} I' hn b G=>
  ⟨hn b G,(I'.ok.Qx b G).1,I'.ok.JC b G,.inl G,fun x c e=>(I'.ok.Qx b G).2 x c e,fun p hp=>absurd (show p∈([]:List (Addr×Obj))++[]from hp) (by simp)⟩
 have a1:codeAny (model X.prog X.w) X.A (.compLoop (.ListComp S [⟨tg,L,U,0⟩] B pos) 0 (.ref it) (.ref D) ce) (compPost (model X.prog X.w) X.A X.xe use Qf (.ref D) s3.heap.objs.size) s4:=by
  refine Ba (fun n s'=>∃i H',Inv (X.AU s3 O B ce F) [] (wipe σ (own.map (·.2))) H' s'∧tn i s'.heap∧(∀b∈F,H' b=none)∧W i n H') ?_ m0 ⟨0,O,I4,c4,c2,w0⟩;rintro n s5 ⟨i,H5,I5,c9,n5,w5⟩;rcases turn i n H5 w5 with⟨stop,qq⟩|⟨go,Nx,d5,step⟩
  ·have td:=T.done (X.AU s3 O B ce F) Z Z Z hc i [] s5 _ H5 (fun _ _=>False) I5 (M I5 n5) c9 stop;refine IM td fun r s6 ⟨hr,I6⟩=>?_;subst hr;have I7:Inv X pins σ H5 s6:=I3.Ph (ch:=F) I6.os I6.base I6.bj I6.bare fun b G=>⟨(f3 b G).1.2.2.2.1,(f3 b G).1.2.1,(f3 b G).1.2.2.2.2.1,(f3 b G).1.2.2.2.2.2⟩;have nC:H5 s3.heap.objs.size=none:=by have z:H5 ce.locals=none:=I6.free;rw[cL]at z;exact z
   obtain⟨m,hn,_⟩:=I6.loc;have hn:s6.heap.Ns ce.locals m:=hn;rw[cL]at hn;exact e0 D s3.heap.objs.size s6 m H5 I7 qq hn (I3.Ds (Nat.le_refl _) nC)
  ·have ti:=T.item (X.AU s3 O B ce F) Z Z Z hc i [] s5 _ H5 (fun _ _=>False) I5 (M I5 n5) c9 go;refine IM ti fun r s6 ⟨u,hr,h6⟩=>?_;subst hr;refine IM h6 fun _ s7 ⟨x,H7,I7,r7,y7,b2,n7⟩=>?_;have d2:=I7.pinned (M I7 n7) (T.obj _ _ b2);refine IM (pg _ s7 _ H7 x u _ d2 r7 (step x H7 y7)) fun _ s8 ⟨Y,H8,I8,c0,q8⟩=>?_;refine IM (pt _ s8 Y H8 _ I8 q8) fun b s9 ⟨H9,I9,q9⟩=>?_;have fin:∀{s':Shared} {H':Hp},Inv (X.AU s3 O B ce F) ([]++xx F s7.heap) Y H' s'→Nx H'→∃m,m<n∧∃i H',Inv (X.AU s3 O B ce F) [] (wipe σ (own.map (·.2))) H' s'∧tn i s'.heap∧(∀b∈F,H' b=none)∧W i m H':=fun{s' H'} I' nx=>by
    obtain⟨m',hm,w'⟩:=d5 H' nx;have a2:∀b∈F,∀o,s7.heap.get? b=some o→s'.heap.get? b=some o∧H' b=none:=fun b G o e=>
     let z:=I'.pin (b,o) (mem_append_right _ (mem_append_right _ (oZ G e)))
     ⟨z.1,z.2.1⟩
    have hl:(wipe σ (own.map (·.2))).length=Y.length:=by rw[← c0,m7]
    refine⟨m',hm,i+1,H',(I'.qR (pins:=[])).weak hl (fun j v e=>?_),T.keep _ _ _ b2 fun b G o e=>(a2 b G o e).1,fun b G=>?_,w'⟩
    ·rw[← c0]at e;exact(sI e).1
    ·obtain⟨o,e,_⟩:=T.obj _ _ b2 b G;exact(a2 b G o e).2
   cases b with
   |false=>
    simp only[Bool.false_eq_true,if_false]at q9 ⊢;exact fin I9 q9
   |true=>
    simp only[if_true]at q9 ⊢;refine IM (pe _ s9 Y H9 _ I9 q9) fun z e7 ⟨yv,e5,d0,e3,acc,b3,c1,nx⟩=>?_;exact M9 (X:=X.AU s3 O B ce F) d0 b3 c1 e3 fun _ d1=>fin d1 nx
 exact codeAny_compStart_list a1 (T.self X.A 0 _ _ _ c4 a1)
theorem jB{n:List Expr}{own:List (Str×Nat)}(M:X.calm=true)(J:X.N.Nodup)(hi:PI X tg iter Y)(ok:CC X.N X.env.scope scope own)
 (O:∀(s:Shared) (H:Hp) (C:Addr) (cl:List (Str×Addr)) (j:List Addr),PG (X.AU s H scope (compEnvC scope cl C X.env) j) tg g)(U:∀(s:Shared) (H:Hp) (C:Addr) (cl:List (Str×Addr)) (j:List Addr),OQ (X.AU s H scope (compEnvC scope cl C X.env) j) n tt)
 (he:∀(s:Shared) (H:Hp) (C:Addr) (cl:List (Str×Addr)) (j:List Addr),PE (X.AU s H scope (compEnvC scope cl C X.env) j) elt te)(S:∀x,foldedSetIterable iter X.env x=pure x:=by intro _;rfl):
  PE X (.ListComp elt [⟨tg,iter,n,0⟩] scope pos) (Qk Y g tt te (own.map (·.2))):=by
 intro pins s σ H Q I h;rw[eval_ListComp];refine GI M J I hi ok O U he S h fun D C s' m H' z q hn f=>⟨m,hn,fun _ W=>?_⟩;obtain⟨B,f1,f2,F,f4,G⟩:=f;exact⟨.ref D,H',z.turned (t':=s'.toks) (fun b o L e=>(W.2 b L).trans e) B f1 F f4 G,Z,q⟩
theorem Ef{i:Nat}{y:Str}{O:Pos}{F tg n:Expr}{B:List Expr}{j:Scope}{own:List (Str×Nat)}{pos G:Pos}{Y:TI}{g:TG}{tt:TT}{te:TE}(hc:X.calm=true)(hN:X.N.Nodup)(hy:X.N[i]?=some y)(M:X.env.scope.names.lookup y=some .local)
 (U:swapsWith (.ListComp F [⟨tg,n,B,0⟩] j pos) (some (.Name y O)) G.line X.env=pure true)(hi:PI X tg n Y)(ok:CC X.N X.env.scope j own)
 (hg:∀(s:Shared) (H:Hp) (C:Addr) (cl:List (Str×Addr)) (J:List Addr),PG (X.AU s H j (compEnvC j cl C X.env) J) tg g)(ht:∀(s:Shared) (H:Hp) (C:Addr) (cl:List (Str×Addr)) (J:List Addr),OQ (X.AU s H j (compEnvC j cl C X.env) J) B tt)
 (he:∀(s:Shared) (H:Hp) (C:Addr) (cl:List (Str×Addr)) (J:List Addr),PE (X.AU s H j (compEnvC j cl C X.env) J) F te)(hs:∀x,foldedSetIterable n X.env x=pure x:=by intro _;rfl):
  PS X (.Assign [.Name y O] (.ListComp F [⟨tg,n,B,0⟩] j pos) G) (IJ (Qk Y g tt te (own.map (·.2))) (eR i)):=by
 intro pins s σ H D I h;rw[exec_Assign_Name_used _ _ _ _ U];refine wpAny_bind (wpAny_standAt (wpAny_bind ?_));show wpAny _ X.A (do let _ ← comprehension (.ListComp F [⟨tg,n,B,0⟩] j pos) j X.env (firstIterPos [⟨tg,n,B,0⟩] pos) (newList []) false (eval n X.env) (some (assign (.Name y O) X.env))) _ _ s;have h:Qk Y g tt te (own.map (·.2)) σ H (fun x H1=>eR i x σ H1 D.nx):=h;refine wpAny_bind (bO (GI (Qf:=fun _ s'=>SP X pins D .next s') hc hN I hi ok hg ht he hs h fun L C s' m H' I' q hn f=>?_) fun _ s' hq=>wpAny_pure (wpAny_pure hq));show wpAny _ _ (assign (.Name y O) X.env (.ref L)) _ _ _;refine wpAny_assign_Name (Av (v:=V.ref L) I' hN hy (.inl M) Z (fun s2 I2 ⟨a,sb,ha⟩=>?_) (.inr M));obtain⟨f0,f1,f2,f3,f4,f5⟩:=f;have S:C≠a:=by
  rcases ha with z|z
  ·rw[z];exact f1
  ·exact fun e=>f4 y a z e.symm
 refine⟨m,hn.sameBut sb S,fun _ W=>?_⟩;exact⟨_,H',I2.turned (t':=s2.toks) (fun b o hb e=>(W.2 b hb).trans e) f0 f1 f3 f4 f5,q⟩
theorem G_{j:Scope}{pos q:Pos}{l:Nat}{env:Env}(B:env.scope.kind=.function)(F:env.scope.names.lookup y=some .local)(D:(q.line==pos.line)=true)
 (ha:(j.names.any fun(n,k)=>n==y&&(k==.local||k==.cell))=false):swapsWith (.ListComp elt I j pos) (some (.Name y q)) l env=pure true:=by
 have G:env.kindOf y=some .local:=F;have z:env.blockKind=.function:=by unfold Env.blockKind;rw[B];rfl
 unfold swapsWith;simp only[z,G,ha,Expr.pos,D];rfl
end
theorem J0{lo:Int}{n:Nat}{g:TG}{tt:TT}{te:TE}{vs:List Nat}{σ:St}{H1:Hp}{D:Addr}{F:Hp→Prop}(Pv:Nat→Hp→Prop)(I:Pv 0 (upd H1 D (.lst [])))
 (J:∀i H,i<n→Pv i H→g (.int (lo+i)) (wipe σ vs) H fun j H2=>wipe j vs=wipe σ vs∧tt j H2 fun b q=>
   if b=true then te j q fun y z=>∃acc,z D=some (.lst acc)∧acc.length<sizeLine∧Pv (i+1) (upd z D (.lst (acc++[y])))else Pv (i+1) q)(hd:∀H,Pv n H→F H):
  ∃W:Nat→Nat→Hp→Prop,(∃m,W 0 m (upd H1 D (.lst [])))∧∀i m H,W i m H→
   ((KY lo n).stop i H∧F H)∨((KY lo n).go i H∧∃B:Hp→Prop,(∀H',B H'→∃G,G<m∧W (i+1) G H')∧∀x H',(KY lo n).CB i H x H'→g x (wipe σ vs) H' fun j H2=>wipe j vs=wipe σ vs∧tt j H2 fun b q=>
    if b=true then te j q fun y z=>∃acc,z D=some (.lst acc)∧acc.length<sizeLine∧B (upd z D (.lst (acc++[y])))else B q):=by
 refine⟨fun i m H=>m=n-i∧i≤n∧Pv i H,⟨n,by simp,Nat.zero_le _,I⟩,?_⟩;rintro i m H ⟨rfl,hi,p⟩;by_cases bL:i<n
 ·refine .inr ⟨bL,Pv (i+1),fun H' L=>⟨n-(i+1),by omega,Z,bL,L⟩,fun x H' y=>?_⟩;obtain⟨e,y⟩:=y;subst e y;exact J i _ bL p
 ·have e:i=n:=by omega
  subst e;exact .inl ⟨Nat.le_refl _,hd H p⟩
theorem gg{K:Frag}{a:Addr}{xs:List V}{g:TG}{tt:TT}{te:TE}{vs:List Nat}{σ:St}{H1:Hp}{D:Addr}{F:Hp→Prop}(Pv:Nat→Hp→Prop)(I:Pv 0 (upd H1 D (.lst [])))(J:∀i H,i≤xs.length→Pv i H→aT K H a xs)
 (L:∀i x H,xs[i]?=some x→Pv i H→g x (wipe σ vs) H fun j H2=>wipe j vs=wipe σ vs∧tt j H2 fun b n=>
   if b=true then te j n fun y z=>∃acc,z D=some (.lst acc)∧acc.length<sizeLine∧Pv (i+1) (upd z D (.lst (acc++[y])))else Pv (i+1) n)(hd:∀H,Pv xs.length H→F H):
  ∃W:Nat→Nat→Hp→Prop,(∃m,W 0 m (upd H1 D (.lst [])))∧∀i m H,W i m H→
   ((MD K a).stop i H∧F H)∨((MD K a).go i H∧∃B:Hp→Prop,(∀H',B H'→∃G,G<m∧W (i+1) G H')∧∀x H',(MD K a).CB i H x H'→g x (wipe σ vs) H' fun j H2=>wipe j vs=wipe σ vs∧tt j H2 fun b n=>
    if b=true then te j n fun y z=>∃acc,z D=some (.lst acc)∧acc.length<sizeLine∧B (upd z D (.lst (acc++[y])))else B n):=by
 refine⟨fun i m H=>m=xs.length-i∧i≤xs.length∧Pv i H,⟨xs.length,by simp,Nat.zero_le _,I⟩,?_⟩;rintro i m H ⟨rfl,hi,p⟩;have q:=J i H hi p;by_cases bL:i<xs.length
 ·refine .inr ⟨⟨xs,xs[i],q,by simp[bL]⟩,Pv (i+1),fun H' M=>⟨xs.length-(i+1),by omega,Z,bL,M⟩,fun x H' y=>?_⟩;obtain⟨e,y⟩:=y;subst e;exact L i x _ (y xs q) p
 ·have e:i=xs.length:=by omega
  subst e;exact .inl ⟨⟨xs,q,Nat.le_refl _⟩,hd H p⟩
noncomputable def lZ(N:List Str)(n j:Scope)(own:List (Str×Nat)):Bool:=
 (match j.kind with|.function=>true|_=>false)&&(j.names.all fun y=>decide (j.names.lookup y.1=some y.2))&&(own.all fun p=>decide (N[p.2]?=some p.1))&&
  (j.names.all fun y=>match y.2 with
   |.free=>(match n.names.lookup y.1 with|some .cell=>true|some .free=>true|_=>false)
   |.local=>decide (y.1∈own.map (·.1))||decide (y.1∉N)
   |.cell=>decide (y.1∈own.map (·.1))||decide (y.1∉N)
   |_=>true)
theorem b_(h:lZ N sc scope own=true):CC N sc scope own:=by
 unfold lZ at h;simp only[Bool.and_eq_true,all_eq_true,decide_eq_true_eq]at h;obtain⟨⟨⟨h1,h2⟩,z⟩,n⟩:=h;refine⟨?_,h2,z,fun y j e=>?_,fun y j e=>?_⟩
 ·split at h1
  ·assumption
  ·cases h1
 ·have q:=n y j;simp only[e]at q;split at q<;>first|exact .inl (by assumption)|exact .inr (by assumption)|cases q
 ·have q:=n y j;rcases e with e|e<;>(simp only[e,Bool.or_eq_true,decide_eq_true_eq]at q;exact q)
end L2
namespace L2
open PySem PySem.Spec PyProof.Rows
end L2
namespace L2
open PySem PySem.Spec PyProof.Rows
section
variable {κ:Type} [DecidableEq κ]
def bH(kvs:List (κ×V))(k:κ):Option V:=(kvs.find? fun j=>decide (j.1=k)).map (·.2)
noncomputable def putK(kvs:List (κ×V))(k:κ)(v:V):List (κ×V):=
 if(kvs.any fun j=>decide (j.1=k))=true then kvs.map (fun j=>if j.1=k then(j.1,v)else j)else kvs++[(k,v)]
theorem dh{p:κ×V}{r:List (κ×V)}(e:p.1=k):bH (p::r) k=some p.2:=by simp[bH,find?_cons,e]
theorem df{p:κ×V}(e:¬p.1=k):bH (p::r) k=bH r k:=by simp[bH,find?_cons,e]
theorem gw(k:κ):∀kvs:List (κ×V),(kvs.any fun j=>decide (j.1=k))=(bH kvs k).isSome
 |[]=>rfl
 |p::r=>by
  rw[any_cons];by_cases e:p.1=k
  ·simp only[dh e,decide_eq_true e,Bool.true_or,Option.isSome_some]
  ·rw[df e,decide_eq_false e,Bool.false_or];exact gw k r
theorem ER(k j:κ)(y:V):∀kvs:List (κ×V),bH (kvs.map fun n=>if n.1=k then(n.1,y)else n) j=(bH kvs j).map fun x=>if j=k then y else x
 |[]=>rfl
 |p::r=>by
  have q:=ER k j y r;rw[map_cons];by_cases h:p.1=k
  ·rw[if_pos h];by_cases e:p.1=j
   ·rw[dh (p:=(p.1,y)) e,dh e,Option.map_some,if_pos (e.symm.trans h)]
   ·rw[df (p:=(p.1,y)) e,df e,q]
  ·rw[if_neg h];by_cases e:p.1=j
   ·rw[dh (p:=p) e,dh e,Option.map_some,if_neg (fun z=>h (e.trans z))]
   ·rw[df (p:=p) e,df e,q]
theorem sH(k j:κ)(y:V):∀kvs:List (κ×V),bH kvs k=none→bH (kvs++[(k,y)]) j=if j=k then some y else bH kvs j
 |[],_=>by
  by_cases e:k=j
  ·rw[if_pos e.symm];exact dh (p:=(k,y)) e
  ·rw[if_neg (fun z=>e z.symm)];exact df (p:=(k,y)) e
 |p::r,hn=>by
  rw[List.cons_append];have n:¬p.1=k:=fun z=>by rw[dh z]at hn;cases hn
  rw[df n]at hn;have q:=sH k j y r hn;by_cases e:p.1=j
  ·rw[dh e,dh e,if_neg (fun z=>n (e.trans z))]
  ·rw[df e,df e,q]
theorem m5(kvs:List (κ×V))(k j:κ)(y:V):bH (putK kvs k y) j=if j=k then some y else bH kvs j:=by
 unfold putK;by_cases a:(kvs.any fun z=>decide (z.1=k))=true
 ·rw[if_pos a,ER];rw[gw]at a;by_cases e:j=k
  ·obtain⟨x,n⟩:=Option.isSome_iff_exists.mp a;rw[if_pos e,e,n,Option.map_some,if_pos Z]
  ·rw[if_neg e];cases bH kvs j with
   |none=>rfl
   |some x=>rw[Option.map_some,if_neg e]
 ·rw[if_neg a];refine sH k j y kvs ?_;rw[gw]at a;cases q:bH kvs k with
  |none=>rfl
  |some x=>rw[q]at a;exact(a Z).elim
theorem fF(kvs:List (κ×V))(k:κ)(v:V):(putK kvs k v).length≤kvs.length+1:=by
 unfold putK;split
 ·rw[length_map];omega
 ·rw[length_append,length_cons,length_nil];omega
theorem xB{kvs:List (κ×V)}{k:κ}(v:V)(h:bH kvs k=none):putK kvs k v=kvs++[(k,v)]:=by unfold putK;rw[gw,h];exact if_neg (by decide)
theorem kE.iE{o:Option V}{u:Option Value}(r:kE o u):o.isSome=u.isSome:=by
 cases o with
 |none=>cases u with
  |none=>rfl
  |some _=>exact(show False from r).elim
 |some _=>cases u with
  |none=>exact(show False from r).elim
  |some _=>rfl
theorem kE.getD{o:Option V}{u:Option Value}(r:kE o u)(rd:RelV d d'):RelV (o.getD d) (u.getD d'):=by
 cases o with
 |none=>cases u with
  |none=>exact rd
  |some _=>exact(show False from r).elim
 |some _=>cases u with
  |none=>exact(show False from r).elim
  |some _=>exact r
theorem KV.val(r:KV kvs vs)(k:κ):kE (bH kvs k) (valueAt vs k):=by
 unfold KV at r
 induction r with
 |nil=>exact True.intro
 |@cons p q ps n h t B=>
  obtain⟨h1,h2⟩:=h;by_cases e:p.1=k
  ·have j:q.1=k:=h1.symm.trans e;have b:valueAt (q::n) k=some q.2:=by simp[valueAt,find?_cons,j]
   rw[dh e,b];exact h2
  ·have j:¬q.1=k:=fun z=>e (h1.trans z);have b:valueAt (q::n) k=valueAt n k:=by simp[valueAt,find?_cons,j]
   rw[df e,b];exact B
theorem KV.any{kvs:List (κ×V)}{vs:List (κ×Value)}(r:KV kvs vs)(k:κ):(kvs.any fun j=>decide (j.1=k))=vs.any fun j=>decide (j.1=k):=by
 unfold KV at r
 induction r with
 |nil=>rfl
 |cons h t n=>rw[any_cons,any_cons,n,h.1]
theorem KV.N2{kvs:List (κ×V)}{vs:List (κ×Value)}(r:KV kvs vs)(k:κ)(B:RelV y u):
  KV (kvs.map fun j=>if j.1=k then(j.1,y)else j) (vs.map fun j=>if j.1=k then(j.1,u)else j):=by
 unfold KV at r ⊢
 induction r with
 |nil=>exact .nil
 |@cons p q ps D h t n=>
  rw[map_cons,map_cons];refine .cons ?_ n;obtain⟨h1,h2⟩:=h;by_cases e:p.1=k
  ·rw[if_pos e,if_pos (h1.symm.trans e)];exact⟨h1,B⟩
  ·rw[if_neg e,if_neg (fun z=>e (h1.trans z))];exact⟨h1,h2⟩
theorem KV.put(r:KV kvs vs)(k:κ)(j:RelV y u):KV (putK kvs k y) (stored vs k u):=by
 unfold putK stored;rw[r.any k];by_cases e:(vs.any fun n=>decide (n.1=k))=true
 ·rw[if_pos e,if_pos e];exact r.N2 k j
 ·rw[if_neg e,if_neg e];exact Paired.snoc r ⟨Z,j⟩
theorem KV.keys{kvs:List (κ×V)}{vs:List (κ×Value)}(r:KV kvs vs):kvs.map (·.1)=vs.map (·.1):=by
 unfold KV at r
 induction r with
 |nil=>rfl
 |cons h t j=>rw[map_cons,map_cons,j,h.1]
theorem KV.length{kvs:List (κ×V)}{vs:List (κ×Value)}(r:KV kvs vs):kvs.length=vs.length:=Paired.length r
end
theorem nV(r:RelV (kV k) u):(bp P w).is k u=true:=by
 cases k with
 |inl i=>obtain⟨t,e⟩:=(show∃t,u=Value.int i t from r);subst e;exact DJ P w i t
 |inr x=>obtain⟨t,e⟩:=(show∃t,u=Value.str x t from r);subst e;exact DK P w x t
theorem z4{P:Program}{w:World}:∀{ks:List Key} {us:List Value},Vals (ks.map kV) us→ItemsAre (bp P w) ks us
 |[],_,r=>by rw[map_nil]at r;cases r;exact .nil
 |k::ks,_,r=>by
  rw[map_cons]at r;cases r with
  |cons h t=>exact .cons (nV h) (z4 t)
abbrev KT(H:Hp):List (List Key×V)→List (List Key×Addr×Value)→Prop:=Paired fun p q=>p.1=q.1∧H q.2.1=some (.tup (p.1.map kV))∧RelV p.2 q.2.2
theorem KT.val(r:KT H kvs xs)(k:List Key):kE (bH kvs k) ((atKey xs k).map (·.2)):=by
 induction r with
 |nil=>exact True.intro
 |@cons p q ps n h t B=>
  obtain⟨h1,_,h2⟩:=h;by_cases e:p.1=k
  ·have j:q.1=k:=h1.symm.trans e;have b:atKey (q::n) k=some q.2:=by simp[atKey,find?_cons,j]
   rw[dh e,b];exact h2
  ·have j:¬q.1=k:=fun z=>e (h1.trans z);have b:atKey (q::n) k=atKey n k:=by simp[atKey,find?_cons,j]
   rw[df e,b];exact B
theorem KT.N2{kvs:List (List Key×V)}{xs:List (List Key×Addr×Value)}(r:KT H kvs xs)(k:List Key)(D:RelV y u):
  KT H (kvs.map fun j=>if j.1=k then(j.1,y)else j) (xs.map (putAt k u)):=by
 induction r with
 |nil=>exact .nil
 |@cons p q ps F h t B=>
  rw[map_cons,map_cons];refine .cons ?_ B;obtain⟨h1,h2,n⟩:=h;unfold putAt;by_cases e:p.1=k
  ·rw[if_pos e,if_pos (h1.symm.trans e)];exact⟨h1,h2,D⟩
  ·rw[if_neg e,if_neg (fun z=>e (h1.trans z))];exact⟨h1,h2,n⟩
theorem KT.put(r:KT H kvs xs)(k:List Key)(n:H b=some (.tup (k.map kV)))(j:RelV y u):
  KT H (putK kvs k y) (storedH xs k b u):=by
 have e:(kvs.any fun z=>decide (z.1=k))=(atKey xs k).isSome:=by rw[gw,(r.val k).iE,Option.isSome_map]
 unfold putK storedH;rw[e];by_cases q:(atKey xs k).isSome=true
 ·rw[if_pos q,if_pos q];exact r.N2 k j
 ·rw[if_neg q,if_neg q];exact Paired.snoc r ⟨Z,n,j⟩
theorem KT.keeps(r:KT H kvs xs)(j:∀b ys,H b=some (.tup ys)→H' b=some (.tup ys)):KT H' kvs xs:=
 Paired.NM r fun _ _ z=>⟨z.1,j _ _ z.2.1,z.2.2⟩
section
variable {P:Program} {w:World} {H:Hp} {h:Heap} {a:Addr}
theorem MX(ok:l8 P w H h)(e:Rd H a u):b8 P w H h a u:=e.ok ok
theorem sS{kvs:List (Key×V)}(ok:l8 P w H h)(e:Rd H a (.dK kvs)):kvs.length≤sizeLine∧(a==sysModules)=false∧∃vs,KV kvs vs∧h.DictOf (bp P w) a vs:=
 show b8 P w H h a (.dK kvs)from MX ok e
theorem C_{kvs:List (Key×V)}(ok:l8 P w H h)(e:H a=some (.dK kvs)):kvs.length≤sizeLine∧(a==sysModules)=false∧∃vs,KV kvs vs∧h.DictOf (bp P w) a vs:=sS ok (.inl e)
theorem rF{ks:List Key}(ok:l8 P w H h)(e:H a=some (.tup (ks.map kV))):(tupleKind (bp P w)).is h ks a:=by obtain⟨_,j,r,o,h1,h2,n,q⟩:=(show b8 P w H h a (.tup (ks.map kV))from ok a _ e);exact⟨o,j.toArray,n,h1,h2,q,by simpa using z4 r⟩
theorem vF{kvs:List (List Key×V)}(ok:l8 P w H h)(e:Rd H a (.dT kvs)):kvs.length≤sizeLine∧(a==sysModules)=false∧
  ∃xs,KT H kvs xs∧h.DictOfH (tupleKind (bp P w)) a xs:=by
 obtain⟨z,y,xs,r,o,es,ep,h1,h2,B,D,F⟩:=(show b8 P w H h a (.dT kvs)from MX ok e);refine⟨z,y,xs,r,o,es,ep,h1,h2,B,D,fun x j=>?_,F⟩;have all:∀{l:List (List Key×V)} {m:List (List Key×Addr×Value)},KT H l m→∀x∈m,(tupleKind (bp P w)).is h x.1 x.2.1:=by
  intro l m q
  induction q with
  |nil=>intro x j;exact nomatch j
  |@cons p q ps I n t G=>
   intro x j;rcases mem_cons.mp j with e|j
   ·subst e;exact rF ok (by rw[← n.1];exact n.2.1)
   ·exact G x j
 exact all r x j
theorem Pk{kvs:List (List Key×V)}(ok:l8 P w H h)(e:H a=some (.dT kvs)):kvs.length≤sizeLine∧(a==sysModules)=false∧
  ∃xs,KT H kvs xs∧h.DictOfH (tupleKind (bp P w)) a xs:=vF ok (.inl e)
end
def dY(H:Hp)(a:Addr)(y:V)(r:Option V):Prop:=
 (∃kvs k,Rd H a (.dK kvs)∧y=kV k∧r=bH kvs k)∨∃kvs k b,Rd H a (.dT kvs)∧y=.ref b∧H b=some (.tup (k.map kV))∧r=bH kvs k
def vm(H:Hp)(a:Addr)(y v:V)(H':Hp):Prop:=
 (∃kvs k,H a=some (.dK kvs)∧y=kV k∧kvs.length<sizeLine∧H'=upd H a (.dK (putK kvs k v)))∨
 ∃kvs k b,H a=some (.dT kvs)∧y=.ref b∧H b=some (.tup (k.map kV))∧kvs.length<sizeLine∧H'=upd H a (.dT (putK kvs k v))
theorem dY.k{H:Hp}{a:Addr}{kvs:List (Key×V)}{k:Key}(e:H a=some (.dK kvs)):dY H a (kV k) (bH kvs k):=.inl ⟨kvs,k,.inl e,Z,Z⟩
theorem vm.k{H:Hp}{a:Addr}{kvs:List (Key×V)}{k:Key}{v:V}(e:H a=some (.dK kvs))(j:kvs.length<sizeLine):vm H a (kV k) v (upd H a (.dK (putK kvs k v))):=.inl ⟨kvs,k,e,Z,j,Z⟩
section
variable {X:Cx} {pins:List (Addr×Obj)} {σ:St} {H:Hp} {s:Shared} {a:Addr} {y v:V} {u r:Value} {o:Option V} {A:Around} {E:Value→Shared→Prop}
theorem Inv.big(I:Inv X pins σ H s):sysModules<s.heap.objs.size:=by have h:mainGlobals<s.heap.objs.size:=(I.mod.glob.keeps I.bk).lt;exact Nat.lt_trans (by decide) h
theorem Hw{Q:Value→Shared→Prop}(L:A.units+1<cLine)(I:Inv X pins σ H s)(g:dY H a y (some v))(F:RelV y u)(h:∀n s',Inv X pins σ H s'→RelV v n→Q n s'):
  wpAny (model X.prog X.w) A (getItem (.ref a) u) Q E s:=by
 rcases g with⟨kvs,k,e,B,l⟩|⟨kvs,k,b,e,B,G,l⟩
 ·subst B;obtain⟨z,hd,vs,rel,q⟩:=sS I.bj e;obtain⟨n,hw,j⟩:=kE.some_of (v:=v) (o:=valueAt vs k) (by rw[l];exact rel.val k);exact wpAny_getItem_of (nV F) q.mapOf hw (h n _ (I.tok _) j)
 ·subst B;cases(show u=Value.ref b from F);obtain⟨z,hd,xs,rel,q⟩:=vF I.bj e;obtain⟨n,hw,j⟩:=kE.some_of (v:=v) (o:=(atKey xs k).map (·.2)) (by rw[l];exact rel.val k);obtain⟨p,J,D⟩:=Option.map_eq_some_iff.mp hw;refine wpAny_getItem_heap (tupleKind_room_in1 L) (rF I.bj G) q J ?_;rw[D];exact h n _ (I.tok _) j
theorem QS{Q:Value→Shared→Prop}(F:A.units+1<cLine)(I:Inv X pins σ H s)(g:dY H a y o)(B:RelV y u)(h:∀s',Inv X pins σ H s'→Q (.bool o.isSome) s'):
  wpAny (model X.prog X.w) A (compareOp .In u (.ref a)) Q E s:=by
 rcases g with⟨kvs,k,e,n,l⟩|⟨kvs,k,b,e,n,D,l⟩
 ·subst n;obtain⟨z,hd,vs,rel,j⟩:=sS I.bj e;refine wpAny_in_of (nV B) hd j.mapOf ?_;rw[← (rel.val k).iE,← l];exact h _ (I.tok _)
 ·subst n;cases(show u=Value.ref b from B);obtain⟨z,hd,xs,rel,j⟩:=vF I.bj e;refine wpAny_in_heap (tupleKind_room_in1 F) (rF I.bj D) hd j ?_;have q:=(rel.val k).iE;rw[Option.isSome_map]at q;rw[← q,← l];exact h _ (I.tok _)
theorem Lc{Q:Value→Shared→Prop}(F:A.units+1<cLine)(I:Inv X pins σ H s)(g:dY H a y o)(B:RelV y u)(h:∀s',Inv X pins σ H s'→Q (.bool (!o.isSome)) s'):
  wpAny (model X.prog X.w) A (compareOp .NotIn u (.ref a)) Q E s:=by
 rcases g with⟨kvs,k,e,n,l⟩|⟨kvs,k,b,e,n,D,l⟩
 ·subst n;obtain⟨z,hd,vs,rel,j⟩:=sS I.bj e;refine wpAny_notIn_of (nV B) hd j.mapOf ?_;rw[← (rel.val k).iE,← l];exact h _ (I.tok _)
 ·subst n;cases(show u=Value.ref b from B);obtain⟨z,hd,xs,rel,j⟩:=vF I.bj e;refine wpAny_notIn_heap (tupleKind_room_in1 F) (rF I.bj D) hd j ?_;have q:=(rel.val k).iE;rw[Option.isSome_map]at q;rw[← q,← l];exact h _ (I.tok _)
theorem u6{h':Heap}{t':Nat}(I:Inv X pins σ H s)(D:MG (H a))(B:Heap.SameBut a s.heap h')(he:∃q,h'.get? a=some q)(new:b8 X.prog X.w (upd H a j) h' a j):
  Inv X pins σ (upd H a j) {s with heap:=h',toks:=t'}:=
 I.write (x:=a) (e:=a) D (.inl Z) (fun b q n z=>(B.2 b n).trans z) he new
theorem Fh{h':Heap}{kvs:List (Key×V)}(z:kvs.length≤sizeLine)(hd:(a==sysModules)=false)(j:KV kvs vs)(n:h'.DictOf (bp P w) a vs):
  b8 P w H' h' a (.dK kvs):=⟨z,hd,vs,j,n⟩
theorem Hx{Q:Unit→Shared→Prop}(hu:A.units+1<cLine)(I:Inv X pins σ H s)(g:vm H a y v H')(U:RelV y u)(S:RelV v r)(h:∀s',Inv X pins σ H' s'→Q () s'):
  wpAny (model X.prog X.w) A (setItem (.ref a) u r) Q E s:=by
 rcases g with⟨kvs,k,e,G,l,F⟩|⟨kvs,k,b,e,G,N,l,F⟩
 ·subst G F;obtain⟨z,hd,vs,j,D⟩:=C_ I.bj e;have M:vs.length≤sizeLine:=by rw[← j.length];exact z
  have J:(putK kvs k v).length≤sizeLine:=by have:=fF kvs k v;omega
  refine wpAny_setItem_pairs (hsz:=M) (nV U) D fun h' n L=>h _ ?_;have he:∃q,h'.get? a=some q:=let⟨q,_,_,B,_⟩:=n;⟨q,B⟩;exact u6 I (by rw[e];exact True.intro) L he (Fh J hd (j.put k S) n)
 ·subst G F;cases(show u=Value.ref b from U);obtain⟨z,hd,xs,j,D⟩:=Pk I.bj e;have M:xs.length≤sizeLine:=by rw[← Paired.length j];exact z
  have J:(putK kvs k v).length≤sizeLine:=by have:=fF kvs k v;omega
  refine wpAny_setItem_heap (hsz:=M) (tupleKind_room_in1 hu) (rF I.bj N) D fun h' n L=>h _ ?_;obtain⟨q,es,ep,B,h2,W,Y,_,h5⟩:=n;refine u6 I (by rw[e];exact True.intro) L ⟨q,B⟩ ⟨J,hd,_,(j.put k N S).keeps fun c ys O=>?_,q,es,ep,B,h2,W,Y,h5⟩;rw[aw (dQ O e (fun z=>nomatch z))];exact O
end
section
variable {X:Cx} {pins:List (Addr×Obj)} {σ:St} {H:Hp} {s:Shared} {a:Addr} {kvs:List (Key×V)} {k:Key} {u:Value} {A:Around} {E:Value→Shared→Prop}
theorem Pj{Q:Value→Shared→Prop}(I:Inv X pins σ H s)(e:Rd H a (.dK kvs))(h:∀t s',Inv X pins σ H s'→Q (.int kvs.length t) s'):wpAny (model X.prog X.w) A (call (.builtin "len") [.ref a]) Q E s:=by obtain⟨z,hd,vs,rel,j⟩:=sS I.bj e;refine call_len_dict hd j (by rw[← rel.length];rw[sizeLine_eq]at z;omega) ?_;rw[← rel.length];exact h _ _ (I.tok _)
end
def M5(i:Expr):Prop:=∀n j,subscripted i false n j=operate [n,j] (getItem n j)
theorem G8{prog:Program}{w:World}{A:Around}{E:Value→Shared→Prop}{s:Shared}{env:Env}{value j:Expr}{pos:Pos}{T id:String}{Q:Value→Shared→Prop}
 (q:typeLookup (.type T) "__getitem__"=pure (some (.builtin id)))(z:M5 j)
 (h:wpAny (model prog w) A (eval value env) (fun o s₁=>wpAny (model prog w) A (eval j env) (fun i s₂=>s₂.TypeIs o T∧wpAny (model prog w) A (getItem o i) Q E s₂) E s₁) E s):
  wpAny (model prog w) A (eval (.Subscript value j pos) env) Q E s:=by
 refine Subscript_ (wpAny_mono h (fun o s₁ h₁=>wpAny_mono h₁ (fun i s₂ h₂=>?_) fun _ _ x=>x) fun _ _ x=>x);obtain⟨n,h₂⟩:=h₂;unfold subscriptTail;refine wpAny_bind ?_;rw[getitemInPython_of_ne n.not_modules];refine wpAny_bind (wpAny_specialOf n q ?_);have fin:wpAny (model prog w) A (subscripted j false o i) (fun r s₃=>wpAny (model prog w) A (letTemporaryGo value o r >>= fun _=>pure r) Q E s₃) E s₂:=by rw[z o i];exact wpAny_operating (wpAny_mono h₂ (fun r s₃ h₃=>wpAny_bind (wpAny_letTemporaryGo (wpAny_pure h₃))) fun _ _ x=>x)
 first
  |exact wpAny_pure (wpAny_bind fin)
  |exact wpAny_bind (wpAny_pure (wpAny_bind fin))
  |exact wpAny_bind fin
theorem C7{s:Shared}(I:Inv X pins σ H s)(g:dY H a y o):s.TypeIs (.ref a) "dict":=by
 rcases g with⟨kvs,k,e,_,_⟩|⟨kvs,k,b,e,_,_,_⟩
 ·obtain⟨_,_,vs,_,j⟩:=sS I.bj e;exact j.typeIs
 ·obtain⟨_,_,xs,_,j⟩:=vF I.bj e;exact j.typeIs
inductive MJ(Q:VK)(x y:V)(H:Hp):Prop
 |mk (a:Addr) (v:V) (e:x=.ref a) (h:dY H a y (some v)) (q:Q v H):MJ Q x y H
def Qe(td ty:TE):TE:=fun σ H Q=>td σ H fun x H1=>ty σ H1 (MJ Q x)
inductive OU(Q:VK)(y x:V)(H:Hp):Prop
 |mk (a:Addr) (o:Option V) (e:x=.ref a) (h:dY H a y o) (q:Q (.bl o.isSome) H):OU Q y x H
def Rm(ty td:TE):TE:=fun σ H Q=>ty σ H fun y H1=>td σ H1 (OU Q y)
inductive OV(Q:VK)(y x:V)(H:Hp):Prop
 |mk (a:Addr) (o:Option V) (e:x=.ref a) (h:dY H a y o) (q:Q (.bl (!o.isSome)) H):OV Q y x H
def Mo(ty td:TE):TE:=fun σ H Q=>ty σ H fun y H1=>td σ H1 (OV Q y)
inductive MK(D:Ends)(σ:St)(v x y:V)(H:Hp):Prop
 |mk (a:Addr) (H4:Hp) (e:x=.ref a) (h:vm H a y v H4) (q:D.nx σ H4):MK D σ v x y H
def P7(td ty tv:TE):TS:=fun D σ H=>tv σ H fun v H1=>td σ H1 fun x H2=>ty σ H2 (MK D σ v x)
section
variable {X:Cx} {o i e value:Expr} {pos pos' tpos:Pos} {td ty tv:TE}
theorem lg(G:X.A.units+1<cLine)(B:PE X o td)(hi:PE X i ty)(D:M5 i):PE X (.Subscript o i pos) (Qe td ty):=by intro pins s σ H Q I h;refine G8 PySem.F.slot_dict_getitem.lookup D (bO (B pins s σ H _ I h) fun u O ⟨x,H1,q,M,J⟩=>bO (hi pins O σ H1 _ q J) fun S U ⟨y,H2,n,N,a,v,ex,g,L⟩=>?_);subst ex;obtain rfl:u=Value.ref a:=M;exact⟨C7 n g,Hw G n g N fun _ _ z j=>⟨v,H2,z,j,L⟩⟩
theorem si(B:X.A.units+1<cLine)(hi:PE X i ty)(z:PE X o td):PC X .In i o (Rm ty td):=by intro pins s σ H Q I h;refine bO (hi pins s σ H _ I h) fun N M ⟨y,H1,j,L,F⟩=>bO (z pins M σ H1 _ j F) fun u O ⟨x,H2,n,J,a,D,ex,g,G⟩=>?_;subst ex;obtain rfl:u=Value.ref a:=J;exact QS B n g L fun _ q=>⟨.bl D.isSome,H2,q,Z,G⟩
theorem Ag(B:X.A.units+1<cLine)(hi:PE X i ty)(z:PE X o td):PC X .NotIn i o (Mo ty td):=by intro pins s σ H Q I h;refine bO (hi pins s σ H _ I h) fun N M ⟨y,H1,j,L,F⟩=>bO (z pins M σ H1 _ j F) fun u O ⟨x,H2,n,J,a,D,ex,g,G⟩=>?_;subst ex;obtain rfl:u=Value.ref a:=J;exact Lc B n g L fun _ q=>⟨.bl (!D.isSome),H2,q,Z,G⟩
theorem lh(J:X.A.units+1<cLine)(F:PE X o td)(hi:PE X i ty)(L:PE X value tv)(G:swapsWith value (some (.Subscript o i pos')) pos.line X.env=pure false):
  PS X (.Assign [.Subscript o i pos'] value pos) (P7 td ty tv):=by
 intro pins s σ H D I h;refine wpAny_Assign_Subscript (bO (L pins s σ H _ I h) fun r Y ⟨v,H1,n,S,M⟩=>bO (F pins Y σ H1 _ n M) fun u s2 ⟨x,H2,q,U,N⟩=>bO (hi pins s2 σ H2 _ q N) fun iv s3 ⟨y,H3,z,W,a,j,ex,g,O⟩=>?_) G;subst ex;obtain rfl:u=Value.ref a:=U;exact Hx J z g W S fun _ B=>⟨σ,j,B,O⟩
end
theorem C9(h:Heap)(j:sysModules<h.objs.size):b8 P w H (h.push {cls:=.type "dict",data:=.dict #[]}) h.objs.size (.dK []):=
 ⟨Nat.zero_le _,beq_eq_false_iff_ne.mpr (Ne.symm (Nat.ne_of_lt j)),[],.nil,Heap.DictOf.new h⟩
def N8:TE:=fun _ H Q=>∀p,H p=none→Q (.ref p) (upd H p (.dK []))
section
variable {X:Cx} {pos:Pos}
theorem g7:PE X (.Dict [] [] pos) N8:=fun pins s σ H Q I h=>
 wpAny_Dict_empty ⟨.ref s.heap.objs.size,_,I.laid (a:=s.heap.objs.size) (o:=.dK []) (t':=s.toks) (fun _ _ q=>Heap.get?_push_of_some _ q) (Nat.le_refl _) (C9 s.heap I.big),Z,h _ (I.bj.fresh (Nat.le_refl _))⟩
end
def F7:List (TE×TE)→St→Hp→(List (V×V)→Hp→Prop)→Prop
 |[],_,H,Q=>Q [] H
 |(tk,tv)::r,σ,H,Q=>tk σ H fun x H1=>tv σ H1 fun y H2=>F7 r σ H2 fun ps j=>Q ((x,y)::ps) j
abbrev VV:List (V×V)→List (Value×Value)→Prop:=Paired fun p q=>RelV p.1 q.1∧RelV p.2 q.2
def Qv(X:Cx)(pos:Pos)(keys:List (Option Expr))(j:List Expr)(n:List (TE×TE)):Prop:=
 ∀(pins:List (Addr×Obj)) (s:Shared) (σ:St) (H:Hp) (Q:List (V×V)→Hp→Prop),Inv X pins σ H s→F7 n σ H Q→
  wpAny (model X.prog X.w) X.A (evalPairs (pairTrees keys j X.env pos)) (fun q s'=>∃ps H',Inv X pins σ H' s'∧VV ps q∧Q ps H') X.xe s
theorem L9:Qv X pos [] [] []:=fun pins s σ H Q I h=>pairTrees_nil_walk ⟨[],H,I,.nil,h⟩
theorem Kl(D:PE X k tk)(G:PE X v tv)(F:Qv X pos ks vs j):
  Qv X pos (some k::ks) (v::vs) ((tk,tv)::j):=fun pins s σ H Q I h=>
 pairTrees_cons_walk (bO (D pins s σ H _ I h) fun u S ⟨x,H1,q,N,J⟩=>bO (G pins S σ H1 _ q J) fun Y U ⟨y,H2,z,O,L⟩=>
  bO (F pins U σ H2 _ z L) fun ws W ⟨ps,n,B,rel,M⟩=>⟨(x,y)::ps,n,B,.cons ⟨N,O⟩ rel,M⟩)
def o5(kvs j:List (Key×V)):List (Key×V):=j.foldl (fun n q=>putK n q.1 q.2) kvs
theorem KV.merge:∀{j:List (Key×V)} {n:List (Key×Value)} {kvs:List (Key×V)} {vs:List (Key×Value)},KV j n→KV kvs vs→KV (o5 kvs j) (merged vs n):=by
 intro j n kvs vs r;unfold KV at r
 induction r generalizing kvs vs with
 |nil=>intro q;exact q
 |@cons p q ps D h t z=>
  intro B;have e:KV (putK kvs p.1 p.2) (stored vs q.1 q.2):=by have:=B.put p.1 h.2;rw[← h.1];exact this
  exact z e
theorem nW:∀(j kvs:List (Key×V)),(o5 kvs j).length≤kvs.length+j.length
 |[],kvs=>by show kvs.length≤kvs.length+0;omega
 |p::r,kvs=>by have h1:=nW r (putK kvs p.1 p.2);have h2:=fF kvs p.1 p.2;show(o5 (putK kvs p.1 p.2) r).length≤_;rw[length_cons];omega
theorem vz{P:Program}{w:World}:∀{kvs:List (Key×V)} {ws:List (Value×Value)},VV (kvs.map fun n=>(kV n.1,n.2)) ws→∃j,Carries (bp P w) ws j∧KV kvs j
 |[],_,r=>by rw[map_nil]at r;cases r;exact⟨[],True.intro,.nil⟩
 |p::kvs,_,r=>by
  rw[map_cons]at r;cases r with
  |@cons a b B bs h t=>
   obtain⟨j,c,q⟩:=vz (P:=P) (w:=w) t;obtain⟨D,z⟩:=b;exact⟨(p.1,z)::j,⟨nV h.1,Z,c⟩,.cons ⟨Z,h.2⟩ q⟩
def Qg(j:List (TE×TE)):TE:=fun σ H Q=>∀p,H p=none→F7 j σ (upd H p (.dK [])) fun ps H2=>H2 p=some (.dK [])∧∃kvs:List (Key×V),ps=kvs.map (fun n=>(kV n.1,n.2))∧kvs.length≤15∧Q (.ref p) (upd H2 p (.dK (o5 [] kvs)))
theorem L3{keys:List (Option Expr)}{j:List Expr}(h:Qv X pos keys j F)(B:keys.all (·.isSome)=true)(O:keys.length=j.length)(M:keys≠[])
 (D:keys.length≤15):PE X (.Dict keys j pos) (Qg F):=by
 intro pins s σ H Q I q;have hn:=I.bj.fresh (Nat.le_refl s.heap.objs.size);have J:=I.laid (a:=s.heap.objs.size) (o:=.dK []) (h':=s.heap.push {cls:=.type "dict",data:=.dict #[]}) (t':=s.toks) (fun _ _ q=>Heap.get?_push_of_some _ q) (Nat.le_refl _) (C9 s.heap I.big);refine wpAny_Dict_walk (knd:=bp X.prog X.w) B O M D (bO (h pins _ σ _ _ J (q _ hn)) fun ws s2 ⟨ps,H2,G,rel,e,kvs,ep,lk,Y⟩=>?_);subst ep;obtain⟨rs,c,rk⟩:=vz (P:=X.prog) (w:=X.w) rel;obtain⟨z,hd,a1,r0,L⟩:=C_ G.bj e;cases r0;refine⟨rs,c,L,fun h' n U=>⟨.ref s.heap.objs.size,_,?_,Z,Y⟩⟩;have W:(o5 [] kvs).length≤sizeLine:=by have h1:=nW kvs [];rw[length_nil]at h1;rw[sizeLine_eq];omega
 have N:∃q,h'.get? s.heap.objs.size=some q:=let⟨q,_,_,S,_⟩:=n;⟨q,S⟩;exact u6 G (by rw[e];exact True.intro) U N (Fh W hd (rk.merge .nil) n)
structure M2(X:Cx)(o:Expr)(m:Str)(apos:Pos)(e f:Expr)(cpos:Pos):Prop where
 base:attributeBase o m X.env (eval o X.env)=eval o X.env
 RH:((backTo cpos (starEach [e,f] X.env)).all (fun x=>!x.1)&&(backToKw cpos (keywordEach [] X.env)).all (fun x=>x.1.isSome)
  &&decide (([e,f]:List Expr).length+([]:List Keyword).length+(if([]:List Keyword).isEmpty then 0 else 1)<30))=true
 line:(apos.endLine==cpos.line)=true
 trees:backTo cpos (starEach [e,f] X.env)=[(false,eval e X.env),(false,eval f X.env)]
def QH(H:Hp)(a:Addr):Prop:=(∃kvs,Rd H a (.dK kvs))∨∃kvs,Rd H a (.dT kvs)
theorem JT{s:Shared}(I:Inv X pins σ H s)(d:QH H a):
  s.TypeIs (.ref a) "dict"∧(∀b,Value.ref a=.ref b→∃j,s.heap.get? b=some j∧j.dict=none)∧(a==sysModules)=false:=by
 rcases d with⟨kvs,e⟩|⟨kvs,e⟩
 ·obtain⟨_,hd,vs,_,n⟩:=sS I.bj e;refine⟨n.typeIs,fun b q=>?_,hd⟩;cases q;obtain⟨j,_,_,h1,h2,_⟩:=n;exact⟨j,h1,h2.2.1⟩
 ·obtain⟨_,hd,xs,_,n⟩:=vF I.bj e;refine⟨n.typeIs,fun b q=>?_,hd⟩;cases q;obtain⟨j,_,_,h1,h2,_⟩:=n;exact⟨j,h1,h2.2.1⟩
section
variable {X:Cx} {pins:List (Addr×Obj)} {σ:St} {H:Hp} {s:Shared} {a:Addr} {y d:V} {u r:Value} {o:Option V} {A:Around} {E:Value→Shared→Prop}
theorem Nh{Q:Value→Shared→Prop}(G:A.units+1<cLine)(I:Inv X pins σ H s)(g:dY H a y o)(q:RelV y u)(rd:RelV d r)(h:∀B s',Inv X pins σ H s'→RelV (o.getD d) B→Q B s'):
  wpAny (model X.prog X.w) A (call (.builtin "dict.get") [.ref a,u,r]) Q E s:=by
 rcases g with⟨kvs,k,e,n,l⟩|⟨kvs,k,b,e,n,D,l⟩
 ·subst n;obtain⟨z,hd,vs,rel,j⟩:=sS I.bj e;refine call_meetsIn PySem.F.slot_dict_get j.typeIs PySem.F.entry_dict_get (PySem.F.args_dict_get_3 _ _ _) (meets_dict_get_default (bp X.prog X.w) a (nV q) hd r) ⟨_,j.mapOf,h _ _ (I.tok _) ?_⟩;rw[l];exact(rel.val k).getD rd
 ·subst n;cases(show u=Value.ref b from q);obtain⟨z,hd,xs,rel,j⟩:=vF I.bj e;refine call_meetsIn PySem.F.slot_dict_get j.typeIs PySem.F.entry_dict_get (PySem.F.args_dict_get_3 _ _ _) (meetsH_dict_get_default (tupleKind (bp X.prog X.w)) a b hd r) ⟨tupleKind_room_in1 G,k,xs,rF I.bj D,j,h _ _ (I.tok _) ?_⟩;rw[l];exact(rel.val k).getD rd
end
inductive Sl(Q:VK)(a:Addr)(y:V)(z:V)(H:Hp):Prop
 |mk (o:Option V) (h:dY H a y o) (q:Q (o.getD z) H):Sl Q a y z H
inductive Sg(t:Addr→Hp→Prop)(x:V)(H:Hp):Prop
 |mk (a:Addr) (e:x=.ref a) (h:QH H a) (q:t a H):Sg t x H
def N7(td ty tx:TE):TE:=fun σ H Q=>td σ H (Sg fun a H1=>ty σ H1 fun y H2=>tx σ H2 (Sl Q a y))
section
variable {X:Cx} {o e f:Expr} {apos cpos:Pos} {td ty tx:TE}
theorem xt(M:X.A.units+1<cLine)(L:PE X o td)(he:PE X e ty)(J:PE X f tx)(m:M2 X o "get" apos e f cpos):PE X (.Call (.Attribute o "get" apos) [e,f] [] cpos) (N7 td ty tx):=by
 intro pins s σ H Q I h;refine wpAny_Call_method m.base m.RH m.line PySem.F.plainAttrs_dict PySem.F.slot_dict_get PySem.F.type_dict_get (bO (L pins s σ H _ I h) fun u s1 ⟨x,H1,n,U,a,ex,d,N⟩=>?_);subst ex;obtain rfl:u=Value.ref a:=U;obtain⟨t1,t2,_⟩:=JT n d;refine⟨t1,t2,?_⟩;rw[m.trees];refine Calls.callWith_builtin Z (Calls.evalArgs_plain (Calls.spliced_cons (bO (he pins s1 σ H1 _ n N) fun iv s2 ⟨y,H2,B,W,O⟩=>
  Calls.spliced_cons (bO (J pins s2 σ H2 _ B O) fun fv s3 ⟨z,q,D,Y,ov,g,S⟩=>Calls.spliced_nil ?_))))
 exact Nh M D g W Y fun _ _ G j=>⟨_,q,G,j,S⟩
end
end L2
namespace L2
open PySem PySem.Spec PyProof.Rows
end L2
namespace L2
open PySem PySem.Spec PyProof.Rows
section
variable {X:Cx} {pins:List (Addr×Obj)} {σ:St} {H:Hp} {s:Shared} {h':Heap}
theorem Inv.Ms{t':Nat}{ch:List Addr}(I:Inv X pins σ H s)(k:∀b o,b∉ch→s.heap.get? b=some o→h'.get? b=some o)(B:∀b∈ch,ui X pins H b):Inv X pins σ H {s with heap:=h',toks:=t'}:=by
 have D:∀b u,H b=some u→b∉ch:=fun b u e z=>by have q:=(B b z).1;rw[q]at e;cases e
 refine I.step (g':=s.gens) (d':=s.drawn) (ch:=ch) (fun b F=>⟨(B b F).2.2.2.1,(B b F).2.1,(B b F).2.2.2.2.1,(B b F).2.2.2.2.2⟩) (fun b o _ _ j e _=>k b o j e) (fun b o _ _ j e _=>⟨o.slots,k b o j e⟩)
  (fun _ _ _ _ n=>n) (fun b o j e=>⟨o,k b o j e⟩) (fun _ _ e=>e) (fun _ _ _ e=>e) (fun b ps e=>⟨#[],by rw[e];simp⟩) (fun m hm=>?_) (fun b u e=>?_) I.bare
 ·obtain⟨o,es,ep,G,r⟩:=hm;exact⟨o,es,ep,k _ o (fun z=>(B _ z).2.1 Z) G,r⟩
 ·refine(I.bj b u e).sy (fun c v j q=>k c v ?_ q) (fun _ q=>q) fun _ _ q=>q;rcases j with z|z
  ·rw[z];exact D b u e
  ·exact D c _ z
theorem Inv.nF{t':Nat}{ch:List Addr}(I:Inv X pins σ H s)(k:∀b o,b∉ch→s.heap.get? b=some o→h'.get? b=some o)(D:∀b∈ch,ui X pins H b)(G:s.heap.objs.size≤T)
 (new:b8 X.prog X.w (upd H T J) h' T J):Inv X pins σ (upd H T J) {s with heap:=h',toks:=t'}:=by
 have hn:H T=none:=I.bj.fresh G;have F:∀b u,H b=some u→b∉ch:=fun b u e z=>by have q:=(D b z).1;rw[q]at e;cases e
 refine I.step (g':=s.gens) (d':=s.drawn) (ch:=ch) (fun b j=>⟨(D b j).2.2.2.1,(D b j).2.1,(D b j).2.2.2.2.1,(D b j).2.2.2.2.2⟩) (fun b o _ _ B e _=>k b o B e) (fun b o _ _ B e _=>⟨o.slots,k b o B e⟩)
  (fun b o _ e n=>?_) (fun b o B e=>⟨o,k b o B e⟩) (fun b xs e=>?_) (fun b o u e=>?_) (fun b ps e=>⟨#[],?_⟩) (fun m hm=>?_) (fun b u e=>?_) I.bare
 ·rw[aw (Nat.ne_of_lt (Nat.lt_of_lt_of_le (Heap.lt_size e) G))];exact n
 ·rw[aw (aj e hn)];exact e
 ·rw[aw (aj e hn)];exact e
 ·rw[aw (aj e hn),e];simp
 ·obtain⟨o,es,ep,L,r⟩:=hm;exact⟨o,es,ep,k _ o (fun z=>(D _ z).2.1 Z) L,r⟩
 ·by_cases j:b=T
  ·subst j;rw[ae]at e;cases e;exact new
  ·rw[aw j]at e;refine(I.bj b u e).sy (fun c v B q=>k c v ?_ q) (fun c q=>by rw[aw (aj q hn)];exact q) fun c xs q=>by rw[aw (aj q hn)];exact q
   rcases B with z|z
   ·rw[z];exact F b u e
   ·exact F c _ z
theorem Inv.lock(I:Inv X pins σ H s)(h:H d=some u)(B:MG (some u)):∃j,Inv X pins σ (upd H d (.gB j u)) s:=by
 have x:=I.bj d u h;have ex:∃j,s.heap.get? d=some j:=by
  cases u with
  |lst xs=>obtain⟨_,_,_,_,e⟩:=x;exact⟨_,e⟩
  |dK kvs=>obtain⟨_,_,_,_,o,_,_,e,_⟩:=x;exact⟨o,e⟩
  |dT kvs=>obtain⟨_,_,_,_,o,_,_,e,_⟩:=x;exact⟨o,e⟩
  |set S n=>obtain⟨o,_,_,_,e,_⟩:=x;exact⟨o,e⟩
  |ins C dx fs=>obtain⟨_,_,_,e,_⟩:=x;exact⟨_,e⟩
  |ext φ=>obtain⟨_,⟨_,e⟩,_⟩:=x;exact⟨_,e⟩
  |_=>exact False.elim B
 obtain⟨j,e⟩:=ex;have new:b8 X.prog X.w (upd H d (.gB j u)) s.heap d (.gB j u):=by
  refine⟨e,x.sy (fun b v _ q=>q) (fun b q=>?_) fun b xs q=>?_⟩
  ·rw[aw (fun z=>by rw[z,h]at q;cases q;exact B)];exact q
  ·rw[aw (fun z=>by rw[z,h]at q;cases q;exact B)];exact q
 exact⟨j,I.write (x:=d) (e:=d) (t':=s.toks) (h':=s.heap) (by rw[h];exact B) (.inl Z) (fun b v _ q=>q) ⟨j,e⟩ new⟩
theorem Inv.GN(I:Inv X pins σ H s)(h:H d=some u)(n:MG (some u)):∀o' j,X.M3 d≠some (.gB o' j):=fun o' j e=>by have q:=I.base.uD d o' j e;rw[h]at q;cases q;exact n
theorem Inv.unlock(I:Inv X pins σ H s)(h:H d=some (.gB od u))(hn:∀o' F,X.M3 d≠some (.gB o' F)):Inv X pins σ (upd H d u) s:=by
 have j:∀b o,H b=some o→(∀o' F,o≠.gB o' F)→b≠d:=fun b o e D z=>by rw[z,h]at e;cases e;exact D _ _ Z
 have neN:∀b,H b=none→b≠d:=fun b e z=>by rw[z,h]at e;cases e
 refine⟨I.ok,I.os,I.bare,⟨I.base.keep,I.base.slot,fun b o e n G=>?_,I.base.there,fun b xs e=>?_,fun b o x e=>?_,fun b ps e=>?_⟩,I.loc,I.cell,?_,fun x c e=>?_,fun p J=>?_,fun b o e=>?_,I.len⟩
 ·rw[aw (neN b (I.base.free b o e n G))];exact I.base.free b o e n G
 ·have q:=I.base.Cv b xs e;rw[aw (j b _ q (fun _ _ z=>nomatch z))];exact q
 ·have q:=I.base.uD b o x e;rw[aw (fun z=>by rw[z]at e;exact hn _ _ e)];exact q
 ·obtain⟨m,q⟩:=I.base.Ct b ps e;exact⟨m,by rw[aw (j b _ q (fun _ _ z=>nomatch z))];exact q⟩
 ·rw[aw (neN _ I.free)];exact I.free
 ·rw[aw (neN c (I.j6 x c e))];exact I.j6 x c e
 ·obtain⟨e,n,r⟩:=I.pin p J;exact⟨e,by rw[aw (neN _ n)];exact n,r⟩
 ·by_cases B:b=d
  ·rw[B,ae]at e;cases e;rw[B];obtain⟨_,x⟩:=I.bj d _ h;exact x.sy (fun c v _ q=>q) (fun c q=>by rw[aw (j c _ q (fun _ _ z=>nomatch z))];exact q) fun c xs q=>by rw[aw (j c _ q (fun _ _ z=>nomatch z))];exact q
  ·rw[aw B]at e;exact(I.bj b o e).sy (fun c v _ q=>q) (fun c q=>by rw[aw (j c _ q (fun _ _ z=>nomatch z))];exact q) fun c xs q=>by rw[aw (j c _ q (fun _ _ z=>nomatch z))];exact q
end
def Ql(t:TS):TS:=fun D σ H=>∃d u,H d=some u∧MG (some u)∧∀n,t ⟨fun j H'=>H' d=some (.gB n u)∧D.nx j (upd H' d u),fun v H'=>H' d=some (.gB n u)∧D.rt v (upd H' d u),fun j H'=>H' d=some (.gB n u)∧D.bk j (upd H' d u),fun j H'=>H' d=some (.gB n u)∧D.ct j (upd H' d u)⟩ σ (upd H d (.gB n u))
section
variable {X:Cx}
theorem G0{st:Stmt}{t:TS}(h:PS X st t):PS X st (Ql t):=by
 intro pins s σ H D I B;obtain⟨d,u,hd,z,B⟩:=B;obtain⟨G,F⟩:=I.lock hd z;refine bO (h pins s σ _ _ F (B G)) fun f _ q=>?_;cases f with
 |next=>obtain⟨j,H',n,e,q⟩:=q;exact⟨j,_,n.unlock e (I.GN hd z),q⟩
 |brk=>obtain⟨j,H',n,e,q⟩:=q;exact⟨j,_,n.unlock e (I.GN hd z),q⟩
 |cont=>obtain⟨j,H',n,e,q⟩:=q;exact⟨j,_,n.unlock e (I.GN hd z),q⟩
 |ret v=>obtain⟨x,j,H',n,r,e,q⟩:=q;exact⟨x,j,_,n.unlock e (I.GN hd z),r,q⟩
theorem px{s:Shared}{tk:Nat}(I:Inv X pins σ H s)(o:Obj)
 (T:Turn X.prog X.w X.K tg J [s.heap.objs.size] s.heap.objs.size j)(st:j 0 (s.heap.push o))(q:R J H):OO X pins σ tg R (.ref s.heap.objs.size) {s with heap:=s.heap.push o,toks:=tk}:=by
 refine⟨s.heap.objs.size,[s.heap.objs.size],j,J,H,Z,I.kept fun b _ e=>Heap.get?_push_of_some _ e,T,st,fun b n=>?_,q⟩;have e:b=s.heap.objs.size:=by simpa using n
 subst e;exact I.Ds (Nat.le_refl _) (I.bj.fresh (Nat.le_refl _))
end
def Ow(lo c:Int)(n:Nat):It:=⟨fun i _=>i<n,fun i H x H'=>H'=H∧x=.int (lo+(i:Nat)*c),fun i _=>n≤i⟩
theorem EG{P:Program}{w:World}{K:Frag}{tg:Expr}(j:Addr)(lo c:Int)(n:Nat):Turn P w K tg (Ow lo c n) [j] j (fun i h=>IsRangeIter h j (lo+(i:Nat)*c) ((n:Int)-(i:Nat)) c) where
 mem:=by simp
 obj:=fun i h st b q=>by
  have e:b=j:=by simpa using q
  subst e;exact⟨_,st,fun v z=>nomatch z⟩
 keep:=fun i h h' st k=>k j (by simp) _ st
 item:=by intro X M S L N i pins s σ H E I D st O;subst M S L;obtain⟨F,f1,f2,G,f4,J⟩:=D j (by simp);have W:=Walks.range (prog:=X.prog) (w:=X.w) (I.ok.hd N) j lo c n;refine W.item i s _ _ O st fun v h' tk hv B kk=>?_;obtain⟨t,rfl⟩:=hv;have U:Inv X pins σ H {s with heap:=h',toks:=tk}:=I.turned (fun b o q e=>kk b o (by simpa using q) e) F f1 G f4 J;exact⟨_,Z,sW (s:={s with heap:=h',toks:=tk}) (n:="range_iterator") B Z Z (by decide) ⟨.int (lo+(i:Nat)*c),H,U,⟨t,Z⟩,⟨Z,Z⟩,B,fun b q=>(D b q).1⟩⟩
 done:=by intro X M S L N i pins s σ H E I D st O;subst M S L;obtain⟨F,f1,f2,G,f4,J⟩:=D j (by simp);exact wpAny_pyNext_range_end (I.ok.hd N) st (by have:n≤i:=O;omega) fun h' Y=>⟨Z,I.turned (t':=s.toks) (fun b o q e=>Y b o q e) F f1 G f4 J⟩
 self:=fun A i s Q E st h=>wpAny_pyIter_rangeiter st h
def O5(i j c:Int)(n:Nat):Prop:=c≠0∧c.natAbs<1073741824∧Builtin.Range.small i j c=true∧Builtin.Range.rangeSize i j c=n
theorem O5.neg(ha:-(2^62)≤i)(n:i<2^62)(z:-(2^62)≤j)(q:j<2^62):O5 i j (-1) (i-j).toNat:=
 ⟨by decide,by decide,PySem.W.small_down ha n z q,PySem.W.rangeSize_downNat i j⟩
def PN(ta:TA):TI:=fun σ H R=>ta σ H fun q H1=>∃(i j c:Int) (n:Nat),q=[.int i,.int j,.int c]∧O5 i j c n∧R (Ow i c n) H1
section
variable {X:Cx} {tg:Expr}
theorem Ip{a b c:Expr}{p pos:Pos}(W:Gl X "range")(hm:X.mg "range"=none)(ha:PA X [a,b,c] ta)
 (Y:starEach [a,b,c] X.env=(false,eval a X.env)::starEach [b,c] X.env:=by rfl)(hpl:(backTo pos (starEach [b,c] X.env)).any (·.1)=false:=by rfl):
  PI X tg (.Call (.Name "range" p) [a,b,c] [] pos) (PN ta):=by
 intro pins s σ H R I h;refine Call_ (mx I W hm boot_range (PyProof.Rows.callWith_type1 (bO (ha pos pins s σ H _ I h) fun us B ⟨vs,H1,G,r1,q1⟩=>?_) Y hpl));obtain⟨i,j,k,n,e,⟨L,M,N,O⟩,q⟩:=q1;subst e;cases r1 with
 |cons r z=>
  cases z with
  |cons r' z=>
   cases z with
   |cons D z=>
    cases z;obtain⟨t,rfl⟩:=r;obtain⟨t',rfl⟩:=r';obtain⟨F,rfl⟩:=D;refine call_range_3 L ?_ (.inl (PyProof.noPylong_small M));refine wpAny_pyIter_range (IsRange.new ..) N ?_;have J:Inv X pins σ H1 {B with heap:=B.heap.push {cls:=.type "range",data:=.fields #[.int i t,.int j t',.int k F]}}:=G.kept (t':=B.toks) fun b o e=>Heap.get?_push_of_some _ e;refine px (tk:=B.toks) J _ (EG _ i k n) ?_ q;have S:i+((0:Nat):Int)*k=i:=by simp
    have U:(n:Int)-((0:Nat):Int)=Builtin.Range.rangeSize i j k:=by rw[O];simp
    show IsRangeIter _ _ (i+((0:Nat):Int)*k) ((n:Int)-((0:Nat):Int)) k;rw[S,U];exact Heap.get?_push_size _ Z
end
theorem Ft{lo c:Int}{n:Nat}{g:TG}{tb:TS}{D:Ends}{σ:St}{H:Hp}(Pv:Nat→St→Hp→Prop)(B:Pv 0 σ H)
 (F:∀i σ H,i<n→Pv i σ H→g (.int (lo+(i:Nat)*c)) σ H fun q H2=>tb {D with nx:=Pv (i+1),ct:=Pv (i+1),bk:=D.nx} q H2)(hd:∀σ H,Pv n σ H→D.nx σ H):
  ∃W:Nat→Nat→St→Hp→Prop,(∃m,W 0 m σ H)∧∀i m σ H,W i m σ H→
   ((Ow lo c n).stop i H∧D.nx σ H)∨((Ow lo c n).go i H∧∃N:St→Hp→Prop,(∀j H',N j H'→∃z,z<m∧W (i+1) z j H')∧∀x H',(Ow lo c n).CB i H x H'→g x σ H' fun q H2=>tb {D with nx:=N,ct:=N,bk:=D.nx} q H2):=by
 refine⟨fun i m σ H=>m=n-i∧i≤n∧Pv i σ H,⟨n,by simp,Nat.zero_le _,B⟩,?_⟩;rintro i m σ H ⟨rfl,hi,p⟩;by_cases bL:i<n
 ·refine .inr ⟨bL,Pv (i+1),fun j H' G=>⟨n-(i+1),by omega,Z,bL,G⟩,fun x H' y=>?_⟩;obtain⟨e,y⟩:=y;subst e y;exact F i σ _ bL p
 ·have e:i=n:=by omega
  subst e;exact .inl ⟨Nat.le_refl _,hd σ H p⟩
def ME(x:Str):It:=⟨fun i _=>i<x.cps.size,fun i H v H'=>H'=H∧∃c,x.cps[i]?=some c∧v=.str ⟨#[c]⟩,fun i _=>x.cps.size≤i⟩
theorem EH{P:Program}{w:World}{K:Frag}{tg:Expr}(j:Addr)(x:Str)(t:Tok)(ty:String)(q:ty="str_ascii_iterator"∨ty="str_iterator"):
  Turn P w K tg (ME x) [j] j (fun i h=>h.IsStrIter j ty x t i) where
 mem:=by simp
 obj:=fun i h st b n=>by
  have e:b=j:=by simpa using n
  subst e;obtain⟨o,e,c,d⟩:=st;exact⟨o,e,fun v z=>by rw[d]at z;cases z⟩
 keep:=fun i h h' st k=>let⟨o,ho,r⟩:=st;⟨o,k j (by simp) o ho,r⟩
 item:=by
  intro X O hw N B i pins s σ H E I L st U;subst O hw N;obtain⟨F,f1,f2,G,f4,J⟩:=L j (by simp);have W:Walks X.prog X.w X.A j [j] [j] x.cps.size (SignAt x) (fun i h=>h.IsStrIter j ty x t i):=by
   rcases q with e|e
   ·rw[e];exact Walks.strAscii (I.ok.hd B) j x t
   ·rw[e];exact Walks.strWide (I.ok.hd B) j x t
  have Y:["enumerate","zip","dict_itemiterator","dict_reverseitemiterator","odict_iterator","itertools.zip_longest","itertools.pairwise"].contains ty=false:=by
   rcases q with e|e
   ·rw[e];decide
   ·rw[e];decide
  refine W.item i s _ _ U st fun v h' tk hv D kk=>?_;obtain⟨c,u,S,rfl⟩:=hv;have I1:Inv X pins σ H {s with heap:=h',toks:=tk}:=I.turned (fun b o n e=>kk b o (by simpa using n) e) F f1 G f4 J;obtain⟨oi,e,cc,dd⟩:=id D;exact⟨_,Z,sW (s:={s with heap:=h',toks:=tk}) e cc dd Y ⟨.str ⟨#[c]⟩,H,I1,⟨u,Z⟩,⟨Z,c,S,Z⟩,D,fun b n=>(L b n).1⟩⟩
 done:=by
  intro X O hw N B i pins s σ H E I L st U;subst O hw N;obtain⟨F,f1,f2,G,f4,J⟩:=L j (by simp);have hx:x.cps[i]?=none:=Array.getElem?_eq_none U;rcases q with e|e
  ·rw[e]at st;exact wpAny_pyNext_ascii_end (I.ok.hd B) st hx fun h' M=>⟨Z,I.turned (t':=s.toks) (fun b o n e=>M b o n e) F f1 G f4 J⟩
  ·rw[e]at st;exact wpAny_pyNext_wide_end (I.ok.hd B) st hx fun h' M=>⟨Z,I.turned (t':=s.toks) (fun b o n e=>M b o n e) F f1 G f4 J⟩
 self:=fun A i s Q E st h=>by
  rcases q with e|e
  ·rw[e]at st;exact wpAny_pyIter_striter_ascii st h
  ·rw[e]at st;exact wpAny_pyIter_striter_wide st h
def PQ(te:TE):TI:=fun σ H R=>te σ H fun v H1=>∃x,v=.str x∧R (ME x) H1
theorem B_{X:Cx}{tg e:Expr}{te:TE}(he:PE X e te):PI X tg e (PQ te):=by
 intro pins s σ H R I h;refine bO (he pins s σ H _ I h) fun v n ⟨y,H1,j,z,x,ex,q⟩=>?_;subst ex;obtain⟨t,rfl⟩:=z;cases ha:x.cps.all (·<128)
 ·exact wpAny_pyIter_wide ha (px (tk:=n.toks) j _ (EH _ x t "str_iterator" (.inr Z)) ⟨_,Heap.get?_push_size _ Z,Z,Z⟩ q)
 ·exact wpAny_pyIter_ascii ha (px (tk:=n.toks) j _ (EH _ x t "str_ascii_iterator" (.inl Z)) ⟨_,Heap.get?_push_size _ Z,Z,Z⟩ q)
section
variable {prog:Program} {w:World} {A:Around} {E:Value→Shared→Prop} {s:Shared}
theorem z5{o:Obj}{es:Array DictEntry}{Q:Value→Shared→Prop}(hd:(d==sysModules)=false)(q:s.heap.get? d=some o)(B:o.ExactDict)(j:o.data=.dict es ep)
 (z:Q (.ref s.heap.objs.size) {s with heap:=s.heap.push {cls:=.type "dict_keyiterator",data:=.fields #[.ref d,.int 0 0,.int es.size 0,.int ep 0]}}):
  wpAny (model prog w) A (pyIter (.ref d)) Q E s:=by
 have n:s.TypeIs (.ref d) "dict":=⟨o,q,B.1⟩;refine wpAny_pyIter_slot n F.slot_dict_iter (wpAny_call_entry F.slot_dict_iter n F.entry_dict_iter ?_ (F.args_dict_iter_1 _));unfold Builtin.«dict.__iter__»;refine wpAny_bind ?_;unfold Builtin.Dict.dictSlotNone;refine wpAny_bind (wpAny_notOrdered_dict n ?_);show wpAny _ _ (pure (Value.ref d)) _ _ s;refine wpAny_pure ?_;show wpAny _ _ (Builtin.Dict.showsAll d >>= _) _ _ s;unfold Builtin.Dict.showsAll;rw[if_neg (by rw[hd];exact Bool.false_ne_true)];refine wpAny_bind (wpAny_pure ?_);refine wpAny_bind (wpAny_dictEntries q j ?_);refine wpAny_bind (wpAny_dictEpoch q j ?_);refine wpAny_bind (wpAny_newObj_type (wpAny_pure ⟨_,Z,"dict_keyiterator",_,⟨_,Heap.get?_push_size _ Z,Z⟩,F.slot_dict_keyiterator_next.lookup,?_⟩));simpa[rawInt]using z
theorem yN{M:Obj}{es:Array DictEntry}{L:DictEntry}{Q:Option Value→Shared→Prop}(j:s.heap.IsKeyIter it d i n ep)(D:s.heap.get? d=some M)(z:M.data=.dict es ep)
 (hsz:es.size=n)(S:es[i]?=some L)(N:∀h',h'.IsKeyIter it d (i+1) n ep→Heap.SameBut it s.heap h'→Q (some L.key) {s with heap:=h'}):wpAny (model prog w) A (pyNext (.ref it)) Q E s:=by
 obtain⟨o,J,O,hd⟩:=id j;unfold pyNext;refine wpAny_bind (wpAny_attempt (wpAny_callSpecial?_slot (name:=Str.ofString "__next__") j.typeIs F.slot_dict_keyiterator_next
  (wpAny_call_entry F.slot_dict_keyiterator_next j.typeIs F.entry_dict_keyiterator_next ?_ (F.args_dict_keyiterator_next_1 _))))
 refine wpAny_bind (wpAny_pure ?_);refine wpAny_bind ?_;refine wpAny_bind ?_
 first|refine wpAny_bind (wpAny_typeNameOfWhole_keyiter j.typeIs (wpAny_pure ?_))|refine wpAny_bind (wpAny_typeNameOf_keyiter j.typeIs (wpAny_pure ?_))
 refine wpAny_bind (wpAny_fieldsOf J hd ?_);have G:Builtin.Dict_items.ownsTuple "dict_keyiterator"=false:=by decide
 simp only[G,Bool.false_eq_true,if_false];show wpAny _ _ (if(Value.ref d==Value.none)=true then _ else _) _ _ s;rw[if_neg (show¬((Value.ref d==Value.none)=true)from Bool.false_ne_true)];refine wpAny_bind (wpAny_pure ?_);refine wpAny_bind (wpAny_dictEntries D z ?_);rw[if_neg (by rw[hsz];simp)];refine wpAny_bind (wpAny_pure ?_);refine wpAny_bind (wpAny_dictEpoch D z ?_);rw[if_neg (by simp)];refine wpAny_pure ?_;obtain⟨B,I⟩:=Array.getElem?_eq_some_iff.mp S;simp only[show¬((i:Int)<0)from by omega,if_false,Int.toNat_natCast,Array.getElem?_eq_getElem B];refine wpAny_bind ?_
 first|refine wpAny_bind (wpAny_typeNameOfWhole_keyiter j.typeIs (wpAny_pure ?_))|refine wpAny_bind (wpAny_typeNameOf_keyiter j.typeIs (wpAny_pure ?_))
 refine wpAny_bind (wpAny_isOneOf_keyiter j.typeIs ?_);show wpAny _ _ (setField (.ref it) 1 (rawInt ((i:Int)+1)) >>= _) _ _ s;refine wpAny_bind (wpAny_setField J hd (by simp) ?_);have q:(s.heap.update it (Obj.mapFields (·.setIfInBounds 1 (rawInt ((i:Int)+1))))).IsKeyIter it d (i+1) n ep:=
  ⟨_,Heap.get?_update_self _ J (Obj.isFreed_of_fields (Obj.data_mapFields hd _)),(Obj.cls_mapFields ..).trans O,by rw[Obj.data_mapFields hd];simp[rawInt]⟩
 refine wpAny_bind (wpAny_holding ?_);refine wpAny_bind (wpAny_isOneOf_keyiter (s:={s with heap:=s.heap.update it (Obj.mapFields (·.setIfInBounds 1 (rawInt ((i:Int)+1))))}) q.typeIs ?_);show wpAny _ _ (pure es[i].key) _ _ _;rw[I];exact wpAny_pure (wpAny_pure ⟨_,Z,wpAny_pure (N _ q (Heap.SameBut.update ..))⟩)
theorem qo{J:Obj}{es:Array DictEntry}{Q:Option Value→Shared→Prop}(M:A.handled=none)(j:s.heap.IsKeyIter it d i n ep)(B:s.heap.get? d=some J)(q:J.data=.dict es ep)
 (hsz:es.size=n)(G:n≤i)(L:∀h',Heap.ExtBut it s.heap h'→Q none {s with heap:=h'}):wpAny (model prog w) A (pyNext (.ref it)) Q E s:=by
 obtain⟨o,I,N,hd⟩:=id j;unfold pyNext;refine wpAny_bind (wpAny_attempt (wpAny_callSpecial?_slot (name:=Str.ofString "__next__") j.typeIs F.slot_dict_keyiterator_next
  (wpAny_call_entry F.slot_dict_keyiterator_next j.typeIs F.entry_dict_keyiterator_next ?_ (F.args_dict_keyiterator_next_1 _))))
 refine wpAny_bind (wpAny_pure ?_);refine wpAny_bind ?_;refine wpAny_bind ?_
 first|refine wpAny_bind (wpAny_typeNameOfWhole_keyiter j.typeIs (wpAny_pure ?_))|refine wpAny_bind (wpAny_typeNameOf_keyiter j.typeIs (wpAny_pure ?_))
 refine wpAny_bind (wpAny_fieldsOf I hd ?_);have D:Builtin.Dict_items.ownsTuple "dict_keyiterator"=false:=by decide
 simp only[D,Bool.false_eq_true,if_false];show wpAny _ _ (if(Value.ref d==Value.none)=true then _ else _) _ _ s;rw[if_neg (show¬((Value.ref d==Value.none)=true)from Bool.false_ne_true)];refine wpAny_bind (wpAny_pure ?_);refine wpAny_bind (wpAny_dictEntries B q ?_);rw[if_neg (by rw[hsz];simp)];refine wpAny_bind (wpAny_pure ?_);refine wpAny_bind (wpAny_dictEpoch B q ?_);rw[if_neg (by simp)];refine wpAny_pure ?_;have z:es.size≤i:=by rw[hsz];exact G
 simp only[show¬((i:Int)<0)from by omega,if_false,Int.toNat_natCast,Array.getElem?_eq_none z];refine wpAny_bind ?_
 first|refine wpAny_bind (wpAny_typeNameOfWhole_keyiter j.typeIs (wpAny_pure ?_))|refine wpAny_bind (wpAny_typeNameOf_keyiter j.typeIs (wpAny_pure ?_))
 show wpAny _ _ (setField (.ref it) 0 .none >>= _) _ _ s;refine wpAny_bind (wpAny_setField I hd (by simp) ?_);show wpAny _ _ (newExc (.type "StopIteration") [] >>= _) _ _ _;refine wpAny_bind ?_;simp only[newExc,newTuple];refine wpAny_bind (wpAny_newObj_type ?_ (by size_fits));refine wpAny_bind (m:=firstArgMember _ _) (wpAny_of_eq (a:=Value.none) (by first|rfl|(simp only[firstArgMember];rfl)) ?_);refine wpAny_newObj_type ?_ (by size_fits);simp only[raiseNew];refine wpAny_bind (wpAny_handled ?_);rw[show A.in1.handled=none from M];refine wpAny_bind (wpAny_pure (wpAny_throw ?_));refine wpAny_bind (wpAny_isInstance (T:="StopIteration") (b:=true) ⟨_,Heap.get?_push_size _ Z,Z⟩ isSubtype_stop ?_);exact wpAny_pure (L _ (((Heap.SameBut.update ..).extBut.push _).push _))
end
theorem Fw{κ:Type}{kvs:List (κ×V)}{vs:List (κ×Value)}(h:KV kvs vs):∀{i:Nat} {k:κ} {v:V},kvs[i]?=some (k,v)→∃u,vs[i]?=some (k,u)∧RelV v u:=by
 unfold KV at h
 induction h with
 |nil=>intro i k v e;simp at e
 |@cons a b l₁ l₂ r t n=>
  intro i k v e;cases i with
  |zero=>
   simp only[List.getElem?_cons_zero,Option.some.injEq]at e;subst e;refine⟨b.2,?_,r.2⟩;simp only[List.getElem?_cons_zero];exact congrArg some (Prod.ext r.1.symm Z)
  |succ j=>
   simp only[List.getElem?_cons_succ]at e ⊢;exact n e
theorem FP{n β:Type}{G:n→β→Prop}{l₁:List n}{l₂:List β}(h:Paired G l₁ l₂):∀{i:Nat} {a:n},l₁[i]?=some a→∃b,l₂[i]?=some b∧G a b:=by
 induction h with
 |nil=>intro i a e;simp at e
 |@cons a b l₁ l₂ r t q=>
  intro i z e;cases i with
  |zero=>
   simp only[List.getElem?_cons_zero,Option.some.injEq]at e;subst e;exact⟨b,Z,r⟩
  |succ j=>
   simp only[List.getElem?_cons_succ]at e ⊢;exact q e
theorem Eh(h:qe k u=true):RelV (kV k) u:=by
 rcases ck h with⟨i,t,rfl,rfl⟩|⟨x,t,rfl,rfl⟩
 ·exact⟨t,Z⟩
 ·exact⟨t,Z⟩
section
variable {X:Cx} {pins:List (Addr×Obj)} {σ:St} {H:Hp} {s:Shared} {d:Addr} {o:Obj}
theorem Inv.HK{kvs:List (Key×V)}(I:Inv X pins σ H s)(h:H d=some (.gB o (.dK kvs))):
  (d==sysModules)=false∧s.heap.get? d=some o∧o.ExactDict∧∃(es:Array DictEntry) (ep:Nat) (vs:List (Key×Value)),o.data=.dict es ep∧es.size=kvs.length∧KV kvs vs∧s.heap.DictAt (bp X.prog X.w) d vs ep:=by
 obtain⟨hd,z,D,vs,B,o',es,ep,n,q,j,r⟩:=I.bj d _ h;rw[hd]at n;cases n;refine⟨D,hd,q,es,ep,vs,j,?_,B,o,es,hd,q,j,r⟩;have F:=r.2.1.length;have G:kvs.length=vs.length:=Paired.length B;rw[Array.length_toList]at F;omega
theorem Inv.Nw{kvs:List (List Key×V)}(I:Inv X pins σ H s)(h:H d=some (.gB o (.dT kvs))):
  (d==sysModules)=false∧s.heap.get? d=some o∧o.ExactDict∧∃(es:Array DictEntry) (ep:Nat),o.data=.dict es ep∧es.size=kvs.length∧
   ∀(i:Nat) (k:List Key) (v:V),kvs[i]?=some (k,v)→∃(n:DictEntry) (q:Addr),es[i]?=some n∧n.key=.ref q∧H q=some (.tup (k.map kV)):=by
 obtain⟨hd,z,G,xs,pr,o',es,ep,B,J,j,he,_⟩:=I.bj d _ h;rw[hd]at B;cases B;refine⟨G,hd,J,es,ep,j,?_,fun i k v e=>?_⟩
 ·have M:es.size=xs.length:=size_of_entries he;have N:kvs.length=xs.length:=Paired.length pr;omega
 ·obtain⟨b,F,L,D,_⟩:=FP pr e;have q:=entry_at he i;rw[F]at q;exact⟨_,b.2.1,q,Z,D⟩
end
def Oy(d:Addr)(o:Obj)(kvs:List (Key×V)):It:=
 ⟨fun i H=>H d=some (.gB o (.dK kvs))∧i<kvs.length,fun i H x H'=>H'=H∧∃k v,kvs[i]?=some (k,v)∧x=kV k,fun i H=>H d=some (.gB o (.dK kvs))∧kvs.length≤i⟩
def Oz(d:Addr)(o:Obj)(kvs:List (List Key×V)):It:=
 ⟨fun i H=>H d=some (.gB o (.dT kvs))∧i<kvs.length,fun i H x H'=>H'=H∧∃(k:List Key) (v:V) (q:Addr),kvs[i]?=some (k,v)∧x=.ref q∧H q=some (.tup (k.map kV)),fun i H=>H d=some (.gB o (.dT kvs))∧kvs.length≤i⟩
def Ox(d:Addr)(o:Obj)(kvs:List (Key×V)):It:=
 ⟨fun i H=>H d=some (.gB o (.dK kvs))∧i<kvs.length,fun i H x H'=>H'=H∧∃k,kvs[i]?=some (k,x),fun i H=>H d=some (.gB o (.dK kvs))∧kvs.length≤i⟩
theorem ni{o:Obj}(h:o.data=.dict es ep)(h':o.data=.dict n j):n=es∧j=ep:=by rw[h]at h';cases h';exact⟨Z,Z⟩
section
variable {P:Program} {w:World} {K:Frag} {tg:Expr} {d:Addr} {o:Obj} {es:Array DictEntry} {ep:Nat}
theorem IU{kvs:List (Key×V)}(n:Addr)(G:o.data=.dict es ep):Turn P w K tg (Oy d o kvs) [n] n (fun i h=>h.IsKeyIter n d i kvs.length ep) where
 mem:=by simp
 obj:=fun i h st b q=>by
  have e:b=n:=by simpa using q
  subst e;obtain⟨N,e,c,O⟩:=st;exact⟨N,e,fun v z=>by rw[O]at z;cases z⟩
 keep:=fun i h h' st k=>st.at fun N e=>k n (by simp) N e
 item:=by intro X hP hw hK hc i pins s σ H E I M st hg;subst hP hw hK;obtain⟨hd,hi⟩:=hg;obtain⟨W,f1,f2,Y,f4,f5⟩:=M n (by simp);obtain⟨hs,B,hx,U,S,vs,j,hsz,kv,hm⟩:=I.HK hd;obtain⟨rfl,rfl⟩:=ni G j;obtain⟨⟨k,v⟩,F⟩:∃p,kvs[i]?=some p:=⟨kvs[i],getElem?_eq_getElem hi⟩;obtain⟨u,hu,ru⟩:=Fw kv F;have hl:kvs.length=vs.length:=Paired.length kv;rw[hl]at st;refine wpAny_pyNext_dict_item st hm hu fun J h' D L sb=>?_;have I1:Inv X pins σ H {s with heap:=h'}:=I.turned (t':=s.toks) (fun b ob q e=>(sb.2 b q).trans e) W f1 Y f4 f5;obtain⟨N,e,c,O⟩:=id L;refine⟨J,Z,sW (s:={s with heap:=h'}) e c O (by decide) ⟨kV k,H,I1,Eh (show qe k J=true from D),⟨Z,k,v,F,Z⟩,?_,fun b q=>(M b q).1⟩⟩;show h'.IsKeyIter n d (i+1) kvs.length _;rw[hl];exact L
 done:=by intro X hP hw hK hc i pins s σ H E I M st hg;subst hP hw hK;obtain⟨hd,hi⟩:=hg;obtain⟨W,f1,f2,Y,f4,f5⟩:=M n (by simp);obtain⟨hs,B,hx,U,S,vs,j,hsz,kv,hm⟩:=I.HK hd;obtain⟨rfl,rfl⟩:=ni G j;exact qo (I.ok.hd hc) st B j hsz hi fun h' eb=>⟨Z,I.turned (t':=s.toks) (fun b ob q e=>eb b ob q e) W f1 Y f4 f5⟩
 self:=fun A i s Q E st h=>wpAny_pyIter_keyiter st h
theorem Gb{kvs:List (List Key×V)}(n:Addr)(L:o.data=.dict es ep):Turn P w K tg (Oz d o kvs) [n] n (fun i h=>h.IsKeyIter n d i kvs.length ep) where
 mem:=by simp
 obj:=fun i h st b B=>by
  have e:b=n:=by simpa using B
  subst e;obtain⟨O,e,c,S⟩:=st;exact⟨O,e,fun v z=>by rw[S]at z;cases z⟩
 keep:=fun i h h' st k=>st.at fun O e=>k n (by simp) O e
 item:=by intro X hP hw hK hc i pins s σ H E I N st hg;subst hP hw hK;obtain⟨hd,hi⟩:=hg;obtain⟨Y,f1,f2,f3,f4,f5⟩:=N n (by simp);obtain⟨hs,D,hx,W,U,j,hsz,ent⟩:=I.Nw hd;obtain⟨rfl,rfl⟩:=ni L j;obtain⟨⟨k,v⟩,J⟩:∃p,kvs[i]?=some p:=⟨kvs[i],getElem?_eq_getElem hi⟩;obtain⟨en,q,a1,G,hq⟩:=ent i k v J;refine yN st D j hsz a1 fun h' M sb=>?_;have I1:Inv X pins σ H {s with heap:=h'}:=I.turned (t':=s.toks) (fun b ob B e=>(sb.2 b B).trans e) Y f1 f3 f4 f5;obtain⟨O,e,c,S⟩:=id M;exact⟨en.key,Z,sW (s:={s with heap:=h'}) e c S (by decide) ⟨.ref q,H,I1,G,⟨Z,k,v,q,J,Z,hq⟩,M,fun b B=>(N b B).1⟩⟩
 done:=by intro X hP hw hK hc i pins s σ H E I N st hg;subst hP hw hK;obtain⟨hd,hi⟩:=hg;obtain⟨Y,f1,f2,f3,f4,f5⟩:=N n (by simp);obtain⟨hs,D,hx,W,U,j,hsz,ent⟩:=I.Nw hd;obtain⟨rfl,rfl⟩:=ni L j;exact qo (I.ok.hd hc) st D j hsz hi fun h' eb=>⟨Z,I.turned (t':=s.toks) (fun b ob B e=>eb b ob B e) Y f1 f3 f4 f5⟩
 self:=fun A i s Q E st h=>by refine wpAny_pyIter_slot st.typeIs F.slot_dict_keyiterator_iter (wpAny_call_entry F.slot_dict_keyiterator_iter st.typeIs F.entry_dict_keyiterator_iter ?_ (F.args_dict_keyiterator_iter_1 _));show wpAny _ _ (ret (.ref n)) _ _ s;exact wpAny_pure ⟨_,Z,"dict_keyiterator",_,st.typeIs,F.slot_dict_keyiterator_next.lookup,h⟩
theorem IW{kvs:List (Key×V)}(j:Addr)(D:o.data=.dict es ep):Turn P w K tg (Ox d o kvs) [j] j (fun i h=>h.IsValIter j d i kvs.length ep) where
 mem:=by simp
 obj:=fun i h st b n=>by
  have e:b=j:=by simpa using n
  subst e;obtain⟨M,e,c,N⟩:=st;exact⟨M,e,fun v z=>by rw[N]at z;cases z⟩
 keep:=fun i h h' st k=>st.at fun M e=>k j (by simp) M e
 item:=by intro X hP hw hK hc i pins s σ H E I G st hg;subst hP hw hK;obtain⟨hd,hi⟩:=hg;obtain⟨U,f1,f2,W,f4,Y⟩:=G j (by simp);obtain⟨hs,a1,hx,S,O,vs,q,hsz,L,hm⟩:=I.HK hd;obtain⟨rfl,rfl⟩:=ni D q;obtain⟨⟨k,v⟩,B⟩:∃p,kvs[i]?=some p:=⟨kvs[i],getElem?_eq_getElem hi⟩;obtain⟨u,hu,ru⟩:=Fw L B;have J:kvs.length=vs.length:=Paired.length L;rw[J]at st;refine wpAny_pyNext_values_item st hm hu fun h' F sb=>?_;have I1:Inv X pins σ H {s with heap:=h'}:=I.turned (t':=s.toks) (fun b ob n e=>(sb.2 b n).trans e) U f1 W f4 Y;obtain⟨M,e,c,N⟩:=id F;refine⟨u,Z,sW (s:={s with heap:=h'}) e c N (by decide) ⟨v,H,I1,ru,⟨Z,k,B⟩,?_,fun b n=>(G b n).1⟩⟩;show h'.IsValIter j d (i+1) kvs.length _;rw[J];exact F
 done:=by intro X hP hw hK hc i pins s σ H E I G st hg;subst hP hw hK;obtain⟨hd,hi⟩:=hg;obtain⟨U,f1,f2,W,f4,Y⟩:=G j (by simp);obtain⟨hs,a1,hx,S,O,vs,q,hsz,L,hm⟩:=I.HK hd;obtain⟨rfl,rfl⟩:=ni D q;have J:kvs.length=vs.length:=Paired.length L;rw[J]at st;exact wpAny_pyNext_values_end (I.ok.hd hc) st hm (getElem?_eq_none (by omega)) fun h' eb=>⟨Z,I.turned (t':=s.toks) (fun b ob n e=>eb b ob n e) U f1 W f4 Y⟩
 self:=fun A i s Q E st h=>wpAny_pyIter_valiter st h
end
def PH(td:TE):TI:=fun σ H R=>td σ H fun x H1=>∃d o,x=.ref d∧((∃kvs,H1 d=some (.gB o (.dK kvs))∧R (Oy d o kvs) H1)∨∃kvs,H1 d=some (.gB o (.dT kvs))∧R (Oz d o kvs) H1)
inductive Sv(R:It→Hp→Prop)(x:V)(H:Hp):Prop
 |mk (d:Addr) (o:Obj) (kvs:List (Key×V)) (e:x=.ref d) (h:H d=some (.gB o (.dK kvs))) (q:R (Ox d o kvs) H):Sv R x H
def PR(td:TE):TI:=fun σ H R=>td σ H (Sv R)
section
variable {X:Cx} {tg e:Expr} {td:TE} {apos cpos:Pos}
theorem L8(he:PE X e td):PI X tg e (PH td):=by
 intro pins s σ H R I h;refine bO (he pins s σ H _ I h) fun u F ⟨x,H1,z,G,d,o,ex,q⟩=>?_;subst ex;obtain rfl:u=Value.ref d:=G;rcases q with⟨kvs,hd,q⟩|⟨kvs,hd,q⟩
 ·obtain⟨B,n,D,es,ep,vs,j,hsz,J,hm⟩:=z.HK hd;refine z5 B n D j (px (tk:=F.toks) z _ (IU _ j) ⟨_,Heap.get?_push_size _ Z,Z,?_⟩ q);rw[hsz]<;>rfl
 ·obtain⟨B,n,D,es,ep,j,hsz,ent⟩:=z.Nw hd;refine z5 B n D j (px (tk:=F.toks) z _ (Gb _ j) ⟨_,Heap.get?_push_size _ Z,Z,?_⟩ q);rw[hsz]<;>rfl
theorem Iq(he:PE X e td)(n:attributeBase e "values" X.env (eval e X.env)=eval e X.env:=by rfl)(z:(apos.endLine==cpos.line)=true:=by rfl):PI X tg (.Call (.Attribute e "values" apos) [] [] cpos) (PR td):=by
 intro pins s σ H R I h;refine wpAny_Call_method (T:="dict") (id:="dict.values") n Z z F.plainAttrs_dict F.slot_dict_values F.type_dict_values (bO (he pins s σ H _ I h) fun u j ⟨x,H1,D,O,d,o,kvs,ex,hd,q⟩=>?_);subst ex;obtain rfl:u=Value.ref d:=O;obtain⟨M,J,S,es,ep,vs,B,hsz,N,hm⟩:=D.HK hd;have L:kvs.length=vs.length:=Paired.length N;refine⟨hm.dictOf.typeIs,hm.dictOf.mapOf.noDict,?_⟩;have G:Inv X pins σ H1 {j with heap:=j.heap.push {cls:=.type "dict_values",data:=.fields #[.ref d]}}:=D.kept (t':=j.toks) fun b _ q=>Heap.get?_push_of_some _ q;have fin:wpAny (model X.prog X.w) X.A (pyIter (.ref j.heap.objs.size)) (OO X pins σ tg R) X.xe {j with heap:=j.heap.push {cls:=.type "dict_values",data:=.fields #[.ref d]}}:=by refine wpAny_pyIter_values (d:=d) (knd:=bp X.prog X.w) ⟨_,Heap.get?_push_size _ Z,Z,Z⟩ (hm.push _) (px (tk:=j.toks) G _ (IW _ B) ⟨_,Heap.get?_push_size _ Z,Z,?_⟩ q);rw[L]<;>rfl
 show wpAny _ _ (callWith cpos (.builtin "dict.values") [.ref d] [] []) _ X.xe j;exact method_meetsIn F.slot_dict_values F.entry_dict_values Z (PySem.evalArgs_none ⟨Z,hm.dictOf.typeIs,F.args_dict_values_1 _,_,meets_dict_values (bp X.prog X.w) d M,⟨vs,hm.dictOf⟩,fin⟩)
end
def MC(K:Frag)(a:Addr):It:=
 ⟨fun i H=>∃(xs:List V) (x:V),aT K H a xs∧xs[i]?=some x,fun i H v H'=>∃T x,v=.ref T∧H T=none∧H'=upd H T (.tup [.int (i:Nat),x])∧∀xs,aT K H a xs→xs[i]?=some x,fun i H=>∃xs:List V,aT K H a xs∧xs.length≤i⟩
theorem IT{P:Program}{w:World}{K:Frag}{F:List Expr}{kk:Nat}{tpos:Pos}(a e n:Addr):
  Turn P w K (.Tuple F kk tpos) (MC K a) [e,n] e (fun i h=>(∃old,IsEnum h e n ((i:Nat):Int) old)∧h.IsListIter n a i∧e≠n) where
 mem:=by simp
 obj:=fun i h st b B=>by
  obtain⟨⟨old,he⟩,⟨o,ho,hc,hd⟩,_⟩:=st;have N:b=e∨b=n:=by simpa using B
  rcases N with z|z
  ·rw[z];exact⟨_,he,fun v q=>nomatch q⟩
  ·rw[z];exact⟨o,ho,fun v q=>by rw[hd]at q;cases q⟩
 keep:=fun i h h' st k=>let⟨⟨old,he⟩,hi,j⟩:=st;⟨⟨old,k e (by simp) _ he⟩,hi.at fun o q=>k n (by simp) o q,j⟩
 item:=by
  intro X S hw O hc i pins s σ H E I L st hg;subst S hw O;obtain⟨⟨old,he⟩,hit,j⟩:=st;obtain⟨xs,x,M,hx⟩:=hg;obtain⟨b1,rv,p,hz⟩:=I.list M;obtain⟨u,hu,ru⟩:=rv.get hx;have G:e<s.heap.objs.size:=Heap.lt_size he;have a2:n<s.heap.objs.size:=by obtain⟨_,q,_⟩:=hit;exact Heap.lt_size q
  refine wpAny_pyNext_enum_item he hit p.isList (x:=u) (by simpa using hu) j fun h' ho J hT _ hk=>?_;refine⟨_,Z,wpAny_letOwnedTupleGo_enum (s:={s with heap:=h',toks:=s.toks+1}) ho fun D a1 sb=>?_⟩;have U:D.get? s.heap.objs.size=some {cls:=.type "tuple",data:=.seq #[.int i s.toks,u]}:=(sb.2 _ (Nat.ne_of_gt G)).trans hT;have new:b8 X.prog X.w (upd H s.heap.objs.size (.tup [.int (i:Nat),x])) D s.heap.objs.size (.tup [.int (i:Nat),x]):=
   ⟨by show 2≤sizeLine;decide,[.int i s.toks,u],.cons ⟨_,Z⟩ (.cons ru .nil),⟨_,U,Z,_,Z⟩⟩
  have I1:Inv X pins σ (upd H s.heap.objs.size (.tup [.int (i:Nat),x])) {s with heap:=D,toks:=s.toks+1}:=
   I.nF (ch:=[e,n]) (fun b ob B q=>(sb.2 b (fun z=>B (by simp[z]))).trans (hk b ob (fun z=>B (by simp[z])) (fun z=>B (by simp[z])) q)) L (Nat.le_refl _) new
  refine⟨.ref s.heap.objs.size,_,I1,Z,⟨_,x,Z,I.bj.fresh (Nat.le_refl _),Z,fun ys hy=>by rw[I.qh hy M];exact hx⟩,⟨⟨u,?_⟩,J.at fun o q=>(sb.2 n (Ne.symm j)).trans q,j⟩,fun b B=>?_⟩
  ·have e1:((i+1:Nat):Int)=(i:Int)+1:=by omega
   rw[e1];exact a1
  ·have Y:b<s.heap.objs.size:=by
    have N:b=e∨b=n:=by simpa using B
    rcases N with z|z
    ·rw[z];exact G
    ·rw[z];exact a2
   rw[aw (Nat.ne_of_lt Y)];exact(L b B).1
 done:=by intro X S hw O hc i pins s σ H E I L st hg;subst S hw O;obtain⟨⟨old,he⟩,hit,j⟩:=st;obtain⟨xs,M,hx⟩:=hg;obtain⟨b1,rv,p,hz⟩:=I.list M;obtain⟨f0,f1,f2,f3,f4,f5⟩:=L n (by simp);have hl:=rv.length;exact wpAny_pyNext_enum_end (I.ok.hd hc) he hit p.isList (by simp;omega) fun h' eb=>⟨Z,I.turned (t':=s.toks) (fun b o B q=>eb b o B q) f0 f1 f3 f4 f5⟩
 self:=fun A i s Q E st h=>let⟨⟨_,he⟩,_⟩:=st;wpAny_pyIter_enum he h
def PF(K:Frag)(ta:TA):TI:=fun σ H R=>ta σ H fun j H1=>∃a xs,j=[.ref a]∧aT K H1 a xs∧R (MC K a) H1
theorem gX{X:Cx}{e:Expr}{ta:TA}{p pos tpos:Pos}{n:List Expr}{W:Nat}(M:Gl X "enumerate")(hm:X.mg "enumerate"=none)(ha:PA X [e] ta)(S:starEach [e] X.env=[(false,eval e X.env)]:=by rfl):
  PI X (.Tuple n W tpos) (.Call (.Name "enumerate" p) [e] [] pos) (PF X.K ta):=by
 intro pins s σ H R I h;refine Call_ (mx I M hm boot_enumerate (PyProof.Rows.callWith_type1 (bO (ha pos pins s σ H _ I h) fun us j ⟨vs,H1,I1,r1,q1⟩=>?_) S Z));obtain⟨a,xs,ex,O,q⟩:=q1;subst ex;cases r1 with
 |cons r rr=>
  cases rr;cases r;obtain⟨U,rv,Y,hz⟩:=I1.list O;refine call_enumerate_list Y.isList fun h' F D _ N=>wpAny_pyIter_enum F ?_;have G:Inv X pins σ H1 {j with heap:=h'}:=I1.kept (t':=j.toks) N;refine⟨j.heap.objs.size+1,[j.heap.objs.size+1,j.heap.objs.size],_,_,H1,Z,G,IT a (j.heap.objs.size+1) j.heap.objs.size,⟨⟨.none,F⟩,D,Nat.succ_ne_self _⟩,fun b L=>?_,q⟩;have J:b=j.heap.objs.size+1∨b=j.heap.objs.size:=by simpa using L
  have B:j.heap.objs.size≤b:=by
   rcases J with z|z
   ·rw[z];exact Nat.le_add_right _ _
   ·rw[z];exact Nat.le_refl _
  exact I1.Ds B (I1.bj.fresh B)
theorem Hn:bootBuiltins "zip"=some (.type "zip"):=by decide +kernel
def OB(K:Frag)(a b:Addr):It:=
 ⟨fun i H=>∃(xs ys:List V) (x y:V),aT K H a xs∧aT K H b ys∧xs[i]?=some x∧ys[i]?=some y,
  fun i H v H'=>∃T x y,v=.ref T∧H T=none∧H'=upd H T (.tup [x,y])∧(∀xs,aT K H a xs→xs[i]?=some x)∧∀ys,aT K H b ys→ys[i]?=some y,
  fun i H=>∃xs ys:List V,aT K H a xs∧aT K H b ys∧(xs.length≤i∨ys.length≤i)⟩
theorem KG{P:Program}{w:World}{K:Frag}{a1:List Expr}{kk:Nat}{tpos:Pos}{a b z TI TO L M:Addr}(D:ZipApart z TI TO L M a b):
  Turn P w K (.Tuple a1 kk tpos) (OB K a b) [z,TI,TO,L,M] z (fun i h=>IsZip h z TI TO .none∧IsPair h TI (.ref L) (.ref M)∧(∃x y,IsPair h TO x y)∧h.IsListIter L a i∧h.IsListIter M b i) where
 mem:=by simp
 obj:=fun i h st c hc=>by
  obtain⟨N,j,⟨x,y,n⟩,⟨o1,e1,_,d1⟩,⟨o2,e2,_,d2⟩⟩:=st;have e':c=z∨c=TI∨c=TO∨c=L∨c=M:=by simpa using hc
  rcases e' with q|q|q|q|q
  ·rw[q];exact⟨_,N,fun v q=>nomatch q⟩
  ·rw[q];exact⟨_,j,fun v q=>nomatch q⟩
  ·rw[q];exact⟨_,n,fun v q=>nomatch q⟩
  ·rw[q];exact⟨o1,e1,fun v q=>by rw[d1]at q;cases q⟩
  ·rw[q];exact⟨o2,e2,fun v q=>by rw[d2]at q;cases q⟩
 keep:=fun i h h' st k=>by obtain⟨N,j,⟨x,y,n⟩,h1,h2⟩:=st;exact⟨k z (by simp) _ N,k TI (by simp) _ j,⟨x,y,k TO (by simp) _ n⟩,h1.at fun o q=>k L (by simp) o q,h2.at fun o q=>k M (by simp) o q⟩
 item:=by
  intro X hP hw hK hc i pins s σ H E I hf st hg;subst hP hw hK;obtain⟨N,j,⟨x0,y0,n⟩,h1,h2⟩:=st;obtain⟨xs,ys,x,y,G,J,hx,hy⟩:=hg;obtain⟨b3,rv,p,_⟩:=I.list G;obtain⟨O,U,p2,_⟩:=I.list J;obtain⟨u,hu,ru⟩:=rv.get hx;obtain⟨u2,c3,c4⟩:=U.get hy;have b2:z<s.heap.objs.size:=Heap.lt_size N;refine wpAny_pyNext_zip_item D N j n h1 h2 p.isList p2.isList (x:=u) (y:=u2) (by simpa using hu) (by simpa using c3) fun h' z' b9 c0 c1 hT _ hk=>?_;refine⟨_,Z,wpAny_letOwnedTupleGo_zip (s:={s with heap:=h'}) z' fun S c9 Y=>?_⟩;have c2:S.get? s.heap.objs.size=some {cls:=.type "tuple",data:=.seq #[u,u2]}:=(Y.2 _ (Nat.ne_of_gt b2)).trans hT;have new:b8 X.prog X.w (upd H s.heap.objs.size (.tup [x,y])) S s.heap.objs.size (.tup [x,y]):=
   ⟨by show 2≤sizeLine;decide,[u,u2],.cons ru (.cons c4 .nil),⟨_,c2,Z,_,Z⟩⟩
  have I1:Inv X pins σ (upd H s.heap.objs.size (.tup [x,y])) {s with heap:=S}:=
   I.nF (t':=s.toks) (ch:=[z,TI,TO,L,M]) (fun c o F q=>(Y.2 c (fun B=>F (by simp[B]))).trans (hk c o (fun B=>F (by simp[B])) (fun B=>F (by simp[B])) (fun B=>F (by simp[B])) (fun B=>F (by simp[B])) q)) hf (Nat.le_refl _) new
  refine⟨.ref s.heap.objs.size,_,I1,Z,⟨_,x,y,Z,I.bj.fresh (Nat.le_refl _),Z,fun l hl=>by rw[I.qh hl G];exact hx,fun l hl=>by rw[I.qh hl J];exact hy⟩,⟨c9,?_,⟨u,u2,?_⟩,?_,?_⟩,fun c a2=>?_⟩
  ·exact(Y.2 _ D.TIz).trans (hk _ _ D.TIz D.TITO D.TIi1 D.TIi2 j)
  ·exact(Y.2 _ D.TOz).trans b9
  ·exact c0.at fun o q=>(Y.2 _ D.i1z).trans q
  ·exact c1.at fun o q=>(Y.2 _ D.i2z).trans q
  ·have bL:c<s.heap.objs.size:=by
    have e':c=z∨c=TI∨c=TO∨c=L∨c=M:=by simpa using a2
    rcases e' with q|q|q|q|q
    ·rw[q];exact b2
    ·rw[q];exact Heap.lt_size j
    ·rw[q];exact Heap.lt_size n
    ·rw[q];obtain⟨_,e1,_⟩:=h1;exact Heap.lt_size e1
    ·rw[q];obtain⟨_,e2,_⟩:=h2;exact Heap.lt_size e2
   rw[aw (Nat.ne_of_lt bL)];exact(hf c a2).1
 done:=by
  intro X hP hw hK hc i pins s σ H E I hf st hg;subst hP hw hK;obtain⟨N,j,⟨x0,y0,n⟩,h1,h2⟩:=st;obtain⟨xs,ys,G,J,b1⟩:=hg;obtain⟨b3,rv,p,_⟩:=I.list G;obtain⟨O,U,p2,_⟩:=I.list J;have l1:=rv.length;have l2:=U.length;have he:b3.toArray[i]?=none∨O.toArray[i]?=none:=by
   rcases b1 with q|q
   ·exact .inl (by simp;omega)
   ·exact .inr (by simp;omega)
  exact wpAny_pyNext_zip_end (I.ok.hd hc) D N j n h1 h2 p.isList p2.isList he fun h' hk=>⟨Z,I.Ms (t':=s.toks) (ch:=[z,TI,TO,L,M]) (fun c o F q=>
   hk c o (fun B=>F (by simp[B])) (fun B=>F (by simp[B])) (fun B=>F (by simp[B])) (fun B=>F (by simp[B])) q) hf⟩
 self:=fun A i s Q E st h=>wpAny_pyIter_zip st.1 h
def QX(K:Frag)(ta:TA):TI:=fun σ H R=>ta σ H fun j H1=>∃a b xs ys,j=[.ref a,.ref b]∧aT K H1 a xs∧aT K H1 b ys∧R (OB K a b) H1
theorem FV{X:Cx}{e n:Expr}{ta:TA}{p pos tpos:Pos}{B:List Expr}{kk:Nat}(hg:Gl X "zip")(hm:X.mg "zip"=none)(ha:PA X [e,n] ta)
 (hs:starEach [e,n] X.env=(false,eval e X.env)::starEach [n] X.env:=by rfl)(hpl:(backTo pos (starEach [n] X.env)).any (·.1)=false:=by rfl):
  PI X (.Tuple B kk tpos) (.Call (.Name "zip" p) [e,n] [] pos) (QX X.K ta):=by
 intro pins s σ H R I h;refine Call_ (mx I hg hm Hn (PyProof.Rows.callWith_type1 (bO (ha pos pins s σ H _ I h) fun us j ⟨vs,H1,I1,r1,q1⟩=>?_) hs hpl));obtain⟨a,b,xs,ys,ex,L,M,q⟩:=q1;subst ex;cases r1 with
 |cons r N=>
  cases N with
  |cons r' N=>
   cases N;cases r;cases r';obtain⟨a1,rv,U,_⟩:=I1.list L;obtain⟨S,a2,p2,_⟩:=I1.list M;have la:a<j.heap.objs.size:=U.lt;have lb:b<j.heap.objs.size:=p2.lt;refine call_zip_2 U.isList p2.isList fun h' O F G h1 h2 _ hk=>wpAny_pyIter_zip O ?_;have Y:Inv X pins σ H1 {j with heap:=h'}:=I1.kept (t':=j.toks) hk;refine⟨j.heap.objs.size+4,[j.heap.objs.size+4,j.heap.objs.size+2,j.heap.objs.size+3,j.heap.objs.size,j.heap.objs.size+1],_,_,H1,Z,Y,KG (PySem.W.ktu_apart j.heap.objs.size a b la lb),⟨O,F,⟨_,_,G⟩,h1,h2⟩,fun c J=>?_,q⟩;have e':c=j.heap.objs.size+4∨c=j.heap.objs.size+2∨c=j.heap.objs.size+3∨c=j.heap.objs.size∨c=j.heap.objs.size+1:=by simpa using J
   have D:j.heap.objs.size≤c:=by
    rcases e' with z|z|z|z|z
    ·rw[z];exact Nat.le_add_right _ _
    ·rw[z];exact Nat.le_add_right _ _
    ·rw[z];exact Nat.le_add_right _ _
    ·rw[z];exact Nat.le_refl _
    ·rw[z];exact Nat.le_add_right _ _
   exact I1.Ds D (I1.bj.fresh D)
end L2
section
namespace Bits
open PySem PyProof.Rows
end Bits
end
section
namespace TL
open PySem PySem.Builtin PySem.Builtin.Str PySem.StrLaws
abbrev tl(x:Str):List Nat:=x.cps.toList
theorem kU(x:Str):x.length=(tl x).length:=by simp[tl,Str.length]
theorem Bg(h:tl x=tl y):x=y:=Str.ext' (Array.toList_inj.mp h)
theorem sE(x y:Str):tl (x++y)=tl x++tl y:=by show(x++y).cps.toList=_;rw[Str.cps_append,Array.toList_append]
theorem wH:∀{l m:List Str},l.map tl=m.map tl→l=m
 |[],[],_=>rfl
 |[],_::_,h=>by simp at h
 |_::_,[],h=>by simp at h
 |x::l,y::m,h=>by
  rw[map_cons,map_cons]at h;injection h with h1 h2
  rw[Bg h1,wH h2]
theorem uf(s:String):tl (Str.ofString s)=s.toList.map Char.toNat:=PyProof.Rows.signs_ofString s
def pre(S l:List Nat):Bool:=l.take S.length==S
noncomputable def qT(S:List Nat):Nat→List Nat→List Nat→List (List Nat)
 |_,acc,[]=>[acc]
 |0,acc,c::r=>if pre S (c::r)=true then acc::qT S (S.length-1) [] r else qT S 0 (acc++[c]) r
 |k+1,acc,_::r=>qT S k acc r
def par(S:List Nat):List Nat→List Nat→Option (List Nat×List Nat)
 |_,[]=>none
 |acc,c::r=>if pre S (c::r)=true then some (acc,(c::r).drop S.length)else par S (acc++[c]) r
theorem vi(S:List Nat)(k:Nat)(acc:List Nat):qT S k acc []=[acc]:=by cases k<;>rfl
theorem G6{S acc r:List Nat}{c:Nat}(h:pre S (c::r)=true):qT S 0 acc (c::r)=acc::qT S (S.length-1) [] r:=by show(if pre S (c::r)=true then acc::qT S (S.length-1) [] r else qT S 0 (acc++[c]) r)=_;rw[if_pos h]
theorem Eu{c:Nat}(h:pre S (c::r)=false):qT S 0 acc (c::r)=qT S 0 (acc++[c]) r:=by show(if pre S (c::r)=true then acc::qT S (S.length-1) [] r else qT S 0 (acc++[c]) r)=_;rw[if_neg (by rw[h];exact Bool.false_ne_true)]
theorem Ew(S:List Nat):∀(k:Nat) (acc l:List Nat),qT S k acc l=qT S 0 acc (l.drop k)
 |0,_,_=>by rw[drop_zero]
 |k+1,acc,[]=>by rw[List.drop_nil,vi,vi]
 |k+1,acc,c::r=>by show qT S k acc r=qT S 0 acc (r.drop k);exact Ew S k acc r
theorem GR{S acc r:List Nat}{c:Nat}(h:pre S (c::r)=true):par S acc (c::r)=some (acc,(c::r).drop S.length):=by show(if pre S (c::r)=true then some (acc,(c::r).drop S.length)else par S (acc++[c]) r)=_;rw[if_pos h]
theorem D_{c:Nat}(h:pre S (c::r)=false):par S acc (c::r)=par S (acc++[c]) r:=by show(if pre S (c::r)=true then some (acc,(c::r).drop S.length)else par S (acc++[c]) r)=_;rw[if_neg (by rw[h];exact Bool.false_ne_true)]
theorem GY(j:S≠[]):pre S []=false:=by
 cases S with
 |nil=>exact absurd Z j
 |cons s S=>rfl
theorem ju{L:List Nat}(h:a<L.length):∃c,L.drop a=c::L.drop (a+1):=⟨L[a],List.drop_eq_getElem_cons h⟩
theorem Cp(S L:List Nat):∀(m a:Nat) (acc:List Nat),a+m≤L.length→(∀k,a≤k→k<a+m→pre S (L.drop k)=false)→
  qT S 0 acc (L.drop a)=qT S 0 (acc++(L.drop a).take m) (L.drop (a+m))
 |0,a,acc,_,_=>by rw[take_zero,append_nil,Nat.add_zero]
 |m+1,a,acc,h,hn=>by
  have bL:a<L.length:=by omega
  obtain⟨c,e⟩:=ju bL;have j:=hn a (Nat.le_refl _) (by omega);have n:=Cp S L m (a+1) (acc++[c]) (by omega) (fun k h1 h2=>hn k (by omega) (by omega));have q:a+1+m=a+(m+1):=by omega
  rw[q]at n;rw[e]at j;rw[e,Eu j,n,List.take_succ_cons,append_assoc]<;>rfl
theorem B6(S L:List Nat):∀(m a:Nat) (acc:List Nat),a+m≤L.length→(∀k,a≤k→k<a+m→pre S (L.drop k)=false)→
  par S acc (L.drop a)=par S (acc++(L.drop a).take m) (L.drop (a+m))
 |0,a,acc,_,_=>by rw[take_zero,append_nil,Nat.add_zero]
 |m+1,a,acc,h,hn=>by
  have bL:a<L.length:=by omega
  obtain⟨c,e⟩:=ju bL;have j:=hn a (Nat.le_refl _) (by omega);have n:=B6 S L m (a+1) (acc++[c]) (by omega) (fun k h1 h2=>hn k (by omega) (by omega));have q:a+1+m=a+(m+1):=by omega
  rw[q]at n;rw[e]at j;rw[e,D_ j,n,List.take_succ_cons,append_assoc]<;>rfl
theorem Dc(L:List Nat)(a b:Nat):(L.drop a).drop b=L.drop (a+b):=by
 first
  |rw[drop_drop]
  |rw[drop_drop,Nat.add_comm]
theorem N3{S L:List Nat}(j:S≠[])(h:pre S (L.drop c)=true):qT S 0 acc (L.drop c)=acc::qT S 0 [] (L.drop (c+S.length)):=by
 rw[← Dc];cases e:L.drop c with
 |nil=>rw[e,GY j]at h;cases h
 |cons d r=>
  rw[e]at h;rw[G6 h,Ew];cases S with
  |nil=>exact absurd Z j
  |cons s S=>rfl
theorem NW{S L:List Nat}(j:S≠[])(h:pre S (L.drop c)=true):par S acc (L.drop c)=some (acc,L.drop (c+S.length)):=by
 rw[← Dc];cases e:L.drop c with
 |nil=>rw[e,GY j]at h;cases h
 |cons d r=>
  rw[e]at h;rw[GR h]
theorem E6{x y:Str}(q:tl y≠[])(i:Nat):At x y x.length i↔pre (tl y) ((tl x).drop i)=true:=by
 have B:=kU x;have j:=kU y;constructor
 ·intro h;have h2:=h.2;rw[subAt_eq,j]at h2;exact h2
 ·intro h;have e:((tl x).drop i).take (tl y).length=tl y:=eq_of_beq h;have n:=congrArg List.length e;rw[length_take,length_drop]at n;have z:0<(tl y).length:=length_pos_iff.mpr q;refine⟨by omega,?_⟩;rw[subAt_eq,j];exact h
theorem GM{x y:Str}(n:tl y≠[])(h:¬At x y x.length i):pre (tl y) ((tl x).drop i)=false:=by
 cases j:pre (tl y) ((tl x).drop i)with
 |false=>rfl
 |true=>exact absurd ((E6 n i).mpr j) h
theorem QZ{y:Str}(n:tl y≠[]):1≤y.length:=by have j:0<(tl y).length:=length_pos_iff.mpr n;rw[kU y];exact j
theorem sF(x:Str)(i j:Nat):tl (strSub x i j)=((tl x).drop i).take (j-i):=strSub_toList x i j
theorem oG(x:Str)(i:Nat):tl (strSub x i x.length)=(tl x).drop i:=by rw[sF,kU x];exact take_of_length_le (by rw[length_drop]<;>omega)
theorem Af{x y:Str}(n:tl y≠[]):∀(j:List Nat) (a f:Nat),a≤(tl x).length→ChainG x y x.length a j f→(∀k,f≤k→¬At x y x.length k)→
  (partsFrom x y.length a j).map tl=qT (tl y) 0 [] ((tl x).drop a)
 |[],a,f,ha,h,hn=>by
  have e:f=a:=h;subst e;show[tl (strSub x f x.length)]=_;have run:=Cp (tl y) (tl x) ((tl x).length-f) f [] (by omega) (fun k h1 _=>GM n (hn k h1));have q:f+((tl x).length-f)=(tl x).length:=by omega
  rw[q,drop_length,vi,nil_append,take_of_length_le (by rw[length_drop]<;>omega)]at run;rw[run,oG]
 |c::r,a,f,ha,h,hn=>by
  obtain⟨h1,h2,h3,z⟩:=h;have G:c+y.length≤x.length:=h2.1;have I:=kU x;have B:=kU y;have D:=Af n r (c+y.length) f (by omega) z hn;show tl (strSub x a c)::(partsFrom x y.length (c+y.length) r).map tl=_;have run:=Cp (tl y) (tl x) (c-a) a [] (by omega) (fun k F _=>GM n (h3 k F (by omega)));have q:a+(c-a)=c:=by omega
  rw[q,nil_append,N3 n ((E6 n c).mp h2)]at run;rw[run,D,sF,B]
theorem IG(x y:Str)(z:tl y≠[])(B:¬Builtin.Str.strKind x<Builtin.Str.strKind y):(Txt.split x y).map tl=qT (tl y) 0 [] (tl x):=by
 obtain⟨f,g,hn⟩:=occ_tight x y (QZ z);have n:=Af z _ 0 f (Nat.zero_le _) g hn;rw[drop_zero]at n;have j:occurrences x y 0 x.length (x.length+1)=[]→[x].map tl=qT (tl y) 0 [] (tl x):=fun q=>by rw[q]at n;rw[← n];show[tl x]=[tl (strSub x 0 x.length)];rw[sub_whole]
 unfold Txt.split;by_cases h1:(decide (x.length<y.length)||decide (Builtin.Str.strKind x<Builtin.Str.strKind y))=true
 ·rw[if_pos h1];have bL:x.length<y.length:=by
   simp only[Bool.or_eq_true,decide_eq_true_eq]at h1;rcases h1 with h|h
   ·exact h
   ·exact absurd h B
  refine j ?_;cases q:occurrences x y 0 x.length (x.length+1)with
  |nil=>rfl
  |cons c r=>
   rw[q]at g;have D:c+y.length≤x.length:=g.2.1.1;omega
 ·rw[if_neg h1];by_cases h2:(occurrences x y 0 x.length (x.length+1)).isEmpty=true
  ·rw[if_pos h2];exact j (List.isEmpty_iff.mp h2)
  ·rw[if_neg h2,partsBetween_eq];exact n
theorem LD{x y:Str}(h:y.cps.all (·<256)=true):¬Builtin.Str.strKind x<Builtin.Str.strKind y:=by
 have e:Builtin.Str.strKind y=1:=by unfold PySem.Builtin.Str.strKind;rw[if_pos h]
 rw[e];unfold PySem.Builtin.Str.strKind;split
 ·omega
 ·split<;>omega
theorem y8(x y:Str)(j:tl y≠[]):
  Txt.partition x y=(match par (tl y) [] (tl x)with|some (a,b)=>(⟨a.toArray⟩,y,⟨b.toArray⟩)|none=>(x,Str.empty,Str.empty)):=by
 have D:=kU x;have z:=kU y;rcases PyProof.Rows.partition_whole x y with⟨e,hn⟩|⟨i,e,hi,hn⟩
 ·have run:=B6 (tl y) (tl x) (tl x).length 0 [] (by omega) (fun k _ _=>GM j (hn k));rw[drop_zero,Nat.zero_add,drop_length]at run;rw[e,run]<;>rfl
 ·have B:i+y.length≤x.length:=hi.1;have run:=B6 (tl y) (tl x) i 0 [] (by omega) (fun k _ _=>GM j (hn k (by omega)));rw[drop_zero,Nat.zero_add,nil_append,NW j ((E6 j i).mp hi)]at run;rw[e,run];have n:strSub x 0 i=⟨((tl x).take i).toArray⟩:=Bg (by rw[sF,drop_zero,Nat.sub_zero]);have q:strSub x (i+y.length) x.length=⟨((tl x).drop (i+(tl y).length)).toArray⟩:=Bg (by rw[oG,z]);rw[n,q]<;>rfl
def wo(S:List Nat):List (List Nat)→List Nat
 |[]=>[]
 |[p]=>p
 |p::q::r=>p++(S++wo S (q::r))
theorem Cu(y:Str):∀j:List Str,tl (Str.join y j)=wo (tl y) (j.map tl)
 |[]=>rfl
 |[_]=>rfl
 |x::z::r=>by show tl (x++y++Str.join y (z::r))=tl x++(tl y++wo (tl y) ((z::r).map tl));rw[sE,sE,Cu y (z::r),append_assoc]
theorem join_eq(y:Str)(j:List Str):Txt.join y j=Str.join y j:=glued_eq_join y j
end TL
end
namespace L2
open PySem PySem.Spec PyProof.Rows
theorem AB:∀l:List (Str×Tok),Vals ((l.map (·.1)).map V.str) (strValues l)
 |[]=>.nil
 |p::r=>.cons ⟨p.2,Z⟩ (AB r)
theorem ly:∀{ys:List Str} {us:List Value},Vals (ys.map V.str) us→StrsAre us ys
 |[],_,.nil=>.nil
 |y::ys,_,.cons r t=>by obtain⟨k,rfl⟩:=r;exact .cons y k (ly t)
def xC(ys:List Str):Hp→VK→Prop:=fun H Q=>∀p,H p=none→Q (.ref p) (upd H p (.lst (ys.map V.str)))
section
variable {X:Cx} {pins:List (Addr×Obj)} {σ:St} {H:Hp} {s:Shared} {Q:VK}
theorem rJ{l:List (Str×Tok)}{ys:List Str}{k:Nat}(I:Inv X pins σ H s)(e:l.map (·.1)=ys)(n:ys.length≤sizeLine)(h:xC ys H Q):
  EP X pins σ Q (.ref s.heap.objs.size) {s with toks:=k,heap:=s.heap.push {cls:=.type "list",data:=.seq (strValues l).toArray}}:=by
 have j:=I.bj.fresh (Nat.le_refl _);refine⟨.ref s.heap.objs.size,upd H s.heap.objs.size (.lst (ys.map V.str)),I.laid (fun b u q=>Heap.get?_push_of_some _ q) (Nat.le_refl _) ⟨by rw[length_map];exact n,strValues l,_,?_,Heap.get?_push_size _ Z⟩,Z,h _ j⟩;rw[← e];exact AB l
theorem wz{t u v:Tok}{k:Nat}(I:Inv X pins σ H s)(h:∀p,H p=none→Q (.ref p) (upd H p (.tup [.str x,.str y,.str z]))):
  EP X pins σ Q (.ref s.heap.objs.size) {s with toks:=k,heap:=s.heap.push {cls:=.type "tuple",data:=.seq [Value.str x t,.str y u,.str z v].toArray}}:=by
 have j:=I.bj.fresh (Nat.le_refl _);exact⟨.ref s.heap.objs.size,upd H s.heap.objs.size (.tup [.str x,.str y,.str z]),I.laid (fun b u q=>Heap.get?_push_of_some _ q) (Nat.le_refl _)
  ⟨by show 3≤sizeLine;decide,[Value.str x t,.str y u,.str z v],.cons ⟨t,Z⟩ (.cons ⟨u,Z⟩ (.cons ⟨v,Z⟩ .nil)),_,Heap.get?_push_size _ Z,Z,_,Z⟩,Z,h _ j⟩
end
section
variable {X:Cx}
theorem J5:KZ X "str.split" (fun x xs H Q=>∃a b,x=.str a∧xs=[.str b]∧(b.length==0)=false∧a.length+2≤sizeLine∧xC (Txt.split a b) H Q):=by
 intro pins s σ H x xs v G Q I B n h;obtain⟨a,b,rfl,rfl,q,hz,h⟩:=h;obtain⟨t,rfl⟩:=B;cases n with
 |cons z n=>
  cases n;obtain⟨u,rfl⟩:=z;have j:(Txt.split a b).length≤sizeLine:=Nat.le_trans (PyProof.Rows.split_le a b) hz;have hn:(Builtin.Str.partsBetween a (Builtin.Str.occurrences a b 0 a.length (a.length+1)) b.length).length≤sizeLine:=by have D:=StrLaws.occ_length_le a b 0 a.length (a.length+1);rw[length_partsBetween];omega
  cases h1:(decide (a.length<b.length)||decide (Builtin.Str.strKind a<Builtin.Str.strKind b))
  ·cases hf:(Builtin.Str.occurrences a b 0 a.length (a.length+1)).isEmpty
   ·refine call_meets F.slot_str_split (typeIs_str _ _ _) F.entry_str_split (F.args_str_split_2 _ _) (meets_str_split_sep a b t u h1 q hf (by omega) hn) ?_;show EP X pins σ Q (.ref s.heap.objs.size) {s with toks:=_,heap:=s.heap.push {cls:=.type "list",data:=.seq (strsFrom s.toks (Builtin.Str.partsBetween a (Builtin.Str.occurrences a b 0 a.length (a.length+1)) b.length)).toArray}};rw[strsFrom_eq];exact rJ (ys:=Txt.split a b) I ((numbered_texts _ _).trans ((if_neg (ne_true_of_eq_false h1)).trans (if_neg (ne_true_of_eq_false hf))).symm) j h
   ·refine call_meets F.slot_str_split (typeIs_str _ _ _) F.entry_str_split (F.args_str_split_2 _ _) (meets_str_split_not_found a b t u h1 q hf) ?_;exact rJ (l:=[(a,t)]) (ys:=Txt.split a b) (k:=s.toks) I ((if_neg (ne_true_of_eq_false h1)).trans (if_pos hf)).symm j h
  ·refine call_meets F.slot_str_split (typeIs_str _ _ _) F.entry_str_split (F.args_str_split_2 _ _) (meets_str_split_cannot_occur a b t u h1) ?_;exact rJ (l:=[(a,t)]) (ys:=Txt.split a b) (k:=s.toks) I (if_pos h1).symm j h
theorem BO:KZ X "str.partition" (fun x xs H Q=>∃a b,x=.str a∧xs=[.str b]∧(b.length==0)=false∧a.length≤sizeLine∧
  ∀p,H p=none→Q (.ref p) (upd H p (.tup [.str (Txt.partition a b).1,.str (Txt.partition a b).2.1,.str (Txt.partition a b).2.2]))):=by
 intro pins s σ H x xs v B Q I z j h;obtain⟨a,b,rfl,rfl,n,hz,h⟩:=h;obtain⟨t,rfl⟩:=z;cases j with
 |cons q j=>
  cases j;obtain⟨u,rfl⟩:=q;refine call_meets F.slot_str_partition (typeIs_str _ _ _) F.entry_str_partition (F.args_str_partition_2 _ _) (meets_str_partition a b t u n hz) ?_;unfold Txt.partition at h;revert h;cases Builtin.Str.occurrences a b 0 a.length 1 with
  |nil=>intro h;exact wz I h
  |cons i r=>intro h;exact wz I h
theorem LN:KZ X "str.join" (fun x xs H Q=>∃a p,∃ys:List Str,x=.str a∧xs=[.ref p]∧(aT X.K H p (ys.map V.str)∨h9 X.K H p (ys.map V.str))∧
  (ys.map (·.length)).sum+ys.length*a.length≤16777216∧Q (.str (Txt.join a ys)) H):=by
 intro pins s σ H x xs v M Q I L z h;obtain⟨a,p,ys,rfl,rfl,q,hz,h⟩:=h;obtain⟨t,rfl⟩:=L;cases z with
 |cons J z=>
  cases z;cases J;rcases q with q|q
  ·obtain⟨j,r,⟨o,n,F,D,_,hd⟩,_⟩:=I.list q;exact PyProof.Rows.join_list (items:=j.toArray) ⟨o,F,D,n,hd⟩ (by rw[List.toList_toArray];exact ly r) hz fun B k=>⟨.str _,H,I.tok k,⟨B,Z⟩,h⟩
  ·obtain⟨j,r,G,_⟩:=I.tuple q;exact PyProof.Rows.join_tuple (items:=j.toArray) G (by rw[List.toList_toArray];exact ly r) hz fun B k=>⟨.str _,H,I.tok k,⟨B,Z⟩,h⟩
theorem RK{id:String}{g:Str→Str→V}(rule:∀(a b:Str) (t u:Tok) (s:Shared) (Q:Value→Shared→Prop),(∀(v:Value) (k:Nat),RelV (g a b) v→Q v {s with toks:=k})→
  wpAny (model X.prog X.w) X.A (call (.builtin id) [.str a t,.str b u]) Q X.xe s):KZ X id (fun x xs H Q=>∃a b,x=.str a∧xs=[.str b]∧Q (g a b) H):=by
 intro pins s σ H x xs v z Q I q j h;obtain⟨a,b,rfl,rfl,h⟩:=h;obtain⟨t,rfl⟩:=q;cases j with
 |cons n j=>
  cases j;obtain⟨u,rfl⟩:=n;exact rule a b t u s _ fun v k r=>⟨g a b,H,I.tok k,r,h⟩
theorem yK:KZ X "str.startswith" (fun x xs H Q=>∃a b,x=.str a∧xs=[.str b]∧Q (.bl (Txt.startswith a b)) H):=
 RK (g:=fun a b=>.bl (Txt.startswith a b)) fun _ _ _ _ s _ h=>PySem.SC.startswith (h _ s.toks Z)
theorem DL:KZ X "str.endswith" (fun x xs H Q=>∃a b,x=.str a∧xs=[.str b]∧Q (.bl (Txt.endswith a b)) H):=
 RK (g:=fun a b=>.bl (Txt.endswith a b)) fun _ _ _ _ s _ h=>PySem.SC.endswith (h _ s.toks Z)
theorem ir:iG X (.type "int") (fun xs H Q=>∃a n,xs=[.str a]∧PySem.intText? a=some n∧a.length≤640∧Q (.int n) H):=by
 intro pins s σ H xs B Q I j h;obtain⟨a,n,rfl,hn,q,h⟩:=h;cases j with
 |cons z j=>
  cases j;obtain⟨t,rfl⟩:=z;exact PySem.W.KIN.call_text hn q ⟨.int n,H,I.tok _,⟨_,Z⟩,h⟩
end
section
variable {X:Cx} {o e:Expr} {to te:TE}
def QA(r:V→List V→Hp→VK→Prop)(to te:TE):TE:=fun σ H Q=>to σ H fun x H1=>(∃a,x=.str a)∧te σ H1 fun y H2=>r x [y] H2 Q
theorem Ec{id:String}{name:Str}{apos pos:Pos}{r:V→List V→Hp→VK→Prop}(slot:Slot "str" name id)(ty:typeOf (.builtin id)=pure (.type "method_descriptor"))(rule:KZ X id r)(G:PE X o to)(he:PE X e te)
 (J:starEach [e] X.env=[(false,eval e X.env)]:=by rfl)(j:attributeBase o name X.env (eval o X.env)=eval o X.env:=by rfl)(n:(apos.endLine==pos.line)=true:=by rfl):
  PE X (.Call (.Attribute o name apos) [e] [] pos) (QA r to te):=by
 intro pins s σ H Q I h;refine PySem.Call_method1 j J n (bO (G pins s σ H _ I h) fun v N ⟨x,H1,B,z,q⟩=>?_);obtain⟨⟨a,rfl⟩,q⟩:=q;obtain⟨t,rfl⟩:=_root_.id z;refine⟨"str",_,F.plainAttrs_str,slot,ty,typeIs_str _ _ _,(fun _ e=>nomatch e),Calls.callWith_builtin Z (Calls.evalArgs_plain (Calls.spliced_cons ?_))⟩;exact bO (he pins N σ H1 _ B q) fun u O ⟨y,H2,D,M,L⟩=>Calls.spliced_nil (rule pins O σ H2 _ [y] _ [u] Q D z (.cons M .nil) L)
theorem Ed{apos pos:Pos}(q:PE X o to)(he:PE X e te)(z:starEach [e] X.env=[(false,eval e X.env)]:=by rfl)(j:attributeBase o "split" X.env (eval o X.env)=eval o X.env:=by rfl)(n:(apos.endLine==pos.line)=true:=by rfl):
  PE X (.Call (.Attribute o "split" apos) [e] [] pos) (QA (fun x xs H Q=>∃a b,x=.str a∧xs=[.str b]∧(b.length==0)=false∧a.length+2≤sizeLine∧xC (Txt.split a b) H Q) to te):=
 Ec F.slot_str_split F.type_str_split J5 q he z j n
theorem B8{apos pos:Pos}(q:PE X o to)(he:PE X e te)(z:starEach [e] X.env=[(false,eval e X.env)]:=by rfl)(j:attributeBase o "partition" X.env (eval o X.env)=eval o X.env:=by rfl)(n:(apos.endLine==pos.line)=true:=by rfl):
  PE X (.Call (.Attribute o "partition" apos) [e] [] pos) (QA (fun x xs H Q=>∃a b,x=.str a∧xs=[.str b]∧(b.length==0)=false∧a.length≤sizeLine∧
   ∀p,H p=none→Q (.ref p) (upd H p (.tup [.str (Txt.partition a b).1,.str (Txt.partition a b).2.1,.str (Txt.partition a b).2.2]))) to te):=
 Ec F.slot_str_partition F.type_str_partition BO q he z j n
theorem vf{apos pos:Pos}(q:PE X o to)(he:PE X e te)(z:starEach [e] X.env=[(false,eval e X.env)]:=by rfl)(j:attributeBase o "join" X.env (eval o X.env)=eval o X.env:=by rfl)(n:(apos.endLine==pos.line)=true:=by rfl):
  PE X (.Call (.Attribute o "join" apos) [e] [] pos) (QA (fun x xs H Q=>∃a p,∃ys:List Str,x=.str a∧xs=[.ref p]∧(aT X.K H p (ys.map V.str)∨h9 X.K H p (ys.map V.str))∧
   (ys.map (·.length)).sum+ys.length*a.length≤16777216∧Q (.str (Txt.join a ys)) H) to te):=
 Ec F.slot_str_join F.type_str_join LN q he z j n
end
end L2
namespace L2
open PySem PySem.Spec PyProof.Rows
section
variable {X:Cx}
theorem pj:qU X (compareOp .In) (fun x y H Q=>∃(c:Nat) (z:Str),x=.str ⟨#[c]⟩∧y=.str z∧Q (.bl (decide (c∈z.cps.toList))) H):=by intro pins s σ H x y v u Q I j n h;obtain⟨c,z,rfl,rfl,q⟩:=h;obtain⟨t,rfl⟩:=j;obtain⟨B,rfl⟩:=n;exact PyProof.Rows.in_str (bE I q (PySem.StrLaws.found_one z c).symm)
theorem y6:qU X (compareOp .NotIn) (fun x y H Q=>∃(c:Nat) (z:Str),x=.str ⟨#[c]⟩∧y=.str z∧Q (.bl (!decide (c∈z.cps.toList))) H):=by intro pins s σ H x y v u Q I j n h;obtain⟨c,z,rfl,rfl,q⟩:=h;obtain⟨t,rfl⟩:=j;obtain⟨B,rfl⟩:=n;exact PyProof.Rows.notIn_str (bE I q (congrArg Bool.not (PySem.StrLaws.found_one z c).symm))
end
theorem IsPart.raw(p:IsPart v o):∃l:Option (Int×Tok),v=partValue l∧l.map (·.1)=o:=by
 cases p with
 |none=>exact⟨none,Z,Z⟩
 |int i t=>exact⟨some (i,t),Z,Z⟩
def C0(n d:Nat):Option Int→Int
 |none=>(d:Int)
 |some i=>max 0 (min (if i<0 then i+(n:Int)else i) (n:Int))
theorem C2(n d:Nat)(o:Option Int):C0 n d o=((HT.gz n d o:Nat):Int):=by
 cases o with
 |none=>rfl
 |some v=>
  show max (0:Int) (min (if v<0 then v+(n:Int)else v) (n:Int))=(((if v<0 then(v+(n:Int)).toNat else min v.toNat n):Nat):Int);by_cases j:v<0
  ·simp only[if_pos j];omega
  ·simp only[if_neg j];omega
theorem Iz(a b:Option Int)(n:Nat):Builtin.Str.strSliceIndices a b 1 n=sliceRange (C0 n 0 a) (C0 n n b) 1:=by
 have h1:((1:Int)>0)=True:=by simp
 cases a<;>cases b<;>first
  |rfl
  |(simp only[Builtin.Str.strSliceIndices,C0,h1,if_true];rfl)
  |simp[Builtin.Str.strSliceIndices,C0]
theorem Rj(a b:Option Int)(n:Nat):Builtin.Str.strSliceIndices a b 1 n=(range (HT.gz n n b-HT.gz n 0 a)).map (fun k=>HT.gz n 0 a+k):=by
 rw[Iz,C2,C2];generalize HT.gz n 0 a=p;generalize HT.gz n n b=q;simp only[sliceRange,show((1:Int)>0)=True from by simp,if_true];by_cases bL:(p:Int)<q
 ·have j:(((q:Int)-p+1-1)/1).toNat=q-p:=by first|omega|(simp;done)|(simp;omega)
  simp only[bL,if_true,j];refine map_congr_left fun k _=>?_;omega
 ·have:q-p=0:=by omega
  simp[bL,this]
def Jw(z:Str)(lo hi:Option Int):Str:=
 ⟨((z.cps.toList.drop (HT.gz z.length 0 lo)).take (HT.gz z.length z.length hi-HT.gz z.length 0 lo)).toArray⟩
theorem oo(z:Str)(lo hi:Option Int):PySem.StrLaws.sliceText z lo hi=Jw z lo hi:=by
 have h1:HT.gz z.length 0 lo≤z.length:=HT.Kx _ _ (Nat.zero_le _) _;have h2:HT.gz z.length z.length hi≤z.length:=HT.Kx _ _ (Nat.le_refl _) _;have j:HT.gz z.length 0 lo≤max (HT.gz z.length 0 lo) (HT.gz z.length z.length hi):=Nat.le_max_left _ _;have n:max (HT.gz z.length 0 lo) (HT.gz z.length z.length hi)≤z.length:=Nat.max_le.mpr ⟨h1,h2⟩;have hd:max (HT.gz z.length 0 lo) (HT.gz z.length z.length hi)-HT.gz z.length 0 lo=HT.gz z.length z.length hi-HT.gz z.length 0 lo:=by omega
 have e:Builtin.Str.strSliceIndices lo hi 1 z.length=
   Builtin.Str.strSliceIndices (some ((HT.gz z.length 0 lo:Nat):Int)) (some ((max (HT.gz z.length 0 lo) (HT.gz z.length z.length hi):Nat):Int)) 1 z.length:=by
  rw[PySem.StrLaws.strSliceIndices_plain j n,hd,Rj]
 have q:PySem.StrLaws.sliceText z lo hi=
   PySem.StrLaws.sliceText z (some ((HT.gz z.length 0 lo:Nat):Int)) (some ((max (HT.gz z.length 0 lo) (HT.gz z.length z.length hi):Nat):Int)):=by
  unfold PySem.StrLaws.sliceText;rw[e]
 rw[q,PySem.StrLaws.sliceText_nat z j n,hd];rfl
theorem C4(z:Str)(lo hi:Option Int):(Jw z lo hi).length≤z.length:=by show(((z.cps.toList.drop (HT.gz z.length 0 lo)).take (HT.gz z.length z.length hi-HT.gz z.length 0 lo)).toArray).size≤z.cps.size;rw[size_toArray,length_take,length_drop,Array.length_toList];omega
inductive O3(x:V)(lo hi:Option Int)(H:Hp)(Q:VK):Prop
 |mk (z:Str) (e:x=.str z) (l:z.length≤sizeLine) (q:Q (.str (Jw z lo hi)) H):O3 x lo hi H Q
def Re:V→Option Int→Option Int→Hp→VK→Prop:=O3
theorem KB:QL X Re:=by
 intro pins s σ H x v vl O lo hi N Q I M G J L h;obtain⟨z,rfl,hz,q⟩:=h;obtain⟨t,rfl⟩:=M;obtain⟨os,D,j,n⟩:=G;obtain⟨l,rfl,rfl⟩:=IsPart.raw J;obtain⟨u,rfl,rfl⟩:=IsPart.raw L;refine⟨"str",_,F.slot_str_getitem.lookup,typeIs_str _ _ _,?_⟩;refine wpAny_getItem_str_slice (l:=l) (u:=u) (st:=none) ⟨os,D,j,n⟩ Z ?_;have B:(PySem.StrLaws.sliceText z (l.map (·.1)) (u.map (·.1))).length≤sizeLine:=by rw[oo];exact Nat.le_trans (C4 z _ _) hz
 rw[← oo]at q;unfold PySem.StrLaws.sliceText at q B;show Made.post (if((1:Int)==1&&(Builtin.Str.strSliceIndices (l.map (·.1)) (u.map (·.1)) 1 z.length).length==z.length)=true then Made.val (.str z t)
  else Made.str ⟨((Builtin.Str.strSliceIndices (l.map (·.1)) (u.map (·.1)) 1 z.length).filterMap (z.cps[·]?)).toArray⟩) (EP X pins σ Q) s
 by_cases c:((1:Int)==1&&(Builtin.Str.strSliceIndices (l.map (·.1)) (u.map (·.1)) 1 z.length).length==z.length)=true
 ·rw[if_pos c]at q ⊢;exact⟨.str z,H,I,⟨t,Z⟩,q⟩
 ·rw[if_neg c]at q B ⊢;exact⟨B,.str _,H,I.tok _,⟨_,Z⟩,q⟩
end L2
namespace Att
open PySem PySem.W PySem.Calls PyProof.Rows
end Att
namespace L2
open PySem PySem.Spec PyProof.Rows
end L2
namespace L2
open PySem PySem.Spec PyProof.Rows
end L2
namespace L2
open PySem PySem.Spec PyProof.Rows
def inClass(s:Stmt)(j:Nat):Stmt:=match s with
 |.ClassDef _ _ _ n _ _ _ _ _ _ _=>n.getD j (.Pass ⟨0,0,0,0⟩)
 |_=>.Pass ⟨0,0,0,0⟩
def gS(s:Stmt):Arguments:=match s with
 |.FunctionDef _ a _ _ _ _ _ _ _ _=>a
 |_=>{posonlyargs:=[],args:=[],vararg:=none,kwonlyargs:=[],kw_defaults:=[],kwarg:=none,defaults:=[]}
def cI(s:Stmt):List Stmt:=match s with
 |.FunctionDef _ _ b _ _ _ _ _ _ _=>b
 |_=>[]
def aL(s:Stmt):Scope:=match s with
 |.FunctionDef _ _ _ _ _ _ j _ _ _=>j
 |_=>{kind:=.function,names:=[],isGenerator:=false,isCoroutine:=false}
abbrev EY:Mw:=fun _ _ _ _ _ _=>False
abbrev E0:XK:=fun _ _ _=>False
theorem Ea:Passes EY X E0:=fun _ _ _ _ _ _ _ h=>h.elim
structure KU(K:Frag)(x qual:Str)(st:Stmt)(f:Addr)(fd:FuncData):Prop where
 ex:∃(oc:Value) (od:Option Addr) (kV doc pm:Value) (an:Option Addr) (cdv ct:Value) (osl:Array (Option Value)),
  fd=fnOf x qual (gS st) (cI st) (aL st) .none kV doc pm an cdv ct∧K.lookup f=some ⟨oc,od,.func fd,osl⟩∧codeIn K cdv qual=true
 kp:keepIn K (.ref f)=true
section
variable {P:Program} {w:World} {K:Frag} {mg:Str→Option Value} {base:Heap}
theorem KU.ok{x j:Str}{st:Stmt}{f:Addr}{fd:FuncData}{N ps:List Str}{k:Nat}{sp:Sp}(F:KU K x j st f fd)(S:eA N ps (aL st))(len:∀vs H Q E,sp vs H Q E→vs.length=ps.length)
 (z:∀(n:Value) (A:Around) (outer:List Env) (s:Shared) (H:Hp) (vs:List V) (Q:VK) (E:XK),eB k (A.deeper (envOfC j (aL st) s.heap.objs.size f n))→sp vs H Q E→
   ∃t,AH (um EY P w K mg base N j (aL st) f n A outer s H E).KQ (cI st) t∧t {nx:=fun _ H'=>Q .bV H',rt:=Q} (start N vs) H):jY P w K mg base EY (k+1) f fd ps sp:=by
 obtain⟨L,od,kV,doc,pm,an,n,ct,J,rfl,I,B⟩:=F.ex;refine Pw I B S len fun A outer s H vs Q E G D=>?_;obtain⟨t,h,q⟩:=z n A outer s H vs Q E G D;exact⟨t,h.KQ,q⟩
theorem KU.binds{x j:Str}{st:Stmt}{f:Addr}{fd:FuncData}{ps:List Str}(F:KU K x j st f fd)
 (h:∀(kV q B:Value) (z:Option Addr) (n ct:Value) (us:List Value),us.length=ps.length→bindArgs (fnOf x j (gS st) (cI st) (aL st) .none kV q B z n ct) ⟨us,[]⟩=pure (ps.zip us)):Binds K fd ps []:=by
 obtain⟨J,od,kV,q,B,z,n,ct,G,rfl,I,D⟩:=F.ex;exact .all (h kV q B z n ct)
theorem rB{x j:Str}{st:Stmt}{f:Addr}{F:Value}{G B:Option Addr}{z:Array (Option Value)}{kV q D n ct:Value}(l:K.lookup f=some ⟨F,G,.func (fnOf x j (gS st) (cI st) (aL st) .none kV q D B n ct),z⟩)
 (c:codeIn K n j=true)(k:keepIn K (.ref f)=true):KU K x j st f (fnOf x j (gS st) (cI st) (aL st) .none kV q D B n ct):=⟨⟨F,G,kV,q,D,B,n,ct,z,Z,l,c⟩,k⟩
end
theorem dO{A:Around}(j:eB k A):A.units+1<cLine:=Nat.lt_of_le_of_lt (Nat.add_le_add_left (by decide:1≤64) _) j.units
section
variable {X:Cx}
theorem pv(i:Nat)(n:X.N[i]?=some x:=by rfl)(q:Oe X.env.scope x:=by first|exact Or.inl rfl|exact Or.inr (Or.inl rfl)|exact Or.inr (Or.inr rfl))(hd:(x==("__debug__":Str))=false:=by decide)
 (j:(x==("__classdict__":Str))=false:=by decide):PE X (.Name x pos) (pH i):=NX n q hd j
theorem Hs:iG X (.builtin "len") (fun xs H Q=>∃a kvs,xs=[V.ref a]∧H a=some (.dK kvs)∧Q (.int kvs.length) H):=by intro pins s σ H xs z Q I r h;obtain⟨a,kvs,rfl,ha,q⟩:=h;obtain⟨u,rfl,n⟩:=vals1 r;cases n;exact Pj I (.inl ha) fun t s' j=>⟨.int kvs.length,H,j,⟨t,Z⟩,q⟩
end
theorem cB{A B:Prop}(h:B):if false=true then A else B:=by rw[if_neg Bool.false_ne_true];exact h
theorem cJ{A B:Prop}(h:A):if true=true then A else B:=by rw[if_pos Z];exact h
def aI(H H':Hp):Prop:=∀b o,H b=some o→H' b=some o
theorem aI.refl(H:Hp):aI H H:=fun _ _ h=>h
theorem aI.trans(a:aI H H1)(b:aI H1 H2):aI H H2:=fun c o h=>b c o (a c o h)
theorem aI.free(e:aI H H')(h:H' l=Option.none):H l=Option.none:=by
 cases q:H l with
 |none=>rfl
 |some o=>
  rw[e l o q]at h;cases h
section
variable {κ:Type} [DecidableEq κ]
theorem KI{kvs:List (κ×V)}(h:bH kvs k=none):¬k∈kvs.map (·.1):=by intro m;obtain⟨p,j,e⟩:=mem_map.mp m;have q:(kvs.any fun n=>decide (n.1=k))=true:=any_eq_true.mpr ⟨p,j,decide_eq_true e⟩;rw[gw,h]at q;exact absurd q (by simp)
theorem Mu{kvs:List (κ×V)}(h:bH kvs k=some v):k∈kvs.map (·.1):=by
 have q:(kvs.any fun n=>decide (n.1=k))=true:=by
  rw[gw,h]
  all_goals rfl
 obtain⟨p,j,e⟩:=any_eq_true.mp q;exact mem_map.mpr ⟨p,j,of_decide_eq_true e⟩
end
theorem PY{n:Type}{l:List n}(z:l.Nodup){i j:Nat}{x:n}(a:l[i]?=some x)(b:l[j]?=some x):i=j:=by obtain⟨h1,e1⟩:=List.getElem?_eq_some_iff.mp a;obtain⟨h2,q⟩:=List.getElem?_eq_some_iff.mp b;exact(List.getElem_inj z).mp (e1.trans q.symm)
end L2
section
namespace L2
open PySem PySem.Spec PyProof.Rows
mutual
inductive Dw(K:Frag)(H:Hp):V→WData→Prop
 |bV:Dw K H .bV .none
 |bl (b:Bool):Dw K H (.bl b) (.bool b)
 |int (i:Int):Dw K H (.int i) (.int i)
 |str (x:Str):Dw K H (.str x) (.str x)
 |E1 (b:Array UInt8):Dw K H (.E1 b) (.bytes b.toList)
 |lst {a:Addr} {xs:List V} {ds:List WData}:aT K H a xs→lA K H xs ds→Dw K H (.ref a) (.list ds)
 |tup {a:Addr} {xs:List V} {ds:List WData}:h9 K H a xs→lA K H xs ds→Dw K H (.ref a) (.tuple ds)
inductive lA(K:Frag)(H:Hp):List V→List WData→Prop
 |nil:lA K H [] []
 |cons {v:V} {vs:List V} {d:WData} {ds:List WData}:Dw K H v d→lA K H vs ds→lA K H (v::vs) (d::ds)
end
theorem Gz{K:Frag}{H:Hp}:∀ns:List Int,lA K H (ns.map V.int) (ns.map WData.int)
 |[]=>.nil
 |n::r=>.cons (.int n) (Gz r)
theorem GD{K:Frag}{H:Hp}:∀(ns:List Int) (xs:List V),lA K H xs (ns.map WData.int)→xs=ns.map V.int
 |[],xs,h=>by cases h;rfl
 |n::r,xs,h=>by
  cases h with
  |cons h1 h2=>
   cases h1;rw[GD r _ h2]<;>rfl
section
variable {P:Program} {w:World} {K:Frag} {H:Hp} {h:Heap} {R:PySem.W.WRecords} {cl:Str→Option Addr}
theorem N4(bj:l8 P w H h)(B:K.In h)(q:aT K H a xs):∃(j:List Value) (o:Obj) (n:Nat),Vals xs j∧h.get? a=some o∧o.cls=.type "list"∧o.data=.seq j.toArray n:=by
 rcases q with q|⟨o,j,n,e,D,_,hd,_,z⟩
 ·obtain⟨_,j,n,z,e⟩:=(show b8 P w H h a (.lst xs)from q.ok bj);exact⟨j,_,n,z,e,Z,Z⟩
 ·exact⟨j.toList,o,n,z,B _ _ e,D,by simp[hd]⟩
theorem N5(bj:l8 P w H h)(D:K.In h)(q:h9 K H a xs):∃(j:List Value) (o:Obj) (n:Nat),Vals xs j∧h.get? a=some o∧o.cls=.type "tuple"∧o.data=.seq j.toArray n:=by
 rcases q with q|⟨o,j,n,e,z,hd,_,B⟩
 ·obtain⟨_,j,B,o,e,z,n,hd⟩:=(show b8 P w H h a (.tup xs)from q.ok bj);exact⟨j,o,n,B,e,z,hd⟩
 ·exact⟨j.toList,o,n,B,D _ _ e,z,by simp[hd]⟩
mutual
theorem Dw.reads(bj:l8 P w H h)(q:K.In h):∀(d:WData) (v:V) (u:Value),Dw K H v d→RelV v u→∃z,ReadsW R cl h u d z
 |.none,_,_,x,r=>by cases x;cases r;exact⟨_,ReadsW.none⟩
 |.bool b,_,_,x,r=>by cases x;cases r;exact⟨_,ReadsW.bool b⟩
 |.int i,_,_,x,r=>by cases x;obtain⟨t,rfl⟩:=r;exact⟨_,ReadsW.int i t⟩
 |.str s,_,_,x,r=>by cases x;obtain⟨t,rfl⟩:=r;exact⟨_,ReadsW.str s t⟩
 |.bytes b,_,_,x,r=>by cases x;obtain⟨t,rfl⟩:=r;exact⟨_,ReadsW.bytes _ t⟩
 |.list ds,_,_,x,r=>by
  cases x with
  |lst G ha=>
   cases r;obtain⟨j,o,n,I,D,B,hd⟩:=N4 bj q G;obtain⟨z,F⟩:=Dw.readsAll bj q ds _ j ha I;exact⟨_,ReadsW.list D B hd F⟩
 |.tuple ds,_,_,x,r=>by
  cases x with
  |tup G ha=>
   cases r;obtain⟨j,o,n,I,D,B,hd⟩:=N5 bj q G;obtain⟨z,F⟩:=Dw.readsAll bj q ds _ j ha I;exact⟨_,ReadsW.tuple D B hd F⟩
 |.float _,_,_,x,_=>by cases x
 |.dict _,_,_,x,_=>by cases x
 |.bytearray _,_,_,x,_=>by cases x
 |.set _,_,_,x,_=>by cases x
 |.frozenset _,_,_,x,_=>by cases x
 |.obj _ _,_,_,x,_=>by cases x
theorem Dw.readsAll(bj:l8 P w H h)(j:K.In h):∀(ds:List WData) (vs:List V) (us:List Value),lA K H vs ds→Vals vs us→∃n,ReadsAllW R cl h us ds n
 |[],_,_,x,r=>by cases x;cases r;exact⟨_,ReadsAllW.nil⟩
 |d::ds,_,_,x,r=>by
  cases x with
  |cons h1 h2=>
   cases r with
   |cons B D=>
    obtain⟨n,q⟩:=Dw.reads bj j d _ _ h1 B;obtain⟨bs,z⟩:=Dw.readsAll bj j ds _ _ h2 D;exact⟨_,ReadsAllW.cons q z⟩
end
end
mutual
def GX:WData→Bool
 |.none=>true
 |.bool _=>true
 |.int _=>true
 |.str _=>true
 |.bytes _=>true
 |.list xs=>uZ xs
 |.tuple xs=>uZ xs
 |_=>false
def uZ:List WData→Bool
 |[]=>true
 |x::r=>GX x&&uZ r
end
theorem Ee{j:Type}{f:j→WData}(h:∀a,GX (f a)=true):∀l:List j,uZ (l.map f)=true
 |[]=>rfl
 |x::r=>by show(GX (f x)&&uZ (r.map f))=true;rw[h x,Ee h r]<;>rfl
theorem mI:∀(c:Codec) (a:c.denote),GX (c.enc a)=true
 |.unit,_=>rfl
 |.bool,_=>rfl
 |.int _ _,_=>rfl
 |.nat _ _,_=>rfl
 |.u8,_=>rfl
 |.bytes _ _,_=>rfl
 |.text _ _ _ _,_=>rfl
 |.list _ _ c,a=>Ee (fun x=>mI c x) a
 |.pair c d,a=>by show(GX (c.enc a.1)&&(GX (d.enc a.2)&&true))=true;rw[mI c a.1,mI d a.2]<;>rfl
 |.triple c d e,a=>by show(GX (c.enc a.1)&&(GX (d.enc a.2.1)&&(GX (e.enc a.2.2)&&true)))=true;rw[mI c a.1,mI d a.2.1,mI e a.2.2]<;>rfl
 |.option c,none=>rfl
 |.option c,some x=>mI c x
theorem Ak:∀(cs:List Codec) (a:Codec.denoteAll cs),uZ (Codec.encAll cs a)=true
 |[],_=>rfl
 |c::cs,a=>by show(GX (c.enc a.1)&&uZ (Codec.encAll cs a.2))=true;rw[mI c a.1,Ak cs a.2]<;>rfl
theorem pJ:∀{xs:List WData} {d:WData},d∈xs→d.weight≤WData.weightAll xs
 |[],d,h=>absurd h (by simp)
 |x::r,d,h=>by
  show d.weight≤x.weight+1+WData.weightAll r;rcases mem_cons.mp h with e|m
  ·rw[e];omega
  ·have z:=pJ m;omega
def toV:Value→V
 |.none=>.bV
 |.bool b=>.bl b
 |.int i _=>.int i
 |.str x _=>.str x
 |.bytes b _=>.E1 b
 |.ref a=>.ref a
 |_=>.bV
def Hf(A:List Addr):Value→Prop
 |.none=>True
 |.bool _=>True
 |.int _ _=>True
 |.str _ _=>True
 |.bytes _ _=>True
 |.ref a=>a∈A
 |_=>False
theorem Hf.mono(h:∀a∈A,a∈B):∀{u:Value},Hf A u→Hf B u:=fun{u} x=>by
 cases u with
 |ref a=>exact h a x
 |none=>trivial
 |bool b=>trivial
 |int i t=>trivial
 |str s t=>trivial
 |bytes b t=>trivial
 |_=>exact False.elim x
theorem Kt(x:Hf A u):RelV (toV u) u:=by
 cases u with
 |ref a=>rfl
 |none=>rfl
 |bool b=>rfl
 |int i t=>exact⟨t,Z⟩
 |str s t=>exact⟨t,Z⟩
 |bytes b t=>exact⟨t,Z⟩
 |_=>exact False.elim x
theorem kC{A:List Addr}:∀{vs:List Value},(∀u∈vs,Hf A u)→Vals (vs.map toV) vs
 |[],_=>.nil
 |u::r,h=>.cons (Kt (h u (mem_cons_self ..))) (kC fun x j=>h x (mem_cons_of_mem _ j))
def lz(h:Heap)(A:List Addr)(a:Addr):Prop:=∃j:List Value,j.length≤sizeLine∧(∀u∈j,Hf A u)∧
 (h.get? a=some {cls:=.type "list",data:=.seq j.toArray}∨h.get? a=some {cls:=.type "tuple",data:=.seq j.toArray})
theorem lz.mono(k:∀a∈A,a∈B)(x:lz h A a):lz h B a:=by obtain⟨q,h1,h2,j⟩:=x;exact⟨q,h1,fun u n=>(h2 u n).mono k,j⟩
theorem jM{P:Params}{h:Heap}:∀{vs:List Value} {ds:List WData},WellAll P h vs ds→vs.length=ds.length
 |_,_,.nil=>rfl
 |_,_,.cons _ b=>by show _+1=_+1;rw[jM b]
theorem AF{h:Heap}(x:Well P h v (.list ds)):∃(a:Addr) (vs:List Value),v=.ref a∧h.get? a=some {cls:=.type "list",data:=.seq vs.toArray}∧WellAll P h vs ds:=by
 cases x with
 |list n j=>exact⟨_,_,Z,n,j⟩
theorem yd{h:Heap}(x:Well P h v (.tuple ds)):∃(a:Addr) (vs:List Value),v=.ref a∧h.get? a=some {cls:=.type "tuple",data:=.seq vs.toArray}∧WellAll P h vs ds:=by
 cases x with
 |tuple n j=>exact⟨_,_,Z,n,j⟩
theorem AD(x:WellAll P h us (d::ds)):∃(v:Value) (vs:List Value),us=v::vs∧Well P h v d∧WellAll P h vs ds:=by
 cases x with
 |cons a b=>exact⟨_,_,Z,a,b⟩
theorem GJ{n:Nat}(h:n≤1048576):n≤sizeLine:=Nat.le_trans h (by decide)
section
variable {P:Params} {h:Heap}
mutual
theorem Jl:∀(d:WData) (v:Value),Well P h v d→GX d=true→d.weight≤1048576→∃A:List Addr,Hf A v∧∀a∈A,lz h A a
 |.none,_,x,_,_=>by cases x;exact⟨[],trivial,fun a m=>absurd m (by simp)⟩
 |.bool b,_,x,_,_=>by cases x;exact⟨[],trivial,fun a m=>absurd m (by simp)⟩
 |.int i,_,x,_,_=>by cases x;exact⟨[],trivial,fun a m=>absurd m (by simp)⟩
 |.str s,_,x,_,_=>by cases x;exact⟨[],trivial,fun a m=>absurd m (by simp)⟩
 |.bytes b,_,x,_,_=>by cases x;exact⟨[],trivial,fun a m=>absurd m (by simp)⟩
 |.list ds,_,x,p,z=>by
  obtain⟨a,vs,rfl,B,j⟩:=AF x;have q:WData.weightAll ds≤1048576:=z;obtain⟨A,h1,h2⟩:=pL ds _ j p fun d hd=>Nat.le_trans (pJ hd) q;have k:∀b∈A,b∈a::A:=fun b n=>mem_cons_of_mem _ n;refine⟨a::A,mem_cons_self ..,fun b n=>?_⟩;rcases mem_cons.mp n with e|m
  ·rw[e];exact⟨vs,GJ (by rw[jM j];exact Nat.le_trans (PySem.W.length_le_weightAllW ds) q),fun u D=>(h1 u D).mono k,.inl B⟩
  ·exact(h2 b m).mono k
 |.tuple ds,_,x,p,z=>by
  obtain⟨a,vs,rfl,B,j⟩:=yd x;have q:WData.weightAll ds≤1048576:=z;obtain⟨A,h1,h2⟩:=pL ds _ j p fun d hd=>Nat.le_trans (pJ hd) q;have k:∀b∈A,b∈a::A:=fun b n=>mem_cons_of_mem _ n;refine⟨a::A,mem_cons_self ..,fun b n=>?_⟩;rcases mem_cons.mp n with e|m
  ·rw[e];exact⟨vs,GJ (by rw[jM j];exact Nat.le_trans (PySem.W.length_le_weightAllW ds) q),fun u D=>(h1 u D).mono k,.inr B⟩
  ·exact(h2 b m).mono k
 |.float _,_,_,p,_=>Bool.noConfusion (show false=true from p)
 |.dict _,_,_,p,_=>Bool.noConfusion (show false=true from p)
 |.bytearray _,_,_,p,_=>Bool.noConfusion (show false=true from p)
 |.set _,_,_,p,_=>Bool.noConfusion (show false=true from p)
 |.frozenset _,_,_,p,_=>Bool.noConfusion (show false=true from p)
 |.obj _ _,_,_,p,_=>Bool.noConfusion (show false=true from p)
theorem pL:∀(ds:List WData) (vs:List Value),WellAll P h vs ds→uZ ds=true→(∀d∈ds,d.weight≤1048576)→∃A:List Addr,(∀u∈vs,Hf A u)∧∀a∈A,lz h A a
 |[],_,x,_,_=>by cases x;exact⟨[],fun u m=>absurd m (by simp),fun a m=>absurd m (by simp)⟩
 |d::ds,_,x,p,z=>by
  obtain⟨v,vs,rfl,I,J⟩:=AD x;have q:GX d=true∧uZ ds=true:=Bool.and_eq_true_iff.mp p;obtain⟨A,a1,a2⟩:=Jl d v I q.1 (z d (mem_cons_self ..));obtain⟨B,b1,b2⟩:=pL ds vs J q.2 fun e F=>z e (mem_cons_of_mem _ F);have n:∀b∈A,b∈A++B:=fun b j=>mem_append.mpr (.inl j);have D:∀b∈B,b∈A++B:=fun b j=>mem_append.mpr (.inr j);refine⟨A++B,fun u G=>?_,fun b j=>?_⟩
  ·rcases mem_cons.mp G with e|m
   ·rw[e];exact a1.mono n
   ·exact(b1 u m).mono D
  ·rcases mem_append.mp j with m|m
   ·exact(a2 b m).mono n
   ·exact(b2 b m).mono D
end
end
noncomputable def Lr(o:Obj):Option HO:=match o.data with
 |.seq vs _=>if(o.cls==Value.type "list")=true then some (.gB o (.lst (vs.toList.map toV)))else some (.gB o (.tup (vs.toList.map toV)))
 |_=>none
def kJ(K:Frag)(h:Heap)(A:List Addr):Hp:=fun b=>if b∈A then(if(K.lookup b).isNone=true then(h.get? b).bind Lr else none)else none
def CJ(H:Hp):Prop:=∀b,H b=none∨∃o u,H b=some (.gB o u)
theorem Dv(vs:List Value):Lr {cls:=.type "list",data:=.seq vs.toArray}=some (.gB {cls:=.type "list",data:=.seq vs.toArray} (.lst (vs.map toV))):=by show(if(Value.type "list"==Value.type "list")=true then some (HO.gB {cls:=.type "list",data:=.seq vs.toArray} (.lst (vs.toArray.toList.map toV)))else some (HO.gB {cls:=.type "list",data:=.seq vs.toArray} (.tup (vs.toArray.toList.map toV))))=_;rw[if_pos (beq_self_eq_true _)]
theorem Dx(vs:List Value):Lr {cls:=.type "tuple",data:=.seq vs.toArray}=some (.gB {cls:=.type "tuple",data:=.seq vs.toArray} (.tup (vs.map toV))):=by show(if(Value.type "tuple"==Value.type "list")=true then some (HO.gB {cls:=.type "tuple",data:=.seq vs.toArray} (.lst (vs.toArray.toList.map toV)))else some (HO.gB {cls:=.type "tuple",data:=.seq vs.toArray} (.tup (vs.toArray.toList.map toV))))=_;rw[if_neg (by decide)]
section
variable {P:Program} {w:World} {K:Frag} {h:Heap} {A:List Addr}
theorem u1(j:b∈A)(n:K.lookup b=none)(e:h.get? b=some o):kJ K h A b=Lr o:=by unfold kJ;rw[if_pos j,n,if_pos (show(none:Option Obj).isNone=true from Z),e]<;>rfl
theorem LR(q:kJ K h A b=some u):b∈A∧K.lookup b=none:=by
 unfold kJ at q;by_cases j:b∈A
 ·rw[if_pos j]at q;cases n:K.lookup b with
  |none=>exact⟨j,Z⟩
  |some o=>
   rw[n,if_neg (by simp)]at q;cases q
 ·rw[if_neg j]at q;cases q
theorem u4(z:∀a∈A,lz h A a)(q:kJ K h A b=some u):K.lookup b=none∧∃vs:List Value,vs.length≤sizeLine∧(∀u∈vs,Hf A u)∧
  ((h.get? b=some {cls:=.type "list",data:=.seq vs.toArray}∧u=.gB {cls:=.type "list",data:=.seq vs.toArray} (.lst (vs.map toV)))∨
   (h.get? b=some {cls:=.type "tuple",data:=.seq vs.toArray}∧u=.gB {cls:=.type "tuple",data:=.seq vs.toArray} (.tup (vs.map toV)))):=by
 obtain⟨j,n⟩:=LR q;obtain⟨vs,h1,h2,B⟩:=z b j;refine⟨n,vs,h1,h2,?_⟩;rcases B with e|e
 ·rw[u1 j n e,Dv]at q;exact .inl ⟨e,(Option.some.inj q).symm⟩
 ·rw[u1 j n e,Dx]at q;exact .inr ⟨e,(Option.some.inj q).symm⟩
theorem Hh(j:∀a∈A,lz h A a):CJ (kJ K h A):=fun b=>by
 cases q:kJ K h A b with
 |none=>exact .inl Z
 |some u=>
  obtain⟨_,vs,_,_,⟨_,e⟩|⟨_,e⟩⟩:=u4 j q
  ·exact .inr ⟨_,_,by rw[e]⟩
  ·exact .inr ⟨_,_,by rw[e]⟩
theorem K4(j:∀a∈A,lz h A a):l8 P w (kJ K h A) h:=fun b u q=>by
 obtain⟨_,vs,h1,h2,⟨e,rfl⟩|⟨e,rfl⟩⟩:=u4 j q
 ·exact⟨e,by rw[length_map];exact h1,vs,_,kC h2,e⟩
 ·exact⟨e,by rw[length_map];exact h1,vs,kC h2,_,e,Z,_,Z⟩
theorem vh{c j:Value}{vs us:List Value}(e:(some {cls:=c,data:=.seq vs.toArray}:Option Obj)=some {cls:=j,data:=.seq us.toArray}):c=j∧vs=us:=by
 have n:=Option.some.inj e;have q:c=j:=congrArg Obj.cls n;have z:Data.seq vs.toArray=Data.seq us.toArray:=congrArg Obj.data n;injection z with B
 refine⟨q,?_⟩;have D:=congrArg Array.toList B;simpa using D
theorem QO(B:K.In h)(D:∀a∈A,lz h A a){vs:List Value}(ha:a∈A)(e:h.get? a=some {cls:=.type "list",data:=.seq vs.toArray}):(∀u∈vs,Hf A u)∧aT K (kJ K h A) a (vs.map toV):=by
 obtain⟨z,h1,h2,F⟩:=D a ha;have G:z=vs:=by
  rcases F with q|q
  ·rw[e]at q;exact(vh q).2.symm
  ·rw[e]at q;exact absurd (Value.type.inj (vh q).1) (by decide)
 subst G;refine⟨h2,?_⟩;cases j:K.lookup a with
 |none=>exact .inl (.inr ⟨_,by rw[u1 ha j e,Dv]⟩)
 |some o=>
  have n:=B a o j;rw[e]at n;obtain rfl:=Option.some.inj n;exact .inr ⟨_,z.toArray,_,j,Z,Z,Z,by rw[size_toArray];exact h1,by simpa using kC h2⟩
theorem QP(B:K.In h)(D:∀a∈A,lz h A a){vs:List Value}(ha:a∈A)(e:h.get? a=some {cls:=.type "tuple",data:=.seq vs.toArray}):(∀u∈vs,Hf A u)∧h9 K (kJ K h A) a (vs.map toV):=by
 obtain⟨z,h1,h2,F⟩:=D a ha;have G:z=vs:=by
  rcases F with q|q
  ·rw[e]at q;exact absurd (Value.type.inj (vh q).1) (by decide)
  ·rw[e]at q;exact(vh q).2.symm
 subst G;refine⟨h2,?_⟩;cases j:K.lookup a with
 |none=>exact .inl (.inr ⟨_,by rw[u1 ha j e,Dx]⟩)
 |some o=>
  have n:=B a o j;rw[e]at n;obtain rfl:=Option.some.inj n;exact .inr ⟨_,z.toArray,_,j,Z,Z,by rw[size_toArray];exact h1,by simpa using kC h2⟩
mutual
theorem Ni{G:Params}(n:K.In h)(q:∀a∈A,lz h A a):∀(d:WData) (v:Value),Well G h v d→GX d=true→Hf A v→Dw K (kJ K h A) (toV v) d
 |.none,_,x,_,_=>by cases x;exact .bV
 |.bool b,_,x,_,_=>by cases x;exact .bl b
 |.int i,_,x,_,_=>by cases x;exact .int i
 |.str s,_,x,_,_=>by cases x;exact .str s
 |.bytes b,_,x,_,_=>by cases x;have z:=Dw.E1 (K:=K) (H:=kJ K h A) b.toArray;exact z
 |.list ds,_,x,p,F=>by obtain⟨a,vs,rfl,B,j⟩:=AF x;obtain⟨h2,D⟩:=QO n q F B;exact .lst D (Be n q ds _ j p h2)
 |.tuple ds,_,x,p,F=>by obtain⟨a,vs,rfl,B,j⟩:=yd x;obtain⟨h2,D⟩:=QP n q F B;exact .tup D (Be n q ds _ j p h2)
 |.float _,_,_,p,_=>Bool.noConfusion (show false=true from p)
 |.dict _,_,_,p,_=>Bool.noConfusion (show false=true from p)
 |.bytearray _,_,_,p,_=>Bool.noConfusion (show false=true from p)
 |.set _,_,_,p,_=>Bool.noConfusion (show false=true from p)
 |.frozenset _,_,_,p,_=>Bool.noConfusion (show false=true from p)
 |.obj _ _,_,_,p,_=>Bool.noConfusion (show false=true from p)
theorem Be{B:Params}(j:K.In h)(n:∀a∈A,lz h A a):∀(ds:List WData) (vs:List Value),WellAll B h vs ds→uZ ds=true→(∀u∈vs,Hf A u)→lA K (kJ K h A) (vs.map toV) ds
 |[],_,x,_,_=>by cases x;exact .nil
 |d::ds,_,x,p,z=>by obtain⟨v,vs,rfl,D,F⟩:=AD x;have q:GX d=true∧uZ ds=true:=Bool.and_eq_true_iff.mp p;exact .cons (Ni j n d v D q.1 (z _ (mem_cons_self ..))) (Be j n ds vs F q.2 fun u m=>z u (mem_cons_of_mem _ m))
end
end
theorem IE{w:World}{K:Frag}{ps:List Str}{s₁:Shared}{ds:List WData}
 (Y:K.In s₁.heap)(S:s₁.heap.Ns mainGlobals mg)(hb:s₁.heap.Ns builtinsNs mb)(b1:∀x:Str,x≠"__name__"→mb x=bootBuiltins x)(O:s₁.heap.NoLimit)(hg:s₁.gens=#[])
 (I:WellAll w.params s₁.heap vals ds)(hpl:uZ ds=true)(b9:∀d∈ds,d.weight≤1048576)(hr:eB k callerA)
 (F:∀base:Heap,K.In base→base.Ns mainGlobals mg→jY P w K mg base CX k fa fd ps sp)(G:∀(s:Shared) (us:List Value),us.length=ps.length→BindsTo s fd ⟨us,[]⟩ (ps.zip us))(N:ds.length=ps.length)
 (b3:∀(H:Hp) (xs:List V),CJ H→lA K H xs ds→sp xs H (fun v H'=>Dw K H' v d0) fun _ _ _=>False)
 (a2:∀H e s',CX [] H s₁ (fun _ _ _=>False) e s'→False):
  codeAny (model P w) callerA (.call (.ref fa) ⟨vals,[]⟩) (fun r s'=>∃u as,r=.ok (.ret u)∧ReadsW R cl s'.heap u d0 as∧OldK s₁.heap s'.heap∧s'.os=s₁.os∧AllBare s'.gens) s₁:=by
 obtain⟨A,ho,J⟩:=pL ds vals I hpl b9;have hO:CJ (kJ K s₁.heap A):=Hh J;have bj:l8 P w (kJ K s₁.heap A) s₁.heap:=K4 J;have hS:=Be Y J ds vals I hpl ho;have hV:=kC ho;have hK:∀b u,kJ K s₁.heap A b=some u→K.lookup b=none:=fun b u q=>(u4 J q).1;have U:∀{b:Addr} {o:Obj} {es:Array DictEntry} {ep:Nat},s₁.heap.get? b=some o→o.data=.dict es ep→kJ K s₁.heap A b=none:=fun{b o es ep} e d=>by
  cases q:kJ K s₁.heap A b with
  |none=>rfl
  |some u=>
   obtain⟨_,vs,_,_,⟨L,_⟩|⟨L,_⟩⟩:=u4 J q
   ·rw[L]at e;cases e;have d':Data.seq vs.toArray _=Data.dict es ep:=d;cases d'
   ·rw[L]at e;cases e;have d':Data.seq vs.toArray _=Data.dict es ep:=d;cases d'
 generalize kJ K s₁.heap A=H at hO bj hS hK U;have j:∀{b:Addr} {o:Obj},s₁.heap.get? b=some o→H b=none→(p_ s₁.heap H).get? b=some o:=fun e n=>Du e n;have B:∀{b:Addr} {m:Str→Option Value},s₁.heap.Ns b m→(p_ s₁.heap H).Ns b m:=fun{b m} ⟨o,es,ep,e,d,r⟩=>⟨o,es,ep,j e (U e d),d,r⟩;have nK:∀b o,K.lookup b=some o→H b=none:=fun b o e=>by
  cases q:H b with
  |none=>rfl
  |some u=>
   rw[hK b u q]at e;cases e
 have M:K.In (p_ s₁.heap H):=fun b o e=>j (Y b o e) (nK b o e);have hM:Mod K mg (p_ s₁.heap H):=⟨M,B S,⟨mb,B hb,b1⟩,let⟨mc,h1,h2⟩:=O;⟨mc,B h1,h2⟩⟩;have e0:CF P w K mg (p_ s₁.heap H) callerA [] s₁ H:=⟨Z,hM,fun b o e=>GO e,Nat.le_of_eq (zV _ _),trivial,fun b hb=>absurd (show b∈([]:List Addr)from hb) (by simp),bj,.of_eq hg⟩;have hl:vals.length=ps.length:=by rw[jM I];exact N
 refine codeAny_mono ((F _ M (B S)).run callerA [] s₁ H ⟨vals,[]⟩ vals (vals.map toV) _ _ hr e0 (G s₁ vals hl) hV (b3 H _ hO hS)) fun r s' x=>?_;cases r with
 |error e=>exact(a2 H e s' x).elim
 |ok fl=>
  cases fl with
  |next=>exact False.elim x
  |brk=>exact False.elim x
  |cont=>exact False.elim x
  |ret u=>
   obtain⟨v,H',os,bare,un,D,r',q⟩:=x;have kept:∀b o,s₁.heap.get? b=some o→s'.heap.get? b=some o:=fun b o e=>by
    cases q2:H b with
    |none=>exact un.keep b o e q2 (by intro z;exact absurd (show b∈([]:List Addr)from z) (by simp)) (by simp)
    |some u2=>
     rcases hO b with z|⟨ob,u3,z⟩
     ·rw[q2]at z;cases z
     ·have z2:=un.uD b ob _ z;obtain⟨e1,_⟩:=bj b _ z;obtain⟨L,_⟩:=D b _ z2;rw[e]at e1;cases e1;exact L
   have a1:K.In s'.heap:=fun b o e=>kept b o (Y b o e);obtain⟨as,b2⟩:=Dw.reads (R:=R) (cl:=cl) D a1 d0 v u q r';exact⟨u,as,Z,b2,OldK.of_keep kept,os,bare⟩
theorem wA(h:WData.layableAll ds=true):∀d∈ds,d.weight≤1048576:=fun d hd=>
 (PySem.W.layableW_iff.mp (all_eq_true.mp h d hd)).2.2
theorem vG:∀(cs:List Codec) (a:Codec.denoteAll cs),(Codec.encAll cs a).length=cs.length
 |[],_=>rfl
 |c::cs,a=>by show(Codec.encAll cs a.2).length+1=cs.length+1;rw[vG cs a.2]
theorem IX{r:OpenSpec}{d:DefRec}{K:Params→Frag}{CX:World→Mw}{ps:List Str}{sp:World→Sp}
 (j:r.wellSaid=true)(b2:d.params.defaults=[])(D:r.args.length=ps.length)(hr:eB k callerA)
 (hY:∀(w:World) (h:Heap),YP w h→(K w.params).In h)
 (F:∀(w:World) (mg:Str→Option Value) (L:Addr) (h:Heap),YP w h→(K w.params).In h→h.Ns mainGlobals mg→mg d.name=some (.ref L)→
   ∃fd:FuncData,(∀(s:Shared) (us:List Value),us.length=ps.length→BindsTo s fd ⟨us,[]⟩ (ps.zip us))∧
    ∀base:Heap,(K w.params).In base→base.Ns mainGlobals mg→jY r.prog w (K w.params) mg base (CX w) k L fd ps (sp w))
 (S:∀(w:World) (H:Hp) (xs:List V) (a:Codec.denoteAll r.args),CJ H→Codec.withinAll r.args a=true→Codec.app r.args r.asked a=true→lA (K w.params) H xs (Codec.encAll r.args a)→
   sp w xs H (fun v H'=>Dw (K w.params) H' v (r.ret.enc (Codec.app r.args r.f a))) fun _ _ _=>False)
 (N:∀(w:World) (H:Hp) (s:Shared) (e:Value) (s':Shared),CX w [] H s (fun _ _ _=>False) e s'→False):
  WalkOS q loose XP YP r d [] (fun f vs=>PySem.call f vs):=by
 intro w Am s₁ mg mb G Y L o pm cd a2 dV kV ho hd b1 hD O hg n a1 as I B b9 U b3;obtain⟨a,e1,e2⟩:=PySem.W.os_pre_some I;obtain⟨e3,J⟩:=Codec.encAll_of_decAll r.args n a e1;subst e3;have KX:=hY w _ Y;obtain⟨fd,hb,hF⟩:=F w mg L _ Y KX G.T.g O;refine PySem.W.enter_call (codeAny_mono (IE (R:=[]) (cl:=classAt Am.heap) (d0:=r.ret.enc (Codec.app r.args r.f a)) KX G.T.g G.T.b G.T.builtins G.T.nolimit hg U (Ak _ _) (wA B) hr hF hb (by rw[vG];exact D)
  (fun H xs hO hS=>S w H xs a hO J e2 hS) fun H e s'=>N w H s₁ e s') fun _ s' hq=>?_)
 obtain⟨u,M,rfl,h1,h2,h3,h4⟩:=hq;exact⟨.inl ⟨u,_,M,Z,fun _=>rfl,h1,(OpenSpec.post_iff j J _ _).mpr Z,fun z=>Bool.noConfusion (show false=true from z)⟩,h2,h3,h4⟩
theorem Gg{r:OpenSpec}{k:Nat}{q:Program}{n:List Str}{L:(Str→Option Value)→Heap→Prop}{B:World→Heap→Prop}{d:DefRec}{K:Params→Frag}{CX:Mw}{ps:List Str}{sp:Frag→Sp}
 (j:r.wellSaid=true)(G:d.params.defaults=[])(z:r.args.length=ps.length)(S:eB k callerA)
 (O:∀(w:World) (h:Heap),B w h→(K w.params).In h)
 (F:∀(w:World) (mg:Str→Option Value) (J:Addr) (h:Heap),B w h→(K w.params).In h→h.Ns mainGlobals mg→mg d.name=some (.ref J)→
   ∃fd:FuncData,(∀(s:Shared) (us:List Value),us.length=ps.length→BindsTo s fd ⟨us,[]⟩ (ps.zip us))∧
    ∀base:Heap,(K w.params).In base→base.Ns mainGlobals mg→jY r.prog w (K w.params) mg base CX k J fd ps (sp (K w.params)))
 (I:∀(K:Frag) (H:Hp) (xs:List V) (a:Codec.denoteAll r.args),CJ H→Codec.withinAll r.args a=true→Codec.app r.args r.asked a=true→lA K H xs (Codec.encAll r.args a)→
   sp K xs H (fun v H'=>Dw K H' v (r.ret.enc (Codec.app r.args r.f a))) fun _ _ _=>False)
 (D:∀(H:Hp) (s:Shared) (e:Value) (s':Shared),CX [] H s (fun _ _ _=>False) e s'→False):
  WalkOS q n L B r d [] (fun f vs=>PySem.call f vs):=
 IX (K:=K) (CX:=fun _=>CX) (sp:=fun w=>sp (K w.params)) j G z S O F (fun w H xs a h1 h2 M N=>I (K w.params) H xs a h1 h2 M N) fun _ H s e s'=>D H s e s'
end L2
end
namespace L2
open PySem PySem.Spec PyProof.Rows
theorem eA.d{N P:List Str}{h:Scope}(a:h.kind=.function:=by rfl)(b:h.isCoroutine=false:=by rfl)(c:h.isGenerator=false:=by rfl)(d:N.Nodup:=by decide +kernel)(e:N.take P.length=P:=by rfl)(f:∀x∈P,h.names.lookup x=some .local∨h.names.lookup x=some .cell:=by decide +kernel)(g:∀y∈h.names,y.2≠.free:=by decide +kernel):eA N P h:=⟨a,b,c,d,e,f,g⟩
def GC(mg:Str→Option Value)(x:Str)(v:V):Prop:=∃u,mg x=some u∧RelV v u
theorem pk{X:Cx}(h:GC X.mg x v)(a:Gl X x:=by rfl)(hd:(x==("__debug__":Str))=false:=by decide):PE X (.Name x pos) (tC v):=by obtain⟨u,hm,r⟩:=h;exact L4 a hm r hd
section
variable {P:Program} {w:World} {K:Frag} {mg:Str→Option Value} {base:Heap}
def aD(K:Frag)(mg:Str→Option Value)(x:Str)(st:Stmt)(ps:List Str):Prop:=∃f a,KU K x x st f a∧mg x=some (.ref f)∧Binds K a ps []
def MethAt(K:Frag)(C:Addr)(m q:Str)(st:Stmt)(ps:List Str):Prop:=∃f a,KU K m q st f a∧Meth K C m f∧Binds K a ps []
def iH(K:Frag)(C:Addr)(q:Str)(st:Stmt)(ps:List Str):Prop:=∃f a,KU K "__init__" q st f a∧findIn K (.ref C) "__init__"=some (some (.ref f))∧isFn K (.ref f)=true∧Binds K a ps []
structure ClsAt(K:Frag)(mg:Str→Option Value)(c:Str)(C:Addr):Prop where
 cl:Jf K C
 g:mg c=some (.ref C)
 makes:makesIn K C=true
 kp:keepIn K (.ref C)=true
structure MB(K:Frag)(C:Addr):Prop where
 ha:findIn K (.ref C) "__class__"=some (some (.builtin "object.__class__"))
 hn:specialIn K (.builtin "object.__class__") "__get__"=some (some (.builtin "getset_descriptor.__get__"))
 rC:takesIn K (.builtin "object.__class__")=some true
 hm:mroIn K C (.type "object")=some true
theorem ClsAt.gc(h:ClsAt K mg c C):GC mg c (.ref C):=⟨_,h.g,Z⟩
def Fn(P:Program)(w:World)(K:Frag)(mg:Str→Option Value)(base:Heap)(k:Nat)(x:Str)(ps:List Str)(sp:Sp):Prop:=
 ∃f a,jY P w K mg base EY k f a ps sp∧mg x=some (.ref f)∧keepIn K (.ref f)=true∧Binds K a ps []
def I_(P:Program)(w:World)(K:Frag)(mg:Str→Option Value)(base:Heap)(k:Nat)(C:Addr)(m:Str)(ps:List Str)(sp:Sp):Prop:=
 ∃f a,jY P w K mg base EY k f a ps sp∧Meth K C m f∧Binds K a ps []
def KW(P:Program)(w:World)(K:Frag)(mg:Str→Option Value)(base:Heap)(k:Nat)(C:Addr)(ps:List Str)(sp:Sp):Prop:=
 ∃f a,jY P w K mg base EY k f a ps sp∧findIn K (.ref C) "__init__"=some (some (.ref f))∧isFn K (.ref f)=true∧Binds K a ps []
def Mz(P:Program)(w:World)(K:Frag)(mg:Str→Option Value)(base:Heap)(k:Nat)(f:Addr)(sp:Sp):Prop:=
 ∃a ps,jY P w K mg base EY k f a ps sp∧keepIn K (.ref f)=true∧Binds K a ps []
theorem Fn.val(F:Fn P w K mg base j x ps sp)(h:mg x=some (.ref f))(b:j≤k):Mz P w K mg base k f sp:=by obtain⟨g,fd,F,hm,kp,a⟩:=F;rw[h]at hm;cases hm;exact⟨fd,ps,F.mono b,kp,a⟩
theorem aD.ok{x:Str}{st:Stmt}{N ps:List Str}{k:Nat}{sp:Sp}(F:aD K mg x st ps)(S:eA N ps (aL st))(len:∀vs H Q E,sp vs H Q E→vs.length=ps.length)
 (a:∀(f:Addr) (b:Value) (A:Around) (outer:List Env) (s:Shared) (H:Hp) (vs:List V) (Q:VK) (E:XK),eB k (A.deeper (envOfC x (aL st) s.heap.objs.size f b))→sp vs H Q E→
   ∃t,AH (um EY P w K mg base N x (aL st) f b A outer s H E).KQ (cI st) t∧t {nx:=fun _ H'=>Q .bV H',rt:=Q} (start N vs) H):Fn P w K mg base (k+1) x ps sp:=by
 obtain⟨f,fd,F,hm,d⟩:=F;exact⟨f,fd,F.ok S len (a f),hm,F.kp,d⟩
theorem MethAt.ok{C:Addr}{m q:Str}{st:Stmt}{N ps:List Str}{k:Nat}{sp:Sp}(F:MethAt K C m q st ps)(S:eA N ps (aL st))(len:∀vs H Q E,sp vs H Q E→vs.length=ps.length)
 (a:∀(f:Addr) (b:Value) (A:Around) (outer:List Env) (s:Shared) (H:Hp) (vs:List V) (Q:VK) (E:XK),eB k (A.deeper (envOfC q (aL st) s.heap.objs.size f b))→sp vs H Q E→
   ∃t,AH (um EY P w K mg base N q (aL st) f b A outer s H E).KQ (cI st) t∧t {nx:=fun _ H'=>Q .bV H',rt:=Q} (start N vs) H):I_ P w K mg base (k+1) C m ps sp:=by
 obtain⟨f,fd,F,hm,d⟩:=F;exact⟨f,fd,F.ok S len (a f),hm,d⟩
theorem iH.ok{C:Addr}{q:Str}{st:Stmt}{N ps:List Str}{k:Nat}{sp:Sp}(F:iH K C q st ps)(S:eA N ps (aL st))(len:∀vs H Q E,sp vs H Q E→vs.length=ps.length)
 (a:∀(f:Addr) (b:Value) (A:Around) (outer:List Env) (s:Shared) (H:Hp) (vs:List V) (Q:VK) (E:XK),eB k (A.deeper (envOfC q (aL st) s.heap.objs.size f b))→sp vs H Q E→
   ∃t,AH (um EY P w K mg base N q (aL st) f b A outer s H E).KQ (cI st) t∧t {nx:=fun _ H'=>Q .bV H',rt:=Q} (start N vs) H):KW P w K mg base (k+1) C ps sp:=by
 obtain⟨f,fd,F,hm,g,d⟩:=F;exact⟨f,fd,F.ok S len (a f),hm,g,d⟩
theorem aD.bC{x:Str}{st:Stmt}{N ps:List Str}{k:Nat}{sp:Sp}(F:aD K mg x st ps)
 (a:N.Nodup→∀(f:Addr) (b:Value) (A:Around) (outer:List Env) (s:Shared) (H:Hp) (vs:List V) (Q:VK) (E:XK),eB k (A.deeper (envOfC x (aL st) s.heap.objs.size f b))→sp vs H Q E→
   ∃t,AH (um EY P w K mg base N x (aL st) f b A outer s H E).KQ (cI st) t∧t {nx:=fun _ H'=>Q .bV H',rt:=Q} (start N vs) H)
 (S:eA N ps (aL st):=by exact .d)(len:∀vs H Q E,sp vs H Q E→vs.length=ps.length:=by rintro _ _ _ _ ⟨⟩;subst_vars;rfl):Fn P w K mg base (k+1) x ps sp:=F.ok S len (a S.nd)
theorem MethAt.bC{C:Addr}{m q:Str}{st:Stmt}{N ps:List Str}{k:Nat}{sp:Sp}(F:MethAt K C m q st ps)
 (a:N.Nodup→∀(f:Addr) (b:Value) (A:Around) (outer:List Env) (s:Shared) (H:Hp) (vs:List V) (Q:VK) (E:XK),eB k (A.deeper (envOfC q (aL st) s.heap.objs.size f b))→sp vs H Q E→
   ∃t,AH (um EY P w K mg base N q (aL st) f b A outer s H E).KQ (cI st) t∧t {nx:=fun _ H'=>Q .bV H',rt:=Q} (start N vs) H)
 (S:eA N ps (aL st):=by exact .d)(len:∀vs H Q E,sp vs H Q E→vs.length=ps.length:=by rintro _ _ _ _ ⟨⟩;subst_vars;rfl):I_ P w K mg base (k+1) C m ps sp:=F.ok S len (a S.nd)
theorem iH.bC{C:Addr}{q:Str}{st:Stmt}{N ps:List Str}{k:Nat}{sp:Sp}(F:iH K C q st ps)
 (a:N.Nodup→∀(f:Addr) (b:Value) (A:Around) (outer:List Env) (s:Shared) (H:Hp) (vs:List V) (Q:VK) (E:XK),eB k (A.deeper (envOfC q (aL st) s.heap.objs.size f b))→sp vs H Q E→
   ∃t,AH (um EY P w K mg base N q (aL st) f b A outer s H E).KQ (cI st) t∧t {nx:=fun _ H'=>Q .bV H',rt:=Q} (start N vs) H)
 (S:eA N ps (aL st):=by exact .d)(len:∀vs H Q E,sp vs H Q E→vs.length=ps.length:=by rintro _ _ _ _ ⟨⟩;subst_vars;rfl):KW P w K mg base (k+1) C ps sp:=F.ok S len (a S.nd)
end
def Oh(sp:Sp)(t:TA):TE:=fun b H Q=>t b H fun a H1=>sp a H1 Q E0
inductive RA(C:Addr)(m:Str)(sp:Sp)(t:TA)(σ:St)(Q:VK)(x:V)(H:Hp):Prop
 |mk (a dx:Addr) (fs:List (Str×V)) (e:x=.ref a) (h:H a=some (.ins C dx fs)) (l:fs.lookup m=none) (q:t σ H fun vs H2=>sp (x::vs) H2 Q E0):RA C m sp t σ Q x H
def RP(C:Addr)(m:Str)(sp:Sp)(ta:TE)(t:TA):TE:=fun a H Q=>ta a H (RA C m sp t a Q)
def Sa(C:Addr)(sp:Sp)(t:TA):TE:=fun f H Q=>t f H fun d H1=>∀x a,H1 x=none→H1 a=none→a≠x→
 sp (.ref x::d) (upd (upd H1 a (.own x)) x (.ins C a [])) (fun v b=>v=.bV∧Q (.ref x) b) E0
inductive Sz(P:Program)(w:World)(K:Frag)(mg:Str→Option Value)(base:Heap)(k:Nat)(t:TA)(σ:St)(Q:VK)(x:V)(H:Hp):Prop
 |mk (f:Addr) (sp:Sp) (e:x=.ref f) (h:Mz P w K mg base k f sp) (q:t σ H fun vs H2=>sp vs H2 Q E0):Sz P w K mg base k t σ Q x H
def R9(P:Program)(w:World)(K:Frag)(mg:Str→Option Value)(base:Heap)(k:Nat)(b:TE)(t:TA):TE:=fun a H Q=>b a H (Sz P w K mg base k t a Q)
section
variable {X:Cx} {k:Nat} {C:Addr} {ps:List Str} {sp:Sp} {x m c:Str} {p pos apos:Pos} {e o:Expr} {es:List Expr} {ta:TE} {t:TA}
theorem bq(F:Fn X.prog X.w X.K X.mg X.base k x ps sp)(j:eB k X.A)(ha:PA X (e::es) t)(i:Gl X x:=by rfl)(b:(x==("__debug__":Str))=false:=by decide)
 (he:starEach (e::es) X.env=(false,eval e X.env)::starEach es X.env:=by rfl)(hpl:(backTo pos (starEach es X.env)).any (·.1)=false:=by rfl):PE X (.Call (.Name x p) (e::es) [] pos) (Oh sp t):=by
 obtain⟨f,fd,F,hm,kp,g⟩:=F;intro a s l H Q I h;refine wpAny_Call_Name_kw (BL I i hm ?_ b);refine callWith_K (h₀:=X.base) I.ok.mod.Of kp (bO (ha pos a s l H _ I h) fun u n ⟨v,H1,d,r,q⟩=>⟨d.nr,?_⟩) he hpl;exact Cd (dvs:=[]) F j g .nil Ea d r (by rw[append_nil];exact q)
theorem qC(l:PE X (.Name x p) ta)(j:eB k X.A)(ha:PA X (e::es) t)
 (he:starEach (e::es) X.env=(false,eval e X.env)::starEach es X.env:=by rfl)(hpl:(backTo pos (starEach es X.env)).any (·.1)=false:=by rfl):PE X (.Call (.Name x p) (e::es) [] pos) (R9 X.prog X.w X.K X.mg X.base k ta t):=by
 intro a s g H Q I h;refine wpAny_Call_Name_kw (bO (l a s g H _ I h) fun u z ⟨v,H1,b,y,f,sp,ev,⟨fd,ps,F,kp,i⟩,q⟩=>?_);subst ev;obtain rfl:u=Value.ref f:=y;refine callWith_K (h₀:=X.base) b.ok.mod.Of kp (bO (ha pos a z g H1 _ b q) fun E D ⟨G,B,d,r,n⟩=>⟨d.nr,?_⟩) he hpl;exact Cd (dvs:=[]) F j i .nil Ea d r (by rw[append_nil];exact n)
theorem KR(he:PE X o ta)(c:ClsAt X.K X.mg c C)(F:I_ X.prog X.w X.K X.mg X.base k C m ps sp)(z:eB k X.A)(ha:PA X (e::es) t)
 (d:starEach (e::es) X.env=(false,eval e X.env)::starEach es X.env:=by rfl)(hpl:(backTo pos (starEach es X.env)).any (·.1)=false:=by rfl)
 (B:eval (.Call (.Attribute o m apos) (e::es) [] pos) X.env=(do
   let j ← eval o X.env
   standAt apos.atName
   let(f,first) ← holding [j] (getMethod j m pl)
   callWith pos f first (backTo pos (starEach (e::es) X.env)) (backToKw pos (keywordEach [] X.env))):=by rfl):PE X (.Call (.Attribute o m apos) (e::es) [] pos) (RP C m sp ta t):=by
 obtain⟨f,fd,F,hm,y⟩:=F;intro b s n H Q I h;refine methodCall_KW (pl:=pl) (bO (he b s n H _ I h) fun u G ⟨x,H1,g,E,a,L,fs,ex,v,l,q⟩=>?_) B;subst ex;obtain rfl:u=Value.ref a:=E;refine we g v c.cl hm l ?_;refine callWith_K (first:=[.ref a]) (h₀:=X.base) I.ok.mod.Of hm.kp (bO (ha pos b G n H1 _ g q) fun us M ⟨vs,J,i,r,D⟩=>⟨i.nr,?_⟩) d hpl;exact Cd (us:=.ref a::us) (vs:=.ref a::vs) (dvs:=[]) F z y .nil Ea i (.cons Z r) (by rw[append_nil];exact D)
theorem pA(he:PE X o ta)(c:ClsAt X.K X.mg c C)(F:I_ X.prog X.w X.K X.mg X.base k C m ps sp)(n:eB k X.A)
 (r:eval (.Call (.Attribute o m apos) [] [] pos) X.env=(do
   let g ← eval o X.env
   standAt apos.atName
   let(f,first) ← holding [g] (getMethod g m pl)
   callWith pos f first (backTo pos (starEach [] X.env)) (backToKw pos (keywordEach [] X.env))):=by rfl):PE X (.Call (.Attribute o m apos) [] [] pos) (RP C m sp ta u0):=by
 obtain⟨f,fd,F,hm,j⟩:=F;intro b s y H Q I h;refine methodCall_KW (pl:=pl) (bO (he b s y H _ I h) fun u B ⟨x,H1,d,v,a,z,fs,ex,i,l,q⟩=>?_) r;subst ex;obtain rfl:u=Value.ref a:=v;refine we d i c.cl hm l ?_;exact PySem.W.callWith_K0 (first:=[.ref a]) d.nr hm.kp (Cd (us:=[.ref a]) (vs:=[.ref a]) (dvs:=[]) F n j .nil Ea d (.cons Z .nil) q)
theorem Og(c:ClsAt X.K X.mg x C)(F:KW X.prog X.w X.K X.mg X.base k C ps sp)(n:eB (k+1) X.A)(ha:PA X (e::es) t)(j:Gl X x:=by rfl)(b:(x==("__debug__":Str))=false:=by decide)
 (he:starEach (e::es) X.env=(false,eval e X.env)::starEach es X.env:=by rfl)(hpl:(backTo pos (starEach es X.env)).any (·.1)=false:=by rfl):PE X (.Call (.Name x p) (e::es) [] pos) (Sa C sp t):=by
 obtain⟨f,fd,F,hm,l,i⟩:=F;intro a s u H Q I h;refine wpAny_Call_Name_kw (BL I j c.g ?_ b);refine callWith_K (h₀:=X.base) I.ok.mod.Of c.kp (bO (ha pos a s u H _ I h) fun y v ⟨z,H1,d,r,q⟩=>⟨d.nr,?_⟩) he hpl;exact Kv (dvs:=[]) ⟨c.makes,hm,l,c.kp⟩ F n i .nil Ea d r (by rw[append_nil];exact q)
end
theorem CT{X:Cx}:iG X (.builtin "isinstance") (fun xs H Q=>∃v C t b,xs=[v,.ref C]∧lY X.K H v t∧kitOne X.K t (.ref C)=some b∧Q (.bl b) H):=by intro d s j H xs i Q I r h;obtain⟨v,C,t,b,rfl,ty,e,q⟩:=h;obtain⟨u,g,rfl,f,a⟩:=Vals.two r;cases a;exact HZ I f ty e fun tk=>⟨.bl b,H,I.tok _,Z,q⟩
theorem fP{X:Cx}{p a pos:Pos}(h:X.mg "isinstance"=none)(k:ClsAt X.K X.mg c C)(he:PE X e j)(d:Gl X "isinstance":=by rfl)(i:Gl X c:=by rfl)(hd:(c==("__debug__":Str))=false:=by decide)
 (g:starEach [e,.Name c a] X.env=(false,eval e X.env)::starEach [.Name c a] X.env:=by rfl)(f:starEach [Expr.Name c a] X.env=[(false,eval (.Name c a) X.env)]:=by rfl)
 (hpl:(backTo pos (starEach [Expr.Name c a] X.env)).any (·.1)=false:=by rfl):PE X (.Call (.Name "isinstance" p) [e,.Name c a] [] pos)
   (Qc (fun xs H Q=>∃v C t b,xs=[v,.ref C]∧lY X.K H v t∧kitOne X.K t (.ref C)=some b∧Q (.bl b) H) (jL j (jL (tC (.ref C)) u0))):=
 aF CT d h boot_isinstance (aa he (aa (pk k.gc i hd) ai f) g) (he:=g) (hpl:=hpl)
end L2
namespace L2
open PySem PySem.Spec PyProof.Rows
section
variable {X:Cx}
def Om(i j:Int):Prop:=0<j∧j<1000000000000000000000000000000
theorem gp:qU X (binaryOp .FloorDiv) (rI Om fun i j=>.int (i/j)):=Q2 fun i j _ _ _ _ _ a q=>by
 have c:(0:Int)<j:=a.1;have d:j<1000000000000000000000000000000:=a.2;refine floordiv_int (by omega) (by rw[Int.fdiv_eq_ediv_of_nonneg i (by omega)];exact q) (.inl (PyProof.noPylong_of_log2 ?_));have b:j.natAbs≠0:=by omega
 have g:j.natAbs.log2<100:=(Nat.log2_lt b).mpr (Nat.lt_of_lt_of_le (show j.natAbs<1000000000000000000000000000000 by omega) (by decide));omega
def On(i j:Int):Prop:=i.natAbs<1000000000000000000000000000000000000000000000000000000000000∧j.natAbs<1000000000000000000000000000000000000000000000000000000000000
theorem dH:qU X (binaryOp .Mult) (rI On fun i j=>.int (i*j)):=Q2 fun _ _ _ _ _ _ _ a q=>
 mul_int q (IntMulOk.of_bits (Nat.le_trans (PyProof.Rows.intBits_le (k:=200) (Nat.lt_of_lt_of_le a.1 (by decide))) (by decide)) (Nat.le_trans (PyProof.Rows.intBits_le (k:=200) (Nat.lt_of_lt_of_le a.2 (by decide))) (by decide)))
end
def vn(K:Frag)(d:Addr)(kvs:List (Key×V)):Prop:=(d==sysModules)=false∧kvs.length≤sizeLine∧
 ∃(a:List (Key×Value)) (b:Nat),KV kvs a∧∀(P:Program) (w:World) (h:Heap),K.In h→h.DictAt (bp P w) d a b
inductive ML(K:Frag)(Q:VK)(x y:V)(H:Hp):Prop
 |mk (d:Addr) (kvs:List (Key×V)) (k:Key) (v:V) (e:x=.ref d) (h:vn K d kvs) (e2:y=kV k) (l:bH kvs k=some v) (q:Q v H):ML K Q x y H
def Qj(K:Frag)(td ty:TE):TE:=fun a H Q=>td a H fun x H1=>ty a H1 (ML K Q x)
inductive O1(K:Frag)(Q:VK)(y x:V)(H:Hp):Prop
 |mk (d:Addr) (kvs:List (Key×V)) (k:Key) (e:x=.ref d) (h:vn K d kvs) (e2:y=kV k) (q:Q (.bl (!(bH kvs k).isSome)) H):O1 K Q y x H
def Mq(K:Frag)(ty td:TE):TE:=fun a H Q=>ty a H fun y H1=>td a H1 (O1 K Q y)
def Jh(kvs:List (Key×V)):It:=
 ⟨fun i _=>i<kvs.length,fun i H x H'=>∃T k v,kvs[i]?=some (k,v)∧x=.ref T∧H T=none∧H'=upd H T (.tup [kV k,v]),fun i _=>kvs.length≤i⟩
inductive Su(K:Frag)(R:It→Hp→Prop)(x:V)(H:Hp):Prop
 |mk (d:Addr) (kvs:List (Key×V)) (e:x=.ref d) (h:vn K d kvs) (q:R (Jh kvs) H):Su K R x H
def Lv(K:Frag)(td:TE):TI:=fun a H R=>td a H (Su K R)
section
variable {X:Cx} {o i e:Expr} {pos apos cpos:Pos} {td ty:TE}
theorem qD(q:PE X o td)(p:PE X i ty)(r:M5 i):PE X (.Subscript o i pos) (Qj X.K td ty):=by intro a s g H Q I h;refine G8 PySem.F.slot_dict_getitem.lookup r (bO (q a s g H _ I h) fun u E ⟨x,H1,m,B,t⟩=>bO (p a E g H1 _ m t) fun J G ⟨y,j,c,C,d,kvs,k,v,ex,⟨hd,z,vs,ep,rel,dd⟩,n,l,A⟩=>?_);subst ex n;obtain rfl:u=Value.ref d:=B;have D:=(dd X.prog X.w G.heap c.nr).dictOf;obtain⟨L,hw,b⟩:=kE.some_of (v:=v) (o:=valueAt vs k) (by rw[← l];exact rel.val k);exact⟨D.typeIs,wpAny_getItem_of (nV C) D.mapOf hw ⟨v,j,c.tok _,b,A⟩⟩
theorem FQ(m:PE X i ty)(n:PE X o td):PC X .NotIn i o (Mq X.K ty td):=by intro a s c H Q I h;refine bO (m a s c H _ I h) fun B v ⟨y,H1,j,t,p⟩=>bO (n a v c H1 _ j p) fun u A ⟨x,g,b,r,d,kvs,k,ex,⟨hd,z,vs,ep,rel,dd⟩,l,q⟩=>?_;subst ex l;obtain rfl:u=Value.ref d:=r;have D:=(dd X.prog X.w A.heap b.nr).dictOf;refine wpAny_notIn_of (nV t) hd D.mapOf ?_;rw[← (rel.val k).iE];exact⟨.bl (!(bH kvs k).isSome),g,b.tok _,Z,q⟩
theorem EF{K:Frag}{kvs:List (Key×V)}(a:Addr)(J:KV kvs vs)(M:∀(P:Program) (w:World) (h:Heap),K.In h→h.DictAt (bp P w) d vs ep):
  Turn P w K (.Tuple elts kk S) (Jh kvs) [a] a (fun i h=>∃ok m,IsItemIter h a d i kvs.length ep ok m) where
 mem:=by simp
 obj:=fun i h st b g=>by
  have e:b=a:=by simpa using g
  subst e;obtain⟨ok,m,e⟩:=st;exact⟨_,e,fun v z=>nomatch z⟩
 keep:=fun i h x st k=>let⟨ok,m,e⟩:=st;⟨ok,m,k a (by simp) _ e⟩
 item:=by
  intro X B G y N i j s T H E I r st F;subst B G y;have O:i<kvs.length:=F;have hm:=M X.prog X.w s.heap I.nr;obtain⟨⟨k,v⟩,q⟩:∃p,kvs[i]?=some p:=⟨kvs[i],getElem?_eq_getElem O⟩;obtain⟨u,hu,ru⟩:=Fw J q;have t:kvs.length=vs.length:=Paired.length J;obtain⟨ok,m,he⟩:=st;rw[t]at he;have bL:a<s.heap.objs.size:=Heap.lt_size he;refine wpAny_pyNext_items_item he hm hu fun c x n ho hT _ hk=>?_;refine⟨_,Z,wpAny_letOwnedTupleGo_items (s:={s with heap:=x}) ho fun l D R=>?_⟩;have C:l.get? s.heap.objs.size=some {cls:=.type "tuple",data:=.seq #[c,u]}:=(R.2 _ (Nat.ne_of_gt bL)).trans hT;have new:b8 X.prog X.w (upd H s.heap.objs.size (.tup [kV k,v])) l s.heap.objs.size (.tup [kV k,v]):=
   ⟨by show 2≤sizeLine;decide,[c,u],.cons (Eh (show qe k c=true from n)) (.cons ru .nil),⟨_,C,Z,_,Z⟩⟩
  have U:Inv X j T (upd H s.heap.objs.size (.tup [kV k,v])) {s with heap:=l}:=
   I.nF (t':=s.toks) (ch:=[a]) (fun b L g e=>(R.2 b (by simpa using g)).trans (hk b L (by simpa using g) e)) r (Nat.le_refl _) new
  refine⟨.ref s.heap.objs.size,_,U,Z,⟨_,k,v,q,Z,I.bj.fresh (Nat.le_refl _),Z⟩,⟨c,u,?_⟩,fun b g=>?_⟩
  ·rw[t];exact D
  ·have e:b=a:=by simpa using g
   rw[e,aw (Nat.ne_of_lt bL)];exact(r a (by simp)).1
 done:=by intro X B G y N i j s T H E I r st F;subst B G y;have O:kvs.length≤i:=F;obtain⟨f0,f1,f2,f3,f4,f5⟩:=r a (by simp);have hm:=M X.prog X.w s.heap I.nr;have t:kvs.length=vs.length:=Paired.length J;obtain⟨ok,m,he⟩:=st;rw[t]at he;exact wpAny_pyNext_items_end (I.ok.hd N) he hm (getElem?_eq_none (by omega)) fun x Y=>⟨Z,I.turned (t':=s.toks) (fun b L g e=>Y b L g e) f0 f1 f3 f4 f5⟩
 self:=fun A i s Q E st h=>let⟨_,_,e⟩:=st;PySem.W.kcp_self e h
theorem Io(he:PE X e td)(g:attributeBase e "items" X.env (eval e X.env)=eval e X.env:=by rfl)(j:(apos.endLine==cpos.line)=true:=by rfl):
  PI X (.Tuple elts y k) (.Call (.Attribute e "items" apos) [] [] cpos) (Lv X.K td):=by
 intro a s l H R I h;refine wpAny_Call_method (T:="dict") (id:="dict.items") g Z j F.plainAttrs_dict F.slot_dict_items F.type_dict_items (bO (he a s l H _ I h) fun u c ⟨x,H1,m,B,d,kvs,ex,⟨v,z,vs,ep,p,n⟩,q⟩=>?_);subst ex;obtain rfl:u=Value.ref d:=B;have hm:=n X.prog X.w c.heap m.nr;have t:kvs.length=vs.length:=Paired.length p;refine⟨hm.dictOf.typeIs,hm.dictOf.mapOf.noDict,?_⟩;have r:Inv X a l H1 {c with heap:=c.heap.push {cls:=.type "dict_items",data:=.fields #[.ref d]}}:=m.kept (t':=c.toks) fun b _ q=>Heap.get?_push_of_some _ q;have fin:wpAny (model X.prog X.w) X.A (pyIter (.ref c.heap.objs.size)) (OO X a l (.Tuple elts y k) R) X.xe {c with heap:=c.heap.push {cls:=.type "dict_items",data:=.fields #[.ref d]}}:=by refine wpAny_pyIter_items (d:=d) (knd:=bp X.prog X.w) ⟨_,Heap.get?_push_size _ Z,Z,Z⟩ (hm.push _) (px (tk:=c.toks) r _ (EF _ p n) ⟨.none,.none,?_⟩ q);rw[t];exact Heap.get?_push_size _ Z
 show wpAny _ _ (callWith cpos (.builtin "dict.items") [.ref d] [] []) _ X.xe c;exact method_meetsIn F.slot_dict_items F.entry_dict_items Z (PySem.evalArgs_none ⟨Z,hm.dictOf.typeIs,F.args_dict_items_1 _,_,meets_dict_items (bp X.prog X.w) d v,⟨vs,hm.dictOf⟩,fin⟩)
end
theorem Fs{kvs:List (Key×V)}{g:TG}{j:TS}{D:Ends}(Pv:Nat→St→Hp→Prop)(l:Pv 0 a H)
 (q:∀i a H k v T,kvs[i]?=some (k,v)→H T=none→Pv i a H→g (.ref T) a (upd H T (.tup [kV k,v])) fun c d=>j {D with nx:=Pv (i+1),ct:=Pv (i+1),bk:=D.nx} c d)(hd:∀a H,Pv kvs.length a H→D.nx a H):
  ∃W:Nat→Nat→St→Hp→Prop,(∃m,W 0 m a H)∧∀i m a H,W i m a H→
   ((Jh kvs).stop i H∧D.nx a H)∨((Jh kvs).go i H∧∃N:St→Hp→Prop,(∀b H',N b H'→∃h,h<m∧W (i+1) h b H')∧∀x H',(Jh kvs).CB i H x H'→g x a H' fun c d=>j {D with nx:=N,ct:=N,bk:=D.nx} c d):=by
 refine⟨fun i m a H=>m=kvs.length-i∧i≤kvs.length∧Pv i a H,⟨_,Z,Nat.zero_le _,l⟩,?_⟩;rintro i m a H ⟨rfl,s,p⟩;by_cases bL:i<kvs.length
 ·refine .inr ⟨bL,Pv (i+1),fun b H' r=>⟨kvs.length-(i+1),by omega,Z,bL,r⟩,fun x H' y=>?_⟩;obtain⟨T,k,v,e,rfl,n,rfl⟩:=y;exact q i a H k v T e n p
 ·have e:i=kvs.length:=by omega
  subst e;exact .inl ⟨Nat.le_refl _,hd a H p⟩
inductive Sq(Q:VK)(a:Addr)(y z:V)(H:Hp):Prop
 |mk (kvs:List (Key×V)) (k:Key) (h:H a=some (.dK kvs)) (e:y=kV k) (l:kvs.length<sizeLine) (q:∀v,bH kvs k=some v→Q v H) (r:bH kvs k=none→Q z (upd H a (.dK (putK kvs k z)))):Sq Q a y z H
def N9(td ty tx:TE):TE:=fun b H Q=>td b H (Sg fun a H1=>ty b H1 fun y c=>tx b c (Sq Q a y))
section
variable {X:Cx} {o e f:Expr} {apos cpos:Pos} {td ty tx:TE}
theorem Eb(P:PE X o td)(he:PE X e ty)(O:PE X f tx)(m:M2 X o "setdefault" apos e f cpos):PE X (.Call (.Attribute o "setdefault" apos) [e,f] [] cpos) (N9 td ty tx):=by
 intro b s p H Q I h;refine wpAny_Call_method m.base m.RH m.line PySem.F.plainAttrs_dict PySem.F.slot_dict_setdefault PySem.F.type_dict_setdefault (bO (P b s p H _ I h) fun u s1 ⟨x,H1,r,rx,a,ex,d,V⟩=>?_);subst ex;obtain rfl:u=Value.ref a:=rx;obtain⟨t1,t2,_⟩:=JT r d;refine⟨t1,t2,?_⟩;rw[m.trees];refine Calls.callWith_builtin Z (Calls.evalArgs_plain (Calls.spliced_cons (bO (he b s1 p H1 _ r V) fun U s2 ⟨y,D,G,ry,W⟩=>
  Calls.spliced_cons (bO (O b s2 p D _ G W) fun B s3 ⟨z,E,l,C,kvs,k,A,M,hz,Y,q4⟩=>Calls.spliced_nil ?_))))
 subst M;obtain⟨zz,hd,vs,c,t⟩:=C_ l.bj A;have hl:kvs.length=vs.length:=c.length;show wpAny _ _ (call (.builtin "dict.setdefault") [.ref a,U,B]) _ _ s3;refine call_meetsIn PySem.F.slot_dict_setdefault t.typeIs PySem.F.entry_dict_setdefault (PySem.F.args_dict_setdefault_3 _ _ _) (PySem.kt_meets_setdefault (bp X.prog X.w) a (nV ry) hd B) ?_;refine⟨vs,t,by omega,fun v T=>?_,fun hn N j S=>?_⟩
 ·obtain⟨g,J,r'⟩:∃g,bH kvs k=some g∧RelV g v:=by
   have q:=c.val k;rw[T]at q;cases e:bH kvs k with
   |none=>rw[e]at q;exact q.elim
   |some g=>rw[e]at q;exact⟨g,Z,q⟩
  exact⟨g,E,l.tok _,r',Y g J⟩
 ·have L:bH kvs k=none:=by
   have q:=c.val k;rw[hn]at q;cases e:bH kvs k with
   |none=>rfl
   |some g=>rw[e]at q;exact q.elim
  have he:∃q,N.get? a=some q:=let⟨q,_,_,R,_⟩:=j;⟨q,R⟩;have n:(putK kvs k z).length≤sizeLine:=by have:=fF kvs k z;omega
  exact⟨z,_,u6 l (by rw[A];exact True.intro) S he (Fh n hd (c.put k C) j),C,q4 L⟩
end
section
variable {X:Cx}
inductive Sr(K:Frag)(vs:List V)(H:Hp)(Q:VK):Prop
 |mk (a:Addr) (ns:List Int) (e:vs=[V.ref a]) (h:aT K H a (ns.map V.int)) (q:∀(ns':List Int) (p:Addr),ns'.Perm ns→ns'.Pairwise (· ≤·)→H p=none→Q (.ref p) (upd H p (.lst (ns'.map V.int)))):Sr K vs H Q
def Kn(K:Frag):List V→Hp→VK→Prop:=Sr K
theorem Fe:iG X (.builtin "sorted") (Kn X.K):=by
 intro m s A H z y Q I r h;obtain⟨a,ns,rfl,x,q⟩:=h;obtain⟨k,n,w,hz⟩:=I.list x;rw[Vals.Ks r];have v:=n.ints;have j:=n.length;refine PyProof.Rows.sorted_intsAny w.isList v (by omega) fun d b t l u=>?_;obtain⟨p,g⟩:=PyProof.Rows.sortedAll_at s.heap k d;have c:(b.map V.int).length≤sizeLine:=by rw[length_map]at hz ⊢;rw[l.length_eq];exact hz
 exact⟨.ref _,upd H (s.heap.objs.size+1) (.lst (b.map V.int)),I.laid (t':=s.toks) (fun _ _=>PyProof.Rows.sortedAll_old) (Nat.le_succ _) ⟨c,d.toList,p,iD t,g⟩,Z,q b _ l u (I.bj.fresh (Nat.le_succ _))⟩
def CG(kvs:List (Key×V))(ns:List Int):Prop:=kvs.map (·.1)=ns.map Sum.inl
theorem Dy{ns:List Int}(h:CG kvs ns){vs:List (Key×Value)}(c:KV kvs vs){i:Nat}{k:Key}{x:Value}(e:vs[i]?=some (k,x)):∃n,ns[i]?=some n∧k=Sum.inl n:=by
 have a:(vs.map (·.1))[i]?=some k:=by rw[getElem?_map,e];rfl
 have b:vs.map (·.1)=kvs.map (·.1):=c.keys.symm;rw[b,h,getElem?_map]at a;cases q:ns[i]? with
 |none=>rw[q]at a;cases a
 |some n=>rw[q]at a;exact⟨n,Z,(Option.some.inj a).symm⟩
theorem nU{ns:List Int}{vs:List Value}(a:vs.length=ns.length)(h:∀(j:Nat) (v:Value),vs[j]?=some v→∃n t,ns[j]?=some n∧v=Value.int n t):IntsAre vs ns:=by
 induction vs generalizing ns with
 |nil=>
  cases ns with
  |nil=>exact .nil
  |cons _ _=>simp at a
 |cons v vs b=>
  cases ns with
  |nil=>simp at a
  |cons n ns=>
   obtain⟨m,t,e,rfl⟩:=h 0 v Z;cases e;exact .cons n t (b (by simpa using a) fun j u e=>h (j+1) u (by simpa using e))
inductive Ss(vs:List V)(H:Hp)(Q:VK):Prop
 |mk (a:Addr) (kvs:List (Key×V)) (ns:List Int) (e:vs=[V.ref a]) (h:H a=some (.dK kvs)) (k:CG kvs ns) (q:∀(ns':List Int) (p:Addr),ns'.Perm ns→ns'.Pairwise (· ≤·)→H p=none→Q (.ref p) (upd H p (.lst (ns'.map V.int)))):Ss vs H Q
def Ko:List V→Hp→VK→Prop:=Ss
theorem vD(hc:X.calm=true):iG X (.builtin "sorted") Ko:=by
 intro y s σ H vs us Q I r h;obtain⟨a,kvs,ns,rfl,ha,M,q⟩:=h;obtain⟨z,lo,ws,rel,N⟩:=C_ I.bj ha;obtain⟨ep,C⟩:=N.dictAt;have hl:kvs.length=ws.length:=rel.length;have hn:kvs.length=ns.length:=by have:=congrArg List.length M;simpa using this
 rw[Vals.Ks r];refine Calls.call_function_entry kind_sorted plain_sorted entry_sorted (args_sorted1 _) ?_;unfold Builtin.«sorted»;refine wpAny_bind (m:=checkCount "sorted" 1 1 _) (wpAny_pure ?_);refine wpAny_bind (PySem.W.kdu_collect (A:=X.A.in1) (kdl_dict (knd:=bp X.prog X.w) (kvs:=ws) (ep:=ep) lo) (I.ok.hd hc) C (by omega) fun p tk c E d=>?_);have F:c.toList.length=ws.length:=by rw[Array.length_toList];exact d.1
 refine wpAny_bind (wpAny_newList ?_ (by rw[F];omega));have Y:IntsAre c.toList ns:=by refine nU (by omega) fun j v e=>?_;obtain⟨k,x,O,P⟩:=d.2 j v (by rw[← Array.getElem?_toList];exact e);obtain⟨n,R,rfl⟩:=Dy M rel O;obtain⟨t,S⟩:=Value.isInt_shape (k:=n) (v:=v) P;exact⟨n,t,R,S⟩
 have g:(p.push {cls:=.type "list",data:=.seq c.toList.toArray}).get? p.objs.size=some (seqObj "list" c.toList.toArray 0):=Heap.get?_push_size _ Z;refine wpAny_bind (wpAny_holding (wpAny_call_entry slot_list_sort ⟨_,g,Z⟩ entry_list_sort (list_sort_treeAny g Y (by omega) fun out l T J U=>⟨_,Z,?_⟩) (args_list_sort _)));refine wpAny_pure ⟨_,Z,?_⟩;have G:Inv X y σ H {s with heap:=p,toks:=tk}:=I.kept E;obtain⟨B,D⟩:=sortedHeap_at (n:=0) (out:=out) g;have u:(l.map V.int).length≤sizeLine:=by rw[length_map,J.length_eq];omega
 refine⟨.ref p.objs.size,upd H p.objs.size (.lst (l.map V.int)),G.laid (t':=tk) (fun b o e=>?_) (Nat.le_refl _) ⟨u,out.toList,B,iD T,D⟩,Z,q l _ J U (G.bj.fresh (Nat.le_refl _))⟩;have L:=Heap.lt_size e;rw[sortedHeap_old (Nat.ne_of_lt L) (by rw[size_push'];exact Nat.lt_succ_of_lt L)];exact Heap.get?_push_of_some _ e
theorem E_(L:X.calm=true):iG X (.type "list") (fun xs H Q=>∃(a:Addr) (kvs:List (Key×V)) (ns:List Int),xs=[V.ref a]∧H a=some (.dK kvs)∧CG kvs ns∧∀l,H l=none→Q (.ref l) (upd H l (.lst (ns.map V.int)))):=by
 intro A s R H P O Q I r h;obtain⟨a,kvs,ns,rfl,ha,y,q⟩:=h;obtain⟨z,lo,ws,rel,B⟩:=C_ I.bj ha;obtain⟨ep,p⟩:=B.dictAt;have N:kvs.length=ws.length:=rel.length;have hn:kvs.length=ns.length:=by have:=congrArg List.length y;simpa using this
 rw[Vals.Ks r];refine PySem.W.kdl_call (kdl_dict (knd:=bp X.prog X.w) (kvs:=ws) (ep:=ep) lo) (I.ok.hd L) p (by omega) fun _ tk g c u J d=>?_;have M:g.toList.length=ws.length:=by rw[Array.length_toList];exact d.1
 have G:IntsAre g.toList ns:=by refine nU (by omega) fun j v e=>?_;obtain⟨k,x,C,D⟩:=d.2 j v (by rw[← Array.getElem?_toList];exact e);obtain⟨n,E,rfl⟩:=Dy y rel C;obtain⟨t,F⟩:=Value.isInt_shape (k:=n) (v:=v) D;exact⟨n,t,E,F⟩
 have m:(ns.map V.int).length≤sizeLine:=by rw[length_map];omega
 exact⟨.ref s.heap.objs.size,upd H s.heap.objs.size (.lst (ns.map V.int)),I.laid (t':=tk) (fun b o e=>u b o e) (Nat.le_refl _) ⟨m,g.toList,c,iD G,J⟩,Z,q _ (I.bj.fresh (Nat.le_refl _))⟩
end
end L2
namespace L2
open PySem PySem.Spec PyProof.Rows
section
variable {prog:Program} {w:World} {A:Around} {E:Value→Shared→Prop} {s:Shared}
theorem qm{items:Array Value}{Q:Value→Shared→Prop}(a:s.heap.IsTupleIter it t i)(g:s.heap.IsTuple t items)(h:items[i]?=some x)
 (e:∀h',h'.IsTupleIter it t (i+1)→Heap.SameBut it s.heap h'→Q x {s with heap:=h'}):wpAny (model prog w) A (Builtin.SmallTypes.nextOf (.ref it)) Q E s:=by
 obtain⟨o,b,f,hd⟩:=id a;obtain⟨ol,d,_,nl,c⟩:=g;unfold Builtin.SmallTypes.nextOf;refine wpAny_bind (wpAny_callSpecial?_slot (name:=Str.ofString "__next__") a.typeIs F.slot_tuple_iterator_next
  (wpAny_call_entry F.slot_tuple_iterator_next a.typeIs F.entry_tuple_iterator_next ?_ (F.args_tuple_iterator_next_1 _)))
 show wpAny _ _ (field (.ref it) 0 >>= _) _ _ s;refine wpAny_bind (wpAny_field b hd (x:=.ref t) Z ?_);show wpAny _ _ (if(Value.ref t==Value.none)=true then _ else _) _ _ s;rw[if_neg (show¬((Value.ref t==Value.none)=true)from Bool.false_ne_true)];show wpAny _ _ (field (.ref it) 1 >>= _) _ _ s;refine wpAny_bind (wpAny_field b hd (x:=.int i 0) Z ?_);show wpAny _ _ (seqItems? (.ref t) >>= _) _ _ s;refine wpAny_bind (wpAny_seqItems d c ?_);simp only[Int.toNat_natCast,h];refine wpAny_bind (wpAny_setField b hd (by simp) (wpAny_pure ⟨x,Z,wpAny_pure (e _ ?_ (Heap.SameBut.update ..))⟩));exact⟨_,Heap.get?_update_self _ b (Obj.isFreed_of_fields (Obj.data_mapFields hd _)),(Obj.cls_mapFields ..).trans f,by rw[Obj.data_mapFields hd];simp[rawInt]⟩
theorem j9{items:Array Value}{Q:Value→Shared→Prop}(g:A.handled=none)(b:s.heap.IsTupleIter it t i)(j:s.heap.IsTuple t items)(k:items[i]?=none)
 (h:∀h' e,Heap.ExtBut it s.heap h'→(∃o,h'.get? e=some o∧o.cls=.type "StopIteration")→E (.ref e) {s with heap:=h'}):wpAny (model prog w) A (Builtin.SmallTypes.nextOf (.ref it)) Q E s:=by
 obtain⟨o,d,l,hd⟩:=id b;obtain⟨ol,f,_,nl,c⟩:=j;unfold Builtin.SmallTypes.nextOf;refine wpAny_bind (wpAny_callSpecial?_slot (name:=Str.ofString "__next__") b.typeIs F.slot_tuple_iterator_next
  (wpAny_call_entry F.slot_tuple_iterator_next b.typeIs F.entry_tuple_iterator_next ?_ (F.args_tuple_iterator_next_1 _)))
 show wpAny _ _ (field (.ref it) 0 >>= _) _ _ s;refine wpAny_bind (wpAny_field d hd (x:=.ref t) Z ?_);show wpAny _ _ (if(Value.ref t==Value.none)=true then _ else _) _ _ s;rw[if_neg (show¬((Value.ref t==Value.none)=true)from Bool.false_ne_true)];show wpAny _ _ (field (.ref it) 1 >>= _) _ _ s;refine wpAny_bind (wpAny_field d hd (x:=.int i 0) Z ?_);show wpAny _ _ (seqItems? (.ref t) >>= _) _ _ s;refine wpAny_bind (wpAny_seqItems f c ?_);simp only[Int.toNat_natCast,k];refine wpAny_bind (wpAny_rule (wpAny_bind (wpAny_setField d hd (by simp) ?_)));show wpAny _ _ (newExc (.type "StopIteration") [] >>= _) _ _ _;refine wpAny_bind ?_;simp only[newExc,newTuple];refine wpAny_bind (wpAny_newObj_type ?_ (by size_fits));refine wpAny_bind (m:=firstArgMember _ _) (wpAny_of_eq (a:=Value.none) (by first|rfl|(simp only[firstArgMember];rfl)) ?_);refine wpAny_newObj_type ?_ (by size_fits);simp only[raiseNew];refine wpAny_bind (wpAny_handled ?_)
 first|rw[show A.in1.handled=none from g]|rw[g]
 refine wpAny_bind (wpAny_pure (wpAny_throw ?_));exact h _ _ (((Heap.SameBut.update ..).extBut.push _).push _) ⟨_,Heap.get?_push_size _ Z,Z⟩
end
theorem uo{A:Around}(q:A.handled=none)(d t:Addr)(g:t≠d)(items:Array Value)(k:Nat):
  Draws prog w A d [d,t] (items.size+k) (fun i v=>∃j,i=j+k∧items[j]?=some v) (fun i h=>∃j,i=j+k∧h.IsTupleIter d t j∧h.IsTuple t items) where
 live:=fun _ _ ⟨_,_,st⟩=>let⟨o,b,_⟩:=st.1;⟨o,b⟩
 frame:=fun _ _ _ ⟨j,e,st⟩ l=>⟨j,e,let⟨o,b,r⟩:=st.1;⟨o,l d (by simp) o b,r⟩,let⟨o,b,r⟩:=st.2;⟨o,l t (by simp) o b,r⟩⟩
 item:=fun i s Q E u ⟨j,e,st⟩ p=>by
  subst e;have f:j<items.size:=by omega
  refine qm st.1 st.2 (x:=items[j]) (by simp[f]) fun m a c=>?_;exact p _ m s.toks ⟨j,Z,by simp[f]⟩ ⟨j+1,by omega,a,st.2.extBut c.extBut g⟩ c
 done:=fun s Q E ⟨j,e,st⟩ n=>by
  have f:j=items.size:=by omega
  subst f;exact j9 q st.1 st.2 (by simp) n
def AG(K:Frag)(a:Addr)(k:Nat)(xs:List V):It:=
 ⟨fun i H=>i<xs.length,fun i H v H'=>∃T x,v=.ref T∧H T=none∧H'=upd H T (.tup [.int ((i+k:Nat):Int),x])∧xs[i]?=some x,fun i H=>xs.length≤i⟩
def dj(K:Frag)(a:Addr)(xs:List V):Prop:=∃(o:Obj) (b:Array Value) (n:Nat),K.lookup a=some o∧o.cls=.type "tuple"∧o.data=.seq b n∧b.size≤sizeLine∧Vals xs b.toList
theorem dj.sq{K:Frag}{a:Addr}{xs:List V}(h:dj K a xs)(H:Hp):h9 K H a xs:=.inr h
theorem Ga{P:Program}{w:World}{K:Frag}{C:List Expr}{kk k:Nat}{M:Pos}{a e c:Addr}{xs:List V}(T:dj K a xs)(B:e≠c)(b2:a≠c)(b1:e≠a):
  Turn P w K (.Tuple C kk M) (AG K a k xs) [e,c] e (fun i h=>(∃old,IsEnum h e c ((i+k:Nat):Int) old)∧h.IsTupleIter c a i) where
 mem:=by simp
 obj:=fun i h st b f=>by
  obtain⟨⟨old,he⟩,⟨o,L,O,hd⟩⟩:=st;have U:b=e∨b=c:=by simpa using f
  rcases U with z|z
  ·rw[z];exact⟨_,he,fun v q=>nomatch q⟩
  ·rw[z];exact⟨o,L,fun v q=>by rw[hd]at q;cases q⟩
 keep:=fun i h h' st k=>let⟨⟨old,he⟩,⟨o,L,r⟩⟩:=st;⟨⟨old,k e (by simp) _ he⟩,⟨o,k c (by simp) _ L,r⟩⟩
 item:=by
  intro X hP hw hK O i g s σ H E I R st hg;subst hP hw hK;obtain⟨⟨old,he⟩,hit⟩:=st;have hi:i<xs.length:=hg;obtain⟨o,d,n,hk,m,p,hz,S⟩:=T;have ht:s.heap.IsTuple a d:=⟨o,I.nr a o hk,m,n,p⟩;have hl:xs.length=d.size:=by rw[← Array.length_toList];exact S.length
  have G:e<s.heap.objs.size:=Heap.lt_size he;have c0:c<s.heap.objs.size:=by obtain⟨_,q,_⟩:=hit;exact Heap.lt_size q
  have D:=uo (prog:=X.prog) (w:=X.w) (A:=X.A.in1) (I.ok.hd O) c a b2 d k;refine wpAny_pyNext_enum_itemD D he ⟨i,Z,hit,ht⟩ (by omega) B (by simp;exact⟨B,b1⟩) fun x h' tk ⟨j,ej,hx⟩ L ⟨j',c4,J,_⟩ N hsz hkp=>?_;have Y:j=i:=by omega
  have a1:j'=i+1:=by omega
  subst Y a1;obtain⟨y,hy⟩:∃y,xs[j]?=some y:=⟨_,getElem?_eq_getElem hi⟩;obtain⟨u,hu,ru⟩:=S.get hy;rw[Array.getElem?_toList,hx]at hu;cases hu;refine⟨_,Z,wpAny_letOwnedTupleGo_enum (s:={s with heap:=h',toks:=tk+1}) L fun l t sb=>?_⟩;have a2:l.get? s.heap.objs.size=some {cls:=.type "tuple",data:=.seq #[.int ((j+k:Nat):Int) tk,x]}:=(sb.2 _ (Nat.ne_of_gt G)).trans N;have new:b8 X.prog X.w (upd H s.heap.objs.size (.tup [.int ((j+k:Nat):Int),y])) l s.heap.objs.size (.tup [.int ((j+k:Nat):Int),y]):=
   ⟨by show 2≤sizeLine;decide,[.int ((j+k:Nat):Int) tk,x],.cons ⟨_,Z⟩ (.cons ru .nil),⟨_,a2,Z,_,Z⟩⟩
  have I1:Inv X g σ (upd H s.heap.objs.size (.tup [.int ((j+k:Nat):Int),y])) {s with heap:=l,toks:=tk+1}:=
   I.nF (ch:=[e,c]) (fun b ob f q=>(sb.2 b (fun z=>f (by simp[z]))).trans (hkp b ob (fun z=>f (by simp[z])) (fun z=>f (by simp[z])) q)) R (Nat.le_refl _) new
  refine⟨.ref s.heap.objs.size,_,I1,Z,⟨_,y,Z,I.bj.fresh (Nat.le_refl _),Z,hy⟩,⟨⟨x,?_⟩,?_⟩,fun b f=>?_⟩
  ·have e1:((j+1+k:Nat):Int)=((j+k:Nat):Int)+1:=by omega
   rw[e1];exact t
  ·obtain⟨o2,c1,r2⟩:=J;exact⟨o2,(sb.2 c (Ne.symm B)).trans c1,r2⟩
  ·have b3:b<s.heap.objs.size:=by
    have U:b=e∨b=c:=by simpa using f
    rcases U with z|z
    ·rw[z];exact G
    ·rw[z];exact c0
   rw[aw (Nat.ne_of_lt b3)];exact(R b f).1
 done:=by
  intro X hP hw hK O i g s σ H E I R st hg;subst hP hw hK;obtain⟨⟨old,he⟩,hit⟩:=st;have hi:xs.length≤i:=hg;obtain⟨o,d,n,hk,m,p,hz,S⟩:=T;have ht:s.heap.IsTuple a d:=⟨o,I.nr a o hk,m,n,p⟩;have hl:xs.length=d.size:=by rw[← Array.length_toList];exact S.length
  obtain⟨f0,f1,f2,f3,f4,f5⟩:=R c (by simp);have N:s.TypeIs (.ref e) "enumerate":=⟨_,he,Z⟩;unfold pyNext;refine wpAny_bind (wpAny_attempt (wpAny_callSpecial?_slot (name:=Str.ofString "__next__") N F.slot_enumerate_next
   (wpAny_call_entry F.slot_enumerate_next N F.entry_enumerate_next ?_ (F.args_enumerate_next_1 _))))
  show wpAny _ _ (field (.ref e) 2 >>= _) _ _ _;refine wpAny_bind (wpAny_field he Z (x:=.ref c) Z ?_);refine wpAny_bind (j9 (show X.A.in1.handled=none from I.ok.hd O) hit ht (by simp;omega) fun h' x t c3=>?_);obtain⟨o3,c2,b9⟩:=c3;refine wpAny_bind (wpAny_isInstance (T:="StopIteration") (b:=true) ⟨o3,c2,b9⟩ isSubtype_stop ?_);exact wpAny_pure ⟨Z,I.turned (t':=s.toks) (fun b o f q=>t b o f q) f0 f1 f3 f4 f5⟩
 self:=fun A i s Q E st h=>let⟨⟨_,he⟩,_⟩:=st;wpAny_pyIter_enum he h
section
variable {prog:Program} {w:World} {A:Around} {E:Value→Shared→Prop} {s:Shared}
theorem E8(a:TypeCalled T newId initId)
 (t:checkTypeCall T ⟨args,kw⟩=pure ())(j:checkBuiltinCall newId ⟨.type T::args,kw⟩=pure ())
 (d:entryFor table newId=some Bn)(b:entryFor table initId=some Bi)(g:Meets (Bn ⟨.type T::args,kw⟩) S)
 (h:S A.in1 (wants Q₁ E) s)
 (f:∀obj s₁,Q₁ obj s₁→s₁.TypeIs obj T∧argsOk initId ⟨obj::args,kw⟩∧∃i,Meets (Bi ⟨obj::args,kw⟩) i∧i A.in1 (wants (fun r s₂=>r=.none∧Q obj s₂) E) s₁):
  wpAny (model prog w) A (call (.type T) args kw) Q E s:=by
 obtain⟨c,tl,n⟩:=a.mro;have k:=a.made;have o:=a.sub;refine wpAny_call (codeAny_of_tree ?_);show wpAny _ _ (callAny (.type T) _) _ _ _;refine wpAny_pure ⟨Code.quiet_builtin _ (by decide +kernel),codeAny_builtin F.entry_type_call ?_⟩;rw[Around.under_plain (weight_type_call_type T args kw) (units_type_call_type T args kw)];have v:=a.notType;have x:=a.canCreate
 repeat (any_goals (first|assumption|wp_step))
 refine codeAny_mono (codeAny_call_builtin a.plain d (wpAny_of_eq j (g prog w A.in1 _ s h))) fun r s₁ l=>?_;cases r with
 |error e=>exact l
 |ok fl=>
  cases fl with
  |ret obj=>
   obtain⟨p,bj,i,gi,m⟩:=f _ _ l;have u:=a.init.lookup;have q:=a.init.bind obj
   repeat (any_goals (first|assumption|wp_step))
   refine codeAny_mono (codeAny_call_builtin a.init.plain b (a.init.check _ _ _ _ _ _ _ _ p bj (gi prog w A.in1 _ s₁ m))) fun r₂ s₂ hr₂=>?_;cases r₂ with
   |error e=>exact hr₂
   |ok fl₂=>
    cases fl₂ with
    |ret r=>
     obtain⟨rfl,y⟩:=hr₂
     repeat (any_goals (first|assumption|wp_step))
    |_=>exact hr₂.elim
  |_=>exact l.elim
theorem yO{c:List Value}{e:List (Str×Value)}(i:typeLookup (.type T) "__init__"=pure (some (.builtin "object.__init__")))
 (hm:Bind.madeBy (.type T)=pure (some newId))(f:(some newId != some "object.__new__")=true):
  Meets (Builtin.«object.__init__» ⟨self::c,e⟩) (fun _ R s=>s.TypeIs self T∧R (.ok (.ret .none)) s):=by
 refine Meets.of_wp fun prog w A R s g=>?_;obtain⟨h,d⟩:=g;cases c with
 |nil=>
  cases e with
  |nil=>exact wpAny_pure ⟨_,Z,d⟩
  |cons b e=>
   repeat (any_goals (first|assumption|wp_step))
   exact⟨_,Z,d⟩
 |cons a c=>
  repeat (any_goals (first|assumption|wp_step))
  exact⟨_,Z,d⟩
end
end L2
namespace L2
open PySem PySem.Spec PyProof.Rows
theorem DH(t:Addr)(items:Array Value)(n:Nat)(l:Option Addr)(v:Array (Option Value))(k:Nat)(tk:Tok)(x:k<1000):
  Meets (Builtin.«enumerate.__new__» ⟨[.type "enumerate",.ref t],[(Str.ofString "start",.int (k:Int) tk)]⟩) (fun _ R s=>s.heap.get? t=some {cls:=.type "tuple",dict:=l,data:=.seq items n,slots:=v}∧
   R (.ok (.ret (.ref (s.heap.push {cls:=.type "tuple_iterator",data:=.fields #[.ref t,.int 0 0]}).objs.size)))
    {s with heap:=(s.heap.push {cls:=.type "tuple_iterator",data:=.fields #[.ref t,.int 0 0]}).push {cls:=.type "enumerate",data:=.fields #[.none,.bool false,.ref s.heap.objs.size,rawInt k,.none,.none]}}):=
 .of_wp fun prog w A R s h=>by
  obtain⟨p,g,d,f,os⟩:=s;obtain⟨q,h⟩:=h;have r:=sub_enumerate;have m:Heap.IsTuple (Shared.heap ⟨p,g,d,f,os⟩) t items:=⟨_,q,Z,n,Z⟩
  wp_walk using AutoSeq1.wpAny_loadPart' q
  refine wpAny_stack_any fun st=>wpAny_pure ?_;have b:(!Builtin.SmallTypes.fitsIndex (k:Int))=false:=by unfold Builtin.SmallTypes.fitsIndex;rw[decide_eq_true (by omega),decide_eq_true (by omega)];rfl
  have fin:wpAny (model prog w) A.in1 (Builtin.SmallTypes.indexObject "enumerate.__new__" (.int (k:Int) tk)) (fun o j=>o=.int (k:Int) tk∧j=⟨p,g,d,f,os⟩) (fun e u=>R (Except.error e) u) ⟨p,g,d,f,os⟩:=by unfold Builtin.SmallTypes.indexObject;exact wpAny_bind (wpAny_pure (wpAny_pure ⟨Z,Z⟩))
  split
  ·rename_i c _ _ _ _ _
   cases(c==Value.type "enumerate")
   ·wp_delta
    rw[if_neg Bool.false_ne_true]
    with_reducible refine wpAny_bind ?_
    with_reducible refine wpAny_of_eq (a:=(Value.ref t,some (Value.int (k:Int) tk))) ?hx ?_
    case hx=>kernel_rfl
    dsimp only
    with_reducible refine wpAny_bind ?_
    with_reducible refine wpAny_mono fin ?_ ?_
    ·intro o j i;obtain⟨rfl,rfl⟩:=i
     with_reducible refine wpAny_bind ?_
     with_reducible refine wpAny_of_eq (a:=some (k:Int)) Z ?_
     dsimp only;rw[b,if_neg Bool.false_ne_true]
     with_reducible refine wpAny_bind ?_
     with_reducible refine wpAny_pyIter_tuple m ?_
     wp_walk
     exact⟨_,Z,h⟩
    ·exact fun _ _ e=>e
   ·wp_delta
    rw[if_pos Z]
    with_reducible refine wpAny_bind ?_
    with_reducible refine wpAny_of_eq (a:=(Value.ref t,some (Value.int (k:Int) tk))) ?hx ?_
    case hx=>kernel_rfl
    dsimp only
    with_reducible refine wpAny_bind ?_
    with_reducible refine wpAny_mono fin ?_ ?_
    ·intro o j i;obtain⟨rfl,rfl⟩:=i
     with_reducible refine wpAny_bind ?_
     with_reducible refine wpAny_of_eq (a:=some (k:Int)) Z ?_
     dsimp only;rw[b,if_neg Bool.false_ne_true]
     with_reducible refine wpAny_bind ?_
     with_reducible refine wpAny_pyIter_tuple m ?_
     wp_walk
     exact⟨_,Z,h⟩
    ·exact fun _ _ e=>e
  ·wp_delta
   rw[if_neg Bool.false_ne_true]
   with_reducible refine wpAny_bind ?_
   with_reducible refine wpAny_of_eq (a:=(Value.ref t,some (Value.int (k:Int) tk))) ?hx ?_
   case hx=>kernel_rfl
   dsimp only
   with_reducible refine wpAny_bind ?_
   with_reducible refine wpAny_mono fin ?_ ?_
   ·intro o j i;obtain⟨rfl,rfl⟩:=i
    with_reducible refine wpAny_bind ?_
    with_reducible refine wpAny_of_eq (a:=some (k:Int)) Z ?_
    dsimp only;rw[b,if_neg Bool.false_ne_true]
    with_reducible refine wpAny_bind ?_
    with_reducible refine wpAny_pyIter_tuple m ?_
    wp_walk
    exact⟨_,Z,h⟩
   ·exact fun _ _ e=>e
theorem ya(a:Value)(i:Int)(t:Tok):checkTypeCall "enumerate" ⟨[a],[(Str.ofString "start",.int i t)]⟩=pure ():=by kernel_rfl
theorem yL(a:Value)(i:Int)(t:Tok):checkBuiltinCall "enumerate.__new__" ⟨[.type "enumerate",a],[(Str.ofString "start",.int i t)]⟩=pure ():=by kernel_rfl
theorem E4(o a:Value)(i:Int)(t:Tok):argsOk "object.__init__" ⟨[o,a],[(Str.ofString "start",.int i t)]⟩:=by unfold argsOk;kernel_rfl
section
variable {prog:Program} {w:World} {A:Around} {E:Value→Shared→Prop} {s:Shared}
theorem E9{k:Nat}{Q:Value→Shared→Prop}(m:k<1000)(l:s.heap.IsTuple t items)
 (h:∀h',IsEnum h' (s.heap.objs.size+1) s.heap.objs.size (k:Int) .none→h'.IsTupleIter s.heap.objs.size t 0→h'.objs.size=s.heap.objs.size+2→
   (∀b o,s.heap.get? b=some o→h'.get? b=some o)→Q (.ref (s.heap.objs.size+1)) {s with heap:=h'}):
  wpAny (model prog w) A (call (.type "enumerate") [.ref t] [(Str.ofString "start",.int (k:Int) tk)]) Q E s:=by
 obtain⟨⟨c,a,j,q⟩,p,d,n,hd⟩:=l
 replace d:c=.type "tuple":=d
 replace hd:j=.seq items n:=hd
 subst d hd;refine E8 (Q₁:=fun obj s₁=>s₁.TypeIs obj "enumerate"∧Q obj s₁) F.called_enumerate (ya _ _ _) (yL _ _ _) F.entry_enumerate_new F.entry_object_init (DH t items n a q k tk m) ⟨p,?_⟩ fun obj s₁ f=>
  ⟨f.1,E4 _ _ _ _,_,yO F.called_enumerate.init.lookup F.called_enumerate.made (by decide),f.1,Z,f.2⟩
 have g:(s.heap.push {cls:=.type "tuple_iterator",data:=.fields #[.ref t,.int 0 0]}).objs.size=s.heap.objs.size+1:=Heap.size_push ..;have i:IsEnum ((s.heap.push {cls:=.type "tuple_iterator",data:=.fields #[.ref t,.int 0 0]}).push
   {cls:=.type "enumerate",data:=.fields #[.none,.bool false,.ref s.heap.objs.size,rawInt k,.none,.none]}) (s.heap.objs.size+1) s.heap.objs.size (k:Int) .none:=by
  rw[← g];exact Heap.get?_push_size _ Z
 show _∧_;rw[g];refine⟨⟨_,i,Z⟩,h _ i ⟨_,Heap.get?_push_of_some _ (Heap.get?_push_size _ Z),Z,Z⟩ (by rw[Heap.size_push,g]) fun b o e=>Heap.get?_push_of_some _ (Heap.get?_push_of_some _ e)⟩
theorem AY{Q:Value→Shared→Prop}(d:(backToKw pos (keywordEach c env)).all (·.1.isSome)=true)
 (h:wpAny M A (spliced (backTo pos (starEach (e::rest) env))) (fun vs s₁=>wpAny M A (evalAll ((backToKw pos (keywordEach c env)).map (·.2)))
   (fun g s₂=>wpAny M A (call (.type T) vs (((backToKw pos (keywordEach c env)).filterMap (·.1)).zip g)) Q E s₂) E s₁) E s)
 (b:((backTo pos (starEach (e::rest) env)).any (·.1)||(backToKw pos (keywordEach c env)).any (·.1.isNone))=false:=by rfl)(he:starEach (e::rest) env=(false,eval e env)::starEach rest env:=by rfl):
  wpAny M A (callWith pos (.type T) [] (backTo pos (starEach (e::rest) env)) (backToKw pos (keywordEach c env))) Q E s:=by
 unfold callWith;refine wpAny_bind (wpAny_holding (wpAny_mono (evalArgs_kw2 (Q:=fun a s₁=>wpAny M A (call (.type T) a.pos a.kw) Q E s₁) d h he) (fun a s₁ h₁=>wpAny_bind (wpAny_standAt ?_)) fun _ _ x=>x));simp only[b];refine wpAny_bind (wpAny_pure ?_);exact wpAny_bind (wpAny_mono h₁ (fun r s₂ f=>wpAny_bind (wpAny_holding (wpAny_point (wpAny_pure f)))) fun _ _ x=>x)
theorem CQ{M:Model}{env:Env}{pos:Pos}{id:String}{Q:Value→Shared→Prop}{e:Expr}{b:List Expr}{c:List Keyword}(f:(backToKw pos (keywordEach c env)).all (·.1.isSome)=true)
 (h:wpAny M A (spliced (backTo pos (starEach (e::b) env))) (fun vs s₁=>wpAny M A (evalAll ((backToKw pos (keywordEach c env)).map (·.2)))
   (fun i s₂=>wpAny M A (call (.builtin id) vs (((backToKw pos (keywordEach c env)).filterMap (·.1)).zip i)) Q E s₂) E s₁) E s)
 (d:((backTo pos (starEach (e::b) env)).any (·.1)||(backToKw pos (keywordEach c env)).any (·.1.isNone))=false:=by rfl)(he:starEach (e::b) env=(false,eval e env)::starEach b env:=by rfl):
  wpAny M A (callWith pos (.builtin id) [] (backTo pos (starEach (e::b) env)) (backToKw pos (keywordEach c env))) Q E s:=by
 unfold callWith;refine wpAny_bind (wpAny_holding (wpAny_mono (evalArgs_kw2 (Q:=fun a s₁=>wpAny M A (call (.builtin id) a.pos a.kw) Q E s₁) f h he) (fun a s₁ h₁=>wpAny_bind (wpAny_standAt ?_)) fun _ _ x=>x));simp only[d];refine wpAny_bind (wpAny_pure ?_);exact wpAny_bind (wpAny_mono h₁ (fun r s₂ g=>wpAny_bind (wpAny_holding (wpAny_point (wpAny_pure g)))) fun _ _ x=>x)
theorem Ie{R:Result→Shared→Prop}{I S:Addr}{N M:List Addr}{n:Nat}{P:Nat→Value→Prop}{St:Nat→Heap→Prop}{X:List (Str×Value)}(W:Walks prog w A.in1 I N M n P St)(y:Nat→Nat→Bool)(D:CmpOf prog w A.in1 .Lt P y)(B:S∉N):
  ∀(k j:Nat) (s:Shared) (q:Value) (c:Nat),n-(j+1)=k→j+1≤n→St (j+1) s.heap→P (argBest y j) q→s.heap.get? S=some {cls:=.type "list",dict:=none,data:=.seq #[q,q] c,slots:=#[]}→
  (∀v h' tk,P (argBest y (n-1)) v→(∀b o,b∉M→b≠S→s.heap.get? b=some o→h'.get? b=some o)→R (.ok (.ret v)) {s with heap:=h',toks:=tk})→codeAny (model prog w) A (.builtin "min.loop" ⟨[.ref I,.none,.ref S],X⟩) R s:=by
 have C:S∉M:=fun h=>B (W.sub _ h);have l:(toString "min"++toString ".loop":String)="min.loop":=by decide
 intro k
 induction k with
 |zero=>
  intro j s q c V U x p z H;have G:j+1=n:=by omega
  refine codeAny_builtin F.entry_min_loop ?_;rw[Around.under_plainId F.plain_min_loop _];show wpAny _ A.in1 (seqItems? (.ref S) >>= _) _ _ s;refine wpAny_bind (wpAny_seqItems z Z ?_);show wpAny _ A.in1 (tryCatch (pyNext (.ref I)) _ >>= _) _ _ s;refine wpAny_bind (wpAny_tryCatch (W.done s _ _ (G▸x) fun h' tk f=>?_));have g:=f S _ C z;show wpAny _ A.in1 (updateSeq S (fun _=>#[]) >>= _) _ _ _;refine wpAny_bind ?_;refine wpAny_updateSeq g Z (wpAny_bind (wpAny_letGo (wpAny_pure ?_)));refine H q _ tk (by rw[← G];exact p) fun b o a d e=>(Heap.get?_update_other _ _ (Ne.symm d)).trans (f b o a e)
 |succ k T=>
  intro j s q c V U x p z H;have bL:j+1<n:=by omega
  refine codeAny_builtin F.entry_min_loop ?_;rw[Around.under_plainId F.plain_min_loop _];show wpAny _ A.in1 (seqItems? (.ref S) >>= _) _ _ s;refine wpAny_bind (wpAny_seqItems z Z ?_);show wpAny _ A.in1 (tryCatch (pyNext (.ref I)) _ >>= _) _ _ s;refine wpAny_bind (wpAny_tryCatch (W.item (j+1) s _ _ bL x fun v h' tk O r f=>?_));have g:=f S _ C z;show wpAny _ A.in1 (tryCatch (holding [v,v] (richCompare .Lt v q >>= _)) _ >>= _) _ _ _;refine wpAny_bind (wpAny_tryCatch (wpAny_holding (wpAny_bind (D (j+1) (argBest y j) v q _ _ _ O p ?_))));refine wpAny_bind (wpAny_holding (wpAny_truthy_bool ?_));refine wpAny_bind (wpAny_letGo (wpAny_pure ?_));cases Q:y (j+1) (argBest y j)with
  |true=>
   simp only[if_true];refine wpAny_bind ?_;refine wpAny_updateSeq g Z (wpAny_bind (wpAny_letGo ?_));rw[l];refine wpAny_pure ⟨plainId_quiet F.plain_min_loop _,T (j+1) _ v _ (by omega) bL (W.frame _ _ _ r fun b J o e=>?_) (by simp only[argBest,Q,if_true];exact O) (Heap.get?_update_self _ g Z)
    fun L t m u i=>?_⟩
   ·exact(Heap.get?_update_other _ _ (fun h:S=b=>B (by rw[h];exact J))).trans e
   ·exact H L t m u fun b o a d e=>i b o a d ((Heap.get?_update_other _ _ (Ne.symm d)).trans (f b o a e))
  |false=>
   simp only[Bool.false_eq_true,if_false];refine wpAny_bind (wpAny_letGo ?_);rw[l];refine wpAny_pure ⟨plainId_quiet F.plain_min_loop _,T (j+1) _ q c (by omega) bL r (by simp only[argBest,Q,Bool.false_eq_true,if_false];exact p) g fun L t m u i=>?_⟩;exact H L t m u fun b o a d e=>i b o a d (f b o a e)
theorem Hi(a v:Value):argsOk "min" ⟨[a],[(Str.ofString "default",v)]⟩:=by unfold argsOk;kernel_rfl
theorem J2{z:List Value}{Q:Value→Shared→Prop}(Y:A.handled=none)(S:s.heap.IsList l z.toArray)(R:IntsAre z ns)
 (U:ns=[]→∀h' tk,(∀b o,s.heap.get? b=some o→h'.get? b=some o)→Q C {s with heap:=h',toks:=tk})
 (h:∀h' tk M t',(∀b o,s.heap.get? b=some o→h'.get? b=some o)→M∈ns→(∀a,a∈ns→M≤a)→Q (.int M t') {s with heap:=h',toks:=tk}):wpAny (model prog w) A (call (.builtin "min") [.ref l] [(Str.ofString "default",C)]) Q E s:=by
 obtain⟨c,e⟩:=R.allInts.items;have hn:numsOf (intItems c).toList=ns:=by rw[← e];exact R.numsOf
 rw[nums_intItems]at hn;rw[e]at S;have d:(toString "min"++toString ".loop":String)="min.loop":=by decide
 refine kmk_tree PySem.F.kind_min PySem.F.plain_min PySem.F.entry_min (Hi _ _) ?_;show wpAny _ A.in1 (Builtin.Builtins.bindParams "min" ["key","default"] 0 ⟨[],[(Str.ofString "default",C)]⟩ >>= _) _ _ s;refine wpAny_bind (wpAny_of_eq (show Builtin.Builtins.bindParams "min" ["key","default"] 0 ⟨[],[(Str.ofString "default",C)]⟩=pure [none,some C]from Z) ?_);refine wpAny_bind (wpAny_pure ?_);refine wpAny_bind (iter_intList S fun s₂ D st N O=>?_);have W:=Walks.list (prog:=prog) (w:=w) (A:=A.in1) Y s.heap.objs.size l O (intItems c);refine wpAny_bind (wpAny_newObj_type ?_);have g:s₂.heap.objs.size∉[s.heap.objs.size,l]:=fun hm=>Nat.lt_irrefl _ (N _ hm);have I:s₂.heap.objs.size∉[s.heap.objs.size]:=fun hm=>g (W.sub _ hm);rw[d];refine wpAny_pure ⟨plainId_quiet F.plain_min_loop _,?_⟩;have x:=W.frame _ _ _ st (fun b _ o e=>Heap.get?_push_of_some {cls:=Value.type "list",data:=Data.seq #[] 0} e);have H:(s₂.heap.push {cls:=Value.type "list",data:=Data.seq #[] 0}).get? s₂.heap.objs.size=some {cls:=.type "list",dict:=none,data:=.seq #[] 0,slots:=#[]}:=Heap.get?_push_size _ Z;have old:∀h':Heap,(∀b o,b∉[s.heap.objs.size]→b≠s₂.heap.objs.size→(s₂.heap.push {cls:=Value.type "list",data:=Data.seq #[] 0}).get? b=some o→h'.get? b=some o)→∀b o,s.heap.get? b=some o→h'.get? b=some o:=by intro h' hk;refine old_kept (l:=l) fun b o J e=>?_;subst D;exact hk b o J (Nat.ne_of_lt (Heap.lt_size e)) (Heap.get?_push_of_some _ e)
 by_cases k:0<(intItems c).size
 ·refine codeAny_builtin F.entry_min_loop ?_;rw[Around.under_plainId F.plain_min_loop _];show wpAny _ A.in1 (seqItems? (.ref s₂.heap.objs.size) >>= _) _ _ _;refine wpAny_bind (wpAny_seqItems H Z ?_);show wpAny _ A.in1 (tryCatch (pyNext (.ref s.heap.objs.size)) _ >>= _) _ _ _;refine wpAny_bind (wpAny_tryCatch (W.item 0 _ _ _ k x fun v h' tk X y f=>?_));have n:=f s₂.heap.objs.size _ I H;show wpAny _ A.in1 (updateSeq s₂.heap.objs.size (fun _=>#[v,v]) >>= _) _ _ _;refine wpAny_bind ?_;refine wpAny_updateSeq n Z ?_;rw[d];refine wpAny_pure ⟨plainId_quiet F.plain_min_loop _,Ie W (fun i j=>decide (numAt c i<numAt c j)) (CmpOf.ints_lt (numAt c) (fun _ _=>intItems_at)) g _ 0 _ v _ Z k (W.frame _ _ _ y fun b L o e=>?_) X (Heap.get?_update_self _ n Z) fun _ m B G r=>?_⟩
  ·exact(Heap.get?_update_other _ _ (fun h:s₂.heap.objs.size=b=>g (by rw[h];exact L))).trans e
  ·obtain⟨t,rfl⟩:=intItems_at G;have P:(intItems c).size=c.size:=by simp[intItems]
   obtain⟨h1,V⟩:=argBest_lt (numAt c) (c.size-1);rw[P]at k ⊢;subst D;refine h m B _ t (old m fun b o q p e=>r b o q p ((Heap.get?_update_other _ _ (Ne.symm p)).trans (f b o q e))) ?_ fun a ha=>?_
   ·rw[numAt_eq,← hn];exact PySem.getD_mem (by rw[length_map,Array.length_toList];omega)
   ·rw[← hn]at ha;obtain⟨j,hj,rfl⟩:=mem_getD ha;rw[length_map,Array.length_toList]at hj;rw[← numAt_eq];exact V j (by omega)
 ·have T:(intItems c).size=0:=by omega
  rw[T]at W;refine codeAny_builtin F.entry_min_loop ?_;rw[Around.under_plainId F.plain_min_loop _];show wpAny _ A.in1 (seqItems? (.ref s₂.heap.objs.size) >>= _) _ _ _;refine wpAny_bind (wpAny_seqItems H Z ?_);show wpAny _ A.in1 (tryCatch (pyNext (.ref s.heap.objs.size)) _ >>= _) _ _ _;refine wpAny_bind (wpAny_tryCatch (W.done _ _ _ x fun h' tk f=>?_));refine wpAny_bind (wpAny_rule (wpAny_pure ?_));have u:ns=[]:=by
   rw[← hn];have:c.size=0:=by simpa[intItems]using T
   have:c=#[]:=Array.eq_empty_of_size_eq_zero this;subst this;rfl
  subst D;exact U u h' tk (old h' fun b o J _ e=>f b o J e)
end
end L2
namespace L2
open PySem PySem.Spec PyProof.Rows
def Ny(K:Frag)(te:TE)(k:Nat):TI:=fun c H R=>te c H fun x H1=>∃a b,x=.ref a∧dj K a b∧R (AG K a k b) H1
inductive Sw(K:Frag)(Q:VK)(x:V)(H:Hp):Prop
 |mk (a:Addr) (ns:List Int) (e:x=.ref a) (h:aT K H a (ns.map V.int)) (n:ns=[]→Q .bV H) (q:∀m,m∈ns→(∀y,y∈ns→m≤y)→Q (.int m) H):Sw K Q x H
def Qm(K:Frag)(te:TE):TE:=fun a H Q=>te a H (Sw K Q)
section
variable {X:Cx} {e:Expr} {te:TE} {p pos tpos kp cpos:Pos} {elts:List Expr} {kk j:Nat}
theorem Ai{k:Nat}{t}(hk:k<1000)(hg:Gl X "enumerate")(hm:X.mg "enumerate"=none)(he:PE X e te)(M:starEach [e] X.env=[(false,eval e X.env)]:=by rfl)
 (l:(backToKw pos (keywordEach [⟨some (Str.ofString "start"),.Constant (.int (k:Int)) t cpos,kp⟩] X.env)).all (·.1.isSome)=true:=by rfl)
 (G:(backToKw pos (keywordEach [⟨some (Str.ofString "start"),.Constant (.int (k:Int)) t cpos,kp⟩] X.env)).filterMap (·.1)=[Str.ofString "start"]:=by rfl)
 (hpl:((backTo pos (starEach [e] X.env)).any (·.1)||(backToKw pos (keywordEach [⟨some (Str.ofString "start"),.Constant (.int (k:Int)) t cpos,kp⟩] X.env)).any (·.1.isNone))=false:=by rfl):
  PI X (.Tuple elts kk tpos) (.Call (.Name "enumerate" p) [e] [⟨some (Str.ofString "start"),.Constant (.int (k:Int)) t cpos,kp⟩] pos) (Ny X.K te k):=by
 intro d s w H R I h;refine wpAny_Call_Name_kw (mx I hg hm boot_enumerate (AY l (bO (aa he ai M pos d s w H (fun O H1=>∃a c,O=[.ref a]∧dj X.K a c∧R (AG X.K a k c) H1) I ?_) fun us s1 ⟨O,H1,Q,r1,q1⟩=>?_) hpl M))
 ·show te w H fun x H1=>∃a c,[x]=[.ref a]∧dj X.K a c∧R (AG X.K a k c) H1;have W:(fun(x:V) (H1:Hp)=>∃a c,[x]=[V.ref a]∧dj X.K a c∧R (AG X.K a k c) H1)=fun(x:V) (H1:Hp)=>∃a c,x=V.ref a∧dj X.K a c∧R (AG X.K a k c) H1:=by funext x H1;exact propext ⟨fun⟨a,c,y,A⟩=>⟨a,c,(cons.inj y).1,A⟩,fun⟨a,c,y,A⟩=>⟨a,c,by rw[y],A⟩⟩
  rw[W];exact h
 ·refine bO (GW (kpos:=kp) (nm:=some (Str.ofString "start")) (au (X:=X) (i:=(k:Int)) (j:=t) (pos:=cpos)) Kk pos d s1 w H1 (fun P v=>P=[.int (k:Int)]∧v=H1) Q ⟨Z,Z⟩) fun ws f ⟨P,v,I2,rz,ez,Y⟩=>?_;subst ez Y;obtain⟨w0,rfl,L⟩:=Vals.one rz;obtain⟨t0,rfl⟩:=L;obtain⟨a,c,ex,T,q⟩:=q1;subst ex;obtain⟨u,rfl,ru⟩:=Vals.one r1;cases ru;rw[G];obtain⟨o,J,n,E,B,C,hz,rv⟩:=id T;have N:f.heap.IsTuple a J:=⟨o,I2.nr a o E,B,n,C⟩;have g:a<f.heap.objs.size:=by obtain⟨_,q,_⟩:=N;exact Heap.lt_size q
  refine E9 hk N fun h' m D _ F=>wpAny_pyIter_enum m ?_;have S:Inv X d w v {f with heap:=h'}:=I2.kept (t':=f.toks) F;refine⟨f.heap.objs.size+1,[f.heap.objs.size+1,f.heap.objs.size],_,_,v,Z,S,Ga (k:=k) T (Nat.succ_ne_self _) (Nat.ne_of_lt g) (Nat.ne_of_gt (Nat.lt_succ_of_lt g)),⟨⟨.none,?_⟩,D⟩,fun b hb=>?_,q⟩
  ·rw[Nat.zero_add];exact m
  ·have U:b=f.heap.objs.size+1∨b=f.heap.objs.size:=by simpa using hb
   have r:f.heap.objs.size≤b:=by
    rcases U with z|z
    ·rw[z];exact Nat.le_add_right _ _
    ·rw[z];exact Nat.le_refl _
   exact I2.Ds r (I2.bj.fresh r)
theorem L5{d}(F:X.calm=true)(G:Gl X "min")(hm:X.mg "min"=none)(he:PE X e te)(t:starEach [e] X.env=[(false,eval e X.env)]:=by rfl)
 (c:(backToKw pos (keywordEach [⟨some (Str.ofString "default"),.Constant .none d cpos,kp⟩] X.env)).all (·.1.isSome)=true:=by rfl)
 (n:(backToKw pos (keywordEach [⟨some (Str.ofString "default"),.Constant .none d cpos,kp⟩] X.env)).filterMap (·.1)=[Str.ofString "default"]:=by rfl)
 (hpl:((backTo pos (starEach [e] X.env)).any (·.1)||(backToKw pos (keywordEach [⟨some (Str.ofString "default"),.Constant .none d cpos,kp⟩] X.env)).any (·.1.isNone))=false:=by rfl):
  PE X (.Call (.Name "min" p) [e] [⟨some (Str.ofString "default"),.Constant .none d cpos,kp⟩] pos) (Qm X.K te):=by
 intro b s r H Q I h;let W:V→Hp→Prop:=Sw X.K Q;refine wpAny_Call_Name_kw (mx I G hm boot_min (CQ c (bO (aa he ai t pos b s r H (fun v H1=>∃x,v=[x]∧W x H1) I ?_) fun us U ⟨v,H1,z,P,O⟩=>?_) hpl t))
 ·show te r H fun x H1=>∃f,[x]=[f]∧W f H1;have A:(fun(x:V) (H1:Hp)=>∃f,[x]=[f]∧W f H1)=W:=by funext x H1;exact propext ⟨fun⟨y,i,k⟩=>(cons.inj i).1▸k,fun h=>⟨x,Z,h⟩⟩
  rw[A];exact h
 ·refine bO (GW (kpos:=kp) (nm:=some (Str.ofString "default")) (a_ (X:=X) (j:=d) (pos:=cpos)) Kk pos b U r H1 (fun w g=>w=[.bV]∧g=H1) z ⟨Z,Z⟩) fun ws Y ⟨w,g,I2,T,C,B⟩=>?_;subst C B;obtain⟨w0,rfl,o⟩:=Vals.one T;cases o;obtain⟨x,ex,a,ns,rfl,L,N,q⟩:=O;subst ex;obtain⟨u,rfl,R⟩:=Vals.one P;cases R;rw[n];obtain⟨M,S,J,_⟩:=I2.list L;exact J2 (I2.ok.hd F) J.isList S.ints (fun E D tk l=>⟨.bV,g,I2.kept l,Z,N E⟩) fun D tk m _ l i k=>⟨.int m,g,I2.kept l,⟨_,Z⟩,q m i k⟩
end
theorem zU{K:Frag}{a:Addr}{k:Nat}{xs:List V}{g:TG}{l:TS}{D:Ends}{b:St}{H:Hp}(Pv:Nat→St→Hp→Prop)(n:Pv 0 b H)
 (q:∀i b H v T,xs[i]?=some v→H T=none→Pv i b H→g (.ref T) b (upd H T (.tup [.int ((i+k:Nat):Int),v])) fun d f=>l {D with nx:=Pv (i+1),ct:=Pv (i+1),bk:=D.nx} d f)(hd:∀b H,Pv xs.length b H→D.nx b H):
  ∃W:Nat→Nat→St→Hp→Prop,(∃m,W 0 m b H)∧∀i m b H,W i m b H→
   ((AG K a k xs).stop i H∧D.nx b H)∨((AG K a k xs).go i H∧∃N:St→Hp→Prop,(∀c H',N c H'→∃h,h<m∧W (i+1) h c H')∧∀x H',(AG K a k xs).CB i H x H'→g x b H' fun d f=>l {D with nx:=N,ct:=N,bk:=D.nx} d f):=by
 refine⟨fun i m b H=>m=xs.length-i∧i≤xs.length∧Pv i b H,⟨_,Z,Nat.zero_le _,n⟩,?_⟩;rintro i m b H ⟨rfl,s,p⟩;by_cases bL:i<xs.length
 ·refine .inr ⟨bL,Pv (i+1),fun c H' r=>⟨xs.length-(i+1),by omega,Z,bL,r⟩,fun x H' y=>?_⟩;obtain⟨T,v,rfl,o,rfl,e⟩:=y;exact q i b H v T e o p
 ·have e:i=xs.length:=by omega
  subst e;exact .inl ⟨Nat.le_refl _,hd b H p⟩
theorem fZ{K:Frag}{a:Addr}{xs:List V}{g:TG}{j:TS}{D:Ends}{b:L2.St}{H:Hp}(Pv:Nat→L2.St→Hp→Prop)(k:Pv 0 b H)(o:∀i b H,i≤xs.length→Pv i b H→aT K H a xs)
 (r:∀i b H v T,xs[i]?=some v→H T=none→Pv i b H→g (.ref T) b (upd H T (.tup [.int ((i:Nat):Int),v])) fun d f=>j {D with nx:=Pv (i+1),ct:=Pv (i+1),bk:=D.nx} d f)(hd:∀b H,Pv xs.length b H→D.nx b H):
  ∃W:Nat→Nat→L2.St→Hp→Prop,(∃m,W 0 m b H)∧∀i m b H,W i m b H→
   ((MC K a).stop i H∧D.nx b H)∨((MC K a).go i H∧∃N:L2.St→Hp→Prop,(∀c H',N c H'→∃h,h<m∧W (i+1) h c H')∧∀x H',(MC K a).CB i H x H'→g x b H' fun d f=>j {D with nx:=N,ct:=N,bk:=D.nx} d f):=by
 refine⟨fun i m b H=>m=xs.length-i∧i≤xs.length∧Pv i b H,⟨_,Z,Nat.zero_le _,k⟩,?_⟩;rintro i m b H ⟨rfl,n,p⟩;have q:=o i b H n p;by_cases bL:i<xs.length
 ·refine .inr ⟨⟨xs,xs[i],q,by simp[bL]⟩,Pv (i+1),fun c H' s=>⟨xs.length-(i+1),by omega,Z,bL,s⟩,fun x H' y=>?_⟩;obtain⟨T,v,rfl,l,rfl,e⟩:=y;exact r i b H v T (e xs q) l p
 ·have e:i=xs.length:=by omega
  subst e;exact .inl ⟨⟨xs,q,Nat.le_refl _⟩,hd b H p⟩
theorem BG{K:Frag}{a b:Addr}{xs ys:List V}{g:TG}{l:TS}{D:Ends}{c:L2.St}{H:Hp}(u:ys.length=xs.length)(Pv:Nat→L2.St→Hp→Prop)(n:Pv 0 c H)(s:∀i c H,i≤xs.length→Pv i c H→aT K H a xs∧aT K H b ys)
 (t:∀i c H v w T,xs[i]?=some v→ys[i]?=some w→H T=none→Pv i c H→g (.ref T) c (upd H T (.tup [v,w])) fun f h=>l {D with nx:=Pv (i+1),ct:=Pv (i+1),bk:=D.nx} f h)(hd:∀c H,Pv xs.length c H→D.nx c H):
  ∃W:Nat→Nat→L2.St→Hp→Prop,(∃m,W 0 m c H)∧∀i m c H,W i m c H→
   ((OB K a b).stop i H∧D.nx c H)∨((OB K a b).go i H∧∃N:L2.St→Hp→Prop,(∀d H',N d H'→∃k,k<m∧W (i+1) k d H')∧∀x H',(OB K a b).CB i H x H'→g x c H' fun f h=>l {D with nx:=N,ct:=N,bk:=D.nx} f h):=by
 refine⟨fun i m c H=>m=xs.length-i∧i≤xs.length∧Pv i c H,⟨_,Z,Nat.zero_le _,n⟩,?_⟩;rintro i m c H ⟨rfl,r,p⟩;obtain⟨q,j⟩:=s i c H r p;by_cases bL:i<xs.length
 ·refine .inr ⟨⟨xs,ys,xs[i],ys[i],q,j,by simp[bL],by simp⟩,Pv (i+1),fun d H' z=>⟨xs.length-(i+1),by omega,Z,bL,z⟩,fun x H' y=>?_⟩;obtain⟨T,v,w,rfl,o,rfl,e,e2⟩:=y;exact t i c H v w T (e xs q) (e2 ys j) o p
 ·have e:i=xs.length:=by omega
  subst e;exact .inl ⟨⟨xs,ys,q,j,.inl (Nat.le_refl _)⟩,hd c H p⟩
theorem LJ{K:Frag}{a:Addr}{xs:List V}{g:TG}{tt:TT}{o:TE}{vs:List Nat}{h:L2.St}{H1:Hp}{D:Addr}{l:Hp→Prop}(Pv:Nat→Hp→Prop)(r:Pv 0 (upd H1 D (.lst [])))(u:∀i H,i≤xs.length→Pv i H→aT K H a xs)
 (w:∀i x H T,xs[i]?=some x→H T=none→Pv i H→g (.ref T) (wipe h vs) (upd H T (.tup [.int ((i:Nat):Int),x])) fun c j=>wipe c vs=wipe h vs∧tt c j fun b d=>
   if b=true then o c d fun y f=>∃acc,f D=some (.lst acc)∧acc.length<sizeLine∧Pv (i+1) (upd f D (.lst (acc++[y])))else Pv (i+1) d)(hd:∀H,Pv xs.length H→l H):
  ∃W:Nat→Nat→Hp→Prop,(∃m,W 0 m (upd H1 D (.lst [])))∧∀i m H,W i m H→
   ((MC K a).stop i H∧l H)∨((MC K a).go i H∧∃k:Hp→Prop,(∀H',k H'→∃n,n<m∧W (i+1) n H')∧∀x H',(MC K a).CB i H x H'→g x (wipe h vs) H' fun c j=>wipe c vs=wipe h vs∧tt c j fun b d=>
    if b=true then o c d fun y f=>∃acc,f D=some (.lst acc)∧acc.length<sizeLine∧k (upd f D (.lst (acc++[y])))else k d):=by
 refine⟨fun i m H=>m=xs.length-i∧i≤xs.length∧Pv i H,⟨xs.length,by simp,Nat.zero_le _,r⟩,?_⟩;rintro i m H ⟨rfl,t,p⟩;have q:=u i H t p;by_cases bL:i<xs.length
 ·refine .inr ⟨⟨xs,xs[i],q,by simp[bL]⟩,Pv (i+1),fun H' z=>⟨xs.length-(i+1),by omega,Z,bL,z⟩,fun x H' y=>?_⟩;obtain⟨T,v,rfl,s,rfl,e⟩:=y;exact w i v H T (e xs q) s p
 ·have e:i=xs.length:=by omega
  subst e;exact .inl ⟨⟨xs,q,Nat.le_refl _⟩,hd H p⟩
theorem Ah{X:Cx}:OL X (N1 X.K):=by
 intro a s A H o i D C Q I y x h;obtain⟨p,xs,k,z,rfl,rfl,v,he,q⟩:=h;cases y;obtain⟨t,rfl⟩:=x;obtain⟨d,r,pl,hz⟩:=I.list v;obtain⟨j,b,l,B,m,n⟩:=u5 he;obtain⟨w,f,e⟩:=r.get l;have u:=r.length;have hn:=oV;have fin:EP X a A Q w s:=⟨z,H,I,e,q⟩;by_cases g:0≤k
 ·have c:k.toNat=j:=by rw[seqIndex_of g n]at b;exact Option.some.inj b
  exact wpAny_getItem_list pl.isList g (by omega) (by rw[c];simpa using f) fin
 ·have c:(k+(d.toArray.size:Int)).toNat=j:=by rw[seqIndex_neg (by omega) m]at b;rw[size_toArray,← u];exact Option.some.inj b
  exact wpAny_getItem_list_neg pl.isList (by omega) (by rw[size_toArray]<;>omega) (by omega) (by rw[c];simpa using f) fin
end L2
namespace L2
open PySem PySem.Spec PyProof.Rows
section
variable {X:Cx} {K:Frag} {mg:Str→Option Value}
theorem GU(a:X.K=K)(he:PE X e c)(b:attributeBase e f X.env (eval e X.env)=eval e X.env):PE X (.Attribute e f pos) (Qi K c f):=by subst a;exact ay he b
theorem JW(a:X.K=K):OC X (N1 K):=by subst a;exact a4
theorem L7(b:X.K=K)(c:X.calm=true)(h:OM X es t)
 (hn:(assignEach es X.env).length=n:=by rfl)(a:(assignEach es X.env).findIdx? (·.1)=none:=by rfl):PG X (.Tuple es k pos) (Py K n t):=by
 subst b;exact eu c h hn a
theorem FU{p a pos:Pos}(g:X.K=K)(h:X.mg=mg)(i:mg "isinstance"=none)(k:ClsAt K mg c C)(he:PE X e te)(d:Gl X "isinstance":=by rfl)(j:Gl X c:=by rfl)(hd:(c==("__debug__":Str))=false:=by decide)
 (l:starEach [e,.Name c a] X.env=(false,eval e X.env)::starEach [.Name c a] X.env:=by rfl)(f:starEach [Expr.Name c a] X.env=[(false,eval (.Name c a) X.env)]:=by rfl)
 (hpl:(backTo pos (starEach [Expr.Name c a] X.env)).any (·.1)=false:=by rfl):PE X (.Call (.Name "isinstance" p) [e,.Name c a] [] pos)
   (Qc (fun xs H Q=>∃v C t b,xs=[v,.ref C]∧lY K H v t∧kitOne K t (.ref C)=some b∧Q (.bl b) H) (jL te (jL (tC (.ref C)) u0))):=by
 subst g h;exact fP i k he d j hd l f hpl
end
section
variable {X:Cx} {x:Str} {e:Expr} {te:TE} {pos pos':Pos}
theorem aH(i:Nat)(a:X.N.Nodup)(he:PE X e te)(c:X.N[i]?=some x:=by rfl)(f:Loc X.env.scope x:=by exact Or.inl Z)(d:swapsWith e (some (.Name x pos')) pos.line X.env=pure false:=by rfl)(b:X.fn x=true∨X.env.scope.names.lookup x=some .local:=by first|exact .inl rfl|exact .inr rfl|assumption):
  PS X (.Assign [.Name x pos'] e pos) (IJ te (eR i)):=FX a c f he d b
theorem bI(i:Nat)(a:X.N.Nodup)(c:X.N[i]?=some x:=by rfl)(d:Loc X.env.scope x:=by exact Or.inl Z)(b:X.fn x=true∨X.env.scope.names.lookup x=some .local:=by first|exact .inl rfl|exact .inr rfl|assumption):PG X (.Name x pos) (eR i):=B9 a c d b
end
end L2
open Drum (Bytes Card Item Machine Name Operand Order PLACES Placing TEN WORDS WRAP addressName addressOf addresses around by_ comes decimal did digitSum digits does faultIn faultOf find firstLine fitted goesOn goesTo isDigit isLong isName isSmall isWord known least lineIn loaded loads lookUp nameOf named names new nextOf nextOk numberOf operandAddress operandOk orderOf orderWord place readProgram readWord signed small sortOf sumN tooMuch waits wordIn writing)
open DM (AQ Ac Au Clean Cw Cz DS EB Ek F9 FE FO Form Gj Gk He Ja Ji Jk Kc Wf a8 aR aX b5 bM bR bS bT bY bf bo bz c6 cF cK cO cQ cT cU cW cZ cells clashes cq dC dI dX de dg eK eN eO eQ eU f9 fA fG fY fg fi fw g8 gH gT gb h_ i6 i7 iB iL iM iw j0 j4 jD jO jh jk k_ kx kz mL mO md mq mv nG nH nh num nx ny oY pD pq pz qA qH qW qa qb qf qg ql rA sQ sZ tF tH tagged uq vB vZ va vl wg xX xq zR zZ)
set_option genInjectivity false
namespace My
open PySem PySem.Spec PyProof.Rows L2
noncomputable def top(i:Nat):Stmt:=PySem.Challenge.pw_drumback_s01_answers.main.body.getD i (.Pass ⟨0,0,0,0⟩)
abbrev i8:Stmt:=top 16
abbrev xH:Stmt:=top 49
abbrev An:Stmt:=top 50
abbrev ib:Stmt:=top 51
abbrev lr:Stmt:=top 54
abbrev mN:Stmt:=top 60
abbrev oa:Stmt:=top 64
abbrev lF:Stmt:=top 80
abbrev gv:Stmt:=top 81
abbrev n9:Stmt:=top 82
abbrev mM:Stmt:=top 90
abbrev ki:Stmt:=top 91
abbrev n_:Stmt:=top 92
abbrev qG:Stmt:=top 110
abbrev tu:Stmt:=top 154
abbrev tD:Stmt:=top 161
abbrev sr:Stmt:=top 177
theorem oe:eA ["machine","data","deck"] ["machine","data","deck"] (aL qG):=.d
theorem xI:eA ["calls","machine","reader","given","answer_call","answer"] ["calls"] (aL sr):=.d
structure hG where
 (aG aC aq aW aE aQ C6 nT pU Gu Gs du cz cG cY eX dw fT dn gO dA eD AI fV kG eZ kF eY jn eE kH pK gQ gR m_ iq gP cA d4 eW dq fU m9 jo ip ig gL gK fR ik gN eV fS il gM eC CH CI zh zi zj zk zl zm zo zp zq zr zt zu zx zy zA zB zC zD zE zF zG zH zI zJ:Addr)
noncomputable def eG(t:hG):List (Key×V):=[(.inl 0,.ref (t.CH)),(.inl 1,.ref (t.CI)),(.inl 10,.ref (t.zh)),(.inl 11,.ref (t.zi)),(.inl 12,.ref (t.zj)),(.inl 13,.ref (t.zk)),(.inl 14,.ref (t.zl)),(.inl 15,.ref (t.zm)),(.inl 16,.ref (t.zo)),(.inl 17,.ref (t.zp)),(.inl 18,.ref (t.zq)),(.inl 20,.ref (t.zr)),(.inl 21,.ref (t.zt)),(.inl 30,.ref (t.zu)),(.inl 31,.ref (t.zx)),(.inl 32,.ref (t.zy)),(.inl 40,.ref (t.zA)),(.inl 41,.ref (t.zB)),(.inl 42,.ref (t.zC)),(.inl 43,.ref (t.zD)),(.inl 50,.ref (t.zE)),(.inl 51,.ref (t.zF)),(.inl 52,.ref (t.zG)),(.inl 60,.ref (t.zH)),(.inl 70,.ref (t.zI)),(.inl 71,.ref (t.zJ))]
def ji(t:hG):List V:=[.ref t.du,.ref t.cz,.ref t.cG,.ref t.cY,.ref t.eX,.ref t.dw]
def jX(t:hG):List V:=[.ref t.fT,.ref t.dn,.ref t.gO,.ref t.dA]
noncomputable def wy(t:hG):List (Key×V):=[(.inl 1,.ref t.eD),(.inl 10,.ref t.AI),(.inl 11,.ref t.fV),(.inl 12,.ref t.kG),(.inl 13,.ref t.eZ),(.inl 14,.ref t.kF),(.inl 15,.ref t.eY),(.inl 16,.ref t.jn),(.inl 17,.ref t.eE),(.inl 18,.ref t.eD),(.inl 20,.ref t.kH),(.inl 21,.ref t.pK),(.inl 30,.ref t.gQ),(.inl 31,.ref t.gR),(.inl 32,.ref t.m_),(.inl 40,.ref t.iq),(.inl 41,.ref t.gP),(.inl 42,.ref t.cA),(.inl 43,.ref t.d4),(.inl 50,.ref t.eW),(.inl 51,.ref t.dq),(.inl 52,.ref t.fU),(.inl 60,.ref t.m9),(.inl 70,.ref t.jo),(.inl 71,.ref t.ip)]
noncomputable def wx(t:hG):List (Key×V):=[(.inl 1,.ref t.ig),(.inl 2,.ref t.gL),(.inl 3,.ref t.gK),(.inl 4,.ref t.fR),(.inl 5,.ref t.ik),(.inl 6,.ref t.gN),(.inl 7,.ref t.eV),(.inl 8,.ref t.fS),(.inl 9,.ref t.il),(.inl 10,.ref t.gM),(.inl 11,.ref t.eC)]
structure Top(K:Frag)(mg:Str→Option Value)(t:hG):Prop where
 lB:mg "abs"=none
 Gn:mg "all"=none
 MP:mg "any"=none
 bW:mg "enumerate"=none
 Gp:mg "int"=none
 cH:mg "isinstance"=none
 cX:mg "len"=none
 M_:mg "list"=none
 Pb:mg "min"=none
 MQ:mg "ord"=none
 AR:mg "range"=none
 vq:mg "sorted"=none
 Gq:mg "str"=none
 Jm:mg "zip"=none
 fh:GC mg "WORD_END" (.int 10000000000)
 kL:GC mg "LONG_END" (.int 100000000000000000000)
 fC:GC mg "DRUM_SIZE" (.int 2000)
 bw:GC mg "BAND_SIZE" (.int 40)
 sO:GC mg "CODE_STEP" (.int 100000000)
 jr:GC mg "DATA_STEP" (.int 10000)
 mh:GC mg "MOST_SHIFTED" (.int 20)
 b0:GC mg "CARD_SIZE" (.int 8)
 vv:GC mg "HLT" (.int 0)
 Jq:GC mg "TLU" (.int 60)
 Jp:GC mg "RDC" (.int 70)
 MR:GC mg "PCH" (.int 71)
 pO:GC mg "ORDERS" (.ref t.C6)
 qd:vn K t.C6 (eG t)
 zP:GC mg "LETTERS" (.str "abcdefghijklmnopqrstuvwxyz")
 CO:GC mg "DIGITS" (.str "0123456789")
 K_:GC mg "SIGNS" (.str "\n abcdefghijklmnopqrstuvwxyzABCDEFGHIJKLMNOPQRSTUVWXYZ0123456789:->+=")
 Hq:GC mg "STRANGE" (.str "?")
 CP:GC mg "NAME_SIZE" (.int 12)
 ym:GC mg "WORD_DIGITS" (.int 10)
 sP:GC mg "MOST_ROWS" (.int 400)
 yk:GC mg "FAULT_LINES" (.ref t.nT)
 yH:dj K t.nT (ji t)
 AV:GC mg "HINDRANCES" (.ref t.pU)
 BK:dj K t.pU (jX t)
 K9:GC mg "DEEDS" (.ref t.Gu)
 LC:vn K t.Gu (wy t)
 vw:GC mg "TICK_END" (.int 18446744073709551616)
 c5:GC mg "OUT_OF_RANGE" (.int (-1))
 AX:GC mg "NO_PROGRAM" (.int (-6))
 vt:GC mg "DOES_NOT_FIT" (.int (-9))
 iJ:GC mg "NOT_TO_BE_LISTED" (.int (-9))
 AW:GC mg "MOST_BYTES" (.int 65536)
 yl:GC mg "MOST_ORDERS" (.int 10000)
 pN:GC mg "MOST_CARD_WORDS" (.int 512)
 K8:GC mg "CALLS" (.ref t.Gs)
 LA:vn K t.Gs (wx t)
 x6:dj K t.CH [.str "HLT",.str "none"]
 x8:dj K t.CI [.str "NOP",.str "none"]
 tN:dj K t.zh [.str "LDA",.str "word"]
 tO:dj K t.zi [.str "LDN",.str "word"]
 tP:dj K t.zj [.str "ADD",.str "word"]
 tQ:dj K t.zk [.str "SUB",.str "word"]
 tR:dj K t.zl [.str "ADM",.str "word"]
 tS:dj K t.zm [.str "SBM",.str "word"]
 tT:dj K t.zo [.str "ADU",.str "word"]
 tU:dj K t.zp [.str "SBU",.str "word"]
 tV:dj K t.zq [.str "LDD",.str "word"]
 tW:dj K t.zr [.str "MUL",.str "word"]
 tX:dj K t.zt [.str "DIV",.str "word"]
 tY:dj K t.zu [.str "STL",.str "word"]
 tZ:dj K t.zx [.str "STU",.str "word"]
 t4:dj K t.zy [.str "STD",.str "word"]
 t6:dj K t.zA [.str "SHL",.str "shift"]
 t7:dj K t.zB [.str "SHR",.str "shift"]
 t8:dj K t.zC [.str "SRR",.str "shift"]
 t9:dj K t.zD [.str "SCT",.str "none"]
 t_:dj K t.zE [.str "BMI",.str "jump"]
 ua:dj K t.zF [.str "BNZ",.str "jump"]
 ub:dj K t.zG [.str "BOV",.str "jump"]
 uc:dj K t.zH [.str "TLU",.str "word"]
 ud:dj K t.zI [.str "RDC",.str "word"]
 ue:dj K t.zJ [.str "PCH",.str "word"]
 du:mg "line_named_again"=some (.ref t.du)
 cz:mg "line_of_bad_operand"=some (.ref t.cz)
 cG:mg "line_of_bad_follow"=some (.ref t.cG)
 cY:mg "line_without_next"=some (.ref t.cY)
 eX:mg "line_too_many"=some (.ref t.eX)
 dw:mg "line_of_no_order"=some (.ref t.dw)
 fT:mg "first_faulty"=some (.ref t.fT)
 dn:mg "first_order_used"=some (.ref t.dn)
 gO:mg "first_clash"=some (.ref t.gO)
 dA:mg "zero_if_too_many"=some (.ref t.dA)
 eD:mg "do_nothing"=some (.ref t.eD)
 AI:mg "load"=some (.ref t.AI)
 fV:mg "load_negated"=some (.ref t.fV)
 kG:mg "add_word"=some (.ref t.kG)
 eZ:mg "subtract_word"=some (.ref t.eZ)
 kF:mg "add_size"=some (.ref t.kF)
 eY:mg "subtract_size"=some (.ref t.eY)
 jn:mg "add_upper"=some (.ref t.jn)
 eE:mg "subtract_upper"=some (.ref t.eE)
 kH:mg "multiply"=some (.ref t.kH)
 pK:mg "divide"=some (.ref t.pK)
 gQ:mg "store_lower"=some (.ref t.gQ)
 gR:mg "store_upper"=some (.ref t.gR)
 m_:mg "store_d"=some (.ref t.m_)
 iq:mg "shift_left"=some (.ref t.iq)
 gP:mg "shift_right"=some (.ref t.gP)
 cA:mg "shift_right_rounded"=some (.ref t.cA)
 d4:mg "shift_and_count"=some (.ref t.d4)
 eW:mg "jump_if_below"=some (.ref t.eW)
 dq:mg "jump_if_not_zero"=some (.ref t.dq)
 fU:mg "jump_if_over"=some (.ref t.fU)
 m9:mg "look_up"=some (.ref t.m9)
 jo:mg "read_card"=some (.ref t.jo)
 ip:mg "punch_card"=some (.ref t.ip)
 ig:mg "answer_new"=some (.ref t.ig)
 gL:mg "answer_poke"=some (.ref t.gL)
 gK:mg "answer_peek"=some (.ref t.gK)
 fR:mg "answer_place"=some (.ref t.fR)
 ik:mg "answer_run"=some (.ref t.ik)
 gN:mg "answer_told"=some (.ref t.gN)
 eV:mg "answer_rewind"=some (.ref t.eV)
 fS:mg "answer_reach"=some (.ref t.fS)
 il:mg "answer_why"=some (.ref t.il)
 gM:mg "answer_text"=some (.ref t.gM)
 eC:mg "answer_placing"=some (.ref t.eC)
 a6:ClsAt K mg "Order" t.aG
 qk:bD K t.aG "name"
 dE:bD K t.aG "code"
 da:bD K t.aG "target"
 c8:bD K t.aG "number"
 c7:bD K t.aG "follow"
 Lw:iH K t.aG "Order.__init__" (inClass (top 46) 0) ["self","name","code","target","number","follow"]
 cD:ClsAt K mg "Numbers" t.aC
 mz:bD K t.aC "name"
 cE:bD K t.aC "words"
 HQ:iH K t.aC "Numbers.__init__" (inClass (top 47) 0) ["self","name","words"]
 ao:ClsAt K mg "Machine" t.aq
 a7:bD K t.aq "drum"
 cN:bD K t.aq "n"
 aJ:bD K t.aq "a"
 a0:bD K t.aq "d"
 cv:bD K t.aq "over"
 fK:bD K t.aq "t"
 e_:bD K t.aq "state"
 HP:iH K t.aq "Machine.__init__" (inClass (top 94) 0) ["self","start"]
 uG:MethAt K t.aq "renew" "Machine.renew" (inClass (top 94) 1) ["self","start"]
 rN:MethAt K t.aq "rewind" "Machine.rewind" (inClass (top 94) 2) ["self"]
 wG:MethAt K t.aq "keep" "Machine.keep" (inClass (top 94) 3) ["self","number"]
 gf:ClsAt K mg "Deck" t.aW
 kX:bD K t.aW "words"
 cM:bD K t.aW "cards_read"
 iQ:bD K t.aW "punched"
 Nz:iH K t.aW "Deck.__init__" (inClass (top 95) 0) ["self","words"]
 uF:MethAt K t.aW "has_card" "Deck.has_card" (inClass (top 95) 1) ["self"]
 rM:MethAt K t.aW "take_card" "Deck.take_card" (inClass (top 95) 2) ["self"]
 aS:ClsAt K mg "Reached" t.aE
 gh:bD K t.aE "drum"
 hJ:bD K t.aE "start"
 bF:bD K t.aE "orders"
 fb:bD K t.aE "bands"
 fc:bD K t.aE "cards"
 jx:bD K t.aE "singles"
 dP:bD K t.aE "homes"
 HR:iH K t.aE "Reached.__init__" (inClass (top 107) 0) ["self","drum","start"]
 bA:ClsAt K mg "Reader" t.aQ
 eJ:bD K t.aQ "numbers"
 ee:bD K t.aQ "at"
 JO:iH K t.aQ "Reader.__init__" (inClass (top 164) 0) ["self","numbers"]
 uH:MethAt K t.aQ "at_end" "Reader.at_end" (inClass (top 164) 1) ["self"]
 yJ:MethAt K t.aQ "take" "Reader.take" (inClass (top 164) 2) ["self"]
 qi:MethAt K t.aQ "take_row" "Reader.take_row" (inClass (top 164) 3) ["self"]
 HE:aD K mg "is_word" (top 5) ["number"]
 HC:aD K mg "is_long" (top 6) ["number"]
 Bq:aD K mg "is_address" (top 7) ["number"]
 vX:aD K mg "with_sign_of" (top 8) ["number","size"]
 BC:aD K mg "upper_word" (top 9) ["number"]
 Bt:aD K mg "lower_word" (top 10) ["number"]
 vP:aD K mg "lower_twenty" (top 11) ["number"]
 kR:aD K mg "quotient_toward_zero" (top 12) ["number","divisor"]
 Di:aD K mg "digit_sum" (top 13) ["number"]
 vS:aD K mg "power_of_ten" (top 14) ["exponent"]
 yr:aD K mg "around_band" (top 15) ["address","distance"]
 oJ:aD K mg "addresses_around" i8 ["address","how_many"]
 Dg:aD K mg "band_from" (top 17) ["drum","address"]
 Bv:aD K mg "operand_of" (top 28) ["code"]
 Bs:aD K mg "letters_of" (top 29) ["code"]
 BE:aD K mg "words_used" (top 30) ["code"]
 pX:aD K mg "code_of_letters" (top 31) ["letters"]
 Bx:aD K mg "order_word" (top 32) ["code","data","following"]
 HA:aD K mg "code_of" (top 33) ["word"]
 HB:aD K mg "data_of" (top 34) ["word"]
 vL:aD K mg "following_of" (top 35) ["word"]
 yz:aD K mg "loads_first" (top 36) ["code"]
 rq:aD K mg "waits_for_data" (top 37) ["code"]
 Fl:aD K mg "fault_of" (top 38) ["word"]
 BD:aD K mg "word_count" (top 48) ["row"]
 Fq:aD K mg "signs_of" xH ["codes"]
 HD:aD K mg "is_name" An ["part"]
 nI:aD K mg "is_written_number" ib ["part"]
 p0:aD K mg "is_written_word" (top 52) ["part"]
 pZ:aD K mg "is_written_from" (top 53) ["part","least","most"]
 Bu:aD K mg "numbers_of" lr ["parts"]
 vY:aD K mg "word_operand" (top 55) ["part"]
 vT:aD K mg "read_operand" (top 56) ["sort","parts"]
 Bo:aD K mg "bare_order" (top 57) ["name","parts","follow"]
 Fp:aD K mg "order_of" (top 58) ["parts"]
 vM:aD K mg "item_of_line" (top 59) ["line"]
 vV:aD K mg "rows_of_text" mN ["codes"]
 vU:aD K mg "rows_by_name" (top 63) ["rows"]
 yB:aD K mg "order_lines" oa ["rows"]
 ux:aD K mg "is_order_name" (top 65) ["rows","named","name"]
 pY:aD K mg "is_word_operand" (top 66) ["order","item"]
 oM:aD K mg "has_good_operand" (top 67) ["rows","named","order"]
 oO:aD K mg "line_named_again" (top 68) ["rows","named"]
 l5:aD K mg "line_of_bad_operand" (top 69) ["rows","named"]
 mn:aD K mg "line_of_bad_follow" (top 70) ["rows","named"]
 nJ:aD K mg "line_without_next" (top 71) ["rows","named"]
 uz:aD K mg "line_too_many" (top 72) ["rows","named"]
 oP:aD K mg "line_of_no_order" (top 73) ["rows","named"]
 yu:aD K mg "first_fault" (top 75) ["rows"]
 yA:aD K mg "next_orders" (top 76) ["rows","named"]
 vK:aD K mg "first_faulty" (top 78) ["reached"]
 oK:aD K mg "first_order_used" (top 79) ["reached"]
 uw:aD K mg "first_overlap" lF ["starts","size"]
 kQ:aD K mg "first_card_amid_band" gv ["reached"]
 yt:aD K mg "first_clash" n9 ["reached"]
 vQ:aD K mg "number_sizes" (top 83) ["reached"]
 oR:aD K mg "zero_if_too_many" (top 84) ["reached"]
 Dj:aD K mg "hindrance" (top 86) ["reached"]
 Dl:aD K mg "item_name" (top 87) ["address"]
 uA:aD K mg "operand_parts" (top 88) ["reached","word"]
 Bw:aD K mg "order_line" (top 89) ["reached","address"]
 vR:aD K mg "numbers_line" mM ["reached","address","size"]
 rj:aD K mg "listed_placing" ki ["reached"]
 yy:aD K mg "listed_text" n_ ["reached"]
 Nn:aD K mg "fits" (top 97) ["rows","placing"]
 vJ:aD K mg "data_address" (top 98) ["order","named","placing"]
 Br:aD K mg "lay_orders" (top 99) ["machine","rows","placing"]
 yw:aD K mg "lay_numbers" (top 100) ["machine","rows","placing"]
 yx:aD K mg "lay_program" (top 101) ["machine","rows","placing"]
 HH:aD K mg "ways_on" (top 103) ["word"]
 p6:aD K mg "order_addresses" (top 104) ["drum","start"]
 rh:aD K mg "data_addresses" (top 105) ["drum","orders","size"]
 Fm:aD K mg "homes_of" (top 106) ["bands","cards","singles"]
 oQ:aD K mg "marked_addresses" (top 108) ["reached"]
 Bp:aD K mg "do_nothing" qG ["machine","data","deck"]
 Np:aD K mg "load" (top 111) ["machine","data","deck"]
 vO:aD K mg "load_negated" (top 112) ["machine","data","deck"]
 Fk:aD K mg "add_word" (top 113) ["machine","data","deck"]
 uC:aD K mg "subtract_word" (top 114) ["machine","data","deck"]
 Fj:aD K mg "add_size" (top 115) ["machine","data","deck"]
 uB:aD K mg "subtract_size" (top 116) ["machine","data","deck"]
 De:aD K mg "add_upper" (top 117) ["machine","data","deck"]
 rp:aD K mg "subtract_upper" (top 118) ["machine","data","deck"]
 Fo:aD K mg "multiply" (top 119) ["machine","data","deck"]
 JD:aD K mg "divide" (top 120) ["machine","data","deck"]
 yD:aD K mg "store_lower" (top 121) ["machine","data","deck"]
 yE:aD K mg "store_upper" (top 122) ["machine","data","deck"]
 HG:aD K mg "store_d" (top 123) ["machine","data","deck"]
 BA:aD K mg "shift_left" (top 124) ["machine","data","deck"]
 yC:aD K mg "shift_right" (top 125) ["machine","data","deck"]
 l6:aD K mg "shift_right_rounded" (top 126) ["machine","data","deck"]
 p7:aD K mg "shift_and_count" (top 127) ["machine","data","deck"]
 uy:aD K mg "jump_if_below" (top 128) ["machine","data","deck"]
 oN:aD K mg "jump_if_not_zero" (top 129) ["machine","data","deck"]
 vN:aD K mg "jump_if_over" (top 130) ["machine","data","deck"]
 HF:aD K mg "look_up" (top 131) ["machine","data","deck"]
 Dm:aD K mg "read_card" (top 132) ["machine","data","deck"]
 By:aD K mg "punch_card" (top 133) ["machine","data","deck"]
 yF:aD K mg "ticks_until" (top 137) ["address","tick"]
 rn:aD K mg "stopping_state" (top 138) ["word","deck"]
 Dh:aD K mg "carry_out" (top 139) ["machine","word","tick","deck"]
 uv:aD K mg "do_next_order" (top 140) ["machine","deck"]
 Bz:aD K mg "run_orders" (top 141) ["machine","most","deck"]
 Pq:aD K mg "new" (top 150) ["machine","start"]
 Nr:aD K mg "poke" (top 151) ["machine","address","word"]
 Nq:aD K mg "peek" (top 152) ["machine","address"]
 Lh:aD K mg "place" (top 153) ["machine","text","placing"]
 Df:aD K mg "are_cards" tu ["words"]
 Pr:aD K mg "run" (top 155) ["machine","most","cards"]
 Nt:aD K mg "told" (top 156) ["machine"]
 JE:aD K mg "rewind" (top 157) ["machine"]
 p8:aD K mg "what_is_reached" (top 158) ["machine"]
 Li:aD K mg "reach" (top 159) ["machine"]
 Pt:aD K mg "why" (top 160) ["machine"]
 Dn:aD K mg "tell_text" tD ["machine"]
 vW:aD K mg "tell_placing" (top 162) ["machine"]
 Bh:aD K mg "answer_new" (top 165) ["machine","reader"]
 yo:aD K mg "answer_poke" (top 166) ["machine","reader"]
 yn:aD K mg "answer_peek" (top 167) ["machine","reader"]
 vH:aD K mg "answer_place" (top 168) ["machine","reader"]
 Bj:aD K mg "answer_run" (top 169) ["machine","reader"]
 yq:aD K mg "answer_told" (top 170) ["machine","reader"]
 ur:aD K mg "answer_rewind" (top 171) ["machine","reader"]
 vI:aD K mg "answer_reach" (top 172) ["machine","reader"]
 Bm:aD K mg "answer_why" (top 173) ["machine","reader"]
 yp:aD K mg "answer_text" (top 174) ["machine","reader"]
 rg:aD K mg "answer_placing" (top 175) ["machine","reader"]
 Hz:aD K mg "answers" sr ["calls"]
 wk:kitOne K (.ref t.aG) (.ref t.aG)=some true
 j7:kitOne K (.ref t.aG) (.ref t.aC)=some false
 rD:kitOne K (.ref t.aC) (.ref t.aG)=some false
 iN:kitOne K (.ref t.aC) (.ref t.aC)=some true
 nq:MB K t.aG
 jv:MB K t.aC
end My
namespace My
open PySem PySem.Spec PyProof.Rows L2
theorem cS{p A B:Prop}[Decidable p](a:p→A)(b:¬p→B):if decide p=true then A else B:=by
 by_cases h:p
 ·rw[if_pos (decide_eq_true h)];exact a h
 ·rw[if_neg (by rw[decide_eq_false h];decide)];exact b h
theorem gC{b:Bool}{A B:Prop}(a:b=true→A)(c:b=false→B):if b=true then A else B:=by
 cases b with
 |true=>exact a Z
 |false=>exact c Z
local macro_rules | `(tactic| walk_at "rd") => `(tactic| repeat (first | refine ⟨_, rfl, ?_⟩ | refine ⟨_, _, rfl, rfl, ?_⟩))
theorem sM{c:L2.St}{H:Hp}{A B:Hp→Prop}(h:A H):N_ c H (fun b a=>if b=true then A a else B a):=by show if true=true then A H else B H;rw[if_pos Z];exact h
theorem aK(h:H p=none):aI H (upd H p o):=fun b u e=>by rw[aw (aj e h)];exact e
theorem Qs{Q:VK}(k:Q (.int v) H)(e:a=v):Q (.int a) H:=e▸k
theorem E2{Q:VK}(k:Q (.bl v) H)(e:a=v):Q (.bl a) H:=e▸k
section
variable {P:Program} {w:World} {K:Frag} {mg:Str→Option Value} {base:Heap} {t:hG}
inductive xV(vs:List V)(H:Hp)(Q:VK)(E:XK):Prop
 |mk (n:Int) (h0_:vs=[.int n]) (h1_:Q (.bl (isWord n)) H):xV vs H Q E
theorem wZ(T:Top K mg t):Fn P w K mg base 1 "is_word" ["number"] (xV):=by
 refine T.HE.bC (N:=["number"]) (fun nd f _ A outer s H _ Q E _ h=>?_);obtain⟨n,rfl,k⟩:=h;refine⟨_,(ah (ak (kf iX iX (kg gJ (pk T.fh)) (pv 0) (pk T.fh)))),?_⟩;refine⟨_,Z,_,Z,_,_,Z,Z,_,Z,cS (fun h=>⟨_,_,Z,Z,?_⟩) (fun h=>?_)⟩
 ·rw[DM.HX h]at k;exact k
 ·rw[DM.HY h]at k;exact k
inductive xT(vs:List V)(H:Hp)(Q:VK)(E:XK):Prop
 |mk (n:Int) (h0_:vs=[.int n]) (h1_:Q (.bl (isLong n)) H):xT vs H Q E
theorem FI(T:Top K mg t):Fn P w K mg base 1 "is_long" ["number"] (xT):=by
 refine T.HC.bC (N:=["number"]) (fun nd f _ A outer s H _ Q E _ h=>?_);obtain⟨n,rfl,k⟩:=h;refine⟨_,(ah (ak (kf iX iX (kg gJ (pk T.kL)) (pv 0) (pk T.kL)))),?_⟩;refine⟨_,Z,_,Z,_,_,Z,Z,_,Z,cS (fun h=>⟨_,_,Z,Z,?_⟩) (fun h=>?_)⟩
 ·rw[DM.HV h]at k;exact k
 ·rw[DM.HW h]at k;exact k
inductive ou(vs:List V)(H:Hp)(Q:VK)(E:XK):Prop
 |mk (n:Int) (h0_:vs=[.int n]) (h1_:Q (.bl (decide (0≤n)&&decide (n<2000))) H):ou vs H Q E
theorem gW(T:Top K mg t):Fn P w K mg base 1 "is_address" ["number"] (ou):=by
 refine T.Bq.bC (N:=["number"]) (fun nd f _ A outer s H _ Q E _ h=>?_);obtain⟨n,rfl,k⟩:=h;refine⟨_,(ah (ak (kf xk iX au (pv 0) (pk T.fC)))),?_⟩;refine⟨_,Z,_,_,Z,Z,_,Z,cS (fun h=>⟨_,_,Z,Z,?_⟩) (fun h=>?_)⟩
 ·rw[decide_eq_true h,Bool.true_and]at k;exact k
 ·rw[decide_eq_false h,Bool.false_and]at k;exact k
inductive lV(vs:List V)(H:Hp)(Q:VK)(E:XK):Prop
 |mk (n z:Int) (h0_:vs=[.int n,.int z]) (h1_:Q (.int (if n<0 then -z else z)) H):lV vs H Q E
theorem fe(T:Top K mg t):Fn P w K mg base 1 "with_sign_of" ["number","size"] (lV):=by
 refine T.vX.bC (N:=["number","size"]) (fun nd f _ A outer s H _ Q E _ h=>?_);obtain⟨n,z,rfl,k⟩:=h;refine⟨_,(ah (ak (dS (az iX (pv 0) au (aB _)) (kg gJ (pv 1)) (pv 1)))),?_⟩;refine⟨_,Z,_,_,Z,Z,_,Z,cS (fun h=>⟨_,Z,_,Z,?_⟩) (fun h=>⟨_,Z,?_⟩)⟩
 ·rw[if_pos h]at k;exact k
 ·rw[if_neg h]at k;exact k
inductive oC(vs:List V)(H:Hp)(Q:VK)(E:XK):Prop
 |mk (n:Int) (h0_:vs=[.int n]) (h1_:Q (.int (Drum.upper n)) H):oC vs H Q E
theorem y3(T:Top K mg t):Fn P w K mg base 2 "upper_word" ["number"] (oC):=by refine T.BC.bC (N:=["number"]) (fun nd f _ A outer s H _ Q E a h=>?_);obtain⟨n,rfl,k⟩:=h;refine⟨_,(ah (ak (bq (fe T) a (aa (pv 0) (aa (aN gp (aF dN Z T.lB boot_abs (aa (pv 0) ai)) (pk T.fh)) ai))))),?_⟩;refine⟨_,Z,_,Z,_,Z,_,_,Z,Z,⟨by decide,by decide⟩,_,_,Z,?_⟩;rw[DM.EJ,← cZ]at k;exact k
inductive ox(vs:List V)(H:Hp)(Q:VK)(E:XK):Prop
 |mk (n:Int) (h0_:vs=[.int n]) (h1_:Q (.int (Drum.lower n)) H):ox vs H Q E
theorem nZ(T:Top K mg t):Fn P w K mg base 2 "lower_word" ["number"] (ox):=by refine T.Bt.bC (N:=["number"]) (fun nd f _ A outer s H _ Q E a h=>?_);obtain⟨n,rfl,k⟩:=h;refine⟨_,(ah (ak (bq (fe T) a (aa (pv 0) (aa (aN gG (aF dN Z T.lB boot_abs (aa (pv 0) ai)) (pk T.fh)) ai))))),?_⟩;refine⟨_,Z,_,Z,_,Z,_,_,Z,Z,(by decide:(0:Int)<10000000000),_,_,Z,?_⟩;rw[DM.DF,← cZ]at k;exact k
inductive lO(vs:List V)(H:Hp)(Q:VK)(E:XK):Prop
 |mk (n:Int) (h0_:vs=[.int n]) (h1_:Q (.int (signed n (n.natAbs % (TEN*TEN)))) H):lO vs H Q E
theorem uT(T:Top K mg t):Fn P w K mg base 2 "lower_twenty" ["number"] (lO):=by refine T.vP.bC (N:=["number"]) (fun nd f _ A outer s H _ Q E a h=>?_);obtain⟨n,rfl,k⟩:=h;refine⟨_,(ah (ak (bq (fe T) a (aa (pv 0) (aa (aN gG (aF dN Z T.lB boot_abs (aa (pv 0) ai)) (pk T.kL)) ai))))),?_⟩;refine⟨_,Z,_,Z,_,Z,_,_,Z,Z,(by decide:(0:Int)<100000000000000000000),_,_,Z,?_⟩;rw[cZ];exact k
inductive fQ(vs:List V)(H:Hp)(Q:VK)(E:XK):Prop
 |mk (a b:Int) (h0_:vs=[.int a,.int b]) (h1_:b≠0) (h2_:b.natAbs<1000000000000000000000000000000) (h3_:Q (.int (a.tdiv b)) H):fQ vs H Q E
theorem fO(T:Top K mg t):Fn P w K mg base 1 "quotient_toward_zero" ["number","divisor"] (fQ):=by
 refine T.kR.bC (N:=["number","divisor","size"]) (fun nd f _ A outer s H _ Q E _ h=>?_);obtain⟨a,b,rfl,h0,c,k⟩:=h;refine⟨_,(af (aH 2 nd (aN gp (aF dN Z T.lB boot_abs (aa (pv 0) ai)) (aF dN Z T.lB boot_abs (aa (pv 1) ai))))
  (ah (ak (dS (az bN (d7 iX (pv 0) au (aB _)) (d7 iX (pv 1) au (aB _)) (aB _)) (pv 2) (kg gJ (pv 2)))))),?_⟩
 refine⟨_,Z,_,Z,_,Z,_,Z,_,_,Z,Z,⟨by rw[cZ];omega,by rw[cZ];omega⟩,_,Z,_,_,Z,Z,_,Z,_,_,Z,Z,Z,_,Z,?_⟩;rw[DM.Hd,← cZ a,← cZ b]at k;refine gC (fun h=>⟨_,Z,?_⟩) (fun h=>⟨_,Z,_,Z,?_⟩)
 ·rw[if_pos (by rw[← h];exact Bc.symm)]at k;exact k
 ·rw[if_neg (by rw[← Bc,h];decide)]at k;exact k
end
end My
namespace My
open PySem PySem.Spec PyProof.Rows L2
section
variable {P:Program} {w:World} {K:Frag} {mg:Str→Option Value} {base:Heap} {t:hG}
inductive qN(vs:List V)(H:Hp)(Q:VK)(E:XK):Prop
 |mk (n:Int) (h0_:vs=[.int n]) (h1_:n.natAbs<10^20) (h2_:Q (.int (digitSum n:Nat)) H):qN vs H Q E
theorem qv(T:Top K mg t):Fn P w K mg base 1 "digit_sum" ["number"] (qN):=by
 refine T.Di.bC (N:=["number","rest","total"]) (fun nd f _ A outer s H _ Q E _ h=>?_);obtain⟨n,rfl,hn,k⟩:=h;refine⟨_,(af (aH 1 nd (aF dN Z T.lB boot_abs (aa (pv 0) ai)))
  (af (aH 2 nd au)
  (af (mK PassesOwn.never (az mD (pv 1) au (aB _)) (af (xA (i:=2) nd Z (Or.inl Z) (aN gG (pv 1) au) oT)
  (ah (aH 1 nd (aN gp (pv 1) au)))))
  (ah (ak (pv 2)))))),?_⟩
 refine⟨_,Z,_,Z,?_⟩;rw[cZ];refine ye (fun c H'=>∃r a:Nat,c=[some (.int n),some (.int r),some (.int a)]∧H'=H∧r<10^20∧a+nH 20 r=nH 20 n.natAbs)
  (fun c _=>match c with|[_,some (.int r),_]=>r.toNat|_=>0) ⟨n.natAbs,0,Z,Z,hn,by omega⟩ ?_ ?_
 ·rintro c H' ⟨r,a,rfl,rfl,u,e⟩;refine⟨_,Z,_,_,Z,Z,_,Z,cS (fun h=>?_) (fun h=>?_)⟩
  ·refine⟨_,Z,_,Z,_,_,Z,Z,(by decide:(0:Int)<10),_,_,Z,Z,_,Z,_,_,Z,Z,⟨by decide,by decide⟩,⟨r/10,a+r % 10,?_,Z,by omega,?_⟩,?_⟩
   ·show[some (V.int n),some (V.int ((r:Int)/10)),some (V.int ((a:Int)+(r:Int) % 10))]=_;rw[show(r:Int)/10=((r/10:Nat):Int)by omega,show(a:Int)+(r:Int) % 10=((a+r % 10:Nat):Int)by omega]
   ·rw[← e];have d:nH 20 r=r % 10+nH 19 (r/10):=rfl;have g:nH 20 (r/10)=nH 19 (r/10):=DM.q_ 19 20 _ (by omega) (by omega);omega
   ·show((r:Int)/10).toNat<(r:Int).toNat;omega
  ·refine⟨_,Z,?_⟩;have l:r=0:=by omega
   rw[l,DM.ra]at e;rw[sQ hn (by omega),← e]at k;exact k
 ·rintro c H Q v p ⟨x,d,i,j,g,m,b,o,q⟩;exact⟨x,d,i,j,g,m,b,o,p _ _ q⟩
theorem qE{i:Nat}(h:i≤20):(10:Nat)^i≤100000000000000000000:=Nat.le_trans (Nat.pow_le_pow_right (by decide) h) (by decide)
inductive lR(vs:List V)(H:Hp)(Q:VK)(E:XK):Prop
 |mk (n:Nat) (h0_:vs=[.int n]) (h1_:n≤20) (h2_:Q (.int ((10^n:Nat):Int)) H):lR vs H Q E
theorem hZ(T:Top K mg t):Fn P w K mg base 1 "power_of_ten" ["exponent"] (lR):=by
 refine T.vS.bC (N:=["exponent","power","turn"]) (fun nd f _ A outer s H _ Q E _ h=>?_);obtain⟨n,rfl,hn,k⟩:=h;refine⟨_,(af (aH 1 nd au)
  (af (bx PassesOwn.never Z (Aj Z T.AR (aa (pv 0) ai)) (bI 2 nd) (ah (aH 1 nd (aN dH (pv 1) au))))
  (ah (ak (pv 1))))),?_⟩
 refine⟨_,Z,_,Z,by omega,by omega,HJ (lo:=0) (n:=n) (fun i b H'=>H'=H∧∃a,b=[some (.int n),some (.int ((10^i:Nat):Int)),a]) ⟨Z,_,Z⟩ ?_ ?_⟩
 ·rintro i b H' d ⟨rfl,a,rfl⟩;have c:=qE (i:=i) (by omega);refine⟨_,Z,_,_,Z,Z,⟨by show(((10^i:Nat):Int)).natAbs<_;rw[Int.natAbs_natCast];exact Nat.lt_of_le_of_lt c (by decide),by decide⟩,Z,some (.int (0+(i:Int))),?_⟩;show[some (V.int (n:Int)),some (V.int (((10^i:Nat):Int)*10)),some (V.int (0+(i:Int)))]=_;rw[show((10^i:Nat):Int)*10=((10^(i+1):Nat):Int)by rw[Nat.pow_succ];omega]
 ·rintro b H' ⟨rfl,a,rfl⟩;exact⟨_,Z,k⟩
inductive mQ(vs:List V)(H:Hp)(Q:VK)(E:XK):Prop
 |mk (a k:Nat) (h0_:vs=[.int a,.int k]) (h1_:Q (.int (around a k:Nat)) H):mQ vs H Q E
theorem iT(T:Top K mg t):Fn P w K mg base 1 "around_band" ["address","distance"] (mQ):=by refine T.yr.bC (N:=["address","distance"]) (fun nd f _ A outer s H _ Q E _ h=>?_);obtain⟨a,b,rfl,k⟩:=h;refine⟨_,(ah (ak (aN cy (aN iY (pv 0) (aN gG (pv 0) (pk T.bw))) (aN gG (aN cy (pv 0) (pv 1)) (pk T.bw))))),?_⟩;refine⟨_,Z,_,Z,_,_,Z,Z,(by decide:(0:Int)<40),_,_,Z,Z,_,Z,_,Z,_,_,Z,Z,_,_,Z,Z,(by decide:(0:Int)<40),_,_,Z,Z,?_⟩;exact Qs k (DM.E5 a b)
noncomputable def cC(a n:Nat):List V:=(range n).map fun k=>V.int (around a k:Nat)
inductive ic(vs:List V)(H:Hp)(Q:VK)(E:XK):Prop
 |mk (a n:Nat) (h0_:vs=[.int a,.int n]) (h1_:n≤40) (h2_:∀p,H p=none→Q (.ref p) (upd H p (.lst (cC a n)))):ic vs H Q E
theorem bU(T:Top K mg t):Fn P w K mg base 2 "addresses_around" ["address","how_many"] (ic):=by
 refine T.oJ.bC (N:=["address","how_many","distance"]) (fun nd f _ A outer s H _ Q E b h=>?_);obtain⟨a,n,rfl,hn,k⟩:=h;refine⟨_,(ah (ak (jB Z nd (Aj Z T.AR (aa (pv 1) ai)) (b_ (own:=[("distance",2)]) (by refine(show lZ ["address","how_many","distance"] (aL i8) _ _=true from ?_);decide +kernel)) (fun _ _ _ _ _=>(bI 2 nd)) (fun _ _ _ _ _=>eM) (fun _ _ _ _ _=>(bq (iT T) b (aa (pv 0) (aa (pv 2) ai))))))),?_⟩;refine⟨_,Z,_,Z,by omega,by omega,fun D hD=>J0 (lo:=0) (n:=n) (fun i H'=>H'=upd H D (.lst (cC a i))) Z ?_ ?_⟩
 ·rintro i H' c rfl;refine⟨Z,sM ⟨_,Z,_,Z,a,i,?_,_,ae,?_,?_⟩⟩
  ·show[V.int (a:Int),V.int (0+(i:Int))]=_;rw[Int.zero_add]
  ·unfold cC;rw[length_map,length_range,sizeLine_eq];omega
  ·rw[a9];unfold cC;rw[i6]
 ·rintro H' rfl;exact k D hD
theorem Gr(ws:List V)(i j:Nat)(h:i≤j)(a:j≤ws.length):kM ws (some (i:Int)) (some (j:Int))=(ws.drop i).take (j-i):=by unfold kM;rw[HT.nD,HT.nD,Nat.min_eq_left (Nat.le_trans h a),Nat.min_eq_left a]
theorem Hk{ws:List Int}(h:ws.length=2000)(ha:a<2000):
  ((ws.map V.int).drop a).take (a/40*40+40-a)++((ws.map V.int).drop (a/40*40)).take (a-a/40*40)=(range 40).map fun k=>V.int (ws.getD (around a k) 0):=by
 apply List.ext_getElem
 ·simp;omega
 ·intro k d c;have g:k<40:=by simpa using c
  rw[getElem_map,getElem_range];by_cases f:k<a/40*40+40-a
  ·rw[List.getElem_append_left (by simp;omega),getElem_take,List.getElem_drop,getElem_map];have e:around a k=a+k:=by unfold around PLACES;omega
   rw[e,getD_eq_getElem?_getD,getElem?_eq_getElem (by omega)];rfl
  ·rw[List.getElem_append_right (by simp;omega),getElem_take,List.getElem_drop,getElem_map];have e:around a k=a/40*40+(k-(a/40*40+40-a)):=by unfold around PLACES;omega
   have b:(((ws.map V.int).drop a).take (a/40*40+40-a)).length=a/40*40+40-a:=by simp;omega
   rw[e,getD_eq_getElem?_getD,getElem?_eq_getElem (by omega)];simp only[b];rfl
inductive qL(vs:List V)(H:Hp)(Q:VK)(E:XK):Prop
 |mk (p:Addr) (a:Nat) (ws:List Int) (h0_:vs=[.ref p,.int a]) (h1_:a<2000) (h2_:ws.length=2000) (h3_:H p=some (.lst (ws.map V.int))) (h4_:∀q H',H q=none→H' q=some (.lst ((range 40).map fun k=>V.int (ws.getD (around a k) 0)))→aI H H'→Q (.ref q) H'):qL vs H Q E
theorem B0(T:Top K mg t):Fn P w K mg base 1 "band_from" ["drum","address"] (qL):=by
 refine T.Dg.bC (N:=["drum","address","place","first"]) (fun nd f _ A outer s H _ Q E _ h=>?_);obtain⟨p,a,ws,rfl,ha,r,j,k⟩:=h;refine⟨_,(af (aH 2 nd (aN gG (pv 1) (pk T.bw)))
  (af (aH 3 nd (aN iY (pv 1) (pv 2)))
  (ah (ak (aN k9 (eT jE (pv 0) (d8 (pv 1)) (d8 (aN cy (pv 3) (pk T.bw)))) (eT jE (pv 0) (d8 (pv 3)) (d8 (pv 1)))))))),?_⟩
 refine⟨_,Z,_,_,Z,Z,(by decide:(0:Int)<40),_,Z,_,Z,_,_,Z,Z,_,Z,_,Z,_,Z,_,Z,_,_,Z,Z,_,Z,p,_,Z,aT.of j,fun d q=>?_⟩;have n:aI H (upd H d (.lst (kM (ws.map V.int) (some (a:Int)) (some ((a:Int)-(a:Int) % 40+40))))):=fun b o e=>by rw[aw (aj e q)];exact e
 refine⟨_,Z,_,Z,_,Z,_,Z,_,Z,p,_,Z,aT.of (n _ _ j),fun m g=>?_⟩;have c:d≠m:=aj ae g;refine⟨d,m,_,_,Z,Z,by rw[aw c];exact ae,ae,?_,fun u i=>?_⟩
 ·have:=ml (ws.map V.int) (some (a:Int)) (some ((a:Int)-(a:Int) % 40+40));have:=ml (ws.map V.int) (some ((a:Int)-(a:Int) % 40)) (some (a:Int));rw[length_map]at*;rw[sizeLine_eq];omega
 ·have l:=n.trans (aK (o:=.lst (kM (ws.map V.int) (some ((a:Int)-(a:Int) % 40)) (some (a:Int)))) g);refine k u _ (aI.free l i) ?_ (l.trans (aK i));rw[ae,show(a:Int)-(a:Int) % 40+40=((a/40*40+40:Nat):Int)by omega,show(a:Int)-(a:Int) % 40=((a/40*40:Nat):Int)by omega,
   Gr _ _ _ (by omega) (by rw[length_map];omega),Gr _ _ _ (by omega) (by rw[length_map];omega),Hk r ha]
end
end My
namespace My
open PySem PySem.Spec PyProof.Rows L2
local macro_rules | `(tactic| walk_at "rd") => `(tactic| repeat (first | refine ⟨_, rfl, ?_⟩ | refine ⟨_, _, rfl, rfl, ?_⟩ | refine ⟨rfl, _, rfl, ?_⟩ | refine ⟨⟨by decide, by decide⟩, ?_⟩ | refine ⟨by decide, ?_⟩))
section
variable {P:Program} {w:World} {K:Frag} {mg:Str→Option Value} {base:Heap} {t:hG}
theorem gx{i j:Int}{A B:Prop}(a:i=j→A)(b:i≠j→B):if decide (V.int i=V.int j)=true then A else B:=cS (fun h=>a (V.int.inj h)) (fun h=>b fun e=>h (by rw[e]))
theorem iO{i j:Int}{A B:Prop}(a:i≠j→A)(b:i=j→B):if(!decide (V.int i=V.int j))=true then A else B:=by
 by_cases h:i=j
 ·subst h;rw[decide_eq_true Z];exact cB (b Z)
 ·rw[decide_eq_false (fun e=>h (V.int.inj e))];exact cJ (a h)
theorem fE{i j:Str}{A B:Prop}(a:i=j→A)(b:i≠j→B):if decide (V.str i=V.str j)=true then A else B:=cS (fun h=>a (V.str.inj h)) (fun h=>b fun e=>h (by rw[e]))
theorem kS{i j:Str}{A B:Prop}(a:i≠j→A)(b:i=j→B):if(!decide (V.str i=V.str j))=true then A else B:=by
 by_cases h:i=j
 ·subst h;rw[decide_eq_true Z];exact cB (b Z)
 ·rw[decide_eq_false (fun e=>h (V.str.inj e))];exact cJ (a h)
def sB(b:Bytes):Str:=⟨(b.map UInt8.toNat).toArray⟩
theorem fu:sB a=sB b↔a=b:=by
 constructor
 ·intro h;have c:a.map UInt8.toNat=b.map UInt8.toNat:=by have:=congrArg (fun s=>s.cps.toList) h;simpa[sB]using this
  exact(List.map_inj_right (fun x y e=>UInt8.toNat_inj.mp e)).mp c
 ·intro h;rw[h]
noncomputable def yi(c:Nat):Str:=if sortOf c=0 then "none" else if sortOf c=1 then "word" else if sortOf c=2 then "jump" else "shift"
theorem bX(h:known c=true):c=0∨c=1∨c=10∨c=11∨c=12∨c=13∨c=14∨c=15∨c=16∨c=17∨c=18∨c=20∨c=21∨c=30∨c=31∨c=32∨c=40∨c=41∨c=42∨c=43∨c=50∨c=51∨c=52∨c=60∨c=70∨c=71:=by obtain⟨x,a,e⟩:=any_eq_true.mp h;rw[← eq_of_beq e];have m:x.1∈([0,1,10,11,12,13,14,15,16,17,18,20,21,30,31,32,40,41,42,43,50,51,52,60,70,71]:List Nat):=List.mem_map_of_mem (f:=Prod.fst) a;simpa only [mem_cons,not_mem_nil,or_false]using m
theorem z8(h:known c=true):c<100:=by obtain⟨x,b,e⟩:=any_eq_true.mp h;have a:=all_eq_true.mp (show(names.all fun x=>decide (x.1<100))=true from Z) x b;rw[← eq_of_beq e];exact of_decide_eq_true a
theorem D9(t:hG):(eG t).map (·.1)=names.map fun x=>(Sum.inl ((x.1:Nat):Int):Key):=rfl
theorem Im(t:hG)(c:Nat):(bH (eG t) (Sum.inl (c:Int))).isSome=known c:=by
 rw[← gw];have e:((eG t).any fun a=>decide (a.1=(Sum.inl (c:Int):Key)))=((eG t).map (·.1)).any fun k=>decide (k=(Sum.inl (c:Int):Key)):=by rw[any_map];rfl
 rw[e,D9,any_map];unfold known;refine congrArg (fun f=>List.any names f) (funext fun x=>?_);show decide ((Sum.inl ((x.1:Nat):Int):Key)=Sum.inl (c:Int))=(x.1==c);by_cases h:x.1=c
 ·rw[h];simp
 ·rw[decide_eq_false (fun q=>h (by have:=Sum.inl.inj q;omega))];simp[h]
theorem xr(T:Top K mg t)(h:known c=true):∃a,bH (eG t) (Sum.inl (c:Int))=some (.ref a)∧dj K a [.str (sB (nameOf c)),.str (yi c)]:=by
 rcases bX h with h|h|h|h|h|h|h|h|h|h|h|h|h|h|h|h|h|h|h|h|h|h|h|h|h|h<;>subst h
 ·exact⟨_,Z,T.x6⟩
 ·exact⟨_,Z,T.x8⟩
 ·exact⟨_,Z,T.tN⟩
 ·exact⟨_,Z,T.tO⟩
 ·exact⟨_,Z,T.tP⟩
 ·exact⟨_,Z,T.tQ⟩
 ·exact⟨_,Z,T.tR⟩
 ·exact⟨_,Z,T.tS⟩
 ·exact⟨_,Z,T.tT⟩
 ·exact⟨_,Z,T.tU⟩
 ·exact⟨_,Z,T.tV⟩
 ·exact⟨_,Z,T.tW⟩
 ·exact⟨_,Z,T.tX⟩
 ·exact⟨_,Z,T.tY⟩
 ·exact⟨_,Z,T.tZ⟩
 ·exact⟨_,Z,T.t4⟩
 ·exact⟨_,Z,T.t6⟩
 ·exact⟨_,Z,T.t7⟩
 ·exact⟨_,Z,T.t8⟩
 ·exact⟨_,Z,T.t9⟩
 ·exact⟨_,Z,T.t_⟩
 ·exact⟨_,Z,T.ua⟩
 ·exact⟨_,Z,T.ub⟩
 ·exact⟨_,Z,T.uc⟩
 ·exact⟨_,Z,T.ud⟩
 ·exact⟨_,Z,T.ue⟩
inductive jW(vs:List V)(H:Hp)(Q:VK)(E:XK):Prop
 |mk (c:Nat) (h0_:vs=[.int c]) (h1_:known c=true) (h2_:Q (.str (yi c)) H):jW vs H Q E
theorem dU(T:Top K mg t):Fn P w K mg base 1 "operand_of" ["code"] (jW):=by refine T.Bv.bC (N:=["code"]) (fun nd f _ A outer s H _ Q E _ h=>?_);obtain⟨c,rfl,e,k⟩:=h;obtain⟨a,b,d⟩:=xr T e;refine⟨_,(ah (ak (bB kT (qD (pk T.pO) (pv 0) (fun _ _=>rfl)) au (fun _ _=>rfl)))),?_⟩;exact⟨_,Z,_,_,_,_,Z,T.qd,Z,b,a,_,_,_,Z,Z,d.sq H,Z,k⟩
inductive ow(vs:List V)(H:Hp)(Q:VK)(E:XK):Prop
 |mk (c:Nat) (h0_:vs=[.int c]) (h1_:known c=true) (h2_:Q (.str (sB (nameOf c))) H):ow vs H Q E
theorem yV(T:Top K mg t):Fn P w K mg base 1 "letters_of" ["code"] (ow):=by refine T.Bs.bC (N:=["code"]) (fun nd f _ A outer s H _ Q E _ h=>?_);obtain⟨c,rfl,e,k⟩:=h;obtain⟨a,b,d⟩:=xr T e;refine⟨_,(ah (ak (bB kT (qD (pk T.pO) (pv 0) (fun _ _=>rfl)) au (fun _ _=>rfl)))),?_⟩;exact⟨_,Z,_,_,_,_,Z,T.qd,Z,b,a,_,_,_,Z,Z,d.sq H,Z,k⟩
def Ay(c:Nat):Nat:=if c=60 then 40 else if c=70∨c=71 then 8 else if sortOf c=1 then 1 else 0
inductive oF(vs:List V)(H:Hp)(Q:VK)(E:XK):Prop
 |mk (c:Nat) (h0_:vs=[.int c]) (h1_:known c=true) (h2_:∀H',aI H H'→Q (.int (Ay c:Nat)) H'):oF vs H Q E
theorem y4(T:Top K mg t):Fn P w K mg base 2 "words_used" ["code"] (oF):=by
 refine T.BE.bC (N:=["code"]) (fun nd f _ A outer s H _ Q E i h=>?_);obtain⟨c,rfl,g,k⟩:=h;unfold Ay at k;refine⟨_,(af (aM (az bN (pv 0) (pk T.Jq) (aB _)) (ah (ak (pk T.bw))) aA)
  (af (aM (az se (pv 0) (fk (aa (pk T.Jp) (aa (pk T.MR) ai))) (by with_unfolding_all rfl)) (ah (ak (pk T.b0))) aA)
  (ah (ak (dS (az bN (bq (dU T) i (aa (pv 0) ai)) aZ (aB _)) au au))))),?_⟩
 refine⟨_,Z,Z,_,Z,gx (fun h=>?_) (fun h=>?_)⟩
 ·have e:c=60:=by omega
  rw[if_pos e]at k;exact k H (aI.refl H)
 ·rw[if_neg (by omega:¬c=60)]at k;refine⟨_,Z,by show 2≤sizeLine;decide,fun p d=>⟨p,_,Z,.inr (h9.of ae),Z,Z,_,Z,gC (fun h=>?_) (fun h=>?_)⟩⟩
  ·have b:((70:Int)==(c:Int)||((71:Int)==(c:Int)||false))=true:=h;simp only[Bool.or_eq_true,beq_iff_eq,Bool.or_false]at b;rw[if_pos (by omega:c=70∨c=71)]at k;exact k _ (aK d)
  ·have b:((70:Int)==(c:Int)||((71:Int)==(c:Int)||false))=false:=h;simp only[Bool.or_eq_false_iff,Bool.or_false,beq_eq_false_iff_ne]at b;rw[if_neg (by omega:¬(c=70∨c=71))]at k;refine⟨_,Z,c,Z,g,Z,_,Z,fE (fun h=>?_) (fun h=>?_)⟩
   ·have e:sortOf c=1:=by rcases bX g with a|a|a|a|a|a|a|a|a|a|a|a|a|a|a|a|a|a|a|a|a|a|a|a|a|a<;>subst a<;>first|rfl|exact absurd h (by decide +kernel)
    rw[if_pos e]at k;exact k _ (aK d)
   ·have e:¬sortOf c=1:=fun e=>h (by unfold yi;rw[e];rfl);rw[if_neg e]at k;exact k _ (aK d)
inductive oA(vs:List V)(H:Hp)(Q:VK)(E:XK):Prop
 |mk (a b c:Nat) (h0_:vs=[.int a,.int b,.int c]) (h1_:a<10000) (h2_:b<100000) (h3_:Q (.int ((100000000*a+10000*b+c:Nat):Int)) H):oA vs H Q E
theorem yY(T:Top K mg t):Fn P w K mg base 1 "order_word" ["code","data","following"] (oA):=by refine T.Bx.bC (N:=["code","data","following"]) (fun nd f _ A outer s H _ Q E _ h=>?_);obtain⟨a,b,c,rfl,ha,d,k⟩:=h;refine⟨_,(ah (ak (aN cy (aN cy (aN dH (pv 0) (pk T.sO)) (aN dH (pv 1) (pk T.jr))) (pv 2)))),?_⟩;refine⟨_,Z,_,_,Z,Z,⟨by omega,by decide⟩,_,Z,_,_,Z,Z,⟨by omega,by decide⟩,_,_,Z,Z,_,Z,_,_,Z,Z,?_⟩;exact Qs k (by omega)
inductive xS(vs:List V)(H:Hp)(Q:VK)(E:XK):Prop
 |mk (n:Int) (h0_:vs=[.int n]) (h1_:Q (.int (n/100000000)) H):xS vs H Q E
theorem dF(T:Top K mg t):Fn P w K mg base 1 "code_of" ["word"] (xS):=by refine T.HA.bC (N:=["word"]) (fun nd f _ A outer s H _ Q E _ h=>?_);obtain⟨n,rfl,k⟩:=h;refine⟨_,(ah (ak (aN gp (pv 0) (pk T.sO)))),?_⟩;exact⟨_,Z,_,_,Z,Z,⟨by decide,by decide⟩,k⟩
inductive jb(vs:List V)(H:Hp)(Q:VK)(E:XK):Prop
 |mk (n:Int) (h0_:vs=[.int n]) (h1_:Q (.int (n/10000 % 10000)) H):jb vs H Q E
theorem gF(T:Top K mg t):Fn P w K mg base 1 "data_of" ["word"] (jb):=by refine T.HB.bC (N:=["word"]) (fun nd f _ A outer s H _ Q E _ h=>?_);obtain⟨n,rfl,k⟩:=h;refine⟨_,(ah (ak (aN gG (aN gp (pv 0) (pk T.jr)) (pk T.jr)))),?_⟩;exact⟨_,Z,_,_,Z,Z,⟨by decide,by decide⟩,_,_,Z,Z,(by decide:(0:Int)<10000),k⟩
inductive lL(vs:List V)(H:Hp)(Q:VK)(E:XK):Prop
 |mk (n:Int) (h0_:vs=[.int n]) (h1_:Q (.int (n % 10000)) H):lL vs H Q E
theorem dR(T:Top K mg t):Fn P w K mg base 1 "following_of" ["word"] (lL):=by refine T.vL.bC (N:=["word"]) (fun nd f _ A outer s H _ Q E _ h=>?_);obtain⟨n,rfl,k⟩:=h;refine⟨_,(ah (ak (aN gG (pv 0) (pk T.jr)))),?_⟩;exact⟨_,Z,_,_,Z,Z,(by decide:(0:Int)<10000),k⟩
inductive mV(vs:List V)(H:Hp)(Q:VK)(E:XK):Prop
 |mk (c:Nat) (h0_:vs=[.int c]) (h1_:Q (.bl (loads c)) H):mV vs H Q E
theorem xc(T:Top K mg t):Fn P w K mg base 1 "loads_first" ["code"] (mV):=by
 refine T.yz.bC (N:=["code"]) (fun nd f _ A outer s H _ Q E _ h=>?_);obtain⟨n,rfl,k⟩:=h;unfold loads at k;refine⟨_,(ah (ak (kf xk xk au (pv 0) au))),?_⟩;refine⟨_,Z,_,_,Z,Z,_,Z,cS (fun h=>⟨_,_,Z,Z,?_⟩) (fun h=>?_)⟩
 ·exact E2 k (by rw[decide_eq_true (by omega:10≤n),Bool.true_and];exact decide_eq_decide.mpr (by omega))
 ·exact E2 k (by rw[decide_eq_false (by omega:¬10≤n)];rfl)
inductive jK(vs:List V)(H:Hp)(Q:VK)(E:XK):Prop
 |mk (c:Nat) (h0_:vs=[.int c]) (h1_:known c=true) (h2_:Q (.bl (waits c)) H):jK vs H Q E
theorem qy(T:Top K mg t):Fn P w K mg base 1 "waits_for_data" ["code"] (jK):=by
 refine T.rq.bC (N:=["code"]) (fun nd f _ A outer s H _ Q E _ h=>?_);obtain⟨n,rfl,b,k⟩:=h;have e:waits n=((decide (10≤n)&&decide (n≤32))||decide (n=60)):=by rcases bX b with a|a|a|a|a|a|a|a|a|a|a|a|a|a|a|a|a|a|a|a|a|a|a|a|a|a<;>subst a<;>rfl
 rw[e]at k;refine⟨_,(ah (ak (MU (kf xk xk au (pv 0) au) (mH (d7 bN (pv 0) (pk T.Jq) (aB _)))))),?_⟩;refine⟨_,Z,_,_,Z,Z,_,Z,cS (fun h=>⟨_,_,Z,Z,_,Z,cS (fun a=>?_) (fun a=>?_)⟩) (fun h=>⟨_,Z,cB ⟨_,Z,Z,?_⟩⟩)⟩
 ·exact E2 k (by rw[decide_eq_true (by omega:10≤n),decide_eq_true (by omega:n≤32)];rfl)
 ·refine⟨_,Z,Z,E2 k ?_⟩;rw[decide_eq_true (by omega:10≤n),decide_eq_false (by omega:¬n≤32)];by_cases e:n=60
  ·subst e;rfl
  ·rw[decide_eq_false e,decide_eq_false (fun q=>e (by have:=V.int.inj q;omega))];rfl
 ·refine E2 k ?_;rw[decide_eq_false (by omega:¬10≤n)];by_cases e:n=60
  ·subst e;rfl
  ·rw[decide_eq_false e,decide_eq_false (fun q=>e (by have:=V.int.inj q;omega))];rfl
def fN(v:Int):Nat:=(faultOf v true).getD 0
theorem Nk(h:v<0):fN v=2:=by unfold fN faultOf;simp only;rw[if_pos h];rfl
theorem Nm(a:¬v<0)(h:known (orderOf v).code=false):fN v=3:=by unfold fN faultOf;simp only;rw[if_neg a,if_pos h];rfl
theorem Pp(a:¬v<0)(b:known (orderOf v).code=true)(h:((orderOf v).code≠0∧2000≤(orderOf v).n)∨(addresses (orderOf v).code=true∧2000≤(orderOf v).d)):fN v=4:=by unfold fN faultOf WORDS;simp only;rw[if_neg a,if_neg (by rw[b];decide),if_pos h];rfl
theorem QT(a:¬v<0)(c:known (orderOf v).code=true)(h:¬(((orderOf v).code≠0∧2000≤(orderOf v).n)∨(addresses (orderOf v).code=true∧2000≤(orderOf v).d)))
 (b:40≤(orderOf v).code∧(orderOf v).code≤42∧20<(orderOf v).d):fN v=5:=by
 unfold fN faultOf WORDS;simp only;rw[if_neg a,if_neg (by rw[c];decide),if_neg h,if_pos b];rfl
theorem Pn(a:¬v<0)(c:known (orderOf v).code=true)(h:¬(((orderOf v).code≠0∧2000≤(orderOf v).n)∨(addresses (orderOf v).code=true∧2000≤(orderOf v).d)))
 (b:¬(40≤(orderOf v).code∧(orderOf v).code≤42∧20<(orderOf v).d)):fN v=0:=by
 unfold fN faultOf WORDS;simp only;rw[if_neg a,if_neg (by rw[c];decide),if_neg h,if_neg b,if_neg (by rintro⟨_,q⟩;cases q)];rfl
theorem Jj(b:known c=true):PU (.str (yi c)) [.str "word",.str "jump"]=addresses c:=by rcases bX b with a|a|a|a|a|a|a|a|a|a|a|a|a|a|a|a|a|a|a|a|a|a|a|a|a|a<;>subst a<;>decide +kernel
theorem Ao(b:known c=true):yi c="shift"↔40≤c∧c≤42:=by rcases bX b with a|a|a|a|a|a|a|a|a|a|a|a|a|a|a|a|a|a|a|a|a|a|a|a|a|a<;>subst a<;>decide +kernel
inductive tI(vs:List V)(H:Hp)(Q:VK)(E:XK):Prop
 |mk (v:Int) (h0_:vs=[.int v]) (h1_:∀H',aI H H'→Q (.int (fN v:Nat)) H'):tI vs H Q E
theorem jz(T:Top K mg t):Fn P w K mg base 2 "fault_of" ["word"] (tI):=by
 refine T.Fl.bC (N:=["word","code","operand"]) (fun nd f _ A outer s H _ Q E l h=>?_);obtain⟨v,rfl,k⟩:=h;refine⟨_,(af (aM (az iX (pv 0) au (aB _)) (ah (ak au)) aA)
  (af (aH 1 nd (bq (dF T) l (aa (pv 0) ai)))
  (af (aM (so (FQ (pv 1) (pk T.pO))) (ah (ak au)) aA)
  (af (aM (PW.pt (fq (az d6 (pv 1) (pk T.vv) (aB _)) (d9 (az n8 (bq (dR T) l (aa (pv 0) ai)) (pk T.fC) (aB _))))) (ah (ak au)) aA)
  (af (aH 2 nd (bq (dU T) l (aa (pv 1) ai)))
  (af (aM (PW.pt (fq (az se (pv 2) (fk (aa aZ (aa aZ ai))) (by with_unfolding_all rfl)) (d9 (az n8 (bq (gF T) l (aa (pv 0) ai)) (pk T.fC) (aB _))))) (ah (ak au)) aA)
  (af (aM (PW.pt (fq (az bN (pv 2) aZ (aB _)) (d9 (az mD (bq (gF T) l (aa (pv 0) ai)) (pk T.mh) (aB _))))) (ah (ak au)) aA)
  (ah (ak au))))))))),?_⟩
 refine⟨_,Z,_,_,Z,Z,_,Z,cS (fun e=>?_) (fun e=>?_)⟩
 ·rw[Nk e]at k;exact k H (aI.refl H)
 obtain⟨z,F,G⟩:=gH (v:=v) (by omega);have I:∀{A B:Prop},((orderOf v).code≠0→A)→((orderOf v).code=0→B)→if(!decide (V.int (v/100000000)=V.int 0))=true then A else B:=fun a b=>iO (fun h=>a (by omega)) (fun h=>b (by omega));refine⟨_,Z,_,Z,_,Z,_,_,Sum.inl (v/100000000),Z,T.qd,Z,_,Z,?_⟩;rw[z,Im];refine gC (fun c=>?_) (fun c=>?_)
 ·have c:known (orderOf v).code=false:=by simpa using c
  rw[Nm e c]at k;exact k H (aI.refl H)
 have c:known (orderOf v).code=true:=by simpa using c
 have g:¬((orderOf v).code≠0∧2000≤(orderOf v).n)→∀(D:Ends),D.rt=Q→(ED (IJ (Oh jW (jL (pH 1) u0)) (eR 2)) (ED (Mp (Mm (xZ (Jd (RO K false) (pH 2) (Qo (jL (tC (.str "word")) (jL (tC (.str "jump")) u0))))) (xZ (Jd (Jc fun i j=>.bl (decide (j≤i))) (Oh jb (jL (pH 0) u0)) (tC (.int 2000))))) (Cq (tC (.int 4))) Hc)
   (ED (Mp (Mm (xZ (Jd Q6 (pH 2) (tC (.str "shift")))) (xZ (Jd (Jc fun i j=>.bl (decide (j<i))) (Oh jb (jL (pH 0) u0)) (tC (.int 20))))) (Cq (tC (.int 5))) Hc) (Cq (tC (.int 0)))))) D [some (.int v),some (.int ((orderOf v).code:Int)),none] H:=by
  intro r D hD;subst hD;refine⟨_,Z,_,Z,c,_,Z,by show 2≤sizeLine;decide,fun p C=>⟨p,_,Z,.inr (h9.of ae),Z,Z,_,Z,?_⟩⟩;have m:aI H (upd H p (.tup [.str "word",.str "jump"])):=aK C;rw[show(if false=true then !PU (.str (yi (orderOf v).code)) [.str "word",.str "jump"]else PU (.str (yi (orderOf v).code)) [.str "word",.str "jump"])=addresses (orderOf v).code from Jj c];have y:¬(addresses (orderOf v).code=true∧2000≤(orderOf v).d)→ED (Mp (Mm (xZ (Jd Q6 (pH 2) (tC (.str "shift")))) (xZ (Jd (Jc fun i j=>.bl (decide (j<i))) (Oh jb (jL (pH 0) u0)) (tC (.int 20))))) (Cq (tC (.int 5))) Hc) (Cq (tC (.int 0))) D [some (.int v),some (.int ((orderOf v).code:Int)),some (.str (yi (orderOf v).code))] (upd H p (.tup [.str "word",.str "jump"])):=by
   intro hd;refine⟨_,Z,Z,_,Z,fE (fun u=>⟨_,Z,_,Z,_,_,Z,Z,_,Z,cS (fun o=>?_) (fun o=>?_)⟩) (fun u=>cB ?_)⟩
   ·have:=(Ao c).mp u;rw[QT e c (fun q=>q.elim r hd) ⟨this.1,this.2,by omega⟩]at k;exact k _ m
   ·rw[Pn e c (fun q=>q.elim r hd) (by rintro⟨_,_,q⟩;omega)]at k;exact k _ m
   ·rw[Pn e c (fun q=>q.elim r hd) (fun q=>u ((Ao c).mpr ⟨q.1,q.2.1⟩))]at k;exact k _ m
  refine gC (fun ha=>⟨_,Z,_,Z,_,_,Z,Z,_,Z,cS (fun hd=>?_) (fun hd=>y (by rintro⟨_,q⟩;omega))⟩) (fun ha=>cB (y (by rw[ha];rintro⟨q,_⟩;cases q)));rw[Pp e c (.inr ⟨ha,by omega⟩)]at k;exact k _ m
 refine⟨_,Z,Z,_,Z,iO (fun x=>⟨_,Z,_,Z,_,_,Z,Z,_,Z,cS (fun hn=>?_) (fun hn=>g (by rintro⟨_,q⟩;omega) _ Z)⟩) (fun x=>cB (g (by rintro⟨q,_⟩;exact q (by omega)) _ Z))⟩;rw[Pp e c (.inl ⟨fun q=>x (by rw[q];rfl),by omega⟩)]at k;exact k H (aI.refl H)
def nB(s:String):Bytes:=s.toList.map fun c=>UInt8.ofNat c.toNat
theorem Il(T:Top K mg t){i:Nat}{k:Key}{v:V}(h:(eG t)[i]?=some (k,v)):∃(c:Nat) (nm:String),names[i]?=some (c,nm)∧k=Sum.inl (c:Int)∧∃a x,v=.ref a∧dj K a [.str (sB (nB nm)),x]:=by
 have b:i<26:=(List.getElem?_eq_some_iff.mp h).1
 match i,b with
 |0,_=>cases h;exact⟨_,_,Z,Z,_,_,Z,T.x6⟩
 |1,_=>cases h;exact⟨_,_,Z,Z,_,_,Z,T.x8⟩
 |2,_=>cases h;exact⟨_,_,Z,Z,_,_,Z,T.tN⟩
 |3,_=>cases h;exact⟨_,_,Z,Z,_,_,Z,T.tO⟩
 |4,_=>cases h;exact⟨_,_,Z,Z,_,_,Z,T.tP⟩
 |5,_=>cases h;exact⟨_,_,Z,Z,_,_,Z,T.tQ⟩
 |6,_=>cases h;exact⟨_,_,Z,Z,_,_,Z,T.tR⟩
 |7,_=>cases h;exact⟨_,_,Z,Z,_,_,Z,T.tS⟩
 |8,_=>cases h;exact⟨_,_,Z,Z,_,_,Z,T.tT⟩
 |9,_=>cases h;exact⟨_,_,Z,Z,_,_,Z,T.tU⟩
 |10,_=>cases h;exact⟨_,_,Z,Z,_,_,Z,T.tV⟩
 |11,_=>cases h;exact⟨_,_,Z,Z,_,_,Z,T.tW⟩
 |12,_=>cases h;exact⟨_,_,Z,Z,_,_,Z,T.tX⟩
 |13,_=>cases h;exact⟨_,_,Z,Z,_,_,Z,T.tY⟩
 |14,_=>cases h;exact⟨_,_,Z,Z,_,_,Z,T.tZ⟩
 |15,_=>cases h;exact⟨_,_,Z,Z,_,_,Z,T.t4⟩
 |16,_=>cases h;exact⟨_,_,Z,Z,_,_,Z,T.t6⟩
 |17,_=>cases h;exact⟨_,_,Z,Z,_,_,Z,T.t7⟩
 |18,_=>cases h;exact⟨_,_,Z,Z,_,_,Z,T.t8⟩
 |19,_=>cases h;exact⟨_,_,Z,Z,_,_,Z,T.t9⟩
 |20,_=>cases h;exact⟨_,_,Z,Z,_,_,Z,T.t_⟩
 |21,_=>cases h;exact⟨_,_,Z,Z,_,_,Z,T.ua⟩
 |22,_=>cases h;exact⟨_,_,Z,Z,_,_,Z,T.ub⟩
 |23,_=>cases h;exact⟨_,_,Z,Z,_,_,Z,T.uc⟩
 |24,_=>cases h;exact⟨_,_,Z,Z,_,_,Z,T.ud⟩
 |25,_=>cases h;exact⟨_,_,Z,Z,_,_,Z,T.ue⟩
 |n+26,b=>omega
theorem BF{c:Type}{p:c→Bool}:∀{l:List c} {i:Nat} {x:c},l[i]?=some x→p x=true→(∀j y,j<i→l[j]?=some y→p y=false)→l.find? p=some x
 |[],i,x,h,_,_=>by simp at h
 |a::l,0,x,h,b,_=>by cases h;rw[find?_cons,b]
 |a::l,i+1,x,h,b,hn=>by rw[find?_cons,hn 0 a (Nat.zero_lt_succ _) Z];exact BF (l:=l) (i:=i) h b fun j y d e=>hn (j+1) y (Nat.succ_lt_succ d) e
theorem vC(b:Bytes):Drum.codeOf b=(names.find? fun x=>nB x.2==b).map fun x=>x.1:=rfl
def optN:Option Nat→V
 |some c=>.int (c:Int)
 |none=>.bV
inductive ja(vs:List V)(H:Hp)(Q:VK)(E:XK):Prop
 |mk (b:Bytes) (h0_:vs=[.str (sB b)]) (h1_:∀H',aI H H'→Q (optN (Drum.codeOf b)) H'):ja vs H Q E
theorem o7(T:Top K mg t):Fn P w K mg base 1 "code_of_letters" ["letters"] (ja):=by
 refine T.pX.bC (N:=["letters","code","row"]) (fun nd f _ A outer s H _ Q E _ h=>?_);obtain⟨b,rfl,k⟩:=h;refine⟨_,(af (bx PassesOwn.never Z (Io (pk T.pO)) (eu Z (aU (bI 1 nd) (aU (bI 2 nd) cP))) (ah (aM (az bN (bB kT (pv 2) au (fun _ _=>rfl)) (pv 0) (aB _)) (ah (ak (pv 1))) aA)))
  (ah (ak a_))),?_⟩
 refine⟨_,_,Z,T.qd,Fs (kvs:=eG t) (fun i B H'=>aI H H'∧(∃u z,B=[some (.str (sB b)),u,z])∧∀j y,j<i→names[j]?=some y→(nB y.2==b)=false) ⟨aI.refl H,⟨none,none,Z⟩,fun j y g=>absurd g (Nat.not_lt_zero _)⟩ ?_ ?_⟩
 ·rintro i B H1 J v T1 G F ⟨r,⟨u,z,rfl⟩,d⟩;obtain⟨c,nm,C,rfl,a,x,rfl,kt⟩:=Il T G;have l:aI H (upd H1 T1 (.tup [kV (Sum.inl (c:Int)),.ref a])):=r.trans (aK F);refine⟨T1,_,Z,h9.of ae,Z,_,_,Z,_,_,Z,Z,_,Z,a,_,_,_,Z,Z,kt.sq _,Z,_,Z,Z,_,Z,fE (fun o=>?_) (fun o=>?_)⟩
  ·have D:nB nm=b:=fu.mp o;refine⟨_,Z,?_⟩;have m:Drum.codeOf b=some c:=by rw[vC,BF C (by rw[D];exact beq_self_eq_true b) d];rfl
   rw[m]at k;exact k _ l
  ·refine⟨l,⟨_,_,Z⟩,fun j y g n=>?_⟩;by_cases p:j=i
   ·subst p;rw[C]at n;cases n;exact beq_eq_false_iff_ne.mpr fun q=>o (fu.mpr q)
   ·exact d j y (by omega) n
 ·rintro B H1 ⟨r,⟨u,z,rfl⟩,d⟩;have m:Drum.codeOf b=none:=by
   rw[vC,List.find?_eq_none.mpr]
   ·rfl
   ·intro x I;obtain⟨j,g,e⟩:=List.mem_iff_getElem.mp I;have:=d j x g (by rw[getElem?_eq_getElem g,e]);rw[this];decide
  rw[m]at k;exact k _ r
def Kp(l:List Addr)(H H':Hp):Prop:=∀b o,H b=some o→b∉l→H' b=some o
theorem Kp.refl(l:List Addr)(H:Hp):Kp l H H:=fun _ _ e _=>e
theorem Kp.trans(a:Kp l H H1)(b:Kp l H1 d):Kp l H d:=fun c o h n=>b c o (a c o h n) n
theorem Kp.of(a:aI H H'):Kp l H H':=fun c o h _=>a c o h
theorem Kp.same(a:Kp [] H H'):aI H H':=fun c o h=>a c o h (by simp)
theorem Kp.new(h:H p=none):Kp l H (upd H p o):=Kp.of (aK h)
theorem Kp.upd(h:x∈l):Kp l H (upd H x o):=fun b u e n=>by rw[aw (fun(q:b=x)=>n (by rw[q];exact h))];exact e
theorem Kp.mono(a:Kp l H H')(h:∀x∈l,x∈c):Kp c H H':=fun b o e n=>a b o e fun q=>n (h b q)
theorem Kp.drop(a:Kp (x::l) H H')(h:H x=none):Kp l H H':=fun b o e n=>a b o e fun q=>by
 rcases mem_cons.mp q with q|q
 ·rw[q,h]at e;cases e
 ·exact n q
def MT(b:Bool):Int:=if b=true then 1 else 0
noncomputable def qS(d:Addr)(M:Machine):List (Str×V):=[("drum",.ref d),("n",.int (M.next:Nat)),("a",.int M.a),("d",.int M.d),("over",.int (MT M.over)),("t",.int (M.tick:Nat)),("state",.int (M.state:Nat))]
structure lX(C:Addr)(H:Hp)(m d:Addr)(M:Machine):Prop where
 ins:∃dx,H m=some (.ins C dx (qS d M))
 drum:H d=some (.lst (M.drum.map V.int))
theorem lX.ne(h:lX C H m d M):m≠d:=by obtain⟨a,e⟩:=h.ins;exact dQ e h.drum (fun q=>nomatch q)
theorem lX.kp(h:lX C H m d M)(k:Kp l H H')(b:m∉l)(c:d∉l):lX C H' m d M:=by obtain⟨a,e⟩:=h.ins;exact⟨⟨a,k _ _ e b⟩,k _ _ h.drum c⟩
theorem lX.same(h:lX C H m d M)(k:aI H H'):lX C H' m d M:=by obtain⟨a,e⟩:=h.ins;exact⟨⟨a,k _ _ e⟩,k _ _ h.drum⟩
theorem eI(d:Addr)(M:Machine):(qS d M).lookup ("drum":Str)=some (.ref d):=rfl
theorem LK(d:Addr)(M:Machine):(qS d M).lookup ("n":Str)=some (.int (M.next:Nat)):=rfl
theorem jm(d:Addr)(M:Machine):(qS d M).lookup ("a":Str)=some (.int M.a):=rfl
theorem oW(d:Addr)(M:Machine):(qS d M).lookup ("d":Str)=some (.int M.d):=rfl
theorem GK(d:Addr)(M:Machine):(qS d M).lookup ("over":Str)=some (.int (MT M.over)):=rfl
theorem NI(d:Addr)(M:Machine):(qS d M).lookup ("t":Str)=some (.int (M.tick:Nat)):=rfl
theorem DE(d:Addr)(M:Machine):(qS d M).lookup ("state":Str)=some (.int (M.state:Nat)):=rfl
theorem L6(d:Addr)(M:Machine)(v:Nat):aP "n" (.int (v:Nat)) (qS d M)=qS d {M with next:=v}:=rfl
theorem y9(d:Addr)(M:Machine)(v:Int):aP "a" (.int v) (qS d M)=qS d {M with a:=v}:=rfl
theorem NY(d:Addr)(M:Machine)(v:Int):aP "d" (.int v) (qS d M)=qS d {M with d:=v}:=rfl
theorem xu(d:Addr)(M:Machine):aP "over" (.int 1) (qS d M)=qS d {M with over:=true}:=rfl
theorem Ki(d:Addr)(M:Machine):aP "over" (.int 0) (qS d M)=qS d {M with over:=false}:=rfl
theorem P3(d:Addr)(M:Machine)(v:Nat):aP "t" (.int (v:Nat)) (qS d M)=qS d {M with tick:=v}:=rfl
theorem Kj(d:Addr)(M:Machine)(v:Nat):aP "state" (.int (v:Nat)) (qS d M)=qS d {M with state:=v}:=rfl
theorem lX.jU{M M':Machine}(h:lX C H m d M)(e:M'.drum=M.drum):lX C (upd H m (.ins C a (qS d M'))) m d M':=
 ⟨⟨a,ae⟩,by rw[aw h.ne.symm,e];exact h.drum⟩
theorem lX.F2{ws:List Int}(h:lX C H m d M):lX C (upd H d (.lst (ws.map V.int))) m d {M with drum:=ws}:=by obtain⟨a,e⟩:=h.ins;exact⟨⟨a,by rw[aw h.ne];exact e⟩,ae⟩
def R7(fs:List (Str×V)):List (Str×V):=aP "state" (.int 0) (aP "t" (.int 0) (aP "over" (.int 0) (aP "d" (.int 0) (aP "a" (.int 0) fs))))
inductive jG(C:Addr)(vs:List V)(H:Hp)(Q:VK)(E:XK):Prop
 |mk (m dx:Addr) (fs:List (Str×V)) (h0_:vs=[.ref m]) (h1_:H m=some (.ins C dx fs)) (h2_:fs.length<900) (h3_:Q .bV (upd H m (.ins C dx (R7 fs)))):jG C vs H Q E
theorem jy(T:Top K mg t):I_ P w K mg base 1 t.aq "rewind" ["self"] (jG t.aq):=by
 refine T.rN.bC (N:=["self"]) (fun nd f _ A outer s H _ Q E _ h=>?_);obtain⟨m,a,fs,rfl,hm,b,k⟩:=h;have c:=di "a" (.int 0) fs;have d:=di "d" (.int 0) (aP "a" (.int 0) fs);have e:=di "over" (.int 0) (aP "d" (.int 0) (aP "a" (.int 0) fs));have g:=di "t" (.int 0) (aP "over" (.int 0) (aP "d" (.int 0) (aP "a" (.int 0) fs)));refine⟨_,(af (aV (pv 0) au Z)
  (af (aV (pv 0) au Z)
  (af (aV (pv 0) au Z)
  (af (aV (pv 0) au Z)
  (ah (aV (pv 0) au Z)))))),?_⟩
 refine⟨_,Z,m,_,a,_,Z,hm,T.ao.cl,T.aJ,by omega,?_⟩;refine⟨_,Z,m,_,a,_,Z,ae,T.ao.cl,T.a0,by omega,?_⟩;refine⟨_,Z,m,_,a,_,Z,ae,T.ao.cl,T.cv,by omega,?_⟩;refine⟨_,Z,m,_,a,_,Z,ae,T.ao.cl,T.fK,by omega,?_⟩;refine⟨_,Z,m,_,a,_,Z,ae,T.ao.cl,T.e_,by omega,?_⟩;rw[a9,a9,a9,a9];exact k
inductive kl(C:Addr)(vs:List V)(H:Hp)(Q:VK)(E:XK):Prop
 |mk (m dx:Addr) (s:Nat) (fs:List (Str×V)) (h0_:vs=[.ref m,.int (s:Nat)]) (h1_:H m=some (.ins C dx fs)) (h2_:(fs=[]∨∃d0 M0,fs=qS d0 M0)) (h3_:∀d H',H d=none→lX C H' m d (new s)→Kp [m] H H'→Q .bV H'):kl C vs H Q E
theorem rep0:(replicate (2000:Int).toNat [V.int 0]).flatten=(new 0).drum.map V.int:=by rw[List.flatten_replicate_singleton];show replicate 2000 (V.int 0)=(replicate 2000 (0:Int)).map V.int;rw[List.map_replicate]
theorem gE(T:Top K mg t):I_ P w K mg base 2 t.aq "renew" ["self","start"] (kl t.aq):=by
 refine T.uG.bC (N:=["self","start"]) (fun nd f _ A outer s H _ Q E p h=>?_);obtain⟨m,a,s,fs,rfl,hm,hf,k⟩:=h;have u:fs.length≤7:=by
  rcases hf with rfl|⟨j,i,rfl⟩
  ·exact Nat.zero_le _
  ·exact Nat.le_refl _
 have e:fs.lookup ("rewind":Str)=none:=by rcases hf with rfl|⟨j,i,rfl⟩<;>rfl
 refine⟨_,(af (aV (pv 0) (aN Ke (a3 (aa au ai)) (pk T.fC)) Z)
  (af (aV (pv 0) (pv 1) Z)
  (ah (bu (pA (pv 0) T.ao (jy T) p))))),?_⟩
 refine⟨by show 1≤sizeLine;decide,fun r n=>⟨r,_,_,Z,Z,ae,by decide,by decide,by decide,fun d b=>?_⟩⟩;have g:=aK (o:=.lst [V.int 0]) n;have l:=g.trans (aK (o:=.lst (replicate (2000:Int).toNat [V.int 0]).flatten) b);have c:m≠d:=aj (g _ _ hm) b;refine⟨_,Z,m,_,a,_,Z,l _ _ hm,T.ao.cl,T.a7,by omega,?_⟩;have v:=di "drum" (.ref d) fs;have x:=di "n" (.int (s:Nat)) (aP "drum" (.ref d) fs);refine⟨_,Z,_,Z,m,_,a,_,Z,ae,T.ao.cl,T.cN,by omega,?_⟩;refine⟨_,Z,m,a,_,Z,ae,?_,m,a,_,Z,ae,by omega,?_⟩
 ·rw[jw,if_neg (by decide +kernel),jw,if_neg (by decide +kernel)];exact e
 rw[a9,a9];refine k d _ (g.free b) ⟨⟨a,?_⟩,?_⟩ ((Kp.of l).trans (Kp.upd (by simp)))
 ·rw[ae];refine congrArg (fun q=>some (HO.ins t.aq a q)) ?_;rcases hf with rfl|⟨j,i,rfl⟩<;>rfl
 ·rw[aw c.symm,ae,rep0];rfl
inductive lG(C:Addr)(vs:List V)(H:Hp)(Q:VK)(E:XK):Prop
 |mk (m dx:Addr) (s:Nat) (h0_:vs=[.ref m,.int (s:Nat)]) (h1_:H m=some (.ins C dx [])) (h2_:∀d H',H d=none→lX C H' m d (new s)→Kp [m] H H'→Q .bV H'):lG C vs H Q E
theorem uJ(T:Top K mg t):KW P w K mg base 3 t.aq ["self","start"] (lG t.aq):=by refine T.HP.bC (N:=["self","start"]) (fun nd f _ A outer s H _ Q E b h=>?_);obtain⟨m,a,s,rfl,hm,k⟩:=h;refine⟨_,(ah (bu (KR (pv 0) T.ao (gE T) b (aa (pv 1) ai)))),?_⟩;exact⟨_,Z,m,a,_,Z,hm,Z,_,Z,m,a,s,_,Z,hm,.inl Z,k⟩
inductive lH(C:Addr)(vs:List V)(H:Hp)(Q:VK)(E:XK):Prop
 |mk (m d:Addr) (v:Int) (M:Machine) (h0_:vs=[.ref m,.int v]) (h1_:lX C H m d M) (h2_:∀H',lX C H' m d (Drum.sumTo M (fitted v))→Kp [m] H H'→Q .bV H'):lH C vs H Q E
theorem b6(T:Top K mg t):I_ P w K mg base 3 t.aq "keep" ["self","number"] (lH t.aq):=by
 refine T.wG.bC (N:=["self","number"]) (fun nd f _ A outer s H _ Q E g h=>?_);obtain⟨m,d,v,M,rfl,c,k⟩:=h;obtain⟨b,hm⟩:=c.ins;refine⟨_,(ah (aM (bJ (bq (FI T) (g.mono (by decide)) (aa (pv 1) ai))) (ah (aV (pv 0) (pv 1) Z)) (af (aV (pv 0) au Z)
  (ah (aV (pv 0) (bq (uT T) g (aa (pv 1) ai)) Z))))),?_⟩
 refine⟨_,Z,v,Z,_,Z,gC (fun h=>?_) (fun h=>?_)⟩
 ·refine⟨_,Z,_,Z,m,_,b,_,Z,hm,T.ao.cl,T.aJ,by show 7<1000;decide,?_⟩;rw[y9];refine k _ ?_ (Kp.upd (by simp));have e:Drum.sumTo M (fitted v)={M with a:=v}:=by unfold Drum.sumTo fitted;rw[if_pos h];simp
  rw[e];exact c.jU Z
 ·refine⟨_,Z,m,_,b,_,Z,hm,T.ao.cl,T.cv,by show 7<1000;decide,?_⟩;rw[xu];refine⟨_,Z,v,Z,_,Z,m,_,b,_,Z,ae,T.ao.cl,T.aJ,by show 7<1000;decide,?_⟩;rw[y9,a9];refine k _ ?_ (Kp.upd (by simp));have e:Drum.sumTo M (fitted v)={M with over:=true,a:=signed v (v.natAbs % (TEN*TEN))}:=by unfold Drum.sumTo fitted;rw[if_neg (by rw[h];decide)];simp
  rw[e];exact c.jU Z
noncomputable def Qw(a:Addr)(r:Nat)(pl:Addr):List (Str×V):=[("words",.ref a),("cards_read",.int (r:Nat)),("punched",.ref pl)]
structure Dk(C:Addr)(H:Hp)(k wl pl:Addr)(ws:List Int)(r:Nat)(out:List Int):Prop where
 ins:∃dx,H k=some (.ins C dx (Qw wl r pl))
 words:H wl=some (.lst (ws.map V.int))
 Jb:H pl=some (.lst (out.map V.int))
theorem Dk.kp(h:Dk C H k wl pl ws r out)(kp:Kp l H H')(b:k∉l)(c:wl∉l)(d:pl∉l):Dk C H' k wl pl ws r out:=by obtain⟨a,e⟩:=h.ins;exact⟨⟨a,kp _ _ e b⟩,kp _ _ h.words c,kp _ _ h.Jb d⟩
theorem Dk.same(h:Dk C H k wl pl ws r out)(s:aI H H'):Dk C H' k wl pl ws r out:=by obtain⟨a,e⟩:=h.ins;exact⟨⟨a,s _ _ e⟩,s _ _ h.words,s _ _ h.Jb⟩
inductive qJ(C:Addr)(vs:List V)(H:Hp)(Q:VK)(E:XK):Prop
 |mk (k dx wl:Addr) (ws:List Int) (h0_:vs=[.ref k,.ref wl]) (h1_:H k=some (.ins C dx [])) (h2_:H wl=some (.lst (ws.map V.int))) (h3_:∀pl H',H pl=none→Dk C H' k wl pl ws 0 []→Kp [k] H H'→Q .bV H'):qJ C vs H Q E
theorem BW(T:Top K mg t):KW P w K mg base 1 t.aW ["self","words"] (qJ t.aW):=by
 refine T.Nz.bC (N:=["self","words"]) (fun nd f _ A outer s H _ Q E _ h=>?_);obtain⟨m,e,wl,ws,rfl,hm,hw,k⟩:=h;refine⟨_,(af (aV (pv 0) (pv 1) Z)
  (af (aV (pv 0) au Z)
  (ah (aV (pv 0) (a3 ai) Z)))),?_⟩
 refine⟨_,Z,_,Z,m,_,e,_,Z,hm,T.gf.cl,T.kX,by show 0<1000;decide,?_⟩;refine⟨_,Z,m,_,e,_,Z,ae,T.gf.cl,T.cM,by show 1<1000;decide,?_⟩;rw[a9];refine⟨Nat.zero_le _,fun p a=>⟨_,Z,m,_,e,aP "cards_read" (.int 0) (aP "words" (.ref wl) []),Z,?_,T.gf.cl,T.iQ,by show 2<1000;decide,?_⟩⟩
 ·rw[aw (aj ae a)];exact ae
 ·have c:p≠m:=fun q=>by rw[q,ae]at a;cases a
  have b:H p=none:=by rw[aw c]at a;exact a
  have d:wl≠m:=dQ hw hm (fun q=>nomatch q);refine k p _ b ⟨⟨e,ae⟩,?_,?_⟩ (((Kp.upd (by simp)).trans (Kp.new a)).trans (Kp.upd (by simp)))
  ·rw[aw d,aw (aj hw b),aw d];exact hw
  ·rw[aw c,ae];rfl
inductive kj(C:Addr)(vs:List V)(H:Hp)(Q:VK)(E:XK):Prop
 |mk (k wl pl:Addr) (ws:List Int) (r:Nat) (out:List Int) (h0_:vs=[.ref k]) (h1_:Dk C H k wl pl ws r out) (h2_:r<100000) (h3_:Q (.bl (decide (r*8<ws.length))) H):kj C vs H Q E
theorem rR(T:Top K mg t):I_ P w K mg base 1 t.aW "has_card" ["self"] (kj t.aW):=by refine T.uF.bC (N:=["self"]) (fun nd f _ A outer s H _ Q E _ h=>?_);obtain⟨m,wl,pl,ws,r,out,rfl,hD,b,k⟩:=h;obtain⟨a,hm⟩:=hD.ins;refine⟨_,(ah (ak (d7 iX (aN dH (ay (pv 0) Z) (pk T.b0)) (aF aO Z T.cX boot_len (aa (ay (pv 0) Z) ai)) (aB _)))),?_⟩;refine⟨_,Z,m,_,a,_,_,Z,hm,T.gf.cl,T.cM,Z,_,_,Z,Z,⟨by omega,by decide⟩,_,Z,m,_,a,_,_,Z,hm,T.gf.cl,T.kX,Z,wl,_,Z,.inl (aT.of hD.words),_,_,Z,Z,?_⟩;exact E2 k (decide_eq_decide.mpr (by rw[length_map];omega))
theorem C5(ws:List V)(i j:Nat):kM ws (some (i:Int)) (some ((i:Int)+(j:Int)))=(ws.drop i).take j:=by
 unfold kM;rw[show(i:Int)+(j:Int)=((i+j:Nat):Int)by omega,HT.nD,HT.nD];by_cases h:i+j≤ws.length
 ·rw[Nat.min_eq_left (Nat.le_trans (Nat.le_add_right i j) h),Nat.min_eq_left h,show i+j-i=j by omega]
 ·by_cases a:i≤ws.length
  ·rw[Nat.min_eq_left a,Nat.min_eq_right (Nat.le_of_lt (Nat.lt_of_not_le h)),take_of_length_le (by rw[length_drop];omega),take_of_length_le (by rw[length_drop];omega)]
  ·rw[Nat.min_eq_right (Nat.le_of_lt (Nat.lt_of_not_le a)),Nat.min_eq_right (Nat.le_of_lt (Nat.lt_of_not_le h)),drop_eq_nil_of_le (Nat.le_refl _),drop_eq_nil_of_le (by omega)];simp
inductive jF(C:Addr)(vs:List V)(H:Hp)(Q:VK)(E:XK):Prop
 |mk (k wl pl:Addr) (ws:List Int) (r:Nat) (out:List Int) (h0_:vs=[.ref k]) (h1_:Dk C H k wl pl ws r out) (h2_:r<100000) (h3_:∀p H',H p=none→Dk C H' k wl pl ws (r+1) out→H' p=some (.lst (((ws.drop (8*r)).take 8).map V.int))→Kp [k] H H'→Q (.ref p) H'):jF C vs H Q E
theorem qt(T:Top K mg t):I_ P w K mg base 1 t.aW "take_card" ["self"] (jF t.aW):=by
 refine T.rM.bC (N:=["self","first"]) (fun nd f _ A outer s H _ Q E _ h=>?_);obtain⟨m,wl,pl,ws,r,out,rfl,hD,l,k⟩:=h;obtain⟨c,hm⟩:=hD.ins;refine⟨_,(af (aH 1 nd (aN dH (ay (pv 0) Z) (pk T.b0)))
  (af (sk (pv 0) au Fv)
  (ah (ak (eT jE (ay (pv 0) Z) (d8 (pv 1)) (d8 (aN cy (pv 1) (pk T.b0)))))))),?_⟩
 refine⟨_,Z,m,_,c,_,_,Z,hm,T.gf.cl,T.cM,Z,_,_,Z,Z,⟨by omega,by decide⟩,?_⟩;refine⟨_,Z,m,_,c,_,_,Z,hm,T.gf.cl,T.cM,Z,_,_,Z,Z,c,_,hm,by show 3<1000;decide,?_⟩;have i:wl≠m:=dQ hD.words hm (fun q=>nomatch q);have g:pl≠m:=dQ hD.Jb hm (fun q=>nomatch q);have j:aP "cards_read" (V.int ((r:Int)+1)) (Qw wl r pl)=Qw wl (r+1) pl:=rfl;rw[j];have b:upd H m (.ins t.aW c (Qw wl (r+1) pl)) wl=some (.lst (ws.map V.int)):=by rw[aw i];exact hD.words
 refine⟨_,Z,m,_,c,_,_,Z,ae,T.gf.cl,T.kX,Z,_,Z,_,Z,_,Z,_,_,Z,Z,_,Z,wl,_,Z,aT.of b,fun p d=>?_⟩;have a:p≠m:=fun q=>by rw[q,ae]at d;cases d
 have e:H p=none:=by rw[aw a]at d;exact d
 refine k p _ e ⟨⟨c,?_⟩,?_,?_⟩ ?_ ((Kp.upd (by simp)).trans (Kp.new d))
 ·rw[aw a.symm];exact ae
 ·rw[aw (aj b d)];exact b
 ·rw[aw (aj hD.Jb e),aw g];exact hD.Jb
 ·rw[ae,show(r:Int)*8=((8*r:Nat):Int)by omega,show((8*r:Nat):Int)+8=((8*r:Nat):Int)+((8:Nat):Int)from Z,C5,map_take,map_drop]
def bP(ws:List Int)(r:Nat):Card:=(aR ws r).headD []
structure CD(Cm Ck:Addr)(c:Nat)(H:Hp)(m d k wl pl:Addr)(x:Nat)(M:Machine)(ws:List Int)(r:Nat)(out:List Int):Prop where
 b7:lX Cm H m d M
 jl:Dk Ck H k wl pl ws r out
 wf:Wf M
 ad:addresses c=true→x<2000
 sh:40≤c∧c≤42→x≤20
 cd:c=70→r*8<ws.length
 dp:d≠pl
 wd:wl≠d
 wp:wl≠pl
 rl:r<100000
 w8:ws.length % 8=0
 ol:out.length+100<sizeLine
 wc:∀w∈bP ws r,isWord w=true
def vE(c r:Nat):Nat:=if c=70 then r+1 else r
def pV(c x:Nat)(M:Machine)(a:Card)(out:List Int):List Int:=out++(does M ⟨c,x,0⟩ a).out.flatten
inductive bG(Cm Ck:Addr)(c:Nat)(vs:List V)(H:Hp)(Q:VK)(E:XK):Prop
 |mk (m d k wl pl:Addr) (x:Nat) (M:Machine) (ws:List Int) (r:Nat) (out:List Int) (h0_:vs=[.ref m,.int (x:Nat),.ref k]) (h1_:CD Cm Ck c H m d k wl pl x M ws r out) (h2_:∀H',lX Cm H' m d (eN c x M (bP ws r))→Dk Ck H' k wl pl ws (vE c r) (pV c x M (bP ws r) out)→Kp [m,d,k,pl] H H'→Q (.int (j4 c x M (bP ws r):Nat)) H'):bG Cm Ck c vs H Q E
theorem CD.km(h:CD f b c H m d k wl pl x M ws r out):k≠m∧wl≠m∧pl≠m∧k≠d:=by
 obtain⟨g,e⟩:=h.b7.ins;obtain⟨i,a⟩:=h.jl.ins;refine⟨dQ a e (fun q=>?_),dQ h.jl.words e (fun q=>nomatch q),dQ h.jl.Jb e (fun q=>nomatch q),dQ a h.b7.drum (fun q=>nomatch q)⟩;injection q with _ _ q
 exact absurd (congrArg length q) (by show¬(3=7);decide)
theorem bc{a b:Addr}{c:Nat}{H H':Hp}{m d k e pl:Addr}{x:Nat}{M:Machine}{ws:List Int}{r:Nat}{out:List Int}{Q:VK}{z:Int}(D:CD a b c H m d k e pl x M ws r out)
 (K:∀H',lX a H' m d (eN c x M (bP ws r))→Dk b H' k e pl ws (vE c r) (pV c x M (bP ws r) out)→Kp [m,d,k,pl] H H'→Q (.int (j4 c x M (bP ws r):Nat)) H')
 (i:lX a H' m d (eN c x M (bP ws r)))(kp:Kp [m,d] H H')(f:vE c r=r)(g:pV c x M (bP ws r) out=out)(h:z=(j4 c x M (bP ws r):Nat)):Q (.int z) H':=by
 obtain⟨j,l,n,o⟩:=D.km;rw[h];refine K H' i ?_ (kp.mono (by simp));rw[f,g];exact D.jl.kp kp (by simp[j,o]) (by simp[l,D.wd]) (by simp[n,D.dp.symm])
def zc(b a:Addr):Sp:=fun c H Q E=>bG b a 1 c H Q E∨bG b a 18 c H Q E
theorem nY(T:Top K mg t):Fn P w K mg base 1 "do_nothing" ["machine","data","deck"] (zc t.aq t.aW):=by
 have nd:=oe.nd;refine T.Bp.ok oe (fun i H Q E h=>?_) (fun f _ A outer s H i Q E _ h=>?_)
 ·rcases h with⟨m,d,k,e,c,x,M,g,r,a,rfl,_⟩|⟨m,d,k,e,c,x,M,g,r,a,rfl,_⟩<;>rfl
 ·refine⟨_,(ah (ak au)),?_⟩;rcases h with⟨m,d,k,e,c,x,M,g,r,a,rfl,D,b⟩|⟨m,d,k,e,c,x,M,g,r,a,rfl,D,b⟩
  ·exact bc D b D.b7 (Kp.refl _ _) Z (append_nil _) Z
  ·exact bc D b D.b7 (Kp.refl _ _) Z (append_nil _) Z
theorem LV(T:Top K mg t):Fn P w K mg base 1 "load" ["machine","data","deck"] (bG t.aq t.aW 10):=by
 refine T.Np.bC (N:=["machine","data","deck"]) (fun nd f _ A outer s H _ Q E _ h=>?_);obtain⟨m,d,k,wl,pl,x,M,ws,r,out,rfl,D,b⟩:=h;obtain⟨a,hm⟩:=D.b7.ins;refine⟨_,(af (aV (pv 0) (ay (pv 0) Z) Z)
  (ah (ak au))),?_⟩
 refine⟨_,Z,m,_,a,_,_,Z,hm,T.ao.cl,T.a0,oW _ _,_,Z,m,_,a,_,Z,hm,T.ao.cl,T.aJ,by show 7<1000;decide,?_⟩;rw[y9];exact bc D b (D.b7.jU Z) (Kp.upd (by simp)) Z (append_nil _) Z
theorem uS(T:Top K mg t):Fn P w K mg base 1 "load_negated" ["machine","data","deck"] (bG t.aq t.aW 11):=by
 refine T.vO.bC (N:=["machine","data","deck"]) (fun nd f _ A outer s H _ Q E _ h=>?_);obtain⟨m,d,k,wl,pl,x,M,ws,r,out,rfl,D,b⟩:=h;obtain⟨a,hm⟩:=D.b7.ins;refine⟨_,(af (aV (pv 0) (kg gJ (ay (pv 0) Z)) Z)
  (ah (ak au))),?_⟩
 refine⟨_,Z,m,_,a,_,_,Z,hm,T.ao.cl,T.a0,oW _ _,_,Z,_,Z,m,_,a,_,Z,hm,T.ao.cl,T.aJ,by show 7<1000;decide,?_⟩;rw[y9];exact bc D b (D.b7.jU Z) (Kp.upd (by simp)) Z (append_nil _) Z
theorem DX(T:Top K mg t):Fn P w K mg base 4 "add_word" ["machine","data","deck"] (bG t.aq t.aW 12):=by
 refine T.Fk.bC (N:=["machine","data","deck"]) (fun nd f _ A outer s H _ Q E c h=>?_);obtain⟨m,d,k,wl,pl,x,M,ws,r,out,rfl,D,e⟩:=h;obtain⟨a,hm⟩:=D.b7.ins;refine⟨_,(af (bu (KR (pv 0) T.ao (b6 T) c (aa (aN cy (ay (pv 0) Z) (ay (pv 0) Z)) ai)))
  (ah (ak au))),?_⟩
 refine⟨_,Z,m,a,_,Z,hm,Z,_,Z,m,_,a,_,_,Z,hm,T.ao.cl,T.aJ,jm _ _,_,Z,m,_,a,_,_,Z,hm,T.ao.cl,T.a0,oW _ _,_,_,Z,Z,m,d,_,M,Z,D.b7,fun H' b kp=>?_⟩;exact bc D e b (kp.mono (by simp)) Z (append_nil _) Z
theorem sd(T:Top K mg t):Fn P w K mg base 4 "subtract_word" ["machine","data","deck"] (bG t.aq t.aW 13):=by
 refine T.uC.bC (N:=["machine","data","deck"]) (fun nd f _ A outer s H _ Q E c h=>?_);obtain⟨m,d,k,wl,pl,x,M,ws,r,out,rfl,D,e⟩:=h;obtain⟨a,hm⟩:=D.b7.ins;refine⟨_,(af (bu (KR (pv 0) T.ao (b6 T) c (aa (aN iY (ay (pv 0) Z) (ay (pv 0) Z)) ai)))
  (ah (ak au))),?_⟩
 refine⟨_,Z,m,a,_,Z,hm,Z,_,Z,m,_,a,_,_,Z,hm,T.ao.cl,T.aJ,jm _ _,_,Z,m,_,a,_,_,Z,hm,T.ao.cl,T.a0,oW _ _,_,_,Z,Z,m,d,_,M,Z,D.b7,fun H' b kp=>?_⟩;exact bc D e b (kp.mono (by simp)) Z (append_nil _) Z
theorem DW(T:Top K mg t):Fn P w K mg base 4 "add_size" ["machine","data","deck"] (bG t.aq t.aW 14):=by
 refine T.Fj.bC (N:=["machine","data","deck"]) (fun nd f _ A outer s H _ Q E c h=>?_);obtain⟨m,d,k,wl,pl,x,M,ws,r,out,rfl,D,e⟩:=h;obtain⟨a,hm⟩:=D.b7.ins;refine⟨_,(af (bu (KR (pv 0) T.ao (b6 T) c (aa (aN cy (ay (pv 0) Z) (aF dN Z T.lB boot_abs (aa (ay (pv 0) Z) ai))) ai)))
  (ah (ak au))),?_⟩
 refine⟨_,Z,m,a,_,Z,hm,Z,_,Z,m,_,a,_,_,Z,hm,T.ao.cl,T.aJ,jm _ _,_,Z,m,_,a,_,_,Z,hm,T.ao.cl,T.a0,oW _ _,_,Z,_,_,Z,Z,m,d,_,M,Z,D.b7,fun H' b kp=>?_⟩;rw[cZ]at b;exact bc D e b (kp.mono (by simp)) Z (append_nil _) Z
theorem rZ(T:Top K mg t):Fn P w K mg base 4 "subtract_size" ["machine","data","deck"] (bG t.aq t.aW 15):=by
 refine T.uB.bC (N:=["machine","data","deck"]) (fun nd f _ A outer s H _ Q E c h=>?_);obtain⟨m,d,k,wl,pl,x,M,ws,r,out,rfl,D,e⟩:=h;obtain⟨a,hm⟩:=D.b7.ins;refine⟨_,(af (bu (KR (pv 0) T.ao (b6 T) c (aa (aN iY (ay (pv 0) Z) (aF dN Z T.lB boot_abs (aa (ay (pv 0) Z) ai))) ai)))
  (ah (ak au))),?_⟩
 refine⟨_,Z,m,a,_,Z,hm,Z,_,Z,m,_,a,_,_,Z,hm,T.ao.cl,T.aJ,jm _ _,_,Z,m,_,a,_,_,Z,hm,T.ao.cl,T.a0,oW _ _,_,Z,_,_,Z,Z,m,d,_,M,Z,D.b7,fun H' b kp=>?_⟩;rw[cZ]at b;exact bc D e b (kp.mono (by simp)) Z (append_nil _) Z
theorem BX(T:Top K mg t):Fn P w K mg base 4 "add_upper" ["machine","data","deck"] (bG t.aq t.aW 16):=by
 refine T.De.bC (N:=["machine","data","deck"]) (fun nd f _ A outer s H _ Q E c h=>?_);obtain⟨m,d,k,wl,pl,x,M,ws,r,out,rfl,D,e⟩:=h;obtain⟨a,hm⟩:=D.b7.ins;have g:=bR.mp D.wf.d;refine⟨_,(af (bu (KR (pv 0) T.ao (b6 T) c (aa (aN cy (ay (pv 0) Z) (aN dH (ay (pv 0) Z) (pk T.fh))) ai)))
  (ah (ak au))),?_⟩
 refine⟨_,Z,m,a,_,Z,hm,Z,_,Z,m,_,a,_,_,Z,hm,T.ao.cl,T.aJ,jm _ _,_,Z,m,_,a,_,_,Z,hm,T.ao.cl,T.a0,oW _ _,_,_,Z,Z,⟨by omega,by decide⟩,_,_,Z,Z,m,d,_,M,Z,D.b7,fun H' b kp=>?_⟩;exact bc D e b (kp.mono (by simp)) Z (append_nil _) Z
theorem qx(T:Top K mg t):Fn P w K mg base 4 "subtract_upper" ["machine","data","deck"] (bG t.aq t.aW 17):=by
 refine T.rp.bC (N:=["machine","data","deck"]) (fun nd f _ A outer s H _ Q E c h=>?_);obtain⟨m,d,k,wl,pl,x,M,ws,r,out,rfl,D,e⟩:=h;obtain⟨a,hm⟩:=D.b7.ins;have g:=bR.mp D.wf.d;refine⟨_,(af (bu (KR (pv 0) T.ao (b6 T) c (aa (aN iY (ay (pv 0) Z) (aN dH (ay (pv 0) Z) (pk T.fh))) ai)))
  (ah (ak au))),?_⟩
 refine⟨_,Z,m,a,_,Z,hm,Z,_,Z,m,_,a,_,_,Z,hm,T.ao.cl,T.aJ,jm _ _,_,Z,m,_,a,_,_,Z,hm,T.ao.cl,T.a0,oW _ _,_,_,Z,Z,⟨by omega,by decide⟩,_,_,Z,Z,m,d,_,M,Z,D.b7,fun H' b kp=>?_⟩;exact bc D e b (kp.mono (by simp)) Z (append_nil _) Z
theorem Gy:∀f n:Nat,nH f n≤9*f
 |0,n=>Nat.le_refl _
 |f+1,n=>by have:=Gy f (n/10);show n % 10+nH f (n/10)≤_;omega
theorem sR{v:Int}(h:v.natAbs<10^20):digitSum v≤180:=by rw[sQ h (by omega)];exact Gy 20 _
theorem kD{v:Int}(h:isWord v=true):v.natAbs<10000000000:=by have:=bR.mp h;omega
theorem wD{v:Int}(h:isLong v=true):v.natAbs<100000000000000000000:=by have:=DM.dD.mp h;omega
theorem DZ(T:Top K mg t):Fn P w K mg base 3 "multiply" ["machine","data","deck"] (bG t.aq t.aW 20):=by
 refine T.Fo.bC (N:=["machine","data","deck"]) (fun nd f _ A outer s H _ Q E e h=>?_);obtain⟨m,d,k,wl,pl,x,M,ws,r,out,rfl,D,g⟩:=h;obtain⟨c,hm⟩:=D.b7.ins;have hd:=kD D.wf.d;have i:=kD (DM.oX M.a);have b:M.d.natAbs<10^20:=Nat.lt_of_lt_of_le hd (by decide);have j:=sR b;refine⟨_,(af (aV (pv 0) (aN dH (bq (nZ T) e (aa (ay (pv 0) Z) ai)) (ay (pv 0) Z)) Z)
  (ah (ak (aN cy au (aN dH au (bq (qv T) (e.mono (by decide)) (aa (ay (pv 0) Z) ai))))))),?_⟩
 refine⟨_,Z,m,_,c,_,_,Z,hm,T.ao.cl,T.aJ,jm _ _,_,Z,_,Z,m,_,c,_,_,Z,hm,T.ao.cl,T.a0,oW _ _,_,_,Z,Z,⟨by omega,by omega⟩,_,Z,m,_,c,_,Z,hm,T.ao.cl,T.aJ,by show 7<1000;decide,?_⟩;rw[y9];refine⟨_,Z,m,_,c,_,_,Z,ae,T.ao.cl,T.a0,Z,M.d,Z,b,_,_,Z,Z,⟨by decide,by rw[Int.natAbs_natCast];omega⟩,_,_,Z,Z,?_⟩;exact bc D g (D.b7.jU Z) (Kp.upd (by simp)) Z (append_nil _) (by show(4:Int)+2*(digitSum M.d:Int)=((4+2*digitSum M.d+0:Nat):Int);omega)
theorem K7{a d:Int}(h:d.natAbs*10000000000≤a.natAbs):by_ a d=(a,0,true):=by unfold by_;rw[if_pos (.inr h)]
theorem Nc{a d:Int}(h:¬d.natAbs*10000000000≤a.natAbs):by_ a d=(a.tdiv d,a.tmod d,false):=by
 unfold by_;rw[if_neg];rintro(q|q)
 ·rw[q]at h;simp at h
 ·exact h q
theorem Da(M:Machine)(x:Nat)(c:Card):does M ⟨21,x,0⟩ c=if(by_ M.a M.d).2.2=true then did {M with over:=true} 6 else did {M with a:=(by_ M.a M.d).1,d:=(by_ M.a M.d).2.1} (6+2*digitSum (by_ M.a M.d).1):=rfl
theorem Ij(T:Top K mg t):Fn P w K mg base 2 "divide" ["machine","data","deck"] (bG t.aq t.aW 21):=by
 refine T.JD.bC (N:=["machine","data","deck","quotient"]) (fun nd f _ A outer s H _ Q E j h=>?_);obtain⟨m,d,k,wl,pl,x,M,ws,r,out,rfl,D,l⟩:=h;obtain⟨b,hm⟩:=D.b7.ins;have hd:=kD D.wf.d;have ha:=wD D.wf.a;refine⟨_,(af (aM (az n8 (aF dN Z T.lB boot_abs (aa (ay (pv 0) Z) ai)) (aN dH (aF dN Z T.lB boot_abs (aa (ay (pv 0) Z) ai)) (pk T.fh)) (aB _)) (af (aV (pv 0) au Z)
  (ah (ak au))) aA)
  (af (aH 3 nd (bq (fO T) j (aa (ay (pv 0) Z) (aa (ay (pv 0) Z) ai))))
  (af (aV (pv 0) (aN iY (ay (pv 0) Z) (aN dH (pv 3) (ay (pv 0) Z))) Z)
  (af (aV (pv 0) (pv 3) Z)
  (ah (ak (aN cy au (aN dH au (bq (qv T) j (aa (pv 3) ai)))))))))),?_⟩
 refine⟨_,Z,m,_,b,_,_,Z,hm,T.ao.cl,T.aJ,jm _ _,_,Z,_,Z,m,_,b,_,_,Z,hm,T.ao.cl,T.a0,oW _ _,_,Z,_,_,Z,Z,⟨by rw[cZ];omega,by decide⟩,_,_,Z,Z,_,Z,?_⟩;rw[cZ,cZ];refine cS (fun h=>?_) (fun h=>?_)
 ·have i:=K7 (a:=M.a) (d:=M.d) (by omega);refine⟨_,Z,m,_,b,_,Z,hm,T.ao.cl,T.cv,by show 7<1000;decide,?_⟩;rw[xu];have e:does M ⟨21,x,0⟩ (bP ws r)=did {M with over:=true} 6:=by rw[Da,i];rfl
  refine bc D l ?_ (Kp.upd (by simp)) Z ?_ ?_
  ·unfold eN;rw[e];exact D.b7.jU Z
  ·unfold pV;rw[e];exact append_nil _
  ·unfold j4;rw[e];rfl
 ·have hn:¬M.d.natAbs*10000000000≤M.a.natAbs:=by omega
  have i:=Nc hn;have g:M.d≠0:=fun q=>by rw[q]at hn;simp at hn
  have o:=kD (DM.C8 (a:=M.a) (d:=M.d) (by rintro(q|q);exact g q;exact hn q));have c:(M.a.tdiv M.d).natAbs<10^20:=Nat.lt_of_lt_of_le o (by decide);have p:=sR c;refine⟨_,Z,m,_,b,_,_,Z,hm,T.ao.cl,T.aJ,jm _ _,_,Z,m,_,b,_,_,Z,hm,T.ao.cl,T.a0,oW _ _,_,_,Z,g,by omega,?_⟩;refine⟨_,Z,m,_,b,_,_,Z,hm,T.ao.cl,T.aJ,jm _ _,_,Z,_,Z,m,_,b,_,_,Z,hm,T.ao.cl,T.a0,oW _ _,_,_,Z,Z,⟨by omega,by omega⟩,_,_,Z,Z,_,Z,m,_,b,_,Z,hm,T.ao.cl,T.a0,by show 7<1000;decide,?_⟩;rw[NY];refine⟨_,Z,_,Z,m,_,b,_,Z,ae,T.ao.cl,T.aJ,by show 7<1000;decide,?_⟩;rw[y9,a9];refine⟨_,Z,_,Z,c,_,_,Z,Z,⟨by decide,by omega⟩,_,_,Z,Z,?_⟩;have n:M.a-M.a.tdiv M.d*M.d=M.a.tmod M.d:=by have:=Int.tmod_add_tdiv_mul M.a M.d;omega
  have e:does M ⟨21,x,0⟩ (bP ws r)=did {M with a:=M.a.tdiv M.d,d:=M.a.tmod M.d} (6+2*digitSum (M.a.tdiv M.d)):=by rw[Da,i];rfl
  rw[n];refine bc D l ?_ (Kp.upd (by simp)) Z ?_ ?_
  ·unfold eN;rw[e];exact D.b7.jU Z
  ·unfold pV;rw[e];exact append_nil _
  ·unfold j4;rw[e];show(6:Int)+2*(digitSum (M.a.tdiv M.d):Int)=((6+2*digitSum (M.a.tdiv M.d)+0:Nat):Int);omega
theorem wm(h:x<n):JV n ((x:Nat):Int)=some x:=by unfold JV;rw[if_pos (by omega),if_pos (by omega)];simp
theorem pW{M:Machine}(h:Wf M)(a:x<2000):JV (M.drum.map V.int).length ((x:Nat):Int)=some x:=wm (by rw[length_map,h.len];exact a)
theorem map_set(ws:List Int)(x:Nat)(v:Int):(ws.map V.int).set x (V.int v)=(ws.set x v).map V.int:=by rw[List.map_set]
theorem xh(T:Top K mg t):Fn P w K mg base 3 "store_lower" ["machine","data","deck"] (bG t.aq t.aW 30):=by
 refine T.yD.bC (N:=["machine","data","deck"]) (fun nd f _ A outer s H _ Q E b h=>?_);obtain⟨m,d,k,wl,pl,x,M,ws,r,out,rfl,D,c⟩:=h;obtain⟨a,hm⟩:=D.b7.ins;refine⟨_,(af (pB (bq (nZ T) b (aa (ay (pv 0) Z) ai)) (pw (ay (pv 0) Z) (pv 1) set_list))
  (ah (ak au))),?_⟩
 refine⟨_,Z,m,_,a,_,_,Z,hm,T.ao.cl,T.aJ,jm _ _,_,Z,_,Z,m,_,a,_,_,Z,hm,T.ao.cl,T.a7,eI _ _,_,Z,d,_,_,_,Z,Z,D.b7.drum,pW D.wf (D.ad Z),?_⟩;rw[map_set];exact bc D c D.b7.F2 (Kp.upd (by simp)) Z (append_nil _) Z
theorem xi(T:Top K mg t):Fn P w K mg base 3 "store_upper" ["machine","data","deck"] (bG t.aq t.aW 31):=by
 refine T.yE.bC (N:=["machine","data","deck"]) (fun nd f _ A outer s H _ Q E b h=>?_);obtain⟨m,d,k,wl,pl,x,M,ws,r,out,rfl,D,c⟩:=h;obtain⟨a,hm⟩:=D.b7.ins;refine⟨_,(af (pB (bq (y3 T) b (aa (ay (pv 0) Z) ai)) (pw (ay (pv 0) Z) (pv 1) set_list))
  (ah (ak au))),?_⟩
 refine⟨_,Z,m,_,a,_,_,Z,hm,T.ao.cl,T.aJ,jm _ _,_,Z,_,Z,m,_,a,_,_,Z,hm,T.ao.cl,T.a7,eI _ _,_,Z,d,_,_,_,Z,Z,D.b7.drum,pW D.wf (D.ad Z),?_⟩;rw[map_set];exact bc D c D.b7.F2 (Kp.upd (by simp)) Z (append_nil _) Z
theorem FK(T:Top K mg t):Fn P w K mg base 1 "store_d" ["machine","data","deck"] (bG t.aq t.aW 32):=by
 refine T.HG.bC (N:=["machine","data","deck"]) (fun nd f _ A outer s H _ Q E _ h=>?_);obtain⟨m,d,k,wl,pl,x,M,ws,r,out,rfl,D,b⟩:=h;obtain⟨a,hm⟩:=D.b7.ins;refine⟨_,(af (pB (ay (pv 0) Z) (pw (ay (pv 0) Z) (pv 1) set_list))
  (ah (ak au))),?_⟩
 refine⟨_,Z,m,_,a,_,_,Z,hm,T.ao.cl,T.a0,oW _ _,_,Z,m,_,a,_,_,Z,hm,T.ao.cl,T.a7,eI _ _,_,Z,d,_,_,_,Z,Z,D.b7.drum,pW D.wf (D.ad Z),?_⟩;rw[map_set];exact bc D b D.b7.F2 (Kp.upd (by simp)) Z (append_nil _) Z
theorem y2(T:Top K mg t):Fn P w K mg base 4 "shift_left" ["machine","data","deck"] (bG t.aq t.aW 40):=by
 refine T.BA.bC (N:=["machine","data","deck"]) (fun nd f _ A outer s H _ Q E e h=>?_);obtain⟨m,d,k,wl,pl,x,M,ws,r,out,rfl,D,i⟩:=h;obtain⟨b,hm⟩:=D.b7.ins;have ha:=wD D.wf.a;have g:=D.sh (by omega);have j:=qE g;refine⟨_,(af (bu (KR (pv 0) T.ao (b6 T) e (aa (aN dH (ay (pv 0) Z) (bq (hZ T) (e.mono (by decide)) (aa (pv 1) ai))) ai)))
  (ah (ak (aN cy au (pv 1))))),?_⟩
 refine⟨_,Z,m,b,_,Z,hm,Z,_,Z,m,_,b,_,_,Z,hm,T.ao.cl,T.aJ,jm _ _,_,Z,x,Z,g,_,_,Z,Z,⟨by omega,by rw[Int.natAbs_natCast];omega⟩,m,d,_,M,Z,D.b7,fun H' c kp=>⟨_,Z,_,_,Z,Z,?_⟩⟩;rw[Int.natCast_pow]at c;exact bc D i c (kp.mono (by simp)) Z (append_nil _) Z
theorem xg(T:Top K mg t):Fn P w K mg base 2 "shift_right" ["machine","data","deck"] (bG t.aq t.aW 41):=by
 refine T.yC.bC (N:=["machine","data","deck"]) (fun nd f _ A outer s H _ Q E c h=>?_);obtain⟨m,d,k,wl,pl,x,M,ws,r,out,rfl,D,j⟩:=h;obtain⟨b,hm⟩:=D.b7.ins;have g:=D.sh (by omega);have l:=qE g;have i:0<10^x:=Nat.pow_pos (by decide);refine⟨_,(af (aV (pv 0) (bq (fO T) c (aa (ay (pv 0) Z) (aa (bq (hZ T) c (aa (pv 1) ai)) ai))) Z)
  (ah (ak (aN cy au (pv 1))))),?_⟩
 refine⟨_,Z,m,_,b,_,_,Z,hm,T.ao.cl,T.aJ,jm _ _,_,Z,x,Z,g,_,_,Z,by omega,by rw[Int.natAbs_natCast];omega,_,Z,m,_,b,_,Z,hm,T.ao.cl,T.aJ,by show 7<1000;decide,?_⟩;rw[y9];refine⟨_,Z,_,_,Z,Z,?_⟩;refine bc D j ?_ (Kp.upd (by simp)) Z (append_nil _) Z;have e:eN 41 x M (bP ws r)={M with a:=Drum.right M.a x}:=rfl;rw[e,DM.Ku,show((10:Int)^x)=((10^x:Nat):Int)from(Int.natCast_pow 10 x).symm];exact D.b7.jU Z
theorem k8(T:Top K mg t):Fn P w K mg base 2 "shift_right_rounded" ["machine","data","deck"] (bG t.aq t.aW 42):=by
 refine T.l6.bC (N:=["machine","data","deck","power","size"]) (fun nd f _ A outer s H _ Q E c h=>?_);obtain⟨m,d,k,wl,pl,x,M,ws,r,out,rfl,D,l⟩:=h;obtain⟨b,hm⟩:=D.b7.ins;have g:=D.sh (by omega);have n:=qE g;have j:0<10^x:=Nat.pow_pos (by decide);refine⟨_,(af (aH 3 nd (bq (hZ T) c (aa (pv 1) ai)))
  (af (aH 4 nd (aN gp (aN cy (aF dN Z T.lB boot_abs (aa (ay (pv 0) Z) ai)) (aN gp (pv 3) au)) (pv 3)))
  (af (aV (pv 0) (bq (fe T) c (aa (ay (pv 0) Z) (aa (pv 4) ai))) Z)
  (ah (ak (aN cy au (pv 1))))))),?_⟩
 refine⟨_,Z,x,Z,g,?_⟩;refine⟨_,Z,m,_,b,_,_,Z,hm,T.ao.cl,T.aJ,jm _ _,_,Z,_,Z,_,_,Z,Z,⟨by decide,by decide⟩,_,_,Z,Z,_,Z,_,_,Z,Z,⟨by omega,by omega⟩,?_⟩;refine⟨_,Z,m,_,b,_,_,Z,hm,T.ao.cl,T.aJ,jm _ _,_,Z,_,_,Z,_,Z,m,_,b,_,Z,hm,T.ao.cl,T.aJ,by show 7<1000;decide,?_⟩;rw[y9];refine⟨_,Z,_,_,Z,Z,?_⟩;refine bc D l ?_ (Kp.upd (by simp)) Z (append_nil _) Z;have e:eN 42 x M (bP ws r)={M with a:=Drum.round M.a x}:=rfl;rw[e,DM.Ei,DM.IC,cZ];have i:((((M.a.natAbs+10^x/2)/10^x:Nat)):Int)=((M.a.natAbs:Int)+((10^x:Nat):Int)/2)/((10^x:Nat):Int):=by rw[Int.natCast_ediv,Int.natCast_add,Int.natCast_ediv];rfl
 rw[i];exact D.b7.jU Z
theorem rW(T:Top K mg t):Fn P w K mg base 1 "jump_if_below" ["machine","data","deck"] (bG t.aq t.aW 50):=by
 refine T.uy.bC (N:=["machine","data","deck"]) (fun nd f _ A outer s H _ Q E _ h=>?_);obtain⟨m,d,k,wl,pl,x,M,ws,r,out,rfl,D,c⟩:=h;obtain⟨b,hm⟩:=D.b7.ins;refine⟨_,(af (aM (az iX (ay (pv 0) Z) au (aB _)) (ah (aV (pv 0) (pv 1) Z)) aA)
  (ah (ak au))),?_⟩
 refine⟨_,Z,m,_,b,_,_,Z,hm,T.ao.cl,T.aJ,jm _ _,_,_,Z,Z,_,Z,cS (fun h=>?_) (fun h=>?_)⟩
 ·refine⟨_,Z,_,Z,m,_,b,_,Z,hm,T.ao.cl,T.cN,by show 7<1000;decide,?_⟩;rw[L6];have e:eN 50 x M (bP ws r)={M with next:=x}:=by show{M with next:=if decide (M.a<0)=true then x else M.next}=_;rw[if_pos (decide_eq_true h)]
  exact bc D c (by rw[e];exact D.b7.jU Z) (Kp.upd (by simp)) Z (append_nil _) Z
 ·have e:eN 50 x M (bP ws r)=M:=by show{M with next:=if decide (M.a<0)=true then x else M.next}=_;rw[if_neg (by rw[decide_eq_false h];decide)]
  exact bc D c (by rw[e];exact D.b7) (Kp.refl _ _) Z (append_nil _) Z
theorem nN(T:Top K mg t):Fn P w K mg base 1 "jump_if_not_zero" ["machine","data","deck"] (bG t.aq t.aW 51):=by
 refine T.oN.bC (N:=["machine","data","deck"]) (fun nd f _ A outer s H _ Q E _ h=>?_);obtain⟨m,d,k,wl,pl,x,M,ws,r,out,rfl,D,c⟩:=h;obtain⟨b,hm⟩:=D.b7.ins;refine⟨_,(af (aM (az d6 (ay (pv 0) Z) au (aB _)) (ah (aV (pv 0) (pv 1) Z)) aA)
  (ah (ak au))),?_⟩
 refine⟨_,Z,m,_,b,_,_,Z,hm,T.ao.cl,T.aJ,jm _ _,Z,_,Z,iO (fun h=>?_) (fun h=>?_)⟩
 ·refine⟨_,Z,_,Z,m,_,b,_,Z,hm,T.ao.cl,T.cN,by show 7<1000;decide,?_⟩;rw[L6];have e:eN 51 x M (bP ws r)={M with next:=x}:=by show{M with next:=if decide (M.a≠0)=true then x else M.next}=_;rw[if_pos (decide_eq_true h)]
  exact bc D c (by rw[e];exact D.b7.jU Z) (Kp.upd (by simp)) Z (append_nil _) Z
 ·have e:eN 51 x M (bP ws r)=M:=by show{M with next:=if decide (M.a≠0)=true then x else M.next}=_;rw[if_neg (by rw[decide_eq_false (fun q=>q h)];decide)]
  exact bc D c (by rw[e];exact D.b7) (Kp.refl _ _) Z (append_nil _) Z
theorem uR(T:Top K mg t):Fn P w K mg base 1 "jump_if_over" ["machine","data","deck"] (bG t.aq t.aW 52):=by
 refine T.vN.bC (N:=["machine","data","deck"]) (fun nd f _ A outer s H _ Q E _ h=>?_);obtain⟨m,d,k,wl,pl,x,M,ws,r,out,rfl,D,c⟩:=h;obtain⟨b,hm⟩:=D.b7.ins;refine⟨_,(af (aM (az bN (ay (pv 0) Z) au (aB _)) (af (aV (pv 0) au Z)
  (ah (aV (pv 0) (pv 1) Z))) aA)
  (ah (ak au))),?_⟩
 refine⟨_,Z,m,_,b,_,_,Z,hm,T.ao.cl,T.cv,GK _ _,Z,_,Z,gx (fun h=>?_) (fun h=>?_)⟩
 ·have a:M.over=true:=by
   cases q:M.over with
   |true=>rfl
   |false=>rw[q]at h;exact absurd h (by decide)
  refine⟨_,Z,m,_,b,_,Z,hm,T.ao.cl,T.cv,by show 7<1000;decide,?_⟩;rw[Ki];refine⟨_,Z,_,Z,m,_,b,_,Z,ae,T.ao.cl,T.cN,by show 7<1000;decide,?_⟩;rw[L6,a9];have e:eN 52 x M (bP ws r)={M with over:=false,next:=x}:=by show{M with over:=false,next:=if M.over=true then x else M.next}=_;rw[if_pos a]
  exact bc D c (by rw[e];exact D.b7.jU Z) (Kp.upd (by simp)) Z (append_nil _) Z
 ·have a:M.over=false:=by
   cases q:M.over with
   |false=>rfl
   |true=>rw[q]at h;exact absurd Z h
  have e:eN 52 x M (bP ws r)=M:=by show{M with over:=false,next:=if M.over=true then x else M.next}=_;rw[if_neg (by rw[a];decide),← a]
  exact bc D c (by rw[e];exact D.b7) (Kp.refl _ _) Z (append_nil _) Z
theorem count_eq{a:Int}{tt:Nat}(b:a≠0)(h:digits a.natAbs+tt=20):Drum.count a=(a*(10:Int)^tt,tt):=by unfold Drum.count;rw[if_neg b,show 20-digits a.natAbs=tt by omega]
theorem ph(T:Top K mg t):Fn P w K mg base 1 "shift_and_count" ["machine","data","deck"] (bG t.aq t.aW 43):=by
 refine T.p7.bC (N:=["machine","data","deck","times"]) (fun nd f _ A outer s H _ Q E _ h=>?_);obtain⟨m,d,k,wl,pl,x,M,ws,r,out,rfl,D,kk⟩:=h;obtain⟨U,hm⟩:=D.b7.ins;refine⟨_,(af (aH 3 nd au)
  (af (aM (az d6 (ay (pv 0) Z) au (aB _)) (af (aH 3 nd au)
  (ah (mK PassesOwn.never (az iX (aN dH (aF dN Z T.lB boot_abs (aa (ay (pv 0) Z) ai)) au) (pk T.kL) (aB _)) (af (aV (pv 0) (aN dH (ay (pv 0) Z) au) Z)
  (ah (xA (i:=3) nd Z (Or.inl Z) au oT)))))) aA)
  (af (aV (pv 0) (pv 3) Z)
  (ah (ak (aN cy au (pv 3))))))),?_⟩
 have I:eN 43 x M (bP ws r)={M with a:=(Drum.count M.a).1,d:=((Drum.count M.a).2:Int)}:=rfl;have L:j4 43 x M (bP ws r)=2+(Drum.count M.a).2:=rfl;have g:∀(H1:Hp) (tt:Nat),lX t.aq H1 m d {M with a:=(Drum.count M.a).1}→Kp [m,d] H H1→tt=(Drum.count M.a).2→
   ED (P8 K (pH 0) (pH 3) "d") (Cq (Jd (Jc fun i j=>.int (i+j)) (tC (.int 2)) (pH 3))) {nx:=fun _ H'=>Q .bV H',rt:=Q} [some (.ref m),some (.int (x:Nat)),some (.ref k),some (.int (tt:Nat))] H1:=by
  intro H1 tt n kp O;obtain⟨o,c⟩:=n.ins;refine⟨_,Z,_,Z,m,_,o,_,Z,c,T.ao.cl,T.a0,by show 7<1000;decide,?_⟩;rw[NY];refine⟨_,Z,_,_,Z,Z,?_⟩;refine bc D kk ?_ (kp.trans (Kp.upd (by simp))) Z (append_nil _) ?_
  ·rw[I,← O];exact n.jU Z
  ·rw[L,← O];rfl
 refine⟨_,Z,m,_,U,_,_,Z,hm,T.ao.cl,T.aJ,jm _ _,Z,_,Z,iO (fun h=>?_) (fun h=>?_)⟩
 ·have v:0<M.a.natAbs:=by omega
  have a2:=DM.Fg v;refine ye (fun u H'=>∃tt:Nat,u=[some (.ref m),some (.int (x:Nat)),some (.ref k),some (.int (tt:Nat))]∧lX t.aq H' m d {M with a:=M.a*(10:Int)^tt}∧Kp [m,d] H H'∧digits M.a.natAbs+tt≤20)
   (fun u _=>match u with|[_,_,_,some (.int tt)]=>20-tt.toNat|_=>0) ⟨0,Z,by simpa using D.b7,Kp.refl _ _,?_⟩ ?_ ?_
  ·have:=(DM.digits_le 20 M.a.natAbs).mp (Nat.lt_of_lt_of_le (wD D.wf.a) (by decide));omega
  ·rintro u H' ⟨tt,rfl,n,kp,hle⟩;obtain⟨o,c⟩:=n.ins;have l:(M.a*(10:Int)^tt).natAbs=M.a.natAbs*10^tt:=by rw[Int.natAbs_mul,Int.natAbs_pow];rfl
   have R:M.a.natAbs*10^tt<100000000000000000000:=by have h1:=(DM.digits_le 20 (M.a.natAbs*10^tt)).mpr (by rw[DM.oI v];exact hle);exact Nat.lt_of_lt_of_le h1 (by decide)
   refine⟨_,Z,m,_,o,_,_,Z,c,T.ao.cl,T.aJ,jm _ _,_,Z,_,_,Z,Z,⟨by rw[cZ,Int.natAbs_natCast,l];omega,by decide⟩,_,_,Z,Z,_,Z,cS (fun bL=>?_) (fun bL=>?_)⟩<;>rw[cZ,l]at bL
   ·have hf:=(Ac v tt).mp (by omega);refine⟨_,Z,m,_,o,_,_,Z,c,T.ao.cl,T.aJ,jm _ _,_,_,Z,Z,⟨by rw[l];omega,by decide⟩,_,Z,m,_,o,_,Z,c,T.ao.cl,T.aJ,by show 7<1000;decide,?_⟩;rw[y9];refine⟨_,Z,_,_,Z,Z,⟨tt+1,Z,?_,kp.trans (Kp.upd (by simp)),by omega⟩,?_⟩
    ·have e:M.a*(10:Int)^(tt+1)=M.a*(10:Int)^tt*10:=by rw[Int.pow_succ,Int.mul_assoc]
     rw[e];exact n.jU Z
    ·show 20-((tt:Int)+1).toNat<20-(tt:Int).toNat;omega
   ·have hf:¬(digits M.a.natAbs+tt<20):=fun q=>bL (by have:=(Ac v tt).mpr q;omega);have p:=count_eq (a:=M.a) (tt:=tt) (by omega) (by omega);exact g H' tt (by rw[p];exact n) kp (by rw[p])
  ·rintro u H Q Q' hq ⟨y,V,a1,S,z,J,v1,W,X,Y,e5,e6,i1,e7,i2,j2,e8,e9,B,i3,j3,C,F,b,G,q⟩;exact⟨y,V,a1,S,z,J,v1,W,X,Y,e5,e6,i1,e7,i2,j2,e8,e9,B,i3,j3,C,F,b,G,hq _ _ q⟩
 ·have p:Drum.count M.a=(M.a,20):=by rw[h];decide
  exact g H 20 (by rw[p];exact D.b7) (Kp.refl _ _) (by rw[p])
theorem FY{p:Nat→Bool}(b:i<n)(d:p i=true)(a:∀j,j<i→p j=false):(range n).find? p=some i:=by refine BF (i:=i) (by rw[getElem?_range b]) d fun j y c e=>?_;rw[getElem?_range (by omega)]at e;cases e;exact a j c
theorem FJ(T:Top K mg t):Fn P w K mg base 2 "look_up" ["machine","data","deck"] (bG t.aq t.aW 60):=by
 refine T.HF.bC (N:=["machine","data","deck","before","word"]) (fun nd f _ A outer s H _ Q E R h=>?_);obtain⟨m,d,k,wl,pl,x,M,ws,r,out,rfl,D,L⟩:=h;obtain⟨z,hm⟩:=D.b7.ins;have b:∀c,does M ⟨60,x,0⟩ c=match lookUp M x M.d with|some k=>did {M with a:=(k:Int)} 1|none=>did {M with over:=true} 1:=fun _=>rfl
 refine⟨_,(af (bx PassesOwn.never Z (gX Z T.bW (aa (bq (B0 T) R (aa (ay (pv 0) Z) (aa (pv 1) ai))) ai)) (eu Z (aU (bI 3 nd) (aU (bI 4 nd) cP))) (ah (aM (az n8 (pv 4) (ay (pv 0) Z) (aB _)) (af (aV (pv 0) (pv 3) Z)
  (ah (ak (aN cy (pv 3) au)))) aA)))
  (af (aV (pv 0) au Z)
  (ah (ak (pk T.bw))))),?_⟩
 refine⟨_,Z,m,_,z,_,_,Z,hm,T.ao.cl,T.a7,eI _ _,_,Z,d,x,M.drum,Z,D.ad Z,D.wf.len,D.b7.drum,fun q H1 _ y O=>?_⟩;refine⟨q,_,Z,aT.of y,fZ (K:=K) (a:=q) (xs:=(range 40).map fun k=>V.int (M.drum.getD (around x k) 0)) (fun i B H'=>(∃G I,B=[some (.ref m),some (.int (x:Nat)),some (.ref k),G,I])∧aI H1 H'∧∀j,j<i→M.drum.getD (around x j) 0<M.d)
  ⟨⟨none,none,Z⟩,aI.refl _,fun j p=>absurd p (Nat.not_lt_zero _)⟩ (fun i B H' _ ⟨_,s2,_⟩=>aT.of (s2 _ _ y)) ?_ ?_⟩
 ·rintro i B H' v T1 C J ⟨⟨G,I,rfl⟩,s2,e⟩;have g:i<40:=by have:=(List.getElem?_eq_some_iff.mp C).1;simpa using this
  rw[getElem?_map,getElem?_range g]at C;cases C;have l:aI H (upd H' T1 (.tup [.int ((i:Nat):Int),.int (M.drum.getD (around x i) 0)])):=(O.trans s2).trans (aK J);refine⟨T1,_,Z,h9.of ae,Z,_,_,Z,_,_,Z,Z,_,Z,_,Z,m,_,z,_,_,Z,l _ _ hm,T.ao.cl,T.a0,oW _ _,_,_,Z,Z,_,Z,cS (fun u=>?_) (fun u=>?_)⟩
  ·have o:lookUp M x M.d=some i:=by unfold lookUp;refine FY (n:=40) g (decide_eq_true u) fun j p=>decide_eq_false ?_;have:=e j p;show¬M.d≤M.drum.getD (around x j) 0;omega
   refine⟨_,Z,_,Z,m,_,z,_,Z,l _ _ hm,T.ao.cl,T.aJ,by show 7<1000;decide,?_⟩;rw[y9];refine⟨_,Z,_,_,Z,Z,?_⟩;refine bc D L ?_ ((Kp.of l).trans (Kp.upd (by simp))) Z ?_ ?_
   ·unfold eN;rw[b,o];exact(D.b7.same l).jU Z
   ·unfold pV;rw[b,o];exact append_nil _
   ·unfold j4;rw[b,o];show(i:Int)+1=((1+i:Nat):Int);omega
  ·refine⟨⟨_,_,Z⟩,s2.trans (aK J),fun j p=>?_⟩;by_cases F:j=i
   ·subst F;omega
   ·exact e j (by omega)
 ·rintro B H' ⟨⟨G,I,rfl⟩,s2,e⟩;have l:=O.trans s2;have o:lookUp M x M.d=none:=by unfold lookUp;rw[List.find?_eq_none];intro j p;have:=e j (by simpa[PLACES]using p);rw[decide_eq_false (show¬M.d≤M.at_ (around x j)by unfold Machine.at_;omega)];decide
  refine⟨_,Z,m,_,z,_,Z,l _ _ hm,T.ao.cl,T.cv,by show 7<1000;decide,?_⟩;rw[xu];refine bc D L ?_ ((Kp.of l).trans (Kp.upd (by simp))) Z ?_ ?_
  ·unfold eN;rw[b,o];exact(D.b7.same l).jU Z
  ·unfold pV;rw[b,o];exact append_nil _
  ·unfold j4;rw[b,o];rfl
noncomputable def putN(M:Machine)(x:Nat)(c:List Int)(i:Nat):Machine:=(range i).foldl (fun(X:Machine) (k:Nat)=>X.put (around x k) (c.getD k 0)) M
theorem Iw(M:Machine)(x:Nat)(c:List Int)(i:Nat):putN M x c (i+1)=(putN M x c i).put (around x i) (c.getD i 0):=by unfold putN;rw[range_succ,List.foldl_append];rfl
theorem Jx{ws:List Int}(h:r*8<ws.length):bP ws r=(ws.drop (8*r)).take 8:=DM.pQ h
theorem Iv(M:Machine)(x:Nat)(c:List Int)(i:Nat):(putN M x c i).next=M.next:=by unfold putN;rw[DM.eF]
theorem B2(T:Top K mg t):Fn P w K mg base 3 "read_card" ["machine","data","deck"] (bG t.aq t.aW 70):=by
 refine T.Dm.bC (N:=["machine","data","deck","address","word"]) (fun nd f _ A outer s H _ Q E hr h=>?_);obtain⟨m,d,k,wl,pl,x,M,ws,r,out,rfl,D,kk⟩:=h;obtain⟨dx,hm⟩:=D.b7.ins;obtain⟨n1,n2,n3,n4⟩:=D.km;have W:=D.cd Z;have hx:=D.ad Z;have ec:=Jx W;have c:((ws.drop (8*r)).take 8).length=8:=by rw[length_take,length_drop];have:=D.w8;omega
 refine⟨_,(af (bx PassesOwn.never Z (FV Z T.Jm (aa (bq (bU T) hr (aa (pv 1) (aa (pk T.b0) ai))) (aa (pA (pv 2) T.gf (qt T) (hr.mono (by decide))) ai))) (eu Z (aU (bI 3 nd) (aU (bI 4 nd) cP))) (ah (pB (pv 4) (pw (ay (pv 0) Z) (pv 3) set_list))))
  (ah (ak au))),?_⟩
 refine⟨_,Z,x,8,Z,by decide,fun B R=>?_⟩;have C:=aK (o:=.lst (cC x 8)) R;obtain⟨dy,p⟩:=D.jl.ins;refine⟨_,Z,k,dy,_,Z,C _ _ p,Z,k,wl,pl,ws,r,out,Z,D.jl.same C,D.rl,fun J O h2 S y g=>?_⟩;have q:O B=some (.lst (cC x 8)):=g _ _ ae (by simp;exact(aj p R).symm);have a1:Kp [m,d,k,pl] H O:=(Kp.of C).trans (g.mono (by simp));have U:lX t.aq O m d M:=(D.b7.same C).kp g (by simp;exact n1.symm) (by simp;exact n4.symm);have u:B≠d:=(aj D.b7.drum R).symm;have z:J≠d:=(aj (C _ _ D.b7.drum) h2).symm;have lv:(cC x 8).length=8:=by unfold cC;simp
 refine⟨B,J,_,_,Z,aT.of q,aT.of y,BG (K:=K) (a:=B) (b:=J) (xs:=cC x 8) (ys:=((ws.drop (8*r)).take 8).map V.int) (by rw[length_map,c,lv]) (fun i L H'=>(∃v3 v4,L=[some (.ref m),some (.int (x:Nat)),some (.ref k),v3,v4])∧lX t.aq H' m d (putN M x (bP ws r) i)∧
  Dk t.aW H' k wl pl ws (r+1) out∧H' B=some (.lst (cC x 8))∧H' J=some (.lst (((ws.drop (8*r)).take 8).map V.int))∧Kp [m,d,k,pl] H H')
  ⟨⟨none,none,Z⟩,U,S,q,y,a1⟩ (fun i L H' _ ⟨_,_,_,F,G,_⟩=>⟨aT.of F,aT.of G⟩) ?_ ?_⟩
 ·rintro i L H' v w0 T1 I n hT ⟨⟨v3,v4,rfl⟩,hM,hD,F,G,kp⟩;have e:i<8:=by have:=(List.getElem?_eq_some_iff.mp I).1;rw[lv]at this;exact this
  have ev:v=.int (around x i:Nat):=by unfold cC at I;rw[getElem?_map,getElem?_range e]at I;exact(Option.some.inj I).symm
  have ew:w0=.int ((bP ws r).getD i 0):=by rw[getElem?_map,getElem?_eq_getElem (show i<((ws.drop (8*r)).take 8).length by rw[c];exact e)]at n;rw[ec,getD_eq_getElem?_getD,getElem?_eq_getElem (show i<((ws.drop (8*r)).take 8).length by rw[c];exact e)];exact(Option.some.inj n).symm
  subst ev ew;have j:=aK (o:=.tup [.int (around x i:Nat),.int ((bP ws r).getD i 0)]) hT;obtain⟨dz,X⟩:=hM.ins;have Y:Wf (putN M x (bP ws r) i):=Wf.Cb (fun w hw=>D.wc w hw) _ D.wf;refine⟨T1,_,Z,h9.of ae,Z,_,_,Z,_,_,Z,Z,_,Z,_,Z,m,_,dz,_,_,Z,j _ _ X,T.ao.cl,T.a7,eI _ _,_,Z,d,_,_,_,Z,Z,j _ _ hM.drum,pW Y (fA i hx),?_⟩;rw[map_set];have a2:d≠T1:=aj hM.drum hT;refine⟨⟨_,_,Z⟩,?_,?_,?_,?_,(kp.trans (Kp.of j)).trans (Kp.upd (by simp))⟩
  ·rw[Iw];exact(hM.same j).F2
  ·refine(hD.same j).kp (l:=[d]) (Kp.upd (by simp)) (by simp;exact n4) (by simp;exact D.wd) (by simp;exact D.dp.symm)
  ·rw[aw u];exact j _ _ F
  ·rw[aw z];exact j _ _ G
 ·rintro L H' ⟨⟨v3,v4,rfl⟩,hM,hD,F,G,kp⟩;rw[lv]at hM;have e1:eN 70 x M (bP ws r)=putN M x (bP ws r) 8:=by show{putN M x (bP ws r) 8 with next:=M.next}=_;rw[← Iv M x (bP ws r) 8]
  refine Qs (kk H' (by rw[e1];exact hM) ?_ kp) Z;have e2:pV 70 x M (bP ws r) out=out:=append_nil _;rw[e2];exact hD
theorem yZ(T:Top K mg t):Fn P w K mg base 3 "punch_card" ["machine","data","deck"] (bG t.aq t.aW 71):=by
 refine T.By.bC (N:=["machine","data","deck","address"]) (fun nd f _ A outer s H _ Q E U h=>?_);obtain⟨m,d,k,wl,pl,x,M,ws,r,out,rfl,D,kk⟩:=h;obtain⟨R,hm⟩:=D.b7.ins;obtain⟨X,Y,L,n4⟩:=D.km;have W:=D.ad Z;obtain⟨G,b⟩:=D.jl.ins;refine⟨_,(af (bx PassesOwn.never Z (bK (bq (bU T) U (aa (pv 1) (aa (pk T.b0) ai)))) (bI 3 nd) (ah (bu (mG PySem.F.plainAttrs_list PySem.F.slot_list_append PySem.F.type_list_append fJ (ay (pv 2) Z) (aa (bB a4 (ay (pv 0) Z) (pv 3) (fun _ _=>rfl)) ai)))))
  (ah (ak au))),?_⟩
 refine⟨_,Z,x,8,Z,by decide,fun l I=>?_⟩;have O:=aK (o:=.lst (cC x 8)) I;have J:(cC x 8).length=8:=by unfold cC;simp
 have e:l≠pl:=(aj D.jl.Jb I).symm;refine⟨l,Z,⟨_,aT.of ae⟩,cu (K:=K) (a:=l) (xs:=cC x 8) (fun i n H'=>(∃C,n=[some (.ref m),some (.int (x:Nat)),some (.ref k),C])∧H' pl=some (.lst ((out++(range i).map fun k=>M.at_ (around x k)).map V.int))∧Kp [pl] H H'∧H' l=some (.lst (cC x 8)))
  ⟨⟨none,Z⟩,by rw[range_zero,map_nil,append_nil];exact O _ _ D.jl.Jb,Kp.of O,ae⟩ (fun i n H' _ ⟨_,_,_,g⟩=>aT.of g) ?_ ?_⟩
 ·rintro i v n H' j ⟨⟨C,rfl⟩,c,kp,g⟩;have y:i<8:=by have:=(List.getElem?_eq_some_iff.mp j).1;rw[J]at this;exact this
  have S:v=.int (around x i:Nat):=by unfold cC at j;rw[getElem?_map,getElem?_range y]at j;exact(Option.some.inj j).symm
  subst S;have B:=kp _ _ hm (by simp;exact L.symm);have u:=kp _ _ D.b7.drum (by simp;exact D.dp);have z:=kp _ _ b (by simp;exact dQ b D.jl.Jb (fun q=>nomatch q));have p:(M.drum.map V.int)[around x i]?=some (.int (M.at_ (around x i))):=by rw[getElem?_map,AQ D.wf (fA i W)];rfl
  refine⟨_,Z,k,_,G,_,_,Z,z,T.gf.cl,T.iQ,Z,.inl ⟨Z,_,aT.of c⟩,_,Z,m,_,R,_,_,Z,B,T.ao.cl,T.a7,eI _ _,_,Z,d,_,_,_,Z,Z,aT.of u,a5 p,pl,_,_,Z,Z,c,?_,?_⟩
  ·have:=D.ol;simp only[length_map,length_append,length_range];omega
  ·refine⟨⟨_,Z⟩,?_,kp.trans (Kp.upd (by simp)),by rw[aw e];exact g⟩;rw[ae,range_succ,map_append,map_append,map_append,map_append,append_assoc];rfl
 ·rintro n H' ⟨⟨C,rfl⟩,c,kp,g⟩;rw[J]at c;refine Qs (kk H' ?_ ⟨⟨G,kp _ _ b (by simp;exact dQ b D.jl.Jb (fun q=>nomatch q))⟩,kp _ _ D.jl.words (by simp;exact D.wp),?_⟩ (kp.mono (by simp))) Z
  ·exact D.b7.kp kp (by simp;exact L.symm) (by simp;exact D.dp)
  ·rw[c];show some (HO.lst ((out++_).map V.int))=some (HO.lst ((out++[(range 8).map fun k=>M.at_ (around x k)].flatten).map V.int));simp
theorem Jy(T:Top K mg t)(h:known c=true)(e:c≠0):∃a,bH (wy t) (Sum.inl (c:Int))=some (.ref a)∧Mz P w K mg base 4 a (bG t.aq t.aW c):=by
 rcases bX h with h|h|h|h|h|h|h|h|h|h|h|h|h|h|h|h|h|h|h|h|h|h|h|h|h|h<;>subst h
 ·exact absurd Z e
 ·obtain⟨b,ps,F,kp,d⟩:=(nY (P:=P) (w:=w) (base:=base) T).val (k:=4) T.eD (by decide);exact⟨_,Z,b,ps,F.imp fun _ _ _ _ q=>.inl q,kp,d⟩
 ·exact⟨_,Z,(LV T).val T.AI (by decide)⟩
 ·exact⟨_,Z,(uS T).val T.fV (by decide)⟩
 ·exact⟨_,Z,(DX T).val T.kG (by decide)⟩
 ·exact⟨_,Z,(sd T).val T.eZ (by decide)⟩
 ·exact⟨_,Z,(DW T).val T.kF (by decide)⟩
 ·exact⟨_,Z,(rZ T).val T.eY (by decide)⟩
 ·exact⟨_,Z,(BX T).val T.jn (by decide)⟩
 ·exact⟨_,Z,(qx T).val T.eE (by decide)⟩
 ·obtain⟨b,ps,F,kp,d⟩:=(nY (P:=P) (w:=w) (base:=base) T).val (k:=4) T.eD (by decide);exact⟨_,Z,b,ps,F.imp fun _ _ _ _ q=>.inr q,kp,d⟩
 ·exact⟨_,Z,(DZ T).val T.kH (by decide)⟩
 ·exact⟨_,Z,(Ij T).val T.pK (by decide)⟩
 ·exact⟨_,Z,(xh T).val T.gQ (by decide)⟩
 ·exact⟨_,Z,(xi T).val T.gR (by decide)⟩
 ·exact⟨_,Z,(FK T).val T.m_ (by decide)⟩
 ·exact⟨_,Z,(y2 T).val T.iq (by decide)⟩
 ·exact⟨_,Z,(xg T).val T.gP (by decide)⟩
 ·exact⟨_,Z,(k8 T).val T.cA (by decide)⟩
 ·exact⟨_,Z,(ph T).val T.d4 (by decide)⟩
 ·exact⟨_,Z,(rW T).val T.eW (by decide)⟩
 ·exact⟨_,Z,(nN T).val T.dq (by decide)⟩
 ·exact⟨_,Z,(uR T).val T.fU (by decide)⟩
 ·exact⟨_,Z,(FJ T).val T.m9 (by decide)⟩
 ·exact⟨_,Z,(B2 T).val T.jo (by decide)⟩
 ·exact⟨_,Z,(yZ T).val T.ip (by decide)⟩
inductive mZ(vs:List V)(H:Hp)(Q:VK)(E:XK):Prop
 |mk (a u:Nat) (h0_:vs=[.int (a:Nat),.int (u:Nat)]) (h1_:Q (.int (((a:Int)-(u:Int)) % 40)) H):mZ vs H Q E
theorem mC(T:Top K mg t):Fn P w K mg base 1 "ticks_until" ["address","tick"] (mZ):=by refine T.yF.bC (N:=["address","tick"]) (fun nd f _ A outer s H _ Q E _ h=>?_);obtain⟨a,u,rfl,k⟩:=h;refine⟨_,(ah (ak (aN gG (aN iY (pv 0) (pv 1)) (pk T.bw)))),?_⟩;exact⟨_,Z,_,Z,_,_,Z,Z,_,_,Z,Z,(by decide:(0:Int)<40),k⟩
structure qV(Cm Ck:Addr)(H:Hp)(m d k wl pl:Addr)(M:Machine)(ws:List Int)(r:Nat)(out:List Int):Prop where
 b7:lX Cm H m d M
 jl:Dk Ck H k wl pl ws r out
 wf:Wf M
 dp:d≠pl
 wd:wl≠d
 wp:wl≠pl
 rl:r*8≤ws.length
 EV:ws.length≤512
 w8:ws.length % 8=0
 ww:∀w∈ws,isWord w=true
 tk:M.tick<WRAP
theorem qV.wc(h:qV b a H m d k wl pl M ws r out):∀w∈bP ws r,isWord w=true:=DM.CV h.ww r
theorem qV.km(h:qV c b H m d k wl pl M ws r out):k≠m∧wl≠m∧pl≠m∧k≠d:=by
 obtain⟨f,e⟩:=h.b7.ins;obtain⟨g,a⟩:=h.jl.ins;refine⟨dQ a e (fun q=>?_),dQ h.jl.words e (fun q=>nomatch q),dQ h.jl.Jb e (fun q=>nomatch q),dQ a h.b7.drum (fun q=>nomatch q)⟩;injection q with _ _ q
 exact absurd (congrArg length q) (by show¬(3=7);decide)
def Fu(ws:List Int)(r:Nat):Bool:=decide (r*8<ws.length)
theorem Lp{ws:List Int}(h:r*8≤ws.length):(!(aR ws r).isEmpty)=Fu ws r:=by rw[DM.nS (by omega),Bool.not_not];rfl
inductive jJ(Ck:Addr)(vs:List V)(H:Hp)(Q:VK)(E:XK):Prop
 |mk (v:Int) (k wl pl:Addr) (ws:List Int) (r:Nat) (out:List Int) (h0_:vs=[.int v,.ref k]) (h1_:Dk Ck H k wl pl ws r out) (h2_:r<100000) (h3_:∀H',aI H H'→Q (.int (kx v (Fu ws r):Nat)) H'):jJ Ck vs H Q E
theorem EC(h:fN v≠0):kx v b=fN v:=by
 unfold kx;rw[vZ];unfold fN at h ⊢;cases e:faultOf v true with
 |some f=>rfl
 |none=>rw[e]at h;exact absurd Z h
theorem F5(h:fN v=0):faultOf v true=none∧kx v b=if(orderOf v).code=70∧b=false then 6 else if(orderOf v).code=0 then 1 else 0:=by
 have e:faultOf v true=none:=by
  cases e:faultOf v true with
  |none=>rfl
  |some f=>unfold fN at h;rw[e]at h;exact absurd h (rA e)
 refine⟨e,?_⟩;unfold kx;rw[vZ,e];by_cases a:(orderOf v).code=70∧b=false
 ·simp only[if_pos a]
 ·simp only[if_neg a]
theorem qw(T:Top K mg t):Fn P w K mg base 3 "stopping_state" ["word","deck"] (jJ t.aW):=by
 refine T.rn.bC (N:=["word","deck","fault"]) (fun nd f _ A outer s H _ Q E e h=>?_);obtain⟨v,k,wl,pl,ws,r,out,rfl,hD,j,a⟩:=h;refine⟨_,(af (aH 2 nd (bq (jz T) e (aa (pv 0) ai)))
  (af (aM (az d6 (pv 2) au (aB _)) (ah (ak (pv 2))) aA)
  (af (aM (az bN (bq (dF T) (e.mono (by decide)) (aa (pv 0) ai)) (pk T.vv) (aB _)) (ah (ak au)) aA)
  (af (aM (PW.pt (fq (az bN (bq (dF T) (e.mono (by decide)) (aa (pv 0) ai)) (pk T.Jp) (aB _)) (d9 (dJ (bJ (pA (pv 1) T.gf (rR T) (e.mono (by decide)))))))) (ah (ak au)) aA)
  (ah (ak au)))))),?_⟩
 refine⟨_,Z,v,Z,fun H1 c=>?_⟩;refine⟨_,Z,Z,_,Z,iO (fun h=>?_) (fun h=>?_)⟩
 ·refine⟨_,Z,?_⟩;rw[EC (by omega)]at a;exact a H1 c
 ·obtain⟨o,es⟩:=F5 (v:=v) (b:=Fu ws r) (by omega);rw[es]at a;obtain⟨m,g1,g2,g3,z,B⟩:=dC o;obtain⟨u,x,y⟩:=gH m;refine⟨_,Z,v,Z,Z,_,Z,gx (fun n=>?_) (fun n=>?_)⟩
  ·rw[if_neg (by omega),if_pos (by omega)]at a;exact a H1 c
  ·refine⟨_,Z,v,Z,Z,_,Z,gx (fun i=>?_) (fun i=>cB ?_)⟩
   ·obtain⟨l,p⟩:=hD.ins;refine⟨_,Z,k,l,_,Z,c _ _ p,Z,k,wl,pl,ws,r,out,Z,hD.same c,j,_,Z,?_⟩;by_cases d:r*8<ws.length
    ·rw[decide_eq_true d];refine cB ?_;have g:Fu ws r=true:=decide_eq_true d;rw[g,if_neg (by rintro⟨_,q⟩;cases q),if_neg (by omega)]at a;exact a H1 c
    ·rw[decide_eq_false d];refine cJ ?_;have g:Fu ws r=false:=decide_eq_false d;rw[if_pos ⟨by omega,g⟩]at a;exact a H1 c
   ·rw[if_neg (by omega),if_neg (by omega)]at a;exact a H1 c
theorem gY{H:Hp}(h:∀a:L2.St→Hp→Prop,a=b D→t1 {D with nx:=a} c H):ED t1 b D c H:=h _ Z
def stM(M:Machine)(v:Int):Machine:={loaded M (orderOf v)with next:=(orderOf v).n}
def x9(v:Int)(tk:Nat):Nat:=if waits (orderOf v).code=true then comes tk (place (orderOf v).d)+1 else tk
def Nf(M:Machine)(v:Int)(tk:Nat)(c:Card):Machine:={eN (orderOf v).code (orderOf v).d (stM M v) c with tick:=(x9 v tk+j4 (orderOf v).code (orderOf v).d (stM M v) c) % WRAP}
theorem Lz{c x:Nat}{a:Card}(h:(does M ⟨c,x,0⟩ a).jump=true):addresses c=true:=by
 by_cases b:c=50∨c=51∨c=52
 ·rcases b with b|b|b<;>subst b<;>rfl
 ·exfalso;have:(does M ⟨c,x,0⟩ a).jump=false:=by unfold does;simp only;split<;>first|rfl|(split<;>rfl)|(exfalso;omega)
  rw[this]at h;cases h
inductive qM(Cm Ck:Addr)(vs:List V)(H:Hp)(Q:VK)(E:XK):Prop
 |mk (m d k wl pl:Addr) (v:Int) (tk:Nat) (M:Machine) (ws:List Int) (r:Nat) (out:List Int) (h0_:vs=[.ref m,.int v,.int (tk:Nat),.ref k]) (h1_:qV Cm Ck H m d k wl pl M ws r out) (h2_:out.length+100<sizeLine) (h3_:faultOf v (Fu ws r)=none) (h4_:(orderOf v).code≠0) (h5_:∀H',qV Cm Ck H' m d k wl pl (Nf M v tk (bP ws r)) ws (vE (orderOf v).code r) (pV (orderOf v).code (orderOf v).d (stM M v) (bP ws r) out)→Kp [m,d,k,pl] H H'→Q .bV H'):qM Cm Ck vs H Q E
theorem B1(T:Top K mg t):Fn P w K mg base 5 "carry_out" ["machine","word","tick","deck"] (qM t.aq t.aW):=by
 refine T.Dh.bC (N:=["machine","word","tick","deck","code","data","deed","behind"]) (fun nd f _ A outer s H _ Q E n h=>?_);obtain⟨m,d,k,wl,pl,v,tk,M,ws,r,out,rfl,R,a1,hf,x,kk⟩:=h;obtain⟨g0,o,g2,g3,g4,g5⟩:=dC hf;obtain⟨e1,e2,e3⟩:=gH g0;obtain⟨n1,n2,n3,n4⟩:=R.km;refine⟨_,(af (aH 4 nd (bq (dF T) (n.mono (by decide)) (aa (pv 1) ai)))
  (af (aH 5 nd (bq (gF T) (n.mono (by decide)) (aa (pv 1) ai)))
  (af (aM (bJ (bq (qy T) (n.mono (by decide)) (aa (pv 4) ai))) (ah (xA (i:=2) nd Z (Or.inl Z) (aN cy (bq (mC T) (n.mono (by decide)) (aa (pv 5) (aa (pv 2) ai))) au) oT)) aA)
  (af (aM (bJ (bq (xc T) (n.mono (by decide)) (aa (pv 4) ai))) (ah (aV (pv 0) (bB a4 (ay (pv 0) Z) (pv 5) (fun _ _=>rfl)) Z)) aA)
  (af (aV (pv 0) (bq (dR T) (n.mono (by decide)) (aa (pv 1) ai)) Z)
  (af (aH 6 nd (qD (pk T.K9) (pv 4) (fun _ _=>rfl)))
  (af (aH 7 nd (qC (pv 6) n (aa (pv 0) (aa (pv 5) (aa (pv 3) ai)))))
  (ah (aV (pv 0) (aN gG (aN cy (pv 2) (pv 7)) (pk T.vw)) Z))))))))),?_⟩
 refine⟨_,Z,v,Z,?_⟩;rw[e1];refine⟨_,Z,v,Z,?_⟩;rw[e2];dsimp only[eR];refine gY fun K1 hK=>?_;have g:∀e:Nat,e=x9 v tk→K1 [some (.ref m),some (.int v),some (.int (e:Nat)),some (.ref k),some (.int ((orderOf v).code:Nat)),some (.int ((orderOf v).d:Nat)),none,none] H:=by
  intro e G;rw[hK];refine gY fun K2 L=>?_;have b:∀H1,lX t.aq H1 m d (loaded M (orderOf v))→Kp [m] H H1→K2 [some (.ref m),some (.int v),some (.int (e:Nat)),some (.ref k),some (.int ((orderOf v).code:Nat)),some (.int ((orderOf v).d:Nat)),none,none] H1:=by
   intro H1 p b1;rw[L];obtain⟨j,X⟩:=p.ins;refine⟨_,Z,v,Z,_,Z,m,_,j,_,Z,X,T.ao.cl,T.cN,by show 7<1000;decide,?_⟩;rw[e3,L6];obtain⟨a,ha,W⟩:=Jy (P:=P) (w:=w) (base:=base) T o x;refine⟨_,Z,_,_,_,_,Z,T.LC,Z,ha,?_⟩;have O:lX t.aq (upd H1 m (.ins t.aq j (qS d (stM M v)))) m d (stM M v):=p.jU Z;have B:Kp [m] H (upd H1 m (.ins t.aq j (qS d (stM M v)))):=b1.trans (Kp.upd (by simp));have I:=R.jl.kp B (by simp;exact n1) (by simp;exact n2) (by simp;exact n3);have a2:Wf (loaded M (orderOf v)):=by
    unfold loaded;split
    ·exact R.wf.Ky (R.wf.at_ _)
    ·exact R.wf
   have z:Wf (stM M v):=a2.Eo (g2 x);have y:(orderOf v).code=70→r*8<ws.length:=fun q=>of_decide_eq_true (g5 q);have D0:CD t.aq t.aW (orderOf v).code (upd H1 m (.ins t.aq j (qS d (stM M v)))) m d k wl pl (orderOf v).d (stM M v) ws r out:=
    ⟨O,I,z,g3,g4,y,R.dp,R.wd,R.wp,by have:=R.rl;have:=R.EV;omega,R.w8,a1,R.wc⟩
   refine⟨_,Z,a,_,Z,W,_,Z,_,Z,_,Z,m,d,k,wl,pl,(orderOf v).d,stM M v,ws,r,out,Z,D0,fun H3 u J b2=>?_⟩;obtain⟨dz,Y⟩:=u.ins;refine⟨_,Z,_,Z,_,_,Z,Z,_,_,Z,Z,(by decide:(0:Int)<18446744073709551616),_,Z,m,_,dz,_,Z,Y,T.ao.cl,T.fK,by show 7<1000;decide,?_⟩;have F:((e:Int)+(j4 (orderOf v).code (orderOf v).d (stM M v) (bP ws r):Int)) % 18446744073709551616=(((x9 v tk+j4 (orderOf v).code (orderOf v).d (stM M v) (bP ws r)) % WRAP:Nat):Int):=by rw[G];unfold WRAP;omega
   dsimp only;rw[F,P3];have b3:Kp [m,d,k,pl] H (upd H3 m (.ins t.aq dz (qS d (Nf M v tk (bP ws r))))):=((B.mono (by simp)).trans b2).trans (Kp.upd (by simp));refine kk _ ⟨u.jU Z,?_,?_,R.dp,R.wd,R.wp,?_,R.EV,R.w8,R.ww,Nat.mod_lt _ (by decide)⟩ b3
   ·exact J.kp (l:=[m]) (Kp.upd (by simp)) (by simp;exact n1) (by simp;exact n2) (by simp;exact n3)
   ·exact(DM.Ld z R.wc (fun q=>g3 (Lz q))).Kz
   ·unfold vE;split
    ·rename_i q;have:=y q;have:=R.w8;omega
    ·exact R.rl
  refine⟨_,Z,_,Z,_,Z,gC (fun C=>?_) (fun C=>?_)⟩
  ·obtain⟨j,hm⟩:=R.b7.ins;have U:(orderOf v).d<2000:=g3 (by have:loads (orderOf v).code=true:=C;revert this o;generalize (orderOf v).code=c;intro o this;rcases bX o with h|h|h|h|h|h|h|h|h|h|h|h|h|h|h|h|h|h|h|h|h|h|h|h|h|h<;>subst h<;>first|rfl|cases this)
   have S:(M.drum.map V.int)[(orderOf v).d]?=some (.int (M.at_ (orderOf v).d)):=by rw[getElem?_map,AQ R.wf U];rfl
   refine⟨_,Z,m,_,j,_,_,Z,hm,T.ao.cl,T.a7,eI _ _,_,Z,d,_,_,_,Z,Z,aT.of R.b7.drum,a5 S,_,Z,m,_,j,_,Z,hm,T.ao.cl,T.a0,by show 7<1000;decide,?_⟩;rw[NY];refine b _ ?_ (Kp.upd (by simp));have D:loaded M (orderOf v)={M with d:=M.at_ (orderOf v).d}:=by unfold loaded;rw[if_pos C]
   rw[D];exact R.b7.jU Z
  ·refine b H ?_ (Kp.refl _ _);have D:loaded M (orderOf v)=M:=by unfold loaded;rw[if_neg (by rw[show loads (orderOf v).code=false from C];decide)]
   rw[D];exact R.b7
 refine⟨_,Z,_,Z,o,_,Z,gC (fun hw=>?_) (fun hw=>?_)⟩
 ·refine⟨_,Z,_,Z,_,Z,_,_,Z,_,_,Z,Z,_,_,Z,Z,?_⟩;have F:(tk:Int)+((((orderOf v).d:Int)-(tk:Int)) % 40+1)=((x9 v tk:Nat):Int):=by unfold x9;rw[if_pos (show waits (orderOf v).code=true from hw)];have:=zR (orderOf v).d tk;omega
  have:=g (x9 v tk) Z;rw[← F]at this;exact this
 ·refine g tk ?_;unfold x9;rw[if_neg (by rw[show waits (orderOf v).code=false from hw];decide)]
def Ml(M:Machine)(ws:List Int)(r:Nat):Nat:=if(M.step (aR ws r)).2.1=true then r+1 else r
inductive kn(Cm Ck:Addr)(vs:List V)(H:Hp)(Q:VK)(E:XK):Prop
 |mk (m d k wl pl:Addr) (M:Machine) (ws:List Int) (r:Nat) (out:List Int) (h0_:vs=[.ref m,.ref k]) (h1_:qV Cm Ck H m d k wl pl M ws r out) (h2_:out.length+100<sizeLine) (h3_:∀H',qV Cm Ck H' m d k wl pl (M.step (aR ws r)).1 ws (Ml M ws r) (out++(M.step (aR ws r)).2.2.flatten)→Kp [m,d,k,pl] H H'→Q .bV H'):kn Cm Ck vs H Q E
theorem rV(T:Top K mg t):Fn P w K mg base 6 "do_next_order" ["machine","deck"] (kn t.aq t.aW):=by
 refine T.uv.bC (N:=["machine","deck","word","tick","state"]) (fun nd f _ A outer s H _ Q E v h=>?_);obtain⟨m,d,k,wl,pl,M,ws,r,out,rfl,R,u,C⟩:=h;obtain⟨I,J,L,O⟩:=R.km;obtain⟨b,hm⟩:=R.b7.ins;have p:(M.drum.map V.int)[M.next]?=some (.int (M.at_ M.next)):=by rw[getElem?_map,AQ R.wf R.wf.nx];rfl
 refine⟨_,(af (aH 2 nd (bB a4 (ay (pv 0) Z) (ay (pv 0) Z) (fun _ _=>rfl)))
  (af (aH 3 nd (aN cy (aN cy (ay (pv 0) Z) (bq (mC T) (v.mono (by decide)) (aa (ay (pv 0) Z) (aa (ay (pv 0) Z) ai)))) au))
  (af (aH 4 nd (bq (qw T) (v.mono (by decide)) (aa (pv 2) (aa (pv 1) ai))))
  (ah (aM (az bN (pv 4) au (aB _)) (ah (bu (bq (B1 T) v (aa (pv 0) (aa (pv 2) (aa (pv 3) (aa (pv 1) ai))))))) (af (aV (pv 0) (pv 4) Z)
  (ah (aV (pv 0) (aN gG (pv 3) (pk T.vw)) Z)))))))),?_⟩
 refine⟨_,Z,m,_,b,_,_,Z,hm,T.ao.cl,T.a7,eI _ _,_,Z,m,_,b,_,_,Z,hm,T.ao.cl,T.cN,LK _ _,d,_,_,_,Z,Z,aT.of R.b7.drum,a5 p,?_⟩;refine⟨_,Z,m,_,b,_,_,Z,hm,T.ao.cl,T.fK,NI _ _,_,Z,m,_,b,_,_,Z,hm,T.ao.cl,T.cN,LK _ _,_,Z,m,_,b,_,_,Z,hm,T.ao.cl,T.fK,NI _ _,M.next,M.tick,Z,_,_,Z,Z,_,_,Z,Z,?_⟩;have F:(M.tick:Int)+((M.next:Int)-(M.tick:Int)) % 40+3=((comes M.tick (place M.next)+3:Nat):Int):=by have:=zR M.next M.tick;omega
 dsimp only[eR];rw[F];have x:r<100000:=by have:=R.rl;have:=R.EV;omega
 refine⟨_,Z,_,Z,M.at_ M.next,k,wl,pl,ws,r,out,Z,R.jl,x,fun H1 g=>?_⟩;have j:qV t.aq t.aW H1 m d k wl pl M ws r out:=⟨R.b7.same g,R.jl.same g,R.wf,R.dp,R.wd,R.wp,R.rl,R.EV,R.w8,R.ww,R.tk⟩;have q:=Lp R.rl;refine⟨_,Z,Z,_,Z,gx (fun G=>?_) (fun G=>?_)⟩
 ·have c:kx (M.at_ M.next) (Fu ws r)=0:=by omega
  obtain⟨z,B⟩:=xX c;have e:M.step (aR ws r)=(Nf M (M.at_ M.next) (comes M.tick (place M.next)+3) (bP ws r),(orderOf (M.at_ M.next)).code==70,(does (stM M (M.at_ M.next)) ⟨(orderOf (M.at_ M.next)).code,(orderOf (M.at_ M.next)).d,0⟩ (bP ws r)).out):=by rw[EB M _ (by rw[q];exact z) B];rfl
  refine⟨_,Z,_,Z,_,Z,_,Z,m,d,k,wl,pl,M.at_ M.next,comes M.tick (place M.next)+3,M,ws,r,out,Z,j,u,z,B,fun D R2 y=>?_⟩;refine C D ?_ ((Kp.of g).trans y);have n:Ml M ws r=vE (orderOf (M.at_ M.next)).code r:=by
   unfold Ml vE;rw[e];by_cases i:(orderOf (M.at_ M.next)).code=70
   ·rw[if_pos i,if_pos (by simp[i])]
   ·rw[if_neg i,if_neg (by simp[i])]
  rw[n,e];exact R2
 ·have c:kx (M.at_ M.next) (!(aR ws r).isEmpty)≠0:=by rw[q];omega
  have e:=Au c;rw[q]at e;refine⟨_,Z,_,Z,m,_,b,_,Z,g _ _ hm,T.ao.cl,T.e_,by show 7<1000;decide,?_⟩;rw[Kj];refine⟨_,Z,_,_,Z,Z,(by decide:(0:Int)<18446744073709551616),_,Z,m,_,b,_,Z,ae,T.ao.cl,T.fK,by show 7<1000;decide,?_⟩;have o:((comes M.tick (place M.next)+3:Nat):Int) % 18446744073709551616=(((comes M.tick (place M.next)+3) % WRAP:Nat):Int):=by unfold WRAP;omega
  dsimp only;rw[o,P3,a9];have n:Ml M ws r=r:=by unfold Ml;rw[e];rfl
  refine C _ ?_ ((Kp.of g).trans (Kp.upd (by simp)));rw[n,e];refine⟨j.b7.jU Z,?_,⟨R.wf.len,R.wf.wd,R.wf.a,R.wf.d,R.wf.nx⟩,R.dp,R.wd,R.wp,R.rl,R.EV,R.w8,R.ww,Nat.mod_lt _ (by decide)⟩;rw[show out++([]:List Card).flatten=out from append_nil _];exact j.jl.kp (l:=[m]) (Kp.upd (by simp)) (by simp;exact I) (by simp;exact J) (by simp;exact L)
theorem JA(M:Machine)(o:Order)(c:Card):(does M o c).out.flatten.length≤8:=by unfold does;split<;>first|exact Nat.zero_le _|(split<;>exact Nat.zero_le _)|(simp;done)
theorem EA(M:Machine)(c:List Card):(M.step c).2.2.flatten.length≤8:=by
 by_cases h:kx (M.at_ M.next) (!c.isEmpty)=0
 ·obtain⟨a,b⟩:=xX h;rw[EB M c a b];exact JA _ _ _
 ·rw[Au h];exact Nat.zero_le _
inductive oB(Cm Ck:Addr)(vs:List V)(H:Hp)(Q:VK)(E:XK):Prop
 |mk (m d k wl pl:Addr) (M:Machine) (ws:List Int) (n:Nat) (h0_:vs=[.ref m,.int (n:Nat),.ref k]) (h1_:qV Cm Ck H m d k wl pl M ws 0 []) (h2_:n≤10000) (h3_:∀H',qV Cm Ck H' m d k wl pl (Drum.run n WRAP M (aR ws 0)).m ws (Drum.run n WRAP M (aR ws 0)).read (Drum.run n WRAP M (aR ws 0)).punched.flatten→Kp [m,d,k,pl] H H'→Q (.int ((Drum.run n WRAP M (aR ws 0)).begun:Nat)) H'):oB Cm Ck vs H Q E
theorem y1(T:Top K mg t):Fn P w K mg base 7 "run_orders" ["machine","most","deck"] (oB t.aq t.aW):=by
 refine T.Bz.bC (N:=["machine","most","deck","begun"]) (fun nd f _ A outer s H _ Q E hr h=>?_);obtain⟨m,d,k,wl,pl,M,ws,n,rfl,R,hn,O⟩:=h;refine⟨_,(af (aH 3 nd au)
  (af (mK PassesOwn.never (PW.pt (fq (az iX (pv 3) (pv 1) (aB _)) (d9 (az bN (ay (pv 0) Z) au (aB _))))) (af (bu (bq (rV T) hr (aa (pv 0) (aa (pv 2) ai))))
  (ah (xA (i:=3) nd Z (Or.inl Z) au oT))))
  (ah (ak (pv 3))))),?_⟩
 dsimp only[eR];refine ye (fun p H'=>∃(b:Nat) (l:Machine) (g:Nat) (o:List Int),p=[some (.ref m),some (.int (n:Nat)),some (.ref k),some (.int (b:Nat))]∧b≤n∧qV t.aq t.aW H' m d k wl pl l ws g o∧Kp [m,d,k,pl] H H'∧o.length≤8*b∧
   (Drum.run n WRAP M (aR ws 0)).m=(Drum.run (n-b) WRAP l (aR ws g)).m∧(Drum.run n WRAP M (aR ws 0)).begun=b+(Drum.run (n-b) WRAP l (aR ws g)).begun∧
   (Drum.run n WRAP M (aR ws 0)).read=g+(Drum.run (n-b) WRAP l (aR ws g)).read∧(Drum.run n WRAP M (aR ws 0)).punched.flatten=o++(Drum.run (n-b) WRAP l (aR ws g)).punched.flatten)
  (fun p _=>match p with|[_,_,_,some (.int b)]=>n-b.toNat|_=>0) ⟨0,M,0,[],Z,Nat.zero_le _,R,Kp.refl _ _,Nat.le_refl _,Z,(Nat.zero_add _).symm,(Nat.zero_add _).symm,Z⟩ ?_ ?_
 ·rintro p H' ⟨b,l,g,o,rfl,a1,r,kp,hl,B,D,F,G⟩;obtain⟨I,hm⟩:=r.b7.ins;have fin:(Drum.run (n-b) WRAP l (aR ws g))=⟨l,0,0,[]⟩→Q (.int (b:Nat)) H':=by
   intro e;rw[e]at B D F G;have eb:(Drum.run n WRAP M (aR ws 0)).begun=b:=D;have er:(Drum.run n WRAP M (aR ws 0)).read=g:=F;have em:(Drum.run n WRAP M (aR ws 0)).m=l:=B;have eo:(Drum.run n WRAP M (aR ws 0)).punched.flatten=o:=by rw[G];exact append_nil _
   have:=O H' (by rw[em,er,eo];exact r) kp;rw[eb]at this;exact this
  refine⟨_,Z,_,Z,_,_,Z,Z,_,Z,cS (fun bL=>?_) (fun bL=>cB ⟨_,Z,?_⟩)⟩
  ·refine⟨_,Z,m,_,I,_,_,Z,hm,T.ao.cl,T.e_,DE _ _,Z,_,Z,gx (fun L=>?_) (fun L=>⟨_,Z,?_⟩)⟩
   ·refine⟨_,Z,_,Z,m,d,k,wl,pl,l,ws,g,o,Z,r,by rw[sizeLine_eq];omega,fun _ R2 S=>?_⟩;refine⟨_,Z,_,_,Z,Z,⟨b+1,(l.step (aR ws g)).1,Ml l ws g,o++(l.step (aR ws g)).2.2.flatten,Z,by omega,R2,kp.trans S,?_,?_⟩,?_⟩
    ·have:=EA l (aR ws g);rw[length_append];omega
    ·have J:n-b=(n-(b+1))+1:=by omega
     have ec:(if(l.step (aR ws g)).2.1=true then(aR ws g).drop 1 else aR ws g)=aR ws (Ml l ws g):=by
      unfold Ml;by_cases u:(l.step (aR ws g)).2.1=true
      ·rw[if_pos u,if_pos u,DM.AZ]
      ·rw[if_neg u,if_neg u]
     have U:=DM.Kw (k:=n-(b+1)) (m:=l) (c:=aR ws g) (by omega) r.tk;simp only[ec]at U;rw[J,U]at B D F G;refine⟨B,?_,?_,?_⟩
     ·rw[D];simp only;omega
     ·rw[F];simp only;unfold Ml;split<;>omega
     ·rw[G];simp only;rw[List.flatten_append,append_assoc]
    ·show n-((b:Int)+1).toNat<n-(b:Int).toNat;omega
   ·exact fin (DM.El (by omega))
  ·have J:n-b=0:=by omega
   exact fin (by rw[J];rfl)
 ·rintro p H Q Q' V ⟨x,W,y,X,i,j,Y,e4,b,e5,q⟩;refine⟨x,W,y,X,i,j,Y,e4,b,e5,?_⟩;cases b with
  |false=>exact V _ _ q
  |true=>
   obtain⟨z,f1,a,C,I,fs,v,f2,f3,f4,f5,f6,f7,O,f8,q⟩:=q;exact⟨z,f1,a,C,I,fs,v,f2,f3,f4,f5,f6,f7,O,f8,V _ _ q⟩
end
end My
namespace My
open PySem PySem.Spec PyProof.Rows L2
local macro_rules | `(tactic| walk_at "rd") => `(tactic| repeat (first | refine ⟨_, rfl, ?_⟩ | refine ⟨_, _, rfl, rfl, ?_⟩ | refine ⟨rfl, _, rfl, ?_⟩ | refine ⟨⟨by decide, by decide⟩, ?_⟩ | refine ⟨by decide, ?_⟩))
section
variable {P:Program} {w:World} {K:Frag} {mg:Str→Option Value} {base:Heap} {t:hG}
open TL
def lN(b:Bytes):List Nat:=b.map UInt8.toNat
theorem m3(b:Bytes):tl (sB b)=lN b:=rfl
theorem cg(b:Bytes):(sB b).length=b.length:=by rw[kU,m3];exact length_map _
theorem xG(h:tl x=lN b):x=sB b:=Bg h
theorem toNat_eq{a b:UInt8}:a.toNat=b.toNat↔a=b:=UInt8.toNat_inj
theorem rH(a b:Bytes):lN (a++b)=lN a++lN b:=map_append
theorem xF(a b:Bytes):sB a++sB b=sB (a++b):=xG (by rw[sE,m3,m3,rH])
theorem vg(s:UInt8)(c:UInt8)(r:Bytes):pre [s.toNat] (lN (c::r))=decide (c=s):=by
 show(([c.toNat]:List Nat)==[s.toNat])=_;by_cases h:c=s
 ·rw[h,decide_eq_true Z];exact beq_self_eq_true _
 ·rw[decide_eq_false h];refine beq_eq_false_iff_ne.mpr fun e=>h (toNat_eq.mp (cons.inj e).1)
theorem sx(s:UInt8):∀(b acc:Bytes),∃hd a,Drum.split s b=hd::a∧qT [s.toNat] 0 (lN acc) (lN b)=lN (acc++hd)::a.map lN
 |[],acc=>⟨[],[],Z,by rw[append_nil];exact vi _ _ _⟩
 |c::r,acc=>by
  by_cases h:c=s
  ·subst h;obtain⟨hd,t',d,e⟩:=sx c r [];refine⟨[],hd::t',?_,?_⟩
   ·rw[de,d]
   ·have f:=G6 (S:=[c.toNat]) (acc:=lN acc) (c:=c.toNat) (r:=lN r) ((vg c c r).trans (decide_eq_true Z));show qT [c.toNat] 0 (lN acc) (c.toNat::lN r)=_;rw[f];show lN acc::qT [c.toNat] 0 (lN []) (lN r)=_;rw[e,append_nil];rfl
  ·obtain⟨hd,t',d,e⟩:=sx s r (acc++[c]);refine⟨c::hd,t',?_,?_⟩
   ·obtain⟨j,k,f1,f2⟩:=cF h r;rw[d]at f1;injection f1 with f1 i
    rw[f2,f1,i]
   ·have f:=Eu (S:=[s.toNat]) (acc:=lN acc) (c:=c.toNat) (r:=lN r) ((vg s c r).trans (decide_eq_false h));show qT [s.toNat] 0 (lN acc) (c.toNat::lN r)=_;rw[f];have g:lN acc++[c.toNat]=lN (acc++[c]):=(rH acc [c]).symm;rw[g,e,append_assoc];rfl
theorem Ex(s:UInt8)(b:Bytes):Txt.split (sB b) (sB [s])=(Drum.split s b).map sB:=by refine wH ?_;rw[IG _ _ (by rw[m3];simp[lN]) (LD (by have:=UInt8.toNat_lt s;simp[sB];omega))];obtain⟨hd,t',a,c⟩:=sx s b [];have d:qT (tl (sB [s])) 0 [] (tl (sB b))=lN ([]++hd)::t'.map lN:=c;rw[d,a,nil_append,map_map,map_cons];rfl
noncomputable def part1(s:UInt8):Bytes→Option (Bytes×Bytes)
 |[]=>none
 |c::r=>if c=s then some ([],r)else(part1 s r).map fun p=>(c::p.1,p.2)
theorem Ae(s:UInt8):∀(b acc:Bytes),par [s.toNat] (lN acc) (lN b)=(part1 s b).map fun p=>(lN (acc++p.1),lN p.2)
 |[],acc=>rfl
 |c::r,acc=>by
  by_cases h:c=s
  ·subst h;have a:=GR (S:=[c.toNat]) (acc:=lN acc) (c:=c.toNat) (r:=lN r) ((vg c c r).trans (decide_eq_true Z));show par [c.toNat] (lN acc) (c.toNat::lN r)=_;rw[a];unfold part1;rw[if_pos Z,Option.map_some,append_nil];rfl
  ·have a:=D_ (S:=[s.toNat]) (acc:=lN acc) (c:=c.toNat) (r:=lN r) ((vg s c r).trans (decide_eq_false h));show par [s.toNat] (lN acc) (c.toNat::lN r)=_;have d:lN acc++[c.toNat]=lN (acc++[c]):=(rH acc [c]).symm;rw[a,d,Ae s r]
   conv=>rhs;unfold part1
   rw[if_neg h,Option.map_map];refine congrArg (fun f=>Option.map f (part1 s r)) (funext fun p=>?_);simp[Function.comp]
theorem B7(s:UInt8)(b:Bytes):Txt.partition (sB b) (sB [s])=match part1 s b with
  |some (x,k)=>(sB x,sB [s],sB k)
  |none=>(sB b,sB [],sB []):=by
 have e:=Ae s b [];have a:par (tl (sB [s])) [] (tl (sB b))=(part1 s b).map fun p=>(lN ([]++p.1),lN p.2):=e;rw[y8 _ _ (by rw[m3];simp[lN]),a];cases part1 s b with
 |none=>rfl
 |some p=>rfl
theorem mF(s:UInt8):∀b:Bytes,Drum.split s b=match part1 s b with
  |some (x,k)=>x::Drum.split s k
  |none=>[b]
 |[]=>rfl
 |c::r=>by
  have a:=mF s r;by_cases h:c=s
  ·subst h;rw[de];unfold part1;rw[if_pos Z]
  ·obtain⟨hd,t',g,i⟩:=cF h r;rw[i];unfold part1;rw[if_neg h];cases e:part1 s r with
   |none=>rw[e]at a;rw[g]at a;injection a with d f;rw[d,f];rfl
   |some p=>rw[e]at a;rw[g]at a;injection a with d f;rw[d,f];rfl
theorem JL(b:Bytes)(i:Nat)(c:UInt8):(lN b)[i]?=some c.toNat↔b[i]?=some c:=by
 unfold lN;rw[getElem?_map];cases e:b[i]? with
 |none=>simp
 |some x=>simp[UInt8.toNat_inj]
theorem IH(b:Bytes)(c:UInt8):Txt.startswith (sB b) (sB [c])=decide (b.head?=some c):=by
 have h:=PySem.StrLaws.subAt_one (sB b) c.toNat 0;have a:(sB b).cps.toList[0]?=some c.toNat↔b.head?=some c:=by rw[show(sB b).cps.toList=lN b from Z,JL,List.head?_eq_getElem?]
 unfold Txt.startswith;rw[Bool.eq_iff_iff,decide_eq_true_iff,← a,← h,Bool.and_eq_true,decide_eq_true_iff];exact Iff.rfl
theorem Lf(b:Bytes)(c:UInt8):Txt.endswith (sB b) (sB [c])=decide (b.getLast?=some c):=by
 have h:=PySem.StrLaws.subAt_one (sB b) c.toNat ((sB b).length-1);have a:(sB b).cps.toList[(sB b).length-1]?=some c.toNat↔b.getLast?=some c:=by rw[show(sB b).cps.toList=lN b from Z,JL,List.getLast?_eq_getElem?,cg]
 unfold Txt.endswith;rw[Bool.eq_iff_iff,decide_eq_true_iff,← a,← h,Bool.and_eq_true,decide_eq_true_iff];have e:(sB [c]).length=1:=rfl;have d:(⟨#[c.toNat]⟩:Str).length=1:=rfl;rw[e,d];constructor
 ·rintro⟨g,a⟩;exact⟨by omega,a⟩
 ·rintro⟨g,a⟩;refine⟨?_,a⟩;by_cases f:(sB b).length=0
  ·have:=PySem.StrLaws.subAt_size a;rw[d,f]at this;simp at this
  ·omega
theorem Ff(b:Bytes):Jw (sB b) (some 1) none=sB (b.drop 1):=by
 refine xG ?_;show((lN b).drop (HT.gz (sB b).length 0 (some ((1:Nat):Int)))).take (HT.gz (sB b).length (sB b).length none-HT.gz (sB b).length 0 (some ((1:Nat):Int)))=_;rw[HT.nD,HT.qF,cg];unfold lN;by_cases h:1≤b.length
 ·rw[Nat.min_eq_left h,take_of_length_le (by rw[length_drop,length_map];exact Nat.le_refl _),map_drop]
 ·have e:b=[]:=by cases b with|nil=>rfl|cons _ _=>simp at h
  subst e;rfl
theorem Hv(b:Bytes):Jw (sB b) none (some (-1))=sB b.dropLast:=by
 refine xG ?_;show((lN b).drop (HT.gz (sB b).length 0 none)).take (HT.gz (sB b).length (sB b).length (some (-1))-HT.gz (sB b).length 0 none)=_;have e:HT.gz (sB b).length (sB b).length (some (-1))=b.length-1:=by show(if(-1:Int)<0 then((-1:Int)+((sB b).length:Int)).toNat else min (-1:Int).toNat (sB b).length)=_;rw[if_pos (by decide),cg];omega
 rw[e,HT.qF,drop_zero,Nat.sub_zero];unfold lN;rw[List.dropLast_eq_take,map_take]
theorem zS{d:Bytes}(h:d.all isDigit=true):NumText.AllDigits (lN d):=by intro c e;obtain⟨x,f,rfl⟩:=mem_map.mp e;have:=all_eq_true.mp h x f;unfold isDigit at this;rw[Bool.and_eq_true,decide_eq_true_iff,decide_eq_true_iff]at this;have a:(48:UInt8).toNat≤x.toNat:=this.1;have b:x.toNat≤(57:UInt8).toNat:=this.2;exact⟨a,b⟩
theorem KJ(d:Bytes):NumText.digitsVal (lN d)=numberOf d:=by unfold NumText.digitsVal numberOf lN;rw[List.foldl_map];refine congrArg (fun f=>foldl f 0 d) (funext fun n=>funext fun c=>?_);show n*10+(c.toNat-48)=10*n+(c.toNat-48);omega
theorem vd{d:Bytes}(h:d.all isDigit=true)(a:d≠[])(b:d.length≤100):intText? (sB d)=some ((numberOf d:Nat):Int):=by have:=intText_digits (x:=sB d) (zS h) (by intro e;exact a (List.map_eq_nil_iff.mp e)) (by rw[cg];omega);rw[this,show(sB d).cps.toList=lN d from Z,KJ]
theorem Ly{d:Bytes}(h:d.all isDigit=true)(a:d≠[])(b:d.length≤100):intText? (sB (45::d))=some (-((numberOf d:Nat):Int)):=by have:=intText_neg (x:=sB (45::d)) (cs:=lN d) Z (zS h) (by intro e;exact a (List.map_eq_nil_iff.mp e)) (by rw[cg];simp;omega);rw[this,KJ]
theorem wj(c:UInt8):decide (c.toNat∈(Str.ofString "abcdefghijklmnopqrstuvwxyz").cps.toList)=isSmall c:=by have:=Cw (fun c=>decide (c.toNat∈(Str.ofString "abcdefghijklmnopqrstuvwxyz").cps.toList)==isSmall c) (by decide +kernel) c;exact eq_of_beq this
theorem zX(c:UInt8):decide (c.toNat∈(Str.ofString "0123456789").cps.toList)=isDigit c:=by have:=Cw (fun c=>decide (c.toNat∈(Str.ofString "0123456789").cps.toList)==isDigit c) (by decide +kernel) c;exact eq_of_beq this
theorem Fx{x:Str}{g:TG}{tt:TT}{o:TE}{vs:List Nat}{h:L2.St}{H1:Hp}{D:Addr}{l:Hp→Prop}(Pv:Nat→Hp→Prop)(r:Pv 0 (upd H1 D (.lst [])))
 (s:∀i c H,(tl x)[i]?=some c→Pv i H→g (.str ⟨#[c]⟩) (wipe h vs) H fun a j=>wipe a vs=wipe h vs∧tt a j fun b d=>
   if b=true then o a d fun y f=>∃acc,f D=some (.lst acc)∧acc.length<sizeLine∧Pv (i+1) (upd f D (.lst (acc++[y])))else Pv (i+1) d)(hd:∀H,Pv (tl x).length H→l H):
  ∃W:Nat→Nat→Hp→Prop,(∃m,W 0 m (upd H1 D (.lst [])))∧∀i m H,W i m H→
   ((ME x).stop i H∧l H)∨((ME x).go i H∧∃k:Hp→Prop,(∀H',k H'→∃n,n<m∧W (i+1) n H')∧∀y H',(ME x).CB i H y H'→g y (wipe h vs) H' fun a j=>wipe a vs=wipe h vs∧tt a j fun b d=>
    if b=true then o a d fun y f=>∃acc,f D=some (.lst acc)∧acc.length<sizeLine∧k (upd f D (.lst (acc++[y])))else k d):=by
 have z:x.cps.size=(tl x).length:=(Array.length_toList).symm;refine⟨fun i m H=>m=(tl x).length-i∧i≤(tl x).length∧Pv i H,⟨_,Z,Nat.zero_le _,r⟩,?_⟩;rintro i m H ⟨rfl,v,p⟩;by_cases bL:i<(tl x).length
 ·refine .inr ⟨by show i<x.cps.size;omega,Pv (i+1),fun H' u=>⟨(tl x).length-(i+1),by omega,Z,bL,u⟩,fun y H' q=>?_⟩;obtain⟨rfl,c,e,rfl⟩:=q;exact s i c _ (by rw[Array.getElem?_toList];exact e) p
 ·have e:i=(tl x).length:=by omega
  subst e;exact .inl ⟨by show x.cps.size≤_;omega,hd H p⟩
theorem Lk{g:TG}{j:TS}{D:Ends}(Pv:Nat→L2.St→Hp→Prop)(k:Pv 0 a H)
 (l:∀i c a H,(tl x)[i]?=some c→Pv i a H→g (.str ⟨#[c]⟩) a H fun d f=>j {D with nx:=Pv (i+1),ct:=Pv (i+1),bk:=D.nx} d f)(hd:∀a H,Pv (tl x).length a H→D.nx a H):
  ∃W:Nat→Nat→L2.St→Hp→Prop,(∃m,W 0 m a H)∧∀i m a H,W i m a H→
   ((ME x).stop i H∧D.nx a H)∨((ME x).go i H∧∃N:L2.St→Hp→Prop,(∀b H',N b H'→∃h,h<m∧W (i+1) h b H')∧∀y H',(ME x).CB i H y H'→g y a H' fun d f=>j {D with nx:=N,ct:=N,bk:=D.nx} d f):=by
 have r:x.cps.size=(tl x).length:=(Array.length_toList).symm;refine⟨fun i m a H=>m=(tl x).length-i∧i≤(tl x).length∧Pv i a H,⟨_,Z,Nat.zero_le _,k⟩,?_⟩;rintro i m a H ⟨rfl,o,p⟩;by_cases bL:i<(tl x).length
 ·refine .inr ⟨by show i<x.cps.size;omega,Pv (i+1),fun b H' n=>⟨(tl x).length-(i+1),by omega,Z,bL,n⟩,fun y H' q=>?_⟩;obtain⟨rfl,c,e,rfl⟩:=q;exact l i c a _ (by rw[Array.getElem?_toList];exact e) p
 ·have e:i=(tl x).length:=by omega
  subst e;exact .inl ⟨by show x.cps.size≤_;omega,hd a H p⟩
theorem Gm{b:Bytes}{i c:Nat}(h:(tl (sB b))[i]?=some c):∃u:UInt8,b[i]?=some u∧c=u.toNat:=by
 rw[m3]at h;unfold lN at h;rw[getElem?_map]at h;cases e:b[i]? with
 |none=>rw[e]at h;cases h
 |some u=>rw[e]at h;exact⟨u,Z,(Option.some.inj h).symm⟩
theorem take_snoc{a:Type}{l:List a}{i:Nat}{x:a}(h:l[i]?=some x):l.take (i+1)=l.take i++[x]:=by rw[List.take_succ,h];rfl
theorem cn{a:Type}{l:List a}{i:Nat}{x:a}(h:l[i]?=some x):(l.take i).length<l.length:=by have:=(List.getElem?_eq_some_iff.mp h).1;rw[length_take];omega
theorem RF(c:UInt8)(r:Bytes):EZ (sB (c::r)).cps.toList 0=some c.toNat:=a5 (xs:=lN (c::r)) (j:=0) Z
def hU(c:UInt8):Bool:=isSmall c||isDigit c
inductive xU(vs:List V)(H:Hp)(Q:VK)(E:XK):Prop
 |mk (b:Bytes) (h0_:vs=[.str (sB b)]) (h1_:b.length≤100000) (h2_:∀H',aI H H'→Q (.bl (isName b)) H'):xU vs H Q E
theorem iU(T:Top K mg t):Fn P w K mg base 1 "is_name" ["part"] (xU):=by
 refine T.HD.bC (N:=["part","sign"]) (fun nd f _ A outer s H _ Q E _ h=>?_);obtain⟨b,rfl,I,k⟩:=h;have a:=cg b;have y:(sB b).length≤sizeLine:=by rw[a,sizeLine_eq];omega
 refine⟨_,(af (aM (PW.pt (jC (az bN (pv 0) aZ (aB _)) (jC (az mD (aF pP Z T.cX boot_len (aa (pv 0) ai)) (pk T.CP) (aB _)) (i5 (az y6 (bB JX (pv 0) au (fun _ _=>rfl)) (pk T.zP) (by with_unfolding_all rfl)))))) (ah (ak iZ)) aA)
  (ah (ak (aF (Bb Z) Z T.Gn boot_all (aa (jB Z nd (B_ (pv 0)) (b_ (own:=[("sign",1)]) (by refine(show lZ ["part","sign"] (aL An) _ _=true from ?_);decide +kernel)) (fun _ _ _ _ _=>(bI 1 nd)) (fun _ _ _ _ _=>eM) (fun _ _ _ _ _=>(MU (d7 pj (pv 1) (pk T.zP) (by with_unfolding_all rfl)) (mH (d7 pj (pv 1) (pk T.CO) (by with_unfolding_all rfl)))))) ai))))),?_⟩
 refine⟨_,Z,Z,_,Z,fE (fun h=>cJ ?_) (fun h=>?_)⟩
 ·have e:b=[]:=fu.mp h;subst e;exact k H (aI.refl H)
 ·have n:b≠[]:=fun e=>h (by rw[e];rfl);refine⟨_,Z,_,Z,y,_,_,Z,Z,_,Z,cS (fun j=>cJ ?_) (fun j=>?_)⟩
  ·have e:isName b=false:=by unfold isName;rw[decide_eq_false (by rw[a]at j;omega)];rfl
   rw[e]at k;exact k H (aI.refl H)
  ·obtain⟨c,r,rfl⟩:∃c r,b=c::r:=by cases b with|nil=>exact absurd rfl n|cons c r=>exact⟨c,r,rfl⟩
   have l:(c::r).length≤12:=by rw[a]at j;omega
   refine⟨_,Z,_,_,c.toNat,Z,Z,y,RF c r,c.toNat,_,Z,Z,_,Z,?_⟩;have C:=wj c;rw[C];refine gC (fun o=>?_) (fun o=>?_)
   ·have e:isName (c::r)=false:=by show(decide ((c::r).length≤12)&&(isSmall c&&r.all fun d=>isSmall d||isDigit d))=false;rw[show isSmall c=false by simpa using o];simp
    rw[e]at k;exact k H (aI.refl H)
   ·have p:isSmall c=true:=by simpa using o
    refine⟨_,Z,_,Z,fun D hD=>Fx (x:=sB (c::r)) (fun i H'=>H'=upd H D (.lst ((((c::r).take i).map fun u=>V.bl (hU u))))) Z ?_ ?_⟩
    ·rintro i G H' F rfl;obtain⟨u,q,rfl⟩:=Gm F;have bL:=cn q;have fin:∀v,v=V.bl (hU u)→∃g,upd H D (.lst (((c::r).take i).map fun u=>V.bl (hU u))) D=some (.lst g)∧g.length<sizeLine∧upd (upd H D (.lst (((c::r).take i).map fun u=>V.bl (hU u)))) D (.lst (g++[v]))=upd H D (.lst (((c::r).take (i+1)).map fun u=>V.bl (hU u))):=by rintro v rfl;refine⟨_,ae,by rw[length_map,sizeLine_eq];omega,?_⟩;rw[a9,take_snoc q,map_append];rfl
     refine⟨Z,sM ⟨_,Z,u.toNat,_,Z,Z,_,Z,?_⟩⟩;have z:=wj u;rw[z];refine gC (fun m=>fin _ ?_) (fun m=>⟨_,Z,u.toNat,_,Z,Z,fin _ ?_⟩)
     ·unfold hU;rw[m];rfl
     ·have B:=zX u;unfold hU;rw[m,Bool.false_or,← B]
    ·rintro H' rfl;refine⟨D,(c::r).map hU,Z,aT.of ?_,?_⟩
     ·rw[ae,take_of_length_le (by rw[m3];exact Nat.le_of_eq (length_map _).symm),map_map];rfl
     ·have e:(((c::r).map hU).all id)=isName (c::r):=by unfold isName;rw[decide_eq_true l,Bool.true_and,all_map,all_cons];show((hU c)&&r.all fun u=>hU u)=(isSmall c&&r.all fun d=>isSmall d||isDigit d);unfold hU;rw[p];rfl
      rw[← e]at k;exact k _ (aK hD)
noncomputable def fL(d:Bytes):Bool:=!(decide (d=[]∨d.all isDigit=false∨10<d.length∨(d.head?=some 48∧1<d.length)))
inductive g9(vs:List V)(H:Hp)(Q:VK)(E:XK):Prop
 |mk (b:Bytes) (h0_:vs=[.str (sB b)]) (h1_:b.length≤100000) (h2_:∀H',aI H H'→Q (.bl (fL b)) H'):g9 vs H Q E
theorem eh(T:Top K mg t):Fn P w K mg base 1 "is_written_number" ["part"] (g9):=by
 refine T.nI.bC (N:=["part","sign"]) (fun nd f _ A outer s H _ Q E _ h=>?_);obtain⟨b,rfl,R,k⟩:=h;have a:=cg b;have F:(sB b).length≤sizeLine:=by rw[a,sizeLine_eq];omega
 have p:(b=[]∨b.all isDigit=false∨10<b.length∨(b.head?=some 48∧1<b.length))→∀H',aI H H'→Q (.bl false) H':=by intro q;unfold fL at k;rw[decide_eq_true q]at k;exact k
 refine⟨_,(af (aM (PW.pt (jC (az bN (pv 0) aZ (aB _)) (i5 (az mD (aF pP Z T.cX boot_len (aa (pv 0) ai)) (pk T.ym) (aB _))))) (ah (ak iZ)) aA)
  (af (aM (PW.pt (fq (az bN (bB JX (pv 0) au (fun _ _=>rfl)) aZ (aB _)) (d9 (az d6 (pv 0) aZ (aB _))))) (ah (ak iZ)) aA)
  (ah (ak (aF (Bb Z) Z T.Gn boot_all (aa (jB Z nd (B_ (pv 0)) (b_ (own:=[("sign",1)]) (by refine(show lZ ["part","sign"] (aL ib) _ _=true from ?_);decide +kernel)) (fun _ _ _ _ _=>(bI 1 nd)) (fun _ _ _ _ _=>eM) (fun _ _ _ _ _=>(d7 pj (pv 1) (pk T.CO) (by with_unfolding_all rfl)))) ai)))))),?_⟩
 refine⟨_,Z,Z,_,Z,fE (fun h=>cJ ?_) (fun h=>?_)⟩
 ·exact p (.inl (fu.mp h)) H (aI.refl H)
 ·have o:b≠[]:=fun e=>h (by rw[e];rfl);refine⟨_,Z,_,Z,F,_,_,Z,Z,_,Z,cS (fun g=>?_) (fun g=>?_)⟩
  ·exact p (.inr (.inr (.inl (by rw[a]at g;omega)))) H (aI.refl H)
  ·have B:b.length≤10:=by rw[a]at g;omega
   obtain⟨c,r,rfl⟩:∃c r,b=c::r:=by cases b with|nil=>exact absurd rfl o|cons c r=>exact⟨c,r,rfl⟩
   have d:¬(c=48∧1<(c::r).length)→∀D:Ends,D.rt=Q→Cq (Qc (P4 K) (jL (Qk (PQ (pH 0)) (eR 1) N_ (Jd (fun x y H Q=>∃(c:Nat) (z:Str),x=.str ⟨#[c]⟩∧y=.str z∧Q (.bl (decide (c∈z.cps.toList))) H) (pH 1) (tC (.str "0123456789"))) [1]) u0)) D [some (.str (sB (c::r))),none] H:=by
    intro m M n;subst n;refine⟨_,Z,_,Z,fun D hD=>Fx (x:=sB (c::r)) (fun i H'=>H'=upd H D (.lst ((((c::r).take i).map fun u=>V.bl (isDigit u))))) Z ?_ ?_⟩
    ·rintro i O H' J rfl;obtain⟨u,C,rfl⟩:=Gm J;have bL:=cn C;refine⟨Z,sM ⟨_,Z,u.toNat,_,Z,Z,_,ae,by rw[length_map,sizeLine_eq];omega,?_⟩⟩;have G:=zX u;rw[a9,take_snoc C,map_append,G];rfl
    ·rintro H' rfl;refine⟨D,(c::r).map isDigit,Z,aT.of ?_,?_⟩
     ·rw[ae,take_of_length_le (by rw[m3];exact Nat.le_of_eq (length_map _).symm),map_map];rfl
     ·have e:(((c::r).map isDigit).all id)=fL (c::r):=by
       rw[all_map];show(c::r).all isDigit=_;unfold fL;cases ha:(c::r).all isDigit with
       |false=>rw[decide_eq_true (.inr (.inl Z))];rfl
       |true=>
        rw[decide_eq_false]
        ·rfl
        ·rintro(q|q|q|⟨q,L⟩)
         ·cases q
         ·cases q
         ·omega
         ·exact m ⟨Option.some.inj q,L⟩
      rw[← e]at k;exact k _ (aK hD)
   refine⟨_,Z,_,_,c.toNat,Z,Z,F,RF c r,Z,_,Z,fE (fun j=>?_) (fun j=>cB (d ?_ _ Z))⟩
   ·have v:c=48:=by have:=congrArg (fun s:Str=>s.cps.toList) j;have I:[c.toNat]=[48]:=this;exact UInt8.toNat_inj.mp (List.cons.inj I).1
    refine⟨_,Z,Z,_,Z,kS (fun l=>?_) (fun l=>d ?_ _ Z)⟩
    ·refine p (.inr (.inr (.inr ⟨by rw[v];rfl,?_⟩))) H (aI.refl H);cases r with
     |nil=>exact absurd (by rw[v];rfl) l
     |cons _ _=>simp
    ·rintro⟨_,q⟩;have e:c::r=[48]:=fu.mp l;rw[e]at q;simp at q
   ·rintro⟨q,_⟩;exact j (by rw[q];rfl)
theorem iC{b:Bytes}(h:b.head?≠some 45):readWord b=if fL b=true then some ((numberOf b:Nat):Int)else none:=by
 rw[iB];have a:dg b=b:=by unfold dg;rw[if_neg h]
 have c:vl b=((numberOf b:Nat):Int):=by unfold vl;rw[if_neg h,a]
 rw[a,c];unfold fL;by_cases q:b=[]∨b.all isDigit=false∨10<b.length∨(b.head?=some 48∧1<b.length)
 ·rw[if_pos,if_neg (by rw[decide_eq_true q];decide)];rcases q with q|q|q|q
  ·exact .inl q
  ·exact .inr (.inl q)
  ·exact .inr (.inr (.inl q))
  ·exact .inr (.inr (.inr (.inl q)))
 ·rw[if_neg,if_pos (by rw[decide_eq_false q];rfl)];rintro(z|z|z|z|⟨z,_⟩)
  ·exact q (.inl z)
  ·exact q (.inr (.inl z))
  ·exact q (.inr (.inr (.inl z)))
  ·exact q (.inr (.inr (.inr z)))
  ·exact h z
theorem wN:∀(d:Bytes) (a:Nat),(∀c∈d,isDigit c=true)→d.foldl (fun(n:Nat) (c:UInt8)=>10*n+(c.toNat-48)) a=0→a=0∧∀c∈d,c=48
 |[],a,_,h=>⟨h,fun c b=>by cases b⟩
 |c::r,a,hd,h=>by
  rw[List.foldl_cons]at h;obtain⟨j,g⟩:=wN r _ (fun x e=>hd x (mem_cons_of_mem _ e)) h;have b:=hd c (mem_cons_self ..);unfold isDigit at b;rw[Bool.and_eq_true,decide_eq_true_iff,decide_eq_true_iff]at b;have i:(48:UInt8).toNat≤c.toNat:=b.1;have f:(48:UInt8).toNat=48:=rfl;refine⟨by omega,fun x e=>?_⟩;rcases mem_cons.mp e with rfl|e
  ·exact UInt8.toNat_inj.mp (by omega)
  ·exact g x e
theorem lj(d:Bytes):readWord (45::d)=if fL d=true∧d≠[48]then some (-((numberOf d:Nat):Int))else none:=by
 rw[iB];have g:dg (45::d)=d:=rfl;have h:vl (45::d)= -((numberOf d:Nat):Int):=rfl;rw[g,h];unfold fL;by_cases q:d=[]∨d.all isDigit=false∨10<d.length∨(d.head?=some 48∧1<d.length)
 ·rw[if_pos,if_neg (by rw[decide_eq_true q];rintro⟨z,_⟩;cases z)];rcases q with q|q|q|q
  ·exact .inl q
  ·exact .inr (.inl q)
  ·exact .inr (.inr (.inl q))
  ·exact .inr (.inr (.inr (.inl q)))
 ·by_cases b:d=[48]
  ·rw[if_pos,if_neg (fun z=>z.2 b)];exact .inr (.inr (.inr (.inr ⟨Z,by rw[b];rfl⟩)))
  ·rw[if_neg,if_pos ⟨by rw[decide_eq_false q];rfl,b⟩];rintro(z|z|z|z|⟨_,z⟩)
   ·exact q (.inl z)
   ·exact q (.inr (.inl z))
   ·exact q (.inr (.inr (.inl z)))
   ·exact q (.inr (.inr (.inr z)))
   ·have a:∀c∈d,isDigit c=true:=by
     cases ha:d.all isDigit with
     |false=>exact absurd (.inr (.inl ha)) q
     |true=>exact all_eq_true.mp ha
    obtain⟨_,e⟩:=wN d 0 a (show numberOf d=0 by omega);cases d with
    |nil=>exact q (.inl Z)
    |cons c r=>
     have f:=e c (mem_cons_self ..);cases r with
     |nil=>exact b (by rw[f])
     |cons i j=>exact q (.inr (.inr (.inr ⟨by rw[f];rfl,by simp⟩)))
inductive je(vs:List V)(H:Hp)(Q:VK)(E:XK):Prop
 |mk (b:Bytes) (h0_:vs=[.str (sB b)]) (h1_:b.length≤100000) (h2_:∀H',aI H H'→Q (.bl (readWord b).isSome) H'):je vs H Q E
theorem o_(T:Top K mg t):Fn P w K mg base 2 "is_written_word" ["part"] (je):=by
 refine T.p0.bC (N:=["part"]) (fun nd f _ A outer s H _ Q E j h=>?_);obtain⟨b,rfl,i,k⟩:=h;have l:(sB b).length≤sizeLine:=by rw[cg,sizeLine_eq];omega
 refine⟨_,(af (aM (bJ (Ec F.slot_str_startswith F.type_str_startswith yK (pv 0) aZ)) (ah (ak (sj (d7 d6 (pv 0) aZ (aB _)) (mH (bq (eh T) j (aa (eT KB (pv 0) (d8 au) nA) ai)))))) aA)
  (ah (ak (bq (eh T) j (aa (pv 0) ai))))),?_⟩
 refine⟨_,Z,⟨_,Z⟩,_,_,Z,Z,_,Z,?_⟩;rw[show(Str.ofString "-")=sB [45]from Z,IH];refine cS (fun h=>?_) (fun h=>?_)
 ·obtain⟨d,rfl⟩:∃d,b=45::d:=by
   cases b with
   |nil=>cases h
   |cons c d=>exact⟨d,by rw[show c=45 from Option.some.inj h]⟩
  rw[lj]at k;refine⟨_,Z,Z,_,Z,kS (fun a=>?_) (fun a=>?_)⟩
  ·refine⟨_,Z,_,Z,_,Z,l,?_⟩;have e:=Ff (45::d);rw[e];refine⟨d,Z,by simp at i;omega,fun H1 g=>?_⟩;have hd:d≠[48]:=fun q=>a (by rw[q];rfl);refine E2 (k H1 g) ?_;cases m:fL d with
   |true=>rw[if_pos ⟨Z,hd⟩];rfl
   |false=>rw[if_neg (by rintro⟨z,_⟩;cases z)];rfl
  ·have e:(45::d:Bytes)=[45,48]:=fu.mp a;rw[if_neg (fun z=>z.2 (List.cons.inj e).2)]at k;exact k H (aI.refl H)
 ·rw[iC h]at k;refine⟨_,Z,b,Z,i,fun H1 g=>E2 (k H1 g) ?_⟩;cases fL b<;>rfl
inductive jd(vs:List V)(H:Hp)(Q:VK)(E:XK):Prop
 |mk (b:Bytes) (lo hi:Nat) (h0_:vs=[.str (sB b),.int (lo:Nat),.int (hi:Nat)]) (h1_:b.length≤100000) (h2_:∀H',aI H H'→Q (.bl (small lo hi b).isSome) H'):jd vs H Q E
theorem fM{b:Bytes}:fL b=true↔b≠[]∧b.all isDigit=true∧b.length≤10∧¬(b.head?=some 48∧1<b.length):=by
 unfold fL;by_cases q:b=[]∨b.all isDigit=false∨10<b.length∨(b.head?=some 48∧1<b.length)
 ·rw[decide_eq_true q];constructor
  ·intro z;cases z
  ·rintro⟨a,c,e,d⟩;rcases q with q|q|q|q
   ·exact absurd q a
   ·rw[c]at q;cases q
   ·omega
   ·exact absurd q d
 ·rw[decide_eq_false q];refine⟨fun _=>⟨fun z=>q (.inl z),?_,?_,fun z=>q (.inr (.inr (.inr z)))⟩,fun _=>rfl⟩
  ·cases ha:b.all isDigit with
   |true=>rfl
   |false=>exact absurd (.inr (.inl ha)) q
  ·exact Nat.le_of_not_lt fun z=>q (.inr (.inr (.inl z)))
theorem FG{b:Bytes}(h:fL b=true):b.head?≠some 45:=by
 obtain⟨d,a,_⟩:=fM.mp h;cases b with
 |nil=>exact absurd Z d
 |cons c r=>
  intro e;have f:c=45:=Option.some.inj e;rw[f]at a;exact absurd (all_eq_true.mp a 45 (mem_cons_self ..)) (by decide)
theorem qI(lo f:Nat)(b:Bytes):small lo f b=if fL b=true∧lo≤numberOf b∧numberOf b≤f then some (numberOf b)else none:=by
 unfold small;cases g:fL b with
 |true=>
  rw[iC (FG g),if_pos g];simp only;by_cases j:lo≤numberOf b∧numberOf b≤f
  ·rw[if_pos (by omega),if_pos ⟨trivial,j⟩];rfl
  ·rw[if_neg (by omega),if_neg (fun z=>j z.2)]
 |false=>
  rw[if_neg (by rintro⟨z,_⟩;cases z)];by_cases a:b.head?=some 45
  ·obtain⟨d,rfl⟩:∃d,b=45::d:=by
    cases b with
    |nil=>cases a
    |cons c d=>exact⟨d,by rw[show c=45 from Option.some.inj a]⟩
   rw[lj];by_cases q:fL d=true∧d≠[48]
   ·rw[if_pos q];simp only;have i:0<numberOf d:=by
     refine Nat.pos_of_ne_zero fun z=>?_;obtain⟨k,l,o,m⟩:=fM.mp q.1;obtain⟨_,e⟩:=wN d 0 (all_eq_true.mp l) z;cases d with
     |nil=>exact k Z
     |cons c r=>
      have h:=e c (mem_cons_self ..);cases r with
      |nil=>exact q.2 (by rw[h])
      |cons n p=>exact m ⟨by rw[h];rfl,by simp⟩
    rw[if_neg (by omega)]
   ·rw[if_neg q]
  ·rw[iC a,g];rfl
theorem iV(T:Top K mg t):Fn P w K mg base 2 "is_written_from" ["part","least","most"] (jd):=by
 refine T.pZ.bC (N:=["part","least","most"]) (fun nd f _ A outer s H _ Q E m h=>?_);obtain⟨b,lo,l,rfl,j,k⟩:=h;rw[qI]at k;refine⟨_,(ah (ak (sj (bq (eh T) m (aa (pv 0) ai)) (mH (kf xk xk (pv 1) (eL ir Z T.Gp boot_int (aa (pv 0) ai)) (pv 2)))))),?_⟩;refine⟨_,Z,b,Z,j,fun H1 d=>⟨_,Z,gC (fun c=>?_) (fun c=>?_)⟩⟩
 ·obtain⟨g,i,n,o⟩:=fM.mp c;refine⟨_,Z,_,Z,_,_,Z,vd i g (by omega),by rw[cg];omega,_,_,Z,Z,_,Z,cS (fun a=>⟨_,Z,_,_,Z,Z,?_⟩) (fun a=>?_)⟩
  ·refine E2 (k H1 d) ?_;by_cases e:numberOf b≤l
   ·rw[if_pos ⟨c,by omega,e⟩,decide_eq_true (by omega)];rfl
   ·rw[if_neg (fun z=>e z.2.2),decide_eq_false (by omega)];rfl
  ·refine E2 (k H1 d) ?_;rw[if_neg (fun z=>a (by have:=z.2.1;omega))];rfl
 ·refine E2 (k H1 d) ?_;rw[if_neg (fun z=>by rw[z.1]at c;cases c)];rfl
noncomputable def RM(n:Bytes)(c:Nat)(a:Bytes)(k:Nat)(f:Bytes):List (Str×V):=[("name",.str (sB n)),("code",.int (c:Nat)),("target",.str (sB a)),("number",.int (k:Nat)),("follow",.str (sB f))]
def RL(n:Bytes)(a:Addr):List (Str×V):=[("name",.str (sB n)),("words",.ref a)]
def iI(g e:Addr)(F:Addr→Prop)(H:Hp)(a:Addr):Item→Prop
 |.order n c o f=>F a∧∃b,H a=some (.ins g b (RM (n.getD []) c (F9 o) (num o) (f.getD [])))
 |.numbers n l=>F a∧∃b d,F d∧H a=some (.ins e b (RL n d))∧H d=some (.lst (l.map V.int))
def l_(c b:Addr)(F:Addr→Prop)(H:Hp)(v:V):Option Item→Prop
 |none=>v=.bV
 |some i=>∃a,v=.ref a∧iI c b F H a i
theorem iI.kp(h:iI r q F H a i)(k:Kp l H H')(j:∀x,F x→(∃o,H x=some o)→x∉l)(g:∀x,F x→s x):iI r q s H' a i:=by
 cases i with
 |order n c o f=>
  obtain⟨b,d,e⟩:=h;exact⟨g a b,d,k _ _ e (j a b ⟨_,e⟩)⟩
 |numbers n u=>
  obtain⟨b,d,wl,p,e,m⟩:=h;exact⟨g a b,d,wl,g wl p,k _ _ e (j a b ⟨_,e⟩),k _ _ m (j wl p ⟨_,m⟩)⟩
theorem iI.same(h:iI c b F H a i)(s:aI H H'):iI c b F H' a i:=h.kp (l:=[]) (Kp.of s) (fun _ _ _=>by simp) (fun _ q=>q)
theorem l_.kp(h:l_ c b F H v o)(k:Kp l H H')(g:∀x,F x→(∃o,H x=some o)→x∉l)(f:∀x,F x→d x):l_ c b d H' v o:=by
 cases o with
 |none=>exact h
 |some i=>obtain⟨a,e,q⟩:=h;exact⟨a,e,q.kp k g f⟩
theorem l_.mono(h:l_ b a F H v o)(d:∀x,F x→c x):l_ b a c H v o:=h.kp (l:=[]) (Kp.refl _ _) (fun _ _ _=>by simp) d
abbrev M4(H:Hp):Addr→Prop:=fun b=>H b=none
inductive oq(Co:Addr)(vs:List V)(H:Hp)(Q:VK)(E:XK):Prop
 |mk (a dx:Addr) (n:Bytes) (c:Nat) (tg:Bytes) (k:Nat) (f:Bytes) (h0_:vs=[.ref a,.str (sB n),.int (c:Nat),.str (sB tg),.int (k:Nat),.str (sB f)]) (h1_:H a=some (.ins Co dx [])) (h2_:Q .bV (upd H a (.ins Co dx (RM n c tg k f)))):oq Co vs H Q E
theorem yP(T:Top K mg t):KW P w K mg base 1 t.aG ["self","name","code","target","number","follow"] (oq t.aG):=by
 refine T.Lw.bC (N:=["self","name","code","target","number","follow"]) (fun nd f _ A outer s H _ Q E _ h=>?_);obtain⟨a,b,n,c,e,k,f,rfl,ha,d⟩:=h;refine⟨_,(af (aV (pv 0) (pv 1) Z)
  (af (aV (pv 0) (pv 2) Z)
  (af (aV (pv 0) (pv 3) Z)
  (af (aV (pv 0) (pv 4) Z)
  (ah (aV (pv 0) (pv 5) Z)))))),?_⟩
 refine⟨_,Z,_,Z,a,_,b,_,Z,ha,T.a6.cl,T.qk,by show 0<1000;decide,?_⟩;refine⟨_,Z,_,Z,a,_,b,_,Z,ae,T.a6.cl,T.dE,by show 1<1000;decide,?_⟩;refine⟨_,Z,_,Z,a,_,b,_,Z,ae,T.a6.cl,T.da,by show 2<1000;decide,?_⟩;refine⟨_,Z,_,Z,a,_,b,_,Z,ae,T.a6.cl,T.c8,by show 3<1000;decide,?_⟩;refine⟨_,Z,_,Z,a,_,b,_,Z,ae,T.a6.cl,T.c7,by show 4<1000;decide,?_⟩;rw[a9,a9,a9,a9];exact d
inductive lI(Cn:Addr)(vs:List V)(H:Hp)(Q:VK)(E:XK):Prop
 |mk (a dx wl:Addr) (n:Bytes) (h0_:vs=[.ref a,.str (sB n),.ref wl]) (h1_:H a=some (.ins Cn dx [])) (h2_:Q .bV (upd H a (.ins Cn dx (RL n wl)))):lI Cn vs H Q E
theorem uK(T:Top K mg t):KW P w K mg base 1 t.aC ["self","name","words"] (lI t.aC):=by
 refine T.HQ.bC (N:=["self","name","words"]) (fun nd f _ A outer s H _ Q E _ h=>?_);obtain⟨a,b,wl,n,rfl,ha,c⟩:=h;refine⟨_,(af (aV (pv 0) (pv 1) Z)
  (ah (aV (pv 0) (pv 2) Z))),?_⟩
 refine⟨_,Z,_,Z,a,_,b,_,Z,ha,T.cD.cl,T.mz,by show 0<1000;decide,?_⟩;refine⟨_,Z,_,Z,a,_,b,_,Z,ae,T.cD.cl,T.cE,by show 1<1000;decide,?_⟩;rw[a9];exact c
theorem x_(T:Top K mg t)(h:H a=some (.ins t.aG b fs)):lY K H (.ref a) (.ref t.aG):=.ins h T.a6.cl T.nq.ha T.nq.hn T.nq.rC T.nq.hm
theorem pI(T:Top K mg t)(h:H a=some (.ins t.aC b fs)):lY K H (.ref a) (.ref t.aC):=.ins h T.cD.cl T.jv.ha T.jv.hn T.jv.rC T.jv.hm
inductive oE(Co Cn:Addr)(vs:List V)(H:Hp)(Q:VK)(E:XK):Prop
 |mk (F:Addr→Prop) (a:Addr) (i:Item) (h0_:vs=[.ref a]) (h1_:iI Co Cn F H a i) (h2_:Q (.int (i.size:Nat)) H):oE Co Cn vs H Q E
theorem n6(T:Top K mg t):Fn P w K mg base 1 "word_count" ["row"] (oE t.aG t.aC):=by
 refine T.BD.bC (N:=["row"]) (fun nd f _ A outer s H _ Q E _ h=>?_);obtain⟨F,a,i,rfl,d,k⟩:=h;refine⟨_,(ah (ak (dS (bJ (fP T.cH T.cD (pv 0))) (aF aO Z T.cX boot_len (aa (ay (pv 0) Z) ai)) au))),?_⟩;cases i with
 |order n c o f=>
  obtain⟨_,b,e⟩:=d;exact⟨_,Z,_,_,_,false,Z,x_ T e,T.j7,_,Z,cB k⟩
 |numbers n l=>
  obtain⟨_,b,wl,_,e,g⟩:=d;refine⟨_,Z,_,_,_,true,Z,pI T e,T.iN,_,Z,cJ ⟨_,Z,a,_,b,_,_,Z,e,T.cD.cl,T.cE,Z,wl,_,Z,.inl (aT.of g),?_⟩⟩;exact Qs k (by rw[length_map];rfl)
noncomputable def Ce(l:Bytes):List (Key×V):=l.map fun c=>((Sum.inl ((c.toNat:Nat):Int):Key),V.str (sB [c]))
theorem yc(c:UInt8):∀l:Bytes,bH (Ce l) (Sum.inl ((c.toNat:Nat):Int))=if c∈l then some (.str (sB [c]))else none
 |[]=>rfl
 |x::l=>by
  show bH ((Sum.inl ((x.toNat:Nat):Int),V.str (sB [x]))::Ce l) _=_;by_cases h:x=c
  ·subst h;rw[dh Z,if_pos (mem_cons_self ..)]
  ·rw[df (fun e=>h (by have:=Sum.inl.inj e;exact UInt8.toNat_inj.mp (by omega))),yc c l];by_cases a:c∈l
   ·rw[if_pos a,if_pos (mem_cons_of_mem _ a)]
   ·rw[if_neg a,if_neg (by simp[a];exact fun e=>h e.symm)]
theorem KA:Gk.Nodup:=by decide +kernel
theorem wq(l:List Bytes):Txt.join (sB []) (l.map sB)=sB l.flatten:=by
 refine xG ?_;rw[join_eq,Cu];have:∀l:List Bytes,wo (tl (sB [])) ((l.map sB).map tl)=lN l.flatten:=by
  intro l
  induction l with
  |nil=>rfl
  |cons x r a=>
   cases r with
   |nil=>simp[wo,m3]
   |cons y r=>
    show lN x++(lN []++wo (tl (sB [])) (((y::r).map sB).map tl))=_;rw[a,show(x::y::r).flatten=x++(y::r).flatten from Z,rH];rfl
 exact this l
inductive tL(vs:List V)(H:Hp)(Q:VK)(E:XK):Prop
 |mk (p:Addr) (b:Bytes) (h0_:vs=[.ref p]) (h1_:H p=some (.lst (b.map fun c=>V.int (c.toNat:Nat)))) (h2_:b.length≤100000) (h3_:∀H',aI H H'→Q (.str (sB (b.map tH))) H'):tL vs H Q E
theorem D8(T:Top K mg t):Fn P w K mg base 1 "signs_of" ["codes"] (tL):=by
 refine T.Fq.bC (N:=["codes","known","sign","code"]) (fun nd f _ A outer s H _ Q E I h=>?_);obtain⟨p,b,rfl,q,G,k⟩:=h;refine⟨_,(af (FX (i:=1) nd Z (Or.inr Z) g7)
  (af (bx PassesOwn.never Z (B_ (pk T.K_)) (bI 2 nd) (ah (lh (dO I) (pv 1) (aF CU Z T.MQ boot_ord (aa (pv 2) ai)) (pv 2) Z)))
  (ah (ak (vf aZ (jB Z nd (bK (pv 0)) (b_ (own:=[("code",3)]) (by refine(show lZ ["codes","known","sign","code"] (aL xH) _ _=true from ?_);decide +kernel)) (fun _ _ _ _ _=>(bI 3 nd)) (fun _ _ _ _ _=>eM) (fun _ _ _ _ _=>(xt (dO I) (pv 1) (pv 3) (pk T.Hq) ⟨Z,Z,Z,Z⟩)))))))),?_⟩
 intro g n;have M:=aK (o:=.dK []) n;refine⟨_,Z,Lk (x:=sB Gk) (fun i F H'=>(∃C,F=[some (.ref p),some (.ref g),C,none])∧H'=upd H g (.dK (Ce (Gk.take i)))) ⟨⟨none,Z⟩,Z⟩ ?_ ?_⟩
 ·rintro i c F H' l ⟨⟨C,rfl⟩,rfl⟩;obtain⟨u,d,rfl⟩:=Gm l;have bL:=cn d;have J:Gk.length=69:=rfl;refine⟨_,Z,_,Z,_,Z,_,Z,Z,g,_,Z,vm.k (k:=Sum.inl ((u.toNat:Nat):Int)) ae ?_,⟨_,Z⟩,?_⟩
  ·unfold Ce;rw[length_map,sizeLine_eq];omega
  ·rw[a9,xB]
   ·rw[take_snoc d];unfold Ce;rw[map_append];rfl
   ·rw[yc,if_neg];intro hm;obtain⟨j,L,e⟩:=List.mem_iff_getElem.mp hm;rw[length_take]at L;rw[getElem_take]at e;have:=PY KA (i:=j) (j:=i) (x:=u) (by rw[getElem?_eq_getElem (by omega),e]) d;omega
 ·rintro F H' ⟨⟨C,rfl⟩,rfl⟩;have v:Gk.take (tl (sB Gk)).length=Gk:=take_of_length_le (by rw[m3];exact Nat.le_of_eq (length_map _).symm);rw[v];have B:=aK (o:=.dK (Ce Gk)) n;refine⟨⟨_,Z⟩,_,Z,p,Z,⟨_,aT.of (B _ _ q)⟩,fun D hD=>gg (K:=K) (a:=p) (xs:=b.map fun c=>V.int (c.toNat:Nat)) (fun i H'=>H'=upd (upd H g (.dK (Ce Gk))) D (.lst (((b.take i).map fun c=>V.str (sB [tH c]))))) Z (fun i H' _ e=>by rw[e];exact aT.of ((B.trans (aK hD)) _ _ q)) ?_ ?_⟩
  ·rintro i x H' l rfl;rw[getElem?_map]at l;cases d:b[i]? with
   |none=>rw[d]at l;cases l
   |some u=>
    rw[d]at l;cases l;have bL:=cn d;have y:g≠D:=aj ae hD;have m:upd (upd H g (.dK (Ce Gk))) D (.lst ((b.take i).map fun c=>V.str (sB [tH c]))) g=some (.dK (Ce Gk)):=by rw[aw y];exact ae
    refine⟨Z,sM ⟨_,Z,g,Z,.inl ⟨_,.inl m⟩,_,Z,_,dY.k (k:=Sum.inl ((u.toNat:Nat):Int)) m,_,ae,by rw[length_map,sizeLine_eq];omega,?_⟩⟩;rw[a9,take_snoc d,map_append,yc];have e:(if u∈Gk then some (V.str (sB [u]))else none).getD (.str (Str.ofString "?"))=V.str (sB [tH u]):=by
     unfold tH DM.sign;by_cases h:u∈Gk
     ·rw[if_pos h,if_pos (by simpa using h)];rfl
     ·rw[if_neg h,if_neg (by simpa using h)];rfl
    rw[e];rfl
  ·rintro H' rfl;rw[length_map,take_length];refine⟨_,D,(b.map fun c=>[tH c]).map sB,Z,Z,.inl (aT.of ?_),?_,?_⟩
   ·rw[ae,map_map,map_map];rfl
   ·have:((List.map sB (b.map fun c=>[tH c])).map (·.length)).sum=b.length:=by
     rw[map_map,map_map];have:((fun x:Str=>x.length) ∘ sB) ∘ (fun c=>[tH c])=fun _=>1:=rfl;rw[this];clear k q G
     induction b with
     |nil=>rfl
     |cons x r z=>rw[map_cons,sum_cons,z,length_cons];omega
    rw[this];show b.length+_*0≤_;omega
   ·have e:Txt.join (Str.ofString "") (List.map sB (b.map fun c=>[tH c]))=sB (b.map tH):=by
     rw[show Str.ofString ""=sB []from Z,wq];congr 1;clear k q G
     induction b with
     |nil=>rfl
     |cons x r z=>rw[map_cons,flatten_cons,z];rfl
    rw[e];exact k _ (B.trans (aK hD))
abbrev bg(b:Bytes):V:=.str (sB b)
theorem Kp.uI(k:Kp [D] H H')(h:H D=none):aI H H':=(k.drop h).same
theorem qZ(xs:List V)(n:Nat):kM xs (some ((n:Nat):Int)) none=xs.drop n:=by
 unfold kM;rw[HT.nD,HT.qF];by_cases h:n≤xs.length
 ·rw[Nat.min_eq_left h,take_of_length_le (by rw[length_drop];exact Nat.le_refl _)]
 ·rw[Nat.min_eq_right (Nat.le_of_lt (Nat.lt_of_not_le h)),drop_eq_nil_of_le (Nat.le_refl _),drop_eq_nil_of_le (Nat.le_of_lt (Nat.lt_of_not_le h))];simp
theorem M1(a:H x=none)(hd:H c=none):aI H (upd (upd (upd H c d) x f) x g):=fun b u e=>by rw[aw (aj e a),aw (aj e a),aw (aj e hd)];exact e
theorem JS{b:Bytes}(h:readWord b=some v):intText? (sB b)=some v∧b.length≤11:=by
 by_cases a:b.head?=some 45
 ·obtain⟨d,rfl⟩:∃d,b=45::d:=by
   cases b with
   |nil=>cases a
   |cons c d=>exact⟨d,by rw[show c=45 from Option.some.inj a]⟩
  rw[lj]at h;by_cases q:fL d=true∧d≠[48]
  ·rw[if_pos q]at h;obtain⟨e,f,g,i⟩:=fM.mp q.1;rw[← Option.some.inj h];exact⟨Ly f e (by omega),by simp;omega⟩
  ·rw[if_neg q]at h;cases h
 ·rw[iC a]at h;by_cases q:fL b=true
  ·rw[if_pos q]at h;obtain⟨e,f,g,i⟩:=fM.mp q;rw[← Option.some.inj h];exact⟨vd f e (by omega),by omega⟩
  ·rw[if_neg q]at h;cases h
structure vo(parts:List Bytes):Prop where
 len:parts.length≤100000
 each:∀b∈parts,b.length≤100000
inductive oy(Co Cn:Addr)(vs:List V)(H:Hp)(Q:VK)(E:XK):Prop
 |mk (p:Addr) (x y:Bytes) (ws:List Bytes) (h0_:vs=[.ref p]) (h1_:H p=some (.lst ((x::y::ws).map bg))) (h2_:vo (x::y::ws)) (h3_:∀v H',aI H H'→l_ Co Cn (M4 H) H' v (DM.wO (x::y::ws))→Q v H'):oy Co Cn vs H Q E
theorem yW(T:Top K mg t):Fn P w K mg base 3 "numbers_of" ["parts"] (oy t.aG t.aC):=by
 refine T.Bu.bC (N:=["parts","words","word"]) (fun nd f _ A outer s H _ Q E hr h=>?_);obtain⟨p,x,y,ws,rfl,Y,ok,k⟩:=h;rw[DM.jR]at k;have M:¬(isName x=true∧1≤ws.length∧ws.length≤40∧(ws.all fun w=>(readWord w).isSome)=true)→∀H',aI H H'→Q .bV H':=by intro h H' s;rw[if_neg h]at k;exact k .bV H' s Z
 have a1:=ok.len;simp only[length_cons]at a1;refine⟨_,(af (aH 1 nd (eT jE (pv 0) (d8 au) nA))
  (af (aM (PW.pt (jC (dJ (bJ (bq (iU T) (hr.mono (by decide)) (aa (bB a4 (pv 0) au (fun _ _=>rfl)) ai)))) (jC (az iX (aF aO Z T.cX boot_len (aa (pv 1) ai)) au (aB _)) (i5 (az mD (aF aO Z T.cX boot_len (aa (pv 1) ai)) (pk T.bw) (aB _)))))) (ah (ak a_)) aA)
  (af (aM (dJ (bJ (aF (Bb Z) Z T.Gn boot_all (aa (jB Z nd (bK (pv 1)) (b_ (own:=[("word",2)]) (by refine(show lZ ["parts","words","word"] (aL lr) _ _=true from ?_);decide +kernel)) (fun _ _ _ _ _=>(bI 2 nd)) (fun _ _ _ _ _=>eM) (fun _ _ _ _ _=>(bq (o_ T) hr (aa (pv 2) ai)))) ai)))) (ah (ak a_)) aA)
  (ah (ak (Og T.cD (uK T) hr (aa (bB a4 (pv 0) au (fun _ _=>rfl)) (aa (jB Z nd (bK (pv 1)) (b_ (own:=[("word",2)]) (by refine(show lZ ["parts","words","word"] (aL lr) _ _=true from ?_);decide +kernel)) (fun _ _ _ _ _=>(bI 2 nd)) (fun _ _ _ _ _=>eM) (fun _ _ _ _ _=>(eL ir Z T.Gp boot_int (aa (pv 2) ai)))) ai)))))))),?_⟩
 refine⟨_,Z,_,Z,p,_,Z,aT.of Y,fun B h1=>?_⟩;have F:kM ((x::y::ws).map bg) (some 2) none=ws.map bg:=qZ _ 2;rw[F];have s1:=aK (o:=.lst (ws.map bg)) h1;refine⟨_,Z,p,_,_,_,Z,Z,aT.of (s1 _ _ Y),a5 (j:=0) Z,x,Z,ok.each x (by simp),fun O s2=>⟨_,Z,?_⟩⟩;have n:=s1.trans s2;have c:O B=some (.lst (ws.map bg)):=s2 _ _ ae;refine gC (fun hn=>cJ (M (fun z=>by rw[z.1]at hn;cases hn) _ n)) (fun hn=>?_);have X:isName x=true:=by simpa using hn
 refine⟨_,Z,B,_,Z,.inl (aT.of c),_,_,Z,Z,_,Z,cS (fun W=>cJ (M (fun z=>?_) _ n)) (fun W=>?_)⟩
 ·rw[length_map]at W;have:=z.2.1;omega
 refine⟨_,Z,B,_,Z,.inl (aT.of c),_,_,Z,Z,_,Z,cS (fun S=>M (fun z=>?_) _ n) (fun S=>?_)⟩
 ·rw[length_map]at S;have:=z.2.2.1;omega
 rw[length_map]at W S;refine⟨_,Z,B,Z,⟨_,aT.of c⟩,fun D hD=>gg (K:=K) (a:=B) (xs:=ws.map bg) (fun i H'=>Kp [D] O H'∧H' D=some (.lst ((ws.take i).map fun w=>V.bl (readWord w).isSome))) ⟨Kp.new hD,ae⟩ (fun i H' _ e=>aT.of (e.1 _ _ c (by simp;exact aj c hD))) ?_ ?_⟩
 ·rintro i v H' d ⟨kp,m⟩;rw[getElem?_map]at d;cases hw:ws[i]? with
  |none=>rw[hw]at d;cases d
  |some b=>
   rw[hw]at d;cases d;have bL:=cn hw;refine⟨Z,sM ⟨_,Z,b,Z,ok.each b (by simp[mem_of_getElem? hw]),fun L J=>⟨_,J _ _ m,by rw[length_map,sizeLine_eq];omega,(kp.trans (Kp.of J)).trans (Kp.upd (by simp)),?_⟩⟩⟩;rw[ae,take_snoc hw,map_append];rfl
 ·rintro L ⟨kp,m⟩;rw[length_map,take_length]at m;have J:aI O L:=Kp.uI kp hD;have g:=n.trans J;refine⟨D,ws.map fun w=>(readWord w).isSome,Z,aT.of (by rw[m,map_map];rfl),_,Z,?_⟩;have ea:(ws.map fun w=>(readWord w).isSome).all id=ws.all fun w=>(readWord w).isSome:=by rw[all_map];rfl
  rw[ea];refine gC (fun ha=>M (fun z=>by rw[z.2.2.2]at ha;cases ha) _ g) (fun ha=>?_);have r:(ws.all fun w=>(readWord w).isSome)=true:=by simpa using ha
  rw[if_pos ⟨X,by omega,by omega,r⟩]at k;have u:=J _ _ c;refine⟨_,Z,p,_,_,_,Z,Z,aT.of (g _ _ Y),a5 (j:=0) Z,_,Z,B,Z,⟨_,aT.of u⟩,fun C l=>gg (K:=K) (a:=B) (xs:=ws.map bg) (fun i H'=>H'=upd L C (.lst ((ws.take i).map fun w=>V.int ((readWord w).getD 0)))) Z (fun i H' _ e=>by rw[e];exact aT.of ((aK l) _ _ u)) ?_ ?_⟩
  ·rintro i v H' d rfl;rw[getElem?_map]at d;cases hw:ws[i]? with
   |none=>rw[hw]at d;cases d
   |some b=>
    rw[hw]at d;cases d;have bL:=cn hw;have hb:=all_eq_true.mp r b (mem_of_getElem? hw);obtain⟨z,hz⟩:=Option.isSome_iff_exists.mp hb;obtain⟨U,a2⟩:=JS hz;refine⟨Z,sM ⟨_,Z,_,z,Z,U,by rw[cg];omega,_,ae,by rw[length_map,sizeLine_eq];omega,?_⟩⟩;rw[a9,take_snoc hw,map_append];show _=upd L C (.lst (_++[V.int ((readWord b).getD 0)]));rw[hz];rfl
  ·rintro H' rfl;rw[length_map,take_length];intro a R ha I b1;refine⟨a,R,C,x,Z,ae,Z,k (.ref a) _ ((g.trans (aK l)).trans (M1 ha I)) ⟨a,Z,(g.trans (aK l)).free ha,R,C,g.free l,ae,?_⟩⟩;have q:C≠a:=aj ae ha;have G:C≠R:=aj ae I;rw[aw q,aw q,aw G,ae,map_map];rfl
def Ry(H:Hp)(v:V):Option Operand→Prop
 |none=>v=.bV
 |some o=>∃a,v=.ref a∧H a=some (.tup [bg (F9 o),.int (num o:Nat)])
theorem sg(s:UInt8):∀{b x k:Bytes},part1 s b=some (x,k)→b=x++s::k
 |[],x,k,h=>by cases h
 |c::r,x,k,h=>by
  unfold part1 at h;by_cases a:c=s
  ·rw[if_pos a]at h;cases h;rw[a];rfl
  ·rw[if_neg a]at h;cases e:part1 s r with
   |none=>rw[e]at h;cases h
   |some p=>
    rw[e]at h;cases h;have:=sg s (b:=r) (x:=p.1) (k:=p.2) e;rw[this];rfl
theorem F3(h:(43:UInt8)∈k)(lo b:Nat):small lo b k=none:=by rw[qI,if_neg];rintro⟨q,_⟩;obtain⟨_,a,_⟩:=fM.mp q;exact absurd (all_eq_true.mp a 43 h) (by decide)
theorem IZ(b:Bytes):wordIn b=match part1 43 b with
  |none=>if isName b=true then some (.word b 0)else none
  |some (x,k)=>if isName x=true then(small 1 39 k).map fun n=>.word x n else none:=by
 unfold wordIn;rw[mF];cases e:part1 43 b with
 |none=>rfl
 |some p=>
  obtain⟨x,k⟩:=p;simp only;rw[mF 43 k];cases d:part1 43 k with
  |none=>rfl
  |some g=>
   obtain⟨h,a⟩:=g;have f:=sg 43 d;have hm:(43:UInt8)∈k:=by rw[f];simp
   rw[F3 hm];have:Drum.split 43 a≠[]:=eU 43 a;cases c:Drum.split 43 a with
   |nil=>exact absurd c this
   |cons y i=>
    simp only[c];simp
inductive lW(vs:List V)(H:Hp)(Q:VK)(E:XK):Prop
 |mk (b:Bytes) (h0_:vs=[bg b]) (h1_:b.length≤100000) (h2_:∀v H',aI H H'→Ry H' v (wordIn b)→Q v H'):lW vs H Q E
theorem uY(T:Top K mg t):Fn P w K mg base 3 "word_operand" ["part"] (lW):=by
 refine T.vY.bC (N:=["part","pieces","name","which"]) (fun nd f _ A outer s H _ Q E C h=>?_);obtain⟨b,rfl,J,k⟩:=h;rw[IZ]at k;have L:(sB b).length≤sizeLine:=by rw[cg,sizeLine_eq];omega
 refine⟨_,(af (aH 1 nd (B8 (pv 0) aZ))
  (af (aH 2 nd (bB kT (pv 1) au (fun _ _=>rfl)))
  (af (aH 3 nd (bB kT (pv 1) au (fun _ _=>rfl)))
  (af (aM (dJ (bJ (bq (iU T) (C.mono (by decide)) (aa (pv 2) ai)))) (ah (ak a_)) aA)
  (af (aM (az bN (pv 2) (pv 0) (aB _)) (ah (ak (fk (aa (pv 2) (aa au ai))))) aA)
  (af (aM (dJ (bJ (bq (iV T) C (aa (pv 3) (aa au (aa (aN iY (pk T.bw) au) ai)))))) (ah (ak a_)) aA)
  (ah (ak (fk (aa (pv 2) (aa (eL ir Z T.Gp boot_int (aa (pv 3) ai)) ai))))))))))),?_⟩
 refine⟨_,Z,⟨_,Z⟩,_,_,Z,Z,Z,L,fun m y=>?_⟩;rw[show Str.ofString "+"=sB [43]from Z,B7];cases e:part1 43 b with
 |none=>
  rw[e]at k;simp only at k ⊢;have g:=aK (o:=.tup [.str (sB b),.str (sB []),.str (sB [])]) y;refine⟨_,Z,m,_,_,_,Z,Z,h9.of ae,a5 (j:=0) Z,?_⟩;refine⟨_,Z,m,_,_,_,Z,Z,h9.of ae,a5 (j:=2) Z,?_⟩;refine⟨_,Z,b,Z,J,fun n i=>⟨_,Z,gC (fun hn=>?_) (fun hn=>?_)⟩⟩
  ·rw[if_neg (fun z=>by rw[z]at hn;cases hn)]at k;exact k .bV n (g.trans i) Z
  ·have c:isName b=true:=by simpa using hn
   rw[if_pos c]at k;refine⟨_,Z,_,Z,Z,_,Z,fE (fun _=>?_) (fun q=>absurd Z q)⟩;refine⟨_,Z,by show 2≤sizeLine;decide,fun l p=>k (.ref l) _ ((g.trans i).trans (aK p)) ⟨l,Z,ae⟩⟩
 |some q=>
  obtain⟨x,a⟩:=q;rw[e]at k;simp only at k ⊢;have r:=sg 43 e;have B:b.length=x.length+1+a.length:=by rw[r,length_append,length_cons];omega
  have g:=aK (o:=.tup [.str (sB x),.str (sB [43]),.str (sB a)]) y;refine⟨_,Z,m,_,_,_,Z,Z,h9.of ae,a5 (j:=0) Z,?_⟩;refine⟨_,Z,m,_,_,_,Z,Z,h9.of ae,a5 (j:=2) Z,?_⟩;refine⟨_,Z,x,Z,by omega,fun n i=>⟨_,Z,gC (fun hn=>?_) (fun hn=>?_)⟩⟩
  ·rw[if_neg (fun z=>by rw[z]at hn;cases hn)]at k;exact k .bV n (g.trans i) Z
  ·have c:isName x=true:=by simpa using hn
   rw[if_pos c]at k;refine⟨_,Z,_,Z,Z,_,Z,fE (fun q=>?_) (fun q=>?_)⟩
   ·have:=congrArg List.length (fu.mp q);omega
   ·refine⟨_,Z,_,_,Z,Z,a,1,39,Z,by omega,fun F D=>⟨_,Z,gC (fun v=>?_) (fun v=>?_)⟩⟩
    ·have G:small 1 39 a=none:=by simpa using v
     rw[G]at k;exact k .bV F ((g.trans i).trans D) Z
    ·have d:(small 1 39 a).isSome=true:=by simpa using v
     rw[qI]at d k;by_cases u:fL a=true∧1≤numberOf a∧numberOf a≤39
     ·rw[if_pos u]at k;obtain⟨I,g2,g3,M⟩:=fM.mp u.1;refine⟨_,Z,_,Z,_,_,Z,vd g2 I (by omega),by rw[cg];omega,by show 2≤sizeLine;decide,fun l p=>k (.ref l) _ (((g.trans i).trans D).trans (aK p)) ⟨l,Z,ae⟩⟩
     ·rw[if_neg u]at d;cases d
theorem P_:yi c="none"↔sortOf c=0:=by
 unfold yi;by_cases a:sortOf c=0
 ·rw[if_pos a];exact⟨fun _=>a,fun _=>rfl⟩
 ·rw[if_neg a];refine⟨fun h=>?_,fun h=>absurd h a⟩;by_cases b:sortOf c=1
  ·rw[if_pos b]at h;exact absurd h (by decide +kernel)
  ·rw[if_neg b]at h;by_cases d:sortOf c=2
   ·rw[if_pos d]at h;exact absurd h (by decide +kernel)
   ·rw[if_neg d]at h;exact absurd h (by decide +kernel)
theorem Mh:yi c="word"↔sortOf c=1:=by
 unfold yi;by_cases b:sortOf c=0
 ·rw[if_pos b];exact⟨fun h=>absurd h (by decide +kernel),fun h=>by omega⟩
 ·rw[if_neg b];by_cases a:sortOf c=1
  ·rw[if_pos a];exact⟨fun _=>a,fun _=>rfl⟩
  ·rw[if_neg a];refine⟨fun h=>?_,fun h=>absurd h a⟩;by_cases d:sortOf c=2
   ·rw[if_pos d]at h;exact absurd h (by decide +kernel)
   ·rw[if_neg d]at h;exact absurd h (by decide +kernel)
theorem Mj:yi c="jump"↔sortOf c=2:=by
 unfold yi;by_cases b:sortOf c=0
 ·rw[if_pos b];exact⟨fun h=>absurd h (by decide +kernel),fun h=>by omega⟩
 ·rw[if_neg b];by_cases d:sortOf c=1
  ·rw[if_pos d];exact⟨fun h=>absurd h (by decide +kernel),fun h=>by omega⟩
  ·rw[if_neg d];by_cases a:sortOf c=2
   ·rw[if_pos a];exact⟨fun _=>a,fun _=>rfl⟩
   ·rw[if_neg a];exact⟨fun h=>absurd h (by decide +kernel),fun h=>absurd h a⟩
inductive lS(vs:List V)(H:Hp)(Q:VK)(E:XK):Prop
 |mk (c:Nat) (p:Addr) (r:List Bytes) (h0_:vs=[.str (yi c),.ref p]) (h1_:H p=some (.lst (r.map bg))) (h2_:vo r) (h3_:∀v H',aI H H'→Ry H' v (bT c r)→Q v H'):lS vs H Q E
theorem uV(T:Top K mg t):Fn P w K mg base 4 "read_operand" ["sort","parts"] (lS):=by
 refine T.vT.bC (N:=["sort","parts"]) (fun nd f _ A outer s H _ Q E v h=>?_);obtain⟨c,p,r,rfl,g,ok,k⟩:=h;refine⟨_,(af (aM (az bN (pv 0) aZ (aB _)) (ah (ak (dS (az bN (aF aO Z T.cX boot_len (aa (pv 1) ai)) au (aB _)) (fk (aa aZ (aa au ai))) a_))) aA)
  (af (aM (az d6 (aF aO Z T.cX boot_len (aa (pv 1) ai)) au (aB _)) (ah (ak a_)) aA)
  (af (aM (az bN (pv 0) aZ (aB _)) (ah (ak (bq (uY T) v (aa (bB a4 (pv 1) au (fun _ _=>rfl)) ai)))) aA)
  (af (aM (az bN (pv 0) aZ (aB _)) (ah (ak (dS (bJ (bq (iU T) (v.mono (by decide)) (aa (bB a4 (pv 1) au (fun _ _=>rfl)) ai))) (fk (aa (bB a4 (pv 1) au (fun _ _=>rfl)) (aa au ai))) a_))) aA)
  (ah (ak (dS (bJ (bq (iV T) (v.mono (by decide)) (aa (bB a4 (pv 1) au (fun _ _=>rfl)) (aa au (aa (pk T.mh) ai))))) (fk (aa aZ (aa (eL ir Z T.Gp boot_int (aa (bB a4 (pv 1) au (fun _ _=>rfl)) ai)) ai))) a_))))))),?_⟩
 refine⟨_,Z,Z,_,Z,fE (fun n=>?_) (fun n=>?_)⟩
 ·have l:=P_.mp n;rw[DM.dW l]at k;refine⟨_,Z,p,_,Z,.inl (aT.of g),Z,_,Z,gx (fun a=>?_) (fun a=>?_)⟩
  ·have m:r=[]:=by rw[length_map]at a;exact length_eq_zero_iff.mp (by omega)
   rw[if_pos m]at k;exact⟨by show 2≤sizeLine;decide,fun d b=>k (.ref d) _ (aK b) ⟨d,Z,ae⟩⟩
  ·have m:¬r=[]:=fun q=>a (by rw[q];rfl);rw[if_neg m]at k;exact k .bV H (aI.refl H) Z
 ·have B:¬sortOf c=0:=fun q=>n (P_.mpr q);refine⟨_,Z,p,_,Z,.inl (aT.of g),Z,_,Z,iO (fun a=>?_) (fun a=>?_)⟩
  ·have e:bT c r=none:=by
    match r,a with
    |[],_=>exact DM.iz B
    |[x],a=>exact absurd Z a
    |x::y::C,_=>exact DM.eS c x y C
   rw[e]at k;exact k .bV H (aI.refl H) Z
  ·obtain⟨x,rfl⟩:∃x,r=[x]:=by
    match r,a with
    |[x],_=>exact⟨x,Z⟩
    |[],a=>exact absurd a (by decide)
    |x::y::C,a=>rw[length_map]at a;simp at a;omega
   rw[DM.iA B]at k;have z:=ok.each x (by simp);unfold DM.b4 at k;refine⟨_,Z,Z,_,Z,fE (fun o=>?_) (fun o=>?_)⟩
   ·rw[if_pos (Mh.mp o)]at k;exact⟨_,Z,p,_,_,_,Z,Z,aT.of g,a5 (j:=0) Z,x,Z,z,k⟩
   ·rw[if_neg (fun q=>o (Mh.mpr q))]at k;refine⟨_,Z,Z,_,Z,fE (fun b=>?_) (fun b=>?_)⟩
    ·rw[if_pos (Mj.mp b)]at k;refine⟨_,Z,p,_,_,_,Z,Z,aT.of g,a5 (j:=0) Z,x,Z,z,fun H1 i=>⟨_,Z,gC (fun hn=>?_) (fun hn=>?_)⟩⟩
     ·rw[if_pos hn]at k;exact⟨_,Z,p,_,_,_,Z,Z,aT.of (i _ _ g),a5 (j:=0) Z,by show 2≤sizeLine;decide,fun d b=>k (.ref d) _ (i.trans (aK b)) ⟨d,Z,ae⟩⟩
     ·rw[if_neg (by rw[hn];decide)]at k;exact k .bV H1 i Z
    ·rw[if_neg (fun q=>b (Mj.mpr q))]at k;refine⟨_,Z,p,_,_,_,Z,Z,aT.of g,a5 (j:=0) Z,x,0,20,Z,z,fun H1 i=>⟨_,Z,gC (fun hn=>?_) (fun hn=>?_)⟩⟩
     ·rw[qI]at hn k;by_cases u:fL x=true∧0≤numberOf x∧numberOf x≤20
      ·rw[if_pos u]at k;obtain⟨D,g2,g3,F⟩:=fM.mp u.1;exact⟨_,Z,p,_,_,_,Z,Z,aT.of (i _ _ g),a5 (j:=0) Z,_,_,Z,vd g2 D (by omega),by rw[cg];omega,by show 2≤sizeLine;decide,fun d b=>k (.ref d) _ (i.trans (aK b)) ⟨d,Z,ae⟩⟩
      ·rw[if_neg u]at hn;cases hn
     ·have l:small 0 20 x=none:=by simpa using hn
      rw[l]at k;exact k .bV H1 i Z
theorem kY{f:Option Name}(h:DS f):sB (f.getD [])=Str.ofString ""↔f=none:=by
 cases f with
 |none=>exact⟨fun _=>rfl,fun _=>rfl⟩
 |some x=>
  refine⟨fun e=>?_,fun e=>by cases e⟩;have:x=[]:=fu.mp (show sB x=sB []from e);exact absurd this (ql h)
inductive ot(Co Cn:Addr)(vs:List V)(H:Hp)(Q:VK)(E:XK):Prop
 |mk (n f:Option Name) (p:Addr) (P:List Bytes) (h0_:vs=[bg (n.getD []),.ref p,bg (f.getD [])]) (h1_:H p=some (.lst (P.map bg))) (h2_:vo P) (h3_:DS f) (h4_:∀v H',aI H H'→l_ Co Cn (M4 H) H' v (h_ n P f)→Q v H'):ot Co Cn vs H Q E
theorem yT(T:Top K mg t):Fn P w K mg base 5 "bare_order" ["name","parts","follow"] (ot t.aG t.aC):=by
 refine T.Bo.bC (N:=["name","parts","follow","code","operand"]) (fun nd f _ A outer s H _ Q E B h=>?_);obtain⟨n,fo,p,P,rfl,L,ok,hf,k⟩:=h;refine⟨_,(af (aM (az bN (aF aO Z T.cX boot_len (aa (pv 1) ai)) au (aB _)) (ah (ak a_)) aA)
  (af (aH 3 nd (bq (o7 T) (B.mono (by decide)) (aa (bB a4 (pv 1) au (fun _ _=>rfl)) ai)))
  (af (aM (PW.pt (jC (az xj (pv 3) a_ (aB _)) (i5 (PW.pt (fq (az bN (pv 3) (pk T.vv) (aB _)) (d9 (az d6 (pv 2) aZ (aB _)))))))) (ah (ak a_)) aA)
  (af (aH 4 nd (bq (uV T) B (aa (bq (dU T) (B.mono (by decide)) (aa (pv 3) ai)) (aa (eT jE (pv 1) (d8 au) nA) ai))))
  (af (aM (az xj (pv 4) a_ (aB _)) (ah (ak a_)) aA)
  (ah (ak (Og T.a6 (yP T) (B.mono (by decide)) (aa (pv 0) (aa (pv 3) (aa (bB kT (pv 4) au (fun _ _=>rfl)) (aa (bB kT (pv 4) au (fun _ _=>rfl)) (aa (pv 2) ai))))))))))))),?_⟩
 refine⟨_,Z,p,_,Z,.inl (aT.of L),Z,_,Z,gx (fun J=>?_) (fun J=>?_)⟩
 ·have S:P=[]:=by rw[length_map]at J;exact length_eq_zero_iff.mp (by omega)
  subst S;exact k .bV H (aI.refl H) Z
 ·obtain⟨x,r,rfl⟩:∃x r,P=x::r:=by
   cases P with
   |nil=>exact absurd Z J
   |cons x r=>exact⟨x,r,Z⟩
  rw[DM.dB]at k;refine⟨_,Z,p,_,_,_,Z,Z,aT.of L,a5 (j:=0) Z,x,Z,fun H1 C=>?_⟩;dsimp only[eR];cases D:Drum.codeOf x with
  |none=>
   rw[D]at k;exact⟨_,Z,Z,_,Z,cS (fun _=>cJ (k .bV H1 C Z)) (fun q=>absurd Z q)⟩
  |some c=>
   rw[D]at k;have X:=DM.pT D;have k:∀v H',aI H H'→l_ t.aG t.aC (M4 H) H' v (if c=0∧fo.isSome=true then none else(bT c r).map fun o=>Item.order n c o fo)→Q v H':=k;refine gY fun R W=>?_;have d:¬(c=0∧fo.isSome=true)→R [some (bg (n.getD [])),some (.ref p),some (bg (fo.getD [])),some (.int (c:Nat)),none] H1:=by
    intro F;rw[if_neg F]at k;rw[W];refine⟨_,Z,c,Z,X,_,Z,_,Z,p,_,Z,aT.of (C _ _ L),fun p1 V=>?_⟩;have i:kM ((x::r).map bg) (some 1) none=r.map bg:=qZ _ 1;rw[i];have s2:=C.trans (aK (o:=.lst (r.map bg)) V);refine⟨c,p1,r,Z,ae,⟨by have:=ok.len;simp at this;omega,fun b u=>ok.each b (mem_cons_of_mem _ u)⟩,fun v O s3 y=>?_⟩;dsimp only[eR];have g:=s2.trans s3;cases m:bT c r with
    |none=>
     rw[m]at y k;have U:v=.bV:=y;subst U;exact⟨_,Z,Z,_,Z,cS (fun _=>k .bV O g Z) (fun q=>absurd Z q)⟩
    |some o=>
     rw[m]at y k;obtain⟨a,rfl,ha⟩:=y;refine⟨_,Z,Z,_,Z,cS (fun q=>nomatch q) (fun _=>?_)⟩;refine⟨_,Z,_,Z,_,Z,a,_,_,_,Z,Z,h9.of ha,a5 (j:=0) Z,_,Z,a,_,_,_,Z,Z,h9.of ha,a5 (j:=1) Z,_,Z,?_⟩;intro b M u G Y;refine⟨b,M,n.getD [],c,F9 o,num o,fo.getD [],Z,ae,Z,k (.ref b) _ (g.trans (M1 u G)) ⟨b,Z,g.free u,M,ae⟩⟩
   refine⟨_,Z,Z,_,Z,cS (fun q=>nomatch q) (fun _=>⟨_,Z,Z,_,Z,gx (fun l=>⟨_,Z,Z,_,Z,kS (fun e=>?_) (fun e=>?_)⟩) (fun l=>cB (d (fun z=>l (by rw[z.1];rfl))))⟩)⟩
   ·have I:fo.isSome=true:=by
     cases fo with
     |none=>exact absurd Z e
     |some _=>rfl
    rw[if_pos ⟨by omega,I⟩]at k;exact k .bV H1 C Z
   ·refine d fun z=>?_;rw[(kY hf).mp e]at z;cases z.2
theorem MZ{a:TS}{b:L2.St}{H:Hp}(h:a D (b.set i (some v)) H):ED (IJ (tC v) (eR i)) a D b H:=h
theorem AO{a:Type}(xs:List a)(j:Nat)(h:0<j)(b:j≤xs.length):EZ xs (-(j:Int))=xs[xs.length-j]?:=by unfold EZ JV;rw[if_neg (by omega),if_pos (by omega)];show xs[(-(j:Int)+xs.length).toNat]?=_;congr 1;omega
theorem Lb(xs:List V)(j:Nat)(h:0<j):kM xs none (some (-(j:Int)))=xs.take (xs.length-j):=by
 unfold kM;have e:HT.gz xs.length xs.length (some (-(j:Int)))=xs.length-j:=by show(if(-(j:Int))<0 then(-(j:Int)+(xs.length:Int)).toNat else min (-(j:Int)).toNat xs.length)=_;rw[if_pos (by omega)];omega
 rw[e,HT.qF,drop_zero,Nat.sub_zero]
inductive mY(Co Cn:Addr)(vs:List V)(H:Hp)(Q:VK)(E:XK):Prop
 |mk (p:Addr) (x:Bytes) (r:List Bytes) (h0_:vs=[.ref p]) (h1_:H p=some (.lst ((x::r).map bg))) (h2_:vo (x::r)) (h3_:∀v H',aI H H'→l_ Co Cn (M4 H) H' v (xq (x::r))→Q v H'):mY Co Cn vs H Q E
theorem D3(T:Top K mg t):Fn P w K mg base 6 "order_of" ["parts"] (mY t.aG t.aC):=by
 refine T.Fp.bC (N:=["parts","name","follow"]) (fun nd f _ A outer s H _ Q E hr h=>?_);obtain⟨p,x,r,rfl,U,ok,k⟩:=h;have hx:=ok.each x (by simp);refine⟨_,(af (aH 1 nd aZ)
  (af (aH 2 nd aZ)
  (af (aM (bJ (Ec F.slot_str_endswith F.type_str_endswith DL (bB a4 (pv 0) au (fun _ _=>rfl)) aZ)) (af (aH 1 nd (eT KB (bB a4 (pv 0) au (fun _ _=>rfl)) nA (d8 (kg gJ au))))
  (af (aH 0 nd (eT jE (pv 0) (d8 au) nA))
  (ah (aM (dJ (bJ (bq (iU T) (hr.mono (by decide)) (aa (pv 1) ai)))) (ah (ak a_)) aA)))) aA)
  (af (aM (PW.pt (fq (az n8 (aF aO Z T.cX boot_len (aa (pv 0) ai)) au (aB _)) (d9 (az bN (bB a4 (pv 0) (kg gJ au) (fun _ _=>rfl)) aZ (aB _))))) (af (aH 2 nd (bB a4 (pv 0) (kg gJ au) (fun _ _=>rfl)))
  (af (aH 0 nd (eT jE (pv 0) nA (d8 (kg gJ au))))
  (ah (aM (dJ (bJ (bq (iU T) (hr.mono (by decide)) (aa (pv 2) ai)))) (ah (ak a_)) aA)))) aA)
  (ah (ak (bq (yT T) hr (aa (pv 1) (aa (pv 0) (aa (pv 2) ai)))))))))),?_⟩
 refine MZ (MZ ?_);refine gY fun K1 hK=>?_;have B:∀(n:Option Name) (l:Addr) (H1:Hp) (P:List Bytes),aI H H1→H1 l=some (.lst (P.map bg))→vo P→(∀v H',aI H H'→l_ t.aG t.aC (M4 H) H' v (bz n P)→Q v H')→K1 [some (.ref l),some (bg (n.getD [])),some (bg [])] H1:=by
  intro n l H1 P I d i k;rw[hK];refine gY fun K2 Y=>?_;have c:∀(f:Option Name) (G:Addr) (C:Hp) (J:List Bytes),aI H C→C G=some (.lst (J.map bg))→vo J→DS f→bz n P=h_ n J f→K2 [some (.ref G),some (bg (n.getD [])),some (bg (f.getD []))] C:=by intro f G C J u D b1 hf e;rw[Y];refine⟨_,Z,_,Z,_,Z,n,f,G,J,Z,D,b1,hf,fun v S R hv=>k v S (u.trans R) ?_⟩;rw[e];exact hv.mono fun b M=>u.free M
  have a:(P.map bg).length=P.length:=length_map _;refine⟨_,Z,l,_,Z,.inl (aT.of d),_,_,Z,Z,_,Z,cS (fun X=>?_) (fun X=>cB (c none l H1 P I d i trivial ?_))⟩
  ·have L:2≤P.length:=by rw[a]at X;omega
   obtain⟨y,hy⟩:∃y,P[P.length-2]?=some y:=⟨_,getElem?_eq_getElem (by omega)⟩;have a1:EZ (P.map bg) (-2)=some (bg y):=by have:=AO (P.map bg) 2 (by decide) (by rw[a];exact L);rw[a,getElem?_map,hy]at this;exact this
   obtain⟨z,O⟩:∃z,P[P.length-1]?=some z:=⟨_,getElem?_eq_getElem (by omega)⟩;have a2:EZ (P.map bg) (-1)=some (bg z):=by have:=AO (P.map bg) 1 (by decide) (by rw[a];omega);rw[a,getElem?_map,O]at this;exact this
   have ez:P.getLastD []=z:=by rw[List.getLastD_eq_getLast?,List.getLast?_eq_getElem?,O];rfl
   refine⟨_,Z,_,Z,l,_,_,_,Z,Z,aT.of d,a1,Z,_,Z,fE (fun he=>?_) (fun he=>c none l H1 P I d i trivial ?_)⟩
   ·have ey:y=[45,62]:=fu.mp he;subst ey;have V:bz n P=if isName z=true then h_ n (P.take (P.length-2)) (some z)else none:=by unfold bz;rw[if_pos ⟨L,hy⟩,ez]
    refine⟨_,Z,_,Z,l,_,_,_,Z,Z,aT.of d,a2,?_⟩;refine⟨_,Z,_,Z,_,Z,l,_,Z,aT.of d,fun G D=>?_⟩;have g:kM (P.map bg) none (some (-2))=(P.take (P.length-2)).map bg:=by have:=Lb (P.map bg) 2 (by decide);rw[a]at this;rw[map_take];exact this
    rw[g];have u:=I.trans (aK (o:=.lst ((P.take (P.length-2)).map bg)) D);refine⟨_,Z,z,Z,i.each z (mem_of_getElem? O),fun S R=>⟨_,Z,gC (fun hn=>?_) (fun hn=>?_)⟩⟩
    ·rw[V,if_neg (fun q=>by rw[q]at hn;cases hn)]at k;exact k .bV S (u.trans R) Z
    ·have m:isName z=true:=by simpa using hn
     rw[if_pos m]at V;exact c (some z) G S _ (u.trans R) (R _ _ ae) ⟨by have:=i.len;rw[length_take];omega,fun b M=>i.each b (List.mem_of_mem_take M)⟩ m V
   ·unfold bz;rw[if_neg];rintro⟨_,q⟩;rw[hy]at q;exact he (by rw[Option.some.inj q];rfl)
  ·unfold bz;rw[if_neg];rintro⟨q,_⟩;rw[a]at X;omega
 refine⟨_,Z,p,_,_,_,Z,Z,aT.of U,a5 (j:=0) Z,⟨_,Z⟩,_,_,Z,Z,_,Z,?_⟩;rw[show Str.ofString ":"=sB [58]from Z,Lf];refine cS (fun hc=>?_) (fun hc=>?_)
 ·have W:xq (x::r)=if isName x.dropLast=true then bz (some x.dropLast) r else none:=by show(if x.getLast?=some 58 then _ else _)=_;rw[if_pos hc]
  rw[W]at k;have O:(sB x).length≤sizeLine:=by rw[cg,sizeLine_eq];omega
  refine⟨_,Z,p,_,_,_,Z,Z,aT.of U,a5 (j:=0) Z,_,Z,_,Z,_,Z,O,?_⟩;have e1:=Hv x;rw[e1];refine⟨_,Z,_,Z,p,_,Z,aT.of U,fun l h1=>?_⟩;have g:kM ((x::r).map bg) (some 1) none=r.map bg:=qZ _ 1;rw[g];have I:=aK (o:=.lst (r.map bg)) h1;refine⟨_,Z,x.dropLast,Z,by rw[length_dropLast];omega,fun C u=>⟨_,Z,gC (fun hn=>?_) (fun hn=>?_)⟩⟩
  ·rw[if_neg (fun q=>by rw[q]at hn;cases hn)]at k;exact k .bV C (I.trans u) Z
  ·have m:isName x.dropLast=true:=by simpa using hn
   rw[if_pos m]at k;exact B (some x.dropLast) l C r (I.trans u) (u _ _ ae) ⟨by have:=ok.len;simp at this;omega,fun b M=>ok.each b (mem_cons_of_mem _ M)⟩ k
 ·have W:xq (x::r)=bz none (x::r):=by show(if x.getLast?=some 58 then _ else _)=_;rw[if_neg hc]
  rw[W]at k;exact B none p H (x::r) (aI.refl H) U ok k
theorem split_len(s:UInt8):∀b:Bytes,(Drum.split s b).length≤b.length+1∧∀x∈Drum.split s b,x.length≤b.length
 |[]=>⟨Nat.le_refl _,fun x a=>by rw[mem_singleton.mp a];exact Nat.le_refl _⟩
 |c::r=>by
  obtain⟨e,d⟩:=split_len s r;by_cases h:c=s
  ·subst h;rw[de];refine⟨by simp;omega,fun x a=>?_⟩;rcases mem_cons.mp a with rfl|a
   ·exact Nat.zero_le _
   ·have:=d x a;simp;omega
  ·obtain⟨hd,t',f,g⟩:=cF h r;rw[f]at e d;rw[g];refine⟨by simp at e ⊢;omega,fun x a=>?_⟩;rcases mem_cons.mp a with rfl|a
   ·have:=d hd (mem_cons_self ..);simp;omega
   ·have:=d x (mem_cons_of_mem _ a);simp;omega
inductive lM(Co Cn:Addr)(vs:List V)(H:Hp)(Q:VK)(E:XK):Prop
 |mk (b:Bytes) (h0_:vs=[bg b]) (h1_:b.length≤50000) (h2_:∀v H',aI H H'→l_ Co Cn (M4 H) H' v (lineIn b)→Q v H'):lM Co Cn vs H Q E
theorem uQ(T:Top K mg t):Fn P w K mg base 7 "item_of_line" ["line"] (lM t.aG t.aC):=by
 refine T.vM.bC (N:=["line","parts"]) (fun nd f _ A outer s H _ Q E B h=>?_);obtain⟨b,rfl,O,k⟩:=h;rw[← DM.JU]at k;have M:(sB b).length+2≤sizeLine:=by rw[cg,sizeLine_eq];omega
 obtain⟨J,l⟩:=split_len 32 b;refine⟨_,(af (aH 1 nd (Ed (pv 0) aZ))
  (af (aM (PW.pt (fq (az n8 (aF aO Z T.cX boot_len (aa (pv 1) ai)) au (aB _)) (d9 (az bN (bB a4 (pv 1) au (fun _ _=>rfl)) aZ (aB _))))) (ah (ak (bq (yW T) (B.mono (by decide)) (aa (pv 1) ai)))) aA)
  (ah (ak (bq (D3 T) B (aa (pv 1) ai)))))),?_⟩
 refine⟨_,Z,⟨_,Z⟩,_,_,Z,Z,Z,M,fun p L=>?_⟩;rw[show Str.ofString " "=sB [32]from Z,Ex,map_map];generalize I:Drum.split 32 b=P at*;have m:P≠[]:=by rw[← I];exact eU 32 b
 obtain⟨x,r,rfl⟩:∃x r,P=x::r:=by
  cases P with
  |nil=>exact absurd Z m
  |cons x r=>exact⟨x,r,Z⟩
 have F:=aK (o:=.lst ((x::r).map bg)) L;have ok:vo (x::r):=⟨by omega,fun y u=>by have:=l y u;omega⟩;have C:∀v H',aI (upd H p (.lst ((x::r).map bg))) H'→∀o,zZ (x::r)=o→l_ t.aG t.aC (M4 (upd H p (.lst ((x::r).map bg)))) H' v o→Q v H':=fun v H' s o e c=>k v H' (F.trans s) (by rw[e];exact c.mono fun y u=>F.free u);have ord:¬(2≤(x::r).length∧(x::r)[1]?=some [61])→∀D:Ends,D.rt=Q→Cq (Oh (mY t.aG t.aC) (jL (pH 1) u0)) D [some (bg b),some (.ref p)] (upd H p (.lst ((x::r).map bg))):=by intro n D hD;subst hD;refine⟨_,Z,p,x,r,Z,ae,ok,fun v H' s c=>C v H' s _ ?_ c⟩;unfold zZ;rw[if_neg n]
 refine⟨_,Z,p,_,Z,.inl (aT.of ae),_,_,Z,Z,_,Z,cS (fun g=>?_) (fun g=>cB (ord ?_ _ Z))⟩
 ·have z:((x::r).map bg).length=(x::r).length:=length_map _;obtain⟨y,d,rfl⟩:∃y d,r=y::d:=by
   cases r with
   |nil=>have a:(2:Int)≤(((x::([]:List Bytes)).map bg).length:Int):=g;simp at a
   |cons y d=>exact⟨y,d,Z⟩
  refine⟨_,Z,p,_,_,_,Z,Z,aT.of ae,a5 (j:=1) Z,Z,_,Z,fE (fun i=>?_) (fun i=>ord ?_ _ Z)⟩
  ·have G:y=[61]:=fu.mp i;refine⟨_,Z,p,x,y,d,Z,ae,ok,fun v H' s c=>C v H' s _ ?_ c⟩;unfold zZ;rw[if_pos ⟨by simp,by rw[G];rfl⟩]
  ·rintro⟨_,q⟩;exact i (by rw[show y=[61]from Option.some.inj q];rfl)
 ·rintro⟨q,_⟩;have a:¬(2:Int)≤(((x::r).map bg).length:Int):=g;rw[length_map]at a;omega
structure gA(Co Cn:Addr)(F:Addr→Prop)(H:Hp)(vs:List V)(rows:List (Option Item)):Prop where
 len:vs.length=rows.length
 each:∀(k:Nat) (o:Option Item),rows[k]?=some o→∃v,vs[k]?=some v∧l_ Co Cn F H v o
theorem gA.kp(h:gA b a F H vs rows)(k:Kp l H H')(g:∀x,F x→(∃o,H x=some o)→x∉l)(f:∀x,F x→c x):gA b a c H' vs rows:=
 ⟨h.len,fun i o e=>let⟨v,d,q⟩:=h.each i o e;⟨v,d,q.kp k g f⟩⟩
theorem gA.snoc(h:gA c b F H vs rows)(g:l_ c b F H v o):gA c b F H (vs++[v]) (rows++[o]):=by
 refine⟨by rw[length_append,length_append,h.len];rfl,fun k i e=>?_⟩;by_cases d:k<rows.length
 ·rw[List.getElem?_append_left d]at e;obtain⟨w,f,q⟩:=h.each k i e;exact⟨w,by rw[List.getElem?_append_left (by rw[h.len];exact d)];exact f,q⟩
 ·have a:k=rows.length:=by have:=(List.getElem?_eq_some_iff.mp e).1;rw[length_append]at this;simp at this;omega
  subst a;rw[List.getElem?_append_right (Nat.le_refl _),Nat.sub_self]at e;cases e;exact⟨v,by rw[List.getElem?_append_right (by rw[h.len];exact Nat.le_refl _),h.len,Nat.sub_self];rfl,g⟩
inductive lU(Co Cn:Addr)(vs:List V)(H:Hp)(Q:VK)(E:XK):Prop
 |mk (p:Addr) (b:Bytes) (h0_:vs=[.ref p]) (h1_:H p=some (.lst (b.map fun c=>V.int (c.toNat:Nat)))) (h2_:b.length≤40000) (h3_:∀q H' ws,aI H H'→H q=none→H' q=some (.lst ws)→gA Co Cn (fun x=>H x=none∧x≠q) H' ws (i7 (b.map tH))→Q (.ref q) H'):lU Co Cn vs H Q E
theorem uW(T:Top K mg t):Fn P w K mg base 8 "rows_of_text" ["codes"] (lU t.aG t.aC):=by
 refine T.vV.bC (N:=["codes","lines","rest","rows","line"]) (fun nd f _ A outer s H _ Q E hr h=>?_);obtain⟨p,b,rfl,hp,hb,k⟩:=h;refine⟨_,(af (aH 1 nd (Ed (bq (D8 T) (hr.mono (by decide)) (aa (pv 0) ai)) aZ))
  (af (aH 2 nd (FR PySem.F.plainAttrs_list PySem.F.slot_list_pop PySem.F.type_list_pop J4 (pv 1)))
  (af (Ef (i:=3) Z nd Z Z (G_ Z Z Z (by decide +kernel)) (bK (pv 1)) (b_ (own:=[("line",4)]) (by refine(show lZ ["codes","lines","rest","rows","line"] (aL mN) _ _=true from ?_);decide +kernel)) (fun _ _ _ _ _=>(bI 4 nd)) (fun _ _ _ _ _=>eM) (fun _ _ _ _ _=>(bq (uQ T) hr (aa (pv 4) ai))))
  (af (aM (az d6 (pv 2) aZ (aB _)) (ah (bu (mG PySem.F.plainAttrs_list PySem.F.slot_list_append PySem.F.type_list_append fJ (pv 3) (aa a_ ai)))) aA)
  (ah (ak (pv 3))))))),?_⟩
 have hz:(sB (b.map tH)).length+2≤sizeLine:=by rw[cg,length_map,sizeLine_eq];omega
 refine⟨_,Z,p,b,Z,hp,by omega,fun H1 s1=>⟨⟨_,Z⟩,_,_,Z,Z,Z,hz,fun u R=>?_⟩⟩;rw[show Str.ofString "\n"=sB [10]from Z,Ex,map_map,show(V.str ∘ sB)=bg from Z];obtain⟨a1,C⟩:=split_len 10 (b.map tH);unfold i7 at k;generalize hP:Drum.split 10 (b.map tH)=P at*;have b1:P≠[]:=by rw[← hP];exact eU 10 _
 have c0:0<P.length:=length_pos_iff.mpr b1;obtain⟨z,J⟩:∃z,P[P.length-1]?=some z:=⟨_,getElem?_eq_getElem (by omega)⟩;have ez:P.getLastD []=z:=by rw[List.getLastD_eq_getLast?,List.getLast?_eq_getElem?,J];rfl
 have a2:(b.map tH).length=b.length:=length_map _;rw[a2]at a1 C;have s2:=s1.trans (aK (o:=.lst (P.map bg)) R);have G:(P.map bg).length=P.length:=length_map _;refine⟨_,Z,.inl ⟨Z,_,aT.of ae⟩,u,_,bg z,Z,Z,ae,by rw[G,getElem?_map,J];rfl,?_⟩;rw[a9];have g:=s1.trans (aK (o:=.lst (P.map bg).dropLast) R);have U:(P.map bg).dropLast=P.dropLast.map bg:=by rw[List.map_dropLast]
 rw[U]at g ⊢;refine⟨_,Z,u,Z,⟨_,aT.of ae⟩,fun D hD=>gg (K:=K) (a:=u) (xs:=P.dropLast.map bg) (fun i H'=>Kp [D] (upd H1 u (.lst (P.dropLast.map bg))) H'∧∃c,H' D=some (.lst c)∧gA t.aG t.aC (fun x=>H x=none∧x≠D) H' c ((P.dropLast.take i).map lineIn)) ⟨Kp.new hD,[],ae,Z,fun k o e=>by simp at e⟩ (fun i H' _ e=>aT.of (e.1 _ _ ae (by simp;exact aj ae hD))) ?_ ?_⟩
 ·rintro i v H' B ⟨kp,c,d,hR⟩;rw[getElem?_map]at B;cases hw:P.dropLast[i]? with
  |none=>rw[hw]at B;cases B
  |some x=>
   rw[hw]at B;cases B;have bL:=cn hw;have b3:x∈P:=List.dropLast_subset P (mem_of_getElem? hw);have m:H D=none:=g.free hD;refine⟨Z,sM ⟨_,Z,x,Z,by have:=C x b3;omega,fun v n O hv=>⟨c,O _ _ d,?_,(kp.trans (Kp.of O)).trans (Kp.upd (by simp)),_,ae,?_⟩⟩⟩
   ·have:=hR.len;rw[length_map]at this;rw[length_dropLast]at bL;rw[sizeLine_eq];omega
   ·rw[take_snoc hw,map_append];have W:gA t.aG t.aC (fun x=>H x=none∧x≠D) n c ((P.dropLast.take i).map lineIn):=hR.kp (l:=[]) (Kp.of O) (fun _ _ _=>by simp) (fun _ q=>q);have b2:l_ t.aG t.aC (fun x=>H x=none∧x≠D) n v (lineIn x):=hv.mono fun y hy=>by
     have I:y≠D:=fun q=>by rw[q]at hy;rw[show H' D=none from hy]at d;cases d
     refine⟨?_,I⟩;cases q:H y with
     |none=>rfl
     |some o=>
      have h2:=g _ _ q;have h3:=kp _ _ h2 (by simp;exact I);rw[show H' y=none from hy]at h3;cases h3
    exact(W.snoc b2).kp (l:=[D]) (Kp.upd (by simp)) (fun x hx _=>by simp;exact hx.2) (fun _ q=>q)
 ·rintro n ⟨kp,c,d,hR⟩;rw[length_map,take_length]at hR;have O:aI (upd H1 u (.lst (P.dropLast.map bg))) n:=Kp.uI kp hD;have M:=g.trans O;have m:H D=none:=g.free hD;dsimp only[eR];refine gY fun K1 hK=>?_;have j:∀r S,aI H r→r D=some (.lst S)→gA t.aG t.aC (fun x=>H x=none∧x≠D) r S (P.dropLast.map lineIn++if P.getLastD []=[]then[]else[none])→K1 [some (.ref p),some (.ref u),some (bg z),some (.ref D),none] r:=by intro r S s4 h4 X;rw[hK];exact⟨_,Z,k D r S s4 m h4 X⟩
  refine⟨_,Z,Z,_,Z,kS (fun Y=>?_) (fun Y=>?_)⟩
  ·have L:¬P.getLastD []=[]:=fun q=>Y (by rw[← ez,q];rfl);refine⟨_,Z,.inl ⟨Z,_,aT.of d⟩,D,_,_,Z,Z,d,?_,?_⟩
   ·have:=hR.len;rw[length_map,length_dropLast]at this;rw[sizeLine_eq];omega
   ·refine j _ _ (fun x o e=>?_) ae ?_
    ·rw[aw (aj e m)];exact M _ _ e
    ·rw[if_neg L];have R:l_ t.aG t.aC (fun x=>H x=none∧x≠D) n .bV none:=rfl;exact(hR.snoc R).kp (l:=[D]) (Kp.upd (by simp)) (fun x hx _=>by simp;exact hx.2) (fun _ q=>q)
  ·have b9:P.getLastD []=[]:=by rw[ez];exact fu.mp Y
   refine j n c M d ?_;rw[if_pos b9,append_nil];exact hR
structure dM(Co Cn:Addr)(F:Addr→Prop)(H:Hp)(p:Addr)(vs:List V)(pr:Drum.Program):Prop where
 lst:H p=some (.lst vs)
 len:vs.length=pr.length
 each:∀(k:Nat) (i:Item),pr[k]?=some i→∃a,vs[k]?=some (V.ref a)∧iI Co Cn F H a i
 ok:Ji pr
 short:pr.length≤100000
theorem dM.kp(h:dM c b F H p vs pr)(k:Kp l H H')(g:p∉l)(f:∀x,F x→(∃o,H x=some o)→x∉l):dM c b F H' p vs pr:=
 ⟨k _ _ h.lst g,h.len,fun i o e=>let⟨a,d,q⟩:=h.each i o e;⟨a,d,q.kp k f fun _ z=>z⟩,h.ok,h.short⟩
theorem dM.same(h:dM b a F H p vs pr)(s:aI H H'):dM b a F H' p vs pr:=h.kp (l:=[]) (Kp.of s) (by simp) fun _ _ _=>by simp
theorem dM.at_{vs:List V}{pr:Drum.Program}(h:dM f d F H p vs pr){k:Nat}(e:vs[k]?=some v):∃i a,pr[k]?=some i∧v=.ref a∧iI f d F H a i∧He i:=by have g:=(List.getElem?_eq_some_iff.mp e).1;obtain⟨i,b⟩:∃i,pr[k]?=some i:=⟨_,getElem?_eq_getElem (by rw[← h.len];exact g)⟩;obtain⟨a,c,q⟩:=h.each k i b;rw[e]at c;cases c;exact⟨i,a,b,Z,q,h.ok i (mem_of_getElem? b)⟩
def yh(i:Item):Bytes:=i.name.getD []
theorem DN(T:Top K mg t)(h:iI t.aG t.aC F H a i):∃C b fs,H a=some (.ins C b fs)∧Jf K C∧bD K C "name"∧fs.lookup ("name":Str)=some (bg (yh i)):=by
 cases i with
 |order n c o f=>obtain⟨_,b,e⟩:=h;exact⟨_,b,_,e,T.a6.cl,T.qk,Z⟩
 |numbers n l=>obtain⟨_,b,wl,_,e,_⟩:=h;exact⟨_,b,_,e,T.cD.cl,T.mz,Z⟩
theorem rE(T:Top K mg t){i:Item}(h:iI t.aG t.aC F H a i):∃b,lY K H (.ref a) b∧kitOne K b (.ref t.aG)=some i.isOrder:=by
 cases i with
 |order n c o f=>obtain⟨_,d,e⟩:=h;exact⟨_,x_ T e,T.wk⟩
 |numbers n l=>obtain⟨_,d,wl,_,e,_⟩:=h;exact⟨_,pI T e,T.rD⟩
theorem ve{i:Item}(ok:He i):i.name=if yh i=[]then none else some (yh i):=by
 unfold yh;cases hn:i.name with
 |none=>rfl
 |some x=>
  have b:x≠[]:=by
   cases i with
   |order n c o f=>have:n=some x:=hn;have a:=ok.nm;rw[this]at a;exact ql a
   |numbers n l=>have:n=x:=Option.some.inj hn;have a:=ok.1;rw[this]at a;exact ql a
  show some x=if x=[]then none else some x;rw[if_neg b]
structure yj(H:Hp)(q:Addr)(pr:Drum.Program):Prop where
 ex:∃kvs,H q=some (.dK kvs)∧∀x:Bytes,bH kvs (Sum.inr (sB x))=(find pr x).map fun k=>V.int (k:Nat)
theorem yj.same(h:yj H q pr)(s:aI H H'):yj H' q pr:=by obtain⟨a,e,v⟩:=h.ex;exact⟨a,s _ _ e,v⟩
theorem m5(hn:bH kvs k=none)(j:Key):bH (putK kvs k v) j=if j=k then some v else bH kvs j:=by rw[xB v hn];exact sH k j v kvs hn
def MH(H:Hp)(p q:Addr)(pr:Drum.Program)(i:Nat)(d:L2.St)(H':Hp):Prop:=(∃b c,d=[some (.ref p),some (.ref q),b,c])∧Kp [q] H H'∧∃a,H' q=some (.dK a)∧a.length≤i∧∀x:Bytes,bH a (Sum.inr (sB x))=(find (pr.take i) x).map fun k=>V.int (k:Nat)
inductive lT(Co Cn:Addr)(vs:List V)(H:Hp)(Q:VK)(E:XK):Prop
 |mk (F:Addr→Prop) (p:Addr) (ws:List V) (pr:Drum.Program) (h0_:vs=[.ref p]) (h1_:dM Co Cn F H p ws pr) (h2_:∀q H',aI H H'→H q=none→yj H' q pr→Q (.ref q) H'):lT Co Cn vs H Q E
theorem lE(T:Top K mg t):Fn P w K mg base 1 "rows_by_name" ["rows"] (lT t.aG t.aC):=by
 refine T.vU.bC (N:=["rows","named","line","row"]) (fun nd f _ A outer s H _ Q E U h=>?_);obtain⟨F,p,ws,pr,rfl,y,k⟩:=h;refine⟨_,(af (aH 1 nd g7)
  (af (bx PassesOwn.never Z (gX Z T.bW (aa (pv 0) ai)) (eu Z (aU (bI 2 nd) (aU (bI 3 nd) cP))) (ah (aM (PW.pt (fq (az d6 (ay (pv 3) Z) aZ (aB _)) (d9 (so (Ag (dO U) (ay (pv 3) Z) (pv 1)))))) (ah (lh (dO U) (pv 1) (ay (pv 3) Z) (pv 2) Z)) aA)))
  (ah (ak (pv 1))))),?_⟩
 intro q I;have W:=aK (o:=.dK []) I;dsimp only[eR];refine⟨_,Z,p,_,Z,aT.of (W _ _ y.lst),fZ (K:=K) (a:=p) (xs:=ws) (MH H p q pr)
  ⟨⟨none,none,Z⟩,Kp.of W,[],ae,Nat.le_refl _,fun x=>rfl⟩ (fun i X H' _ ⟨_,kp,_⟩=>aT.of (kp _ _ y.lst (by simp;exact aj y.lst I))) ?_ ?_⟩
 ·rintro i X H' v T1 hi Y ⟨⟨v2,v3,rfl⟩,kp,kvs,O,a1,l⟩;obtain⟨b,a,d,rfl,hit,bj⟩:=y.at_ hi;have D:iI t.aG t.aC F H' a b:=hit.kp kp (fun x _ ⟨o,e⟩=>by simp;exact aj e I) fun _ z=>z;have J:=aK (o:=.tup [.int ((i:Nat):Int),.ref a]) Y;obtain⟨C,L,fs,ha,m,u,r⟩:=DN T (D.same J);have n:=J _ _ O;have bL:=(List.getElem?_eq_some_iff.mp d).1;have g:=DM.HI (pr.take i) b;have S:(pr.take i).length=i:=by rw[length_take];omega
  rw[S]at g;have sy:(∀x:Bytes,bH kvs (Sum.inr (sB x))=(find (pr.take (i+1)) x).map fun k=>V.int (k:Nat))→MH H p q pr (i+1) [some (.ref p),some (.ref q),some (.int ((i:Nat):Int)),some (.ref a)] (upd H' T1 (.tup [.int ((i:Nat):Int),.ref a])):=
   fun h=>⟨⟨_,_,Z⟩,kp.trans (Kp.of J),kvs,n,by omega,h⟩
  refine⟨T1,_,Z,h9.of ae,Z,_,_,Z,_,_,Z,Z,_,Z,a,C,L,fs,_,Z,ha,m,u,r,Z,_,Z,kS (fun R=>?_) (fun he=>cB (sy ?_))⟩
  ·have M:yh b≠[]:=fun z=>R (by rw[z];rfl);have G:b.name=some (yh b):=by rw[ve bj,if_neg M]
   refine⟨_,Z,a,C,L,fs,_,Z,ha,m,u,r,_,Z,q,_,Z,dY.k (k:=Sum.inr (sB (yh b))) n,_,Z,?_⟩;cases c:bH kvs (Sum.inr (sB (yh b)))with
   |none=>
    refine cJ ⟨_,Z,_,Z,_,Z,a,C,L,fs,_,Z,ha,m,u,r,q,_,Z,vm.k (k:=Sum.inr (sB (yh b))) n (by rw[sizeLine_eq];have:=y.short;omega),⟨_,_,Z⟩,(kp.trans (Kp.of J)).trans (Kp.upd (by simp)),_,ae,?_,fun x=>?_⟩
    ·have:=fF kvs (Sum.inr (sB (yh b))) (.int ((i:Nat):Int));omega
    ·rw[m5 c,take_snoc d,g,G];by_cases B:x=yh b
     ·subst B;rw[if_pos Z,if_pos Z];have:=l (yh b);rw[c]at this;cases hf:find (pr.take i) (yh b)with
      |none=>rfl
      |some j=>rw[hf]at this;cases this
     ·rw[if_neg (fun z=>B (fu.mp (Sum.inr.inj z))),if_neg (fun z=>B (Option.some.inj z).symm),l x];cases find (pr.take i) x<;>rfl
   |some w0=>
    refine cB (sy fun x=>?_);rw[take_snoc d,g,G,l x];by_cases B:x=yh b
    ·subst B;have:=l (yh b);rw[c]at this;cases hf:find (pr.take i) (yh b)with
     |none=>rw[hf]at this;cases this
     |some j=>rfl
    ·rw[if_neg (fun z=>B (Option.some.inj z).symm)];cases find (pr.take i) x<;>rfl
  ·intro x;have M:yh b=[]:=fu.mp he;rw[take_snoc d,g,ve bj,if_pos M,if_neg (fun z=>nomatch z),l x];cases find (pr.take i) x<;>rfl
 ·rintro X H' ⟨⟨v2,v3,rfl⟩,kp,kvs,O,_,l⟩;rw[y.len,take_length]at l;exact⟨_,Z,k q H' (Kp.uI kp I) I ⟨kvs,O,l⟩⟩
theorem xm(pr:Drum.Program)(i:Nat):(range (i+1)).filter (bM pr)=(range i).filter (bM pr)++(if bM pr i=true then[i]else[]):=by
 rw[range_succ,filter_append];by_cases h:bM pr i=true
 ·rw[if_pos h];simp[h]
 ·rw[if_neg h];simp[h]
inductive mX(Co Cn:Addr)(vs:List V)(H:Hp)(Q:VK)(E:XK):Prop
 |mk (F:Addr→Prop) (p:Addr) (ws:List V) (pr:Drum.Program) (h0_:vs=[.ref p]) (h1_:dM Co Cn F H p ws pr) (h2_:∀q H',aI H H'→H q=none→H' q=some (.lst ((bY pr).map fun k=>V.int (k:Nat)))→Q (.ref q) H'):mX Co Cn vs H Q E
theorem gn(T:Top K mg t):Fn P w K mg base 1 "order_lines" ["rows"] (mX t.aG t.aC):=by
 refine T.yB.bC (N:=["rows","line","row"]) (fun nd f _ A outer s H _ Q E _ h=>?_);obtain⟨F,p,ws,pr,rfl,c,k⟩:=h;refine⟨_,(ah (ak (jB Z nd (gX Z T.bW (aa (pv 0) ai)) (b_ (own:=[("line",1),("row",2)]) (by refine(show lZ ["rows","line","row"] (aL oa) _ _=true from ?_);decide +kernel)) (fun _ _ _ _ _=>(L7 (K:=K) (n:=2) Z Z (aU (bI 1 nd) (aU (bI 2 nd) cP)))) (fun _ _ _ _ _=>(Ca (bJ (FU (K:=K) (mg:=mg) Z Z T.cH T.a6 (pv 2))))) (fun _ _ _ _ _=>(pv 1))))),?_⟩;refine⟨_,Z,p,_,Z,aT.of c.lst,fun D hD=>LJ (K:=K) (a:=p) (xs:=ws) (fun i H'=>Kp [D] H H'∧H' D=some (.lst (((range i).filter (bM pr)).map fun k=>V.int (k:Nat)))) ⟨Kp.new hD,ae⟩ (fun i H' _ e=>aT.of (e.1 _ _ c.lst (by simp;exact aj c.lst hD))) ?_ ?_⟩
 ·rintro i v H' T1 C y ⟨kp,b⟩;obtain⟨m,a,g,rfl,hit,bj⟩:=c.at_ C;have bL:=(List.getElem?_eq_some_iff.mp g).1;have j:=aK (o:=.tup [.int ((i:Nat):Int),.ref a]) y;have d:iI t.aG t.aC F (upd H' T1 (.tup [.int ((i:Nat):Int),.ref a])) a m:=(hit.kp kp (fun x _ ⟨o,e⟩=>by simp;exact aj e hD) fun _ z=>z).same j;obtain⟨G,r,u⟩:=rE T d;have q:bM pr i=m.isOrder:=by unfold bM;rw[g];rfl
  have B:((range i).filter (bM pr)).length≤i:=by have:=length_filter_le (bM pr) (range i);simpa using this
  refine⟨T1,_,Z,h9.of ae,Z,_,_,Z,_,_,Z,Z,Z,_,Z,_,_,G,_,Z,r,u,_,Z,gC (fun l=>⟨_,Z,_,j _ _ b,?_,(kp.trans (Kp.of j)).trans (Kp.upd (by simp)),?_⟩) (fun l=>⟨kp.trans (Kp.of j),?_⟩)⟩
  ·rw[length_map,sizeLine_eq];have:=c.short;omega
  ·rw[ae,xm,if_pos (by rw[q];exact l),map_append];rfl
  ·rw[xm,if_neg (by rw[q,show m.isOrder=false from l];decide),append_nil];exact j _ _ b
 ·rintro H' ⟨kp,b⟩;refine k D H' (Kp.uI kp hD) hD ?_;rw[b,c.len];rfl
def GQ(pr:Drum.Program)(x:Bytes):Bool:=match(find pr x).bind fun(i:Nat)=>pr[i]? with
 |some i=>i.isOrder
 |none=>false
inductive kq(Co Cn:Addr)(vs:List V)(H:Hp)(Q:VK)(E:XK):Prop
 |mk (F:Addr→Prop) (p q:Addr) (ws:List V) (pr:Drum.Program) (x:Bytes) (h0_:vs=[.ref p,.ref q,bg x]) (h1_:dM Co Cn F H p ws pr) (h2_:yj H q pr) (h3_:Q (.bl (GQ pr x)) H):kq Co Cn vs H Q E
theorem Dp{ws:List V}{pr:Drum.Program}(i:dM e d F H p ws pr)(h:find pr x=some j):∃b a,pr[j]?=some b∧ws[j]?=some (V.ref a)∧iI e d F H a b:=by obtain⟨b,c,_⟩:=DM.find_some h;obtain⟨a,f,g⟩:=i.each j b c;exact⟨b,a,c,f,g⟩
theorem ke(T:Top K mg t):Fn P w K mg base 1 "is_order_name" ["rows","named","name"] (kq t.aG t.aC):=by
 refine T.ux.bC (N:=["rows","named","name"]) (fun nd f _ A outer s H _ Q E e h=>?_);obtain⟨F,p,q,ws,pr,x,rfl,c,r,k⟩:=h;obtain⟨v,d,b⟩:=r.ex;unfold GQ at k;refine⟨_,(ah (ak (sj (FT (si (dO e) (pv 2) (pv 1))) (mH (fP T.cH T.a6 (bB a4 (pv 0) (lg (dO e) (pv 1) (pv 2) (fun _ _=>rfl)) (fun _ _=>rfl))))))),?_⟩;refine⟨_,Z,_,Z,q,_,Z,dY.k (k:=Sum.inr (sB x)) d,_,Z,?_⟩;cases hf:find pr x with
 |none=>
  rw[b x,hf];rw[hf]at k;exact cB k
 |some j=>
  obtain⟨z,a,g,l,m⟩:=Dp c hf;rw[hf]at k;have k:Q (.bl (match pr[j]? with|some i=>i.isOrder|none=>false)) H:=k;rw[g]at k;obtain⟨y,n,o⟩:=rE T m;have u:dY H q (bg x) (some (.int (j:Nat))):=by have:=dY.k (k:=Sum.inr (sB x)) d;rw[b x,hf]at this;exact this
  rw[b x,hf];exact cJ ⟨_,Z,_,Z,_,Z,q,_,Z,u,p,_,_,_,Z,Z,aT.of c.lst,a5 l,_,_,y,_,Z,n,o,k⟩
noncomputable def Cy(c k:Nat):Item→Bool
 |.numbers _ l=>decide (k<l.length)&&((c != 60||(l.length==40&&k==0))&&((c != 70&&c != 71)||(decide (8≤l.length)&&k==0)))
 |_=>false
inductive jc(Co Cn:Addr)(vs:List V)(H:Hp)(Q:VK)(E:XK):Prop
 |mk (F:Addr→Prop) (a b:Addr) (n:Option Name) (c:Nat) (o:Operand) (f:Option Name) (it:Item) (h0_:vs=[.ref a,.ref b]) (h1_:iI Co Cn F H a (.order n c o f)) (h2_:iI Co Cn F H b it) (h3_:∀H',aI H H'→Q (.bl (Cy c (num o) it)) H'):jc Co Cn vs H Q E
theorem RG:decide (V.int i=V.int j)=decide (i=j):=by
 by_cases h:i=j
 ·rw[h,decide_eq_true Z,decide_eq_true Z]
 ·rw[decide_eq_false h,decide_eq_false (fun q=>h (V.int.inj q))]
theorem o9(T:Top K mg t):Fn P w K mg base 1 "is_word_operand" ["order","item"] (jc t.aG t.aC):=by
 refine T.pY.bC (N:=["order","item"]) (fun nd f _ A outer s H _ Q E _ h=>?_);obtain⟨F,a,b,n,c,o,X,it,rfl,O,I,k⟩:=h;obtain⟨_,m,ha⟩:=O;refine⟨_,(af (aM (PW.pt (jC (dJ (bJ (fP T.cH T.cD (pv 1)))) (i5 (az n8 (ay (pv 0) Z) (aF aO Z T.cX boot_len (aa (ay (pv 1) Z) ai)) (aB _))))) (ah (ak iZ)) aA)
  (af (aM (az bN (ay (pv 0) Z) (pk T.Jq) (aB _)) (ah (ak (sj (d7 bN (aF aO Z T.cX boot_len (aa (ay (pv 1) Z) ai)) (pk T.bw) (aB _)) (mH (d7 bN (ay (pv 0) Z) au (aB _)))))) aA)
  (af (aM (az se (ay (pv 0) Z) (fk (aa (pk T.Jp) (aa (pk T.MR) ai))) (by with_unfolding_all rfl)) (ah (ak (sj (d7 n8 (aF aO Z T.cX boot_len (aa (ay (pv 1) Z) ai)) (pk T.b0) (aB _)) (mH (d7 bN (ay (pv 0) Z) au (aB _)))))) aA)
  (ah (ak iZ))))),?_⟩
 cases it with
 |order J U Y W=>
  obtain⟨_,v,j⟩:=I;exact⟨_,Z,_,_,_,false,Z,x_ T j,T.j7,_,Z,cJ (cJ (k H (aI.refl H)))⟩
 |numbers J l=>
  obtain⟨_,v,wl,_,j,hw⟩:=I;have d:(l.map V.int).length=l.length:=length_map _;have L:Cy c (num o) (.numbers J l)=(decide (num o<l.length)&&((c != 60||(l.length==40&&num o==0))&&((c != 70&&c != 71)||(decide (8≤l.length)&&num o==0)))):=rfl;rw[L]at k;refine⟨_,Z,_,_,_,true,Z,pI T j,T.iN,_,Z,cB ?_⟩;refine⟨_,Z,a,_,m,_,_,Z,ha,T.a6.cl,T.c8,Z,_,Z,b,_,v,_,_,Z,j,T.cD.cl,T.cE,Z,wl,_,Z,.inl (aT.of hw),_,_,Z,Z,_,Z,cS (fun i=>?_) (fun i=>?_)⟩
  ·rw[decide_eq_false (show¬num o<l.length by rw[d]at i;omega)]at k;exact k H (aI.refl H)
  rw[decide_eq_true (show num o<l.length by rw[d]at i;omega),Bool.true_and]at k;refine⟨_,Z,a,_,m,_,_,Z,ha,T.a6.cl,T.dE,Z,Z,_,Z,gx (fun R=>?_) (fun R=>?_)⟩
  ·have M:c=60:=by omega
   subst M;have k:∀H',aI H H'→Q (.bl (l.length==40&&num o==0)) H':=fun H' s=>E2 (k H' s) (by simp);refine⟨_,Z,b,_,v,_,_,Z,j,T.cD.cl,T.cE,Z,wl,_,Z,.inl (aT.of hw),Z,_,Z,gx (fun g=>⟨_,Z,a,_,m,_,_,Z,ha,T.a6.cl,T.c8,Z,Z,?_⟩) (fun g=>?_)⟩
   ·refine E2 (k H (aI.refl H)) ?_;rw[show(l.length==40)=true by rw[d]at g;simp;omega,Bool.true_and,RG];by_cases r:num o=0
    ·rw[r];rfl
    ·rw[decide_eq_false (by omega)];simp[r]
   ·refine E2 (k H (aI.refl H)) ?_;rw[show(l.length==40)=false by rw[d]at g;simp;omega];rfl
  ·have u:(c != 60)=true:=by simp;omega
   rw[u,Bool.true_or,Bool.true_and]at k;refine⟨_,Z,a,_,m,_,_,Z,ha,T.a6.cl,T.dE,Z,by show 2≤sizeLine;decide,fun p S=>⟨p,_,Z,.inr (h9.of ae),Z,Z,_,Z,?_⟩⟩;have e:=aK (o:=.tup [.int 70,.int 71]) S;have C:=e _ _ ha;have D:=e _ _ j;have G:=e _ _ hw;refine gC (fun z=>?_) (fun z=>?_)
   ·have y:((70:Int)==(c:Int)||((71:Int)==(c:Int)||false))=true:=z;simp only[Bool.or_eq_true,beq_iff_eq,Bool.or_false]at y;have x:(c != 70&&c != 71)=false:=by rcases(by omega:c=70∨c=71)with q|q<;>subst q<;>rfl
    rw[x,Bool.false_or]at k;refine⟨_,Z,b,_,v,_,_,Z,D,T.cD.cl,T.cE,Z,wl,_,Z,.inl (aT.of G),_,_,Z,Z,_,Z,cS (fun B=>⟨_,Z,a,_,m,_,_,Z,C,T.a6.cl,T.c8,Z,Z,?_⟩) (fun B=>?_)⟩
    ·refine E2 (k _ e) ?_;rw[decide_eq_true (show 8≤l.length by rw[d]at B;omega),Bool.true_and,RG];by_cases r:num o=0
     ·rw[r];rfl
     ·rw[decide_eq_false (by omega)];simp[r]
    ·refine E2 (k _ e) ?_;rw[decide_eq_false (show¬8≤l.length by rw[d]at B;omega)];rfl
   ·have y:((70:Int)==(c:Int)||((71:Int)==(c:Int)||false))=false:=z;simp only[Bool.or_eq_false_iff,Bool.or_false,beq_eq_false_iff_ne]at y;have x:(c != 70&&c != 71)=true:=by rw[Bool.and_eq_true,bne_iff_ne,bne_iff_ne];omega
    rw[x,Bool.true_or]at k;exact k _ e
inductive ie(Co Cn:Addr)(vs:List V)(H:Hp)(Q:VK)(E:XK):Prop
 |mk (F:Addr→Prop) (p q a:Addr) (ws:List V) (pr:Drum.Program) (n:Option Name) (c:Nat) (o:Operand) (f:Option Name) (h0_:vs=[.ref p,.ref q,.ref a]) (h1_:dM Co Cn F H p ws pr) (h2_:yj H q pr) (h3_:iI Co Cn F H a (.order n c o f)) (h4_:Gj n c o f) (h5_:∀H',aI H H'→Q (.bl (operandOk pr (.order n c o f))) H'):ie Co Cn vs H Q E
theorem nM(T:Top K mg t):Fn P w K mg base 2 "has_good_operand" ["rows","named","order"] (ie t.aG t.aC):=by
 refine T.oM.bC (N:=["rows","named","order","sort"]) (fun nd f _ A outer s H _ Q E l h=>?_);obtain⟨F,p,q,a,ws,pr,n,c,o,B,rfl,v,D,C,ok,k⟩:=h;obtain⟨_,m,ha⟩:=id C;obtain⟨U,G,y⟩:=D.ex;refine⟨_,(af (aH 3 nd (bq (dU T) l (aa (ay (pv 2) Z) ai)))
  (af (aM (az bN (pv 3) aZ (aB _)) (ah (ak (bq (ke T) l (aa (pv 0) (aa (pv 1) (aa (ay (pv 2) Z) ai)))))) aA)
  (af (aM (az bN (pv 3) aZ (aB _)) (ah (ak (sj (FT (si (dO l) (ay (pv 2) Z) (pv 1))) (mH (bq (o9 T) l (aa (pv 2) (aa (bB a4 (pv 0) (lg (dO l) (pv 1) (ay (pv 2) Z) (fun _ _=>rfl)) (fun _ _=>rfl)) ai))))))) aA)
  (ah (ak iZ))))),?_⟩
 refine⟨_,Z,a,_,m,_,_,Z,ha,T.a6.cl,T.dE,Z,c,Z,ok.known,?_⟩;refine⟨_,Z,Z,_,Z,fE (fun u=>?_) (fun u=>?_)⟩
 ·have J:sortOf c=2:=Mj.mp u;have d:=ok.sort;rw[J]at d;cases o with
  |to x=>exact⟨_,Z,_,Z,_,Z,a,_,m,_,_,Z,ha,T.a6.cl,T.da,Z,F,p,q,ws,pr,x,Z,v,D,k H (aI.refl H)⟩
  |none=>cases d
  |word x e=>cases d
  |times e=>cases d
 ·have W:¬sortOf c=2:=fun z=>u (Mj.mpr z);refine⟨_,Z,Z,_,Z,fE (fun r=>?_) (fun r=>?_)⟩
  ·have I:sortOf c=1:=Mh.mp r;have d:=ok.sort;rw[I]at d;cases o with
   |to x=>cases d
   |none=>cases d
   |times e=>cases d
   |word x e=>
    have L:operandOk pr (.order n c (.word x e) B)=match(find pr x).bind fun(i:Nat)=>pr[i]? with|some g=>Cy c e g|none=>false:=by
     unfold operandOk;simp only;cases(find pr x).bind fun(i:Nat)=>pr[i]? with
     |none=>rfl
     |some g=>cases g<;>rfl
    rw[L]at k;refine⟨_,Z,a,_,m,_,_,Z,ha,T.a6.cl,T.da,Z,_,Z,q,_,Z,dY.k (k:=Sum.inr (sB x)) G,_,Z,?_⟩;cases hf:find pr x with
    |none=>
     rw[y x,hf];rw[hf]at k;exact cB (k H (aI.refl H))
    |some j=>
     obtain⟨g,b,M,O,R⟩:=Dp v hf;rw[hf]at k;have k:∀H',aI H H'→Q (.bl (match pr[j]? with|some g=>Cy c e g|none=>false)) H':=k;rw[M]at k;have S:dY H q (bg x) (some (.int (j:Nat))):=by have:=dY.k (k:=Sum.inr (sB x)) G;rw[y x,hf]at this;exact this
     rw[y x,hf];exact cJ ⟨_,Z,_,Z,_,Z,_,Z,a,_,m,_,_,Z,ha,T.a6.cl,T.da,Z,q,_,Z,S,p,_,_,_,Z,Z,aT.of v.lst,a5 O,F,a,b,n,c,.word x e,B,g,Z,C,R,k⟩
  ·have V:¬sortOf c=1:=fun z=>r (Mh.mpr z);have d:=ok.sort;cases o with
   |to x=>exact absurd d.symm W
   |word x e=>exact absurd d.symm V
   |none=>exact k H (aI.refl H)
   |times e=>exact k H (aI.refl H)
def Jg(v:V)(B:Prop):Prop:=(v=.bV∧¬B)∨((∃n:Nat,v=.int (n:Nat))∧B)
inductive tJ(Co Cn:Addr)(B:Drum.Program→Prop)(vs:List V)(H:Hp)(Q:VK)(E:XK):Prop
 |mk (F:Addr→Prop) (p q:Addr) (ws:List V) (pr:Drum.Program) (h0_:vs=[.ref p,.ref q]) (h1_:dM Co Cn F H p ws pr) (h2_:yj H q pr) (h3_:∀v H',aI H H'→Jg v (B pr)→Q v H'):tJ Co Cn B vs H Q E
def K6(pr:Drum.Program)(k:Nat)(i:Item):Bool:=named pr k i
def Jn(pr:Drum.Program)(_:Nat)(i:Item):Bool:=!operandOk pr i
def Jo(pr:Drum.Program)(_:Nat)(i:Item):Bool:=!nextOk pr i
def Hj(pr:Drum.Program)(k:Nat)(_:Item):Bool:=tooMuch pr k
def EX(a:Drum.Program→Nat→Item→Bool)(pr:Drum.Program):Prop:=∃k i,pr[k]?=some i∧a pr k i=true
def B3(pr:Drum.Program):Prop:=∃k i,pr[k]?=some i∧goesOn pr k i=false
def B5(pr:Drum.Program):Prop:=pr.any Item.isOrder=false
def gZ(a:Drum.Program→Nat→Item→Bool)(H:Hp)(p q:Addr)(pr:Drum.Program)(i:Nat)(e:L2.St)(H':Hp):Prop:=(∃c d,e=[some (.ref p),some (.ref q),c,d])∧aI H H'∧∀k b,k<i→pr[k]?=some b→a pr k b=false
theorem gZ.step{p q a T1:Addr}{pr:Drum.Program}(s:aI H H1)(h:∀k b,k<i→pr[k]?=some b→bad pr k b=false)(g:pr[i]?=some b)(f:bad pr i b=false):
  gZ bad H p q pr (i+1) [some (.ref p),some (.ref q),some (.int ((i:Nat):Int)),some (.ref a)] H1:=by
 refine⟨⟨_,_,Z⟩,s,fun k d _ e=>?_⟩;by_cases c:k=i
 ·subst c;rw[g]at e;cases e;exact f
 ·exact h k d (by omega) e
theorem gZ.none{pr:Drum.Program}(h:∀k b,k<pr.length→pr[k]?=some b→bad pr k b=false):Jg .bV (EX bad pr):=
 .inl ⟨Z,fun⟨k,i,e,a⟩=>by rw[h k i (List.getElem?_eq_some_iff.mp e).1 e]at a;cases a⟩
theorem nO(T:Top K mg t):Fn P w K mg base 1 "line_named_again" ["rows","named"] (tJ t.aG t.aC (EX K6)):=by
 refine T.oO.bC (N:=["rows","named","line","row"]) (fun nd f _ A outer s H _ Q E V h=>?_);obtain⟨F,p,q,ws,pr,rfl,u,hN,k⟩:=h;refine⟨_,(af (bx PassesOwn.never Z (gX Z T.bW (aa (pv 0) ai)) (eu Z (aU (bI 2 nd) (aU (bI 3 nd) cP))) (ah (aM (PW.pt (fq (az d6 (ay (pv 3) Z) aZ (aB _)) (d9 (az d6 (lg (dO V) (pv 1) (ay (pv 3) Z) (fun _ _=>rfl)) (pv 2) (aB _))))) (ah (ak (pv 2))) aA)))
  (ah (ak a_))),?_⟩
 refine⟨_,Z,p,_,Z,aT.of u.lst,fZ (K:=K) (a:=p) (xs:=ws) (gZ K6 H p q pr) ⟨⟨none,none,Z⟩,aI.refl H,fun k _ S=>absurd S (Nat.not_lt_zero _)⟩ (fun i J H' _ ⟨_,s,_⟩=>aT.of (s _ _ u.lst)) ?_ ?_⟩
 ·rintro i J H' v T1 R L ⟨⟨Y,v3,rfl⟩,s,b⟩;obtain⟨c,a,d,rfl,hit,bj⟩:=u.at_ R;have r:=s.trans (aK (o:=.tup [.int ((i:Nat):Int),.ref a]) L);obtain⟨C,D,fs,ha,e,l,g⟩:=DN T (hit.same r);obtain⟨X,U,W⟩:=(hN.same r).ex;refine⟨T1,_,Z,h9.of ae,Z,_,_,Z,_,_,Z,Z,_,Z,a,C,D,fs,_,Z,ha,e,l,g,Z,_,Z,kS (fun B=>?_) (fun M=>cB (gZ.step (T1:=T1) r b d ?_))⟩
  ·have x:yh c≠[]:=fun z=>B (by rw[z];rfl);have n:c.name=some (yh c):=by rw[ve bj,if_neg x]
   obtain⟨j,I,y⟩:=DM.Lj d n;have O:dY (upd H' T1 (.tup [.int ((i:Nat):Int),.ref a])) q (bg (yh c)) (some (.int (j:Nat))):=by have:=dY.k (k:=Sum.inr (sB (yh c))) U;rw[W,I]at this;exact this
   have G:=DM.named_eq n I y;refine⟨_,Z,_,Z,a,C,D,fs,_,Z,ha,e,l,g,q,_,Z,O,_,Z,Z,_,Z,iO (fun m=>⟨_,Z,?_⟩) (fun _=>gZ.step (T1:=T1) r b d ?_)⟩
   ·refine k _ _ r (.inr ⟨⟨i,Z⟩,i,c,d,?_⟩);show named pr i c=true;rw[G,decide_eq_false (fun z=>m (by rw[z]))];rfl
   ·show named pr i c=false;rw[G,decide_eq_true (by omega)];rfl
  ·show named pr i c=false;have x:yh c=[]:=fu.mp M;unfold named;rw[ve bj,if_pos x]
 ·rintro J H' ⟨⟨Y,v3,rfl⟩,s,b⟩;rw[u.len]at b;exact k .bV H' s (gZ.none b)
theorem k7(T:Top K mg t):Fn P w K mg base 3 "line_of_bad_operand" ["rows","named"] (tJ t.aG t.aC (EX Jn)):=by
 refine T.l5.bC (N:=["rows","named","line","row"]) (fun nd f _ A outer s H _ Q E D h=>?_);obtain⟨F,p,q,ws,pr,rfl,g,y,k⟩:=h;refine⟨_,(af (bx PassesOwn.never Z (gX Z T.bW (aa (pv 0) ai)) (eu Z (aU (bI 2 nd) (aU (bI 3 nd) cP))) (ah (aM (PW.pt (fq (bJ (fP T.cH T.a6 (pv 3))) (d9 (dJ (bJ (bq (nM T) D (aa (pv 0) (aa (pv 1) (aa (pv 3) ai))))))))) (ah (ak (pv 2))) aA)))
  (ah (ak a_))),?_⟩
 refine⟨_,Z,p,_,Z,aT.of g.lst,fZ (K:=K) (a:=p) (xs:=ws) (gZ Jn H p q pr) ⟨⟨none,none,Z⟩,aI.refl H,fun k _ C=>absurd C (Nat.not_lt_zero _)⟩ (fun i r H' _ ⟨_,s,_⟩=>aT.of (s _ _ g.lst)) ?_ ?_⟩
 ·rintro i r H' v T1 B z ⟨⟨J,L,rfl⟩,s,b⟩;obtain⟨G,a,d,rfl,hit,bj⟩:=g.at_ B;have e:=s.trans (aK (o:=.tup [.int ((i:Nat):Int),.ref a]) z);obtain⟨I,u,x⟩:=rE T (hit.same e);refine⟨T1,_,Z,h9.of ae,Z,_,_,Z,_,_,Z,Z,_,Z,_,_,I,_,Z,u,x,_,Z,?_⟩;cases G with
  |numbers n l=>exact cB (cB (gZ.step (T1:=T1) e b d Z))
  |order n c o f=>
   refine cJ ⟨_,Z,_,Z,_,Z,F,p,q,a,ws,pr,n,c,o,f,Z,g.same e,y.same e,hit.same e,bj,fun _ m=>⟨_,Z,gC (fun j=>⟨_,Z,k _ _ (e.trans m) (.inr ⟨⟨i,Z⟩,i,_,d,j⟩)⟩) (fun j=>gZ.step (T1:=T1) (e.trans m) b d j)⟩⟩
 ·rintro r H' ⟨⟨J,L,rfl⟩,s,b⟩;rw[g.len]at b;exact k .bV H' s (gZ.none b)
theorem l7(T:Top K mg t):Fn P w K mg base 2 "line_of_bad_follow" ["rows","named"] (tJ t.aG t.aC (EX Jo)):=by
 refine T.mn.bC (N:=["rows","named","line","row"]) (fun nd f _ A outer s H _ Q E J h=>?_);obtain⟨F,p,q,ws,pr,rfl,g,B,k⟩:=h;refine⟨_,(af (bx PassesOwn.never Z (gX Z T.bW (aa (pv 0) ai)) (eu Z (aU (bI 2 nd) (aU (bI 3 nd) cP))) (ah (aM (PW.pt (fq (bJ (fP T.cH T.a6 (pv 3))) (fq (az d6 (ay (pv 3) Z) aZ (aB _)) (d9 (dJ (bJ (bq (ke T) J (aa (pv 0) (aa (pv 1) (aa (ay (pv 3) Z) ai)))))))))) (ah (ak (pv 2))) aA)))
  (ah (ak a_))),?_⟩
 refine⟨_,Z,p,_,Z,aT.of g.lst,fZ (K:=K) (a:=p) (xs:=ws) (gZ Jo H p q pr) ⟨⟨none,none,Z⟩,aI.refl H,fun k _ I=>absurd I (Nat.not_lt_zero _)⟩ (fun i u H' _ ⟨_,s,_⟩=>aT.of (s _ _ g.lst)) ?_ ?_⟩
 ·rintro i u H' v T1 G C ⟨⟨O,R,rfl⟩,s,b⟩;obtain⟨L,a,d,rfl,hit,bj⟩:=g.at_ G;have e:=s.trans (aK (o:=.tup [.int ((i:Nat):Int),.ref a]) C);obtain⟨M,y,z⟩:=rE T (hit.same e);refine⟨T1,_,Z,h9.of ae,Z,_,_,Z,_,_,Z,Z,_,Z,_,_,M,_,Z,y,z,_,Z,?_⟩;cases L with
  |numbers n l=>exact cB (cB (gZ.step (T1:=T1) e b d Z))
  |order n c o f=>
   obtain⟨_,r,ha⟩:=hit.same e;refine cJ ⟨_,Z,a,_,r,_,_,Z,ha,T.a6.cl,T.c7,Z,Z,_,Z,kS (fun m=>?_) (fun D=>cB (gZ.step (T1:=T1) e b d ?_))⟩
   ·obtain⟨x,rfl⟩:∃x,f=some x:=by
     cases f with
     |none=>exact absurd Z m
     |some x=>exact⟨x,Z⟩
    refine⟨_,Z,_,Z,_,Z,a,_,r,_,_,Z,ha,T.a6.cl,T.c7,Z,F,p,q,ws,pr,x,Z,g.same e,B.same e,_,Z,gC (fun j=>⟨_,Z,k _ _ e (.inr ⟨⟨i,Z⟩,i,_,d,j⟩)⟩) (fun j=>gZ.step (T1:=T1) e b d j)⟩
   ·have:f=none:=(kY bj.fl).mp D;subst this;rfl
 ·rintro u H' ⟨⟨O,R,rfl⟩,s,b⟩;rw[g.len]at b;exact k .bV H' s (gZ.none b)
theorem zK{b:Type}{xs:List b}{v:b}(h:xs.getLast?=some v):EZ xs (-1)=some v:=by
 have a:xs≠[]:=fun e=>by rw[e]at h;cases h
 have:=AO xs 1 (by decide) (length_pos_iff.mpr a);rw[List.getLast?_eq_getElem?]at h;rw[h]at this;exact this
theorem mB(T:Top K mg t):Fn P w K mg base 2 "line_without_next" ["rows","named"] (tJ t.aG t.aC B3):=by
 refine T.nJ.bC (N:=["rows","named","lines","last"]) (fun nd f _ A outer s H _ Q E Y h=>?_);obtain⟨F,p,q,ws,pr,rfl,D,hN,k⟩:=h;refine⟨_,(af (aH 2 nd (bq (gn T) Y (aa (pv 0) ai)))
  (af (aM (az bN (aF aO Z T.cX boot_len (aa (pv 2) ai)) au (aB _)) (ah (ak a_)) aA)
  (af (aH 3 nd (bB a4 (pv 0) (bB a4 (pv 2) (kg gJ au) (fun _ _=>rfl)) (fun _ _=>rfl)))
  (af (aM (PW.pt (jC (az bN (ay (pv 3) Z) (pk T.vv) (aB _)) (i5 (az d6 (ay (pv 3) Z) aZ (aB _))))) (ah (ak a_)) aA)
  (ah (ak (bB a4 (pv 2) (kg gJ au) (fun _ _=>rfl)))))))),?_⟩
 refine⟨_,Z,F,p,ws,pr,Z,D,fun l H1 m _ g=>?_⟩;refine⟨_,Z,l,_,Z,.inl (aT.of g),Z,_,Z,gx (fun J=>?_) (fun J=>?_)⟩
 ·have e:bY pr=[]:=by rw[length_map]at J;exact length_eq_zero_iff.mp (by omega)
  exact k .bV H1 m (.inl ⟨Z,fun⟨j,i,I,r⟩=>by rw[DM.BH e j i I]at r;cases r⟩)
 ·obtain⟨z,hz⟩:∃z,(bY pr).getLast?=some z:=by
   cases e:(bY pr).getLast? with
   |none=>exact absurd (by rw[List.getLast?_eq_none_iff.mp e];rfl) J
   |some z=>exact⟨z,Z⟩
  have B:((bY pr).map fun k=>V.int (k:Nat)).getLast?=some (.int (z:Nat)):=by rw[List.getLast?_map,hz];rfl
  have d:bM pr z=true:=fG.mp (List.mem_of_getLast? hz);obtain⟨C,hit⟩:∃C,pr[z]?=some C:=⟨_,getElem?_eq_getElem (iM d)⟩;obtain⟨a,ha,M⟩:=D.each z C hit;have O:C.isOrder=true:=by unfold bM at d;rw[hit]at d;exact d
  cases C with
  |numbers n ll=>cases O
  |order n c o f=>
   have bj:Gj n c o f:=D.ok _ (mem_of_getElem? hit);have y:=DM.Dt hz hit;obtain⟨_,U,u⟩:=M.same m;have b:(c=0∨f.isSome=true)→Jg .bV (B3 pr):=fun G=>.inl ⟨Z,fun⟨j,i,I,r⟩=>by rw[y.mpr G j i I]at r;cases r⟩;refine⟨_,Z,_,Z,_,Z,l,_,_,_,Z,Z,aT.of g,zK B,p,_,_,_,Z,Z,aT.of (m _ _ D.lst),a5 ha,?_⟩;refine⟨_,Z,a,_,U,_,_,Z,u,T.a6.cl,T.dE,Z,Z,_,Z,gx (fun G=>cJ (k .bV H1 m (b (.inl (by omega))))) (fun G=>?_)⟩;refine⟨_,Z,a,_,U,_,_,Z,u,T.a6.cl,T.c7,Z,Z,_,Z,kS (fun R=>?_) (fun W=>?_)⟩
   ·have:f.isSome=true:=by
     cases f with
     |none=>exact absurd Z R
     |some x=>rfl
    exact k .bV H1 m (b (.inr this))
   ·have L:f=none:=(kY bj.fl).mp W;refine⟨_,Z,_,Z,l,_,_,_,Z,Z,aT.of g,zK B,k _ H1 m (.inr ⟨⟨z,Z⟩,?_⟩)⟩;refine Classical.byContradiction fun S=>?_;have v:∀k i,pr[k]?=some i→goesOn pr k i=true:=fun j i e=>by
     cases X:goesOn pr j i with
     |true=>rfl
     |false=>exact absurd ⟨j,i,e,X⟩ S
    rcases y.mp v with q|q
    ·exact G (by rw[q];rfl)
    ·rw[L]at q;cases q
theorem II(l:List Nat)(x:Nat):sumN (l++[x])=sumN l+x:=by
 induction l with
 |nil=>simp[sumN]
 |cons a r b=>
  show a+sumN (r++[x])=a+sumN r+x;rw[b];omega
def Pa(H:Hp)(p q:Addr)(pr:Drum.Program)(i:Nat)(d:L2.St)(H':Hp):Prop:=(∃b c,d=[some (.ref p),some (.ref q),some (.int (sumN ((pr.take i).map Item.size):Nat)),b,c])∧aI H H'∧∀k a,k<i→pr[k]?=some a→Hj pr k a=false
theorem rX(T:Top K mg t):Fn P w K mg base 2 "line_too_many" ["rows","named"] (tJ t.aG t.aC (EX Hj)):=by
 refine T.uz.bC (N:=["rows","named","total","line","row"]) (fun nd f _ A outer s H _ Q E L h=>?_);obtain⟨F,p,q,ws,pr,rfl,m,S,k⟩:=h;refine⟨_,(af (aH 2 nd au)
  (af (bx PassesOwn.never Z (gX Z T.bW (aa (pv 0) ai)) (eu Z (aU (bI 3 nd) (aU (bI 4 nd) cP))) (af (xA (i:=2) nd Z (Or.inl Z) (bq (n6 T) L (aa (pv 4) ai)) oT)
  (ah (aM (PW.pt (jC (az n8 (pv 3) (pk T.sP) (aB _)) (i5 (az mD (pv 2) (pk T.fC) (aB _))))) (ah (ak (pv 3))) aA))))
  (ah (ak a_)))),?_⟩
 refine⟨_,Z,p,_,Z,aT.of m.lst,fZ (K:=K) (a:=p) (xs:=ws) (Pa H p q pr) ⟨⟨none,none,Z⟩,aI.refl H,fun k _ J=>absurd J (Nat.not_lt_zero _)⟩ (fun i y H' _ ⟨_,s,_⟩=>aT.of (s _ _ m.lst)) ?_ ?_⟩
 ·rintro i y H' v T1 I D ⟨⟨O,R,rfl⟩,s,b⟩;obtain⟨g,a,c,rfl,hit,bj⟩:=m.at_ I;have n:=s.trans (aK (o:=.tup [.int ((i:Nat):Int),.ref a]) D);have z:((sumN ((pr.take i).map Item.size):Nat):Int)+((g.size:Nat):Int)=((sumN ((pr.take (i+1)).map Item.size):Nat):Int):=by rw[take_snoc c,map_append,map_singleton,II];omega
  refine⟨T1,_,Z,h9.of ae,Z,_,_,Z,_,_,Z,Z,_,Z,_,Z,F,a,g,Z,hit.same n,_,_,Z,Z,?_⟩;dsimp only;rw[z];have x:Hj pr i g=(decide (400≤i)||decide (2000<sumN ((pr.take (i+1)).map Item.size))):=rfl;have d:Hj pr i g=true→∀l,aI H l→Q (.int ((i:Nat):Int)) l:=fun G l M=>k _ l M (.inr ⟨⟨i,Z⟩,i,g,c,G⟩);refine⟨_,Z,_,_,Z,Z,_,Z,cS (fun B=>cJ ⟨_,Z,d (by rw[x,decide_eq_true (by omega)];rfl) _ n⟩) (fun B=>?_)⟩;refine⟨_,Z,_,_,Z,Z,_,Z,cS (fun C=>⟨_,Z,d (by rw[x,decide_eq_true (show 2000<_ by omega),Bool.or_true]) _ n⟩) (fun C=>⟨⟨_,_,Z⟩,n,fun j u _ e=>?_⟩)⟩;by_cases r:j=i
  ·subst r;rw[c]at e;cases e;rw[x,decide_eq_false (by omega),decide_eq_false (by omega)];rfl
  ·exact b j u (by omega) e
 ·rintro y H' ⟨⟨O,R,rfl⟩,s,b⟩;rw[m.len]at b;exact k .bV H' s (gZ.none b)
theorem nP(T:Top K mg t):Fn P w K mg base 2 "line_of_no_order" ["rows","named"] (tJ t.aG t.aC B5):=by
 refine T.oP.bC (N:=["rows","named"]) (fun nd f _ A outer s H _ Q E i h=>?_);obtain⟨F,p,q,ws,pr,rfl,g,j,k⟩:=h;refine⟨_,(ah (ak (dS (az bN (aF aO Z T.cX boot_len (aa (bq (gn T) i (aa (pv 0) ai)) ai)) au (aB _)) (aF aO Z T.cX boot_len (aa (pv 0) ai)) a_))),?_⟩;refine⟨_,Z,F,p,ws,pr,Z,g,fun l H1 d _ c=>⟨l,_,Z,.inl (aT.of c),Z,_,Z,gx (fun b=>?_) (fun b=>?_)⟩⟩
 ·have e:bY pr=[]:=by rw[length_map]at b;exact length_eq_zero_iff.mp (by omega)
  refine⟨_,Z,p,_,Z,.inl (aT.of (d _ _ g.lst)),k _ H1 d (.inr ⟨⟨_,Z⟩,?_⟩)⟩;unfold B5;rw[qW,e];rfl
 ·refine k .bV H1 d (.inl ⟨Z,fun a=>b ?_⟩);unfold B5 at a;rw[qW]at a;have:bY pr=[]:=by
   cases e:bY pr with
   |nil=>rfl
   |cons x r=>rw[e]at a;cases a
  rw[this];rfl
def Bl:List (Drum.Program→Prop):=[EX K6,EX Jn,EX Jo,B3,EX Hj,B5]
theorem Pu(T:Top K mg t){i:Nat}(h:(ji t)[i]?=some v):∃f B,v=.ref f∧Bl[i]?=some B∧Mz P w K mg base 3 f (tJ t.aG t.aC B):=by
 match i,h with
 |0,h=>cases h;exact⟨_,_,Z,Z,(nO T).val T.du (by decide)⟩
 |1,h=>cases h;exact⟨_,_,Z,Z,(k7 T).val T.cz (by decide)⟩
 |2,h=>cases h;exact⟨_,_,Z,Z,(l7 T).val T.cG (by decide)⟩
 |3,h=>cases h;exact⟨_,_,Z,Z,(mB T).val T.cY (by decide)⟩
 |4,h=>cases h;exact⟨_,_,Z,Z,(rX T).val T.eX (by decide)⟩
 |5,h=>cases h;exact⟨_,_,Z,Z,(nP T).val T.dw (by decide)⟩
theorem u9:firstLine p (bad p)=none↔¬EX bad p:=by
 rw[mq];constructor
 ·rintro h ⟨k,i,e,a⟩;rw[h k i e]at a;cases a
 ·intro h k i e;cases a:bad p k i with
  |false=>rfl
  |true=>exact absurd ⟨k,i,e,a⟩ h
theorem JF:firstLine p (fun k i=>!goesOn p k i)=none↔¬B3 p:=by
 rw[mq];constructor
 ·rintro h ⟨k,i,e,a⟩;have:=h k i e;rw[a]at this;cases this
 ·intro h k i e;cases a:goesOn p k i with
  |true=>rfl
  |false=>exact absurd ⟨k,i,e,a⟩ h
theorem iK:faultIn p=none↔∀(j:Nat) (B:Drum.Program→Prop),Bl[j]?=some B→¬B p:=by
 have e:faultIn p=none↔¬EX K6 p∧¬EX Jn p∧¬EX Jo p∧¬B3 p∧¬EX Hj p∧¬B5 p:=by
  rw[← u9,← u9,← u9,← JF,← u9];show faultIn p=none↔firstLine p (named p)=none∧firstLine p (fun _ i=>!operandOk p i)=none∧firstLine p (fun _ i=>!nextOk p i)=none∧firstLine p (fun k i=>!goesOn p k i)=none∧firstLine p (fun k _=>tooMuch p k)=none∧¬B5 p;unfold faultIn B5;cases firstLine p (named p)with
  |some k=>simp
  |none=>
   cases firstLine p (fun _ i=>!operandOk p i)with
   |some k=>simp
   |none=>
    cases firstLine p (fun _ i=>!nextOk p i)with
    |some k=>simp
    |none=>
     cases firstLine p (fun k i=>!goesOn p k i)with
     |some k=>simp
     |none=>
      cases firstLine p (fun k _=>tooMuch p k)with
      |some k=>simp
      |none=>
       cases p.any Item.isOrder<;>simp
 rw[e];constructor
 ·rintro⟨b,c,d,f,g,l⟩ j B a
  match j,a with
  |0,a=>cases a;exact b
  |1,a=>cases a;exact c
  |2,a=>cases a;exact d
  |3,a=>cases a;exact f
  |4,a=>cases a;exact g
  |5,a=>cases a;exact l
 ·intro h;exact⟨h 0 _ Z,h 1 _ Z,h 2 _ Z,h 3 _ Z,h 4 _ Z,h 5 _ Z⟩
theorem CK:∀{rows:List (Option Item)},(∀j,j<rows.length→rows[j]?≠some none)→∃pr,jk rows=some pr
 |[],_=>⟨[],Z⟩
 |none::r,h=>absurd Z (h 0 (Nat.succ_pos _))
 |some x::r,h=>by obtain⟨pr,e⟩:=CK (rows:=r) fun j a=>h (j+1) (Nat.succ_lt_succ a);exact⟨x::pr,by show(jk r).map _=_;rw[e];rfl⟩
theorem Hg{rows:List (Option Item)}{j:Nat}(h:rows[j]?=some none)(pr:Drum.Program):jk rows≠some pr:=fun e=>by
 rw[j0 e,getElem?_map]at h;cases q:pr[j]? with
 |none=>rw[q]at h;cases h
 |some x=>rw[q]at h;cases h
def Oo(v:V)(rows:List (Option Item)):Prop:=(v=.bV∧∃a,jk rows=some a∧faultIn a=none)∨(v≠.bV∧∀a,jk rows=some a→faultIn a≠none)
theorem gA.RN{rows:List (Option Item)}(h:gA d c F H ws rows)(l:H p=some (.lst ws))(e:jk rows=some pr)(ok:Ji pr)(m:rows.length≤100000):dM d c F H p ws pr:=by
 have b:=j0 e;have g:rows.length=pr.length:=by rw[b,length_map]
 refine⟨l,by rw[h.len,g],fun k i j=>?_,ok,by omega⟩;obtain⟨v,f,a,rfl,q⟩:=h.each k (some i) (by rw[b,getElem?_map,j];rfl);exact⟨a,f,q⟩
inductive mR(Co Cn:Addr)(vs:List V)(H:Hp)(Q:VK)(E:XK):Prop
 |mk (F:Addr→Prop) (p:Addr) (ws:List V) (rows:List (Option Item)) (h0_:vs=[.ref p]) (h1_:H p=some (.lst ws)) (h2_:gA Co Cn F H ws rows) (h3_:(∀pr,jk rows=some pr→Ji pr)) (h4_:rows.length≤100000) (h5_:∀v H',aI H H'→Oo v rows→Q v H'):mR Co Cn vs H Q E
def RQ(H:Hp)(p:Addr)(rows:List (Option Item))(i:Nat)(c:L2.St)(H':Hp):Prop:=(∃a b,c=[some (.ref p),a,b,none,none,none])∧aI H H'∧∀j,j<i→rows[j]?≠some none
def RR(H:Hp)(p q:Addr)(pr:Drum.Program)(i:Nat)(e:L2.St)(H':Hp):Prop:=(∃a b c d,e=[some (.ref p),a,b,some (.ref q),c,d])∧aI H H'∧∀j B,j<i→Bl[j]?=some B→¬B pr
theorem wY(T:Top K mg t):Fn P w K mg base 4 "first_fault" ["rows"] (mR t.aG t.aC):=by
 refine T.yu.bC (N:=["rows","line","row","named","kind","fault_line"]) (fun nd f _ A outer s H _ Q E Y h=>?_);obtain⟨F,p,ws,rows,rfl,O,y,bj,R,k⟩:=h;refine⟨_,(af (bx PassesOwn.never Z (gX Z T.bW (aa (pv 0) ai)) (eu Z (aU (bI 1 nd) (aU (bI 2 nd) cP))) (ah (aM (az xj (pv 2) a_ (aB _)) (ah (ak (fk (aa au (aa (pv 1) ai))))) aA)))
  (af (aH 3 nd (bq (lE T) (Y.mono (by decide)) (aa (pv 0) ai)))
  (af (bx PassesOwn.never Z (Ai (k:=2) (by decide) Z T.bW (pk T.yk)) (eu Z (aU (bI 4 nd) (aU (bI 5 nd) cP))) (af (aH 1 nd (qC (pv 5) Y (aa (pv 0) (aa (pv 3) ai))))
  (ah (aM (az nz (pv 1) a_ (aB _)) (ah (ak (fk (aa (pv 4) (aa (pv 1) ai))))) aA))))
  (ah (ak a_))))),?_⟩
 refine⟨_,Z,p,_,Z,aT.of O,fZ (K:=K) (a:=p) (xs:=ws) (RQ H p rows) ⟨⟨none,none,Z⟩,aI.refl H,fun _ J=>absurd J (Nat.not_lt_zero _)⟩ (fun i G H' _ ⟨_,s,_⟩=>aT.of (s _ _ O)) ?_ ?_⟩
 ·rintro i G H' v T1 C I ⟨⟨v1,v2,rfl⟩,s,c⟩;have u:=s.trans (aK (o:=.tup [.int ((i:Nat):Int),v]) I);obtain⟨o,M⟩:∃o,rows[i]?=some o:=⟨_,getElem?_eq_getElem (by rw[← y.len];exact(List.getElem?_eq_some_iff.mp C).1)⟩;obtain⟨v',V,hv⟩:=y.each i o M;rw[C]at V;cases V;refine⟨T1,_,Z,h9.of ae,Z,_,_,Z,_,_,Z,Z,_,Z,Z,_,Z,?_⟩;cases o with
  |none=>
   cases hv;refine cJ ⟨_,Z,by rw[sizeLine_eq];exact(by decide:2≤16777216),fun T2 l=>k _ _ (u.trans (aK l)) (.inr ⟨nofun,fun g e=>absurd e (Hg M g)⟩)⟩
  |some it=>
   obtain⟨a,rfl,a1⟩:=hv;refine cB ⟨⟨_,_,Z⟩,u,fun j hj=>?_⟩;by_cases m:j=i
   ·subst m;rw[M];exact fun z=>nomatch z
   ·exact c j (by omega)
 ·rintro G H1 ⟨⟨v1,v2,rfl⟩,u,c⟩;rw[y.len]at c;obtain⟨g,d⟩:=CK c;have X:dM t.aG t.aC F H p ws g:=y.RN O d (bj g d) R;refine⟨_,Z,F,p,ws,g,Z,X.same u,fun q U S _ hN=>?_⟩;refine⟨_,_,Z,T.yH,zU (K:=K) (RR U p q g) ⟨⟨_,_,_,_,Z⟩,aI.refl U,fun _ _ J=>absurd J (Nat.not_lt_zero _)⟩ ?_ ?_⟩
  ·rintro i G H' v T1 C I ⟨⟨w1,w2,w4,w5,rfl⟩,s3,b⟩;obtain⟨f,B,rfl,W,hf⟩:=Pu (P:=P) (w:=w) (base:=base) T C;have D:=s3.trans (aK (o:=.tup [.int ((i+2:Nat):Int),.ref f]) I);refine⟨T1,_,Z,h9.of ae,Z,_,_,Z,_,_,Z,Z,_,Z,f,_,Z,hf,_,Z,_,Z,F,p,q,ws,g,Z,X.same (u.trans (S.trans D)),hN.same D,fun r _ s5 x=>?_⟩;refine⟨_,Z,Z,_,Z,?_⟩;rcases x with⟨rfl,L⟩|⟨⟨n,rfl⟩,hb⟩
   ·refine cB ⟨⟨_,_,_,_,Z⟩,D.trans s5,fun j B' hj e=>?_⟩;by_cases m:j=i
    ·subst m;rw[W]at e;cases e;exact L
    ·exact b j B' (by omega) e
   ·refine cJ ⟨_,Z,_,Z,by rw[sizeLine_eq];exact(by decide:2≤16777216),fun T2 l=>k _ _ ((u.trans (S.trans (D.trans s5))).trans (aK l)) (.inr ⟨nofun,fun _ e=>?_⟩)⟩;rw[d]at e;cases e;exact fun z=>iK.mp z i B W hb
  ·rintro G H' ⟨⟨w1,w2,w4,w5,rfl⟩,s3,b⟩;exact k _ _ (u.trans (S.trans s3)) (.inl ⟨Z,g,d,iK.mpr fun j B e=>b j B (List.getElem?_eq_some_iff.mp e).1 e⟩)
def MI(H:Hp)(p q a:Addr)(pr:Drum.Program)(i:Nat)(e:L2.St)(H':Hp):Prop:=(∃b c d,e=[some (.ref p),some (.ref q),some (.ref a),some (optN (bS pr (pr.length-i))),b,c,d])∧Kp [a] H H'∧i≤pr.length∧
 H' a=some (.lst ((range i).map fun j=>optN (nextOf pr (pr.length-1-j))))
theorem Iy{b:Type}(f:Nat→b)(n:Nat):((range n).map fun j=>f (n-1-j)).reverse=(range n).map f:=by
 apply List.ext_getElem
 ·simp
 ·intro i a c;simp at a;simp;congr 1;omega
theorem BR{pr:Drum.Program}{k:Nat}{n:Option Name}{c:Nat}{o:Operand}{f:Option Name}(h:pr[k]?=some (.order n c o f)):nextOf pr k=if c=0 then none else match f with
  |some x=>find pr x
  |none=>Drum.following pr k:=by
 unfold nextOf;rw[h];rfl
theorem wL{pr:Drum.Program}(h:pr[k]?=some (.numbers n l)):nextOf pr k=none:=by unfold nextOf;rw[h]
theorem DQ{pr:Drum.Program}{k:Nat}(b:faultIn pr=none)(h:pr[k]?=some (.order n c o (some x))):∃j,find pr x=some j:=by
 have a:=iK.mp b 2 (EX Jo) Z;cases e:find pr x with
 |some j=>exact⟨j,Z⟩
 |none=>
  refine absurd ⟨k,_,h,?_⟩ a;show(!nextOk pr _)=true;unfold nextOk;dsimp only;rw[e];rfl
inductive mW(Co Cn:Addr)(vs:List V)(H:Hp)(Q:VK)(E:XK):Prop
 |mk (F:Addr→Prop) (p q:Addr) (ws:List V) (pr:Drum.Program) (h0_:vs=[.ref p,.ref q]) (h1_:dM Co Cn F H p ws pr) (h2_:yj H q pr) (h3_:faultIn pr=none) (h4_:∀l H',aI H H'→H l=none→H' l=some (.lst ((range pr.length).map fun k=>optN (nextOf pr k)))→Q (.ref l) H'):mW Co Cn vs H Q E
theorem xf(T:Top K mg t):Fn P w K mg base 1 "next_orders" ["rows","named"] (mW t.aG t.aC):=by
 refine T.yA.bC (N:=["rows","named","following","behind","line","row","told"]) (fun nd f _ A outer s H _ Q E hr h=>?_);obtain⟨F,p,q,ws,pr,rfl,y,hN,hf,k⟩:=h;refine⟨_,(af (aH 2 nd (a3 ai))
  (af (aH 3 nd a_)
  (af (bx PassesOwn.never Z (Ip Z T.AR (aa (aN iY (aF aO Z T.cX boot_len (aa (pv 0) ai)) au) (aa (kg gJ au) (aa (kg gJ au) ai)))) (bI 4 nd) (af (aH 5 nd (bB a4 (pv 0) (pv 4) (fun _ _=>rfl)))
  (af (aH 6 nd a_)
  (af (aM (bJ (fP T.cH T.a6 (pv 5))) (af (aM (az d6 (ay (pv 5) Z) aZ (aB _)) (ah (aH 6 nd (lg (dO hr) (pv 1) (ay (pv 5) Z) (fun _ _=>rfl)))) (ah (aM (az d6 (ay (pv 5) Z) (pk T.vv) (aB _)) (ah (aH 6 nd (pv 3))) aA)))
  (ah (aH 3 nd (pv 4)))) aA)
  (ah (bu (mG PySem.F.plainAttrs_list PySem.F.slot_list_append PySem.F.type_list_append fJ (pv 2) (aa (pv 6) ai))))))))
  (af (bu (FR PySem.F.plainAttrs_list PySem.F.slot_list_reverse PySem.F.type_list_reverse FC (pv 2)))
  (ah (ak (pv 2))))))),?_⟩
 refine⟨by rw[sizeLine_eq];exact Nat.zero_le _,fun m g=>?_⟩;have s0:=aK (o:=.lst []) g;dsimp only[eR];have hn:=y.len;have a1:=y.short;have hr:O5 ((ws.length:Int)-1) (-1) (-1) ws.length:=by
  have:=O5.neg (i:=(ws.length:Int)-1) (j:=-1) (by omega) (by omega) (by omega) (by omega);have e:((ws.length:Int)-1 - -1).toNat=ws.length:=by omega
  rw[e]at this;exact this
 refine⟨_,Z,p,_,Z,.inl (aT.of (s0 _ _ y.lst)),_,_,Z,Z,_,Z,_,Z,_,_,_,_,Z,hr,Ft (MI H p q m pr) ⟨⟨none,none,none,?_⟩,Kp.of s0,Nat.zero_le _,ae⟩ ?_ ?_⟩
 ·rw[Nat.sub_zero,DM.BQ (Nat.le_refl _)];rfl
 ·rintro i σ H1 hi ⟨⟨v4,v,v6,rfl⟩,kp,S,d⟩;rw[hn]at hi;have J:(((ws.length:Int)-1)+((i:Nat):Int)* -1)=((pr.length-1-i:Nat):Int):=by omega
  rw[J];generalize hk:pr.length-1-i=l at*;have ek:pr.length-i=l+1:=by omega
  have I:pr.length-(i+1)=l:=by omega
  obtain⟨D,hit⟩:∃D,pr[l]?=some D:=⟨_,getElem?_eq_getElem (by omega)⟩;obtain⟨a,ha,R⟩:=y.each l D hit;have bj:=y.ok D (mem_of_getElem? hit);have X:p≠m:=aj y.lst g;have W:H1 p=some (.lst ws):=kp _ _ y.lst (by simp;exact X);have u:iI t.aG t.aC F H1 a D:=R.kp kp (fun x _ ⟨o,e⟩=>by simp;exact aj e g) fun _ z=>z;obtain⟨ty,h1,h2⟩:=rE T u;have n:=DM.yM hit;have O:=iw pr l;have step:∀(told:V) (v:Option V) (r:V),told=optN (nextOf pr l)→r=optN (bS pr l)→MI H p q m pr (i+1) [some (.ref p),some (.ref q),some (.ref m),some r,some (.int (l:Nat)),v,some told] (upd H1 m (.lst ((range i).map (fun j=>optN (nextOf pr (pr.length-1-j)))++[told]))):=by rintro told v r rfl rfl;refine⟨⟨_,_,_,by rw[I]⟩,kp.trans (Kp.upd (by simp)),by omega,?_⟩;rw[ae,range_succ,map_append,map_singleton,hk]
  refine⟨_,Z,_,Z,p,_,_,_,Z,Z,aT.of W,a5 ha,?_⟩;dsimp only[eR];refine gY fun K0 L=>?_
  change K0 _ _
  rw[L];refine gY fun K1 hK=>?_;have b:∀(told:V) (v:Option V) (r:V),told=optN (nextOf pr l)→r=optN (bS pr l)→K1 [some (.ref p),some (.ref q),some (.ref m),some r,some (.int (l:Nat)),v,some told] H1:=by intro told v r e1 e2;rw[hK];refine⟨_,Z,.inl ⟨Z,_,aT.of d⟩,_,Z,m,_,_,Z,Z,d,?_,step told v r e1 e2⟩;rw[length_map,length_range,sizeLine_eq];omega
  refine⟨_,Z,_,_,ty,_,Z,h1,h2,_,Z,?_⟩;cases D with
  |numbers nn ll=>
   refine cB (b _ _ _ (by rw[wL hit];rfl) ?_);rw[n,ek];rfl
  |order nn c o f=>
   obtain⟨_,G,B⟩:=u;have C:=BR hit;refine cJ ⟨_,Z,a,_,G,_,_,Z,B,T.a6.cl,T.c7,Z,Z,_,Z,kS (fun U=>?_) (fun he=>?_)⟩
   ·obtain⟨x,rfl⟩:∃x,f=some x:=by
     cases f with
     |none=>exact absurd Z U
     |some x=>exact⟨x,Z⟩
    obtain⟨j,hj⟩:=DQ hf hit;obtain⟨a2,hq,hv⟩:=hN.ex;have Y:=kp _ _ hq (by simp;exact aj hq g);have hg:dY H1 q (bg x) (some (.int (j:Nat))):=by have:=dY.k (k:=Sum.inr (sB x)) Y;rw[hv,hj]at this;exact this
    refine⟨_,Z,_,Z,a,_,G,_,_,Z,B,T.a6.cl,T.c7,Z,q,_,Z,hg,_,Z,b _ _ _ ?_ ?_⟩
    ·rw[C,if_neg (bj.bL Z)];dsimp only;rw[hj];rfl
    ·rw[n];rfl
   ·have M:f=none:=(kY bj.fl).mp he;subst M;refine⟨_,Z,a,_,G,_,_,Z,B,T.a6.cl,T.dE,Z,Z,_,Z,iO (fun hc=>⟨_,Z,_,Z,b _ _ _ ?_ ?_⟩) (fun hc=>⟨_,Z,b _ _ _ ?_ ?_⟩)⟩
    ·rw[C,if_neg (by omega)];dsimp only;rw[O,ek]
    ·rw[n];rfl
    ·rw[C,if_pos (by omega)];rfl
    ·rw[n];rfl
 ·rintro σ H1 ⟨⟨v4,v,v6,rfl⟩,kp,S,d⟩;rw[hn]at d;refine⟨_,Z,.inl ⟨Z,_,aT.of d⟩,m,_,Z,Z,d,_,Z,k m _ ?_ g ?_⟩
  ·exact(Kp.uI (kp.trans (Kp.upd (by simp))) g)
  ·rw[ae];exact congrArg (fun z=>some (HO.lst z)) (Iy (fun k=>optN (nextOf pr k)) pr.length)
abbrev kN(n:Nat):Key:=Sum.inl ((n:Nat):Int)
theorem oU(h:kN a=kN b):a=b:=by have:=Sum.inl.inj h;omega
def KN(kvs:List (Key×V))(ns:List Nat):Prop:=kvs.map (·.1)=ns.map kN
theorem KN.len{kvs:List (Key×V)}{ns:List Nat}(h:KN kvs ns):kvs.length=ns.length:=by have:=congrArg length h;simpa using this
theorem KN.mem{kvs:List (Key×V)}(h:KN kvs ns)(n:Nat):kN n∈kvs.map (·.1)↔n∈ns:=by
 rw[show kvs.map (·.1)=ns.map kN from h,mem_map];constructor
 ·rintro⟨m,hm,e⟩;rw[← oU e];exact hm
 ·intro hm;exact⟨n,hm,Z⟩
theorem KN.has(h:KN kvs ns)(n:Nat):(bH kvs (kN n)).isSome=decide (n∈ns):=by
 cases e:bH kvs (kN n)with
 |none=>exact(decide_eq_false (fun m=>KI e ((h.mem n).mpr m))).symm
 |some v=>exact(decide_eq_true ((h.mem n).mp (Mu e))).symm
theorem KN.none(h:KN kvs ns)(hn:n∉ns):bH kvs (kN n)=none:=by
 have:=h.has n;rw[decide_eq_false hn]at this;cases e:bH kvs (kN n)with
 |none=>rfl
 |some v=>rw[e]at this;cases this
theorem KN.put(h:KN kvs ns)(hn:n∉ns)(v:V):KN (putK kvs (kN n) v) (ns++[n]):=by rw[xB v (h.none hn)];show(kvs++[(kN n,v)]).map (·.1)=(ns++[n]).map kN;rw[map_append,map_append,show kvs.map (·.1)=ns.map kN from h];rfl
theorem Iu{kvs:List (Key×V)}(h:(bH kvs k).isSome=true):(putK kvs k v).map (·.1)=kvs.map (·.1):=by unfold putK;rw[gw,if_pos h,map_map];apply map_congr_left;intro x _;show(if x.1=k then(x.1,v)else x).1=x.1;split<;>rfl
theorem KN.N0(h:KN kvs ns)(hn:n∈ns)(v:V):KN (putK kvs (kN n) v) ns:=by unfold KN;rw[Iu (by rw[h.has,decide_eq_true hn])];exact h
def uk(ns:List Nat)(n:Nat):List Nat:=if n∈ns then ns else ns++[n]
theorem KN.L_(h:KN kvs ns)(n:Nat)(v:V):KN (putK kvs (kN n) v) (uk ns n):=by
 unfold uk;by_cases hn:n∈ns
 ·rw[if_pos hn];exact h.N0 hn v
 ·rw[if_neg hn];exact h.put hn v
theorem j8{n x:Nat}:x∈uk ns n↔x∈ns∨x=n:=by
 unfold uk;split
 ·constructor
  ·exact .inl
  ·rintro(h|rfl)<;>assumption
 ·rw[mem_append,mem_singleton]
theorem gD{ns:List Nat}(h:ns.Nodup):(uk ns n).Nodup:=by
 unfold uk;split
 ·exact h
 ·rename_i hn
  rw[nodup_append];refine⟨h,by simp,fun a ha b c e=>?_⟩;rw[mem_singleton]at c;subst c;subst e;exact hn ha
theorem KN.JQ{ns:List Nat}(h:KN kvs ns):CG kvs (ns.map fun(n:Nat)=>(n:Int)):=by unfold CG;rw[show kvs.map (·.1)=ns.map kN from h,map_map];rfl
def yG(l:List Int):Placing:=l.map Int.toNat
inductive G3(Co Cn:Addr)(vs:List V)(H:Hp)(Q:VK)(E:XK):Prop
 |mk (F:Addr→Prop) (p q:Addr) (ws:List V) (pr:Drum.Program) (l:List Int) (h0_:vs=[.ref p,.ref q]) (h1_:dM Co Cn F H p ws pr) (h2_:H q=some (.lst (l.map V.int))) (h3_:l.length=pr.length) (h4_:∀H',aI H H'→Q (.bl (sZ pr l)) H'):G3 Co Cn vs H Q E
noncomputable def MA(pr:Drum.Program)(l:List Int)(i:Nat):List Nat:=(range i).flatMap (fY pr (yG l))
def Oq(H:Hp)(p q tk:Addr)(pr:Drum.Program)(l:List Int)(i:Nat)(e:L2.St)(H':Hp):Prop:=(∃b c d,e=[some (.ref p),some (.ref q),some (.ref tk),b,c,d])∧Kp [tk] H H'∧(∃a,H' tk=some (.dK a)∧KN a (MA pr l i))∧(MA pr l i).Nodup∧(MA pr l i).length≤40*i∧∀j z,j<i→l[j]?=some z→0≤z∧z<2000
def QE(H:Hp)(p q tk:Addr)(c d:V)(A:List Nat)(a:Nat)(j:Nat)(f:L2.St)(H':Hp):Prop:=(∃e,f=[some (.ref p),some (.ref q),some (.ref tk),some c,some d,e])∧Kp [tk] H H'∧(∃b,H' tk=some (.dK b)∧KN b (A++(range j).map (around a)))∧(A++(range j).map (around a)).Nodup
theorem BV{A B:List Nat}(c:B[j]?=some x)(l:x∈A++B.take j):¬(A++B).Nodup:=by
 intro h;obtain⟨_,k,hd⟩:=nodup_append.mp h;rcases mem_append.mp l with b|b
 ·exact hd x b x (mem_of_getElem? c) Z
 ·obtain⟨i,a⟩:=mem_iff_getElem?.mp b;rw[getElem?_take]at a;split at a
  ·rename_i bL
   obtain⟨f,d⟩:=List.getElem?_eq_some_iff.mp a;obtain⟨g,e⟩:=List.getElem?_eq_some_iff.mp c;have:=FE k f g (by rw[d,e]);omega
  ·cases a
theorem LU(T:Top K mg t):Fn P w K mg base 3 "fits" ["rows","placing"] (G3 t.aG t.aC):=by
 refine T.Nn.bC (N:=["rows","placing","taken","row","start","address"]) (fun nd f _ A outer s H _ Q E hr h=>?_);obtain⟨F,p,q,ws,pr,l,rfl,I,hq,X,k⟩:=h;refine⟨_,(af (aH 2 nd g7)
  (af (bx PassesOwn.never Z (FV Z T.Jm (aa (pv 0) (aa (pv 1) ai))) (eu Z (aU (bI 3 nd) (aU (bI 4 nd) cP))) (af (aM (dJ (bJ (bq (gW T) (hr.mono (by decide)) (aa (pv 4) ai)))) (ah (ak iZ)) aA)
  (ah (bx PassesOwn.never Z (bK (bq (bU T) hr (aa (pv 4) (aa (bq (n6 T) (hr.mono (by decide)) (aa (pv 3) ai)) ai)))) (bI 5 nd) (af (aM (so (si (dO hr) (pv 5) (pv 2))) (ah (ak iZ)) aA)
  (ah (lh (dO hr) (pv 2) (pv 5) iZ Z)))))))
  (ah (ak iZ)))),?_⟩
 intro tk rC;have s0:=aK (o:=.dK []) rC;dsimp only[eR];have c3:p≠tk:=aj I.lst rC;have c4:q≠tk:=aj hq rC;have Y:∀b,b=false→∀H',aI H H'→(sZ pr l=true→False)→Q (.bl b) H':=fun b e H' s r=>by
  have:=k H' s;rw[e];cases hv:sZ pr l with
  |false=>rw[hv]at this;exact this
  |true=>exact absurd hv r
 refine⟨_,Z,_,Z,p,q,_,_,Z,aT.of (s0 _ _ I.lst),aT.of (s0 _ _ hq),BG (K:=K) (a:=p) (b:=q) (xs:=ws) (ys:=l.map V.int) (by rw[length_map,X,I.len]) (Oq H p q tk pr l)
  ⟨⟨none,none,none,Z⟩,Kp.of s0,⟨[],ae,Z⟩,nodup_nil,Nat.le_refl _,fun _ _ hk=>absurd hk (Nat.not_lt_zero _)⟩
  (fun i O H' _ ⟨_,kp,_⟩=>⟨aT.of (kp _ _ I.lst (by simp;exact c3)),aT.of (kp _ _ hq (by simp;exact c4))⟩) ?_ ?_⟩
 ·rintro i O H1 v z' T1 hi M hT ⟨⟨v3,v4,v5,rfl⟩,kp,⟨kvs,hk,c1⟩,C,hlen,d⟩;rw[getElem?_map]at M;obtain⟨z,J,rfl⟩:∃z,l[i]?=some z∧z'=V.int z:=by
   cases e:l[i]? with
   |none=>rw[e]at M;cases M
   |some z=>rw[e]at M;cases M;exact⟨z,Z,Z⟩
  obtain⟨m,a,a1,rfl,hit,bj⟩:=I.at_ hi;have d3:=(List.getElem?_eq_some_iff.mp a1).1;have d5:=I.short;have sT:=aK (o:=.tup [.ref a,.int z]) hT;have U:iI t.aG t.aC F (upd H1 T1 (.tup [.ref a,.int z])) a m:=(hit.kp kp (fun x _ ⟨o,e⟩=>by simp;exact aj e rC) fun _ z=>z).same sT;refine⟨T1,_,Z,h9.of ae,Z,_,_,Z,_,_,Z,Z,_,Z,z,Z,_,Z,?_⟩;refine gC (fun r=>?_) (fun r=>?_)
  ·refine Y _ Z _ ((Kp.uI kp rC).trans sT) (fun ho=>?_);have:=((ny X).mp ho).1 z (mem_of_getElem? J);rw[decide_eq_true this.1,decide_eq_true this.2]at r;cases r
  ·have d1:0≤z∧z<2000:=by
    by_cases h1:0≤z
    ·by_cases R:z<2000
     ·exact⟨h1,R⟩
     ·rw[decide_eq_false R,Bool.and_false]at r;cases r
    ·rw[decide_eq_false h1]at r;cases r
   obtain⟨n,rfl⟩:∃n:Nat,z=n:=⟨z.toNat,by omega⟩;have c9:m.size≤40:=by
    cases m with
    |order _ _ _ _=>show 1≤40;omega
    |numbers _ ll=>exact bj.2.2.1
   have b9:fY pr (yG l) i=(range m.size).map (around n):=by unfold fY yG;rw[a1,getD_eq_getElem?_getD,getElem?_map,J];rfl
   have hA:MA pr l (i+1)=MA pr l i++(range m.size).map (around n):=by unfold MA;rw[fg,b9]
   refine⟨_,Z,_,Z,F,a,m,Z,U,n,_,Z,c9,fun L hL=>⟨L,Z,⟨_,aT.of ae⟩,?_⟩⟩;have sL:=aK (o:=.lst (cC n m.size)) hL;have a2:=sL _ _ (sT _ _ hk);have b1:L≠tk:=(aj (sT _ _ hk) hL).symm;refine cu (K:=K) (a:=L) (xs:=cC n m.size) (fun j O H'=>QE H p q tk (.ref a) (.int (n:Nat)) (MA pr l i) n j O H'∧H' L=some (.lst (cC n m.size)))
    ⟨⟨⟨_,Z⟩,(kp.trans (Kp.of sT)).trans (Kp.of sL),⟨kvs,a2,by rw[range_zero,map_nil,append_nil];exact c1⟩,by rw[range_zero,map_nil,append_nil];exact C⟩,ae⟩ (fun j O H' _ ⟨_,e⟩=>aT.of e) ?_ ?_
   ·rintro j x O H2 u ⟨⟨⟨d2,rfl⟩,D,⟨G,B,c⟩,g⟩,S⟩;obtain⟨W,rfl⟩:j<m.size∧x=V.int ((around n j:Nat):Int):=by
     unfold cC at u;rw[getElem?_map]at u;cases e:(range m.size)[j]? with
     |none=>rw[e]at u;cases u
     |some y=>
      rw[e]at u;cases u;obtain⟨h1,R⟩:=List.getElem?_eq_some_iff.mp e;rw[getElem_range]at R;subst R;exact⟨by simpa using h1,Z⟩
    refine⟨_,Z,_,Z,tk,_,Z,dY.k (k:=kN (around n j)) B,_,Z,?_⟩;rw[c.has];refine cS (fun hm=>?_) (fun hm=>?_)
    ·refine Y _ Z _ (Kp.uI D rC) (fun ho=>?_);have hN:=((ny X).mp ho).2;have b2:=DM.BU (j:=i+1) (by omega) hN;have b3:(MA pr l i++(range m.size).map (around n)).Nodup:=by rw[← hA];exact b2
     refine BV (j:=j) (x:=around n j) ?_ ?_ b3
     ·rw[getElem?_map,getElem?_range W];rfl
     ·rw[← map_take,List.take_range,Nat.min_eq_left (Nat.le_of_lt W)];exact hm
    ·have c2:=c.len;rw[length_append,length_map,length_range]at c2;refine⟨_,Z,_,Z,tk,_,Z,vm.k (k:=kN (around n j)) B (by rw[sizeLine_eq];omega),⟨⟨_,Z⟩,D.trans (Kp.upd (by simp)),⟨_,ae,?_⟩,?_⟩,by rw[aw b1];exact S⟩
     ·have:=c.put hm (.bl true);rw[i6,← append_assoc];exact this
     ·rw[i6,← append_assoc,nodup_append];refine⟨g,by simp,fun a ha b r e=>?_⟩;rw[mem_singleton]at r;subst r;subst e;exact hm ha
   ·rintro O H2 ⟨⟨⟨d2,rfl⟩,D,⟨G,B,c⟩,g⟩,S⟩;have d0:(cC n m.size).length=m.size:=by unfold cC;rw[length_map,length_range]
    rw[d0]at c g;refine⟨⟨_,_,_,Z⟩,D,⟨G,B,by rw[hA];exact c⟩,by rw[hA];exact g,?_,fun j z u e=>?_⟩
    ·rw[hA,length_append,length_map,length_range];omega
    ·by_cases c0:j=i
     ·subst c0;rw[J]at e;cases e;exact d1
     ·exact d j z (by omega) e
 ·rintro O H1 ⟨⟨v3,v4,v5,rfl⟩,kp,_,C,_,d⟩;rw[I.len]at C d;have:sZ pr l=true:=(ny X).mpr ⟨fun z M=>by obtain⟨j,u⟩:=mem_iff_getElem?.mp M;exact d j z (by rw[← X];exact(List.getElem?_eq_some_iff.mp u).1) u,C⟩
  have kk:=k H1 (Kp.uI kp rC);rw[this]at kk;exact kk
def aY(k:Nat):V:=.int (k:Nat)
theorem pM{l:List Nat}(h:j<l.length):EZ (l.map aY) ((j:Nat):Int)=some (.int ((l.getD j 0:Nat):Int)):=by refine a5 ?_;rw[getElem?_map,getElem?_eq_getElem h,getD_eq_getElem?_getD,getElem?_eq_getElem h];rfl
theorem GA{pr:Drum.Program}(h:find pr x=some j):j<pr.length:=by obtain⟨i,e,_⟩:=DM.find_some h;exact(List.getElem?_eq_some_iff.mp e).1
theorem L0{pr:Drum.Program}{k:Nat}(d:faultIn pr=none)(h:pr[k]?=some (.order n c o f))(a:F9 o≠[]):∃j,find pr (F9 o)=some j:=by
 have b:=iK.mp d 1 (EX Jn) Z;cases e:find pr (F9 o)with
 |some j=>exact⟨j,Z⟩
 |none=>
  refine absurd ⟨k,_,h,?_⟩ b;show(!operandOk pr _)=true;cases o with
  |none=>exact absurd Z a
  |times k=>exact absurd Z a
  |word x k=>unfold operandOk;dsimp only;rw[show find pr x=none from e];rfl
  |to x=>unfold operandOk;dsimp only;rw[show find pr x=none from e];rfl
theorem NV{l:Placing}(a:Kc o):(F9 o=[]→operandAddress pr l o=num o)∧∀j,F9 o≠[]→find pr (F9 o)=some j→operandAddress pr l o=around (l.getD j 0) (num o):=by
 cases o with
 |none=>exact⟨fun _=>rfl,fun j h=>absurd Z h⟩
 |times k=>exact⟨fun _=>rfl,fun j h=>absurd Z h⟩
 |word x k=>
  refine⟨fun h=>absurd h (ql a.1),fun j _ e=>?_⟩;show addressOf pr l x k=_;unfold addressOf;rw[show find pr x=some j from e];rfl
 |to x=>
  refine⟨fun h=>absurd h (ql a),fun j _ e=>?_⟩;show addressOf pr l x 0=_;unfold addressOf;rw[show find pr x=some j from e];rfl
inductive lK(Co Cn:Addr)(vs:List V)(H:Hp)(Q:VK)(E:XK):Prop
 |mk (F:Addr→Prop) (a q pl:Addr) (n:Option Name) (c:Nat) (o:Operand) (f:Option Name) (pr:Drum.Program) (l:Placing) (h0_:vs=[.ref a,.ref q,.ref pl]) (h1_:iI Co Cn F H a (.order n c o f)) (h2_:Gj n c o f) (h3_:yj H q pr) (h4_:H pl=some (.lst (l.map aY))) (h5_:l.length=pr.length) (h6_:(F9 o≠[]→∃j,find pr (F9 o)=some j)) (h7_:Q (.int (operandAddress pr l o:Nat)) H):lK Co Cn vs H Q E
theorem uO(T:Top K mg t):Fn P w K mg base 2 "data_address" ["order","named","placing"] (lK t.aG t.aC):=by
 refine T.vJ.bC (N:=["order","named","placing"]) (fun nd f _ A outer s H _ Q E m h=>?_);obtain⟨F,a,q,pl,n,c,o,f,pr,l,rfl,hit,bj,u,hpl,y,e,k⟩:=h;refine⟨_,(af (aM (az bN (ay (pv 0) Z) aZ (aB _)) (ah (ak (ay (pv 0) Z))) aA)
  (ah (ak (bq (iT T) m (aa (bB a4 (pv 2) (lg (dO m) (pv 1) (ay (pv 0) Z) (fun _ _=>rfl)) (fun _ _=>rfl)) (aa (ay (pv 0) Z) ai)))))),?_⟩
 obtain⟨_,b,ha⟩:=hit;obtain⟨p,r⟩:=NV (pr:=pr) (l:=l) bj.op;refine⟨_,Z,a,_,b,_,_,Z,ha,T.a6.cl,T.da,Z,Z,_,Z,fE (fun v=>?_) (fun i=>?_)⟩
 ·have d:F9 o=[]:=fu.mp v;rw[p d]at k;exact⟨_,Z,a,_,b,_,_,Z,ha,T.a6.cl,T.c8,Z,k⟩
 ·have d:F9 o≠[]:=fun z=>i (by rw[z];rfl);obtain⟨j,g⟩:=e d;rw[r j d g]at k;obtain⟨D,B,C⟩:=u.ex;have x:dY H q (bg (F9 o)) (some (.int (j:Nat))):=by have:=dY.k (k:=Sum.inr (sB (F9 o))) B;rw[C,g]at this;exact this
  refine⟨_,Z,_,Z,_,Z,a,_,b,_,_,Z,ha,T.a6.cl,T.da,Z,q,_,Z,x,pl,_,_,_,Z,Z,aT.of hpl,pM (by rw[y];exact GA g),_,Z,a,_,b,_,_,Z,ha,T.a6.cl,T.c8,Z,l.getD j 0,num o,Z,k⟩
theorem Ih{pr:Drum.Program}(h:nextOf pr k=some j):j<pr.length:=by
 unfold nextOf at h;split at h
 ·split at h
  ·cases h
  ·split at h
   ·exact GA h
   ·rw[iw]at h;exact iM (DM.jQ h).2.1
 ·cases h
def KS(pr:Drum.Program)(l:Placing)(k:Nat):Nat:=((nextOf pr k).map fun i=>l.getD i 0).getD 0
theorem qB{pr:Drum.Program}(h:pr[k]?=some (.order n c o f)):orderWord pr l k=((100000000*c+10000*operandAddress pr l o+KS pr l k:Nat):Int):=by unfold orderWord;rw[h];rfl
theorem u_{l:List Nat}(h:∀a∈l,a<2000)(i:Nat):l.getD i 0<2000:=by
 rw[getD_eq_getElem?_getD];cases e:l[i]? with
 |none=>exact(by decide:0<2000)
 |some a=>exact h a (mem_of_getElem? e)
theorem Ad(c:Kc o)(h:∀a∈l,a<2000):operandAddress pr l o<2000:=by
 have b:∀x k,addressOf pr l x k<2000:=fun x k=>by
  unfold addressOf;cases find pr x with
  |none=>exact(by decide:0<2000)
  |some i=>exact fA k (u_ h i)
 cases o with
 |none=>exact(by decide:0<2000)
 |times k=>have:k≤20:=c;show k<2000;omega
 |word x k=>exact b x k
 |to x=>exact b x 0
inductive KC(Cm Co Cn:Addr)(wr:Drum.Program→Placing→List (Nat×Int))(vs:List V)(H:Hp)(Q:VK)(E:XK):Prop
 |mk (F:Addr→Prop) (m d p pl:Addr) (M:Machine) (ws:List V) (pr:Drum.Program) (l:Placing) (h0_:vs=[.ref m,.ref p,.ref pl]) (h1_:lX Cm H m d M) (h2_:M.drum.length=2000) (h3_:dM Co Cn F H p ws pr) (h4_:(∀x,F x→x≠d)) (h5_:p≠d) (h6_:pl≠d) (h7_:H pl=some (.lst (l.map aY))) (h8_:l.length=pr.length) (h9_:(∀a∈l,a<2000)) (h10_:faultIn pr=none) (h11_:∀H',Kp [d] H H'→lX Cm H' m d {M with drum:=b5 M.drum (wr pr l)}→Q .bV H'):KC Cm Co Cn wr vs H Q E
def LoInv(a:Addr)(H:Hp)(m d p pl nm b:Addr)(M:Machine)(pr:Drum.Program)(l:Placing)(i:Nat)(h:L2.St)(H':Hp):Prop:=(∃c e f g,h=[some (.ref m),some (.ref p),some (.ref pl),some (.ref nm),some (.ref b),c,e,f,g])∧Kp [d] H H'∧lX a H' m d {M with drum:=b5 M.drum ((pq pr l).take i)}
theorem JZ(h:known c=true):c<10000:=Nat.lt_trans (z8 h) (by decide)
theorem yU(T:Top K mg t):Fn P w K mg base 3 "lay_orders" ["machine","rows","placing"] (KC t.aq t.aG t.aC pq):=by
 refine T.Br.bC (N:=["machine","rows","placing","named","following","line","order","behind","target"]) (fun nd f _ A outer s H _ Q E hr h=>?_);obtain⟨F,m,d,p,pl,M,ws,pr,l,rfl,hM,a2,I,hF,d0,Y,hpl,hl,W,hf,k⟩:=h;refine⟨_,(af (aH 3 nd (bq (lE T) (hr.mono (by decide)) (aa (pv 1) ai)))
  (af (aH 4 nd (bq (xf T) (hr.mono (by decide)) (aa (pv 1) (aa (pv 3) ai))))
  (ah (bx PassesOwn.never Z (bK (bq (gn T) (hr.mono (by decide)) (aa (pv 1) ai))) (bI 5 nd) (af (aH 6 nd (bB a4 (pv 1) (pv 5) (fun _ _=>rfl)))
  (af (aH 7 nd (bB a4 (pv 4) (pv 5) (fun _ _=>rfl)))
  (af (aH 8 nd (dS (az xj (pv 7) a_ (aB _)) au (bB a4 (pv 2) (pv 7) (fun _ _=>rfl))))
  (ah (pB (bq (yY T) (hr.mono (by decide)) (aa (ay (pv 6) Z) (aa (bq (uO T) hr (aa (pv 6) (aa (pv 3) (aa (pv 2) ai)))) (aa (pv 8) ai)))) (pw (ay (pv 0) Z) (bB a4 (pv 2) (pv 5) (fun _ _=>rfl)) set_list)))))))))),?_⟩
 refine⟨_,Z,F,p,ws,pr,Z,I,fun nm H1 s1 c3 hN=>?_⟩;refine⟨_,Z,_,Z,F,p,nm,ws,pr,Z,I.same s1,hN,hf,fun fo _ s2 c0 b9=>?_⟩;refine⟨_,Z,F,p,ws,pr,Z,I.same (s1.trans s2),fun ln H3 s3 c2 D=>?_⟩;have y:=s1.trans (s2.trans s3);have G:=hM.drum;have d3:nm≠d:=(aj G c3).symm;have a1:fo≠d:=(aj (s1 _ _ G) c0).symm;have d2:ln≠d:=(aj ((s1.trans s2) _ _ G) c2).symm;refine⟨ln,Z,⟨_,aT.of D⟩,cu (K:=K) (a:=ln) (xs:=(bY pr).map fun k=>V.int (k:Nat)) (LoInv t.aq H3 m d p pl nm fo M pr l) ⟨⟨none,none,none,none,Z⟩,Kp.refl _ _,by rw[take_zero];exact hM.same y⟩ (fun i σ H' _ ⟨_,kp,_⟩=>aT.of (kp _ _ D (by simp;exact d2))) ?_ ?_⟩
 ·rintro i x σ H' O ⟨⟨v5,v6,v7,v8,rfl⟩,kp,q⟩;rw[getElem?_map]at O;obtain⟨b,S,rfl⟩:∃b,(bY pr)[i]?=some b∧x=V.int (b:Nat):=by
   cases e:(bY pr)[i]? with
   |none=>rw[e]at O;cases O
   |some z=>rw[e]at O;cases O;exact⟨z,Z,Z⟩
  have B:=fG.mp (mem_of_getElem? S);have U:=iM B;obtain⟨J,hit⟩:∃J,pr[b]?=some J:=⟨_,getElem?_eq_getElem U⟩;obtain⟨a,ha,hia⟩:=I.each b J hit;have bj:=I.ok J (mem_of_getElem? hit);have c1:J.isOrder=true:=by unfold bM at B;rw[hit]at B;exact B
  cases J with
  |numbers _ _=>cases c1
  |order n c o f=>
  have C:iI t.aG t.aC F H' a (.order n c o f):=(hia.same y).kp kp (fun x hx _=>by simp;exact hF x hx) fun _ z=>z;have R:=C;obtain⟨_,dx,b2⟩:=R;have c9:H' p=some (.lst ws):=kp _ _ (y _ _ I.lst) (by simp;exact d0);have L:=kp _ _ (s3 _ _ b9) (by simp;exact a1);have u:H' pl=some (.lst (l.map aY)):=kp _ _ (y _ _ hpl) (by simp;exact Y);have b1:yj H' nm pr:=by obtain⟨d1,e,v⟩:=hN.ex;exact⟨d1,kp _ _ ((s2.trans s3) _ _ e) (by simp;exact d3),v⟩
  have b3:((range pr.length).map fun k=>optN (nextOf pr k))[b]?=some (optN (nextOf pr b)):=by rw[getElem?_map,getElem?_range U];rfl
  obtain⟨dm,hm⟩:=q.ins;have d5:=Ad (pr:=pr) bj.op W;have X:(b5 M.drum ((pq pr l).take i)).length=2000:=by rw[dX,a2]
  have c4:(pq pr l)[i]?=some (l.getD b 0,orderWord pr l b):=by unfold pq;rw[getElem?_map,S];rfl
  refine⟨_,Z,_,Z,p,_,_,_,Z,Z,aT.of c9,a5 ha,_,Z,_,Z,fo,_,_,_,Z,Z,aT.of L,a5 b3,?_⟩;dsimp only[eR];refine gY fun K1 hK=>?_;have g:K1 [some (.ref m),some (.ref p),some (.ref pl),some (.ref nm),some (.ref fo),some (.int (b:Nat)),some (.ref a),some (optN (nextOf pr b)),some (.int (KS pr l b:Nat))] H':=by
   rw[hK];refine⟨_,Z,a,_,dx,_,_,Z,b2,T.a6.cl,T.dE,Z,_,Z,_,Z,_,Z,F,a,nm,pl,n,c,o,f,pr,l,Z,C,bj,b1,u,hl,L0 hf hit,_,Z,c,_,KS pr l b,Z,JZ bj.known,by omega,?_⟩;refine⟨_,Z,m,_,dm,_,_,Z,hm,T.ao.cl,T.a7,eI _ _,_,Z,_,Z,pl,_,_,_,Z,Z,aT.of u,pM (by omega),d,_,_,_,Z,Z,q.drum,wm (by rw[length_map,X];exact u_ W b),?_⟩;rw[map_set];refine⟨⟨_,_,_,_,Z⟩,kp.trans (Kp.upd (by simp)),?_⟩;have e1:b5 M.drum ((pq pr l).take (i+1))=(b5 M.drum ((pq pr l).take i)).set (l.getD b 0) ((100000000*c+10000*operandAddress pr l o+KS pr l b:Nat):Int):=by rw[take_snoc c4,tF,qB hit]
   rw[e1];exact q.F2
  refine⟨_,Z,Z,_,Z,?_⟩;cases r:nextOf pr b with
  |none=>
   have et:KS pr l b=0:=by unfold KS;rw[r];rfl
   rw[et,r]at g;exact cJ g
  |some j=>
   have et:KS pr l b=l.getD j 0:=by unfold KS;rw[r];rfl
   rw[et,r]at g;exact cB ⟨_,Z,_,Z,pl,_,_,_,Z,Z,aT.of u,pM (by rw[hl];exact Ih r),g⟩
 ·rintro σ H' ⟨⟨v5,v6,v7,v8,rfl⟩,kp,q⟩;have e1:(pq pr l).take ((bY pr).map fun k=>V.int (k:Nat)).length=pq pr l:=by
   rw[length_map];have:(bY pr).length=(pq pr l).length:=by unfold pq;rw[length_map]
   rw[this,take_length]
  rw[e1]at q;exact k H' ((Kp.of y).trans kp) q
def PZ(pr:Drum.Program)(l:Placing)(i:Nat):List (Nat×Int):=((range i).filter fun k=>!bM pr k).flatMap (Cz pr l)
theorem DV(pr:Drum.Program)(l:Placing)(i:Nat):PZ pr l (i+1)=PZ pr l i++if bM pr i=true then[]else Cz pr l i:=by unfold PZ;rw[range_succ,filter_append,flatMap_append];congr 1;cases h:bM pr i<;>simp[h]
def OD(a:Addr)(H:Hp)(m d p pl:Addr)(M:Machine)(pr:Drum.Program)(l:Placing)(i:Nat)(g:L2.St)(H':Hp):Prop:=(∃b c e f,g=[some (.ref m),some (.ref p),some (.ref pl),b,c,e,f])∧Kp [d] H H'∧lX a H' m d {M with drum:=b5 M.drum (PZ pr l i)}
def QI(c:Addr)(H:Hp)(m d p pl a:Addr)(b:Nat)(M:Machine)(W:List (Nat×Int))(j:Nat)(g:L2.St)(H':Hp):Prop:=(∃e f,g=[some (.ref m),some (.ref p),some (.ref pl),some (.ref a),some (.int (b:Nat)),e,f])∧Kp [d] H H'∧lX c H' m d {M with drum:=b5 M.drum (W.take j)}
theorem w9(T:Top K mg t):Fn P w K mg base 2 "lay_numbers" ["machine","rows","placing"] (KC t.aq t.aG t.aC DM.LQ):=by
 refine T.yw.bC (N:=["machine","rows","placing","row","start","distance","word"]) (fun nd f _ A outer s H _ Q E hr h=>?_);obtain⟨F,m,d,p,pl,M,ws,pr,l,rfl,hM,a2,G,hF,c0,S,hpl,hl,b9,hf,k⟩:=h;refine⟨_,(ah (bx PassesOwn.never Z (FV Z T.Jm (aa (pv 1) (aa (pv 2) ai))) (eu Z (aU (bI 3 nd) (aU (bI 4 nd) cP))) (ah (aM (dJ (bJ (fP T.cH T.a6 (pv 3)))) (ah (bx PassesOwn.never Z (gX Z T.bW (aa (ay (pv 3) Z) ai)) (eu Z (aU (bI 5 nd) (aU (bI 6 nd) cP))) (ah (pB (pv 6) (pw (ay (pv 0) Z) (bq (iT T) hr (aa (pv 4) (aa (pv 5) ai))) set_list))))) aA)))),?_⟩;refine⟨_,Z,_,Z,p,pl,_,_,Z,aT.of G.lst,aT.of hpl,BG (K:=K) (a:=p) (b:=pl) (xs:=ws) (ys:=l.map aY) (by rw[length_map,hl,G.len]) (OD t.aq H m d p pl M pr l)
  ⟨⟨none,none,none,none,Z⟩,Kp.refl _ _,hM⟩ (fun i σ H' _ ⟨_,kp,_⟩=>⟨aT.of (kp _ _ G.lst (by simp;exact c0)),aT.of (kp _ _ hpl (by simp;exact S))⟩) ?_ ?_⟩
 ·rintro i σ H1 v z' T1 hi X hT ⟨⟨v3,v4,v5,v6,rfl⟩,kp,g⟩;rw[getElem?_map]at X;obtain⟨z,O,rfl⟩:∃z,l[i]?=some z∧z'=aY z:=by
   cases e:l[i]? with
   |none=>rw[e]at X;cases X
   |some z=>rw[e]at X;cases X;exact⟨z,Z,Z⟩
  obtain⟨it,a,R,rfl,hit,bj⟩:=G.at_ hi;have c4:=b9 z (mem_of_getElem? O);have b3:l.getD i 0=z:=by rw[getD_eq_getElem?_getD,O];rfl
  have sT:=aK (o:=.tup [.ref a,aY z]) hT;have B:=kp.trans (Kp.of sT);have r:iI t.aG t.aC F (upd H1 T1 (.tup [.ref a,aY z])) a it:=hit.kp B (fun x hx _=>by simp;exact hF x hx) fun _ z=>z;have D:=g.same sT;obtain⟨ty,h1,h2⟩:=rE T r;have I:bM pr i=it.isOrder:=by unfold bM;rw[R];rfl
  refine⟨T1,_,Z,h9.of ae,Z,_,_,Z,_,_,Z,Z,_,Z,_,_,ty,_,Z,h1,h2,_,Z,?_⟩;cases it with
  |order n c o f=>
   refine cB ⟨⟨_,_,_,_,Z⟩,B,?_⟩;rw[DV,I,if_pos (show(Item.order n c o f).isOrder=true from Z),append_nil];exact D
  |numbers n C=>
   have J:=r;obtain⟨_,dx,wl,a1,b2,U⟩:=J;have c1:wl≠d:=hF wl a1;have y:Cz pr l i=C.zipIdx.map fun u=>(around z u.2,u.1):=by unfold Cz Drum.wordsOf;rw[R,b3]
   have W:(Cz pr l i).length=C.length:=by rw[y,length_map,List.length_zipIdx]
   refine cJ ⟨_,Z,a,_,dx,_,_,Z,b2,T.cD.cl,T.cE,Z,wl,_,Z,aT.of U,?_⟩;refine fZ (K:=K) (a:=wl) (xs:=C.map V.int) (QI t.aq (upd H1 T1 (.tup [.ref a,aY z])) m d p pl a z {M with drum:=b5 M.drum (PZ pr l i)} (Cz pr l i)) ⟨⟨_,_,Z⟩,Kp.refl _ _,D⟩ (fun j σ H' _ ⟨_,kp3,_⟩=>aT.of (kp3 _ _ U (by simp;exact c1))) ?_ ?_
   ·rintro j σ H2 x T2 L b1 ⟨⟨w5,w6,rfl⟩,kp3,hM3⟩;rw[getElem?_map]at L;obtain⟨Y,c3,rfl⟩:∃Y,C[j]?=some Y∧x=V.int Y:=by
     cases e:C[j]? with
     |none=>rw[e]at L;cases L
     |some z=>rw[e]at L;cases L;exact⟨z,Z,Z⟩
    have q:=aK (o:=.tup [.int ((j:Nat):Int),.int Y]) b1;obtain⟨dm,hm⟩:=(hM3.same q).ins;have c2:(Cz pr l i)[j]?=some (around z j,Y):=by rw[y,getElem?_map,List.getElem?_zipIdx,c3];simp
    refine⟨T2,_,Z,h9.of ae,Z,_,_,Z,_,_,Z,Z,_,Z,_,Z,m,_,dm,_,_,Z,hm,T.ao.cl,T.a7,eI _ _,_,Z,_,Z,z,j,Z,d,_,_,_,Z,Z,(hM3.same q).drum,wm (by rw[length_map];show around z j<(b5 _ _).length;rw[dX,dX,a2];exact fA j c4),?_⟩;rw[map_set];refine⟨⟨_,_,Z⟩,(kp3.trans (Kp.of q)).trans (Kp.upd (by simp)),?_⟩;rw[take_snoc c2,tF];exact(hM3.same q).F2
   ·rintro σ H2 ⟨⟨w5,w6,rfl⟩,kp3,hM3⟩;refine⟨⟨_,_,_,_,Z⟩,B.trans kp3,?_⟩;rw[length_map,← W,take_length]at hM3;rw[DV,I,if_neg (show¬(Item.numbers n C).isOrder=true from nofun),DM.jT];exact hM3
 ·rintro σ H1 ⟨⟨v3,v4,v5,v6,rfl⟩,kp,g⟩;rw[G.len]at g;exact k H1 kp g
theorem dM.st(h:dM m j F H p vs pr):dM m j (fun x=>F x∧∃o,H x=some o) H p vs pr:=
 ⟨h.lst,h.len,fun k i e=>by
  obtain⟨a,r,q⟩:=h.each k i e;refine⟨a,r,?_⟩;cases i with
  |order n c o f=>obtain⟨d,b,e⟩:=q;exact⟨⟨d,_,e⟩,b,e⟩
  |numbers n l=>obtain⟨d,b,wl,hw,e,g⟩:=q;exact⟨⟨d,_,e⟩,b,wl,⟨hw,_,g⟩,e,g⟩,h.ok,h.short⟩
theorem Kg{pr:Drum.Program}(b:faultIn pr=none):∃z,(bY pr)[0]?=some z∧z<pr.length∧Drum.beginsAt pr=z:=by
 have a:=iK.mp b 5 B5 Z;unfold B5 at a;rw[qW]at a;cases e:bY pr with
 |nil=>rw[e]at a;exact absurd Z a
 |cons z r=>
  refine⟨z,Z,iM (fG.mp (by rw[e];simp)),?_⟩;rw[DM.Hm,e];rfl
inductive mS(Cm Co Cn:Addr)(vs:List V)(H:Hp)(Q:VK)(E:XK):Prop
 |mk (F:Addr→Prop) (m d p pl:Addr) (M:Machine) (ws:List V) (pr:Drum.Program) (l:Placing) (h0_:vs=[.ref m,.ref p,.ref pl]) (h1_:lX Cm H m d M) (h2_:dM Co Cn F H p ws pr) (h3_:(∀x,F x→x≠m)) (h4_:H pl=some (.lst (l.map aY))) (h5_:l.length=pr.length) (h6_:(∀a∈l,a<2000)) (h7_:faultIn pr=none) (h8_:((range pr.length).flatMap (fY pr l)).Nodup) (h9_:∀d' H',H d'=none→Kp [m] H H'→lX Cm H' m d' (Drum.placed pr l)→Q .bV H'):mS Cm Co Cn vs H Q E
theorem w_(T:Top K mg t):Fn P w K mg base 4 "lay_program" ["machine","rows","placing"] (mS t.aq t.aG t.aC):=by
 refine T.yx.bC (N:=["machine","rows","placing"]) (fun nd f _ A outer s H _ Q E I h=>?_);obtain⟨F,m,d,p,pl,M,ws,pr,l,rfl,hM,G,hF,hpl,U,B,hf,W,k⟩:=h;refine⟨_,(af (bu (KR (pv 0) T.ao (gE T) (I.mono (by decide)) (aa (bB a4 (pv 2) (bB a4 (bq (gn T) (I.mono (by decide)) (aa (pv 1) ai)) au (fun _ _=>rfl)) (fun _ _=>rfl)) ai)))
  (af (bu (bq (yU T) I (aa (pv 0) (aa (pv 1) (aa (pv 2) ai)))))
  (ah (bu (bq (w9 T) (I.mono (by decide)) (aa (pv 0) (aa (pv 1) (aa (pv 2) ai)))))))),?_⟩
 obtain⟨dx,hm⟩:=hM.ins;obtain⟨z,hz,b1,a2⟩:=Kg hf;have X:p≠m:=dQ G.lst hm (fun q=>nomatch q);have D:pl≠m:=dQ hpl hm (fun q=>nomatch q);have a1:((bY pr).map fun k=>V.int (k:Nat))[0]?=some (.int (z:Nat)):=by rw[getElem?_map,hz];rfl
 refine⟨_,Z,m,dx,_,Z,hm,Z,_,Z,_,Z,F,p,ws,pr,Z,G,fun ln H1 J _ C=>?_⟩;refine⟨ln,_,_,_,Z,Z,aT.of C,a5 (j:=0) a1,pl,_,_,_,Z,Z,aT.of (J _ _ hpl),pM (by rw[U];exact b1),m,dx,l.getD z 0,_,Z,J _ _ hm,.inr ⟨d,M,Z⟩,fun g H2 S v b2=>?_⟩;have a:H g=none:=J.free S;have c:Kp [m] H H2:=(Kp.of J).trans b2;have y:dM t.aG t.aC (fun x=>F x∧∃o,H x=some o) H2 p ws pr:=G.st.kp c (by simp;exact X) (fun x Y _=>by simp;exact hF x Y.1);have n:∀x,(F x∧∃o,H x=some o)→x≠g:=fun x ⟨_,o,e⟩=>aj e a;have r:p≠g:=aj G.lst a;have b:pl≠g:=aj hpl a;have i:=c _ _ hpl (by simp;exact D);refine⟨_,Z,_,Z,_,Z,_,m,g,p,pl,new (l.getD z 0),ws,pr,l,Z,v,by show(replicate 2000 (0:Int)).length=2000;rw[length_replicate],y,n,r,b,i,U,B,hf,fun H3 u L=>?_⟩;have c0:m≠g:=v.ne;have R:dM t.aG t.aC (fun x=>F x∧∃o,H x=some o) H3 p ws pr:=y.kp u (by simp;exact r) (fun x Y _=>by simp;exact n x Y);refine⟨_,Z,_,Z,_,Z,_,m,g,p,pl,_,ws,pr,l,Z,L,?_,R,n,r,b,u _ _ i (by simp;exact b),U,B,hf,fun H4 b3 O=>?_⟩
 ·show(b5 _ _).length=2000;rw[dX];show(replicate 2000 (0:Int)).length=2000;rw[length_replicate]
 ·refine k g H4 a ?_ ?_
  ·have b9:Kp [g,m] H H4:=(c.mono (by simp)).trans ((u.mono (by simp)).trans (b3.mono (by simp)));exact b9.drop a
  ·rw[pz W,a2];exact O
theorem j5{M:Machine}(h:Wf M)(ha:a<2000):EZ (M.drum.map V.int) ((a:Nat):Int)=some (.int (M.at_ a)):=by refine a5 ?_;rw[getElem?_map,AQ h ha];rfl
def NR(v:Int):List Nat:=if fN v=0 then goesTo (orderOf v)else[]
theorem kP:fN v=0↔faultOf v true=none:=by
 unfold fN;cases h:faultOf v true with
 |none=>simp
 |some f=>simp;exact rA h
theorem NQ(M:Machine)(a:Nat):nx M a=NR (M.at_ a):=by
 unfold nx NR;by_cases h:faultOf (M.at_ a) true=none
 ·rw[k_ h,if_pos (kP.mpr h)]
 ·rw[qA.mpr h,if_neg (fun z=>h (kP.mp z))]
theorem DB(h:known c=true):yi c="jump"↔50≤c∧c≤52:=by rcases bX h with h|h|h|h|h|h|h|h|h|h|h|h|h|h|h|h|h|h|h|h|h|h|h|h|h|h<;>subst h<;>decide
inductive xW(vs:List V)(H:Hp)(Q:VK)(E:XK):Prop
 |mk (v:Int) (h0_:vs=[.int v]) (h1_:∀p H',aI H H'→H p=none→H' p=some (.lst ((NR v).map aY))→Q (.ref p) H'):xW vs H Q E
theorem FL(T:Top K mg t):Fn P w K mg base 3 "ways_on" ["word"] (xW):=by
 refine T.HH.bC (N:=["word"]) (fun nd f _ A outer s H _ Q E g h=>?_);obtain⟨v,rfl,k⟩:=h;refine⟨_,(af (aM (PW.pt (jC (az d6 (bq (jz T) g (aa (pv 0) ai)) au (aB _)) (i5 (az bN (bq (dF T) (g.mono (by decide)) (aa (pv 0) ai)) (pk T.vv) (aB _))))) (ah (ak (a3 ai))) aA)
  (af (aM (az bN (bq (dU T) (g.mono (by decide)) (aa (bq (dF T) (g.mono (by decide)) (aa (pv 0) ai)) ai)) aZ (aB _)) (ah (ak (a3 (aa (bq (dR T) (g.mono (by decide)) (aa (pv 0) ai)) (aa (bq (gF T) (g.mono (by decide)) (aa (pv 0) ai)) ai))))) aA)
  (ah (ak (a3 (aa (bq (dR T) (g.mono (by decide)) (aa (pv 0) ai)) ai)))))),?_⟩
 have q:([]:List V).length≤sizeLine:=by rw[sizeLine_eq];exact Nat.zero_le _
 have a:NR v=[]→∀H1,aI H H1→∀p,H1 p=none→Q (.ref p) (upd H1 p (.lst [])):=fun e H1 b p c=>by have:=k p (upd H1 p (.lst [])) (b.trans (aK c)) (b.free c);rw[e]at this;exact this ae
 refine⟨_,Z,v,Z,fun H1 b=>⟨Z,_,Z,iO (fun _=>cJ ⟨q,?_⟩) (fun _=>?_)⟩⟩
 ·refine a ?_ H1 b;unfold NR;rw[if_neg (by omega)]
 ·have o:fN v=0:=by omega
  have B:=kP.mp o;obtain⟨x,d,_⟩:=dC B;obtain⟨r,u,n⟩:=gH x;have j:NR v=goesTo (orderOf v):=by unfold NR;rw[if_pos o]
  refine⟨_,Z,v,Z,Z,_,Z,gx (fun y=>⟨q,?_⟩) (fun y=>?_)⟩
  ·refine a ?_ H1 b;rw[j];unfold goesTo;rw[if_pos (by omega)]
  ·have i:(orderOf v).code≠0:=by omega
   refine⟨_,Z,v,Z,(orderOf v).code,by rw[r],d,Z,_,Z,fE (fun m=>?_) (fun m=>?_)⟩
   ·have l:=(DB d).mp m;refine⟨_,Z,v,Z,_,Z,v,Z,by rw[sizeLine_eq];exact(by decide:2≤16777216),fun p c=>k p _ (b.trans (aK c)) (b.free c) ?_⟩;rw[ae,j];unfold goesTo;rw[if_neg i,if_pos l,u,n];rfl
   ·have l:=fun z=>m ((DB d).mpr z);refine⟨_,Z,v,Z,by rw[sizeLine_eq];exact(by decide:1≤16777216),fun p c=>k p _ (b.trans (aK c)) (b.free c) ?_⟩;rw[ae,j];unfold goesTo;rw[if_neg i,if_neg l,n];rfl
structure Rv(M:Machine)(ns ww:List Nat)(ex:Nat→Prop):Prop where
 nd:ns.Nodup
 MV:∀a∈ns,Ja M a
 st:M.next∈ns
 sub:∀a∈ww,a∈ns
 cl:∀a∈ns,a∉ww→¬ex a→∀b∈nx M a,b∈ns
def OH(ns ww:List Nat):Nat:=2*(2000-ns.length)+ww.length
def Rw(H:Hp)(d b c:Addr)(n:Nat)(ns ww:List Nat)(H':Hp):Prop:=Kp [b,c] H H'∧(∃a,H' b=some (.dK a)∧KN a ns)∧H' c=some (.lst (ww.map aY))
def Rx(M:Machine)(H:Hp)(d a b:Addr)(n:Nat)(f:L2.St)(H':Hp):Prop:=(∃c e,f=[some (.ref d),some (.int (M.next:Nat)),some (.ref a),some (.ref b),c,e])∧∃ns ww,Rw H d a b n ns ww H'∧Rv M ns ww (fun _=>False)∧OH ns ww=n∧n≤4000
def RY(M:Machine)(H:Hp)(d c e:Addr)(n a:Nat)(ys:List Nat)(j:Nat)(g:L2.St)(H':Hp):Prop:=(∃f,g=[some (.ref d),some (.int (M.next:Nat)),some (.ref c),some (.ref e),some (.int (a:Nat)),f])∧∃ns ww,Rw H d c e n ns ww H'∧Rv M ns ww (fun x=>x=a)∧OH ns ww<n∧n≤4000∧a∈ns∧∀b∈ys.take j,b∈ns
inductive jf(vs:List V)(H:Hp)(Q:VK)(E:XK):Prop
 |mk (d:Addr) (M:Machine) (h0_:vs=[.ref d,.int (M.next:Nat)]) (h1_:H d=some (.lst (M.drum.map V.int))) (h2_:Wf M) (h3_:∀p H',aI H H'→H p=none→H' p=some (.lst (M.seen.orders.map aY))→Q (.ref p) H'):jf vs H Q E
theorem iP(l:List Nat):(l.map fun(n:Nat)=>(n:Int)).map V.int=l.map aY:=by rw[map_map];rfl
theorem pd(T:Top K mg t):Fn P w K mg base 4 "order_addresses" ["drum","start"] (jf):=by
 refine T.p6.bC (N:=["drum","start","found","waiting","address","way"]) (fun nd f _ A outer s H _ Q E hr h=>?_);obtain⟨d,M,rfl,hd,wf,k⟩:=h;refine⟨_,(af (aH 2 nd (L3 (Kl (pv 1) iZ L9) Z Z (by decide) (by decide)))
  (af (aH 3 nd (a3 (aa (pv 1) ai)))
  (af (mK PassesOwn.never (az mD (aF aO Z T.cX boot_len (aa (pv 3) ai)) au (aB _)) (af (aH 4 nd (FR PySem.F.plainAttrs_list PySem.F.slot_list_pop PySem.F.type_list_pop J4 (pv 3)))
  (ah (bx PassesOwn.never Z (bK (bq (FL T) hr (aa (bB a4 (pv 0) (pv 4) (fun _ _=>rfl)) ai))) (bI 5 nd) (ah (aM (so (Ag (dO hr) (pv 5) (pv 2))) (af (lh (dO hr) (pv 2) (pv 5) iZ Z)
  (ah (bu (mG PySem.F.plainAttrs_list PySem.F.slot_list_append PySem.F.type_list_append fJ (pv 3) (aa (pv 5) ai))))) aA))))))
  (ah (ak (aF (vD Z) Z T.vq boot_sorted (aa (pv 2) ai))))))),?_⟩
 intro u Y;refine⟨_,Z,ae,[(kN M.next,.bl true)],Z,(by decide:1≤15),?_⟩;rw[a9];have s0:=aK (o:=.dK (o5 [] [(kN M.next,V.bl true)])) Y;refine⟨_,Z,by rw[sizeLine_eq];exact(by decide:1≤16777216),fun r c0=>?_⟩;have s1:=s0.trans (aK (o:=.lst [V.int (M.next:Nat)]) c0);have R:r≠u:=(aj (H:=upd H u _) ae c0).symm;have e3:d≠u:=aj hd Y;have S:H r=none:=s0.free c0;have c4:d≠r:=aj hd S;refine⟨Rx M H d u r,⟨_,⟨none,none,Z⟩,[M.next],[M.next],⟨Kp.of s1,⟨o5 [] [(kN M.next,V.bl true)],by rw[aw R.symm];exact ae,Z⟩,ae⟩,⟨by simp,fun a ha=>by rw[mem_singleton]at ha;subst ha;exact .start,by simp,fun a ha=>ha,fun a ha q=>absurd ha q⟩,Z,(by decide:2*(2000-1)+1≤4000)⟩,?_⟩;rintro n σ H1 ⟨⟨v4,v5,rfl⟩,ns,ww,⟨kp,⟨kvs,hk,d0⟩,hw⟩,I,hn,b9⟩;refine⟨_,Z,r,_,Z,.inl (aT.of hw),_,_,Z,Z,_,Z,cS (fun G=>?_) (fun G=>?_)⟩
 ·rw[length_map]at G;have a1:ww≠[]:=fun e=>by rw[e]at G;exact absurd G (by decide)
  obtain⟨C,a,rfl⟩:∃C a,ww=C++[a]:=⟨ww.dropLast,ww.getLast a1,(List.dropLast_concat_getLast a1).symm⟩;refine⟨fun σ' H'=>∃m',m'<n∧Rx M H d u r m' σ' H',fun σ' H' h=>h,?_⟩;have d1:((C++[a]).map aY).length=C.length+1:=by rw[length_map,length_append];rfl
  have b3:((C++[a]).map aY)[((C++[a]).map aY).length-1]?=some (aY a):=by rw[d1,getElem?_map,Nat.add_sub_cancel,List.getElem?_append_right (Nat.le_refl _),Nat.sub_self];rfl
  have e4:((C++[a]).map aY).dropLast=C.map aY:=by rw[map_append,map_singleton,List.dropLast_concat]
  have c1:a∈ns:=I.sub a (by simp);have c2:=I.MV a c1;have e0:=c2.lt wf.nx;have e5:H1 d=some (.lst (M.drum.map V.int)):=kp _ _ hd (by simp;exact⟨e3,c4⟩);refine⟨_,Z,.inl ⟨Z,_,aT.of hw⟩,r,_,aY a,Z,Z,hw,b3,?_⟩;rw[e4];have e6:Kp [u,r] H (upd H1 r (.lst (C.map aY))):=kp.trans (Kp.upd (by simp));have e2:upd H1 r (.lst (C.map aY)) d=some (.lst (M.drum.map V.int)):=by rw[aw c4];exact e5
  have c9:upd H1 r (.lst (C.map aY)) u=some (.dK kvs):=by rw[aw R.symm];exact hk
  have hM:OH ns C<n:=by rw[← hn];unfold OH;rw[length_append];simp
  refine⟨_,Z,_,Z,d,_,_,_,Z,Z,aT.of e2,j5 wf e0,M.at_ a,Z,fun L _ s2 hL b1=>⟨L,Z,⟨_,aT.of b1⟩,?_⟩⟩;rw[← NQ]at b1;have d3:L≠u:=(aj c9 hL).symm;have d5:L≠r:=(aj (H:=upd H1 r _) ae hL).symm;refine cu (K:=K) (a:=L) (xs:=(nx M a).map aY) (fun j σ H'=>RY M H d u r n a (nx M a) j σ H'∧H' L=some (.lst ((nx M a).map aY)))
   ⟨⟨⟨_,Z⟩,ns,C,⟨e6.trans (Kp.of s2),⟨kvs,s2 _ _ c9,d0⟩,s2 _ _ ae⟩,⟨I.nd,I.MV,I.st,fun x i=>I.sub x (by simp[i]),fun x i B v=>I.cl x i (by simp;exact⟨B,v⟩) (fun z=>z)⟩,hM,b9,c1,fun b q=>by rw[take_zero]at q;cases q⟩,b1⟩ (fun j σ H' _ ⟨_,e⟩=>aT.of e) ?_ ?_
  ·rintro j x σ H3 hj ⟨⟨⟨w5,rfl⟩,l,W,⟨kp3,⟨U,J,g⟩,O⟩,I3,X,_,D,rC⟩,a2⟩;rw[getElem?_map]at hj;obtain⟨b,b2,rfl⟩:∃b,(nx M a)[j]?=some b∧x=aY b:=by
    cases e:(nx M a)[j]? with
    |none=>rw[e]at hj;cases hj
    |some z=>rw[e]at hj;cases hj;exact⟨z,Z,Z⟩
   have c3:Ja M b:=.step c2 (mem_of_getElem? b2);have e9:l.length≤2000:=cq I3.nd fun x i=>(I3.MV x i).lt wf.nx;refine⟨_,Z,_,Z,u,_,Z,dY.k (k:=kN b) J,_,Z,?_⟩;rw[g.has];by_cases q:b∈l
   ·rw[decide_eq_true q];refine cB ⟨⟨⟨_,Z⟩,l,W,⟨kp3,⟨U,J,g⟩,O⟩,I3,X,b9,D,fun c hc=>?_⟩,a2⟩;rw[take_snoc b2]at hc;rcases mem_append.mp hc with h|h
    ·exact rC c h
    ·rw[mem_singleton]at h;subst h;exact q
   ·rw[decide_eq_false q];have f0:l.length<2000:=by
     have:=cq (gD (n:=b) I3.nd) (m:=2000) fun x i=>by
      rcases j8.mp i with h|h
      ·exact(I3.MV x h).lt wf.nx
      ·rw[h];exact c3.lt wf.nx
     unfold uk at this;rw[if_neg q,length_append]at this;simp at this;omega
    have e7:2*(2000-l.length)+W.length<n:=X;have e8:=g.len;refine cJ ⟨_,Z,_,Z,u,_,Z,vm.k (k:=kN b) J (by rw[sizeLine_eq];omega),_,Z,.inl ⟨Z,_,aT.of (show upd H3 u _ r=_ by rw[aw R];exact O)⟩,_,Z,r,_,_,Z,Z,(by rw[aw R];exact O),(by rw[sizeLine_eq,length_map];omega),⟨⟨_,Z⟩,l++[b],W++[b],⟨(kp3.trans (Kp.upd (by simp))).trans (Kp.upd (by simp)),⟨_,by rw[aw R.symm];exact ae,g.put q _⟩,by rw[ae,map_append];rfl⟩,⟨?_,?_,?_,?_,?_⟩,?_,b9,?_,?_⟩,by rw[aw d5,aw d3];exact a2⟩
    ·have:=gD (n:=b) I3.nd;unfold uk at this;rw[if_neg q]at this;exact this
    ·intro x i;rcases mem_append.mp i with h|h
     ·exact I3.MV x h
     ·rw[mem_singleton]at h;subst h;exact c3
    ·exact mem_append.mpr (.inl I3.st)
    ·intro x i;rcases mem_append.mp i with h|h
     ·exact mem_append.mpr (.inl (I3.sub x h))
     ·exact mem_append.mpr (.inr h)
    ·intro x i B v y hy;rcases mem_append.mp i with h|h
     ·exact mem_append.mpr (.inl (I3.cl x h (fun z=>B (mem_append.mpr (.inl z))) v y hy))
     ·exact absurd (mem_append.mpr (.inr h)) B
    ·unfold OH;rw[length_append,length_append];simp;omega
    ·exact mem_append.mpr (.inl D)
    ·intro c hc;rw[take_snoc b2]at hc;rcases mem_append.mp hc with h|h
     ·exact mem_append.mpr (.inl (rC c h))
     ·exact mem_append.mpr (.inr h)
  ·rintro σ H3 ⟨⟨⟨w5,rfl⟩,l,W,⟨kp3,⟨U,J,g⟩,O⟩,I3,X,_,D,rC⟩,a2⟩;rw[length_map,take_length]at rC;refine⟨_,X,⟨_,_,Z⟩,l,W,⟨kp3,⟨U,J,g⟩,O⟩,⟨I3.nd,I3.MV,I3.st,I3.sub,fun x i B _ b q=>?_⟩,Z,by omega⟩;by_cases v:x=a
   ·subst v;exact rC b q
   ·exact I3.cl x i B v b q
 ·rw[length_map]at G;have a1:ww=[]:=length_eq_zero_iff.mp (by omega);subst a1;have e1:∀x,Ja M x→x∈ns:=fun x i=>by
   induction i with
   |start=>exact I.st
   |step _ q ih=>exact I.cl _ ih (by simp) (fun z=>z) _ q
  refine⟨_,Z,u,kvs,_,Z,hk,d0.JQ,fun _ p hp hs d2=>k p _ ?_ ?_ ?_⟩
  ·exact(aI.trans (fun b o e=>kp b o e (by simp;exact⟨aj e Y,aj e S⟩)) (aK d2))
  ·cases e:H p with
   |none=>rfl
   |some o=>
    have:=kp p o e (by simp;exact⟨aj e Y,aj e S⟩);rw[d2]at this;cases this
  ·rw[ae,mO I.nd (fun x i=>(I.MV x i).lt wf.nx) hp hs,iP,cQ];have:bo ns=bo (Drum.reachFrom M WORDS [M.next]):=pD fun x _=>by rw[DM.Aa wf.nx];exact⟨I.MV x,e1 x⟩
   rw[this]
inductive jH(vs:List V)(H:Hp)(Q:VK)(E:XK):Prop
 |mk (d ol:Addr) (sz:Nat) (M:Machine) (p:Nat→Bool) (h0_:vs=[.ref d,.ref ol,.int (sz:Nat)]) (h1_:H d=some (.lst (M.drum.map V.int))) (h2_:Wf M) (h3_:H ol=some (.lst (M.seen.orders.map aY))) (h4_:(∀c,known c=true→(Ay c=sz↔p c=true))) (h5_:(∀x∈uq M p,x<2000)) (h6_:∀q H',aI H H'→H q=none→H' q=some (.lst ((bo (uq M p)).map aY))→Q (.ref q) H'):jH vs H Q E
def Mx(H:Hp)(d ol c:Addr)(sz:Nat)(M:Machine)(p:Nat→Bool)(i:Nat)(g:L2.St)(H':Hp):Prop:=(∃e f,g=[some (.ref d),some (.ref ol),some (.int (sz:Nat)),some (.ref c),e,f])∧Kp [c] H H'∧∃b ns,H' c=some (.dK b)∧KN b ns∧ns.Nodup∧∀x,x∈ns↔∃a o,a∈M.seen.orders.take i∧M.orderAt a=some o∧p o.code=true∧x=o.d
theorem gj(T:Top K mg t):Fn P w K mg base 3 "data_addresses" ["drum","orders","size"] (jH):=by
 refine T.rh.bC (N:=["drum","orders","size","found","address","word"]) (fun nd f _ A outer s H _ Q E G h=>?_);obtain⟨d,ol,sz,M,p,rfl,hd,wf,ho,hu,bL,k⟩:=h;refine⟨_,(af (aH 3 nd g7)
  (af (bx PassesOwn.never Z (bK (pv 1)) (bI 4 nd) (af (aH 5 nd (bB a4 (pv 0) (pv 4) (fun _ _=>rfl)))
  (ah (aM (PW.pt (fq (az bN (bq (jz T) G (aa (pv 5) ai)) au (aB _)) (d9 (az bN (bq (y4 T) G (aa (bq (dF T) (G.mono (by decide)) (aa (pv 5) ai)) ai)) (pv 2) (aB _))))) (ah (lh (dO G) (pv 3) (bq (gF T) (G.mono (by decide)) (aa (pv 5) ai)) iZ Z)) aA))))
  (ah (ak (aF (vD Z) Z T.vq boot_sorted (aa (pv 3) ai)))))),?_⟩
 intro u g;have s0:=aK (o:=.dK []) g;have U:d≠u:=aj hd g;have a1:ol≠u:=aj ho g;have sub:∀{i:Nat} {x:Nat},(∃a o,a∈M.seen.orders.take i∧M.orderAt a=some o∧p o.code=true∧x=o.d)→x∈uq M p:=fun⟨a,o,n,c,r,y⟩=>c6.mpr ⟨a,o,List.mem_of_mem_take n,c,r,y⟩;refine⟨_,Z,ol,Z,⟨_,aT.of (s0 _ _ ho)⟩,cu (K:=K) (a:=ol) (xs:=M.seen.orders.map aY) (Mx H d ol u sz M p) ⟨⟨none,none,Z⟩,Kp.of s0,[],[],ae,Z,nodup_nil,fun x=>⟨fun h=>(nomatch h),fun⟨_,_,h,_⟩=>by rw[take_zero]at h;cases h⟩⟩ (fun i B H' _ ⟨_,kp,_⟩=>aT.of (kp _ _ ho (by simp;exact a1))) ?_ ?_⟩
 ·rintro i x B H1 C ⟨⟨v4,v5,rfl⟩,kp,kvs,ns,I,j,m,hm⟩;rw[getElem?_map]at C;obtain⟨a,D,rfl⟩:∃b,M.seen.orders[i]?=some b∧x=aY b:=by
   cases e:M.seen.orders[i]? with
   |none=>rw[e]at C;cases C
   |some z=>rw[e]at C;cases C;exact⟨z,Z,Z⟩
  have R:=(oY wf.nx).mp (mem_of_getElem? D);have O:=R.lt wf.nx;have S:H1 d=some (.lst (M.drum.map V.int)):=kp _ _ hd (by simp;exact U);have tk:=take_snoc D;have old:¬(∃o,M.orderAt a=some o∧p o.code=true)→∀B H',B=[some (.ref d),some (.ref ol),some (.int (sz:Nat)),some (.ref u),some (aY a),some (.int (M.at_ a))]→aI H1 H'→Mx H d ol u sz M p (i+1) B H':=by
   rintro Y B H' rfl s;refine⟨⟨_,_,Z⟩,kp.trans (Kp.of s),kvs,ns,s _ _ I,j,m,fun x=>?_⟩;rw[hm x,tk];constructor
   ·rintro⟨b,o,n,c⟩;exact⟨b,o,mem_append.mpr (.inl n),c⟩
   ·rintro⟨b,o,n,c,r,y⟩;rcases mem_append.mp n with h|h
    ·exact⟨b,o,h,c,r,y⟩
    ·rw[mem_singleton]at h;subst h;exact absurd ⟨o,c,r⟩ Y
  refine⟨_,Z,_,Z,d,_,_,_,Z,Z,aT.of S,j5 wf O,?_⟩;refine⟨_,Z,M.at_ a,Z,fun _ L=>⟨Z,_,Z,gx (fun _=>?_) (fun X=>cB (old ?_ _ _ Z L))⟩⟩
  ·have hf:faultOf (M.at_ a) true=none:=kP.mp (by omega);have v:=k_ hf;obtain⟨h0,l,_⟩:=dC hf;obtain⟨e1,e2,e3⟩:=gH h0;refine⟨_,Z,M.at_ a,Z,(orderOf (M.at_ a)).code,by rw[e1],l,fun _ s3=>⟨_,Z,Z,_,Z,gx (fun J=>?_) (fun J=>old ?_ _ _ Z (L.trans s3))⟩⟩
   ·have hp:p (orderOf (M.at_ a)).code=true:=(hu _ l).mp (by omega);have W:=(L.trans s3) _ _ I;have b1:ns.length≤2000:=cq m fun x hx=>bL x (sub ((hm x).mp hx));have a2:=j.len;refine⟨_,Z,_,Z,M.at_ a,Z,u,_,Z,?_,⟨_,_,Z⟩,(kp.trans (Kp.of (L.trans s3))).trans (Kp.upd (by simp)),_,uk ns (orderOf (M.at_ a)).d,ae,j.L_ _ (.bl true),gD m,fun x=>?_⟩
    ·rw[e2];exact vm.k (k:=kN (orderOf (M.at_ a)).d) W (by rw[sizeLine_eq];omega)
    ·rw[j8,hm x,tk];constructor
     ·rintro(⟨b,o,n,c⟩|rfl)
      ·exact⟨b,o,mem_append.mpr (.inl n),c⟩
      ·exact⟨a,_,mem_append.mpr (.inr (by simp)),v,hp,Z⟩
     ·rintro⟨b,o,n,c,r,y⟩;rcases mem_append.mp n with h|h
      ·exact .inl ⟨b,o,h,c,r,y⟩
      ·rw[mem_singleton]at h;subst h;rw[v]at c;cases c;exact .inr y
   ·rintro⟨o,c,r⟩;rw[v]at c;cases c;exact J (by rw[(hu _ l).mpr r])
  ·rintro⟨o,c,_⟩;exact X (by rw[kP.mpr (cO c).1];rfl)
 ·rintro B H1 ⟨⟨v4,v5,rfl⟩,kp,kvs,ns,I,j,m,hm⟩;rw[length_map,take_length]at hm;have F:∀x,x∈ns↔x∈uq M p:=fun x=>by rw[hm x,c6]
  refine⟨_,Z,u,kvs,_,Z,I,j.JQ,fun _ q hp J hq=>k q _ ?_ ?_ ?_⟩
  ·exact(Kp.uI kp g).trans (aK hq)
  ·exact(Kp.uI kp g).free hq
  ·rw[ae,mO m (fun x hx=>bL x ((F x).mp hx)) hp J,iP,pD fun x _=>F x]
structure l9(kvs:List (Key×V))(W:List (Nat×Nat)):Prop where
 ex:∃ns,KN kvs ns∧ns.Nodup∧∀x∈ns,x<2000
 val:∀x,bH kvs (kN x)=(W.find? fun u=>u.1==x).map fun u=>aY u.2
theorem l9.len{kvs:List (Key×V)}(h:l9 kvs W):kvs.length≤2000:=by obtain⟨ns,a,b,c⟩:=h.ex;rw[a.len];exact cq b c
theorem v9{a:Type}(W:List a)(u:a)(p:a→Bool):(W++[u]).find? p=(W.find? p).or (if p u=true then some u else none):=by rw[List.find?_append];congr 1;cases h:p u<;>simp[find?_cons,h]
theorem l9.old(h:l9 kvs W){x b:Nat}(e:bH kvs (kN x)=some v):l9 kvs (W++[(x,b)]):=by
 refine⟨h.ex,fun y=>?_⟩;rw[h.val y,v9];by_cases a:x=y
 ·subst a;rw[h.val x]at e;cases q:W.find? (fun u=>u.1==x)with
  |none=>rw[q]at e;cases e
  |some u=>rfl
 ·rw[if_neg (by simpa using a)];cases W.find? (fun u=>u.1==y)<;>rfl
theorem l9.new(h:l9 kvs W)(g:x<2000)(e:bH kvs (kN x)=none):l9 (putK kvs (kN x) (aY b)) (W++[(x,b)]):=by
 obtain⟨ns,c,d,f⟩:=h.ex;refine⟨⟨uk ns x,c.L_ x _,gD d,fun y a=>?_⟩,fun y=>?_⟩
 ·rcases j8.mp a with q|q
  ·exact f y q
  ·rw[q];exact g
 ·rw[My.m5 e,v9];by_cases a:y=x
  ·subst a;rw[if_pos Z];rw[h.val y]at e;cases q:W.find? (fun u=>u.1==y)with
   |none=>simp
   |some u=>rw[q]at e;cases e
  ·rw[if_neg (fun z=>a (oU z)),h.val y,if_neg (show¬((x==y)=true)by simpa using fun z=>a z.symm)];cases W.find? (fun u=>u.1==y)<;>rfl
def QG(H:Hp)(hm:Addr)(W:List (Nat×Nat))(H':Hp):Prop:=Kp [hm] H H'∧∃a,H' hm=some (.dK a)∧l9 a W
noncomputable def WW(a:List (List Nat×Nat)):List (Nat×Nat):=a.flatMap fun t=>t.1.flatMap (tagged t.2)
def RW(H:Hp)(a b c hm:Addr)(d:List (List Nat×Nat))(i:Nat)(j:L2.St)(H':Hp):Prop:=(∃e f g h,j=[some (.ref a),some (.ref b),some (.ref c),some (.ref hm),e,f,g,h])∧QG H hm (WW (d.take i)) H'
def RV(H:Hp)(a b c hm e:Addr)(n:Nat)(d:List (Nat×Nat))(l:List Nat)(i:Nat)(h:L2.St)(H':Hp):Prop:=(∃f g,h=[some (.ref a),some (.ref b),some (.ref c),some (.ref hm),some (.ref e),some (.int (n:Nat)),f,g])∧QG H hm (d++(l.take i).flatMap (tagged n)) H'
def RU(H:Hp)(a b c hm d L:Addr)(n st:Nat)(W1:List (Nat×Nat))(i:Nat)(f:L2.St)(H':Hp):Prop:=(∃e,f=[some (.ref a),some (.ref b),some (.ref c),some (.ref hm),some (.ref d),some (.int (n:Nat)),some (aY st),e])∧QG H hm (W1++(tagged n st).take i) H'∧H' L=some (.lst (cC st n))
theorem IK{n st j:Nat}(h:j<n):(tagged n st)[j]?=some (around st j,st):=by unfold tagged cells;rw[getElem?_map,getElem?_map,getElem?_range h];rfl
theorem F8(n st:Nat):(tagged n st).length=n:=by unfold tagged cells;simp
theorem vk{n st j:Nat}{v:V}(h:(cC st n)[j]?=some v):j<n∧v=aY (around st j):=by
 unfold cC at h;rw[getElem?_map]at h;cases e:(range n)[j]? with
 |none=>rw[e]at h;cases h
 |some y=>
  rw[e]at h;cases h;obtain⟨b,a⟩:=List.getElem?_eq_some_iff.mp e;rw[getElem_range]at a;subst a;exact⟨by simpa using b,Z⟩
theorem gU{l:List Nat}{i:Nat}(h:(l.map aY)[i]?=some x):∃b,l[i]?=some b∧x=aY b:=by
 rw[getElem?_map]at h;cases e:l[i]? with
 |none=>rw[e]at h;cases h
 |some z=>rw[e]at h;cases h;exact⟨z,Z,Z⟩
inductive tK(vs:List V)(H:Hp)(Q:VK)(E:XK):Prop
 |mk (a b c:Addr) (A B C:List Nat) (h0_:vs=[.ref a,.ref b,.ref c]) (h1_:H a=some (.lst (A.map aY))) (h2_:H b=some (.lst (B.map aY))) (h3_:H c=some (.lst (C.map aY))) (h4_:(∀x∈A,x<2000)) (h5_:(∀x∈B,x<2000)) (h6_:(∀x∈C,x<2000)) (h7_:∀q H' kvs,aI H H'→H q=none→H' q=some (.dK kvs)→l9 kvs (A.flatMap (tagged 40)++(B.flatMap (tagged 8)++C.flatMap (tagged 1)))→Q (.ref q) H'):tK vs H Q E
theorem DY(T:Top K mg t):Fn P w K mg base 3 "homes_of" ["bands","cards","singles"] (tK):=by
 refine T.Fm.bC (N:=["bands","cards","singles","homes","starts","size","start","address"]) (fun nd f _ A outer s H _ Q E hr h=>?_);obtain⟨a,b,c,A,B,C,rfl,ha,hb,hc,hA,hB,hC,k⟩:=h;refine⟨_,(af (aH 3 nd g7)
  (af (bx PassesOwn.never Z (NZ (fk (aa (fk (aa (pv 0) (aa (pk T.bw) ai))) (aa (fk (aa (pv 1) (aa (pk T.b0) ai))) (aa (fk (aa (pv 2) (aa au ai))) ai))))) (eu Z (aU (bI 4 nd) (aU (bI 5 nd) cP))) (ah (bx PassesOwn.never Z (bK (pv 4)) (bI 6 nd) (ah (bx PassesOwn.never Z (bK (bq (bU T) hr (aa (pv 6) (aa (pv 5) ai)))) (bI 7 nd) (ah (bu (Eb (pv 3) (pv 7) (pv 6) ⟨Z,Z,Z,Z⟩))))))))
  (ah (ak (pv 3))))),?_⟩
 intro hm m;have s0:=aK (o:=.dK []) m;refine⟨_,Z,by rw[sizeLine_eq];exact(by decide:2≤16777216),fun p h1=>?_⟩;have s1:=s0.trans (aK (o:=.tup [.ref a,.int 40]) h1);refine⟨_,Z,by rw[sizeLine_eq];exact(by decide:2≤16777216),fun r h2=>?_⟩;have s2:=s1.trans (aK (o:=.tup [.ref b,.int 8]) h2);refine⟨_,Z,by rw[sizeLine_eq];exact(by decide:2≤16777216),fun D h3=>?_⟩;have s3:=s2.trans (aK (o:=.tup [.ref c,.int 1]) h3);refine⟨by rw[sizeLine_eq];exact(by decide:3≤16777216),fun tt ht=>?_⟩;have s4:=s3.trans (aK (o:=.tup [.ref p,.ref r,.ref D]) ht);have c0:a≠hm:=aj ha m;have c1:b≠hm:=aj hb m;have c2:c≠hm:=aj hc m;have g1:hm≠p:=aj (H:=upd H hm _) ae h1;have c3:(upd (upd H hm (.dK [])) p (.tup [.ref a,.int 40])) hm=some (.dK []):=by rw[aw g1];exact ae
 have g2:hm≠r:=aj c3 h2;have a1:(upd (upd (upd H hm (.dK [])) p (.tup [.ref a,.int 40])) r (.tup [.ref b,.int 8])) hm=some (.dK []):=by rw[aw g2,aw g1];exact ae
 have g3:hm≠D:=aj a1 h3;have a2:(upd (upd (upd (upd H hm (.dK [])) p (.tup [.ref a,.int 40])) r (.tup [.ref b,.int 8])) D (.tup [.ref c,.int 1])) hm=some (.dK []):=by rw[aw g3];exact a1
 have g4:hm≠tt:=aj a2 ht;generalize W:upd (upd (upd (upd (upd H hm (.dK [])) p (.tup [.ref a,.int 40])) r (.tup [.ref b,.int 8])) D (.tup [.ref c,.int 1])) tt (.tup [.ref p,.ref r,.ref D])=F at*;have q3:=aK (o:=.tup [.ref p,.ref r,.ref D]) ht;rw[W]at q3;have q2:=(aK (o:=.tup [.ref c,.int 1]) h3).trans q3;have q1:=(aK (o:=.tup [.ref b,.int 8]) h2).trans q2;have e1:F p=some (.tup [.ref a,.int 40]):=q1 _ _ ae;have e2:F r=some (.tup [.ref b,.int 8]):=q2 _ _ ae;have e3:F D=some (.tup [.ref c,.int 1]):=q3 _ _ ae;have e5:F hm=some (.dK []):=q3 _ _ a2;have e6:F tt=some (.tup [.ref p,.ref r,.ref D]):=by rw[← W];exact ae
 have d2:∀(i:Nat) (x:V),[V.ref p,V.ref r,V.ref D][i]?=some x→∃(ti M:Addr) (l:List Nat) (n:Nat),x=.ref ti∧F ti=some (.tup [.ref M,.int ((n:Nat):Int)])∧F M=some (.lst (l.map aY))∧(∀y∈l,y<2000)∧n≤40∧ti≠hm∧M≠hm∧[(A,40),(B,8),(C,1)][i]?=some (l,n):=by
  intro i x S
  match i,S with
  |0,S=>cases S;exact⟨p,a,A,40,Z,e1,s4 _ _ ha,hA,by decide,g1.symm,c0,Z⟩
  |1,S=>cases S;exact⟨r,b,B,8,Z,e2,s4 _ _ hb,hB,by decide,g2.symm,c1,Z⟩
  |2,S=>cases S;exact⟨D,c,C,1,Z,e3,s4 _ _ hc,hC,by decide,g3.symm,c2,Z⟩
 refine⟨tt,Z,⟨_,h9.of e6⟩,Ln (K:=K) (a:=tt) (xs:=[V.ref p,.ref r,.ref D]) (RW F a b c hm [(A,40),(B,8),(C,1)]) ⟨⟨none,none,none,none,Z⟩,Kp.refl _ _,[],e5,⟨[],Z,nodup_nil,nofun⟩,fun x=>rfl⟩ (fun i O H' _ ⟨_,kp,_⟩=>h9.of (kp _ _ e6 (by simp;exact g4.symm))) ?_ ?_⟩
 ·rintro i x O H5 hi ⟨⟨v4,v5,v6,v7,rfl⟩,kp,kvs,hk,hD⟩;obtain⟨ti,M,l,n,rfl,c9,X,hl,hn,d0,Y,b9⟩:=d2 i x hi;refine⟨ti,_,Z,h9.of (kp _ _ c9 (by simp;exact d0)),Z,_,_,Z,_,_,Z,Z,_,Z,M,Z,⟨_,aT.of (kp _ _ X (by simp;exact Y))⟩,?_⟩;refine cu (K:=K) (a:=M) (xs:=l.map aY) (RV F a b c hm M n (WW ([(A,40),(B,8),(C,1)].take i)) l) ⟨⟨_,_,Z⟩,kp,kvs,hk,by rw[take_zero,flatMap_nil,append_nil];exact hD⟩ (fun j O H' _ ⟨_,kp2,_⟩=>aT.of (kp2 _ _ X (by simp;exact Y))) ?_ ?_
  ·rintro j x O H6 hj ⟨⟨w6,w7,rfl⟩,U,z,I,G⟩;obtain⟨st,b1,rfl⟩:=gU hj;have b2:=hl st (mem_of_getElem? b1);refine⟨_,Z,_,Z,st,n,Z,hn,fun L hL=>⟨L,Z,⟨_,aT.of ae⟩,?_⟩⟩;have sL:=aK (o:=.lst (cC st n)) hL;have b3:L≠hm:=(aj I hL).symm;refine cu (K:=K) (a:=L) (xs:=cC st n) (RU F a b c hm M L n st (WW ([(A,40),(B,8),(C,1)].take i)++(l.take j).flatMap (tagged n))) ⟨⟨_,Z⟩,⟨U.trans (Kp.of sL),z,sL _ _ I,by rw[take_zero,append_nil];exact G⟩,ae⟩ (fun j O H' _ ⟨_,_,e⟩=>aT.of e) ?_ ?_
   ·rintro q x O H7 hq ⟨⟨d3,rfl⟩,⟨J,d,u,g⟩,R⟩;obtain⟨c4,rfl⟩:=vk hq;have d5:=g.len;have rC:=take_snoc (IK (st:=st) c4);refine⟨_,Z,hm,Z,.inl ⟨_,.inl u⟩,_,Z,_,Z,d,kN (around st q),u,Z,by rw[sizeLine_eq];omega,fun v e=>⟨⟨_,Z⟩,⟨J,d,u,?_⟩,R⟩,fun e=>⟨⟨_,Z⟩,⟨J.trans (Kp.upd (by simp)),_,ae,?_⟩,by rw[aw b3];exact R⟩⟩
    ·rw[rC,← append_assoc];exact g.old e
    ·rw[rC,← append_assoc];exact g.new (fA q b2) e
   ·rintro O H7 ⟨⟨d3,rfl⟩,⟨J,d,u,g⟩,R⟩;have d1:(cC st n).length=(tagged n st).length:=by rw[F8];unfold cC;simp
    rw[d1,take_length]at g;refine⟨⟨_,_,Z⟩,J,d,u,?_⟩;rw[take_snoc b1,flatMap_append,flatMap_cons,flatMap_nil,append_nil,← append_assoc];exact g
  ·rintro O H6 ⟨⟨w6,w7,rfl⟩,U,z,I,G⟩;rw[length_map,take_length]at G;refine⟨⟨_,_,_,_,Z⟩,U,z,I,?_⟩;have:WW ([(A,40),(B,8),(C,1)].take (i+1))=WW ([(A,40),(B,8),(C,1)].take i)++l.flatMap (tagged n):=by unfold WW;rw[take_snoc b9,flatMap_append,flatMap_cons,flatMap_nil,append_nil]
   rw[this];exact G
 ·rintro O H5 ⟨⟨v4,v5,v6,v7,rfl⟩,kp,kvs,hk,hD⟩;have e7:WW ([(A,40),(B,8),(C,1)].take 3)=A.flatMap (tagged 40)++(B.flatMap (tagged 8)++C.flatMap (tagged 1)):=by unfold WW;show List.flatMap _ [(A,40),(B,8),(C,1)]=_;rw[flatMap_cons,flatMap_cons,flatMap_cons,flatMap_nil,append_nil]
  refine⟨_,Z,k hm H5 kvs (fun x o e=>kp x o (s4 _ _ e) (by simp;exact aj e m)) m hk ?_⟩;rw[← e7];exact hD
noncomputable def R5(d:Addr)(st:Nat)(o b c s h:Addr):List (Str×V):=[("drum",.ref d),("start",.int (st:Nat)),("orders",.ref o),("bands",.ref b),("cards",.ref c),("singles",.ref s),("homes",.ref h)]
structure Od(C:Addr)(H:Hp)(r dx d o b c s h:Addr)(M:Machine)(kvs:List (Key×V)):Prop where
 ins:H r=some (.ins C dx (R5 d M.next o b c s h))
 drum:H d=some (.lst (M.drum.map V.int))
 ord:H o=some (.lst (M.seen.orders.map aY))
 QR:H b=some (.lst ((bo M.seen.tables).map aY))
 C3:H c=some (.lst ((bo M.seen.cards).map aY))
 JN:H h=some (.dK kvs)
 hD:l9 kvs (fi M)
inductive RcAt(C:Addr)(H:Hp)(r:Addr)(M:Machine):Prop
 |mk (dx d o b c s h:Addr) (kvs:List (Key×V)) (a:Od C H r dx d o b c s h M kvs):RcAt C H r M
theorem Od.same(q:Od C H r a d o b c s h M kvs)(e:aI H H'):Od C H' r a d o b c s h M kvs:=
 ⟨e _ _ q.ins,e _ _ q.drum,e _ _ q.ord,e _ _ q.QR,e _ _ q.C3,e _ _ q.JN,q.hD⟩
theorem RcAt.same(q:RcAt C H r M)(e:aI H H'):RcAt C H' r M:=by obtain⟨a,d,o,b,c,s,h,kvs,q⟩:=q;exact⟨a,d,o,b,c,s,h,kvs,q.same e⟩
theorem Oc(h:known c=true):Ay c=40↔(c==60)=true:=by rcases bX h with h|h|h|h|h|h|h|h|h|h|h|h|h|h|h|h|h|h|h|h|h|h|h|h|h|h<;>subst h<;>decide
theorem Qr(h:known c=true):Ay c=8↔(c==70||c==71)=true:=by rcases bX h with h|h|h|h|h|h|h|h|h|h|h|h|h|h|h|h|h|h|h|h|h|h|h|h|h|h<;>subst h<;>decide
theorem Qq(h:known c=true):Ay c=1↔gb c=true:=by rcases bX h with h|h|h|h|h|h|h|h|h|h|h|h|h|h|h|h|h|h|h|h|h|h|h|h|h|h<;>subst h<;>decide
inductive lJ(C:Addr)(vs:List V)(H:Hp)(Q:VK)(E:XK):Prop
 |mk (r dx d:Addr) (M:Machine) (h0_:vs=[.ref r,.ref d,.int (M.next:Nat)]) (h1_:H r=some (.ins C dx [])) (h2_:H d=some (.lst (M.drum.map V.int))) (h3_:Wf M) (h4_:∀H',Kp [r] H H'→RcAt C H' r M→Q .bV H'):lJ C vs H Q E
theorem uL(T:Top K mg t):KW P w K mg base 5 t.aE ["self","drum","start"] (lJ t.aE):=by
 refine T.HR.bC (N:=["self","drum","start"]) (fun nd f _ A outer s H _ Q E D h=>?_);obtain⟨r,a,d,M,rfl,F,hd,wf,k⟩:=h;refine⟨_,(af (aV (pv 0) (pv 1) Z)
  (af (aV (pv 0) (pv 2) Z)
  (af (aV (pv 0) (bq (pd T) D (aa (pv 1) (aa (pv 2) ai))) Z)
  (af (aV (pv 0) (bq (gj T) (D.mono (by decide)) (aa (pv 1) (aa (ay (pv 0) Z) (aa (pk T.bw) ai)))) Z)
  (af (aV (pv 0) (bq (gj T) (D.mono (by decide)) (aa (pv 1) (aa (ay (pv 0) Z) (aa (pk T.b0) ai)))) Z)
  (af (aV (pv 0) (bq (gj T) (D.mono (by decide)) (aa (pv 1) (aa (ay (pv 0) Z) (aa au ai)))) Z)
  (ah (aV (pv 0) (bq (DY T) (D.mono (by decide)) (aa (ay (pv 0) Z) (aa (ay (pv 0) Z) (aa (ay (pv 0) Z) ai)))) Z)))))))),?_⟩
 have g:d≠r:=dQ hd F (fun q=>nomatch q);refine⟨_,Z,_,Z,r,_,a,_,Z,F,T.aS.cl,T.gh,by show 0<1000;decide,?_⟩;refine⟨_,Z,_,Z,r,_,a,_,Z,ae,T.aS.cl,T.hJ,by show 1<1000;decide,?_⟩;rw[a9];have k1:Kp [r] H (upd H r (.ins t.aE a (aP "start" (.int (M.next:Nat)) (aP "drum" (.ref d) [])))):=Kp.upd (by simp);have r1:upd H r (.ins t.aE a (aP "start" (.int (M.next:Nat)) (aP "drum" (.ref d) []))) r=_:=ae;generalize upd H r (.ins t.aE a (aP "start" (.int (M.next:Nat)) (aP "drum" (.ref d) [])))=H1 at*;have new:∀{z v:Hp} {y:Addr},Kp [r] H z→Kp [r] H v→v y=none→y≠r→H y=none:=fun{z v y} _ kb hy u=>by
  cases e:H y with
  |none=>rfl
  |some o=>have:=kb y o e (by simp;exact u);rw[hy]at this;cases this
 have keep:∀{z v:Hp} {y:Addr} {w:HO},Kp [r] z v→z y=some w→y≠r→v y=some w:=fun kk e u=>kk _ _ e (by simp;exact u);refine⟨_,Z,_,Z,d,M,Z,keep k1 hd g,wf,fun o O s2 c1 c2=>?_⟩;have i:o≠r:=(aj r1 c1).symm;refine⟨_,Z,r,_,a,_,Z,s2 _ _ r1,T.aS.cl,T.bF,by show 2<1000;decide,?_⟩;have k2:Kp [r] H1 (upd O r (.ins t.aE a (aP "orders" (.ref o) (aP "start" (.int (M.next:Nat)) (aP "drum" (.ref d) []))))):=(Kp.of s2).trans (Kp.upd (by simp));have r2:upd O r (.ins t.aE a (aP "orders" (.ref o) (aP "start" (.int (M.next:Nat)) (aP "drum" (.ref d) [])))) r=_:=ae;have W:upd O r (.ins t.aE a (aP "orders" (.ref o) (aP "start" (.int (M.next:Nat)) (aP "drum" (.ref d) [])))) o=_:=(aw i).trans c2;generalize upd O r (.ins t.aE a (aP "orders" (.ref o) (aP "start" (.int (M.next:Nat)) (aP "drum" (.ref d) []))))=H3 at*;have V:=keep (k1.trans k2) hd g;refine⟨_,Z,_,Z,r,_,a,_,_,Z,r2,T.aS.cl,T.bF,Z,d,o,40,M,(· ==60),Z,V,wf,W,fun c B=>Oc B,fun x j=>DM.nE (m:=M) j,fun b R s4 Y a1=>?_⟩;have n:b≠r:=(aj r2 Y).symm;refine⟨_,Z,r,_,a,_,Z,s4 _ _ r2,T.aS.cl,T.fb,by show 3<1000;decide,?_⟩;have k3:Kp [r] H3 (upd R r (.ins t.aE a (aP "bands" (.ref b) (aP "orders" (.ref o) (aP "start" (.int (M.next:Nat)) (aP "drum" (.ref d) [])))))):=(Kp.of s4).trans (Kp.upd (by simp));have r3:upd R r (.ins t.aE a (aP "bands" (.ref b) (aP "orders" (.ref o) (aP "start" (.int (M.next:Nat)) (aP "drum" (.ref d) []))))) r=_:=ae;have b3:upd R r (.ins t.aE a (aP "bands" (.ref b) (aP "orders" (.ref o) (aP "start" (.int (M.next:Nat)) (aP "drum" (.ref d) []))))) b=_:=(aw n).trans a1;generalize upd R r (.ins t.aE a (aP "bands" (.ref b) (aP "orders" (.ref o) (aP "start" (.int (M.next:Nat)) (aP "drum" (.ref d) [])))))=H5 at*;refine⟨_,Z,_,Z,r,_,a,_,_,Z,r3,T.aS.cl,T.bF,Z,d,o,8,M,(fun c=>c==70||c==71),Z,keep k3 V g,wf,keep k3 W i,fun c B=>Qr B,fun x j=>DM.pR (m:=M) j,fun c S s6 a2 b1=>?_⟩;have p:c≠r:=(aj r3 a2).symm;refine⟨_,Z,r,_,a,_,Z,s6 _ _ r3,T.aS.cl,T.fc,by show 4<1000;decide,?_⟩;have k4:Kp [r] H5 (upd S r (.ins t.aE a (aP "cards" (.ref c) (aP "bands" (.ref b) (aP "orders" (.ref o) (aP "start" (.int (M.next:Nat)) (aP "drum" (.ref d) []))))))):=(Kp.of s6).trans (Kp.upd (by simp));have r4:upd S r (.ins t.aE a (aP "cards" (.ref c) (aP "bands" (.ref b) (aP "orders" (.ref o) (aP "start" (.int (M.next:Nat)) (aP "drum" (.ref d) [])))))) r=_:=ae;have c4:upd S r (.ins t.aE a (aP "cards" (.ref c) (aP "bands" (.ref b) (aP "orders" (.ref o) (aP "start" (.int (M.next:Nat)) (aP "drum" (.ref d) [])))))) c=_:=(aw p).trans b1;generalize upd S r (.ins t.aE a (aP "cards" (.ref c) (aP "bands" (.ref b) (aP "orders" (.ref o) (aP "start" (.int (M.next:Nat)) (aP "drum" (.ref d) []))))))=H7 at*;have l:=k3.trans k4;refine⟨_,Z,_,Z,r,_,a,_,_,Z,r4,T.aS.cl,T.bF,Z,d,o,1,M,gb,Z,keep l V g,wf,keep l W i,fun c B=>Qq B,fun x j=>DM.xQ (m:=M) j,fun s U s8 c3 d0=>?_⟩;have d1:s≠r:=(aj r4 c3).symm;refine⟨_,Z,r,_,a,_,Z,s8 _ _ r4,T.aS.cl,T.jx,by show 5<1000;decide,?_⟩;have G:Kp [r] H7 (upd U r (.ins t.aE a (aP "singles" (.ref s) (aP "cards" (.ref c) (aP "bands" (.ref b) (aP "orders" (.ref o) (aP "start" (.int (M.next:Nat)) (aP "drum" (.ref d) [])))))))):=(Kp.of s8).trans (Kp.upd (by simp));have J:upd U r (.ins t.aE a (aP "singles" (.ref s) (aP "cards" (.ref c) (aP "bands" (.ref b) (aP "orders" (.ref o) (aP "start" (.int (M.next:Nat)) (aP "drum" (.ref d) []))))))) r=_:=ae;have s5:upd U r (.ins t.aE a (aP "singles" (.ref s) (aP "cards" (.ref c) (aP "bands" (.ref b) (aP "orders" (.ref o) (aP "start" (.int (M.next:Nat)) (aP "drum" (.ref d) []))))))) s=_:=(aw d1).trans d0;generalize upd U r (.ins t.aE a (aP "singles" (.ref s) (aP "cards" (.ref c) (aP "bands" (.ref b) (aP "orders" (.ref o) (aP "start" (.int (M.next:Nat)) (aP "drum" (.ref d) [])))))))=H9 at*;have d2:=k4.trans G;have b9:=keep d2 b3 n;have c9:=keep G c4 p;refine⟨_,Z,r,_,a,_,_,Z,J,T.aS.cl,T.fb,Z,_,Z,r,_,a,_,_,Z,J,T.aS.cl,T.fc,Z,_,Z,r,_,a,_,_,Z,J,T.aS.cl,T.jx,Z,b,c,s,_,_,_,Z,b9,c9,s5,fun x j=>(bf.mp j).1,fun x j=>(bf.mp j).1,fun x j=>(bf.mp j).1,fun h X d5 L C b2 hD=>?_⟩;have c0:h≠r:=(aj J C).symm;refine⟨_,Z,r,_,a,_,Z,L _ _ J,T.aS.cl,T.dP,by show 6<1000;decide,?_⟩;have I:Kp [r] H9 (upd X r (.ins t.aE a (aP "homes" (.ref h) (aP "singles" (.ref s) (aP "cards" (.ref c) (aP "bands" (.ref b) (aP "orders" (.ref o) (aP "start" (.int (M.next:Nat)) (aP "drum" (.ref d) []))))))))):=(Kp.of L).trans (Kp.upd (by simp));refine k _ ((k1.trans (k2.trans (l.trans G))).trans I) ⟨a,d,o,b,c,s,h,d5,ae,keep I (keep (l.trans G) V g) g,keep I (keep (l.trans G) W i) i,keep I b9 n,keep I c9 p,by rw[aw c0];exact b2,hD⟩
theorem JG{kvs:List (Key×V)}{g:TG}{l:TS}{D:Ends}(Pv:Nat→L2.St→Hp→Prop)(n:Pv 0 a H)(h:∀i a H,Pv i a H→H d=some (.gB o (.dK kvs)))
 (q:∀i k v a H,kvs[i]?=some (k,v)→Pv i a H→g (kV k) a H fun c f=>l {D with nx:=Pv (i+1),ct:=Pv (i+1),bk:=D.nx} c f)(hd:∀a H,Pv kvs.length a H→D.nx a H):
  ∃W:Nat→Nat→L2.St→Hp→Prop,(∃m,W 0 m a H)∧∀i m a H,W i m a H→
   ((Oy d o kvs).stop i H∧D.nx a H)∨((Oy d o kvs).go i H∧∃N:L2.St→Hp→Prop,(∀b H',N b H'→∃j,j<m∧W (i+1) j b H')∧∀x H',(Oy d o kvs).CB i H x H'→g x a H' fun c f=>l {D with nx:=N,ct:=N,bk:=D.nx} c f):=by
 refine⟨fun i m a H=>m=kvs.length-i∧i≤kvs.length∧Pv i a H,⟨_,Z,Nat.zero_le _,n⟩,?_⟩;rintro i m a H ⟨rfl,s,p⟩;by_cases bL:i<kvs.length
 ·refine .inr ⟨⟨h i a H p,bL⟩,Pv (i+1),fun b H' r=>⟨kvs.length-(i+1),by omega,Z,bL,r⟩,fun x H' y=>?_⟩;obtain⟨rfl,k,v,e,rfl⟩:=y;exact q i k v a H' e p
 ·have e:i=kvs.length:=by omega
  subst e;exact .inl ⟨⟨h _ a H p,Nat.le_refl _⟩,hd a H p⟩
theorem JH{kvs:List (Key×V)}{g:TG}{l:TS}{D:Ends}(Pv:Nat→L2.St→Hp→Prop)(n:Pv 0 a H)(h:∀i a H,Pv i a H→H d=some (.gB o (.dK kvs)))
 (q:∀i k v a H,kvs[i]?=some (k,v)→Pv i a H→g v a H fun c f=>l {D with nx:=Pv (i+1),ct:=Pv (i+1),bk:=D.nx} c f)(hd:∀a H,Pv kvs.length a H→D.nx a H):
  ∃W:Nat→Nat→L2.St→Hp→Prop,(∃m,W 0 m a H)∧∀i m a H,W i m a H→
   ((Ox d o kvs).stop i H∧D.nx a H)∨((Ox d o kvs).go i H∧∃N:L2.St→Hp→Prop,(∀b H',N b H'→∃j,j<m∧W (i+1) j b H')∧∀x H',(Ox d o kvs).CB i H x H'→g x a H' fun c f=>l {D with nx:=N,ct:=N,bk:=D.nx} c f):=by
 refine⟨fun i m a H=>m=kvs.length-i∧i≤kvs.length∧Pv i a H,⟨_,Z,Nat.zero_le _,n⟩,?_⟩;rintro i m a H ⟨rfl,s,p⟩;by_cases bL:i<kvs.length
 ·refine .inr ⟨⟨h i a H p,bL⟩,Pv (i+1),fun b H' r=>⟨kvs.length-(i+1),by omega,Z,bL,r⟩,fun x H' y=>?_⟩;obtain⟨rfl,k,e⟩:=y;exact q i k x a H' e p
 ·have e:i=kvs.length:=by omega
  subst e;exact .inl ⟨⟨h _ a H p,Nat.le_refl _⟩,hd a H p⟩
def Ab(f:Nat→Nat):List V:=(range 2000).map fun x=>aY (f x)
theorem kW(f:Nat→Nat):(Ab f).length=2000:=by unfold Ab;simp
theorem wK(f:Nat→Nat)(h:x<2000):(Ab f)[x]?=some (aY (f x)):=by unfold Ab;rw[getElem?_map,getElem?_range h];rfl
theorem GL(f:Nat→Nat)(v:Nat):(Ab f).set a (aY v)=Ab fun x=>if x=a then v else f x:=by
 apply List.ext_getElem?;intro i;rw[List.getElem?_set];by_cases b:i<2000
 ·rw[wK _ b,wK _ b,kW];by_cases e:a=i
  ·subst e;rw[if_pos Z,if_pos b,if_pos Z]
  ·rw[if_neg e,if_neg (fun z=>e z.symm)]
 ·have c:∀g,(Ab g)[i]?=none:=fun g=>getElem?_eq_none (by rw[kW];omega);rw[c,c,kW];split
  ·rw[if_neg (by omega)]
  ·rfl
theorem rP(h:∀x,f x=g x):Ab f=Ab g:=by rw[funext h]
def m1(l:List Nat)(x:Nat):Nat:=if x∈l then 1 else 0
def m2(l:List Nat)(x:Nat):Nat:=if x∈l then 2 else 0
theorem KN.at_{kvs:List (Key×V)}{ns:List Nat}(h:KN kvs ns){i:Nat}{k:Key}{v:V}(e:kvs[i]?=some (k,v)):∃n,ns[i]?=some n∧k=kN n:=by
 have a:(kvs.map (·.1))[i]?=some k:=by rw[getElem?_map,e];rfl
 rw[show kvs.map (·.1)=ns.map kN from h,getElem?_map]at a;cases q:ns[i]? with
 |none=>rw[q]at a;cases a
 |some n=>rw[q]at a;exact⟨n,Z,(Option.some.inj a).symm⟩
theorem DU{ns:List Nat}(h:ns.Nodup)(e:ns[i]?=some n):n∉ns.take i:=fun hm=>by
 obtain⟨j,a⟩:=mem_iff_getElem?.mp hm;rw[getElem?_take]at a;split at a
 ·rename_i bL
  obtain⟨d,b⟩:=List.getElem?_eq_some_iff.mp a;obtain⟨f,c⟩:=List.getElem?_eq_some_iff.mp e;have:=FE h d f (by rw[b,c]);omega
 ·cases a
noncomputable def qQ(f:Nat→Nat)(i:Nat):List V:=(range i).flatMap fun a=>if f a=0 then[]else[aY a,aY (f a)]
theorem Ax(f:Nat→Nat)(i:Nat):(qQ f i).length≤2*i:=by
 induction i with
 |zero=>exact Nat.le_refl _
 |succ i b=>
  unfold qQ at*;rw[fg,length_append];by_cases a:f i=0
  ·rw[if_pos a,length_nil];omega
  ·rw[if_neg a,length_cons,length_cons,length_nil];omega
inductive Ar(C:Addr)(vs:List V)(H:Hp)(Q:VK)(E:XK):Prop
 |mk (r:Addr) (M:Machine) (h0_:vs=[.ref r]) (h1_:RcAt C H r M) (h2_:Wf M) (h3_:∀q H',aI H H'→H q=none→H' q=some (.lst ((DrumListSeed.marks M.seen).map V.int))→Q (.ref q) H'):Ar C vs H Q E
def Ru(H:Hp)(r mk:Addr)(f:Nat→Nat→Nat)(i:Nat)(b:L2.St)(H':Hp):Prop:=(∃a,b=[some (.ref r),some (.ref mk),a,none,none])∧Kp [mk] H H'∧H' mk=some (.lst (Ab (f i)))
def RX(H:Hp)(r mk tl:Addr)(f:Nat→Nat)(i:Nat)(c:L2.St)(H':Hp):Prop:=(∃a b,c=[some (.ref r),some (.ref mk),a,some (.ref tl),b])∧Kp [tl] H H'∧H' tl=some (.lst (qQ f i))
theorem nQ(T:Top K mg t):Fn P w K mg base 1 "marked_addresses" ["reached"] (Ar t.aE):=by
 refine T.oQ.bC (N:=["reached","marks","address","told","mark"]) (fun nd f _ A outer s H _ Q E _ h=>?_);obtain⟨r,M,rfl,⟨dx,d,o,b,c,s,h,kvs,R⟩,wf,k⟩:=h;refine⟨_,(af (aH 1 nd (aN Ke (a3 (aa au ai)) (pk T.fC)))
  (af (bx PassesOwn.never Z (bK (ay (pv 0) Z)) (bI 2 nd) (ah (GZ (pv 1) (pv 2) Ah au oT set_list)))
  (af (G0 (bx PassesOwn.never Z (L8 (ay (pv 0) Z)) (bI 2 nd) (ah (GZ (pv 1) (pv 2) Ah au oT set_list))))
  (af (aH 3 nd (a3 ai))
  (af (bx PassesOwn.never Z (gX Z T.bW (aa (pv 1) ai)) (eu Z (aU (bI 2 nd) (aU (bI 4 nd) cP))) (ah (aM (az d6 (pv 4) au (aB _)) (ah (bu (mG PySem.F.plainAttrs_list PySem.F.slot_list_extend PySem.F.type_list_extend rQ (pv 3) (aa (a3 (aa (pv 2) (aa (pv 4) ai))) ai)))) aA)))
  (ah (ak (pv 3)))))))),?_⟩
 refine⟨by show 1≤sizeLine;decide,fun p1 h1=>⟨p1,_,_,Z,Z,ae,by decide,by decide,by decide,fun mk h2=>?_⟩⟩;have s1:=aK (o:=.lst [V.int 0]) h1;have e0:(replicate (2000:Int).toNat [V.int 0]).flatten=Ab (m1 []):=by
  rw[List.flatten_replicate_singleton];unfold Ab m1;show replicate 2000 (V.int 0)=_;rw[List.eq_replicate_of_mem (l:=(range 2000).map _) (a:=V.int 0)]
  ·simp
  ·intro x B;obtain⟨y,_,rfl⟩:=mem_map.mp B;simp[aY]
 rw[e0];have s2:=s1.trans (aK (o:=.lst (Ab (m1 []))) h2);have a2:H mk=none:=s1.free h2;generalize b1:upd (upd H p1 (.lst [V.int 0])) mk (.lst (Ab (m1 [])))=H2 at*;have a1:H2 mk=some (.lst (Ab (m1 []))):=by rw[← b1];exact ae
 have I:∀{y w},H y=some w→y≠mk:=fun e=>aj e a2;refine⟨_,Z,r,_,dx,_,_,Z,s2 _ _ R.ins,T.aS.cl,T.bF,Z,o,Z,⟨_,aT.of (s2 _ _ R.ord)⟩,?_⟩;refine cu (K:=K) (a:=o) (xs:=M.seen.orders.map aY) (Ru H2 r mk (fun i=>m1 (M.seen.orders.take i))) ⟨⟨none,Z⟩,Kp.refl _ _,a1⟩ (fun i L H' _ ⟨_,kp,_⟩=>aT.of (kp _ _ (s2 _ _ R.ord) (by simp;exact I R.ord))) ?_ ?_
 ·rintro i x L H3 O ⟨⟨v2,rfl⟩,kp,hm⟩;obtain⟨a,g,rfl⟩:=gU O;have C:=((oY wf.nx).mp (mem_of_getElem? g)).lt wf.nx;have X:=DU (by rw[cQ];exact fw _) g;refine⟨_,Z,_,Z,mk,_,_,_,Z,Z,aT.of hm,a5 (wK _ C),_,_,Z,Z,mk,_,_,_,Z,Z,hm,wm (by rw[kW];exact C),⟨_,Z⟩,kp.trans (Kp.upd (by simp)),?_⟩;rw[ae];have e1:m1 (M.seen.orders.take i) a=0:=if_neg X;have e2:(V.int (((m1 (M.seen.orders.take i) a:Nat):Int)+1))=aY 1:=by rw[e1];rfl
  show some (HO.lst ((Ab (m1 (M.seen.orders.take i))).set a (V.int (((m1 (M.seen.orders.take i) a:Nat):Int)+1))))=_;dsimp only;rw[e2,GL,take_snoc g];refine congrArg (fun z=>some (HO.lst z)) (rP fun x=>?_);unfold m1;by_cases B:x=a
  ·rw[if_pos B,if_pos (by simp[B])]
  ·rw[if_neg B];by_cases D:x∈M.seen.orders.take i
   ·rw[if_pos D,if_pos (by simp[D])]
   ·rw[if_neg D,if_neg (by simp[D,B])]
 ·rintro L H3 ⟨⟨v2,rfl⟩,kp,hm⟩;dsimp only at hm;rw[length_map,take_length]at hm;have s3:aI H H3:=fun y w e=>kp _ _ (s2 _ _ e) (by simp;exact I e);have R3:=R.same s3;obtain⟨ns,S,b9,bL⟩:=R.hD.ex;have G:h≠mk:=I R.JN;have c2:∀x,x∈ns↔x∈M.seen.used:=fun x=>by rw[← mv,← decide_eq_true_iff (p:=x∈ns),← S.has,R.hD.val];unfold f9;cases(fi M).find? (fun u=>u.1==x)<;>rfl
  refine⟨h,.dK kvs,R3.JN,trivial,fun od=>?_⟩;have c1:r≠h:=dQ R.ins R.JN (fun q=>nomatch q);refine⟨_,Z,r,_,dx,_,_,Z,by rw[aw c1];exact R3.ins,T.aS.cl,T.dP,Z,h,od,Z,.inl ⟨kvs,ae,?_⟩⟩;refine JG (Ru (upd H3 h (.gB od (.dK kvs))) r mk (fun i x=>m1 M.seen.orders x+m2 (ns.take i) x)) ⟨⟨_,Z⟩,Kp.refl _ _,?_⟩ (fun i L H' ⟨_,n,_⟩=>n _ _ ae (by simp;exact G)) ?_ ?_
  ·rw[aw G.symm,hm];exact congrArg (fun z=>some (HO.lst z)) (rP fun x=>by show _=m1 _ x+(if x∈ns.take 0 then 2 else 0);rw[take_zero];rfl)
  ·rintro i kk v L H4 O ⟨⟨w2,rfl⟩,n,j⟩;obtain⟨a,g,rfl⟩:=S.at_ O;have C:=bL a (mem_of_getElem? g);have X:=DU b9 g;refine⟨_,Z,_,Z,mk,_,_,_,Z,Z,aT.of j,a5 (wK _ C),_,_,Z,Z,mk,_,_,_,Z,Z,j,wm (by rw[kW];exact C),⟨_,Z⟩,n.trans (Kp.upd (by simp)),?_⟩;rw[ae];have e1:m2 (ns.take i) a=0:=if_neg X;have e2:(V.int (((m1 M.seen.orders a+m2 (ns.take i) a:Nat):Int)+2))=aY (m1 M.seen.orders a+2):=by rw[e1];rfl
   show some (HO.lst ((Ab (fun x=>m1 M.seen.orders x+m2 (ns.take i) x)).set a (V.int (((m1 M.seen.orders a+m2 (ns.take i) a:Nat):Int)+2))))=_;dsimp only;rw[e2,GL,take_snoc g];refine congrArg (fun z=>some (HO.lst z)) (rP fun x=>?_);unfold m2;by_cases B:x=a
   ·rw[if_pos B,if_pos (by simp[B]),B]
   ·rw[if_neg B];by_cases D:x∈ns.take i
    ·rw[if_pos D,if_pos (by simp[D])]
    ·rw[if_neg D,if_neg (by simp[D,B])]
  ·rintro L H4 ⟨⟨w2,rfl⟩,n,j⟩;refine⟨n _ _ ae (by simp;exact G),?_⟩;have b3:=S.len;dsimp only at j;rw[b3,take_length]at j;have ef:(fun x=>m1 M.seen.orders x+m2 ns x)=M.seen.mark:=funext fun x=>by unfold m1 m2 Drum.Seen.mark;simp only[List.contains_iff_mem,c2 x]
   have s5:aI H (upd H4 h (.dK kvs)):=fun y w e=>by
    by_cases hy:y=h
    ·subst hy;rw[ae,← R.JN,e]
    ·rw[aw hy];exact n _ _ (by rw[aw hy];exact s3 _ _ e) (by simp;exact I e)
   have U:upd H4 h (.dK kvs) mk=some (.lst (Ab M.seen.mark)):=by rw[aw G.symm,j];exact congrArg (fun z=>some (HO.lst (Ab z))) ef
   generalize upd H4 h (.dK kvs)=H5 at*;refine⟨by rw[sizeLine_eq];exact Nat.zero_le _,fun tl Y=>?_⟩;have s6:=s5.trans (aK (o:=.lst []) Y);have W:mk≠tl:=aj U Y;have J:H tl=none:=s5.free Y;refine⟨_,Z,mk,_,Z,aT.of (by rw[aw W];exact U),?_⟩;refine fZ (K:=K) (a:=mk) (xs:=Ab M.seen.mark) (RX (upd H5 tl (.lst [])) r mk tl M.seen.mark) ⟨⟨_,_,Z⟩,Kp.refl _ _,ae⟩ (fun i L H' _ ⟨_,kp6,_⟩=>aT.of (kp6 _ _ (by rw[aw W];exact U) (by simp;exact W))) ?_ ?_
   ·rintro i L H6 v T1 O hT ⟨⟨w2,w4,rfl⟩,kp6,m⟩;have b2:i<2000:=by have:=(List.getElem?_eq_some_iff.mp O).1;rw[kW]at this;exact this
    rw[wK _ b2]at O;cases O;have sT:=aK (o:=.tup [.int ((i:Nat):Int),aY (M.seen.mark i)]) hT;have c3:=Ax M.seen.mark i;refine⟨T1,_,Z,h9.of ae,Z,_,_,Z,_,_,Z,Z,_,Z,Z,_,Z,iO (fun _=>?_) (fun _=>?_)⟩
    ·refine⟨_,Z,.inl ⟨Z,_,aT.of (sT _ _ m)⟩,_,Z,_,Z,by rw[sizeLine_eq];exact(by decide:2≤16777216),fun p2 c0=>?_⟩;have sp:=sT.trans (aK (o:=.lst [.int ((i:Nat):Int),aY (M.seen.mark i)]) c0);refine⟨tl,p2,_,_,Z,Z,sp _ _ m,ae,by rw[sizeLine_eq];show(qQ _ _).length+2≤_;omega,⟨_,_,Z⟩,(kp6.trans (Kp.of sp)).trans (Kp.upd (by simp)),?_⟩;rw[ae];unfold qQ;rw[fg,if_neg (by omega)];rfl
    ·refine⟨⟨_,_,Z⟩,kp6.trans (Kp.of sT),?_⟩;rw[sT _ _ m];unfold qQ;rw[fg,if_pos (by omega),append_nil]
   ·rintro L H6 ⟨⟨w2,w4,rfl⟩,kp6,m⟩;rw[kW]at m;refine⟨_,Z,k tl H6 (fun y w e=>kp6 _ _ (s6 _ _ e) (by simp;exact aj e J)) J ?_⟩;rw[m];unfold qQ DrumListSeed.marks;rw[List.map_flatMap];refine congrArg (fun z=>some (HO.lst z)) (iL fun x _=>?_);split<;>rfl
inductive pF(C:Addr)(R:Machine→Option Nat)(vs:List V)(H:Hp)(Q:VK)(E:XK):Prop
 |mk (r:Addr) (M:Machine) (h0_:vs=[.ref r]) (h1_:RcAt C H r M) (h2_:Wf M) (h3_:∀H',aI H H'→Q (optN (R M)) H'):pF C R vs H Q E
def rL(L:Machine→List Nat)(M:Machine):Option Nat:=least (L M)
theorem xn(M:Machine):M.seen.orders.Pairwise (·<·):=by rw[cQ];exact g8 _
def zg(H:Hp)(r:Addr)(l:List Nat)(p:Nat→Bool)(i:Nat)(c:L2.St)(H':Hp):Prop:=(∃a,c=[some (.ref r),a])∧aI H H'∧∀j b,j<i→l[j]?=some b→p b=false
theorem zg.step{l:List Nat}{i a:Nat}(s:aI H H')(h:∀j b,j<i→l[j]?=some b→p b=false)(d:l[i]?=some a)(f:p a=false):zg H r l p (i+1) [some (.ref r),some (aY a)] H':=by
 refine⟨⟨_,Z⟩,s,fun j b _ e=>?_⟩;by_cases c:j=i
 ·subst c;rw[d]at e;cases e;exact f
 ·exact h j b (by omega) e
theorem AJ{l:List Nat}{p:Nat→Bool}(h:∀j b,j<l.length→l[j]?=some b→p b=false):∀b∈l,p b=false:=fun b c=>by obtain⟨j,a⟩:=mem_iff_getElem?.mp c;exact h j b (List.getElem?_eq_some_iff.mp a).1 a
theorem uP(T:Top K mg t):Fn P w K mg base 3 "first_faulty" ["reached"] (pF t.aE (rL eO)):=by
 refine T.vK.bC (N:=["reached","address"]) (fun nd f _ A outer s H _ Q E B h=>?_);obtain⟨r,M,rfl,⟨n,d,o,b,c,s,h,kvs,R⟩,wf,k⟩:=h;refine⟨_,(af (bx PassesOwn.never Z (bK (ay (pv 0) Z)) (bI 1 nd) (ah (aM (az d6 (bq (jz T) B (aa (bB a4 (ay (pv 0) Z) (pv 1) (fun _ _=>rfl)) ai)) au (aB _)) (ah (ak (pv 1))) aA)))
  (ah (ak a_))),?_⟩
 refine⟨_,Z,r,_,n,_,_,Z,R.ins,T.aS.cl,T.bF,Z,o,Z,⟨_,aT.of R.ord⟩,?_⟩;refine cu (K:=K) (a:=o) (xs:=M.seen.orders.map aY) (zg H r M.seen.orders fun a=>(M.orderAt a).isNone) ⟨⟨none,Z⟩,aI.refl H,fun _ _ y=>absurd y (Nat.not_lt_zero _)⟩ (fun i q H' _ ⟨_,s,_⟩=>aT.of (s _ _ R.ord)) ?_ ?_
 ·rintro i x q H1 v ⟨⟨D,rfl⟩,s1,e⟩;obtain⟨a,g,rfl⟩:=gU v;have j:=eK (mem_of_getElem? g);have m:=R.same s1;refine⟨_,Z,r,_,n,_,_,Z,m.ins,T.aS.cl,T.gh,Z,_,Z,d,_,_,_,Z,Z,aT.of m.drum,j5 wf j,M.at_ a,Z,fun u p=>⟨Z,_,Z,iO (fun l=>⟨_,Z,?_⟩) (fun _=>zg.step (s1.trans p) e g ?_)⟩⟩
  ·have hn:M.orderAt a=none:=qA.mpr fun z=>l (by rw[kP.mpr z];rfl);have:=k u (s1.trans p);rw[show rL eO M=some a from qf (xn M) (fun x C=>eK C) g (by rw[hn];rfl) e]at this;exact this
  ·rw[k_ (kP.mp (by omega))];rfl
 ·rintro q H1 ⟨⟨D,rfl⟩,s1,e⟩;rw[length_map]at e;have:=k H1 s1;rw[show rL eO M=none from qg (AJ e)]at this;exact this
theorem GB{M:Machine}(R:Od C H r f d o b c s h M kvs)(x:Nat):(bH kvs (kN x)).isSome=M.seen.used.contains x:=by
 rw[Bool.eq_iff_iff];have a:=mv (m:=M) (x:=x);unfold f9 at a;rw[R.hD.val];cases e:(fi M).find? (fun u=>u.1==x)with
 |none=>rw[e]at a;simpa using a
 |some u=>rw[e]at a;simpa using a
theorem nL(T:Top K mg t):Fn P w K mg base 1 "first_order_used" ["reached"] (pF t.aE (rL dI)):=by
 refine T.oK.bC (N:=["reached","address"]) (fun nd f _ A outer s H _ Q E u h=>?_);obtain⟨r,M,rfl,⟨m,d,o,b,c,s,h,kvs,R⟩,wf,k⟩:=h;refine⟨_,(af (bx PassesOwn.never Z (bK (ay (pv 0) Z)) (bI 1 nd) (ah (aM (so (si (dO u) (pv 1) (ay (pv 0) Z))) (ah (ak (pv 1))) aA)))
  (ah (ak a_))),?_⟩
 refine⟨_,Z,r,_,m,_,_,Z,R.ins,T.aS.cl,T.bF,Z,o,Z,⟨_,aT.of R.ord⟩,?_⟩;refine cu (K:=K) (a:=o) (xs:=M.seen.orders.map aY) (zg H r M.seen.orders fun a=>M.seen.used.contains a) ⟨⟨none,Z⟩,aI.refl H,fun _ _ q=>absurd q (Nat.not_lt_zero _)⟩ (fun i n H' _ ⟨_,s,_⟩=>aT.of (s _ _ R.ord)) ?_ ?_
 ·rintro i x n H1 p ⟨⟨y,rfl⟩,s1,e⟩;obtain⟨a,g,rfl⟩:=gU p;have j:=R.same s1;refine⟨_,Z,_,Z,r,_,m,_,_,Z,j.ins,T.aS.cl,T.dP,Z,h,_,Z,dY.k (k:=kN a) j.JN,_,Z,?_⟩;rw[GB j];refine gC (fun l=>⟨_,Z,?_⟩) (fun l=>zg.step s1 e g l);have:=k H1 s1;rw[show rL dI M=some a from qf (xn M) (fun x v=>eK v) g l e]at this;exact this
 ·rintro n H1 ⟨⟨y,rfl⟩,s1,e⟩;rw[length_map]at e;have:=k H1 s1;rw[show rL dI M=none from qg (AJ e)]at this;exact this
def Qy(n:Nat)(S:List Nat)(b:Nat):Bool:=S.any fun a=>decide (a<b)&&DM.hits n a b
inductive ko(vs:List V)(H:Hp)(Q:VK)(E:XK):Prop
 |mk (p:Addr) (n:Nat) (S:List Nat) (h0_:vs=[.ref p,.int (n:Nat)]) (h1_:H p=some (.lst (S.map aY))) (h2_:n≤40) (h3_:S.Pairwise (·<·)) (h4_:(∀x∈S,x<2000)) (h5_:∀H',aI H H'→Q (optN (least (FO n S))) H'):ko vs H Q E
def OJ(H:Hp)(p tk:Addr)(n:Nat)(S:List Nat)(i:Nat)(g:L2.St)(H':Hp):Prop:=(∃d e f,g=[some (.ref p),some (.int (n:Nat)),some (.ref tk),d,e,f])∧Kp [tk] H H'∧(∃c ns,H' tk=some (.dK c)∧KN c ns∧ns.Nodup∧(∀x∈ns,x<2000)∧∀x,x∈ns↔∃a∈S.take i,x∈cells n a)∧∀j b,j<i→S[j]?=some b→Qy n S b=false
def QJ(H:Hp)(p tk L:Addr)(n a:Nat)(c:List Nat)(j:Nat)(e:L2.St)(H':Hp):Prop:=(∃d,e=[some (.ref p),some (.int (n:Nat)),some (.ref tk),some (aY a),some (.ref L),d])∧Kp [tk] H H'∧(∃b ns,H' tk=some (.dK b)∧KN b ns∧ns.Nodup∧(∀x∈ns,x<2000)∧∀x,x∈ns↔(∃a∈c,x∈cells n a)∨x∈(cells n a).take j)∧H' L=some (.lst (cC a n))
theorem Gf(n a:Nat):cC a n=(cells n a).map aY:=by unfold cC cells;rw[map_map];rfl
theorem lC{S:List Nat}(m:S.Pairwise (·<·)){i a x:Nat}(k:S[i]?=some a):x∈S.take i↔x∈S∧x<a:=by
 obtain⟨c,l⟩:=List.getElem?_eq_some_iff.mp k;have f:=List.pairwise_iff_getElem.mp m;constructor
 ·intro h;refine⟨List.mem_of_mem_take h,?_⟩;obtain⟨j,b⟩:=mem_iff_getElem?.mp h;rw[getElem?_take]at b;split at b
  ·rename_i bL
   obtain⟨d,g⟩:=List.getElem?_eq_some_iff.mp b;have:=f j i d c bL;omega
  ·cases b
 ·rintro⟨h,bL⟩;obtain⟨j,b⟩:=mem_iff_getElem?.mp h;obtain⟨d,g⟩:=List.getElem?_eq_some_iff.mp b;have e:j<i:=by
   rcases Nat.lt_trichotomy j i with q|q|q
   ·exact q
   ·subst q;omega
   ·have:=f i j c d q;omega
  rw[mem_iff_getElem?];exact⟨j,by rw[getElem?_take,if_pos e];exact b⟩
theorem ka(T:Top K mg t):Fn P w K mg base 3 "first_overlap" ["starts","size"] (ko):=by
 refine T.uw.bC (N:=["starts","size","taken","start","around","address"]) (fun nd f _ A outer s H _ Q E hr h=>?_);obtain⟨p,n,S,rfl,hp,hn,hs,hl,k⟩:=h;refine⟨_,(af (FX (i:=2) nd Z (Or.inr Z) g7)
  (af (bx PassesOwn.never Z (bK (pv 0)) (bI 3 nd) (af (aH 4 nd (bq (bU T) hr (aa (pv 3) (aa (pv 1) ai))))
  (af (aM (bJ (aF (Jv Z) Z T.MP boot_any (aa (jB Z nd (bK (pv 4)) (b_ (own:=[("address",5)]) (by refine(show lZ ["starts","size","taken","start","around","address"] (aL lF) _ _=true from ?_);decide +kernel)) (fun _ _ _ _ _=>(bI 5 nd)) (fun _ _ _ _ _=>eM) (fun _ _ _ _ _=>(FT (si (dO hr) (pv 5) (pv 2))))) ai))) (ah (ak (pv 3))) aA)
  (ah (bx PassesOwn.never Z (bK (pv 4)) (bI 5 nd) (ah (lh (dO hr) (pv 2) (pv 5) iZ Z)))))))
  (ah (ak a_)))),?_⟩
 intro tk rC;have s0:=aK (o:=.dK []) rC;have c2:p≠tk:=aj hp rC;refine⟨_,Z,p,Z,⟨_,aT.of (s0 _ _ hp)⟩,cu (K:=K) (a:=p) (xs:=S.map aY) (OJ H p tk n S) ⟨⟨none,none,none,Z⟩,Kp.of s0,⟨[],[],ae,Z,nodup_nil,nofun,fun x=>⟨nofun,fun⟨_,h,_⟩=>by rw[take_zero]at h;cases h⟩⟩,fun _ _ M=>absurd M (Nat.not_lt_zero _)⟩ (fun i W H' _ ⟨_,kp,_⟩=>aT.of (kp _ _ hp (by simp;exact c2))) ?_ ?_⟩
 ·rintro i x W H1 hi ⟨⟨v3,v4,v5,rfl⟩,kp,⟨kvs,ns,M,O,c0,bL,hm⟩,q⟩;obtain⟨a,m,rfl⟩:=gU hi;have b1:=mem_of_getElem? m;have a2:=hl a b1;refine⟨_,Z,_,Z,a,n,Z,hn,fun L hL=>?_⟩;have sL:=aK (o:=.lst (cC a n)) hL;have a1:L≠tk:=(aj M hL).symm;have c1:Qy n S a=(cells n a).any fun x=>decide (x∈ns):=by
   rw[Bool.eq_iff_iff];unfold Qy;rw[any_eq_true,any_eq_true];constructor
   ·rintro⟨b,y,r⟩;rw[Bool.and_eq_true,decide_eq_true_eq,qb]at r;obtain⟨h3,x,h4,h5⟩:=r;exact⟨x,h5,decide_eq_true ((hm x).mpr ⟨b,(lC hs m).mpr ⟨y,h3⟩,h4⟩)⟩
   ·rintro⟨x,hx,r⟩;obtain⟨b,y,h4⟩:=(hm x).mp (of_decide_eq_true r);obtain⟨b2,b3⟩:=(lC hs m).mp y;exact⟨b,b2,by rw[Bool.and_eq_true,decide_eq_true_eq,qb];exact⟨b3,x,h4,hx⟩⟩
  refine⟨_,Z,L,Z,⟨_,aT.of ae⟩,fun D hD=>?_⟩;refine gg (K:=K) (a:=L) (xs:=cC a n) (fun j H'=>H'=upd (upd H1 L (.lst (cC a n))) D (.lst (((cells n a).take j).map fun x=>V.bl (decide (x∈ns))))) Z (fun j H' _ e=>by rw[e];exact aT.of ((aK hD) _ _ ae)) ?_ ?_
  ·rintro j x H' X rfl;obtain⟨B,rfl⟩:=vk X;have z:(cells n a)[j]?=some (around a j):=by unfold cells;rw[getElem?_map,getElem?_range B];rfl
   have R:upd (upd H1 L (.lst (cC a n))) D (.lst (((cells n a).take j).map fun x=>V.bl (decide (x∈ns)))) tk=some (.dK kvs):=(aK hD) _ _ (sL _ _ M);refine⟨Z,sM ⟨_,Z,_,Z,tk,_,Z,dY.k (k:=kN (around a j)) R,_,ae,?_,?_⟩⟩
   ·rw[length_map,length_take,sizeLine_eq];omega
   ·rw[a9,take_snoc z,map_append,O.has];rfl
  ·rintro H' rfl;have U:(cC a n).length=(cells n a).length:=by rw[Gf,length_map]
   rw[U,take_length];have sD:=aK (o:=.lst ((cells n a).map fun x=>V.bl (decide (x∈ns)))) hD;have s2:=sL.trans sD;have eb:(((cells n a).map fun x=>decide (x∈ns)).any id)=Qy n S a:=by rw[c1,any_map];rfl
   refine⟨D,(cells n a).map fun x=>decide (x∈ns),Z,aT.of (by rw[ae,map_map];rfl),_,Z,?_⟩;rw[eb];refine gC (fun y=>⟨_,Z,?_⟩) (fun y=>?_)
   ·have:=k _ ((Kp.uI kp rC).trans s2);rw[show least (FO n S)=some a from qf hs hl m y q]at this;exact this
   ·have I:upd (upd H1 L (.lst (cC a n))) D (.lst ((cells n a).map fun x=>V.bl (decide (x∈ns)))) L=some (.lst (cC a n)):=sD _ _ ae;refine⟨_,Z,L,Z,⟨_,aT.of I⟩,?_⟩;refine cu (K:=K) (a:=L) (xs:=cC a n) (QJ H p tk L n a (S.take i)) ⟨⟨_,Z⟩,kp.trans (Kp.of s2),⟨kvs,ns,s2 _ _ M,O,c0,bL,fun x=>by rw[hm x,take_zero];simp⟩,I⟩ (fun j W H' _ ⟨_,_,_,e⟩=>aT.of e) ?_ ?_
    ·rintro j x W H2 X ⟨⟨w5,rfl⟩,F,⟨v,G,C,d,l,g,u⟩,J⟩;obtain⟨B,rfl⟩:=vk X;have z:(cells n a)[j]?=some (around a j):=by unfold cells;rw[getElem?_map,getElem?_range B];rfl
     have c4:=cq l g;have c3:=d.len;refine⟨_,Z,_,Z,tk,_,Z,vm.k (k:=kN (around a j)) C (by rw[sizeLine_eq];omega),⟨_,Z⟩,F.trans (Kp.upd (by simp)),⟨_,uk G (around a j),ae,d.L_ _ (.bl true),gD l,fun x hx=>?_,fun x=>?_⟩,by rw[aw a1];exact J⟩
     ·rcases j8.mp hx with h|h
      ·exact g x h
      ·rw[h];exact fA j a2
     ·rw[j8,u x,take_snoc z,mem_append,mem_singleton,or_assoc]
    ·rintro W H2 ⟨⟨w5,rfl⟩,F,⟨v,G,C,d,l,g,u⟩,J⟩;rw[U,take_length]at u;refine⟨⟨_,_,_,Z⟩,F,⟨v,G,C,d,l,g,fun x=>?_⟩,fun j b X e=>?_⟩
     ·rw[u x,take_snoc m];constructor
      ·rintro(⟨c,Y,r⟩|h)
       ·exact⟨c,mem_append.mpr (.inl Y),r⟩
       ·exact⟨a,mem_append.mpr (.inr (by simp)),h⟩
      ·rintro⟨c,Y,r⟩;rcases mem_append.mp Y with h|h
       ·exact .inl ⟨c,h,r⟩
       ·rw[mem_singleton]at h;subst h;exact .inr r
     ·by_cases b9:j=i
      ·subst b9;rw[m]at e;cases e;exact y
      ·exact q j b (by omega) e
 ·rintro W H1 ⟨⟨v3,v4,v5,rfl⟩,kp,_,q⟩;rw[length_map]at q;have:=k _ (Kp.uI kp rC);rw[show least (FO n S)=none from qg (AJ q)]at this;exact this
noncomputable def BI(B:List Nat)(q:Nat):List Nat:=B.filter fun b=>b/40==q
structure QD(H:Hp)(bb:Addr)(B:List Nat):Prop where
 ex:∃kvs,H bb=some (.dK kvs)∧kvs.length≤B.length∧(∀q,BI B q=[]→bH kvs (kN q)=none)∧(∀q,BI B q≠[]→∃l,bH kvs (kN q)=some (.ref l)∧H l=some (.lst ((BI B q).map aY)))∧
  ∀q q' l,bH kvs (kN q)=some (.ref l)→bH kvs (kN q')=some (.ref l)→q=q'
theorem qc(B:List Nat)(b q:Nat):BI (B++[b]) q=BI B q++if b/40=q then[b]else[]:=by unfold BI;rw[filter_append];congr 1;by_cases h:b/40=q<;>simp[h]
def Oi(H:Hp)(r b:Addr)(B:List Nat)(i:Nat)(d:L2.St)(H':Hp):Prop:=(∃c,d=[some (.ref r),some (.ref b),c,none])∧aI H H'∧QD H' b (B.take i)∧H b=none∧∀l a,H' b=some (.dK a)→(∃q,bH a (kN q)=some (.ref l))→H l=none
def Oj(H:Hp)(r a:Addr)(B C:List Nat)(i:Nat)(d:L2.St)(H':Hp):Prop:=(∃c,d=[some (.ref r),some (.ref a),c,none])∧aI H H'∧∀j b,j<i→C[j]?=some b→Jk B b=false
theorem j_(T:Top K mg t):Fn P w K mg base 1 "first_card_amid_band" ["reached"] (pF t.aE fun M=>least (md (bo M.seen.tables) (bo M.seen.cards))):=by
 refine T.kQ.bC (N:=["reached","by_band","start","other"]) (fun nd f _ A outer s H _ Q E hr h=>?_);obtain⟨r,M,rfl,⟨dx,d,o,b,c,s,h,e7,R⟩,wf,k⟩:=h;refine⟨_,(af (aH 1 nd g7)
  (af (bx PassesOwn.never Z (bK (ay (pv 0) Z)) (B9 (i:=2) nd Z (Or.inr Z)) (ah (bu (mG PySem.F.plainAttrs_list PySem.F.slot_list_append PySem.F.type_list_append fJ (Eb (pv 1) (aN gp (pv 2) (pk T.bw)) (a3 ai) ⟨Z,Z,Z,Z⟩) (aa (pv 2) ai)))))
  (af (bx PassesOwn.never Z (bK (ay (pv 0) Z)) (B9 (i:=2) nd Z (Or.inr Z)) (ah (aM (bJ (aF (Jv Z) Z T.MP boot_any (aa (jB Z nd (bK (xt (dO hr) (pv 1) (aN gp (pv 2) (pk T.bw)) (a3 ai) ⟨Z,Z,Z,Z⟩)) (b_ (own:=[("other",3)]) (by refine(show lZ ["reached","by_band","start","other"] (aL gv) _ _=true from ?_);decide +kernel)) (fun _ _ _ _ _=>(bI 3 nd)) (fun _ _ _ _ _=>eM) (fun _ _ _ _ _=>(d7 d6 (pv 3) (pv 2) (aB _)))) ai))) (ah (ak (pv 2))) aA)))
  (ah (ak a_))))),?_⟩
 intro bb W;have s0:=aK (o:=.dK []) W;have R0:=R.same s0;have e9:=qH M.seen.tables;have e1:=g8 M.seen.cards;have e0:∀x∈bo M.seen.cards,x<2000:=fun x hx=>(bf.mp hx).1;have Rb:=R.QR;have Rc:=R.C3;have z0:([]:List V).length≤sizeLine:=by rw[sizeLine_eq];exact Nat.zero_le _
 have k2:∀H',aI H H'→Q (optN (least (md (bo M.seen.tables) (bo M.seen.cards)))) H':=k;clear k;generalize bo M.seen.tables=B at*;generalize bo M.seen.cards=C at*;refine⟨_,Z,r,_,dx,_,_,Z,R0.ins,T.aS.cl,T.fb,Z,b,Z,⟨_,aT.of (s0 _ _ Rb)⟩,?_⟩;refine cu (K:=K) (a:=b) (xs:=B.map aY) (Oi H r bb B) ⟨⟨none,Z⟩,s0,⟨⟨[],ae,Nat.zero_le _,fun q _=>rfl,fun q h=>absurd (by rw[take_zero];rfl) h,fun q q' l h=>(nomatch h)⟩⟩,W,fun l e7 e ⟨q,h⟩=>by rw[ae]at e;cases e;cases h⟩ (fun i σ H' _ ⟨_,s,_⟩=>aT.of (s _ _ Rb)) ?_ ?_
 ·rintro i x σ H1 hi ⟨⟨v2,rfl⟩,s1,⟨g,S,e4,hN,hS,hI⟩,_,a2⟩;obtain⟨a,X,rfl⟩:=gU hi;have bL:=cn X;have U:((a:Nat):Int)/40=((a/40:Nat):Int):=by omega
  have tk:=take_snoc X;have e8:(B.take i).length≤i:=List.length_take_le _ _;refine⟨_,Z,bb,Z,.inl ⟨_,.inl S⟩,_,Z,_,_,Z,Z,⟨by decide,by decide⟩,z0,fun u I=>?_⟩;have sl:=aK (o:=.lst []) I;have c3:=sl _ _ S;have Y:u≠bb:=(aj S I).symm;refine⟨g,kN (a/40),c3,by rw[U];rfl,by rw[sizeLine_eq];omega,fun v e=>?_,fun e=>?_⟩
  ·
   have c4:BI (B.take i) (a/40)≠[]:=fun z=>by rw[hN _ z]at e;cases e
   obtain⟨l,hl,a1⟩:=hS _ c4;rw[hl]at e;cases e;have c0:=sl _ _ a1;have d3:l≠bb:=fun z=>by rw[z,S]at a1;cases a1
   have e5:H l=none:=a2 l g S ⟨_,hl⟩;refine⟨.inl ⟨Z,_,aT.of c0⟩,_,Z,l,_,_,Z,Z,c0,?_,⟨_,Z⟩,fun y w e=>?_,⟨⟨g,?_,?_,fun q n=>?_,fun q n=>?_,hI⟩⟩,W,fun l' d5 e'=>?_⟩
   ·rw[length_map,sizeLine_eq];have:(BI (B.take i) (a/40)).length≤(B.take i).length:=length_filter_le _ _;omega
   ·rw[aw (aj e e5)];exact sl _ _ (s1 _ _ e)
   ·rw[aw d3.symm];exact c3
   ·rw[tk,length_append];omega
   ·rw[tk,qc]at n;exact hN q (List.append_eq_nil_iff.mp n).1
   ·rw[tk,qc]at n ⊢;by_cases p:a/40=q
    ·subst p;refine⟨l,hl,?_⟩;rw[ae,if_pos Z,map_append];rfl
    ·rw[if_neg p,append_nil]at n ⊢;obtain⟨l2,J,m⟩:=hS q n;have:l2≠l:=fun z=>p (hI _ _ _ hl (by rw[← z];exact J));exact⟨l2,J,by rw[aw this];exact sl _ _ m⟩
   ·rw[aw d3.symm]at e';rw[c3]at e';cases e';exact a2 l' g S
  ·
   have e2:BI (B.take i) (a/40)=[]:=Classical.byContradiction fun z=>by obtain⟨l,hl,_⟩:=hS _ z;rw[hl]at e;cases e
   have d2:upd (upd H1 u (.lst [])) bb (.dK (putK g (kN (a/40)) (.ref u))) u=some (.lst []):=by rw[aw Y];exact ae
   have b9:H u=none:=s1.free I;have b2:=fun j=>My.m5 (v:=V.ref u) e j;refine⟨.inl ⟨Z,_,aT.of d2⟩,_,Z,u,_,_,Z,Z,d2,by rw[sizeLine_eq];exact(by decide:0<16777216),⟨_,Z⟩,fun y w e'=>?_,⟨⟨putK g (kN (a/40)) (.ref u),?_,?_,fun q n=>?_,fun q n=>?_,fun q q' l O G=>?_⟩⟩,W,fun l' d5 e'=>?_⟩
   ·rw[aw (aj e' b9),aw (aj e' W)];exact sl _ _ (s1 _ _ e')
   ·rw[aw Y.symm];exact ae
   ·rw[tk,length_append];have:=fF g (kN (a/40)) (.ref u);simp;omega
   ·rw[tk,qc]at n;obtain⟨O,G⟩:=List.append_eq_nil_iff.mp n;have p:¬a/40=q:=fun z=>by rw[if_pos z]at G;cases G
    rw[b2,if_neg (fun z=>p (oU z).symm)];exact hN q O
   ·rw[tk,qc]at n ⊢;by_cases p:a/40=q
    ·subst p;refine⟨u,by rw[b2,if_pos Z],?_⟩;rw[ae,e2,if_pos Z];rfl
    ·rw[if_neg p,append_nil]at n ⊢;obtain⟨l2,J,m⟩:=hS q n;have h3:l2≠u:=aj m I;have h4:l2≠bb:=fun z=>by rw[z,S]at m;cases m
     exact⟨l2,by rw[b2,if_neg (fun z=>p (oU z).symm)];exact J,by rw[aw h3,aw h4];exact sl _ _ m⟩
   ·have old:∀q,bH g (kN q)=some (.ref u)→False:=fun q n=>by
     have c4:BI (B.take i) q≠[]:=fun z=>by rw[hN _ z]at n;cases n
     obtain⟨l2,J,m⟩:=hS q c4;rw[n]at J;cases J;rw[I]at m;cases m
    rw[b2]at O G;by_cases L:kN q=kN (a/40)
    ·by_cases b3:kN q'=kN (a/40)
     ·exact oU (L.trans b3.symm)
     ·rw[if_pos L]at O;cases O;rw[if_neg b3]at G;exact(old q' G).elim
    ·rw[if_neg L]at O;by_cases b3:kN q'=kN (a/40)
     ·rw[if_pos b3]at G;cases G;exact(old q O).elim
     ·rw[if_neg b3]at G;exact hI q q' l O G
   ·rintro⟨q,n⟩;rw[aw Y.symm,ae]at e';cases e';rw[b2]at n;by_cases L:kN q=kN (a/40)
    ·rw[if_pos L]at n;cases n;exact b9
    ·rw[if_neg L]at n;exact a2 l' g S ⟨q,n⟩
 ·rintro σ H1 ⟨⟨v2,rfl⟩,s1,c9,_,_⟩;rw[length_map,take_length]at c9;obtain⟨g,S,e4,hN,hS,hI⟩:=c9.ex;have R1:=R.same s1;refine⟨_,Z,r,_,dx,_,_,Z,R1.ins,T.aS.cl,T.fc,Z,c,Z,⟨_,aT.of (s1 _ _ Rc)⟩,?_⟩;refine cu (K:=K) (a:=c) (xs:=C.map aY) (Oj H1 r bb B C) ⟨⟨_,Z⟩,aI.refl H1,fun _ _ S=>absurd S (Nat.not_lt_zero _)⟩ (fun i σ H' _ ⟨_,s,_⟩=>aT.of (s _ _ (s1 _ _ Rc))) ?_ ?_
  ·rintro i x σ H2 hi ⟨⟨w2,rfl⟩,s2,b1⟩;obtain⟨a,X,rfl⟩:=gU hi;have U:((a:Nat):Int)/40=((a/40:Nat):Int):=by omega
   have d1:=s2 _ _ S;refine⟨_,Z,bb,Z,.inl ⟨_,.inl d1⟩,_,Z,_,_,Z,Z,⟨by decide,by decide⟩,z0,fun u I=>?_⟩;have sl:=aK (o:=.lst []) I;have hg:dY (upd H2 u (.lst [])) bb (V.int (((a:Nat):Int)/40)) (bH g (kN (a/40))):=by rw[U];exact dY.k (k:=kN (a/40)) (sl _ _ d1)
   obtain⟨lq,e6,c1⟩:∃lq,(bH g (kN (a/40))).getD (.ref u)=.ref lq∧upd H2 u (.lst []) lq=some (.lst ((BI B (a/40)).map aY)):=by
    by_cases z:BI B (a/40)=[]
    ·exact⟨u,by rw[hN _ z];rfl,by rw[z];exact ae⟩
    ·obtain⟨l,hl,a1⟩:=hS _ z;exact⟨l,by rw[hl];rfl,sl _ _ (s2 _ _ a1)⟩
   refine⟨_,hg,lq,e6,⟨_,aT.of c1⟩,fun D hD=>?_⟩;refine gg (K:=K) (a:=lq) (xs:=(BI B (a/40)).map aY) (fun j H'=>H'=upd (upd H2 u (.lst [])) D (.lst (((BI B (a/40)).take j).map fun x=>V.bl (x != a)))) Z (fun j H' _ e=>by rw[e];exact aT.of ((aK hD) _ _ c1)) ?_ ?_
   ·rintro j x H' hj rfl;obtain⟨y,d0,rfl⟩:=gU hj;have bL:=cn d0;have f0:(BI B (a/40)).length≤B.length:=length_filter_le _ _;refine⟨Z,sM ⟨_,Z,_,Z,Z,_,ae,?_,?_⟩⟩
    ·rw[length_map,length_take,sizeLine_eq];omega
    ·rw[a9,take_snoc d0,map_append];have:(!decide (aY y=aY a))=(y != a):=by rw[Bool.eq_iff_iff];simp[aY];omega
     first
      |rw[this];rfl
      |(refine congrArg (fun z=>upd _ D (HO.lst (_++[z]))) ?_;exact congrArg V.bl this)
   ·rintro H' rfl;rw[length_map,take_length];have sD:=aK (o:=.lst ((BI B (a/40)).map fun x=>V.bl (x != a))) hD;have s3:=sl.trans sD;have eb:(((BI B (a/40)).map fun x=>x != a).any id)=Jk B a:=by
     rw[Bool.eq_iff_iff];unfold Jk BI Drum.band PLACES;rw[any_map,any_eq_true,any_eq_true];constructor
     ·rintro⟨y,hy,h3⟩;obtain⟨O,G⟩:=mem_filter.mp hy;have c2:y/40=a/40:=by simpa using G
      exact⟨y,O,by rw[Bool.and_eq_true];exact⟨by simpa using c2.symm,h3⟩⟩
     ·rintro⟨y,O,G⟩;rw[Bool.and_eq_true]at G;have c2:a/40=y/40:=by simpa using G.1
      exact⟨y,mem_filter.mpr ⟨O,by simpa using c2.symm⟩,G.2⟩
    refine⟨D,(BI B (a/40)).map fun x=>x != a,Z,aT.of (by rw[ae,map_map];rfl),_,Z,?_⟩;rw[eb];refine gC (fun hb=>⟨_,Z,?_⟩) (fun hb=>⟨⟨_,Z⟩,s2.trans s3,fun j y hj e=>?_⟩)
    ·have:=k2 _ (s1.trans (s2.trans s3));rw[show least (md B C)=some a from qf e1 e0 X hb b1]at this;exact this
    ·by_cases e3:j=i
     ·subst e3;rw[X]at e;cases e;exact hb
     ·exact b1 j y (by omega) e
  ·rintro σ H2 ⟨⟨w2,rfl⟩,s2,b1⟩;rw[length_map]at b1;have:=k2 _ (s1.trans s2);rw[show least (md B C)=none from qg (AJ b1)]at this;exact this
theorem NF:(([least l1,least l2,least l3].filterMap id=[])→least (l1++(l2++l3))=none)∧
  ∀m,m∈[least l1,least l2,least l3].filterMap id→(∀y,y∈[least l1,least l2,least l3].filterMap id→m≤y)→least (l1++(l2++l3))=some m:=by
 constructor
 ·intro h;rw[List.filterMap_eq_nil_iff]at h;have i:=cT (h (least l1) (by simp));have j:=cT (h (least l2) (by simp));have k:=cT (h (least l3) (by simp));refine DM.wB fun b d=>?_;rcases mem_append.mp d with h|h
  ·exact i b h
  ·rcases mem_append.mp h with h|h
   ·exact j b h
   ·exact k b h
 ·intro m hm f;obtain⟨o,g,e⟩:=mem_filterMap.mp hm;have c:∀l,least l∈[least l1,least l2,least l3]→∀b∈l,b<2000→m≤b:=fun l n b d bL=>by
   cases q:least l with
   |none=>exact absurd bL (cT q b d)
   |some z=>
    have:=f z (mem_filterMap.mpr ⟨_,n,q⟩);have:=(cU q).2.2 b d;omega
  have a:m<2000∧m∈l1++(l2++l3):=by
   simp only[mem_cons,not_mem_nil,or_false]at g;rcases g with rfl|rfl|rfl
   ·exact⟨(cU e).1,mem_append.mpr (.inl (cU e).2.1)⟩
   ·exact⟨(cU e).1,mem_append.mpr (.inr (mem_append.mpr (.inl (cU e).2.1)))⟩
   ·exact⟨(cU e).1,mem_append.mpr (.inr (mem_append.mpr (.inr (cU e).2.1)))⟩
  refine DM.wC a.1 a.2 fun b d=>?_;by_cases bL:b<2000
  ·rcases mem_append.mp d with h|h
   ·exact c l1 (by simp) b h bL
   ·rcases mem_append.mp h with h|h
    ·exact c l2 (by simp) b h bL
    ·exact c l3 (by simp) b h bL
  ·have:=a.1;omega
theorem wX(T:Top K mg t):Fn P w K mg base 4 "first_clash" ["reached"] (pF t.aE (rL clashes)):=by
 refine T.yt.bC (N:=["reached","found","address"]) (fun nd f _ A outer s H _ Q E L h=>?_);obtain⟨r,M,rfl,⟨C,d,o,b,c,s,h,kvs,R⟩,wf,k⟩:=h;refine⟨_,(af (aH 1 nd (a3 (aa (bq (ka T) L (aa (ay (pv 0) Z) (aa (pk T.bw) ai))) (aa (bq (ka T) L (aa (ay (pv 0) Z) (aa (pk T.b0) ai))) (aa (bq (j_ T) (L.mono (by decide)) (aa (pv 0) ai)) ai)))))
  (ah (ak (L5 Z Z T.Pb (jB Z nd (bK (pv 1)) (b_ (own:=[("address",2)]) (by refine(show lZ ["reached","found","address"] (aL n9) _ _=true from ?_);decide +kernel)) (fun _ _ _ _ _=>(bI 2 nd)) (fun _ _ _ _ _=>(Ca (az nz (pv 2) a_ (aB _)))) (fun _ _ _ _ _=>(pv 2))))))),?_⟩
 have F:∀x∈bo M.seen.tables,x<2000:=fun x O=>(bf.mp O).1;have G:∀x∈bo M.seen.cards,x<2000:=fun x O=>(bf.mp O).1;refine⟨_,Z,r,_,C,_,_,Z,R.ins,T.aS.cl,T.fb,Z,b,40,bo M.seen.tables,Z,R.QR,by decide,g8 _,F,fun H1 W=>?_⟩;have B:=R.same W;refine⟨_,Z,r,_,C,_,_,Z,B.ins,T.aS.cl,T.fc,Z,c,8,bo M.seen.cards,Z,B.C3,by decide,g8 _,G,fun _ X=>?_⟩;have R2:=B.same X;refine⟨_,Z,r,M,Z,⟨C,d,o,b,c,s,h,kvs,R2⟩,wf,fun H3 s3=>⟨by rw[sizeLine_eq];exact(by decide:3≤16777216),fun fl I=>?_⟩⟩;have u:=W.trans (X.trans s3);obtain⟨S,U⟩:=NF (l1:=FO 40 (bo M.seen.tables)) (l2:=FO 8 (bo M.seen.cards)) (l3:=md (bo M.seen.tables) (bo M.seen.cards));have V:∀H',aI H H'→Q (optN (least (FO 40 (bo M.seen.tables)++(FO 8 (bo M.seen.cards)++md (bo M.seen.tables) (bo M.seen.cards))))) H':=k;clear k;dsimp only;generalize least (FO 40 (bo M.seen.tables))=g at*;generalize least (FO 8 (bo M.seen.cards))=i at*;generalize least (md (bo M.seen.tables) (bo M.seen.cards))=l at*;have sf:=aK (o:=.lst [optN g,optN i,optN l]) I;refine⟨_,Z,fl,Z,⟨_,aT.of ae⟩,fun D hD=>gg (K:=K) (a:=fl) (xs:=[g,i,l].map optN) (fun j H'=>H'=upd (upd H3 fl (.lst [optN g,optN i,optN l])) D (.lst ((([g,i,l].take j).filterMap id).map aY))) Z (fun j H' _ e=>by rw[e];exact aT.of ((aK hD) _ _ ae)) ?_ ?_⟩
 ·rintro j x H' p rfl;rw[getElem?_map]at p;obtain⟨v,J,rfl⟩:∃v,[g,i,l][j]?=some v∧x=optN v:=by
   cases e:[g,i,l][j]? with
   |none=>rw[e]at p;cases p
   |some z=>rw[e]at p;cases p;exact⟨z,Z,Z⟩
  have tk:=take_snoc J;refine⟨Z,_,Z,Z,_,Z,?_⟩;cases v with
  |none=>
   refine cB ?_;rw[tk,List.filterMap_append];simp
  |some z=>
   refine cJ ⟨_,Z,_,ae,?_,?_⟩
   ·rw[length_map,sizeLine_eq];have h1:(([g,i,l].take j).filterMap id).length≤([g,i,l].take j).length:=List.length_filterMap_le _ _;have h2:([g,i,l].take j).length≤3:=by rw[length_take];exact Nat.min_le_right _ _
    omega
   ·rw[a9,tk,List.filterMap_append,map_append];rfl
 ·rintro H' rfl;have e3:(([g,i,l].map optN).length)=3:=rfl;rw[e3];have Y:=aK (o:=.lst (([g,i,l].filterMap id).map aY)) hD;refine⟨D,([g,i,l].filterMap id).map fun(n:Nat)=>(n:Int),Z,aT.of (by rw[ae,iP];rfl),fun h0=>?_,fun m hm q=>?_⟩
  ·have:=V _ (u.trans (sf.trans Y));rw[S (List.map_eq_nil_iff.mp h0)]at this;exact this
  ·obtain⟨z,hz,rfl⟩:=mem_map.mp hm;have:=V _ (u.trans (sf.trans Y));rw[U z hz (fun y hy=>by have:=q (y:Int) (mem_map.mpr ⟨y,hy,Z⟩);omega)]at this;exact this
def cV(n:Nat):Option V:=if n=0 then none else some (aY n)
structure O9(M:Machine)(kvs:List (Key×V)):Prop where
 ex:∃ns,KN kvs ns∧ns.Nodup∧∀y∈ns,y<2000
 val:∀y,bH kvs (kN y)=cV (jO M y)
theorem O9.has(h:O9 M kvs)(y:Nat):(bH kvs (kN y)).isSome=(jO M y != 0):=by
 rw[h.val];unfold cV;by_cases e:jO M y=0
 ·rw[if_pos e,e];rfl
 ·rw[if_neg e];simp[e]
theorem O9.perm(h:O9 M kvs):∃ns,KN kvs ns∧ns.Perm (aX M):=by obtain⟨ns,a,b,c⟩:=h.ex;refine⟨ns,a,(List.perm_ext_iff_of_nodup b (gT M)).mpr fun y=>?_⟩;have e:=a.has y;rw[h.has]at e;unfold aX;rw[mem_filter,List.mem_range,e,decide_eq_true_eq];exact⟨fun q=>⟨c y q,q⟩,fun q=>q.2⟩
inductive lP(C:Addr)(vs:List V)(H:Hp)(Q:VK)(E:XK):Prop
 |mk (r:Addr) (M:Machine) (h0_:vs=[.ref r]) (h1_:RcAt C H r M) (h2_:∀q H' kvs,aI H H'→H q=none→H' q=some (.dK kvs)→O9 M kvs→Q (.ref q) H'):lP C vs H Q E
def OG(H:Hp)(r sz:Addr)(M:Machine)(us:List Nat)(i:Nat)(c:L2.St)(H':Hp):Prop:=(∃b,c=[some (.ref r),some (.ref sz),b])∧Kp [sz] H H'∧∃a ns,H' sz=some (.dK a)∧KN a ns∧ns.Nodup∧(∀y∈ns,y<2000)∧∀y,bH a (kN y)=cV ((us.take i).filter fun x=>f9 M x==some y).length
theorem Mt{kvs:List (Key×V)}{ns:List Nat}(h:KN kvs ns)(nd:ns.Nodup){i:Nat}(e:kvs[i]?=some (k,v)):bH kvs k=some v:=by
 have a:(kvs.map (·.1)).Nodup:=by rw[show kvs.map (·.1)=ns.map kN from h,List.nodup_iff_pairwise_ne,List.pairwise_map];exact(List.nodup_iff_pairwise_ne.mp nd).imp fun b z=>b (oU z)
 clear h nd ns
 induction kvs generalizing i with
 |nil=>cases e
 |cons p r c=>
  rw[map_cons,nodup_cons]at a;cases i with
  |zero=>
   cases e;exact dh Z
  |succ i=>
   have hm:(k,v)∈r:=mem_of_getElem? e;rw[df (fun z=>a.1 (by rw[z];exact mem_map.mpr ⟨_,hm,Z⟩))];exact c e a.2
theorem hX(T:Top K mg t):Fn P w K mg base 1 "number_sizes" ["reached"] (lP t.aE):=by
 refine T.vQ.bC (N:=["reached","sizes","home"]) (fun nd f _ A outer s H _ Q E hr h=>?_);obtain⟨r,M,rfl,⟨dx,d,o,b,c,s,h,kvs,R⟩,k⟩:=h;refine⟨_,(af (aH 1 nd g7)
  (af (G0 (bx PassesOwn.never Z (Iq (ay (pv 0) Z)) (bI 2 nd) (ah (lh (dO hr) (pv 1) (pv 2) (aN cy (xt (dO hr) (pv 1) (pv 2) au ⟨Z,Z,Z,Z⟩) au) Z))))
  (ah (ak (pv 1))))),?_⟩
 intro sz F;have s0:=aK (o:=.dK []) F;have R0:=R.same s0;have C:h≠sz:=aj R.JN F;have W:r≠h:=dQ R.ins R.JN (fun q=>nomatch q);obtain⟨S,D,J,bL⟩:=R.hD.ex;have X:S.Perm M.seen.used:=(List.perm_ext_iff_of_nodup J (DM.yb M)).mpr fun x=>by have e:=D.has x;rw[GB R]at e;rw[← decide_eq_true_iff (p:=x∈S),← e,List.contains_iff_mem]
 refine⟨h,.dK kvs,R0.JN,trivial,fun O=>?_⟩;have fr:upd (upd H sz (.dK [])) h (.gB O (.dK kvs)) h=some (.gB O (.dK kvs)):=ae;have a1:upd (upd H sz (.dK [])) h (.gB O (.dK kvs)) sz=some (.dK []):=by rw[aw C.symm];exact ae
 refine⟨_,Z,r,_,dx,_,_,Z,by rw[aw W];exact R0.ins,T.aS.cl,T.dP,Z,h,O,kvs,Z,fr,?_⟩;refine JH (OG (upd (upd H sz (.dK [])) h (.gB O (.dK kvs))) r sz M S) ⟨⟨_,Z⟩,Kp.refl _ _,[],[],a1,Z,nodup_nil,nofun,fun y=>rfl⟩ (fun i σ H' ⟨_,kp,_⟩=>kp _ _ fr (by simp;exact C)) ?_ ?_
 ·rintro i kk v σ H1 hi ⟨⟨v2,rfl⟩,kp,B,I,m,g,l,j,G⟩;obtain⟨x,U,rfl⟩:=D.at_ hi;have a:=Mt D J hi;rw[R.hD.val]at a;obtain⟨y,n,rfl⟩:∃y,f9 M x=some y∧v=aY y:=by
   unfold f9;cases e:(fi M).find? (fun u=>u.1==x)with
   |none=>rw[e]at a;cases a
   |some u=>rw[e]at a;cases a;exact⟨u.2,Z,Z⟩
  have Y:y<2000:=by
   unfold f9 at n;cases e:(fi M).find? (fun u=>u.1==x)with
   |none=>rw[e]at n;cases n
   |some u=>rw[e]at n;cases n;exact(DM.zW (List.mem_of_find?_eq_some e)).2
  have tk:=take_snoc U;have a2:=g.len;have b1:=cq l j;have hg:((bH B (kN y)).getD (.int 0))=V.int ((((S.take i).filter fun x=>f9 M x==some y).length:Nat):Int):=by
   rw[G];unfold cV;split
   ·rename_i e;rw[e];rfl
   ·rfl
  refine⟨_,Z,sz,Z,.inl ⟨_,.inl m⟩,_,Z,_,dY.k (k:=kN y) m,_,_,hg,Z,_,Z,_,Z,sz,_,Z,vm.k (k:=kN y) m (by rw[sizeLine_eq];omega),⟨_,Z⟩,kp.trans (Kp.upd (by simp)),_,uk I y,ae,g.L_ _ _,gD l,fun z L=>?_,fun z=>?_⟩
  ·rcases j8.mp L with h|h
   ·exact j z h
   ·rw[h];exact Y
  ·rw[L2.m5,tk,filter_append];by_cases L:z=y
   ·subst L;rw[if_pos Z,filter_cons,n,if_pos (by simp),filter_nil,length_append];unfold cV;rw[if_neg (by simp)];rfl
   ·rw[if_neg (fun q=>L (oU q)),G z,filter_cons,n,if_neg (by simpa using fun q=>L q.symm),filter_nil,append_nil]
 ·rintro σ H1 ⟨⟨v2,rfl⟩,kp,B,I,m,g,l,j,G⟩;refine⟨kp _ _ fr (by simp;exact C),_,Z,k sz _ B (fun y w e=>?_) F (by rw[aw C.symm];exact m) ⟨⟨I,g,l,j⟩,fun y=>?_⟩⟩
  ·by_cases n:y=h
   ·subst n;rw[ae,← R.JN,e]
   ·rw[aw n];exact kp _ _ (by rw[aw n];exact s0 _ _ e) (by simp;exact aj e F)
  ·rw[G y,D.len,take_length];unfold jO;rw[(X.filter _).length_eq]
def F_(M:Machine):Option Nat:=if 400<M.seen.orders.length+(aX M).length then some 0 else none
theorem nR(T:Top K mg t):Fn P w K mg base 2 "zero_if_too_many" ["reached"] (pF t.aE F_):=by
 refine T.oR.bC (N:=["reached","total"]) (fun nd f _ A outer s H _ Q E p h=>?_);obtain⟨r,M,rfl,⟨l,d,o,b,c,s,h,kvs,R⟩,wf,k⟩:=h;refine⟨_,(af (aH 1 nd (aN cy (aF aO Z T.cX boot_len (aa (ay (pv 0) Z) ai)) (aF Hs Z T.cX boot_len (aa (bq (hX T) p (aa (pv 0) ai)) ai))))
  (ah (ak (dS (az mD (pv 1) (pk T.sP) (aB _)) au a_)))),?_⟩
 refine⟨_,Z,r,_,l,_,_,Z,R.ins,T.aS.cl,T.bF,Z,o,_,Z,.inl (aT.of R.ord),_,Z,r,M,Z,⟨l,d,o,b,c,s,h,kvs,R⟩,fun q H1 g u _ j m=>?_⟩;obtain⟨ns,i,n⟩:=m.perm;have v:g.length=(aX M).length:=by rw[i.len,n.length_eq]
 have e:=k H1 u;unfold F_ at e;refine⟨q,_,Z,j,_,_,Z,Z,_,Z,_,_,Z,Z,_,Z,cS (fun a=>?_) (fun a=>?_)⟩
 ·rw[if_pos (by rw[length_map]at a;omega)]at e;exact e
 ·rw[if_neg (by rw[length_map]at a;omega)]at e;exact e
def Hl:List (Machine→Option Nat):=[rL eO,rL dI,rL clashes,F_]
inductive Cj(C:Addr)(R:Machine→Option Nat)(vs:List V)(H:Hp)(Q:VK)(E:XK):Prop
 |mk (r:Addr) (M:Machine) (h0_:vs=[.ref r]) (h1_:RcAt C H r M) (h2_:Wf M) (h3_:∀v H',aI H H'→(v=.bV∧R M=none∨∃a,v=aY a∧R M=some a)→Q v H'):Cj C R vs H Q E
theorem Lq(h:Mz P w K mg base k f (pF C R)):Mz P w K mg base k f (Cj C R):=by
 obtain⟨b,ps,F,kp,i⟩:=h;refine⟨b,ps,F.imp fun _ H Q E q=>?_,kp,i⟩;obtain⟨r,M,e,c,d,g⟩:=q;refine⟨r,M,e,c,d,fun H' s=>g _ H' s ?_⟩;cases R M with
 |none=>exact .inl ⟨Z,Z⟩
 |some a=>exact .inr ⟨a,Z,Z⟩
theorem PB(T:Top K mg t){i:Nat}(h:(jX t)[i]?=some v):∃f R,v=.ref f∧Hl[i]?=some R∧Mz P w K mg base 4 f (Cj t.aE R):=by
 match i,h with
 |0,h=>cases h;exact⟨_,_,Z,Z,Lq ((uP T).val T.fT (by decide))⟩
 |1,h=>cases h;exact⟨_,_,Z,Z,Lq ((nL T).val T.dn (by decide))⟩
 |2,h=>cases h;exact⟨_,_,Z,Z,Lq ((wX T).val T.gO (by decide))⟩
 |3,h=>cases h;exact⟨_,_,Z,Z,Lq ((nR T).val T.dA (by decide))⟩
theorem HM(h:∀(j:Nat) (R:Machine→Option Nat),Hl[j]?=some R→R M=none):qa M=none:=by
 have b:least (eO M)=none:=h 0 _ Z;have c:least (dI M)=none:=h 1 _ Z;have d:least (clashes M)=none:=h 2 _ Z;have a:F_ M=none:=h 3 _ Z;unfold qa F_ at*;rw[b,c,d];dsimp only;by_cases q:400<M.seen.orders.length+(aX M).length
 ·rw[if_pos q]at a;cases a
 ·rw[if_neg q]
theorem Qt:Hl[0]?=some (rL eO):=rfl
theorem QF:Hl[1]?=some (rL dI):=rfl
theorem Rt:Hl[2]?=some (rL clashes):=rfl
theorem RT:Hl[3]?=some F_:=rfl
theorem HN{i a:Nat}(b:Hl[i]?=some R)(ha:R M=some a)(h:∀(j:Nat) (R:Machine→Option Nat),j<i→Hl[j]?=some R→R M=none):qa M=some (i+1,a):=by
 have k:i<4:=(List.getElem?_eq_some_iff.mp b).1;unfold qa;have c:i=0∨i=1∨i=2∨i=3:=by omega
 rcases c with c|c|c|c
 ·subst c;rw[Qt]at b;have e:=Option.some.inj b;subst e;have d:least (eO M)=some a:=ha;rw[d]
 ·subst c;rw[QF]at b;have e:=Option.some.inj b;subst e;have d:least (eO M)=none:=h 0 _ (by decide) Qt;have f:least (dI M)=some a:=ha;rw[d,f]
 ·subst c;rw[Rt]at b;have e:=Option.some.inj b;subst e;have d:least (eO M)=none:=h 0 _ (by decide) Qt;have f:least (dI M)=none:=h 1 _ (by decide) QF;have g:least (clashes M)=some a:=ha;rw[d,f,g]
 ·subst c;rw[RT]at b;have e:=Option.some.inj b;subst e;have d:least (eO M)=none:=h 0 _ (by decide) Qt;have f:least (dI M)=none:=h 1 _ (by decide) QF;have g:least (clashes M)=none:=h 2 _ (by decide) Rt;rw[d,f,g];unfold F_ at ha;dsimp only;split at ha
  ·rename_i q;cases ha;rw[if_pos q]
  ·cases ha
def Ou(M:Machine)(H:Hp)(v:V)(H':Hp):Prop:=(v=.bV∧qa M=none)∨∃T k a,v=.ref T∧H' T=some (.tup [aY k,aY a])∧H T=none∧qa M=some (k,a)
inductive qO(C:Addr)(vs:List V)(H:Hp)(Q:VK)(E:XK):Prop
 |mk (r:Addr) (M:Machine) (h0_:vs=[.ref r]) (h1_:RcAt C H r M) (h2_:Wf M) (h3_:∀v H',aI H H'→Ou M H v H'→Q v H'):qO C vs H Q E
def Ot(H:Hp)(r:Addr)(M:Machine)(i:Nat)(d:L2.St)(H':Hp):Prop:=(∃a b c,d=[some (.ref r),a,b,c])∧aI H H'∧∀(j:Nat) (R:Machine→Option Nat),j<i→Hl[j]?=some R→R M=none
theorem kZ(T:Top K mg t):Fn P w K mg base 5 "hindrance" ["reached"] (qO t.aE):=by
 refine T.Dj.bC (N:=["reached","kind","hindered_at","address"]) (fun nd f _ A outer s H _ Q E z h=>?_);obtain⟨r,M,rfl,R,wf,k⟩:=h;refine⟨_,(af (bx PassesOwn.never Z (Ai (k:=1) (by decide) Z T.bW (pk T.AV)) (eu Z (aU (bI 1 nd) (aU (bI 2 nd) cP))) (af (aH 3 nd (qC (pv 2) z (aa (pv 0) ai)))
  (ah (aM (az nz (pv 3) a_ (aB _)) (ah (ak (fk (aa (pv 1) (aa (pv 3) ai))))) aA))))
  (ah (ak a_))),?_⟩
 refine⟨_,_,Z,T.BK,zU (K:=K) (Ot H r M) ⟨⟨none,none,none,Z⟩,aI.refl H,fun _ _ y=>absurd y (Nat.not_lt_zero _)⟩ ?_ ?_⟩
 ·rintro i F H1 v T1 x u ⟨⟨C,v2,D,rfl⟩,s1,b⟩;obtain⟨f,G,rfl,p,hf⟩:=PB (P:=P) (w:=w) (base:=base) T x;have d:=s1.trans (aK (o:=.tup [.int ((i+1:Nat):Int),.ref f]) u);refine⟨T1,_,Z,h9.of ae,Z,_,_,Z,_,_,Z,Z,_,Z,f,_,Z,hf,_,Z,r,M,Z,R.same d,wf,fun v _ n B=>?_⟩;refine⟨_,Z,Z,_,Z,?_⟩;rcases B with⟨rfl,e⟩|⟨a,rfl,e⟩
  ·refine cB ⟨⟨_,_,_,Z⟩,d.trans n,fun j g _ l=>?_⟩;by_cases m:j=i
   ·subst m;rw[p]at l;cases l;exact e
   ·exact b j g (by omega) l
  ·refine cJ ⟨_,Z,_,Z,by rw[sizeLine_eq];exact(by decide:2≤16777216),fun q c=>k _ _ ((d.trans n).trans (aK c)) (.inr ⟨q,i+1,a,Z,ae,(d.trans n).free c,HN p e b⟩)⟩
 ·rintro F H1 ⟨⟨C,v2,D,rfl⟩,s1,b⟩;exact k _ _ s1 (.inl ⟨Z,HM fun j g e=>b j g (List.getElem?_eq_some_iff.mp e).1 e⟩)
theorem Jz{c:Char}(h:c∈Nat.toDigits 10 n):c.toNat<256:=by
 have:=Nat.isDigit_of_mem_toDigits (by decide) (by decide) h;unfold Char.isDigit at this;simp at this;have a:c.val.toNat≤57:=by have:=this.2;exact UInt32.le_iff_toNat_le.mp this
 show c.val.toNat<256;omega
theorem KF(n:Nat):(Nat.toDigits 10 n).map Char.toNat=lN (decimal n):=by unfold lN decimal;rw[map_map];refine map_congr_left fun c a=>?_;have:=Jz a;show c.toNat=(UInt8.ofNat c.toNat).toNat;rw[UInt8.toNat_ofNat'];omega
theorem vj(n:Nat):Str.ofString (toString ((n:Nat):Int))=sB (decimal n):=by refine xG ?_;rw[uf,← KF];show(n.repr).toList.map Char.toNat=_;rw[Nat.repr_eq_ofList_toDigits,String.toList_ofList]
theorem str_int(v:Int):Str.ofString (toString v)=sB (writing v):=by
 cases v with
 |ofNat n=>
  have e:writing (Int.ofNat n)=decimal n:=by unfold writing;rw[if_neg (show¬(Int.ofNat n<0)from Int.not_lt.mpr (Int.natCast_nonneg n))];rfl
  rw[e];exact vj n
 |negSucc n=>
  have e:writing (Int.negSucc n)=45::decimal (n+1):=by unfold writing;rw[if_pos (Int.negSucc_lt_zero n)];rfl
  rw[e];refine xG ?_;rw[uf];show("-"++(n+1).repr).toList.map Char.toNat=_;rw[String.toList_append,map_append,Nat.repr_eq_ofList_toDigits,show(String.ofList (Nat.toDigits 10 (n+1))).toList=Nat.toDigits 10 (n+1)from String.toList_ofList,KF];rfl
theorem u7{n k:Nat}(a:0<k)(h:n<10^k):(decimal n).length≤k:=by unfold decimal;rw[length_map];exact(Nat.length_toDigits_le_iff (by decide) a).mpr h
theorem BM{v:Int}(h:v.natAbs<10^10):v.natAbs.log2<1920:=by
 by_cases a:v.natAbs=0
 ·rw[a];decide
 ·have b:v.natAbs<2^34:=by omega
  have c:=(Nat.log2_lt a).mpr b;omega
theorem m8{v:Int}(h:v.natAbs<10^10):(writing v).length≤11:=by unfold writing;have:=u7 (k:=10) (by decide) h;rw[length_append];split<;>simp<;>omega
theorem uh(n:Nat):writing (n:Int)=decimal n:=by unfold writing;rw[if_neg (by omega)];rfl
inductive qP(vs:List V)(H:Hp)(Q:VK)(E:XK):Prop
 |mk (a:Nat) (h0_:vs=[.int (a:Nat)]) (h1_:a<10000) (h2_:Q (bg (addressName a)) H):qP vs H Q E
theorem iR(h:a<10000):(addressName a).length≤5:=by have:=u7 (n:=a) (k:=4) (by decide) h;show(decimal a).length+1≤5;omega
theorem gk(T:Top K mg t):Fn P w K mg base 1 "item_name" ["address"] (qP):=by
 refine T.Dl.bC (N:=["address"]) (fun nd f _ A outer s H _ Q E _ h=>?_);obtain⟨a,rfl,ha,k⟩:=h;refine⟨_,(ah (ak (aN iW aZ (eL iu Z T.Gq boot_str (aa (pv 0) ai))))),?_⟩;have hd:=u7 (n:=a) (k:=4) (by decide) ha;refine⟨_,Z,_,Z,BM (by omega),?_⟩;rw[vj];refine⟨_,_,Z,Z,?_,?_⟩
 ·rw[cg,sizeLine_eq];show 1+_≤_;omega
 ·rw[show Str.ofString "a"=sB [97]from Z,xF];exact k
noncomputable def DA:List Bytes→Bytes
 |[]=>[]
 |x::l=>x++l.flatMap fun y=>32::y
theorem wu(l:List Bytes):Txt.join (sB [32]) (l.map sB)=sB (DA l):=by
 refine xG ?_;rw[join_eq,Cu]
 induction l with
 |nil=>rfl
 |cons x r a=>
  cases r with
  |nil=>show lN x=lN (x++[]);rw[append_nil]
  |cons y r=>
   show lN x++(lN [32]++wo (tl (sB [32])) (((y::r).map sB).map tl))=_;rw[a];show _=lN (x++(32::y++r.flatMap fun y=>32::y));rw[← rH,← rH];rfl
noncomputable def CA(M:Machine)(o:Order):List Bytes:=if sortOf o.code=0 then[]else if sortOf o.code=1 then[addressName (M.seen.blockOf o.d).1++if M.seen.indexOf o.d=0 then[]else 43::writing (M.seen.indexOf o.d:Nat)]else if sortOf o.code=2 then[addressName o.d]else[writing (o.d:Nat)]
theorem i9(c:Nat):sortOf c=0∨sortOf c=1∨sortOf c=2∨sortOf c=3:=by
 unfold sortOf;split
 ·exact .inr (.inl Z)
 ·split
  ·exact .inr (.inr (.inl Z))
  ·split
   ·exact .inr (.inr (.inr Z))
   ·exact .inl Z
theorem Ez:yi c="none"↔sortOf c=0:=by unfold yi;rcases i9 c with h|h|h|h<;>rw[h]<;>decide
theorem As:yi c="shift"↔sortOf c=3:=by unfold yi;rcases i9 c with h|h|h|h<;>rw[h]<;>decide
theorem Ey:yi c="jump"↔sortOf c=2:=by unfold yi;rcases i9 c with h|h|h|h<;>rw[h]<;>decide
theorem Az{M:Machine}{o:Order}(ha:a∈M.seen.orders)(c:M.orderAt a=some o)(b:sortOf o.code=1):o.d∈M.seen.used:=by
 have e:(10≤o.code∧o.code≤32)∨o.code=60∨o.code=70∨o.code=71:=by
  unfold sortOf at b;split at b
  ·assumption
  ·split at b
   ·cases b
   ·split at b<;>cases b
 rw[DM.qj,DM.nv,DM.tE,DM.xJ];rcases e with h|h|h|h
 ·exact .inr (.inr (c6.mpr ⟨a,o,ha,c,by unfold gb;exact decide_eq_true h,Z⟩))
 ·exact .inl ⟨o.d,c6.mpr ⟨a,o,ha,c,by simp[h],Z⟩,cW (by decide)⟩
 ·exact .inr (.inl ⟨o.d,c6.mpr ⟨a,o,ha,c,by simp[h],Z⟩,cW (by decide)⟩)
 ·exact .inr (.inl ⟨o.d,c6.mpr ⟨a,o,ha,c,by simp[h],Z⟩,cW (by decide)⟩)
theorem PD{M:Machine}(R:Od C H r f d o b c s h M kvs)(cl:Clean M)(a:x∈M.seen.used):bH kvs (kN x)=some (aY (M.seen.blockOf x).1):=by
 have e:=DM.nj cl a;unfold f9 at e;rw[R.hD.val];cases q:(fi M).find? (fun u=>u.1==x)with
 |none=>rw[q]at e;cases e
 |some u=>rw[q]at e;rw[← Option.some.inj e];rfl
theorem JP(M:Machine)(x:Nat):M.seen.indexOf x<40:=by unfold Drum.Seen.indexOf PLACES;omega
theorem idx_int(M:Machine)(x:Nat):((x:Nat):Int)-(((M.seen.blockOf x).1:Nat):Int)=((x:Nat):Int)-(((M.seen.blockOf x).1:Nat):Int)∧(((x:Nat):Int)-(((M.seen.blockOf x).1:Nat):Int)) % 40=((M.seen.indexOf x:Nat):Int):=by refine⟨Z,?_⟩;unfold Drum.Seen.indexOf PLACES;omega
theorem GP{M:Machine}(ha:a∈M.seen.orders)(c:M.orderAt a=some o)(cl:Clean M):(CA M o).length≤1∧∀x∈CA M o,x.length≤20:=by
 obtain⟨h,rfl⟩:=cO c;have hd:(orderOf (M.at_ a)).d<10000:=Nat.mod_lt _ (by decide);unfold CA;split
 ·exact⟨Nat.zero_le _,nofun⟩
 ·split
  ·rename_i h0 e
   refine⟨Nat.le_refl _,fun x b=>?_⟩;rw[mem_singleton]at b;subst b;have g:=Az ha c e;obtain⟨_,f,_⟩:=va cl g (eQ M _);have:=iR (a:=(M.seen.blockOf (orderOf (M.at_ a)).d).1) (by have:=nG f;omega);have i:=JP M (orderOf (M.at_ a)).d;rw[length_append];split
   ·simp;omega
   ·have:=m8 (v:=((M.seen.indexOf (orderOf (M.at_ a)).d:Nat):Int)) (by omega);rw[length_cons];omega
  ·split
   ·refine⟨Nat.le_refl _,fun x b=>?_⟩;rw[mem_singleton]at b;subst b;have:=iR hd;omega
   ·refine⟨Nat.le_refl _,fun x b=>?_⟩;rw[mem_singleton]at b;subst b;have:=m8 (v:=(((orderOf (M.at_ a)).d:Nat):Int)) (by omega);omega
inductive ku(C:Addr)(vs:List V)(H:Hp)(Q:VK)(E:XK):Prop
 |mk (r:Addr) (M:Machine) (a:Nat) (o:Order) (h0_:vs=[.ref r,.int (M.at_ a)]) (h1_:RcAt C H r M) (h2_:Clean M) (h3_:a∈M.seen.orders) (h4_:M.orderAt a=some o) (h5_:∀p H',aI H H'→H p=none→H' p=some (.lst ((CA M o).map bg))→Q (.ref p) H'):ku C vs H Q E
theorem rY(T:Top K mg t):Fn P w K mg base 2 "operand_parts" ["reached","word"] (ku t.aE):=by
 refine T.uA.bC (N:=["reached","word","sort","data","home","name","which"]) (fun nd f _ A outer s H _ Q E j h=>?_);obtain⟨r,M,a,od,rfl,⟨G,d,o,b,c,s,h,kvs,R⟩,cl,ha,D,k⟩:=h;refine⟨_,(af (aH 2 nd (bq (dU T) j (aa (bq (dF T) j (aa (pv 1) ai)) ai)))
  (af (aH 3 nd (bq (gF T) j (aa (pv 1) ai)))
  (af (aM (az bN (pv 2) aZ (aB _)) (ah (ak (a3 ai))) aA)
  (af (aM (az bN (pv 2) aZ (aB _)) (ah (ak (a3 (aa (eL iu Z T.Gq boot_str (aa (pv 3) ai)) ai)))) aA)
  (af (aM (az bN (pv 2) aZ (aB _)) (ah (ak (a3 (aa (bq (gk T) j (aa (pv 3) ai)) ai)))) aA)
  (af (aH 4 nd (lg (dO j) (ay (pv 0) Z) (pv 3) (fun _ _=>rfl)))
  (af (aH 5 nd (bq (gk T) j (aa (pv 4) ai)))
  (af (aH 6 nd (aN gG (aN iY (pv 3) (pv 4)) (pk T.bw)))
  (ah (ak (dS (az bN (pv 6) au (aB _)) (a3 (aa (pv 5) ai)) (a3 (aa (aN iW (aN iW (pv 5) aZ) (eL iu Z T.Gq boot_str (aa (pv 6) ai))) ai))))))))))))),?_⟩
 obtain⟨W,rfl⟩:=cO D;obtain⟨L,u,_⟩:=dC W;obtain⟨I,J,e3⟩:=gH L;have hd:(orderOf (M.at_ a)).d<10000:=Nat.mod_lt _ (by decide);have one:(1:Nat)≤sizeLine:=by rw[sizeLine_eq];decide
 refine⟨_,Z,M.at_ a,Z,(orderOf (M.at_ a)).code,by rw[I],u,?_⟩;refine⟨_,Z,M.at_ a,Z,?_⟩;rw[J];refine⟨_,Z,Z,_,Z,fE (fun m=>?_) (fun v=>?_)⟩
 ·have e:CA M (orderOf (M.at_ a))=[]:=by unfold CA;rw[if_pos (Ez.mp m)]
  refine⟨by rw[sizeLine_eq];exact Nat.zero_le _,fun p g=>k p _ (aK g) g ?_⟩;rw[ae,e];rfl
 ·have i:¬sortOf (orderOf (M.at_ a)).code=0:=fun z=>v (Ez.mpr z);refine⟨_,Z,Z,_,Z,fE (fun m=>?_) (fun x=>?_)⟩
  ·have h3:=As.mp m;have e:CA M (orderOf (M.at_ a))=[decimal (orderOf (M.at_ a)).d]:=by unfold CA;rw[if_neg i,if_neg (by omega),if_neg (by omega),uh]
   refine⟨_,Z,_,Z,BM (by omega),one,fun p g=>k p _ (aK g) g ?_⟩;rw[ae,e,vj];rfl
  ·refine⟨_,Z,Z,_,Z,fE (fun m=>?_) (fun y=>?_)⟩
   ·have O:=Ey.mp m;have e:CA M (orderOf (M.at_ a))=[addressName (orderOf (M.at_ a)).d]:=by unfold CA;rw[if_neg i,if_neg (by omega),if_pos O]
    refine⟨_,Z,(orderOf (M.at_ a)).d,Z,hd,one,fun p g=>k p _ (aK g) g ?_⟩;rw[ae,e];rfl
   ·have C:sortOf (orderOf (M.at_ a)).code=1:=by
     rcases i9 (orderOf (M.at_ a)).code with z|z|z|z
     ·exact absurd z i
     ·exact z
     ·exact absurd (Ey.mpr z) y
     ·exact absurd (As.mpr z) x
    have F:=Az ha D C;have hv:=PD R cl F;obtain⟨_,B,_⟩:=va cl F (eQ M _);have S:=nG B;have Y:=iR (a:=(M.seen.blockOf (orderOf (M.at_ a)).d).1) (by omega);have hi:=JP M (orderOf (M.at_ a)).d;have q:=(idx_int M (orderOf (M.at_ a)).d).2;have l:CA M (orderOf (M.at_ a))=[addressName (M.seen.blockOf (orderOf (M.at_ a)).d).1++if M.seen.indexOf (orderOf (M.at_ a)).d=0 then[]else 43::writing (M.seen.indexOf (orderOf (M.at_ a)).d:Nat)]:=by unfold CA;rw[if_neg i,if_pos C]
    have X:dY H h (V.int (((orderOf (M.at_ a)).d:Nat):Int)) (some (aY (M.seen.blockOf (orderOf (M.at_ a)).d).1)):=by rw[← hv];exact dY.k (k:=kN (orderOf (M.at_ a)).d) R.JN
    refine⟨_,Z,r,_,G,_,_,Z,R.ins,T.aS.cl,T.dP,Z,_,Z,h,_,Z,X,?_⟩;refine⟨_,Z,(M.seen.blockOf (orderOf (M.at_ a)).d).1,Z,by omega,?_⟩;refine⟨_,Z,_,Z,_,_,Z,Z,_,_,Z,Z,(by decide:(0:Int)<40),?_⟩;dsimp only;rw[q];refine⟨_,Z,Z,_,Z,gx (fun hz=>?_) (fun hz=>?_)⟩
    ·refine⟨_,Z,one,fun p g=>k p _ (aK g) g ?_⟩;rw[ae,l,if_pos (by omega),append_nil];rfl
    ·have U:=u7 (n:=M.seen.indexOf (orderOf (M.at_ a)).d) (k:=2) (by decide) (by omega);refine⟨_,Z,_,_,Z,Z,?_,_,Z,_,Z,BM (by omega),?_⟩
     ·rw[cg,sizeLine_eq];show _+1≤_;omega
     ·rw[vj,show Str.ofString "+"=sB [43]from Z,xF];refine⟨_,_,Z,Z,?_,one,fun p g=>k p _ (aK g) g ?_⟩
      ·rw[cg,cg,sizeLine_eq,length_append];show _+1+_≤_;omega
      ·rw[ae,l,if_neg (by omega),xF,uh,append_assoc];rfl
theorem F6{k:Nat}:∀{l:List Bytes},(∀x∈l,x.length≤k)→((l.map sB).map (·.length)).sum≤k*l.length
 |[],_=>by simp
 |x::r,h=>by have c:=F6 (l:=r) fun y a=>h y (mem_cons_of_mem _ a);have b:=h x (mem_cons_self ..);rw[map_cons,map_cons,sum_cons,cg,length_cons,Nat.mul_add];omega
def gu(M:Machine)(a:Nat):List Bytes:=[addressName a++[58],nameOf (orderOf (M.at_ a)).code]++CA M (orderOf (M.at_ a))++if(orderOf (M.at_ a)).code=0 then[]else[[45,62],addressName (orderOf (M.at_ a)).n]
def Kf(M:Machine)(a:Nat):Bytes:=DA (gu M a)
theorem Ig(h:known c=true):(nameOf c).length=3:=by rcases bX h with h|h|h|h|h|h|h|h|h|h|h|h|h|h|h|h|h|h|h|h|h|h|h|h|h|h<;>subst h<;>rfl
theorem qz{M:Machine}(ha:a∈M.seen.orders)(d:M.orderAt a=some o)(cl:Clean M):(gu M a).length≤5∧∀x∈gu M a,x.length≤20:=by
 obtain⟨i,e⟩:=GP ha d cl;obtain⟨g,rfl⟩:=cO d;obtain⟨h,c,_⟩:=dC g;have f:=eK ha;have hn:(orderOf (M.at_ a)).n<10000:=Nat.mod_lt _ (by decide);have j:=iR (a:=a) (by omega);have k:=iR hn;have l:=Ig c;unfold gu;refine⟨?_,fun x b=>?_⟩
 ·rw[length_append,length_append];split<;>simp<;>omega
 ·rcases mem_append.mp b with b|b
  ·rcases mem_append.mp b with b|b
   ·simp only[mem_cons,not_mem_nil,or_false]at b;rcases b with rfl|rfl
    ·rw[length_append];simp;omega
    ·omega
   ·exact e x b
  ·split at b
   ·cases b
   ·simp only[mem_cons,not_mem_nil,or_false]at b;rcases b with rfl|rfl
    ·decide
    ·omega
theorem Kd(M:Machine)(o:Order):(CA M o).flatMap (fun y=>32::y)=Drum.operandText (if sortOf o.code=1 then .word (addressName (M.seen.blockOf o.d).1) (M.seen.indexOf o.d)else if sortOf o.code=2 then .to (addressName o.d)else if sortOf o.code=3 then .times o.d else .none):=by
 unfold CA;rcases i9 o.code with h|h|h|h<;>rw[h]
 ·rfl
 ·show(32::(addressName (M.seen.blockOf o.d).1++_))++[]=_;rw[append_nil];rfl
 ·show(32::addressName o.d)++[]=_;rw[append_nil];rfl
 ·show(32::writing _)++[]=_;rw[append_nil];rfl
theorem Kh{M:Machine}(ha:a∈M.seen.orders):(DM.itemOf M a).text=Kf M a++[10]:=by
 unfold DM.itemOf;rw[if_pos ha];unfold Kf gu Drum.Seen.orderItem Item.text;dsimp only;rw[← Kd];by_cases b:(orderOf (M.at_ a)).code=0
 ·rw[if_pos b,if_pos b,append_nil];show _=(addressName a++[58])++((32::nameOf _)++(CA M _).flatMap fun y=>32::y)++[10];simp
 ·rw[if_neg b,if_neg b];show _=(addressName a++[58])++((32::nameOf _)++((CA M _++[[45,62],addressName _]).flatMap fun y=>32::y))++[10];rw[flatMap_append];simp
def lD(M:Machine)(a n:Nat):List Int:=(range n).map fun k=>M.at_ (around a k)
noncomputable def iS(M:Machine)(a n:Nat):List Bytes:=[addressName a,[61]]++(lD M a n).map writing
def J9(M:Machine)(a n:Nat):Bytes:=DA (iS M a n)
theorem J_{M:Machine}(ha:a∉M.seen.orders):(DM.itemOf M a).text=J9 M a (M.seen.blockOf a).2++[10]:=by unfold DM.itemOf;rw[if_neg ha];unfold J9 iS Item.text lD;dsimp only;show _=addressName a++((32::[61])++(map writing _).flatMap fun y=>32::y)++[10];rw[List.flatMap_map];simp;rw[List.flatMap_map];rfl
theorem qp(wf:Wf M)(ha:a<2000)(hn:n≤40):(iS M a n).length≤42∧∀x∈iS M a n,x.length≤20:=by
 have d:=iR (a:=a) (by omega);unfold iS lD;refine⟨by rw[length_append,length_map,length_map,length_range];simp;omega,fun x b=>?_⟩;rcases mem_append.mp b with b|b
 ·simp only[mem_cons,not_mem_nil,or_false]at b;rcases b with rfl|rfl
  ·omega
  ·decide
 ·obtain⟨v,c,rfl⟩:=mem_map.mp b;obtain⟨k,_,rfl⟩:=mem_map.mp c;have:=m8 (v:=M.at_ (around a k)) (by have:=kD (wf.at_ (around a k));omega);omega
theorem z6{l:List Bytes}{k:Nat}(h:∀x∈l,x.length≤k):(DA l).length≤(k+1)*l.length:=by
 have f:∀{l:List Bytes},(∀x∈l,x.length≤k)→(l.flatMap fun y=>32::y).length≤(k+1)*l.length:=by
  intro l
  induction l with
  |nil=>intro _;simp
  |cons x r d=>
   intro h;have b:=d fun y a=>h y (mem_cons_of_mem _ a);have c:=h x (mem_cons_self ..);rw[flatMap_cons,length_append,length_cons,length_cons,Nat.mul_add];omega
 cases l with
 |nil=>simp[DA]
 |cons x r=>
  show(x++r.flatMap fun y=>32::y).length≤_;have b:=f (l:=r) fun y a=>h y (mem_cons_of_mem _ a);have c:=h x (mem_cons_self ..);rw[length_append,length_cons,Nat.mul_add];omega
theorem GH{l:List Bytes}(b:l.length≤50)(a:∀x∈l,x.length≤20):((l.map sB).map (·.length)).sum+(l.map sB).length*(sB [32]).length≤16777216:=by have:=F6 a;rw[length_map,cg];show _+l.length*1≤_;omega
inductive oz(C:Addr)(vs:List V)(H:Hp)(Q:VK)(E:XK):Prop
 |mk (r:Addr) (M:Machine) (a:Nat) (h0_:vs=[.ref r,.int (a:Nat)]) (h1_:RcAt C H r M) (h2_:Wf M) (h3_:Clean M) (h4_:a∈M.seen.orders) (h5_:∀H',aI H H'→Q (bg (Kf M a)) H'):oz C vs H Q E
theorem yX(T:Top K mg t):Fn P w K mg base 3 "order_line" ["reached","address"] (oz t.aE):=by
 refine T.Bw.bC (N:=["reached","address","word","code","parts"]) (fun nd f _ A outer s H _ Q E i h=>?_);obtain⟨r,M,a,rfl,⟨I,d,o,b,c,s,h,kvs,R⟩,wf,cl,ha,k⟩:=h;refine⟨_,(af (aH 2 nd (bB a4 (ay (pv 0) Z) (pv 1) (fun _ _=>rfl)))
  (af (aH 3 nd (bq (dF T) (i.mono (by decide)) (aa (pv 2) ai)))
  (af (aH 4 nd (aN k9 (a3 (aa (aN iW (bq (gk T) (i.mono (by decide)) (aa (pv 1) ai)) aZ) (aa (bq (yV T) (i.mono (by decide)) (aa (pv 3) ai)) ai))) (bq (rY T) i (aa (pv 0) (aa (pv 2) ai)))))
  (af (aM (az d6 (pv 3) (pk T.vv) (aB _)) (ah (bu (mG PySem.F.plainAttrs_list PySem.F.slot_list_extend PySem.F.type_list_extend rQ (pv 4) (aa (a3 (aa aZ (aa (bq (gk T) (i.mono (by decide)) (aa (bq (dR T) (i.mono (by decide)) (aa (pv 2) ai)) ai)) ai))) ai)))) aA)
  (ah (ak (vf aZ (pv 4)))))))),?_⟩
 obtain⟨od,m⟩:=cl.good a ha;obtain⟨b1,B⟩:=qz ha m cl;obtain⟨a1,a2⟩:=GP ha m cl;obtain⟨hf,rfl⟩:=cO m;obtain⟨W,x,_⟩:=dC hf;obtain⟨S,e2,U⟩:=gH W;have v:=eK ha;have hn:(orderOf (M.at_ a)).n<10000:=Nat.mod_lt _ (by decide);have l1:=iR (a:=a) (by omega);have two:(2:Nat)≤sizeLine:=by rw[sizeLine_eq];decide
 refine⟨_,Z,r,_,I,_,_,Z,R.ins,T.aS.cl,T.gh,Z,_,Z,d,_,_,_,Z,Z,aT.of R.drum,j5 wf v,?_⟩;refine⟨_,Z,M.at_ a,Z,?_⟩;rw[S];refine⟨_,Z,a,Z,by omega,_,_,Z,Z,?_,?_⟩
 ·rw[cg,sizeLine_eq];show _+1≤_;omega
 refine⟨_,Z,(orderOf (M.at_ a)).code,Z,x,two,fun p1 X=>?_⟩;rw[show Str.ofString ":"=sB [58]from Z,xF];have D:=aK (o:=.lst [V.str (sB (addressName a++[58])),V.str (sB (nameOf (orderOf (M.at_ a)).code))]) X;refine⟨_,Z,_,Z,r,M,a,_,Z,⟨I,d,o,b,c,s,h,kvs,R.same D⟩,cl,ha,m,fun p2 _ G _ z=>?_⟩;refine⟨p1,p2,_,_,Z,Z,G _ _ ae,z,by rw[length_map,sizeLine_eq];show 2+_≤_;omega,fun l J=>?_⟩;have L:=(D.trans G).trans (aK (o:=.lst ([V.str (sB (addressName a++[58])),V.str (sB (nameOf (orderOf (M.at_ a)).code))]++(CA M (orderOf (M.at_ a))).map bg)) J);have C:=D.trans G;have q:H l=none:=C.free J;dsimp only[eR];refine gY fun O Y=>?_;have g:∀j,aI H j→j l=some (.lst ((gu M a).map bg))→O [some (.ref r),some (.int (a:Nat)),some (.int (M.at_ a)),some (.int ((orderOf (M.at_ a)).code:Nat)),some (.ref l)] j:=by
  intro j p u;rw[Y];refine⟨⟨_,Z⟩,_,Z,_,l,(gu M a).map sB,Z,Z,.inl (aT.of (by rw[u,map_map];rfl)),?_,?_⟩
  ·exact GH (by omega) B
  ·rw[show Str.ofString " "=sB [32]from Z,wu];exact k j p
 refine⟨_,Z,Z,_,Z,iO (fun hc=>?_) (fun hc=>?_)⟩
 ·refine⟨_,Z,.inl ⟨Z,_,aT.of ae⟩,_,Z,M.at_ a,Z,(orderOf (M.at_ a)).n,by rw[U],hn,two,fun p4 u=>?_⟩;have p:=aK (o:=.lst [V.str (Str.ofString "->"),bg (addressName (orderOf (M.at_ a)).n)]) u;refine⟨l,p4,_,_,Z,Z,p _ _ ae,ae,?_,g _ (fun y w e=>?_) ?_⟩
  ·rw[length_append,length_map,sizeLine_eq];show 2+_+2≤_;omega
  ·rw[aw (aj e q)];exact p _ _ (L _ _ e)
  ·rw[ae];unfold gu;rw[if_neg (by omega),map_append,map_append];rfl
 ·refine g _ L ?_;rw[ae];unfold gu;rw[if_pos (by omega),append_nil,map_append];rfl
inductive lQ(C:Addr)(vs:List V)(H:Hp)(Q:VK)(E:XK):Prop
 |mk (r:Addr) (M:Machine) (a n:Nat) (h0_:vs=[.ref r,.int (a:Nat),.int (n:Nat)]) (h1_:RcAt C H r M) (h2_:Wf M) (h3_:a<2000) (h4_:n≤40) (h5_:∀H',aI H H'→Q (bg (J9 M a n)) H'):lQ C vs H Q E
theorem uU(T:Top K mg t):Fn P w K mg base 3 "numbers_line" ["reached","address","size"] (lQ t.aE):=by
 refine T.vR.bC (N:=["reached","address","size","words","each"]) (fun nd f _ A outer s H _ Q E z h=>?_);obtain⟨r,M,a,n,rfl,⟨C,d,o,b,c,s,h,kvs,R⟩,wf,g,hn,k⟩:=h;refine⟨_,(af (Ef (i:=3) Z nd Z Z (G_ Z Z Z (by decide +kernel)) (bK (bq (bU T) z (aa (pv 1) (aa (pv 2) ai)))) (b_ (own:=[("each",4)]) (by refine(show lZ ["reached","address","size","words","each"] (aL mM) _ _=true from ?_);decide +kernel)) (fun _ _ _ _ _=>(bI 4 nd)) (fun _ _ _ _ _=>eM) (fun _ _ _ _ _=>(eL iu Z T.Gq boot_str (aa (bB (JW (K:=K) Z) (GU (K:=K) Z (pv 0) Z) (pv 4) (fun _ _=>rfl)) ai))))
  (ah (ak (vf aZ (aN k9 (a3 (aa (bq (gk T) (z.mono (by decide)) (aa (pv 1) ai)) (aa aZ ai))) (pv 3)))))),?_⟩
 obtain⟨U,q⟩:=qp wf g hn;have two:(2:Nat)≤sizeLine:=by rw[sizeLine_eq];decide
 refine⟨_,Z,_,Z,a,n,Z,hn,fun L G=>⟨L,Z,⟨_,aT.of ae⟩,fun D hD=>?_⟩⟩;have B:=aK (o:=.lst (cC a n)) G;refine gg (K:=K) (a:=L) (xs:=cC a n) (fun j H'=>H'=upd (upd H L (.lst (cC a n))) D (.lst ((((lD M a n).take j).map fun v=>bg (writing v))))) Z (fun j H' _ e=>by rw[e];exact aT.of ((aK hD) _ _ ae)) ?_ ?_
 ·rintro j x H' I rfl;obtain⟨m,rfl⟩:=vk I;have l:(lD M a n)[j]?=some (M.at_ (around a j)):=by unfold lD;rw[getElem?_map,getElem?_range m];rfl
  have u:=R.same (B.trans (aK (o:=.lst ((((lD M a n).take j).map fun v=>bg (writing v)))) hD));refine⟨Z,sM ⟨_,Z,r,_,C,_,_,Z,u.ins,T.aS.cl,T.gh,Z,_,Z,d,_,_,_,Z,Z,aT.of u.drum,j5 wf (fA j g),_,Z,BM (by have:=kD (wf.at_ (around a j));omega),_,ae,?_,?_⟩⟩
  ·rw[length_map,length_take,sizeLine_eq];omega
  ·rw[a9,take_snoc l,map_append,str_int];rfl
 ·rintro H' rfl;have p:(cC a n).length=(lD M a n).length:=by unfold cC lD;simp
  rw[p,take_length];have W:=B.trans (aK (o:=.lst ((lD M a n).map fun v=>bg (writing v))) hD);have J:(lD M a n).length≤40:=by unfold lD;simp;exact hn
  refine⟨⟨_,Z⟩,_,Z,a,Z,by omega,two,fun O y=>?_⟩;have V:=W.trans (aK (o:=.lst [bg (addressName a),.str (Str.ofString "=")]) y);refine⟨_,Z,O,D,_,_,Z,Z,ae,(aK y) _ _ ae,by rw[length_map,sizeLine_eq];show 2+_≤_;omega,fun S F=>?_⟩;refine⟨_,S,(iS M a n).map sB,Z,Z,.inl (aT.of ?_),?_,?_⟩
  ·rw[ae];unfold iS;rw[map_append,map_append,map_map,map_map,map_map];rfl
  ·exact GH (by omega) q
  ·rw[show Str.ofString " "=sB [32]from Z,wu];exact k _ (V.trans (aK F))
inductive jI(C:Addr)(vs:List V)(H:Hp)(Q:VK)(E:XK):Prop
 |mk (r:Addr) (M:Machine) (h0_:vs=[.ref r]) (h1_:RcAt C H r M) (h2_:Wf M) (h3_:Clean M) (h4_:∀p H',aI H H'→H p=none→H' p=some (.lst ((a8 M).map aY))→Q (.ref p) H'):jI C vs H Q E
theorem jA(T:Top K mg t):Fn P w K mg base 2 "listed_placing" ["reached"] (jI t.aE):=by
 refine T.rj.bC (N:=["reached","others","address"]) (fun nd f _ A outer s H _ Q E hr h=>?_);obtain⟨r,M,rfl,⟨J,d,o,b,c,s,h,kvs,R⟩,wf,cl,k⟩:=h;refine⟨_,(af (aH 1 nd (aF Fe Z T.vq boot_sorted (aa (aN k9 (ay (pv 0) Z) (eL (E_ Z) Z T.M_ boot_list (aa (bq (hX T) hr (aa (pv 0) ai)) ai))) ai)))
  (ah (ak (aN k9 (a3 (aa (ay (pv 0) Z) ai)) (jB Z nd (bK (pv 1)) (b_ (own:=[("address",2)]) (by refine(show lZ ["reached","others","address"] (aL ki) _ _=true from ?_);decide +kernel)) (fun _ _ _ _ _=>(bI 2 nd)) (fun _ _ _ _ _=>(Ca (az d6 (pv 2) (GU (K:=K) Z (pv 0) Z) (aB _)))) (fun _ _ _ _ _=>(pv 2))))))),?_⟩
 have one:(1:Nat)≤sizeLine:=by rw[sizeLine_eq];decide
 have b1:M.seen.orders.length≤2000:=by rw[cQ];exact qH _
 refine⟨_,Z,r,_,J,_,_,Z,R.ins,T.aS.cl,T.bF,Z,_,Z,r,M,Z,⟨J,d,o,b,c,s,h,kvs,R⟩,fun q H1 G s1 _ Y hS=>?_⟩;obtain⟨ns,U,hp⟩:=hS.perm;have B:ns.Nodup:=hp.nodup_iff.mpr (gT M);have i:∀y,y∈ns↔y∈aX M:=fun y=>hp.mem_iff;have z:(M.seen.orders++ns).Nodup:=by rw[nodup_append];refine⟨by rw[cQ];exact fw _,B,fun a ha b hb e=>?_⟩;subst e;exact cl.apart a ha ((cK cl).mp ((i a).mp hb)).1
 have bL:∀x∈M.seen.orders++ns,x<2000:=fun x hx=>by
  rcases mem_append.mp hx with h|h
  ·exact eK h
  ·exact nG ((cK cl).mp ((i x).mp h)).1
 have F:bo (M.seen.orders++ns)=bo (M.seen.orders++aX M):=pD fun x _=>by rw[mem_append,mem_append,i x]
 have v:=cq z bL;rw[length_append]at v;refine⟨q,G,_,Z,Y,U.JQ,fun l hl=>?_⟩;have sl:=s1.trans (aK (o:=.lst ((ns.map fun(n:Nat)=>(n:Int)).map V.int)) hl);refine⟨o,l,_,_,Z,Z,sl _ _ R.ord,ae,by rw[length_map,length_map,length_map,sizeLine_eq];omega,fun p X=>?_⟩;have sp:=sl.trans (aK (o:=.lst (M.seen.orders.map aY++(ns.map fun(n:Nat)=>(n:Int)).map V.int)) X);refine⟨p,(M.seen.orders++ns).map fun(n:Nat)=>(n:Int),Z,aT.of (by rw[ae,iP,iP,map_append]),fun a1 I m u W=>?_⟩;have en:a1=(bo (M.seen.orders++aX M)).map fun(n:Nat)=>(n:Int):=by rw[mO z bL m u,F]
 subst en;rw[iP (bo (M.seen.orders++aX M))];have s2:=sp.trans (aK (o:=.lst ((bo (M.seen.orders++aX M)).map aY)) W);generalize O:upd (upd (upd H1 l (.lst ((ns.map fun(n:Nat)=>(n:Int)).map V.int))) p (.lst (M.seen.orders.map aY++(ns.map fun(n:Nat)=>(n:Int)).map V.int))) I (.lst ((bo (M.seen.orders++aX M)).map aY))=L at*;have C:L I=some (.lst ((bo (M.seen.orders++aX M)).map aY)):=by rw[← O];exact ae
 have R2:=R.same s2;have a2:=qH (M.seen.orders++aX M);refine⟨_,Z,r,_,J,_,_,Z,R2.ins,T.aS.cl,T.hJ,Z,one,fun p3 h3=>?_⟩;have s3:=s2.trans (aK (o:=.lst [V.int (M.next:Nat)]) h3);have g:upd L p3 (.lst [V.int (M.next:Nat)]) I=some (.lst ((bo (M.seen.orders++aX M)).map aY)):=(aK h3) _ _ C;refine⟨_,Z,I,Z,⟨_,aT.of g⟩,fun D hD=>?_⟩;refine gg (K:=K) (a:=I) (xs:=(bo (M.seen.orders++aX M)).map aY) (fun j H'=>H'=upd (upd L p3 (.lst [V.int (M.next:Nat)])) D (.lst ((((bo (M.seen.orders++aX M)).take j).filter fun a=>a != M.next).map aY))) Z (fun j H' _ e=>by rw[e];exact aT.of ((aK hD) _ _ g)) ?_ ?_
 ·rintro j x H' hj rfl;obtain⟨y,S,rfl⟩:=gU hj;have R3:=R.same (s3.trans (aK (o:=.lst ((((bo (M.seen.orders++aX M)).take j).filter fun a=>a != M.next).map aY)) hD));have tk:=take_snoc S;refine⟨Z,_,Z,_,Z,r,_,J,_,_,Z,R3.ins,T.aS.cl,T.hJ,Z,Z,_,Z,iO (fun _=>⟨_,Z,_,ae,?_,?_⟩) (fun _=>?_)⟩
  ·have h1:(((bo (M.seen.orders++aX M)).take j).filter fun a=>a != M.next).length≤((bo (M.seen.orders++aX M)).take j).length:=length_filter_le _ _;have h2:((bo (M.seen.orders++aX M)).take j).length≤(bo (M.seen.orders++aX M)).length:=by rw[length_take];exact Nat.min_le_right _ _
   rw[length_map,sizeLine_eq];omega
  ·rw[a9,tk,filter_append,filter_cons,if_pos (by simp;omega),filter_nil,map_append];rfl
  ·rw[tk,filter_append,filter_cons,if_neg (by simp;omega),filter_nil,append_nil]
 ·rintro H' rfl;rw[length_map,take_length];have sD:=s3.trans (aK (o:=.lst (((bo (M.seen.orders++aX M)).filter fun a=>a != M.next).map aY)) hD);have h1:((bo (M.seen.orders++aX M)).filter fun a=>a != M.next).length≤(bo (M.seen.orders++aX M)).length:=length_filter_le _ _;refine⟨p3,D,_,_,Z,Z,(aK hD) _ _ ae,ae,by rw[length_map,sizeLine_eq];show 1+_≤_;omega,fun p4 h4=>k p4 _ (sD.trans (aK h4)) (sD.free h4) ?_⟩;rw[ae];rfl
def ia(M:Machine)(a:Nat):Bytes:=if jO M a≠0 then J9 M a (jO M a)else Kf M a
theorem mJ{M:Machine}(hn:M.next<2000){a:Nat}(h:a∈a8 M):a<2000∧(a∈M.seen.orders∨a∈aX M):=by
 unfold a8 at h;rcases mem_cons.mp h with rfl|h
 ·exact⟨hn,.inl (DM.o6 hn)⟩
 ·obtain⟨b,c⟩:=bf.mp (mem_filter.mp h).1;exact⟨b,mem_append.mp c⟩
theorem Ia{M:Machine}(cl:Clean M)(hn:M.next<2000)(h:a∈a8 M):(DM.itemOf M a).text=ia M a++[10]:=by
 unfold ia;by_cases b:jO M a=0
 ·rw[if_neg (by simpa using b)];rcases(mJ hn h).2 with c|c
  ·exact Kh c
  ·exact absurd b ((nh cl).mpr ((cK cl).mp c))
 ·rw[if_pos b];have d:=(nh cl).mp b;have e:=vB cl d.1 d.bk;rw[e];exact J_ fun z=>cl.apart a z d.1
theorem Ju(cl:Clean M)(a:Nat):jO M a≤40:=by
 by_cases c:jO M a=0
 ·omega
 ·have b:=(nh cl).mp c;rw[vB cl b.1 b.bk];exact b.bk.le.1
theorem rK(wf:Wf M)(cl:Clean M)(h:a∈a8 M):(ia M a).length≤900:=by
 obtain⟨e,b⟩:=mJ wf.nx h;unfold ia;by_cases c:jO M a=0
 ·rw[if_neg (by simpa using c)];rcases b with b|b
  ·obtain⟨o,f⟩:=cl.good a b;obtain⟨g,d⟩:=qz b f cl;have:=z6 d;unfold Kf;omega
  ·exact absurd c ((nh cl).mpr ((cK cl).mp b))
 ·rw[if_pos c];obtain⟨g,d⟩:=qp wf e (Ju cl a);have:=z6 d;unfold J9;omega
theorem jS{M:Machine}(cl:Clean M)(hn:M.next<2000):(a8 M).length≤4000:=by
 rw[DM.tj cl hn];have b:M.seen.orders.length≤2000:=by rw[cQ];exact qH _
 have c:(aX M).length≤2000:=cq (gT M) fun x a=>nG ((cK cl).mp a).1;omega
theorem EE{M:Machine}(cl:Clean M)(hn:M.next<2000):kz M=((a8 M).map fun a=>ia M a++[10]).flatten:=by unfold kz;rw[← List.flatMap_def];exact iL fun a ha=>Ia cl hn ha
theorem G9{k:Nat}:∀{l:List Bytes},(∀x∈l,x.length≤k)→l.flatten.length≤k*l.length
 |[],_=>by simp
 |x::r,h=>by have c:=G9 (l:=r) fun y a=>h y (mem_cons_of_mem _ a);have b:=h x (mem_cons_self ..);rw[flatten_cons,length_append,length_cons,Nat.mul_add];omega
theorem IL(wf:Wf M)(cl:Clean M):(kz M).length≤4000000:=by
 rw[EE cl wf.nx];have c:=jS cl wf.nx;have:=G9 (k:=901) (l:=(a8 M).map fun a=>ia M a++[10]) fun x b=>by obtain⟨a,ha,rfl⟩:=mem_map.mp b;have:=rK wf cl ha;rw[length_append];simp;omega
 rw[length_map]at this;omega
inductive mU(C:Addr)(vs:List V)(H:Hp)(Q:VK)(E:XK):Prop
 |mk (r:Addr) (M:Machine) (h0_:vs=[.ref r]) (h1_:RcAt C H r M) (h2_:Wf M) (h3_:Clean M) (h4_:∀H',aI H H'→Q (bg (kz M)) H'):mU C vs H Q E
def MF(H:Hp)(r sz b:Addr)(M:Machine)(i:Nat)(d:L2.St)(H':Hp):Prop:=(∃c,d=[some (.ref r),some (.ref sz),some (.ref b),c,none])∧Kp [b] H H'∧H' b=some (.lst (((a8 M).take i).map fun a=>bg (ia M a)))
theorem xa(T:Top K mg t):Fn P w K mg base 4 "listed_text" ["reached"] (mU t.aE):=by
 refine T.yy.bC (N:=["reached","sizes","lines","address","line"]) (fun nd f _ A outer s H _ Q E L h=>?_);obtain⟨r,M,rfl,R,wf,cl,k⟩:=h;refine⟨_,(af (aH 1 nd (bq (hX T) (L.mono (by decide)) (aa (pv 0) ai)))
  (af (aH 2 nd (a3 ai))
  (af (bx PassesOwn.never Z (bK (bq (jA T) (L.mono (by decide)) (aa (pv 0) ai))) (bI 3 nd) (ah (aM (so (si (dO L) (pv 3) (pv 1))) (ah (bu (mG PySem.F.plainAttrs_list PySem.F.slot_list_append PySem.F.type_list_append fJ (pv 2) (aa (bq (uU T) L (aa (pv 0) (aa (pv 3) (aa (lg (dO L) (pv 1) (pv 3) (fun _ _=>rfl)) ai)))) ai)))) (ah (bu (mG PySem.F.plainAttrs_list PySem.F.slot_list_append PySem.F.type_list_append fJ (pv 2) (aa (bq (yX T) L (aa (pv 0) (aa (pv 3) ai))) ai)))))))
  (ah (ak (vf aZ (jB Z nd (bK (pv 2)) (b_ (own:=[("line",4)]) (by refine(show lZ ["reached","sizes","lines","address","line"] (aL n_) _ _=true from ?_);decide +kernel)) (fun _ _ _ _ _=>(bI 4 nd)) (fun _ _ _ _ _=>eM) (fun _ _ _ _ _=>(aN iW (pv 4) aZ))))))))),?_⟩
 have c2:=jS cl wf.nx;refine⟨_,Z,r,M,Z,R,fun sz H1 u s1 _ q hS=>⟨by rw[sizeLine_eq];exact Nat.zero_le _,fun c d=>?_⟩⟩;have s2:=s1.trans (aK (o:=.lst []) d);refine⟨_,Z,r,M,Z,R.same s2,wf,cl,fun p H2 s3 hp V=>?_⟩;have Y:=s2.trans s3;have m:H c=none:=s1.free d;have W:H2 sz=some (.dK u):=s3 _ _ ((aK d) _ _ q);have X:sz≠c:=aj q d;have b9:p≠c:=fun z=>by rw[z,ae]at hp;cases hp
 have U:H2 c=some (.lst []):=s3 _ _ ae;refine⟨p,Z,⟨_,aT.of V⟩,cu (K:=K) (a:=p) (xs:=(a8 M).map aY) (MF H2 r sz c M) ⟨⟨none,Z⟩,Kp.refl _ _,U⟩ (fun i σ H' _ ⟨_,kp,_⟩=>aT.of (kp _ _ V (by simp;exact b9))) ?_ ?_⟩
 ·rintro i x σ I hi ⟨⟨v3,rfl⟩,kp,b⟩;obtain⟨a,C,rfl⟩:=gU hi;have a2:=mem_of_getElem? C;obtain⟨a1,b3⟩:=mJ wf.nx a2;have bL:=(List.getElem?_eq_some_iff.mp C).1;have n:=kp _ _ W (by simp;exact X);have g:aI H I:=fun y w e=>kp _ _ (Y _ _ e) (by simp;exact aj e m);have c1:((a8 M).take i).length≤4000:=by rw[length_take];omega
  have tk:=take_snoc C;have fin:∀B v,aI I B→v=bg (ia M a)→MF H2 r sz c M (i+1) [some (.ref r),some (.ref sz),some (.ref c),some (aY a),none] (upd B c (.lst (((a8 M).take i).map (fun a=>bg (ia M a))++[v]))):=by rintro B v G rfl;refine⟨⟨_,Z⟩,(kp.trans (Kp.of G)).trans (Kp.upd (by simp)),?_⟩;rw[ae,tk,map_append];rfl
  refine⟨_,Z,_,Z,sz,_,Z,dY.k (k:=kN a) n,_,Z,?_⟩;rw[hS.has];by_cases J:jO M a=0
  ·rw[J];have b1:a∈M.seen.orders:=by
    rcases b3 with h|h
    ·exact h
    ·exact absurd J ((nh cl).mpr ((cK cl).mp h))
   refine cB ⟨_,Z,.inl ⟨Z,_,aT.of b⟩,_,Z,_,Z,r,M,a,Z,R.same g,wf,cl,b1,fun B G=>⟨c,_,_,Z,Z,G _ _ b,by rw[length_map,sizeLine_eq];omega,fin B _ G ?_⟩⟩;unfold ia;rw[if_neg (by simpa using J)]
  ·have b2:(jO M a != 0)=true:=by simpa using J
   rw[b2];have hv:bH u (kN a)=some (aY (jO M a)):=by rw[hS.val];unfold cV;rw[if_neg J]
   have hg:dY I sz (aY a) (some (aY (jO M a))):=by rw[← hv];exact dY.k (k:=kN a) n
   refine cJ ⟨_,Z,.inl ⟨Z,_,aT.of b⟩,_,Z,_,Z,_,Z,_,Z,sz,_,Z,hg,r,M,a,jO M a,Z,R.same g,wf,a1,Ju cl a,fun B G=>⟨c,_,_,Z,Z,G _ _ b,by rw[length_map,sizeLine_eq];omega,fin B _ G ?_⟩⟩;unfold ia;rw[if_pos J]
 ·rintro σ I ⟨⟨v3,rfl⟩,kp,b⟩;rw[length_map,take_length]at b;have g:aI H I:=fun y w e=>kp _ _ (Y _ _ e) (by simp;exact aj e m);refine⟨⟨_,Z⟩,_,Z,c,Z,⟨_,aT.of b⟩,fun D hD=>?_⟩;refine gg (K:=K) (a:=c) (xs:=(a8 M).map fun a=>bg (ia M a)) (fun j H'=>H'=upd I D (.lst (((a8 M).take j).map fun a=>bg (ia M a++[10])))) Z (fun j H' _ e=>by rw[e];exact aT.of ((aK hD) _ _ b)) ?_ ?_
  ·rintro j x H' O rfl;rw[getElem?_map]at O;obtain⟨a,S,rfl⟩:∃a,(a8 M)[j]?=some a∧x=bg (ia M a):=by
    cases e:(a8 M)[j]? with
    |none=>rw[e]at O;cases O
    |some z=>rw[e]at O;cases O;exact⟨z,Z,Z⟩
   have c0:=rK wf cl (mem_of_getElem? S);refine⟨Z,sM ⟨_,Z,_,_,Z,Z,?_,_,ae,?_,?_⟩⟩
   ·rw[cg,sizeLine_eq];show _+1≤_;omega
   ·rw[length_map,length_take,sizeLine_eq];omega
   ·rw[a9,take_snoc S,map_append,show Str.ofString "\n"=sB [10]from Z,xF];rfl
  ·rintro H' rfl;rw[length_map,take_length];refine⟨_,D,((a8 M).map fun a=>ia M a++[10]).map sB,Z,Z,.inl (aT.of ?_),?_,?_⟩
   ·rw[ae,map_map,map_map];rfl
   ·have:=F6 (k:=901) (l:=(a8 M).map fun a=>ia M a++[10]) fun x hx=>by obtain⟨a,ha,rfl⟩:=mem_map.mp hx;have:=rK wf cl ha;rw[length_append];simp;omega
    rw[length_map]at this;show _+_*0≤_;omega
   ·rw[show Str.ofString ""=sB []from Z,wq,← EE cl wf.nx];exact k _ (g.trans (aK hD))
structure uj(Cm:Addr)(H:Hp)(m d:Addr)(M:Machine):Prop where
 b7:lX Cm H m d M
 wf:Wf M
 tk:M.tick<WRAP
structure bQ(Cm:Addr)(H:Hp)(m d:Addr)(res:Machine×List Int)(q:Addr)(H':Hp):Prop where
 ex:∃d',(d'=d∨H d'=none)∧uj Cm H' m d' res.1
 kp:Kp [m,d] H H'
 new:H q=none
 RZ:H' q=some (.lst (res.2.map V.int))
theorem uj.same(h:uj a H m d M)(s:aI H H'):uj a H' m d M:=⟨h.b7.same s,h.wf,h.tk⟩
theorem bQ.only{a:List Int}(h:uj b H m d M)(s:aI H H')(c:H q=none)(ha:H' q=some (.lst (a.map V.int))):bQ b H m d (M,a) q H':=
 ⟨⟨d,.inl Z,h.same s⟩,Kp.of s,c,ha⟩
theorem KL(h:s<2000):Wf (new s):=by refine⟨by show(replicate 2000 (0:Int)).length=2000;rw[length_replicate],fun w a=>?_,(by decide:isLong 0=true),(by decide:isWord 0=true),h⟩;have:w=0:=List.eq_of_mem_replicate a;rw[this];decide
theorem yf(n:Int):(decide (0≤n)&&decide (n<2000))=DrumListSeed.within n WORDS:=rfl
def fz(M:Machine)(c:DrumListSeed.Call):Machine×List Int:=DrumListSeed.step M c
inductive xR(Cm:Addr)(c:Int→DrumListSeed.Call)(vs:List V)(H:Hp)(Q:VK)(E:XK):Prop
 |mk (m d:Addr) (M:Machine) (x:Int) (h0_:vs=[.ref m,.int x]) (h1_:uj Cm H m d M) (h2_:∀q H',bQ Cm H m d (fz M (c x)) q H'→Q (.ref q) H'):xR Cm c vs H Q E
inductive i_(Cm:Addr)(c:DrumListSeed.Call)(vs:List V)(H:Hp)(Q:VK)(E:XK):Prop
 |mk (m d:Addr) (M:Machine) (h0_:vs=[.ref m]) (h1_:uj Cm H m d M) (h2_:∀q H',bQ Cm H m d (fz M c) q H'→Q (.ref q) H'):i_ Cm c vs H Q E
theorem one_le:(1:Nat)≤sizeLine:=by rw[sizeLine_eq];decide
theorem NS(T:Top K mg t):Fn P w K mg base 3 "new" ["machine","start"] (xR t.aq .new):=by
 refine T.Pq.bC (N:=["machine","start"]) (fun nd f _ A outer s H _ Q E u h=>?_);obtain⟨m,d,M,x,rfl,r,k⟩:=h;refine⟨_,(af (aM (dJ (bJ (bq (gW T) (u.mono (by decide)) (aa (pv 1) ai)))) (ah (ak (a3 (aa (pk T.c5) ai)))) aA)
  (af (bu (KR (pv 0) T.ao (gE T) u (aa (pv 1) ai)))
  (ah (ak (a3 (aa au ai)))))),?_⟩
 obtain⟨l,hm⟩:=r.b7.ins;refine⟨_,Z,x,Z,_,Z,?_⟩;rw[yf];cases hw:DrumListSeed.within x WORDS with
 |false=>
  refine cJ ⟨one_le,fun q a=>k q _ ?_⟩;have e:fz M (.new x)=(M,[-1]):=by show(if DrumListSeed.within x WORDS=true then _ else _)=_;rw[hw];rfl
  rw[e];exact bQ.only r (aK a) a ae
 |true=>
  have y:=jh.mp hw;obtain⟨n,rfl⟩:∃n:Nat,x=n:=⟨x.toNat,by omega⟩;have e:fz M (.new (n:Int))=(Drum.new n,[0]):=by show(if DrumListSeed.within _ WORDS=true then _ else _)=_;rw[hw];rfl
  rw[e]at k;refine cB ⟨_,Z,m,l,_,Z,hm,Z,_,Z,m,l,n,_,Z,hm,.inr ⟨d,M,Z⟩,fun v H1 i b g=>⟨one_le,fun q a=>k q _ ?_⟩⟩;have j:H q=none:=by
   cases e:H q with
   |none=>rfl
   |some o=>
    by_cases c:q=m
    ·subst c;obtain⟨_,p⟩:=b.ins;rw[a]at p;cases p
    ·have:=g q o e (by simp;exact c);rw[a]at this;cases this
  exact⟨⟨v,.inr i,b.same (aK a),KL (by omega),by show 0<WRAP;decide⟩,(g.mono (by simp)).trans (Kp.new a),j,ae⟩
inductive G4(Cm:Addr)(vs:List V)(H:Hp)(Q:VK)(E:XK):Prop
 |mk (m d:Addr) (M:Machine) (x v:Int) (h0_:vs=[.ref m,.int x,.int v]) (h1_:uj Cm H m d M) (h2_:∀q H',bQ Cm H m d (fz M (.poke x v)) q H'→Q (.ref q) H'):G4 Cm vs H Q E
theorem LX(T:Top K mg t):Fn P w K mg base 2 "poke" ["machine","address","word"] (G4 t.aq):=by
 refine T.Nr.bC (N:=["machine","address","word"]) (fun nd f _ A outer s H _ Q E j h=>?_);obtain⟨m,d,M,x,v,rfl,hM,k⟩:=h;refine⟨_,(af (aM (PW.pt (jC (dJ (bJ (bq (gW T) j (aa (pv 1) ai)))) (i5 (dJ (bJ (bq (wZ T) j (aa (pv 2) ai))))))) (ah (ak (a3 (aa (pk T.c5) ai)))) aA)
  (af (pB (pv 2) (pw (ay (pv 0) Z) (pv 1) set_list))
  (ah (ak (a3 (aa au ai)))))),?_⟩
 obtain⟨l,hm⟩:=hM.b7.ins;have b:(DrumListSeed.within x WORDS&&isWord v)=false→∀q,H q=none→Q (.ref q) (upd H q (.lst [V.int (-1)])):=fun o q a=>by
  refine k q _ ?_;have e:fz M (.poke x v)=(M,[-1]):=by show(if(DrumListSeed.within x WORDS&&isWord v)=true then _ else _)=_;rw[o];rfl
  rw[e];exact bQ.only hM (aK a) a ae
 refine⟨_,Z,x,Z,_,Z,?_⟩;rw[yf];cases hw:DrumListSeed.within x WORDS with
 |false=>exact cJ (cJ ⟨one_le,b (by rw[hw];rfl)⟩)
 |true=>
  have p:=jh.mp hw;obtain⟨n,rfl⟩:∃n:Nat,x=n:=⟨x.toNat,by omega⟩;refine cB ⟨_,Z,v,Z,_,Z,?_⟩;cases i:isWord v with
  |false=>exact cJ ⟨one_le,b (by rw[hw,i];rfl)⟩
  |true=>
   have e:fz M (.poke (n:Int) v)=(M.put n v,[0]):=by show(if(DrumListSeed.within _ WORDS&&isWord v)=true then _ else _)=_;rw[hw,i];rfl
   rw[e]at k;refine cB ⟨_,Z,_,Z,m,_,l,_,_,Z,hm,T.ao.cl,T.a7,eI _ _,_,Z,d,_,_,_,Z,Z,hM.b7.drum,pW hM.wf (by omega),?_⟩;rw[map_set];refine⟨one_le,fun q a=>k q _ ?_⟩;have g:q≠d:=fun z=>by rw[z,ae]at a;cases a
   have c:H q=none:=by rw[aw g]at a;exact a
   exact⟨⟨d,.inl Z,(hM.b7.F2 (ws:=M.drum.set n v)).same (aK a),hM.wf.put n i,hM.tk⟩,(Kp.upd (by simp)).trans (Kp.new a),c,ae⟩
theorem LW(T:Top K mg t):Fn P w K mg base 2 "peek" ["machine","address"] (xR t.aq .peek):=by
 refine T.Nq.bC (N:=["machine","address"]) (fun nd f _ A outer s H _ Q E g h=>?_);obtain⟨m,d,M,x,rfl,a,k⟩:=h;refine⟨_,(af (aM (dJ (bJ (bq (gW T) g (aa (pv 1) ai)))) (ah (ak (a3 (aa (pk T.c5) ai)))) aA)
  (ah (ak (a3 (aa au (aa (bB a4 (ay (pv 0) Z) (pv 1) (fun _ _=>rfl)) ai)))))),?_⟩
 obtain⟨c,hm⟩:=a.b7.ins;refine⟨_,Z,x,Z,_,Z,?_⟩;rw[yf];cases hw:DrumListSeed.within x WORDS with
 |false=>
  refine cJ ⟨one_le,fun q b=>k q _ ?_⟩;have e:fz M (.peek x)=(M,[-1]):=by show(M,if DrumListSeed.within x WORDS=true then _ else _)=_;rw[hw];rfl
  rw[e];exact bQ.only a (aK b) b ae
 |true=>
  have i:=jh.mp hw;obtain⟨n,rfl⟩:∃n:Nat,x=n:=⟨x.toNat,by omega⟩;have e:fz M (.peek (n:Int))=(M,[0,M.at_ n]):=by show(M,if DrumListSeed.within _ WORDS=true then _ else _)=_;rw[hw];rfl
  rw[e]at k;refine cB ⟨_,Z,m,_,c,_,_,Z,hm,T.ao.cl,T.a7,eI _ _,_,Z,d,_,_,_,Z,Z,aT.of a.b7.drum,j5 a.wf (by omega),by rw[sizeLine_eq];exact(by decide:2≤16777216),fun q b=>k q _ ?_⟩;exact bQ.only a (aK b) b ae
theorem LY(T:Top K mg t):Fn P w K mg base 1 "told" ["machine"] (i_ t.aq .told):=by
 refine T.Nt.bC (N:=["machine"]) (fun nd f _ A outer s H _ Q E _ h=>?_);obtain⟨m,d,M,rfl,b,k⟩:=h;refine⟨_,(ah (ak (a3 (aa au (aa (ay (pv 0) Z) (aa (ay (pv 0) Z) (aa (ay (pv 0) Z) (aa (ay (pv 0) Z) (aa (ay (pv 0) Z) (aa (ay (pv 0) Z) ai)))))))))),?_⟩;obtain⟨a,hm⟩:=b.b7.ins;refine⟨_,Z,m,_,a,_,_,Z,hm,T.ao.cl,T.e_,DE _ _,_,Z,m,_,a,_,_,Z,hm,T.ao.cl,T.cv,GK _ _,_,Z,m,_,a,_,_,Z,hm,T.ao.cl,T.cN,LK _ _,
  _,Z,m,_,a,_,_,Z,hm,T.ao.cl,T.fK,NI _ _,_,Z,m,_,a,_,_,Z,hm,T.ao.cl,T.aJ,jm _ _,_,Z,m,_,a,_,_,Z,hm,T.ao.cl,T.a0,oW _ _,by rw[sizeLine_eq];exact(by decide:7≤16777216),fun q c=>k q _ ?_⟩
 exact bQ.only b (aK c) c ae
theorem Ik(T:Top K mg t):Fn P w K mg base 2 "rewind" ["machine"] (i_ t.aq .rewind):=by
 refine T.JE.bC (N:=["machine"]) (fun nd f _ A outer s H _ Q E g h=>?_);obtain⟨m,d,M,rfl,hM,k⟩:=h;refine⟨_,(af (bu (pA (pv 0) T.ao (jy T) g))
  (ah (ak (a3 (aa au ai))))),?_⟩
 obtain⟨e,hm⟩:=hM.b7.ins;refine⟨_,Z,m,e,_,Z,hm,Z,m,e,_,Z,hm,by show 7<900;decide,one_le,fun q a=>k q _ ?_⟩;have c:q≠m:=fun z=>by rw[z,ae]at a;cases a
 have b:H q=none:=by rw[aw c]at a;exact a
 refine⟨⟨d,.inl Z,?_,⟨hM.wf.len,hM.wf.wd,(by decide:isLong 0=true),(by decide:isWord 0=true),hM.wf.nx⟩,by show 0<WRAP;decide⟩,(Kp.upd (by simp)).trans (Kp.new a),b,ae⟩;exact(hM.b7.jU (M':=M.anew) Z).same (aK a)
inductive jg(Cm C:Addr)(vs:List V)(H:Hp)(Q:VK)(E:XK):Prop
 |mk (m d:Addr) (M:Machine) (h0_:vs=[.ref m]) (h1_:uj Cm H m d M) (h2_:∀r H',aI H H'→H r=none→RcAt C H' r M→Q (.ref r) H'):jg Cm C vs H Q E
theorem dG(T:Top K mg t):Fn P w K mg base 7 "what_is_reached" ["machine"] (jg t.aq t.aE):=by
 refine T.p8.bC (N:=["machine"]) (fun nd f _ A outer s H _ Q E o h=>?_);obtain⟨m,d,M,rfl,c,k⟩:=h;refine⟨_,(ah (ak (Og T.aS (uL T) o (aa (ay (pv 0) Z) (aa (ay (pv 0) Z) ai))))),?_⟩;obtain⟨i,hm⟩:=c.b7.ins;refine⟨_,Z,m,_,i,_,_,Z,hm,T.ao.cl,T.a7,eI _ _,_,Z,m,_,i,_,_,Z,hm,T.ao.cl,T.cN,LK _ _,?_⟩;intro r b a g n;have j:aI H (upd (upd H b (.own r)) r (.ins t.aE b [])):=fun y w e=>by rw[aw (aj e a),aw (aj e g)];exact e
 refine⟨r,b,d,M,Z,ae,j _ _ c.b7.drum,c.wf,fun H' kp l=>⟨Z,k r H' (fun y w e=>kp _ _ (j _ _ e) (by simp;exact aj e a)) a l⟩⟩
theorem Kb(T:Top K mg t):Fn P w K mg base 8 "reach" ["machine"] (i_ t.aq .reach):=by
 refine T.Li.bC (N:=["machine"]) (fun nd f _ A outer s H _ Q E c h=>?_);obtain⟨m,d,M,rfl,a,k⟩:=h;refine⟨_,(ah (ak (aN k9 (a3 (aa au ai)) (bq (nQ T) (c.mono (by decide)) (aa (bq (dG T) c (aa (pv 0) ai)) ai))))),?_⟩;refine⟨one_le,fun y p=>?_⟩;have i:=aK (o:=.lst [V.int 0]) p;refine⟨_,Z,m,d,M,Z,a.same i,fun r _ j c u=>⟨r,M,Z,u,a.wf,fun q _ l _ b=>?_⟩⟩;have v:((DrumListSeed.marks M.seen).map V.int).length≤4000:=by
  have:=Ax M.seen.mark 2000;have e:(DrumListSeed.marks M.seen).length=(qQ M.seen.mark 2000).length:=by unfold qQ DrumListSeed.marks;rw[List.length_flatMap,List.length_flatMap];refine congrArg sum (map_congr_left fun x _=>?_);split<;>rfl
  rw[length_map];omega
 refine⟨y,q,_,_,Z,Z,(j.trans l) _ _ ae,b,by rw[sizeLine_eq];show 1+_≤_;omega,fun z g=>k z _ ?_⟩;have n:=i.trans (j.trans l);exact bQ.only a (n.trans (aK g)) (n.free g) (by rw[ae];rfl)
theorem vp(M:Machine)(hn:M.next<2000):fz M .why=(M,match qa M with|some f=>[0,(f.1:Int),(f.2:Int)]|none=>[0,0,0])∧
  fz M .text=(M,match qa M with|some _=>[-9]|none=>0::(kz M).map fun(c:UInt8)=>(c.toNat:Int))∧
  fz M .placing=(M,match qa M with|some _=>[-9]|none=>0::(a8 M).map fun(n:Nat)=>(n:Int)):=by
 have e:=DM.list_eq hn;unfold fz DrumListSeed.step;dsimp only;rw[e];cases qa M with
 |some f=>exact⟨Z,Z,Z⟩
 |none=>exact⟨Z,Z,Z⟩
theorem NU(T:Top K mg t):Fn P w K mg base 8 "why" ["machine"] (i_ t.aq .why):=by
 refine T.Pt.bC (N:=["machine","found"]) (fun nd f _ A outer s H _ Q E l h=>?_);obtain⟨m,d,M,rfl,g,k⟩:=h;refine⟨_,(af (aH 1 nd (bq (kZ T) (l.mono (by decide)) (aa (bq (dG T) l (aa (pv 0) ai)) ai)))
  (ah (ak (dS (az xj (pv 1) a_ (aB _)) (a3 (aa au (aa au (aa au ai)))) (a3 (aa au (aa (bB kT (pv 1) au (fun _ _=>rfl)) (aa (bB kT (pv 1) au (fun _ _=>rfl)) ai)))))))),?_⟩
 have b:(3:Nat)≤sizeLine:=by rw[sizeLine_eq];decide
 rw[(vp M g.wf.nx).1]at k;refine⟨_,Z,m,d,M,Z,g,fun r _ x l o=>⟨r,M,Z,o,g.wf,fun v _ y u=>?_⟩⟩;have c:=x.trans y;refine⟨_,Z,Z,_,Z,?_⟩;rcases u with⟨rfl,e⟩|⟨T1,z,a,rfl,n,p,e⟩
 ·rw[e]at k;refine cJ ⟨b,fun q i=>k q _ ?_⟩;exact bQ.only g (c.trans (aK i)) (c.free i) ae
 ·rw[e]at k;refine cB ⟨_,Z,T1,_,_,_,Z,Z,h9.of n,a5 (j:=0) Z,_,Z,T1,_,_,_,Z,Z,h9.of n,a5 (j:=1) Z,b,fun q i=>k q _ ?_⟩;exact bQ.only g (c.trans (aK i)) (c.free i) ae
theorem uX(T:Top K mg t):Fn P w K mg base 8 "tell_placing" ["machine"] (i_ t.aq .placing):=by
 refine T.vW.bC (N:=["machine","reached"]) (fun nd f _ A outer s H _ Q E i h=>?_);obtain⟨m,d,M,rfl,b,k⟩:=h;refine⟨_,(af (aH 1 nd (bq (dG T) i (aa (pv 0) ai)))
  (af (aM (az nz (bq (kZ T) (i.mono (by decide)) (aa (pv 1) ai)) a_ (aB _)) (ah (ak (a3 (aa (pk T.iJ) ai)))) aA)
  (ah (ak (aN k9 (a3 (aa au ai)) (bq (jA T) (i.mono (by decide)) (aa (pv 1) ai))))))),?_⟩
 rw[(vp M b.wf.nx).2.2]at k;refine⟨_,Z,m,d,M,Z,b,fun r _ G i l=>?_⟩;refine⟨_,Z,r,M,Z,l,b.wf,fun v _ u D=>?_⟩;have c:=G.trans u;refine⟨Z,_,Z,?_⟩;rcases D with⟨rfl,e⟩|⟨T1,J,a,rfl,I,B,e⟩
 ·rw[e]at k;have cl:=wg e;have C:=jS cl b.wf.nx;refine cB ⟨one_le,fun F z=>?_⟩;have n:=aK (o:=.lst [V.int 0]) z;refine⟨_,Z,r,M,Z,l.same (u.trans n),b.wf,cl,fun p _ x _ j=>?_⟩;refine⟨F,p,_,_,Z,Z,x _ _ ae,j,by rw[length_map,sizeLine_eq];show 1+_≤_;omega,fun q g=>k q _ ?_⟩;have y:=c.trans (n.trans x);exact bQ.only b (y.trans (aK g)) (y.free g) (by rw[ae,map_cons,iP];rfl)
 ·rw[e]at k;refine cJ ⟨one_le,fun q g=>k q _ ?_⟩;exact bQ.only b (c.trans (aK g)) (c.free g) ae
theorem B4(T:Top K mg t):Fn P w K mg base 8 "tell_text" ["machine"] (i_ t.aq .text):=by
 refine T.Dn.bC (N:=["machine","reached","sign"]) (fun nd f _ A outer s H _ Q E l h=>?_);obtain⟨m,d,M,rfl,b,k⟩:=h;refine⟨_,(af (aH 1 nd (bq (dG T) l (aa (pv 0) ai)))
  (af (aM (az nz (bq (kZ T) (l.mono (by decide)) (aa (pv 1) ai)) a_ (aB _)) (ah (ak (a3 (aa (pk T.iJ) ai)))) aA)
  (ah (ak (aN k9 (a3 (aa au ai)) (jB Z nd (B_ (bq (xa T) (l.mono (by decide)) (aa (pv 1) ai))) (b_ (own:=[("sign",2)]) (by refine(show lZ ["machine","reached","sign"] (aL tD) _ _=true from ?_);decide +kernel)) (fun _ _ _ _ _=>(bI 2 nd)) (fun _ _ _ _ _=>eM) (fun _ _ _ _ _=>(aF CU Z T.MQ boot_ord (aa (pv 2) ai))))))))),?_⟩
 rw[(vp M b.wf.nx).2.1]at k;refine⟨_,Z,m,d,M,Z,b,fun r _ U l n=>?_⟩;refine⟨_,Z,r,M,Z,n,b.wf,fun v _ z R=>?_⟩;have g:=U.trans z;refine⟨Z,_,Z,?_⟩;rcases R with⟨rfl,e⟩|⟨T1,kk,a,rfl,Y,J,e⟩
 ·rw[e]at k;have cl:=wg e;have O:=IL b.wf cl;refine cB ⟨one_le,fun S I=>?_⟩;have y:=aK (o:=.lst [V.int 0]) I;refine⟨_,Z,r,M,Z,n.same (z.trans y),b.wf,cl,fun F B=>?_⟩;refine⟨_,Z,fun D hD=>Fx (x:=sB (kz M)) (fun i H'=>H'=upd F D (.lst (((kz M).take i).map fun c=>V.int (c.toNat:Nat)))) Z ?_ ?_⟩
  ·rintro i X H' L rfl;obtain⟨u,p,rfl⟩:=Gm L;have bL:=cn p;refine⟨Z,sM ⟨_,Z,_,Z,Z,_,ae,by rw[length_map,sizeLine_eq];omega,?_⟩⟩;rw[a9,take_snoc p,map_append];rfl
  ·rintro H' rfl;have G:(tl (sB (kz M))).length=(kz M).length:=by rw[m3];exact length_map _
   rw[G,take_length];have W:=(y.trans B).trans (aK (o:=.lst ((kz M).map fun c=>V.int (c.toNat:Nat))) hD);refine⟨S,D,_,_,Z,Z,(aK hD) _ _ (B _ _ ae),ae,by rw[length_map,sizeLine_eq];show 1+_≤_;omega,fun q j=>k q _ ?_⟩;have C:=g.trans W;exact bQ.only b (C.trans (aK j)) (C.free j) (by rw[ae,map_cons,map_map];rfl)
 ·rw[e]at k;refine cJ ⟨one_le,fun q j=>k q _ ?_⟩;exact bQ.only b (g.trans (aK j)) (g.free j) ae
theorem G2:∀(n:Nat) (M:Machine) (c:List Card),(Drum.run n WRAP M c).punched.flatten.length≤8*n
 |0,_,_=>Nat.zero_le _
 |n+1,M,c=>by
  unfold Drum.run;split
  ·exact Nat.zero_le _
  ·dsimp only;have a:=G2 n (M.step c).1 (if(M.step c).2.1=true then c.drop 1 else c);have b:=EA M c;rw[List.flatten_append,length_append];omega
def fX(ws:List Int):Bool:=decide (ws.length≤512)&&(ws.length % 8==0&&ws.all isWord)
inductive qK(vs:List V)(H:Hp)(Q:VK)(E:XK):Prop
 |mk (p:Addr) (ws:List Int) (h0_:vs=[.ref p]) (h1_:H p=some (.lst (ws.map V.int))) (h2_:∀H',aI H H'→Q (.bl (fX ws)) H'):qK vs H Q E
theorem BZ(T:Top K mg t):Fn P w K mg base 2 "are_cards" ["words"] (qK):=by
 refine T.Df.bC (N:=["words","word"]) (fun nd f _ A outer s H _ Q E o h=>?_);obtain⟨p,ws,rfl,c,k⟩:=h;refine⟨_,(af (aM (PW.pt (jC (az mD (aF aO Z T.cX boot_len (aa (pv 0) ai)) (pk T.pN) (aB _)) (i5 (az d6 (aN gG (aF aO Z T.cX boot_len (aa (pv 0) ai)) (pk T.b0)) au (aB _))))) (ah (ak iZ)) aA)
  (ah (ak (aF (Bb Z) Z T.Gn boot_all (aa (jB Z nd (bK (pv 0)) (b_ (own:=[("word",1)]) (by refine(show lZ ["words","word"] (aL tu) _ _=true from ?_);decide +kernel)) (fun _ _ _ _ _=>(bI 1 nd)) (fun _ _ _ _ _=>eM) (fun _ _ _ _ _=>(bq (wZ T) o (aa (pv 1) ai)))) ai))))),?_⟩
 have d:=k H (aI.refl H);have i:(ws.map V.int).length=ws.length:=length_map _;refine⟨_,Z,p,_,Z,.inl (aT.of c),_,_,Z,Z,_,Z,?_⟩;rw[i];refine cS (fun l=>cJ ?_) (fun l=>?_)
 ·have e:fX ws=false:=by unfold fX;rw[decide_eq_false (by omega)];rfl
  rw[e]at d;exact d
 ·refine⟨_,Z,p,_,Z,.inl (aT.of c),_,_,Z,Z,(by decide:(0:Int)<8),Z,_,Z,?_⟩;dsimp only;rw[i];refine iO (fun _=>?_) (fun _=>?_)
  ·have e:fX ws=false:=by
    unfold fX;have:(ws.length % 8==0)=false:=by simp;omega
    rw[this];simp
   rw[e]at d;exact d
  ·have n:(ws.length % 8==0)=true:=by simp;omega
   refine⟨_,Z,p,Z,⟨_,aT.of c⟩,fun D hD=>?_⟩;refine gg (K:=K) (a:=p) (xs:=ws.map V.int) (fun j H'=>H'=upd H D (.lst ((ws.take j).map fun w=>V.bl (isWord w)))) Z (fun j H' _ e=>by rw[e];exact aT.of ((aK hD) _ _ c)) ?_ ?_
   ·rintro j x H' b rfl;rw[getElem?_map]at b;obtain⟨g,m,rfl⟩:∃g,ws[j]?=some g∧x=V.int g:=by
     cases e:ws[j]? with
     |none=>rw[e]at b;cases b
     |some z=>rw[e]at b;cases b;exact⟨z,Z,Z⟩
    refine⟨Z,sM ⟨_,Z,g,Z,_,ae,?_,?_⟩⟩
    ·rw[length_map,length_take,sizeLine_eq];omega
    ·rw[a9,take_snoc m,map_append];rfl
   ·rintro H' rfl;rw[i,take_length];refine⟨D,ws.map isWord,Z,aT.of (by rw[ae,map_map];rfl),?_⟩;have e:((ws.map isWord).all id)=fX ws:=by unfold fX;rw[decide_eq_true (by omega),n,all_map];rfl
    rw[e];exact k _ (aK hD)
inductive KD(Cm:Addr)(vs:List V)(H:Hp)(Q:VK)(E:XK):Prop
 |mk (m d p:Addr) (M:Machine) (o:Int) (ws:List Int) (h0_:vs=[.ref m,.int o,.ref p]) (h1_:uj Cm H m d M) (h2_:H p=some (.lst (ws.map V.int))) (h3_:p≠d) (h4_:∀q H',bQ Cm H m d (fz M (.run o ws)) q H'→Q (.ref q) H'):KD Cm vs H Q E
theorem NT(T:Top K mg t):Fn P w K mg base 8 "run" ["machine","most","cards"] (KD t.aq):=by
 refine T.Pr.bC (N:=["machine","most","cards","deck","begun"]) (fun nd f _ A outer s H _ Q E hr h=>?_);obtain⟨m,d,p,M,o,ws,rfl,v,X,a1,k⟩:=h;refine⟨_,(af (aM (PW.pt (jC (az iX (pv 1) au (aB _)) (jC (az mD (pv 1) (pk T.yl) (aB _)) (i5 (dJ (bJ (bq (BZ T) (hr.mono (by decide)) (aa (pv 2) ai)))))))) (ah (ak (a3 (aa (pk T.c5) ai)))) aA)
  (af (aH 3 nd (Og T.gf (BW T) (hr.mono (by decide)) (aa (pv 2) ai)))
  (af (aH 4 nd (bq (y1 T) hr (aa (pv 0) (aa (pv 1) (aa (pv 3) ai)))))
  (ah (ak (aN k9 (a3 (aa au (aa (pv 4) (aa (ay (pv 3) Z) ai)))) (ay (pv 3) Z))))))),?_⟩
 obtain⟨dx,hm⟩:=v.b7.ins;have c:DrumListSeed.runnable o ws=(DrumListSeed.within o 10001&&fX ws):=rfl;have l:(DrumListSeed.within o 10001&&fX ws)=false→∀H1,aI H H1→∀q,H1 q=none→Q (.ref q) (upd H1 q (.lst [V.int (-1)])):=fun hb H1 i q B=>by
  refine k q _ ?_;have e:fz M (.run o ws)=(M,[-1]):=by show(if DrumListSeed.runnable o ws=false then _ else _)=_;rw[c,hb];rfl
  rw[e];exact bQ.only v (i.trans (aK B)) (i.free B) ae
 have u:DrumListSeed.within o 10001=(decide (0≤o)&&decide (o<10001)):=rfl;refine⟨_,Z,_,_,Z,Z,_,Z,cS (fun h0=>cJ ⟨one_le,l (by rw[u,decide_eq_false (by omega)];rfl) H (aI.refl H)⟩) (fun h0=>?_)⟩;refine⟨_,Z,_,_,Z,Z,_,Z,cS (fun h1=>cJ ⟨one_le,l (by rw[u,decide_eq_false (show¬o<10001 by omega),Bool.and_false];rfl) H (aI.refl H)⟩) (fun h1=>?_)⟩;obtain⟨n,rfl⟩:∃n:Nat,o=n:=⟨o.toNat,by omega⟩;have F:DrumListSeed.within (n:Int) 10001=true:=by rw[u,decide_eq_true (by omega),decide_eq_true (by omega)];rfl
 refine⟨_,Z,p,ws,Z,X,fun H1 i=>⟨_,Z,?_⟩⟩;cases I:fX ws with
 |false=>exact cJ ⟨one_le,l (by rw[F,I];rfl) H1 i⟩
 |true=>
  have e:fz M (.run (n:Int) ws)=((Drum.run n WRAP M (aR ws 0)).m,0::([((Drum.run n WRAP M (aR ws 0)).begun:Int),((Drum.run n WRAP M (aR ws 0)).read:Int)]++(Drum.run n WRAP M (aR ws 0)).punched.flatten)):=by show(if DrumListSeed.runnable _ ws=false then _ else _)=_;rw[c,F,I];rfl
  rw[e]at k;have O:ws.length≤512∧ws.length % 8=0∧∀w∈ws,isWord w=true:=by unfold fX at I;simpa using I
  refine cB ⟨_,Z,?_⟩;intro g S z W c2;have sA:aI H1 (upd (upd H1 S (.own g)) g (.ins t.aW S [])):=fun y w e=>by rw[aw (aj e z),aw (aj e W)];exact e
  have Y:=sA _ _ (i _ _ X);refine⟨g,S,p,ws,Z,ae,Y,fun J H2 a2 hD b2=>⟨Z,?_⟩⟩;have b:H g=none:=i.free z;have s2:aI H H2:=fun y w e=>b2 _ _ (sA _ _ (i _ _ e)) (by simp;exact aj e b);have a:H J=none:=by have:=sA.free a2;exact i.free this
  have U:=v.same s2;have R:qV t.aq t.aW H2 m d g p J M ws 0 []:=⟨U.b7,hD,v.wf,aj v.b7.drum a,a1,aj X a,by omega,O.1,O.2.1,O.2.2,v.tk⟩;refine⟨_,Z,_,Z,_,Z,m,d,g,p,J,M,ws,n,Z,R,by omega,fun H3 j b3=>?_⟩;have b9:=G2 n M (aR ws 0);generalize c0:Drum.run n WRAP M (aR ws 0)=res at*;obtain⟨dy,x⟩:=j.jl.ins;have G:Kp [m,d] H H3:=fun y w e hy=>b3 _ _ (s2 _ _ e) (by simp at hy ⊢;exact⟨hy.1,hy.2,aj e b,aj e a⟩);refine⟨_,Z,_,Z,g,_,dy,_,_,Z,x,T.gf.cl,T.cM,Z,by rw[sizeLine_eq];exact(by decide:3≤16777216),fun p5 h5=>?_⟩;have L:=aK (o:=.lst [V.int 0,V.int (res.begun:Nat),V.int (res.read:Nat)]) h5;refine⟨_,Z,g,_,dy,_,_,Z,L _ _ x,T.gf.cl,T.iQ,Z,p5,J,_,_,Z,Z,ae,L _ _ j.jl.Jb,by rw[length_map,sizeLine_eq];show 3+_≤_;omega,fun q B=>k q _ ?_⟩;have s6:=L.trans (aK (o:=.lst ([V.int 0,V.int (res.begun:Nat),V.int (res.read:Nat)]++res.punched.flatten.map V.int)) B);have r:H3 q=none:=L.free B;have b1:H q=none:=by
   cases e:H q with
   |none=>rfl
   |some w=>
    by_cases D:q=m
    ·subst D;obtain⟨_,e1⟩:=j.b7.ins;rw[r]at e1;cases e1
    ·by_cases C:q=d
     ·subst C;have:=j.b7.drum;rw[r]at this;cases this
     ·have:=G q w e (by simp;exact⟨D,C⟩);rw[r]at this;cases this
  exact⟨⟨d,.inl Z,j.b7.same s6,j.wf,j.tk⟩,G.trans (Kp.of s6),b1,by rw[ae];rfl⟩
theorem sv:∀(W:List (Nat×Int)) {d:List Int},(∀w∈d,isWord w=true)→(∀u∈W,isWord u.2=true)→∀w∈b5 d W,isWord w=true
 |[],_,hd,_=>hd
 |u::r,d,hd,a=>by
  have:∀w∈d.set u.1 u.2,isWord w=true:=fun w c=>by
   rcases List.mem_or_eq_of_mem_set c with h|h
   ·exact hd w h
   ·rw[h];exact a u (mem_cons_self ..)
  exact sv r this fun v b=>a v (mem_cons_of_mem _ b)
theorem IY{pr:Drum.Program}(ok:Ji pr)(p:∀a∈l,a<2000)(q:((range pr.length).flatMap (fY pr l)).Nodup):Wf (Drum.placed pr l):=by
 rw[pz q];refine⟨?_,?_,(by decide:isLong 0=true),(by decide:isWord 0=true),u_ p _⟩
 ·show(b5 _ _).length=2000;rw[dX,dX,length_replicate]
 ·refine sv _ (sv _ (fun w s=>?_) fun u r=>?_) fun u r=>?_
  ·rw[List.eq_of_mem_replicate s];decide
  ·obtain⟨k,m,rfl⟩:=mem_map.mp r;have b:=fG.mp m;have h:=iM b;have g:pr[k]?=some pr[k]:=getElem?_eq_getElem h;have bj:=ok _ (List.getElem_mem h);cases e:pr[k]with
   |numbers n x=>
    unfold bM at b;rw[g,e]at b;cases b
   |order n c o f=>
    rw[e]at g bj;show isWord (orderWord pr l k)=true;rw[qB g];have y:=Ad (pr:=pr) bj.op p;have A:=z8 bj.known;have B:KS pr l k<2000:=by
     unfold KS;cases nextOf pr k with
     |none=>exact(by decide:0<2000)
     |some j=>exact u_ p j
    rw[bR];omega
  ·obtain⟨k,m,i⟩:=List.mem_flatMap.mp r;unfold Cz at i;obtain⟨z,hz,rfl⟩:=mem_map.mp i;have d:z.1∈Drum.wordsOf pr l k:=List.fst_mem_of_mem_zipIdx hz;show isWord z.1=true;have b:bM pr k=false:=by have:=(mem_filter.mp m).2;simpa using this
   unfold Drum.wordsOf at d;cases e:pr[k]? with
   |none=>rw[e]at d;cases d
   |some v=>
    rw[e]at d;cases v with
    |numbers n x=>exact(ok _ (mem_of_getElem? e)).2.2.2 _ d
    |order n c o f=>unfold bM at b;rw[e]at b;cases b
inductive Et(Cm:Addr)(vs:List V)(H:Hp)(Q:VK)(E:XK):Prop
 |mk (m d tp pp:Addr) (M:Machine) (b:Bytes) (l:List Int) (h0_:vs=[.ref m,.ref tp,.ref pp]) (h1_:uj Cm H m d M) (h2_:H tp=some (.lst (b.map fun c=>V.int (c.toNat:Nat)))) (h3_:b.length≤40000) (h4_:H pp=some (.lst (l.map V.int))) (h5_:∀q H',bQ Cm H m d (fz M (.place b l)) q H'→Q (.ref q) H'):Et Cm vs H Q E
theorem F1(b:Bytes)(h:b.length≤40000):(i7 b).length≤100000:=by obtain⟨a,_⟩:=split_len 10 b;unfold i7;rw[length_append,length_map,length_dropLast];split<;>simp<;>omega
theorem Ka(T:Top K mg t):Fn P w K mg base 9 "place" ["machine","text","placing"] (Et t.aq):=by
 refine T.Lh.bC (N:=["machine","text","placing","rows"]) (fun nd f _ A outer s H _ Q E hr h=>?_);obtain⟨m,d,tp,pp,M,b,l,rfl,hM,Y,hb,F,k⟩:=h;refine⟨_,(af (aM (az mD (aF aO Z T.cX boot_len (aa (pv 1) ai)) (pk T.AW) (aB _)) (ah (ak (a3 (aa (pk T.c5) ai)))) aA)
  (af (aH 3 nd (bq (uW T) hr (aa (pv 1) ai)))
  (af (aM (az nz (bq (wY T) (hr.mono (by decide)) (aa (pv 3) ai)) a_ (aB _)) (ah (ak (a3 (aa (pk T.AX) ai)))) aA)
  (af (aM (az d6 (aF aO Z T.cX boot_len (aa (pv 2) ai)) (aF aO Z T.cX boot_len (aa (pv 3) ai)) (aB _)) (ah (ak (a3 (aa (pk T.c5) ai)))) aA)
  (af (aM (dJ (bJ (bq (LU T) (hr.mono (by decide)) (aa (pv 3) (aa (pv 2) ai))))) (ah (ak (a3 (aa (pk T.vt) ai)))) aA)
  (af (bu (bq (w_ T) (hr.mono (by decide)) (aa (pv 0) (aa (pv 3) (aa (pv 2) ai)))))
  (ah (ak (a3 (aa au ai)))))))))),?_⟩
 obtain⟨dx,hm⟩:=hM.b7.ins;have X:=F1 (b.map tH) (by rw[length_map];exact hb);have y:fz M (.place b l)=(match readProgram b with
   |.error _=>(M,[-6])
   |.ok p=>if l.length≠p.length then(M,[-1])else if sZ p l=false then(M,[-9])else(Drum.placed p (yG l),[0])):=by
  show(if DrumListSeed.LONGEST<b.length then _ else _)=_;rw[if_neg (by show¬65536<b.length;omega)];cases readProgram b<;>rfl
 have only:∀a H1,aI H H1→fz M (.place b l)=(M,a)→∀q,H1 q=none→Q (.ref q) (upd H1 q (.lst (a.map V.int))):=fun a H1 s1 e q hq=>by refine k q _ ?_;rw[e];exact bQ.only hM (s1.trans (aK hq)) (s1.free hq) ae
 refine⟨_,Z,tp,_,Z,.inl (aT.of Y),_,_,Z,Z,_,Z,?_⟩;rw[length_map];refine cS (fun b2=>absurd b2 (by omega)) (fun _=>?_);refine⟨_,Z,tp,b,Z,Y,hb,fun q H1 ws s1 hq G hR=>?_⟩;refine⟨_,Z,_,q,ws,_,Z,G,hR,fun c g=>Ek g,X,fun v H2 s2 W=>⟨Z,_,Z,?_⟩⟩;have r:=s1.trans s2;have I:jD b=(jk (i7 (b.map tH))).bind fun p=>if faultIn p=none then some p else none:=by rw[← DM.Kr];rfl
 rcases W with⟨rfl,c,g,hf⟩|⟨hv,b3⟩
 ·have o:readProgram b=.ok c:=by
   rw[g]at I;have i:jD b=some c:=by rw[I];show(if faultIn c=none then some c else none)=_;rw[if_pos hf]
   rcases mL b with⟨f,D,u⟩|⟨p,D,u⟩
   ·rw[i]at u;cases u
   ·rw[i]at u;cases u;exact D
  rw[o]at y;dsimp only at y;have bj:=Ek g;have a2:=hR.RN G g bj X;have hP:=a2.same s2;have O:ws.length=c.length:=hP.len;refine cB ⟨_,Z,pp,_,Z,.inl (aT.of (r _ _ F)),_,Z,q,_,Z,.inl (aT.of (s2 _ _ G)),Z,_,Z,?_⟩;rw[length_map,O];refine iO (fun _=>?_) (fun _=>?_)
  ·refine⟨one_le,only [-1] H2 r ?_⟩;rw[y,if_pos (by omega)]
  ·have B:l.length=c.length:=by omega
   rw[if_neg (by simpa using B)]at y;refine⟨_,Z,_,Z,_,q,pp,ws,c,l,Z,hP,r _ _ F,B,fun H3 s3=>⟨_,Z,?_⟩⟩;have j:=r.trans s3;cases n:sZ c l with
   |false=>
    refine cJ ⟨one_le,only [-9] H3 j ?_⟩;rw[y,n];rfl
   |true=>
    rw[n]at y;obtain⟨h1,h2⟩:=(ny B).mp n;have L:∀a∈yG l,a<2000:=fun a ha=>by obtain⟨z,hz,rfl⟩:=mem_map.mp ha;have:=h1 z hz;omega
    have R:l.map V.int=(yG l).map aY:=by unfold yG;rw[map_map];refine map_congr_left fun z hz=>?_;have:=h1 z hz;show V.int z=V.int ((z.toNat:Nat):Int);rw[show((z.toNat:Nat):Int)=z by omega]
    have u:fz M (.place b l)=(Drum.placed c (yG l),[0]):=y;rw[u]at k;refine cB ⟨_,Z,_,Z,_,Z,_,m,d,q,pp,M,ws,c,yG l,Z,hM.b7.same j,hP.same s3,fun x hx=>?_,by rw[← R];exact j _ _ F,by unfold yG;rw[length_map];exact B,L,hf,h2,fun d' _ b1 a1 J=>⟨one_le,fun q2 C=>k q2 _ ?_⟩⟩
    ·exact(aj hm hx.1).symm
    ·have S:H3 q2=none:=by
      cases e:H3 q2 with
      |none=>rfl
      |some w=>
       by_cases U:q2=m
       ·subst U;obtain⟨_,D⟩:=J.ins;rw[C]at D;cases D
       ·have:=a1 q2 w e (by simp;exact U);rw[C]at this;cases this
     exact⟨⟨d',.inr (j.free b1),J.same (aK C),IY bj L h2,by show(Drum.placed c (List.map Int.toNat l)).tick<WRAP;rw[pz h2];show 0<WRAP;decide⟩,((Kp.of j).trans (a1.mono (by simp))).trans (Kp.new C),j.free S,ae⟩
 ·have o:∃f,readProgram b=.error f:=by
   have i:jD b=none:=by
    rw[I];cases g:jk (i7 (b.map tH))with
    |none=>rfl
    |some c=>show(if faultIn c=none then some c else none)=_;rw[if_neg (b3 c g)]
   rcases mL b with⟨f,D,_⟩|⟨p,_,u⟩
   ·exact⟨f,D⟩
   ·rw[i]at u;cases u
  obtain⟨f0,o⟩:=o;rw[o]at y;have b9:(!decide (v=V.bV))=true:=by rw[decide_eq_false hv];rfl
  rw[b9];exact cJ ⟨one_le,only [-6] H2 r y⟩
noncomputable def pC(p:Addr)(i:Nat):List (Str×V):=[("numbers",.ref p),("at",.int (i:Nat))]
def jZ(K:Frag)(H:Hp)(p d:Addr)(xs:List V):Prop:=(∃(o:Obj) (a:Array Value) (n:Nat),K.lookup p=some o∧o.cls=.type "list"∧o.dict=none∧o.data=.seq a n∧a.size≤sizeLine∧Vals xs a.toList)∨(Rd H p (.lst xs)∧p≠d)
theorem jZ.sq(h:jZ K H p d xs):aT K H p xs:=by
 rcases h with h|h
 ·exact .inr h
 ·exact .inl h.1
theorem Rd.ex(h:Rd H p u):∃o,H p=some o:=by
 rcases h with h|⟨o,h⟩
 ·exact⟨_,h⟩
 ·exact⟨_,h⟩
theorem jZ.kp(h:jZ K H p d xs)(k:Kp ls H H')(b:Rd H p (.lst xs)→p≠d→p∉ls)(hd:d'=d∨H d'=none):jZ K H' p d' xs:=by
 rcases h with h|⟨h,a⟩
 ·exact .inl h
 ·have hn:=b h a;refine .inr ⟨?_,?_⟩
  ·rcases h with h|⟨o,h⟩
   ·exact .inl (k _ _ h hn)
   ·exact .inr ⟨o,k _ _ h hn⟩
  ·rcases hd with rfl|hd
   ·exact a
   ·obtain⟨o,e⟩:=Rd.ex h;exact aj e hd
theorem Eg(h:Rd H p (.lst xs))(ha:H a=some (.ins C b fs)):p≠a:=by
 rcases h with h|⟨o,h⟩
 ·exact dQ h ha (fun q=>nomatch q)
 ·exact dQ h ha (fun q=>nomatch q)
structure dZ(K:Frag)(Cm Cr:Addr)(H:Hp)(m d r p:Addr)(M:Machine)(l rest:List Int):Prop where
 mw:uj Cm H m d M
 kh:∃dx i,H r=some (.ins Cr dx (pC p i))∧l.drop i=rest∧i≤l.length
 num:jZ K H p d (l.map V.int)
 rm:r≠m
theorem dZ.rd(h:dZ K a b H m d r p M l rest):r≠d:=by obtain⟨c,i,e,_⟩:=h.kh;exact dQ e h.mw.b7.drum (fun q=>nomatch q)
theorem dZ.move{l b a:List Int}(h:dZ K g c H m d r p M l b)(k:Kp [r] H H')(j:∃f i,H' r=some (.ins c f (pC p i))∧l.drop i=a∧i≤l.length):dZ K g c H' m d r p M l a:=by obtain⟨f,i,e,_⟩:=h.kh;refine⟨⟨h.mw.b7.kp k (by simp;exact h.rm.symm) (by simp;exact h.rd.symm),h.mw.wf,h.mw.tk⟩,j,h.num.kp k (fun q _=>by simp;exact Eg q e) (.inl Z),h.rm⟩
theorem dZ.call{a:Machine×List Int}(h:dZ K b f H m d r p M l rest)(c:bQ b H m d a q H'):∃d',(d'=d∨H d'=none)∧dZ K b f H' m d' r p a.1 l rest:=by obtain⟨d',hd,j⟩:=c.ex;obtain⟨g,i,e,k⟩:=h.kh;obtain⟨o,em⟩:=h.mw.b7.ins;exact⟨d',hd,j,⟨g,i,c.kp _ _ e (by simp;exact⟨h.rm,h.rd⟩),k⟩,h.num.kp c.kp (fun z n=>by simp;exact⟨Eg z em,n⟩) hd,h.rm⟩
inductive mP(C:Addr)(vs:List V)(H:Hp)(Q:VK)(E:XK):Prop
 |mk (r dx p:Addr) (h0_:vs=[.ref r,.ref p]) (h1_:H r=some (.ins C dx [])) (h2_:Q .bV (upd H r (.ins C dx (pC p 0)))):mP C vs H Q E
theorem wQ(T:Top K mg t):KW P w K mg base 1 t.aQ ["self","numbers"] (mP t.aQ):=by
 refine T.JO.bC (N:=["self","numbers"]) (fun nd f _ A outer s H _ Q E _ h=>?_);obtain⟨r,b,p,rfl,a,k⟩:=h;refine⟨_,(af (aV (pv 0) (pv 1) Z)
  (ah (aV (pv 0) au Z))),?_⟩
 refine⟨_,Z,_,Z,r,_,b,_,Z,a,T.bA.cl,T.eJ,by show 0<1000;decide,?_⟩;refine⟨_,Z,r,_,b,_,Z,ae,T.bA.cl,T.ee,by show 1<1000;decide,?_⟩;rw[a9];exact k
inductive Aq(K:Frag)(Cm C:Addr)(vs:List V)(H:Hp)(Q:VK)(E:XK):Prop
 |mk (m d r p:Addr) (M:Machine) (l rest:List Int) (h0_:vs=[.ref r]) (h1_:dZ K Cm C H m d r p M l rest) (h2_:Q (.bl rest.isEmpty) H):Aq K Cm C vs H Q E
theorem rS(T:Top K mg t):I_ P w K mg base 1 t.aQ "at_end" ["self"] (Aq K t.aq t.aQ):=by
 refine T.uH.bC (N:=["self"]) (fun nd f _ A outer s H _ Q E _ h=>?_);obtain⟨m,d,r,p,M,l,rest,rfl,D,k⟩:=h;obtain⟨b,i,a,he,c⟩:=D.kh;refine⟨_,(ah (ak (d7 n8 (ay (pv 0) Z) (aF aO Z T.cX boot_len (aa (ay (pv 0) Z) ai)) (aB _)))),?_⟩;refine⟨_,Z,r,_,b,_,_,Z,a,T.bA.cl,T.ee,Z,_,Z,r,_,b,_,_,Z,a,T.bA.cl,T.eJ,Z,p,_,Z,.inl D.num.sq,_,_,Z,Z,?_⟩;have e:decide (((l.map V.int).length:Int)≤((i:Nat):Int))=rest.isEmpty:=by rw[length_map,← he,Bool.eq_iff_iff,decide_eq_true_eq,List.isEmpty_iff,List.drop_eq_nil_iff];omega
 dsimp only;rw[e];exact k
inductive G5(K:Frag)(Cm C:Addr)(vs:List V)(H:Hp)(Q:VK)(E:XK):Prop
 |mk (m d r p:Addr) (M:Machine) (l rest:List Int) (z:Int) (h0_:vs=[.ref r]) (h1_:dZ K Cm C H m d r p M l (z::rest)) (h2_:∀H',Kp [r] H H'→dZ K Cm C H' m d r p M l rest→Q (.int z) H'):G5 K Cm C vs H Q E
theorem drop_cons{l a:List Int}(h:l.drop i=z::a):l[i]?=some z∧l.drop (i+1)=a∧i+1≤l.length:=by
 have b:i<l.length:=Classical.byContradiction fun hn=>by rw[List.drop_eq_nil_iff.mpr (by omega)]at h;cases h
 rw[List.drop_eq_getElem_cons b]at h;injection h with c d
 exact⟨by rw[getElem?_eq_getElem b,c],d,b⟩
theorem cw(T:Top K mg t):I_ P w K mg base 1 t.aQ "take" ["self"] (G5 K t.aq t.aQ):=by
 refine T.yJ.bC (N:=["self"]) (fun nd f _ A outer s H _ Q E _ h=>?_);obtain⟨m,d,r,p,M,l,rest,z,rfl,D,k⟩:=h;obtain⟨a,i,b,he,n⟩:=D.kh;obtain⟨j,g2,g3⟩:=drop_cons he;refine⟨_,(af (sk (pv 0) au Fv)
  (ah (ak (bB a4 (ay (pv 0) Z) (aN iY (ay (pv 0) Z) au) (fun _ _=>rfl))))),?_⟩
 refine⟨_,Z,r,_,a,_,_,Z,b,T.bA.cl,T.ee,Z,_,_,Z,Z,a,_,b,by show 2<1000;decide,?_⟩;have g:aP "at" (V.int ((i:Int)+1)) (pC p i)=pC p (i+1):=rfl;rw[g];have kp:Kp [r] H (upd H r (.ins t.aQ a (pC p (i+1)))):=Kp.upd (by simp);have e:dZ K t.aq t.aQ (upd H r (.ins t.aQ a (pC p (i+1)))) m d r p M l rest:=D.move kp ⟨a,i+1,ae,g2,g3⟩;have c:EZ (l.map V.int) (((i+1:Nat):Int)-1)=some (.int z):=by rw[show((i+1:Nat):Int)-1=((i:Nat):Int)by omega];refine a5 ?_;rw[getElem?_map,j];rfl
 exact⟨_,Z,r,_,a,_,_,Z,ae,T.bA.cl,T.eJ,Z,_,Z,r,_,a,_,_,Z,ae,T.bA.cl,T.ee,Z,_,_,Z,Z,p,_,_,_,Z,Z,e.num.sq,c,k _ kp e⟩
inductive tM(K:Frag)(Cm C:Addr)(vs:List V)(H:Hp)(Q:VK)(E:XK):Prop
 |mk (m d r p:Addr) (M:Machine) (l x rest:List Int) (h0_:vs=[.ref r]) (h1_:dZ K Cm C H m d r p M l ((x.length:Int)::(x++rest))) (h2_:∀q H',Kp [r] H H'→dZ K Cm C H' m d r p M l rest→H q=none→H' q=some (.lst (x.map V.int))→Q (.ref q) H'):tM K Cm C vs H Q E
theorem fj(T:Top K mg t):I_ P w K mg base 2 t.aQ "take_row" ["self"] (tM K t.aq t.aQ):=by
 refine T.qi.bC (N:=["self","size","first"]) (fun nd f _ A outer s H _ Q E S h=>?_);obtain⟨m,d,r,p,M,l,x,rest,rfl,D,k⟩:=h;refine⟨_,(af (aH 1 nd (pA (pv 0) T.bA (cw T) S))
  (af (aH 2 nd (ay (pv 0) Z))
  (af (sk (pv 0) (pv 1) Fv)
  (ah (ak (eT jE (ay (pv 0) Z) (d8 (pv 2)) (d8 (ay (pv 0) Z)))))))),?_⟩
 obtain⟨v,X,j,_⟩:=D.kh;refine⟨_,Z,r,v,_,Z,j,Z,m,d,r,p,M,l,_,_,Z,D,fun H1 n J=>?_⟩;obtain⟨a,i,b,he,W⟩:=J.kh;refine⟨_,Z,r,_,a,_,_,Z,b,T.bA.cl,T.ee,Z,?_⟩;refine⟨_,Z,r,_,a,_,_,Z,b,T.bA.cl,T.ee,Z,_,Z,_,_,Z,Z,a,_,b,by show 2<1000;decide,?_⟩;have R:aP "at" (V.int ((i:Int)+(x.length:Int))) (pC p i)=pC p (i+x.length):=rfl;rw[R];have O:x.length+rest.length=l.length-i:=by have:=congrArg length he;rw[length_drop,length_append]at this;omega
 have B:l.drop (i+x.length)=rest:=by rw[← drop_drop,he,List.drop_append_of_le_length (Nat.le_refl _),drop_length,nil_append]
 have kp:Kp [r] H1 (upd H1 r (.ins t.aQ a (pC p (i+x.length)))):=Kp.upd (by simp);have L:dZ K t.aq t.aQ (upd H1 r (.ins t.aQ a (pC p (i+x.length)))) m d r p M l rest:=J.move kp ⟨a,i+x.length,ae,B,by omega⟩;refine⟨_,Z,r,_,a,_,_,Z,ae,T.bA.cl,T.eJ,Z,_,Z,_,Z,_,Z,r,_,a,_,_,Z,ae,T.bA.cl,T.ee,Z,_,Z,p,_,Z,L.num.sq,fun q c=>?_⟩;have g:q≠r:=fun z=>by rw[z,ae]at c;cases c
 have G:H1 q=none:=by rw[aw g]at c;exact c
 have F:H q=none:=by
  cases e:H q with
  |none=>rfl
  |some w=>have:=n q w e (by simp;exact g);rw[G]at this;cases this
 have u:=(n.trans kp).trans (Kp.new (o:=.lst (kM (l.map V.int) (some ((i:Nat):Int)) (some ((i+x.length:Nat):Int)))) c);obtain⟨y,U,I,C⟩:=L.kh;refine k q _ u (D.move u ⟨y,U,(aK c) _ _ I,C⟩) F ?_;rw[ae,show((i+x.length:Nat):Int)=((i:Nat):Int)+((x.length:Nat):Int)by omega,C5,← map_drop,he,← map_take,List.take_append_of_le_length (Nat.le_refl _),take_length]
inductive gI(K:Frag)(Cm Cr:Addr)(code:Int)(vs:List V)(H:Hp)(Q:VK)(E:XK):Prop
 |mk (m d r p:Addr) (M:Machine) (l rest t:List Int) (c:List (List Int)) (h0_:vs=[.ref m,.ref r]) (h1_:dZ K Cm Cr H m d r p M l rest) (h2_:Form code rest c t) (h3_:ListNeutral.asked1 c=true) (h4_:l.length≤29900) (h5_:∀q d' H',(d'=d∨H d'=none)→Kp [m,d,r] H H'→dZ K Cm Cr H' m d' r p (ListNeutral.step M c).1 l t→H q=none→H' q=some (.lst ((ListNeutral.step M c).2.map V.int))→Q (.ref q) H'):gI K Cm Cr code vs H Q E
theorem fW{K:Frag}{f g:Addr}{H H1 H':Hp}{m d r p q:Addr}{M:Machine}{l t:List Int}{a:Machine×List Int}{Q:VK}
 (k:∀q d' H',(d'=d∨H d'=none)→Kp [m,d,r] H H'→dZ K f g H' m d' r p a.1 l t→H q=none→H' q=some (.lst (a.2.map V.int))→Q (.ref q) H')(n:Kp [r] H H1)(D:dZ K f g H1 m d r p M l t)(c:bQ f H1 m d a q H'):Q (.ref q) H':=by
 obtain⟨d',hd,o⟩:=D.call c;obtain⟨s,i,h,_⟩:=D.kh;have old:∀y,H1 y=none→H y=none:=fun y j=>by
  cases e:H y with
  |none=>rfl
  |some w=>
   by_cases b:y=r
   ·subst b;rw[j]at h;cases h
   ·have:=n y w e (by simp;exact b);rw[j]at this;cases this
 exact k q d' H' (hd.imp id (old d')) ((n.mono (by simp)).trans (c.kp.mono (by simp))) o (old q c.new) c.RZ
theorem wW(T:Top K mg t):Fn P w K mg base 2 "answer_told" ["machine","reader"] (gI K t.aq t.aQ 6):=by refine T.yq.bC (N:=["machine","reader"]) (fun nd f _ A outer s H _ Q E b h=>?_);obtain⟨m,d,r,p,M,l,rest,e,c,rfl,D,F,ask,g,k⟩:=h;refine⟨_,(ah (ak (bq (LY T) b (aa (pv 0) ai)))),?_⟩;cases F;exact⟨_,Z,m,d,M,Z,D.mw,fun q H' a=>fW k (Kp.refl _ _) D a⟩
theorem rT(T:Top K mg t):Fn P w K mg base 3 "answer_rewind" ["machine","reader"] (gI K t.aq t.aQ 7):=by refine T.ur.bC (N:=["machine","reader"]) (fun nd f _ A outer s H _ Q E b h=>?_);obtain⟨m,d,r,p,M,l,rest,e,c,rfl,D,F,ask,g,k⟩:=h;refine⟨_,(ah (ak (bq (Ik T) b (aa (pv 0) ai)))),?_⟩;cases F;exact⟨_,Z,m,d,M,Z,D.mw,fun q H' a=>fW k (Kp.refl _ _) D a⟩
theorem uN(T:Top K mg t):Fn P w K mg base 9 "answer_reach" ["machine","reader"] (gI K t.aq t.aQ 8):=by refine T.vI.bC (N:=["machine","reader"]) (fun nd f _ A outer s H _ Q E b h=>?_);obtain⟨m,d,r,p,M,l,rest,e,c,rfl,D,F,ask,g,k⟩:=h;refine⟨_,(ah (ak (bq (Kb T) b (aa (pv 0) ai)))),?_⟩;cases F;exact⟨_,Z,m,d,M,Z,D.mw,fun q H' a=>fW k (Kp.refl _ _) D a⟩
theorem yS(T:Top K mg t):Fn P w K mg base 9 "answer_why" ["machine","reader"] (gI K t.aq t.aQ 9):=by refine T.Bm.bC (N:=["machine","reader"]) (fun nd f _ A outer s H _ Q E b h=>?_);obtain⟨m,d,r,p,M,l,rest,e,c,rfl,D,F,ask,g,k⟩:=h;refine⟨_,(ah (ak (bq (NU T) b (aa (pv 0) ai)))),?_⟩;cases F;exact⟨_,Z,m,d,M,Z,D.mw,fun q H' a=>fW k (Kp.refl _ _) D a⟩
theorem wV(T:Top K mg t):Fn P w K mg base 9 "answer_text" ["machine","reader"] (gI K t.aq t.aQ 10):=by refine T.yp.bC (N:=["machine","reader"]) (fun nd f _ A outer s H _ Q E b h=>?_);obtain⟨m,d,r,p,M,l,rest,e,c,rfl,D,F,ask,g,k⟩:=h;refine⟨_,(ah (ak (bq (B4 T) b (aa (pv 0) ai)))),?_⟩;cases F;exact⟨_,Z,m,d,M,Z,D.mw,fun q H' a=>fW k (Kp.refl _ _) D a⟩
theorem qu(T:Top K mg t):Fn P w K mg base 9 "answer_placing" ["machine","reader"] (gI K t.aq t.aQ 11):=by refine T.rg.bC (N:=["machine","reader"]) (fun nd f _ A outer s H _ Q E b h=>?_);obtain⟨m,d,r,p,M,l,rest,e,c,rfl,D,F,ask,g,k⟩:=h;refine⟨_,(ah (ak (bq (uX T) b (aa (pv 0) ai)))),?_⟩;cases F;exact⟨_,Z,m,d,M,Z,D.mw,fun q H' a=>fW k (Kp.refl _ _) D a⟩
theorem yQ(T:Top K mg t):Fn P w K mg base 4 "answer_new" ["machine","reader"] (gI K t.aq t.aQ 1):=by
 refine T.Bh.bC (N:=["machine","reader"]) (fun nd f _ A outer s H _ Q E e h=>?_);obtain⟨m,d,r,p,M,l,rest,o,c,rfl,D,F,ask,u,k⟩:=h;refine⟨_,(ah (ak (bq (NS T) e (aa (pv 0) (aa (pA (pv 1) T.bA (cw T) (e.mono (by decide))) ai))))),?_⟩;obtain⟨j,i,n,_⟩:=D.kh;cases F with
 |new x _=>
  exact⟨_,Z,_,Z,r,j,_,Z,n,Z,m,d,r,p,M,l,_,_,Z,D,fun H1 a b=>⟨m,d,M,x,Z,b.mw,fun q H' g=>fW k a b g⟩⟩
theorem wR(T:Top K mg t):Fn P w K mg base 3 "answer_peek" ["machine","reader"] (gI K t.aq t.aQ 3):=by
 refine T.yn.bC (N:=["machine","reader"]) (fun nd f _ A outer s H _ Q E e h=>?_);obtain⟨m,d,r,p,M,l,rest,o,c,rfl,D,F,ask,u,k⟩:=h;refine⟨_,(ah (ak (bq (LW T) e (aa (pv 0) (aa (pA (pv 1) T.bA (cw T) (e.mono (by decide))) ai))))),?_⟩;obtain⟨j,i,n,_⟩:=D.kh;cases F with
 |peek x _=>
  exact⟨_,Z,_,Z,r,j,_,Z,n,Z,m,d,r,p,M,l,_,_,Z,D,fun H1 a b=>⟨m,d,M,x,Z,b.mw,fun q H' g=>fW k a b g⟩⟩
theorem wU(T:Top K mg t):Fn P w K mg base 3 "answer_poke" ["machine","reader"] (gI K t.aq t.aQ 2):=by
 refine T.yo.bC (N:=["machine","reader","address","word"]) (fun nd f _ A outer s H _ Q E e h=>?_);obtain⟨m,d,r,p,M,l,rest,B,c,rfl,D,F,ask,C,k⟩:=h;refine⟨_,(af (aH 2 nd (pA (pv 1) T.bA (cw T) (e.mono (by decide))))
  (af (aH 3 nd (pA (pv 1) T.bA (cw T) (e.mono (by decide))))
  (ah (ak (bq (LX T) e (aa (pv 0) (aa (pv 2) (aa (pv 3) ai)))))))),?_⟩
 obtain⟨y,i,z,_⟩:=D.kh;cases F with
 |poke x v _=>
  refine⟨_,Z,r,y,_,Z,z,Z,m,d,r,p,M,l,_,_,Z,D,fun H1 g n=>?_⟩;obtain⟨a,G,b,_⟩:=n.kh;refine⟨_,Z,r,a,_,Z,b,Z,m,d,r,p,M,l,_,_,Z,n,fun _ j o=>?_⟩;exact⟨_,Z,_,Z,_,Z,m,d,M,x,v,Z,o.mw,fun q H' u=>fW k (g.trans j) o u⟩
theorem Ho{x:List Int}(h:(x.all fun z=>decide (0≤z)&&decide (z≤255))=true):x.map V.int=(ListNeutral.bytesOf x).map fun c=>V.int (c.toNat:Nat):=by unfold ListNeutral.bytesOf;rw[map_map];refine map_congr_left fun z a=>?_;have:=all_eq_true.mp h z a;rw[Bool.and_eq_true,decide_eq_true_eq,decide_eq_true_eq]at this;show V.int z=V.int (((UInt8.ofNat z.toNat).toNat:Nat):Int);rw[UInt8.toNat_ofNat'];congr 1;omega
theorem yR(T:Top K mg t):Fn P w K mg base 9 "answer_run" ["machine","reader"] (gI K t.aq t.aQ 5):=by
 refine T.Bj.bC (N:=["machine","reader","most","cards"]) (fun nd f _ A outer s H _ Q E j h=>?_);obtain⟨m,d,r,p,M,l,rest,I,c,rfl,D,F,ask,J,k⟩:=h;refine⟨_,(af (aH 2 nd (pA (pv 1) T.bA (cw T) (j.mono (by decide))))
  (af (aH 3 nd (pA (pv 1) T.bA (fj T) (j.mono (by decide))))
  (ah (ak (bq (NT T) j (aa (pv 0) (aa (pv 2) (aa (pv 3) ai)))))))),?_⟩
 obtain⟨z,i,B,_⟩:=D.kh;cases F with
 |run o x _=>
  refine⟨_,Z,r,z,_,Z,B,Z,m,d,r,p,M,l,_,_,Z,D,fun H1 n a=>?_⟩;obtain⟨b,L,e,_⟩:=a.kh;refine⟨_,Z,r,b,_,Z,e,Z,m,d,r,p,M,l,x,_,Z,a,fun G _ u v g C=>?_⟩;exact⟨_,Z,_,Z,_,Z,m,d,G,M,o,x,Z,v.mw,C,(aj a.mw.b7.drum g).symm,fun q H' y=>fW k (n.trans u) v y⟩
theorem uM(T:Top K mg t):Fn P w K mg base 10 "answer_place" ["machine","reader"] (gI K t.aq t.aQ 4):=by
 refine T.vH.bC (N:=["machine","reader","text","placing"]) (fun nd f _ A outer s H _ Q E u h=>?_);obtain⟨m,d,r,p,M,l,rest,W,c,rfl,D,F,ask,X,k⟩:=h;refine⟨_,(af (aH 2 nd (pA (pv 1) T.bA (fj T) (u.mono (by decide))))
  (af (aH 3 nd (pA (pv 1) T.bA (fj T) (u.mono (by decide))))
  (ah (ak (bq (Ka T) u (aa (pv 0) (aa (pv 2) (aa (pv 3) ai)))))))),?_⟩
 obtain⟨L,i,G,n,_⟩:=D.kh;cases F with
 |place x y _=>
  have R:x.length≤29900:=by have:=congrArg length n;rw[length_drop,length_cons,length_append]at this;omega
  refine⟨_,Z,r,L,_,Z,G,Z,m,d,r,p,M,l,x,_,Z,D,fun z H1 v B o O=>?_⟩;obtain⟨g,Y,j,_⟩:=B.kh;refine⟨_,Z,r,g,_,Z,j,Z,m,d,r,p,M,l,y,_,Z,B,fun U I e C _ S=>?_⟩;have a:z≠r:=(aj G o).symm;have b:I z=some (.lst (x.map V.int)):=e _ _ O (by simp;exact a);rw[Ho ask]at b;refine⟨_,Z,_,Z,_,Z,m,d,z,U,M,ListNeutral.bytesOf x,y,Z,C.mw,b,by unfold ListNeutral.bytesOf;rw[length_map];omega,S,fun q H' J=>fW k (v.trans e) C J⟩
theorem Jr(T:Top K mg t){code:Int}{b d:List Int}{c:List (List Int)}(F:Form code b c d):∃a,bH (wx t) (Sum.inl code)=some (.ref a)∧Mz P w K mg base 10 a (gI K t.aq t.aQ code):=by
 cases F with
 |new _ _=>exact⟨_,Z,(yQ T).val T.ig (by decide)⟩
 |poke _ _ _=>exact⟨_,Z,(wU T).val T.gL (by decide)⟩
 |peek _ _=>exact⟨_,Z,(wR T).val T.gK (by decide)⟩
 |place _ _ _=>exact⟨_,Z,(uM T).val T.fR (by decide)⟩
 |run _ _ _=>exact⟨_,Z,(yR T).val T.ik (by decide)⟩
 |told _=>exact⟨_,Z,(wW T).val T.gN (by decide)⟩
 |rewind _=>exact⟨_,Z,(rT T).val T.eV (by decide)⟩
 |reach _=>exact⟨_,Z,(uN T).val T.fS (by decide)⟩
 |why _=>exact⟨_,Z,(yS T).val T.il (by decide)⟩
 |text _=>exact⟨_,Z,(wV T).val T.gM (by decide)⟩
 |placing _=>exact⟨_,Z,(qu T).val T.eC (by decide)⟩
theorem dZ.RJ{l a:List Int}(D:dZ K b c H m d r p M l a)(hn:jZ K H p g (l.map V.int))(j:g≠m)(gd:g≠d)(n:g≠r)(k:Kp [g] H H'):dZ K b c H' m d r p M l a∧jZ K H' p g (l.map V.int):=by
 obtain⟨f,i,e,q⟩:=D.kh;refine⟨⟨⟨D.mw.b7.kp k (by simp;exact j.symm) (by simp;exact gd.symm),D.mw.wf,D.mw.tk⟩,⟨f,i,k _ _ e (by simp;exact n.symm),q⟩,?_,D.rm⟩,hn.kp k (fun _ z=>by simp;exact z) (.inl Z)⟩;rcases hn with h|⟨_,o⟩
 ·exact .inl h
 ·exact D.num.kp k (fun _ _=>by simp;exact o) (.inl Z)
inductive lu(K:Frag)(vs:List V)(H:Hp)(Q:VK)(E:XK):Prop
 |mk (p:Addr) (l:List Int) (h0_:vs=[.ref p]) (h1_:aT K H p (l.map V.int)) (h2_:l.length≤29900) (h3_:PyWqdrme.answers_asked l=true) (h4_:∀H' q,H' q=some (.lst ((PyWqdrme.answers l).map V.int))→Q (.ref q) H'):lu K vs H Q E
structure QC(K:Frag)(Cm Cr:Addr)(H:Hp)(m d r p g:Addr)(M:Machine)(l rest out:List Int)(cs:List (List (List Int))):Prop where
 D:dZ K Cm Cr H m d r p M l rest
 ng:jZ K H p g (l.map V.int)
 gl:H g=some (.lst (out.map V.int))
 gd:g≠d
 cf:∃f,DM.oH f rest=some cs
 ask:∀c∈cs,ListNeutral.asked1 c=true
 eq:PyWqdrme.answers l=out++PyFlat.told (DM.Al M cs)
def Ol(K:Frag)(e f:Addr)(m r p g:Addr)(l:List Int)(n:Nat)(j:L2.St)(H:Hp):Prop:=(∃h i,j=[some (.ref p),some (.ref m),some (.ref r),some (.ref g),h,i])∧∃d M a b c,QC K e f H m d r p g M l a b c∧n=c.length
theorem FH(T:Top K mg t)(F:KU K "answers" "answers" sr f fd):jY P w K mg base EY 11 f fd ["calls"] (lu K):=by
 have nd:=xI.nd;refine F.ok xI (fun vs H Q E h=>?_) (fun _ A outer s H vs Q E hr h=>?_)
 ·obtain⟨p,l,rfl,_⟩:=h;rfl
 ·obtain⟨p,l,rfl,hp,hl,S,k⟩:=h;refine⟨_,(af (aH 1 nd (Og T.ao (uJ T) (hr.mono (by decide)) (aa au ai)))
   (af (aH 2 nd (Og T.bA (wQ T) (hr.mono (by decide)) (aa (pv 0) ai)))
   (af (aH 3 nd (a3 ai))
   (af (mK PassesOwn.never (dJ (bJ (pA (pv 2) T.bA (rS T) (hr.mono (by decide))))) (af (aH 4 nd (qD (pk T.K8) (pA (pv 2) T.bA (cw T) (hr.mono (by decide))) (fun _ _=>rfl)))
   (af (aH 5 nd (qC (pv 4) hr (aa (pv 1) (aa (pv 2) ai))))
   (af (bu (mG PySem.F.plainAttrs_list PySem.F.slot_list_append PySem.F.type_list_append fJ (pv 3) (aa (aF aO Z T.cX boot_len (aa (pv 5) ai)) ai)))
   (ah (bu (mG PySem.F.plainAttrs_list PySem.F.slot_list_extend PySem.F.type_list_extend rQ (pv 3) (aa (pv 5) ai))))))))
   (ah (ak (pv 3))))))),?_⟩
  obtain⟨c1,c9,c3,R,hlen⟩:=DM.CL S;intro m dm Y d2 f0;have sA:aI H (upd (upd H dm (.own m)) m (.ins t.aq dm [])):=fun y w e=>by rw[aw (aj e Y),aw (aj e d2)];exact e
  refine⟨m,dm,0,Z,ae,fun d H1 hd N e5=>⟨Z,?_⟩⟩;have s1:aI H H1:=fun y w e=>e5 _ _ (sA _ _ e) (by simp;exact aj e Y);have d0:H d=none:=sA.free hd;refine⟨_,Z,?_⟩;intro r b C X f1;have f5:aI H1 (upd (upd H1 b (.own r)) r (.ins t.aQ b [])):=fun y w e=>by rw[aw (aj e C),aw (aj e X)];exact e
  refine⟨r,b,p,Z,ae,Z,?_⟩;rw[a9];have sC:aI H1 (upd (upd H1 b (.own r)) r (.ins t.aQ b (pC p 0))):=fun y w e=>by rw[aw (aj e C),aw (aj e X)];exact e
  have e4:upd (upd H1 b (.own r)) r (.ins t.aQ b (pC p 0)) r=some (.ins t.aQ b (pC p 0)):=ae;generalize upd (upd H1 b (.own r)) r (.ins t.aQ b (pC p 0))=H2 at*;refine⟨by rw[sizeLine_eq];exact Nat.zero_le _,fun g hg=>?_⟩;have sG:=aK (o:=.lst []) hg;have b3:=s1.trans sC;have b9:=b3.trans sG;have e0:H g=none:=b3.free hg;have O:=(N.same sC);have e1:g≠d:=(aj O.drum hg).symm;have e3:r≠m:=by obtain⟨_,e⟩:=N.ins;exact(aj e C).symm
  have v:∀y,H y=none→jZ K H p y (l.map V.int):=fun y hy=>by
   rcases hp with h|h
   ·obtain⟨o,e⟩:=Rd.ex h;exact .inr ⟨h,aj e hy⟩
   ·exact .inl h
  have D0:dZ K t.aq t.aQ (upd H2 g (.lst [])) m d r p (new 0) l l:=⟨⟨O.same sG,KL (by decide),by show 0<WRAP;decide⟩,⟨b,0,sG _ _ e4,Z,Nat.zero_le _⟩,(v d d0).kp (ls:=[]) (Kp.of b9) (fun _ _=>by simp) (.inl Z),e3⟩;refine⟨Ol K t.aq t.aQ m r p g l,⟨_,⟨none,none,Z⟩,d,new 0,l,[],c1,⟨D0,(v g e0).kp (ls:=[]) (Kp.of b9) (fun _ _=>by simp) (.inl Z),ae,e1,⟨_,c9⟩,c3,R⟩,Z⟩,?_⟩;rintro n σ H3 ⟨⟨v4,v5,rfl⟩,d3,M,rest,out,cs,I,rfl⟩;obtain⟨dx,i,er,_⟩:=I.D.kh;refine⟨_,Z,r,dx,_,Z,er,Z,m,d3,r,p,M,l,rest,Z,I.D,_,Z,?_⟩;obtain⟨f,U⟩:=I.cf;cases rest with
  |nil=>
   have hc:=DM.zQ U;subst hc;refine cB ⟨_,Z,k H3 g ?_⟩;rw[I.gl,I.eq];show _=some (HO.lst ((out++[]).map V.int));rw[append_nil]
  |cons code j=>
   obtain⟨f',c,c0,x,F,W,rfl⟩:=DM.vx U;have B:=I.eq;rw[DM.IP]at B;refine cJ ⟨fun σ' H'=>∃m',m'<(c::x).length∧Ol K t.aq t.aQ m r p g l m' σ' H',fun σ' H' h=>h,?_⟩;obtain⟨a,a2,hf⟩:=Jr (P:=P) (w:=w) (base:=base) T F;refine⟨_,Z,r,dx,_,Z,er,Z,m,d3,r,p,M,l,j,code,Z,I.D,fun H4 b1 D4=>⟨_,_,Sum.inl code,_,Z,T.LA,Z,a2,?_⟩⟩;obtain⟨f3,i4,c2,_⟩:=D4.kh;have gr:g≠r:=dQ I.gl er (fun q=>nomatch q);have u:H4 g=some (.lst (out.map V.int)):=b1 _ _ I.gl (by simp;exact gr);have e6:jZ K H4 p g (l.map V.int):=I.ng.kp b1 (fun q _=>by simp;exact Eg q er) (.inl Z);obtain⟨f2,J⟩:=D4.mw.b7.ins;have gm:g≠m:=dQ u J (fun q=>nomatch q);refine⟨_,Z,a,_,Z,hf,_,Z,_,Z,m,d3,r,p,M,l,j,c0,c,Z,D4,F,I.ask c (mem_cons_self ..),hl,fun q d5 G d1 b2 D5 hq a1=>?_⟩;have L:G g=some (.lst (out.map V.int)):=b2 _ _ u (by simp;exact⟨gm,I.gd,gr⟩);have z:g≠d5:=by
    rcases d1 with h|h
    ·rw[h];exact I.gd
    ·exact aj u h
   have e7:jZ K G p g (l.map V.int):=by
    rcases e6 with h|⟨h1,h2⟩
    ·exact .inl h
    ·rcases D4.num with h|⟨h3,h4⟩
     ·exact .inl h
     ·refine(show jZ K H4 p g _ from .inr ⟨h1,h2⟩).kp b2 (fun _ _=>by simp;exact⟨Eg h1 J,h4,Eg h1 c2⟩) (.inl Z)
   have gq:q≠g:=(aj u hq).symm;have f4:out.length+((ListNeutral.step M c).2.length+1)≤10000000:=by have:=congrArg List.length B;rw[length_append,length_append,length_cons]at this;omega
   refine⟨_,Z,.inl ⟨Z,_,aT.of L⟩,_,Z,q,_,Z,.inl (aT.of a1),g,_,_,Z,Z,L,by rw[length_map,sizeLine_eq];omega,?_⟩;have k6:Kp [g] G (upd G g (.lst (out.map V.int++[V.int (((ListNeutral.step M c).2.map V.int).length:Nat)]))):=Kp.upd (by simp);obtain⟨D6,e8⟩:=D5.RJ e7 gm z gr k6;have e2:upd G g (.lst (out.map V.int++[V.int (((ListNeutral.step M c).2.map V.int).length:Nat)])) q=some (.lst ((ListNeutral.step M c).2.map V.int)):=by rw[aw gq];exact a1
   refine⟨_,Z,.inl ⟨Z,_,aT.of ae⟩,_,Z,g,q,_,_,Z,Z,ae,e2,by rw[length_append,length_map,length_map,sizeLine_eq];show _+1+_≤_;omega,?_⟩;obtain⟨D7,e9⟩:=D6.RJ e8 gm z gr (H':=upd (upd G g (.lst (out.map V.int++[V.int (((ListNeutral.step M c).2.map V.int).length:Nat)]))) g (.lst ((out.map V.int++[V.int (((ListNeutral.step M c).2.map V.int).length:Nat)])++(ListNeutral.step M c).2.map V.int))) (Kp.upd (by simp));refine⟨x.length,by rw[length_cons];omega,⟨_,_,Z⟩,d5,(ListNeutral.step M c).1,c0,out++(((ListNeutral.step M c).2.length:Int)::(ListNeutral.step M c).2),x,⟨D7,e9,?_,z,⟨f',W⟩,fun c' c4=>I.ask c' (mem_cons_of_mem _ c4),?_⟩,Z⟩
   ·rw[ae,map_append,map_cons,append_assoc,length_map];rfl
   ·rw[B,append_assoc]
end
end My
namespace My
open PySem PySem.Spec PyProof.Rows L2
section
variable {P:Program} {w:World} {K:Frag} {mg:Str→Option Value} {h:Heap} {C:Addr} {m q x:Str} {st:Stmt} {ps:List Str} {f:Addr} {oc kV dc pm cd ct:Value} {od an:Option Addr} {sl:Array (Option Value)}
theorem JK(X:K.In h)(G:h.Ns mainGlobals mg)(a:nsIn K mainGlobals x=some (some (.ref f)))(l:K.lookup f=some ⟨oc,od,.func (fnOf x x (gS st) (cI st) (aL st) .none kV dc pm an cd ct),sl⟩)(c:codeIn K cd x=true)(k:keepIn K (.ref f)=true)
 (b:∀(kV e pm:Value) (an:Option Addr) (d ct:Value) (us:List Value),us.length=ps.length→bindArgs (fnOf x x (gS st) (cI st) (aL st) .none kV e pm an d ct) ⟨us,[]⟩=pure (ps.zip us)):aD K mg x st ps:=
 ⟨f,_,rB l c k,mg_of X G a,(rB l c k).binds b⟩
theorem Ic(a:findIn K (.ref C) m=some (some (.ref f)))(i:isFn K (.ref f)=true)(l:K.lookup f=some ⟨oc,od,.func (fnOf m q (gS st) (cI st) (aL st) .none kV dc pm an cd ct),sl⟩)(c:codeIn K cd q=true)(k:keepIn K (.ref f)=true)
 (b:∀(kV e pm:Value) (an:Option Addr) (d ct:Value) (us:List Value),us.length=ps.length→bindArgs (fnOf m q (gS st) (cI st) (aL st) .none kV e pm an d ct) ⟨us,[]⟩=pure (ps.zip us)):MethAt K C m q st ps:=
 ⟨f,_,rB l c k,⟨a,i,k⟩,(rB l c k).binds b⟩
theorem HS(a:findIn K (.ref C) "__init__"=some (some (.ref f)))(i:isFn K (.ref f)=true)(l:K.lookup f=some ⟨oc,od,.func (fnOf "__init__" q (gS st) (cI st) (aL st) .none kV dc pm an cd ct),sl⟩)(c:codeIn K cd q=true)(k:keepIn K (.ref f)=true)
 (b:∀(kV e pm:Value) (an:Option Addr) (d ct:Value) (us:List Value),us.length=ps.length→bindArgs (fnOf "__init__" q (gS st) (cI st) (aL st) .none kV e pm an d ct) ⟨us,[]⟩=pure (ps.zip us)):iH K C q st ps:=
 ⟨f,_,rB l c k,a,i,(rB l c k).binds b⟩
theorem Jt(X:K.In h)(G:h.Ns mainGlobals mg)(a:nsIn K mainGlobals x=some (some (.ref C)))(pg:plainGet K C Str.empty=true)(hd:hasDictIn K C=true)(po:plainOver K C=true)(sa:findIn K (.ref C) "__setattr__"=some (some (.builtin "object.__setattr__")))(mk:makesIn K C=true)(b:keepIn K (.ref C)=true):ClsAt K mg x C:=
 ⟨⟨pg,hd,po,sa⟩,mg_of X G a,mk,b⟩
theorem Pz(X:K.In h)(G:h.Ns mainGlobals mg)(a:nsIn K mainGlobals x=some (some u))(r:RelV v u):GC mg x v:=⟨u,mg_of X G a,r⟩
theorem LI{b:Array Value}(l:K.lookup a=some ⟨.type "tuple",od,.seq b n,sl⟩)(d:b.size≤sizeLine)(c:Vals xs b.toList):dj K a xs:=⟨_,b,n,l,Z,Z,d,c⟩
def DR:List DictEntry→List (Key×V)→Prop
 |[],[]=>True
 |e::c,b::a=>(∃i t,b.1=Sum.inl i∧e.key=.int i t∧e.hash=hashInt i∧RelV b.2 e.val)∧DR c a
 |_,_=>False
theorem DR.ok{a:List DictEntry}:∀{kvs:List (Key×V)},DR a kvs→KV kvs (a.zip kvs |>.map fun u=>(u.2.1,u.1.val))∧(∀(P:Program) (w:World),(∀e∈a,∃k,(bp P w).is k e.key=true∧e.hash=(bp P w).hash k)∧Pairs (bp P w) a (a.zip kvs |>.map fun u=>(u.2.1,u.1.val)))∧(a.zip kvs |>.map fun u=>(u.2.1,u.1.val)).map (·.1)=kvs.map (·.1):=by
 induction a with
 |nil=>
  intro kvs h;cases kvs with
  |nil=>exact⟨.nil,fun _ _=>⟨fun _ h=>absurd h not_mem_nil,.nil⟩,Z⟩
  |cons=>exact False.elim h
 |cons e a r=>
  intro kvs h;cases kvs with
  |nil=>exact False.elim h
  |cons g kvs=>
   obtain⟨⟨i,t,d,l,n,o⟩,p⟩:=h;obtain⟨s,k2,v⟩:=r p;have c:∀(P:Program) (w:World),(bp P w).is g.1 e.key=true:=fun P w=>by rw[d,l];exact z7 i t
   refine⟨.cons ⟨Z,o⟩ s,fun P w=>⟨fun j b=>?_,.cons (c P w) Z (k2 P w).2⟩,?_⟩
   ·rcases mem_cons.mp b with rfl|b
    ·exact⟨g.1,c P w,by rw[d];exact n⟩
    ·exact(k2 P w).1 j b
   ·rw[List.zip_cons_cons,map_cons,map_cons,v];rfl
theorem JY{kvs:List (Key×V)}{a:Array DictEntry}(l:K.lookup d=some ⟨.type "dict",none,.dict a n,#[]⟩)(c:(d==sysModules)=false)(g:kvs.length≤sizeLine)(hd:DR a.toList kvs)(hn:(kvs.map (·.1)).Nodup):vn K d kvs:=by obtain⟨i,k2,j⟩:=DR.ok hd;refine⟨c,g,_,n,i,fun P w h X=>⟨_,a,X _ _ l,⟨Z,Z,Z⟩,Z,fun e b=>(k2 P w).1 e (Array.mem_toList_iff.mpr b),(k2 P w).2,by rw[j];exact hn⟩⟩
end
end My
namespace My
open PySem PySem.Spec PyProof.Rows L2
def Al:Nat→(List Value→Prop)→Prop
 |0,p=>p []
 |n+1,p=>∀a,Al n fun l=>p (a::l)
theorem allOf{n:Nat}:∀{us:List Value} {p:List Value→Prop},us.length=n→Al n p→p us:=by
 induction n with
 |zero=>intro us p e h;rw[List.length_eq_zero_iff.mp e];exact h
 |succ n b=>
  intro us p e h;cases us with
  |nil=>cases e
  |cons a l=>exact b (p:=fun l=>p (a::l)) (Nat.succ.inj e) (h a)
theorem fin{P:Program}{w:World}{K:PySem.W.Frag}{mg:Str→Option Value}{t:hG}{c:Addr}(T:Top K mg t)(b:mg "answers"=some (.ref c)):∃a:FuncData,(∀(s:Shared) (us:List Value),us.length=(["calls"]:List Str).length→BindsTo s a ⟨us,[]⟩ ((["calls"]:List Str).zip us))∧∀base:Heap,K.In base→base.Ns mainGlobals mg→jY P w K mg base EY 11 c a ["calls"] (lu K):=by obtain⟨f,a,F,hm,k⟩:=T.Hz;have e:=b.symm.trans hm;cases e;have d:=F;obtain⟨m,od,kV,doc,pm,an,g,ct,j,rfl,l,h⟩:=d.ex;exact⟨_,fun s us i=>by apply allOf i;intro _;exact .of_eq rfl,fun base _ _=>FH T F⟩
theorem Ob{K:PySem.W.Frag}{mg:Str→Option Value}{A0 A1 A2 A3 A4 A5 A6 A7 A8 A9 a b c d e f g i j k l m n o p q r s u v w x y z A B C D E F G H I J L M N O P Q R S T U V X Y a1 a2 b1 b2 b3 b9 c0 c1 c2 c3 c4 c9 d0 d1 d2 d3 d5 e0 e1 e2 e3 e4 e5 e6 e7:Addr}(h:Top K mg ⟨A0,A1,A2,A3,A4,A5,A6,A7,A8,A9,a,b,c,d,e,f,g,i,j,k,l,m,n,o,p,q,r,s,u,v,w,x,y,z,A,B,C,D,E,F,G,H,I,J,L,M,N,O,P,Q,R,S,T,U,V,X,Y,a1,a2,b1,b2,b3,b9,c0,c1,c2,c3,c4,c9,d0,d1,d2,d3,d5,e0,e1,e2,e3,e4,e5,e6,e7⟩):∃t,Top K mg t:=⟨_,h⟩
end My
section
open PySem PySem.W PyProof.Rows My
theorem PySem.Challenge.cw_drumback_s01_answers_holds : PySem.Challenge.rw_drumback_s01_answers.Holds := by
 refine My.hd ?_
 k_fillS
 refine L2.Gg (r:=PySem.Challenge.rw_drumback_s01_answers) (k:=11) (CX:=L2.EY) (ps:=["calls"]) (sp:=My.lu) (by decide +kernel) rfl rfl ⟨rfl,by decide,by decide⟩ (fun w h Y=>PySem.W.kIn_of Y) ?F ?S (fun _ _ _ _ z=>z)
 case F=>
  intro w mg o h Y n G d;obtain⟨t,T⟩:∃t,My.Top _ mg t:=by
   refine' My.Ob ?T
   case T=>
    constructor
    all_goals (try dsimp only[eG,ji,jX,wy,wx])
    all_goals (try (refine' Jt (by assumption) (by assumption) ?g0 ?g1 ?g2 ?g3 ?g4 ?g5 ?g6;(case g0=>k_is);(case g1=>k_is);(case g2=>k_is);(case g3=>k_is);(case g4=>k_is);(case g5=>k_is);(case g6=>k_is)))
    all_goals (try (refine' Pz (by assumption) (by assumption) ?g0 ?g1;(case g0=>k_is);(case g1=>first|exact⟨_,rfl⟩|exact rfl)))
    all_goals (try (refine' PySem.W.mg_of (by assumption) (by assumption) ?g0;(case g0=>k_is)))
    all_goals (try (refine' JY ?g0 ?g1 ?g2 ?g3 ?g4;(case g0=>k_is);(case g1=>exact rfl);(case g3=>(repeat' (first|exact trivial|refine⟨⟨_,_,rfl,rfl,rfl,rfl⟩,?_⟩)));(case g2=>exact(by decide));(case g4=>exact(by decide +kernel))))
    all_goals (try (refine' LI ?g0 ?g1 ?g2;(case g0=>k_is);(case g1=>exact(by decide));(case g2=>(repeat' (first|exact .nil|exact .cons ⟨_,rfl⟩ .nil|exact .cons rfl .nil|refine .cons ⟨_,rfl⟩ ?_|refine .cons rfl ?_)))))
    all_goals (try (show PySem.W.findIn _ _ _=_;k_is))
    all_goals (try (refine' PySem.W.mg_none_of (by assumption) (by assumption) ?g0;(case g0=>k_is)))
    all_goals (try (first|rfl|decide +kernel))
    all_goals (try (refine' JK (by assumption) (by assumption) ?g0 ?g1 ?g2 ?g3 ?g4;(case g0=>k_is);(case g1=>k_is);(case g2=>k_is);(case g3=>k_is);(case g4=>intro _ _ _ _ _ _ _ c;apply allOf c;(repeat intro _);exact rfl)))
    all_goals (try (refine' Ic ?g0 ?g1 ?g2 ?g3 ?g4 ?g5;(case g0=>k_is);(case g1=>k_is);(case g2=>k_is);(case g3=>k_is);(case g4=>k_is);(case g5=>intro _ _ _ _ _ _ _ c;apply allOf c;(repeat intro _);exact rfl)))
    all_goals (try (refine' HS ?g0 ?g1 ?g2 ?g3 ?g4 ?g5;(case g0=>k_is);(case g1=>k_is);(case g2=>k_is);(case g3=>k_is);(case g4=>k_is);(case g5=>intro _ _ _ _ _ _ _ c;apply allOf c;(repeat intro _);exact rfl)))
    all_goals (try (refine'⟨?g0,?g1,?g2,?g3⟩;(case g0=>k_is);(case g1=>k_is);(case g2=>k_is);(case g3=>k_is)))
  exact My.fin T d
 case S=>
  intro K H u a s f b m;cases m with
  |cons g i=>
   cases i;cases g with
   |lst l ha=>
    have e:=L2.GD a.1 _ ha;subst e;have q:((Codec.inLen 0 29900 a.1&&a.1.all (Codec.inInt (-17179869183) 17179869183))&&true)=true:=f;rw[Bool.and_eq_true,Bool.and_eq_true]at q;exact⟨_,a.1,rfl,l,(Codec.inNat_iff.mp q.1.1).2,b,fun H' p j=>.lst (L2.aT.of j) (L2.Gz _)⟩
end
