import PyProof.Rows.All
import KE.KTryMore
import KE.KSortTup
import KE.KLam
import KE.LcSums
import KE.KMinBuiltin
import KE.RegKLenAny
import KE.KFromBytes
import KE.KDictOf
import KE.KNestM
import OpenK.ZGo
import OpenK.KSplit
import OpenK.KApp
import Wide.FinOn
import PySem.Challenge.RW_quits_k83_refusals_apart
set_option compiler.extract_closed false
set_option bootstrap.genMatcherCode false
set_option Elab.async false
set_option linter.all false
set_option maxRecDepth 100000
set_option genInjectivity false
set_option genSizeOf false
noncomputable section
local macro_rules|`(tactic|lia)=>`(tactic|first|lia -verbose|omega)
namespace PySem.W.Fast
theorem tw1004541356524839324:True:=⟨⟩
theorem tw10046659099789731949:True:=⟨⟩
theorem tw10052663755029868731:True:=⟨⟩
theorem tw10079231031803120235:True:=⟨⟩
theorem tw10080319091328426942:True:=⟨⟩
theorem tw10101414927763820834:True:=⟨⟩
theorem tw1011254508423303434:True:=⟨⟩
theorem tw10126694078340714779:True:=⟨⟩
theorem tw10161135195973103272:True:=⟨⟩
theorem tw10197124460219443473:True:=⟨⟩
theorem tw1022000837318842949:True:=⟨⟩
theorem tw10225263888746403216:True:=⟨⟩
theorem tw10282322956240536110:True:=⟨⟩
theorem tw1030645521861310242:True:=⟨⟩
theorem tw10327132193543972841:True:=⟨⟩
theorem tw10362247766395878922:True:=⟨⟩
theorem tw10377522958367995927:True:=⟨⟩
theorem tw10377831027807571062:True:=⟨⟩
theorem tw10474732603856610820:True:=⟨⟩
theorem tw10477041703776085760:True:=⟨⟩
theorem tw10505343069687262443:True:=⟨⟩
theorem tw10520041638262096901:True:=⟨⟩
theorem tw10546161063159529545:True:=⟨⟩
theorem tw10557161593373856825:True:=⟨⟩
theorem tw10616483533786217730:True:=⟨⟩
theorem tw1063404441457576492:True:=⟨⟩
theorem tw1068952915423358501:True:=⟨⟩
theorem tw10717485392770495746:True:=⟨⟩
theorem tw10729083146693244037:True:=⟨⟩
theorem tw10756778588640242599:True:=⟨⟩
theorem tw1076768008559521884:True:=⟨⟩
theorem tw10815986886233656355:True:=⟨⟩
theorem tw10818492705372503518:True:=⟨⟩
theorem tw108217070758940330:True:=⟨⟩
theorem tw10839717341868378479:True:=⟨⟩
theorem tw10841791538346894879:True:=⟨⟩
theorem tw108696506937134376:True:=⟨⟩
theorem tw10873353988065700749:True:=⟨⟩
theorem tw10900696755174861349:True:=⟨⟩
theorem tw10909587596149850402:True:=⟨⟩
theorem tw10913789844600590615:True:=⟨⟩
theorem tw10939116446505652137:True:=⟨⟩
theorem tw10982240238819972041:True:=⟨⟩
theorem tw10997530848727437374:True:=⟨⟩
theorem tw10999788096802866496:True:=⟨⟩
theorem tw11002956238307696501:True:=⟨⟩
theorem tw11072882595602073180:True:=⟨⟩
theorem tw11093545214157492792:True:=⟨⟩
theorem tw11114524078288812628:True:=⟨⟩
theorem tw11121449337077612848:True:=⟨⟩
theorem tw11121964389625226151:True:=⟨⟩
theorem tw11135901010111970496:True:=⟨⟩
theorem tw11244016830837980949:True:=⟨⟩
theorem tw1132935678054140305:True:=⟨⟩
theorem tw11340039744062745321:True:=⟨⟩
theorem tw11357464411487741607:True:=⟨⟩
theorem tw11379538913811877571:True:=⟨⟩
theorem tw11382586242292254799:True:=⟨⟩
theorem tw11397637970221981063:True:=⟨⟩
theorem tw11444830216822690434:True:=⟨⟩
theorem tw1144844611786138006:True:=⟨⟩
theorem tw11450493351372105872:True:=⟨⟩
theorem tw11476207161142598282:True:=⟨⟩
theorem tw11513295136465162011:True:=⟨⟩
theorem tw11529693636618679155:True:=⟨⟩
theorem tw11557914037125894209:True:=⟨⟩
theorem tw11561784388085948640:True:=⟨⟩
theorem tw11609803782090766213:True:=⟨⟩
theorem tw11632639280203936269:True:=⟨⟩
theorem tw11642608513880221300:True:=⟨⟩
theorem tw11657614031328594706:True:=⟨⟩
theorem tw11660756365491016402:True:=⟨⟩
theorem tw11692893902078603984:True:=⟨⟩
theorem tw11716196719427308794:True:=⟨⟩
theorem tw11749941794894278948:True:=⟨⟩
theorem tw11818585757997785240:True:=⟨⟩
theorem tw11837524493424533701:True:=⟨⟩
theorem tw11849652342200133319:True:=⟨⟩
theorem tw11868209040875933376:True:=⟨⟩
theorem tw11870069921780192342:True:=⟨⟩
theorem tw11943479690283242390:True:=⟨⟩
theorem tw11944358881609842224:True:=⟨⟩
theorem tw11957753529003283523:True:=⟨⟩
theorem tw11968882997152892117:True:=⟨⟩
theorem tw12047543988436041780:True:=⟨⟩
theorem tw12052914863595415111:True:=⟨⟩
theorem tw12097462891823448593:True:=⟨⟩
theorem tw12114820216296760171:True:=⟨⟩
theorem tw1213186137636624322:True:=⟨⟩
theorem tw12158312969821513990:True:=⟨⟩
theorem tw12210799476896481140:True:=⟨⟩
theorem tw12231800517537442522:True:=⟨⟩
theorem tw12303416043237385613:True:=⟨⟩
theorem tw1231839310340610845:True:=⟨⟩
theorem tw12319745965918445433:True:=⟨⟩
theorem tw12326251817606489373:True:=⟨⟩
theorem tw12357405917137172468:True:=⟨⟩
theorem tw12367990189456866277:True:=⟨⟩
theorem tw12383888022417699065:True:=⟨⟩
theorem tw1244057071517586040:True:=⟨⟩
theorem tw12446986189121947785:True:=⟨⟩
theorem tw12447170687651786778:True:=⟨⟩
theorem tw12449878041891990640:True:=⟨⟩
theorem tw12469783376986944507:True:=⟨⟩
theorem tw12514387076126639913:True:=⟨⟩
theorem tw12534459444819301400:True:=⟨⟩
theorem tw12543261176468571241:True:=⟨⟩
theorem tw12598212614264245624:True:=⟨⟩
theorem tw1260886948561226310:True:=⟨⟩
theorem tw12612936822044678025:True:=⟨⟩
theorem tw12622956146830881850:True:=⟨⟩
theorem tw12682656399134173236:True:=⟨⟩
theorem tw12684590291474284301:True:=⟨⟩
theorem tw1269480986295441907:True:=⟨⟩
theorem tw12698831699883053280:True:=⟨⟩
theorem tw12707512013171006725:True:=⟨⟩
theorem tw1270803933819858810:True:=⟨⟩
theorem tw12736803863110515761:True:=⟨⟩
theorem tw12742488192048507168:True:=⟨⟩
theorem tw12745583769927625201:True:=⟨⟩
theorem tw12754545551241635381:True:=⟨⟩
theorem tw12776099980683243880:True:=⟨⟩
theorem tw12841294996061989427:True:=⟨⟩
theorem tw12854005821653990456:True:=⟨⟩
theorem tw12897545921460782188:True:=⟨⟩
theorem tw12902963639506869667:True:=⟨⟩
theorem tw12964095749709619095:True:=⟨⟩
theorem tw13000694655499829665:True:=⟨⟩
theorem tw13015672261066147611:True:=⟨⟩
theorem tw1303005785081444530:True:=⟨⟩
theorem tw13054956479803599008:True:=⟨⟩
theorem tw13067718820556555424:True:=⟨⟩
theorem tw13092540833968112810:True:=⟨⟩
theorem tw13171953245944320231:True:=⟨⟩
theorem tw13172881419190750370:True:=⟨⟩
theorem tw13186968061754952258:True:=⟨⟩
theorem tw1321318670144483452:True:=⟨⟩
theorem tw13215781718669927604:True:=⟨⟩
theorem tw13221746560786598644:True:=⟨⟩
theorem tw13259870773017220164:True:=⟨⟩
theorem tw13309314213001425332:True:=⟨⟩
theorem tw13311828477632958737:True:=⟨⟩
theorem tw13324842170642674397:True:=⟨⟩
theorem tw13324875424687561434:True:=⟨⟩
theorem tw13330198066666916711:True:=⟨⟩
theorem tw1335866499855350960:True:=⟨⟩
theorem tw13383754569517239616:True:=⟨⟩
theorem tw13384995359511317360:True:=⟨⟩
theorem tw13463436390722279481:True:=⟨⟩
theorem tw13512783606007616177:True:=⟨⟩
theorem tw13536562221610418411:True:=⟨⟩
theorem tw13550269665827175949:True:=⟨⟩
theorem tw13552889754629475058:True:=⟨⟩
theorem tw13585299909201216003:True:=⟨⟩
theorem tw1362787482723927122:True:=⟨⟩
theorem tw13629799922351228651:True:=⟨⟩
theorem tw13700442987325750306:True:=⟨⟩
theorem tw13727261708468564016:True:=⟨⟩
theorem tw13739546523959171138:True:=⟨⟩
theorem tw1381650332026606136:True:=⟨⟩
theorem tw13832897197727506932:True:=⟨⟩
theorem tw13861581273958887862:True:=⟨⟩
theorem tw1391939417375711728:True:=⟨⟩
theorem tw13941077900119183828:True:=⟨⟩
theorem tw14005814006285952346:True:=⟨⟩
theorem tw14018307220247857524:True:=⟨⟩
theorem tw14038317906195348864:True:=⟨⟩
theorem tw14044314087513538891:True:=⟨⟩
theorem tw14055198766578228665:True:=⟨⟩
theorem tw14062420500562521513:True:=⟨⟩
theorem tw14079195611003373715:True:=⟨⟩
theorem tw14103437295087880872:True:=⟨⟩
theorem tw14160349501109347876:True:=⟨⟩
theorem tw14197353576513599368:True:=⟨⟩
theorem tw14205584116923408318:True:=⟨⟩
theorem tw14209903777709131713:True:=⟨⟩
theorem tw14228975792257658864:True:=⟨⟩
theorem tw1424114909383982866:True:=⟨⟩
theorem tw14261621160513485785:True:=⟨⟩
theorem tw1426516681326083095:True:=⟨⟩
theorem tw14293193550999999043:True:=⟨⟩
theorem tw14322517766169360491:True:=⟨⟩
theorem tw14328754868002612028:True:=⟨⟩
theorem tw1432962928102420130:True:=⟨⟩
theorem tw14378202013597848108:True:=⟨⟩
theorem tw14379240221544185458:True:=⟨⟩
theorem tw14387724045345468064:True:=⟨⟩
theorem tw14394588170304674411:True:=⟨⟩
theorem tw14423683016948003778:True:=⟨⟩
theorem tw14489878026604881320:True:=⟨⟩
theorem tw14527743378197068104:True:=⟨⟩
theorem tw1455615559776869589:True:=⟨⟩
theorem tw14581732869513819609:True:=⟨⟩
theorem tw146076485685544663:True:=⟨⟩
theorem tw14621482227368186587:True:=⟨⟩
theorem tw1463819630160991954:True:=⟨⟩
theorem tw14641827657394096570:True:=⟨⟩
theorem tw1466665450971221085:True:=⟨⟩
theorem tw14672120120753142922:True:=⟨⟩
theorem tw14687804011387398090:True:=⟨⟩
theorem tw14705377317327033687:True:=⟨⟩
theorem tw14717128439793039697:True:=⟨⟩
theorem tw14719684742948691252:True:=⟨⟩
theorem tw14815523962888372970:True:=⟨⟩
theorem tw1483245266315977881:True:=⟨⟩
theorem tw14897699056630946802:True:=⟨⟩
theorem tw14905899647044621059:True:=⟨⟩
theorem tw14929316694033111082:True:=⟨⟩
theorem tw14975885908365835635:True:=⟨⟩
theorem tw15009925034481440501:True:=⟨⟩
theorem tw15021435716787190798:True:=⟨⟩
theorem tw15029672967069473944:True:=⟨⟩
theorem tw15052461353841147830:True:=⟨⟩
theorem tw15085367385840709534:True:=⟨⟩
theorem tw15108594107052420631:True:=⟨⟩
theorem tw1511320749439449353:True:=⟨⟩
theorem tw15177458520052591413:True:=⟨⟩
theorem tw15214707978696139011:True:=⟨⟩
theorem tw15227822894530972912:True:=⟨⟩
theorem tw15245742794303664597:True:=⟨⟩
theorem tw15254932358075077165:True:=⟨⟩
theorem tw15274107010521167971:True:=⟨⟩
theorem tw15311385544148991171:True:=⟨⟩
theorem tw15313858743472341587:True:=⟨⟩
theorem tw15320099649865244897:True:=⟨⟩
theorem tw15323713875538124433:True:=⟨⟩
theorem tw15328645059719384410:True:=⟨⟩
theorem tw15332782385156977549:True:=⟨⟩
theorem tw15391438498948703721:True:=⟨⟩
theorem tw15404870060621464729:True:=⟨⟩
theorem tw15431043973911869365:True:=⟨⟩
theorem tw15494539837484399300:True:=⟨⟩
theorem tw15497143924380271719:True:=⟨⟩
theorem tw15498609861200951055:True:=⟨⟩
theorem tw15522546247696574169:True:=⟨⟩
theorem tw15533654242002601708:True:=⟨⟩
theorem tw15534629024174145805:True:=⟨⟩
theorem tw15543330533140236761:True:=⟨⟩
theorem tw15544217751841609544:True:=⟨⟩
theorem tw15546424499483774721:True:=⟨⟩
theorem tw15552648650638267484:True:=⟨⟩
theorem tw15562122807256009841:True:=⟨⟩
theorem tw15595578810078082759:True:=⟨⟩
theorem tw15601966290487125639:True:=⟨⟩
theorem tw15673398157292336287:True:=⟨⟩
theorem tw15685867949811202236:True:=⟨⟩
theorem tw15709065174736164703:True:=⟨⟩
theorem tw15717717071564055656:True:=⟨⟩
theorem tw1577557830129908612:True:=⟨⟩
theorem tw15778633460104015546:True:=⟨⟩
theorem tw1578679925826145733:True:=⟨⟩
theorem tw15790398690657802610:True:=⟨⟩
theorem tw1582669696462148425:True:=⟨⟩
theorem tw15830045091273702105:True:=⟨⟩
theorem tw1584167640898381101:True:=⟨⟩
theorem tw15843214880157634733:True:=⟨⟩
theorem tw15873041155819677128:True:=⟨⟩
theorem tw15882296522180994632:True:=⟨⟩
theorem tw15927407239724084684:True:=⟨⟩
theorem tw15939340216859872952:True:=⟨⟩
theorem tw15945035446088982664:True:=⟨⟩
theorem tw15949378567158013792:True:=⟨⟩
theorem tw15965693499365359023:True:=⟨⟩
theorem tw15982831151466266711:True:=⟨⟩
theorem tw16009405207739340623:True:=⟨⟩
theorem tw16017063774237557902:True:=⟨⟩
theorem tw1604262625589468252:True:=⟨⟩
theorem tw16074299042731365168:True:=⟨⟩
theorem tw16083336991876222323:True:=⟨⟩
theorem tw16120104720788127563:True:=⟨⟩
theorem tw16134390810235148783:True:=⟨⟩
theorem tw16146814908688288317:True:=⟨⟩
theorem tw16147716050204050311:True:=⟨⟩
theorem tw16154854977527942779:True:=⟨⟩
theorem tw16181628776293533628:True:=⟨⟩
theorem tw16225270310321712100:True:=⟨⟩
theorem tw16284851747489671523:True:=⟨⟩
theorem tw16305101979807239553:True:=⟨⟩
theorem tw16333364474955826756:True:=⟨⟩
theorem tw16409040891981529531:True:=⟨⟩
theorem tw1641710522942827774:True:=⟨⟩
theorem tw16497454763773403383:True:=⟨⟩
theorem tw16518687455016947880:True:=⟨⟩
theorem tw16534493593874454220:True:=⟨⟩
theorem tw16549167926675238302:True:=⟨⟩
theorem tw16560453085277780946:True:=⟨⟩
theorem tw16593682984346122827:True:=⟨⟩
theorem tw16609204514521383685:True:=⟨⟩
theorem tw16627433384481738978:True:=⟨⟩
theorem tw16673145469172977778:True:=⟨⟩
theorem tw16705254388122937250:True:=⟨⟩
theorem tw16712088677529643053:True:=⟨⟩
theorem tw16712412797042790127:True:=⟨⟩
theorem tw16724510443081493502:True:=⟨⟩
theorem tw16732063147678513890:True:=⟨⟩
theorem tw16819364597237349600:True:=⟨⟩
theorem tw16851161370685613504:True:=⟨⟩
theorem tw16851787470929976085:True:=⟨⟩
theorem tw16859010445254819107:True:=⟨⟩
theorem tw16876413287792896628:True:=⟨⟩
theorem tw16931745230999146948:True:=⟨⟩
theorem tw1693870450758558360:True:=⟨⟩
theorem tw16976738255732894281:True:=⟨⟩
theorem tw16988911848189425893:True:=⟨⟩
theorem tw17014187451252230930:True:=⟨⟩
theorem tw17040893090836301516:True:=⟨⟩
theorem tw17041746665066245598:True:=⟨⟩
theorem tw17070045026520517798:True:=⟨⟩
theorem tw1707564725628439106:True:=⟨⟩
theorem tw17078788717425236764:True:=⟨⟩
theorem tw17084066902941705257:True:=⟨⟩
theorem tw17089936180874464135:True:=⟨⟩
theorem tw17134127834920583702:True:=⟨⟩
theorem tw17147358808057159993:True:=⟨⟩
theorem tw17162322296585212746:True:=⟨⟩
theorem tw17176925244422322110:True:=⟨⟩
theorem tw17181335317756381423:True:=⟨⟩
theorem tw17289587561247906242:True:=⟨⟩
theorem tw17299975892970901915:True:=⟨⟩
theorem tw17347272256541522442:True:=⟨⟩
theorem tw17349340482633946109:True:=⟨⟩
theorem tw17363105363653116398:True:=⟨⟩
theorem tw17370009196713103832:True:=⟨⟩
theorem tw17382546642470391935:True:=⟨⟩
theorem tw17439548624087027692:True:=⟨⟩
theorem tw17459082922819162628:True:=⟨⟩
theorem tw17464753293671811855:True:=⟨⟩
theorem tw17481243686403451855:True:=⟨⟩
theorem tw17519597774653922057:True:=⟨⟩
theorem tw17531521049167335732:True:=⟨⟩
theorem tw17574733068966660846:True:=⟨⟩
theorem tw17584363776766674917:True:=⟨⟩
theorem tw17591888444028955348:True:=⟨⟩
theorem tw17602486573795837954:True:=⟨⟩
theorem tw17606644152301725070:True:=⟨⟩
theorem tw17650125211757462130:True:=⟨⟩
theorem tw17663829666162759435:True:=⟨⟩
theorem tw17673735365004196463:True:=⟨⟩
theorem tw17692817978301938871:True:=⟨⟩
theorem tw17737285973745574900:True:=⟨⟩
theorem tw1774037239648586845:True:=⟨⟩
theorem tw17754067508169035278:True:=⟨⟩
theorem tw17759870059273026004:True:=⟨⟩
theorem tw17771429111304389178:True:=⟨⟩
theorem tw17804632717845736918:True:=⟨⟩
theorem tw17827098409579705342:True:=⟨⟩
theorem tw17905745446704872064:True:=⟨⟩
theorem tw17934874354249615207:True:=⟨⟩
theorem tw1796764572276004473:True:=⟨⟩
theorem tw18004354635796166164:True:=⟨⟩
theorem tw18060635978477754914:True:=⟨⟩
theorem tw18064157906763247587:True:=⟨⟩
theorem tw18077846558273063754:True:=⟨⟩
theorem tw18171777356149273632:True:=⟨⟩
theorem tw18222869524597991537:True:=⟨⟩
theorem tw18247435280776752642:True:=⟨⟩
theorem tw1826233239540876633:True:=⟨⟩
theorem tw18272675195051634646:True:=⟨⟩
theorem tw18392196745083318485:True:=⟨⟩
theorem tw18392351189512484976:True:=⟨⟩
theorem tw18424726064529311959:True:=⟨⟩
theorem tw1858665349222722512:True:=⟨⟩
theorem tw1862780628240761301:True:=⟨⟩
theorem tw1879229050553317884:True:=⟨⟩
theorem tw1880029131405681944:True:=⟨⟩
theorem tw1895420321429981851:True:=⟨⟩
theorem tw1902480528258493502:True:=⟨⟩
theorem tw1978443281339978996:True:=⟨⟩
theorem tw1984616890509993748:True:=⟨⟩
theorem tw2011731123914943862:True:=⟨⟩
theorem tw201845415392850228:True:=⟨⟩
theorem tw2023017614405616440:True:=⟨⟩
theorem tw2072238339630086334:True:=⟨⟩
theorem tw2138720473310585191:True:=⟨⟩
theorem tw2142221664721379683:True:=⟨⟩
theorem tw2167290078010824976:True:=⟨⟩
theorem tw2173550255182409110:True:=⟨⟩
theorem tw2186542937030131776:True:=⟨⟩
theorem tw2232127796187337133:True:=⟨⟩
theorem tw2245644028792731501:True:=⟨⟩
theorem tw2278608613889698652:True:=⟨⟩
theorem tw2308374257761676998:True:=⟨⟩
theorem tw2314859392528703977:True:=⟨⟩
theorem tw2338175435535119492:True:=⟨⟩
theorem tw2351801722237986953:True:=⟨⟩
theorem tw2362436519969605455:True:=⟨⟩
theorem tw2371457983451710362:True:=⟨⟩
theorem tw2385282235204515467:True:=⟨⟩
theorem tw2392515674363230761:True:=⟨⟩
theorem tw2413784079807269291:True:=⟨⟩
theorem tw2428843823423250333:True:=⟨⟩
theorem tw2439837727569547127:True:=⟨⟩
theorem tw2441200411661679277:True:=⟨⟩
theorem tw244785301046938329:True:=⟨⟩
theorem tw2454445764481710536:True:=⟨⟩
theorem tw2456097215396678697:True:=⟨⟩
theorem tw2495330684606686763:True:=⟨⟩
theorem tw2508840483436800928:True:=⟨⟩
theorem tw2551260069900597187:True:=⟨⟩
theorem tw2552766504799515186:True:=⟨⟩
theorem tw2593141080007620176:True:=⟨⟩
theorem tw2614262513599417883:True:=⟨⟩
theorem tw2629612676357756717:True:=⟨⟩
theorem tw2630366932891246821:True:=⟨⟩
theorem tw2635836820797173602:True:=⟨⟩
theorem tw2655827312212450129:True:=⟨⟩
theorem tw2664660511150190372:True:=⟨⟩
theorem tw2668672220630757981:True:=⟨⟩
theorem tw2672313021401190308:True:=⟨⟩
theorem tw2740188515448001848:True:=⟨⟩
theorem tw275282586096257837:True:=⟨⟩
theorem tw2756137090598089734:True:=⟨⟩
theorem tw2803835151019166685:True:=⟨⟩
theorem tw2817968878597372277:True:=⟨⟩
theorem tw2835020469503634593:True:=⟨⟩
theorem tw2863465431880541081:True:=⟨⟩
theorem tw286433921457207668:True:=⟨⟩
theorem tw2881864340762166525:True:=⟨⟩
theorem tw2899328683493860680:True:=⟨⟩
theorem tw2909978150511302242:True:=⟨⟩
theorem tw2933472766745857828:True:=⟨⟩
theorem tw2956870908540507062:True:=⟨⟩
theorem tw2961238121679041959:True:=⟨⟩
theorem tw2982406851712058236:True:=⟨⟩
theorem tw3005545745287313806:True:=⟨⟩
theorem tw3037008539118271427:True:=⟨⟩
theorem tw3053235645361909858:True:=⟨⟩
theorem tw3084503471723188244:True:=⟨⟩
theorem tw3087453482177827899:True:=⟨⟩
theorem tw3103335560241952748:True:=⟨⟩
theorem tw3109774436098439193:True:=⟨⟩
theorem tw3123214290651456201:True:=⟨⟩
theorem tw3138724144533072594:True:=⟨⟩
theorem tw3151681379364046349:True:=⟨⟩
theorem tw318435792722202898:True:=⟨⟩
theorem tw3241933735711509668:True:=⟨⟩
theorem tw3288735352675891718:True:=⟨⟩
theorem tw3343317432766673524:True:=⟨⟩
theorem tw3382446529120142536:True:=⟨⟩
theorem tw3397279701600389344:True:=⟨⟩
theorem tw3410176574959705470:True:=⟨⟩
theorem tw346958256060226466:True:=⟨⟩
theorem tw3487051286046089730:True:=⟨⟩
theorem tw3488652388597819830:True:=⟨⟩
theorem tw3501726698967766228:True:=⟨⟩
theorem tw3536854640095229948:True:=⟨⟩
theorem tw3562433207083223736:True:=⟨⟩
theorem tw3704750532038583619:True:=⟨⟩
theorem tw374082702607552942:True:=⟨⟩
theorem tw3746193811583732741:True:=⟨⟩
theorem tw3807546404697149081:True:=⟨⟩
theorem tw3816300491117740045:True:=⟨⟩
theorem tw3839924751955766717:True:=⟨⟩
theorem tw3847455202579661002:True:=⟨⟩
theorem tw3867595255735553013:True:=⟨⟩
theorem tw3880047652529833457:True:=⟨⟩
theorem tw3884408429258509373:True:=⟨⟩
theorem tw3892988539957545336:True:=⟨⟩
theorem tw3903856609346130231:True:=⟨⟩
theorem tw3933199083899159619:True:=⟨⟩
theorem tw394532825157578110:True:=⟨⟩
theorem tw3952648679864886211:True:=⟨⟩
theorem tw3957723953892674015:True:=⟨⟩
theorem tw3976018161309000412:True:=⟨⟩
theorem tw4025691008325576338:True:=⟨⟩
theorem tw4115862140664722881:True:=⟨⟩
theorem tw4135324076918639944:True:=⟨⟩
theorem tw416827815939732361:True:=⟨⟩
theorem tw4216902445777261920:True:=⟨⟩
theorem tw4230983530035466607:True:=⟨⟩
theorem tw4240657542752054546:True:=⟨⟩
theorem tw4250728340213938888:True:=⟨⟩
theorem tw4330839709688184091:True:=⟨⟩
theorem tw4332835162347563210:True:=⟨⟩
theorem tw4334574962068247640:True:=⟨⟩
theorem tw4356711780184064733:True:=⟨⟩
theorem tw437206586534365091:True:=⟨⟩
theorem tw439479935367205363:True:=⟨⟩
theorem tw4475935611510113120:True:=⟨⟩
theorem tw4508061304199760114:True:=⟨⟩
theorem tw4520792038377604623:True:=⟨⟩
theorem tw4572882420313951552:True:=⟨⟩
theorem tw4595598126863403284:True:=⟨⟩
theorem tw4596642586645573368:True:=⟨⟩
theorem tw4610112076249883754:True:=⟨⟩
theorem tw4624938368939634134:True:=⟨⟩
theorem tw465480095966747288:True:=⟨⟩
theorem tw465866882401743310:True:=⟨⟩
theorem tw4664935290423030040:True:=⟨⟩
theorem tw4673161789945367682:True:=⟨⟩
theorem tw4679356218622642670:True:=⟨⟩
theorem tw473131415956995602:True:=⟨⟩
theorem tw479906151224427276:True:=⟨⟩
theorem tw4804032438374535763:True:=⟨⟩
theorem tw4828636788744043549:True:=⟨⟩
theorem tw4837929854122101443:True:=⟨⟩
theorem tw4877552113332809259:True:=⟨⟩
theorem tw4897316603939259977:True:=⟨⟩
theorem tw4948865309722404541:True:=⟨⟩
theorem tw4953372225481042245:True:=⟨⟩
theorem tw4966521732382549448:True:=⟨⟩
theorem tw4994103938027955679:True:=⟨⟩
theorem tw4999645319248486523:True:=⟨⟩
theorem tw5002373665692545749:True:=⟨⟩
theorem tw5088067279029924398:True:=⟨⟩
theorem tw512067756890402541:True:=⟨⟩
theorem tw5121691808209706762:True:=⟨⟩
theorem tw5140739181645745654:True:=⟨⟩
theorem tw5190407602396165945:True:=⟨⟩
theorem tw5190827414445491820:True:=⟨⟩
theorem tw5195821787429244859:True:=⟨⟩
theorem tw5221491004529841553:True:=⟨⟩
theorem tw524799078401163125:True:=⟨⟩
theorem tw5281703420816582634:True:=⟨⟩
theorem tw5301597656605256600:True:=⟨⟩
theorem tw5369536216942170583:True:=⟨⟩
theorem tw5425784038110999519:True:=⟨⟩
theorem tw5440290989658591507:True:=⟨⟩
theorem tw548005775241395032:True:=⟨⟩
theorem tw5500536916744875358:True:=⟨⟩
theorem tw5505709698947569306:True:=⟨⟩
theorem tw5579360099782516672:True:=⟨⟩
theorem tw5583095940432689394:True:=⟨⟩
theorem tw5643177509201350528:True:=⟨⟩
theorem tw5653649959285805152:True:=⟨⟩
theorem tw5659105151645809793:True:=⟨⟩
theorem tw5734796024246801593:True:=⟨⟩
theorem tw5765454529138792835:True:=⟨⟩
theorem tw5814150110929238164:True:=⟨⟩
theorem tw5839952140909255304:True:=⟨⟩
theorem tw5840384386347091767:True:=⟨⟩
theorem tw5873674393762815479:True:=⟨⟩
theorem tw5884668548242601205:True:=⟨⟩
theorem tw5911757732902531997:True:=⟨⟩
theorem tw5918336630788307142:True:=⟨⟩
theorem tw5940030008384062134:True:=⟨⟩
theorem tw5976043954071308345:True:=⟨⟩
theorem tw5993209691564583324:True:=⟨⟩
theorem tw6006521831142646587:True:=⟨⟩
theorem tw6018645271844313371:True:=⟨⟩
theorem tw604279020893212228:True:=⟨⟩
theorem tw6068304984928176719:True:=⟨⟩
theorem tw6105206147326903431:True:=⟨⟩
theorem tw6123365750543621119:True:=⟨⟩
theorem tw6139796671377378524:True:=⟨⟩
theorem tw6226665419947802619:True:=⟨⟩
theorem tw6231511802863336465:True:=⟨⟩
theorem tw6247858966993599749:True:=⟨⟩
theorem tw6249904168935870332:True:=⟨⟩
theorem tw6266247562335061821:True:=⟨⟩
theorem tw626840750525981832:True:=⟨⟩
theorem tw6276154853229172221:True:=⟨⟩
theorem tw6276494868745498197:True:=⟨⟩
theorem tw6314886755594181270:True:=⟨⟩
theorem tw6326531828444772345:True:=⟨⟩
theorem tw6336593717577894848:True:=⟨⟩
theorem tw6340446084000880155:True:=⟨⟩
theorem tw6350834225112212140:True:=⟨⟩
theorem tw6386471979805794701:True:=⟨⟩
theorem tw6399154393812509536:True:=⟨⟩
theorem tw6409668059256471445:True:=⟨⟩
theorem tw642750872574314946:True:=⟨⟩
theorem tw6428809709937718575:True:=⟨⟩
theorem tw6451270991843129959:True:=⟨⟩
theorem tw646056733894331469:True:=⟨⟩
theorem tw6475908628124032180:True:=⟨⟩
theorem tw6548905622596637744:True:=⟨⟩
theorem tw6565584731860343284:True:=⟨⟩
theorem tw6594061519536455176:True:=⟨⟩
theorem tw660620905814804321:True:=⟨⟩
theorem tw6606649999551697995:True:=⟨⟩
theorem tw6678286177176935242:True:=⟨⟩
theorem tw6683221514765628373:True:=⟨⟩
theorem tw6710868362003216221:True:=⟨⟩
theorem tw672496066014089753:True:=⟨⟩
theorem tw6725689436901187703:True:=⟨⟩
theorem tw6800836864594131946:True:=⟨⟩
theorem tw6801609790180192506:True:=⟨⟩
theorem tw6829776480626916105:True:=⟨⟩
theorem tw6857707408678583283:True:=⟨⟩
theorem tw6863289952772118347:True:=⟨⟩
theorem tw6900814727251094724:True:=⟨⟩
theorem tw6969236407287039800:True:=⟨⟩
theorem tw6969370189390660015:True:=⟨⟩
theorem tw7007532385313327572:True:=⟨⟩
theorem tw7032033263124664613:True:=⟨⟩
theorem tw7037197336355780116:True:=⟨⟩
theorem tw7038773788998309541:True:=⟨⟩
theorem tw7046811706737339622:True:=⟨⟩
theorem tw7068792294974414804:True:=⟨⟩
theorem tw7103736907454630791:True:=⟨⟩
theorem tw7159724603496557610:True:=⟨⟩
theorem tw7160488316480792884:True:=⟨⟩
theorem tw720624529859938587:True:=⟨⟩
theorem tw7237541284449649996:True:=⟨⟩
theorem tw7247856028208883876:True:=⟨⟩
theorem tw7276468624719728480:True:=⟨⟩
theorem tw7294906724723077737:True:=⟨⟩
theorem tw7308013580786933144:True:=⟨⟩
theorem tw7335302298751265829:True:=⟨⟩
theorem tw7368999002782606206:True:=⟨⟩
theorem tw7438029376944941204:True:=⟨⟩
theorem tw748172214440306690:True:=⟨⟩
theorem tw7498479767236795363:True:=⟨⟩
theorem tw7523266027517545680:True:=⟨⟩
theorem tw7538076357164180351:True:=⟨⟩
theorem tw7579905678436076997:True:=⟨⟩
theorem tw7633613975921075199:True:=⟨⟩
theorem tw7657623604192501371:True:=⟨⟩
theorem tw7704017047482529616:True:=⟨⟩
theorem tw7796382953739504654:True:=⟨⟩
theorem tw7800689808132159353:True:=⟨⟩
theorem tw7806303989397248541:True:=⟨⟩
theorem tw7838619679848034970:True:=⟨⟩
theorem tw7850104305761881366:True:=⟨⟩
theorem tw7873374941204504734:True:=⟨⟩
theorem tw7879185918117255750:True:=⟨⟩
theorem tw7883769931538220862:True:=⟨⟩
theorem tw7903325243379389884:True:=⟨⟩
theorem tw7909099634029949827:True:=⟨⟩
theorem tw7909429259960108156:True:=⟨⟩
theorem tw7920527377859073481:True:=⟨⟩
theorem tw7961755121947872093:True:=⟨⟩
theorem tw8011910943959157534:True:=⟨⟩
theorem tw8044232388417630137:True:=⟨⟩
theorem tw8077569334627456780:True:=⟨⟩
theorem tw8083406567337537848:True:=⟨⟩
theorem tw8123960261585589487:True:=⟨⟩
theorem tw813126647477097886:True:=⟨⟩
theorem tw8187932538213393387:True:=⟨⟩
theorem tw8190371897895256748:True:=⟨⟩
theorem tw8224990023149197745:True:=⟨⟩
theorem tw8249460627897286252:True:=⟨⟩
theorem tw826719795539686999:True:=⟨⟩
theorem tw8305545352542334710:True:=⟨⟩
theorem tw8308921714697446479:True:=⟨⟩
theorem tw8381311702935587839:True:=⟨⟩
theorem tw8414288019561156311:True:=⟨⟩
theorem tw8424763052475730008:True:=⟨⟩
theorem tw848304603680447128:True:=⟨⟩
theorem tw8522031711563743606:True:=⟨⟩
theorem tw8522941052528436921:True:=⟨⟩
theorem tw8542529252342702937:True:=⟨⟩
theorem tw8551524557309378784:True:=⟨⟩
theorem tw8564101683249545779:True:=⟨⟩
theorem tw8616917791905566418:True:=⟨⟩
theorem tw8620117947303133981:True:=⟨⟩
theorem tw8624106842313435876:True:=⟨⟩
theorem tw8644986483022808280:True:=⟨⟩
theorem tw8670951596598422757:True:=⟨⟩
theorem tw8677478096475699192:True:=⟨⟩
theorem tw8693592938861923469:True:=⟨⟩
theorem tw8722886427923492459:True:=⟨⟩
theorem tw8777506132136780890:True:=⟨⟩
theorem tw8788929581937129093:True:=⟨⟩
theorem tw879252140227551378:True:=⟨⟩
theorem tw8836843642917830599:True:=⟨⟩
theorem tw8854504018796237229:True:=⟨⟩
theorem tw888618715852958121:True:=⟨⟩
theorem tw8919304522230743135:True:=⟨⟩
theorem tw8932711422952035319:True:=⟨⟩
theorem tw8974514689612211942:True:=⟨⟩
theorem tw899506078230093670:True:=⟨⟩
theorem tw9033189262997819594:True:=⟨⟩
theorem tw9095213999865409406:True:=⟨⟩
theorem tw9098149956320880131:True:=⟨⟩
theorem tw9112588157877924387:True:=⟨⟩
theorem tw914467828230485481:True:=⟨⟩
theorem tw9146956898611112743:True:=⟨⟩
theorem tw9153826949023377894:True:=⟨⟩
theorem tw9168638192569263329:True:=⟨⟩
theorem tw9182203480387741098:True:=⟨⟩
theorem tw9202457443258628309:True:=⟨⟩
theorem tw9205913051577224146:True:=⟨⟩
theorem tw9206279102392567793:True:=⟨⟩
theorem tw9230772930600232266:True:=⟨⟩
theorem tw9261792042655622083:True:=⟨⟩
theorem tw9267481758428075022:True:=⟨⟩
theorem tw9285644455182881572:True:=⟨⟩
theorem tw9297457472323515249:True:=⟨⟩
theorem tw938912138610455304:True:=⟨⟩
theorem tw9397134855719479625:True:=⟨⟩
theorem tw9409297584257571996:True:=⟨⟩
theorem tw943355188794598911:True:=⟨⟩
theorem tw950034522148604112:True:=⟨⟩
theorem tw9528634183762623066:True:=⟨⟩
theorem tw9553165217424737606:True:=⟨⟩
theorem tw956241545871040181:True:=⟨⟩
theorem tw9630390184731388537:True:=⟨⟩
theorem tw9664162210192112248:True:=⟨⟩
theorem tw9699339281901349706:True:=⟨⟩
theorem tw972466040929077135:True:=⟨⟩
theorem tw9758213031926700221:True:=⟨⟩
theorem tw9807058227332574587:True:=⟨⟩
theorem tw9821405296812855840:True:=⟨⟩
theorem tw9823065608424907852:True:=⟨⟩
theorem tw9860056962703350853:True:=⟨⟩
theorem tw9866332571047238081:True:=⟨⟩
theorem tw9883224412427628051:True:=⟨⟩
theorem tw9925341739822434552:True:=⟨⟩
theorem tw9968664657258487603:True:=⟨⟩
theorem tw9971919754988650644:True:=⟨⟩
theorem tw9991773127179775753:True:=⟨⟩
end PySem.W.Fast
open PySem PySem.W PyProof.Rows in
set_option maxRecDepth 100000 in
set_option maxHeartbeats 0 in
open_top pre0 for PySem.Challenge.rw_quits_k83_refusals_apart
local macro_rules|`(⋯)=>`(by lia)
abbrev Fg:=PySem.W.Frag
abbrev ya:=@Nat.le_trans
abbrev yb:=@Nat.succ_le_succ
abbrev yc:=@List.length_map
abbrev ye:=@List.length_append
abbrev yf:=@List.getElem?_map
abbrev yg:=@Nat.le_refl
abbrev yh:=@List.mem_singleton
abbrev yi:=@List.getElem?_eq_some_iff
abbrev yj:=@List.map_append
abbrev yk:=@Option.some.inj
abbrev yl:=@List.size_toArray
abbrev ym:=@List.mem_of_getElem?
abbrev yn:=@List.getD_eq_getElem?_getD
abbrev yo:=@Nat.ne_of_lt
abbrev yp:=@Bool.false_ne_true
namespace Internal
variable {A:Around}{C a b:Addr}{K:Fg}{M:Model}{N ps:List Str}{P:Program}{base h:Heap}{e iter tg:Expr}{es:List Expr}{fd:FuncData}{fp:List Addr}{i k n t':Nat}{its us:List Value}{j:Int}{mg:Str->Option Value}{outer:List Env}{pins:List (Addr × Obj)}{s:Shared}{u:Value}{w:World}{x:Str}
theorem aut0(h:True:=by first | exact .inl rfl | exact .inr rfl | assumption):True:=h
theorem aut1(h:True:=by decide):True:=h
theorem aut2(h:True:=by rfl):True:=h
theorem aut3(h:True:=by intro _;rfl):True:=h
theorem aut4(h:True:=by intros;rfl):True:=h
theorem aut5(h:True:=by exact λ_ _ _ _ _=>rfl):True:=h
theorem aut6(h:True:=by exact λ_ _=>rfl):True:=h
theorem aut7(h:True:=by exact λ_=>rfl):True:=h
theorem aut8(h:True:=by first | exact Or.inl rfl | exact Or.inr rfl):True:=h
theorem aut9(h:True:=by first | exact .inl rfl | exact .inr rfl):True:=h
open PySem PySem.Spec PyProof.Rows
abbrev Key:=Sum Int Str
noncomputable def zqg:Key->Value->Bool
 | .inl k,v=>Value.isInt k v
 | .inr x,v=>Value.isStrOf x v
noncomputable def zuU (w:World):Key->Int
 | .inl k=>hashInt k
 | .inr x=>hashStr w x
def zaZ:∀{k:Key} {v:Value},zqg k v=true->(∃i t,k=Sum.inl i/\v=Value.int i t)\/(∃x t,k=Sum.inr x/\v=Value.str x t)
 | .inl i,v,h=>by
  obtain⟨t,e⟩:=Value.isInt_shape (k:=i) (v:=v) h;exact .inl ⟨i,t,rfl,e⟩
 | .inr x,v,h=>by
  obtain⟨t,e⟩:=Value.isStrOf_shape (x:=x) (v:=v) h;exact .inr ⟨x,t,rfl,e⟩
def zsD(a b:Int):decide ((Sum.inl a:Key)=Sum.inl b)=(a == b):=by
 by_cases e:a=b
 ·subst e;simp
 ·have h:¬(Sum.inl a:Key)=Sum.inl b:=λq=>e (Sum.inl.inj q);rw[decide_eq_false h];exact(beq_eq_false_iff_ne.mpr e).symm
def zsb(a b:Str):decide ((Sum.inr a:Key)=Sum.inr b)=decide (a=b):=by
 by_cases e:a=b
 ·subst e;simp
 ·have h:¬(Sum.inr a:Key)=Sum.inr b:=λq=>e (Sum.inr.inj q);rw[decide_eq_false h,decide_eq_false e]
def zsP(a:Int)(b:Str):decide ((Sum.inl a:Key)=Sum.inr b)=false:=decide_eq_false (λq=>nomatch q)
def zsL(a:Str)(b:Int):decide ((Sum.inr a:Key)=Sum.inl b)=false:=decide_eq_false (λq=>nomatch q)
noncomputable def zhU (prog:Program) (w:World):PySem.KeyKind prog w Key where
 is:=zqg
 hash:=zuU w
 inj:=λv a b g d=>by
  rcases zaZ g with⟨i,t,rfl,rfl⟩ | ⟨x,t,rfl,rfl⟩
  ·rcases zaZ d with⟨j,u,rfl,e⟩ | ⟨y,u,rfl,e⟩
   ·injection e with e1 _;rw[e1]
   ·exact nomatch e
  ·rcases zaZ d with⟨j,u,rfl,e⟩ | ⟨y,u,rfl,e⟩
   ·exact nomatch e
   ·injection e with e1 _;rw[e1]
 byValue:=λk v h=>by
  rcases zaZ h with⟨i,t,rfl,rfl⟩ | ⟨x,t,rfl,rfl⟩<;>rfl
 pyHash:=λc h=>by
  rcases zaZ c with⟨i,t,rfl,rfl⟩ | ⟨x,t,rfl,rfl⟩
  ·exact wpAny_pyHash_int h
  ·exact wpAny_pyHash_str h
 eqBool:=λf c h=>by
  rcases zaZ f with⟨i,t,rfl,rfl⟩ | ⟨x,t,rfl,rfl⟩
  ·rcases zaZ c with⟨j,u,rfl,rfl⟩ | ⟨y,u,rfl,rfl⟩
   ·rw[zsD]at h;exact wpAny_eqBool_int h
   ·rw[zsP]at h;exact SeqAt.EqAt.int_str i t y u _ _ _ _ h
  ·rcases zaZ c with⟨j,u,rfl,rfl⟩ | ⟨y,u,rfl,rfl⟩
   ·rw[zsL]at h;exact SeqAt.EqAt.str_int x t j u _ _ _ _ h
   ·rw[zsb]at h;exact wpAny_eqBool_str h
 «strs»:=λk x t v h=>by
  rcases zaZ h with⟨i,u,rfl,e⟩ | ⟨y,u,rfl,e⟩
  ·exact nomatch e
  ·injection e with e1 _
   subst e1;cases v<;>rfl
set_option genInjectivity true in
set_option genSizeOf true in
inductive V where
 | non | bl (b:Bool) | int (i:Int) | str (x:Str) | byt (b:Array UInt8) | flt (b:UInt64) | ref (a:Addr) | ty (n:String)
 deriving DecidableEq
variable {v y:V}{xs:List V}
noncomputable def RelV:V->Value->Prop
 | .non,u=>u=Value.none
 | .bl b,u=>u=Value.bool b
 | .int i,u=>∃t,u=Value.int i t
 | .str x,u=>∃t,u=Value.str x t
 | .byt b,u=>∃t,u=Value.bytes b t
 | .flt b,u=>∃t,u=Value.float b t
 | .ref a,u=>u=Value.ref a
 | .ty n,u=>u=Value.type n
abbrev Vals:List V->List Value->Prop:=Paired RelV
theorem Vals.length{xs:List V}{us:List Value}(r:Vals xs us):xs.length=us.length:=Paired.length r
theorem Vals.get:∀{xs:List V} {us:List Value} {i:Nat} {x:V},Vals xs us->xs[i]?=some x->∃u,us[i]?=some u/\RelV x u
 | _,_,_,_,.nil,e=>by simp at e
 | _,_,0,_,.cons r _,e=>by simp at e;subst e;exact⟨_,rfl,r⟩
 | _,_,i+1,x,.cons _ t,e=>by
  obtain⟨u,h1,h2⟩:=Vals.get (i:=i) (x:=x) t (by simpa using e);exact⟨u,by simpa using h1,h2⟩
theorem Vals.set{x:V}{u:Value}(r:RelV x u):∀{xs:List V} {us:List Value} (i:Nat),Vals xs us->Vals (xs.set i x) (us.set i u)
 | _,_,_,.nil=>.nil
 | _,_,0,.cons _ t=>.cons r t
 | _,_,i+1,.cons q t=>.cons q (Vals.set r i t)
theorem Vals.append:∀{xs ys:List V} {us ws:List Value},Vals xs us->Vals ys ws->Vals (xs++ys) (us++ws)
 | _,_,_,_,.nil,s=>s
 | _,_,_,_,.cons r t,s=>.cons r (Vals.append t s)
theorem Vals.take:∀{xs:List V} {us:List Value} (n:Nat),Vals xs us->Vals (xs.take n) (us.take n)
 | _,_,0,_=>.nil
 | _,_,_+1,.nil=>.nil
 | _,_,n+1,.cons r t=>.cons r (Vals.take n t)
theorem Vals.drop:∀{xs:List V} {us:List Value} (n:Nat),Vals xs us->Vals (xs.drop n) (us.drop n)
 | _,_,0,r=>r
 | _,_,_+1,.nil=>.nil
 | _,_,n+1,.cons _ t=>Vals.drop n t
noncomputable def RelO:Option V->Option Value->Prop
 | some v,some u=>RelV v u
 | none,none=>True
 | _,_=>False
noncomputable def KV {κ:Type}:List (κ × V)->List (κ × Value)->Prop:=Paired fun(p:κ × V) (q:κ × Value)=>p.1=q.1/\RelV p.2 q.2
noncomputable def kV:Key->V
 | .inl i=>.int i
 | .inr x=>.str x
set_option genInjectivity true in
set_option genSizeOf true in
inductive HO where
 /-- a list -/
 | lst (xs:List V)
 /-- a tuple (never changes) -/
 | tup (xs:List V)
 /-- a dict whose keys are ints and texts;one whose keys are tuples of ints and texts (the empty one is both) -/
 | dK (kvs:List (Key × V)) | dT (kvs:List (List Key × V))
 /-- a set of ints: its members,its size -/
 | set (S:Int->Bool) (n:Nat)
 /-- an instance of the class at C,its dict at dx,its attributes -/
 | ins (C dx:Addr) (fs:List (Str × V))
 /-- the dict of the instance at x -/
 | own (x:Addr)
 /-- the dict of an exception -/
 | xd (fs:List (Str × V))
 /-- a bound method,f of x -/
 | met (f x:Addr)
 /-- a range object lo,lo+1,.. below hi -/
 | rng (lo hi:Int)
 /-- a thing that is known to the object (the script;a dict while a loop walks it): read,never written while it is so -/
 | frz (o:Obj) (u:HO)
 /-- a code object's table -/
 | tbl (ps:Array Value)
 /-- any other thing,by what is true of its one object (a def of one's own: SetO a S n:=HO.ext λh=>..) -/
 | ext (φ:Heap->Prop)
variable {o:HO}
abbrev Hp:=Addr->Option HO
variable {H H':Hp}
noncomputable def upd (H:Hp) (a:Addr) (o:HO):Hp:=λb=>if b=a then some o else H b
def zQ:upd H a o a=some o:=by unfold upd;rw[if_pos rfl]
def zN(h:b≠a):upd H a o b=H b:=by unfold upd;rw[if_neg h]
def zV{u:HO}(h:H a=some o)(h':H b=some u)(d:o≠u):a≠b:=by
 intro e;subst e;rw[h]at h';exact d (yk h')
def zE(h:H a=some o)(h':H b=none):a≠b:=by
 intro e;subst e;rw[h]at h';cases h'
section
variable (P:Program)(w:World)
noncomputable def ObjOk (H:Hp) (h:Heap) (a:Addr):HO->Prop
 | .lst xs=>xs.length<=sizeLine/\∃(its:List Value) (n:Nat),Vals xs its/\h.get? a=some { cls:=.type "list",data:=.seq its.toArray n }
 | .tup xs=>xs.length<=sizeLine/\∃its:List Value,Vals xs its/\IsTup h a its.toArray
 | .dK kvs=>kvs.length<=sizeLine/\(a == sysModules)=false/\∃vs,KV kvs vs/\h.DictOf (zhU P w) a vs
 | .dT kvs=>kvs.length<=sizeLine/\(a == sysModules)=false/\∃xs:List (List Key × Addr × Value),
   Paired (fun(p:List Key × V) (q:List Key × Addr × Value)=>p.1=q.1/\H q.2.1=some (.tup (p.1.map kV))/\RelV p.2 q.2.2) kvs xs /\
   ∃o es ep,h.get? a=some o/\o.ExactDict/\o.data=.dict es ep/\es.toList=xs.map (entryOfKey (tupleKind (zhU P w)))/\(xs.map (·.1)).Nodup
 | .set S n=>h.SetOf (intKind P w) a S n
 | .ins C dx fs=>H dx=some (.own a)/\fs.length<=1000/\dx≠a/\h.get? a=some (PySem.W.instObj C dx) /\
   ∃mA,h.Ns1 dx mA/\(∀f,RelO (fs.lookup f) (mA f))/\PySem.Within mA (fs.map (·.1))
 | .own _=>∃o,h.get? a=some o
 | .xd fs=>∃mA,h.Ns1 a mA/\∀f,RelO (fs.lookup f) (mA f)
 | .rng lo hi=>∃t u v,h.get? a=some { cls:=.type "range",data:=.fields #[.int lo t,.int hi u,.int 1 v] }
 | .frz o u=>h.get? a=some o/\ObjOk H h a u
 | .tbl ps=>h.get? a=some { cls:=.none,data:=.fields ps }
 | .met f x=>h.get? a=some (PySem.W.methodObj (.ref f) (.ref x))
 | .ext φ=>φ h/\(∃o,h.get? a=some o)/\∀h1 h2:Heap,φ h1->(∀o,h1.get? a=some o->h2.get? a=some o)->φ h2
noncomputable def HOk (H:Hp) (h:Heap):Prop:=∀a o,H a=some o->ObjOk P w H h a o
end
section
variable {P:Program}{w:World}{H H':Hp}{h h':Heap}{a:Addr}{o:HO}
theorem ObjOk.lt(x:ObjOk P w H h a o):a<h.objs.size:=by
 cases o with
 | lst xs=>obtain⟨_,_,_,_,e⟩:=x;exact Heap.lt_size e
 | tup xs=>obtain⟨_,_,_,p⟩:=x;exact p.lt
 | dK kvs=>obtain⟨_,_,_,_,o,_,_,e,_⟩:=x;exact Heap.lt_size e
 | dT kvs=>obtain⟨_,_,_,_,o,_,_,e,_⟩:=x;exact Heap.lt_size e
 | set S n=>obtain⟨o,_,_,_,e,_⟩:=x;exact Heap.lt_size e
 | ins C dx fs=>obtain⟨_,_,_,e,_⟩:=x;exact Heap.lt_size e
 | own y=>obtain⟨_,e⟩:=x;exact Heap.lt_size e
 | xd fs=>obtain⟨_,⟨_,_,_,e,_⟩,_⟩:=x;exact Heap.lt_size e
 | rng lo hi=>obtain⟨_,_,_,e⟩:=x;exact Heap.lt_size e
 | frz ob u=>obtain⟨e,_⟩:=x;exact Heap.lt_size e
 | tbl ps=>exact Heap.lt_size (show h.get? a=some _ from x)
 | met f y=>exact Heap.lt_size (show h.get? a=some _ from x)
 | ext φ=>obtain⟨_,⟨_,e⟩,_⟩:=x;exact Heap.lt_size e
theorem Paired.mapP{α β:Type}{F G:α->β->Prop}:∀{l₁:List α} {l₂:List β},Paired F l₁ l₂->(∀a b,F a b->G a b)->Paired G l₁ l₂
 | _,_,.nil,_=>.nil
 | _,_,.cons r t,f=>.cons (f _ _ r) (Paired.mapP t f)
def ObjOk.stay(x:ObjOk P w H h a o)(k:∀b u,(b=a\/H b=some (.own a))->h.get? b=some u->h'.get? b=some u)
  (ho:∀b,H b=some (.own a)->H' b=some (.own a)) (ht:∀b xs,H b=some (.tup xs)->H' b=some (.tup xs)):ObjOk P w H' h' a o:=by
 induction o with
 | lst xs=>obtain⟨z,its,n,r,e⟩:=x;exact⟨z,its,n,r,k _ _ (.inl rfl) e⟩
 | tup xs=>obtain⟨z,its,r,ob,e,c⟩:=x;exact⟨z,its,r,ob,k _ _ (.inl rfl) e,c⟩
 | dK kvs=>obtain⟨z,y,vs,r,ob,es,g,e,c⟩:=x;exact⟨z,y,vs,r,ob,es,g,k _ _ (.inl rfl) e,c⟩
 | dT kvs=>
  obtain⟨z,y,xs,r,ob,es,g,e,c⟩:=x;exact⟨z,y,xs,Paired.mapP r λp q z=>⟨z.1,ht _ _ z.2.1,z.2.2⟩,ob,es,g,k _ _ (.inl rfl) e,c⟩
 | set S n=>obtain⟨ob,es,g,t,e,c⟩:=x;exact⟨ob,es,g,t,k _ _ (.inl rfl) e,c⟩
 | ins C dx fs=>
  obtain⟨d,z,ne,e,mA,⟨od,es,g,e2,c⟩,r⟩:=x;exact⟨ho _ d,z,ne,k _ _ (.inl rfl) e,mA,⟨od,es,g,k _ _ (.inr d) e2,c⟩,r⟩
 | own y=>obtain⟨ob,e⟩:=x;exact⟨ob,k _ _ (.inl rfl) e⟩
 | xd fs=>obtain⟨mA,⟨od,es,g,e,c⟩,r⟩:=x;exact⟨mA,⟨od,es,g,k _ _ (.inl rfl) e,c⟩,r⟩
 | rng lo hi=>obtain⟨t,u,v,e⟩:=x;exact⟨t,u,v,k _ _ (.inl rfl) e⟩
 | frz ob u ih=>obtain⟨e,q⟩:=x;exact⟨k _ _ (.inl rfl) e,ih q⟩
 | tbl ps=>
  have e:h.get? a=some { cls:=.none,data:=.fields ps }:=x;show h'.get? a=some { cls:=.none,data:=.fields ps };exact k a _ (.inl rfl) e
 | met f y=>
  have e:h.get? a=some (PySem.W.methodObj (.ref f) (.ref y)):=x;show h'.get? a=some (PySem.W.methodObj (.ref f) (.ref y));exact k a _ (.inl rfl) e
 | ext φ=>obtain⟨p,⟨o,e⟩,st⟩:=x;exact⟨st _ _ p λo q=>k _ _ (.inl rfl) q,⟨o,k _ _ (.inl rfl) e⟩,st⟩
theorem HOk.lt(x:HOk P w H h)(e:H a=some o):a<h.objs.size:=(x a o e).lt
def HOk.fresh(x:HOk P w H h)(e:h.objs.size<=a):H a=none:=by
 cases q:H a with
 | none=>rfl
 | some u=>exact absurd (Nat.lt_of_lt_of_le (x.lt q) e) (Nat.lt_irrefl _)
def HOk.kept(x:HOk P w H h)(k:∀b u,h.get? b=some u->h'.get? b=some u):HOk P w H h':=λa o e=>
 (x a o e).stay (λb u _ q=>k b u q) (λ_ q=>q) λ_ _ q=>q
def HOk.laid(x:HOk P w H h)(k:∀b u,h.get? b=some u->h'.get? b=some u)(hp:h.objs.size<=a)(new:ObjOk P w (upd H a o) h' a o):HOk P w (upd H a o) h':=λb u e=>by
 have d:=x.fresh hp;by_cases f:b=a
 ·subst f;rw[zQ]at e;cases e;exact new
 ·rw[zN f]at e;exact(x b u e).stay (λc v _ q=>k c v q) (λc q=>by rw[zN (zE q d)];exact q) λc xs q=>by rw[zN (zE q d)];exact q
end
noncomputable def Rd (H:Hp) (a:Addr) (u:HO):Prop:=H a=some u\/∃o,H a=some (.frz o u)
def Rd.ok{u:HO}(r:Rd H a u)(x:HOk P w H h):ObjOk P w H h a u:=by
 rcases r with r | ⟨o,r⟩
 ·exact x a u r
 ·obtain⟨_,q⟩:=x a _ r;exact q
noncomputable def Mut:Option HO->Prop
 | some (.lst _)=>True
 | some (.dK _)=>True
 | some (.dT _)=>True
 | some (.set _ _)=>True
 | some (.ins _ _ _)=>True
 | some (.ext _)=>True
 | _=>False
section
variable {P:Program}{w:World}{H:Hp}{h h':Heap}{x e:Addr}{o':HO}
def HOk.write(ok:HOk P w H h)(j:Mut (H x))(m:e=x\/H e=some (.own x))(k:∀b u,b≠e->h.get? b=some u->h'.get? b=some u)(l:∃u,h'.get? e=some u)
  (new:ObjOk P w (upd H x o') h' x o'):HOk P w (upd H x o') h':=λb u q=>by
 have d:∀c y,H c=some (.own y)->c≠x:=λc y r z=>by subst z;rw[r]at j;exact j
 have f:∀c xs,H c=some (.tup xs)->c≠x:=λc xs r z=>by subst z;rw[r]at j;exact j
 by_cases i:b=x
 ·subst i;rw[zQ]at q;cases q;exact new
 ·rw[zN i]at q;by_cases a:b=e
  ·have q':H b=some (.own x):=by
    rcases m with z | z
    ·exact absurd (a.trans z) i
    ·rw[a];exact z
   rw[q]at q';cases q';obtain⟨v,n⟩:=l;exact⟨v,by rw[a];exact n⟩
  ·refine(ok b u q).stay (λc v g r=>k c v ?_ r) (λc r=>by rw[zN (d c b r)];exact r) λc xs r=>by rw[zN (f c xs r)];exact r
   rcases g with rfl | g
   ·exact a
   ·rintro rfl;rcases m with z | z
    ·exact d c b g z
    ·rw[g]at z;cases z;exact i rfl
end
structure Un(fs ex:List Addr)(H H':Hp)(h h':Heap):Prop where
 keep:∀b o,h.get? b=some o->H b=none->b∉fs->b∉ex->h'.get? b=some o
 slot:∀b o,h.get? b=some o->H b=none->b∈fs->b∉ex->∃sl,h'.get? b=some { o with slots:=sl }
 free:∀b o,h.get? b=some o->H b=none->b∉ex->H' b=none
 there:∀b o,h.get? b=some o->b∉ex->∃o',h'.get? b=some o'
 tups:∀b xs,H b=some (.tup xs)->H' b=some (.tup xs)
 frzs:∀b o u,H b=some (.frz o u)->H' b=some (.frz o u)
 tbls:∀b ps,H b=some (.tbl ps)->∃more,H' b=some (.tbl (ps++more))
section
variable {fs fs' ex ex':List Addr}{H H1 H2:Hp}{h h1 h2 h':Heap}{a x e:Addr}{o:HO}
def Un.any(u:Un fs ex H H1 h h1){ob:Obj}(q:h.get? b=some ob)(n:H b=none)(c:b∉ex):∃sl,h1.get? b=some { ob with slots:=sl }:=by
 by_cases a:b∈fs
 ·exact u.slot b ob q n a c
 ·exact⟨ob.slots,u.keep b ob q n a c⟩
def Un.kept(k:∀b u,h.get? b=some u->h'.get? b=some u):Un fs ex H H h h':=
 ⟨λb ob q _ _ _=>k b ob q,λb ob q _ _ _=>⟨ob.slots,k b ob q⟩,λ_ _ _ n _=>n,λb ob q _=>⟨ob,k b ob q⟩,λ_ _ q=>q,λ_ _ _ q=>q,λ_ ps q=>⟨#[],by rw[q];simp⟩⟩
def Un.refl:Un fs ex H H h h:=Un.kept λ_ _ q=>q
def Un.laid(k:∀b u,h.get? b=some u->h'.get? b=some u)(hp:h.objs.size<=a)(c:H a=none):Un fs ex H (upd H a o) h h' where
 keep:=λb u q _ _ _=>k b u q
 slot:=λb u q _ _ _=>⟨u.slots,k b u q⟩
 free:=λb u q n _=>by rw[zN (yo (Nat.lt_of_lt_of_le (Heap.lt_size q) hp))];exact n
 there:=λb u q _=>⟨u,k b u q⟩
 tups:=λb xs q=>by rw[zN (zE q c)];exact q
 frzs:=λb u xs q=>by rw[zN (zE q c)];exact q
 tbls:=λb ps q=>⟨#[],by rw[zN (zE q c),q];simp⟩
def Un.write(c:Mut (H x))(j:e=x\/H e=some (.own x))(k:∀b u,b≠e->h.get? b=some u->h'.get? b=some u)(d:∃u,h'.get? e=some u):Un fs ex H (upd H x o) h h':=by
 have g:∀b,H b=none->b≠x:=λb n z=>by subst z;rw[n]at c;exact c
 have i:∀b,H b=none->b≠e:=λb n z=>by
  subst z;rcases j with r | r
  ·exact g b n r
  ·rw[n]at r;cases r
 have f:∀b u,H b=some u->¬Mut (some u)->b≠x:=λb u q nm z=>by subst z;rw[q]at c;exact nm c
 refine⟨λb u q n _ _=>k b u (i b n) q,λb u q n _ _=>⟨u.slots,k b u (i b n) q⟩,λb u q n _=>by rw[zN (g b n)];exact n,λb u q _=>?_,
  λb xs q=>by rw[zN (f b _ q λz=>z)];exact q,λb u xs q=>by rw[zN (f b _ q λz=>z)];exact q,λb ps q=>⟨#[],by rw[zN (f b _ q λz=>z),q];simp⟩⟩
 by_cases a:b=e
 ·subst a;exact d
 ·exact⟨u,k b u a q⟩
end
noncomputable def trk (h:Heap) (H:Hp):List Addr:=(List.range h.objs.size).filter λa=>(H a).isSome
noncomputable def zdx (h:Heap) (H:Hp):Heap:=PySem.W.hideAll h (trk h H)
def znh(h:Heap)(H:Hp):(zdx h H).objs.size=h.objs.size:=PySem.W.hideAll_size _ _
def zpp{o:Obj}(e:h.get? b=some o)(n:H b=none):(zdx h H).get? b=some o:=
 PySem.W.hideAll_get _ e λa=>by
  have q:(H b).isSome=true:=(List.mem_filter.mp a).2;rw[n]at q;simp at q
def zqQ{o:Obj}(e:(zdx h H).get? b=some o):h.get? b=some o/\H b=none:=by
 have a:h.get? b=some o:=PySem.W.of_hideAll (trk h H) e;refine⟨a,?_⟩;cases q:H b with
 | none=>rfl
 | some x=>
  have c:b∈trk h H:=List.mem_filter.mpr ⟨List.mem_range.mpr (Heap.lt_size a),by simp[q]⟩;have z:(zdx h H).get? b=none:=PySem.W.hideAll_none (trk h H) c;rw[z]at e;cases e
noncomputable def zqR (g h:Heap) (L:Addr):List (Addr × Obj):=(List.range h.objs.size).filterMap λa=>if a=L\/(g.get? a).isSome=true then none else(h.get? a).map λo=>(a,o)
noncomputable def rest (g h:Heap) (L d:Addr):List (Addr × Obj):=(zqR g h L).filter λp=>decide (p.1≠d)
structure Mod(K:Fg)(mg:Str->Option Value)(base:Heap):Prop where
 kin:K.In base
 glob:base.Ns mainGlobals mg
 blt:∃mb,base.Ns builtinsNs mb/\∀x:Str,x ≠ "__name__" -> mb x=bootBuiltins x
 nolimit:base.NoLimit
set_option genInjectivity true in
structure Cx where
 prog:Program
 w:World
 K:Fg
 mg:Str->Option Value
 base:Heap
 A:Around
 N:List Str
 s₀:Shared
 H₀:Hp
 env:Env
 outer:List Env
 stack:List Env
 ex:List Addr
 fn:Str->Bool
 calm:Bool
 pn:List (Addr × Obj)
 xe:Value->Shared->Prop
variable {X:Cx}
noncomputable def frs (l:List Env):List Addr:=l.filterMap (·.frame)
abbrev Cx.fs(X:Cx):List Addr:=frs X.outer
noncomputable def Vis (a:Scope) (x:Str):Prop:=a.names.lookup x=some .local\/a.names.lookup x=some .cell\/a.names.lookup x=some .free
noncomputable def Loc (a:Scope) (x:Str):Prop:=a.names.lookup x=some .local\/a.names.lookup x=some .cell
noncomputable def zuC (env:Env) (h:Heap) (m:Str->Option Value) (x:Str) (u:Value):Prop:=
 (env.kindOf x=some .local/\m x=some u)\/((env.kindOf x=some .cell\/env.kindOf x=some .free)/\∃c,env.cells.lookup x=some c/\h.IsCell c (some u))
structure Cx.Ok(X:Cx):Prop where
 mod:Mod X.K X.mg X.base
 kind:X.env.scope.kind=.function
 glob:X.env.globals=mainGlobals
 blt:X.env.builtins=builtinsNs
 above:X.s₀.heap.objs.size<=X.env.locals
 inj:∀x y c,X.env.cells.lookup x=some c->X.env.cells.lookup y=some c->x=y
 has:∀x,(X.env.kindOf x=some .cell\/X.env.kindOf x=some .free)->∃c,X.env.cells.lookup x=some c
 cab:∀x c,X.fn x=true->X.env.cells.lookup x=some c->X.s₀.heap.objs.size<=c
 hd:X.calm=true->X.A.handled=none
 frames:X.A.frames=some X.stack
 stk:X.stack=X.outer\/(X.stack=X.env :: X.outer/\X.env.frame=some X.env.locals)
 exf:∀b∈X.ex,b≠X.env.locals/\∀x c,X.env.cells.lookup x=some c->c≠b
 bs:∀b o,X.base.get? b=some o->X.s₀.heap.get? b=some o/\X.H₀ b=none
 bsz:X.base.objs.size<=X.s₀.heap.objs.size
 noex:∀b o,X.base.get? b=some o->b∉X.ex
 exfs:∀b∈X.ex,b∉X.fs
 funs:X.s₀.heap.FunFrames X.base X.outer
 frf:∀b∈X.fs,X.H₀ b=none
structure Inv(X:Cx)(pins:List (Addr × Obj))(σ:List (Option V))(H:Hp)(s:Shared):Prop where
 ok:X.Ok
 os:s.os=X.s₀.os
 bare:AllBare s.gens
 base:Un X.fs X.ex X.H₀ H X.s₀.heap s.heap
 loc:∃m,s.heap.Ns X.env.locals m/\∀(i:Nat) (x:Str) (v:V),X.N[i]?=some x->σ[i]?=some (some v)->Vis X.env.scope x->∃u,RelV v u/\zuC X.env s.heap m x u
 cell:∀x c,X.env.cells.lookup x=some c->∃v,s.heap.IsCell c v
 free:H X.env.locals=none
 freeC:∀x c,X.env.cells.lookup x=some c->H c=none
 pin:∀p∈X.pn++pins,s.heap.get? p.1=some p.2/\H p.1=none/\p.1≠X.env.locals/\p.1∉X.fs/\∀v,p.2.data≠.cell v
 hok:HOk X.prog X.w H s.heap
 len:σ.length=X.N.length
section
variable {X:Cx}{pins:List (Addr × Obj)}{σ:List (Option V)}{H H':Hp}{s:Shared}{h':Heap}
def Cx.Ok.nofr(ok:X.Ok){o:Obj}(e:X.base.get? b=some o):b∉X.fs:=λa=>by
 have:=(ok.funs.mem a).1
 rw[e]at this;cases this
theorem Inv.bs(I:Inv X pins σ H s):∀b o,X.base.get? b=some o->s.heap.get? b=some o/\H b=none:=λb o e=>
 ⟨I.base.keep b o (I.ok.bs b o e).1 (I.ok.bs b o e).2 (I.ok.nofr e) (I.ok.noex b o e),I.base.free b o (I.ok.bs b o e).1 (I.ok.bs b o e).2 (I.ok.noex b o e)⟩
def Inv.bk(I:Inv X pins σ H s):∀b o,X.base.get? b=some o->s.heap.get? b=some o:=λb o e=>(I.bs b o e).1
theorem Inv.mod(I:Inv X pins σ H s):Mod X.K X.mg X.base:=I.ok.mod
def Inv.kIn(I:Inv X pins σ H s):X.K.In s.heap:=I.ok.mod.kin.keeps I.bk
theorem Inv.lt(I:Inv X pins σ H s):X.env.locals<s.heap.objs.size:=let ⟨_,hn,_⟩:=I.loc;hn.lt
def Inv.sz(I:Inv X pins σ H s):X.s₀.heap.objs.size<=s.heap.objs.size:=ya I.ok.above (Nat.le_of_lt I.lt)
def Inv.nofs(I:Inv X pins σ H s)(h:s.heap.objs.size<=a):a∉X.fs:=λb=>by
 obtain⟨_,o,c,_⟩:=I.ok.funs.mem b;exact absurd (Nat.lt_of_lt_of_le (Heap.lt_size c) (ya I.sz h)) (Nat.lt_irrefl _)
def Inv.cne(I:Inv X pins σ H s):∀x c,X.env.cells.lookup x=some c->c≠X.env.locals:=λx c e z=>by
 obtain⟨v,o,d,hd⟩:=I.cell x c e;obtain⟨m,⟨o',es,f,b,a,_⟩,_⟩:=I.loc;rw[z,b]at d;cases d;rw[a]at hd;cases hd
theorem Inv.funs(I:Inv X pins σ H s):s.heap.FunFrames X.base X.outer:=by
 have all:∀(l:List Env),(∀b∈frs l,b∈X.fs)->X.s₀.heap.FunFrames X.base l->s.heap.FunFrames X.base l:=by
  intro l
  induction l with
  | nil=>intro _ _;trivial
  | cons env r ih=>
   intro f i;obtain⟨k,⟨L,o,a,h,g,hd⟩,j⟩:=i;have d:L∈X.fs:=f L (by unfold frs;rw[List.filterMap_cons,a];exact List.mem_cons_self);obtain⟨m,e⟩:=I.base.slot L o g (I.ok.frf L d) d λz=>I.ok.exfs L z d;exact⟨k,⟨L,_,a,h,e,hd⟩,ih (λb c=>f b (by unfold frs;rw[List.filterMap_cons,a];exact List.mem_cons_of_mem _ c)) j⟩
 exact all X.outer (λ_ c=>c) I.ok.funs
theorem Inv.stack(I:Inv X pins σ H s):s.heap.FunFrames X.base X.stack:=by
 rcases I.ok.stk with e | ⟨e,a⟩
 ·rw[e];exact I.funs
 ·rw[e];obtain⟨m,b,_⟩:=I.loc;refine .cons (by rw[I.ok.kind];decide) a b ?_ I.funs;exact Heap.get?_none_of_le (ya I.ok.bsz I.ok.above)
def Inv.stkSub(I:Inv X pins σ H s):∀b∈frs X.stack,b∈X.env.locals :: X.fs:=λb a=>by
 rcases I.ok.stk with e | ⟨e,c⟩
 ·rw[e]at a;exact List.mem_cons_of_mem _ a
 ·rw[e]at a;unfold frs at a;rw[List.filterMap_cons,c]at a;exact a
def Inv.stkFree(I:Inv X pins σ H s):∀b∈frs X.stack,H b=none:=λb a=>by
 rcases List.mem_cons.mp (I.stkSub b a)with e | a
 ·rw[e];exact I.free
 ·obtain⟨_,o,c,_⟩:=I.ok.funs.mem a;exact I.base.free b o c (I.ok.frf b a) λz=>I.ok.exfs b z a
def Inv.step{g':Array GenState}{t':Nat}{d':Drawn}{ch:List Addr}(I:Inv X pins σ H s)
  (hch:∀b∈ch,(b∈X.ex\/X.s₀.heap.objs.size<=b)/\b≠X.env.locals/\(∀x c,X.env.cells.lookup x=some c->c≠b)/\∀p∈X.pn++pins,p.1≠b)
  (keep:∀b o,b≠X.env.locals->b∉X.fs->b∉ch->s.heap.get? b=some o->H b=none->h'.get? b=some o)
  (slot:∀b o,b≠X.env.locals->b∈X.fs->b∉ch->s.heap.get? b=some o->H b=none->∃A,h'.get? b=some { o with slots:=A }) (free:∀b o,b∉ch->s.heap.get? b=some o->H b=none->H' b=none)
  (there:∀b o,b∉ch->s.heap.get? b=some o->∃o',h'.get? b=some o')
  (tups:∀b xs,H b=some (.tup xs)->H' b=some (.tup xs)) (frzs:∀b o u,H b=some (.frz o u)->H' b=some (.frz o u)) (tbls:∀b ps,H b=some (.tbl ps)->∃more,H' b=some (.tbl (ps++more)))
  (ns:∀m,s.heap.Ns X.env.locals m->h'.Ns X.env.locals m) (hok:HOk X.prog X.w H' h') (hg:AllBare g') :
  Inv X pins σ H' { s with heap:=h',gens:=g',drawn:=d',toks:=t' }:=by
 have y:∀b o,X.s₀.heap.get? b=some o->b≠X.env.locals:=λb o e=>yo (Nat.lt_of_lt_of_le (Heap.lt_size e) I.ok.above);have h:∀b o,X.s₀.heap.get? b=some o->b∉X.ex->b∉ch:=λb o e a j=>by
  rcases(hch b j).1 with z | z
  ·exact a z
  ·exact absurd (Nat.lt_of_lt_of_le (Heap.lt_size e) z) (Nat.lt_irrefl _)
 have g:∀x c,X.env.cells.lookup x=some c->∀v,s.heap.IsCell c v->h'.IsCell c v:=λx c e v ⟨o,t,hd⟩=>by
  have f:c∉ch:=λz=>(hch c z).2.2.1 x c e rfl;by_cases D:c∈X.fs
  ·obtain⟨A,q⟩:=slot c o (I.cne x c e) D f t (I.freeC x c e);exact⟨_,q,hd⟩
  ·exact⟨o,keep c o (I.cne x c e) D f t (I.freeC x c e),hd⟩
 refine⟨I.ok,I.os,hg,⟨λb o e n j a=>?_,λb o e n j a=>?_,λb o e n a=>?_,λb o e a=>?_,λb xs e=>tups b xs (I.base.tups b xs e),λb o xs e=>frzs b o xs (I.base.frzs b o xs e),λb ps e=>?_⟩,?_,λx c e=>?_,?_,λx c e=>?_,λp hp=>?_,hok,I.len⟩
 ·exact keep b o (y b o e) j (h b o e a) (I.base.keep b o e n j a) (I.base.free b o e n a)
 ·obtain⟨A,e1⟩:=I.base.slot b o e n j a;obtain⟨B,e2⟩:=slot b _ (y b o e) j (h b o e a) e1 (I.base.free b o e n a);exact⟨B,e2⟩
 ·obtain⟨o',e1⟩:=I.base.there b o e a;exact free b o' (h b o e a) e1 (I.base.free b o e n a)
 ·obtain⟨o',e1⟩:=I.base.there b o e a;exact there b o' (h b o e a) e1
 ·obtain⟨K,e1⟩:=I.base.tbls b ps e;obtain⟨F,e2⟩:=tbls b _ e1;exact⟨K++F,by rw[e2,Array.append_assoc]⟩
 ·obtain⟨m,E,J⟩:=I.loc;refine⟨m,ns m E,λi x v e1 e2 G=>?_⟩;obtain⟨u,r,l⟩:=J i x v e1 e2 G;refine⟨u,r,?_⟩;rcases l with l | ⟨k,c,e,z⟩
  ·exact .inl l
  ·exact .inr ⟨k,c,e,g x c e _ z⟩
 ·obtain⟨v,z⟩:=I.cell x c e;exact⟨v,g x c e v z⟩
 ·obtain⟨m,⟨o,_,_,t,_⟩,_⟩:=I.loc;exact free _ o (λz=>(hch _ z).2.1 rfl) t I.free
 ·obtain⟨v,o,t,hd⟩:=I.cell x c e;exact free c o (λz=>(hch c z).2.2.1 x c e rfl) t (I.freeC x c e)
 ·obtain⟨e,n,ne,C,d⟩:=I.pin p hp;have f:p.1∉ch:=λz=>(hch p.1 z).2.2.2 p hp rfl;exact⟨keep p.1 p.2 ne C f e n,free p.1 p.2 f e n,ne,C,d⟩
def Inv.un(I:Inv X pins σ H s)(u:Un X.fs [] H H' s.heap h')(hok:HOk X.prog X.w H' h'):Inv X pins σ H' { s with heap:=h',toks:=t' }:=by
 obtain⟨m,⟨o,es,l,g,r⟩,_⟩:=id I.loc;obtain⟨p,i⟩:=u.any g I.free (by simp);exact I.step (g':=s.gens) (d':=s.drawn) (ch:=[]) (λ_ z=>nomatch z) (λb o _ f _ e n=>u.keep b o e n f (by simp)) (λb o _ f _ e n=>u.slot b o e n f (by simp)) (λb o _ e n=>u.free b o e n (by simp)) (λb o _ e=>u.there b o e (by simp)) u.tups u.frzs u.tbls (λk j=>by
  obtain⟨o',d,c,a,h⟩:=j;rw[g]at a;cases a;exact⟨_,d,c,i,h⟩) hok I.bare
def Inv.call{g':Array GenState}{t':Nat}{d':Drawn}{ch:List Addr}(I:Inv X pins σ H s)(u:Un (frs X.stack) ch H H' s.heap h')(hok:HOk X.prog X.w H' h')(l:AllBare g')
  (hch:∀b∈ch,(b∈X.ex\/X.s₀.heap.objs.size<=b)/\b≠X.env.locals/\(∀x c,X.env.cells.lookup x=some c->c≠b)/\∀p∈X.pn++pins,p.1≠b) :
  Inv X pins σ H' { s with heap:=h',gens:=g',drawn:=d',toks:=t' }:=by
 obtain⟨m,⟨o,es,v,i,r⟩,_⟩:=id I.loc;obtain⟨y,h⟩:=u.any i I.free λz=>(hch _ z).2.1 rfl;exact I.step (ch:=ch) hch (λb o h j a e n=>u.keep b o e n (λz=>(List.mem_cons.mp (I.stkSub b z)).elim h j) a) (λb o _ _ a e n=>u.any e n a) (λb o a e n=>u.free b o e n a) (λb o a e=>u.there b o e a) u.tups u.frzs u.tbls (λt q=>by
  obtain⟨o',g,f,d,k⟩:=q;rw[i]at d;cases d;exact⟨_,g,f,h,k⟩) hok l
def Inv.turned{t':Nat}{it:Addr}(I:Inv X pins σ H s)(k:∀b o,b≠it->s.heap.get? b=some o->h'.get? b=some o)(h:H it=none)(f:it≠X.env.locals)
  (h1:it∈X.ex\/X.s₀.heap.objs.size<=it) (h2:∀x c,X.env.cells.lookup x=some c->c≠it) (h3:∀p∈X.pn++pins,p.1≠it):Inv X pins σ H { s with heap:=h',toks:=t' }:=by
 have d:∀b u,H b=some u->b≠it:=λb u e z=>by rw[z,h]at e;cases e
 refine I.step (g':=s.gens) (d':=s.drawn) (ch:=[it]) (λb j=>?_) (λb o _ _ a e _=>k b o (λz=>a (by simp[z])) e) (λb o _ _ a e _=>⟨o.slots,k b o (λz=>a (by simp[z])) e⟩) (λ_ _ _ _ n=>n)
  (λb o a e=>⟨o,k b o (λz=>a (by simp[z])) e⟩) (λ_ _ e=>e) (λ_ _ _ e=>e) (λb ps e=>⟨#[],by rw[e];simp⟩) (λm l=>?_) (λb u e=>?_) I.bare
 ·have e:b=it:=by simpa using j
  subst e;exact⟨h1,f,h2,h3⟩
 ·obtain⟨o,es,i,g,r⟩:=l;exact⟨o,es,i,k _ o (Ne.symm f) g,r⟩
 ·refine(I.hok b u e).stay (λc v a q=>k c v ?_ q) (λ_ q=>q) λ_ _ q=>q;rcases a with z | z
  ·rw[z];exact d b u e
  ·exact d c _ z
def Inv.tok(I:Inv X pins σ H s)(t:Nat):Inv X pins σ H { s with toks:=t }:=I.un (h':=s.heap) (t':=t) Un.refl I.hok
theorem Inv.kept{t':Nat}(I:Inv X pins σ H s)(k:∀b u,s.heap.get? b=some u->h'.get? b=some u):Inv X pins σ H { s with heap:=h',toks:=t' }:=I.un (Un.kept k) (I.hok.kept k)
theorem Inv.laid{a:Addr}{o:HO}{t':Nat}(I:Inv X pins σ H s)(k:∀b u,s.heap.get? b=some u->h'.get? b=some u)(hp:s.heap.objs.size<=a)(new:ObjOk X.prog X.w (upd H a o) h' a o) :
  Inv X pins σ (upd H a o) { s with heap:=h',toks:=t' }:=I.un (Un.laid k hp (I.hok.fresh hp)) (I.hok.laid k hp new)
theorem Inv.write{x e:Addr}{o:HO}{t':Nat}(I:Inv X pins σ H s)(d:Mut (H x))(c:e=x\/H e=some (.own x))(k:∀b u,b≠e->s.heap.get? b=some u->h'.get? b=some u)(a:∃u,h'.get? e=some u)
  (new:ObjOk X.prog X.w (upd H x o) h' x o):Inv X pins σ (upd H x o) { s with heap:=h',toks:=t' }:=I.un (Un.write d c k a) (I.hok.write d c k a new)
def Inv.pins_of{a:List (Addr × Obj)}(I:Inv X pins σ H s)(h:∀p∈a,s.heap.get? p.1=some p.2/\H p.1=none/\p.1≠X.env.locals/\p.1∉X.fs/\∀v,p.2.data≠.cell v):Inv X a σ H s:=
 ⟨I.ok,I.os,I.bare,I.base,I.loc,I.cell,I.free,I.freeC,λp hp=>(List.mem_append.mp hp).elim (λz=>I.pin p (List.mem_append_left _ z)) (h p),I.hok,I.len⟩
def zgJ(c:N.Nodup){j:Nat}(a:N[i]?=some x)(b:N[j]?=some x):i=j:=by
 obtain⟨h1,e1⟩:=yi.mp a;obtain⟨h2,e2⟩:=yi.mp b;exact(List.getElem_inj c).mp (e1.trans e2.symm)
def ziX{M:Model}{A:Around}{E:Value->Shared->Prop}{Q:Unit->Shared->Prop}(I:Inv X pins σ H s)(hN:X.N.Nodup)(hi:X.N[i]?=some x)(t:Loc X.env.scope x)(r:RelV v u)
  (h:∀s',Inv X pins (σ.set i (some v)) H s'->(∃a,Heap.SameBut a s.heap s'.heap/\(a=X.env.locals\/X.env.cells.lookup x=some a))->Q () s') (hf:autoParam (X.fn x=true\/X.env.scope.names.lookup x=some .local) Internal.aut0._auto_1):wpAny M A (storeName X.env x u) Q E s:=by
 obtain⟨m,U,hl⟩:=id I.loc;have R:(X.env.scope.kind == .class || (X.env.scope.kind == .module&&X.env.locals != X.env.globals))=false:=by rw[I.ok.kind];rfl
 have K:i < σ.length:=by rw[I.len];exact(yi.mp hi).1
 have cne:=I.cne;have g:∀{a:Addr} {h':Heap},(∃o,s.heap.get? a=some o/\H a=none)->Heap.SameBut a s.heap h'->HOk X.prog X.w H h':=λ{a h'} ha f b ob e=>by
  obtain⟨_,_,B⟩:=ha;refine(I.hok b ob e).stay (λc T l q=>(f.2 c ?_).trans q) (λ_ q=>q) λ_ _ q=>q;rintro rfl;rcases l with rfl | l
  ·rw[B]at e;cases e
  ·rw[B]at l;cases l
 rcases t with C | C
 ·refine wpAny_storeName_local C U (λh' Y f=>?_) R;obtain⟨oL,_,_,a0,_⟩:=id U;refine h _ ⟨I.ok,I.os,I.bare,⟨λb o e n F t=>?_,λb o e n F t=>?_,I.base.free,λb o e t=>?_,I.base.tups,I.base.frzs,I.base.tbls⟩,⟨_,Y,λj y W e1 e2 e3=>?_⟩,λy c e=>?_,I.free,I.freeC,λp hp=>?_,g ⟨oL,a0,I.free⟩ f,by simpa using I.len⟩ ⟨_,f,.inl rfl⟩
  ·exact(f.2 b (yo (Nat.lt_of_lt_of_le (Heap.lt_size e) I.ok.above))).trans (I.base.keep b o e n F t)
  ·obtain⟨Z,e1⟩:=I.base.slot b o e n F t;exact⟨Z,(f.2 b (yo (Nat.lt_of_lt_of_le (Heap.lt_size e) I.ok.above))).trans e1⟩
  ·obtain⟨o',e1⟩:=I.base.there b o e t;exact⟨o',(f.2 b (yo (Nat.lt_of_lt_of_le (Heap.lt_size e) I.ok.above))).trans e1⟩
  ·by_cases D:j=i
   ·subst D;rw[hi]at e1;cases e1;rw[List.getElem?_set_self K]at e2;cases e2;exact⟨u,r,.inl ⟨C,by simp⟩⟩
   ·rw[List.getElem?_set_ne (Ne.symm D)]at e2;obtain⟨u',r',q⟩:=hl j y W e1 e2 e3;refine⟨u',r',?_⟩;rcases q with⟨k,e⟩ | ⟨k,c,e,z⟩
    ·refine .inl ⟨k,?_⟩
     have:y≠x:=λe=>D (zgJ hN e1 (e▸hi))
     simp[this,e]
    ·exact .inr ⟨k,c,e,z.sameBut f (cne y c e)⟩
  ·obtain⟨T,z⟩:=I.cell y c e;exact⟨T,z.sameBut f (cne y c e)⟩
  ·obtain⟨e,n,ne,V,d⟩:=I.pin p hp;exact⟨(f.2 p.1 ne).trans e,n,ne,V,d⟩
 ·have G:X.fn x=true:=by
   rcases hf with z | z
   ·exact z
   ·rw[z]at C;cases C
  obtain⟨c,l⟩:=I.ok.has x (.inl C);obtain⟨T,z⟩:=I.cell x c l;refine wpAny_storeName_cell I.ok.kind C l z (λh' P f=>?_);obtain⟨oc,O,J⟩:=id z;refine h { s with heap:=h' } ⟨I.ok,I.os,I.bare,⟨λb o e n F t=>?_,λb o e n F t=>?_,I.base.free,λb o e t=>?_,I.base.tups,I.base.frzs,I.base.tbls⟩,⟨m,U.sameBut f (Ne.symm (cne x c l)),λj y W e1 e2 e3=>?_⟩,λy S e=>?_,I.free,I.freeC,λp hp=>?_,g ⟨oc,O,I.freeC x c l⟩ f,by simpa using I.len⟩ ⟨c,f,.inr l⟩
  ·exact(f.2 b (yo (Nat.lt_of_lt_of_le (Heap.lt_size e) (I.ok.cab x c G l)))).trans (I.base.keep b o e n F t)
  ·obtain⟨Z,e1⟩:=I.base.slot b o e n F t;exact⟨Z,(f.2 b (yo (Nat.lt_of_lt_of_le (Heap.lt_size e) (I.ok.cab x c G l)))).trans e1⟩
  ·obtain⟨o',e1⟩:=I.base.there b o e t;exact⟨o',(f.2 b (yo (Nat.lt_of_lt_of_le (Heap.lt_size e) (I.ok.cab x c G l)))).trans e1⟩
  ·by_cases D:j=i
   ·subst D;rw[hi]at e1;cases e1;rw[List.getElem?_set_self K]at e2;cases e2;exact⟨u,r,.inr ⟨.inl C,c,l,P⟩⟩
   ·rw[List.getElem?_set_ne (Ne.symm D)]at e2;obtain⟨u',r',q⟩:=hl j y W e1 e2 e3;refine⟨u',r',?_⟩;rcases q with q | ⟨k,S,e,z'⟩
    ·exact .inl q
    ·refine .inr ⟨k,S,e,z'.sameBut f ?_⟩;rintro rfl;exact D (zgJ hN e1 (I.ok.inj _ _ _ e l▸hi))
  ·by_cases L:S=c
   ·subst L;exact⟨_,P⟩
   ·obtain⟨w2,z2⟩:=I.cell y S e;exact⟨w2,z2.sameBut f L⟩
  ·obtain⟨e,n,ne,V,d⟩:=I.pin p hp;refine⟨(f.2 p.1 ?_).trans e,n,ne,V,d⟩;intro q;rw[q,O]at e;have q':oc=p.2:=yk e;exact d T (by rw[<- q'];exact J)
def zeL{M:Model}{A:Around}{E:Value->Shared->Prop}{Q:Unit->Shared->Prop}(I:Inv X pins σ H s)(a:X.N.Nodup)(hi:X.N[i]?=some x)(b:Loc X.env.scope x)(r:RelV v u)
  (h:∀s',Inv X pins (σ.set i (some v)) H s'->Q () s') (hf:autoParam (X.fn x=true\/X.env.scope.names.lookup x=some .local) Internal.aut0._auto_1):wpAny M A (storeName X.env x u) Q E s:=
 ziX I a hi b r (λs' c _=>h s' c) hf
def Inv.call'{s':Shared}{ch:List Addr}(I:Inv X pins σ H s)(a:s'.os=s.os)(u:Un (frs X.stack) ch H H' s.heap s'.heap)(hok:HOk X.prog X.w H' s'.heap)(d:AllBare s'.gens)
  (hch:∀b∈ch,(b∈X.ex\/X.s₀.heap.objs.size<=b)/\b≠X.env.locals/\(∀x c,X.env.cells.lookup x=some c->c≠b)/\∀p∈X.pn++pins,p.1≠b):Inv X pins σ H' s':=by
 obtain⟨h',g',d',t',o'⟩:=s';have e:o'=s.os:=a;subst e;exact I.call (g':=g') (t':=t') (d':=d') u hok d hch
end
abbrev XK:=Value->Option Addr->Hp->Prop
abbrev St:=List (Option V)
variable {σ:St}
abbrev VK:=V->Hp->Prop
variable {Q:VK}
abbrev TE:=St->Hp->VK->Prop
variable {tl:TE}
abbrev TT:=St->Hp->(Bool->Hp->Prop)->Prop
abbrev TA:=St->Hp->(List V->Hp->Prop)->Prop
structure Ends where
 nx:St->Hp->Prop
 rt:VK
 bk:St->Hp->Prop:=λ_ _=>False
 ct:St->Hp->Prop:=λ_ _=>False
abbrev TS:=Ends->St->Hp->Prop
noncomputable def EP (X:Cx) (pins:List (Addr × Obj)) (σ:St) (Q:VK) (u:Value) (s':Shared):Prop:=∃v H',Inv X pins σ H' s'/\RelV v u/\Q v H'
noncomputable def TP (X:Cx) (pins:List (Addr × Obj)) (σ:St) (Q:Bool->Hp->Prop) (b:Bool) (s':Shared):Prop:=∃H',Inv X pins σ H' s'/\Q b H'
noncomputable def AP (X:Cx) (pins:List (Addr × Obj)) (σ:St) (Q:List V->Hp->Prop) (us:List Value) (s':Shared):Prop:=∃vs H',Inv X pins σ H' s'/\Vals vs us/\Q vs H'
noncomputable def SP (X:Cx) (pins:List (Addr × Obj)) (D:Ends) (f:Flow) (s':Shared):Prop:=
 match f with
 | .next=>∃σ' H',Inv X pins σ' H' s'/\D.nx σ' H'
 | .brk=>∃σ' H',Inv X pins σ' H' s'/\D.bk σ' H'
 | .cont=>∃σ' H',Inv X pins σ' H' s'/\D.ct σ' H'
 | .ret u=>∃v σ' H',Inv X pins σ' H' s'/\RelV v u/\D.rt v H'
noncomputable def PE (X:Cx) (e:Expr) (t:TE):Prop:=
 ∀(pins:List (Addr × Obj)) (s:Shared) (σ:St) (H:Hp) (Q:VK),Inv X pins σ H s->t σ H Q->wpAny (model X.prog X.w) X.A (eval e X.env) (EP X pins σ Q) X.xe s
noncomputable def PT (X:Cx) (e:Expr) (t:TT):Prop:=
 ∀(pins:List (Addr × Obj)) (s:Shared) (σ:St) (H:Hp) (Q:Bool->Hp->Prop),Inv X pins σ H s->t σ H Q->wpAny (model X.prog X.w) X.A (isTrue e X.env (eval e X.env)) (TP X pins σ Q) X.xe s
noncomputable def PW (X:Cx) (e:Expr) (t:TT):Prop:=
 ∀(whole:Sem Value) (pins:List (Addr × Obj)) (s:Shared) (σ:St) (H:Hp) (Q:Bool->Hp->Prop),Inv X pins σ H s->t σ H Q->wpAny (model X.prog X.w) X.A (isTrue e X.env whole) (TP X pins σ Q) X.xe s
def PW.pt{t:TT}(h:PW X e t):PT X e t:=h _
noncomputable def PA (X:Cx) (es:List Expr) (t:TA):Prop:=
 ∀(pos:Pos) (pins:List (Addr × Obj)) (s:Shared) (σ:St) (H:Hp) (Q:List V->Hp->Prop),Inv X pins σ H s->t σ H Q->wpAny (model X.prog X.w) X.A (spliced (backTo pos (starEach es X.env))) (AP X pins σ Q) X.xe s
noncomputable def PS (X:Cx) (st:Stmt) (t:TS):Prop:=
 ∀(pins:List (Addr × Obj)) (s:Shared) (σ:St) (H:Hp) (D:Ends),Inv X pins σ H s->t D σ H->wpAny (model X.prog X.w) X.A (exec st X.env) (SP X pins D) X.xe s
noncomputable def PSs (X:Cx) (st:List Stmt) (t:TS):Prop:=
 ∀(pins:List (Addr × Obj)) (s:Shared) (σ:St) (H:Hp) (D:Ends),Inv X pins σ H s->t D σ H->wpAny (model X.prog X.w) X.A (execs st X.env) (SP X pins D) X.xe s
def thn{α:Type}{t:Sem α}{Q b:α->Shared->Prop}{E:Value->Shared->Prop}(h:wpAny M A t Q E s)(c:∀a s,Q a s->b a s):wpAny M A t b E s:=wpAny_mono h c λ_ _ x=>x
section
variable {X:Cx}
noncomputable def zj3 (i:Nat):TE:=λσ H Q=>∃v,σ[i]?=some (some v)/\Q v H
abbrev tC(v:V):TE:=λ_ H Q=>Q v H
def zsu{pos:Pos}(f:X.N[i]?=some x)(j:Vis X.env.scope x)(hd:autoParam ((x == ("__debug__" : Str))=false) Internal.aut1._auto_1)(b:autoParam ((x == ("__classdict__" : Str))=false) Internal.aut1._auto_1):PE X (.Name x pos) (zj3 i):=by
 intro pins s σ H Q I h;obtain⟨v,e,h⟩:=h;obtain⟨m,d,g⟩:=I.loc;obtain⟨u,r,l⟩:=g i x v f e j;have fin:EP X pins σ Q u s:=⟨v,H,I,r,h⟩
 rcases l with⟨a,hm⟩ | ⟨a,c,hc,hcell⟩
 ·exact wpAny_Name (wpAny_loadName_local I.ok.kind a d hm fin) hd
 ·rcases a with a | a
  ·exact wpAny_Name (wpAny_loadName_cell I.ok.kind a hc hcell fin) hd
  ·exact wpAny_Name (wpAny_loadName_free I.ok.kind a hc hcell fin b) hd
def zh{i j pos}:PE X (.Constant (.int i) j pos) (tC (.int i)):=λ_ _ _ H _ I h=>wpAny_Constant_int ⟨.int i,H,I.tok _,⟨_,rfl⟩,h⟩
def zeu{b j pos}:PE X (.Constant (.bool b) j pos) (tC (.bl b)):=λ_ _ _ H _ I h=>Constant_bool ⟨.bl b,H,I,rfl,h⟩
def zbg{j pos}:PE X (.Constant .none j pos) (tC .non):=λ_ _ _ H _ I h=>Constant_none ⟨.non,H,I,rfl,h⟩
def zH{x j pos}:PE X (.Constant (.str x) j pos) (tC (.str x)):=λ_ _ _ H _ I h=>Calls.Constant_str ⟨.str x,H,I.tok _,⟨_,rfl⟩,h⟩
noncomputable def Gl (X:Cx) (x:Str):Prop:=X.env.kindOf x=some .globalImplicit
def zcO{E:Value->Shared->Prop}{pos:Pos}{Q:Value->Shared->Prop}(I:Inv X pins σ H s)(a:Gl X x)(b:X.mg x=some u)(h:Q u s)
  (hd:autoParam ((x == ("__debug__" : Str))=false) Internal.aut1._auto_1):wpAny (model X.prog X.w) X.A (eval (.Name x pos) X.env) Q E s:=
 Calls.Name_function_global I.ok.kind a (Calls.loadGlobal_global (by rw[I.ok.glob];exact I.mod.glob.keeps I.bk) b h) hd
def zb2{E:Value->Shared->Prop}{pos:Pos}{Q:Value->Shared->Prop}(I:Inv X pins σ H s)(b:Gl X x)(c:X.mg x=none)(a:bootBuiltins x=some u)(h:Q u s)
  (hn:autoParam (x ≠ "__name__") Internal.aut1._auto_1) (hd:autoParam ((x == ("__debug__" : Str))=false) Internal.aut1._auto_1):wpAny (model X.prog X.w) X.A (eval (.Name x pos) X.env) Q E s:=by
 obtain⟨d,h1,h2⟩:=I.mod.blt;exact Calls.Name_function_global I.ok.kind b (Calls.loadGlobal_builtin (by rw[I.ok.glob];exact I.mod.glob.keeps I.bk) c (by rw[I.ok.blt];exact h1.keeps I.bk) ((h2 x hn).trans a) h) hd
def zC{pos:Pos}(a:Gl X x)(b:X.mg x=some u)(r:RelV v u)(hd:autoParam ((x == ("__debug__" : Str))=false) Internal.aut1._auto_1):PE X (.Name x pos) (tC v):=
 λ_ _ _ H _ I h=>zcO I a b ⟨v,H,I,r,h⟩ hd
def zhR{pos:Pos}(c:Gl X x)(d:X.mg x=none)(b:bootBuiltins x=some u)(r:RelV v u)(a:autoParam (x ≠ "__name__") Internal.aut1._auto_1)(hd:autoParam ((x == ("__debug__" : Str))=false) Internal.aut1._auto_1):PE X (.Name x pos) (tC v):=
 λ_ _ _ H _ I h=>zb2 I c d b ⟨v,H,I,r,h⟩ a hd
variable {a b:Expr}{ta tb:TE}{pos:Pos}
variable {tA tB':TT}{rest:List Expr}
abbrev zuw(t u:TT):TT:=λσ H Q=>t σ H λc H1=>if c=true then u σ H1 Q else Q false H1
abbrev tOr(t u:TT):TT:=λσ H Q=>t σ H λc H1=>if c=true then Q true H1 else u σ H1 Q
def zby(b:PT X a tA):PW X (.BoolOp .And [a] pos) tA:=by
 intro d pins s σ H Q I h;refine isTrue_and (thn (b pins s σ H Q I h) λc f e=>?_);cases c with
 | true=>exact isTrue_and_nil e
 | false=>exact e
def zbm(b:PT X a tA):PW X (.BoolOp .Or [a] pos) tA:=by
 intro d pins s σ H Q I h;refine isTrue_or (thn (b pins s σ H Q I h) λc f e=>?_);cases c with
 | false=>exact isTrue_or_nil e
 | true=>exact e
def zbL(g:PT X a tA)(f:PW X (.BoolOp .And (b :: rest) pos) tB'):PW X (.BoolOp .And (a :: b :: rest) pos) (zuw tA tB'):=by
 intro e pins s σ H Q I h;refine isTrue_and (thn (g pins s σ H _ I h) λc i ⟨H1,d,q1⟩=>?_);cases c with
 | true=>exact f e pins i σ H1 Q d q1
 | false=>exact⟨H1,d,q1⟩
def zbT(g:PT X a tA)(f:PW X (.BoolOp .Or (b :: rest) pos) tB'):PW X (.BoolOp .Or (a :: b :: rest) pos) (tOr tA tB'):=by
 intro e pins s σ H Q I h;refine isTrue_or (thn (g pins s σ H _ I h) λc i ⟨H1,d,q1⟩=>?_);cases c with
 | true=>exact⟨H1,d,q1⟩
 | false=>exact f e pins i σ H1 Q d q1
noncomputable def zqI (ta tb:TE):TE:=λσ H Q=>ta σ H λx H1=>∃c,x=.bl c/\if c=true then tb σ H1 Q else Q (.bl false) H1
def zoh{op}{t:TE}(h:PE X a t):PE X (.BoolOp op [a] pos) t:=λpins s σ H Q I b=>BoolOp_one (h pins s σ H Q I b)
def zm7(i:PE X a ta)(f:PE X (.BoolOp .And (b :: rest) pos) tb):PE X (.BoolOp .And (a :: b :: rest) pos) (zqI ta tb):=by
 intro pins s σ H Q I h;refine BoolOp_and (thn (i pins s σ H _ I h) λv j e=>?_);obtain⟨x,H1,d,g,q1⟩:=e;obtain⟨c,rfl,q1⟩:=q1;cases g;refine wpAny_truthy_bool ?_;cases c with
 | true=>exact f pins j σ H1 Q d q1
 | false=>exact⟨.bl false,H1,d,rfl,q1⟩
abbrev tIf(t:TT)(ta tb:TE):TE:=λσ H Q=>t σ H λc H1=>if c=true then ta σ H1 Q else tb σ H1 Q
def zbJ{c:Expr}(g:PT X c tA)(j:PE X a ta)(i:PE X b tb):PE X (.IfExp c a b pos) (tIf tA ta tb):=by
 intro pins s σ H Q I h;refine wpAny_IfExp (thn (g pins s σ H _ I h) λd f ⟨H1,e,q1⟩=>?_);cases d with
 | true=>exact j pins f σ H1 Q e q1
 | false=>exact i pins f σ H1 Q e q1
end
noncomputable def SqL (K:Fg) (H:Hp) (a:Addr) (xs:List V):Prop:=
 Rd H a (.lst xs) \/
  ∃(o:Obj) (its:Array Value) (n:Nat),K.lookup a=some o/\o.cls=.type "list" /\ o.dict=none/\o.data=.seq its n/\its.size<=sizeLine/\Vals xs its.toList
noncomputable def SqT (K:Fg) (H:Hp) (a:Addr) (xs:List V):Prop:=
 Rd H a (.tup xs) \/
  ∃(o:Obj) (its:Array Value) (n:Nat),K.lookup a=some o/\o.cls=.type "tuple" /\ o.data=.seq its n/\its.size<=sizeLine/\Vals xs its.toList
noncomputable def zuQ:Value->Option V
 | .none=>some .non
 | .bool b=>some (.bl b)
 | .int i _=>some (.int i)
 | .str x _=>some (.str x)
 | .bytes b _=>some (.byt b)
 | .float b _=>some (.flt b)
 | .ref a=>some (.ref a)
 | .type n=>some (.ty n)
 | _=>none
def RelV.abs{x:V}(r:RelV x u):zuQ u=some x:=by
 cases x with
 | non=>cases r;rfl
 | bl _=>cases r;rfl
 | int _=>obtain⟨t,rfl⟩:=r;rfl
 | str _=>obtain⟨t,rfl⟩:=r;rfl
 | byt _=>obtain⟨t,rfl⟩:=r;rfl
 | flt _=>obtain⟨t,rfl⟩:=r;rfl
 | ref _=>cases r;rfl
 | ty _=>cases r;rfl
def RelV.inj{x:V}(r:RelV x u)(q:RelV y u):x=y:=yk (r.abs.symm.trans q.abs)
theorem Vals.inj:∀{xs ys:List V} {us:List Value},Vals xs us->Vals ys us->xs=ys
 | _,_,_,.nil,.nil=>rfl
 | _,_,_,.cons r t,.cons r' t'=>by rw[r.inj r',Vals.inj t t']
section
variable {X:Cx}{pins:List (Addr × Obj)}{σ:St}{H:Hp}{s:Shared}{a:Addr}{xs ys:List V}
def SqL.of(h:H a=some (.lst xs)):SqL K H a xs:=.inl (.inl h)
def SqT.of(h:H a=some (.tup xs)):SqT K H a xs:=.inl (.inl h)
def Inv.list(I:Inv X pins σ H s)(h:SqL X.K H a xs):∃its:List Value,Vals xs its/\PlainL s.heap a its.toArray/\xs.length<=sizeLine:=by
 rcases h with h | ⟨o,its,n,b,c,hd,d,f,r⟩
 ·obtain⟨z,its,n,r,e⟩:=h.ok I.hok;exact⟨its,r,⟨_,n,e,rfl,rfl,rfl⟩,z⟩
 ·refine⟨its.toList,r,⟨o,n,I.kIn a o b,c,hd,by simpa using d⟩,?_⟩;have e:=r.length;simp only[Array.length_toList]at e;lia
def Inv.tuple(I:Inv X pins σ H s)(h:SqT X.K H a xs):∃its:List Value,Vals xs its/\IsTup s.heap a its.toArray/\xs.length<=sizeLine:=by
 rcases h with h | ⟨o,its,n,b,c,d,f,r⟩
 ·obtain⟨z,its,r,p⟩:=h.ok I.hok;exact⟨its,r,p,z⟩
 ·refine⟨its.toList,r,⟨o,I.kIn a o b,c,n,by simpa using d⟩,?_⟩;have e:=r.length;simp only[Array.length_toList]at e;lia
def Inv.list_inj(I:Inv X pins σ H s)(h:SqL X.K H a xs)(h':SqL X.K H a ys):xs=ys:=by
 obtain⟨its,r,⟨o,n,e,_,_,d⟩,_⟩:=I.list h;obtain⟨its',f,⟨o',g,b,_,_,d'⟩,_⟩:=I.list h';rw[e]at b;cases b;rw[d]at d';injection d' with c _
 have:its=its':=by simpa using congrArg Array.toList c
 subst this;exact r.inj f
def Inv.tuple_inj(I:Inv X pins σ H s)(h:SqT X.K H a xs)(h':SqT X.K H a ys):xs=ys:=by
 obtain⟨its,r,⟨o,e,_,n,d⟩,_⟩:=I.tuple h;obtain⟨its',f,⟨o',b,_,g,d'⟩,_⟩:=I.tuple h';rw[e]at b;cases b;rw[d]at d';injection d' with c _
 have:its=its':=by simpa using congrArg Array.toList c
 subst this;exact r.inj f
end
abbrev Cx.wish(X:Cx)(E:Value->Shared->Prop):Cx:={ X with xe:=E }
abbrev Cx.nox(X:Cx):Cx:=X.wish λ_ _=>False
theorem Cx.Ok.wish{X:Cx}(ok:X.Ok)(E:Value->Shared->Prop):(X.wish E).Ok:=
 ⟨ok.mod,ok.kind,ok.glob,ok.blt,ok.above,ok.inj,ok.has,ok.cab,ok.hd,ok.frames,ok.stk,ok.exf,ok.bs,ok.bsz,ok.noex,ok.exfs,ok.funs,ok.frf⟩
def Cx.Ok.unwish{E:Value->Shared->Prop}(ok:(X.wish E).Ok):X.Ok:=
 ⟨ok.mod,ok.kind,ok.glob,ok.blt,ok.above,ok.inj,ok.has,ok.cab,ok.hd,ok.frames,ok.stk,ok.exf,ok.bs,ok.bsz,ok.noex,ok.exfs,ok.funs,ok.frf⟩
section
variable {X:Cx}{pins:List (Addr × Obj)}{σ:St}{H:Hp}{s:Shared}{E:Value->Shared->Prop}
theorem Inv.wish(I:Inv X pins σ H s)(E:Value->Shared->Prop):Inv (X.wish E) pins σ H s:=⟨I.ok.wish E,I.os,I.bare,I.base,I.loc,I.cell,I.free,I.freeC,I.pin,I.hok,I.len⟩
theorem Inv.unwish(I:Inv (X.wish E) pins σ H s):Inv X pins σ H s:=⟨I.ok.unwish,I.os,I.bare,I.base,I.loc,I.cell,I.free,I.freeC,I.pin,I.hok,I.len⟩
theorem SP.unwish{D:Ends}{f:Flow}{s':Shared}(h:SP (X.wish E) pins D f s'):SP X pins D f s':=by
 cases f with
 | next=>obtain⟨a,H',I,q⟩:=h;exact⟨a,H',I.unwish,q⟩
 | brk=>obtain⟨a,H',I,q⟩:=h;exact⟨a,H',I.unwish,q⟩
 | cont=>obtain⟨a,H',I,q⟩:=h;exact⟨a,H',I.unwish,q⟩
 | ret u=>obtain⟨v,a,H',I,r,q⟩:=h;exact⟨v,a,H',I.unwish,r,q⟩
theorem PSs.nox{st:List Stmt}{t:TS}(h:PSs X.nox st t):PSs X st t:=λpins s σ H D I a=>
 wpAny_mono (h pins s σ H D (I.wish _) a) (λ_ _ q=>q.unwish) λ_ _ z=>False.elim z
end
section
variable {X:Cx}{st:Stmt}{rest:List Stmt}{t u:TS}{e:Expr}{te:TE}{pos:Pos}
abbrev zt7:TS:=λD σ H=>D.nx σ H
abbrev zuE(t u:TS):TS:=λD σ H=>t { D with nx:=u D } σ H
def zA:PSs X [] zt7:=λ_ _ σ H _ I h=>wpAny_execs_nil ⟨σ,H,I,h⟩
def ze(h1:PS X st t)(h2:PSs X rest u):PSs X (st :: rest) (zuE t u):=by
 intro pins s σ H D I h;refine wpAny_execs_cons (thn (h1 pins s σ H { D with nx:=u D } I h) λf c q=>?_);cases f with
 | next=>
  obtain⟨a,H',b,q⟩:=q;exact h2 pins c a H' D b q
 | ret v=>exact q
 | brk=>exact q
 | cont=>exact q
def zi(h1:PS X st t):PSs X [st] t:=by
 intro pins s σ H D I h;refine wpAny_execs_cons (thn (h1 pins s σ H D I h) λf a q=>?_);cases f with
 | next=>exact wpAny_execs_nil q
 | ret v=>exact q
 | brk=>exact q
 | cont=>exact q
def Inv.quiet(I:Inv X pins σ H s):interactive X.env=false:=by simp[interactive,I.ok.kind]
abbrev zus(te:TE):TS:=λD σ H=>te σ H λ_ H1=>D.nx σ H1
def zJ(b:PE X e te)(c:autoParam (swapsWith e none pos.line X.env=pure false) Internal.aut2._auto_1):PS X (.Expr e pos) (zus te):=by
 intro pins s σ H D I h;exact wpAny_Expr_any (thn (b pins s σ H _ I h) λv f ⟨x,H1,a,d,q1⟩=>⟨σ,H1,a,q1⟩) I.quiet c
abbrev ztB(te:TE):TS:=λD σ H=>te σ H D.rt
def zp(c:PE X e te):PS X (.Return (some e) pos) (ztB te):=by
 intro pins s σ H D I h;exact wpAny_Return_some (thn (c pins s σ H _ I h) λv d ⟨x,H1,a,b,q1⟩=>⟨x,σ,H1,a,b,q1⟩)
abbrev zuW(c:TT)(t u:TS):TS:=λD σ H=>c σ H λb H1=>if b=true then t D σ H1 else u D σ H1
def zG{c:Expr}{a b:List Stmt}{tc:TT}(g:PT X c tc)(j:PSs X a t)(i:PSs X b u):PS X (.If c a b pos) (zuW tc t u):=by
 intro pins s σ H D I h;refine wpAny_If (thn (g pins s σ H _ I h) λd f ⟨H1,e,q1⟩=>?_);cases d with
 | true=>exact j pins f σ H1 D e q1
 | false=>exact i pins f σ H1 D e q1
noncomputable def ztG:TS:=λ_ _ _=>False
def zjG:PS X st ztG:=λ_ _ _ _ _ _ h=>h.elim
end
abbrev TG:=V->St->Hp->(St->Hp->Prop)->Prop
variable {g:TG}
abbrev TGs:=List V->St->Hp->(St->Hp->Prop)->Prop
noncomputable def PG (X:Cx) (a:Expr) (t:TG):Prop:=
 ∀(pins:List (Addr × Obj)) (s:Shared) (σ:St) (H:Hp) (v:V) (u:Value) (Q:St->Hp->Prop),Inv X pins σ H s->RelV v u->t v σ H Q ->
  wpAny (model X.prog X.w) X.A (assign a X.env u) (λ_ s'=>∃σ' H',Inv X pins σ' H' s'/\Q σ' H') X.xe s
noncomputable def PGs (X:Cx) (ts:List Expr) (t:TGs):Prop:=
 ∀(pins:List (Addr × Obj)) (s:Shared) (σ:St) (H:Hp) (vs:List V) (us:List Value) (Q:St->Hp->Prop),Inv X pins σ H s->Vals vs us->t vs σ H Q ->
  wpAny (model X.prog X.w) X.A (assignInOrder ((assignEach ts X.env).map (·.2)) us) (λ_ s'=>∃σ' H',Inv X pins σ' H' s'/\Q σ' H') X.xe s
abbrev zim:=V->V->V->Hp->(Hp->Prop)->Prop
noncomputable def zpG (X:Cx) (t:zim):Prop:=
 ∀(pins:List (Addr × Obj)) (s:Shared) (σ:St) (H:Hp) (o i v:V) (ov iv u:Value) (Q:Hp->Prop),Inv X pins σ H s->RelV o ov->RelV i iv->RelV v u->t o i v H Q ->
  wpAny (model X.prog X.w) X.A (setItem ov iv u) (λ_ s'=>∃H',Inv X pins σ H' s'/\Q H') X.xe s
abbrev TIp:=V->V->Hp->VK->Prop
noncomputable def PIp (X:Cx) (a:Operator) (t:TIp):Prop:=
 ∀(pins:List (Addr × Obj)) (s:Shared) (σ:St) (H:Hp) (x y:V) (v u:Value) (Q:VK),Inv X pins σ H s->RelV x v->RelV y u->t x y H Q ->
  wpAny (model X.prog X.w) X.A (inplaceOp a v u) (EP X pins σ Q) X.xe s
section
variable {X:Cx}{pos:Pos}
abbrev zbO(i:Nat):TG:=λv σ H Q=>Q (σ.set i (some v)) H
def zD(a:X.N.Nodup)(hi:X.N[i]?=some x)(c:Loc X.env.scope x)(d:autoParam (X.fn x=true\/X.env.scope.names.lookup x=some .local) Internal.aut0._auto_1):PG X (.Name x pos) (zbO i):=by
 intro pins s σ H v u Q I r h;exact wpAny_assign_Name (zeL I a hi c r (λs' b=>⟨_,H,b,h⟩) d)
noncomputable def zpb:TGs:=λvs σ H Q=>vs=[]/\Q σ H
noncomputable def zjA (t:TG) (u:TGs):TGs:=λvs σ H Q=>∃v r,vs=v :: r/\t v σ H λa H'=>u r a H' Q
def zaj:PGs X [] zpb:=by
 intro pins s σ H vs us Q I r h;obtain⟨e,h⟩:=h;subst e;cases r;exact assignInOrder_nil ⟨σ,H,I,h⟩
def zy{t:TG}{u:TGs}(h1:PG X e t)(h2:PGs X es u)
  (hs:autoParam ((assignEach (e :: es) X.env).map (·.2)=assign e X.env :: (assignEach es X.env).map (·.2)) Internal.aut2._auto_1):PGs X (e :: es) (zjA t u):=by
 intro pins s σ H vs us Q I r h;obtain⟨v,f,e1,h⟩:=h;subst e1;cases r with
 | cons r rr=>
  rw[hs];refine assignInOrder_cons (thn (h1 pins s σ H _ _ _ I r h) λ_ b a=>?_);obtain⟨d,H1,c,q1⟩:=a;exact h2 pins b d H1 _ _ Q c rr q1
noncomputable def zaT (K:Fg) (n:Nat) (t:TGs):TG:=λv σ H Q=>∃a xs,v=.ref a/\SqT K H a xs/\xs.length=n/\t xs σ H Q
def zat{k:Nat}{t:TGs}{n:Nat}(l:X.calm=true)(h:PGs X es t)
  (hn:autoParam ((assignEach es X.env).length=n) Internal.aut2._auto_1) (hst:autoParam ((assignEach es X.env).findIdx? (·.1)=none) Internal.aut2._auto_1):PG X (.Tuple es k pos) (zaT X.K n t):=by
 intro pins s σ H v u Q I r c;obtain⟨a,xs,e1,g,i,c⟩:=c;subst e1;cases r;obtain⟨its,d,f,p⟩:=I.tuple g;refine assign_Tuple_tuple (I.ok.hd l) f (by simp[hn,<- i,d.length]) hst λh' m=>?_;have j:Inv X pins σ H { s with heap:=h' }:=I.kept (t':=s.toks) λb o e=>m b o (yo (Heap.lt_size e)) e;exact h pins _ σ H xs _ Q j (by simpa using d) c
abbrev zuM(to ti:TE)(t:zim):TG:=λv σ H Q=>to σ H λo H1=>ti σ H1 λi H2=>t o i v H2 λH3=>Q σ H3
def zc3{o i:Expr}{to ti:TE}{t:zim}(l:PE X o to)(hi:PE X i ti)(j:zpG X t)
  (ha:autoParam (∀v,assign (.Subscript o i pos) X.env v=(do
   let a <- holding [v] (eval o X.env)
   let b <- holding [v,a] (eval i X.env)
   standAt pos
   holding [v,a,b] (setItem a b v)
   release [v,a,b] [])) Internal.aut3._auto_1):PG X (.Subscript o i pos) (zuM to ti t):=by
 intro pins s σ H v u Q I r h;rw[ha];refine wpAny_bind (wpAny_holding (thn (l pins s σ H _ I h) λa k c=>?_));obtain⟨x,H1,n,g,q1⟩:=c;refine wpAny_bind (wpAny_holding (thn (hi pins k σ H1 _ n q1) λb p c=>?_));obtain⟨y,H2,e,r2,q2⟩:=c;refine wpAny_bind (wpAny_standAt (wpAny_bind (wpAny_holding (thn (j pins p σ H2 x y v a b u _ e g r2 r q2) λ_ q ⟨m,f,d⟩=>?_))));exact wpAny_release ⟨σ,m,f,d⟩
abbrev zj1(te:TE)(g:TG):TS:=λD σ H=>te σ H λx H1=>g x σ H1 D.nx
def zc4{te:TE}(c:PE X e te)(i:PG X tg g)(j:autoParam (swapsWithSole [tg] e pos.line X.env=pure false) Internal.aut2._auto_1)(b:autoParam (swappedStores [tg] e X.env=pure none) Internal.aut2._auto_1)
  (h1:autoParam ((assignEach [tg] X.env).map (·.2)=[assign tg X.env]) Internal.aut2._auto_1):PS X (.Assign [tg] e pos) (zj1 te g):=by
 intro pins s σ H D I h;refine wpAny_Assign_stores (thn (c pins s σ H _ I h) λv k a=>?_) j b;obtain⟨x,H1,d,f,q1⟩:=a;rw[h1];exact thn (i pins k σ H1 x v _ d f q1) λ_ l q=>q
def zsw{te:TE}{pos':Pos}(f:X.N.Nodup)(hi:X.N[i]?=some x)(j:Loc X.env.scope x)(d:PE X e te)(l:autoParam (swapsWith e (some (.Name x pos')) pos.line X.env=pure false) Internal.aut2._auto_1)(c:autoParam (X.fn x=true\/X.env.scope.names.lookup x=some .local) Internal.aut0._auto_1) :
  PS X (.Assign [.Name x pos'] e pos) (zj1 te (zbO i)):=by
 intro pins s σ H D I h;refine wpAny_Assign_Name (thn (d pins s σ H _ I h) λv n a=>?_) l;obtain⟨y,H1,g,k,q1⟩:=a;exact zeL g f hi j k (λm b=>⟨_,H1,b,q1⟩) c
noncomputable def zpy (i:Nat) (te:TE) (ti:TIp):TS:=λD σ H=>∃x,σ[i]?=some (some x)/\te σ H λy H1=>ti x y H1 λz H2=>D.nx (σ.set i (some z)) H2
def zkc{te:TE}{g:Operator}{ti:TIp}{pos':Pos}(t:X.N.Nodup)(hi:X.N[i]?=some x)(f:Loc X.env.scope x)(q:PE X e te)(F:PIp X g ti)(p:autoParam (X.fn x=true\/X.env.scope.names.lookup x=some .local) Internal.aut0._auto_1) :
  PS X (.AugAssign (.Name x pos') g e pos) (zpy i te ti):=by
 intro pins s σ H D I h;obtain⟨v,e1,h⟩:=h;obtain⟨m,o,G⟩:=I.loc;have d:Vis X.env.scope x:=by rcases f with k | k;exact .inl k;exact .inr (.inl k)
 obtain⟨u,r,l⟩:=G i x v hi e1 d;refine wpAny_AugAssign_Name ?_;have go:wpAny (model X.prog X.w) X.A (eval e X.env) (λw B=>wpAny (model X.prog X.w) X.A (inplaceOp g u w) (λr J=>wpAny (model X.prog X.w) X.A (storeName X.env x r) (λ_=>SP X pins D .next) X.xe J) X.xe B) X.xe s:=by
  refine thn (q pins s σ H _ I h) λw E b=>?_;obtain⟨y,H1,K,C,q1⟩:=b;refine thn (F pins E σ H1 v y u w _ K r C q1) λz O b=>?_;obtain⟨M,H2,j,r2,q2⟩:=b;exact zeL j t hi f r2 (λL n=>⟨_,H2,n,q2⟩) p
 rcases l with⟨a,hm⟩ | ⟨a,c,hc,hcell⟩
 ·exact wpAny_loadName_local I.ok.kind a o hm go
 ·rcases a with a | a
  ·exact wpAny_loadName_cell I.ok.kind a hc hcell go
  ·rcases f with k | k
   ·have:X.env.scope.names.lookup x=some .free:=a
    rw[k]at this;cases this
   ·have:X.env.scope.names.lookup x=some .free:=a
    rw[k]at this;cases this
noncomputable def zqr (to ti te:TE) (b:V->V->Hp->VK->Prop) (c:TIp) (a:zim):TS:=λD σ H=>to σ H λo H1=>ti σ H1 λi H2=>b o i H2 λx e=>te σ e λy f=>c x y f λz d=>a o i z d λg=>D.nx σ g
noncomputable def zbK (X:Cx) (t:V->V->Hp->VK->Prop):Prop:=
 ∀(pins:List (Addr × Obj)) (s:Shared) (σ:St) (H:Hp) (o i:V) (ov iv:Value) (Q:VK),Inv X pins σ H s->RelV o ov->RelV i iv->t o i H Q ->
  wpAny (model X.prog X.w) X.A (getItem ov iv) (EP X pins σ Q) X.xe s
def zaW{o i:Expr}{to ti te:TE}{c:V->V->Hp->VK->Prop}{g:TIp}{b:zim}{m:Operator}{tpos:Pos}(J:PE X o to)(hi:PE X i ti)(W:zbK X c)(t:PE X e te)(hp:PIp X m g)(K:zpG X b)
  (ha:autoParam (∀f d new,augStore i f d new=(do holding [new,f,d] (setItem f d new);release [new,f,d] [];pure .next)) Internal.aut4._auto_1):PS X (.AugAssign (.Subscript o i tpos) m e pos) (zqr to ti te c g b):=by
 intro pins s σ H D I h;refine wpAny_AugAssign_SubscriptAny (thn (J pins s σ H _ I h) λf F a=>?_) ha;obtain⟨j,H1,P,l,q1⟩:=a;refine thn (hi pins F σ H1 _ P q1) λd U a=>?_;obtain⟨k,H2,q,r2,q2⟩:=a;refine thn (W pins U σ H2 j k f d _ q l r2 q2) λold z a=>?_;obtain⟨O,L,r,w,p⟩:=a;refine thn (t pins z σ L _ r p) λv N a=>?_;obtain⟨B,C,Q,R,x⟩:=a;refine thn (hp pins N σ C O B old v _ Q w R x) λnew y a=>?_;obtain⟨A,n,u,M,T⟩:=a;exact thn (K pins y σ n j k A f d new _ u l r2 M T) λ_ Y ⟨G,E,S⟩=>⟨σ,G,E,S⟩
noncomputable def ipI (f:Int->Int->Int):TIp:=λx y H Q=>∃i j,x=.int i/\y=.int j/\Q (.int (f i j)) H
def zb6:PIp X .Add (ipI λi j=>i+j):=by
 intro pins s σ H x y v u Q I a r2 h;obtain⟨i,j,e1,e2,q⟩:=h;subst e1;subst e2;obtain⟨t,rfl⟩:=a;obtain⟨t',rfl⟩:=r2;exact iadd_int ⟨.int _,H,I.tok _,⟨_,rfl⟩,q⟩
def zc8:PIp X .Sub (ipI λi j=>i-j):=by
 intro pins s σ H x y v u Q I a r2 h;obtain⟨i,j,e1,e2,q⟩:=h;subst e1;subst e2;obtain⟨t,rfl⟩:=a;obtain⟨t',rfl⟩:=r2;exact isub_int ⟨.int _,H,I.tok _,⟨_,rfl⟩,q⟩
end
section
variable {X:Cx}{pos:Pos}
noncomputable def zsy (c:TT) (tb:TS):TS:=λD σ H=>∃W:Nat->St->Hp->Prop,(∃m,W m σ H)/\∀m σ H,W m σ H ->
 c σ H λb H1=>if b=true then ∃N:St->Hp->Prop,(∀σ' H',N σ' H'->∃m',m'<m/\W m' σ' H')/\tb { D with nx:=N,ct:=N,bk:=D.nx } σ H1 else D.nx σ H1
def zdp{c:Expr}{body:List Stmt}{tc:TT}{tb:TS}(hp:PassesOwn (model X.prog X.w) X.A X.env X.xe)(r:PT X c tc)(z:PSs X body tb):PS X (.While c body [] pos) (zsy tc tb):=by
 intro pins s σ H D I h;obtain⟨W,⟨q,u⟩,a⟩:=h;refine wpAny_While (codeAny_whileLoop (λn s'=>∃σ' H',Inv X pins σ' H' s'/\W n σ' H') ?_ q ⟨σ,H,I,u⟩);rintro n t ⟨i,H1,y,x⟩;refine wpAny_passesOwn hp (thn (r pins t i H1 _ y (a n i H1 x)) λb B ⟨H2,o,q2⟩=>?_);cases b with
 | true=>
  obtain⟨N,p,q2⟩:=q2;rw[if_pos rfl];refine wpAny_passesOwn hp (thn (z pins B i H2 _ o q2) λf C g=>?_);cases f with
  | next=>
   obtain⟨e,d,j,n3⟩:=g;obtain⟨k,m,l⟩:=p e d n3;exact⟨k,m,e,d,j,l⟩
  | cont=>
   obtain⟨e,d,j,n3⟩:=g;obtain⟨k,m,l⟩:=p e d n3;exact⟨k,m,e,d,j,l⟩
  | brk=>exact g
  | ret v=>exact g
 | false=>
  rw[if_neg yp];exact wpAny_execs_nil ⟨i,H2,o,q2⟩
end
structure It where
 go:Nat->Hp->Prop
 yld:Nat->Hp->V->Hp->Prop
 stop:Nat->Hp->Prop
noncomputable def zcw (X:Cx) (pins:List (Addr × Obj)) (H:Hp) (b:Addr):Prop:=
 H b=none/\b≠X.env.locals/\b∉X.fs/\(b∈X.ex\/X.s₀.heap.objs.size<=b)/\(∀x c,X.env.cells.lookup x=some c->c≠b)/\∀p∈X.pn++pins,p.1≠b
def Inv.fpOk(I:Inv X pins σ H s)(a:s.heap.objs.size<=b)(d:H' b=none):zcw X pins H' b:=by
 refine⟨d,Nat.ne_of_gt (Nat.lt_of_lt_of_le I.lt a),I.nofs a,.inr (ya I.sz a),λx c e z=>?_,λp hp z=>?_⟩
 ·obtain⟨v,q⟩:=I.cell x c e;exact absurd (Nat.lt_of_lt_of_le q.lt (by rw[z];exact a)) (Nat.lt_irrefl _)
 ·exact absurd (Nat.lt_of_lt_of_le (Heap.lt_size (I.pin p hp).1) (by rw[z];exact a)) (Nat.lt_irrefl _)
structure Turn(P:Program)(w:World)(K:Fg)(tg:Expr)(J:It)(fp:List Addr)(it:Addr)(tn:Nat->Heap->Prop):Prop where
 mem:it∈fp
 obj:∀i h,tn i h->∀b∈fp,∃o,h.get? b=some o/\∀v,o.data≠.cell v
 keep:∀i h h',tn i h->(∀b∈fp,∀o,h.get? b=some o->h'.get? b=some o)->tn i h'
 item:∀(X:Cx),X.prog=P->X.w=w->X.K=K->X.calm=true->∀(i:Nat) (pins:List (Addr × Obj)) (s:Shared) (σ:St) (H:Hp) (E:Value->Shared->Prop),Inv X pins σ H s->(∀b∈fp,zcw X pins H b)->tn i s.heap->J.go i H ->
  wpAny (model P w) X.A (pyNext (.ref it)) (λr s1=>∃u,r=some u /\
   wpAny (model P w) X.A (letOwnedTupleGo tg (.ref it) u) (λ_ s2=>∃x H',Inv X pins σ H' s2/\RelV x u/\J.yld i H x H'/\tn (i+1) s2.heap/\∀b∈fp,H' b=none) E s1) E s
 done:∀(X:Cx),X.prog=P->X.w=w->X.K=K->X.calm=true->∀(i:Nat) (pins:List (Addr × Obj)) (s:Shared) (σ:St) (H:Hp) (E:Value->Shared->Prop),Inv X pins σ H s->(∀b∈fp,zcw X pins H b)->tn i s.heap->J.stop i H ->
  wpAny (model P w) X.A (pyNext (.ref it)) (λr s1=>r=none/\Inv X pins σ H s1) E s
 self:∀(A:Around) (i:Nat) (s:Shared) (Q:Value->Shared->Prop) (E:Value->Shared->Prop),tn i s.heap->Q (.ref it) s->wpAny (model P w) A (pyIter (.ref it)) Q E s
abbrev TI:=St->Hp->(It->Hp->Prop)->Prop
variable {wi:TI}
noncomputable def PIE (X:Cx) (pins:List (Addr × Obj)) (σ:St) (tg:Expr) (R:It->Hp->Prop) (a:Value) (c:Shared):Prop:=
 ∃(it:Addr) (fp:List Addr) (tn:Nat->Heap->Prop) (J:It) (H':Hp),a=.ref it/\Inv X pins σ H' c/\Turn X.prog X.w X.K tg J fp it tn/\tn 0 c.heap/\(∀b∈fp,zcw X pins H' b)/\R J H'
noncomputable def PI (X:Cx) (tg iter:Expr) (wi:TI):Prop:=
 ∀(pins:List (Addr × Obj)) (s:Shared) (σ:St) (H:Hp) (R:It->Hp->Prop),Inv X pins σ H s->wi σ H R ->
  wpAny (model X.prog X.w) X.A (eval iter X.env) (λv a=>wpAny (model X.prog X.w) X.A (pyIter v) (PIE X pins σ tg R) X.xe a) X.xe s
def zmF{M:Model}{A:Around}{E:Value->Shared->Prop}{tg:Expr}{it:Addr}{u:Value}{o:Obj}{n:String}{vs:Array Value}{Q:Unit->Shared->Prop}(a:s.heap.get? it=some o)(b:o.cls=.type n)(hd:o.data=.fields vs)
  (hn:["enumerate", "zip", "dict_itemiterator", "dict_reverseitemiterator", "odict_iterator", "itertools.zip_longest", "itertools.pairwise"].contains n=false) (hQ:Q () s):wpAny M A (letOwnedTupleGo tg (.ref it) u) Q E s:=by
 unfold letOwnedTupleGo;cases tg<;>first
  | exact wpAny_pure hQ
  | (cases u<;>first
    | exact wpAny_pure hQ
    | (refine wpAny_bind (wpAny_load a ?_)
       rw[b,hd];show wpAny M A (if(["enumerate", "zip", "dict_itemiterator", "dict_reverseitemiterator", "odict_iterator", "itertools.zip_longest", "itertools.pairwise"].contains n&&vs[0]? == some (rawInt _))=true then _ else _) Q E s;rw[if_neg (by intro h;rw[hn,Bool.false_and]at h;cases h)];exact wpAny_pure hQ))
noncomputable def Itl (K:Fg) (a:Addr):It:=
 ⟨λi H=>∃xs x,SqL K H a xs/\xs[i]?=some x,λi H x H'=>H'=H/\∀xs,SqL K H a xs->xs[i]?=some x,λi H=>∃xs,SqL K H a xs/\xs.length<=i⟩
noncomputable def Itt (K:Fg) (a:Addr):It:=
 ⟨λi H=>∃xs x,SqT K H a xs/\xs[i]?=some x,λi H x H'=>H'=H/\∀xs,SqT K H a xs->xs[i]?=some x,λi H=>∃xs,SqT K H a xs/\xs.length<=i⟩
noncomputable def Itr (lo:Int) (n:Nat):It:=⟨λi _=>i<n,λi H x H'=>H'=H/\x=.int (lo+i),λi _=>n<=i⟩
def ziR(a it:Addr):Turn P w K tg (Itl K a) [it] it (λi h=>h.IsListIter it a i) where
 mem:=by simp
 obj:=λi h st b f=>by
  have e:b=it:=by simpa using f
  subst e;obtain⟨o,e,c,d⟩:=st;exact⟨o,e,λv z=>by rw[d]at z;cases z⟩
 keep:=λi h h' st k=>st.at λo e=>k it (by simp) o e
 item:=by
  intro X q B r G i pins s σ H E I j st F;subst q B r;obtain⟨xs,x,l,y⟩:=F;obtain⟨its,C,p,J⟩:=I.list l;obtain⟨u,N,ru⟩:=C.get y;obtain⟨A,n,L,m,t,D⟩:=j it (by simp);refine wpAny_pyNext_list_item st p.isList (x:=u) (by simpa using N) λh' g O=>?_;have R:Inv X pins σ H { s with heap:=h' }:=I.turned (t':=s.toks) (λb o f e=>(O.2 b f).trans e) A n m t D;obtain⟨o,e,c,d⟩:=id g;exact⟨u,rfl,zmF (s:={ s with heap:=h' }) e c d (by decide) ⟨x,H,R,ru,⟨rfl,λys Q=>by rw[I.list_inj Q l];exact y⟩,g,λb f=>(j b f).1⟩⟩
 done:=by
  intro X q B r G i pins s σ H E I j st F;subst q B r;obtain⟨xs,l,y⟩:=F;obtain⟨its,C,p,J⟩:=I.list l;obtain⟨A,n,L,m,t,D⟩:=j it (by simp);have S:=C.length;exact wpAny_pyNext_list_end (I.ok.hd G) st p.isList (by simp;lia) λh' M=>⟨rfl,I.turned (t':=s.toks) (λb o f e=>M b o f e) A n m t D⟩
 self:=λ_ _ _ _ _ st h=>wpAny_pyIter_listiter st h
def zgX(a it:Addr):Turn P w K tg (Itt K a) [it] it (λi h=>h.IsTupleIter it a i) where
 mem:=by simp
 obj:=λi h st b f=>by
  have e:b=it:=by simpa using f
  subst e;obtain⟨o,e,c,d⟩:=st;exact⟨o,e,λv z=>by rw[d]at z;cases z⟩
 keep:=λi h h' st k=>st.at λo e=>k it (by simp) o e
 item:=by
  intro X q B r G i pins s σ H E I j st F;subst q B r;obtain⟨xs,x,l,y⟩:=F;obtain⟨its,C,p,J⟩:=I.tuple l;obtain⟨u,N,ru⟩:=C.get y;obtain⟨A,n,L,m,t,D⟩:=j it (by simp);refine wpAny_pyNext_tuple_item st (show s.heap.IsTuple a its.toArray from p) (x:=u) (by simpa using N) λh' g O=>?_;have R:Inv X pins σ H { s with heap:=h' }:=I.turned (t':=s.toks) (λb o f e=>(O.2 b f).trans e) A n m t D;obtain⟨o,e,c,d⟩:=id g;exact⟨u,rfl,zmF (s:={ s with heap:=h' }) e c d (by decide) ⟨x,H,R,ru,⟨rfl,λys Q=>by rw[I.tuple_inj Q l];exact y⟩,g,λb f=>(j b f).1⟩⟩
 done:=by
  intro X q B r G i pins s σ H E I j st F;subst q B r;obtain⟨xs,l,y⟩:=F;obtain⟨its,C,p,J⟩:=I.tuple l;obtain⟨A,n,L,m,t,D⟩:=j it (by simp);have S:=C.length;exact wpAny_pyNext_tuple_end (I.ok.hd G) st (show s.heap.IsTuple a its.toArray from p) (by simp;lia) λh' M=>⟨rfl,I.turned (t':=s.toks) (λb o f e=>M b o f e) A n m t D⟩
 self:=λ_ _ _ _ _ st h=>wpAny_pyIter_tupleiter st h
def zmj(it:Addr)(lo:Int)(n:Nat):Turn P w K tg (Itr lo n) [it] it (λi h=>IsRangeIter h it (lo+(i:Nat)*1) ((n:Int)-(i:Nat)) 1) where
 mem:=by simp
 obj:=λi h st b a=>by
  have e:b=it:=by simpa using a
  subst e;exact⟨_,st,λv z=>by
   have B:Data.fields _=Data.cell v:=z;cases B⟩
 keep:=λi h h' st k=>k it (by simp) _ st
 item:=by
  intro X j r l p i pins s σ H E I d st x;subst j r l;obtain⟨q,g,y,f,m,u⟩:=d it (by simp);have W:=Walks.range (prog:=X.prog) (w:=X.w) (I.ok.hd p) it lo 1 n;refine W.item i s _ _ x st λv h' tk F c C=>?_;obtain⟨t,rfl⟩:=F;have D:Inv X pins σ H { s with heap:=h',toks:=tk }:=I.turned (λb o a e=>C b o (by simpa using a) e) q g f m u;refine⟨_,rfl,zmF (s:={ s with heap:=h',toks:=tk }) (n := "range_iterator") c rfl rfl (by decide) ⟨.int (lo+i),H,D,⟨t,?_⟩,⟨rfl,rfl⟩,c,λb a=>(d b a).1⟩⟩;rw[Int.mul_one]
 done:=by
  intro X j r l p i pins s σ H E I d st x;subst j r l;obtain⟨q,g,y,f,m,u⟩:=d it (by simp);exact wpAny_pyNext_range_end (I.ok.hd p) st (by have:n<=i:=x;lia) λh' A=>⟨rfl,I.turned (t':=s.toks) (λb o a e=>A b o a e) q g f m u⟩
 self:=λ_ _ _ _ _ st h=>wpAny_pyIter_rangeiter st h
section
variable {X:Cx}{tg:Expr}
noncomputable def zmy (K:Fg) (tl:TE):TI:=λσ H R=>tl σ H λx H1=>∃a,x=.ref a/\(∃xs,SqL K H1 a xs)/\R (Itl K a) H1
noncomputable def zpE (K:Fg) (tl:TE):TI:=λσ H R=>tl σ H λx H1=>∃a,x=.ref a/\(∃xs,SqT K H1 a xs)/\R (Itt K a) H1
def zrO{l:Expr}(i:PE X l tl):PI X tg l (zmy X.K tl):=by
 intro pins s σ H R I h;refine thn (i pins s σ H _ I h) λv d f=>?_;obtain⟨x,H1,c,k,q1⟩:=f;obtain⟨a,e,⟨xs,g⟩,q⟩:=q1;subst e;cases k;obtain⟨its,n,p,m⟩:=c.list g;refine wpAny_pyIter_list p.isList ?_;refine⟨d.heap.objs.size,[d.heap.objs.size],_,_,H1,rfl,c.kept (t':=d.toks) λb o e=>Heap.get?_push_of_some _ e,ziR a _,⟨_,Heap.get?_push_size _ rfl,rfl,rfl⟩,λb j=>?_,q⟩;have e:b=d.heap.objs.size:=by simpa using j
 subst e;exact c.fpOk (yg _) (c.hok.fresh (yg _))
def zsx{l:Expr}(i:PE X l tl):PI X tg l (zpE X.K tl):=by
 intro pins s σ H R I h;refine thn (i pins s σ H _ I h) λv c f=>?_;obtain⟨x,H1,d,k,q1⟩:=f;obtain⟨a,e,⟨xs,g⟩,q⟩:=q1;subst e;cases k;obtain⟨its,n,p,m⟩:=d.tuple g;refine wpAny_pyIter_tuple (show c.heap.IsTuple a its.toArray from p) ?_;refine⟨c.heap.objs.size,[c.heap.objs.size],_,_,H1,rfl,d.kept (t':=c.toks) λb o e=>Heap.get?_push_of_some _ e,zgX a _,⟨_,Heap.get?_push_size _ rfl,rfl,rfl⟩,λb j=>?_,q⟩;have e:b=c.heap.objs.size:=by simpa using j
 subst e;exact d.fpOk (yg _) (d.hok.fresh (yg _))
def zj4{R:It->Hp->Prop}{E:Value->Shared->Prop}{lo hi:Int}{t u v:Tok}{tk:Nat}(I:Inv X pins σ H s)(h1:-(2 ^ 62)<=lo)(h2:lo<2 ^ 62)(d:-(2 ^ 62)<=hi)(c:hi<2 ^ 62)
  (q:R (Itr lo (hi-lo).toNat) H):wpAny (model X.prog X.w) X.A (pyIter (.ref s.heap.objs.size)) (PIE X pins σ tg R) E { s with heap:=s.heap.push { cls:=.type "range",data:=.fields #[.int lo t,.int hi u,.int 1 v] },toks:=tk }:=by
 refine wpAny_pyIter_range (IsRange.new ..) (small_one h1 h2 d c) ?_;have a:Inv X pins σ H { s with heap:=s.heap.push { cls:=.type "range",data:=.fields #[.int lo t,.int hi u,.int 1 v] },toks:=tk }:=I.kept λb o e=>Heap.get?_push_of_some _ e;refine⟨(s.heap.push { cls:=.type "range",data:=.fields #[.int lo t,.int hi u,.int 1 v] }).objs.size,[(s.heap.push { cls:=.type "range",data:=.fields #[.int lo t,.int hi u,.int 1 v] }).objs.size],_,_,H,rfl,
  a.kept (t':=tk) λb o e=>Heap.get?_push_of_some _ e,zmj _ lo (hi-lo).toNat,?_,λb f=>?_,q⟩
 ·have e1:lo+((0:Nat):Int)*1=lo:=by simp
  have e2:(((hi-lo).toNat:Nat):Int)-((0:Nat):Int)=Builtin.Range.rangeSize lo hi 1:=by rw[rangeSize_one];split<;>lia
  show IsRangeIter _ _ (lo+((0:Nat):Int)*1) ((((hi-lo).toNat:Nat):Int)-((0:Nat):Int)) 1;rw[e1,e2];exact Heap.get?_push_size _ rfl
 ·have e:b=(s.heap.push { cls:=.type "range",data:=.fields #[.int lo t,.int hi u,.int 1 v] }).objs.size:=by simpa using f
  subst e;exact a.fpOk (yg _) (a.hok.fresh (yg _))
noncomputable def zqE (ta:TA):TI:=λσ H R=>ta σ H λvs H1=>∃j:Int,vs=[.int j]/\-(2 ^ 62)<=j/\j<2 ^ 62/\R (Itr 0 j.toNat) H1
noncomputable def zqs (ta:TA):TI:=λσ H R=>ta σ H λvs H1=>∃i j:Int,vs=[.int i,.int j]/\(-(2 ^ 62)<=i/\i<2 ^ 62/\-(2 ^ 62)<=j/\j<2 ^ 62)/\R (Itr i (j-i).toNat) H1
def zbc{a:Expr}{ta:TA}{p pos:Pos}(f:Gl X "range")(g:X.mg "range" = none)(i:PA X [a] ta)(c:autoParam (starEach [a] X.env=[(false,eval a X.env)]) Internal.aut2._auto_1):PI X tg (.Call (.Name "range" p) [a] [] pos) (zqE ta):=by
 intro pins s σ H R I h;refine Call_ (zb2 I f g boot_range (PyProof.Rows.callWith_type1 (thn (i pos pins s σ H _ I h) λus k ⟨vs,H1,b,d,q1⟩=>?_) c rfl));obtain⟨j,e,q1,q2,q⟩:=q1;subst e;cases d with
 | cons r rr=>
  cases rr;obtain⟨t,rfl⟩:=r;exact call_range_1 (zj4 b ⋯ ⋯ q1 q2 (by simpa using q))
def zn0{a b:Expr}{ta:TA}{p pos:Pos}(m:Gl X "range")(n:X.mg "range" = none)(o:PA X [a,b] ta)(k:autoParam (starEach [a,b] X.env=[(false,eval a X.env),(false,eval b X.env)]) Internal.aut2._auto_1)(c:autoParam (starEach [b] X.env=[(false,eval b X.env)]) Internal.aut2._auto_1) :
  PI X tg (.Call (.Name "range" p) [a,b] [] pos) (zqs ta):=by
 intro pins s σ H R I h;refine Call_ (zb2 I m n boot_range (PyProof.Rows.callWith_type1 (thn (o pos pins s σ H _ I h) λus u ⟨vs,H1,g,l,q1⟩=>?_) (by rw[k,c]) (by rw[c];rfl)));obtain⟨i,j,e,⟨q1,q2,d,f⟩,q⟩:=q1;subst e;cases l with
 | cons r rr=>
  cases rr with
  | cons r' rr=>
   cases rr;obtain⟨t,rfl⟩:=r;obtain⟨t',rfl⟩:=r';exact call_range_2 (zj4 g q1 q2 d f q)
noncomputable def zta (wi:TI) (g:TG) (tb:TS):TS:=λD σ H=>wi σ H λJ H1=>∃W:Nat->Nat->St->Hp->Prop,(∃m,W 0 m σ H1)/\∀i m σ H,W i m σ H ->
 (J.stop i H/\D.nx σ H)\/(J.go i H/\∃N:St->Hp->Prop,(∀σ' H',N σ' H'->∃m',m'<m/\W (i+1) m' σ' H')/\∀x H',J.yld i H x H'->g x σ H' λa H2=>tb { D with nx:=N,ct:=N,bk:=D.nx } a H2)
noncomputable def zfI (fp:List Addr) (h:Heap):List (Addr × Obj):=fp.filterMap λb=>(h.get? b).map λo=>(b,o)
def zdk{o:Obj}(a:b∈fp)(e:h.get? b=some o):(b,o)∈zfI fp h:=List.mem_filterMap.mpr ⟨b,a,by rw[e];rfl⟩
def zno{p:Addr × Obj}(hp:p∈zfI fp h):p.1∈fp/\h.get? p.1=some p.2:=by
 obtain⟨b,a,e⟩:=List.mem_filterMap.mp hp;cases q:h.get? b with
 | none=>rw[q]at e;cases e
 | some o=>
  rw[q]at e;have c:(b,o)=p:=yk e;subst c;exact⟨a,q⟩
def Inv.pinned(I:Inv X pins σ H s)(i:∀b∈fp,zcw X pins H b)(f:∀b∈fp,∃o,s.heap.get? b=some o/\∀v,o.data≠.cell v):Inv X (pins++zfI fp s.heap) σ H s:=
 I.pins_of λp hp=>(List.mem_append.mp hp).elim (λz=>I.pin p (List.mem_append_right _ z)) λz=>by
  obtain⟨c,e⟩:=zno z;obtain⟨g,h,j,_⟩:=i p.1 c;obtain⟨o,a,d⟩:=f p.1 c;rw[e]at a;cases a;exact⟨e,g,h,j,d⟩
def Inv.unpinned{pl:List (Addr × Obj)}(I:Inv X (pins++pl) σ H s):Inv X pins σ H s:=I.pins_of λp hp=>I.pin p (List.mem_append_right _ (List.mem_append_left _ hp))
def zai{body:List Stmt}{tb:TS}{pos:Pos}(hp:PassesOwn (model X.prog X.w) X.A X.env X.xe)(Z:X.calm=true)(hi:PI X tg iter wi)(hg:PG X tg g)(p:PSs X body tb)
  (hs:autoParam (∀x,foldedSetIterable iter X.env x=pure x) Internal.aut3._auto_1):PS X (.For tg iter body [] pos) (zta wi g tb):=by
 intro pins s σ H D I h;refine wpAny_For (thn (hi pins s σ H _ I h) λv s1 h1=>thn h1 λa0 s2 h2=>?_) hs;obtain⟨it,fp,U,J,H2,e,I2,T,M,V,W,⟨m0,w0⟩,C⟩:=h2;subst e
 -- what stays true of the iterator's objects through the loop
 have a:∀{H':Hp},(∀b∈fp,H' b=none)->∀b∈fp,zcw X pins H' b:=λhn b p=>⟨hn b p,(V b p).2⟩
 refine codeAny_forLoop_any (λn s'=>∃i σ' H',Inv X pins σ' H' s'/\U i s'.heap/\(∀b∈fp,H' b=none)/\W i n σ' H') ?_ m0 ⟨0,σ,H2,I2,M,λb p=>(V b p).1,w0⟩;rintro n S ⟨i,E,F,R,B,z,w3⟩;rcases C i n E F w3 with⟨stop,qn⟩ | ⟨go,N,hN,step⟩
 ·refine wpAny_passesOwn hp (thn (T.done X rfl rfl rfl Z i pins S E F X.xe R (a z) B stop) λr s4 ⟨P,I4⟩=>?_);subst P;exact wpAny_execs_nil ⟨E,F,I4,qn⟩
 ·refine wpAny_passesOwn hp (thn (T.item X rfl rfl rfl Z i pins S E F X.xe R (a z) B go) λr s4 ⟨u,P,h4⟩=>?_);subst P;refine wpAny_passesOwn hp (thn h4 λ_ Y O=>?_);obtain⟨x,Q,I5,r5,y5,t,G⟩:=O;have K:=I5.pinned (a G) (T.obj _ _ t);refine wpAny_passesOwn hp (thn (hg _ Y E Q x u _ K r5 (step x Q y5)) λ_ s6 O=>?_);obtain⟨σ6,H6,I6,q6⟩:=O;refine wpAny_passesOwn hp (thn (p _ s6 σ6 H6 _ I6 q6) λf L q=>?_);have c:∀{j:St} {l:Hp},Inv X (pins++zfI fp Y.heap) j l L->N j l->∃m,m<n/\∃i σ' H',Inv X pins σ' H' L/\U i L.heap/\(∀b∈fp,H' b=none)/\W i m σ' H':=λ{j l} k y=>by
   obtain⟨m',hm,w7⟩:=hN j l y;refine⟨m',hm,i+1,j,l,k.unpinned,T.keep _ _ _ t λb p o e=>(k.pin (b,o) (List.mem_append_right _ (List.mem_append_right _ (zdk p e)))).1,λb p=>?_,w7⟩;obtain⟨o,e,d⟩:=T.obj _ _ t b p;exact(k.pin (b,o) (List.mem_append_right _ (List.mem_append_right _ (zdk p e)))).2.1
  cases f with
  | next=>obtain⟨j,l,k,y⟩:=q;exact c k y
  | cont=>obtain⟨j,l,k,y⟩:=q;exact c k y
  | brk=>obtain⟨j,l,k,q⟩:=q;exact⟨j,l,k.unpinned,q⟩
  | ret v=>obtain⟨x7,j,l,k,r7,q⟩:=q;exact⟨x7,j,l,k.unpinned,r7,q⟩
end
def zpA{g:TG}{tb:TS}{D:Ends}(b:Nat->St->Hp->Prop)(h:b 0 σ H)(k:∀i σ H,i<=xs.length->b i σ H->SqL K H a xs)
  (hs:∀i x σ H,xs[i]?=some x->b i σ H->g x σ H λd H2=>tb { D with nx:=b (i+1),ct:=b (i+1),bk:=D.nx } d H2) (hd:∀σ H,b xs.length σ H->D.nx σ H) :
  ∃W:Nat->Nat->St->Hp->Prop,(∃m,W 0 m σ H)/\∀i m σ H,W i m σ H ->
   ((Itl K a).stop i H/\D.nx σ H)\/((Itl K a).go i H/\∃N:St->Hp->Prop,(∀f H',N f H'->∃m',m'<m/\W (i+1) m' f H')/\∀x H',(Itl K a).yld i H x H'->g x σ H' λd H2=>tb { D with nx:=N,ct:=N,bk:=D.nx } d H2):=by
 refine⟨λi m σ H=>m=xs.length-i/\i<=xs.length/\b i σ H,⟨xs.length,by simp,Nat.zero_le _,h⟩,?_⟩;rintro i m σ H ⟨rfl,hi,p⟩;have q:=k i σ H hi p;by_cases c:i<xs.length
 ·refine .inr ⟨⟨xs,xs[i],q,by simp[c]⟩,b (i+1),λf H' j=>⟨xs.length-(i+1),⋯,rfl,c,j⟩,λx H' y=>?_⟩;obtain⟨e,y⟩:=y;subst e;exact hs i x σ _ (y xs q) p
 ·have e:i=xs.length:=by lia
  subst e;exact .inl ⟨⟨xs,q,yg _⟩,hd σ H p⟩
def zox{lo:Int}{n:Nat}{g:TG}{tb:TS}{D:Ends}(a:Nat->St->Hp->Prop)(f:a 0 σ H)
  (hs:∀i σ H,i<n->a i σ H->g (.int (lo+i)) σ H λc H2=>tb { D with nx:=a (i+1),ct:=a (i+1),bk:=D.nx } c H2) (hd:∀σ H,a n σ H->D.nx σ H) :
  ∃W:Nat->Nat->St->Hp->Prop,(∃m,W 0 m σ H)/\∀i m σ H,W i m σ H ->
   ((Itr lo n).stop i H/\D.nx σ H)\/((Itr lo n).go i H/\∃N:St->Hp->Prop,(∀d H',N d H'->∃m',m'<m/\W (i+1) m' d H')/\∀x H',(Itr lo n).yld i H x H'->g x σ H' λc H2=>tb { D with nx:=N,ct:=N,bk:=D.nx } c H2):=by
 refine⟨λi m σ H=>m=n-i/\i<=n/\a i σ H,⟨n,by simp,Nat.zero_le _,f⟩,?_⟩;rintro i m σ H ⟨rfl,hi,p⟩;by_cases b:i<n
 ·refine .inr ⟨b,a (i+1),λd H' h=>⟨n-(i+1),⋯,rfl,b,h⟩,λx H' y=>?_⟩;obtain⟨e,y⟩:=y;subst e y;exact hs i σ _ b p
 ·have e:i=n:=by lia
  subst e;exact .inl ⟨yg _,hd σ H p⟩
abbrev R2:=V->V->Hp->VK->Prop
noncomputable def OpR (X:Cx) (f:Value->Value->Sem Value) (r:R2):Prop:=
 ∀(pins:List (Addr × Obj)) (s:Shared) (σ:St) (H:Hp) (x y:V) (v u:Value) (Q:VK),Inv X pins σ H s->RelV x v->RelV y u->r x y H Q ->
  wpAny (model X.prog X.w) X.A (f v u) (EP X pins σ Q) X.xe s
noncomputable def UnR (X:Cx) (f:Value->Sem Value) (r:V->Hp->VK->Prop):Prop:=
 ∀(pins:List (Addr × Obj)) (s:Shared) (σ:St) (H:Hp) (x:V) (v:Value) (Q:VK),Inv X pins σ H s->RelV x v->r x H Q ->
  wpAny (model X.prog X.w) X.A (f v) (EP X pins σ Q) X.xe s
noncomputable def CallR (X:Cx) (f:Value) (r:List V->Hp->VK->Prop):Prop:=
 ∀(pins:List (Addr × Obj)) (s:Shared) (σ:St) (H:Hp) (xs:List V) (us:List Value) (Q:VK),Inv X pins σ H s->Vals xs us->r xs H Q ->
  wpAny (model X.prog X.w) X.A (call f us) (EP X pins σ Q) X.xe s
noncomputable def zuT (X:Cx) (r:V->Hp->(Bool->Hp->Prop)->Prop):Prop:=
 ∀(pins:List (Addr × Obj)) (s:Shared) (σ:St) (H:Hp) (x:V) (v:Value) (Q:Bool->Hp->Prop),Inv X pins σ H s->RelV x v->r x H Q ->
  wpAny (model X.prog X.w) X.A (truthy v) (TP X pins σ Q) X.xe s
abbrev tOp(r:R2)(ta tb:TE):TE:=λσ H Q=>ta σ H λx H1=>tb σ H1 λy H2=>r x y H2 Q
abbrev tUn(r:V->Hp->VK->Prop)(ta:TE):TE:=λσ H Q=>ta σ H λx H1=>r x H1 Q
noncomputable def rI (C:Int->Int->Prop) (g:Int->Int->V):R2:=λx y H Q=>∃i j,x=.int i/\y=.int j/\C i j/\Q (g i j) H
noncomputable def rI0 (g:Int->Int->V):R2:=λx y H Q=>∃i j,x=.int i/\y=.int j/\Q (g i j) H
noncomputable def rU (g:Int->V):V->Hp->VK->Prop:=λx H Q=>∃i,x=.int i/\Q (g i) H
section
variable {X:Cx}{a b c:Expr}{ta tb tc:TE}{pos:Pos}
def zpK(m:PE X a ta)(j:PE X b tb){R:V->V->Hp->Prop}(I:Inv X pins σ H s)
  (h:ta σ H λx H1=>tb σ H1 λy H2=>R x y H2) {Q:Value->Shared->Prop} {f:Value->Value->Sem Value}
  (hf:∀v u c x y H2,Inv X pins σ H2 c->RelV x v->RelV y u->R x y H2->wpAny (model X.prog X.w) X.A (f v u) Q X.xe c) :
  wpAny (model X.prog X.w) X.A (eval a X.env) (λv g=>wpAny (model X.prog X.w) X.A (eval b X.env) (λu l=>wpAny (model X.prog X.w) X.A (f v u) Q X.xe l) X.xe g) X.xe s:=by
 refine thn (m pins s σ H _ I h) λv n d=>?_;obtain⟨x,H1,i,k,q1⟩:=d;refine thn (j pins n σ H1 _ i q1) λu c d=>?_;obtain⟨y,H2,e,r2,q2⟩:=d;exact hf v u c x y H2 e k r2 q2
def zw{c:Operator}{r:R2}(d:OpR X (binaryOp c) r)(e:PE X a ta)(i:PE X b tb):PE X (.BinOp a c b pos) (tOp r ta tb):=by
 intro pins s σ H Q I h;exact wpAny_BinOp (zpK e i I h λv u j x y H2 f k g q=>d pins j σ H2 x y v u Q f k g q)
def zbY{b:UnaryOp}{r:V->Hp->VK->Prop}(c:UnR X (unaryOp b) r)(f:PE X a ta):PE X (.UnaryOp b a pos) (tUn r ta):=by
 intro pins s σ H Q I h;exact UnaryOp_ (thn (f pins s σ H _ I h) λv g ⟨x,H1,d,e,q1⟩=>c pins g σ H1 x v Q d e q1)
def opI{f:Value->Value->Sem Value}{C:Int->Int->Prop}{g:Int->Int->Int}
  (rule:∀(i j:Int) (t u:Tok) (s:Shared) (Q:Value->Shared->Prop) (E:Value->Shared->Prop),C i j->Q (.int (g i j) s.toks) { s with toks:=s.toks+1 }->wpAny (model X.prog X.w) X.A (f (.int i t) (.int j u)) Q E s) :
  OpR X f (rI C λi j=>.int (g i j)):=by
 intro pins s σ H x y v u Q I c a h;obtain⟨i,j,rfl,rfl,b,q⟩:=h;obtain⟨t,rfl⟩:=c;obtain⟨t',rfl⟩:=a;exact rule i j t t' s _ _ b ⟨.int (g i j),H,I.tok _,⟨_,rfl⟩,q⟩
def ztK{f:Value->Value->Sem Value}{g:Int->Int->Int}
  (rule:∀(i j:Int) (t u:Tok) (s:Shared) (Q:Value->Shared->Prop) (E:Value->Shared->Prop),Q (.int (g i j) s.toks) { s with toks:=s.toks+1 }->wpAny (model X.prog X.w) X.A (f (.int i t) (.int j u)) Q E s) :
  OpR X f (rI0 λi j=>.int (g i j)):=by
 intro pins s σ H x y v u Q I b a h;obtain⟨i,j,rfl,rfl,q⟩:=h;obtain⟨t,rfl⟩:=b;obtain⟨t',rfl⟩:=a;exact rule i j t t' s _ _ ⟨.int (g i j),H,I.tok _,⟨_,rfl⟩,q⟩
def zpD{f:Value->Value->Sem Value}{g:Int->Int->Bool}
  (rule:∀(i j:Int) (t u:Tok) (s:Shared) (Q:Value->Shared->Prop) (E:Value->Shared->Prop),Q (.bool (g i j)) s->wpAny (model X.prog X.w) X.A (f (.int i t) (.int j u)) Q E s) :
  OpR X f (rI0 λi j=>.bl (g i j)):=by
 intro pins s σ H x y v u Q I b a h;obtain⟨i,j,rfl,rfl,q⟩:=h;obtain⟨t,rfl⟩:=b;obtain⟨t',rfl⟩:=a;exact rule i j t t' s _ _ ⟨.bl (g i j),H,I,rfl,q⟩
noncomputable def zmL (i j:Int):Prop:=0<=j/\j<=1000000/\i.natAbs<2 ^ 64
def op_add:OpR X (binaryOp .Add) (rI0 λi j=>.int (i+j)):=ztK λ_ _ _ _ _ _ _ q=>add_int q
def zbi:OpR X (binaryOp .Sub) (rI0 λi j=>.int (i-j)):=ztK λ_ _ _ _ _ _ _ q=>sub_int q
def zrV:OpR X (binaryOp .Mod) (rI (λ_ j=>j≠0) λi j=>.int (i.fmod j)):=opI λ_ _ _ _ _ _ _ a q=>mod_int' a q
def zoC:OpR X (binaryOp .Pow) (rI zmL λi j=>.int (i ^ j.toNat)):=opI λ_ _ _ _ _ _ _ a q=>pow_int_small a.1 a.2.1 a.2.2 q
def unI{f:Value->Sem Value}{g:Int->Int}
  (rule:∀(i:Int) (t:Tok) (s:Shared) (Q:Value->Shared->Prop) (E:Value->Shared->Prop),Q (.int (g i) s.toks) { s with toks:=s.toks+1 }->wpAny (model X.prog X.w) X.A (f (.int i t)) Q E s) :
  UnR X f (rU λi=>.int (g i)):=by
 intro pins s σ H x v Q I a h;obtain⟨i,rfl,q⟩:=h;obtain⟨t,rfl⟩:=a;exact rule i t s _ _ ⟨.int (g i),H,I.tok _,⟨_,rfl⟩,q⟩
def zbk:UnR X (unaryOp .USub) (rU λi=>.int (-i)):=unI λ_ _ _ _ _ q=>neg_int q
end
noncomputable def scal:V->V->Bool
 | .non,.non=>true | .non,.int _=>true | .int _,.non=>true | .non,.bl _=>true | .bl _,.non=>true | .non,.str _=>true | .str _,.non=>true
 | .int _,.int _=>true | .bl _,.bl _=>true | .str _,.str _=>true | .byt _,.byt _=>true
 | .int _,.str _=>true | .str _,.int _=>true | .bl _,.str _=>true | .str _,.bl _=>true
 | _,_=>false
noncomputable def rEq:R2:=λx y H Q=>scal x y=true/\Q (.bl (decide (x=y))) H
noncomputable def rNe:R2:=λx y H Q=>scal x y=true/\Q (.bl (!decide (x=y))) H
def zlP{i:Int}:decide (V.int i=V.int j)=(i == j):=by
 rw[Bool.eq_iff_iff]
 simp
def zn7{i j:Bool}:decide (V.bl i=V.bl j)=(i == j):=by
 rw[Bool.eq_iff_iff]
 simp
def zly{i j:Str}:decide (V.str i=V.str j)=(i == j):=by
 rw[Bool.eq_iff_iff]
 simp
def zlI{i j:Array UInt8}:decide (V.byt i=V.byt j)=(i.toList == j.toList):=by
 rw[Bool.eq_iff_iff];cases i;cases j
 simp
section
variable {X:Cx}{a b c:Expr}{ta tb tc:TE}{pos:Pos}
def zae{k a:Bool}(I:Inv X pins σ H s)(q:Q (.bl k) H)(e:k=a):EP X pins σ Q (.bool a) s:=by
 subst e;exact⟨.bl k,H,I,rfl,q⟩
def zum:OpR X (compareOp .Eq) rEq:=by
 intro pins s σ H x y v u Q I c a h;obtain⟨b,q⟩:=h;cases x with
 | non=>
  cases c;cases y with
  | non=>cases a;exact PySem.EqNone.eq_none_none (zae I q (by simp))
  | bl j=>cases a;exact PySem.EqNone.eq_none_bool (zae I q (by simp))
  | int j=>obtain⟨t',rfl⟩:=a;exact PySem.EqNone.eq_none_int (zae I q (by simp))
  | str j=>obtain⟨t',rfl⟩:=a;exact PySem.EqNone.eq_none_str (zae I q (by simp))
  | _=>exact absurd (show false=true from b) yp
 | bl i=>
  cases c;cases y with
  | non=>cases a;exact PySem.EqNone.eq_bool_none (zae I q (by simp))
  | bl j=>cases a;exact eq_bool (zae I q zn7)
  | str j=>obtain⟨t',rfl⟩:=a;exact PySem.EqMixed.eq_bool_str (zae I q (by simp))
  | _=>exact absurd (show false=true from b) yp
 | int i=>
  obtain⟨t,rfl⟩:=c;cases y with
  | non=>cases a;exact PySem.EqNone.eq_int_none (zae I q (by simp))
  | int j=>obtain⟨t',rfl⟩:=a;exact eq_int (zae I q zlP)
  | str j=>obtain⟨t',rfl⟩:=a;exact PySem.EqMixed.eq_int_str (zae I q (by simp))
  | _=>exact absurd (show false=true from b) yp
 | str i=>
  obtain⟨t,rfl⟩:=c;cases y with
  | non=>cases a;exact PySem.EqNone.eq_str_none (zae I q (by simp))
  | bl j=>cases a;exact PySem.EqMixed.eq_str_bool (zae I q (by simp))
  | int j=>obtain⟨t',rfl⟩:=a;exact PySem.EqMixed.eq_str_int (zae I q (by simp))
  | str j=>obtain⟨t',rfl⟩:=a;exact eq_str (zae I q zly)
  | _=>exact absurd (show false=true from b) yp
 | byt i=>
  obtain⟨t,rfl⟩:=c;cases y with
  | byt j=>obtain⟨t',rfl⟩:=a;exact PySem.W.eq_bytes (zae I q zlI)
  | _=>exact absurd (show false=true from b) yp
 | _=>cases y<;>exact absurd (show false=true from b) yp
def ztY:OpR X (compareOp .NotEq) rNe:=by
 intro pins s σ H x y v u Q I c a h;obtain⟨b,q⟩:=h;cases x with
 | non=>
  cases c;cases y with
  | non=>cases a;exact PySem.EqNone.ne_none_none (zae I q (by simp))
  | bl j=>cases a;exact PySem.EqNone.ne_none_bool (zae I q (by simp))
  | int j=>obtain⟨t',rfl⟩:=a;exact PySem.EqNone.ne_none_int (zae I q (by simp))
  | str j=>obtain⟨t',rfl⟩:=a;exact PySem.EqNone.ne_none_str (zae I q (by simp))
  | _=>exact absurd (show false=true from b) yp
 | bl i=>
  cases c;cases y with
  | non=>cases a;exact PySem.EqNone.ne_bool_none (zae I q (by simp))
  | bl j=>cases a;exact ne_bool (zae I q (congrArg not zn7))
  | str j=>obtain⟨t',rfl⟩:=a;exact PySem.EqMixed.ne_bool_str (zae I q (by simp))
  | _=>exact absurd (show false=true from b) yp
 | int i=>
  obtain⟨t,rfl⟩:=c;cases y with
  | non=>cases a;exact PySem.EqNone.ne_int_none (zae I q (by simp))
  | int j=>obtain⟨t',rfl⟩:=a;exact ne_int (zae I q (congrArg not zlP))
  | str j=>obtain⟨t',rfl⟩:=a;exact PySem.EqMixed.ne_int_str (zae I q (by simp))
  | _=>exact absurd (show false=true from b) yp
 | str i=>
  obtain⟨t,rfl⟩:=c;cases y with
  | non=>cases a;exact PySem.EqNone.ne_str_none (zae I q (by simp))
  | bl j=>cases a;exact PySem.EqMixed.ne_str_bool (zae I q (by simp))
  | int j=>obtain⟨t',rfl⟩:=a;exact PySem.EqMixed.ne_str_int (zae I q (by simp))
  | str j=>obtain⟨t',rfl⟩:=a;exact ne_str (zae I q (congrArg not zly))
  | _=>exact absurd (show false=true from b) yp
 | byt i=>
  obtain⟨t,rfl⟩:=c;cases y with
  | byt j=>obtain⟨t',rfl⟩:=a;exact PySem.W.ne_bytes (zae I q (congrArg not zlI))
  | _=>exact absurd (show false=true from b) yp
 | _=>cases y<;>exact absurd (show false=true from b) yp
def zba:OpR X (compareOp .Lt) (rI0 λi j=>.bl (decide (i<j))):=zpD λ_ _ _ _ _ _ _ q=>lt_int q
def zbo:OpR X (compareOp .Gt) (rI0 λi j=>.bl (decide (j<i))):=zpD λ_ _ _ _ _ _ _ q=>gt_int q
def zhz:OpR X (compareOp .GtE) (rI0 λi j=>.bl (decide (j<=i))):=zpD λ_ _ _ _ _ _ _ q=>ge_int q
def zfx:OpR X (compareOp .Is) (λx y H Q=>y=.non/\Q (.bl (decide (x=.non))) H):=by
 intro pins s σ H x y v u Q I a b h;obtain⟨rfl,q⟩:=h;cases b;refine is_none_gen (zae I q ?_);cases x<;>first
  | (cases a;rfl)
  | (obtain⟨t,rfl⟩:=a;rfl)
def zfU:OpR X (compareOp .IsNot) (λx y H Q=>y=.non/\Q (.bl (!decide (x=.non))) H):=by
 intro pins s σ H x y v u Q I a b h;obtain⟨rfl,q⟩:=h;cases b;refine isnot_none_gen (zae I q ?_);cases x<;>first
  | (cases a;rfl)
  | (obtain⟨t,rfl⟩:=a;rfl)
def OpR.or{f:Value->Value->Sem Value}{r b:R2}(h:OpR X f r)(h':OpR X f b):OpR X f (λx y H Q=>r x y H Q\/b x y H Q):=by
 intro pins s σ H x y v u Q I c a q;rcases q with q | q
 ·exact h pins s σ H x y v u Q I c a q
 ·exact h' pins s σ H x y v u Q I c a q
def nomark(b:Expr){a:CmpOp}(h:autoParam (a≠.In) Internal.aut1._auto_1)(h2:autoParam (a≠.NotIn) Internal.aut1._auto_1):behindInMarks a b=false:=by
 have e1:(a == CmpOp.In)=false:=by cases a<;>first | rfl | exact absurd rfl h
 have e2:(a == CmpOp.NotIn)=false:=by cases a<;>first | rfl | exact absurd rfl h2
 cases b<;>simp[behindInMarks,e1,e2]
def zbz{c:CmpOp}{r:R2}(d:OpR X (compareOp c) r)(e:PE X a ta)(i:PE X b tb)(k:behindInMarks c b=false):PE X (.Compare a [c] [b] pos) (tOp r ta tb):=by
 intro pins s σ H Q I h;exact wpAny_Compare1 (zpK e i I h λv u j x y H2 f l g q=>d pins j σ H2 x y v u Q f l g q) k
abbrev ztP(t:TE):TT:=λσ H Q=>t σ H λx H'=>∃k,x=.bl k/\Q k H'
def zm{d:CmpOp}{r:R2}(f:OpR X (compareOp d) r)(w:PE X a ta)(o:PE X b tb)(t:behindInMarks d b=false):PT X (.Compare a [d] [b] pos) (ztP (tOp r ta tb)):=by
 intro pins s σ H Q I h;refine wpAny_isTrue_Compare1 (thn (w pins s σ H _ I h) λv A ⟨x,H1,n,p,q1⟩=>thn (o pins A σ H1 _ n q1) λu q ⟨y,H2,j,r2,q2⟩=>
  thn (f pins q σ H2 x y v u _ j p r2 q2) λc B ⟨z,i,l,m,k,e,g⟩=>?_) t
 subst e;cases m;exact wpAny_truthy_bool ⟨i,l,g⟩
noncomputable def zhT (K:Fg) (x:V) (H:Hp) (k:Bool):Prop:=
 match x with
 | .non=>k=false
 | .bl b=>k=b
 | .int i=>k=(i != 0)
 | .str y=>y.length<=sizeLine/\k=((y.length:Int) != 0)
 | .byt y=>y.size<=sizeLine/\k=((y.size:Int) != 0)
 | .ref p=>(∃xs,SqL K H p xs/\k=!xs.isEmpty)\/(∃xs,SqT K H p xs/\k=!xs.isEmpty)\/∃kvs,H p=some (.dK kvs)/\k=!kvs.isEmpty
 | _=>False
def zl5{κ:Type}{kvs:List (κ × V)}{vs:List (κ × Value)}(r:KV kvs vs):(!vs.isEmpty)=!kvs.isEmpty:=by
 cases r<;>rfl
def zhb(r:Vals xs its):(!its.toArray.isEmpty)=!xs.isEmpty:=by
 cases r<;>simp
def line63:(sizeLine:Nat)<2 ^ 63:=by rw[sizeLine_eq];decide
def znd:zuT X (λx H Q=>∃k,zhT X.K x H k/\Q k H):=by
 intro pins s σ H x v Q I d h;obtain⟨k,e,q⟩:=h;have l:=line63;have n:sizeLine=16777216:=sizeLine_eq;cases x with
 | non=>
  cases d;have a:k=false:=e;subst a;exact truthy_none ⟨H,I,q⟩
 | bl b=>
  cases d;have a:k=b:=e;subst a;exact wpAny_truthy_bool ⟨H,I,q⟩
 | int i=>
  obtain⟨t,rfl⟩:=d;have a:k=(i != 0):=e;subst a;exact PySem.P.truthy_int ⟨H,I,q⟩
 | str y=>
  obtain⟨t,rfl⟩:=d;obtain⟨g,a⟩:y.length<=sizeLine/\k=((y.length:Int) != 0):=e;subst a;exact PySem.P.truthy_str ⋯ ⟨H,I.tok _,q⟩
 | byt y=>
  obtain⟨t,rfl⟩:=d;obtain⟨g,a⟩:y.size<=sizeLine/\k=((y.size:Int) != 0):=e;subst a;exact PySem.W.truthy_bytes ⋯ ⟨H,I.tok _,q⟩
 | ref p=>
  cases d;have a:(∃xs,SqL X.K H p xs/\k=!xs.isEmpty)\/(∃xs,SqT X.K H p xs/\k=!xs.isEmpty)\/∃kvs,H p=some (.dK kvs)/\k=!kvs.isEmpty:=e;rcases a with⟨xs,hx,a⟩ | ⟨xs,hx,a⟩ | ⟨kvs,hx,a⟩
  ·subst a;obtain⟨its,r,pl,f⟩:=I.list hx;have c:=r.length;exact wpAny_truthy_list pl.isList (by simp only[yl];lia) ⟨H,I.tok _,by rw[zhb r];exact q⟩
  ·subst a;obtain⟨its,r,pl,f⟩:=I.tuple hx;have c:=r.length;exact truthy_tuple pl (by simp only[yl];lia) ⟨H,I.tok _,by rw[zhb r];exact q⟩
  ·subst a;obtain⟨f,j,vs,r,m⟩:kvs.length<=sizeLine/\(p == sysModules)=false/\∃vs,KV kvs vs/\s.heap.DictOf (zhU X.prog X.w) p vs:=I.hok p _ hx;have c:kvs.length=vs.length:=Paired.length r;exact wpAny_truthy_dict j m ⋯ ⟨H,I.tok _,by rw[zl5 r];exact q⟩
 | _=>exact(show False from e).elim
def zp5(e:PE X a ta)(d:∀whole,isTrue a X.env whole=(do let v <- whole;standAt a.pos;holding [v] (truthy v))) :
  PT X a (λσ H Q=>ta σ H λx H'=>∃k,zhT X.K x H' k/\Q k H'):=by
 intro pins s σ H Q I h;exact isTrue_plain (thn (e pins s σ H _ I h) λv f ⟨x,H1,b,c,q1⟩=>znd pins f σ H1 x v Q b c q1) (d _)
def vals1{x:V}(r:Vals [x] us):∃u,us=[u]/\RelV x u:=by
 cases r with
 | cons r1 r2=>cases r2;exact⟨_,rfl,r1⟩
def vals2{x:V}(r:Vals [x,y] us):∃u w',us=[u,w']/\RelV x u/\RelV y w':=by
 cases r with
 | cons r1 r2=>
  cases r2 with
  | cons r3 r4=>cases r4;exact⟨_,_,rfl,r1,r3⟩
def zpr:CallR X (.builtin "abs") (λxs H Q=>∃i,xs=[.int i]/\Q (.int (if i<0 then -i else i)) H):=by
 intro pins s σ H xs us Q I r h;obtain⟨i,rfl,q⟩:=h;obtain⟨u,rfl,t,rfl⟩:=vals1 r;exact call_abs_int λu tk=>⟨.int (if i<0 then -i else i),H,I.tok _,⟨_,rfl⟩,q⟩
def zoo(b:X.calm=true):CallR X (.builtin "max") (λxs H Q=>∃i j,xs=[.int i,.int j]/\Q (.int (if j>i then j else i)) H):=by
 intro pins s σ H xs us Q I r h;obtain⟨i,j,rfl,q⟩:=h;obtain⟨u,c,rfl,⟨t,rfl⟩,⟨t',rfl⟩⟩:=vals2 r;refine max_two_ints (I.ok.hd b) λh' tk k=>⟨_,H,I.kept k,?_,q⟩
 by_cases a:j>i
 ·rw[if_pos a,if_pos a];exact⟨_,rfl⟩
 ·rw[if_neg a,if_neg a];exact⟨_,rfl⟩
def zow(b:X.calm=true):CallR X (.builtin "min") (λxs H Q=>∃i j,xs=[.int i,.int j]/\Q (.int (if j<i then j else i)) H):=by
 intro pins s σ H xs us Q I r h;obtain⟨i,j,rfl,q⟩:=h;obtain⟨u,c,rfl,⟨t,rfl⟩,⟨t',rfl⟩⟩:=vals2 r;refine min_two_ints (I.ok.hd b) λh' tk k=>⟨_,H,I.kept k,?_,q⟩
 by_cases a:j<i
 ·rw[if_pos a,if_pos a];exact⟨_,rfl⟩
 ·rw[if_neg a,if_neg a];exact⟨_,rfl⟩
end
structure ObjM(h:Heap)(x dx C:Addr)(mA:Str->Option Value):Prop where
 obj:h.get? x=some (PySem.W.instObj C dx)
 ns:h.Ns1 dx mA
 ne:dx≠x
def zop{dx:Addr}{mA:Str->Option Value}(n:h.Ns1 dx mA):∃od,h.get? dx=some od/\∀name,PySem.W.lookIn name od=some (mA name):=by
 obtain⟨o,es,j,c,hd,g,_,i⟩:=n;refine⟨o,c,λname=>?_⟩;have e:=i name;unfold nsFind findBy at e;rw[<- Array.find?_toList]at e;unfold PySem.W.lookIn;rw[hd];dsimp only;split
 ·rename_i y q;rw[q]at e;exact congrArg some e
 ·rename_i q;rw[q]at e;have a:es.toList.any (·.refKey)=false:=by
   rw[List.any_eq_false];intro y f;obtain⟨z,t,b⟩:=g y (Array.mem_toList_iff.mp f);simp[DictEntry.refKey,b]
  have d:¬es.toList.any (·.refKey)=true:=by rw[a];exact yp
  rw[if_neg d];exact congrArg some e
def ObjM.look{x dx:Addr}{mA:Str->Option Value}(I:ObjM h x dx C mA):∃od,PySem.W.InstAt h x (PySem.W.instObj C dx) C (some od)/\∀name,PySem.W.lookIn name od=some (mA name):=
 let ⟨od,ho,hl⟩:=zop I.ns
 ⟨od,⟨I.obj,rfl,rfl,ho⟩,hl⟩
section
variable {prog:Program}{w:World}{A:Around}{E:Value->Shared->Prop}{s:Shared}{K:Fg}{x dx C f:Addr}{mA:Str->Option Value}{name:Str}{v:Value}
def zrp{expr:Bool}{Q:Value->Shared->Prop}(X:K.In s.heap)(I:ObjM s.heap x dx C mA)(c:PySem.W.plainGet K C name=true)(a:PySem.W.hasDictIn K C=true)
  (ha:PySem.W.findIn K (.ref C) name=some none) (hv:mA name=some v) (hv':PySem.W.handedIn v=true) (h:Q v { s with toks:=s.toks+1 }) :
  wpAny (model prog w) A (getAttr (.ref x) name expr) Q E s:=by
 obtain⟨od,J,b⟩:=I.look;exact PySem.W.get_value X J (PySem.W.plainGet_of c).1 (PySem.W.findObj_own a ha rfl (by rw[b,hv])) hv' h
def zoQ{pl:Sem Bool}{Q:Value × List Value->Shared->Prop}(X:K.In s.heap)(I:ObjM s.heap x dx C mA)(a:PySem.W.plainGet K C name=true)
  (hf:PySem.W.findIn K (.ref C) name=some (some (.ref f))) (ht:PySem.W.isFn K (.ref f)=true) (hv:mA name=none) (h:Q (.ref f,[.ref x]) s) :
  wpAny (model prog w) A (getMethod (.ref x) name pl) Q E s:=by
 obtain⟨od,J,b⟩:=I.look;exact PySem.W.method_fn X J (PySem.W.plainGet_of a).1 (PySem.W.plainGet_of a).2 hf (beq_iff_eq.mp ht) (by show(PySem.W.lookIn name od).map (·.isSome)=some false;rw[b,hv];rfl) h
def zrB{ns:List Str}{Q:Unit->Shared->Prop}(X:K.In s.heap)(I:ObjM s.heap x dx C mA)
  (hs:PySem.W.findIn K (.ref C) "__setattr__" = some (some (.builtin "object.__setattr__"))) (hp:PySem.W.plainOver K C=true) (ht:PySem.W.takerIn K C name=some none) (hh:PySem.W.hasDictIn K C=true)
  (hw:PySem.Within mA ns) (hsz:ns.length<=sizeLine)
  (h:∀h',ObjM h' x dx C (λy=>if y=name then some v else mA y)->Heap.SameBut dx s.heap h'->Q () { s with heap:=h',toks:=s.toks+2 }) :
  wpAny (model prog w) A (setAttr (.ref x) name v) Q E s:=by
 obtain⟨od,J,n⟩:=I.look;refine PySem.W.set_plain X J hs (PySem.W.osa_open (s:={ s with toks:=s.toks+1 }) (r:=none) X J hp ht λb=>?_);obtain⟨p,k,e⟩:=PySem.W.any_some hh;have l:s.heap.get? x=some ⟨.ref C,some dx,.plain,#[]⟩:=I.obj;refine wpAny_bind (wpAny_pure (wpAny_bind (wpAny_bind (wpAny_loadPart l (wpAny_bind (PySem.W.Looks.here (s:={ s with toks:=s.toks+1 }) (PySem.W.looks_clsIn X k) ?_))))));rw[e];refine wpAny_pure (a:=some dx) (wpAny_bind (wpAny_pure (wpAny_bind ?_)));refine wpAny_nsSet1 (s:={ s with toks:=s.toks+1 }) I.ns λh' c d=>?_;obtain⟨o,m,j,f,g,i⟩:=c.count (PySem.Within.cons name v hw);refine wpAny_bind (wpAny_lookBehind f (by rw[g];exact pastItsLine_dict (ya i (by rw[List.length_cons];lia))) ?_);exact wpAny_pure (h _ ⟨(d.2 _ (Ne.symm I.ne)).trans I.obj,c,I.ne⟩ d)
def zpN{R:Result->Shared->Prop}{vs:List Value}{kw:List (Str × Value)}(X:K.In s.heap)(a:PySem.W.makesIn K C=true)
  (hi:PySem.W.findIn K (.ref C) "__init__" = some (some (.ref f))) (hf:PySem.W.typeIn K (.ref f)=some (.type "function"))
  (h:codeAny (model prog w) (A.under (.builtin "type.__call__" ⟨.ref C :: vs,kw⟩)) (.call (.ref f) ⟨.ref (s.heap.objs.size+1) :: vs,kw⟩) (PySem.W.InitBack (s.heap.objs.size+1) R)
   { s with heap:=(s.heap.push PySem.W.emptyDict).push (PySem.W.instObj C s.heap.objs.size) }) :
  codeAny (model prog w) A (.call (.ref C) ⟨vs,kw⟩) R s:=by
 obtain⟨b,g,d,t,os⟩:=s;exact PySem.W.make_core (PySem.W.makes_of X a) (PySem.W.looks_findIn X hi) (λself=>PySem.W.bind_fn X self hf) (.inl rfl) h
end
noncomputable def zZ (f:Str) (v:V):List (Str × V)->List (Str × V)
 | []=>[(f,v)]
 | (g,x) :: r=>if g=f then(g,v) :: r else(g,x) :: zZ f v r
theorem zk(f g:Str)(v:V):∀fs:List (Str × V),(zZ f v fs).lookup g=if g=f then some v else fs.lookup g
 | []=>by
  show List.lookup g [(f,v)]=_;by_cases h:g=f
  ·have a:(g == f)=true:=beq_iff_eq.mpr h;simp only[List.lookup,a,if_pos h]
  ·have a:(g == f)=false:=beq_eq_false_iff_ne.mpr h;simp only[List.lookup,a,if_neg h]
 | (k,x) :: r=>by
  have c:=zk f g v r;rw[show zZ f v ((k,x) :: r)=(if k=f then(k,v) :: r else(k,x) :: zZ f v r)from rfl];by_cases b:k=f
  ·rw[if_pos b];by_cases h:g=k
   ·have a:(g == k)=true:=beq_iff_eq.mpr h;simp only[List.lookup,a,if_pos (h.trans b)]
   ·have a:(g == k)=false:=beq_eq_false_iff_ne.mpr h;simp only[List.lookup,a,if_neg (λe:g=f=>h (e.trans b.symm))]
  ·rw[if_neg b];by_cases h:g=k
   ·have a:(g == k)=true:=beq_iff_eq.mpr h;simp only[List.lookup,a,if_neg (λe:g=f=>b (h.symm.trans e))]
   ·have a:(g == k)=false:=beq_eq_false_iff_ne.mpr h;simp only[List.lookup,a];exact c
theorem zfF(f:Str)(v:V):∀fs:List (Str × V),f∈(zZ f v fs).map (·.1)/\∀g,g∈fs.map (·.1)->g∈(zZ f v fs).map (·.1)
 | []=>⟨by simp[zZ],λg h=>by simp at h⟩
 | (k,x) :: r=>by
  obtain⟨c,b⟩:=zfF f v r;rw[show zZ f v ((k,x) :: r)=(if k=f then(k,v) :: r else(k,x) :: zZ f v r)from rfl];by_cases a:k=f
  ·rw[if_pos a];subst a;exact⟨by simp,λg h=>by simpa using h⟩
  ·rw[if_neg a];refine⟨?_,λg h=>?_⟩
   ·rw[List.map_cons];exact List.mem_cons_of_mem _ c
   ·rw[List.map_cons]at h ⊢;rcases List.mem_cons.mp h with e | e
    ·exact List.mem_cons.mpr (.inl e)
    ·exact List.mem_cons_of_mem _ (b g e)
theorem zt(f:Str)(v:V):∀fs:List (Str × V),(zZ f v fs).length<=fs.length+1
 | []=>by simp[zZ]
 | (k,x) :: r=>by
  have b:=zt f v r;rw[show zZ f v ((k,x) :: r)=(if k=f then(k,v) :: r else(k,x) :: zZ f v r)from rfl];by_cases a:k=f
  ·rw[if_pos a,List.length_cons,List.length_cons];lia
  ·rw[if_neg a,List.length_cons,List.length_cons];lia
def RelO.some_of{o:Option Value}(r:RelO (some v) o):∃u,o=some u/\RelV v u:=by
 cases o with
 | none=>exact(show False from r).elim
 | some u=>exact⟨u,rfl,r⟩
def RelO.none_of{o:Option Value}(r:RelO none o):o=none:=by
 cases o with
 | none=>rfl
 | some u=>exact(show False from r).elim
def znK(r:RelV v u):PySem.W.handedIn u=true:=by
 cases v with
 | non=>cases(show u=Value.none from r);rfl
 | bl b=>cases(show u=Value.bool b from r);rfl
 | int i=>obtain⟨t,e⟩:=(show ∃t,u=Value.int i t from r);cases e;rfl
 | str x=>obtain⟨t,e⟩:=(show ∃t,u=Value.str x t from r);cases e;rfl
 | byt b=>obtain⟨t,e⟩:=(show ∃t,u=Value.bytes b t from r);cases e;rfl
 | flt b=>obtain⟨t,e⟩:=(show ∃t,u=Value.float b t from r);cases e;rfl
 | ref a=>cases(show u=Value.ref a from r);rfl
 | ty n=>cases(show u=Value.type n from r);rfl
section
variable {P:Program}{w:World}{H H':Hp}{h h':Heap}{a C dx:Addr}{fs fs':List (Str × V)}
def zfN(hok:HOk P w H h)(e:H a=some (.ins C dx fs)):∃mA,ObjM h a dx C mA/\(∀f,RelO (fs.lookup f) (mA f))/\PySem.Within mA (fs.map (·.1))/\fs.length<=1000/\H dx=some (.own a):=by
 obtain⟨d,z,ne,ob,mA,n,r,q⟩:=(show ObjOk P w H h a (.ins C dx fs)from hok a _ e)
 exact⟨mA,⟨ob,n,ne⟩,r,q,z,d⟩
end
structure Cls(K:Fg)(C:Addr):Prop where
 pg:PySem.W.plainGet K C Str.empty=true
 hd:PySem.W.hasDictIn K C=true
 po:PySem.W.plainOver K C=true
 sa:PySem.W.findIn K (.ref C) "__setattr__" = some (some (.builtin "object.__setattr__"))
def Cls.get(c:Cls K C)(f:Str):PySem.W.plainGet K C f=true:=c.pg
noncomputable def NoAttr (K:Fg) (C:Addr) (f:Str):Prop:=PySem.W.findIn K (.ref C) f=some none
def NoAttr.taker{f:Str}(n:NoAttr K C f):PySem.W.takerIn K C f=some none:=by
 unfold PySem.W.takerIn;rw[show PySem.W.findIn K (.ref C) f=some none from n];rfl
structure Meth(K:Fg)(C:Addr)(m:Str)(f:Addr):Prop where
 at_:PySem.W.findIn K (.ref C) m=some (some (.ref f))
 fn:PySem.W.isFn K (.ref f)=true
 kp:PySem.W.keepIn K (.ref f)=true
section
variable {X:Cx}{pins:List (Addr × Obj)}{σ:St}{H:Hp}{s:Shared}{a C dx:Addr}{fs:List (Str × V)}{f:Str}{v:V}{A:Around}{E:Value->Shared->Prop}
def zgY{b:Bool}{Q:Value->Shared->Prop}(I:Inv X pins σ H s)(e:H a=some (.ins C dx fs))(c:Cls X.K C)(n:NoAttr X.K C f)(l:fs.lookup f=some v)
  (h:∀u s',Inv X pins σ H s'->RelV v u->Q u s'):wpAny (model X.prog X.w) A (getAttr (.ref a) f b) Q E s:=by
 obtain⟨mA,O,r,_,_,_⟩:=zfN I.hok e;obtain⟨u,d,ru⟩:=RelO.some_of (v:=v) (o:=mA f) (by rw[<- l];exact r f);exact zrp I.kIn O (c.get f) c.hd n d (znK ru) (h u _ (I.tok _) ru)
def zgS{m:Str}{g:Addr}{pl:Sem Bool}{Q:Value × List Value->Shared->Prop}(I:Inv X pins σ H s)(e:H a=some (.ins C dx fs))(c:Cls X.K C)(k:Meth X.K C m g)(l:fs.lookup m=none)
  (h:Q (.ref g,[.ref a]) s):wpAny (model X.prog X.w) A (getMethod (.ref a) m pl) Q E s:=by
 obtain⟨mA,O,r,_,_,_⟩:=zfN I.hok e;have b:mA m=none:=RelO.none_of (by rw[<- l];exact r m);exact zoQ I.kIn O (c.get m) k.at_ k.fn b h
def zhL{Q:Unit->Shared->Prop}(I:Inv X pins σ H s)(e:H a=some (.ins C dx fs))(c:Cls X.K C)(n:NoAttr X.K C f)(t:fs.length<1000)(l:RelV y u)
  (h:∀s',Inv X pins σ (upd H a (.ins C dx (zZ f y fs))) s'->Q () s'):wpAny (model X.prog X.w) A (setAttr (.ref a) f u) Q E s:=by
 obtain⟨mA,O,r,wi,_,i⟩:=zfN I.hok e;have j:(fs.map (·.1)).length<=sizeLine:=by rw[yc,sizeLine_eq];lia
 refine zrB I.kIn O c.sa c.po n.taker c.hd wi j λh' d k=>h _ ?_;have hd:∃o,h'.get? dx=some o:=let ⟨o,_,_,e',_⟩:=d.ns;⟨o,e'⟩;refine I.write (x:=a) (e:=dx) (by rw[e];exact True.intro) (.inr i) (λb q m z=>(k.2 b m).trans z) hd ?_;refine⟨by rw[zN O.ne];exact i,?_,O.ne,d.obj,_,d.ns,λg=>?_,λg p=>?_⟩
 ·have:=zt f y fs;lia
 ·show RelO ((zZ f y fs).lookup g) (if g=f then some u else mA g);rw[zk];by_cases q:g=f
  ·rw[if_pos q,if_pos q];exact l
  ·rw[if_neg q,if_neg q];exact r g
 ·by_cases q:g=f
  ·rw[q];exact(zfF f y fs).1
  ·refine(zfF f y fs).2 g (wi g λz=>p ?_)
   show(if g=f then some u else mA g)=none
   rw[if_neg q];exact z
def Inv.made(I:Inv X pins σ H s):Inv X pins σ (upd (upd H s.heap.objs.size (.own (s.heap.objs.size+1))) (s.heap.objs.size+1) (.ins C s.heap.objs.size []))
  { s with heap:=(s.heap.push PySem.W.emptyDict).push (PySem.W.instObj C s.heap.objs.size) }:=by
 have e1:(s.heap.push PySem.W.emptyDict).get? s.heap.objs.size=some PySem.W.emptyDict:=Heap.get?_push_size s.heap rfl;have e2:((s.heap.push PySem.W.emptyDict).push (PySem.W.instObj C s.heap.objs.size)).get? (s.heap.objs.size+1)=some (PySem.W.instObj C s.heap.objs.size):=by
  have:=Heap.get?_push_size (s.heap.push PySem.W.emptyDict) (o:=PySem.W.instObj C s.heap.objs.size) rfl
  rwa [Heap.size_push]at this
 have c:(s.heap.push PySem.W.emptyDict).Ns s.heap.objs.size (λ_=>none):=⟨PySem.W.emptyDict,#[],_,e1,rfl,(λe f=>absurd f (by simp)),λ_=>rfl⟩
 have d:=I.laid (a:=s.heap.objs.size) (o:=.own (s.heap.objs.size+1)) (h':=s.heap.push PySem.W.emptyDict) (t':=s.toks) (λb u q=>Heap.get?_push_of_some _ q) (yg _) ⟨_,e1⟩;refine d.laid (a:=s.heap.objs.size+1) (o:=.ins C s.heap.objs.size []) (t':=s.toks) (λb u q=>Heap.get?_push_of_some _ q) (Nat.le_of_eq (Heap.size_push _ _)) ?_;have ne:s.heap.objs.size≠s.heap.objs.size+1:=yo (Nat.lt_succ_self _);refine⟨by rw[zN ne,zQ],Nat.zero_le _,ne,e2,λ_=>none,(Heap.Ns1.of_empty c).at λo q=>Heap.get?_push_of_some _ q,λ_=>True.intro,λy g=>absurd rfl g⟩
def zro{prog:Program}{w:World}{env:Env}{f:Str}{pos:Pos}{s:Shared}{Q:Value->Shared->Prop}(a:attributeBase e f env (eval e env)=eval e env)
  (h:wpAny (model prog w) A (eval e env) (λo b=>wpAny (model prog w) A (getAttr o f true) Q E b) E s):wpAny (model prog w) A (eval (.Attribute e f pos) env) Q E s:=
 Attribute_any_ h (by rw[arm_eval_Attribute,a])
end
noncomputable def zU (K:Fg) (ta:TE) (f:Str):TE:=λσ H Q=>ta σ H λx H1=>∃a C dx fs v,x=.ref a/\H1 a=some (.ins C dx fs)/\Cls K C/\NoAttr K C f/\fs.lookup f=some v/\Q v H1
noncomputable def zbG (K:Fg) (ta tv:TE) (f:Str):TS:=λD σ H=>tv σ H λy H1=>ta σ H1 λx H2=>∃a C dx fs,x=.ref a/\H2 a=some (.ins C dx fs)/\Cls K C/\NoAttr K C f/\fs.length<1000 /\
 D.nx σ (upd H2 a (.ins C dx (zZ f y fs)))
noncomputable def zpC (X:Cx) (b:Operator) (a:V->V->Hp->VK->Prop):Prop:=
 ∀(pins:List (Addr × Obj)) (s:Shared) (σ:St) (H:Hp) (x y:V) (u v:Value) (Q:VK),Inv X pins σ H s->RelV x u->RelV y v->a x y H Q->wpAny (model X.prog X.w) X.A (inplaceOp b u v) (EP X pins σ Q) X.xe s
noncomputable def zec (K:Fg) (ta tv:TE) (c:V->V->Hp->VK->Prop) (f:Str):TS:=λD σ H=>ta σ H λx H1=>∃a C dx fs v,x=.ref a/\H1 a=some (.ins C dx fs)/\Cls K C/\NoAttr K C f/\fs.lookup f=some v /\
 tv σ H1 λy H2=>c v y H2 λz b=>∃dx' fs',b a=some (.ins C dx' fs')/\fs'.length<1000/\D.nx σ (upd b a (.ins C dx' (zZ f z fs')))
section
variable {X:Cx}{o e value:Expr}{f:Str}{pos pos' tpos:Pos}{ta tv:TE}
def zF(g:PE X e ta)(j:attributeBase e f X.env (eval e X.env)=eval e X.env):PE X (.Attribute e f pos) (zU X.K ta f):=by
 intro pins s σ H Q I h;refine zro j (thn (g pins s σ H _ I h) λu r b=>?_);obtain⟨x,H1,i,m,a,C,dx,fs,v,ex,k,c,n,l,q⟩:=b;subst ex;obtain rfl:u=Value.ref a:=m;exact zgY i k c n l λo p d ru=>⟨v,H1,d,ru,q⟩
def za8(d:PE X o ta)(p:PE X value tv)(m:swapsWith value (some (.Attribute o f pos')) pos.line X.env=pure false):PS X (.Assign [.Attribute o f pos'] value pos) (zbG X.K ta tv f):=by
 intro pins s σ H D I h;refine plainObj_wpAny_Assign_Attribute (thn (p pins s σ H _ I h) λu v ⟨y,H1,j,k,q⟩=>thn (d pins v σ H1 _ j q) λi z b=>?_) m;obtain⟨x,H2,e,t,a,C,dx,fs,ex,r,c,n,l,q2⟩:=b;subst ex;obtain rfl:i=Value.ref a:=t;exact zhL e r c n l k λw g=>⟨σ,_,g,q2⟩
def zfm{i:Operator}{g:V->V->Hp->VK->Prop}(E:PE X o ta)(F:PE X value tv)(e:zpC X i g):PS X (.AugAssign (.Attribute o f tpos) i value pos) (zec X.K ta tv g f):=by
 intro pins s σ H D I h;refine wpAny_AugAssign_AttributeAny (thn (E pins s σ H _ I h) λA R b=>?_);obtain⟨x,H1,L,B,a,C,dx,fs,v,ex,J,c,n,l,q⟩:=b;subst ex;obtain rfl:A=Value.ref a:=B;refine zgY L J c n l λu P k ru=>thn (F pins P σ H1 _ k q) λG w ⟨y,H2,m,N,j⟩=>thn (e pins w σ H2 v y u G _ m ru N j) λT U b=>?_;obtain⟨z,S,M,O,p,fs',d,l',t⟩:=b;exact zhL M d c n l' O λQ r=>⟨σ,_,r,t⟩
noncomputable def zuH:V->V->Hp->VK->Prop:=λx y H Q=>∃i j,x=.int i/\y=.int j/\Q (.int (i+j)) H
noncomputable def zuJ:V->V->Hp->VK->Prop:=λx y H Q=>∃i j,x=.int i/\y=.int j/\Q (.int (i-j)) H
def znQ:zpC X .Add zuH:=by
 rintro pins s σ H x y u v Q I b a ⟨i,j,rfl,rfl,q⟩;obtain⟨t,rfl⟩:=(show ∃t,u=Value.int i t from b)
 obtain⟨t',rfl⟩:=(show ∃t',v=Value.int j t' from a)
 exact PyProof.Rows.iadd_int ⟨.int (i+j),H,I.tok _,⟨_,rfl⟩,q⟩
def zsj:zpC X .Sub zuJ:=by
 rintro pins s σ H x y u v Q I b a ⟨i,j,rfl,rfl,q⟩;obtain⟨t,rfl⟩:=(show ∃t,u=Value.int i t from b)
 obtain⟨t',rfl⟩:=(show ∃t',v=Value.int j t' from a)
 exact PyProof.Rows.isub_int ⟨.int (i-j),H,I.tok _,⟨_,rfl⟩,q⟩
end
section
variable {X:Cx}{pins:List (Addr × Obj)}{σ:St}{H:Hp}{s:Shared}{A:Around}{E:Value->Shared->Prop}{Q:Value->Shared->Prop}{c:Value}{b:Bool}
inductive TyOf(K:Fg)(H:Hp):V->Value->Prop where
 | non:TyOf K H .non (.type "NoneType")
 | bl (x:Bool):TyOf K H (.bl x) (.type "bool")
 | int (i:Int):TyOf K H (.int i) (.type "int")
 | str (x:Str):TyOf K H (.str x) (.type "str")
 | flt (x:UInt64):TyOf K H (.flt x) (.type "float")
 | lst {a:Addr} {xs:List V} (e:H a=some (.lst xs)):TyOf K H (.ref a) (.type "list")
 | frz {a:Addr} {o:Obj} {xs:List V} (e:H a=some (.frz o (.lst xs))):TyOf K H (.ref a) (.type "list")
 | tup {a:Addr} {xs:List V} (e:H a=some (.tup xs)):TyOf K H (.ref a) (.type "tuple")
 | dK {a:Addr} {kvs:List (Key × V)} (e:H a=some (.dK kvs)):TyOf K H (.ref a) (.type "dict")
 | dT {a:Addr} {kvs:List (List Key × V)} (e:H a=some (.dT kvs)):TyOf K H (.ref a) (.type "dict")
 | ins {a C dx:Addr} {fs:List (Str × V)} (e:H a=some (.ins C dx fs)) (cl:Cls K C) (ha:PySem.W.findIn K (.ref C) "__class__" = some (some (.builtin "object.__class__")))
   (hn:PySem.W.specialIn K (.builtin "object.__class__") "__get__" = some (some (.builtin "getset_descriptor.__get__"))) (htk:PySem.W.takesIn K (.builtin "object.__class__")=some true)
   (hm:PySem.W.mroIn K C (.type "object")=some true):TyOf K H (.ref a) (.ref C)
def zoI{x:V}{t:Value}(I:Inv X pins σ H s)(d:RelV x u)(ty:TyOf X.K H x t)(e:PySem.W.kitOne X.K t c=some b)(h:∀tk,Q (.bool b) { s with toks:=tk }) :
  wpAny (model X.prog X.w) A (call (.builtin "isinstance") [u,c]) Q E s:=by
 cases ty with
 | non=>cases(show u=Value.none from d);exact PySem.W.kia_one PySem.W.kitx_none I.kIn True.intro e (λz=>nomatch z) h
 | bl y=>cases(show u=Value.bool y from d);exact PySem.W.kia_one PySem.W.kitx_bool I.kIn True.intro e (λz=>nomatch z) h
 | int i=>obtain⟨t,q⟩:=(show ∃t,u=Value.int i t from d);cases q;exact PySem.W.kia_one PySem.W.kitx_int I.kIn True.intro e (λz=>nomatch z) h
 | str y=>obtain⟨t,q⟩:=(show ∃t,u=Value.str y t from d);cases q;exact PySem.W.kia_one PySem.W.kitx_str I.kIn True.intro e (λz=>nomatch z) h
 | flt y=>obtain⟨t,q⟩:=(show ∃t,u=Value.float y t from d);cases q;exact PySem.W.kia_one PySem.W.kitx_float I.kIn True.intro e (λz=>nomatch z) h
 | @lst a xs ea=>
  cases(show u=Value.ref a from d)
  obtain⟨_,_,n,_,h1⟩:=(show ObjOk X.prog X.w H s.heap a (.lst xs)from I.hok a _ ea)
  exact PySem.W.kia_one PySem.W.kitx_list I.kIn ⟨_,h1,rfl⟩ e (λz=>nomatch z) h
 | @frz a ob xs ea=>
  cases(show u=Value.ref a from d)
  obtain⟨_,_,_,n,_,h1⟩:=(show ObjOk X.prog X.w H s.heap a (.frz ob (.lst xs))from I.hok a _ ea)
  exact PySem.W.kia_one PySem.W.kitx_list I.kIn ⟨_,h1,rfl⟩ e (λz=>nomatch z) h
 | @tup a xs ea=>
  cases(show u=Value.ref a from d)
  obtain⟨_,_,_,p⟩:=(show ObjOk X.prog X.w H s.heap a (.tup xs)from I.hok a _ ea)
  obtain⟨o,h1,h2,_⟩:=p;exact PySem.W.kia_one PySem.W.kitx_tuple I.kIn ⟨o,h1,h2⟩ e (λz=>nomatch z) h
 | @dK a kvs ea=>
  cases(show u=Value.ref a from d)
  obtain⟨_,_,vs,_,p⟩:=(show ObjOk X.prog X.w H s.heap a (.dK kvs)from I.hok a _ ea)
  obtain⟨o,es,f,h1,h2,_⟩:=p;exact PySem.W.kia_one PySem.W.kitx_dict I.kIn ⟨o,h1,h2.1⟩ e (λz=>nomatch z) h
 | @dT a kvs ea=>
  cases(show u=Value.ref a from d)
  obtain⟨_,_,xs,_,o,es,f,h1,h2,_⟩:=(show ObjOk X.prog X.w H s.heap a (.dT kvs)from I.hok a _ ea)
  exact PySem.W.kia_one PySem.W.kitx_dict I.kIn ⟨o,h1,h2.1⟩ e (λz=>nomatch z) h
 | @ins a C dx fs ea cl ha hn htk hm=>
  cases(show u=Value.ref a from d)
  obtain⟨mA,O,_⟩:=zfN I.hok ea;obtain⟨od,J,_⟩:=O.look;exact PySem.W.kia_one (PySem.W.kitx_own (cl.get _) cl.hd ha hn htk hm) I.kIn J e (λz=>nomatch z) h
end
structure Room(k:Nat)(A:Around):Prop where
 hd:A.handled=none
 dp:A.depth+3*k+5<recursionLimit
 un:A.units+16*k+200<cLine
def Room.mono{j:Nat}(r:Room k A)(h:j<=k):Room j A:=⟨r.hd,by have:=r.dp;lia,by have:=r.un;lia⟩
theorem Room.deeper{k:Nat}{A:Around}(r:Room (k+1) A)(env:Env):Room k (A.deeper env):=
 ⟨r.hd,by have:=r.dp;show A.depth+1+3*k+5<_;lia,by have:=r.un;show A.units+3+16*k+200<_;lia⟩
def zml{kw:List (Str × Value)}:(A.under (.builtin "type.__call__" ⟨.ref C :: us,kw⟩)).depth=A.depth+1:=by
 first | rfl | simp[Around.under,Code.weight,Code.isCreation,Code.isGuard,Code.isCaller,Code.frames,Code.isFrame,guardIds]
def zl6{kw:List (Str × Value)}:(A.under (.builtin "type.__call__" ⟨.ref C :: us,kw⟩)).units=A.units+1:=by
 first | rfl | simp[Around.under,Code.cUnits,Code.frames,Code.isFrame]
def Room.make(r:Room (k+1) A)(C:Addr)(us:List Value)(kw:List (Str × Value)):Room k (A.under (.builtin "type.__call__" ⟨.ref C :: us,kw⟩)):=
 ⟨r.hd,by have:=r.dp;rw[zml];lia,by have:=r.un;rw[zl6];lia⟩
theorem Room.depth{k:Nat}{A:Around}(r:Room k A):A.depth<recursionLimit:=by have:=r.dp;lia
theorem Room.units{k:Nat}{A:Around}(r:Room k A):A.units+64<cLine:=by have:=r.un;lia
abbrev zfA:TA:=λ_ H Q=>Q [] H
abbrev zjx(ta:TE)(tr:TA):TA:=λσ H Q=>ta σ H λx H1=>tr σ H1 λxs H2=>Q (x :: xs) H2
section
variable {X:Cx}{e:Expr}{es:List Expr}{te:TE}{t:TA}{pos:Pos}
def zd:PA X [] zfA:=λ_ _ _ _ H Q I h=>Calls.spliced_nil ⟨[],H,I,.nil,h⟩
def za(i:PE X e te)(c:PA X es t)(f:autoParam (starEach (e :: es) X.env=(false,eval e X.env) :: starEach es X.env) Internal.aut2._auto_1):PA X (e :: es) (zjx te t):=by
 intro pos pins s σ H Q I h;rw[f];show wpAny _ _ (spliced ((false,eval e X.env) :: backTo pos (starEach es X.env))) _ _ s;refine Calls.spliced_cons (thn (i pins s σ H _ I h) λu j a=>?_);obtain⟨x,H1,d,g,q1⟩:=a;exact thn (c pos pins j σ H1 _ d q1) λus k ⟨xs,H2,b,r2,q2⟩=>⟨x :: xs,H2,b,.cons g r2,q2⟩
noncomputable def zsc (t:TA):TE:=λσ H Q=>t σ H λxs H1=>xs.length<=sizeLine/\∀p,H1 p=none->Q (.ref p) (upd H1 p (.tup xs))
noncomputable def ztu (t:TA):TE:=λσ H Q=>t σ H λxs H1=>xs.length<=sizeLine/\∀p,H1 p=none->Q (.ref p) (upd H1 p (.lst xs))
def zM{x1}(h:PA X es t):PE X (.Tuple es x1 pos) (zsc t):=by
 intro pins s σ H Q I d;refine wpAny_Tuple_spliced (thn (h pos pins s σ H _ I d) λus a ⟨xs,H1,c,r,z,q⟩=>⟨by rw[<- r.length];exact z,?_⟩);have f:H1 a.heap.objs.size=none:=c.hok.fresh (yg _);refine⟨.ref a.heap.objs.size,upd H1 a.heap.objs.size (.tup xs),c.laid (t':=a.toks) (λb u e=>Heap.get?_push_of_some _ e) (yg _) ?_,rfl,q _ f⟩;exact⟨z,us,r,⟨_,Heap.get?_push_size _ rfl,rfl,_,rfl⟩⟩
def zO(h:PA X es t):PE X (.List es pos) (ztu t):=by
 intro pins s σ H Q I d;refine wpAny_List_spliced (thn (h pos pins s σ H _ I d) λus a ⟨xs,H1,c,r,z,q⟩=>⟨by rw[<- r.length];exact z,?_⟩);have f:H1 a.heap.objs.size=none:=c.hok.fresh (yg _);refine⟨.ref a.heap.objs.size,upd H1 a.heap.objs.size (.lst xs),c.laid (t':=a.toks) (λb u e=>Heap.get?_push_of_some _ e) (yg _) ?_,rfl,q _ f⟩;exact⟨z,us,0,r,Heap.get?_push_size _ rfl⟩
end
abbrev Sp:=List V->Hp->VK->XK->Prop
abbrev CXT:=List Env->Hp->Shared->XK->Value->Shared->Prop
structure Env0(P:Program)(w:World)(K:Fg)(mg:Str->Option Value)(base:Heap)(A:Around)(outer:List Env)(s:Shared)(H:Hp):Prop where
 frames:A.frames=some outer
 mod:Mod K mg base
 bs:∀b o,base.get? b=some o->s.heap.get? b=some o/\H b=none
 bsz:base.objs.size<=s.heap.objs.size
 funs:s.heap.FunFrames base outer
 frf:∀b∈frs outer,H b=none
 hok:HOk P w H s.heap
 bare:AllBare s.gens
noncomputable def CE (outer:List Env) (P:Program) (w:World) (H:Hp) (s:Shared) (Q:VK) (u:Value) (s':Shared):Prop:=
 ∃v H',s'.os=s.os/\AllBare s'.gens/\Un (frs outer) [] H H' s.heap s'.heap/\HOk P w H' s'.heap/\RelV v u/\Q v H'
noncomputable def CR (CX:CXT) (outer:List Env) (P:Program) (w:World) (H:Hp) (s:Shared) (Q:VK) (E:XK) (r:Result) (s':Shared):Prop:=
 match r with
 | .ok (.ret u)=>CE outer P w H s Q u s'
 | .ok _=>False
 | .error e=>CX outer H s E e s'
structure FnOk(P:Program)(w:World)(K:Fg)(mg:Str->Option Value)(base:Heap)(CX:CXT)(k:Nat)(f:Addr)(fd:FuncData)(ps:List Str)(sp:Sp):Prop where
 len:∀vs H Q E,sp vs H Q E->vs.length=ps.length
 run:∀(A:Around) (outer:List Env) (s:Shared) (H:Hp) (args:Args) (us:List Value) (vs:List V) (Q:VK) (E:XK),Room k A->Env0 P w K mg base A outer s H->BindsTo s fd args (ps.zip us)->Vals vs us->sp vs H Q E ->
  codeAny (model P w) A (.call (.ref f) args) (CR CX outer P w H s Q E) s
def Env0.make(e:Env0 P w K mg base A outer s H)(C:Addr)(us:List Value)(kw:List (Str × Value)) :
  Env0 P w K mg base (A.under (.builtin "type.__call__" ⟨.ref C :: us,kw⟩)) outer s H:=⟨by first | exact e.frames | (simpa[Around.under,Code.envs,Code.isFrame,pushEnvs]using e.frames),e.mod,e.bs,e.bsz,e.funs,e.frf,e.hok,e.bare⟩
theorem Env0.in1{P:Program}{w:World}{K:Fg}{mg:Str->Option Value}{base:Heap}{A:Around}{outer:List Env}{s:Shared}{H:Hp}(e:Env0 P w K mg base A outer s H) :
  Env0 P w K mg base A.in1 outer s H:=⟨e.frames,e.mod,e.bs,e.bsz,e.funs,e.frf,e.hok,e.bare⟩
section
variable {X:Cx}{pins:List (Addr × Obj)}{σ:St}{H:Hp}{s s':Shared}
def Inv.env0(I:Inv X pins σ H s):Env0 X.prog X.w X.K X.mg X.base X.A X.stack s H:=
 ⟨I.ok.frames,I.ok.mod,I.bs,ya I.ok.bsz I.sz,I.stack,I.stkFree,I.hok,I.bare⟩
def Inv.after(I:Inv X pins σ H s)(h:CE X.stack X.prog X.w H s Q u s'):EP X pins σ Q u s':=by
 obtain⟨v,H',os,bare,un,hok,r,q⟩:=h;obtain⟨c,g,d,t,a⟩:=s';obtain rfl:a=s.os:=os;exact⟨v,H',I.call (h':=c) (g':=g) (d':=d) (t':=t) (ch:=[]) un hok bare (λb z=>absurd z (by simp)),r,q⟩
end
noncomputable def zeI (sp:Sp) (dvs:List V) (E:XK) (t:TA):TE:=λσ H Q=>t σ H λvs H1=>sp (vs++dvs) H1 Q E
noncomputable def zmY (C:Addr) (m:Str) (sp:Sp) (dvs:List V) (E:XK) (ta:TE) (t:TA):TE:=λσ H Q=>ta σ H λx H1=>∃a dx fs,x=.ref a/\H1 a=some (.ins C dx fs)/\fs.lookup m=none /\
 t σ H1 λvs H2=>sp (x :: (vs++dvs)) H2 Q E
noncomputable def zqe (C:Addr) (sp:Sp) (dvs:List V) (E:XK) (t:TA):TE:=λσ H Q=>t σ H λvs H1=>∀x dx,H1 x=none->H1 dx=none->dx≠x ->
 sp (.ref x :: (vs++dvs)) (upd (upd H1 dx (.own x)) x (.ins C dx [])) (λv H2=>v=.non/\Q (.ref x) H2) E
noncomputable def Binds (K:Fg) (fd:FuncData) (ps:List Str) (ds:List Value):Prop:=
 ∀(s:Shared) (us:List Value),K.In s.heap->(us++ds).length=ps.length->BindsTo s fd ⟨us,[]⟩ (ps.zip (us++ds))
def Binds.all(h:∀us:List Value,us.length=ps.length->bindArgs fd ⟨us,[]⟩=pure (ps.zip us)):Binds K fd ps []:=λs us _ a=>by
 rw[List.append_nil]at a ⊢;exact .of_eq (h us a)
noncomputable def zc2 (CX:CXT) (X:Cx) (E:XK):Prop:=∀(pins:List (Addr × Obj)) (σ:St) (H:Hp) (s:Shared) (e:Value) (s':Shared),Inv X pins σ H s->CX X.stack H s E e s'->X.xe e s'
section
variable {X:Cx}{CX:CXT}{k:Nat}{f C:Addr}{fd:FuncData}{ps:List Str}{sp:Sp}{dvs:List V}{ds:List Value}{E:XK}{x m:Str}{p pos apos:Pos}{e o:Expr}{es:List Expr}{ta:TE}{t:TA}
def zjT{pins:List (Addr × Obj)}{σ:St}{H:Hp}{s:Shared}{Q:VK}{us:List Value}{vs:List V}(F:FnOk X.prog X.w X.K X.mg X.base CX k f fd ps sp)(c:Room k X.A)(d:Binds X.K fd ps ds)(hd:Vals dvs ds)(g:zc2 CX X E)
  (I:Inv X pins σ H s) (r:Vals vs us) (h:sp (vs++dvs) H Q E):wpAny (model X.prog X.w) X.A (call (.ref f) us) (EP X pins σ Q) X.xe s:=by
 have r2:Vals (vs++dvs) (us++ds):=r.append hd;have b:(us++ds).length=ps.length:=by rw[<- r2.length];exact F.len _ _ _ _ h
 refine wpAny_call (codeAny_mono (F.run X.A X.stack s H ⟨us,[]⟩ (us++ds) (vs++dvs) Q E c I.env0 (d s us I.kIn b) r2 h) λr s' a=>?_);cases r with
 | error e=>exact g pins σ H s e s' I a
 | ok fl=>
  cases fl with
  | ret u=>exact I.after a
  | next=>exact False.elim a
  | brk=>exact False.elim a
  | cont=>exact False.elim a
def ziw(F:FnOk X.prog X.w X.K X.mg X.base CX k f fd ps sp)(b:Room k X.A)(i:Gl X x)(j:X.mg x=some (.ref f))(c:PySem.W.keepIn X.K (.ref f)=true)(g:Binds X.K fd ps ds)(hd:Vals dvs ds)(d:zc2 CX X E)
  (ha:PA X (e :: es) t) (hdb:autoParam ((x == ("__debug__" : Str))=false) Internal.aut1._auto_1) (he:autoParam (starEach (e :: es) X.env=(false,eval e X.env) :: starEach es X.env) Internal.aut2._auto_1) (hpl:autoParam ((backTo pos (starEach es X.env)).any (·.1)=false) Internal.aut2._auto_1) :
  PE X (.Call (.Name x p) (e :: es) [] pos) (zeI sp dvs E t):=by
 intro pins s σ H Q I h;refine wpAny_Call_Name_kw (zcO I i j ?_ hdb);refine PySem.W.callWith_K (h₀:=X.base) I.ok.mod.kin c (thn (ha pos pins s σ H _ I h) λus l ⟨vs,H1,a,r,q⟩=>⟨a.kIn,?_⟩) he hpl;exact zjT F b g hd d a r q
def zL{pl:Sem Bool}(j:PE X o ta)(c:Cls X.K C)(g:Meth X.K C m f)(F:FnOk X.prog X.w X.K X.mg X.base CX k f fd ps sp)(z:Room k X.A)(D:Binds X.K fd ps ds)(hd:Vals dvs ds)(n:zc2 CX X E)(v:PA X (e :: es) t)
  (hst:autoParam (starEach (e :: es) X.env=(false,eval e X.env) :: starEach es X.env) Internal.aut2._auto_1) (hpl:autoParam ((backTo pos (starEach es X.env)).any (·.1)=false) Internal.aut2._auto_1)
  (ht:autoParam (eval (.Call (.Attribute o m apos) (e :: es) [] pos) X.env=(do
   let ov <- eval o X.env
   standAt apos.atName
   let (f,first) <- holding [ov] (getMethod ov m pl)
   callWith pos f first (backTo pos (starEach (e :: es) X.env)) (backToKw pos (keywordEach [] X.env)))) Internal.aut2._auto_1) :
  PE X (.Call (.Attribute o m apos) (e :: es) [] pos) (zmY C m sp dvs E ta t):=by
 intro pins s σ H Q I h;refine PySem.W.methodCall_KW (pl:=pl) (thn (j pins s σ H _ I h) λu y i=>?_) ht;obtain⟨x,H1,d,p,a,dx,fs,ex,B,l,q⟩:=i;subst ex;obtain rfl:u=Value.ref a:=p;refine zgS d B c g l ?_;refine PySem.W.callWith_K (first:=[.ref a]) (h₀:=X.base) I.ok.mod.kin g.kp (thn (v pos pins y σ H1 _ d q) λus G ⟨vs,H2,b,r,q2⟩=>⟨b.kIn,?_⟩) hst hpl;exact zjT (us:=.ref a :: us) (vs:=.ref a :: vs) F z D hd n b (.cons rfl r) q2
def zcM{pl:Sem Bool}(g:PE X o ta)(c:Cls X.K C)(d:Meth X.K C m f)(F:FnOk X.prog X.w X.K X.mg X.base CX k f fd ps sp)(i:Room k X.A)(n:Binds X.K fd ps ds)(hd:Vals dvs ds)(j:zc2 CX X E)
  (ht:autoParam (eval (.Call (.Attribute o m apos) [] [] pos) X.env=(do
   let ov <- eval o X.env
   standAt apos.atName
   let (f,first) <- holding [ov] (getMethod ov m pl)
   callWith pos f first (backTo pos (starEach [] X.env)) (backToKw pos (keywordEach [] X.env)))) Internal.aut2._auto_1) :
  PE X (.Call (.Attribute o m apos) [] [] pos) (zmY C m sp dvs E ta zfA):=by
 intro pins s σ H Q I h;refine PySem.W.methodCall_KW (pl:=pl) (thn (g pins s σ H _ I h) λu t e=>?_) ht;obtain⟨x,H1,b,r,a,dx,fs,ex,p,l,q⟩:=e;subst ex;obtain rfl:u=Value.ref a:=r;refine zgS b p c d l ?_;exact PySem.W.callWith_K0 (first:=[.ref a]) b.kIn d.kp (zjT (us:=[.ref a]) (vs:=[.ref a]) F i n hd j b (.cons rfl .nil) q)
structure Mk(K:Fg)(C f:Addr):Prop where
 makes:PySem.W.makesIn K C=true
 init:PySem.W.findIn K (.ref C) "__init__" = some (some (.ref f))
 fn:PySem.W.isFn K (.ref f)=true
 kp:PySem.W.keepIn K (.ref C)=true
def zp2{pins:List (Addr × Obj)}{σ:St}{H:Hp}{s:Shared}{Q:VK}{us:List Value}{vs:List V}(M:Mk X.K C f)(F:FnOk X.prog X.w X.K X.mg X.base CX k f fd ps sp)(m:Room (k+1) X.A)(n:Binds X.K fd ps ds)(hd:Vals dvs ds)
  (hx:zc2 CX X E) (I:Inv X pins σ H s) (r:Vals vs us)
  (h:∀x dx,H x=none->H dx=none->dx≠x->sp (.ref x :: (vs++dvs)) (upd (upd H dx (.own x)) x (.ins C dx [])) (λv H2=>v=.non/\Q (.ref x) H2) E) :
  wpAny (model X.prog X.w) X.A (call (.ref C) us) (EP X pins σ Q) X.xe s:=by
 have c:=h (s.heap.objs.size+1) s.heap.objs.size (I.hok.fresh (Nat.le_succ _)) (I.hok.fresh (yg _)) (yo (Nat.lt_succ_self _));have b:=Inv.made (C:=C) I;have r2:Vals (V.ref (s.heap.objs.size+1) :: (vs++dvs)) (Value.ref (s.heap.objs.size+1) :: (us++ds)):=.cons rfl (r.append hd);have l:(Value.ref (s.heap.objs.size+1) :: us++ds).length=ps.length:=by
  have e:=r2.length;rw[F.len _ _ _ _ c]at e;exact e.symm
 refine wpAny_call (zpN (f:=f) I.kIn M.makes M.init (beq_iff_eq.mp M.fn) (codeAny_mono (F.run _ X.stack _ _ ⟨Value.ref (s.heap.objs.size+1) :: us,[]⟩ (Value.ref (s.heap.objs.size+1) :: (us++ds)) _ _ E (m.make C us [])
  (b.env0.make C us []) (n _ (Value.ref (s.heap.objs.size+1) :: us) b.kIn l) r2 c) λr s' a=>?_))
 cases r with
 | error e=>exact hx pins σ _ _ e s' b a
 | ok fl=>
  cases fl with
  | ret u=>
   obtain⟨v,H',i,j,g,d⟩:=b.after a;subst g;exact⟨j,⟨V.ref (s.heap.objs.size+1),H',i,rfl,d⟩⟩
  | next=>exact False.elim a
  | brk=>exact False.elim a
  | cont=>exact False.elim a
def zfO(M:Mk X.K C f)(F:FnOk X.prog X.w X.K X.mg X.base CX k f fd ps sp)(b:Room (k+1) X.A)(g:Gl X x)(i:X.mg x=some (.ref C))(d:Binds X.K fd ps ds)(hd:Vals dvs ds)(c:zc2 CX X E)
  (ha:PA X (e :: es) t) (hdb:autoParam ((x == ("__debug__" : Str))=false) Internal.aut1._auto_1) (he:autoParam (starEach (e :: es) X.env=(false,eval e X.env) :: starEach es X.env) Internal.aut2._auto_1) (hpl:autoParam ((backTo pos (starEach es X.env)).any (·.1)=false) Internal.aut2._auto_1) :
  PE X (.Call (.Name x p) (e :: es) [] pos) (zqe C sp dvs E t):=by
 intro pins s σ H Q I h;refine wpAny_Call_Name_kw (zcO I g i ?_ hdb);refine PySem.W.callWith_K (h₀:=X.base) I.ok.mod.kin M.kp (thn (ha pos pins s σ H _ I h) λus j ⟨vs,H1,a,r,q⟩=>⟨a.kIn,?_⟩) he hpl;exact zp2 M F b d hd c a r q
end
noncomputable def PK (X:Cx) (kws:List Keyword) (t:TA):Prop:=
 ∀(pos:Pos) (pins:List (Addr × Obj)) (s:Shared) (σ:St) (H:Hp) (Q:List V->Hp->Prop),Inv X pins σ H s->t σ H Q->wpAny (model X.prog X.w) X.A (evalAll ((backToKw pos (keywordEach kws X.env)).map (·.2))) (AP X pins σ Q) X.xe s
section
variable {X:Cx}{CX:CXT}{k:Nat}{f C:Addr}{fd:FuncData}{ps ks:List Str}{sp:Sp}{E:XK}{x m:Str}{p pos apos kpos:Pos}{e o:Expr}{es:List Expr}{kws:List Keyword}{te ta:TE}{t tk:TA}{nm:Option Str}
def znI:PK X [] zfA:=λ_ _ _ _ H Q I h=>wpAny_evalAll_nil ⟨[],H,I,.nil,h⟩
def zlT(f:PE X e te)(b:PK X kws t):PK X (⟨nm,e,kpos⟩ :: kws) (zjx te t):=by
 intro pos pins s σ H Q I h;show wpAny _ _ (evalAll ((do let v <- eval e X.env;standAt pos;pure v) :: (backToKw pos (keywordEach kws X.env)).map (·.2))) _ _ s;refine wpAny_evalAll_cons (wpAny_bind (thn (f pins s σ H _ I h) λu g ⟨x,H1,c,d,q1⟩=>wpAny_bind (wpAny_standAt (wpAny_pure ?_))));exact thn (b pos pins g σ H1 _ c q1) λus i ⟨xs,H2,a,r2,q2⟩=>⟨x :: xs,H2,a,.cons d r2,q2⟩
variable {g:List Value->List Value->List Value}{gV:List V->List V->List V}
end
structure FnScope(N P:List Str)(sc:Scope):Prop where
 kind:sc.kind=.function
 co:sc.isCoroutine=false
 gen:sc.isGenerator=false
 nd:N.Nodup
 pre:N.take P.length=P
 par:∀x∈P,sc.names.lookup x=some .local\/sc.names.lookup x=some .cell
 nofree:∀y∈sc.names,y.2≠.free
theorem ziT{kindOf:Str->Option NameKind}{x:Str}:∀{binds:List (Str × Value)} {m:Str->Option Value},(∀v,(x,v)∉binds)->bindL kindOf binds m x=m x
 | [],_,_=>rfl
 | (n,v) :: r,m,h=>by
  unfold bindL;rw[ziT λw a=>h w (List.mem_cons_of_mem _ a)];split
  ·have:x≠n:=by rintro rfl;exact h v List.mem_cons_self
   simp[this]
  ·rfl
theorem ziF{kindOf:Str->Option NameKind}{x:Str}:∀{binds:List (Str × Value)} {m:Str->Option Value},(∀v,(x,v)∉binds)->bindC kindOf binds m x=m x
 | [],_,_=>rfl
 | (n,v) :: r,m,h=>by
  unfold bindC;rw[ziF λw a=>h w (List.mem_cons_of_mem _ a)];split
  ·rfl
  ·have:x≠n:=by rintro rfl;exact h v List.mem_cons_self
   simp[this]
theorem zi1{kindOf:Str->Option NameKind}{x:Str}{v:Value}:∀{P:List Str} {vs:List Value} {i:Nat} {m:Str->Option Value},P.Nodup->P[i]?=some x->vs[i]?=some v->kindOf x=some .local ->
  bindL kindOf (P.zip vs) m x=some v
 | [],_,_,_,_,h,_,_=>by simp at h
 | _ :: _,[],_,_,_,_,h,_=>by simp at h
 | p :: P,w :: vs,0,m,nd,h1,h2,hk=>by
  simp at h1 h2;subst h1;subst h2;show bindL kindOf ((p,w) :: P.zip vs) m p=_;unfold bindL;rw[ziT λv a=>(List.nodup_cons.mp nd).1 (List.of_mem_zip a).1,if_pos hk]
  simp
 | p :: P,w :: vs,i+1,m,nd,h1,h2,hk=>by
  show bindL kindOf ((p,w) :: P.zip vs) m x=_;unfold bindL;exact zi1 (i:=i) (List.nodup_cons.mp nd).2 (by simpa using h1) (by simpa using h2) hk
theorem ziU{kindOf:Str->Option NameKind}{x:Str}{v:Value}:∀{P:List Str} {vs:List Value} {i:Nat} {m:Str->Option Value},P.Nodup->P[i]?=some x->vs[i]?=some v->kindOf x≠some .local ->
  bindC kindOf (P.zip vs) m x=some v
 | [],_,_,_,_,h,_,_=>by simp at h
 | _ :: _,[],_,_,_,_,h,_=>by simp at h
 | p :: P,w :: vs,0,m,nd,h1,h2,hk=>by
  simp at h1 h2;subst h1;subst h2;show bindC kindOf ((p,w) :: P.zip vs) m p=_;unfold bindC;rw[ziF λv a=>(List.nodup_cons.mp nd).1 (List.of_mem_zip a).1,if_neg hk]
  simp
 | p :: P,w :: vs,i+1,m,nd,h1,h2,hk=>by
  show bindC kindOf ((p,w) :: P.zip vs) m x=_;unfold bindC;exact ziU (i:=i) (List.nodup_cons.mp nd).2 (by simpa using h1) (by simpa using h2) hk
noncomputable def start (N:List Str) (vs:List V):St:=vs.map some++List.replicate (N.length-vs.length) none
noncomputable def zay (CX:CXT) (P:Program) (w:World) (K:Fg) (mg:Str->Option Value) (base:Heap) (N:List Str) (qual:Str) (scope:Scope) (f:Addr) (b:Value) (A:Around) (outer:List Env) (s:Shared) (H:Hp) (E:XK):Cx where
 prog:=P
 w:=w
 K:=K
 mg:=mg
 base:=base
 A:=A.deeper (envOfC qual scope s.heap.objs.size f b)
 N:=N
 s₀:=s
 H₀:=H
 env:=envOfC qual scope s.heap.objs.size f b
 outer:=outer
 stack:=envOfC qual scope s.heap.objs.size f b :: outer
 ex:=[]
 calm:=true
 fn:=λ_=>true
 pn:=[]
 xe:=λe s'=>wpAny (model P w) (A.deeper (envOfC qual scope s.heap.objs.size f b)) (leaving (envOfC qual scope s.heap.objs.size f b) e) (λ_ a=>CX outer H s E e a) (λc a=>CX outer H s E c a) s'
def zeB{a:Scope}(h:a.names.lookup x=some .cell):∃c,(cellsFrom n a.names []).lookup x=some c:=by
 have q:=PySem.W.cellsFrom_some a.names n [] (.inl h);exact Option.isSome_iff_exists.mp q
def ziP{CX:CXT}{P:Program}{w:World}{K:Fg}{mg:Str->Option Value}{base:Heap}{N ps:List Str}{qual:Str}{scope:Scope}{f:Addr}{l:Value}{A:Around}{outer:List Env}{s o:Shared}{H:Hp}{E:XK}{us:List Value}{vs:List V}
  (S:FnScope N ps scope) (hd:A.handled=none) (e0:Env0 P w K mg base A outer s H) (hl:vs.length=ps.length) (r:Vals vs us)
  (x:InCallC s s.heap.objs.size (bindL (envOfC qual scope s.heap.objs.size f l).kindOf (ps.zip us) λ_=>none) (cellsFrom (s.heap.objs.size+1) scope.names []) (bindC (envOfC qual scope s.heap.objs.size f l).kindOf (ps.zip us) λ_=>none) o) :
  Inv (zay CX P w K mg base N qual scope f l A outer s H E) [] (start N vs) H o:=by
 have B:ps.length<=N.length:=by have:=congrArg List.length S.pre;rw[List.length_take]at this;lia
 obtain⟨h1,tk,rfl,m⟩:=x.done;have d:∀b:Addr,b∉(zay CX P w K mg base N qual scope f l A outer s H E).ex:=λb z=>absurd (show b∈([]:List Addr)from z) (by simp);refine⟨⟨e0.mod,S.kind,rfl,rfl,yg _,λy z c h1 h2=>?_,λy g=>?_,λy c _ h=>?_,λ_=>hd,Around.frames_deeper e0.frames,.inr ⟨rfl,rfl⟩,λb z=>absurd z (d b),e0.bs,e0.bsz,λb _ _=>d b,λb z=>absurd z (d b),e0.funs,e0.frf⟩,
  rfl,e0.bare,Un.kept m,⟨_,x.toInCall.ns,λi y v h1 h2 F=>?_⟩,λy c h=>⟨_,x.cell y c h⟩,e0.hok.fresh (yg _),λy c h=>?_,λp hp=>absurd (show p∈([]:List (Addr × Obj))from hp) (by simp),e0.hok.kept m,?_⟩
 ·exact name_of_addr x.apart (PySem.mem_of_lookup h1) (PySem.mem_of_lookup h2)
 ·have g:scope.names.lookup y=some .cell\/scope.names.lookup y=some .free:=g;rcases g with g | g
  ·exact zeB g
  ·exact absurd rfl (S.nofree _ (PySem.mem_of_lookup g))
 ·exact Nat.le_of_lt (x.above y c (PySem.mem_of_lookup h))
 ·have hi:i<vs.length:=by
   unfold start at h2;by_cases hi:i<vs.length
   ·exact hi
   ·rw[List.getElem?_append_right (by simpa using hi)]at h2;rw[List.getElem?_replicate]at h2;split at h2<;>cases h2
  have C:vs[i]?=some v:=by
   unfold start at h2;rw[List.getElem?_append_left (by simpa using hi),yf]at h2;cases e:vs[i]? with
   | none=>rw[e]at h2;cases h2
   | some a=>rw[e]at h2;cases h2;rfl
  obtain⟨u,t,D⟩:=r.get C;have hp:ps[i]?=some y:=by
   rw[<- S.pre,List.getElem?_take_of_lt ⋯];exact h1
  have j:ps.Nodup:=by rw[<- S.pre];exact S.nd.sublist (List.take_sublist _ _)
  refine⟨u,D,?_⟩;rcases S.par y (ym hp)with k | k
  ·exact .inl ⟨k,zi1 j hp t k⟩
  ·obtain⟨c,e⟩:=zeB (n:=s.heap.objs.size+1) k;refine .inr ⟨.inl k,c,e,?_⟩;have q:=x.cell y c e;rw[ziU j hp t (by show scope.names.lookup y≠_;rw[k];decide)]at q;exact q
 ·exact e0.hok.fresh (Nat.le_of_lt (x.above y c (PySem.mem_of_lookup h)))
 ·unfold start;show _=N.length;rw[ye,yc,List.length_replicate];lia
def zmR{CX:CXT}{P:Program}{w:World}{K:Fg}{mg:Str->Option Value}{base:Heap}{k:Nat}{f:Addr}{name qual:Str}{params:Arguments}{body:List Stmt}{scope:Scope}{z kV h D a ct L:Value}{F od:Option Addr}
  {osl:Array (Option Value)} {N ps:List Str} {sp:Sp} (lk:K.lookup f=some ⟨L,od,.func (PySem.W.fnOf name qual params body scope z kV h D F a ct),osl⟩) (hcd:PySem.W.codeIn K a qual=true) (S:FnScope N ps scope)
  (len:∀vs H Q E,sp vs H Q E->vs.length=ps.length)
  (hbody:∀(A:Around) (outer:List Env) (s:Shared) (H:Hp) (vs:List V) (Q:VK) (E:XK),Room k (A.deeper (envOfC qual scope s.heap.objs.size f a))->sp vs H Q E ->
   ∃t,PSs (zay CX P w K mg base N qual scope f a A outer s H E) body t/\t { nx:=λ_ H'=>Q .non H',rt:=Q } (start N vs) H) :
  FnOk P w K mg base CX (k+1) f (PySem.W.fnOf name qual params body scope z kV h D F a ct) ps sp:=by
 refine⟨len,λA outer s H args us vs Q E p g U r i=>?_⟩;have T:=len _ _ _ _ i;have C:K.In s.heap:=g.mod.kin.keeps λb o e=>(g.bs b o e).1;have l:s.heap.NoLimit:=g.mod.nolimit.keeps λb o e=>(g.bs b o e).1;have c:∀y∈ps.zip us,scope.names.lookup y.1=some .local\/(scope.names.lookup y.1=some .cell/\((cellsFrom (s.heap.objs.size+1) scope.names []).lookup y.1).isSome=true):=fun⟨n,v⟩ hy=>by
  rcases S.par n (List.of_mem_zip hy).1 with q | q
  ·exact .inl q
  ·exact .inr ⟨q,PySem.W.cellsFrom_some _ _ _ (.inl q)⟩
 refine codeAny_call_function p.depth (C _ _ lk) rfl S.co S.gen rfl (PySem.W.codeRec_of C hcd) (U _ _ _ _ ?_);refine wpAny_newFunctionEnv_cells S.kind c λenv O B x=>?_;subst O;refine⟨l.keeps x.toInCall.keep,codeAny_func ?_⟩;obtain⟨t,G,R⟩:=hbody A outer s H vs Q E (p.deeper _) i;have I:Inv (zay CX P w K mg base N qual scope f a A outer s H E) [] (start N vs) H B:=ziP S p.hd g T r x;refine wpAny_mono (G [] B (start N vs) H _ I R) (λM s' d=>?_) λe s' d=>d;have fin:∀{j:St} {H':Hp} {v:V} {u:Value},Inv (zay CX P w K mg base N qual scope f a A outer s H E) [] j H' s'->RelV v u->Q v H'->CE outer P w H s Q u s':=
  λ{j H' v u} J m q=>⟨v,H',J.os,J.bare,J.base,J.hok,m,q⟩
 cases M with
 | ret u=>
  obtain⟨v,j,H',J,m,q⟩:=d;exact fin J m q
 | next=>
  obtain⟨j,H',J,q⟩:=d;exact fin (v:=V.non) (u:=Value.none) J rfl q
 | brk=>
  obtain⟨_,_,_,q⟩:=d;exact False.elim q
 | cont=>
  obtain⟨_,_,_,q⟩:=d;exact False.elim q
section
variable {X:Cx}{x:Str}{p pos:Pos}{e:Expr}{es:List Expr}{t:TA}{id T:String}{r:List V->Hp->VK->Prop}
abbrev tCB(r:List V->Hp->VK->Prop)(t:TA):TE:=λσ H Q=>t σ H λvs H1=>r vs H1 Q
def zaS(d:CallR X (.builtin id) r)(i:Gl X x)(j:X.mg x=none)(g:bootBuiltins x=some (.builtin id))(k:PA X (e :: es) t)(b:autoParam (x ≠ "__name__") Internal.aut1._auto_1)(a:autoParam ((x == ("__debug__" : Str))=false) Internal.aut1._auto_1)
  (he:autoParam (starEach (e :: es) X.env=(false,eval e X.env) :: starEach es X.env) Internal.aut2._auto_1) (hpl:autoParam ((backTo pos (starEach es X.env)).any (·.1)=false) Internal.aut2._auto_1):PE X (.Call (.Name x p) (e :: es) [] pos) (tCB r t):=by
 intro pins s σ H Q I h;refine wpAny_Call_Name_kw (zb2 I i j g ?_ b a);exact PyProof.Rows.callWith_builtin1 (thn (k pos pins s σ H _ I h) λus l ⟨vs,H1,c,f,q1⟩=>d pins l σ H1 vs us Q c f q1) he hpl
def zfq(d:CallR X (.type T) r)(i:Gl X x)(j:X.mg x=none)(g:bootBuiltins x=some (.type T))(k:PA X (e :: es) t)(b:autoParam (x ≠ "__name__") Internal.aut1._auto_1)(a:autoParam ((x == ("__debug__" : Str))=false) Internal.aut1._auto_1)
  (he:autoParam (starEach (e :: es) X.env=(false,eval e X.env) :: starEach es X.env) Internal.aut2._auto_1) (hpl:autoParam ((backTo pos (starEach es X.env)).any (·.1)=false) Internal.aut2._auto_1):PE X (.Call (.Name x p) (e :: es) [] pos) (tCB r t):=by
 intro pins s σ H Q I h;refine wpAny_Call_Name_kw (zb2 I i j g ?_ b a);exact PyProof.Rows.callWith_type1 (thn (k pos pins s σ H _ I h) λus l ⟨vs,H1,c,f,q1⟩=>d pins l σ H1 vs us Q c f q1) he hpl
end
end Internal
namespace HT
variable {b:Addr}{hi lo:Option Int}
open PySem PyProof.Rows
section
open PySem.SeqAt
open PySem.AutoSeq1 (wpAny_loadPart')
open PySem.MeetsSeq PySem.MeetsSeq2 PySem.MeetsSeq3
end
section
variable {prog:Program}{w:World}{A:Around}{E:Value->Shared->Prop}{s:Shared}
def cat_tup{t:Addr}{vs ws:List Value}{Q:Value->Shared->Prop}(p:IsTup s.heap t vs.toArray)(q:IsTup s.heap b ws.toArray)(o:vs≠[])
  (h1:ws=[]->Q (.ref t) s) (h2:ws≠[]->Q (.ref s.heap.objs.size) { s with heap:=s.heap.push { cls:=.type "tuple",data:=.seq (vs++ws).toArray } })
  (hsz:vs.length+ws.length<=sizeLine):wpAny (model prog w) A (binaryOp .Add (.ref t) (.ref b)) Q E s:=by
 obtain⟨⟨cls,dd,data,l⟩,h,m,n,hd⟩:=id p;obtain⟨⟨k,d,j,g⟩,a,f,n2,c⟩:=id q;simp only at m hd f c;subst m hd f c;have e:vs.toArray++ws.toArray=(vs++ws).toArray:=by simp
 by_cases i:ws=[]
 ·exact concat_meets ⟨_,h,rfl⟩ ⟨_,a,rfl⟩ noFill_tuple_add seq_tuple_add PySem.F.slot_tuple_add PySem.F.entry_tuple_add (PySem.F.args_tuple_add_2 _ _)
   (tuple_addW1 t b vs.toArray ws.toArray n n2 dd d l g (by simpa using o) (by simp[i])) ⟨h,a,h1 i⟩
 ·refine concat_meets ⟨_,h,rfl⟩ ⟨_,a,rfl⟩ noFill_tuple_add seq_tuple_add PySem.F.slot_tuple_add PySem.F.entry_tuple_add (PySem.F.args_tuple_add_2 _ _)
   (tuple_addW2 t b vs.toArray ws.toArray n n2 dd d l g (by simpa using o) (by simpa using i) (by rw[yl,yl];exact hsz)) ⟨h,a,?_⟩
  rw[e];exact h2 i
noncomputable def sIx (n d:Nat):Option Int->Nat
 | none=>d
 | some v=>if v<0 then(v+(n:Int)).toNat else min v.toNat n
def sIx_none(n d:Nat):sIx n d none=d:=rfl
def zsR(n d:Nat)(hd:d<=n)(o:Option Int):sIx n d o<=n:=by
 cases o with
 | none=>exact hd
 | some v=>
  show(if v<0 then(v+(n:Int)).toNat else min v.toNat n)<=n
  by_cases a:v<0
  ·rw[if_pos a];lia
  ·rw[if_neg a];exact Nat.min_le_right _ _
def zlr(v:Int)(n d:Nat):(if v<0 then max (v+(n:Int)) 0 else min v (n:Int))=((sIx n d (some v):Nat):Int):=by
 show(if v<0 then max (v+(n:Int)) 0 else min v (n:Int))=(((if v<0 then(v+(n:Int)).toNat else min v.toNat n):Nat):Int)
 by_cases a:v<0
 ·simp only[if_pos a];lia
 ·simp only[if_neg a];lia
def zmv(lo hi:Option Int)(n:Nat):Builtin.Slice.sliceAdjust lo hi 1 (n:Int)=(((sIx n 0 lo:Nat):Int),((sIx n n hi:Nat):Int)):=by
 have h1:¬((1:Int)<0):=by lia
 unfold Builtin.Slice.sliceAdjust;simp only[h1,if_false];refine Prod.ext ?_ ?_
 ·cases lo with
  | none=>rfl
  | some v=>exact zlr v n 0
 ·cases hi with
  | none=>rfl
  | some v=>exact zlr v n n
def zmV(i j:Nat):Builtin.Slice.slicePlaces (i:Int) (j:Int) 1=j-i:=by
 unfold Builtin.Slice.slicePlaces;have h1:(1:Int)>0:=by lia
 simp only[h1,if_true,Int.ediv_one];split<;>lia
def zgT{v:Value}{o:Option Int}{Q:Option Int->Shared->Prop}(p:IsPart v o)(h:Q o s):wpAny (model prog w) A (Builtin.Slice.slicePartIndex v) Q E s:=by
 cases p with
 | none=>exact slicePart_none h
 | int i t=>exact slicePart_int h
def zgI{e:Addr}{d c:Value}{n:Nat}{Q:Int × Int × Nat->Shared->Prop}(g:s.heap.IsSliceOf e d c .none)(pl:IsPart d lo)(pu:IsPart c hi)
  (h:Q (((sIx n 0 lo:Nat):Int),1,sIx n n hi-sIx n 0 lo) s):wpAny (model prog w) A (Builtin.Slice.sliceApplied (.ref e) (pure (n:Int))) Q E s:=by
 obtain⟨os,a,f,b⟩:=id g;unfold Builtin.Slice.sliceApplied Builtin.Slice.sliceFields;refine wpAny_bind (wpAny_bind (wpAny_field a b (x:=d) rfl (wpAny_bind (wpAny_field a b (x:=c) rfl (wpAny_bind (wpAny_field a b (x:=.none) rfl (wpAny_pure ?_)))))));refine wpAny_bind (slicePart_none ?_);show wpAny _ _ (if((1:Int) == 0)=true then _ else _) _ _ s;rw[if_neg (by decide)];refine wpAny_bind (zgT pl (wpAny_bind (zgT pu (wpAny_bind (wpAny_pure ?_)))));show wpAny _ _ (match Builtin.Slice.sliceAdjust lo hi 1 (n:Int)with | (lo,hi)=>pure (lo,(1:Int),Builtin.Slice.slicePlaces lo hi 1)) _ _ s;rw[zmv lo hi n];show wpAny _ _ (pure (((sIx n 0 lo:Nat):Int),(1:Int),Builtin.Slice.slicePlaces ((sIx n 0 lo:Nat):Int) ((sIx n n hi:Nat):Int) 1)) _ _ s;rw[zmV];exact wpAny_pure h
def zpX(xs:Array Value)(i k:Nat):((List.range k).filterMap fun(m:Nat)=>xs[((i:Int)+(m:Int)*1).toNat]?).toArray=((xs.toList.drop i).take k).toArray:=by
 have e:(fun(m:Nat)=>xs[((i:Int)+(m:Int)*1).toNat]?)=λm=>xs[i+m]?:=by
  funext m
  have:((i:Int)+(m:Int)*1).toNat=i+m:=by lia
  rw[this]
 rw[e]
 have:=pick_run xs i k
 rw[List.filterMap_map]at this;have e2:((λx=>xs[x]?)∘λx=>i+x)=λm=>xs[i+m]?:=rfl;rw[e2]at this;rw[this]
def getItem_tuple_cut{t g:Addr}{a:Array Value}{j i:Value}{Q:Value->Shared->Prop}(c:IsTup s.heap t a)(k:s.heap.IsSliceOf g j i .none)(pl:IsPart j lo)(pu:IsPart i hi)
  (hw:¬(sIx a.size 0 lo=0/\sIx a.size a.size hi=a.size))
  (h:Q (.ref s.heap.objs.size) { s with heap:=s.heap.push { cls:=.type "tuple",data:=.seq ((a.toList.drop (sIx a.size 0 lo)).take (sIx a.size a.size hi-sIx a.size 0 lo)).toArray } })
  (hsz:a.size<=sizeLine):wpAny (model prog w) A (getItem (.ref t) (.ref g)) Q E s:=by
 have b:sizeOk (.seq ((a.toList.drop (sIx a.size 0 lo)).take (sIx a.size a.size hi-sIx a.size 0 lo)).toArray):=by
  show((a.toList.drop (sIx a.size 0 lo)).take (sIx a.size a.size hi-sIx a.size 0 lo)).toArray.size<=sizeLine
  rw[yl,List.length_take,List.length_drop,Array.length_toList];lia
 have n:sIx a.size a.size hi<=a.size:=zsR _ _ (yg _) hi;obtain⟨os,f,e,l⟩:=id k;have d:s.TypeIs (.ref g) "slice" := ⟨os,f,e⟩
 unfold getItem
 try with_reducible refine wpAny_holding ?_
 first | refine wpAny_bind (wpAny_pure ?_) | skip
 refine wpAny_bind (wpAny_sequenceKey c.typeIs (by decide) ?_);refine wpAny_bind (wpAny_callSpecial?_slot (name:=Str.ofString "__getitem__") c.typeIs PyProof.Rows.slot_tuple_getitem
  (wpAny_call_entry PyProof.Rows.slot_tuple_getitem c.typeIs entry_tuple_getitem ?_ (args_tuple_getitem _ _)))
 show wpAny _ _ (Builtin.Tuple.tupleItemsOf (.ref t) >>= _) _ _ s;refine wpAny_bind (tupleItemsOf_ c ?_);refine wpAny_bind (wpAny_typeOf d ?_);rw[if_pos (by decide)];refine wpAny_bind (zgI k pl pu ?_);have hno:¬((((sIx a.size 0 lo:Nat):Int) == 0&&(1:Int) == 1&&(sIx a.size a.size hi-sIx a.size 0 lo) == a.size)=true):=by
  intro q;rw[Bool.and_eq_true,Bool.and_eq_true]at q;have q1:((sIx a.size 0 lo:Nat):Int)=0:=eq_of_beq q.1.1;have q2:sIx a.size a.size hi-sIx a.size 0 lo=a.size:=eq_of_beq q.2;exact hw ⟨⋯,⋯⟩
 show wpAny _ _ (if(((sIx a.size 0 lo:Nat):Int) == 0&&(1:Int) == 1&&(sIx a.size a.size hi-sIx a.size 0 lo) == a.size)=true then _ else _) _ _ s;rw[if_neg hno,zpX]
 first
  | exact wpAny_bind (m:=Builtin.Tuple.tupleExact _) (wpAny_newObj_type (wpAny_pure ⟨_,rfl,wpAny_pure h⟩) b)
  | exact wpAny_bind (m:=Builtin.Tuple.tupleExact _) (wpAny_newObj_type (wpAny_bind (wpAny_pure (wpAny_pure ⟨_,rfl,wpAny_pure h⟩))) b)
  | exact wpAny_bind (wpAny_bind (m:=Builtin.Tuple.tupleExact _) (wpAny_newObj_type (wpAny_pure (wpAny_pure ⟨_,rfl,wpAny_pure h⟩)) b))
  | exact wpAny_bind (wpAny_bind (m:=Builtin.Tuple.tupleExact _) (wpAny_newObj_type (wpAny_pure ⟨_,rfl,wpAny_pure h⟩) b))
end
end HT
namespace Internal
variable {A:Around}{H:Hp}{its us:List Value}{n:Nat}{p:Addr}{pins:List (Addr × Obj)}{s:Shared}{u:Value}{xs:List V}{y:V}{σ:St}
open PySem PySem.Spec PyProof.Rows
abbrev TO:=St->Hp->(Option Int->Hp->Prop)->Prop
noncomputable def PO (X:Cx) (e:Option Expr) (t:TO):Prop:=
 ∀(pins:List (Addr × Obj)) (s:Shared) (σ:St) (H:Hp) (Q:Option Int->Hp->Prop),Inv X pins σ H s->t σ H Q ->
  wpAny (model X.prog X.w) X.A (evalPart e X.env) (λu s'=>∃o H',Inv X pins σ H' s'/\IsPart u o/\Q o H') X.xe s
abbrev zrD:TO:=λ_ H Q=>Q none H
noncomputable def zqL (t:TE):TO:=λσ H Q=>t σ H λx H1=>∃i,x=.int i/\Q (some i) H1
section
variable {X:Cx}{e:Expr}{te:TE}{lo hi:Option Expr}{tl th:TO}{pos p2:Pos}
def zbQ:PO X none zrD:=by
 intro pins s σ H Q I h;rw[evalPart_none];exact wpAny_pure ⟨none,H,I,.none,h⟩
def zbW(h:PE X e te):PO X (some e) (zqL te):=by
 intro pins s σ H Q I b;rw[evalPart_some];refine thn (h pins s σ H _ I b) λu f a=>?_;obtain⟨x,H1,c,d,q1⟩:=a;obtain⟨i,rfl,q⟩:=q1;obtain⟨t,rfl⟩:=d;exact⟨some i,H1,c,.int i t,q⟩
noncomputable def SlR (X:Cx) (r:V->Option Int->Option Int->Hp->VK->Prop):Prop:=
 ∀(pins:List (Addr × Obj)) (s:Shared) (σ:St) (H:Hp) (x:V) (v vl vu:Value) (lo hi:Option Int) (sl:Addr) (Q:VK),Inv X pins σ H s->RelV x v->s.heap.IsSliceOf sl vl vu .none->IsPart vl lo->IsPart vu hi->r x lo hi H Q ->
  ∃T id,typeLookup (.type T) "__getitem__" = pure (some (.builtin id))/\s.TypeIs v T/\wpAny (model X.prog X.w) X.A (getItem v (.ref sl)) (EP X pins σ Q) X.xe s
abbrev tSl(r:V->Option Int->Option Int->Hp->VK->Prop)(te:TE)(tl th:TO):TE:=λσ H Q=>te σ H λx H1=>tl σ H1 λl H2=>th σ H2 λu H3=>r x l u H3 Q
def zbu{r:V->Option Int->Option Int->Hp->VK->Prop}(B:SlR X r)(n:PE X e te)(z:PO X lo tl)(t:PO X hi th):PE X (.Subscript e (.Slice lo hi none p2) pos) (tSl r te tl th):=by
 intro pins s σ H Q I h;refine Subscript_ (thn (n pins s σ H _ I h) λv p f=>?_);obtain⟨x,H1,C,o,q1⟩:=f;refine wpAny_Slice (thn (z pins p σ H1 _ C q1) λc E ⟨l,H2,k,pl,q2⟩=>thn (t pins E σ H2 _ k q2) λd a f=>?_);obtain⟨u,g,m,pu,j⟩:=f;rw[evalPart_none];refine wpAny_pure ?_;have D:Inv X pins σ g { a with heap:=a.heap.push { cls:=.type "slice",data:=.fields #[c,d,.none] } }:=m.kept (t':=a.toks) λb ob q=>Heap.get?_push_of_some _ q;obtain⟨T,id,y,i,F⟩:=B pins { a with heap:=a.heap.push { cls:=.type "slice",data:=.fields #[c,d,.none] } } σ g x v c d l u a.heap.objs.size Q D o (Heap.IsSliceOf.new ..) pl pu j;show wpAny (model X.prog X.w) X.A (subscriptTail e (.Slice lo hi none p2) v (.ref a.heap.objs.size)) (EP X pins σ Q) X.xe { a with heap:=a.heap.push { cls:=.type "slice",data:=.fields #[c,d,.none] } };exact tail_any (ops:=[.ref a.heap.objs.size,v]) i y F (by with_unfolding_all rfl)
noncomputable def zcH (xs:List V) (lo hi:Option Int):List V:=(xs.drop (HT.sIx xs.length 0 lo)).take (HT.sIx xs.length xs.length hi-HT.sIx xs.length 0 lo)
def zf5(xs:List V)(lo hi:Option Int):(zcH xs lo hi).length<=xs.length:=by
 unfold zcH;rw[List.length_take,List.length_drop];lia
noncomputable def zic (K:Fg):V->Option Int->Option Int->Hp->VK->Prop:=λx lo hi H Q=>∃a xs,x=.ref a/\SqT K H a xs /\
 ¬(HT.sIx xs.length 0 lo=0/\HT.sIx xs.length xs.length hi=xs.length)/\∀p,H p=none->Q (.ref p) (upd H p (.tup (zcH xs lo hi)))
def zhB:SlR X (zic X.K):=by
 intro pins s σ H x v l k lo hi m Q I j g pl pu h;obtain⟨a,xs,rfl,i,f,q⟩:=h;cases j;obtain⟨its,r,d,e⟩:=I.tuple i;have c:its.toArray.size=xs.length:=by rw[yl];exact r.length.symm
 refine⟨"tuple",_,PyProof.Rows.slot_tuple_getitem.lookup,d.typeIs,?_⟩;refine HT.getItem_tuple_cut d g pl pu (by rw[c];exact f) ?_ (by rw[c];exact e);rw[c];refine⟨.ref s.heap.objs.size,_,I.laid (t':=s.toks) (o:=.tup (zcH xs lo hi)) (λb ob q=>Heap.get?_push_of_some _ q) (yg _) ?_,rfl,q _ (I.hok.fresh (yg _))⟩;exact⟨ya (zf5 xs lo hi) e,_,(r.drop (HT.sIx xs.length 0 lo)).take (HT.sIx xs.length xs.length hi-HT.sIx xs.length 0 lo),IsTup.new _ _⟩
noncomputable def zqq (K:Fg):R2:=λx y H Q=>∃a b xs ys,x=.ref a/\y=.ref b/\SqT K H a xs/\SqT K H b ys/\xs≠[]/\xs.length+ys.length<=sizeLine /\
 (ys=[]->Q (.ref a) H)/\(ys≠[]->∀p,H p=none->Q (.ref p) (upd H p (.tup (xs++ys))))
def Vals.nil_iff(r:Vals xs us):us=[]↔xs=[]:=by
 cases r with
 | nil=>simp
 | cons _ _=>simp
def zrL:OpR X (binaryOp .Add) (zqq X.K):=by
 intro pins s σ H x y v u Q I l g h;obtain⟨a,b,xs,ys,rfl,rfl,f,j,i,d,q1,q2⟩:=h;cases l;cases g;obtain⟨its,c,k,_⟩:=I.tuple f;obtain⟨e,r2,p2,_⟩:=I.tuple j;refine HT.cat_tup k p2 (λz=>i (c.nil_iff.mp z)) (λz=>⟨.ref a,H,I,rfl,q1 (r2.nil_iff.mp z)⟩) (λz=>?_) (by rw[<- c.length,<- r2.length];exact d);refine⟨.ref s.heap.objs.size,_,I.laid (t':=s.toks) (o:=.tup (xs++ys)) (λb ob q=>Heap.get?_push_of_some _ q) (yg _) ?_,rfl,q2 (λw=>z (r2.nil_iff.mpr w)) _ (I.hok.fresh (yg _))⟩;exact⟨by rw[ye];exact d,_,c.append r2,IsTup.new _ _⟩
end
noncomputable def ixN (n:Nat) (i:Int):Option Nat:=if 0<=i then(if i<n then some i.toNat else none)else if -(n:Int)<=i then some (i+n).toNat else none
noncomputable def atI {α:Type} (xs:List α) (i:Int):Option α:=(ixN xs.length i).bind λj=>xs[j]?
def zlE{i:Int}{j:Nat}(h:ixN n i=some j):seqIndex? i n=some j/\j<n/\-(n:Int)<=i/\i<n:=by
 unfold ixN at h;by_cases a:0<=i
 ·rw[if_pos a]at h;by_cases h1:i<n
  ·rw[if_pos h1]at h;have e:i.toNat=j:=yk h;exact⟨by rw[seqIndex_of a h1,e],⋯,⋯,h1⟩
  ·rw[if_neg h1]at h;cases h
 ·rw[if_neg a]at h;by_cases h1:-(n:Int)<=i
  ·rw[if_pos h1]at h;have e:(i+n).toNat=j:=yk h;exact⟨by rw[seqIndex_neg ⋯ h1,e],⋯,h1,⋯⟩
  ·rw[if_neg h1]at h;cases h
def zfQ{α:Type}{xs:List α}{i:Int}{v:α}(h:atI xs i=some v):∃j,seqIndex? i xs.length=some j/\xs[j]?=some v/\j<xs.length/\-(xs.length:Int)<=i/\i<xs.length:=by
 unfold atI at h;cases e:ixN xs.length i with
 | none=>rw[e]at h;cases h
 | some j=>
  rw[e]at h;obtain⟨h1,h2,a,b⟩:=zlE e;exact⟨j,h1,h,h2,a,b⟩
def zal{α:Type}{xs:List α}{j:Nat}{v:α}(h:xs[j]?=some v):atI xs (j:Int)=some v:=by
 have a:j<xs.length:=(yi.mp h).1;have e:ixN xs.length (j:Int)=some j:=by
  unfold ixN;rw[if_pos ⋯,if_pos ⋯];simp
 unfold atI;rw[e];exact h
def zkj{α:Type}(xs:List α)(v:α):atI (xs++[v]) (-1)=some v:=by
 have a:(xs++[v]).length=xs.length+1:=by simp
 have e:ixN (xs++[v]).length (-1)=some xs.length:=by
  unfold ixN;rw[a,if_neg (by decide),if_pos ⋯];congr 1;lia
 unfold atI;rw[e]
 show(xs++[v])[xs.length]?=some v
 simp
noncomputable def zlt (b:Expr):Prop:=∀o i,subscripted b false o i=operate [o,i] (getItem o i)
noncomputable def IxR (X:Cx) (r:R2):Prop:=
 ∀(value slice:Expr) (pins:List (Addr × Obj)) (s:Shared) (σ:St) (H:Hp) (x y:V) (v u:Value) (Q:VK),Inv X pins σ H s->RelV x v->RelV y u->r x y H Q ->
  subscripted slice false v u=operate [v,u] (getItem v u)->wpAny (model X.prog X.w) X.A (subscriptTail value slice v u) (EP X pins σ Q) X.xe s
noncomputable def MtR (X:Cx) (id:String) (r:V->List V->Hp->VK->Prop):Prop:=
 ∀(pins:List (Addr × Obj)) (s:Shared) (σ:St) (H:Hp) (x:V) (xs:List V) (v:Value) (us:List Value) (Q:VK),Inv X pins σ H s->RelV x v->Vals xs us->r x xs H Q ->
  wpAny (model X.prog X.w) X.A (call (.builtin id) (v :: us)) (EP X pins σ Q) X.xe s
section
variable {X:Cx}{a b:Expr}{ta tb:TE}{pos:Pos}
def IxR.or{r d:R2}(h:IxR X r)(h':IxR X d):IxR X (λx y H Q=>r x y H Q\/d x y H Q):=by
 intro value a pins s σ H x y v u Q I b c q e;rcases q with q | q
 ·exact h value a pins s σ H x y v u Q I b c q e
 ·exact h' value a pins s σ H x y v u Q I b c q e
def ztZ{r:R2}(e:IxR X r)(c:PE X a ta)(i:PE X b tb)(g:zlt b):PE X (.Subscript a b pos) (tOp r ta tb):=by
 intro pins s σ H Q I h;exact Subscript_ (zpK c i I h λv u j x y H2 d k f q=>e a b pins j σ H2 x y v u Q d k f q (g _ _))
noncomputable def zbe (K:Fg):R2:=λx y H Q=>∃p xs i v,x=.ref p/\y=.int i/\SqL K H p xs/\atI xs i=some v/\Q v H
noncomputable def ztp (K:Fg):R2:=λx y H Q=>∃p xs i v,x=.ref p/\y=.int i/\SqT K H p xs/\atI xs i=some v/\Q v H
noncomputable def ztr:R2:=λx y H Q=>∃z i c,x=.str z/\y=.int i/\z.length<=sizeLine/\atI z.cps.toList i=some c/\Q (.str ⟨#[c]⟩) H
def ix_list:IxR X (zbe X.K):=by
 intro value b pins s σ H x y v u Q I m A h e;obtain⟨p,xs,i,z,rfl,rfl,n,l,q⟩:=h;cases m;obtain⟨t,rfl⟩:=A;obtain⟨its,r,pl,B⟩:=I.list n;obtain⟨j,h1,h2,D,k,g⟩:=zfQ l;obtain⟨w,f,c⟩:=r.get h2;have o:=r.length;have C:=line63;have fin:EP X pins σ Q w s:=⟨z,H,I,c,q⟩
 by_cases d:0<=i
 ·have a:i.toNat=j:=by
   rw[seqIndex_of d g]at h1;exact yk h1
  exact item_listR pl.isList d ⋯ (by rw[a];simpa using f) fin e
 ·have a:(i+(its.toArray.size:Int)).toNat=j:=by
   rw[seqIndex_neg ⋯ k]at h1;rw[yl,<- o];exact yk h1
  exact subscriptTail_builtinR (x:=w) pl.isList.typeIs slot_list_getitem.lookup
   (wpAny_getItem_list_neg (Q:=λr s'=>r=w/\EP X pins σ Q r s') pl.isList ⋯ (by rw[yl]<;>lia) ⋯ (by rw[a];simpa using f) ⟨rfl,fin⟩) e
def ix_tup:IxR X (ztp X.K):=by
 intro value a pins s σ H x y v u Q I d l h e;obtain⟨p,xs,i,z,rfl,rfl,f,c,q⟩:=h;cases d;obtain⟨t,rfl⟩:=l;obtain⟨its,r,pl,m⟩:=I.tuple f;obtain⟨j,h1,h2,B,A,n⟩:=zfQ c;obtain⟨w,g,b⟩:=r.get h2;have k:=r.length;have o:=line63;have fin:EP X pins σ Q w s:=⟨z,H,I,b,q⟩
 exact subscriptTail_builtinR (x:=w) pl.typeIs slot_tuple_getitem.lookup
  (getItem_tuple (j:=j) (Q:=λr s'=>r=w/\EP X pins σ Q r s') pl ⋯ ⋯ (by rw[yl,<- k];exact h1) (by simpa using g) ⟨rfl,fin⟩) e
def zsK:IxR X ztr:=by
 intro value a pins s σ H x y v u Q I b k h l;obtain⟨z,i,c,rfl,rfl,m,e,q⟩:=h;obtain⟨t,rfl⟩:=b;obtain⟨t',rfl⟩:=k;obtain⟨j,h1,h2,o,f,d⟩:=zfQ e;have g:z.cps.toList.length=z.length:=by simp[Str.length]
 rw[g]at h1 f d;have n:=line63;exact tail_any (typeIs_str s z t) slot_str_getitem.lookup (getItem_str (c:=c) (by
  have e1:decide (i < -(2 ^ 63:Int))=false:=decide_eq_false ⋯;have e2:decide (i≥2 ^ 63)=false:=decide_eq_false ⋯;rw[e1,e2,Bool.or_false]) (by rw[h1];simpa using h2) ⟨.str ⟨#[c]⟩,H,I.tok _,⟨_,rfl⟩,q⟩) l
noncomputable def rIx (K:Fg):R2:=λx y H Q=>zbe K x y H Q\/ztp K x y H Q\/ztr x y H Q
def zsd:IxR X (rIx X.K):=ix_list.or (ix_tup.or zsK)
def zl8(its:List Value)(n j:Nat)(u:Value):Obj.mapSeq (·.setIfInBounds j u) { cls:=.type "list",data:=.seq its.toArray n }={ cls:=.type "list",data:=.seq (its.set j u).toArray n }:=by
 simp[Obj.mapSeq]
theorem Inv.lst{pins:List (Addr × Obj)}{σ:St}{H:Hp}{s:Shared}{p:Addr}{xs:List V}(I:Inv X pins σ H s)(h:H p=some (.lst xs)) :
  ∃(its:List Value) (n:Nat),Vals xs its/\s.heap.get? p=some { cls:=.type "list",data:=.seq its.toArray n }/\xs.length<=sizeLine:=by
 obtain⟨z,its,n,r,e⟩:=I.hok p _ h;exact⟨its,n,r,e,z⟩
def Inv.lstUpd{ys:List V}{its its':List Value}{n a:Nat}{f:Obj->Obj}(I:Inv X pins σ H s)(h:H p=some (.lst xs))
  (ho:s.heap.get? p=some { cls:=.type "list",data:=.seq its.toArray n }) (hf:f { cls:=.type "list",data:=.seq its.toArray n }={ cls:=.type "list",data:=.seq its'.toArray a }) (r:Vals ys its') (hz:ys.length<=sizeLine) (t:Nat) :
  Inv X pins σ (upd H p (.lst ys)) { s with heap:=s.heap.update p f,toks:=t }:=by
 have e:(s.heap.update p f).get? p=some { cls:=.type "list",data:=.seq its'.toArray a }:=by
  rw[Heap.get?_update_self f ho (by rw[hf]<;>rfl),hf]
 refine I.write (x:=p) (e:=p) (by rw[h];trivial) (.inl rfl) (λb u c q=>(Heap.get?_update_other _ _ (Ne.symm c)).trans q) ⟨_,e⟩ ?_;exact⟨hz,its',a,r,e⟩
noncomputable def zhf:V->V->V->Hp->(Hp->Prop)->Prop:=λo i v H Q=>∃p xs k j,o=.ref p/\i=.int k/\H p=some (.lst xs)/\ixN xs.length k=some j/\Q (upd H p (.lst (xs.set j v)))
def zaf:zpG X zhf:=by
 intro pins s σ H o i v z y u Q I ro x w h;obtain⟨p,xs,k,j,rfl,rfl,hp,m,q⟩:=h;cases ro;obtain⟨t,rfl⟩:=x;obtain⟨its,n,r,b,l⟩:=I.lst hp;obtain⟨h1,h2,g,f⟩:=zlE m;have c:=r.length;have A:=line63;have d:Inv X pins σ (upd H p (.lst (xs.set j v))) { s with heap:=s.heap.update p (Obj.mapSeq (·.setIfInBounds j u)) }:=
  I.lstUpd hp b (zl8 its n j u) (r.set w j) (by rw[List.length_set];exact l) s.toks
 by_cases e:0<=k
 ·have a:k.toNat=j:=by
   rw[seqIndex_of e f]at h1;exact yk h1
  exact PySem.W.ki_setAt b e ⋯ (by rw[yl,<- c];exact f) (by rw[a];exact⟨_,d,q⟩)
 ·have a:(k+(its.toArray.size:Int)).toNat=j:=by
   rw[seqIndex_neg ⋯ g]at h1;rw[yl,<- c];exact yk h1
  exact PySem.W.ki_setBack b ⋯ (by rw[yl,<- c];exact g) ⋯ (by rw[a];exact⟨_,d,q⟩)
def zkH(lo hi:Option Int)(n:Nat):(sliceBounds lo hi none n).1=((HT.sIx n 0 lo:Nat):Int)/\(sliceBounds lo hi none n).2.1=((HT.sIx n n hi:Nat):Int)/\(sliceBounds lo hi none n).2.2=1:=by
 refine⟨?_,?_,rfl⟩
 ·cases lo with
  | none=>simp[sliceBounds,HT.sIx]
  | some i=>
   simp only[sliceBounds,HT.sIx,Option.getD_none,show(1:Int)>0 by decide,if_true];by_cases h:i<0
   ·simp only[h,if_true]<;>lia
   ·simp only[h,if_false]<;>lia
 ·cases hi with
  | none=>simp[sliceBounds,HT.sIx]
  | some i=>
   simp only[sliceBounds,HT.sIx,Option.getD_none,show(1:Int)>0 by decide,if_true];by_cases h:i<0
   ·simp only[h,if_true]<;>lia
   ·simp only[h,if_false]<;>lia
def zje(its:List Value)(lo hi:Option Int):slicePick its.toArray lo hi none=((its.drop (HT.sIx its.length 0 lo)).take (HT.sIx its.length its.length hi-HT.sIx its.length 0 lo)).toArray:=by
 obtain⟨h1,h2,a⟩:=zkH lo hi its.toArray.size;unfold slicePick;rw[h1,h2,a];simp only[sliceRange_one,pick_run,yl]<;>rfl
noncomputable def zeM (K:Fg):V->Option Int->Option Int->Hp->VK->Prop:=λx lo hi H Q=>∃a xs,x=.ref a/\SqL K H a xs/\∀p,H p=none->Q (.ref p) (upd H p (.lst (zcH xs lo hi)))
def zd8:SlR X (zeM X.K):=by
 intro pins s σ H x v k j lo hi l Q I i f pl pu h;obtain⟨a,xs,rfl,g,q⟩:=h;cases i;obtain⟨its,r,d,e⟩:=I.list g;have c:=r.length;refine⟨"list",_,slot_list_getitem.lookup,d.isList.typeIs,?_⟩;refine wpAny_getItem_list_slice d.isList f pl pu .none (by simp) ?_ (by rw[yl]<;>lia);rw[zje,<- c];refine⟨.ref s.heap.objs.size,_,I.laid (t':=s.toks) (o:=.lst (zcH xs lo hi)) (λb ob q=>Heap.get?_push_of_some _ q) (yg _) ?_,rfl,q _ (I.hok.fresh (yg _))⟩;exact⟨ya (zf5 xs lo hi) e,_,0,(r.drop (HT.sIx xs.length 0 lo)).take (HT.sIx xs.length xs.length hi-HT.sIx xs.length 0 lo),Heap.get?_push_size _ rfl⟩
noncomputable def zcQ:V->Bool
 | .non=>true
 | .bl _=>true
 | .int _=>true
 | .str _=>true
 | _=>false
noncomputable def eqV:V->V->Bool
 | .non,.non=>true
 | .bl a,.bl b=>a == b
 | .bl a,.int b=>(if a then 1 else 0) == b
 | .int a,.bl b=>a == (if b then 1 else 0)
 | .int a,.int b=>a == b
 | .str a,.str b=>a == b
 | _,_=>false
def zs1{x:V}{v:Value}(e:RelV y u)(c:RelV x v)(f:zcQ y=true)(d:zcQ x=true):SeqAt.EqAt A s u v (eqV y x):=by
 cases y with
 | non=>
  cases e;cases x with
  | non=>cases c;exact SeqAt.EqAt.same _
  | bl b=>cases c;exact SeqAt.EqAt.none_bool b
  | int b=>obtain⟨t,rfl⟩:=c;exact SeqAt.EqAt.none_int b t
  | str b=>obtain⟨t,rfl⟩:=c;exact SeqAt.EqAt.none_str b t
  | _=>exact absurd (show false=true from d) yp
 | bl a=>
  cases e;cases x with
  | non=>cases c;exact SeqAt.EqAt.bool_none a
  | bl b=>cases c;exact SeqAt.EqAt.bool_bool a b
  | int b=>obtain⟨t,rfl⟩:=c;exact SeqAt.EqAt.bool_int a b t
  | str b=>obtain⟨t,rfl⟩:=c;exact SeqAt.EqAt.bool_str a b t
  | _=>exact absurd (show false=true from d) yp
 | int a=>
  obtain⟨t',rfl⟩:=e;cases x with
  | non=>cases c;exact SeqAt.EqAt.int_none a t'
  | bl b=>cases c;exact SeqAt.EqAt.int_bool a t' b
  | int b=>obtain⟨t,rfl⟩:=c;exact SeqAt.EqAt.int_int a t' b t
  | str b=>obtain⟨t,rfl⟩:=c;exact SeqAt.EqAt.int_str a t' b t
  | _=>exact absurd (show false=true from d) yp
 | str a=>
  obtain⟨t',rfl⟩:=e;cases x with
  | non=>cases c;exact SeqAt.EqAt.str_none a t'
  | bl b=>cases c;exact SeqAt.EqAt.str_bool a t' b
  | int b=>obtain⟨t,rfl⟩:=c;exact SeqAt.EqAt.str_int a t' b t
  | str b=>obtain⟨t,rfl⟩:=c;exact SeqAt.EqAt.str_str a t' b t
  | _=>exact absurd (show false=true from d) yp
 | _=>exact absurd (show false=true from f) yp
noncomputable def eqU (x:V) (u:Value):Bool:=match u with
 | .none=>eqV .non x
 | .bool b=>eqV (.bl b) x
 | .int i _=>eqV (.int i) x
 | .str z _=>eqV (.str z) x
 | _=>false
def zkz{x:V}(r:RelV y u)(f:zcQ y=true):eqU x u=eqV y x:=by
 cases y with
 | non=>cases r;rfl
 | bl b=>cases r;rfl
 | int i=>obtain⟨t,rfl⟩:=r;rfl
 | str z=>obtain⟨t,rfl⟩:=r;rfl
 | _=>exact absurd (show false=true from f) yp
theorem zet{x:V}:∀{xs:List V} {us:List Value},Vals xs us->xs.all zcQ=true->us.any (eqU x)=xs.any λy=>eqV y x
 | _,_,.nil,_=>rfl
 | y :: xs,u :: us,.cons r t,f=>by
  rw[List.all_cons,Bool.and_eq_true]at f;rw[List.any_cons,List.any_cons,zkz r f.1,zet t f.2]
theorem zcN{A:Around}{s:Shared}{x:V}{v:Value}(c:RelV x v)(b:zcQ x=true):∀{xs:List V} {us:List Value},Vals xs us->xs.all zcQ=true->∀u∈us,SeqAt.EqAt A s u v (eqU x u)
 | _,_,.nil,_=>λu a=>by cases a
 | y :: xs,u :: us,.cons r t,f=>λd a=>by
  rw[List.all_cons,Bool.and_eq_true]at f;rcases List.mem_cons.mp a with rfl | a
  ·rw[zkz r f.1];exact zs1 r c f.1 b
  ·exact zcN c b t f.2 d a
noncomputable def inV (x:V) (xs:List V):Bool:=xs.any λy=>eqV y x
noncomputable def rIn (K:Fg) (neg:Bool):R2:=λx y H Q=>∃p xs,y=.ref p/\(SqL K H p xs\/SqT K H p xs)/\zcQ x=true/\xs.all zcQ=true/\Q (.bl (if neg then !inV x xs else inV x xs)) H
def zdW:OpR X (compareOp .In) (rIn X.K false):=by
 intro pins s σ H x y v u Q I d f h;obtain⟨p,xs,rfl,a,c,fs,q⟩:=h;cases f;rcases a with a | a
 ·obtain⟨its,r,pl,e⟩:=I.list a;refine SeqAt.in_listAt (eqU x) pl.isList (λw b=>zcN d c r fs w (by simpa using b)) ⟨.bl _,H,I,rfl,?_⟩;rw[show its.toArray.any (eqU x)=its.any (eqU x) by simp,zet r fs];exact q
 ·obtain⟨its,r,pl,e⟩:=I.tuple a;refine SeqAt.in_tupleAt (eqU x) pl (λw b=>zcN d c r fs w (by simpa using b)) ⟨.bl _,H,I,rfl,?_⟩;rw[show its.toArray.any (eqU x)=its.any (eqU x) by simp,zet r fs];exact q
def zcv:OpR X (compareOp .NotIn) (rIn X.K true):=by
 intro pins s σ H x y v u Q I d f h;obtain⟨p,xs,rfl,a,c,fs,q⟩:=h;cases f;rcases a with a | a
 ·obtain⟨its,r,pl,e⟩:=I.list a;refine SeqAt.notIn_listAt (eqU x) pl.isList (λw b=>zcN d c r fs w (by simpa using b)) ⟨.bl _,H,I,rfl,?_⟩;rw[show its.toArray.any (eqU x)=its.any (eqU x) by simp,zet r fs];exact q
 ·obtain⟨its,r,pl,e⟩:=I.tuple a;refine SeqAt.notIn_tupleAt (eqU x) pl (λw b=>zcN d c r fs w (by simpa using b)) ⟨.bl _,H,I,rfl,?_⟩;rw[show its.toArray.any (eqU x)=its.any (eqU x) by simp,zet r fs];exact q
def zj5:CallR X (.builtin "len") (λxs H Q=>∃p ys,xs=[.ref p]/\(SqL X.K H p ys\/SqT X.K H p ys)/\Q (.int ys.length) H):=by
 intro pins s σ H xs us Q I r h;obtain⟨p,ys,rfl,b,q⟩:=h;obtain⟨u,rfl,e⟩:=vals1 r;cases e;have f:=line63;rcases b with b | b
 ·obtain⟨its,c,pl,d⟩:=I.list b;have a:=c.length;exact Calls.call_len_list pl.isList (by simp only[yl]<;>lia) ⟨.int ys.length,H,I.tok _,⟨s.toks+1,by rw[yl,a]⟩,q⟩
 ·obtain⟨its,c,pl,d⟩:=I.tuple b;have a:=c.length;exact len_tuple pl (by simp only[yl]<;>lia) ⟨.int ys.length,H,I.tok _,⟨s.toks+1,by rw[yl,a]⟩,q⟩
def CallR.or{f:Value}{r b:List V->Hp->VK->Prop}(h:CallR X f r)(h':CallR X f b):CallR X f (λxs H Q=>r xs H Q\/b xs H Q):=by
 intro pins s σ H xs us Q I a q;rcases q with q | q
 ·exact h pins s σ H xs us Q I a q
 ·exact h' pins s σ H xs us Q I a q
def zjL:CallR X (.type "list") (λxs H Q=>∃p ys,xs=[.ref p]/\(SqL X.K H p ys\/SqT X.K H p ys)/\∀l,H l=none->Q (.ref l) (upd H l (.lst ys))):=by
 intro pins s σ H xs us Q I r h;obtain⟨p,ys,rfl,f,q⟩:=h;obtain⟨u,rfl,k⟩:=vals1 r;cases k;have fin:∀(its:List Value),Vals ys its->ys.length<=sizeLine->∀(h':Heap) (a:Nat),(∀b o',s.heap.get? b=some o'->h'.get? b=some o') ->
   h'.get? s.heap.objs.size=some { cls:=.type "list",dict:=none,data:=.seq its.toArray a,slots:=#[] }->EP X pins σ Q (.ref s.heap.objs.size) { s with heap:=h' }:=λits c d h' a kp e=>
  ⟨.ref s.heap.objs.size,_,I.laid (t':=s.toks) kp (yg _) (show ObjOk X.prog X.w _ h' _ (.lst ys) from⟨d,its,a,c,e⟩),rfl,q _ (I.hok.fresh (yg _))⟩
 rcases f with f | f
 ·obtain⟨its,c,pl,d⟩:=I.list f;have g:=c.length;obtain⟨o,i,j,n,hd⟩:=pl.isList;exact call_list_seq p (.inl rfl) i j hd (λh' a kp e=>fin its c d h' a kp e) (by simp only[yl]<;>lia)
 ·obtain⟨its,c,pl,d⟩:=I.tuple f;have g:=c.length;obtain⟨o,i,j,n,hd⟩:=pl;exact call_list_seq p (.inr rfl) i j hd (λh' a kp e=>fin its c d h' a kp e) (by simp only[yl]<;>lia)
def zjq:CallR X (.type "tuple") (λxs H Q=>∃p ys,xs=[.ref p]/\((SqL X.K H p ys/\∀l,H l=none->Q (.ref l) (upd H l (.tup ys)))\/(SqT X.K H p ys/\Q (.ref p) H))):=by
 intro pins s σ H xs us Q I r h;obtain⟨p,ys,rfl,h⟩:=h;obtain⟨u,rfl,i⟩:=vals1 r;cases i;rcases h with⟨hq,q⟩ | ⟨hq,q⟩
 ·obtain⟨its,a,pl,c⟩:=I.list hq;have d:=a.length;refine call_tuple_list pl.isList (λh' kp=>?_) (by simp only[yl]<;>lia);have f:Inv X pins σ H { s with heap:=h' }:=I.kept (t':=s.toks) kp;have g:Inv X pins σ (upd H h'.objs.size (.tup ys)) { s with heap:=h'.push { cls:=.type "tuple",data:=.seq its.toArray } }:=
   f.laid (t':=s.toks) (λb o e=>Heap.get?_push_of_some _ e) (yg _) (show ObjOk X.prog X.w _ _ _ (.tup ys) from⟨c,its,a,IsTup.new _ _⟩)
  exact⟨.ref h'.objs.size,_,g,rfl,q _ (f.hok.fresh (yg _))⟩
 ·obtain⟨its,a,pl,c⟩:=I.tuple hq;exact call_tuple_same pl ⟨.ref p,H,I,rfl,q⟩
noncomputable def tyV (K:Fg) (T:String) (x:V) (H:Hp):Prop:=match x with
 | .str _=>T = "str"
 | .int _=>T = "int"
 | .ref p=>(T = "list" /\ ∃xs,SqL K H p xs)\/(T = "tuple" /\ ∃o,K.lookup p=some o/\o.cls=.type "tuple" /\ o.dict=none) \/
   (T = "dict" /\ ((∃kvs,H p=some (.dK kvs))\/∃kvs,H p=some (.dT kvs)))\/(T = "set" /\ ∃S n,H p=some (.set S n))
 | _=>False
def ztF{T:String}{x:V}{v:Value}(I:Inv X pins σ H s)(r:RelV x v)(ty:tyV X.K T x H) :
  s.TypeIs v T/\∀a,v=.ref a->∃ob,s.heap.get? a=some ob/\ob.dict=none:=by
 cases x with
 | str z=>
  obtain⟨t,rfl⟩:=r
  cases(show T = "str" from ty)
  exact⟨typeIs_str s z t,λ_ e=>nomatch e⟩
 | int i=>
  obtain⟨t,rfl⟩:=r
  cases(show T = "int" from ty)
  exact⟨typeIs_int s i t,λ_ e=>nomatch e⟩
 | ref p=>
  cases r;rcases ty with⟨rfl,xs,hq⟩ | ⟨rfl,o,hk,hc,hd⟩ | ⟨rfl,hk⟩ | ⟨rfl,S,n,hk⟩
  ·obtain⟨its,_,pl,_⟩:=I.list hq;refine⟨pl.isList.typeIs,λa e=>?_⟩;cases e;obtain⟨o,n,e,c,hd,_⟩:=pl;exact⟨o,e,hd⟩
  ·refine⟨⟨o,I.kIn p o hk,hc⟩,λa e=>?_⟩;cases e;exact⟨o,I.kIn _ o hk,hd⟩
  ·have z:∃o,s.heap.get? p=some o/\o.ExactDict:=by
    rcases hk with⟨kvs,hk⟩ | ⟨kvs,hk⟩
    ·obtain⟨_,_,_,_,o,_,_,e,ex,_⟩:=I.hok p _ hk;exact⟨o,e,ex⟩
    ·obtain⟨_,_,_,_,o,_,_,e,ex,_⟩:=I.hok p _ hk;exact⟨o,e,ex⟩
   obtain⟨o,e,ex⟩:=z;refine⟨⟨o,e,ex.1⟩,λa e2=>?_⟩;cases e2;exact⟨o,e,ex.2.1⟩
  ·obtain⟨o,_,_,_,e,ex,_⟩:=I.hok p _ hk;refine⟨⟨o,e,ex.1⟩,λa e2=>?_⟩;cases e2;exact⟨o,e,ex.2.1⟩
 | _=>exact False.elim ty
noncomputable def tBM (K:Fg) (T:String) (r:V->List V->Hp->VK->Prop) (to:TE) (t:TA):TE:=λσ H Q=>to σ H λx H1=>tyV K T x H1/\t σ H1 λxs H2=>r x xs H2 Q
variable {o e:Expr}{es:List Expr}{to:TE}{t:TA}{name:Str}{apos cpos:Pos}{T id:String}{r:V->List V->Hp->VK->Prop}
def zmK(j:PlainAttrs T)(slot:Slot T name id)(a:typeOf (.builtin id)=pure (.type "method_descriptor"))(l:MtR X id r)(g:PE X o to)(m:PA X (e :: es) t)
  (hbase:autoParam (attributeBase o name X.env (eval o X.env)=eval o X.env) Internal.aut2._auto_1)
  (hfew:autoParam (((backTo cpos (starEach (e :: es) X.env)).all (λx=>!x.1)&&(backToKw cpos (keywordEach [] X.env)).all (λx=>x.1.isSome)
   && decide ((e :: es).length+([]:List Keyword).length+(if([]:List Keyword).isEmpty then 0 else 1)<30))=true) Internal.aut2._auto_1)
  (hline:autoParam ((apos.endLine == cpos.line)=true) Internal.aut2._auto_1) (hs:autoParam (starEach (e :: es) X.env=(false,eval e X.env) :: starEach es X.env) Internal.aut2._auto_1) (hplain:autoParam ((backTo cpos (starEach es X.env)).any (·.1)=false) Internal.aut2._auto_1) :
  PE X (.Call (.Attribute o name apos) (e :: es) [] cpos) (tBM X.K T r to t):=by
 intro pins s σ H Q I h;refine wpAny_Call_method_late hbase hfew hline rfl (thn (g pins s σ H _ I h) λv n f=>?_);obtain⟨x,H1,c,d,ty,q1⟩:=f;obtain⟨h1,h2⟩:=ztF c d ty;refine⟨T,id,j,slot,a,h1,h2,?_⟩;have b:=m cpos pins n σ H1 _ c q1;rw[hs]at b ⊢;refine Calls.callWith_builtin (by show(false || (backTo cpos (starEach es X.env)).any (·.1))=false;rw[hplain]<;>rfl) (Calls.evalArgs_plain ?_);exact thn b λus k ⟨vs,H2,i,r2,q2⟩=>l pins k σ H2 x vs v us Q i d r2 q2
/- xs.append(e),list.index on a module's tuple .. are MtR facts of 06m -/
end
noncomputable def MtM (X:Cx) (id:String) (r:V->List V->Hp->VK->Prop):Prop:=
 ∀(pins:List (Addr × Obj)) (s:Shared) (σ:St) (H:Hp) (x:V) (xs:List V) (v:Value) (us:List Value) (Q:VK),Inv X pins σ H s->RelV x v->Vals xs us->r x xs H Q ->
  wpAny (model X.prog X.w) X.A (call (.builtin id) (v :: us)) (EP X pins σ Q) X.xe s
def Vals.one:∀{x:V} {us:List Value},Vals [x] us->∃u,us=[u]/\RelV x u
 | _,_,h=>by
  cases h with
  | cons r t=>cases t;exact⟨_,rfl,r⟩
theorem Vals.rep{xs:List V}{us:List Value}(h:Vals xs us):∀k:Nat,Vals (List.replicate k xs).flatten (List.replicate k us).flatten
 | 0=>.nil
 | k+1=>by
  rw[List.replicate_succ,List.replicate_succ,List.flatten_cons,List.flatten_cons];exact Vals.append h (Vals.rep h k)
theorem ziK(its:List Value):∀(k:Nat) (acc:List Value),
  List.foldl (λa b=>a++b) acc.toArray (List.replicate k its.toArray)=(acc++(List.replicate k its).flatten).toArray
 | 0,acc=>by simp
 | k+1,acc=>by
  have e:acc.toArray++its.toArray=(acc++its).toArray:=by simp
  have e2:(acc++its)++(List.replicate k its).flatten=acc++(List.replicate (k+1) its).flatten:=by
   rw[List.replicate_succ,List.flatten_cons,List.append_assoc]
  rw[<- e2,<- ziK its k (acc++its),<- e,List.replicate_succ,List.foldl_cons]
section
variable {X:Cx}{pins:List (Addr × Obj)}{σ:St}{H:Hp}{s:Shared}{l b:Addr}{xs ys zs:List V}
def Inv.lset{its its':List Value}{n:Nat}{f:Array Value->Array Value}{t':Nat}(I:Inv X pins σ H s)(c:H l=some (.lst xs))
  (e:s.heap.get? l=some { cls:=.type "list",data:=.seq its.toArray n }) (hf:f its.toArray=its'.toArray) (hv:Vals ys its') (hz:ys.length<=sizeLine) :
  Inv X pins σ (upd H l (.lst ys)) { s with heap:=s.heap.update l (Obj.mapSeq f),toks:=t' }:=by
 have q:=PySem.IsL.update e f;rw[hf]at q;refine I.write (x:=l) (e:=l) (by rw[c];exact trivial) (.inl rfl) (λd u a b=>(Heap.get?_update_other s.heap (Obj.mapSeq f) (Ne.symm a)).trans b) ⟨_,q⟩ ?_;exact⟨hz,its',_,hv,q⟩
def Inv.lnew{t':Nat}(I:Inv X pins σ H s)(b:Vals ys its)(a:ys.length<=sizeLine) :
  Inv X pins σ (upd H s.heap.objs.size (.lst ys)) { s with heap:=s.heap.push { cls:=.type "list",data:=.seq its.toArray },toks:=t' }:=
 I.laid (λ_ _ q=>Heap.get?_push_of_some _ q) (yg _) ⟨a,its,0,b,Heap.get?_push_size _ rfl⟩
theorem Inv.fresh(I:Inv X pins σ H s):H s.heap.objs.size=none:=I.hok.fresh (yg _)
def Inv.lstM(I:Inv X pins σ H s)(a:H l=some (.lst xs)):xs.length<=sizeLine/\∃(its:List Value) (n:Nat),Vals xs its/\xs.length=its.length/\s.heap.get? l=some { cls:=.type "list",data:=.seq its.toArray n }:=by
 obtain⟨z,its,n,r,e⟩:=I.hok l _ a;exact⟨z,its,n,r,r.length,e⟩
def zjI(h:n<=sizeLine):Builtin.List.listTooLong n=false:=by
 unfold Builtin.List.listTooLong;exact decide_eq_false ⋯
end
section
variable {X:Cx}
noncomputable def zbn:V->List V->Hp->VK->Prop:=λx vs H Q=>∃l xs y,x=.ref l/\vs=[y]/\H l=some (.lst xs)/\xs.length<sizeLine/\Q .non (upd H l (.lst (xs++[y])))
def zi0:MtM X "list.append" zbn:=by
 intro pins s σ H x vs v us Q I c b h;obtain⟨l,xs,y,rfl,rfl,a,d,q⟩:=h;cases c;obtain⟨u,rfl,ru⟩:=b.one;obtain⟨z,its,n,r,f,e⟩:=I.lstM a;refine call_meets F.slot_list_append ⟨_,e,rfl⟩ F.entry_list_append (F.args_list_append_2 _ _) (PySem.list_append l its.toArray n u (by rw[yl];lia)) ⟨e,?_⟩;refine⟨.non,_,I.lset (its':=its++[u]) a e (by simp) (r.append (.cons ru .nil)) ?_,rfl,q⟩;rw[ye,List.length_singleton];lia
noncomputable def zl0:V->List V->Hp->VK->Prop:=λx vs H Q=>∃l b xs zs,x=.ref l/\vs=[.ref b]/\H l=some (.lst xs)/\H b=some (.lst zs)/\xs.length+zs.length<=sizeLine/\Q .non (upd H l (.lst (xs++zs)))
def zor:MtM X "list.extend" zl0:=by
 intro pins s σ H x vs v us Q I j k h;obtain⟨l,b,xs,zs,rfl,rfl,f,i,m,q⟩:=h;cases j;obtain⟨u,rfl,ru⟩:=k.one;cases ru;obtain⟨z,its,n,r,p,e⟩:=I.lstM f;obtain⟨o,a,n2,r2,g,e2⟩:=I.lstM i;have d:its.toArray.size+a.toArray.size<=sizeLine:=by rw[yl,yl];lia
 have c:¬(!its.toArray.isEmpty&&Builtin.List.listTooLong (its.toArray.size+a.toArray.size))=true:=by
  rw[zjI d,Bool.and_false];exact yp
 refine call_meets F.slot_list_extend ⟨_,e,rfl⟩ F.entry_list_extend (F.args_list_extend_2 _ _)
  (AutoSeq1.list_extend_list_list_0 l its.toArray n b a.toArray n2 c (by rw[yl];lia) ⋯) ⟨e,e2,?_⟩
 refine⟨.non,_,I.lset (its':=its++a) f e (by simp) (r.append r2) ?_,rfl,q⟩;rw[ye];lia
noncomputable def zst:R2:=λx y H Q=>∃l b xs zs,x=.ref l/\y=.ref b/\H l=some (.lst xs)/\H b=some (.lst zs)/\xs.length+zs.length<=sizeLine/\∀p,H p=none->Q (.ref p) (upd H p (.lst (xs++zs)))
def op_cat:OpR X (binaryOp .Add) zst:=by
 intro pins s σ H x y v u Q I j f h;obtain⟨l,b,xs,zs,rfl,rfl,d,c,k,q⟩:=h;cases j;cases f;obtain⟨z,its,n,r,o,e⟩:=I.lstM d;obtain⟨m,a,n2,r2,g,e2⟩:=I.lstM c;refine PySem.P.add_list e e2 ?_ (by rw[yl,yl];lia);have i:its.toArray++a.toArray=(its++a).toArray:=by simp
 rw[i];exact⟨.ref _,_,I.lnew (t':=s.toks) (r.append r2) (by rw[ye];lia),rfl,q _ I.fresh⟩
noncomputable def zs4:R2:=λx y H Q=>∃l k xs,x=.ref l/\y=.int k/\H l=some (.lst xs)/\-(2 ^ 63)<=k/\k<2 ^ 63/\xs.length*k.toNat<=sizeLine /\
 ∀p,H p=none->Q (.ref p) (upd H p (.lst (List.replicate k.toNat xs).flatten))
def zrn{α:Type}(xs:List α)(k:Nat):(List.replicate k xs).flatten.length=k*xs.length:=by
 induction k with
 | zero=>simp
 | succ k ih=>rw[List.replicate_succ,List.flatten_cons,ye,ih,Nat.succ_mul,Nat.add_comm]
def zsC:OpR X (binaryOp .Mult) zs4:=by
 intro pins s σ H x y v u Q I p C h;obtain⟨l,k,xs,rfl,rfl,A,h1,h2,o,q⟩:=h;cases p;obtain⟨t,rfl⟩:=C;obtain⟨z,its,n,r,B,e⟩:=I.lstM A;have c:its.toArray.size*k.toNat<=sizeLine:=by rw[yl,<- B];exact o
 have g:¬its.toArray.size*k.toNat>(2 ^ 63-1)/8:=by
  have:(sizeLine:Nat)<=(2 ^ 63-1)/8:=by decide
  lia
 have d:¬(!Builtin.List.listFitsIndex k)=true:=by
  rw[fitsIndex_both h1 h2];exact yp
 have b:¬Builtin.List.listTooLong (its.toArray.size*k.toNat)=true:=by
  rw[zjI c];exact yp
 have f:List.foldl (λi j=>i++j) #[] (List.replicate (if its.toArray.isEmpty=true then 0 else k.toNat) its.toArray)=(List.replicate k.toNat its).flatten.toArray:=by
  have w:∀m:Nat,List.foldl (λi j=>i++j) #[] (List.replicate m its.toArray)=(List.replicate m its).flatten.toArray:=λm=>by
   have:=ziK its m []
   rw[List.nil_append]at this;exact this
  rw[w];cases its with
  | nil=>simp
  | cons a r'=>rw[if_neg (by simp)]
 refine wpAny_binaryOp_repeat_ref (T := "list") (U := "int") (by decide) ⟨_,e,rfl⟩ (λs'=>typeIs_int s' k t) noFill_list_mul F.fills_int_mul F.slot_int_rmul repeat_list F.slot_int_index.lookup
  (call_meets F.slot_int_rmul (typeIs_int s k t) F.entry_int_rmul (F.args_int_rmul_2 _ _) (int___rmul___int_list k t l its.toArray n)
   ⟨e,rfl,⟨_,e,rfl⟩,call_meets F.slot_list_mul ⟨_,e,rfl⟩ F.entry_list_mul (F.args_list_mul_2 _ _) (AutoListH.list___mul___list_int_3 l its.toArray n k t d g b) ⟨e,?_⟩⟩)
 rw[f];exact⟨.ref _,_,I.lnew (t':=s.toks) (r.rep k.toNat) (by rw[zrn,Nat.mul_comm];exact o),rfl,q _ I.fresh⟩
end
section
variable {prog:Program}{w:World}{A:Around}{E:Value->Shared->Prop}{s:Shared}
end
section
variable {X:Cx}
end
end Internal
namespace Att
variable {h:Heap}{n:Nat}
open PySem PySem.W PySem.Calls PyProof.Rows
def zhu{P:Params}:∀(ns:List Int) (vs:List Value),WellAll P h vs (ns.map WData.int)->IntsAre vs ns:=by
 intro ns
 induction ns with
 | nil=>
  intro vs w;rw[List.map_nil]at w;cases w;exact .nil
 | cons n ns ih=>
  intro vs w;rw[List.map_cons]at w;cases w with
  | cons a b=>
   cases a;exact .cons _ _ (ih _ b)
def script_of{l:OpenLaw}(j:l.most=some n){P:Params}{h:Heap}{args:List WData}{b:List Value}
  (hpre:l.row.toRowW.claim.pre args=true) (hwl:WellAll P h b args) :
  ∃a vs ns,b=[Value.ref a]/\args=[WData.list (ns.map WData.int)]/\h.get? a=some { cls:=.type "list",data:=.seq vs.toArray }/\IntsAre vs ns/\ns.length<=n:=by
 have g:WShape.hasAll [] args [.list .int]=true:=(pre_splitW hpre).1;have i:l.pre.holds [] { args:=args }=true:=(pre_splitW hpre).2;obtain⟨d,r,rfl,h1,h2⟩:=hasAllW_cons g;obtain rfl:=hasAllW_nil h2;obtain⟨xs,rfl,k⟩:=hasW_list h1;obtain⟨ns,rfl⟩:=items_int k;have c:ns.length<=n:=by
  unfold OpenLaw.pre at i;have f:(WTm.not (.lt (.lit (.int (n:Int))) (.len (.arg 0)))).holds [] { args:=[.list (ns.map .int)] }=true:=by
   have f:=(holds_andW i).1;rw[j]at f;exact f
  have e:=condW_of f (w_not (w_lt w_lit (w_len_list (w_arg rfl))));rw[yc]at e;refine Nat.le_of_not_lt λq=>?_;have q':(n:Int)<((ns.length:Nat):Int):=by lia
  first
   | (rw[decide_eq_true q']at e;exact absurd e (by decide))
   | (simp at e;lia)
 cases hwl with
 | cons w1 w2=>
  cases w2;cases w1 with
  | list ho hall=>exact⟨_,_,ns,rfl,rfl,ho,zhu ns _ hall,c⟩
def post_true(l:OpenLaw)(args:List WData):l.row.toRowW.claim.post args (.bool true) args=true:=
 postW_of (r:=l.row.toRowW) (X:=(true == true))
  (show WShape.has [] (.bool true) .bool=true by first | rfl | decide | simp[WShape.has,WShape.arms,WShape.armsAll])
  (show(WTm.eq .res (.lit (.bool true))).value [] { args:=args,res:=some (.bool true),after:=args }=some (.bool (true == true))from w_eq_bool (w_res rfl) w_lit) rfl
section
variable {prog:Program}{w:World}{A:Around}{E:Value->Shared->Prop}{s:Shared}{K:Frag}
end
end Att
namespace Internal
variable {H H' H1 H2:Hp}{K:Fg}{a f:Addr}{fd:FuncData}{h:Heap}{j:Int}{m n:Nat}{qual x:Str}{st:Stmt}{xs:List V}
open PySem PySem.Spec PyProof.Rows
theorem ziz:∀{vs:List Value} {ns:List Int},IntsAre vs ns->Vals (ns.map V.int) vs
 | _,_,.nil=>.nil
 | _,_,.cons n t h=>.cons ⟨t,rfl⟩ (ziz h)
noncomputable def zuN (H:Hp):Prop:=∀b,H b=none\/∃o xs,H b=some (.frz o (.lst xs))
noncomputable def zaa (s:Stmt) (j:Nat):Stmt:=match s with
 | .ClassDef _ _ _ body _ _ _ _ _ _ _=>body.getD j (.Pass ⟨0,0,0,0⟩)
 | _=>.Pass ⟨0,0,0,0⟩
noncomputable def zcp (s:Stmt):Arguments:=match s with
 | .FunctionDef _ a _ _ _ _ _ _ _ _=>a
 | _=>{ posonlyargs:=[],args:=[],vararg:=none,kwonlyargs:=[],kw_defaults:=[],kwarg:=none,defaults:=[] }
noncomputable def zbb (s:Stmt):List Stmt:=match s with
 | .FunctionDef _ _ b _ _ _ _ _ _ _=>b
 | _=>[]
noncomputable def zj (s:Stmt):Scope:=match s with
 | .FunctionDef _ _ _ _ _ _ sc _ _ _=>sc
 | _=>{ kind:=.function,names:=[],isGenerator:=false,isCoroutine:=false }
abbrev E0:XK:=λ_ _ _=>False
structure Fun(K:Fg)(x qual:Str)(st:Stmt)(f:Addr)(fd:FuncData):Prop where
 ex:∃(oc:Value) (od:Option Addr) (kV doc pm:Value) (an:Option Addr) (cdv ct:Value) (osl:Array (Option Value)),
  fd=PySem.W.fnOf x qual (zcp st) (zbb st) (zj st) .none kV doc pm an cdv ct/\K.lookup f=some ⟨oc,od,.func fd,osl⟩/\PySem.W.codeIn K cdv qual=true
 kp:PySem.W.keepIn K (.ref f)=true
section
variable {P:Program}{w:World}{K:Fg}{mg:Str->Option Value}{base:Heap}
def Fun.binds{ps:List Str}(F:Fun K x qual st f fd)
  (h:∀(kV b d:Value) (c:Option Addr) (a ct:Value) (us:List Value),us.length=ps.length->bindArgs (PySem.W.fnOf x qual (zcp st) (zbb st) (zj st) .none kV b d c a ct) ⟨us,[]⟩=pure (ps.zip us)):Binds K fd ps []:=by
 obtain⟨i,od,kV,b,d,c,a,ct,e,rfl,j,g⟩:=F.ex;exact .all (h kV b d c a ct)
def zhx{h:Value}{od e:Option Addr}{d:Array (Option Value)}{kV b g a ct:Value}(l:K.lookup f=some ⟨h,od,.func (PySem.W.fnOf x qual (zcp st) (zbb st) (zj st) .none kV b g e a ct),d⟩)
  (c:PySem.W.codeIn K a qual=true) (k:PySem.W.keepIn K (.ref f)=true):Fun K x qual st f (PySem.W.fnOf x qual (zcp st) (zbb st) (zj st) .none kV b g e a ct):=⟨⟨h,od,kV,b,g,e,a,ct,d,rfl,l,c⟩,k⟩
end
section
variable {X:Cx}
def pv(i:Nat){pos:Pos}(a:autoParam (X.N[i]?=some x) Internal.aut2._auto_1)(b:Vis X.env.scope x:=by first | exact Or.inl rfl | exact Or.inr (Or.inl rfl) | exact Or.inr (Or.inr rfl))(hd:autoParam ((x == ("__debug__" : Str))=false) Internal.aut1._auto_1)
  (hcd:autoParam ((x == ("__classdict__" : Str))=false) Internal.aut1._auto_1):PE X (.Name x pos) (zj3 i):=zsu a b hd hcd
end
noncomputable def Same (H H':Hp):Prop:=∀b o,H b=some o->H' b=some o
def Same.refl(H:Hp):Same H H:=λ_ _ h=>h
def Same.trans(a:Same H H1)(b:Same H1 H2):Same H H2:=λc o h=>b c o (a c o h)
def Same.seq(e:Same H H')(h:SqL K H a xs):SqL K H' a xs:=by
 rcases h with(h | ⟨o,h⟩) | h
 ·exact .inl (.inl (e _ _ h))
 ·exact .inl (.inr ⟨o,e _ _ h⟩)
 ·exact .inr h
namespace BT
theorem abs:bootBuiltins "abs" = some (.builtin "abs"):=by decide +kernel
theorem len:bootBuiltins "len" = some (.builtin "len"):=by decide +kernel
theorem max:bootBuiltins "max" = some (.builtin "max"):=by decide +kernel
theorem min:bootBuiltins "min" = some (.builtin "min"):=by decide +kernel
theorem sum:bootBuiltins "sum" = some (.builtin "sum"):=by decide +kernel
theorem sorted:bootBuiltins "sorted" = some (.builtin "sorted"):=by decide +kernel
theorem isinstance:bootBuiltins "isinstance" = some (.builtin "isinstance"):=by decide +kernel
theorem list:bootBuiltins "list" = some (.type "list"):=by decide +kernel
theorem tuple:bootBuiltins "tuple" = some (.type "tuple"):=by decide +kernel
theorem ValueError:bootBuiltins "ValueError" = some (.type "ValueError"):=by decide +kernel
end BT
noncomputable def sz (i:Int):Nat:=Builtin.Int.intBits i
def sz_le{i:Int}:sz i<=n↔i.natAbs<2 ^ n:=by
 unfold sz Builtin.Int.intBits;by_cases h:i=0
 ·subst h;simp;exact Nat.two_pow_pos n
 ·have h':(i == 0)=false:=by simp[h]
  rw[h',if_neg (by decide)];have a:i.natAbs≠0:=by lia
  rw[<- Nat.log2_lt a];lia
def zur(i:Int):i.natAbs<2 ^ sz i:=sz_le.mp (yg _)
def zfV{i:Int}(h:i.natAbs<=j.natAbs):sz i<=sz j:=sz_le.mpr (Nat.lt_of_le_of_lt h (zur j))
def zhn(i:Int):sz (-i)<=sz i:=zfV ⋯
def ztI{i:Int}(h1:sz i<=n)(h2:sz j<=n):sz (i+j)<=n+1:=by
 rw[sz_le]at *;rw[Nat.pow_succ];lia
def zee{i:Int}(h1:sz i<=n)(h2:sz j<=m):sz (i*j)<=n+m:=by
 rw[sz_le]at *
 rw[Int.natAbs_mul,Nat.pow_add];exact Nat.mul_lt_mul'' h1 h2
def zhV(i j:Int):(i/j).natAbs<=i.natAbs:=Int.natAbs_ediv_le_natAbs i j
def zb1(i j:Int):sz (i/j)<=sz i:=zfV (zhV i j)
def zW{i:Int}(h:i.natAbs<2 ^ n):sz i<=n:=sz_le.mpr h
def sz200{i:Int}(h1:-1606938044258990275541962092341162602522202993782792835301376<i)(h2:i<1606938044258990275541962092341162602522202993782792835301376):sz i<=200:=zW (by
 have:(2:Nat) ^ 200=1606938044258990275541962092341162602522202993782792835301376:=by decide
 lia)
section
variable {X:Cx}
noncomputable def CMulS (i j:Int):Prop:=sz i+sz j<=134217728
def CMulS.ok{i:Int}(h:CMulS i j):IntMulOk i j:=by
 unfold IntMulOk;have e:Builtin.Int.intTooBig (((Builtin.Int.intBits i:Nat):Int)+((Builtin.Int.intBits j:Nat):Int))=false:=by
  unfold Builtin.Int.intTooBig;have a:bitsLine=134217728:=by decide
  rw[decide_eq_false];rw[a];unfold CMulS sz at h;lia
 rw[e];simp
def CMulS.of{i:Int}(h1:sz i<=n)(h2:sz j<=m)(h:n+m<=134217728):CMulS i j:=by unfold CMulS;lia
def op_mulS:OpR X (binaryOp .Mult) (rI CMulS λi j=>.int (i*j)):=opI λ_ _ _ _ _ _ _ a q=>mul_int q a.ok
noncomputable def zdQ:R2:=λx y H Q=>rI CMulS (λi j=>.int (i*j)) x y H Q\/zs4 x y H Q
def zaq:OpR X (binaryOp .Mult) zdQ:=op_mulS.or zsC
noncomputable def zg1 (K:Fg):R2:=λx y H Q=>rI0 (λi j=>.int (i+j)) x y H Q\/zst x y H Q\/zqq K x y H Q
def zr4:OpR X (binaryOp .Add) (zg1 X.K):=op_add.or (op_cat.or zrL)
noncomputable def ztN (i j:Int):Prop:=j≠0/\(sz j<=9000\/sz i<=sz j+4500)
noncomputable def zjw:R2:=rI ztN λi j=>.int (i.fdiv j)
def znU(h:j≠0):sz j=j.natAbs.log2+1:=by
 have a:j.natAbs≠0:=by lia
 have h1:sz j<=j.natAbs.log2+1:=sz_le.mpr (Nat.lt_log2_self);have h2:¬sz j<=j.natAbs.log2:=λz=>by
  have:=sz_le.mp z
  have:=Nat.log2_self_le a
  lia
 lia
def zjr{i:Int}(b:j≠0)(h:sz i<=sz j+4500):Builtin.divisionGoesByPylong i j=false:=by
 have c:(j == 0)=false:=by simpa using b
 have a:(if i == 0 then 0 else i.natAbs.log2/30+1)<=(if j == 0 then 0 else j.natAbs.log2/30+1)+150:=by
  rw[c];by_cases hi:i=0
  ·have:(i == 0)=true:=by simpa using hi
   rw[this];exact Nat.zero_le _
  ·have d:(i == 0)=false:=by simpa using hi
   rw[d];rw[znU hi,znU b]at h;show i.natAbs.log2/30+1<=j.natAbs.log2/30+1+150;lia
 show(decide (_>300)&&decide ((if i == 0 then 0 else i.natAbs.log2/30+1)>(if j == 0 then 0 else j.natAbs.log2/30+1)+150))=false
 rw[decide_eq_false (Nat.not_lt.mpr a),Bool.and_false]
def zaX:OpR X (binaryOp .FloorDiv) zjw:=opI λi j _ _ _ _ _ a q=>floordiv_int a.1 q (.inl (a.2.elim (λh=>PyProof.noPylong_of_log2 (by
 have h1:=sz_le.mp h;by_cases b:j.natAbs=0
 ·rw[b];decide
 ·exact(Nat.log2_lt b).mpr h1)) (zjr a.1)))
noncomputable def zmS:R2:=rI (λ_ j=>j≠0) λi j=>.int (i.fmod j)
def zbV:OpR X (binaryOp .Mod) zmS:=zrV
mutual
inductive RepD(K:Fg)(H:Hp):V->PyData->Prop
 | non:RepD K H .non .none
 | bl (b:Bool):RepD K H (.bl b) (.bool b)
 | int (i:Int):RepD K H (.int i) (.int i)
 | str (x:Str) (ok:PyData.canLay0 (.str x)=true):RepD K H (.str x) (.str x)
 | lst {a:Addr} {vs:List V} {ds:List PyData}:SqL K H a vs->RepAll K H vs ds->RepD K H (.ref a) (.list ds)
 | tup {a:Addr} {vs:List V} {ds:List PyData}:SqT K H a vs->RepAll K H vs ds->RepD K H (.ref a) (.tuple ds)
inductive RepAll(K:Fg)(H:Hp):List V->List PyData->Prop
 | nil:RepAll K H [] []
 | cons {v:V} {d:PyData} {vs:List V} {ds:List PyData}:RepD K H v d->RepAll K H vs ds->RepAll K H (v :: vs) (d :: ds)
end
mutual
theorem RepD.reads{pins:List (Addr × Obj)}{σ:St}{H:Hp}{s:Shared}(I:Inv X pins σ H s):∀{v:V} {d:PyData} {u:Value},RepD X.K H v d->RelV v u->∃as,Reads s.heap u d as
 | _,_,_,.non,r=>by cases(show _=Value.none from r);exact⟨_,.none⟩
 | _,_,_,.bl b,r=>by cases(show _=Value.bool b from r);exact⟨_,.bool b⟩
 | _,_,_,.int i,r=>by obtain⟨t,rfl⟩:=(show ∃t,_=Value.int i t from r);exact⟨_,.int i t⟩
 | _,_,_,.str x _,r=>by obtain⟨t,rfl⟩:=(show ∃t,_=Value.str x t from r);exact⟨_,.str x t⟩
 | _,_,_,.lst h k,r=>by
  cases(show _=Value.ref _ from r)
  obtain⟨its,a,⟨o,n,h1,h2,_,c⟩,_⟩:=I.list h;obtain⟨as,q⟩:=RepAll.reads I k a;exact⟨_,.list h1 h2 c (by simpa using q)⟩
 | _,_,_,.tup h k,r=>by
  cases(show _=Value.ref _ from r)
  obtain⟨its,a,⟨o,h1,h2,n,c⟩,_⟩:=I.tuple h;obtain⟨as,q⟩:=RepAll.reads I k a;exact⟨_,.tuple h1 h2 c (by simpa using q)⟩
theorem RepAll.reads{pins:List (Addr × Obj)}{σ:St}{H:Hp}{s:Shared}(I:Inv X pins σ H s):∀{vs:List V} {ds:List PyData} {us:List Value},RepAll X.K H vs ds->Vals vs us->∃as,ReadsAll s.heap us ds as
 | _,_,_,.nil,.nil=>⟨_,.nil⟩
 | _,_,_,.cons h k,.cons r t=>by
  obtain⟨as,q⟩:=RepD.reads I h r;obtain⟨bs,p⟩:=RepAll.reads I k t;exact⟨_,.cons q p⟩
end
mutual
theorem RepD.lay{K:Fg}{H:Hp}:∀{v:V} {d:PyData},RepD K H v d->d.canLay0=true
 | _,_,.non=>rfl
 | _,_,.bl _=>rfl
 | _,_,.int _=>rfl
 | _,_,.str _ ok=>ok
 | _,_,.lst _ k=>by rw[PyData.canLay0];exact RepAll.lay k
 | _,_,.tup _ k=>by rw[PyData.canLay0];exact RepAll.lay k
theorem RepAll.lay{K:Fg}{H:Hp}:∀{vs:List V} {ds:List PyData},RepAll K H vs ds->PyData.canLayAll0 ds=true
 | _,_,.nil=>rfl
 | _,_,.cons h k=>by rw[PyData.canLayAll0,RepD.lay h,RepAll.lay k];rfl
end
def Same.seqT{K:Fg}{H H':Hp}{a:Addr}{xs:List V}(e:Same H H')(h:SqT K H a xs):SqT K H' a xs:=by
 rcases h with(h | ⟨o,h⟩) | h
 ·exact .inl (.inl (e _ _ h))
 ·exact .inl (.inr ⟨o,e _ _ h⟩)
 ·exact .inr h
mutual
theorem Same.rep{K:Fg}{H H':Hp}(e:Same H H'):∀{v:V} {d:PyData},RepD K H v d->RepD K H' v d
 | _,_,.non=>.non
 | _,_,.bl b=>.bl b
 | _,_,.int i=>.int i
 | _,_,.str x ok=>.str x ok
 | _,_,.lst h k=>.lst (e.seq h) (e.repAll k)
 | _,_,.tup h k=>.tup (e.seqT h) (e.repAll k)
theorem Same.repAll{K:Fg}{H H':Hp}(e:Same H H'):∀{vs:List V} {ds:List PyData},RepAll K H vs ds->RepAll K H' vs ds
 | _,_,.nil=>.nil
 | _,_,.cons h k=>.cons (e.rep h) (e.repAll k)
end
noncomputable def zex (K:Fg):R2:=λx y H Q=>(∃d e,RepD K H x d/\RepD K H y e/\min d.depth e.depth<=60/\Q (.bl (PyData.eqv d e)) H)\/rEq x y H Q
noncomputable def zfe (K:Fg):R2:=λx y H Q=>(∃d e,RepD K H x d/\RepD K H y e/\min d.depth e.depth<=60/\Q (.bl (!PyData.eqv d e)) H)\/rNe x y H Q
def ztC(f:X.A.units+64<cLine):OpR X (compareOp .Eq) (zex X.K):=by
 refine OpR.or ?_ zum;intro pins s σ H x y v u Q I c a h;obtain⟨d,e,h1,h2,hd,q⟩:=h;obtain⟨as,b⟩:=h1.reads I c;obtain⟨bs,r2⟩:=h2.reads I a;exact PySem.SeqAt.compareEq_reads b r2 h1.lay h2.lay ⋯ ⟨.bl _,H,I,rfl,q⟩
def ztb(f:X.A.units+64<cLine):OpR X (compareOp .NotEq) (zfe X.K):=by
 refine OpR.or ?_ ztY;intro pins s σ H x y v u Q I c a h;obtain⟨d,e,h1,h2,hd,q⟩:=h;obtain⟨as,b⟩:=h1.reads I c;obtain⟨bs,r2⟩:=h2.reads I a;exact PySem.SeqAt.compareNe_reads b r2 h1.lay h2.lay ⋯ ⟨.bl _,H,I,rfl,q⟩
noncomputable def ztl (K:Fg):List V->Hp->VK->Prop:=λxs H Q=>∃x c t b cv,xs=[x,c]/\RelV c cv/\TyOf K H x t/\PySem.W.kitOne K t cv=some b/\Q (.bl b) H
def zk9:CallR X (.builtin "isinstance") (ztl X.K):=by
 intro pins s σ H xs us Q I r h;obtain⟨x,c,t,b,d,rfl,f,ty,e,q⟩:=h;obtain⟨u,g,rfl,j,r2⟩:=vals2 r;have i:g=d:=by
  cases c with
  | ty n=>exact(show g=_ from r2).trans (show d=_ from f).symm
  | ref a=>exact(show g=_ from r2).trans (show d=_ from f).symm
  | non=>exact(show g=_ from r2).trans (show d=_ from f).symm
  | bl b=>exact(show g=_ from r2).trans (show d=_ from f).symm
  | _=>obtain⟨_,rfl⟩:=f;simp[PySem.W.kitOne,PySem.W.kitCls]at e;cases ty<;>simp at e
 subst i;exact zoI I j ty e λtk=>⟨.bl b,H,I.tok tk,rfl,q⟩
noncomputable def zmt (K:Fg) (ta:TE):TE:=λσ H Q=>ta σ H λx H1=>∃k,zhT K x H1 k/\Q (.bl (!k)) H1
def zqV{a:Expr}{ta:TE}{pos:Pos}(i:PE X a ta):PE X (.UnaryOp .Not a pos) (zmt X.K ta):=by
 intro pins s σ H Q I h;refine UnaryOp_ (thn (i pins s σ H _ I h) λv j b=>?_);obtain⟨x,H1,f,g,k,e,q1⟩:=b;exact not_of (thn (znd pins j σ H1 x v (λc H2=>Q (.bl (!c)) H2) f g ⟨k,e,q1⟩) λc l ⟨H2,d,q2⟩=>⟨.bl (!c),H2,d,rfl,q2⟩)
end
noncomputable def zsG:List V->Hp->VK->Prop:=λxs H Q=>∃i,xs=[.int i]/\Q (.int (if i<0 then -i else i)) H
noncomputable def zmI (K:Fg):List V->Hp->VK->Prop:=λxs H Q=>∃p ys,xs=[.ref p]/\(SqL K H p ys\/SqT K H p ys)/\Q (.int ys.length) H
noncomputable def zqf:List V->Hp->VK->Prop:=λxs H Q=>∃i j,xs=[.int i,.int j]/\Q (.int (if j>i then j else i)) H
noncomputable def zqd:List V->Hp->VK->Prop:=λxs H Q=>∃i j,xs=[.int i,.int j]/\Q (.int (if j<i then j else i)) H
noncomputable def zdm (K:Fg):List V->Hp->VK->Prop:=λxs H Q=>∃p ys,xs=[.ref p]/\(SqL K H p ys\/SqT K H p ys)/\∀l,H l=none->Q (.ref l) (upd H l (.lst ys))
noncomputable def zgy (K:Fg):List V->Hp->VK->Prop:=λxs H Q=>∃p ys,xs=[.ref p]/\((SqL K H p ys/\∀l,H l=none->Q (.ref l) (upd H l (.tup ys)))\/(SqT K H p ys/\Q (.ref p) H))
section
variable {X:Cx}
def ziI:CallR X (.builtin "abs") zsG:=zpr
def zoe:CallR X (.builtin "len") (zmI X.K):=zj5
def znL(a:X.calm=true):CallR X (.builtin "max") zqf:=zoo a
def zc6(a:X.calm=true):CallR X (.builtin "min") zqd:=zow a
def zmo:CallR X (.type "list") (zdm X.K):=zjL
def zkV:CallR X (.type "tuple") (zgy X.K):=zjq
abbrev zs7(K:Fg)(ta:TE):TT:=λσ H Q=>ta σ H λx H'=>∃k,zhT K x H' k/\Q k H'
def zni{a:Expr}{ta:TE}(c:PE X a ta)(b:∀whole,isTrue a X.env whole=(do let v <- whole;standAt a.pos;holding [v] (truthy v))):PT X a (zs7 X.K ta):=zp5 c b
end
noncomputable def zso (t u:TS):TS:=λD σ H=>∃M:St->Hp->Prop,t { D with nx:=M } σ H/\∀σ' H',M σ' H'->u D σ' H'
def zlM{X:Cx}{st:Stmt}{rest:List Stmt}{t u:TS}(h1:PS X st t)(h2:PSs X rest u):PSs X (st :: rest) (zso t u):=by
 intro pins s σ H D I h;obtain⟨M,b,d⟩:=h;refine wpAny_execs_cons (thn (h1 pins s σ H _ I b) λf e q=>?_);cases f with
 | next=>
  obtain⟨a,H',c,q'⟩:=q;exact h2 pins e a H' D c (d a H' q')
 | brk=>exact q
 | cont=>exact q
 | ret u=>exact q
noncomputable def NoX (CX:CXT):Prop:=∀(outer:List Env) (H:Hp) (s:Shared) (e:Value) (s':Shared),CX outer H s E0 e s'->False
def zaD{CX:CXT}{X:Cx}(h:NoX CX):zc2 CX X E0:=λ_ _ H s e s' _ q=>(h _ H s e s' q).elim
def Fun.okN{P:Program}{w:World}{K:Fg}{mg:Str->Option Value}{base:Heap}{CX:CXT}{x qual:Str}{st:Stmt}{f:Addr}{fd:FuncData}{N ps:List Str}{k:Nat}{sp:Sp}(F:Fun K x qual st f fd)(S:FnScope N ps (zj st))(len:∀vs H Q E,sp vs H Q E->vs.length=ps.length)
  (hbody:∀(a:Value) (A:Around) (outer:List Env) (s:Shared) (H:Hp) (vs:List V) (Q:VK) (E:XK),Room k (A.deeper (envOfC qual (zj st) s.heap.objs.size f a))->sp vs H Q E ->
   ∃t,PSs (zay CX P w K mg base N qual (zj st) f a A outer s H E).nox (zbb st) t/\t { nx:=λ_ H'=>Q .non H',rt:=Q } (start N vs) H):FnOk P w K mg base CX (k+1) f fd ps sp:=by
 obtain⟨j,od,kV,d,m,l,a,ct,g,rfl,e,c⟩:=F.ex;refine zmR e c S len λA outer s H vs Q E i b=>?_;obtain⟨t,h,q⟩:=hbody a A outer s H vs Q E i b;exact⟨t,h.nox,q⟩
section
variable {σ:St}{H:Hp}{Q:VK}{D:Ends}{ta tb tc te:TE}{t u:TS}{K:Fg}
def zui{i:Nat}{v:V}(e:σ[i]?=some (some v))(q:Q v H):zj3 i σ H Q:=⟨v,e,q⟩
def x_c{v:V}(q:Q v H):tC v σ H Q:=q
def zuF{g:Int->Int->V}{i j:Int}(q:Q (g i j) H):rI0 g (.int i) (.int j) H Q:=⟨i,j,rfl,rfl,q⟩
def zt4{i j:Int}(q:Q (.int (i+j)) H):zg1 K (.int i) (.int j) H Q:=.inl ⟨i,j,rfl,rfl,q⟩
def zmi{i j:Int}(c:CMulS i j)(q:Q (.int (i*j)) H):zdQ (.int i) (.int j) H Q:=.inl ⟨i,j,rfl,rfl,c,q⟩
def zqz{i j:Int}(a:0<j)(b:sz j<=9000)(q:Q (.int (i/j)) H):zjw (.int i) (.int j) H Q:=
 ⟨i,j,rfl,rfl,⟨⋯,.inl b⟩,by show Q (.int (i.fdiv j)) H;rw[Int.fdiv_eq_ediv_of_nonneg _ (Int.le_of_lt a)];exact q⟩
def znv{i j:Int}(a:j≠0)(b:sz j<=9000)(q:Q (.int (i.fdiv j)) H):zjw (.int i) (.int j) H Q:=⟨i,j,rfl,rfl,⟨a,.inl b⟩,q⟩
def ztM{i j:Int}(a:0<j)(q:Q (.int (i%j)) H):zmS (.int i) (.int j) H Q:=
 ⟨i,j,rfl,rfl,⋯,by show Q (.int (i.fmod j)) H;rw[Int.fmod_eq_emod_of_nonneg _ (Int.le_of_lt a)];exact q⟩
def zt6{i j k:Int}(c:zmL i j)(e:i ^ j.toNat=k)(q:Q (.int k) H):rI zmL (λi j=>.int (i ^ j.toNat)) (.int i) (.int j) H Q:=⟨i,j,rfl,rfl,c,by show Q (.int (i ^ j.toNat)) H;rw[e];exact q⟩
def ztQ{i:Int}(q:Q (.int (-i)) H):rU (λi=>.int (-i)) (.int i) H Q:=⟨i,rfl,q⟩
def dI{i j:Int}:decide (V.int i=V.int j)=decide (i=j):=by simp
def zqo{i j:Int}(q:Q (.bl (decide (i=j))) H):zex K (.int i) (.int j) H Q:=.inr ⟨rfl,by rw[dI];exact q⟩
def zt2{i j:Int}(q:Q (.bl (!decide (i=j))) H):zfe K (.int i) (.int j) H Q:=.inr ⟨rfl,by rw[dI];exact q⟩
def zqx{x y:V}{d e:PyData}(h1:RepD K H x d)(h2:RepD K H y e)(hd:min d.depth e.depth<=60)(q:Q (.bl (PyData.eqv d e)) H):zex K x y H Q:=.inl ⟨d,e,h1,h2,hd,q⟩
def zqy{x y:V}{d e:PyData}(h1:RepD K H x d)(h2:RepD K H y e)(hd:min d.depth e.depth<=60)(q:Q (.bl (!PyData.eqv d e)) H):zfe K x y H Q:=.inl ⟨d,e,h1,h2,hd,q⟩
def zmC{a:Addr}{xs:List V}{i:Int}{v:V}(h:SqL K H a xs)(e:atI xs i=some v)(q:Q v H):rIx K (.ref a) (.int i) H Q:=.inl ⟨a,xs,i,v,rfl,rfl,h,e,q⟩
def zt8{a:Addr}{xs:List V}{i:Int}{v:V}(h:SqT K H a xs)(e:atI xs i=some v)(q:Q v H):rIx K (.ref a) (.int i) H Q:=.inr (.inl ⟨a,xs,i,v,rfl,rfl,h,e,q⟩)
def zuI{T:Bool->Prop}{b:Bool}(q:T b):∃k,V.bl b=.bl k/\T k:=⟨b,rfl,q⟩
def zsY{T:Bool->Prop}{b:Bool}(q:T b):∃k,zhT K (.bl b) H k/\T k:=⟨b,rfl,q⟩
def ztk(q:ta σ H λx H1=>∃c,x=.bl c/\if c=true then tb σ H1 Q else Q (.bl false) H1):zqI ta tb σ H Q:=q
def zsO(q:ta σ H λx H1=>∃k,zhT K x H1 k/\Q (.bl (!k)) H1):zmt K ta σ H Q:=q
def zue{p:Prop}[Decidable p]{A B:Prop}(h1:p->A)(h2:¬p->B):if decide p=true then A else B:=by
 by_cases h:p
 ·rw[if_pos (decide_eq_true h)];exact h1 h
 ·rw[if_neg (by rw[decide_eq_false h];exact yp)];exact h2 h
def zsk{p:Prop}[Decidable p]{A B:Prop}(h1:¬p->A)(h2:p->B):if(!decide p)=true then A else B:=by
 by_cases h:p
 ·rw[if_neg (by rw[decide_eq_true h];exact yp)];exact h2 h
 ·rw[if_pos (by rw[decide_eq_false h];rfl)];exact h1 h
def zfw{A B:Prop}(h:A):if true=true then A else B:=by rw[if_pos rfl];exact h
def zkq{A B:Prop}(h:B):if false=true then A else B:=by rw[if_neg yp];exact h
def zqS{A B:Prop}(h:B):if(!true)=true then A else B:=zkq h
def zrW{A B:Prop}(h:A):if(!false)=true then A else B:=zfw h
def ztU(q:te σ H D.rt):ztB te D σ H:=q
def zX{R:List V->Hp->Prop}(q:R [] H):zfA σ H R:=q
def zsE{sp:Sp}{E:XK}{tr:TA}(q:tr σ H λvs H1=>sp vs H1 Q E):zeI sp [] E tr σ H Q:=by unfold zeI;simp only[List.append_nil];exact q
noncomputable def zfb (Q:VK) (xs:List V) (H:Hp):Prop:=xs.length<=sizeLine/\∀p,H p=none->Q (.ref p) (upd H p (.tup xs))
noncomputable def zp8 (Q:VK) (xs:List V) (H:Hp):Prop:=xs.length<=sizeLine/\∀p,H p=none->Q (.ref p) (upd H p (.lst xs))
def zuk{tr:TA}(q:tr σ H (zfb Q)):zsc tr σ H Q:=q
def zt9{tr:TA}(q:tr σ H (zp8 Q)):ztu tr σ H Q:=q
def zua{i:Int}(q:Q (.int (if i<0 then -i else i)) H):zsG [.int i] H Q:=⟨i,rfl,q⟩
def zsU{a:Addr}{xs:List V}(h:SqL K H a xs)(q:Q (.int xs.length) H):zmI K [.ref a] H Q:=⟨a,xs,rfl,.inl h,q⟩
def zut{i j:Int}(q:Q (.int (if j>i then j else i)) H):zqf [.int i,.int j] H Q:=⟨i,j,rfl,q⟩
def ztO{i j:Int}(q:Q (.int (if j<i then j else i)) H):zqd [.int i,.int j] H Q:=⟨i,j,rfl,q⟩
def zo{N:List Str}{vs:List V}{σ0:St}(e:start N vs=σ0)(q:t D σ0 H):t D (start N vs) H:=by rw[e];exact q
end
def Same.new{H:Hp}{p:Addr}(h:H p=none)(o:HO):Same H (upd H p o):=λb u q=>by rw[zN (zE q h)];exact q
open PySem PySem.Spec PyProof.Rows
def zhP{env:Env}{scope:Scope}(h:∀y∈scope.names,y.2=.free->∃c,env.cells.lookup y.1=some c) :
  ∃cl,closureFor scope env=pure cl/\(∀x c,cl.lookup x=some c->env.cells.lookup x=some c)/\∀y∈scope.names,y.2=.free->cl.lookup y.1=env.cells.lookup y.1:=by
 unfold closureFor;have s:∀(names:List (Str × NameKind)) (b:List (Str × Addr)),(∀y∈names,y.2=.free->∃c,env.cells.lookup y.1=some c)->(∀x c,b.lookup x=some c->env.cells.lookup x=some c) ->
   ∃cl,(forIn (m:=Sem) names b fun(x:Str × NameKind) r=>if(x.2 == .free)=true then(do let a <- cellOf env x.1;pure (ForInStep.yield ((x.1,a) :: r)))else pure (ForInStep.yield r))=pure cl /\
    (∀x c,cl.lookup x=some c->env.cells.lookup x=some c)/\(∀y∈names,y.2=.free->cl.lookup y.1=env.cells.lookup y.1)/\(∀x,(∃c,b.lookup x=some c)->cl.lookup x=env.cells.lookup x):=by
  intro names
  induction names with
  | nil=>intro b _ i;exact⟨b,rfl,i,λ_ d=>(nomatch d),λx ⟨c,e⟩=>by rw[e,i x c e]⟩
  | cons y r ih=>
   intro b t i;obtain⟨n,k⟩:=y;have u:∀y∈r,y.2=.free->∃c,env.cells.lookup y.1=some c:=λy d=>t y (List.mem_cons_of_mem _ d);by_cases q:k=.free
   ·subst q;obtain⟨c,v⟩:=t (n,.free) List.mem_cons_self rfl;have p:∀x f,List.lookup x ((n,c) :: b)=some f->env.cells.lookup x=some f:=λx f e=>by
     rw[List.lookup_cons]at e;cases g:x == n with
     | true=>rw[g]at e;cases e;rw[beq_iff_eq.mp g];exact v
     | false=>rw[g]at e;exact i x f e
    obtain⟨cl,e,h1,h2,o⟩:=ih ((n,c) :: b) u p;refine⟨cl,?_,h1,λy d l=>?_,λx w=>?_⟩
    ·rw[List.forIn_cons];simp only[cellOf,v,beq_self_eq_true,if_true];exact e
    ·rcases List.mem_cons.mp d with rfl | d
     ·exact o n ⟨c,by rw[List.lookup_cons];simp⟩
     ·exact h2 y d l
    ·refine o x ?_;obtain⟨f,j⟩:=w;rw[List.lookup_cons];cases g:x == n with
     | true=>exact⟨c,rfl⟩
     | false=>exact⟨f,j⟩
   ·obtain⟨cl,e,h1,h2,o⟩:=ih b u i;refine⟨cl,?_,h1,λy d l=>?_,o⟩
    ·rw[List.forIn_cons];have g:(k == NameKind.free)=false:=by simpa using q
     simp only[g,Bool.false_eq_true,if_false];exact e
    ·rcases List.mem_cons.mp d with rfl | d
     ·exact absurd l q
     ·exact h2 y d l
 obtain⟨cl,e,h1,h2,_⟩:=s scope.names [] h (λ_ _ z=>by simp at z);refine⟨cl,?_,h1,h2⟩
 show(forIn scope.names [] _ >>= λr=>pure r)=pure cl
 have j:(forIn (m:=Sem) scope.names [] fun(x:Str × NameKind) (r:List (Str × Addr))=>match x with | (name,kind)=>if(kind == .free)=true then(do let a <- cellOf env name;pure (ForInStep.yield ((name,a) :: r)))else pure (ForInStep.yield r))=pure cl:=e
 first
  | (rw[j];rfl)
  | (simp only[j];rfl)
theorem zb8:∀(names:List (Str × NameKind)) (n:Nat) (acc:List (Str × Addr)),cellsFrom n names acc=cellsFrom n names []++acc
 | [],_,_=>rfl
 | (name,kind) :: r,n,acc=>by
  unfold cellsFrom;split
  ·rw[zb8 r (n+1) ((name,n) :: acc),zb8 r (n+1) [(name,n)],List.append_assoc];rfl
  ·exact zb8 r n acc
theorem zcr{α:Type}{x:Str}:∀{l r:List (Str × α)},(l++r).lookup x=match l.lookup x with | some c=>some c | none=>r.lookup x
 | [],_=>rfl
 | (k,v) :: l,r=>by
  rw[List.cons_append,List.lookup_cons,List.lookup_cons];cases x == k with
  | true=>rfl
  | false=>exact zcr (l:=l)
noncomputable def zr1 (scope:Scope) (cs:List (Str × Addr)) (C:Addr) (env:Env):Env:=
 { scope:=relabel scope env,locals:=C,globals:=env.globals,cells:=cs,qual:=env.qual,func:=none,code:=env.code,frame:=env.frame,builtins:=env.builtins }
def zjk{M:Model}{A:Around}{E:Value->Shared->Prop}{s:Shared}{scope:Scope}{globals:Addr}{cl:List (Str × Addr)}{qual:Str}{env:Env}{Q:Env->Shared->Prop}
  (hQ:∀(own:List (Str × Addr)) (s':Shared),own=cellsFrom (s.heap.objs.size+1) scope.names []->s'={ s with heap:=s'.heap }->(∀b o,s.heap.get? b=some o->s'.heap.get? b=some o) ->
   s'.heap.Ns s.heap.objs.size (λ_=>none)->(∀n c,(n,c)∈own->s'.heap.IsCell c none/\s.heap.objs.size+1<=c)->(own.Pairwise λx y=>x.2≠y.2) ->
   Q { scope:=scope,locals:=s.heap.objs.size,globals:=globals,cells:=own++cl,qual:=qual,func:=none,code:=env.code,frame:=env.frame,builtins:=env.builtins } s') :
  wpAny M A (newFunctionEnv scope globals cl [] qual none .none (some env)) Q E s:=by
 simp only[newFunctionEnv,Option.isSome_some,if_true];refine wpAny_bind (wpAny_alloc ?_);refine wpAny_bind (wpAny_layCells _ (λname kind cells=>by cases hkc:kind == NameKind.cell<;>simp[hkc]) _ _ _ _ ?_);have ok:=cellsFrom_ok scope.names (s.heap.push { cls:=.type "dict",data:=.dict #[] }) (s.heap.objs.size+1) [] ⟨λ_ _ a=>(nomatch a),List.Pairwise.nil⟩ (by rw[Heap.size_push];exact yg _);rw[Heap.size_push]at ok;rw[show({ s with heap:=s.heap.push { cls:=.type "dict",data:=.dict #[] } }:Shared).heap.objs.size=s.heap.objs.size+1 from Heap.size_push ..];rw[zb8];have fin:=hQ _ { s with heap:=pushCells (s.heap.push { cls:=.type "dict",data:=.dict #[] }) scope.names } rfl rfl (λb o e=>pushCells_keeps _ _ b o (Heap.get?_push_of_some _ e))
  ((Heap.Ns.new s.heap (.type "dict")).keeps (pushCells_keeps _ _)) ok.empty ok.apart
 exact wpAny_bind (wpAny_pure (wpAny_pure fin))
theorem zcF{env:Env}:∀{names:List (Str × NameKind)} {x:Str},names.lookup x=some .free ->
  (names.map fun(n,k)=>if(k == NameKind.free&&env.scope.kind == .function&&env.kindOf n == some .cell) then(n,NameKind.cell) else(n,k)).lookup x=some .cell \/
  (names.map fun(n,k)=>if(k == NameKind.free&&env.scope.kind == .function&&env.kindOf n == some .cell) then(n,NameKind.cell) else(n,k)).lookup x=some .free
 | [],_,h=>by simp at h
 | (n,k) :: r,x,h=>by
  have b:=@zcF env r x;show List.lookup x ((if(k == NameKind.free&&env.scope.kind == .function&&env.kindOf n == some .cell)=true then(n,NameKind.cell) else(n,k)) :: _)=_\/List.lookup x ((if(k == NameKind.free&&env.scope.kind == .function&&env.kindOf n == some .cell)=true then(n,NameKind.cell) else(n,k)) :: _)=_;by_cases a:(k == NameKind.free&&env.scope.kind == .function&&env.kindOf n == some .cell)=true
  ·rw[if_pos a];cases hx:x == n with
   | true=>left;simp[List.lookup_cons,hx]
   | false=>simp only[List.lookup_cons,hx]at h ⊢;exact b h
  ·rw[if_neg a];cases hx:x == n with
   | true=>simp only[List.lookup_cons,hx]at h ⊢;exact .inr h
   | false=>simp only[List.lookup_cons,hx]at h ⊢;exact b h
theorem zcD{env:Env}:∀{names:List (Str × NameKind)} {x:Str},(names.map fun(n,k)=>if(k == NameKind.free&&env.scope.kind == .function&&env.kindOf n == some .cell) then(n,NameKind.cell) else(n,k)).lookup x=some .cell \/
  (names.map fun(n,k)=>if(k == NameKind.free&&env.scope.kind == .function&&env.kindOf n == some .cell) then(n,NameKind.cell) else(n,k)).lookup x=some .free->names.lookup x=some .cell\/names.lookup x=some .free
 | [],_,h=>by simp at h
 | (n,k) :: r,x,h=>by
  have b:=@zcD env r x;have h':List.lookup x ((if(k == NameKind.free&&env.scope.kind == .function&&env.kindOf n == some .cell)=true then(n,NameKind.cell) else(n,k)) :: (r.map fun(n,k)=>if(k == NameKind.free&&env.scope.kind == .function&&env.kindOf n == some .cell) then(n,NameKind.cell) else(n,k)))=some .cell \/
   List.lookup x ((if(k == NameKind.free&&env.scope.kind == .function&&env.kindOf n == some .cell)=true then(n,NameKind.cell) else(n,k)) :: (r.map fun(n,k)=>if(k == NameKind.free&&env.scope.kind == .function&&env.kindOf n == some .cell) then(n,NameKind.cell) else(n,k)))=some .free:=h
  clear h;by_cases a:(k == NameKind.free&&env.scope.kind == .function&&env.kindOf n == some .cell)=true
  ·have c:k=.free:=by
    rw[Bool.and_eq_true,Bool.and_eq_true]at a;exact beq_iff_eq.mp a.1.1
   subst c;rw[if_pos a]at h';cases hx:x == n with
   | true=>right;simp[List.lookup_cons,hx]
   | false=>simp only[List.lookup_cons,hx]at h' ⊢;exact b h'
  ·rw[if_neg a]at h';cases hx:x == n with
   | true=>simp only[List.lookup_cons,hx]at h' ⊢;exact h'
   | false=>simp only[List.lookup_cons,hx]at h' ⊢;exact b h'
theorem zc5{env:Env}:∀{names:List (Str × NameKind)} {x:Str},names.lookup x=some .cell ->
  (names.map fun(n,k)=>if(k == NameKind.free&&env.scope.kind == .function&&env.kindOf n == some .cell) then(n,NameKind.cell) else(n,k)).lookup x=some .cell
 | [],_,h=>by simp at h
 | (n,k) :: r,x,h=>by
  have b:=@zc5 env r x;show List.lookup x ((if(k == NameKind.free&&env.scope.kind == .function&&env.kindOf n == some .cell)=true then(n,NameKind.cell) else(n,k)) :: _)=_;by_cases a:(k == NameKind.free&&env.scope.kind == .function&&env.kindOf n == some .cell)=true
  ·rw[if_pos a];cases hx:x == n with
   | true=>simp[List.lookup_cons,hx]
   | false=>simp only[List.lookup_cons,hx]at h ⊢;exact b h
  ·rw[if_neg a];cases hx:x == n with
   | true=>simp only[List.lookup_cons,hx]at h ⊢;exact h
   | false=>simp only[List.lookup_cons,hx]at h ⊢;exact b h
def zr0{names:List (Str × NameKind)}:∀{n:Nat} {a:List (Str × Addr)} {x:Str} {c:Addr},(x,c)∈cellsFrom n names a->(x,.cell)∈names\/(x,c)∈a:=by
 induction names with
 | nil=>intro n a x c h;exact .inr h
 | cons y r ih=>
  intro n a x c h;obtain⟨nm,k⟩:=y;unfold cellsFrom at h;split at h
  ·rename_i b;rcases ih h with h | h
   ·exact .inl (List.mem_cons_of_mem _ h)
   ·rcases List.mem_cons.mp h with e | h
    ·cases e;rw[beq_iff_eq.mp b];exact .inl List.mem_cons_self
    ·exact .inr h
  ·rcases ih h with h | h
   ·exact .inl (List.mem_cons_of_mem _ h)
   ·exact .inr h
def zfB{names:List (Str × NameKind)}(nd:(names.map (·.1)).Nodup){x:Str}{k:NameKind}(h:(x,k)∈names):names.lookup x=some k:=by
 induction names with
 | nil=>cases h
 | cons y r ih=>
  obtain⟨n,d⟩:=y;rw[List.map_cons,List.nodup_cons]at nd;rw[List.lookup_cons];rcases List.mem_cons.mp h with e | b
  ·cases e;simp
  ·have a:x≠n:=λe=>nd.1 (List.mem_map.mpr ⟨(x,k),b,e⟩);have c:(x == n)=false:=by simpa using a
   rw[c];exact ih nd.2 b
noncomputable def zaV (X:Cx) (scope:Scope) (Ni:List Str) (cs:List (Str × Addr)) (a:Shared) (b:Hp) (fp:List Addr) (pins:List (Addr × Obj)):Cx:=
 { X with N:=Ni,s₀:=a,H₀:=b,env:=zr1 scope cs a.heap.objs.size X.env,outer:=X.stack,stack:=X.stack,ex:=fp,fn:=λy=>decide (scope.names.lookup y=some .cell),pn:=X.pn++pins,xe:=λ_ _=>False }
structure CompScope(X:Cx)(scope:Scope)(Ni:List Str)(caps:List (Option Nat)):Prop where
 kind:scope.kind=.function
 ndn:(scope.names.map (·.1)).Nodup
 free:∀y∈scope.names,y.2=.free->X.env.kindOf y.1=some .cell\/X.env.kindOf y.1=some .free
 nd:Ni.Nodup
 len:caps.length=Ni.length
 cap:∀(i:Nat) (y:Str) (j:Nat),Ni[i]?=some y->caps[i]?=some (some j)->X.N[j]?=some y/\scope.names.lookup y=some .free
noncomputable def zen (a:Scope) (b:List Str) (scope:Scope) (Ni:List Str) (caps:List (Option Nat)):Bool:=
 (scope.kind == .function)&&decide ((scope.names.map (·.1)).Nodup)&&(scope.names.all λy=>y.2 != .free || a.names.lookup y.1 == some .cell || a.names.lookup y.1 == some .free) &&
 decide Ni.Nodup&&(caps.length == Ni.length)&&((Ni.zip caps).all λp=>match p.2 with | none=>true | some j=>b[j]? == some p.1&&scope.names.lookup p.1 == some .free)
def zam{X:Cx}{scope:Scope}{Ni:List Str}{caps:List (Option Nat)}(h:zen X.env.scope X.N scope Ni caps=true):CompScope X scope Ni caps:=by
 unfold zen at h;simp only[Bool.and_eq_true]at h;obtain⟨⟨⟨⟨⟨h1,h2⟩,f⟩,d⟩,a⟩,c⟩:=h;refine⟨beq_iff_eq.mp h1,of_decide_eq_true h2,λy e b=>?_,of_decide_eq_true d,beq_iff_eq.mp a,λi y j e1 e2=>?_⟩
 ·have q:=List.all_eq_true.mp f y e;rw[Bool.or_eq_true,Bool.or_eq_true]at q;rcases q with(q | q) | q
  ·rw[b]at q;simp at q
  ·exact .inl (beq_iff_eq.mp q)
  ·exact .inr (beq_iff_eq.mp q)
 ·have g:(y,some j)∈Ni.zip caps:=by
   refine ym (i:=i) ?_;rw[List.getElem?_zip_eq_some];exact⟨e1,e2⟩
  have q:=List.all_eq_true.mp c _ g;simp only[Bool.and_eq_true]at q;exact⟨beq_iff_eq.mp q.1,beq_iff_eq.mp q.2⟩
noncomputable def zb9 (caps:List (Option Nat)) (σ:St):St:=caps.map λo=>match o with | some j=>(σ[j]?).getD none | none=>none
section
variable {X:Cx}
structure CompAt(X:Cx)(scope:Scope)(own cl:List (Str × Addr))(s₃:Shared):Prop where
 oeq:own=cellsFrom (s₃.heap.objs.size+1) scope.names []
 apart:own.Pairwise λx y=>x.2≠y.2
 above:∀n c,(n,c)∈own->s₃.heap.objs.size+1<=c
 sub:∀x c,cl.lookup x=some c->X.env.cells.lookup x=some c
 all:∀y∈scope.names,y.2=.free->cl.lookup y.1=X.env.cells.lookup y.1
def CompAt.look{scope:Scope}{own cl:List (Str × Addr)}{a:Shared}(T:CompAt X scope own cl a){x:Str}{c:Addr}(h:(own++cl).lookup x=some c):(x,c)∈own\/X.env.cells.lookup x=some c:=by
 rw[zcr]at h;cases e:own.lookup x with
 | some c'=>rw[e]at h;cases h;exact .inl (mem_of_lookup e)
 | none=>rw[e]at h;exact .inr (T.sub x c h)
def zgk{pins:List (Addr × Obj)}{σ:St}{H:Hp}{s:Shared}(I:Inv X pins σ H s){x:Str}{c:Addr}(h:X.env.cells.lookup x=some c):c<s.heap.objs.size:=by
 obtain⟨v,o,a,_⟩:=I.cell x c h;exact Heap.lt_size a
def zrS{scope:Scope}{Ni:List Str}{caps:List (Option Nat)}{own cl:List (Str × Addr)}{pins:List (Addr × Obj)}{σ:St}{l:Hp}{i:Shared}{fp:List Addr}
  (S:CompScope X scope Ni caps) (T:CompAt X scope own cl i) (I:Inv X pins σ l i) (f:∀b∈fp,zcw X pins l b) (hf:∀b∈fp,b<i.heap.objs.size):(zaV X scope Ni (own++cl) i l fp pins).Ok where
 mod:=I.ok.mod
 kind:=S.kind
 glob:=I.ok.glob
 blt:=I.ok.blt
 above:=yg _
 inj:=λx y c h1 h2=>by
  rcases T.look h1 with a | a
  ·rcases T.look h2 with b | b
   ·exact name_of_addr T.apart a b
   ·exact absurd (Nat.lt_of_lt_of_le (zgk I b) (Nat.le_of_succ_le (T.above x c a))) (Nat.lt_irrefl _)
  ·rcases T.look h2 with b | b
   ·exact absurd (Nat.lt_of_lt_of_le (zgk I a) (Nat.le_of_succ_le (T.above y c b))) (Nat.lt_irrefl _)
   ·exact I.ok.inj x y c a b
 has:=λx h=>by
  have h':=zcD (env:=X.env) (names:=scope.names) (x:=x) h;show ∃c,(own++cl).lookup x=some c;rw[zcr];cases e:own.lookup x with
  | some c=>exact⟨c,rfl⟩
  | none=>
   rcases h' with h' | h'
   ·obtain⟨c,d⟩:=zeB (n:=i.heap.objs.size+1) h';rw[<- T.oeq,e]at d;cases d
   ·have k:=mem_of_lookup h';obtain⟨c,d⟩:=I.ok.has x (S.free _ k rfl);exact⟨c,(T.all _ k rfl).trans d⟩
 cab:=λx c h1 h2=>by
  have m:scope.names.lookup x=some .cell:=of_decide_eq_true h1;obtain⟨p,d⟩:=zeB (n:=i.heap.objs.size+1) m;rw[<- T.oeq]at d;have j:(own++cl).lookup x=some c:=h2;rw[zcr,d]at j;cases j
  have:=T.above x _ (mem_of_lookup d)
  show i.heap.objs.size<=_;lia
 hd:=I.ok.hd
 frames:=I.ok.frames
 stk:=.inl rfl
 exf:=λb g=>⟨yo (hf b g),λx c h=>by
  rcases T.look h with a | a
  ·exact λe=>absurd (Nat.lt_of_lt_of_le (hf b g) (Nat.le_of_succ_le (e▸T.above x c a))) (Nat.lt_irrefl _)
  ·exact(f b g).2.2.2.2.1 x c a⟩
 bs:=I.bs
 bsz:=ya I.ok.bsz I.sz
 noex:=λb o e g=>by
  rcases(f b g).2.2.2.1 with z | z
  ·exact I.ok.noex b o e z
  ·have h1:b<X.base.objs.size:=Heap.lt_size e;have h2:=I.ok.bsz;exact absurd (Nat.lt_of_lt_of_le h1 (ya h2 z)) (Nat.lt_irrefl _)
 exfs:=λb g k=>by
  rcases List.mem_cons.mp (I.stkSub b k)with z | z
  ·exact(f b g).2.1 z
  ·exact(f b g).2.2.1 z
 funs:=I.stack
 frf:=I.stkFree
def zmE{scope:Scope}{Ni:List Str}{caps:List (Option Nat)}{own cl:List (Str × Addr)}{pins:List (Addr × Obj)}{σ:St}{A:Hp}{s w:Shared}{fp:List Addr}
  (S:CompScope X scope Ni caps) (T:CompAt X scope own cl s) (I:Inv X pins σ A s) (f:∀b∈fp,zcw X pins A b) (hf:∀b∈fp,b<s.heap.objs.size)
  (e4:w={ s with heap:=w.heap }) (k:∀b o,s.heap.get? b=some o->w.heap.get? b=some o) (ns:w.heap.Ns s.heap.objs.size λ_=>none) (oc:∀n c,(n,c)∈own->w.heap.IsCell c none) :
  Inv (zaV X scope Ni (own++cl) s A fp pins) [] (zb9 caps σ) A w where
 ok:=zrS S T I f hf
 os:=by rw[e4];rfl
 bare:=by rw[e4];exact I.bare
 base:=Un.kept k
 loc:=by
  refine⟨_,ns,λi x v h1 h2 D=>?_⟩;have d:(zb9 caps σ)[i]?=some (some v):=h2;unfold zb9 at d;rw[yf]at d;cases ec:caps[i]? with
  | none=>rw[ec]at d;cases d
  | some o=>
   cases o with
   | none=>rw[ec]at d;cases d
   | some j=>
    rw[ec]at d;have g:(σ[j]?).getD none=some v:=yk d;have K:σ[j]?=some (some v):=by
     cases e:σ[j]? with
     | none=>rw[e]at g;cases g
     | some z=>rw[e]at g;exact congrArg some g
    obtain⟨J,t⟩:=S.cap i x j h1 ec;have F:=mem_of_lookup t;have C:=S.free _ F rfl;obtain⟨m,_,M⟩:=I.loc;obtain⟨u,r,l⟩:=M j x v J K (by rcases C with z | z;exact .inr (.inl z);exact .inr (.inr z));refine⟨u,r,.inr ⟨zcF t,?_⟩⟩;rcases l with⟨z,_⟩ | ⟨_,c,hc,q⟩
    ·have L:X.env.kindOf x=some .local:=z;rcases C with y | y<;>(have E:X.env.kindOf x=_:=y;rw[L]at E;cases E)
    ·refine⟨c,?_,q.keeps k⟩
     show(own++cl).lookup x=some c
     rw[zcr];cases eo:own.lookup x with
     | some c'=>
      rw[T.oeq]at eo;rcases zr0 (mem_of_lookup eo)with y | y
      ·have:=zfB S.ndn y
       rw[t]at this;cases this
      ·cases y
     | none=>exact(T.all _ F rfl).trans hc
 cell:=λx c h=>by
  rcases T.look h with a | a
  ·exact⟨_,oc x c a⟩
  ·obtain⟨v,q⟩:=I.cell x c a;exact⟨v,q.keeps k⟩
 free:=I.hok.fresh (yg _)
 freeC:=λx c h=>by
  rcases T.look h with a | a
  ·exact I.hok.fresh (by have:=T.above x c a;lia)
  ·exact I.freeC x c a
 pin:=λp hp=>by
  have B:p∈X.pn++pins:=by
   have:p∈(X.pn++pins)++[]:=hp
   simpa using this
  obtain⟨h1,h2,D,H,G⟩:=I.pin p B;refine⟨k _ _ h1,h2,yo (Heap.lt_size h1),λz=>?_,G⟩;rcases List.mem_cons.mp (I.stkSub _ z)with y | y
  ·exact D y
  ·exact H y
 hok:=I.hok.kept k
 len:=by
  show(zb9 caps σ).length=Ni.length
  unfold zb9;rw[yc];exact S.len
def zpf{scope:Scope}{Ni:List Str}{cs:List (Str × Addr)}{pins:List (Addr × Obj)}{σ g:St}{c H':Hp}{a s':Shared}{fp:List Addr}(I:Inv X pins σ c a)(f:∀b∈fp,zcw X pins c b)
  (J:Inv (zaV X scope Ni cs a c fp pins) [] g H' s'):Inv X pins σ H' s':=by
 have u:Un (frs X.stack) fp c H' a.heap s'.heap:=J.base;have q:=I.call (g':=s'.gens) (t':=s'.toks) (d':=s'.drawn) (ch:=fp) u J.hok J.bare λb d=>⟨(f b d).2.2.2.1,(f b d).2.1,(f b d).2.2.2.2.1,(f b d).2.2.2.2.2⟩
 have e:({ a with heap:=s'.heap,gens:=s'.gens,drawn:=s'.drawn,toks:=s'.toks }:Shared)=s':=by
  have h1:s'.os=a.os:=J.os;cases s';cases a;simp only at h1;subst h1;rfl
 rw[e]at q;exact q
noncomputable def PF (Y:Cx) (a:List Expr) (t:TT):Prop:=∀(pins:List (Addr × Obj)) (s:Shared) (σ:St) (H:Hp) (Q:Bool->Hp->Prop),Inv Y pins σ H s->t σ H Q ->
 wpAny (model Y.prog Y.w) Y.A (forIn a true λc r=>if r=true then do let ok <- isTrue c Y.env (eval c Y.env);pure (ForInStep.yield ok)else pure (ForInStep.yield r)) (TP Y pins σ Q) Y.xe s
abbrev zfo:TT:=λ_ H T=>T true H
def zel{Y:Cx}:PF Y [] zfo:=λpins s σ H Q I h=>wpAny_tests_nil ⟨H,I,h⟩
def zdC{Y:Cx}{c:Expr}{t:TT}(h:PT Y c t):PF Y [c] t:=λpins s σ H Q I q=>wpAny_tests_one (h pins s σ H Q I q)
noncomputable def zeA (wi:TI) (caps:List (Option Nat)) (g:TG) (tf:TT) (te:TE):TE:=λσ H Q=>wi σ H λJ H1=>∀D,H1 D=none ->
 ∃W:Nat->Nat->St->Hp->Prop,(∃m,W 0 m (zb9 caps σ) (upd H1 D (.lst [])))/\∀i m σ' H',W i m σ' H' ->
  (J.stop i H'/\Q (.ref D) H')\/(J.go i H'/\∃N:St->Hp->Prop,(∀σ2 H2,N σ2 H2->∃m',m'<m/\W (i+1) m' σ2 H2) /\
   ∀x H2,J.yld i H' x H2->g x σ' H2 λa e=>tf a e λb c=>if b=true then te a c λv d=>zbn (.ref D) [v] d λ_ f=>N a f else N a c)
def zkJ{P:Program}{w:World}{A:Around}{R:Result->Shared->Prop}{t:Shared}{elt tg iter:Expr}{a:List Expr}{l:Scope}{ps:Pos}{d f:Value}{b:Env}(J:Nat->Shared->Prop)
  (turn:∀n s,J n s->wpAny (model P w) A (pyNext d) (λr i=>match r with | none=>R (.ok .next) i | some v=>wpAny (model P w) A (letOwnedTupleGo tg d v) (λ_ g=>wpAny (model P w) A (assign tg b v) (λ_ p=>
   wpAny (model P w) A (forIn a true λc r=>if r=true then do let ok <- isTrue c b (eval c b);pure (ForInStep.yield ok)else pure (ForInStep.yield r)) (λok h=>if ok=true then wpAny (model P w) A (eval elt b) (λx q=>
    wpAny (model P w) A (call (.builtin "list.append") [f,x]) (λ_ k=>∃m,m<n/\J m k) (notedBy (model P w) A b λe s'=>R (.error e) s') q) (notedBy (model P w) A b λe s'=>R (.error e) s') h
     else ∃m,m<n/\J m h) (notedBy (model P w) A b λe s'=>R (.error e) s') p) (notedBy (model P w) A b λe s'=>R (.error e) s') g) (notedBy (model P w) A b λe s'=>R (.error e) s') i) (notedBy (model P w) A b λe s'=>R (.error e) s') s)
  (n0:Nat) (j0:J n0 t):codeAny (model P w) A (.compLoop (.ListComp elt [⟨tg,iter,a,0⟩] l ps) 0 d f b) R t:=by
 refine codeAny_loop rfl J (λn s B=>?_) n0 j0;show wpAny _ A ((compTurn (.ListComp elt [⟨tg,iter,a,0⟩] l ps) 0 d f b).onRaise (λx=>do noteFrame x b;theTreesLotGoes x)) _ _ s;refine wpAny_noted ?_;rw[compTurn_list];refine wpAny_bind (wpAny_standAt (wpAny_bind (wpAny_mono (turn n s B) (λr i h1=>?_) λ_ _ z=>z)));cases r with
 | none=>exact wpAny_pure h1
 | some v=>
  refine wpAny_bind (wpAny_mono h1 (λ_ g j=>wpAny_bind (wpAny_mono j (λ_ p h2=>wpAny_bind (wpAny_mono h2 (λok h o=>?_) λ_ _ z=>z)) λ_ _ z=>z)) λ_ _ z=>z);cases ok with
  | false=>exact wpAny_pure ⟨rfl,o⟩
  | true=>
   exact wpAny_bind (wpAny_bind (wpAny_mono o (λx q y=>wpAny_bind (wpAny_mono y (λ_ k u=>wpAny_pure (wpAny_pure ⟨rfl,u⟩)) λ_ _ z=>z)) λ_ _ z=>z))
def zns{Y:Cx}{elt iter:Expr}{tg:Expr}{G:List Expr}{scope:Scope}{pos:Pos}{it D:Addr}{fp:List Addr}{H:Nat->Heap->Prop}{J:It}{g:TG}{tf:TT}{te:TE}{Q:VK}{R:Result->Shared->Prop}
  (T:Turn Y.prog Y.w Y.K tg J fp it H) (hc:Y.calm=true) (gY:PG Y tg g) (hF:PF Y G tf) (hE:PE Y elt te) (fpY:∀{H':Hp},(∀b∈fp,H' b=none)->∀b∈fp,zcw Y [] H' b) (hx:∀e s,¬Y.xe e s)
  {W:Nat->Nat->St->Hp->Prop} (turn:∀i m σ' H',W i m σ' H' ->
   (J.stop i H'/\Q (.ref D) H')\/(J.go i H'/\∃N:St->Hp->Prop,(∀σ2 H2,N σ2 H2->∃I,I<m/\W (i+1) I σ2 H2) /\
    ∀x H2,J.yld i H' x H2->g x σ' H2 λL H3=>tf L H3 λb H4=>if b=true then te L H4 λv k=>zbn (.ref D) [v] k λ_ H6=>N L H6 else N L H4))
  (fin:∀σ' H' s',Inv Y [] σ' H' s'->Q (.ref D) H'->R (.ok .next) s') {m0:Nat} {σ0:St} {H0:Hp} {s0:Shared} (I0:Inv Y [] σ0 H0 s0) (st0:H 0 s0.heap) (fr0:∀b∈fp,H0 b=none) (w0:W 0 m0 σ0 H0) :
  codeAny (model Y.prog Y.w) Y.A (.compLoop (.ListComp elt [⟨tg,iter,G,0⟩] scope pos) 0 (.ref it) (.ref D) Y.env) R s0:=by
 refine zkJ (λn s'=>∃i σ' H',Inv Y [] σ' H' s'/\H i s'.heap/\(∀b∈fp,H' b=none)/\W i n σ' H') ?_ m0 ⟨0,_,_,I0,st0,fr0,w0⟩;rintro n s5 ⟨i,F,k,I5,E,C,w5⟩;have c:∀{α:Type} {t:Sem α} {Q1:α->Shared->Prop} {E2:Value->Shared->Prop} {s1:Shared},wpAny (model Y.prog Y.w) Y.A t Q1 Y.xe s1->wpAny (model Y.prog Y.w) Y.A t Q1 E2 s1:=
  λh=>wpAny_mono h (λ_ _ q=>q) λe s z=>(hx e s z).elim
 rcases turn i n F k w5 with⟨stop,qn⟩ | ⟨go,N,hN,step⟩
 ·refine thn (T.done Y rfl rfl rfl hc i [] s5 F k _ I5 (fpY C) E stop) λr s6 ⟨hr,I6⟩=>?_;subst hr;exact fin F k s6 I6 qn
 ·refine thn (T.item Y rfl rfl rfl hc i [] s5 F k _ I5 (fpY C) E go) λr s6 ⟨u,hr,h6⟩=>?_;subst hr;refine thn h6 λ_ s7 j=>?_;obtain⟨x7,H7,I7,r7,y7,f,O⟩:=j;have U:=I7.pinned (fpY O) (T.obj _ _ f);have a:∀{σ9:St} {l:Hp} {B:Shared},Inv Y ([]++zfI fp s7.heap) σ9 l B->N σ9 l->∃m,m<n/\∃i σ' H',Inv Y [] σ' H' B/\H i B.heap/\(∀b∈fp,H' b=none)/\W i m σ' H':=λ{σ9 l B} p n9=>by
   obtain⟨I,hm,w9⟩:=hN σ9 l n9;refine⟨I,hm,i+1,σ9,l,p.unpinned,T.keep _ _ _ f λb M o e=>(p.pin (b,o) (List.mem_append_right _ (List.mem_append_right _ (zdk M e)))).1,λb M=>?_,w9⟩;obtain⟨o,e,d⟩:=T.obj _ _ f b M;exact(p.pin (b,o) (List.mem_append_right _ (List.mem_append_right _ (zdk M e)))).2.1
  refine c (thn (gY _ s7 F H7 x7 u _ U r7 (step x7 _ y7)) λ_ s8 j=>?_);obtain⟨σ8,H8,I8,q8⟩:=j;refine c (thn (hF _ s8 _ _ _ I8 q8) λb B ⟨l,p,q9⟩=>?_);cases b with
  | false=>exact a p q9
  | true=>
   refine c (thn (hE _ B _ _ _ p q9) λy P j=>?_);obtain⟨Z,a4,S,V,a0⟩:=j;refine c (thn (zi0 (X:=Y) _ P _ _ (.ref D) [Z] (.ref D) [y] _ S rfl (.cons V .nil) a0) λ_ a5 j=>?_);obtain⟨a3,a6,a1,_,a2⟩:=j;exact a a1 a2
def zag{scope:Scope}{Ni:List Str}{caps:List (Option Nat)}{x:Str}{b:Pos}{gi:Nat}{cs:List (Str × Addr)}{c:Shared}{d:Hp}{fp:List Addr}{pins:List (Addr × Obj)}
  (S:CompScope X scope Ni caps) (a:scope.names.lookup x=some .local\/scope.names.lookup x=some .cell) (hgi:Ni[gi]?=some x):PG (zaV X scope Ni cs c d fp pins) (.Name x b) (zbO gi):=by
 rcases a with a | a
 ·exact zD S.nd hgi (.inl (lookup_relabel_local a)) (.inr (lookup_relabel_local a))
 ·refine zD S.nd hgi ?_ (.inl (decide_eq_true a))
  have:(relabel scope X.env).names.lookup x=some .cell:=zc5 a
  exact .inr this
def ziZ{elt iter:Expr}{tg:Expr}{F:List Expr}{scope:Scope}{pos pos':Pos}{wi:TI}{Ni:List Str}{caps:List (Option Nat)}{g:TG}{tf:TT}{te:TE}
  (hc:X.calm=true) (hi:PI X tg iter wi) (S:CompScope X scope Ni caps) (hG:CompScope X scope Ni caps->∀cs s₃ H₃ fp pins,PG (zaV X scope Ni cs s₃ H₃ fp pins) tg g)
  (hF:∀cs s₃ H₃ fp pins,PF (zaV X scope Ni cs s₃ H₃ fp pins) F tf) (hE:∀cs s₃ H₃ fp pins,PE (zaV X scope Ni cs s₃ H₃ fp pins) elt te)
  (hs:∀x,foldedSetIterable iter X.env x=pure x)
  {pins:List (Addr × Obj)} {s:Shared} {σ:St} {H:Hp} {Q:VK} (I:Inv X pins σ H s) (h:zeA wi caps g tf te σ H Q) {use:Option (Value->Sem Unit)} {R:Value->Shared->Prop}
  (fin:∀(D C:Addr) (H':Hp) (s':Shared) (m:Str->Option Value),Inv X pins σ H' s'->Q (.ref D) H'->s'.heap.Ns C m->H' C=none->X.s₀.heap.objs.size<=C->C≠X.env.locals->(∀y c,X.env.cells.lookup y=some c->c≠C)->(∀p∈X.pn++pins,p.1≠C) ->
   compPost (model X.prog X.w) X.A X.xe use R (.ref D) C (.ok .next) s') :
  wpAny (model X.prog X.w) X.A (comprehension (.ListComp elt [⟨tg,iter,F,0⟩] scope pos) scope X.env pos' (newList []) false (eval iter X.env) use) R X.xe s:=by
 obtain⟨cl,M,B,l⟩:=zhP (env:=X.env) (scope:=scope) λy hy hf=>I.ok.has y.1 (S.free y hy hf);refine wpAny_comprehension_free rfl hs M S.kind (λy hy hl=>by obtain⟨n,k⟩:=y;cases hl;exact zfB S.ndn hy) (thn (hi pins s σ H _ I h) λv s1 h1=>thn h1 λa2 a h2=>?_);obtain⟨it,fp,tn,J,H2,e,I2,T,E,f2,hW⟩:=h2;subst e;have i:Inv X pins σ (upd H2 a.heap.objs.size (.lst [])) { a with heap:=a.heap.push { cls:=.type "list",dict:=none,data:=.seq ([]:List Value).toArray },toks:=a.toks }:=
  I2.laid (λb u e=>Heap.get?_push_of_some _ e) (yg _) ⟨Nat.zero_le _,[],_,.nil,Heap.get?_push_size _ rfl⟩
 have hD:H2 a.heap.objs.size=none:=I2.hok.fresh (yg _);obtain⟨W,⟨m0,w0⟩,t⟩:=hW a.heap.objs.size hD;have j:tn 0 (a.heap.push { cls:=.type "list",dict:=none,data:=.seq ([]:List Value).toArray }):=T.keep _ _ _ E λb _ o e=>Heap.get?_push_of_some _ e;have K:∀b∈fp,zcw X pins (upd H2 a.heap.objs.size (.lst [])) b:=λb d=>by
  obtain⟨o,e,_⟩:=T.obj _ _ E b d;exact⟨by rw[zN (yo (Heap.lt_size e))];exact(f2 b d).1,(f2 b d).2⟩
 refine wpAny_newObj_type ?_;generalize hs3:({ a with heap:=a.heap.push { cls:=.type "list",dict:=none,data:=.seq ([]:List Value).toArray },toks:=a.toks }:Shared)=s3 at i;have eh:a.heap.push { cls:=.type "list",dict:=none,data:=.seq ([]:List Value).toArray }=s3.heap:=by rw[<- hs3]
 rw[eh]at j;have q:∀b∈fp,b<s3.heap.objs.size:=λb d=>by
  obtain⟨o,e,_⟩:=T.obj _ _ j b d;exact Heap.lt_size e
 refine zjk λown s4 eo e4 k4 L r N=>?_;have T4:CompAt X scope own cl s3:=⟨eo,N,λn c O=>(r n c O).2,B,l⟩
 have I4:=zmE (Ni:=Ni) (caps:=caps) S T4 i K q e4 k4 L λn c O=>(r n c O).1;have G:tn 0 s4.heap:=T.keep _ _ _ j λb _ o e=>k4 b o e;have a1:∀{H':Hp},(∀b∈fp,H' b=none)->∀b∈fp,zcw (zaV X scope Ni (own++cl) s3 (upd H2 a.heap.objs.size (.lst [])) fp pins) [] H' b:=λhn b d=>
  ⟨hn b d,yo (q b d),I4.ok.exfs b d,.inl d,(I4.ok.exf b d).2,λp hp=>by
   have V:p∈X.pn++pins:=by
    have:p∈(X.pn++pins)++[]:=hp
    simpa using this
   exact(K b d).2.2.2.2.2 p V⟩
 have f:=zns (Q:=Q) (elt:=elt) (iter:=iter) (scope:=scope) (pos:=pos) (R:=compPost (model X.prog X.w) X.A X.xe use R (.ref a.heap.objs.size) s3.heap.objs.size) (Y:=zaV X scope Ni (own++cl) s3 (upd H2 a.heap.objs.size (.lst [])) fp pins)
  T hc (hG S _ _ _ _ _) (hF _ _ _ _ _) (hE _ _ _ _ _) a1 (λ_ _ z=>z) t (λσ' H' s' Z qn=>by
   have P:=zpf i K Z;obtain⟨m6,U,_⟩:=Z.loc;exact fin _ _ H' s' m6 P qn U Z.free i.sz (Nat.ne_of_gt i.lt) (λy c a0=>yo (zgk i a0)) λp hp=>yo (Heap.lt_size (i.pin p hp).1)) I4 G (λb d=>(K b d).1) w0
 exact codeAny_compStart_list f (T.self _ _ _ _ _ G f)
def zeo{elt iter:Expr}{tg:Expr}{a:List Expr}{scope:Scope}{pos:Pos}{wi:TI}{Ni:List Str}{caps:List (Option Nat)}{g:TG}{tf:TT}{te:TE}
  (hc:X.calm=true) (hi:PI X tg iter wi) (S:CompScope X scope Ni caps) (hG:CompScope X scope Ni caps->∀cs s₃ H₃ fp pins,PG (zaV X scope Ni cs s₃ H₃ fp pins) tg g)
  (hF:∀cs s₃ H₃ fp pins,PF (zaV X scope Ni cs s₃ H₃ fp pins) a tf) (hE:∀cs s₃ H₃ fp pins,PE (zaV X scope Ni cs s₃ H₃ fp pins) elt te)
  (hs:autoParam (∀x,foldedSetIterable iter X.env x=pure x) Internal.aut3._auto_1):PE X (.ListComp elt [⟨tg,iter,a,0⟩] scope pos) (zeA wi caps g tf te):=by
 intro pins s σ H Q I h;rw[eval_ListComp];refine ziZ hc hi S hG hF hE hs I h λD C H' s' m j q ns c f h1 h2 d=>?_;refine⟨m,ns,λh' i=>?_⟩;exact⟨.ref D,H',j.turned (t':=s'.toks) (it:=C) (λb o k e=>(i.2 b k).trans e) c h1 (.inr f) h2 d,rfl,q⟩
def zcj{i:Nat}{y:Str}{f:Pos}{elt iter:Expr}{tg:Expr}{c:List Expr}{scope:Scope}{pos d:Pos}{wi:TI}{Ni:List Str}{caps:List (Option Nat)}{g:TG}{tf:TT}{te:TE}
  (hN:X.N.Nodup) (hyi:X.N[i]?=some y) (hy:X.env.scope.names.lookup y=some .local) (hc:X.calm=true) (hi:PI X tg iter wi) (S:CompScope X scope Ni caps) (hG:CompScope X scope Ni caps->∀cs s₃ H₃ fp pins,PG (zaV X scope Ni cs s₃ H₃ fp pins) tg g)
  (hF:∀cs s₃ H₃ fp pins,PF (zaV X scope Ni cs s₃ H₃ fp pins) c tf) (hE:∀cs s₃ H₃ fp pins,PE (zaV X scope Ni cs s₃ H₃ fp pins) elt te)
  (hsw:autoParam (swapsWith (.ListComp elt [⟨tg,iter,c,0⟩] scope pos) (some (.Name y f)) d.line X.env=pure true) Internal.aut2._auto_1)
  (hs:autoParam (∀x,foldedSetIterable iter X.env x=pure x) Internal.aut3._auto_1):PS X (.Assign [.Name y f] (.ListComp elt [⟨tg,iter,c,0⟩] scope pos) d) (zj1 (zeA wi caps g tf te) (zbO i)):=by
 intro pins s σ H D I h;rw[exec_Assign_Name_used _ _ _ _ hsw];refine wpAny_bind (wpAny_standAt (wpAny_bind ?_));show wpAny _ X.A (do let _ <- comprehension (.ListComp elt [⟨tg,iter,c,0⟩] scope pos) scope X.env _ (newList []) false (eval iter X.env) (some (assign (.Name y f) X.env))) _ _ s;refine wpAny_bind (wpAny_mono (ziZ (R:=λ_ s'=>SP X pins D .next s') hc hi S hG hF hE hs I h λL C H' s' m E q ns p t h1 h2 r=>?_) (λ_ s' w=>wpAny_pure (wpAny_pure w)) λ_ _ e=>e);show wpAny _ X.A (assign (.Name y f) X.env (.ref L)) _ _ _;refine wpAny_assign_Name (ziX (v:=.ref L) E hN hyi (.inl hy) rfl (λG n j=>?_) (.inr hy));obtain⟨a,B,u⟩:=j;have l:C≠a:=by
  rcases u with z | z
  ·rw[z];exact h1
  ·exact λJ=>h2 y a z J.symm
 refine⟨m,ns.sameBut B l,λh' k=>?_⟩;exact⟨_,H',n.turned (t':=G.toks) (it:=C) (λb o F e=>(k.2 b F).trans e) p h1 (.inr t) h2 r,q⟩
end
end Internal
namespace My
variable {c:Int}{q:Rat}
noncomputable def gc (a b:Int):Int:=(Int.gcd a b:Int)
def ziG(a b:Int):0<=gc a b:=Int.natCast_nonneg _
def gc_comm(a b:Int):gc a b=gc b a:=by unfold gc;rw[Int.gcd_comm]
def zaC(a b:Int):gc a b∣a:=Int.gcd_dvd_left a b
def gc_dvd_right(a b:Int):gc a b∣b:=Int.gcd_dvd_right a b
def zkN{k a b:Int}(h1:k∣a)(h2:k∣b):k∣gc a b:=Int.dvd_coe_gcd h1 h2
def gc_pos_right{a b:Int}(h:b≠0):0<gc a b:=by
 have:=Int.gcd_pos_of_ne_zero_right a h
 unfold gc;lia
def zk1{a b:Int}(h:a≠0):0<gc a b:=by rw[gc_comm];exact gc_pos_right h
def gc_zero_right{a:Int}(h:0<=a):gc a 0=a:=by unfold gc;rw[Int.gcd_zero_right];lia
def gc_abs(a b:Int):gc (if a<0 then -a else a) (if b<0 then -b else b)=gc a b:=by
 unfold gc;split<;>split<;>simp[Int.gcd]
def gc_step{a b:Int}:gc b (a%b)=gc a b:=by
 rw[gc_comm a b];refine Int.dvd_antisymm (ziG _ _) (ziG _ _) ?_ ?_
 ·refine zkN (zaC b (a%b)) ?_;have e:a=b*(a/b)+a%b:=(Int.mul_ediv_add_emod a b).symm
  have:=Int.dvd_add (Int.dvd_mul_of_dvd_left (c:=a/b) (zaC b (a%b))) (gc_dvd_right b (a%b))
  rwa [<- e]at this
 ·refine zkN (zaC b a) ?_;rw[Int.emod_def];exact Int.dvd_sub (gc_dvd_right b a) (Int.dvd_mul_of_dvd_left (zaC b a))
def zsS{a b:Int}(h:∀c,c∣a->c∣b->c∣1):gc a b=1:=by
 unfold gc;rw[Int.gcd_eq_one_iff.mpr h];rfl
def zrg{a b:Int}(h:gc a b=1)(h1:c∣a)(h2:c∣b):c∣1:=h▸zkN h1 h2
def zeD{a b:Int}(h:gc a b=1):a.gcd b=1:=by unfold gc at h;lia
def zi8{a b:Int}(h:a.gcd b=1):gc a b=1:=by unfold gc;lia
def low_unique{x y:Int}(c:0<y)(b:gc x y=1)(e:Rat.divInt x y=q):x=q.num/\y=(q.den:Int):=by
 obtain⟨d,rfl⟩:=Int.eq_ofNat_of_zero_le (Int.le_of_lt c);have a:x.natAbs.Coprime d:=by
  have:=zeD b
  rw[Int.gcd_eq_natAbs_gcd_natAbs]at this;exact this
 have hd:d≠0:=by lia
 have:Rat.mk' x d hd a=q:=by rw[Rat.mk_eq_divInt];exact e
 subst this;exact⟨rfl,rfl⟩
def rat_low(q:Rat):gc q.num (q.den:Int)=1:=by
 refine zi8 ?_;rw[Int.gcd_eq_natAbs_gcd_natAbs];exact q.reduced
def rat_den_pos(q:Rat):0<(q.den:Int):=by have:=q.den_nz;lia
def rat_self(q:Rat):Rat.divInt q.num (q.den:Int)=q:=Rat.num_divInt_den q
def zfa{a b:Int}(h:b≠0):gc (a/gc a b) (b/gc a b)=1:=by
 have hp:=gc_pos_right (a:=a) h;unfold gc
 have:=Int.gcd_ediv (a:=a) (b:=b) (c:=(a.gcd b:Int)) (zaC a b) (gc_dvd_right a b)
 rw[this];have d:0<a.gcd b:=by unfold gc at hp;lia
 rw[Int.natAbs_natCast,Nat.div_self d];rfl
def zjo{a b:Int}(f:b≠0)(g:c∣a)(e:c∣b):Rat.divInt (a/c) (b/c)=Rat.divInt a b:=by
 obtain⟨x,rfl⟩:=g;obtain⟨y,rfl⟩:=e;have d:c≠0:=by rintro rfl;simp at f
 rw[Int.mul_ediv_cancel_left _ d,Int.mul_ediv_cancel_left _ d,Rat.divInt_mul_left d]
def part_pos{t b:Int}(c:0<b):t/gc t b=(Rat.divInt t b).num/\b/gc t b=((Rat.divInt t b).den:Int):=by
 have hp:=gc_pos_right (a:=t) (b:=b) ⋯;refine low_unique ?_ (zfa ⋯) (zjo ⋯ (zaC _ _) (gc_dvd_right _ _));exact Int.ediv_pos_of_pos_of_dvd c ⋯ (gc_dvd_right _ _)
def part_neg{t b:Int}(d:b<0):t.fdiv (-gc t b)=(Rat.divInt t b).num/\b.fdiv (-gc t b)=((Rat.divInt t b).den:Int):=by
 have a:-gc t b∣t:=Int.neg_dvd.mpr (zaC _ _);have c:-gc t b∣b:=Int.neg_dvd.mpr (gc_dvd_right _ _);rw[Int.fdiv_eq_ediv_of_dvd a,Int.fdiv_eq_ediv_of_dvd c];have e:=part_pos (t:=-t) (b:=-b) ⋯;have g:gc (-t) (-b)=gc t b:=by unfold gc;simp[Int.gcd]
 rw[g,Rat.neg_divInt_neg]at e;rw[Int.ediv_neg,Int.ediv_neg];rw[Int.neg_ediv_of_dvd (zaC _ _),Int.neg_ediv_of_dvd (gc_dvd_right _ _)]at e;exact e
def zcV{a b m:Int}(h1:gc a m=1)(h2:gc b m=1):gc (a*b) m=1:=by
 refine zi8 ?_;rw[Int.gcd_mul_right_left_of_gcd_eq_one (zeD h1)];exact zeD h2
def zcx{a b m:Int}(h1:gc m a=1)(h2:gc m b=1):gc m (a*b)=1:=by
 rw[gc_comm]at *;exact zcV h1 h2
def zcA{a b m:Int}(h:gc b m=1)(d:a∣b):gc a m=1:=
 zsS λ_ h1 h2=>zrg h (Int.dvd_trans h1 d) h2
def zbt{a b m:Int}(h:gc m b=1)(d:a∣b):gc m a=1:=by
 rw[gc_comm]at *;exact zcA h d
def zhy(m n k:Int):gc (n+k*m) m=gc n m:=by
 rw[gc_comm,gc_comm n m];unfold gc;rw[Int.gcd_add_mul_right_right]
def plus_low{a1 b1 a2 b2:Int}(h1:0<b1)(h2:0<b2)(g1:gc a1 b1=1)(J:gc a2 b2=1) :
  let s:=gc b1 b2
  let t:=a1*(b2/s)+a2*(b1/s)
  let c:=gc t s
  0<(b1/s)*(b2/c)/\gc (t/c) ((b1/s)*(b2/c))=1/\Rat.divInt (t/c) ((b1/s)*(b2/c))=Rat.divInt a1 b1+Rat.divInt a2 b2:=by
 intro s t c;have r:0<s:=zk1 ⋯;obtain⟨u,C⟩:=zaC b1 b2;obtain⟨v,E⟩:=gc_dvd_right b1 b2;have q:b1/s=u:=by rw[show b1=s*u from C];exact Int.mul_ediv_cancel_left _ ⋯
 have A:b2/s=v:=by rw[show b2=s*v from E];exact Int.mul_ediv_cancel_left _ ⋯
 have i:b1=s*u:=C;have e:b2=s*v:=E;have k:gc u v=1:=by
  have:=zfa (a:=b1) (b:=b2) ⋯
  change gc (b1/s) (b2/s)=1 at this
  rwa [q,A]at this
 have l:0<u:=by
  rcases Int.lt_or_le 0 u with h | h
  ·exact h
  ·have:=Int.mul_nonpos_of_nonneg_of_nonpos (Int.le_of_lt r) h;lia
 have m:0<v:=by
  rcases Int.lt_or_le 0 v with h | h
  ·exact h
  ·have:=Int.mul_nonpos_of_nonneg_of_nonpos (Int.le_of_lt r) h;lia
 have p:t=a1*v+a2*u:=by show a1*(b2/s)+a2*(b1/s)=_;rw[q,A]
 have B:0<c:=gc_pos_right ⋯;obtain⟨x,G⟩:=zaC t s;obtain⟨w,I⟩:=gc_dvd_right t s;have g:t=c*x:=G;have f:s=c*w:=I;have ex:t/c=x:=by rw[g];exact Int.mul_ediv_cancel_left _ ⋯
 have j:0<w:=by
  rcases Int.lt_or_le 0 w with h | h
  ·exact h
  ·have:=Int.mul_nonpos_of_nonneg_of_nonpos (Int.le_of_lt B) h;lia
 have H:b2/c=w*v:=by rw[e,f,Int.mul_assoc];exact Int.mul_ediv_cancel_left _ ⋯
 have o:gc x w=1:=by
  have:=zfa (a:=t) (b:=s) ⋯
  change gc (t/c) (s/c)=1 at this;rw[ex,show s/c=w by rw[f];exact Int.mul_ediv_cancel_left _ ⋯]at this;exact this
 have D:x∣t:=⟨c,by rw[g,Int.mul_comm]⟩
 have z:gc t u=1:=by
  rw[p,zhy];exact zcV (zbt g1 ⟨s,by rw[i,Int.mul_comm]⟩) (by rw[gc_comm];exact k)
 have y:gc t v=1:=by
  rw[p,Int.add_comm,zhy];exact zcV (zbt J ⟨s,by rw[e,Int.mul_comm]⟩) k
 rw[ex,q,H];refine⟨Int.mul_pos l (Int.mul_pos j m),?_,?_⟩
 ·exact zcx (zcA z D) (zcx o (zcA y D))
 ·rw[Rat.divInt_add_divInt _ _ ⋯ ⋯];have F:s*c≠0:=Int.ne_of_gt (Int.mul_pos r B);rw[<- Rat.divInt_mul_left (n:=x) (d:=u*(w*v)) F];have e1:s*c*x=a1*b2+a2*b1:=by
   have:s*c*x=s*(c*x):=by rw[Int.mul_assoc]
   rw[this,<- g,p,i,e,Int.mul_add];rw[Int.mul_left_comm s a1 v,Int.mul_left_comm s a2 u]
  have e2:s*c*(u*(w*v))=b1*b2:=by
   have:b1*b2=s*u*(c*w*v):=by rw[i,e,<- f]
   rw[this];simp only[Int.mul_assoc,Int.mul_left_comm,Int.mul_comm]
  rw[e1,e2]
def times_low{a1 b1 a2 b2:Int}(h1:0<b1)(h2:0<b2)(g1:gc a1 b1=1)(l:gc a2 b2=1) :
  let d:=gc a1 b2
  let x:=gc a2 b1
  0<(b1/x)*(b2/d)/\gc ((a1/d)*(a2/x)) ((b1/x)*(b2/d))=1/\Rat.divInt ((a1/d)*(a2/x)) ((b1/x)*(b2/d))=Rat.divInt a1 b1*Rat.divInt a2 b2:=by
 intro d x;have hd:0<d:=gc_pos_right ⋯;have k:0<x:=gc_pos_right ⋯;have k1:gc (a1/d) (b2/d)=1:=zfa ⋯;have k2:gc (a2/x) (b1/x)=1:=zfa ⋯;have c:d∣a1:=zaC _ _;have a:d∣b2:=gc_dvd_right _ _;have e:x∣a2:=zaC _ _;have b:x∣b1:=gc_dvd_right _ _;have q1:a1/d∣a1:=⟨d,(Int.ediv_mul_cancel c).symm⟩
 have q2:b1/x∣b1:=⟨x,(Int.ediv_mul_cancel b).symm⟩
 have h:a2/x∣a2:=⟨x,(Int.ediv_mul_cancel e).symm⟩
 have i:b2/d∣b2:=⟨d,(Int.ediv_mul_cancel a).symm⟩
 have m:0<b1/x:=Int.ediv_pos_of_pos_of_dvd h1 ⋯ b;have p2:0<b2/d:=Int.ediv_pos_of_pos_of_dvd h2 ⋯ a;refine⟨Int.mul_pos m p2,?_,?_⟩
 ·refine zcV (zcx ?_ k1) (zcx k2 ?_)
  ·exact zbt (zcA g1 q1) q2
  ·exact zbt (zcA l h) i
 ·rw[Rat.divInt_mul_divInt];have j:d*x≠0:=Int.ne_of_gt (Int.mul_pos hd k);rw[<- Rat.divInt_mul_left (n:=(a1/d)*(a2/x)) (d:=(b1/x)*(b2/d)) j];have e1:d*x*((a1/d)*(a2/x))=a1*a2:=by
   have g:=Int.ediv_mul_cancel c;have f:=Int.ediv_mul_cancel e;generalize a1/d=z1 at *
   generalize a2/x=z2 at *
   rw[<- g,<- f];simp only[Int.mul_assoc,Int.mul_left_comm,Int.mul_comm]
  have e2:d*x*((b1/x)*(b2/d))=b1*b2:=by
   have g:=Int.ediv_mul_cancel b;have f:=Int.ediv_mul_cancel a;generalize b1/x=z1 at *
   generalize b2/d=z2 at *
   rw[<- g,<- f];simp only[Int.mul_assoc,Int.mul_left_comm,Int.mul_comm]
  rw[e1,e2]
end My
namespace Internal
variable {A:Around}{C a b er f l p:Addr}{E:XK}{H H' H1 H2:Hp}{J:It}{K:Fg}{M:Model}{N ps:List Str}{P:Program}{Q:VK}{X:Cx}{c j:Int}{caps:List (Option Nat)}{e:Expr}{es:List Expr}{fd:FuncData}{fp:List Addr}{g:TG}{h:Heap}{hi lo:Option Int}{i k m n t':Nat}{its:List Value}{ms ns:List Int}{o:HO}{pins:List (Addr × Obj)}{q r:Rat}{qual x:Str}{s:Shared}{sp:Sp}{st:Stmt}{tf:TT}{u:Value}{v y:V}{vs xs ys:List V}{w:World}{wi:TI}{σ:St}
open PySem PySem.Spec PyProof.Rows
def zsv{b:Bool}{A B:Prop}(h1:b=true->A)(h2:b=false->B):if b=true then A else B:=by
 cases b with
 | true=>rw[if_pos rfl];exact h1 rfl
 | false=>rw[if_neg yp];exact h2 rfl
def zsX{p:Prop}[Decidable p]{A B:Prop}(h1:p->A)(h2:¬p->B):if p then A else B:=by
 by_cases h:p
 ·rw[if_pos h];exact h1 h
 ·rw[if_neg h];exact h2 h
section
variable {K:Fg}{H:Hp}{Q:VK}
end
noncomputable def zqj:Sp:=λvs H Q _=>∃a b:Int,vs=[.int a,.int b]/\Q (.int (My.gc a b)) H
def zr9{a b:Int}(q:Q (.int (My.gc a b)) H):zqj [.int a,.int b] H Q E:=⟨a,b,rfl,q⟩
def znj(a:Int):0<=if a<0 then -a else a:=by split<;>lia
def zb5{a b:Int}(h:b≠0)(f:sz b<=n):sz (My.gc a b)<=n:=by
 refine ya (zfV ?_) f;have h1:=My.gc_pos_right (a:=a) h;obtain⟨c,d⟩:=My.gc_dvd_right a b;have g:c≠0:=by rintro rfl;rw[Int.mul_zero]at d;exact h d
 have e:b.natAbs=(My.gc a b).natAbs*c.natAbs:=by rw[<- Int.natAbs_mul,<- d]
 rw[e];exact Nat.le_mul_of_pos_right _ ⋯
noncomputable def cell (ns:List Int) (k:Int):Int:=ns.getD k.toNat 0
noncomputable def IsQ (H:Hp) (a:Addr) (q:Rat):Prop:=H a=some (.tup [.int q.num,.int (q.den:Int)])
def IsQ.sq(h:IsQ H a q):SqT K H a [.int q.num,.int (q.den:Int)]:=SqT.of h
noncomputable def dQ (q:Rat):PyData:=.tuple [.int q.num,.int (q.den:Int)]
def IsQ.rep(h:IsQ H a q):RepD K H (.ref a) (dQ q):=.tup h.sq (.cons (.int _) (.cons (.int _) .nil))
def IsQ.same(h:IsQ H a q)(e:Same H H'):IsQ H' a q:=e _ _ h
def zaH(q:Rat):0<(q.den:Int):=My.rat_den_pos q
def zrQ(h1:q.num=r.num)(h2:(q.den:Int)=(r.den:Int)):q=r:=by
 rw[<- My.rat_self q,<- My.rat_self r,h1,h2]
def zuZ(q r:Rat):PyData.eqv (dQ q) (dQ r)=decide (q=r):=by
 have e:PyData.eqv (dQ q) (dQ r)=((q.num == r.num)&&((q.den:Int) == (r.den:Int))):=by simp[dQ,PyData.eqv,PyData.eqvAll]
 rw[e];by_cases h:q=r
 ·subst h;simp
 ·rw[decide_eq_false h];cases h1:(q.num == r.num) with
  | false=>rfl
  | true=>
   cases h2:((q.den:Int) == (r.den:Int)) with
   | false=>rfl
   | true=>exact absurd (zrQ (eq_of_beq h1) (eq_of_beq h2)) h
noncomputable def NewQ (H:Hp) (Q:VK) (q:Rat):Prop:=∀p H',Same H H'->IsQ H' p q->Q (.ref p) H'
def NewQ.mk{x y:Int}(k:NewQ H Q q)(e:x=q.num/\y=(q.den:Int)):zfb Q [.int x,.int y] H:=by
 refine⟨by show 2<=sizeLine;decide,λp hp=>k p _ (Same.new hp _) ?_⟩;rw[e.1,e.2];exact zQ
noncomputable def SzQ (q:Rat) (n m:Nat):Prop:=sz q.num<=n/\sz (q.den:Int)<=m
def SzQ.mono{b a:Nat}(h:SzQ q n m)(h1:n<=b)(h2:m<=a):SzQ q b a:=⟨ya h.1 h1,ya h.2 h2⟩
def zck{t b:Int}(a:0<b)(h1:sz t<=n)(h2:sz b<=m):SzQ (Rat.divInt t b) n m:=by
 have e:=My.part_pos (t:=t) a;unfold SzQ;rw[<- e.1,<- e.2];exact⟨ya (zb1 _ _) h1,ya (zb1 _ _) h2⟩
def zoM{t b:Int}(a:b≠0)(h1:sz t<=n)(h2:sz b<=m):SzQ (Rat.divInt t b) n m:=by
 rcases Int.lt_or_le 0 b with h | h
 ·exact zck h h1 h2
 ·rw[<- Rat.neg_divInt_neg];exact zck ⋯ (ya (zhn _) h1) (ya (zhn _) h2)
noncomputable def ziq (n:Nat):Sp:=λvs H Q _=>∃(a b:Addr) (q r:Rat),vs=[.ref a,.ref b]/\IsQ H a q/\IsQ H b r/\SzQ q n n/\SzQ r n n/\Q (.bl (decide (q<r))) H
def zi5:=λ{n:Nat} {a b:Addr} {q r:Rat} {H:Hp} {Q:VK} {E:XK} h1 h2 s1 s2 k=>@id (ziq n [.ref a,.ref b] H Q E) ⟨a,b,q,r,rfl,h1,h2,s1,s2,k⟩
noncomputable def zfL (n:Nat):Sp:=λvs H Q _=>∃(a b:Addr) (q r:Rat),vs=[.ref a,.ref b]/\IsQ H a q/\IsQ H b r/\SzQ q n n/\SzQ r n n/\(if r<q then Q (.ref b) H else Q (.ref a) H)
def ziW:=λ{n:Nat} {a b:Addr} {q r:Rat} {H:Hp} {Q:VK} {E:XK} h1 h2 s1 s2 k=>@id (zfL n [.ref a,.ref b] H Q E) ⟨a,b,q,r,rfl,h1,h2,s1,s2,k⟩
noncomputable def zoj:Sp:=λvs H Q _=>∃(a:Addr) (q:Rat),vs=[.ref a]/\IsQ H a q/\SzQ q 60000 8999/\Q (.int (q.num/(q.den:Int))) H
noncomputable def OkQ (q:Rat):Prop:=SzQ q 1000000 8999
def SzQ.ok(h:SzQ q n m)(h1:n<=1000000)(h2:m<=8999):OkQ q:=h.mono h1 h2
def zmb(q r:Rat):(q.num*((r.den:Int)/My.gc q.den r.den)+r.num*((q.den:Int)/My.gc q.den r.den))/My.gc (q.num*((r.den:Int)/My.gc q.den r.den)+r.num*((q.den:Int)/My.gc q.den r.den)) (My.gc q.den r.den)=(q+r).num /\
  ((q.den:Int)/My.gc q.den r.den)*((r.den:Int)/My.gc (q.num*((r.den:Int)/My.gc q.den r.den)+r.num*((q.den:Int)/My.gc q.den r.den)) (My.gc q.den r.den))=((q+r).den:Int):=by
 have h:=My.plus_low (a1:=q.num) (b1:=q.den) (a2:=r.num) (b2:=r.den) (zaH q) (zaH r) (My.rat_low q) (My.rat_low r);refine My.low_unique h.1 h.2.1 ?_;have e:=h.2.2;rw[My.rat_self,My.rat_self]at e;exact e
def zk6(q r:Rat):(q.num/My.gc q.num r.den)*(r.num/My.gc r.num q.den)=(q*r).num/\((q.den:Int)/My.gc r.num q.den)*((r.den:Int)/My.gc q.num r.den)=((q*r).den:Int):=by
 have h:=My.times_low (a1:=q.num) (b1:=q.den) (a2:=r.num) (b2:=r.den) (zaH q) (zaH r) (My.rat_low q) (My.rat_low r);refine My.low_unique h.1 h.2.1 ?_;have e:=h.2.2;rw[My.rat_self,My.rat_self]at e;exact e
def zrJ(q r:Rat):q+r=Rat.divInt (q.num*r.den+r.num*q.den) ((q.den:Int)*r.den):=by
 have h:=Rat.divInt_add_divInt q.num r.num (d₁:=q.den) (d₂:=r.den) (Int.ne_of_gt (zaH q)) (Int.ne_of_gt (zaH r));rw[My.rat_self,My.rat_self]at h;exact h
def zrY(q r:Rat):q*r=Rat.divInt (q.num*r.num) ((q.den:Int)*r.den):=by
 have h:=Rat.divInt_mul_divInt q.num r.num (d₁:=q.den) (d₂:=r.den);rw[My.rat_self,My.rat_self]at h;exact h
def SzQ.add{c b l:Nat}(h:SzQ q n m)(h':SzQ r c b)(d:n+b<=k)(a:c+m<=k)(e:m+b<=l):SzQ (q+r) (k+1) l:=by
 rw[zrJ];exact zck (Int.mul_pos (zaH q) (zaH r)) (ztI (ya (zee h.1 h'.2) d) (ya (zee h'.1 h.2) a)) (ya (zee h.2 h'.2) e)
def SzQ.mul{b a l:Nat}(h:SzQ q n m)(h':SzQ r b a)(c:n+b<=k)(d:m+a<=l):SzQ (q*r) k l:=by
 rw[zrY];exact zck (Int.mul_pos (zaH q) (zaH r)) (ya (zee h.1 h'.1) c) (ya (zee h.2 h'.2) d)
def SzQ.neg(h:SzQ q n m):SzQ (-q) n m:=⟨by rw[Rat.neg_num];exact ya (zhn _) h.1,by rw[Rat.neg_den];exact h.2⟩
def zev(a:1<=m):SzQ 0 n m:=⟨ya (zW (n:=0) (by decide)) (Nat.zero_le _),ya (zW (n:=1) (by decide)) a⟩
noncomputable def zjW:Sp:=λvs H Q _=>∃(a b:Addr) (q r:Rat),vs=[.ref a,.ref b]/\IsQ H a q/\IsQ H b r/\OkQ q/\OkQ r/\NewQ H Q (q+r)
def zoX:=λ{a b:Addr} {q r:Rat} {H:Hp} {Q:VK} {E:XK} h1 h2 s1 s2 k=>@id (zjW [.ref a,.ref b] H Q E) ⟨a,b,q,r,rfl,h1,h2,s1,s2,k⟩
noncomputable def zia:Sp:=λvs H Q _=>∃(a b:Addr) (q r:Rat),vs=[.ref a,.ref b]/\IsQ H a q/\IsQ H b r/\OkQ q/\OkQ r/\NewQ H Q (q-r)
def znD:=λ{a b:Addr} {q r:Rat} {H:Hp} {Q:VK} {E:XK} h1 h2 s1 s2 k=>@id (zia [.ref a,.ref b] H Q E) ⟨a,b,q,r,rfl,h1,h2,s1,s2,k⟩
noncomputable def ziv:Sp:=λvs H Q _=>∃(a b:Addr) (q r:Rat),vs=[.ref a,.ref b]/\IsQ H a q/\IsQ H b r/\OkQ q/\OkQ r/\NewQ H Q (q*r)
def znt:=λ{a b:Addr} {q r:Rat} {H:Hp} {Q:VK} {E:XK} h1 h2 s1 s2 k=>@id (ziv [.ref a,.ref b] H Q E) ⟨a,b,q,r,rfl,h1,h2,s1,s2,k⟩
def zkS(r:Rat):-r.num=(-r).num/\(r.den:Int)=((-r).den:Int):=⟨by rw[Rat.neg_num],by rw[Rat.neg_den]⟩
def zrN(h:0<r.num):(r.den:Int)=(r⁻¹).num/\r.num=((r⁻¹).den:Int):=
 My.low_unique h (by rw[My.gc_comm];exact My.rat_low r) (Rat.inv_def r).symm
def zrT(h:r.num<0):-(r.den:Int)=(r⁻¹).num/\-r.num=((r⁻¹).den:Int):=
 My.low_unique ⋯ (by
  have g:=My.rat_low r;have e:My.gc (-(r.den:Int)) (-r.num)=My.gc r.num r.den:=by
   rw[My.gc_comm];unfold My.gc;simp[Int.gcd]
  rw[e];exact g) (by rw[Rat.neg_divInt_neg];exact(Rat.inv_def r).symm)
def SzQ.inv(a:r.num≠0)(h:SzQ r n m):SzQ r⁻¹ m n:=by
 rw[Rat.inv_def];exact zoM a h.2 h.1
noncomputable def IsQs (H:Hp):List V->List Rat->Prop
 | [],[]=>True
 | v :: vs,q :: qs=>(∃a,v=.ref a/\IsQ H a q)/\IsQs H vs qs
 | _,_=>False
theorem IsQs.same{H H':Hp}(e:Same H H'):∀{vs:List V} {qs:List Rat},IsQs H vs qs->IsQs H' vs qs
 | [],[],_=>trivial
 | _ :: _,_ :: _,⟨⟨a,e1,h⟩,r⟩=>⟨⟨a,e1,h.same e⟩,r.same e⟩
theorem IsQs.length{H:Hp}:∀{vs:List V} {qs:List Rat},IsQs H vs qs->vs.length=qs.length
 | [],[],_=>rfl
 | _ :: _,_ :: _,⟨_,r⟩=>by rw[List.length_cons,List.length_cons,r.length]
theorem IsQs.app{H:Hp}{a:Addr}{q:Rat}(h:IsQ H a q):∀{vs:List V} {qs:List Rat},IsQs H vs qs->IsQs H (vs++[.ref a]) (qs++[q])
 | [],[],_=>⟨⟨a,rfl,h⟩,trivial⟩
 | _ :: _,_ :: _,⟨x,r⟩=>⟨x,IsQs.app h r⟩
theorem IsQs.get{H:Hp}:∀{vs:List V} {qs:List Rat} {i:Nat} {v:V},IsQs H vs qs->vs[i]?=some v->∃a q,v=.ref a/\qs[i]?=some q/\IsQ H a q
 | _ :: _,_ :: _,0,_,⟨⟨a,e,h⟩,_⟩,rfl=>⟨a,_,e,rfl,h⟩
 | _ :: _,_ :: _,i+1,_,⟨_,r⟩,e=>r.get (i:=i) (by simpa using e)
 | [],[],_,_,_,e=>by simp at e
noncomputable def zd3 (qs:List Rat):Rat:=qs.foldl (·+·) 0
def zdM(qs:List Rat)(q:Rat):zd3 (qs++[q])=zd3 qs+q:=by unfold zd3;rw[List.foldl_append];rfl
theorem zlx{n m:Nat}(a:1<=m):∀{qs:List Rat},(∀q∈qs,SzQ q n m)->∀i,i<=qs.length->SzQ (zd3 (qs.take i)) ((m+1)*i+n) (m*i+1)
 | qs,_,0,_=>by rw[List.take_zero];exact zev (Nat.le_add_left _ _)
 | qs,h,i+1,hi=>by
  rw[List.take_succ_eq_append_getElem (show i<qs.length by lia),zdM];have h1:=zlx a h i ⋯;have h2:=h _ (List.getElem_mem (show i<qs.length by lia));have e:(m+1)*(i+1)+n=((m+1)*i+n+m)+1:=by rw[Nat.mul_add,Nat.mul_one];lia
  rw[e];have em:m*(i+1)+1=m*i+1+m:=by rw[Nat.mul_add,Nat.mul_one];lia
  rw[em];have es:(m+1)*i=m*i+i:=by rw[Nat.add_mul,Nat.one_mul]
  exact h1.add h2 (yg _) ⋯ (yg _)
def zoY(qs:List Rat)(i:Nat):qs.take i=qs.take (min i qs.length):=by
 rcases Nat.le_total i qs.length with h | h
 ·rw[Nat.min_eq_left h]
 ·rw[Nat.min_eq_right h,List.take_of_length_le h,List.take_length]
def zlR{c:Nat}(b:1<=m){qs:List Rat}(h:∀q∈qs,SzQ q n m)(a:qs.length<=c)(h1:(m+1)*c+n<=1000000)(h2:m*c+1<=8999)(i:Nat):OkQ (zd3 (qs.take i)):=by
 rw[zoY];have hi:min i qs.length<=c:=ya (Nat.min_le_right _ _) a;exact(zlx b h (min i qs.length) (Nat.min_le_right _ _)).ok (ya (Nat.add_le_add_right (Nat.mul_le_mul_left _ hi) _) h1) (ya (Nat.add_le_add_right (Nat.mul_le_mul_left _ hi) _) h2)
def szL{i:Int}(a:200<=n)(h1:-1606938044258990275541962092341162602522202993782792835301376<i)(h2:i<1606938044258990275541962092341162602522202993782792835301376):sz i<=n:=ya (sz200 h1 h2) a
noncomputable def zid (K:Fg):Sp:=λvs H Q _=>∃(a:Addr) (xs:List V) (qs:List Rat),vs=[.ref a]/\SqL K H a xs/\IsQs H xs qs/\(∀q∈qs,OkQ q)/\(∀i,OkQ (zd3 (qs.take i)))/\NewQ H Q (zd3 qs)
def znx:=λ{K:Fg} {a:Addr} {xs:List V} {qs:List Rat} {H:Hp} {Q:VK} {E:XK} h hq h1 h2 k=>@id (zid K [.ref a] H Q E) ⟨a,xs,qs,rfl,h,hq,h1,h2,k⟩
section
variable {σ:St}{H:Hp}{Q:VK}{D:Ends}{ta tb tc te to:TE}{t u:TS}{K:Fg}
noncomputable def zmk (J:It) (g:TG) (tb:TS):TS:=λD σ H=>∃W:Nat->Nat->St->Hp->Prop,(∃m,W 0 m σ H)/\∀i m σ H,W i m σ H ->
 (J.stop i H/\D.nx σ H)\/(J.go i H/\∃N:St->Hp->Prop,(∀σ' H',N σ' H'->∃m',m'<m/\W (i+1) m' σ' H')/\∀x H',J.yld i H x H'->g x σ H' λa H2=>tb { D with nx:=N,ct:=N,bk:=D.nx } a H2)
def zuh{tb:TS}(q:wi σ H λJ H1=>zmk J g tb D σ H1):zta wi g tb D σ H:=q
noncomputable def zmN (R:It->Hp->Prop) (vs:List V) (H:Hp):Prop:=∃j:Int,vs=[.int j]/\-(2 ^ 62)<=j/\j<2 ^ 62/\R (Itr 0 j.toNat) H
noncomputable def zmf (R:It->Hp->Prop) (vs:List V) (H:Hp):Prop:=∃i j:Int,vs=[.int i,.int j]/\(-(2 ^ 62)<=i/\i<2 ^ 62/\-(2 ^ 62)<=j/\j<2 ^ 62)/\R (Itr i (j-i).toNat) H
noncomputable def zoU (K:Fg) (R:It->Hp->Prop) (x:V) (H:Hp):Prop:=∃a,x=.ref a/\(∃xs,SqL K H a xs)/\R (Itl K a) H
def zti{tr:TA}{R:It->Hp->Prop}(q:tr σ H (zmN R)):zqE tr σ H R:=q
def zs5{tr:TA}{R:It->Hp->Prop}(q:tr σ H (zmf R)):zqs tr σ H R:=q
def zt5{R:It->Hp->Prop}(q:te σ H (zoU K R)):zmy K te σ H R:=q
def zrl{R:It->Hp->Prop}(h1:-4611686018427387904<=j)(h2:j<4611686018427387904)(q:R (Itr 0 j.toNat) H):zmN R [.int j] H:=⟨j,rfl,h1,h2,q⟩
def zrk{R:It->Hp->Prop}{i:Int}(b:-4611686018427387904<=i)(a:i<4611686018427387904)(h1:-4611686018427387904<=j)(h2:j<4611686018427387904)(q:R (Itr i (j-i).toNat) H):zmf R [.int i,.int j] H:=⟨i,j,rfl,⟨b,a,h1,h2⟩,q⟩
def zqH{R:It->Hp->Prop}(h:SqL K H a xs)(q:R (Itl K a) H):zoU K R (.ref a) H:=⟨a,rfl,⟨xs,h⟩,q⟩
def zra{R:St->Hp->Prop}(q:R (σ.set i (some v)) H):zbO i v σ H R:=q
def zei{lo:Int}{n:Nat}{g:TG}{tb:TS}(a:Nat->St->Hp->Prop)(b:a 0 σ H)
  (hs:∀i σ H,i<n->a i σ H->g (.int (lo+i)) σ H λc H2=>tb { D with nx:=a (i+1),ct:=a (i+1),bk:=D.nx } c H2) (hd:∀σ H,a n σ H->D.nx σ H):zmk (Itr lo n) g tb D σ H:=zox a b hs hd
def zbh{g:TG}{tb:TS}(b:Nat->St->Hp->Prop)(c:b 0 σ H)(d:∀i σ H,i<=xs.length->b i σ H->SqL K H a xs)
  (hs:∀i x σ H,xs[i]?=some x->b i σ H->g x σ H λe H2=>tb { D with nx:=b (i+1),ct:=b (i+1),bk:=D.nx } e H2) (hd:∀σ H,b xs.length σ H->D.nx σ H):zmk (Itl K a) g tb D σ H:=zpA b c d hs hd
def zuS{T:String}{r:V->List V->Hp->VK->Prop}{tr:TA}(q:to σ H λx H1=>tyV K T x H1/\tr σ H1 λxs H2=>r x xs H2 Q):tBM K T r to tr σ H Q:=q
def zup{A:Prop}(h:H l=some (.lst xs))(q:A):tyV K "list" (.ref l) H/\A:=⟨.inl ⟨rfl,xs,SqL.of h⟩,q⟩
def zo6(h:H l=some (.lst xs))(a:xs.length<sizeLine)(q:Q .non (upd H l (.lst (xs++[y])))):zbn (.ref l) [y] H Q:=⟨l,xs,y,rfl,rfl,h,a,q⟩
def zs2{k:Int}{j:Nat}{R:Hp->Prop}(h:H l=some (.lst xs))(e:ixN xs.length k=some j)(q:R (upd H l (.lst (xs.set j v)))):zhf (.ref l) (.int k) v H R:=⟨l,xs,k,j,rfl,rfl,h,e,q⟩
def zpq(h:SqL K H a xs)(q:∀l,H l=none->Q (.ref l) (upd H l (.lst xs))):zdm K [.ref a] H Q:=⟨a,xs,rfl,.inl h,q⟩
def zhp{i:Int}(h:H a=some (.lst xs))(e:atI xs i=some v)(q:Q v H):rIx K (.ref a) (.int i) H Q:=zmC (.of h) e q
def zuA{r:V->Option Int->Option Int->Hp->VK->Prop}{tl th:TO}(q:te σ H λx H1=>tl σ H1 λl H2=>th σ H2 λu a=>r x l u a Q):tSl r te tl th σ H Q:=q
noncomputable def zqk (R:Option Int->Hp->Prop) (x:V) (H:Hp):Prop:=∃i,x=.int i/\R (some i) H
def ztz{R:Option Int->Hp->Prop}(q:te σ H (zqk R)):zqL te σ H R:=q
def zqO{R:Option Int->Hp->Prop}{i:Int}(q:R (some i) H):zqk R (.int i) H:=⟨i,rfl,q⟩
def ztT(h:SqL K H a xs)(q:∀p,H p=none->Q (.ref p) (upd H p (.lst (zcH xs lo hi)))):zeM K (.ref a) lo hi H Q:=⟨a,xs,rfl,h,q⟩
end
def Same.fresh(g:Same H H')(h:H' l=none):H l=none:=by
 cases e:H l with
 | none=>rfl
 | some o=>rw[g l o e]at h;cases h
def zkw(h:n<=100000):n<sizeLine:=Nat.lt_of_le_of_lt h (by decide)
def zbD(h:n<=100000):n<=sizeLine:=Nat.le_of_lt (zkw h)
noncomputable def But (l:Addr) (H H':Hp):Prop:=∀b,b≠l->H' b=H b
theorem But.upd{H:Hp}{l:Addr}{o:HO}:But l H (Internal.upd H l o):=λ_ h=>zN h
def But.at(g:But l H H')(h:H a=some o)(n:a≠l):H' a=some o:=by rw[g a n];exact h
def But.same{H0:Hp}(g:But l H H')(e:Same H0 H)(h:H0 l=none):Same H0 H':=λb o q=>by rw[g b (zE q h)];exact e b o q
noncomputable def LBut (l:Addr) (H H':Hp):Prop:=But l H H'/\∃xs,H l=some (.lst xs)
theorem LBut.tup{l:Addr}{H H':Hp}(g:LBut l H H'){a:Addr}{xs:List V}(h:H a=some (.tup xs)):H' a=some (.tup xs):=by
 obtain⟨ys,e⟩:=g.2;exact g.1.at h (zV h e (by intro z;cases z))
def LBut.isQ(g:LBut l H H')(h:IsQ H a q):IsQ H' a q:=g.tup h
theorem LBut.isQs{l:Addr}{H H':Hp}(g:LBut l H H'):∀{vs:List V} {qs:List Rat},IsQs H vs qs->IsQs H' vs qs
 | [],[],_=>trivial
 | _ :: _,_ :: _,⟨⟨a,e,h⟩,r⟩=>⟨⟨a,e,g.isQ h⟩,g.isQs r⟩
def LBut.lst{l:Addr}{H H':Hp}(g:LBut l H H'){a:Addr}{o:HO}(h:H a=some o)(n:a≠l):H' a=some o:=g.1.at h n
theorem LBut.same{l:Addr}{H0 H H':Hp}(g:LBut l H H')(e:Same H0 H)(h:H0 l=none):Same H0 H':=g.1.same e h
def Same.at(e:Same H H')(h:H a=some o):H' a=some o:=e a o h
def Same.isQ(e:Same H H')(h:IsQ H a q):IsQ H' a q:=h.same e
def SqL.keep(h:SqL K H a xs)(e:Same H H'):SqL K H' a xs:=e.seq h
def Same.after(b:Same H1 H2)(a:Same H H1):Same H H2:=a.trans b
theorem Same.none{H H':Hp}{l:Addr}(h:H' l=none)(g:Same H H'):H l=none:=g.fresh h
def ztf(h':H b=none)(h:H a=some o):a≠b:=zE h h'
def zbX(h':H b=none)(h:H a=some o):b≠a:=(zE h h').symm
section
variable {σ:St}{H:Hp}{Q:VK}{D:Ends}{t u:TS}{K:Fg}
def za9(a:xs.length<=100000)(q:∀p H',H p=none->Same H H'->H' p=some (.tup xs)->Q (.ref p) H'):zfb Q xs H:=⟨zbD a,λp hp=>q p _ hp (Same.new hp _) zQ⟩
def ztL(a:xs.length<=100000)(q:∀p H',H p=none->Same H H'->H' p=some (.lst xs)->Q (.ref p) H'):zp8 Q xs H:=⟨zbD a,λp hp=>q p _ hp (Same.new hp _) zQ⟩
def zan{x y:Int}(e:x=q.num/\y=(q.den:Int))(k:NewQ H Q q):zfb Q [.int x,.int y] H:=NewQ.mk k e
def zdr(h:H l=some (.lst xs))(a:xs.length<=100000)(q:∀H',LBut l H H'->H' l=some (.lst (xs++[y]))->Q .non H'):zbn (.ref l) [y] H Q:=
 zo6 h (zkw a) (q _ ⟨But.upd,xs,h⟩ zQ)
def zc7{k:Int}{j:Nat}{R:Hp->Prop}(h:H l=some (.lst xs))(e:ixN xs.length k=some j)(q:∀H',LBut l H H'->H' l=some (.lst (xs.set j v))->R H'):zhf (.ref l) (.int k) v H R:=
 zs2 h e (q _ ⟨But.upd,xs,h⟩ zQ)
def znp(h:SqL K H a xs)(q:∀p H',H p=none->Same H H'->H' p=some (.lst xs)->Q (.ref p) H'):zdm K [.ref a] H Q:=zpq h λp hp=>q p _ hp (Same.new hp _) zQ
def zsM(h:SqL K H a xs)(q:∀p H',H p=none->Same H H'->H' p=some (.lst (zcH xs lo hi))->Q (.ref p) H'):zeM K (.ref a) lo hi H Q:=ztT h λp hp=>q p _ hp (Same.new hp _) zQ
def zot(i:Nat)(P:V->Hp->Prop)(q:t { D with nx:=λa H'=>∃v,a=σ.set i (some v)/\P v H' } σ H)(r:∀v H',P v H'->u D (σ.set i (some v)) H'):zso t u D σ H:=
 ⟨_,q,λa H' ⟨v,e,p⟩=>by subst e;exact r v H' p⟩
end
def zfp{k:Int}(a:0<=k)(h:k<n):ixN n k=some k.toNat:=by unfold ixN;rw[if_pos a,if_pos h]
def zbl{α:Type}{xs:List α}{k:Int}{v:α}(a:0<=k)(h:xs[k.toNat]?=some v):atI xs k=some v:=by
 have e:k=(k.toNat:Int):=by lia
 rw[e];exact zal h
section
variable {X:Cx}{pins:List (Addr × Obj)}{σ:St}{H:Hp}{s:Shared}{h':Heap}
def Inv.turnedL(I:Inv X pins σ H s)(k:∀b o,b∉fp->s.heap.get? b=some o->h'.get? b=some o)(f:∀b∈fp,zcw X pins H b):Inv X pins σ H { s with heap:=h',toks:=t' }:=by
 have d:∀b u,H b=some u->b∉fp:=λb u e z=>by rw[(f b z).1]at e;cases e
 refine I.step (g':=s.gens) (d':=s.drawn) (ch:=fp) (λb g=>⟨(f b g).2.2.2.1,(f b g).2.1,(f b g).2.2.2.2.1,(f b g).2.2.2.2.2⟩) (λb o _ _ a e _=>k b o a e) (λb o _ _ a e _=>⟨o.slots,k b o a e⟩) (λ_ _ _ _ n=>n)
  (λb o a e=>⟨o,k b o a e⟩) (λ_ _ e=>e) (λ_ _ _ e=>e) (λb ps e=>⟨#[],by rw[e];simp⟩) (λm j=>?_) (λb u e=>?_) I.bare
 ·obtain⟨o,es,i,h,r⟩:=j;exact⟨o,es,i,k _ o (λz=>(f _ z).2.1 rfl) h,r⟩
 ·refine(I.hok b u e).stay (λc v a q=>k c v ?_ q) (λ_ q=>q) λ_ _ q=>q;rcases a with z | z
  ·rw[z];exact d b u e
  ·exact d c _ z
def Inv.turnedNew{t':Nat}(I:Inv X pins σ H s)(k:∀b o,b∉fp->s.heap.get? b=some o->h'.get? b=some o)(f:∀b∈fp,zcw X pins H b)(hp:s.heap.objs.size<=p)(new:ObjOk X.prog X.w (upd H p o) h' p o) :
  Inv X pins σ (upd H p o) { s with heap:=h',toks:=t' }:=by
 have h:∀b u,H b=some u->b∉fp:=λb u e z=>by rw[(f b z).1]at e;cases e
 have g:H p=none:=I.hok.fresh hp;refine I.step (g':=s.gens) (d':=s.drawn) (ch:=fp) (λb d=>⟨(f b d).2.2.2.1,(f b d).2.1,(f b d).2.2.2.2.1,(f b d).2.2.2.2.2⟩) (λb o _ _ a e _=>k b o a e) (λb o _ _ a e _=>⟨o.slots,k b o a e⟩) (λb u _ e n=>?_)
  (λb o a e=>⟨o,k b o a e⟩) (λb xs e=>by rw[zN (zE e g)];exact e) (λb u v e=>by rw[zN (zE e g)];exact e) (λb ps e=>⟨#[],by rw[zN (zE e g),e];simp⟩) (λm l=>?_) (λb u e=>?_) I.bare
 ·rw[zN (yo (Nat.lt_of_lt_of_le (Heap.lt_size e) hp))];exact n
 ·obtain⟨o,es,j,i,r⟩:=l;exact⟨o,es,j,k _ o (λz=>(f _ z).2.1 rfl) i,r⟩
 ·by_cases d:b=p
  ·subst d;rw[zQ]at e;cases e;exact new
  ·rw[zN d]at e;refine(I.hok b u e).stay (λc v a q=>k c v ?_ q) (λc q=>by rw[zN (zE q g)];exact q) λc xs q=>by rw[zN (zE q g)];exact q
   rcases a with z | z
   ·rw[z];exact h b u e
   ·exact h c _ z
end
def zbf{o o':Obj}{m n:String}(e:h.get? a=some o)(c:o.cls=.type m)(d:h.get? b=some o')(g:o'.cls=.type n)(f:(m == n)=false):a≠b:=by
 rintro rfl;rw[e]at d;cases d;rw[c]at g;cases g;rw[beq_self_eq_true]at f;cases f
def tup2{x:V}{v:Value}(e:h.get? p=some { cls:=.type "tuple",data:=.seq #[u,v] })(a:RelV x u)(r2:RelV y v):ObjOk P w H h p (.tup [x,y]):=
 ⟨zbD (by simp),[u,v],.cons a (.cons r2 .nil),_,e,rfl,_,rfl⟩
noncomputable def Itn (K:Fg) (a:Addr):It:=
 ⟨λi H=>∃xs x,SqL K H a xs/\xs[i]?=some x,λi H v H'=>∃p x,H p=none/\v=.ref p/\(∀xs,SqL K H a xs->xs[i]?=some x)/\H'=upd H p (.tup [.int i,x]),λi H=>∃xs,SqL K H a xs/\xs.length<=i⟩
def znM{kx:Nat}{tp:Pos}(a e it:Addr)(m:e≠it):Turn P w K (.Tuple es kx tp) (Itn K a) [e,it] e (λi h=>(∃old,IsEnum h e it i old)/\h.IsListIter it a i) where
 mem:=by simp
 obj:=λi h st b g=>by
  obtain⟨⟨old,h1⟩,o,h2,c,d⟩:=st;rcases List.mem_cons.mp g with z | z
  ·subst z;exact⟨_,h1,λv z=>by cases z⟩
  ·have e:b=it:=by simpa using z
   subst e;exact⟨o,h2,λv z=>by rw[d]at z;cases z⟩
 keep:=λi h h' st k=>by
  obtain⟨⟨old,h1⟩,h2⟩:=st;exact⟨⟨old,k e (by simp) _ h1⟩,h2.at λo q=>k it (by simp) o q⟩
 item:=by
  intro X A G C N i pins s σ H E I r st M;subst A G C;obtain⟨⟨old,l⟩,j⟩:=st;obtain⟨xs,x,t,D⟩:=M;obtain⟨its,L,p,O⟩:=I.list t;obtain⟨u,W,ru⟩:=L.get D;refine wpAny_pyNext_enum_item l j p.isList (x:=u) (by simpa using W) m λh1 U J F T k1=>?_;refine⟨_,rfl,wpAny_letOwnedTupleGo_enum U λh2 e2 B=>?_⟩;have n:e≠s.heap.objs.size:=yo (Heap.lt_size l);have f:Heap.SameBut e h1 h2:=B;have S:h2.get? s.heap.objs.size=some { cls:=.type "tuple",data:=.seq #[.int i s.toks,u] }:=(f.2 _ (Ne.symm n)).trans F;have k2:∀b o,b∉[e,it]->s.heap.get? b=some o->h2.get? b=some o:=λb o g q=>by
   have n1:b≠e:=λz=>g (by simp[z]);have n2:b≠it:=λz=>g (by simp[z]);exact(f.2 b n1).trans (k1 b o n1 n2 q)
  have Q:Inv X pins σ (upd H s.heap.objs.size (.tup [.int i,x])) { s with heap:=h2,toks:=s.toks+1 }:=I.turnedNew k2 r (yg _) (tup2 S ⟨_,rfl⟩ ru);have R:H s.heap.objs.size=none:=I.hok.fresh (yg _);refine⟨.ref s.heap.objs.size,_,Q,rfl,⟨_,x,R,rfl,λys Y=>by rw[I.list_inj Y t];exact D,rfl⟩,⟨⟨_,e2⟩,J.at λo q=>(f.2 it (Ne.symm m)).trans q⟩,λb g=>?_⟩;have y:b≠s.heap.objs.size:=by
   rcases List.mem_cons.mp g with z | z
   ·rw[z];exact n
   ·have e:b=it:=by simpa using z
    subst e;obtain⟨o,q,_⟩:=j;exact yo (Heap.lt_size q)
  rw[zN y];exact(r b g).1
 done:=by
  intro X A G C N i pins s σ H E I r st M;subst A G C;obtain⟨⟨old,l⟩,j⟩:=st;obtain⟨xs,t,D⟩:=M;obtain⟨its,L,p,O⟩:=I.list t;have Z:=L.length;refine wpAny_pyNext_enum_end (I.ok.hd N) l j p.isList (by simp;lia) λh1 V=>⟨rfl,I.turnedL (t':=s.toks) (fp:=[e,it]) (λb o g q=>V b o (λz=>g (by simp[z])) q) r⟩
 self:=λ_ _ _ _ _ st h=>by
  obtain⟨⟨old,l⟩,_⟩:=st;exact wpAny_pyIter_enum l h
noncomputable def Itz (K:Fg) (a b:Addr):It:=
 ⟨λi H=>∃xs ys x y,SqL K H a xs/\SqL K H b ys/\xs[i]?=some x/\ys[i]?=some y,λi H v H'=>∃p x y,H p=none/\v=.ref p/\(∀xs,SqL K H a xs->xs[i]?=some x)/\(∀ys,SqL K H b ys->ys[i]?=some y)/\H'=upd H p (.tup [x,y]),
  λi H=>∃xs ys,SqL K H a xs/\SqL K H b ys/\(xs.length<=i\/ys.length<=i)⟩
def zkr{z TI TO m l:Addr}{n o q p r:Value}{k1 k2:Nat}{xs ys:Array Value}(e:IsZip h z TI TO n)(d:IsPair h TI o q)(c:IsPair h TO p r)(h1:h.IsListIter m a k1)(h2:h.IsListIter l b k2)
  (l1:h.IsList a xs) (l2:h.IsList b ys) (nT:TI≠TO) (ni:m≠l):ZipApart z TI TO m l a b:=by
 obtain⟨s,e1,g,_⟩:=h1;obtain⟨t,e2,f,_⟩:=h2;obtain⟨v,g1,j,_⟩:=l1;obtain⟨u,k,i,_⟩:=l2;exact⟨zbf d rfl e rfl (by decide),zbf c rfl e rfl (by decide),zbf e1 g e rfl (by decide),zbf e2 f e rfl (by decide),nT,zbf d rfl e1 g (by decide),zbf d rfl e2 f (by decide),zbf c rfl e1 g (by decide),zbf c rfl e2 f (by decide),ni,zbf g1 j e rfl (by decide),zbf g1 j c rfl (by decide),zbf g1 j e1 g (by decide),zbf g1 j e2 f (by decide),zbf k i e rfl (by decide),zbf k i c rfl (by decide),zbf k i e1 g (by decide),zbf k i e2 f (by decide)⟩
def zps{kx:Nat}{tp:Pos}(a b z TI TO n m:Addr)(nT:TI≠TO)(ni:n≠m):Turn P w K (.Tuple es kx tp) (Itz K a b) [z,TI,TO,n,m] z
  (λi h=>IsZip h z TI TO .none/\IsPair h TI (.ref n) (.ref m)/\(∃x y,IsPair h TO x y)/\h.IsListIter n a i/\h.IsListIter m b i) where
 mem:=by simp
 obj:=λi h st c g=>by
  obtain⟨j,d,⟨x,y,e⟩,⟨o1,e1,c1,d1⟩,⟨o2,e2,c2,d2⟩⟩:=st;simp only[List.mem_cons,List.not_mem_nil,or_false]at g;rcases g with rfl | rfl | rfl | rfl | rfl
  ·exact⟨_,j,λv q=>by cases q⟩
  ·exact⟨_,d,λv q=>by cases q⟩
  ·exact⟨_,e,λv q=>by cases q⟩
  ·exact⟨_,e1,λv q=>by rw[d1]at q;cases q⟩
  ·exact⟨_,e2,λv q=>by rw[d2]at q;cases q⟩
 keep:=λi h h' st k=>by
  obtain⟨j,d,⟨x,y,e⟩,h1,h2⟩:=st;exact⟨k z (by simp) _ j,k TI (by simp) _ d,⟨x,y,k TO (by simp) _ e⟩,h1.at λo q=>k n (by simp) o q,h2.at λo q=>k m (by simp) o q⟩
 item:=by
  intro X O W R hc i pins s σ H E I G st Z;subst O W R;obtain⟨j,d,⟨x0,y0,e⟩,h1,h2⟩:=st;obtain⟨xs,ys,x,y,L,l,J,hy⟩:=Z;obtain⟨its,Y,p,M⟩:=I.list L;obtain⟨N,t,C,B⟩:=I.list l;obtain⟨u,hu,ru⟩:=Y.get J;obtain⟨u',S,V⟩:=t.get hy;have A:=zkr j d e h1 h2 p.isList C.isList nT ni;refine wpAny_pyNext_zip_item A j d e h1 h2 p.isList C.isList (x:=u) (y:=u') (by simpa using hu) (by simpa using S) λg1 z1 Q j1 j2 t1 a1 k1=>?_;refine⟨_,rfl,wpAny_letOwnedTupleGo_zip z1 λF z2 U=>?_⟩;have f:Heap.SameBut z g1 F:=U;have D:z≠s.heap.objs.size:=yo (Heap.lt_size j);have t2:F.get? s.heap.objs.size=some { cls:=.type "tuple",data:=.seq #[u,u'] }:=(f.2 _ (Ne.symm D)).trans t1;have k2:∀c o,c∉[z,TI,TO,n,m]->s.heap.get? c=some o->F.get? c=some o:=λc o g q=>by
   have n1:c≠z:=λz=>g (by simp[z]);exact(f.2 c n1).trans (k1 c o n1 (λz=>g (by simp[z])) (λz=>g (by simp[z])) (λz=>g (by simp[z])) q)
  have I2:Inv X pins σ (upd H s.heap.objs.size (.tup [x,y])) { s with heap:=F,toks:=s.toks }:=I.turnedNew k2 G (yg _) (tup2 t2 ru V);have hn:H s.heap.objs.size=none:=I.hok.fresh (yg _);refine⟨.ref s.heap.objs.size,_,I2,rfl,⟨_,x,y,hn,rfl,λys r=>by rw[I.list_inj r L];exact J,λys r=>by rw[I.list_inj r l];exact hy,rfl⟩,
   ⟨z2,(f.2 TI A.TIz).trans (k1 TI _ A.TIz A.TITO A.TIi1 A.TIi2 d),⟨_,_,(f.2 TO A.TOz).trans Q⟩,j1.at λo q=>(f.2 n A.i1z).trans q,j2.at λo q=>(f.2 m A.i2z).trans q⟩,λc g=>?_⟩
  have T:c≠s.heap.objs.size:=by
   simp only[List.mem_cons,List.not_mem_nil,or_false]at g;obtain⟨o1,e1,_⟩:=h1;obtain⟨o2,e2,_⟩:=h2;rcases g with rfl | rfl | rfl | rfl | rfl
   ·exact D
   ·exact yo (Heap.lt_size d)
   ·exact yo (Heap.lt_size e)
   ·exact yo (Heap.lt_size e1)
   ·exact yo (Heap.lt_size e2)
  rw[zN T];exact(G c g).1
 done:=by
  intro X O W R hc i pins s σ H E I G st Z;subst O W R;obtain⟨j,d,⟨x0,y0,e⟩,h1,h2⟩:=st;obtain⟨xs,ys,L,l,J⟩:=Z;obtain⟨its,Y,p,M⟩:=I.list L;obtain⟨N,t,C,B⟩:=I.list l;have hl:=Y.length;have a0:=t.length;have A:=zkr j d e h1 h2 p.isList C.isList nT ni;refine wpAny_pyNext_zip_end (I.ok.hd hc) A j d e h1 h2 p.isList C.isList ?_ λg1 k1=>⟨rfl,I.turnedL (t':=s.toks) (fp:=[z,TI,TO,n,m]) (λc o g q=>k1 c o (λz=>g (by simp[z])) (λz=>g (by simp[z])) (λz=>g (by simp[z])) (λz=>g (by simp[z])) q) G⟩
  rcases J with q | q
  ·exact .inl (by simp;lia)
  ·exact .inr (by simp;lia)
 self:=λ_ _ _ _ _ st h=>wpAny_pyIter_zip st.1 h
section
variable {X:Cx}{es:List Expr}{kx:Nat}{tp:Pos}
noncomputable def zmc (K:Fg) (R:It->Hp->Prop) (vs:List V) (H:Hp):Prop:=∃a,vs=[.ref a]/\(∃xs,SqL K H a xs)/\R (Itn K a) H
noncomputable def zpw (K:Fg) (R:It->Hp->Prop) (vs:List V) (H:Hp):Prop:=∃a b,vs=[.ref a,.ref b]/\(∃xs,SqL K H a xs)/\(∃ys,SqL K H b ys)/\R (Itz K a b) H
abbrev zqc(K:Fg)(ta:TA):TI:=λσ H R=>ta σ H (zmc K R)
abbrev zpU(K:Fg)(ta:TA):TI:=λσ H R=>ta σ H (zpw K R)
def zq5{a:Expr}{ta:TA}{p pos:Pos}(t:Gl X "enumerate")(v:X.mg "enumerate" = none)(m:PA X [a] ta)(n:autoParam (starEach [a] X.env=[(false,eval a X.env)]) Internal.aut2._auto_1):PI X (.Tuple es kx tp) (.Call (.Name "enumerate" p) [a] [] pos) (zqc X.K ta):=by
 intro pins s σ H R I h;refine Call_ (zb2 I t v boot_enumerate (PyProof.Rows.callWith_type1 (thn (m pos pins s σ H _ I h) λus c ⟨vs,H1,f,k,q1⟩=>?_) n rfl));obtain⟨l,e,⟨xs,o⟩,q⟩:=q1;subst e;obtain⟨u,rfl,r⟩:=vals1 k;cases r;obtain⟨its,y,pl,x⟩:=f.list o;refine call_enumerate_list pl.isList λh1 e1 w j k1=>?_;refine wpAny_pyIter_enum e1 ?_;have i:Inv X pins σ H1 { c with heap:=h1,toks:=c.toks }:=f.kept k1;refine⟨c.heap.objs.size+1,[c.heap.objs.size+1,c.heap.objs.size],_,_,H1,rfl,i,znM l _ _ (Nat.succ_ne_self _),⟨⟨_,e1⟩,w⟩,λb g=>?_,q⟩;have d:c.heap.objs.size<=b:=by
  simp only[List.mem_cons,List.not_mem_nil,or_false]at g;rcases g with rfl | rfl<;>lia
 exact f.fpOk d (f.hok.fresh d)
def znB{a b:Expr}{ta:TA}{p pos:Pos}(E:Gl X "zip")(F:X.mg "zip" = none)(z:PA X [a,b] ta)(A:autoParam (starEach [a,b] X.env=[(false,eval a X.env),(false,eval b X.env)]) Internal.aut2._auto_1)(f:autoParam (starEach [b] X.env=[(false,eval b X.env)]) Internal.aut2._auto_1) :
  PI X (.Tuple es kx tp) (.Call (.Name "zip" p) [a,b] [] pos) (zpU X.K ta):=by
 intro pins s σ H R I h;refine Call_ (zb2 I E F boot_zip (PyProof.Rows.callWith_type1 (thn (z pos pins s σ H _ I h) λus c ⟨vs,H1,g,y,q1⟩=>?_) (by rw[A,f]) (by rw[f];rfl)));obtain⟨l,m,e,⟨xs,B⟩,⟨ys,i⟩,q⟩:=q1;subst e;obtain⟨u,L,rfl,r,x⟩:=vals2 y;cases r;cases x;obtain⟨its,M,pl,J⟩:=g.list B;obtain⟨t,C,j,D⟩:=g.list i;refine call_zip_2 pl.isList j.isList λh1 k ti to G w v k1=>?_;refine wpAny_pyIter_zip k ?_;have o:Inv X pins σ H1 { c with heap:=h1,toks:=c.toks }:=g.kept k1;refine⟨c.heap.objs.size+4,[c.heap.objs.size+4,c.heap.objs.size+2,c.heap.objs.size+3,c.heap.objs.size,c.heap.objs.size+1],_,_,H1,rfl,o,zps l m _ _ _ _ _ (yo (Nat.lt_succ_self _)) (yo (Nat.lt_succ_self _)),⟨k,ti,⟨_,_,to⟩,G,w⟩,λb n=>?_,q⟩;have d:c.heap.objs.size<=b:=by
  simp only[List.mem_cons,List.not_mem_nil,or_false]at n;rcases n with rfl | rfl | rfl | rfl | rfl<;>lia
 exact g.fpOk d (g.hok.fresh d)
end
section
variable {X:Cx}
def Inv.walk(I:Inv X pins σ H s)(c:SqL X.K H a xs):∃its:List Value,Vals xs its/\s.heap.IsList a its.toArray/\its.length=xs.length/\a<s.heap.objs.size:=by
 obtain⟨its,b,pl,d⟩:=I.list c;obtain⟨o,e,_⟩:=id pl.isList;exact⟨its,b,pl.isList,b.length.symm,Heap.lt_size e⟩
noncomputable def zah (ns:List Int):Int:=ns.foldl (·+·) 0
def zch(ns:List Int)(n:Int):zah (ns++[n])=zah ns+n:=by unfold zah;rw[List.foldl_append];rfl
theorem zgh(ns:List Int):∀j,j<=ns.length->preSum (λi=>ns.getD i 0) j=zah (ns.take j)
 | 0,_=>rfl
 | j+1,h=>by
  have a:j<ns.length:=by lia
  rw[preSum,zgh ns j ⋯,List.take_succ_eq_append_getElem a,zch];simp[List.getD,a]
noncomputable def zm0 (K:Fg):List V->Hp->VK->Prop:=λxs H Q=>∃a ns,xs=[.ref a]/\SqL K H a (List.map V.int ns)/\Q (.int (zah ns)) H
def zj0{v:Value}(a:Vals (ns.map V.int) its)(h:its.toArray[i]?=some v):∃t,v=.int (ns.getD i 0) t:=by
 have b:=a.length;rw[yc]at b;have hi:i<ns.length:=by
  have:=(Array.getElem?_eq_some_iff.mp h).1
  simp at this;lia
 obtain⟨u,c,r⟩:=a.get (show(ns.map V.int)[i]?=some (.int (ns.getD i 0)) by simp[List.getD,hi])
 have:v=u:=by
  have h':its[i]?=some v:=by simpa using h
  rw[c]at h';exact(yk h').symm
 obtain⟨t,rfl⟩:=r;exact⟨t,this⟩
def znE(p:X.calm=true):CallR X (.builtin "sum") (zm0 X.K):=by
 intro pins s σ H xs us Q I r h;obtain⟨a,ns,rfl,x,q⟩:=h;obtain⟨u,rfl,t⟩:=vals1 r;cases t;obtain⟨its,y,pl,j,c⟩:=I.walk x;refine call_sum_walkAnyS (wpAny_pyIter_list pl ?_);have f:a≠s.heap.objs.size:=yo c;refine⟨_,_,_,_,_,_,_,λi=>ns.getD i 0,rfl,(Walks.list (prog:=X.prog) (w:=X.w) (A:=X.A.in1) (I.ok.hd p) s.heap.objs.size a f its.toArray).toS,⟨⟨_,Heap.get?_push_size _ rfl,rfl,rfl⟩,pl.at λo e=>Heap.get?_push_of_some _ e⟩,λb l=>?_,λi v B=>zj0 y B,λs' t' d=>?_⟩
 ·rw[Heap.size_push];simp only[List.mem_cons,List.not_mem_nil,or_false]at l;rcases l with rfl | rfl
  ·exact Nat.lt_succ_self _
  ·exact Nat.lt_succ_of_lt c
 ·have n:(its.toArray).size=ns.length:=by rw[yc]at j;simpa using j
  rw[n,zgh ns _ (yg _),List.take_length];have m:s'.gens=s.gens:=by have:=d.gens;first | exact this | exact this.symm
  have hd:=d.drawn;have g:=d.os;have k:Inv X pins σ H { s with heap:=s'.heap,toks:=s'.toks }:=I.kept λb o e=>d.heap b o (λz=>by
   simp only[List.mem_cons,List.not_mem_nil,or_false]at z;subst z;exact absurd (Heap.lt_size e) (Nat.lt_irrefl _)) (Heap.get?_push_of_some _ e)
  have e:({ s with heap:=s'.heap,toks:=s'.toks }:Shared)=s':=by
   cases s';cases s;simp only at m hd g;subst m hd g;rfl
  rw[e]at k;exact⟨.int (zah ns),H,k,⟨t',rfl⟩,q⟩
end
def ObjOk.obj(x:ObjOk P w H h a o):∃u,h.get? a=some u:=by
 cases o with
 | lst xs=>exact⟨_,x.2.choose_spec.choose_spec.2⟩
 | tup xs=>obtain⟨_,_,_,ob,e,_⟩:=x;exact⟨ob,e⟩
 | dK kvs=>obtain⟨_,_,_,_,ob,_,_,e,_⟩:=x;exact⟨ob,e⟩
 | dT kvs=>obtain⟨_,_,_,_,ob,_,_,e,_⟩:=x;exact⟨ob,e⟩
 | set S n=>obtain⟨ob,_,_,_,e,_⟩:=x;exact⟨ob,e⟩
 | ins C dx fs=>exact⟨_,x.2.2.2.1⟩
 | own y=>exact x
 | xd fs=>obtain⟨_,⟨ob,_,_,e,_⟩,_⟩:=x;exact⟨ob,e⟩
 | rng lo hi=>obtain⟨_,_,_,e⟩:=x;exact⟨_,e⟩
 | frz ob u=>exact⟨ob,x.1⟩
 | tbl ps=>exact⟨_,show h.get? a=some _ from x⟩
 | met f y=>exact⟨_,show h.get? a=some _ from x⟩
 | ext φ=>exact x.2.1
noncomputable def DK {α:Type}:Sem α->Prop
 | .pure _=>True
 | .raise _=>True
 | .unsupported _=>True
 | .finish _=>True
 | .rule _ k=>DK (k ())
 | .at _ k=>DK (k ())
 | .load _ _ k=>∀o,DK (k o)
 | .update _ _ f k=>(∀o,(f o).dict=o.dict)/\DK (k ())
 | .alloc _ k=>∀a,DK (k a)
 | .loadIfAlive _ k=>∀o,DK (k o)
 | .point _ k=>DK (k ())
 | .fresh k=>∀t,DK (k t)
 | .ask k=>∀t,DK (k t)
 | .handled _ k=>∀t,DK (k t)
 | .stack k=>∀t,DK (k t)
 | .thread k=>∀t,DK (k t)
 | _=>False
theorem DK.bind{α β:Type}{m:Sem α}{f:α->Sem β}(b:DK m)(c:∀a,DK (f a)):DK (m >>= f):=by
 show DK (Sem.bind m f)
 induction m with
 | pure a=>exact c a
 | raise e=>trivial
 | unsupported w=>trivial
 | finish e=>trivial
 | rule t k ih=>exact ih () b
 | «at» p k ih=>exact ih () b
 | load a p k ih=>exact λo=>ih o (b o)
 | update a p g k ih=>exact⟨b.1,ih () b.2⟩
 | alloc o k ih=>exact λa=>ih a (b a)
 | loadIfAlive a k ih=>exact λa=>ih a (b a)
 | point l k ih=>exact ih () b
 | fresh k ih=>exact λa=>ih a (b a)
 | ask k ih=>exact λa=>ih a (b a)
 | handled o k ih=>exact λa=>ih a (b a)
 | stack k ih=>exact λa=>ih a (b a)
 | thread k ih=>exact λa=>ih a (b a)
 | _=>exact b.elim
noncomputable def Bare (er:Addr) (s:Shared):Prop:=∃o,s.heap.objs[er]?=some o/\o.dict=none
theorem DK.wp{α:Type}{M:Model}{Γ:PySem.Ctx}{er:Addr}{t:Sem α}(h:DK t):∀{Q:α->Pos->Shared->Prop} {E:Value->Pos->Shared->Prop} {p:Pos} {s:Shared},Bare er s->Sem.wp M Γ t Q E p s ->
  Sem.wp M Γ t (λa p s'=>Q a p s'/\Bare er s') (λe p s'=>E e p s'/\Bare er s') p s:=by
 induction t with
 | pure a=>intro Q E p s b w;rw[Sem.wp]at *;exact⟨w,b⟩
 | raise e=>intro Q E p s b w;rw[Sem.wp]at *;exact⟨w,b⟩
 | unsupported _=>intro Q E p s b w;rw[Sem.wp]at *;exact w
 | finish _=>intro Q E p s b w;rw[Sem.wp]at *;exact w
 | rule t k ih=>intro Q E p s b w;rw[Sem.wp]at *;exact ih () h b w
 | «at» q k ih=>intro Q E p s b w;rw[Sem.wp]at *;exact ih () h b w
 | load a q k ih=>
  intro Q E p s b w;rw[Sem.wp]at *
  obtain⟨o,e,w⟩:=w;exact⟨o,e,ih o (h o) b w⟩
 | update a q g k ih=>
  intro Q E p s b w;rw[Sem.wp]at *
  refine⟨w.1,ih () h.2 ?_ w.2⟩;obtain⟨o,e,d⟩:=b;by_cases c:a=er
  ·subst c;exact⟨g o,by simp[Heap.update,Array.getElem?_modify,e],by rw[h.1];exact d⟩
  ·exact⟨o,by simp[Heap.update,Array.getElem?_modify,c,e],d⟩
 | alloc o k ih=>
  intro Q E p s b w;rw[Sem.wp]at *
  refine ih _ (h _) ?_ w;obtain⟨o',e,d⟩:=b;refine⟨o',?_,d⟩;have f:er<s.heap.objs.size:=(Array.getElem?_eq_some_iff.mp e).1
  show(s.heap.objs.push o)[er]?=some o'
  rw[Array.getElem?_push];rw[if_neg (yo f)];exact e
 | loadIfAlive a k ih=>intro Q E p s b w;rw[Sem.wp]at *;exact ih _ (h _) b w
 | point l k ih=>intro Q E p s b w;rw[Sem.wp]at *;exact ih () h b w
 | fresh k ih=>intro Q E p s b w;rw[Sem.wp]at *;exact ih _ (h _) b w
 | ask k ih=>intro Q E p s b w;rw[Sem.wp]at *;exact ih _ (h _) b w
 | handled o k ih=>intro Q E p s b w;rw[Sem.wp]at *;exact ih _ (h _) b w
 | stack k ih=>intro Q E p s b w;rw[Sem.wp]at *;exact ih _ (h _) b w
 | thread k ih=>intro Q E p s b w;rw[Sem.wp]at *;exact ih _ (h _) b w
 | _=>exact h.elim
def DK.any{α:Type}{t:Sem α}{Q:α->Shared->Prop}{E:Value->Shared->Prop}(h:DK t)(b:Bare er s)(w:wpAny M A t Q E s):wpAny M A t (λa s'=>Q a s'/\Bare er s') (λe s'=>E e s'/\Bare er s') s:=
 λΓ p hΓ=>h.wp b (w Γ p hΓ)
theorem Bare.get{er:Addr}{s:Shared}{o:Obj}(b:Bare er s)(e:s.heap.get? er=some o):o.dict=none:=by
 obtain⟨o',a,d⟩:=b;obtain⟨e1,_⟩:=Heap.get?_some_iff.mp e;rw[a]at e1;cases e1;exact d
def zh1(f:Array Value->Array Value)(o:Obj):(o.mapFields f).dict=o.dict:=by
 obtain⟨c,d,a,b⟩:=o;cases a<;>rfl
def zil:DK (load a):=λ_=>trivial
def zeK(v:Value)(i:Nat):DK (field v i):=by
 unfold field fieldsOf;refine DK.bind ?_ λx=>?_
 ·cases v<;>try trivial
  refine DK.bind zil λo=>?_;split<;>trivial
 ·split<;>trivial
def zd7(v:Value)(i:Nat)(x:Value):DK (setField v i x):=by
 unfold setField updateField;cases v<;>try trivial
 refine DK.bind zil λo=>?_;split
 ·split
  ·exact⟨λo=>zh1 _ o,trivial⟩
  ·trivial
 ·trivial
def zdA(e:Value)(f:Option Addr):DK (setFlight e f):=by
 unfold setFlight;refine DK.bind (zeK _ _) λtb=>?_;split
 ·exact zd7 _ _ _
 ·trivial
def zrq(env:Env)(i:Bool)(l:List Env):DK (keptBack env i l):=by
 unfold keptBack;cases l with
 | nil=>
  simp only;split
  ·trivial
  ·refine DK.bind ?_ λ_=>trivial;unfold underTheClaimsCaller;exact λ_=>trivial
 | cons c r=>trivial
def znC(env:Env)(l:List Env):DK (behindIsImport env l):=by
 unfold behindIsImport;split
 ·trivial
 ·split
  ·trivial
  ·exact DK.bind (zeK _ _) λ_=>trivial
theorem zkn:∀l:List Env,DK (readyFrames l)
 | []=>trivial
 | env :: outer=>by
  unfold readyFrames;split
  ·refine DK.bind zil λo=>?_;split
   ·trivial
   ·refine DK.bind (znC _ _) λ_=>DK.bind (zrq _ _ _) λ_=>DK.bind ⟨λ_=>rfl,trivial⟩ λ_=>zkn outer
  ·trivial
def zhY(l:List Env):DK (frameObject l):=by
 cases l with
 | nil=>trivial
 | cons env outer=>exact DK.bind (zkn _) λ_=>trivial
def zmP(env:Env):DK (PySem.frameOf env):=by
 unfold PySem.frameOf frameEnvs;refine DK.bind (DK.bind (λ_=>trivial) λ_=>trivial) λ_=>DK.bind (zhY _) λo=>?_;split<;>trivial
def zpj(f:Addr)(b:Bool):DK (entryPlaceOf f b):=by
 unfold entryPlaceOf;refine DK.bind (λ_=>trivial) λa=>?_;split<;>trivial
def zlL(T:String)(d:Data):DK (newObjAsIs (.type T) d):=by
 unfold newObjAsIs;exact λ_=>trivial
def zsT(T:String)(vs:Array Value):DK (newObj (.type T) (.fields vs)):=by
 unfold newObj;simp only;split
 ·exact DK.bind (m:=unsupported "record:memory") trivial λ_=>zlL _ _
 ·exact zlL _ _
def zp3(a b c d e:Value)(pl:List Value):DK (EntryCells.newEntry a b c d e pl):=zsT _ _
def zlQ(e:Value)(env:Env):DK (noteFrame e env):=by
 unfold noteFrame;have fin:∀(head:Value) (f:Addr),DK (do setField e 1 (<- EntryCells.newEntry head (<- frameOf env) .none (rawInt f) .none (<- entryPlaceOf f (head != .none)))):=λhead f=>
  DK.bind (zmP _) λ_=>DK.bind (zpj _ _) λ_=>DK.bind (zp3 _ _ _ _ _ _) λ_=>zd7 _ _ _
 split
 ·refine DK.bind (zeK _ _) λhead=>?_;split
  ·refine DK.bind (zeK _ _) λx=>?_;split
   ·trivial
   ·exact DK.bind (zd7 _ _ _) λ_=>fin _ _
  ·exact fin _ _
 ·trivial
def zhM(env:Env)(e:Value):DK (leaving env e):=DK.bind (zlQ _ _) λ_=>zdA _ _
structure Fly(P:Program)(w:World)(outer:List Env)(H:Hp)(s:Shared)(H':Hp)(er C t:Addr)(B:Heap)(s':Shared):Prop where
 os:s'.os=s.os
 bare:AllBare s'.gens
 un:Un (frs outer) [] H H' s.heap s'.heap
 hok:HOk P w H' s'.heap
 fly:Heap.FlyingW B outer er (.ref C) (.ref t) s'.heap
 old:∀b o,s.heap.get? b=some o->H b=none->b∉frs outer->B.get? b=some o
 has:∀b o,s.heap.get? b=some o->b∉frs outer->∃u,B.get? b=some u
 trk:∀b o u,H' b=some o->s'.heap.get? b=some u->B.get? b=some u
 nod:Bare er s'
noncomputable def CXF (P:Program) (w:World):CXT:=λouter H s E e s'=>∃er C t B H',e=.ref er/\Fly P w outer H s H' er C t B s'/\E (.ref C) none H'
def zaA:NoX (CXF P w):=λ_ _ _ _ _ ⟨_,_,_,_,_,_,_,h⟩=>h
section
variable {P:Program}{w:World}{outer:List Env}{H H':Hp}{s s':Shared}{er C t:Addr}{B h:Heap}
def Fly.noTrk(F:Fly P w outer H s H' er C t B s'):H' er=none:=by
 cases e:H' er with
 | none=>rfl
 | some o=>
  obtain⟨ob,q,_⟩:=F.fly.there;have z:=F.trk er o ob e q;rw[F.fly.2.1]at z;cases z
def Fly.unAt(F:Fly P w outer H s H' er C t B s')(i:s.heap.FunFrames base outer)(st:B.StaysIn h)(up:s'.heap.UpToSlots h):Un (frs outer) [] H H' s.heap h where
 keep:=λb o q n a _=>st b o (F.old b o q n a)
 slot:=λb o q n a _=>by
  obtain⟨j,e1⟩:=F.un.slot b o q n a (by simp);obtain⟨_,o',d,g⟩:=i.mem a;rw[q]at d;cases d;obtain⟨c,e2⟩:=up b _ e1 g;exact⟨c,e2⟩
 free:=F.un.free
 there:=λb o q _=>by
  by_cases a:b∈frs outer
  ·obtain⟨_,o',d,g⟩:=i.mem a;rw[q]at d;cases d;cases hn:H b with
   | none=>
    obtain⟨j,e1⟩:=F.un.slot b o q hn a (by simp);obtain⟨c,e2⟩:=up b _ e1 g;exact⟨_,e2⟩
   | some x=>
    obtain⟨_,k,e1,f⟩:=F.fly.2.2.1.mem a;obtain⟨c,e2⟩:=up b _ e1 f;exact⟨_,e2⟩
  ·obtain⟨u,e⟩:=F.has b o q a;exact⟨u,st b u e⟩
 tups:=F.un.tups
 frzs:=F.un.frzs
 tbls:=F.un.tbls
def Fly.hokAt(F:Fly P w outer H s H' er C t B s')(st:B.StaysIn h):HOk P w H' h:=λa o e=>
 (F.hok a o e).stay (λb u c q=>st b u (by
  rcases c with rfl | c
  ·exact F.trk b o u e q
  ·exact F.trk b _ u c q)) (λ_ q=>q) λ_ _ q=>q
noncomputable def zhl (er C:Addr) (h:Heap):Prop:=∃oe:Obj,PySem.W.InstAt h er oe C none
noncomputable def zca (er C:Addr):HO:=.ext (zhl er C)
def zpT{l:List Env}{g:Value}{B:Heap}(f:Heap.FlyingW B l er (.ref C) g h)(b:Bare er { s with heap:=h }):zhl er C h:=by
 obtain⟨a,vs,e,c,d,_⟩:=f.first;have nd:a.dict=none:=b.get e;exact⟨a,e,c,by unfold PySem.W.notCls;rw[d],by rw[nd];trivial⟩
def Fly.unEr(F:Fly P w outer H s H' er C t B s')(u:Un (frs outer) [] H H' s.heap h):Un (frs outer) [] H (upd H' er (zca er C)) s.heap h:=by
 have ne:∀b o,s.heap.get? b=some o->b≠er:=λb o q z=>by
  subst z;by_cases c:b∈frs outer
  ·obtain⟨_,g,e1,a⟩:=F.fly.2.2.1.mem c;obtain⟨i,vs,e2,_,d,_⟩:=F.fly.first;rw[e1]at e2;cases e2;exact a vs d
  ·obtain⟨u,e⟩:=F.has b o q c;rw[F.fly.2.1]at e;cases e
 have nt:=F.noTrk;exact⟨u.keep,u.slot,λb o q n f=>by rw[zN (ne b o q)];exact u.free b o q n f,u.there,λb xs q=>by
   rw[zN (zE (u.tups b xs q) nt)];exact u.tups b xs q,λb o v q=>by
   rw[zN (zE (u.frzs b o v q) nt)];exact u.frzs b o v q,λb ps q=>by
   obtain⟨m,e⟩:=u.tbls b ps q;exact⟨m,by rw[zN (zE e nt)];exact e⟩⟩
def zs6(l:HOk P w H' h)(nt:H' er=none)(j:zhl er C h):HOk P w (upd H' er (zca er C)) h:=λa o e=>by
 by_cases g:a=er
 ·subst g;rw[zQ]at e;cases e;obtain⟨f,i⟩:=j;refine⟨⟨f,i⟩,⟨f,i.at_⟩,λh1 h2 ⟨d,c⟩ k=>⟨d,k d c.at_,c.cls,c.no,?_⟩⟩;have z:=c.dict;cases hd:d.dict with
  | none=>trivial
  | some dx=>rw[hd]at z;exact z.elim
 ·rw[zN g]at e;exact(l a o e).stay (λ_ _ _ q=>q) (λb q=>by rw[zN (zE q nt)];exact q) λb xs q=>by rw[zN (zE q nt)];exact q
end
noncomputable def bmV:List Value:=[.type "ValueError",.type "Exception",.type "BaseException",.type "object"]
noncomputable def OwnErr (K:Fg) (C:Addr):Prop:=PySem.W.excIn K C bmV "ValueError.__new__" = true
def OwnErr.obj(q:OwnErr K C)(X:K.In h):∃a N nm c bs hd sn sub ab col dd k0 k1 k2 k3 k5 mN,
  h.get? C=some (excClassObj nm c C N bs a hd sn sub ab col dd k0 k1 k2 k3 k5 "ValueError.__new__")/\h.Ns N mN/\mN "__init__" = none/\OwnTail h bmV a:=by
 have q':PySem.W.excIn K C bmV "ValueError.__new__" = true:=q;unfold PySem.W.excIn at q';split at q'
 ·rename_i dd i l o;split at q'
  ·rename_i n a k0 k1 k2 k3 d k5 em es;rw[Bool.and_eq_true,Bool.and_eq_true,Bool.and_eq_true,Bool.and_eq_true,Bool.and_eq_true]at q';obtain⟨⟨⟨⟨⟨a1,a2⟩,p⟩,m⟩,e⟩,s⟩:=q';have b1:n=C:=eq_of_beq a1;have b2:d = "ValueError.__new__" := eq_of_beq a2;have j:i.hasDel=false:=by simpa using p
   have f:=eq_of_beq s;have g:=X C _ o;obtain⟨nm,bs,k,ns,c,hd,sn,sub,ab,col,r⟩:=i;simp only at em j e f;subst em j b1 b2;have b:l=#[k0,k1,k2,k3,some (.builtin "ValueError.__new__"),k5]:=by
    rw[<- Array.toList_inj];exact es
   subst b;exact⟨a,ns,nm,c,bs,hd,sn,sub,ab,col,dd,k0,k1,k2,k3,k5,_,g,Heap.Ns.of_isNs (PySem.W.isNs_of_in X e),PySem.W.nsMap_none_of_in X e f,PySem.W.tail_of_in X m⟩
  ·cases q'
 ·cases q'
def zng{prog:Program}{w:World}{A:Around}{E:Value->Shared->Prop}{s:Shared}{K:Fg}{er C:Addr}{h:Obj}{Q:Option Value->Shared->Prop}
  (ga:PySem.W.findIn K (.ref C) "__getattribute__" = some (some (.builtin "BaseException.__getattribute__"))) (gn:PySem.W.findIn K (.ref C) "__getattr__" = some none)
  (hf:PySem.W.findObj K C none "__class__" = some (.bind (.builtin "getset_descriptor.__get__") (.builtin "object.__class__"))) (mo:PySem.W.mroIn K C (.type "object")=some true) (be:PySem.W.mroIn K C (.type "BaseException")=some true)
  (X:K.In s.heap) (i:PySem.W.InstAt s.heap er h C none) (q:Q (some (.ref C)) { s with toks:=s.toks+1 }):wpAny (model prog w) A (getAttr? (.ref er) "__class__") Q E s:=by
 obtain⟨m,g,d,t,os⟩:=s;have c:=i.type (M:=model prog w);have L1:=PySem.W.looks_findIn (M:=model prog w) X ga;have Internal':=PySem.W.looks_findIn (M:=model prog w) X gn;have l:=PySem.W.looks_find (M:=model prog w) X i hf;have k:=PySem.W.looks_mroIn (M:=model prog w) X be;have f:=PySem.F.attr_ValueError.ga.bind (.ref er);unfold getAttr? getAttrBy? getAttrBy;refine wpAny_bind (wpAny_mkText (wpAny_bind (wpAny_attempt (wpAny_holding (wpAny_bind (c.at (wpAny_bind (L1.at ?_))))))));show wpAny _ _ (getAttrByItsOwn _ _ _ _ _ _) _ _ _;unfold getAttrByItsOwn hookBefore;refine wpAny_bind (Internal'.at ?_);refine wpAny_bind (wpAny_attempt (wpAny_holding ?_));show wpAny _ _ (boundAndCalled _ _ _) _ _ _;unfold boundAndCalled;rw[f];refine wpAny_bind (wpAny_pure ?_);refine wpAny_call (codeAny_call_builtin PySem.F.attr_ValueError.ga.plain PySem.F.entry_bexc_ga ?_);have j:builtinKind "BaseException.__getattribute__" = some .slot:=by decide +kernel
 have b:splitId "BaseException.__getattribute__" = some ("BaseException", "__getattribute__"):=by decide +kernel
 simp only[checkBuiltinCall,j,b];unfold isInstance;refine wpAny_bind (wpAny_bind (c.at (k.at ?_)));simp only[Bool.not_true,Bool.false_eq_true,if_false];have e:=PySem.F.args_bexc_ga (.ref er) (.str "__class__" t);unfold argsOk at e;refine wpAny_of_eq (a:=()) e ?_;show wpAny _ _ (Builtin.«object.__getattribute__» _) _ _ _;unfold Builtin.«object.__getattribute__»;refine wpAny_bind (wpAny_pure ?_);refine wpAny_bind (wpAny_pure ?_);refine wpAny_bind (c.at ?_);refine wpAny_bind (l.at ?_);show wpAny _ _ (Builtin.ObjectAttr.bindTo _ _ _ _) _ _ _;unfold Builtin.ObjectAttr.bindTo;refine wpAny_bind (wpAny_holding (wpAny_call (PySem.W.class_get X i mo ?_)));exact wpAny_pure (PySem.W.handed_on rfl (wpAny_pure q))
noncomputable def errOk (K:Fg) (C:Addr):Bool:=PySem.W.excIn K C bmV "ValueError.__new__" && (PySem.W.findIn K (.ref C) "__getattribute__" == some (some (.builtin "BaseException.__getattribute__")))&&(PySem.W.findIn K (.ref C) "__getattr__" == some none)&&(PySem.W.mroIn K C (.type "BaseException") == some true)&&(PySem.W.clsIn K C).isSome&&(PySem.W.findIn K (.ref C) "__class__" == some (some (.builtin "object.__class__"))) &&
 (PySem.W.specialIn K (.builtin "object.__class__") "__get__" == some (some (.builtin "getset_descriptor.__get__")))&&(PySem.W.takesIn K (.builtin "object.__class__") == some true)&&(PySem.W.mroIn K C (.type "object") == some true)
def errOk.own(h:errOk K C=true):OwnErr K C:=by
 unfold errOk at h;simp only[Bool.and_eq_true]at h;exact h.1.1.1.1.1.1.1.1
def zpI(h:errOk K C=true):PySem.W.KitX K (.ref er) (.ref C) (zhl er C):=by
 unfold errOk at h;simp only[Bool.and_eq_true,beq_iff_eq]at h;obtain⟨⟨⟨⟨⟨⟨⟨⟨_,ga⟩,p⟩,j⟩,cl⟩,t⟩,sn⟩,tk⟩,f⟩:=h;obtain⟨v,a⟩:=Option.isSome_iff_exists.mp cl;have there:∃o:Obj,K.lookup C=some o/\o.data=.cls v:=by
  unfold PySem.W.clsIn at a;split at a
  ·rename_i b;cases a;exact⟨_,b,rfl⟩
  ·cases a
 obtain⟨o,b,c⟩:=there;refine⟨λM h _ ⟨l,i⟩=>i.type,λM h X _ A Q E s k q=>?_,λh tp dd its n y X e=>?_,λ{prog w A E Q s} X ⟨l,i⟩ q=>?_⟩
 ·have g:=k _ _ (X _ _ b);obtain⟨x,od,m,u⟩:=o;simp only at c;subst c;unfold isType loadHead;exact wpAny_bind (wpAny_loadPart g (wpAny_pure q))
 ·rw[Bool.eq_false_iff];intro z;have r:C=tp:=Value.ref.inj (beq_iff_eq.mp z);subst r;have g:=X _ _ b;rw[e]at g;cases g;cases c
 ·have d:PySem.W.findObj K C none "__class__" = some (.bind (.builtin "getset_descriptor.__get__") (.builtin "object.__class__")):=by
   unfold PySem.W.findObj;rw[a,Option.bind_some,t,Option.bind_some];simp[sn,tk]
  exact zng ga p d f j X i q
noncomputable def znX (C:Addr) (a:XK) (ta:TA):TS:=λ_ σ H=>ta σ H λvs H1=>vs.length<=sizeLine/\a (.ref C) none H1
noncomputable def ztg (X:Cx) (C:Addr) (a:XK):Prop:=∀(pins:List (Addr × Obj)) (σ:St) (H:Hp) (s:Shared) (h':Heap) (er:Addr) (args:List Value),Inv X pins σ H s->Heap.MadeExcOf s.heap h' er (.ref C) args->a (.ref C) none H->X.xe (.ref er) { s with heap:=h' }
def zad{i cpos pos:Pos}{ta:TA}{b:XK}(g:X.calm=true)(o:Gl X x)(p:X.mg x=some (.ref C))(f:OwnErr X.K C)(j:PA X (e :: es) ta)(n:ztg X C b)
  (hdb:autoParam ((x == ("__debug__" : Str))=false) Internal.aut1._auto_1) (he:autoParam (starEach (e :: es) X.env=(false,eval e X.env) :: starEach es X.env) Internal.aut2._auto_1) (hpl:autoParam ((backTo cpos (starEach es X.env)).any (·.1)=false) Internal.aut2._auto_1) :
  PS X (.Raise (some (.Call (.Name x i) (e :: es) [] cpos)) none pos) (znX C b ta):=by
 intro pins s σ H D I h;obtain⟨u,N,nm,d,bs,hd,sn,sub,ab,col,dd,k0,k1,k2,k3,k5,t,g1,m,l,c⟩:=f.obj I.ok.mod.kin;have pl:(backTo cpos (starEach (e :: es) X.env)).any (·.1)=false:=by rw[he];exact hpl
 refine wpAny_Raise_call_subT PySem.F.excBase_ValueError (C:=C) (nm:=nm) (q:=d) (N:=N) (bs:=bs) (hdct:=hd) (sn:=sn) (sub:=sub) (ab:=ab) (col:=col) (dd:=dd) (k0:=k0) (k1:=k1) (k2:=k2) (k3:=k3) (k5:=k5) (c.hasType (by decide)) (I.ok.hd g) pl l (zcO I o p ⟨rfl,?_⟩ hdb);have run:=j cpos pins s σ H _ I h;rw[he]at run ⊢;refine Calls.evalArgs_plain (wpAny_mono run (λus k q=>?_) λ_ _ z=>z);obtain⟨vs,H1,a,r,z,ex⟩:=q;exact⟨rfl,by rw[<- r.length];exact z,a.bk _ _ g1,m.keeps a.bk,c.keeps a.bk,λh' er mk=>n pins σ H1 k h' er us a mk ex⟩
def zax{P:Program}{w:World}{K:Fg}{mg:Str->Option Value}{base:Heap}{N:List Str}{qual:Str}{scope:Scope}{f:Addr}{i:Value}{A:Around}{outer:List Env}{s:Shared}{H:Hp}{E:XK}{C:Addr} :
  ztg (zay (CXF P w) P w K mg base N qual scope f i A outer s H E) C E:=by
 intro pins σ H1 k h' er args I mk ex;have J:=I.stack;have r:∀env∈(envOfC qual scope s.heap.objs.size f i :: outer),∀b,env.frame=some b->b∈frs (envOfC qual scope s.heap.objs.size f i :: outer):=λenv G b c=>List.mem_filterMap.mpr ⟨env,G,c⟩;have M:∀b o,(PySem.W.hideAll k.heap (frs (envOfC qual scope s.heap.objs.size f i :: outer))).get? b=some o->k.heap.get? b=some o:=λb o q=>PySem.W.of_hideAll _ q;have g:∀b o,k.heap.get? b=some o->b∉frs (envOfC qual scope s.heap.objs.size f i :: outer)->(PySem.W.hideAll k.heap (frs (envOfC qual scope s.heap.objs.size f i :: outer))).get? b=some o:=λb o q n=>PySem.W.hideAll_get _ q n;have l:∀b o,s.heap.get? b=some o->b∉frs outer->b∉frs (envOfC qual scope s.heap.objs.size f i :: outer):=λb o q n z=>by
  rcases List.mem_cons.mp (show b∈s.heap.objs.size :: frs outer from z)with z | z
  ·exact yo (Heap.lt_size q) z
  ·exact n z
 have d:∀b o u,H1 b=some o->k.heap.get? b=some u->(PySem.W.hideAll k.heap (frs (envOfC qual scope s.heap.objs.size f i :: outer))).get? b=some u:=λb o u q e=>g b u e λz=>by
  have:=I.stkFree b z
  rw[q]at this;cases this
 show wpAny (model P w) (A.deeper (envOfC qual scope s.heap.objs.size f i)) (leaving (envOfC qual scope s.heap.objs.size f i) (.ref er)) _ _ _;have D:Bare er { k with heap:=h' }:=by
  obtain⟨t,e,_⟩:=mk.there;exact⟨_,(Heap.get?_some_iff.mp e).1,rfl⟩
 refine wpAny_mono (DK.any (E:=λ_ _=>False) (Q:=λ_ m=>Bare er m->CXF P w outer H s E (.ref er) m) (zhM _ _) D ?_) (λ_ m q=>q.1 q.2) λ_ _ q=>q.1.elim;refine wpAny_leaves_madeW (L:=s.heap.objs.size) (base:=PySem.W.hideAll k.heap (frs (envOfC qual scope s.heap.objs.size f i :: outer))) (h:=k.heap) I.ok.frames rfl M (PySem.W.funFrames_hide J r) mk λp t fly _ _ up b1=>?_;refine⟨er,C,t,_,H1,rfl,⟨I.os,I.bare,⟨λb o q n c _=>?_,λb o q n c _=>?_,λb o q n _=>I.base.free b o q n (by simp[zay]),λb o q _=>?_,I.base.tups,I.base.frzs,I.base.tbls⟩,?_,fly,λb o q n c=>?_,λb o q c=>?_,?_,b1⟩,ex⟩
 ·exact fly.1 b o (g b o (I.base.keep b o q n c (by simp[zay])) (l b o q c))
 ·obtain⟨R,e1⟩:=I.base.slot b o q n c (by simp[zay]);obtain⟨_,j,e2,F⟩:=I.ok.funs.mem c;have y:s.heap.get? b=some j:=e2;rw[q]at y;cases y;obtain⟨v,O⟩:=up b _ (mk.keeps b _ e1) F;exact⟨v,O⟩
 ·by_cases c:b∈frs outer
  ·obtain⟨_,j,e1,_⟩:=fly.2.2.1.mem c;exact⟨j,e1⟩
  ·obtain⟨j,e1⟩:=I.base.there b o q (by simp[zay]);exact⟨j,fly.1 b j (g b j e1 (l b o q c))⟩
 ·intro a o e;exact(I.hok a o e).stay (λb u c q=>fly.1 b u (by
   rcases c with rfl | c
   ·exact d b o u e q
   ·exact d b _ u c q)) (λ_ q=>q) λ_ _ q=>q
 ·exact g b o (I.base.keep b o q n c (by simp[zay])) (l b o q c)
 ·obtain⟨j,e1⟩:=I.base.there b o q (by simp[zay]);exact⟨j,g b j e1 (l b o q c)⟩
 ·intro b o u q e;obtain⟨B,e1⟩:=(I.hok b o q).obj;have z:=fly.1 b B (d b o B q e1);have x:p.get? b=some u:=e;rw[z]at x;cases x;exact d b o _ q e1
abbrev Cx.inH(X:Cx)(er:Addr):Cx:={ X with A:=X.A.mark (some (.ref er)),calm:=false,xe:=λ_ _=>False }
theorem Cx.Ok.inH{X:Cx}(ok:X.Ok)(er:Addr):(X.inH er).Ok:=
 ⟨ok.mod,ok.kind,ok.glob,ok.blt,ok.above,ok.inj,ok.has,ok.cab,λz=>(by cases z),ok.frames,ok.stk,ok.exf,ok.bs,ok.bsz,ok.noex,ok.exfs,ok.funs,ok.frf⟩
section
variable {X:Cx}{pins:List (Addr × Obj)}{σ:St}{H H':Hp}{s s':Shared}
theorem Inv.inH(I:Inv X pins σ H s)(er:Addr):Inv (X.inH er) pins σ H s:=⟨I.ok.inH er,I.os,I.bare,I.base,I.loc,I.cell,I.free,I.freeC,I.pin,I.hok,I.len⟩
def Inv.outH(ok:X.Ok)(I:Inv (X.inH er) pins σ H s):Inv X pins σ H s:=⟨ok,I.os,I.bare,I.base,I.loc,I.cell,I.free,I.freeC,I.pin,I.hok,I.len⟩
def zos{n:Str}{pos:Pos}{Q:Unit->Shared->Prop}{E:Value->Shared->Prop}(I:Inv X pins σ H s)(J:X.N.Nodup)(hi:X.N[i]?=some n)(O:X.env.kindOf n=some .local)(q:∀s2,Inv X pins (σ.set i none) H s2->Q () s2) :
  wpAny (model X.prog X.w) X.A (do bindName X.env n .none;unbindBehindTheSuite X.env n pos) Q E s:=by
 obtain⟨m,C,G⟩:=id I.loc;obtain⟨R,_,_,P,_⟩:=id C;refine wpAny_nameGoes_keeps O C (by rw[I.ok.kind];rfl) λh' v h a=>q _ ?_;have x:∀b o,X.s₀.heap.get? b=some o->b≠X.env.locals:=λb o e=>yo (Nat.lt_of_lt_of_le (Heap.lt_size e) I.ok.above);refine⟨I.ok,I.os,I.bare,⟨λb o e n B f=>(a.2 b (x b o e)).trans (I.base.keep b o e n B f),λb o e n B f=>?_,I.base.free,λb o e f=>?_,I.base.tups,I.base.frzs,I.base.tbls⟩,⟨_,h,λj y F e1 e2 L=>?_⟩,λy c e=>?_,I.free,I.freeC,λp hp=>?_,λb ob e=>?_,by rw[List.length_set];exact I.len⟩
 ·obtain⟨K,e1⟩:=I.base.slot b o e n B f;exact⟨K,(a.2 b (x b o e)).trans e1⟩
 ·obtain⟨o',e1⟩:=I.base.there b o e f;exact⟨o',(a.2 b (x b o e)).trans e1⟩
 ·by_cases t:j=i
  ·subst t;have g:j < σ.length:=by rw[I.len];exact(yi.mp hi).1
   rw[List.getElem?_set_self g]at e2;cases e2
  ·rw[List.getElem?_set_ne (Ne.symm t)]at e2;obtain⟨u,r,z⟩:=G j y F e1 e2 L;refine⟨u,r,?_⟩;have M:y≠n:=λz=>t (zgJ J e1 (z▸hi));rcases z with⟨k,e⟩ | ⟨k,c,e,z⟩
   ·exact .inl ⟨k,by show(if y=n then v else m y)=some u;rw[if_neg M];exact e⟩
   ·exact .inr ⟨k,c,e,z.sameBut a (I.cne y c e)⟩
 ·obtain⟨u,z⟩:=I.cell y c e;exact⟨u,z.sameBut a (I.cne y c e)⟩
 ·obtain⟨e,n,ne,D,d⟩:=I.pin p hp;exact⟨(a.2 p.1 ne).trans e,n,ne,D,d⟩
 ·refine(I.hok b ob e).stay (λc u l q=>(a.2 c ?_).trans q) (λ_ q=>q) λ_ _ q=>q;rintro rfl;rcases l with rfl | l
  ·have:=I.free;rw[e]at this;cases this
  ·have:=I.free;rw[l]at this;cases this
noncomputable def Ends.gone (D:Ends) (i:Nat):Ends:=⟨λσ H=>D.nx (σ.set i none) H,D.rt,λσ H=>D.bk (σ.set i none) H,λσ H=>D.ct (σ.set i none) H⟩
theorem SP.gone{i:Nat}{D:Ends}{f:Flow}{er:Addr}(ok:X.Ok)(h:SP (X.inH er) pins (D.gone i) f s):∃a H',Inv X pins a H' s/\∀b,Inv X pins (a.set i none) H' b->SP X pins D f b:=by
 cases f with
 | next=>obtain⟨a,H',I,q⟩:=h;exact⟨a,H',I.outH ok,λb J=>⟨_,_,J,q⟩⟩
 | brk=>obtain⟨a,H',I,q⟩:=h;exact⟨a,H',I.outH ok,λb J=>⟨_,_,J,q⟩⟩
 | cont=>obtain⟨a,H',I,q⟩:=h;exact⟨a,H',I.outH ok,λb J=>⟨_,_,J,q⟩⟩
 | ret u=>obtain⟨v,a,H',I,r,q⟩:=h;exact⟨a,H',I.outH ok,λb J=>⟨v,_,_,J,r,q⟩⟩
def taken{er C P t:Addr}{B:Heap}{m n:Str}{R hp:Pos}{M:Stmt}{b:List Stmt}{rest:List ExceptHandler}{i:Nat}{th:TS}{D:Ends}(f:X.stack=X.env :: X.outer/\X.env.frame=some X.env.locals)(I:Inv X pins σ H s)
  (F:Fly X.prog X.w X.stack H s H' er C t B s') (hg:Gl X m) (hm:X.mg m=some (.ref P)) (hx:PySem.W.exmOne X.K (.ref C) (.ref P)=some true) (hN:X.N.Nodup) (hi:X.N[i]?=some n) (hl:X.env.kindOf n=some .local)
  (hth:PSs (X.inH er) (M :: b) th) (q:th (D.gone i) (σ.set i (some (.ref er))) (upd H' er (zca er C))) (hdb:(m == ("__debug__" : Str))=false) :
  wpAny (model X.prog X.w) X.A (noteFrame (.ref er) X.env) (λ_ V=>wpAny (model X.prog X.w) X.A (setFlight (.ref er) none) (λ_ s₃=>
   wpAny (model X.prog X.w) X.A (handleBy (.ref er) X.env (.ExceptHandler (some (.Name m R)) (some n) (M :: b) hp :: rest)) (SP X pins D) X.xe s₃) X.xe V) X.xe s':=by
 have J:X.A.frames=some (X.env :: X.outer):=by rw[I.ok.frames,f.1]
 have g:Heap.FlyingW B (X.env :: X.outer) er (.ref C) (.ref t) s'.heap:=f.1▸F.fly;have k:∀{h:Heap},B.StaysIn h->s'.heap.UpToSlots h->∀tk,Inv X pins σ H' { s' with heap:=h,toks:=tk }:=λ{h} st up tk=>
  I.call' (s':={ s' with heap:=h,toks:=tk }) (ch:=[]) F.os (F.unAt I.stack st up) (F.hokAt st) F.bare λ_ z=>nomatch z
 refine wpAny_mono (DK.any (E:=λ_ _=>False) (Q:=λ_ d=>Bare er d->_) (zlQ _ _) F.nod (wpAny_looks_onW J f.2 g λh4 j o b4=>?_)) (λ_ d q=>q.1 q.2) λ_ _ q=>q.1.elim;refine wpAny_mono (DK.any (E:=λ_ _=>False) (Q:=λ_ d=>Bare er d->_) (zdA _ _) b4 (wpAny_landsW j λL c y Y=>?_)) (λ_ d q=>q.1 q.2) λ_ _ q=>q.1.elim;have up:s'.heap.UpToSlots L:=o.trans y;have O:=(k c.1 up s'.toks).inH er;obtain⟨ob,r,p⟩:=c.there;refine wpAny_handleBy_cons (codeAny_handlers_test (zcO (X:=X.inH er) O hg hm ?_ hdb)) (by intro z;cases z);have LT:PySem.W.Looks (model X.prog X.w) L (typeOf (.ref er)) (.ref C):=p▸(PySem.W.Looks.ld r).andThen .now;refine(PySem.W.exm_one O.kIn LT hx) _ _ _ _ (λ_ _ e=>e) ?_;show codeAny _ _ _ _ _;refine codeAny_handlers_suite_as ?_;refine wpAny_mono (DK.any (E:=λ_ _=>False) (Q:=λ_ d=>Bare er d->_) (zdA _ _) Y (lands_againW c λx a l S=>?_)) (λ_ d q=>q.1 q.2) λ_ _ q=>q.1.elim;have J6:=k a.1 (up.trans l) s'.toks;have U:Un (frs X.stack) [] H (upd H' er (zca er C)) s.heap x:=F.unEr (F.unAt I.stack a.1 (up.trans l));have T:Inv X pins σ (upd H' er (zca er C)) { s' with heap:=x }:=
  I.call' (s':={ s' with heap:=x }) (ch:=[]) F.os U (zs6 (F.hokAt a.1) F.noTrk (zpT a S)) F.bare λ_ z=>nomatch z
 refine zeL (X:=X.inH er) (i:=i) (v:=.ref er) (T.inH er) hN hi (.inl hl) rfl (λs7 J7=>?_) (.inr hl);refine wpAny_mono (hth pins s7 _ _ _ J7 q) (λfl s8 Z=>?_) λ_ _ z=>z.elim;obtain⟨σ9,H9,I9,fin⟩:=SP.gone I.ok Z;exact zos I9 hN hi hl λG u=>fin G u
end
def Fun.okX{P:Program}{w:World}{mg:Str->Option Value}{base:Heap}{CX:CXT}{k:Nat}(F:Fun K x qual st f fd)(S:FnScope N ps (zj st))(len:∀vs H Q E,sp vs H Q E->vs.length=ps.length)
  (body:∀(a:Value) (A:Around) (outer:List Env) (s:Shared) (H:Hp) (vs:List V) (Q:VK) (E:XK),Room k (A.deeper (envOfC qual (zj st) s.heap.objs.size f a))->sp vs H Q E ->
   ∃t,PSs (zay CX P w K mg base N qual (zj st) f a A outer s H E) (zbb st) t/\t { nx:=λ_ H'=>Q .non H',rt:=Q } (start N vs) H):FnOk P w K mg base CX (k+1) f fd ps sp:=by
 obtain⟨i,od,kV,e,l,j,a,ct,d,rfl,g,b⟩:=F.ex;exact zmR g b S len λA outer s H vs Q E h c=>body a A outer s H vs Q E h c
noncomputable def zgZ (K:Fg):List V->Hp->VK->Prop:=λxs H Q=>(∃er C c cv b,xs=[.ref er,c]/\RelV c cv/\H er=some (zca er C)/\errOk K C=true/\PySem.W.kitOne K (.ref C) cv=some b/\Q (.bl b) H)\/ztl K xs H Q
def zoi:CallR X (.builtin "isinstance") (zgZ X.K):=by
 refine CallR.or ?_ zk9;intro pins s σ H xs us Q I r h;obtain⟨er,C,c,d,b,rfl,e,j,ok,g,q⟩:=h;obtain⟨u,f,rfl,k,r2⟩:=vals2 r;obtain rfl:u=Value.ref er:=k;have l:zhl er C s.heap:=(I.hok er _ j).1;have i:f=d:=by
  cases c with
  | ty n=>exact(show f=_ from r2).trans (show d=_ from e).symm
  | ref a=>exact(show f=_ from r2).trans (show d=_ from e).symm
  | non=>exact(show f=_ from r2).trans (show d=_ from e).symm
  | bl b=>exact(show f=_ from r2).trans (show d=_ from e).symm
  | _=>obtain⟨_,rfl⟩:=e;simp[PySem.W.kitOne,PySem.W.kitCls]at g
 subst i;exact PySem.W.kia_one (zpI ok) I.kIn l g (by intro z;cases z) λtk=>⟨.bl b,H,I.tok tk,rfl,q⟩
def zqv{c:V}{a:Value}{b:Bool}(h:H er=some (zca er C))(ok:errOk K C=true)(d:RelV c a)(e:PySem.W.kitOne K (.ref C) a=some b)(q:Q (.bl b) H):zgZ K [.ref er,c] H Q:=.inl ⟨er,C,c,a,b,rfl,d,h,ok,e,q⟩
def zrC{a:XK}{ta:TA}{D:Ends}(q:ta σ H λvs H1=>vs.length<=sizeLine/\a (.ref C) none H1):znX C a ta D σ H:=q
def zlF{a:Addr}{th:TS}{D:Ends}(c:PySem.W.exmOne K (.ref C) (.ref a)=some true)(q:∀er H',H er=none->Same H H'->H' er=some (zca er C)->th D (σ.set i (some (.ref er))) H') :
  ∃C',Value.ref C=Value.ref C'/\PySem.W.exmOne K (.ref C') (.ref a)=some true/\∀er,H er=none->th D (σ.set i (some (.ref er))) (upd H er (zca er C')):=⟨C,rfl,c,λer b=>q er _ b (Same.new b _) zQ⟩
def zkE{D:Addr}(h:PySem.W.hasDictIn K D=true):(PySem.W.clsIn K D).isSome=true:=by
 obtain⟨a,e,_⟩:=PySem.W.any_some h;rw[e];rfl
def errOk_mk(x:PySem.W.excIn K C [.type "ValueError",.type "Exception",.type "BaseException",.type "object"] "ValueError.__new__" = true)(ga:PySem.W.findIn K (.ref C) "__getattribute__" = some (some (.builtin "BaseException.__getattribute__")))(b:PySem.W.findIn K (.ref C) "__getattr__" = some none)(a:PySem.W.mroIn K C (.type "BaseException")=some true)(hd:PySem.W.hasDictIn K C=true)
  (fa:PySem.W.findIn K (.ref C) "__class__" = some (some (.builtin "object.__class__"))) (sn:PySem.W.specialIn K (.builtin "object.__class__") "__get__" = some (some (.builtin "getset_descriptor.__get__"))) (tk:PySem.W.takesIn K (.builtin "object.__class__")=some true)
  (mo:PySem.W.mroIn K C (.type "object")=some true):errOk K C=true:=by
 unfold errOk bmV;rw[x,ga,b,a,zkE hd,fa,sn,tk,mo];simp
def zg4{t:Value}{D:Addr}{b:Bool}(hd:PySem.W.hasDictIn K D=true)(a:PySem.W.typeIn K (.ref D)=some (.type "type"))(c:PySem.W.subIn K t (.ref D)=some b):PySem.W.kitCls K t (.ref D)=some b:=by
 unfold PySem.W.kitCls;simp only;rw[zkE hd,a,if_pos (by simp)];exact c
def kit_ne{D:Addr}{b:Bool}(h:C≠D)(hd:PySem.W.hasDictIn K D=true)(a:PySem.W.typeIn K (.ref D)=some (.type "type"))(c:PySem.W.subIn K (.ref C) (.ref D)=some b):PySem.W.kitOne K (.ref C) (.ref D)=some b:=by
 unfold PySem.W.kitOne;rw[if_neg (by intro z;exact h (Value.ref.inj (beq_iff_eq.mp z)))];exact zg4 hd a c
def kit_self:PySem.W.kitOne K (.ref C) (.ref C)=some true:=by
 unfold PySem.W.kitOne;rw[if_pos (by simp)]
def kit_V{b:Bool}(a:PySem.W.subIn K (.ref C) (.type "ValueError")=some b):PySem.W.kitOne K (.ref C) (.type "ValueError")=some b:=by
 unfold PySem.W.kitOne;rw[if_neg (by intro z;cases beq_iff_eq.mp z)];unfold PySem.W.kitCls;simp only;rw[if_pos (by decide +kernel)];exact a
def exm_mk{D:Addr}{b:Bool}(d:PySem.W.subIn K (.ref D) (.type "BaseException")=some true)(hd:PySem.W.hasDictIn K D=true)(a:PySem.W.typeIn K (.ref D)=some (.type "type"))(c:PySem.W.subIn K (.ref C) (.ref D)=some b):PySem.W.exmOne K (.ref C) (.ref D)=some b:=by
 unfold PySem.W.exmOne;rw[d,if_pos (by simp)];exact zg4 hd a c
section
variable {X:Cx}
def zaB:zbK X (zbe X.K):=by
 intro pins s σ H x y v u Q I l f h;obtain⟨p,xs,i,z,rfl,rfl,m,e,q⟩:=h;cases l;obtain⟨t,rfl⟩:=f;obtain⟨its,r,pl,o⟩:=I.list m;obtain⟨j,h1,h2,B,k,g⟩:=zfQ e;obtain⟨w,c,b⟩:=r.get h2;have n:=r.length;have A:=line63;have fin:EP X pins σ Q w s:=⟨z,H,I,b,q⟩
 by_cases d:0<=i
 ·have a:i.toNat=j:=by
   rw[seqIndex_of d g]at h1;exact yk h1
  exact wpAny_getItem_list pl.isList d ⋯ (by rw[a];simpa using c) fin
 ·have a:(i+(its.toArray.size:Int)).toNat=j:=by
   rw[seqIndex_neg ⋯ k]at h1;rw[yl,<- n];exact yk h1
  exact wpAny_getItem_list_neg pl.isList ⋯ (by rw[yl]<;>lia) ⋯ (by rw[a];simpa using c) fin
end
noncomputable def Src (J:It) (P:Hp->Prop) (n:Nat) (Y:Nat->V->Hp->Prop):Prop:=
 (∀i H,P H->i<n->J.go i H)/\(∀H,P H->J.stop n H)/\∀i H x H',P H->i<n->J.yld i H x H'->Same H H'/\Y i x H'
def zP{α:Type}{xs:List α}(h:i<xs.length):∃x,xs[i]?=some x:=⟨xs[i],by simp[h]⟩
def zS:Src (Itl K a) (λH=>SqL K H a xs) xs.length (λi x _=>xs[i]?=some x):=
 ⟨λi H h hi=>by obtain⟨x,b⟩:=zP hi;exact⟨xs,x,h,b⟩,λH h=>⟨xs,h,yg _⟩,λi H x H' h hi ⟨q,r⟩=>by subst q;exact⟨Same.refl _,r xs h⟩⟩
def zdP{lo:Int}:Src (Itr lo n) (λ_=>True) n (λi x _=>x=.int (lo+i)):=
 ⟨λi H e hi=>hi,λH e=>yg _,λi H x H' e hi ⟨q,r⟩=>by subst q;exact⟨Same.refl _,r⟩⟩
def zab:Src (Itn K a) (λH=>SqL K H a xs) xs.length (λi x H=>∃p v,x=.ref p/\xs[i]?=some v/\H p=some (.tup [.int i,v])):=
 ⟨λi H h hi=>by obtain⟨x,b⟩:=zP hi;exact⟨xs,x,h,b⟩,λH h=>⟨xs,h,yg _⟩,λi H x H' h hi ⟨p,v,hp,q,r,z⟩=>by subst z;exact⟨Same.new hp _,p,v,q,r xs h,zQ⟩⟩
def zlZ:Src (Itz K a b) (λH=>SqL K H a xs/\SqL K H b ys) (min xs.length ys.length) (λi x H=>∃p v w,x=.ref p/\xs[i]?=some v/\ys[i]?=some w/\H p=some (.tup [v,w])):=
 ⟨λi H h hi=>by
  obtain⟨x,d⟩:=zP (show i<xs.length by lia);obtain⟨y,c⟩:=zP (show i<ys.length by lia);exact⟨xs,ys,x,y,h.1,h.2,d,c⟩,λH h=>⟨xs,ys,h.1,h.2,⋯⟩,λi H x H' h hi ⟨p,v,w,hp,q,r,e,z⟩=>by subst z;exact⟨Same.new hp _,p,v,w,q,r xs h.1,e ys h.2,zQ⟩⟩
section
variable {σ:St}{H:Hp}{Q:VK}{D:Ends}{ta tb tc te to ti:TE}{t u:TS}{K:Fg}
def zb3{P:Hp->Prop}{Y:Nat->V->Hp->Prop}{g:TG}{tb:TS}(S:Src J P n Y)(b:Nat->St->Hp->Prop)(f:b 0 σ H)(c:∀i σ H,b i σ H->P H)
  (hs:∀i x σ H H',i<n->b i σ H->Same H H'->Y i x H'->g x σ H' λd H2=>tb { D with nx:=b (i+1),ct:=b (i+1),bk:=D.nx } d H2) (hd:∀σ H,b n σ H->D.nx σ H):zmk J g tb D σ H:=by
 refine⟨λi m σ H=>m=n-i/\i<=n/\b i σ H,⟨n,by simp,Nat.zero_le _,f⟩,?_⟩;rintro i m σ H ⟨rfl,hi,p⟩;by_cases a:i<n
 ·refine .inr ⟨S.1 i H (c i σ H p) a,b (i+1),λj H' q=>⟨n-(i+1),⋯,rfl,a,q⟩,λx H' y=>?_⟩;obtain⟨e,h⟩:=S.2.2 i H x H' (c i σ H p) a y;exact hs i x σ H H' a p e h
 ·have:i=n:=by lia
  subst this;exact .inl ⟨S.2.1 H (c i σ H p),hd σ H p⟩
noncomputable def zeJ (J:It) (caps:List (Option Nat)) (g:TG) (tf:TT) (te:TE) (σ:St) (Q:VK) (H1:Hp):Prop:=∀D,H1 D=none ->
 ∃W:Nat->Nat->St->Hp->Prop,(∃m,W 0 m (zb9 caps σ) (upd H1 D (.lst [])))/\∀i m σ' H',W i m σ' H' ->
  (J.stop i H'/\Q (.ref D) H')\/(J.go i H'/\∃N:St->Hp->Prop,(∀σ2 H2,N σ2 H2->∃m',m'<m/\W (i+1) m' σ2 H2) /\
   ∀x H2,J.yld i H' x H2->g x σ' H2 λa e=>tf a e λb c=>if b=true then te a c λv d=>zbn (.ref D) [v] d λ_ f=>N a f else N a c)
def zs9{te:TE}(q:wi σ H λJ H1=>zeJ J caps g tf te σ Q H1):zeA wi caps g tf te σ H Q:=q
def zt0{T:Bool->Hp->Prop}(q:T true H):zfo σ H T:=q
noncomputable def CompN (H:Hp) (c:St->Prop) (b:Nat->List V->Hp->Prop) (D:Addr) (i:Nat) (a:St) (H':Hp):Prop:=c a/\Same H H'/\∃vs,H' D=some (.lst vs)/\vs.length<=i/\b i vs H'
def zlq{P:Hp->Prop}{Y:Nat->V->Hp->Prop}{g:TG}{tf:TT}{te:TE}(S:Src J P n Y)(k:∀H',Same H H'->P H')(d:St->Prop)(c:Nat->List V->Hp->Prop)(w:d (zb9 caps σ))(u:∀H',Same H H'->c 0 [] H')
  (hs:∀i x D vs f H' H2,i<n->H D=none->d f->Same H H'->H' D=some (.lst vs)->vs.length<=i->c i vs H'->Same H' H2->Y i x H2->g x f H2 λj A=>tf j A λb l=>if b=true then te j l λv s=>zbn (.ref D) [v] s λ_ z=>CompN H d c D (i+1) j z else CompN H d c D (i+1) j l)
  (hq:∀D H' vs,H D=none->Same H H'->H' D=some (.lst vs)->vs.length<=n->c n vs H'->Q (.ref D) H'):zeJ J caps g tf te σ Q H:=by
 intro D h;refine⟨λi m f H'=>m=n-i/\i<=n/\CompN H d c D i f H',⟨n,by simp,Nat.zero_le _,w,Same.new h _,[],zQ,yg _,u _ (Same.new h _)⟩,?_⟩;rintro i m f H' ⟨rfl,hi,C,e,vs,r,o,p⟩;by_cases a:i<n
 ·refine .inr ⟨S.1 i H' (k _ e) a,CompN H d c D (i+1),λE H2 q=>⟨n-(i+1),⋯,rfl,a,q⟩,λx H2 y=>?_⟩;obtain⟨t,B⟩:=S.2.2 i H' x H2 (k _ e) a y;exact hs i x D vs f H' H2 a h C e r o p t B
 ·have:i=n:=by lia
  subst this;exact .inl ⟨S.2.1 H' (k _ e),hq D H' vs h e r o p⟩
def zR{P:Hp->Prop}{Y:Nat->V->Hp->Prop}{g:TG}{tf:TT}{te:TE}{rest:St}(S:Src J P n Y)(j:∀H',Same H H'->P H')(t:zb9 caps σ=none :: rest)(a:Nat->List V->Hp->Prop)(r:∀H',Same H H'->a 0 [] H')
  (hs:∀i x D vs o H' H2,i<n->H D=none->Same H H'->H' D=some (.lst vs)->vs.length<=i->a i vs H'->Same H' H2->Y i x H2->g x (o :: rest) H2 λd h=>tf d h λb e=>if b=true then te d e λv f=>zbn (.ref D) [v] f λ_ l=>CompN H (λc=>∃o,c=o :: rest) a D (i+1) d l else CompN H (λc=>∃o,c=o :: rest) a D (i+1) d e)
  (hq:∀D H' vs,H D=none->Same H H'->H' D=some (.lst vs)->vs.length<=n->a n vs H'->Q (.ref D) H'):zeJ J caps g tf te σ Q H:=
 zlq S j (λc=>∃o,c=o :: rest) a ⟨_,t⟩ r (λi x D vs c H' H2 a1 a2 ⟨o,m⟩ u k w q s p=>by subst m;exact hs i x D vs o H' H2 a1 a2 u k w q s p) hq
def zas{P:Hp->Prop}{Y:Nat->V->Hp->Prop}{g:TG}{tf:TT}{te:TE}{rest:St}(S:Src J P n Y)(j:∀H',Same H H'->P H')(t:zb9 caps σ=none :: none :: rest)(a:Nat->List V->Hp->Prop)(r:∀H',Same H H'->a 0 [] H')
  (hs:∀i x D vs o o' H' H2,i<n->H D=none->Same H H'->H' D=some (.lst vs)->vs.length<=i->a i vs H'->Same H' H2->Y i x H2->g x (o :: o' :: rest) H2 λd h=>tf d h λb e=>if b=true then te d e λv f=>zbn (.ref D) [v] f λ_ l=>CompN H (λc=>∃o o',c=o :: o' :: rest) a D (i+1) d l else CompN H (λc=>∃o o',c=o :: o' :: rest) a D (i+1) d e)
  (hq:∀D H' vs,H D=none->Same H H'->H' D=some (.lst vs)->vs.length<=n->a n vs H'->Q (.ref D) H'):zeJ J caps g tf te σ Q H:=
 zlq S j (λc=>∃o o',c=o :: o' :: rest) a ⟨_,_,t⟩ r (λi x D vs c H' H2 a1 a2 ⟨o,o',m⟩ u k w q s p=>by subst m;exact hs i x D vs o o' H' H2 a1 a2 u k w q s p) hq
def zrr{R:It->Hp->Prop}(h:SqL K H a xs)(q:R (Itn K a) H):zmc K R [.ref a] H:=⟨a,rfl,⟨xs,h⟩,q⟩
def ztj{R:It->Hp->Prop}(h:SqL K H a xs)(h':SqL K H b ys)(q:R (Itz K a b) H):zpw K R [.ref a,.ref b] H:=⟨a,b,rfl,⟨xs,h⟩,⟨ys,h'⟩,q⟩
def zsN{t:TGs}{R:St->Hp->Prop}(h:H a=some (.tup xs))(b:xs.length=n)(q:t xs σ H R):zaT K n t (.ref a) σ H R:=⟨a,xs,rfl,SqT.of h,b,q⟩
def zrd{r:List V}{t:TG}{u:TGs}{R:St->Hp->Prop}(q:t v σ H λa H'=>u r a H' R):zjA t u (v :: r) σ H R:=⟨v,r,rfl,q⟩
def ztt{R:St->Hp->Prop}(q:R σ H):zpb [] σ H R:=⟨rfl,q⟩
def zul{x:V}{a:TIp}(e:σ[i]?=some (some x))(q:te σ H λy H1=>a x y H1 λz H2=>D.nx (σ.set i (some z)) H2):zpy i te a D σ H:=⟨x,e,q⟩
def zuv{f:Int->Int->Int}{i:Int}(q:Q (.int (f i j)) H):ipI f (.int i) (.int j) H Q:=⟨i,j,rfl,rfl,q⟩
def ztd{b:V->V->Hp->VK->Prop}{c:TIp}{a:zim}(q:to σ H λo H1=>ti σ H1 λi H2=>b o i H2 λx e=>te σ e λy f=>c x y f λz d=>a o i z d λg=>D.nx σ g):zqr to ti te b c a D σ H:=q
def znJ{i:Int}(h:SqL K H a xs)(e:atI xs i=some v)(q:Q v H):zbe K (.ref a) (.int i) H Q:=⟨a,xs,i,v,rfl,rfl,h,e,q⟩
def zki{x:V}{k:Int}(h:H l=some (.lst [x]))(a:0<=k)(h1:k<=100000)(q:∀p H',H p=none->Same H H'->H' p=some (.lst (List.replicate k.toNat x))->Q (.ref p) H'):zdQ (.ref l) (.int k) H Q:=
 .inr ⟨l,k,[x],rfl,rfl,h,⋯,⋯,by have:=zbD (n:=k.toNat) ⋯;simpa using this,λp hp=>by
  have e:(List.replicate k.toNat [x]).flatten=List.replicate k.toNat x:=by
   generalize k.toNat=n
   induction n with
   | zero=>rfl
   | succ n ih=>rw[List.replicate_succ,List.flatten_cons,ih,List.replicate_succ];rfl
  rw[e];exact q p _ hp (Same.new hp _) zQ⟩
def zej{zs:List V}(h:H l=some (.lst xs))(h':H b=some (.lst zs))(a:xs.length+zs.length<=100000)(q:∀p H',H p=none->Same H H'->H' p=some (.lst (xs++zs))->Q (.ref p) H'):zg1 K (.ref l) (.ref b) H Q:=
 .inr (.inl ⟨l,b,xs,zs,rfl,rfl,h,h',zbD a,λp hp=>q p _ hp (Same.new hp _) zQ⟩)
def zqC(h:SqL K H a (ns.map V.int))(q:Q (.int (zah ns)) H):zm0 K [.ref a] H Q:=⟨a,ns,rfl,h,q⟩
end
def zsW{p:Prop}[Decidable p]{A B:Prop}(h:p)(a:A):if decide p=true then A else B:=by rw[decide_eq_true h];exact zfw a
def zto{p:Prop}[Decidable p]{A B:Prop}(h:¬p)(b:B):if decide p=true then A else B:=by rw[decide_eq_false h];exact zkq b
def zrh{p:Prop}[Decidable p]{A B:Prop}(h:¬p)(a:A):if(!decide p)=true then A else B:=by rw[decide_eq_false h];exact zfw a
section
variable {α:Type}{f:α->List V}
noncomputable def IsTs (f:α->List V) (H:Hp):List V->List α->Prop
 | [],[]=>True
 | v :: vs,x :: xs=>(∃a,v=.ref a/\H a=some (.tup (f x)))/\IsTs f H vs xs
 | _,_=>False
noncomputable def zpd (H H':Hp):Prop:=∀a xs,H a=some (.tup xs)->H' a=some (.tup xs)
def Same.tups(e:Same H H'):zpd H H':=λa xs h=>e a _ h
def LBut.tups(e:LBut l H H'):zpd H H':=λa xs h=>e.tup h
theorem IsTs.keep{H H':Hp}(e:zpd H H'):∀{vs:List V} {xs:List α},IsTs f H vs xs->IsTs f H' vs xs
 | [],[],_=>trivial
 | _ :: _,_ :: _,⟨⟨a,q,h⟩,r⟩=>⟨⟨a,q,e a _ h⟩,r.keep e⟩
def IsTs.same{xs:List α}(h:IsTs f H vs xs)(e:Same H H'):IsTs f H' vs xs:=h.keep e.tups
def Same.isTs{xs:List α}(e:Same H H')(h:IsTs f H vs xs):IsTs f H' vs xs:=h.keep e.tups
def LBut.isTs{xs:List α}(e:LBut l H H')(h:IsTs f H vs xs):IsTs f H' vs xs:=h.keep e.tups
theorem IsTs.length{H:Hp}:∀{vs:List V} {xs:List α},IsTs f H vs xs->vs.length=xs.length
 | [],[],_=>rfl
 | _ :: _,_ :: _,⟨_,r⟩=>by rw[List.length_cons,List.length_cons,r.length]
theorem IsTs.app{H:Hp}{a:Addr}{x:α}(h:H a=some (.tup (f x))):∀{vs:List V} {xs:List α},IsTs f H vs xs->IsTs f H (vs++[.ref a]) (xs++[x])
 | [],[],_=>⟨⟨a,rfl,h⟩,trivial⟩
 | _ :: _,_ :: _,⟨q,r⟩=>⟨q,r.app h⟩
theorem IsTs.get{H:Hp}:∀{vs:List V} {xs:List α} {i:Nat} {v:V},IsTs f H vs xs->vs[i]?=some v->∃a x,v=.ref a/\xs[i]?=some x/\H a=some (.tup (f x))
 | _ :: _,x :: _,0,_,⟨⟨a,q,h⟩,_⟩,e=>by cases e;exact⟨a,x,q,rfl,h⟩
 | _ :: _,_ :: _,i+1,_,⟨_,r⟩,e=>by obtain⟨a,x,q,b,h⟩:=r.get (i:=i) e;exact⟨a,x,q,b,h⟩
def IsTs.getI{xs:List α}{x:α}(h:IsTs f H vs xs)(e:xs[i]?=some x):∃a,vs[i]?=some (.ref a)/\H a=some (.tup (f x)):=by
 have hi:i<vs.length:=by rw[h.length];exact(yi.mp e).1
 obtain⟨v,c⟩:=zP hi;obtain⟨a,y,q,b,h'⟩:=h.get c;rw[e]at b;cases b;exact⟨a,by rw[c,q],h'⟩
end
noncomputable def vec (n:Nat) (f:Nat->Int):List Int:=(List.range n).map f
def zI{f:Nat->Int}:(vec n f).length=n:=by simp[vec]
def zap{f:Nat->Int}(h:i<n):(vec n f)[i]?=some (f i):=by simp[vec,h]
def zcX{f g:Nat->Int}(h:∀i,i<n->f i=g i):vec n f=vec n g:=by
 unfold vec;exact List.map_congr_left λi hi=>h i (List.mem_range.mp hi)
def zq0{j:Nat}{f:Nat->Int}{v:Int}:(vec n f).set j v=vec n (λi=>if i=j then v else f i):=by
 refine List.ext_getElem? λi=>?_;rw[List.getElem?_set];by_cases hi:i<n
 ·rw[zap hi,zap hi,zI];by_cases e:j=i
  ·subst e;simp[hi]
  ·rw[if_neg e,if_neg (Ne.symm e)]
 ·have h1:(vec n f)[i]?=none:=by rw[List.getElem?_eq_none_iff,zI];lia
  have h2:∀g,(vec n g)[i]?=none:=λg=>by rw[List.getElem?_eq_none_iff,zI];lia
  rw[h1,h2,zI];by_cases e:j=i
  ·subst e;simp[hi]
  ·rw[if_neg e]
def zav{f:Nat->Int}:vec (n+1) f=vec n f++[f n]:=by unfold vec;rw[List.range_succ,yj];rfl
def zqX:List.replicate n (V.int c)=(vec n λ_=>c).map V.int:=by
 refine List.ext_getElem? λi=>?_;rw[List.getElem?_replicate,yf];by_cases hi:i<n
 ·rw[zap hi,if_pos hi];rfl
 ·have h2:(vec n λ_=>c)[i]?=none:=by rw[List.getElem?_eq_none_iff,zI];lia
  rw[h2,if_neg hi];rfl
def zir{k:Int}{v:Int}(a:0<=k)(h:ns[k.toNat]?=some v):atI (ns.map V.int) k=some (.int v):=zbl a (by rw[yf,h];rfl)
def znk{f:Nat->Int}{k:Int}(a:0<=k)(h:k<n):atI ((vec n f).map V.int) k=some (.int (f k.toNat)):=zir a (zap ⋯)
def zo0{j:Nat}{v:Int}:(ns.map V.int).set j (.int v)=(ns.set j v).map V.int:=by rw[List.map_set]
def zri{j:Nat}{f:Nat->Int}{v:Int}:((vec n f).map V.int).set j (.int v)=(vec n (λi=>if i=j then v else f i)).map V.int:=by rw[zo0,zq0]
def zq8{f:Nat->Int}{k:Int}(a:0<=k)(h:k<n):ixN ((vec n f).map V.int).length k=some k.toNat:=by
 rw[yc,zI];exact zfp a h
theorem zdL{K:Fg}{H:Hp}:∀ns:List Int,RepAll K H (ns.map V.int) (ns.map PyData.int)
 | []=>.nil
 | n :: ns=>.cons (.int n) (zdL ns)
theorem zeC:∀ns:List Int,PyData.depthAll (ns.map PyData.int)=0
 | []=>by simp[PyData.depthAll]
 | n :: ns=>by rw[List.map_cons,PyData.depthAll,zeC ns];simp[PyData.depth]
theorem zkG:∀ns:List Int,PyData.canLayAll0 (ns.map PyData.int)=true
 | []=>by simp[PyData.canLayAll0]
 | n :: ns=>by rw[List.map_cons,PyData.canLayAll0,zkG ns];simp[PyData.canLay0]
def zhw{ds:List PyData}:(PyData.list ds).depth=PyData.depthAll ds+1:=by simp[PyData.depth];try lia
section
variable {H:Hp}{Q:VK}{K:Fg}
def ziM(h:ns=ms):PyData.eqv (.list (ns.map PyData.int)) (.list (ms.map PyData.int))=true:=by
 subst h;exact PySem.SeqAt.eqv_refl _ (by rw[PyData.canLay0];exact zkG ns)
def zkv(h1:SqL K H a (ns.map V.int))(h2:SqL K H b (ms.map V.int))(e:ns=ms)(q:Q (.bl true) H):zex K (.ref a) (.ref b) H Q:=
 zqx (.lst h1 (zdL ns)) (.lst h2 (zdL ms)) (by rw[zhw,zeC];lia) (by rw[ziM e];exact q)
def zgN(h1:SqL K H a (ns.map V.int))(h2:SqL K H b (ms.map V.int))(e:ns=ms)(q:Q (.bl false) H):zfe K (.ref a) (.ref b) H Q:=
 zqy (.lst h1 (zdL ns)) (.lst h2 (zdL ms)) (by rw[zhw,zeC];lia) (by rw[ziM e];exact q)
end
section
variable {σ:St}{H:Hp}{Q:VK}{D:Ends}{K:Fg}
def zpa{f:Nat->Int}{k:Int}(h:H l=some (.lst ((vec n f).map V.int)))(a:0<=k)(h1:k<n)(q:Q (.int (f k.toNat)) H):zbe K (.ref l) (.int k) H Q:=znJ (.of h) (znk a h1) q
def zlG{f:Nat->Int}{k:Int}(h:H l=some (.lst ((vec n f).map V.int)))(a:0<=k)(h1:k<n)(q:Q (.int (f k.toNat)) H):rIx K (.ref l) (.int k) H Q:=zhp h (znk a h1) q
def zpu{f:Nat->Int}{k v:Int}{R:Hp->Prop}(h:H l=some (.lst ((vec n f).map V.int)))(a:0<=k)(h1:k<n)
  (q:∀H',LBut l H H'->H' l=some (.lst ((vec n λi=>if i=k.toNat then v else f i).map V.int))->R H'):zhf (.ref l) (.int k) (.int v) H R:=by
 refine zc7 h (zq8 a h1) λH' b e=>q H' b ?_;rw[e,zri]
def zoB{i:Int}(h:H a=some (.tup xs))(e:atI xs i=some v)(q:Q v H):rIx K (.ref a) (.int i) H Q:=zt8 (.of h) e q
def zpY{k:Int}(h:H l=some (.lst [.int c]))(d:0<=k)(h1:k<=100000)(q:∀p H',H p=none->Same H H'->H' p=some (.lst ((vec k.toNat λ_=>c).map V.int))->Q (.ref p) H'):zdQ (.ref l) (.int k) H Q:=
 zki h d h1 λp H' a b c=>q p H' a b (by rw[c,zqX])
theorem CompN.int{c:St->Prop}{D:Addr}{i:Nat}{b:St}{a:Hp}{f:Nat->Int}{v:Int}(g:c b)(e:Same H a)(h:a D=some (.lst ((vec i f).map V.int++[.int v])))(d:v=f i):CompN H c (λi vs _=>vs=(vec i f).map V.int) D (i+1) b a:=
 ⟨g,e,_,h,by simp[zI],by show _++[V.int v]=List.map V.int (vec (i+1) f);rw[d,zav,yj];rfl⟩
end
noncomputable def zcJ (H:Hp) (Q:VK) (ns:List Int):Prop:=∀p H',H p=none->Same H H'->H' p=some (.lst (ns.map V.int))->Q (.ref p) H'
structure Due where
 p:Int
 q:Int
 r:Int
 a:Int
variable {ds:List Due}
noncomputable def zdd (d:Due):List V:=[.int d.p,.int d.q,.int d.r,.int d.a]
noncomputable def zaM (n:Int) (d:Due):Prop:=0<=d.p/\d.p<n/\0<=d.q/\d.q<n/\d.p≠d.q/\0<=d.r/\d.r<3/\0<=d.a/\d.a<=100000000000000
noncomputable def IsSh (K:Fg) (H:Hp) (a:Addr) (ds:List Due):Prop:=∃vs,SqL K H a vs/\IsTs zdd H vs ds
theorem IsSh.same{K:Fg}{H H':Hp}{a:Addr}{ds:List Due}(h:IsSh K H a ds)(e:Same H H'):IsSh K H' a ds:=by
 obtain⟨vs,h1,h2⟩:=h;exact⟨vs,e.seq h1,h2.same e⟩
def Same.isSh(e:Same H H')(h:IsSh K H a ds):IsSh K H' a ds:=h.same e
noncomputable def zuY (H:Hp) (Q:VK) (ds:List Due):Prop:=∀p H' vs,H p=none->Same H H'->H' p=some (.lst vs)->IsTs zdd H' vs ds->Q (.ref p) H'
noncomputable def zbS (ds:List Due) (m:Nat):Int:=ds.foldl (fun(s:Int) (d:Due)=>if d.p=(m:Int)then s+d.a else s) 0
noncomputable def zcP (ds:List Due) (m:Nat):Int:=ds.foldl (fun(s:Int) (d:Due)=>if d.q=(m:Int)then s+d.a else s) 0
noncomputable def zcS (ds:List Due) (m:Nat):Int:=zcP ds m-zbS ds m
def zg3(ds:List Due)(d:Due)(m:Nat):zbS (ds++[d]) m=if d.p=(m:Int)then zbS ds m+d.a else zbS ds m:=by unfold zbS;rw[List.foldl_append];rfl
def zkC(ds:List Due)(d:Due)(m:Nat):zcP (ds++[d]) m=if d.q=(m:Int)then zcP ds m+d.a else zcP ds m:=by unfold zcP;rw[List.foldl_append];rfl
def zak{α:Type}{xs:List α}{x:α}(h:xs[i]?=some x):xs.take (i+1)=xs.take i++[x]:=by
 obtain⟨hi,rfl⟩:=yi.mp h;exact List.take_succ_eq_append_getElem hi
noncomputable def zko (K:Fg):Sp:=λvs H Q _=>∃n a ds,vs=[.int n,.ref a]/\IsSh K H a ds/\0<=n/\n<=1000/\(∀d∈ds,zaM n d)/\zcJ H Q (vec n.toNat (zbS ds))
noncomputable def zkb (K:Fg):Sp:=λvs H Q _=>∃n a ds,vs=[.int n,.ref a]/\IsSh K H a ds/\0<=n/\n<=1000/\(∀d∈ds,zaM n d)/\zcJ H Q (vec n.toNat (zcS ds))
section
variable {K:Fg}{H:Hp}{Q:VK}{E:XK}{n:Int}{a:Addr}{ds:List Due}
def zo1:=λh b h1 hd q=>@id (zko K [.int n,.ref a] H Q E) ⟨n,a,ds,rfl,h,b,h1,hd,q⟩
def zpc:=λh b h1 hd q=>@id (zkb K [.int n,.ref a] H Q E) ⟨n,a,ds,rfl,h,b,h1,hd,q⟩
end
noncomputable def Rows (H:Hp) (as:List Addr) (k:Nat) (F:Nat->Nat->Int):Prop:=as.Nodup/\∀i a,as[i]?=some a->H a=some (.lst ((vec k (F i)).map V.int))
section
variable {H H':Hp}{as bs:List Addr}{k:Nat}{F G:Nat->Nat->Int}{K:Fg}{Q:VK}
def Rows.same(h:Rows H as k F)(e:Same H H'):Rows H' as k F:=⟨h.1,λi a q=>e _ _ (h.2 i a q)⟩
def Rows.mem(h:Rows H as k F)(m:a∈as):∃i,i<as.length/\as[i]?=some a/\H a=some (.lst ((vec k (F i)).map V.int)):=by
 obtain⟨i,hi,e⟩:=List.getElem_of_mem m
 have:as[i]?=some a:=by rw[yi];exact⟨hi,e⟩
 exact⟨i,hi,this,h.2 i a this⟩
def Rows.but(h:Rows H as k F)(g:LBut l H H')(n:l∉as):Rows H' as k F:=
 ⟨h.1,λi a q=>g.lst (h.2 i a q) λz=>n (z▸ym q)⟩
def Same.rows(e:Same H H')(h:Rows H as k F):Rows H' as k F:=h.same e
def zdV{j:Nat}(n:as.Nodup)(h:as[i]?=some a)(h':as[j]?=some a):i=j:=by
 obtain⟨hi,e⟩:=yi.mp h;obtain⟨c,b⟩:=yi.mp h';exact(List.getElem_inj n).mp (e.trans b.symm)
def Rows.set{j:Nat}{f:Nat->Int}(h:Rows H as k F)(g:LBut a H H')(d:as[j]?=some a)(q:H' a=some (.lst ((vec k f).map V.int))):Rows H' as k (λi=>if i=j then f else F i):=by
 refine⟨h.1,λi b c=>?_⟩;by_cases e:i=j
 ·subst e;rw[d]at c;cases c;show H' a=some (.lst ((vec k (if i=i then f else F i)).map V.int));rw[if_pos rfl];exact q
 ·show H' b=some (.lst ((vec k (if i=j then f else F i)).map V.int));rw[if_neg e];refine g.lst (h.2 i b c) λz=>e ?_;subst z;exact zdV h.1 c d
def Rows.congr(h:Rows H as k F)(e:∀i,i<as.length->∀j,j<k->F i j=G i j):Rows H as k G:=by
 refine⟨h.1,λi a q=>?_⟩;have hi:i<as.length:=(yi.mp q).1;rw[h.2 i a q,zcX λj b=>e i hi j b]
def Rows.app(h:Rows H as k F)(n:p∉as)(hp:H p=some (.lst ((vec k (F as.length)).map V.int))):Rows H (as++[p]) k F:=by
 refine⟨List.nodup_append.mpr ⟨h.1,by simp,λa f b d e=>n (by rw[yh]at d;subst d;subst e;exact f)⟩,λi a q=>?_⟩;rw[List.getElem?_append]at q;split at q
 ·exact h.2 i a q
 ·rename_i hi;have c:i-as.length=0:=by
   cases e:i-as.length with
   | zero=>rfl
   | succ m=>rw[e]at q;cases q
  rw[c]at q;cases q
  have:i=as.length:=by lia
  subst this;exact hp
def Rows.ne{D:Addr}(h:Rows H as k F)(c:0<k)(a:H D=some (.lst (as.map V.ref))):D∉as:=λm=>by
 obtain⟨i,hi,q,e⟩:=h.mem m;rw[a]at e;have b:as.map V.ref=(vec k (F i)).map V.int:=by simpa using e
 cases as with
 | nil=>cases m
 | cons x xs=>
  cases k with
  | zero=>lia
  | succ k=>
   have:=congrArg (·[0]?) b
   simp[vec]at this
def Rows.fresh(h:Rows H as k F)(hp:H p=none):p∉as:=λm=>by
 obtain⟨i,_,_,e⟩:=h.mem m;rw[hp]at e;cases e
def zq7{p:Int}(h:H l=some (.lst (as.map V.ref)))(b:0<=p)(e:as[p.toNat]?=some a)(q:Q (.ref a) H):rIx K (.ref l) (.int p) H Q:=zhp h (zbl b (by rw[yf,e];rfl)) q
end
noncomputable def zK (ds:List Due) (m r:Nat):Int:=ds.foldl (fun(s:Int) (d:Due)=>if d.p=(m:Int)/\d.r=(r:Int)then s+d.a else s) 0
def zgW(ds:List Due)(d:Due)(m r:Nat):zK (ds++[d]) m r=if d.p=(m:Int)/\d.r=(r:Int)then zK ds m r+d.a else zK ds m r:=by unfold zK;rw[List.foldl_append];rfl
def zok{d:Due}(c:0<=d.p)(f:0<=d.r)(m r:Nat):(if m=d.p.toNat then λi=>if i=d.r.toNat then zK ds d.p.toNat d.r.toNat+d.a else zK ds d.p.toNat i else zK ds m) r=zK (ds++[d]) m r:=by
 rw[zgW];by_cases e:m=d.p.toNat
 ·rw[if_pos e];by_cases b:r=d.r.toNat
  ·rw[if_pos (show d.p=(m:Int)/\d.r=(r:Int) by lia)]
   show(if r=d.r.toNat then _ else _)=_
   rw[if_pos b,e,b]
  ·rw[if_neg (show ¬(d.p=(m:Int)/\d.r=(r:Int)) by lia)]
   show(if r=d.r.toNat then _ else _)=_
   rw[if_neg b,e]
 ·rw[if_neg e,if_neg (show ¬(d.p=(m:Int)/\d.r=(r:Int)) by lia)]
noncomputable def zgj (K:Fg):Sp:=λvs H Q _=>∃n a ds,vs=[.int n,.ref a]/\IsSh K H a ds/\0<=n/\n<=1000/\(∀d∈ds,zaM n d) /\
 ∀l H' as,H l=none->Same H H'->H' l=some (.lst (List.map V.ref as))->as.length=n.toNat->Rows H' as 3 (zK ds)->(∀b∈as,H b=none)->Q (.ref l) H'
def zmd:=λ{K:Fg} {n:Int} {a:Addr} {ds:List Due} {H:Hp} {Q:VK} {E:XK} h h0 h1 hd q=>@id (zgj K [.int n,.ref a] H Q E) ⟨n,a,ds,rfl,h,h0,h1,hd,q⟩
noncomputable def zd4 (K:Fg):Sp:=λvs H Q _=>∃a ds,vs=[.ref a]/\IsSh K H a ds/\ds.length<=1000/\zcJ H Q (ds.map Due.a)
def zju:=λ{K:Fg} {a:Addr} {ds:List Due} {H:Hp} {Q:VK} {E:XK} h h1 q=>@id (zd4 K [.ref a] H Q E) ⟨a,ds,rfl,h,h1,q⟩
noncomputable def zbN (ds:List Due) (m:Nat->Int):List Due:=ds.mapIdx λi d=>⟨d.p,d.q,d.r,m i⟩
def zoc{m:Nat->Int}:(zbN ds m).length=ds.length:=by simp[zbN]
def zon{m:Nat->Int}{d:Due}(h:ds[i]?=some d):(zbN ds m)[i]?=some ⟨d.p,d.q,d.r,m i⟩:=by simp[zbN,h]
def zmq{m:Nat->Int}{d:Due}(h:ds[i]?=some d):(zbN ds m).take (i+1)=(zbN ds m).take i++[⟨d.p,d.q,d.r,m i⟩]:=zak (zon h)
noncomputable def zjM (K:Fg):Sp:=λvs H Q _=>∃(a b:Addr) (ds:List Due) (ms:List Int),vs=[.ref a,.ref b]/\IsSh K H a ds/\SqL K H b (List.map V.int ms)/\ds.length<=ms.length/\ds.length<=1000/\zuY H Q (zbN ds λi=>ms.getD i 0)
def zgs:=λ{K:Fg} {a b:Addr} {ds:List Due} {ms:List Int} {H:Hp} {Q:VK} {E:XK} h h' hl h1 q=>@id (zjM K [.ref a,.ref b] H Q E) ⟨a,b,ds,ms,rfl,h,h',hl,h1,q⟩
def zkA(h:i<ms.length):ms[i]?=some (ms.getD i 0):=by rw[yn,List.getElem?_eq_getElem h];rfl
end Internal
namespace My
noncomputable def sumTo (f:Nat->Int):Nat->Int
 | 0=>0
 | n+1=>sumTo f n+f n
theorem sumTo_nonneg{f:Nat->Int}:∀{n:Nat},(∀i,i<n->0<=f i)->0<=sumTo f n
 | 0,_=>Int.le_refl _
 | n+1,h=>by have:=sumTo_nonneg (n:=n) λi hi=>h i ⋯;have:=h n ⋯;rw[sumTo];lia
section
variable (ch:Nat->Bool)(x:Nat->Int)(L:Int)
noncomputable def rest:Nat->Int
 | 0=>L
 | i+1=>if ch i=true/\rest i>0 then rest i-1 else rest i
noncomputable def more (i:Nat):Int:=if ch i=true/\rest ch L i>0 then x i+1 else x i
variable {ch x L}
end
end My
namespace Internal
variable {C a b f l:Addr}{E:XK}{H:Hp}{K:Fg}{Q:VK}{c j:Int}{caps:List (Option Nat)}{ds:List Due}{e:Expr}{fd:FuncData}{i k n:Nat}{ns:List Int}{ps:List Str}{sp:Sp}{st:Stmt}{x:Str}{xs:List V}{σ:St}
open PySem PySem.Spec PyProof.Rows
theorem zdF(f:Nat->Int):∀n,zah (vec n f)=My.sumTo f n
 | 0=>rfl
 | n+1=>by rw[zav,zch,zdF f n];rfl
noncomputable def zgL (K:Fg) (C:Addr):Sp:=λvs H Q E=>∃(c:Int) (a:Addr) (ns:List Int),vs=[.int c,.ref a]/\SqL K H a (ns.map V.int)/\((c<=zah ns/\Q .non H)\/(zah ns<c/\E (.ref C) none H))
def zmw(h:SqL K H a (ns.map V.int))(b:c<=zah ns)(q:Q .non H):zgL K C [.int c,.ref a] H Q E:=⟨c,a,ns,rfl,h,.inl ⟨b,q⟩⟩
noncomputable def bls (n:Nat) (ch:Nat->Bool):List V:=(List.range n).map λi=>V.bl (ch i)
def zgr{ch:Nat->Bool}:bls (n+1) ch=bls n ch++[.bl (ch n)]:=by unfold bls;rw[List.range_succ,yj];rfl
def zlp{ch:Nat->Bool}:(bls n ch).length=n:=by simp[bls]
def zfW{ch:Nat->Bool}(h:i<n):(bls n ch)[i]?=some (.bl (ch i)):=by simp[bls,h]
noncomputable def zkM (K:Fg):Sp:=λvs H Q _=>∃(a b:Addr) (n:Nat) (x:Nat->Int) (ch:Nat->Bool) (L:Int),vs=[.ref a,.ref b,.int L]/\SqL K H a ((vec n x).map V.int)/\SqL K H b (bls n ch)/\n<=1000/\zcJ H Q (vec n (My.more ch x L))
def zoS:=λ{K:Fg} {a b:Addr} {n:Nat} {x:Nat->Int} {ch:Nat->Bool} {L:Int} {H:Hp} {Q:VK} {E:XK} h h' hn q=>@id (zkM K [.ref a,.ref b,.int L] H Q E) ⟨a,b,n,x,ch,L,rfl,h,h',hn,q⟩
noncomputable def zc0 (c:Int) (n:Nat) (b:Nat->Int):Nat->Int:=if My.sumTo b n=0 then λ_=>0 else My.more (λi=>decide (c*b i%My.sumTo b n>0)) (λi=>c*b i/My.sumTo b n) (c-My.sumTo (λi=>c*b i/My.sumTo b n) n)
def zlc{b:Nat->Int}(h:My.sumTo b n=0):zc0 c n b=λ_=>0:=by unfold zc0;rw[if_pos h]
def zmG{b:Nat->Int}(h:¬My.sumTo b n=0):zc0 c n b=My.more (λi=>decide (c*b i%My.sumTo b n>0)) (λi=>c*b i/My.sumTo b n) (c-My.sumTo (λi=>c*b i/My.sumTo b n) n):=by unfold zc0;rw[if_neg h]
def zp1{rest:St}(j:SqL K H a xs)(k:zb9 caps σ=none :: rest)(l:xs.length<=100000)(q:∀p H',H p=none->Same H H'->H' p=some (.lst ((vec xs.length λ_=>c).map V.int))->Q (.ref p) H'):zeJ (Itl K a) caps (zbO 0) zfo (tC (.int c)) σ Q H:=by
 refine zR (zS (K:=K) (a:=a) (xs:=xs)) (λH' e=>e.seq j) k (λi vs _=>vs=(vec i λ_=>c).map V.int) (λ_ _=>rfl) ?_ ?_
 ·rintro i x D vs o H' H2 hi f e g d rfl e2 m;refine zra (zt0 (zfw (x_c (zdr (e2.at g) ⋯ λn b h=>?_))));exact CompN.int ⟨_,rfl⟩ (b.same (e.trans e2) f) h rfl
 ·rintro D H' vs f e g d rfl;exact q D H' f e g
def zoA:ns.map V.int++[.int c]=(ns++[c]).map V.int:=by rw[yj];rfl
def zac{P:Program}{w:World}{K:Fg}{mg:Str->Option Value}{base:Heap}{N:List Str}{qual:Str}{scope:Scope}{f:Addr}{i:Value}{A:Around}{outer:List Env}{s:Shared}{H:Hp}{E:XK} :
  zc2 (CXF P w) (zay (CXF P w) P w K mg base N qual scope f i A outer s H E) E:=by
 intro pins σ H1 G e J I r;obtain⟨er,C,t,B,H',rfl,F,ex⟩:=r;have v:=I.stack;have g:∀b o,s.heap.get? b=some o->b∉frs outer->b∉frs (envOfC qual scope s.heap.objs.size f i :: outer):=λb o q n z=>by
  rcases List.mem_cons.mp (show b∈s.heap.objs.size :: frs outer from z)with z | z
  ·exact yo (Heap.lt_size q) z
  ·exact n z
 have sub:∀b∈frs outer,b∈frs (envOfC qual scope s.heap.objs.size f i :: outer):=λb a=>List.mem_cons_of_mem _ a;show wpAny (model P w) (A.deeper (envOfC qual scope s.heap.objs.size f i)) (leaving (envOfC qual scope s.heap.objs.size f i) (.ref er)) _ _ _;refine wpAny_mono (DK.any (E:=λ_ _=>False) (Q:=λ_ d=>Bare er d->CXF P w outer H s E (.ref er) d) (zhM _ _) F.nod ?_) (λ_ d q=>q.1 q.2) λ_ _ q=>q.1.elim;refine wpAny_leaves_onW (L:=s.heap.objs.size) I.ok.frames rfl F.fly λj fly up b1=>?_;have c:=F.unAt v fly.1 up;refine⟨er,C,t,B,H',rfl,⟨F.os.trans I.os,F.bare,⟨λb o q n a _=>?_,λb o q n a _=>?_,λb o q n _=>?_,λb o q _=>?_,λb xs q=>c.tups b xs (I.base.tups b xs q),λb o xs q=>c.frzs b o xs (I.base.frzs b o xs q),λb ps q=>?_⟩,F.hokAt fly.1,fly,λb o q n a=>?_,λb o q a=>?_,λb o u q e=>?_,b1⟩,ex⟩
 ·exact c.keep b o (I.base.keep b o q n a (by simp[zay])) (I.base.free b o q n (by simp[zay])) (g b o q a) (by simp)
 ·obtain⟨D,e1⟩:=I.base.slot b o q n a (by simp[zay]);obtain⟨k,e2⟩:=c.slot b _ e1 (I.base.free b o q n (by simp[zay])) (sub b a) (by simp);exact⟨k,e2⟩
 ·obtain⟨h,e1⟩:=I.base.there b o q (by simp[zay]);exact c.free b h e1 (I.base.free b o q n (by simp[zay])) (by simp)
 ·obtain⟨h,e1⟩:=I.base.there b o q (by simp[zay]);exact c.there b h e1 (by simp)
 ·obtain⟨y,e1⟩:=I.base.tbls b ps q;obtain⟨p,e2⟩:=c.tbls b _ e1;exact⟨y++p,by rw[e2,Array.append_assoc]⟩
 ·exact F.old b o (I.base.keep b o q n a (by simp[zay])) (I.base.free b o q n (by simp[zay])) (g b o q a)
 ·obtain⟨h,e1⟩:=I.base.there b o q (by simp[zay]);exact F.has b h e1 (g b o q a)
 ·obtain⟨m,e1⟩:=(F.hok b o q).obj;have z:=F.trk b o m q e1;have x:=fly.1 b m z;have l:j.get? b=some u:=e;rw[x]at l;cases l;exact z
noncomputable def zkB (X:Cx) (pins:List (Addr × Obj)) (Eh:Addr->St->Hp->Prop):Value->Shared->Prop:=λe s'=>∃σ' H1 s1 er C t B H',Inv X pins σ' H1 s1/\e=.ref er/\Fly X.prog X.w X.stack H1 s1 H' er C t B s'/\Eh C σ' H'
abbrev TEr:=St->Hp->VK->(Addr->Hp->Prop)->Prop
abbrev TTr:=Ends->(Addr->St->Hp->Prop)->St->Hp->Prop
noncomputable def PEr (X:Cx) (e:Expr) (t:TEr):Prop:=∀(pins:List (Addr × Obj)) (s:Shared) (σ:St) (H:Hp) (Q:VK) (Eh:Addr->Hp->Prop),Inv X pins σ H s->t σ H Q Eh->wpAny (model X.prog X.w) X.A (eval e X.env) (EP X pins σ Q) (zkB X pins λC a H'=>a=σ/\Eh C H') s
noncomputable def PTr (X:Cx) (st:Stmt) (t:TTr):Prop:=∀(pins:List (Addr × Obj)) (s:Shared) (σ:St) (H:Hp) (D:Ends) (Eh:Addr->St->Hp->Prop),Inv X pins σ H s->t D Eh σ H->wpAny (model X.prog X.w) X.A (exec st X.env) (SP X pins D) (zkB X pins Eh) s
noncomputable def zsJ (X:Cx) (a:List Stmt) (t:TTr):Prop:=∀(pins:List (Addr × Obj)) (s:Shared) (σ:St) (H:Hp) (D:Ends) (Eh:Addr->St->Hp->Prop),Inv X pins σ H s->t D Eh σ H->wpAny (model X.prog X.w) X.A (execs a X.env) (SP X pins D) (zkB X pins Eh) s
section
variable {X:Cx}{pos:Pos}
noncomputable def znA (sp:Sp) (ta:TA):TEr:=λσ H Q Eh=>ta σ H λvs H1=>sp vs H1 Q λcls _ H2=>∃C,cls=.ref C/\Eh C H2
def zpo{p l:Pos}{e:Expr}{es:List Expr}{ta:TA}(F:FnOk X.prog X.w X.K X.mg X.base (CXF X.prog X.w) k f fd ps sp)(D:Room k X.A)(i:Gl X x)(j:X.mg x=some (.ref f))(n:PySem.W.keepIn X.K (.ref f)=true)(E:Binds X.K fd ps [])
  (ha:PA X.nox (e :: es) ta) (hdf:autoParam ((x == ("__debug__" : Str))=false) Internal.aut1._auto_1) (he:autoParam (starEach (e :: es) X.env=(false,eval e X.env) :: starEach es X.env) Internal.aut2._auto_1) (hpl:autoParam ((backTo l (starEach es X.env)).any (·.1)=false) Internal.aut2._auto_1):PEr X (.Call (.Name x p) (e :: es) [] l) (znA sp ta):=by
 intro pins s σ H Q Eh I h;refine wpAny_Call_Name_kw (zcO I i j ?_ hdf);refine PySem.W.callWith_K (h₀:=X.base) I.ok.mod.kin n (wpAny_mono (ha l pins s σ H _ (I.wish _) h) (λus g q=>?_) λ_ _ z=>z.elim) he hpl;obtain⟨vs,H1,o,r,q⟩:=q;have d:=o.unwish;refine⟨d.kIn,?_⟩;have a:us.length=ps.length:=by rw[<- r.length];exact F.len _ _ _ _ q
 have b:=E g us d.kIn (by rw[List.append_nil];exact a);rw[List.append_nil]at b;refine wpAny_call (codeAny_mono (F.run X.A X.stack g H1 ⟨us,[]⟩ us vs _ _ D d.env0 b r q) λres s' c=>?_);cases res with
 | error er0=>
  obtain⟨er,C,t,B,H2,rfl,m,G,v,y⟩:=c;cases v;exact⟨σ,H1,g,er,C,t,B,H2,d,rfl,m,rfl,y⟩
 | ok fw=>
  cases fw with
  | ret u=>exact d.after c
  | next=>exact c.elim
  | brk=>exact c.elim
  | cont=>exact c.elim
abbrev ztD(te:TEr):TTr:=λD Eh σ H=>te σ H (λ_ H2=>D.nx σ H2) λC H2=>Eh C σ H2
def zpO{te:TEr}(c:PEr X e te)(a:autoParam (swapsWith e none pos.line X.env=pure false) Internal.aut2._auto_1):PTr X (.Expr e pos) (ztD te):=by
 intro pins s σ H D Eh I h;refine wpAny_Expr_any (wpAny_mono (c pins s σ H _ _ I h) (λ_ j ⟨v,H1,f,r,q⟩=>⟨σ,H1,f,q⟩) λe j ⟨g,H1,i,er,C,t,B,H',d,e1,b,e2,q⟩=>⟨g,H1,i,er,C,t,B,H',d,e1,b,e2▸q⟩) I.quiet a
def zoR{t:TTr}(h:PTr X st t):zsJ X [st] t:=by
 intro pins s σ H D Eh I q;refine wpAny_execs_cons (wpAny_mono (h pins s σ H D Eh I q) (λf a z=>?_) λ_ _ z=>z);cases f with
 | next=>exact wpAny_execs_nil z
 | _=>exact z
noncomputable def zmQ (K:Fg) (a:Addr) (i:Nat) (tb:TTr) (th:TS):TS:=λD σ H=>tb D (λC b H2=>∃C',Value.ref C=.ref C'/\PySem.W.exmOne K (.ref C') (.ref a)=some true/\∀er,H2 er=none->th (D.gone i) (b.set i (some (.ref er))) (upd H2 er (zca er C'))) σ H
def zq1{k:Addr}{b n:Str}{l hp:Pos}{body:List Stmt}{tb:TTr}{g:Stmt}{a:List Stmt}{i:Nat}{th:TS}(c:X.stack=X.env :: X.outer/\X.env.frame=some X.env.locals)(d:zsJ X body tb)
  (hg:Gl X b) (hm:X.mg b=some (.ref k)) (hN:X.N.Nodup) (hi:X.N[i]?=some n) (hl:X.env.kindOf n=some .local) (hth:∀er,PSs (X.inH er) (g :: a) th) (hdb:autoParam ((b == ("__debug__" : Str))=false) Internal.aut1._auto_1) :
  PS X (.Try body [.ExceptHandler (some (.Name b l)) (some n) (g :: a) hp] [] [] pos) (zmQ X.K k i tb th):=by
 intro pins s σ H D I h;refine wpAny_Try_except (wpAny_mono (d pins s σ H D _ I h) (λf o z=>?_) λe o z=>?_)
 ·cases f with
  | next=>exact wpAny_execs_nil z
  | _=>exact z
 ·obtain⟨v,H1,w,er,C,t,B,H',q,rfl,j,u,p,m,r⟩:=z;cases p;exact taken c q j hg hm m hN hi hl (hth er) (r er j.noTrk) hdb
end
section
variable {σ:St}{H:Hp}{Q:VK}{D:Ends}{K:Fg}{Eh:Addr->Hp->Prop}{Eg:Addr->St->Hp->Prop}
def ztw{a:Addr}{tb:TTr}{th:TS}(q:tb D (λC b H2=>∃C',Value.ref C=.ref C'/\PySem.W.exmOne K (.ref C') (.ref a)=some true/\∀er,H2 er=none->th (D.gone i) (b.set i (some (.ref er))) (upd H2 er (zca er C'))) σ H):zmQ K a i tb th D σ H:=q
def zru{ta:TA}(q:ta σ H λvs H1=>sp vs H1 Q λcls _ H2=>∃C,cls=.ref C/\Eh C H2):znA sp ta σ H Q Eh:=q
end
noncomputable def zez (ds:List Due) (pf:Nat->Int) (m:Nat):Int:=if -zcS ds m-pf m>0 then -zcS ds m-pf m else 0
noncomputable def zkh (K:Fg):Sp:=λvs H Q _=>∃(a b:Addr) (ds:List Due) (n:Nat) (pf:Nat->Int),vs=[.ref a,.ref b]/\IsSh K H a ds/\SqL K H b ((vec n pf).map V.int)/\n<=100/\(∀d∈ds,zaM n d)/\zcJ H Q (vec n (zez ds pf))
def zoP:=λ{K:Fg} {a b:Addr} {ds:List Due} {n:Nat} {pf:Nat->Int} {H:Hp} {Q:VK} {E:XK} h h' hn hd q=>@id (zkh K [.ref a,.ref b] H Q E) ⟨a,b,ds,n,pf,rfl,h,h',hn,hd,q⟩
noncomputable def zii:Sp:=λ_ _ _ _=>False
noncomputable def zof (K:Fg) (C:Addr):Sp:=λvs H Q E=>∃(c:Int) (a:Addr) (n:Nat) (b:Nat->Int),vs=[.int c,.ref a]/\SqL K H a ((vec n b).map V.int)/\n<=1000/\(∀i,i<n->0<=b i/\sz (b i)<=300)/\sz (My.sumTo b n)<=300/\(((0<=c/\c<=My.sumTo b n)/\zcJ H Q (vec n (zc0 c n b)))\/(My.sumTo b n<c/\E (.ref C) none H))
noncomputable def zoT (K:Fg) (C:Addr):Sp:=λvs H Q E=>∃(c:Int) (a:Addr) (ns:List Int),vs=[.int c,.ref a]/\SqL K H a (ns.map V.int)/\((c=zah ns/\zcJ H Q ns)\/(zah ns<c/\E (.ref C) none H))
theorem BT.range:bootBuiltins "range" = some (.type "range"):=by decide +kernel
section
variable {X:Cx}
theorem ze9:∀ns:List Int,(ns.map V.int).all zcQ=true
 | []=>rfl
 | n :: ns=>by rw[List.map_cons,List.all_cons,ze9 ns];rfl
noncomputable def ztH:V->List V->Hp->VK->Prop:=λx vs H Q=>∃(l:Addr) (ns:List Int) (k:Int) (j:Nat),x=.ref l/\vs=[.int k]/\H l=some (.lst (ns.map V.int))/\ns[j]?=some k/\(∀m,m<j->ns[m]?≠some k)/\ns.length<=100000/\Q (.int j) H
def zpl:MtM X "list.index" ztH:=by
 intro pins s σ H x vs v us Q I A D h;obtain⟨l,ns,k,j,rfl,rfl,B,f,hno,E,q⟩:=h;cases A;obtain⟨u,rfl,ru⟩:=D.one;obtain⟨z,its,n,r,G,e⟩:=I.lstM B;have g:j<ns.length:=(yi.mp f).1;have p:its.length=ns.length:=by have:=r.length;rw[yc]at this;exact this.symm
 have a:∀m (b:m<its.length),eqU (.int k) its[m]=(ns[m]'(by lia) == k):=λm b=>by
  obtain⟨w,o,i⟩:=r.get (show(ns.map V.int)[m]?=some (.int (ns[m]'(by lia))) by simp[show m<ns.length by lia])
  have:its[m]=w:=by
   rw[List.getElem?_eq_getElem b]at o;exact yk o
  rw[this,zkz i rfl];rfl
 refine call_meets F.slot_list_index ⟨_,e,rfl⟩ F.entry_list_index (F.args_list_index_2 _ _) (SeqAt.list_indexAt l its.toArray n none #[] u (eqU (.int k)) j (by simp;lia) ⋯ ?_ (λm b d=>?_)) ⟨e,λy C=>zcN ru rfl r (ze9 ns) y (by simpa using C),⟨.int j,H,I.tok _,⟨_,rfl⟩,q⟩⟩
 ·have:=a j ⋯
  simp only[List.getElem_toArray];rw[this];have t:ns[j]=k:=by rw[List.getElem?_eq_getElem g]at f;exact yk f
  rw[t];simp
 ·have c:m<its.length:=by simpa using b
  simp only[List.getElem_toArray];rw[a m c]
  have:ns[m]'(by lia)≠k:=λz=>hno m d (by rw[List.getElem?_eq_getElem ⋯,z])
  simp[this]
noncomputable def zhk:List V->Hp->VK->Prop:=λvs H Q=>∃j:Int,vs=[.int j]/\∀p,H p=none->Q (.ref p) (upd H p (.rng 0 j))
def zkX:CallR X (.type "range") zhk:=by
 intro pins s σ H xs us Q I r h;obtain⟨j,rfl,q⟩:=h;obtain⟨u,rfl,t,rfl⟩:=vals1 r;refine call_range_1 ?_;have J:Inv X pins σ (upd H s.heap.objs.size (.rng 0 j)) { s with heap:=s.heap.push { cls:=.type "range",data:=.fields #[.int 0 s.toks,.int j t,.int 1 (s.toks+1)] },toks:=s.toks+1+1 }:=I.laid (λb o e=>Heap.get?_push_of_some _ e) (yg _) ⟨_,_,_,Heap.get?_push_size _ rfl⟩;exact⟨.ref s.heap.objs.size,_,J,rfl,q _ (I.hok.fresh (yg _))⟩
end
section
variable {H:Hp}{Q:VK}{K:Fg}
theorem zl1{i:Int}:∀ns:List Int,inV (.int i) (ns.map V.int)=decide (i∈ns)
 | []=>by simp[inV]
 | n :: ns=>by
  have a:=zl1 (i:=i) ns;unfold inV at a ⊢;rw[List.map_cons,List.any_cons,a]
  show((n == i) || _)=_
  by_cases h:n=i
  ·subst h;simp
  ·have:¬i=n:=λz=>h z.symm
   simp[h,this]
def zrX{i:Int}(h:SqL K H a (ns.map V.int))(q:Q (.bl (!decide (i∈ns))) H):rIn K true (.int i) (.ref a) H Q:=
 ⟨a,_,rfl,.inl h,rfl,ze9 ns,by rw[if_pos rfl,zl1];exact q⟩
def zsQ{zs:List V}(h:H l=some (.lst xs))(h':H b=some (.lst zs))(a:xs.length+zs.length<=100000)(q:∀H',LBut l H H'->H' l=some (.lst (xs++zs))->Q .non H'):zl0 (.ref l) [.ref b] H Q:=
 ⟨l,b,xs,zs,rfl,rfl,h,h',zbD a,q _ ⟨But.upd,xs,h⟩ zQ⟩
def zpH(q:∀p H',H p=none->Same H H'->H' p=some (.rng 0 j)->Q (.ref p) H'):zhk [.int j] H Q:=⟨j,rfl,λp hp=>q p _ hp (Same.new hp _) zQ⟩
end
noncomputable def zbM:Option Nat->V
 | none=>.non
 | some i=>.int i
noncomputable def zar (n:Nat) (w:Nat->Option Nat):List V:=(List.range n).map λm=>zbM (w m)
def zbd{w:Nat->Option Nat}:(zar n w).length=n:=by simp[zar]
def zbs{w:Nat->Option Nat}(h:i<n):(zar n w)[i]?=some (zbM (w i)):=by simp[zar,h]
def zhh{w v:Nat->Option Nat}(h:∀i,i<n->w i=v i):zar n w=zar n v:=by
 unfold zar;exact List.map_congr_left λi hi=>by rw[h i (List.mem_range.mp hi)]
def zpB{j:Nat}{w:Nat->Option Nat}{o:Option Nat}:(zar n w).set j (zbM o)=zar n λm=>if m=j then o else w m:=by
 refine List.ext_getElem? λi=>?_;rw[List.getElem?_set];by_cases hi:i<n
 ·rw[zbs hi,zbs hi,zbd];by_cases e:j=i
  ·subst e;simp[hi]
  ·rw[if_neg e,if_neg (Ne.symm e)]
 ·have h2:∀v,(zar n v)[i]?=none:=λv=>by rw[List.getElem?_eq_none_iff,zbd];lia
  rw[h2,h2,zbd];by_cases e:j=i
  ·subst e;simp[hi]
  ·rw[if_neg e]
def zo5:List.replicate n V.non=zar n λ_=>none:=by
 refine List.ext_getElem? λi=>?_;rw[List.getElem?_replicate];by_cases hi:i<n
 ·rw[zbs hi,if_pos hi];rfl
 ·rw[if_neg hi,List.getElem?_eq_none (by rw[zbd];lia)]
def zqT{b:Bool}:List.replicate n (V.bl b)=bls n λ_=>b:=by
 refine List.ext_getElem? λi=>?_;rw[List.getElem?_replicate];by_cases hi:i<n
 ·rw[zfW hi,if_pos hi]
 ·rw[if_neg hi,List.getElem?_eq_none (by rw[zlp];lia)]
noncomputable def useful (g:Nat->Bool) (m:Nat) (d:Due):Prop:=d.p=(m:Int)/\0<d.a/\g d.p.toNat=true/\g d.q.toNat=true
instance {g:Nat->Bool} {m:Nat} {d:Due}:Decidable (useful g m d):=by unfold useful;infer_instance
noncomputable def zcb (ds:List Due) (g:Nat->Bool):Nat->Nat->Option Nat
 | 0,_=>none
 | i+1,m=>match ds[i]? with
  | some d=>if useful g m d then some i else zcb ds g i m
  | none=>zcb ds g i m
def ziE{g:Nat->Bool}{d:Due}(h:ds[i]?=some d)(m:Nat):zcb ds g (i+1) m=if useful g m d then some i else zcb ds g i m:=by rw[zcb,h]
def zpv{k:Int}(h:H l=some (.lst [.non]))(d:0<=k)(h1:k<=100000)(q:∀p H',H p=none->Same H H'->H' p=some (.lst (zar k.toNat λ_=>none))->Q (.ref p) H'):zdQ (.ref l) (.int k) H Q:=
 zki h d h1 λp H' a b c=>q p H' a b (by rw[c,zo5])
def zrU{k:Int}{c:Bool}(h:H l=some (.lst [.bl c]))(d:0<=k)(h1:k<=100000)(q:∀p H',H p=none->Same H H'->H' p=some (.lst (bls k.toNat λ_=>c))->Q (.ref p) H'):zdQ (.ref l) (.int k) H Q:=
 zki h d h1 λp H' a b c=>q p H' a b (by rw[c,zqT])
noncomputable def zh6 (K:Fg):Sp:=λvs H Q _=>∃(a b:Addr) (ds:List Due) (n:Nat) (g:Nat->Bool),vs=[.ref a,.ref b]/\IsSh K H a ds/\SqL K H b (bls n g)/\n<=100/\ds.length<=1000/\(∀d∈ds,zaM n d)/\∀p H',H p=none->Same H H'->H' p=some (.lst (zar n (zcb ds g ds.length)))->Q (.ref p) H'
def zom:=λ{K:Fg} {a b:Addr} {ds:List Due} {n:Nat} {g:Nat->Bool} {H:Hp} {Q:VK} {E:XK} h h' hn hl hd q=>@id (zh6 K [.ref a,.ref b] H Q E) ⟨a,b,ds,n,g,rfl,h,h',hn,hl,hd,q⟩
def zpx{A:Prop}(q:A):V.non=V.non/\A:=⟨rfl,q⟩
def zka{o:Option Nat}:decide (zbM o=V.non)=o.isNone:=by cases o with | none=>rfl | some i=>simp[zbM]
noncomputable def goF (ds:List Due):Nat->Nat->Bool
 | 0,_=>true
 | t+1,m=>(zcb ds (goF ds t) ds.length m).isSome
noncomputable def zcK (ds:List Due):Nat->Nat->Option Nat
 | 0,_=>none
 | t+1,m=>zcb ds (goF ds t) ds.length m
noncomputable def zkK (K:Fg):Sp:=λvs H Q _=>∃(n:Int) (a:Addr) (ds:List Due),vs=[.int n,.ref a]/\IsSh K H a ds/\1<=n/\n<=100/\ds.length<=1000/\(∀d∈ds,zaM n d)/\∀p H',H p=none->Same H H'->H' p=some (.lst (zar n.toNat (zcK ds n.toNat)))->Q (.ref p) H'
def zo3:=λ{K:Fg} {n:Int} {a:Addr} {ds:List Due} {H:Hp} {Q:VK} {E:XK} h h0 h1 hl hd q=>@id (zkK K [.int n,.ref a] H Q E) ⟨n,a,ds,rfl,h,h0,h1,hl,hd,q⟩
noncomputable def fwd (a:Int) (m:Nat):Int:=((m:Int)*5+a)%11
open PySem PySem.W PyProof.Rows
section
variable {n:Nat}{kf:Nat->Int}
end
end Internal
set_option maxHeartbeats 4000000
namespace Internal
variable {E:XK}{H H' H1 H2:Hp}{K:Fg}{N ps:List Str}{Q:VK}{T a b f l:Addr}{X:Cx}{as:List Addr}{e:Expr}{fd:FuncData}{h:Heap}{hi lo:Option Int}{k n:Nat}{ns:List Int}{o:HO}{qual x:Str}{s:Shared}{sp:Sp}{st:Stmt}{tl:TE}{v y:V}{vs xs ys:List V}{σ:St}
open PySem PySem.W PySem.Calls PyProof.Rows
section
variable {prog:Program}{w:World}{A:Around}{E:Value->Shared->Prop}
theorem zj2{vs:List Value}{J:List Value->Shared->Prop}{body:Value->PUnit->Sem (ForInStep PUnit)}
  (hb:∀x ks (s:Shared),vs[ks.length]?=some x->J ks s->wpAny (model prog w) A (body x ⟨⟩) (λr s'=>r=.yield ⟨⟩/\∃k,J (ks++[k]) s') E s) :
  ∀(r ks:List Value) (s:Shared),vs.drop ks.length=r->ks.length<=vs.length->J ks s->wpAny (model prog w) A (forIn r PUnit.unit body) (λ_ s'=>∃ks,ks.length=vs.length/\J ks s') E s
 | [],ks,s,hr,hl,h=>by
  rw[List.forIn_nil]
  have:vs.length<=ks.length:=List.drop_eq_nil_iff.mp hr
  exact wpAny_pure ⟨ks,⋯,h⟩
 | x :: r,ks,s,hr,hl,h=>by
  have a:vs[ks.length]?=some x:=by
   have:=congrArg (λl:List Value=>l[0]?) hr
   simpa[List.getElem?_drop]using this
  have d:ks.length<vs.length:=(yi.mp a).1;rw[List.forIn_cons];refine wpAny_bind (wpAny_mono (hb x ks s a h) (λq s' c=>?_) λ_ _ x=>x);obtain⟨rfl,k,b⟩:=c;show wpAny (model prog w) A (forIn r PUnit.unit body) _ E s';refine zj2 hb r (ks++[k]) s' ?_ (by rw[ye,List.length_singleton];lia) b;rw[ye,List.length_singleton]
  have:=congrArg List.tail hr
  rwa [List.tail_drop]at this
def zoN{s:Shared}{a d:Addr}{st:SortSt}{e e1:Nat}{ks out:List Value}{P:PySem.Fin->Shared->Prop}(g:(arrOf st).map (·.2)=List.toArray out)(u:out.length<64)(t:ks.length<64)(r:failedOf st=none)
  (hk:s.heap.get? d=some (seqObj "list" (List.toArray ks) e)) (ha:s.heap.get? a=some (seqObj "list" #[] e1)) (hne:d≠a)
  (h:∀h',(∀b o,b≠d->b≠a->s.heap.get? b=some o->h'.get? b=some o)->(∃c,h'.get? a=some (seqObj "list" (List.toArray out) c))->(∃o,h'.get? d=some o)->P (.done (.ret .none)) { s with heap:=h' }) :
  wpAny (model prog w) A (ksk_tail a false e1 (.ref d) st) P E s:=by
 have p:=Heap.SameBut.update s.heap d (Obj.mapSeq λ_=>(#[]:Array Value));obtain⟨m,l⟩:∃m,(s.heap.update d (Obj.mapSeq λ_=>(#[]:Array Value))).get? d=some (seqObj "list" #[] m):=⟨_,get?_update_seq hk λ_=>#[]⟩
 have f:(s.heap.update d (Obj.mapSeq λ_=>(#[]:Array Value))).get? a=some (seqObj "list" #[] e1):=(p.2 a hne.symm).trans ha;have n:=Heap.SameBut.update (s.heap.update d (Obj.mapSeq λ_=>(#[]:Array Value))) a (Obj.mapSeq λ_=>List.toArray out);obtain⟨i,k⟩:∃i,((s.heap.update d (Obj.mapSeq λ_=>(#[]:Array Value))).update a (Obj.mapSeq λ_=>List.toArray out)).get? a=some (seqObj "list" (List.toArray out) i):=⟨_,get?_update_seq f λ_=>List.toArray out⟩
 have j:(List.toArray out).size=out.length:=by rw[yl]
 unfold ksk_tail
 try dsimp only
 rw[g,if_neg (by simp)];refine wpAny_bind (listUpdate_at hk rfl ?_ (by rw[yl,sizeLine_eq];lia) (Nat.zero_le _));refine wpAny_bind (wpAny_letGo ?_);refine wpAny_bind (seqEpoch_at f rfl ?_);refine wpAny_bind (listUpdate_at f rfl ?_ (Nat.zero_le _) (ya (Nat.le_of_eq j) (by rw[sizeLine_eq];lia)));rw[r];simp only[bne_self_eq_false,Bool.false_eq_true,if_false];refine wpAny_pure (h _ (λb o h1 h2 q=>(n.2 b h2).trans ((p.2 b h1).trans q)) ⟨i,k⟩ ⟨_,(n.2 d hne).trans l⟩)
def zrb{s:Shared}{a f:Addr}{e e1:Nat}{vs ks:List Value}{kf:Nat->Int}{P:PySem.Fin->Shared->Prop}(q:ks.length=vs.length)(h1:1<=vs.length)(n:vs.length<2)
  (hk:s.heap.get? f=some (seqObj "list" (List.toArray ks) e)) (ha:s.heap.get? a=some (seqObj "list" #[] e1)) (hne:f≠a)
  (h:∀(p:List Nat) h',p.Perm (List.range vs.length)->(∀i j,i<=j->j<vs.length->kf (p.getD i 0)<=kf (p.getD j 0))->(∀b o,b≠f->b≠a->s.heap.get? b=some o->h'.get? b=some o) ->
   (∃c,h'.get? a=some (seqObj "list" (List.toArray (p.map λi=>vs.getD i Value.none)) c))->(∃o,h'.get? f=some o)->P (.done (.ret .none)) { s with heap:=h' }) :
  wpAny (model prog w) A (ksk_end a false vs.toArray e1 (.ref f) (List.toArray ks)) P E s:=by
 unfold ksk_end
 try dsimp only
 rw[if_neg (by simp)];by_cases h2:2<=vs.length
 ·lia
 ·have d:vs.toArray.size<2:=by rw[yl];lia
  rw[if_pos d,if_pos d];have l:vs.length=1:=by lia
  obtain⟨v,rfl⟩:∃v,vs=[v]:=List.length_eq_one_iff.mp l;obtain⟨k,rfl⟩:∃k,ks=[k]:=List.length_eq_one_iff.mp (by rw[q];rfl);refine wpAny_bind (wpAny_pure ?_);refine wpAny_bind (wpAny_pure ?_);refine zoN (ks:=[k]) (out:=[v]) (by simp only[Bool.false_eq_true,if_false];show Array.map (λx:Value × Value=>x.2) (#[k].zip #[v])=#[v];simp) (by simp) (by simp) rfl hk ha hne λh' k1 k2 k3=>h [0] h' (by rw[show List.range [v].length=[0]from rfl]) (λi j m r=>?_) k1 k2 k3;have g:j=0:=by simp at r;lia
  subst g;obtain rfl:i=0:=by lia
  exact Int.le_refl _
def zoJ{s:Shared}{a:Addr}{f:Value}{vs:List Value}{F:Nat}{kf:Nat->Int}{P:PySem.Fin->Shared->Prop}(J:Addr->Nat->List Value->Shared->Prop)
  (ho:s.heap.get? a=some (seqObj "list" vs.toArray F)) (h1:1<=vs.length) (h64:vs.length<2)
  (start:∀h' kS e1,(∀b o,b≠a->s.heap.get? b=some o->h'.get? b=some o)->h'.get? a=some (seqObj "list" #[] e1)->s.heap.objs.size<kS->h'.get? kS=some (seqObj "list" #[] 0)->J kS e1 [] { s with heap:=h' })
  (key:∀kS e1 ks x (s':Shared),vs[ks.length]?=some x->J kS e1 ks s'->wpAny (model prog w) A (call f [x]) (λk d=>(∃e,d.heap.get? kS=some (seqObj "list" (List.toArray ks) e)) /\
   ∀h' c,Heap.SameBut kS d.heap h'->h'.get? kS=some (seqObj "list" (List.toArray (ks++[k])) c)->J kS e1 (ks++[k]) { d with heap:=h' }) (λ_ _=>False) s')
  (fin:∀kS e1 ks (s':Shared),ks.length=vs.length->J kS e1 ks s'->(∃e,s'.heap.get? kS=some (seqObj "list" (List.toArray ks) e))/\s'.heap.get? a=some (seqObj "list" #[] e1)/\kS≠a /\
   ∀(p:List Nat) h',p.Perm (List.range vs.length)->(∀i j,i<=j->j<vs.length->kf (p.getD i 0)<=kf (p.getD j 0))->(∀b o,b≠kS->b≠a->s'.heap.get? b=some o->h'.get? b=some o) ->
   (∃c,h'.get? a=some (seqObj "list" (List.toArray (p.map λi=>vs.getD i Value.none)) c))->(∃o,h'.get? kS=some o)->P (.done (.ret .none)) { s' with heap:=h' }) :
  wpAny (model prog w) A (ksk_tree a f false) P E s:=by
 have M:a<s.heap.objs.size:=Heap.lt_size ho;have I:=Heap.SameBut.update s.heap a (Obj.mapSeq λ_=>(#[]:Array Value));obtain⟨e1,g⟩:∃e1,(s.heap.update a (Obj.mapSeq λ_=>(#[]:Array Value))).get? a=some (seqObj "list" #[] e1):=⟨_,get?_update_seq ho λ_=>#[]⟩
 have y:((s.heap.update a (Obj.mapSeq λ_=>(#[]:Array Value))).push (seqObj "tuple" vs.toArray 0)).objs.size=s.heap.objs.size+1:=by rw[size_push',Heap.size_update]
 unfold ksk_tree;refine wpAny_bind (listItems_at ho rfl ?_);refine wpAny_bind (listUpdate_at ho rfl ?_ (by rw[yl,sizeLine_eq];lia) (Nat.zero_le _));refine wpAny_bind (seqEpoch_at g rfl ?_);refine wpAny_bind (wpAny_newTuple ?_ (by show vs.length<=_;rw[sizeLine_eq];lia));refine wpAny_bind (wpAny_newList ?_ (Nat.zero_le _));refine wpAny_holding ?_;have v:=start (((s.heap.update a (Obj.mapSeq λ_=>(#[]:Array Value))).push (seqObj "tuple" vs.toArray 0)).push (seqObj "list" #[] 0)) ((s.heap.update a (Obj.mapSeq λ_=>(#[]:Array Value))).push (seqObj "tuple" vs.toArray 0)).objs.size e1
  (λb o K q=>Heap.get?_push_of_some _ (Heap.get?_push_of_some _ ((I.2 b K).trans q))) (Heap.get?_push_of_some _ (Heap.get?_push_of_some _ g)) (by rw[y];lia) (Heap.get?_push_size _ rfl)
 generalize ((s.heap.update a (Obj.mapSeq λ_=>(#[]:Array Value))).push (seqObj "tuple" vs.toArray 0)).objs.size=kS at v ⊢;generalize (((s.heap.update a (Obj.mapSeq λ_=>(#[]:Array Value))).push (seqObj "tuple" vs.toArray 0)).push (seqObj "list" #[] 0))=hh at v ⊢;show wpAny (model prog w) A (ksk_rest a f false vs.toArray e1 (.ref kS)) P E { s with heap:=hh };unfold ksk_rest;refine wpAny_bind (wpAny_rule ?_)
 first
  | rw[List.forIn_toArray]
  | (rw[<- Array.forIn_toList];simp only[List.toList_toArray])
  | rw[<- Array.forIn_toList]
 refine wpAny_bind (wpAny_mono (zj2 (J:=J kS e1) (λx ks s' B u=>?_) vs [] _ rfl (Nat.zero_le _) v) (λ_ s' hd=>?_) λ_ _ x=>x)
 ·have D:ks.length<vs.length:=(yi.mp B).1;refine wpAny_bind (wpAny_attempt (wpAny_mono (key kS e1 ks x s' B u) (λk d m=>?_) λ_ _ H=>H.elim));obtain⟨⟨e,l⟩,c⟩:=m;have G:=Heap.SameBut.update d.heap kS (Obj.mapSeq (·.push k));have L:(List.toArray ks).push k=List.toArray (ks++[k]):=by simp
  obtain⟨t,z⟩:∃t,(d.heap.update kS (Obj.mapSeq (·.push k))).get? kS=some (seqObj "list" (List.toArray (ks++[k])) t):=⟨_,by rw[<- L];exact get?_update_seq l (·.push k)⟩
  try dsimp only
  refine wpAny_bind (listUpdate_at l rfl ?_ (by rw[yl,sizeLine_eq];lia) (ya (Nat.le_of_eq (Array.size_push ..)) (by rw[yl,sizeLine_eq];lia)));exact wpAny_pure ⟨rfl,k,c _ t G z⟩
 ·obtain⟨ks,C,u⟩:=hd;obtain⟨⟨e,m⟩,r,n,h⟩:=fin kS e1 ks s' C u
  try dsimp only
  refine wpAny_bind (listItems_at m rfl ?_);exact zrb C h1 h64 m r n h
def zjh{r:Addr}{t u v:Tok}{Q:List Value->Shared->Prop}(j:A.handled=none)(k:s.heap.get? r=some { cls:=.type "range",data:=.fields #[.int 0 t,.int (n:Int) u,.int 1 v] })(p:n<=100000)
  (h:∀vs h' tk,vs.length=n->(∀(i:Nat) (x:Value),vs[i]?=some x->∃t,x=Value.int (i:Int) t)->(∀b o,s.heap.get? b=some o->h'.get? b=some o)->s.heap.objs.size<h'.objs.size->Q vs { s with heap:=h',toks:=tk }) :
  wpAny (model prog w) A (collect (.ref r)) Q E s:=by
 unfold collect;refine wpAny_bind (wpAny_runValue (codeAny_builtin entry_proto_collect' ?_));show wpAny _ _ (do again (.builtin "list.__iadd__" ⟨[<- newList [],.ref r],[]⟩)) _ _ s;refine wpAny_bind (wpAny_newList (wpAny_pure ⟨Code.quiet_builtin _ (by decide +kernel),codeAny_builtin entry_list_iadd' ?_⟩));show wpAny _ _ (Builtin.List.listExtendWith (.ref s.heap.objs.size) (.ref r) (.ref s.heap.objs.size)) _ _ { s with heap:=s.heap.push (seqObj "list" #[] 0) };refine wpAny_extend_range (prog:=prog) (w:=w) (A:=A) (R:=λr s'=>match r with
   | .ok (.ret v)=>wpAny (model prog w) A (match v with
    | .ref a=>(do match (<- load a).data with
     | .seq xs _=>pure xs.toList
     | _=>unsupported "internal:collect")
    | _=>unsupported "internal:collect") Q E s'
   | .ok _=>False
   | .error e=>E e s') (s:={ s with heap:=s.heap.push (seqObj "list" #[] 0) }) j (Heap.get?_push_of_some _ k) (a:=0) (b:=(n:Int)) (c:=1) (n:=n) (small_one ⋯ ⋯ ⋯ ⋯) (by rw[rangeSize_one];split<;>lia) ⋯ s.heap.objs.size (.ref s.heap.objs.size) _ (Heap.get?_push_size _ rfl) λh' tk g y l f d=>?_
 show wpAny (model prog w) A (do
   let o <- load s.heap.objs.size
   match o.data with
   | .seq xs _=>pure xs.toList
   | _=>unsupported "internal:collect") Q E { s with heap:=h',toks:=tk }
 refine wpAny_bind (wpAny_load f ?_);refine wpAny_pure (h g.toList h' tk (by simpa using d.1) (λi x m=>?_) (λb o q=>l b o (yo (Heap.lt_size q)) (Heap.get?_push_of_some _ q)) (Heap.lt_size f));obtain⟨t',e⟩:=d.2 i x (by simpa using m);exact⟨t',by rw[e];congr 1;lia⟩
def zoW{s:Shared}{r f:Addr}{n:Nat}{t u v:Tok}{kf:Nat->Int}{Q:Value->Shared->Prop}(J:Addr->Addr->Nat->List Value->Shared->Prop)(S:A.handled=none)
  (hr:s.heap.get? r=some { cls:=.type "range",data:=.fields #[.int 0 t,.int (n:Int) u,.int 1 v] }) (h1:1<=n) (h64:n<2)
  (start:∀h' tk D a e1,(∀b o,s.heap.get? b=some o->h'.get? b=some o)->s.heap.objs.size<D->(D:Nat)<(a:Nat)->h'.get? D=some (seqObj "list" #[] e1)->h'.get? a=some (seqObj "list" #[] 0)->J D a e1 [] { s with heap:=h',toks:=tk })
  (key:∀D a e1 ks tk (s':Shared),ks.length<n->J D a e1 ks s'->wpAny (model prog w) A.in1.in1 (call (.ref f) [.int (ks.length:Int) tk]) (λk h=>(∃e,h.heap.get? a=some (seqObj "list" (List.toArray ks) e)) /\
   ∀h' c,Heap.SameBut a h.heap h'->h'.get? a=some (seqObj "list" (List.toArray (ks++[k])) c)->J D a e1 (ks++[k]) { h with heap:=h' }) (λ_ _=>False) s')
  (fin:∀D a e1 ks (s':Shared),ks.length=n->J D a e1 ks s'->(∃e,s'.heap.get? a=some (seqObj "list" (List.toArray ks) e))/\s'.heap.get? D=some (seqObj "list" #[] e1)/\a≠D /\
   ∀(p:List Nat) (out:List Value) h' c,p.Perm (List.range n)->(∀i j,i<=j->j<n->kf (p.getD i 0)<=kf (p.getD j 0))->(∀b o,b≠a->b≠D->s'.heap.get? b=some o->h'.get? b=some o) ->
   Vals (p.map λi:Nat=>V.int (i:Int)) out->h'.get? D=some (seqObj "list" (List.toArray out) c)->(∃o,h'.get? a=some o)->Q (.ref D) { s' with heap:=h' }) :
  wpAny (model prog w) A (call (.builtin "sorted") [.ref r] [(Str.ofString "key",.ref f)]) Q E s:=by
 refine call_function_entry_kw kind_sorted plain_sorted entry_sorted (ksk_s1 _ _) ?_;unfold Builtin.«sorted»;refine wpAny_bind (m:=checkCount "sorted" 1 1 _) (wpAny_pure ?_);refine wpAny_bind (zjh (A:=A.in1) S hr ⋯ λvs d l z C G g=>?_);refine wpAny_bind (wpAny_newList ?_ (by rw[z,sizeLine_eq];lia));have B:(d.push (seqObj "list" vs.toArray 0)).get? d.objs.size=some (seqObj "list" vs.toArray 0):=Heap.get?_push_size _ rfl;show wpAny _ _ _ _ _ { s with heap:=d.push (seqObj "list" vs.toArray 0),toks:=l };refine wpAny_bind (wpAny_holding (wpAny_call_entry_kw slot_list_sort ⟨_,B,rfl⟩ entry_list_sort ?body (ksk_l1 _ _)))
 case body=>
  show wpAny (model prog w) A.in1.in1 (Builtin.«list.sort» ⟨[.ref d.objs.size],[(Str.ofString "key",.ref f)]⟩) _ _ _;rw[ksk_t1];refine zoJ (kf:=kf) (J d.objs.size) B ⋯ ⋯ (λh' a e1 k1 k2 k3 N=>?_) (λa e1 ks x s' y F=>?_) λa e1 ks s' T F=>?_
  ·exact start h' l _ a e1 (λb o q=>k1 b o (yo (Nat.lt_trans (Heap.lt_size q) g)) (Heap.get?_push_of_some _ (G b o q))) g (by rw[size_push']at k3;lia) k2 N
  ·obtain⟨tx,rfl⟩:=C _ _ y;exact key _ a e1 ks tx s' (by have:=(yi.mp y).1;lia) F
  ·obtain⟨L,M,K,R⟩:=fin _ a e1 ks s' ⋯ F;refine⟨L,M,K,λp h' hp H k1 k2 k3=>?_⟩;obtain⟨c,O⟩:=k2;rw[z]at hp H;refine⟨_,rfl,wpAny_pure ⟨_,rfl,R p _ h' c hp H k1 ?_ O k3⟩⟩;have go:∀q:List Nat,(∀i∈q,i<n)->Vals (q.map λi:Nat=>V.int (i:Int)) (q.map λi=>vs.getD i Value.none):=by
    intro q
    induction q with
    | nil=>intro _;exact .nil
    | cons i q ih=>
     intro I;rw[List.map_cons,List.map_cons];have hi:=I i List.mem_cons_self;obtain⟨x,y⟩:=zP (show i<vs.length by lia);obtain⟨tx,ex⟩:=C i x y;refine .cons ?_ (ih λj P=>I j (List.mem_cons_of_mem _ P));rw[yn,y];exact⟨tx,ex⟩
   exact go p λi hi=>List.mem_range.mp (hp.mem_iff.mp hi)
end
open PySem PySem.W PySem.Spec PySem.Calls PyProof.Rows
noncomputable def HO.nt:HO->Bool
 | .tbl _=>false
 | _=>true
structure SameT(H H':Hp):Prop where
 keep:∀b o,H b=some o->o.nt=true->H' b=some o
 tb:∀b ps,H b=some (.tbl ps)->∃ps',H' b=some (.tbl ps')
def SameT.at(e:SameT H H')(h:H a=some o)(n:autoParam (o.nt=true) Internal.aut2._auto_1):H' a=some o:=e.keep a o h n
def Same.t(e:Same H H'):SameT H H':=⟨λb o h _=>e b o h,λb ps h=>⟨ps,e b _ h⟩⟩
theorem SameT.refl(H:Hp):SameT H H:=(Same.refl H).t
def SameT.trans(a:SameT H H1)(b:SameT H1 H2):SameT H H2:=
 ⟨λc o h n=>b.keep c o (a.keep c o h n) n,λc ps h=>by obtain⟨d,h'⟩:=a.tb c ps h;exact b.tb c d h'⟩
theorem SameT.none{H H':Hp}{l:Addr}(h:H' l=none)(g:SameT H H'):H l=none:=by
 cases q:H l with
 | none=>rfl
 | some o=>
  cases hn:o.nt with
  | true=>rw[g.keep l o q hn]at h;cases h
  | false=>
   cases o with
   | tbl ps=>obtain⟨a,e⟩:=g.tb l ps q;rw[e]at h;cases h
   | _=>cases hn
noncomputable def zfS (c:Addr) (qual:Str):HO:=.ext λh=>h.CodeRec (.ref c) qual
noncomputable def zgt (f:Addr) (ob:Value->Obj):HO:=.ext λh=>∃ctv,h.get? f=some (ob ctv)
section
variable {P:Program}{w:World}{H:Hp}{h:Heap}
def zpM{c:Addr}(x:h.CodeRec (.ref c) qual):ObjOk P w H h c (zfS c qual):=by
 refine⟨x,?_,λh1 h2 y k=>?_⟩
 ·obtain⟨d,b,vs,t,e,a,_⟩:=x;cases e;exact⟨b,a⟩
 ·obtain⟨d,b,vs,t,e,a,r⟩:=y;cases e;exact⟨c,b,vs,t,rfl,k _ a,r⟩
def zlg{ob:Value->Obj}{ctv:Value}(x:h.get? f=some (ob ctv)):ObjOk P w H h f (zgt f ob):=
 ⟨⟨ctv,x⟩,⟨_,x⟩,λh1 h2 y k=>by obtain⟨c,e⟩:=y;exact⟨c,k _ e⟩⟩
end
noncomputable def Tb (H:Hp) (T:Addr) (pos:Pos) (qual:Str):Prop:=∃ps:Array Value,H T=some (.tbl ps)/\TriplesOk ps.toList/\(codeAmong pos ps.toList=none\/∃c,codeAmong pos ps.toList=some (.ref c)/\H c=some (zfS c qual))
def Tb.same{pos:Pos}(h:Tb H T pos qual)(e:Same H H'):Tb H' T pos qual:=by
 obtain⟨ps,h1,h2,a⟩:=h;refine⟨ps,e _ _ h1,h2,?_⟩;rcases a with a | ⟨c,a,b⟩
 ·exact .inl a
 ·exact .inr ⟨c,a,e _ _ b⟩
def Tb.but{pos:Pos}(h:Tb H T pos qual)(e:LBut l H H'):Tb H' T pos qual:=by
 obtain⟨ps,h1,h2,a⟩:=h;obtain⟨e1,xs,e2⟩:=e;refine⟨ps,by rw[e1 _ (zV h1 e2 (by intro z;cases z))];exact h1,h2,?_⟩;rcases a with a | ⟨c,a,b⟩
 ·exact .inl a
 ·exact .inr ⟨c,a,by rw[e1 _ (zV b e2 (by intro z;cases z))];exact b⟩
section
variable {X:Cx}{params:Arguments}{body:Expr}{lsc:Scope}{lpos:Pos}{c T:Addr}{clos:List (Str × Addr)}
abbrev zdc(X:Cx)(params:Arguments)(body:Expr)(lsc:Scope)(clos:List (Str × Addr))(c':Addr)(ctv:Value):Obj:=kla_obj "<lambda>" (X.env.qual ++ "<lambda>") params body lsc clos ((X.mg "__name__").getD .none) c' ctv
noncomputable def zuV (X:Cx) (params:Arguments) (body:Expr) (lsc:Scope) (clos:List (Str × Addr)) (T:Addr) (lpos:Pos):TE:=λ_ H Q=>Tb H T lpos (X.env.qual ++ "<lambda>") /\
 ∀f c' H',H f=none->SameT H H'->Tb H' T lpos (X.env.qual ++ "<lambda>")->H' f=some (zgt f (zdc X params body lsc clos c'))->H' c'=some (zfS c' (X.env.qual ++ "<lambda>"))->Q (.ref f) H'
def zs3(L:defaultsOf params X.env=([],[]))(x:closureFor lsc X.env=pure clos)(i:X.env.code=.ref c)(C:CodeHd X.base c T)(B:X.base.BuiltinsAt X.mg T):PE X (.Lambda params body lsc lpos) (zuV X params body lsc clos T lpos):=by
 intro pins s σ H Q I h;obtain⟨⟨ps,p,A,hc⟩,k⟩:=h;refine kla_eval L ?_;have l:s.heap.get? T=some (tabObj ps):=I.hok T _ p;have W:s.heap.Ns mainGlobals X.mg:=I.mod.glob.keeps I.bk;have Cs:=C.keeps I.bk;have Bs:s.heap.BuiltinsAt X.mg T:=by
  obtain⟨bm,o,b1,b2,b3,b4,b5,b6⟩:=B;exact⟨bm,o,b1,b2,b3,b4,I.bk _ _ b5,b6⟩
 have P:mainGlobals≠T:=λz=>by
  obtain⟨o,es,ep,e,hd,_⟩:=W;rw[z,l]at e;cases e;cases hd
 rcases hc with Y | ⟨a,Z,K⟩
 ·refine kla_makeFunction (mg:=X.mg) x I.ok.glob W i Cs l A Y P Bs λa ctv h' tk hx f j y E=>?_;have D:T<s.heap.objs.size:=Heap.lt_size l;have R:T≠a:=yo (Nat.lt_of_lt_of_le D f);have U:T≠h'.objs.size:=yo (Nat.lt_of_lt_of_le D (ya f (Nat.le_of_lt j)));have V:a≠h'.objs.size:=yo j;have old:∀b u,H b=some u->b≠a/\b≠h'.objs.size:=λb u e=>by
   have:=I.hok.lt e
   exact⟨yo (Nat.lt_of_lt_of_le this f),yo (Nat.lt_of_lt_of_le this (ya f (Nat.le_of_lt j)))⟩
  have m:∀b (u:Obj),s.heap.get? b=some u->b≠a/\b≠h'.objs.size:=λb u e=>by
   have:=Heap.lt_size e
   exact⟨yo (Nat.lt_of_lt_of_le this f),yo (Nat.lt_of_lt_of_le this (ya f (Nat.le_of_lt j)))⟩
  obtain⟨H',M⟩:∃H',H'=upd (upd (upd H T (.tbl (ps++#[rawInt lpos.line,rawInt lpos.col,.ref a]))) a (zfS a (X.env.qual ++ "<lambda>"))) h'.objs.size (zgt h'.objs.size (zdc X params body lsc clos a)):=⟨_,rfl⟩
  have aF:H' h'.objs.size=some (zgt h'.objs.size (zdc X params body lsc clos a)):=by rw[M];exact zQ
  have O:H' a=some (zfS a (X.env.qual ++ "<lambda>")):=by rw[M,zN V];exact zQ
  have N:H' T=some (.tbl (ps++#[rawInt lpos.line,rawInt lpos.col,.ref a])):=by rw[M,zN U,zN R];exact zQ
  have G:∀b,b≠T->b≠a->b≠h'.objs.size->H' b=H b:=λb h1 h2 F=>by rw[M,zN F,zN h2,zN h1]
  have kp:∀b u,b≠T->s.heap.get? b=some u->(h'.push (zdc X params body lsc clos a ctv)).get? b=some u:=λb u g e=>Heap.get?_push_of_some _ (hx b u g e);have st:SameT H H':=⟨λb o e n=>by
    have g:b≠T:=λz=>by rw[z,p]at e;cases e;cases n
    rw[G b g (old b o e).1 (old b o e).2];exact e,λb qs e=>by
    by_cases g:b=T
    ·rw[g];exact⟨_,N⟩
    ·rw[G b g (old b _ e).1 (old b _ e).2];exact⟨_,e⟩⟩
  have un:Un X.fs [] H H' s.heap (h'.push (zdc X params body lsc clos a ctv)):=by
   have S:∀b,H b=none->b≠T:=λb n z=>by rw[z,p]at n;cases n
   have a0:∀b u,H b=some u->u.nt=true->b≠T:=λb u e n z=>by rw[z,p]at e;cases e;cases n
   refine⟨λb o e n _ _=>kp b o (S b n) e,λb o e n _ _=>⟨o.slots,kp b o (S b n) e⟩,λb o e n _=>?_,λb o e _=>?_,λb xs e=>?_,λb o u e=>?_,λb qs e=>?_⟩
   ·rw[G b (S b n) (m b o e).1 (m b o e).2];exact n
   ·by_cases g:b=T
    ·rw[g];exact⟨_,Heap.get?_push_of_some _ E⟩
    ·exact⟨o,kp b o g e⟩
   ·exact st.keep b _ e rfl
   ·exact st.keep b _ e rfl
   ·by_cases g:b=T
    ·subst g;rw[p]at e;cases e;exact⟨_,N⟩
    ·rw[G b g (old b _ e).1 (old b _ e).2];exact⟨#[],by rw[e];simp⟩
  have hok:HOk X.prog X.w H' (h'.push (zdc X params body lsc clos a ctv)):=λb o e=>by
   by_cases h1:b=h'.objs.size
   ·subst h1;rw[aF]at e;cases e;exact zlg (ctv:=ctv) (Heap.get?_push_size _ rfl)
   ·by_cases h2:b=a
    ·subst h2;rw[O]at e;cases e;obtain⟨c2,oc,vs,t,e2,ho,r⟩:=y;cases e2;exact zpM ⟨b,oc,vs,t,rfl,Heap.get?_push_of_some _ ho,r⟩
    ·by_cases F:b=T
     ·subst F;rw[N]at e;cases e;exact(Heap.get?_push_of_some _ E:(h'.push (zdc X params body lsc clos a ctv)).get? b=some _)
     ·rw[G b F h2 h1]at e;refine(I.hok b o e).stay (λd u hd q=>kp d u (λz=>?_) q) (λd q=>?_) λd xs q=>st.keep d _ q rfl
      ·rcases hd with hd | hd
       ·exact F (hd.symm.trans z)
       ·rw[z,p]at hd;cases hd
      ·exact st.keep d _ q rfl
  have J:Inv X pins σ H' { s with heap:=h'.push (zdc X params body lsc clos a ctv),toks:=tk }:=I.un un hok;refine⟨.ref h'.objs.size,H',J,rfl,k _ a H' ?_ st ⟨_,N,?_,.inr ⟨a,?_,O⟩⟩ aF O⟩
  ·exact I.hok.fresh (ya f (Nat.le_of_lt j))
  ·rw[Array.toList_append];exact TriplesOk_snoc _ _ _ _ A
  ·rw[Array.toList_append];exact codeAmong_snoc _ A Y
 ·refine kla_makeFunctionHit (mg:=X.mg) x I.ok.glob W i Cs l A Z Bs λctv h' tk hk v=>?_;have fr:H h'.objs.size=none:=I.hok.fresh v;have J:Inv X pins σ (upd H h'.objs.size (zgt h'.objs.size (zdc X params body lsc clos a))) { s with heap:=h'.push (zdc X params body lsc clos a ctv),toks:=tk }:=
   I.laid (λb u q=>Heap.get?_push_of_some _ (hk b u q)) v (zlg (ctv:=ctv) (Heap.get?_push_size _ rfl))
  have sm:=Same.new fr (zgt h'.objs.size (zdc X params body lsc clos a));exact⟨.ref h'.objs.size,_,J,rfl,k _ a _ fr sm.t (Tb.same ⟨ps,p,A,.inr ⟨a,Z,K⟩⟩ sm) zQ (sm _ _ K)⟩
end
noncomputable def zjD (P:Program) (w:World) (K:Fg) (mg:Str->Option Value) (base:Heap) (x y qual:Str) (lsc:Scope) (f a b:Addr) (A:Around) (outer:List Env) (s:Shared) (H:Hp):Cx where
 prog:=P
 w:=w
 K:=K
 mg:=mg
 base:=base
 A:=A.deeper (envX qual lsc s.heap.objs.size f (.ref a) [(y,b)])
 N:=[x,y]
 s₀:=s
 H₀:=H
 env:=envX qual lsc s.heap.objs.size f (.ref a) [(y,b)]
 outer:=outer
 stack:=envX qual lsc s.heap.objs.size f (.ref a) [(y,b)] :: outer
 ex:=[]
 calm:=true
 fn:=λ_=>false
 pn:=[]
 xe:=λ_ _=>False
def zqU{P:Program}{w:World}{K:Fg}{mg:Str->Option Value}{base:Heap}{x y qual:Str}{lsc:Scope}{params:Arguments}{body:Expr}{f t c:Addr}{A:Around}{outer:List Env}{s:Shared}{H:Hp}{Q:VK}{tb:TE}{W ctv u O:Value}{v E:V}
  (hd:A.handled=none) (hdp:A.depth<recursionLimit) (e0:Env0 P w K mg base A outer s H) (ho:s.heap.get? f=some (kla_obj "<lambda>" qual params body lsc [(y,c)] W t ctv)) (hcd:s.heap.CodeRec (.ref t) qual)
  (hsn:lsc.names=[(x,.local),(y,.free)]) (hxy:(y == x)=false) (hk:lsc.kind=.function) (hco:lsc.isCoroutine=false) (hgen:lsc.isGenerator=false)
  (hb:∀u,bindArgs (kla_fn "<lambda>" qual params body lsc [(y,c)] W (.ref t) ctv) ⟨[u],[]⟩=pure [(x,u)])
  (hcc:s.heap.IsCell c (some O)) (hcn:H c=none) (rv:RelV v u) (ry:RelV E O)
  (hbody:PE (zjD P w K mg base x y qual lsc f t c A outer s H) body tb) (hq:tb [some v,some E] H Q) :
  wpAny (model P w) A (call (.ref f) [u]) (λr s'=>CE outer P w H s Q r s') (λ_ _=>False) s:=by
 have M:s.heap.NoLimit:=e0.mod.nolimit.keeps λb o e=>(e0.bs b o e).1;have m:(x == x)=true:=beq_self_eq_true x;refine wpAny_call (codeAny_mono (R:=λr s'=>∃D,r=.ok (.ret D)/\CE outer P w H s Q D s') ?_ λr s' G=>?_)
 ·refine kla_callFunE hdp ho rfl hco hgen rfl hcd ?_;rw[hb];refine wpAny_pure (wpAny_newFunctionEnv (λz j=>?_) (λz j=>?_) (λU S F=>⟨M.fresh _ F,?_⟩) hk)
  ·rw[hsn]at j;rcases List.mem_cons.mp j with rfl | j
   ·intro q;cases q
   ·rw[yh.mp j];intro q;cases q
  ·rw[yh.mp j,hsn,List.lookup_cons,m]
  ·show codeAny _ _ (.expr body (envX qual lsc s.heap.objs.size f (.ref t) [(y,c)])) _ _;have k:∀b o,s.heap.get? b=some o->U.get? b=some o:=λb o e=>F.extBut b o (yo (Heap.lt_size e)) (Heap.get?_push_of_some _ e);have L:∀z d,([(y,c)]:List (Str × Addr)).lookup z=some d->z=y/\d=c:=λz d e=>by
    rw[List.lookup_cons]at e;cases j:z == y with
    | true=>rw[j]at e;cases e;exact⟨eq_of_beq j,rfl⟩
    | false=>rw[j]at e;cases e
   have kx:lsc.names.lookup x=some .local:=by rw[hsn,List.lookup_cons,m]
   have X:lsc.names.lookup y=some .free:=by rw[hsn,List.lookup_cons,hxy,List.lookup_cons,beq_self_eq_true]
   have l:∀b:Addr,b∉(zjD P w K mg base x y qual lsc f t c A outer s H).ex:=λb z=>absurd (show b∈([]:List Addr)from z) (by simp);have I:Inv (zjD P w K mg base x y qual lsc f t c A outer s H) [] [some v,some E] H { s with heap:=U,toks:=s.toks+[(x,u)].length }:=by
    refine⟨⟨e0.mod,hk,rfl,rfl,yg _,λa b d h1 h2=>?_,λz j=>?_,λz d h=>?_,λ_=>hd,Around.frames_deeper e0.frames,.inr ⟨rfl,rfl⟩,λb z=>absurd z (l b),e0.bs,e0.bsz,λb _ _=>l b,λb z=>absurd z (l b),e0.funs,e0.frf⟩,
     rfl,e0.bare,Un.kept k,⟨_,S,λi z T h1 h2 Z=>?_⟩,λz d h=>?_,e0.hok.fresh (yg _),λz d h=>?_,λp hp=>absurd (show p∈([]:List (Addr × Obj))from hp) (by simp),e0.hok.kept k,rfl⟩
    ·exact(L a d h1).1.trans (L b d h2).1.symm
    ·have g:lsc.names.lookup z=some .cell\/lsc.names.lookup z=some .free:=j;rw[hsn,List.lookup_cons,List.lookup_cons]at g;cases h1:z == x with
     | true=>rw[h1]at g;rcases g with q | q<;>cases q
     | false=>
      rw[h1]at g;cases h2:z == y with
      | true=>exact⟨c,by show([(y,c)]:List (Str × Addr)).lookup z=some c;rw[List.lookup_cons,h2]⟩
      | false=>rw[h2]at g;rcases g with q | q<;>cases q
    ·exact absurd (show false=true from h) yp
    ·match i,h1,h2 with
     | 0,h1,h2=>
      cases(show some x=some z from h1)
      cases(show some (some v)=some (some T)from h2)
      exact⟨u,rv,.inl ⟨kx,by show[(x,u)].reverse.lookup x=some u;rw[show[(x,u)].reverse=[(x,u)]from rfl,List.lookup_cons,m]⟩⟩
     | 1,h1,h2=>
      cases(show some y=some z from h1)
      cases(show some (some E)=some (some T)from h2)
      obtain⟨N,B,C⟩:=hcc;exact⟨O,ry,.inr ⟨.inr X,c,by show([(y,c)]:List (Str × Addr)).lookup y=some c;rw[List.lookup_cons,beq_self_eq_true],⟨N,k _ _ B,C⟩⟩⟩
     | n+2,h1,h2=>exact absurd (show(none:Option (Option V))=some (some T)from h2) (by simp)
    ·obtain⟨N,B,C⟩:=hcc;rw[(L z d h).2];exact⟨_,N,k _ _ B,C⟩
    ·rw[(L z d h).2];exact hcn
   refine kla_codeExpr (wpAny_mono (hbody [] _ [some v,some E] H Q I hq) (λr s' G=>?_) λ_ _ z=>z.elim);obtain⟨D,H',J,Y,q⟩:=G;exact⟨r,rfl,D,H',J.os,J.bare,J.base,J.hok,Y,q⟩
 ·obtain⟨D,rfl,G⟩:=G;exact G
def zrR{lsc:Scope}{env:Env}{y:Str}{a:Addr}(b:lsc.names=[(x,.local),(y,.free)])(c:env.cells.lookup y=some a):closureFor lsc env=pure [(y,a)]:=by
 unfold closureFor cellOf;rw[b];simp[c]
noncomputable def tSK (ta:TA) (tb:TE) (j:Nat) (T:Addr) (lpos:Pos) (q:Str):TE:=λσ H Q=>ta σ H λvs H1=>Tb H1 T lpos q/\∃(r:Addr) (n:Nat) (u:V) (g:Nat->Int),vs=[.ref r]/\H1 r=some (.rng 0 (n:Int))/\1<=n/\n<2/\σ[j]?=some (some u) /\
 (∀(i:Nat) H2,i<n->SameT H1 H2->tb [some (.int (i:Int)),some u] H2 (λv c=>∃t,v=.ref t/\Same H2 c/\c t=some (.tup [.int (g i),.int (i:Int)]))) /\
 ∀l (p:List Nat) c,H1 l=none->SameT H1 c->Tb c T lpos q->p.Perm (List.range n)->(∀a b,a<=b->b<n->g (p.getD a 0)*64+(p.getD a 0:Int)<=g (p.getD b 0)*64+(p.getD b 0:Int))->c l=some (.lst (p.map λi:Nat=>V.int (i:Int)))->Q (.ref l) c
def zmA{p pos kp lpos:Pos}{ta:TA}{tb:TE}{params:Arguments}{body:Expr}{lsc:Scope}{x y:Str}{c T:Addr}{j k:Nat}(hg:Gl X "sorted")(hm:X.mg "sorted" = none)(Z:bootBuiltins "sorted" = some (.builtin "sorted"))(ha:PA X [e] ta)
  (hcode:X.env.code=.ref c) (C:CodeHd X.base c T) (B:X.base.BuiltinsAt X.mg T) (hN:X.N[j]?=some y) (hy:X.env.kindOf y=some .cell) (hr:Room (k+1) X.A)
  (hbody:∀f M Y A s H,PE (zjD X.prog X.w X.K X.mg X.base x y (X.env.qual ++ "<lambda>") lsc f M Y A X.stack s H) body tb)
  (hdef:autoParam (defaultsOf params X.env=([],[])) Internal.aut2._auto_1) (hsn:autoParam (lsc.names=[(x,.local),(y,.free)]) Internal.aut2._auto_1) (hxy:autoParam ((y == x)=false) Internal.aut1._auto_1) (hk:autoParam (lsc.kind=.function) Internal.aut2._auto_1) (hco:autoParam (lsc.isCoroutine=false) Internal.aut2._auto_1) (hgen:autoParam (lsc.isGenerator=false) Internal.aut2._auto_1)
  (G:autoParam (∀Y pm M ctv u,bindArgs (kla_fn "<lambda>" (X.env.qual ++ "<lambda>") params body lsc [(y,Y)] pm (.ref M) ctv) ⟨[u],[]⟩=pure [(x,u)]) Internal.aut5._auto_1)
  (he:autoParam (backTo pos (starEach [e] X.env)=(false,eval e X.env) :: backTo pos (starEach [] X.env)) Internal.aut2._auto_1)
  (hplain:autoParam ((backTo pos (starEach [e] X.env)).any (·.1)=false) Internal.aut2._auto_1):PE X (.Call (.Name "sorted" p) [e] [⟨some "key",.Lambda params body lsc lpos,kp⟩] pos) (tSK ta tb j T lpos (X.env.qual ++ "<lambda>")):=by
 intro pins s σ H Q I h;refine wpAny_Call_Name_kw (zb2 I hg hm Z ?_ (by decide) (by decide));refine PyProof.Rows.callWith_kw ?_ he hplain;refine thn (ha pos pins s σ H _ I h) λus s1 zz=>?_;obtain⟨vs,H1,I1,rv,hT,r,n,u,g,rfl,aa,n1,n64,hu,a4,kk⟩:=zz;obtain⟨u1,rfl,r1⟩:=vals1 rv;cases r1;obtain⟨Y,a2⟩:=I1.ok.has y (.inl hy);have a3:∀{H':Hp} {s':Shared},Inv X pins σ H' s'->∃u',RelV u u'/\s'.heap.IsCell Y (some u'):=λ{H' s'} P=>by
  obtain⟨m,hn,hl⟩:=P.loc;obtain⟨u',ru,l⟩:=hl j y u hN hu (.inr (.inl hy));rcases l with⟨hk',_⟩ | ⟨_,c2,hc2,F⟩
  ·rw[hy]at hk';cases hk'
  ·rw[a2]at hc2;cases hc2;exact⟨u',ru,F⟩
 refine thn (zlT (t:=zfA) (nm:=some "key") (kpos:=kp) (zs3 (lpos:=lpos) (params:=params) (body:=body) hdef (zrR hsn a2) hcode C B) znI pos pins s1 σ H1 (λws H2=>∃f M,ws=[.ref f]/\H1 f=none/\SameT H1 H2/\Tb H2 T lpos (X.env.qual ++ "<lambda>")/\H2 f=some (zgt f (zdc X params body lsc [(y,Y)] M))/\H2 M=some (zfS M (X.env.qual ++ "<lambda>"))) I1 ⟨hT,λf M H' h1 h2 h3 h4 h5=>⟨f,M,rfl,h1,h2,h3,h4,h5⟩⟩) λkvs O zz=>?_;obtain⟨ws,H2,J,aj,f,M,rfl,au,st,ai,hF,hC⟩:=zz;obtain⟨u2,rfl,r3⟩:=vals1 aj;cases r3;obtain⟨tr,ur,vr,er⟩:=J.hok r _ (st.at aa);show wpAny (model X.prog X.w) X.A (call (.builtin "sorted") [.ref r] [(Str.ofString "key",.ref f)]) (EP X pins σ Q) X.xe O;have hd:=hr.hd;have ac:X.A.in1.in1.depth<recursionLimit:=by have:=hr.dp;show X.A.depth<_;lia
 have nf:∀b,O.heap.objs.size<=b->b∉frs X.stack:=λb G z=>by
  rcases List.mem_cons.mp (J.stkSub b z)with q | q
  ·exact absurd (show b<O.heap.objs.size from q▸J.lt) (Nat.not_lt.mpr G)
  ·exact J.nofs G q
 have R:∀b,O.heap.objs.size<=b->∀z d,X.env.cells.lookup z=some d->d≠b:=λb G z d hz q=>by
  obtain⟨v,o,ho,_⟩:=J.cell z d hz;exact absurd (Heap.lt_size ho) (Nat.not_lt.mpr (q▸G))
 have a1:∀b,O.heap.objs.size<=b->∀q∈X.pn++pins,q.1≠b:=λb G q hq z=>by
  exact absurd (Heap.lt_size (J.pin q hq).1) (Nat.not_lt.mpr (z▸G))
 refine zoW (kf:=λi=>g i*64+(i:Int)) (λD E e1 ks s'=>∃H':Hp,Inv X pins σ H' s'/\Same H2 H'/\O.heap.objs.size<D/\(D:Nat)<(E:Nat)/\(∃e,s'.heap.get? E=some (seqObj "list" (List.toArray ks) e))/\s'.heap.get? D=some (seqObj "list" #[] e1)/\H' E=none/\H' D=none /\
   ∀(i:Nat) (v:Value),ks[i]?=some v->∃a,v=.ref a/\H' a=some (.tup [.int (g i),.int (i:Int)])) hd er n1 n64 (λh' tk D E e1 ap hD ab L ag=>?_) (λD E e1 ks tk s' al hJ=>?_) λD E e1 ks s' hl hJ=>?_
 ·exact⟨H2,J.kept ap,Same.refl _,hD,ab,⟨0,ag⟩,L,J.hok.fresh ⋯,J.hok.fresh ⋯,λi v z=>by simp at z⟩
 ·obtain⟨H',P,sm,d1,d2,⟨e0,W⟩,L,nk,nd,a7⟩:=hJ;have d3:O.heap.objs.size<E:=Nat.lt_trans d1 d2;obtain⟨⟨ctv,am⟩,_⟩:=P.hok f _ (sm _ _ hF);obtain⟨ad,_⟩:=P.hok M _ (sm _ _ hC);obtain⟨uy,ry,F⟩:=a3 P;refine wpAny_mono (zqU (A:=X.A.in1.in1) (v:=.int (ks.length:Int)) hd ac P.env0.in1.in1 am ad hsn hxy hk hco hgen (λu=>G Y _ M ctv u) F (P.freeC y Y a2) ⟨tk,rfl⟩ ry (hbody f M Y _ _ _) (a4 ks.length H' al (st.trans sm.t))) (λkv aq af=>?_) λ_ _ z=>z;obtain⟨v',a6,os,bare,un,hok,ar,t,rfl,a9,ht⟩:=af;cases ar;have kK:=un.keep E _ W nk (nf E ⋯) (by simp);have kD:=un.keep D _ L nd (nf D ⋯) (by simp);have fK:=un.free E _ W nk (by simp);have fD:=un.free D _ L nd (by simp);obtain⟨hh,gg,dd,tt,ae⟩:=aq;obtain rfl:ae=s'.os:=os;have J1:Inv X pins σ a6 ⟨hh,gg,dd,tt,s'.os⟩:=P.call (h':=hh) (g':=gg) (d':=dd) (t':=tt) (ch:=[]) un hok bare (λb z=>absurd z (by simp));refine⟨⟨e0,kK⟩,λh' cN sb ak=>⟨a6,?_,sm.trans a9,d1,d2,⟨cN,ak⟩,(sb.2 D (yo d2)).trans kD,fK,fD,λi v Z=>?_⟩⟩
  ·exact J1.turned (t':=tt) (λb o G q=>(sb.2 b G).trans q) fK (λz=>absurd (show E<O.heap.objs.size from z▸J.lt) (Nat.not_lt.mpr ⋯)) (.inr (ya J.sz ⋯)) (R E ⋯) (a1 E ⋯)
  ·rw[List.getElem?_append]at Z;split at Z
   ·obtain⟨a,e1,e2⟩:=a7 i v Z;exact⟨a,e1,a9 _ _ e2⟩
   ·rename_i hi;have ah:i-ks.length=0:=by
     cases e:i-ks.length with
     | zero=>rfl
     | succ m=>rw[e]at Z;cases Z
    rw[ah]at Z;cases Z;obtain rfl:i=ks.length:=by lia
    exact⟨t,rfl,ht⟩
 ·obtain⟨H',P,sm,d1,d2,⟨e0,W⟩,L,nk,nd,a7⟩:=hJ;have d3:O.heap.objs.size<E:=Nat.lt_trans d1 d2;refine⟨⟨e0,W⟩,L,Nat.ne_of_gt d2,λq out h' cN hq hs kp as ao aw=>?_⟩
  ·have av:q.length=n:=by have:=hq.length_eq;rwa [List.length_range]at this
   have S:∀b o,H' b=some o->b≠E/\b≠D:=λb o e=>⟨zE e nk,zE e nd⟩
   have oT:∀b o,H' b=some o->upd H' D (.lst (q.map λi:Nat=>V.int (i:Int))) b=some o:=λb o e=>by rw[zN (S b o e).2];exact e
   have J2:Inv X pins σ (upd H' D (.lst (q.map λi:Nat=>V.int (i:Int)))) { s' with heap:=h' }:=by
    refine P.step (g':=s'.gens) (d':=s'.drawn) (t':=s'.toks) (ch:=[E,D]) (λb G=>?_) (λb o _ _ U e _=>?_) (λb o _ _ U e _=>⟨o.slots,?_⟩) (λb o U _ nb=>?_) (λb o U e=>⟨o,?_⟩) (λb xs e=>oT b _ e) (λb o u e=>oT b _ e) (λb ps e=>⟨#[],by rw[oT b _ e];simp⟩) (λm hm=>?_) (λb o e=>?_) P.bare
    ·have an:b=E\/b=D:=by simpa using G
     have a0:O.heap.objs.size<=b:=by
      rcases an with z | z
      ·rw[z];lia
      ·rw[z];lia
     exact⟨.inr (ya J.sz a0),(λz=>absurd (show b<O.heap.objs.size from z▸J.lt) (Nat.not_lt.mpr a0)),R b a0,a1 b a0⟩
    ·exact kp b o (λz=>U (by simp[z])) (λz=>U (by simp[z])) e
    ·exact kp b o (λz=>U (by simp[z])) (λz=>U (by simp[z])) e
    ·rw[zN (λz=>U (by simp[z]))];exact nb
    ·exact kp b o (λz=>U (by simp[z])) (λz=>U (by simp[z])) e
    ·obtain⟨o,es,ep,ho,rr⟩:=hm;have hL:X.env.locals<O.heap.objs.size:=J.lt;exact⟨o,es,ep,kp _ o (yo (Nat.lt_trans hL ⋯)) (yo (Nat.lt_trans hL ⋯)) ho,rr⟩
    ·by_cases G:b=D
     ·subst G;rw[zQ]at e;cases e;exact⟨by rw[yc];exact zbD ⋯,out,cN,as,ao⟩
     ·rw[zN G]at e;refine(P.hok b o e).stay (λd u' a8 q'=>kp d u' ?_ ?_ q') (λd q'=>oT d _ q') λd xs q'=>oT d _ q'
      ·rcases a8 with z | z
       ·rw[z];exact(S b o e).1
       ·exact(S d _ z).1
      ·rcases a8 with z | z
       ·rw[z];exact(S b o e).2
       ·exact(S d _ z).2
   have a5:Same H' (upd H' D (.lst (q.map λi:Nat=>V.int (i:Int)))):=λb o e=>oT b o e;exact⟨.ref D,_,J2,rfl,kk D q _ (st.none (sm.none nd)) (st.trans (sm.trans a5).t) ((ai.same sm).same a5) hq hs zQ⟩
open PySem PySem.W PySem.Calls PyProof.Rows
theorem zhi{n:Nat}:∀(ns:List Int),WData.weightAll (ns.map WData.int)<=n->∀i∈ns,sz i<=n
 | [],_,_,h=>nomatch h
 | j :: r,h,i,hi=>by
  rw[List.map_cons,WData.weightAll]at h;rcases List.mem_cons.mp hi with rfl | hi
  ·have:WData.weight (.int i)=sz i:=by rw[WData.weight];rfl
   lia
  ·exact zhi r ⋯ i hi
noncomputable def zjB (ns:List Int):Prop:=∀i∈ns,sz i<=1048576
def zpW(h:WData.layableAll [WData.list (ns.map WData.int)]=true):zjB ns:=by
 unfold WData.layableAll at h;rw[List.all_cons,List.all_nil,Bool.and_true]at h;unfold WData.layable at h;rw[Bool.and_eq_true,decide_eq_true_eq]at h;have h2:=h.2;rw[WData.weight]at h2;exact zhi ns (ya h2 (by decide))
def zjZ{l:OpenLaw}{n:Nat}{q:Program}{b:List Str}{t:(Str->Option Value)->Heap->Prop}{s:World->Heap->Prop}{d:DefRec}
  (hn:l.most=some n) (hdf:d.params.defaults=[])
  (call:∀(w:World) (s₀ c:Shared) (mg m:Str->Option Value) (k:Addr) (a:Addr) (vs:List Value) (ns:List Int),
   Ground q b [] t w s₀ mg m c.heap->s w c.heap->mg d.name=some (.ref k) ->
   c.heap.get? a=some { cls:=.type "list",data:=.seq vs.toArray }->IntsAre vs ns->ns.length<=n->zjB ns->c.gens=#[] ->
   codeAny (model l.prog w) callerA (.call (.ref k) ⟨[.ref a],[]⟩) (λr s'=>r=.ok (.ret (.bool true))/\OldK c.heap s'.heap/\s'.os=c.os/\AllBare s'.gens) c) :
  WalkO q b t s l.row.toRowW d [] (λf vs=>PySem.call f vs):=by
 intro w s₀ c mg m G Y k o I K v F kV H hd A J p D args u as h j B hwl y;obtain⟨a,vs,ns,rfl,rfl,i,e,g⟩:=Att.script_of hn h hwl;refine enter_call (codeAny_mono (call w s₀ c mg m k a vs ns G Y p i e g (zpW j) D) λr s' C=>?_);obtain⟨rfl,h2,z,x⟩:=C;exact⟨.inl ⟨.bool true,.bool true,[],rfl,λ_=>rfl,.bool true,Att.post_true l _,λ_=>⟨List.Pairwise.nil,λ_ E=>(nomatch E)⟩⟩,h2,z,x⟩
open PySem PySem.Spec PyProof.Rows
noncomputable def Within (m:Int) (k:Nat) (f:Nat->Int):Prop:=∀j,j<k->-m<=f j/\f j<=m
noncomputable def zea (m:Int) (n k:Nat) (F:Nat->Nat->Int):Prop:=∀i,i<n->Within m k (F i)
noncomputable def za0 (k:Nat) (f g:Nat->Int):Int:=-zah (vec k λj=>f j*g j)
def zhd{f g:Nat->Int}:za0 (k+1) f g=za0 k f g-f k*g k:=by
 unfold za0;rw[zav,zch];lia
noncomputable def zgO (K:Fg):Sp:=λvs H Q _=>∃(p l:Addr) (as:List Addr) (k:Nat) (f:Nat->Int) (F:Nat->Nat->Int) (m:Int),vs=[.ref p,.ref l]/\H p=some (.lst ((vec k f).map V.int))/\H l=some (.lst (as.map V.ref))/\Rows H as k F/\Within m k f/\zea m as.length k F/\m<=999999999999/\k<=1000/\as.length<=1000 /\
 ∀r H',H r=none->Same H H'->H' r=some (.lst ((vec as.length λi=>za0 k f (F i)).map V.int))->Q (.ref r) H'
def zmm:=λ{K:Fg} {p l:Addr} {as:List Addr} {k:Nat} {f:Nat->Int} {F:Nat->Nat->Int} {m:Int} {H:Hp} {Q:VK} {E:XK} h1 h2 h3 h4 h5 hm hk hl q=>@id (zgO K [.ref p,.ref l] H Q E) ⟨p,l,as,k,f,F,m,rfl,h1,h2,h3,h4,h5,hm,hk,hl,q⟩
open PySem PySem.W PySem.Spec PySem.Calls PyProof.Rows
def zna{P:Program}{w:World}{K:Fg}{mg mb:Str->Option Value}{CX:CXT}{k:Nat}{Y a c T:Addr}{fd:FuncData}{x:Str}{sp:Sp}{f:Shared}{vs:List Value}{ns:List Int}
  (KX:K.In f.heap) (hns:f.heap.Ns mainGlobals mg) (p:f.heap.Ns builtinsNs mb) (hbb:∀x:Str,x ≠ "__name__" -> mb x=bootBuiltins x) (hlim:f.heap.NoLimit) (hg:f.gens=#[])
  (ha:f.heap.get? a=some { cls:=.type "list",data:=.seq vs.toArray }) (hi:IntsAre vs ns) (hl:ns.length<=sizeLine) (hr:Room k callerA)
  (hC:CodeHd f.heap c T) (hT:f.heap.get? T=some (tabObj #[])) (hKT:K.lookup T=none) (hB:f.heap.BuiltinsAt mg T)
  (F:∀base:Heap,K.In base->base.Ns mainGlobals mg->CodeHd base c T->base.BuiltinsAt mg T->FnOk P w K mg base CX k Y fd [x] sp) (hbind:∀(s:Shared) (u:Value),BindsTo s fd ⟨[u],[]⟩ [(x,u)])
  (hsp:∀H:Hp,SqL K H a (ns.map V.int)->H T=some (.tbl #[])->sp [.ref a] H (λv _=>v=.bl true) λ_ _ _=>False)
  (hCX:∀H e s',CX [] H f (λ_ _ _=>False) e s'->False) :
  codeAny (model P w) callerA (.call (.ref Y) ⟨[.ref a],[]⟩) (λr s'=>r=.ok (.ret (.bool true))/\OldK f.heap s'.heap/\s'.os=f.os/\AllBare s'.gens) f:=by
 have rv:=ziz hi;have Q:=hi.length;have t:T≠a:=λz=>by rw[z,ha]at hT;cases hT
 have B:∀l:Hp,zuN l->SqL K l a (ns.map V.int)->HOk P w l f.heap->(∀b,l b≠none->b=a)->(l a≠none->K.lookup a=none) ->
   codeAny (model P w) callerA (.call (.ref Y) ⟨[.ref a],[]⟩) (λr s'=>r=.ok (.ret (.bool true))/\OldK f.heap s'.heap/\s'.os=f.os/\AllBare s'.gens) f:=by
  intro l hO hS E R hK;have L:l T=none:=by
   cases q:l T with
   | none=>rfl
   | some u=>exact absurd (R T (by rw[q];simp)) t
  obtain⟨H,eH⟩:∃H,H=upd l T (.tbl #[]):=⟨_,rfl⟩
  have Z:H T=some (.tbl #[]):=by rw[eH];exact zQ
  have y:∀b,b≠T->H b=l b:=λb h=>by rw[eH,zN h]
  have hok:HOk P w H f.heap:=λb o e=>by
   by_cases h:b=T
   ·subst h;rw[Z]at e;cases e;exact hT
   ·rw[y b h]at e;exact(E b o e).stay (λd u _ q=>q) (λd q=>by rw[y d (zE q L)];exact q) λd xs q=>by rw[y d (zE q L)];exact q
  have X:SqL K H a (ns.map V.int):=by
   rcases hS with(h | ⟨o,h⟩) | h
   ·exact .inl (.inl (by rw[y a t.symm];exact h))
   ·exact .inl (.inr ⟨o,by rw[y a t.symm];exact h⟩)
   ·exact .inr h
  have g:∀{b:Addr} {o:Obj},f.heap.get? b=some o->H b=none->(zdx f.heap H).get? b=some o:=λe n=>zpp e n;have N:∀{b:Addr} {o:Obj},f.heap.get? b=some o->o.cls≠.none->o.cls≠.type "list" -> H b=none:=λ{b o} e d1 d2=>by
   have i:b≠T:=λz=>by rw[z,hT]at e;cases e;exact d1 rfl
   rw[y b i];cases q:l b with
   | none=>rfl
   | some u=>
    have M:b=a:=R b (by rw[q];simp);subst M;rw[ha]at e;cases e;exact absurd rfl d2
  have S:∀{b:Addr} {o:Obj} {es:Array DictEntry} {ep:Nat},f.heap.get? b=some o->o.data=.dict es ep->H b=none:=λ{b o es ep} e d=>by
   have i:b≠T:=λz=>by rw[z,hT]at e;cases e;cases d
   rw[y b i];cases q:l b with
   | none=>rfl
   | some u=>
    have M:b=a:=R b (by rw[q];simp);subst M;rw[ha]at e;cases e;cases d
  have A:∀{b:Addr} {m:Str->Option Value},f.heap.Ns b m->(zdx f.heap H).Ns b m:=λ{b m} ⟨o,es,ep,e,d,r⟩=>⟨o,es,ep,g e (S e d),d,r⟩
  have G:K.In (zdx f.heap H):=λb o e=>g (KX b o e) (by
   have i:b≠T:=λz=>by rw[z,hKT]at e;cases e
   rw[y b i];cases q:l b with
   | none=>rfl
   | some u=>
    have M:b=a:=R b (by rw[q];simp);subst M;rw[hK (by rw[q];simp)]at e;cases e)
  have hM:Mod K mg (zdx f.heap H):=⟨G,A hns,⟨mb,A p,hbb⟩,let ⟨mc,h1,h2⟩:=hlim;⟨mc,A h1,h2⟩⟩
  have W:CodeHd (zdx f.heap H) c T:=by
   obtain⟨o,us,J,tf,D,tg,a1,O,tt,e1,e2,r⟩:=hC;exact⟨o,us,J,tf,D,tg,a1,O,tt,g e1 (N e1 (by rw[e2];decide) (by rw[e2];decide)),e2,r⟩
  have a0:(zdx f.heap H).BuiltinsAt mg T:=by
   obtain⟨bm,o,b1,b2,b3,b4,b5,U,r⟩:=hB;exact⟨bm,o,b1,b2,b3,b4,g b5 (N b5 (by rw[U];decide) (by rw[U];decide)),U,r⟩
  have e0:Env0 P w K mg (zdx f.heap H) callerA [] f H:=⟨rfl,hM,λb o e=>zqQ e,Nat.le_of_eq (znh _ _),trivial,λb p=>absurd (show b∈([]:List Addr)from p) (by simp),hok,.of_eq hg⟩
  refine codeAny_mono ((F _ G (A hns) W a0).run callerA [] f H ⟨[.ref a],[]⟩ [.ref a] [.ref a] _ _ hr e0 (hbind f (.ref a)) (.cons rfl .nil) (hsp H X Z)) λr s' h=>?_;cases r with
  | error e=>exact(hCX H e s' h).elim
  | ok fl=>
   cases fl with
   | next=>exact False.elim h
   | brk=>exact False.elim h
   | cont=>exact False.elim h
   | ret u=>
    obtain⟨v,H',os,bare,un,C,r',q⟩:=h;have q':v=.bl true:=q;subst q';obtain rfl:u=Value.bool true:=r';have j:∃more,s'.heap.get? T=some (tabObj more):=by
     obtain⟨more,e⟩:=un.tbls T #[] Z;exact⟨_,C T _ e⟩
    have keep:∀b o,b≠T->f.heap.get? b=some o->s'.heap.get? b=some o:=λb o i e=>by
     cases q:l b with
     | none=>exact un.keep b o e (by rw[y b i];exact q) (by intro z;exact absurd (show b∈([]:List Addr)from z) (by simp)) (by simp)
     | some u=>
      rcases hO b with z | ⟨ob,xs,z⟩
      ·rw[q]at z;cases z
      ·have z1:H b=some (.frz ob (.lst xs)):=by rw[y b i];exact z
       have z2:=un.frzs b ob _ z1;obtain⟨e1,_⟩:=hok b _ z1;obtain⟨e2,_⟩:=C b _ z2;rw[e]at e1;cases e1;exact e2
    refine⟨rfl,⟨λb o e=>?_,λb o e=>?_⟩,os,bare⟩
    ·by_cases i:b=T
     ·subst i;rw[hT]at e;cases e;obtain⟨more,hm⟩:=j;exact .inr (.inl ⟨(hC.tab hT).isCodeTable,rfl,#[],more,rfl,by rw[Array.empty_append];exact hm⟩)
     ·exact .inl (keep b o i e)
    ·by_cases i:b=T
     ·subst i;obtain⟨more,hm⟩:=j;exact⟨_,hm⟩
     ·exact⟨o,keep b o i e⟩
 cases hk:K.lookup a with
 | some o=>
  have e:=KX a o hk;rw[ha]at e;cases e;refine B (λ_=>none) (λ_=>.inl rfl) (.inr ⟨_,vs.toArray,_,hk,rfl,rfl,rfl,by rw[yl,Q];exact hl,by simpa using rv⟩) (λb u z=>by have I:(none:Option HO)=some u:=z;cases I) (λb z=>absurd rfl z) λz=>absurd rfl z
 | none=>
  refine B (λb=>if b=a then some (.frz { cls:=.type "list",data:=.seq vs.toArray } (.lst (ns.map V.int)))else none) (λb=>?_) (.inl (.inr ⟨{ cls:=.type "list",data:=.seq vs.toArray },if_pos rfl⟩)) (λb u z=>?_) (λb z=>?_) λ_=>hk
  ·by_cases p:b=a
   ·exact .inr ⟨_,_,if_pos p⟩
   ·exact .inl (if_neg p)
  ·by_cases p:b=a
   ·have I:=(if_pos p).symm.trans z;cases I;subst p;exact⟨ha,by rw[yc];exact hl,vs,_,rv,ha⟩
   ·have I:=(if_neg p).symm.trans z;cases I
  ·by_cases p:b=a
   ·exact p
   ·exact absurd (if_neg p) z
noncomputable def zgo (K:Fg) (x:Str):Addr:=match tabIn K x with
 | some q=>q.2
 | none=>0
class TabX (K:Fg) (mg:Str->Option Value) (base:Heap) (x:outParam Str):Prop where
 ex:∀c T,tabIn K x=some (c,T)->CodeHd base c T/\base.BuiltinsAt mg T
def zjn(a:noTabs K=true)(X:K.In h)(b:h.get? T=some (tabObj #[])):K.lookup T=none:=by
 cases q:K.lookup T with
 | none=>rfl
 | some o=>
  have e:=X T o q;rw[b]at e;cases e;have h2:=List.all_eq_true.mp a (T,tabObj #[]) (mem_of_lookupK q);exact absurd (show false=true from h2) yp
def walk_ofT{l:PySem.W.OpenLaw}{n k:Nat}{q:Program}{m:List Str}{XP:(Str->Option Value)->Heap->Prop}{L:World->Heap->Prop}{d d':DefRec}{K:Params->Fg}{CX:World->CXT}{sp:World->Sp}{x y:Str}
  (hn:l.most=some n) (hn2:n<=sizeLine) (hdf:d.params.defaults=[]) (hr:Room k callerA)
  (hY:∀(w:World) (h:Heap),L w h->(K w.params).In h)
  (hrec:(recsOf q).find? (λe=>e.name == y)=some d') (hnt:∀w:World,noTabs (K w.params)=true)
  (F:∀(w:World) (mg:Str->Option Value) (C:Addr) (h:Heap),(K w.params).In h->h.Ns mainGlobals mg->mg d.name=some (.ref C) ->
   ∃fd:FuncData,(∀(s:Shared) (u:Value),BindsTo s fd ⟨[u],[]⟩ [(x,u)])/\(∃p,tabIn (K w.params) y=some p) /\
    ∀base:Heap,(K w.params).In base->base.Ns mainGlobals mg->TabX (K w.params) mg base y->FnOk l.prog w (K w.params) mg base (CX w) k C fd [x] (sp w))
  (hsp:∀(w:World) (H:Hp) (a:Addr) (ns:List Int),ns.length<=n->zjB ns->SqL (K w.params) H a (ns.map V.int)->(∀pos qual,Tb H (zgo (K w.params) y) pos qual)->sp w [.ref a] H (λv _=>v=.bl true) λ_ _ _=>False)
  (hCX:∀(w:World) (H:Hp) (s:Shared) (e:Value) (s':Shared),CX w [] H s (λ_ _ _=>False) e s'->False) :
  PySem.W.WalkO q m XP L l.row.toRowW d [] (λf vs=>PySem.call f vs):=by
 refine zjZ hn hdf λw s₀ M mg mb C a vs ns G Y J A r i P hg=>?_;have B:=hY w _ Y;obtain⟨fd,hb,⟨⟨c,T⟩,j⟩,X⟩:=F w mg C _ B G.T.g J;obtain⟨Z,I⟩:=tab_of G.T B hrec j;have Q:M.heap.BuiltinsAt mg T:=by
  obtain⟨bm,ob,b1,b2,t,N,b5,D⟩:=G.T.bmain;refine⟨bm,ob,b1,b2,λz=>?_,λz=>?_,t,N,b5,D⟩
  ·obtain⟨o,es,ep,e,hd,_⟩:=G.T.g;rw[z,e]at t;cases t;rw[hd]at D;cases D
  ·rw[z,I]at t;cases t;cases N
 have R:zgo (K w.params) y=T:=by unfold zgo;rw[j]
 refine zna B G.T.g G.T.b G.T.builtins G.T.nolimit hg A r (ya i hn2) hr Z I (zjn (hnt w) B I) Q
  (λbase kb nb O U=>X base kb nb ⟨λc' T' e=>by rw[j]at e;cases e;exact⟨O,U⟩⟩) hb (λH S E=>hsp w H a ns i P S λpos qual=>?_) λH e s'=>hCX w H M e s'
 rw[R];exact⟨#[],E,trivial,.inl rfl⟩
def tab_mk{c:Addr}{h e:Value}{od b:Option Addr}{i d:Array (Option Value)}{vs:Array Value}(a:nsIn K mainGlobals x=some (some (.ref f)))(l:K.lookup f=some ⟨h,od,.func fd,i⟩)(g:fd.code=.ref c)(j:K.lookup c=some ⟨e,b,.fields vs,d⟩)(v:vs[11]?=some (.ref T)):tabIn K x=some (c,T):=by
 unfold tabIn;simp only[a,l,g,j,v]
def Fun.okC{P:Program}{w:World}{mg:Str->Option Value}{base:Heap}{CX:CXT}{c:Addr}{k:Nat}(F:Fun K x qual st f fd)(j:fd.code=.ref c)(S:FnScope N ps (zj st))(len:∀vs H Q E,sp vs H Q E->vs.length=ps.length)
  (hbody:∀(A:Around) (outer:List Env) (s:Shared) (H:Hp) (vs:List V) (Q:VK) (E:XK),Room k (A.deeper (envOfC qual (zj st) s.heap.objs.size f (.ref c)))->sp vs H Q E ->
   ∃t,PSs (zay CX P w K mg base N qual (zj st) f (.ref c) A outer s H E).nox (zbb st) t/\t { nx:=λ_ H'=>Q .non H',rt:=Q } (start N vs) H):FnOk P w K mg base CX (k+1) f fd ps sp:=by
 obtain⟨n,od,kV,g,p,o,b,ct,l,rfl,i,d⟩:=F.ex;have e:b=.ref c:=j;subst e;refine zmR i d S len λA outer s H vs Q E m a=>?_;obtain⟨t,h,q⟩:=hbody A outer s H vs Q E m a;exact⟨t,h.nox,q⟩
section
variable {H H':Hp}
theorem SameT.lst(e:SameT H H'){a:Addr}{xs:List V}(h:H a=some (.lst xs)):H' a=some (.lst xs):=e.keep _ _ h rfl
theorem SameT.tup(e:SameT H H'){a:Addr}{xs:List V}(h:H a=some (.tup xs)):H' a=some (.tup xs):=e.keep _ _ h rfl
theorem SameT.ins(e:SameT H H'){a C dx:Addr}{fs:List (Str × V)}(h:H a=some (.ins C dx fs)):H' a=some (.ins C dx fs):=e.keep _ _ h rfl
def SameT.seq(e:SameT H H')(h:SqL K H a xs):SqL K H' a xs:=by
 rcases h with(h | ⟨o,h⟩) | h
 ·exact .inl (.inl (e.keep _ _ h rfl))
 ·exact .inl (.inr ⟨o,e.keep _ _ h rfl⟩)
 ·exact .inr h
def SameT.rows(e:SameT H H'){F:Nat->Nat->Int}(h:Rows H as k F):Rows H' as k F:=⟨h.1,λi a q=>e.keep _ _ (h.2 i a q) rfl⟩
def LBut.sameT{H0:Hp}(g:LBut l H H')(e:SameT H0 H)(h:H0 l=none):SameT H0 H':=
 ⟨λb o q n=>by rw[g.1 b (zE q h)];exact e.keep b o q n,λb ps q=>by obtain⟨a,q'⟩:=e.tb b ps q;exact⟨a,by rw[g.1 b (zE q h)];exact q'⟩⟩
end
noncomputable def TbW (K:Fg) (x:Str) (pos:Pos) (qual:Str) (H:Hp):Prop:=Tb H (zgo K x) pos qual
section
variable {K:Fg}{x qual:Str}{pos:Pos}{H H':Hp}
theorem TbW.same(e:Same H H')(h:TbW K x pos qual H):TbW K x pos qual H':=Tb.same h e
theorem TbW.but{l:Addr}(e:LBut l H H')(h:TbW K x pos qual H):TbW K x pos qual H':=Tb.but h e
end
open PySem
noncomputable def zc9 (ms:List Nat):List Int:=ms.map λm:Nat=>(m:Int)
def zgE{ms:List Nat}:(zc9 ms).length=ms.length:=by unfold zc9;rw[yc]
noncomputable def Closed (ds:List Due) (S:Nat->Prop):Prop:=∀m,S m->∃d∈ds,d.p=(m:Int)/\0<d.a/\S d.q.toNat
open PySem PySem.Spec PyProof.Rows
section
variable {X:Cx}
noncomputable def zqA (K:Fg):List V->Hp->VK->Prop:=λxs H Q=>∃a ns,xs=[.ref a]/\SqL K H a (List.map V.int ns)/\ns≠[]/\∀x,x∈ns->(∀y∈ns,x<=y)->Q (.int x) H
def zoy(E:X.calm=true):CallR X (.builtin "min") (zqA X.K):=by
 intro pins s σ H xs us Q I r h;obtain⟨a,ns,rfl,G,f,q⟩:=h;obtain⟨u,rfl,F⟩:=vals1 r;cases F;obtain⟨its,p,pl,x,d⟩:=I.walk G;refine call_min_walkS (wpAny_pyIter_list pl ?_);have k:a≠s.heap.objs.size:=yo d;have m:(its.toArray).size=ns.length:=by rw[yc]at x;simpa using x
 have c:0<ns.length:=List.length_pos_iff.mpr f;refine⟨_,_,_,_,_,_,_,_,rfl,(Walks.list (prog:=X.prog) (w:=X.w) (A:=X.A.in1) (I.ok.hd E) s.heap.objs.size a k its.toArray).toS,⟨⟨_,Heap.get?_push_size _ rfl,rfl,rfl⟩,pl.at λo e=>Heap.get?_push_of_some _ e⟩,λb C=>?_,by rw[m];exact c,CmpOf.ints_lt (λi=>ns.getD i 0) (λi v l=>zj0 p l),λv s' l g=>?_⟩
 ·rw[Heap.size_push];simp only[List.mem_cons,List.not_mem_nil,or_false]at C;rcases C with rfl | rfl
  ·exact Nat.lt_succ_self _
  ·exact Nat.lt_succ_of_lt d
 ·obtain⟨t,rfl⟩:=zj0 p l;obtain⟨b1,b2⟩:=argBest_lt (λi=>ns.getD i 0) (its.toArray.size-1);rw[m]at b1 b2 ⊢;have D:s'.gens=s.gens:=by have:=g.gens;first | exact this | exact this.symm
  have hd:=g.drawn;have n:=g.os;have B:Inv X pins σ H { s with heap:=s'.heap,toks:=s'.toks }:=I.kept λb o e=>g.heap b o (λz=>by
   simp only[List.mem_cons,List.not_mem_nil,or_false]at z;subst z;exact absurd (Heap.lt_size e) (Nat.lt_irrefl _)) (Heap.get?_push_of_some _ e)
  have e:({ s with heap:=s'.heap,toks:=s'.toks }:Shared)=s':=by
   cases s';cases s;simp only at D hd n;subst D hd n;rfl
  rw[e]at B;refine⟨.int (ns.getD (argBest (λi j=>decide (ns.getD i 0<ns.getD j 0)) (ns.length-1)) 0),H,B,⟨t,rfl⟩,q _ ?_ λy J=>?_⟩
  ·exact ym (zkA ⋯)
  ·obtain⟨i,hi,L⟩:=List.getElem_of_mem J
   have:=b2 i ⋯
   rwa [show ns.getD i 0=y by rw[yn,List.getElem?_eq_getElem hi,L];rfl]at this
end
section
variable {es:List Due}{n:Nat}{g g':Nat->Int}{ms:List Nat}{f:Int}
end
section
variable {es:List Due}{n:Nat}{L:Nat->Nat->Int}{cs:List (List Nat × Int)}
end
section
variable {es:List Due}{n:Nat}{L L':Nat->Nat->Int}{cs:List (List Nat × Int)}{bad:List Addr}{H H':Hp}{vs:List V}
end
section
variable {K:Fg}{σ:St}{H:Hp}{Q:VK}{D:Ends}{a C dx:Addr}{fs:List (Str × V)}{f m:Str}
noncomputable def zmh (K:Fg) (f:Str) (Q:VK) (x:V) (H:Hp):Prop:=∃a C dx fs v,x=.ref a/\H a=some (.ins C dx fs)/\Cls K C/\NoAttr K C f/\fs.lookup f=some v/\Q v H
def ztW{ta:TE}(q:ta σ H (zmh K f Q)):zU K ta f σ H Q:=q
def zoF(h:H a=some (.ins C dx fs))(c:Cls K C)(n:NoAttr K C f)(l:fs.lookup f=some v)(q:Q v H):zmh K f Q (.ref a) H:=⟨a,C,dx,fs,v,rfl,h,c,n,l,q⟩
noncomputable def zqF (K:Fg) (f:Str) (R:Hp->Prop) (y x:V) (H:Hp):Prop:=∃a C dx fs,x=.ref a/\H a=some (.ins C dx fs)/\Cls K C/\NoAttr K C f/\fs.length<1000/\R (upd H a (.ins C dx (zZ f y fs)))
def zss{ta tv:TE}(q:tv σ H λy H1=>ta σ H1 (zqF K f (D.nx σ) y)):zbG K ta tv f D σ H:=q
def zaY{R:Hp->Prop}(h:H a=some (.ins C dx fs))(c:Cls K C)(n:NoAttr K C f)(b:fs.length<1000)(q:∀H',But a H H'->H' a=some (.ins C dx (zZ f y fs))->R H'):zqF K f R y (.ref a) H:=
 ⟨a,C,dx,fs,rfl,h,c,n,b,q _ But.upd zQ⟩
noncomputable def zjC (C:Addr) (m:Str) (sp:Sp) (E:XK) (t:TA) (σ:St) (Q:VK) (x:V) (H:Hp):Prop:=∃a dx fs,x=.ref a/\H a=some (.ins C dx fs)/\fs.lookup m=none/\t σ H λvs H2=>sp (x :: (vs++[])) H2 Q E
def zsn{ta:TE}{t:TA}(q:ta σ H (zjC C m sp E t σ Q)):zmY C m sp [] E ta t σ H Q:=q
def zlV{t:TA}(h:H a=some (.ins C dx fs))(l:fs.lookup m=none)(q:t σ H λvs H2=>sp (.ref a :: vs) H2 Q E):zjC C m sp E t σ Q (.ref a) H:=by
 refine⟨a,dx,fs,rfl,h,l,?_⟩;simp only[List.append_nil];exact q
noncomputable def zmu (C:Addr) (sp:Sp) (E:XK) (Q:VK) (vs:List V) (H1:Hp):Prop:=∀x dx,H1 x=none->H1 dx=none->dx≠x->sp (.ref x :: (vs++[])) (upd (upd H1 dx (.own x)) x (.ins C dx [])) (λv H2=>v=.non/\Q (.ref x) H2) E
def zsV{t:TA}(q:t σ H (zmu C sp E Q)):zqe C sp [] E t σ H Q:=q
def zfX(q:∀x dx H',H x=none->Same H H'->H' x=some (.ins C dx [])->sp (.ref x :: vs) H' (λv H2=>v=.non/\Q (.ref x) H2) E):zmu C sp E Q vs H:=λx dx a hd ne=>by
 rw[List.append_nil];exact q x dx _ a ((Same.new hd _).trans (Same.new (by rw[zN ne.symm];exact a) _)) zQ
end
def zlH:Src (Itt K a) (λH=>SqT K H a xs) xs.length (λi x _=>xs[i]?=some x):=
 ⟨λi H h hi=>by obtain⟨x,b⟩:=zP hi;exact⟨xs,x,h,b⟩,λH h=>⟨xs,h,yg _⟩,λi H x H' h hi ⟨q,r⟩=>by subst q;exact⟨Same.refl _,r xs h⟩⟩
noncomputable def zsH (K:Fg) (R:It->Hp->Prop) (x:V) (H:Hp):Prop:=∃a,x=.ref a/\(∃xs,SqT K H a xs)/\R (Itt K a) H
def zub{R:It->Hp->Prop}(q:tl σ H (zsH K R)):zpE K tl σ H R:=q
def zs8{R:It->Hp->Prop}(h:SqT K H a xs)(q:R (Itt K a) H):zsH K R (.ref a) H:=⟨a,rfl,⟨xs,h⟩,q⟩
def zts(h:H a=some (.tup xs))(b:¬(HT.sIx xs.length 0 lo=0/\HT.sIx xs.length xs.length hi=xs.length))(q:∀p H',H p=none->Same H H'->H' p=some (.tup (zcH xs lo hi))->Q (.ref p) H'):zic K (.ref a) lo hi H Q:=
 ⟨a,xs,rfl,.of h,b,λp hp=>q p _ hp (Same.new hp _) zQ⟩
def znw(h:H a=some (.tup xs))(h':H b=some (.tup ys))(d:xs≠[])(e:ys≠[])(c:xs.length+ys.length<=100000)(q:∀p H',H p=none->Same H H'->H' p=some (.tup (xs++ys))->Q (.ref p) H'):zg1 K (.ref a) (.ref b) H Q:=
 .inr (.inr ⟨a,b,xs,ys,rfl,rfl,.of h,.of h',d,zbD c,λz=>absurd z e,λ_ p hp=>q p _ hp (Same.new hp _) zQ⟩)
def zuj{y:Str}(q:Q (.bl (decide (x=y))) H):zex K (.str x) (.str y) H Q:=.inr ⟨rfl,by rw[show decide (V.str x=V.str y)=decide (x=y) by simp];exact q⟩
def ztR{y:Str}(q:Q (.bl (!decide (x=y))) H):zfe K (.str x) (.str y) H Q:=.inr ⟨rfl,by rw[show decide (V.str x=V.str y)=decide (x=y) by simp];exact q⟩
end Internal
namespace My
noncomputable def mn (i j:Int):Int:=if j<i then j else i
noncomputable def lvS (b:Nat->Int) (L:Int) (n:Nat):Int:=sumTo (λi=>mn (b i) L) n
structure IsLev(c:Int)(n:Nat)(b:Nat->Int)(L:Int):Prop where
 lo:lvS b L n<=c
 hi:c<lvS b (L+1) n
noncomputable def lev (c:Int) (n:Nat) (b:Nat->Int):Int:=Classical.epsilon λL=>IsLev c n b L
noncomputable def levelF (c:Int) (n:Nat) (b:Nat->Int):Nat->Int:=
 if c=sumTo b n then b else more (λi=>decide (b i>lev c n b)) (λi=>mn (b i) (lev c n b)) (c-lvS b (lev c n b) n)
noncomputable def zsf:List Int->Int
 | []=>0
 | x :: xs=>x+zsf xs
end My
namespace Internal
variable {C T a b d f l:Addr}{E:XK}{H H' H1 H2:Hp}{K:Fg}{L:Nat->Int}{N ps ws:List Str}{Q:VK}{X:Cx}{c:Int}{fd:FuncData}{i k m n:Nat}{ms:List Int}{o:HO}{q r:Rat}{qual x:Str}{sp:Sp}{st:Stmt}{tg:Expr}{tl:TE}{v:V}{xs:List V}{σ:St}
open PySem PySem.Spec PyProof.Rows
section
variable {H:Hp}{Q:VK}{K:Fg}
theorem zfT{w:Str}:∀ws:List Str,inV (.str w) (ws.map V.str)=decide (w∈ws)
 | []=>by simp[inV]
 | n :: ns=>by
  have a:=zfT (w:=w) ns;unfold inV at a ⊢;rw[List.map_cons,List.any_cons,a]
  show((n == w) || _)=_
  by_cases h:n=w
  ·subst h;simp
  ·have:¬w=n:=λz=>h z.symm
   simp[h,this]
theorem zdU:∀ws:List Str,(ws.map V.str).all zcQ=true
 | []=>rfl
 | w :: ws=>by rw[List.map_cons,List.all_cons,zdU ws];rfl
def zqK{w:Str}(h:SqT K H a (ws.map V.str))(q:Q (.bl (decide (w∈ws))) H):rIn K false (.str w) (.ref a) H Q:=
 ⟨a,_,rfl,.inr h,rfl,zdU ws,by rw[if_neg yp,zfT];exact q⟩
def zj9{w:Str}(h:SqT K H a (ws.map V.str))(q:Q (.bl (!decide (w∈ws))) H):rIn K true (.str w) (.ref a) H Q:=
 ⟨a,_,rfl,.inr h,rfl,zdU ws,by rw[if_pos rfl,zfT];exact q⟩
def ztx{w:Str}(h:SqL K H a (ws.map V.str))(q:Q (.bl (decide (w∈ws))) H):rIn K false (.str w) (.ref a) H Q:=
 ⟨a,_,rfl,.inl h,rfl,zdU ws,by rw[if_neg yp,zfT];exact q⟩
end
def zjX:zcH xs none (some (k:Int))=xs.take k:=by
 unfold zcH;have e:HT.sIx xs.length xs.length (some (k:Int))=min k xs.length:=by
  show(if(k:Int)<0 then((k:Int)+(xs.length:Int)).toNat else min (k:Int).toNat xs.length)=_
  rw[if_neg ⋯];rfl
 rw[e,HT.sIx_none,List.drop_zero,Nat.sub_zero];exact List.take_eq_take_min.symm
def zrE(h:(ws.map V.str)[i]?=some v):∃w,ws[i]?=some w/\v=.str w:=by
 rw[yf]at h;cases hw:ws[i]? with
 | none=>rw[hw]at h;cases h
 | some w=>rw[hw]at h;exact⟨w,rfl,(yk h).symm⟩
def zpi{w:Str}(nd:ws.Nodup)(h:ws[i]?=some w):w∉ws.take i:=λd=>by
 obtain⟨hi,b⟩:=yi.mp h;obtain⟨j,c,a⟩:=List.getElem_of_mem d;rw[List.length_take]at c;rw[List.getElem_take]at a;exact List.pairwise_iff_getElem.mp nd j i ⋯ hi ⋯ (a.trans b.symm)
noncomputable def words5:List Str:=["pledge", "share", "own", "others", "level"]
def zrx{b:Nat->Int}{x:Int}(h:x∈vec n b):∃i,i<n/\x=b i:=by
 obtain⟨i,hi,e⟩:=List.mem_map.mp h;exact⟨i,List.mem_range.mp hi,e.symm⟩
noncomputable def zoL (S:Nat->Int) (W:Nat->Bool):Nat->Int:=λi=>if W i=true then S i else 0
noncomputable def ztJ (n:Nat) (R S:Nat->Int) (W:Nat->Bool):Int:=My.mn (My.sumTo (zoL S W) n) (My.sumTo R n)
noncomputable def zp6 (w:Str) (n:Nat) (R P S:Nat->Int) (W:Nat->Bool):Nat->Int:=
 if w = "pledge" then λi=>My.mn (R i) (P i)else if w = "share" then λi=>My.mn (R i) (S i)else if w = "own" then λ_=>0
 else if w = "others" then zc0 (ztJ n R S W) n (zoL S W)else My.levelF (ztJ n R S W) n (zoL S W)
noncomputable def ztA (w:Str) (n:Nat) (R:Nat->Int) (own:Int):Int:=if w = "own" then My.mn own (My.sumTo R n)else 0
noncomputable def zuL (w:Str) (n:Nat) (R P S:Nat->Int) (own:Int) (W:Nat->Bool):Nat->Int:=
 if w = "pledge" \/ w = "share" then zp6 w n R P S W else zc0 (My.sumTo (zp6 w n R P S W) n+ztA w n R own) n R
noncomputable def zrc (K:Fg):Sp:=λvs H Q _=>∃(a o:Addr) (n:Nat) (A B:Nat->Int) (ns:List Int),vs=[.ref a,.ref o]/\SqL K H a ((vec n A).map V.int)/\SqL K H o (ns.map V.int)/\n<=100/\(∀i,i<n->ns[i]?=some (B i))/\zcJ H Q (vec n λi=>A i-B i)
structure LRow where
 w:Str
 f:Nat->Int
 x:Int
 gv:Nat->Int
noncomputable def zpm (n:Nat) (G P:Nat->Int) (own:Int) (w:Str) (R S:Nat->Int):LRow:=⟨w,zp6 w n R P S (λi=>decide (G i=0)),ztA w n R own,zuL w n R P S own (λi=>decide (G i=0))⟩
noncomputable def zuf (r:LRow) (R:Nat->Int):Nat->Int:=λi=>R i-r.gv i
noncomputable def zuo (r:LRow) (S:Nat->Int):Nat->Int:=if r.w∈(["share", "others", "level"]:List Str)then λi=>S i-r.f i else S
noncomputable def lays (n:Nat) (G P:Nat->Int) (own:Int) (ws:List Str) (a:Nat->Int):Nat->(Nat->Int) × (Nat->Int)
 | 0=>(G,a)
 | i+1=>(zuf (zpm n G P own (ws.getD i "") (lays n G P own ws a i).1 (lays n G P own ws a i).2) (lays n G P own ws a i).1,zuo (zpm n G P own (ws.getD i "") (lays n G P own ws a i).1 (lays n G P own ws a i).2) (lays n G P own ws a i).2)
noncomputable def LRs (H:Hp) (n:Nat) (row:Nat->LRow) (tr:List (Addr × Addr × Addr)):Prop:=∀(i:Nat) (t:Addr × Addr × Addr),tr[i]?=some t ->
 H t.1=some (.tup [.str (row i).w,.ref t.2.1,.ref t.2.2])/\H t.2.1=some (.lst ((vec n (row i).gv).map V.int))/\H t.2.2=some (.lst ((vec n (row i).f++[(row i).x]).map V.int))
def LRs.same{row:Nat->LRow}{tr:List (Addr × Addr × Addr)}(h:LRs H n row tr)(e:Same H H'):LRs H' n row tr:=λi t a=>⟨e.at (h i t a).1,e.at (h i t a).2.1,e.at (h i t a).2.2⟩
structure LT(H:Hp)(n:Nat)(row:Nat->LRow)(rests:Nat->Int)(m:Nat)(p rs re:Addr)(tr:List (Addr × Addr × Addr)):Prop where
 hp:H p=some (.tup [.ref rs,.ref re])
 hrs:H rs=some (.lst (tr.map λt=>V.ref t.1))
 hre:H re=some (.lst ((vec n rests).map V.int))
 len:tr.length=m
 rows:LRs H n row tr
structure Line(L:Nat->Int)(n:Nat)(q:List Nat):Prop where
 perm:q.Perm (List.range n)
 up:∀a b,a<=b->b<n->-L (q.getD a 0)*64+(q.getD a 0:Int)<=-L (q.getD b 0)*64+(q.getD b 0:Int)
section
variable {L:Nat->Int}{n:Nat}{q:List Nat}
def Line.len(h:Line L n q):q.length=n:=by have:=h.perm.length_eq;rwa [List.length_range]at this
def Line.lt(h:Line L n q)(hi:i∈q):i<n:=List.mem_range.mp (h.perm.mem_iff.mp hi)
def Line.getLt(h:Line L n q)(b:0<n)(a:Nat):q.getD a 0<n:=by
 rw[yn];cases e:q[a]? with
 | none=>exact b
 | some i=>exact h.lt (ym e)
end
def zr6{q:List Nat}(h:i<q.length):(zc9 q)[i]?=some ((q.getD i 0:Nat):Int):=by
 unfold zc9;rw[yf,yn,List.getElem?_eq_getElem h];rfl
def zn6{q:List Nat}:(zc9 q).take k=zc9 (q.take k):=by unfold zc9;rw[List.map_take]
def zm5:zcH (ms.map V.int) none (some (k:Int))=(ms.take k).map V.int:=by rw[zjX,List.map_take]
def zux{ta:TA}{tb:TE}{j:Nat}{lpos:Pos}{d:Str}{Q:VK} (h:ta σ H λvs H1=>Tb H1 T lpos d/\∃(r:Addr) (n:Nat) (u:V) (g:Nat->Int),vs=[.ref r]/\H1 r=some (.rng 0 (n:Int))/\1<=n/\n<2/\σ[j]?=some (some u) /\
 (∀(i:Nat) H2,i<n->SameT H1 H2->tb [some (.int (i:Int)),some u] H2 (λv c=>∃t,v=.ref t/\Same H2 c/\c t=some (.tup [.int (g i),.int (i:Int)]))) /\
 ∀l (p:List Nat) c,H1 l=none->SameT H1 c->Tb c T lpos d->p.Perm (List.range n)->(∀a b,a<=b->b<n->g (p.getD a 0)*64+(p.getD a 0:Int)<=g (p.getD b 0)*64+(p.getD b 0:Int))->c l=some (.lst (p.map λi:Nat=>V.int (i:Int)))->Q (.ref l) c):tSK ta tb j T lpos d σ H Q:=h
noncomputable def zh3 (K:Fg) (lP:Pos) (lQ:Str):Sp:=λvs H Q _=>∃(p l:Addr) (as:List Addr) (k:Nat) (f:Nat->Int) (F:Nat->Nat->Int) (m n:Int),vs=[.ref p,.ref l,.int n]/\H p=some (.lst ((vec k f).map V.int))/\H l=some (.lst (as.map V.ref))/\Rows H as k F/\Within m k f/\zea m as.length k F/\m<=999999999999/\k<=1000/\1<=as.length/\as.length<2/\0<=n/\TbW K "worst_days" lP lQ H /\
 ∀r H' q,H r=none->SameT H H'->TbW K "worst_days" lP lQ H'->Line (λi=>za0 k f (F i)) as.length q->H' r=some (.lst ((zc9 (q.take n.toNat)).map V.int))->Q (.ref r) H'
def zm4:=λ{K:Fg} {lP:Pos} {lQ:Str} {p l:Addr} {as:List Addr} {k:Nat} {f:Nat->Int} {F:Nat->Nat->Int} {m n:Int} {H:Hp} {Q:VK} {E:XK} h1 h2 h3 h4 h5 hm hk hl hl' hn hT q=>@id (zh3 K lP lQ [.ref p,.ref l,.int n] H Q E) ⟨p,l,as,k,f,F,m,n,rfl,h1,h2,h3,h4,h5,hm,hk,hl,hl',hn,hT,q⟩
noncomputable def lsum (g:Nat->Int):List Nat->Int
 | []=>0
 | d :: S=>g d+lsum g S
theorem zkf{g:Nat->Int}:∀{S M:List Nat},lsum g (S++M)=lsum g S+lsum g M
 | [],M=>by show lsum g M=0+_;lia
 | d :: S,M=>by show g d+lsum g (S++M)=g d+lsum g S+_;rw[zkf];lia
theorem zh8{f g:Nat->Int}:∀{S:List Nat},(∀d∈S,f d<=g d)->lsum f S<=lsum g S
 | [],_=>Int.le_refl _
 | d :: S,h=>by
  have h1:=h d (.head _);have h2:=zh8 (S:=S) λx a=>h x (.tail _ a);show f d+_<=g d+_;lia
theorem zew{v:Int}:∀{S:List Nat},lsum (λ_=>v) S=(S.length:Int)*v
 | []=>by rw[List.length_nil];show(0:Int)=(0:Int)*v;rw[Int.zero_mul]
 | d :: S=>by
  show v+lsum _ S=((S.length+1:Nat):Int)*v;rw[zew,Int.natCast_add,Int.add_mul];show v+_=_+1*v;lia
section
variable {L:Nat->Int}{n:Nat}{q:List Nat}
theorem ziV(L:Nat->Int)(q:List Nat):∀k,k<=q.length->lsum L (q.take k)=My.sumTo (λi=>L (q.getD i 0)) k
 | 0,_=>by rw[List.take_zero];rfl
 | k+1,h=>by
  rw[List.take_succ,zkf,ziV L q k ⋯,List.getElem?_eq_getElem ⋯];show _+(L q[k]+0)=_+L (q.getD k 0);rw[yn,List.getElem?_eq_getElem ⋯];show _+(L q[k]+0)=_+L q[k];lia
end
noncomputable def zda (m:Bool) (L:Nat->Int) (q:List Nat) (k:Nat):Rat:=if m then Rat.divInt (lsum L (q.take k)) (k:Int) else((L (q.getD (k-1) 0):Int):Rat)
noncomputable def pos0 (r:Rat):Rat:=if 0<r then r else 0
section
variable {L L1 Internal':Nat->Int}{n k:Nat}{q q1 q2:List Nat}
def Line.ltT(h:Line L n q):∀d∈q.take k,d<n:=λd hd=>h.lt (List.mem_of_mem_take hd)
def Line.lenT(h:Line L n q)(a:k<=n):(q.take k).length=k:=by rw[List.length_take,h.len];lia
end
section
variable {X:Cx}{tg:Expr}
end
def zgC{r:Nat}:∀(ds:List Due),(∀d∈ds,0<=d.a/\d.a<=1000000000000)->0<=zK ds m r/\zK ds m r<=1000000000000*(ds.length:Int):=by
 intro ds
 suffices h:∀t,t<=ds.length->(∀d∈ds,0<=d.a/\d.a<=1000000000000)->0<=zK (ds.take t) m r/\zK (ds.take t) m r<=1000000000000*(t:Int) by
  intro hd
  have:=h ds.length (yg _) hd
  rwa [List.take_length]at this
 intro t
 induction t with
 | zero=>intro _ _;exact⟨Int.le_refl 0,Int.le_refl 0⟩
 | succ t ih=>
  intro c hd;obtain⟨d,b⟩:=zP (show t<ds.length by lia);have h1:=ih ⋯ hd;have h2:=hd d (ym b);rw[zak b,zgW];split<;>lia
noncomputable def zbj (f:Nat->Int):Nat->Int
 | 0=>0
 | r+1=>zbj f r+f r
noncomputable def zbx (f:Nat->Int) (q:Rat) (r:Nat):Prop:=q.num<zbj f (r+1)*(q.den:Int)
instance (f:Nat->Int) (q:Rat) (r:Nat):Decidable (zbx f q r):=inferInstanceAs (Decidable (_<_))
noncomputable def zaN (f:Nat->Int) (q:Rat):Nat->Option Nat
 | 0=>none
 | k+1=>match zaN f q k with
  | some r=>some r
  | none=>if zbx f q k then some k else none
theorem zhm{f:Nat->Int}{q:Rat}{k r:Nat}(h:zaN f q k=some r):∀j,zaN f q (k+j)=some r
 | 0=>h
 | j+1=>by show(match zaN f q (k+j)with | some r=>some r | none=>_)=_;rw[zhm h j]
theorem zlB{f:Nat->Int}(a:∀j,j<3->0<=f j/\f j<=100000000000000):∀i,i<=3->0<=zbj f i/\zbj f i<=100000000000000*(i:Int)
 | 0,_=>⟨Int.le_refl 0,Int.le_refl 0⟩
 | i+1,h=>by
  have h1:=zlB a i ⋯;have h2:=a i ⋯;show 0<=zbj f i+f i/\zbj f i+f i<=_;lia
theorem zlO(f:Nat->Int):∀n,zah (vec n f)=zbj f n
 | 0=>rfl
 | n+1=>by rw[zav,zch,zlO f n];rfl
def ziB{w:Nat->Option Nat}:zar (n+1) w=zar n w++[zbM (w n)]:=by unfold zar;rw[List.range_succ,yj];rfl
def zr3{i:Int}(a:-1000000000000000<=i)(h1:i<=1000000000000000):SzQ ((i:Int):Rat) 60000 60000:=
 ⟨ya (sz200 (by show _<i;lia) (by show i<_;lia)) (by decide),ya (sz200 (i:=1) (by decide) (by decide)) (by decide)⟩
def under_int{f:Nat->Int}{r:Nat}:q<((zbj f (r+1):Int):Rat)↔zbx f q r:=by
 rw[Rat.lt_iff];show q.num*1<_↔_;rw[Int.mul_one];exact Iff.rfl
noncomputable def zgi (K:Fg):Sp:=λvs H Q _=>∃(l y:Addr) (f:Nat->Int) (q:Rat),vs=[.ref l,.ref y]/\H l=some (.lst ((vec 3 f).map V.int))/\(∀j,j<3->0<=f j/\f j<=100000000000000)/\IsQ H y q/\SzQ q 60000 60000/\∀H',Same H H'->Q (zbM (zaN f q 3)) H'
def zl7:=λ{K:Fg} {l y:Addr} {f:Nat->Int} {q:Rat} {H:Hp} {Q:VK} {E:XK} hl hf hy hs k=>@id (zgi K [.ref l,.ref y] H Q E) ⟨l,y,f,q,rfl,hl,hf,hy,hs,k⟩
abbrev znY(ds:List Due)(qs:List Rat):List V:=zar qs.length λm=>zaN (zK ds m) (qs.getD m 0) 3
noncomputable def zq6 (K:Fg):Sp:=λvs H Q _=>∃(a y:Addr) (ds:List Due) (ws:List V) (qs:List Rat),vs=[.ref a,.ref y]/\IsSh K H a ds/\(∀d∈ds,zaM qs.length d/\d.a<=1000000000000)/\ds.length<=64/\H y=some (.lst ws)/\IsQs H ws qs/\qs.length<=9/\(∀q∈qs,SzQ q 60000 60000)/\∀p H',H p=none->Same H H'->H' p=some (.lst (znY ds qs))->Q (.ref p) H'
noncomputable def za3 (f:Nat->Int) (q:Rat):Nat->Rat
 | 0=>q
 | r+1=>za3 f q r-(if((f r:Int):Rat)<za3 f q r then((f r:Int):Rat)else za3 f q r)
noncomputable def zbr (f:Nat->Int) (q:Rat) (r:Nat):Rat:=if((f r:Int):Rat)<za3 f q r then((f r:Int):Rat)else za3 f q r
noncomputable def za2 (f:Nat->Int) (q:Rat) (r:Nat):Rat:=if 0<f r then zbr f q r/((f r:Int):Rat)else 0
def zmr(f:Nat->Int)(q:Rat)(r:Nat):za3 f q (r+1)=za3 f q r-zbr f q r:=rfl
section
variable {f:Nat->Int}{q:Rat}
end
noncomputable def za6 (ds:List Due) (qs:List Rat) (d:Due):Rat:=((d.a:Int):Rat)*za2 (zK ds d.p.toNat) (qs.getD d.p.toNat 0) d.r.toNat
def SzQ.sub{a b:Rat}(h1:SzQ a n n)(h2:SzQ b n n):SzQ (a-b) (n+n+1) (n+n):=by
 rw[Rat.sub_eq_add_neg];exact h1.add h2.neg (yg _) (yg _) (yg _)
def zcg{i:Int}(a:0<=i)(h1:i<=100000000000000):SzQ ((i:Int):Rat) 60 60:=by
 refine⟨zW ?_,zW ?_⟩
 ·show i.natAbs<2 ^ 60;lia
 ·show(1:Int).natAbs<2 ^ 60
  decide
def zfK{f:Nat->Int}{r:Nat}(h:SzQ (za3 f q r) n n)(a:60<=n)(b:0<=f r)(h1:f r<=100000000000000):SzQ (zbr f q r) n n:=by
 unfold zbr;split
 ·exact(zcg b h1).mono a a
 ·exact h
def zlD{f:Nat->Int}(e:SzQ q 200 200)(a:∀j,j<3->0<=f j/\f j<=100000000000000){r:Nat}(g:r<3):SzQ (za3 f q r) 803 803:=by
 have b:SzQ (za3 f q 0) 200 200:=e;have c:SzQ (za3 f q 1) 401 401:=(b.sub (zfK b (by decide) (a 0 ⋯).1 (a 0 ⋯).2)).mono (by decide) (by decide);have d:SzQ (za3 f q 2) 803 803:=(c.sub (zfK c (by decide) (a 1 ⋯).1 (a 1 ⋯).2)).mono (by decide) (by decide);obtain rfl | rfl | rfl:r=0\/r=1\/r=2:=by lia
 ·exact b.mono (by decide) (by decide)
 ·exact c.mono (by decide) (by decide)
 ·exact d
def znr{f:Nat->Int}(c:SzQ q 200 200)(a:∀j,j<3->0<=f j/\f j<=100000000000000){r:Nat}(b:r<3):SzQ (za2 f q r) 900 900:=by
 unfold za2;split
 ·rename_i d;rw[Rat.div_def];have h1:=zcg (a r b).1 (a r b).2;have h2:=h1.inv (by show f r≠0;lia);exact((zfK (zlD c a b) (by decide) (a r b).1 (a r b).2).mul h2 (yg _) (yg _)).mono (by decide) (by decide)
 ·exact zev (by decide)
def zn1(h1:IsQ H a q)(h2:IsQ H b r)(e:SzQ q n n)(d:SzQ r n n)(k:∀c,IsQ H c (if r<q then r else q)->Q (.ref c) H):zfL n [.ref a,.ref b] H Q E:=by
 refine ziW h1 h2 e d ?_;by_cases h:r<q
 ·rw[if_pos h];exact k b (by rw[if_pos h];exact h2)
 ·rw[if_neg h];exact k a (by rw[if_neg h];exact h1)
noncomputable def ziu:Sp:=λvs H Q _=>∃(a b:Addr) (q r:Rat),vs=[.ref a,.ref b]/\IsQ H a q/\IsQ H b r/\OkQ q/\SzQ r 8999 8999/\r.num≠0/\NewQ H Q (q/r)
def ziD:=λ{a b:Addr} {q r:Rat} {H:Hp} {Q:VK} {E:XK} h1 h2 s1 s2 h0 k=>@id (ziu [.ref a,.ref b] H Q E) ⟨a,b,q,r,rfl,h1,h2,s1,s2,h0,k⟩
noncomputable def zfr (K:Fg):Sp:=λvs H Q _=>∃(l y:Addr) (f:Nat->Int) (q:Rat),vs=[.ref l,.ref y]/\H l=some (.lst ((vec 3 f).map V.int))/\(∀j,j<3->0<=f j/\f j<=100000000000000)/\IsQ H y q/\SzQ q 200 200/\∀p H' vs,H p=none->Same H H'->H' p=some (.lst vs)->IsQs H' vs ((List.range 3).map (za2 f q))->Q (.ref p) H'
def zkR:=λ{K:Fg} {l y:Addr} {f:Nat->Int} {q:Rat} {H:Hp} {Q:VK} {E:XK} hl hf hy hs k=>@id (zfr K [.ref l,.ref y] H Q E) ⟨l,y,f,q,rfl,hl,hf,hy,hs,k⟩
noncomputable def zio (K:Fg):Sp:=λvs H Q _=>∃(a y:Addr) (ds:List Due) (ws:List V) (qs:List Rat),vs=[.ref a,.ref y]/\IsSh K H a ds/\H y=some (.lst ws)/\IsQs H ws qs/\(∀d∈ds,zaM qs.length d/\d.a<=1000000000000)/\ds.length<=64/\qs.length<=9/\(∀q∈qs,SzQ q 200 200)/\∀p H' vs,H p=none->Same H H'->H' p=some (.lst vs)->IsQs H' vs (ds.map (za6 ds qs))->Q (.ref p) H'
def zog:=λ{K:Fg} {a y:Addr} {ds:List Due} {ws:List V} {qs:List Rat} {H:Hp} {Q:VK} {E:XK} h hy hq hd hl h9 hs k=>@id (zio K [.ref a,.ref y] H Q E) ⟨a,y,ds,ws,qs,rfl,h,hy,hq,hd,hl,h9,hs,k⟩
section
variable {ds:List Due}{qs:List Rat}
end
theorem zkt{m:Int}{f g:Nat->Int}(b:m<=999999999999):∀{k:Nat},Within m k f->Within m k g->-((k:Int)*1000000000000000000000000)<=za0 k f g/\za0 k f g<=(k:Int)*1000000000000000000000000
 | 0,_,_=>by
  show -((0:Int)*_)<=0/\(0:Int)<=(0:Int)*_;lia
 | k+1,h1,h2=>by
  have d:=zkt b (k:=k) (λj a=>h1 j ⋯) (λj a=>h2 j ⋯);obtain⟨a1,a2⟩:=h1 k ⋯;obtain⟨b1,b2⟩:=h2 k ⋯;have c:(f k*g k).natAbs<=1000000000000*1000000000000:=by
   rw[Int.natAbs_mul];exact Nat.mul_le_mul ⋯ ⋯
  rw[zhd];generalize f k*g k=y at *
  lia
def zrK{B:Int}{S:List Nat}(h:∀d∈S,-B<=L d/\L d<=B):-((S.length:Int)*B)<=lsum L S/\lsum L S<=(S.length:Int)*B:=by
 have h1:=zh8 (f:=L) (g:=λ_=>B) (S:=S) λd hd=>(h d hd).2;have h2:=zh8 (f:=λ_=>-B) (g:=L) (S:=S) λd hd=>(h d hd).1;rw[zew]at h1 h2;rw[Int.mul_neg]at h2;exact⟨h2,h1⟩
def ztn{mn:Bool}{q:List Nat}(h:Line L n q)(e:0<k)(a:k<=n)(f:n<64)(b:∀d,d<n->-9000000000000000000000000<=L d/\L d<=9000000000000000000000000):SzQ (zda mn L q k) 100 10:=by
 unfold zda;cases mn
 ·rw[if_neg (by decide)]
  have:=b _ (h.getLt ⋯ (k-1))
  exact⟨zW (by show(L (q.getD (k-1) 0)).natAbs<2 ^ 100;lia),zW (by show(1:Int).natAbs<2 ^ 10;decide)⟩
 ·rw[if_pos rfl];have c:=zrK (S:=q.take k) λd hd=>b d (h.ltT d hd);rw[h.lenT a]at c;have h1:(k:Int)*9000000000000000000000000<=64*9000000000000000000000000:=Int.mul_le_mul_of_nonneg_right ⋯ (by decide);exact zck ⋯ (zW ⋯) (zW ⋯)
def zlm{a b:Nat}(h:SzQ r a b)(c:1<=b):SzQ (pos0 r) a b:=by
 unfold pos0;split
 ·exact h
 ·exact⟨zW (by show(0:Int).natAbs<_;exact Nat.two_pow_pos _),ya (zW (n:=1) (by show(1:Int).natAbs<2 ^ 1;decide)) c⟩
def nump:0<q.num↔0<q:=by
 constructor
 ·intro h;have h1:0<=q:=Rat.num_nonneg.mp (Int.le_of_lt h);have h2:q≠0:=λz=>by rw[z]at h;exact absurd h (by decide)
  grind
 ·intro h;have h1:0<=q.num:=Rat.num_nonneg.mpr (Rat.le_of_lt h);have h2:q.num≠0:=λz=>by rw[Rat.num_eq_zero.mp z]at h;exact absurd h (by decide)
  lia
noncomputable def zbE (w:Str) (c:Int) (n:Nat):Prop:=(w = "worst" \/ w = "mean")/\1<=c/\c<=n
noncomputable def zj8 (K:Fg) (C:Addr):Sp:=λvs H Q E=>∃(ru l:Addr) (w:Str) (c:Int) (xs:List V),vs=[.ref ru,.ref l]/\H ru=some (.tup [.str w,.int c])/\H l=some (.lst xs)/\(zbE w c xs.length->∀H',Same H H'->Q .non H')/\(¬zbE w c xs.length->∀H',Same H H'->E (.ref C) none H')
def zhE:=λ{K:Fg} {C ru l:Addr} {w:Str} {c:Int} {xs:List V} {H:Hp} {Q:VK} {E:XK} h1 h2 q1 q2=>@id (zj8 K C [.ref ru,.ref l] H Q E) ⟨ru,l,w,c,xs,rfl,h1,h2,q1,q2⟩
structure NeedIn(K:Fg)(lP:Pos)(lQ:Str)(H:Hp)(p l:Addr)(as:List Addr)(k:Nat)(f:Nat->Int)(F:Nat->Nat->Int)(m:Int):Prop where
 pos:H p=some (.lst ((vec k f).map V.int))
 mov:H l=some (.lst (as.map V.ref))
 rows:Rows H as k F
 w1:Within m k f
 w2:zea m as.length k F
 hm:m<=999999999999
 hk:k<=9
 n1:1<=as.length
 n2:as.length<2
 tb:TbW K "worst_days" lP lQ H
noncomputable def za4 (w:Str) (L:Nat->Int) (q:List Nat) (c:Int):Rat:=pos0 (zda (decide (w = "mean")) L q c.toNat)
noncomputable def zm9 (K:Fg) (C:Addr) (lP:Pos) (lQ:Str):Sp:=λvs H Q E=>∃(ru p l:Addr) (w:Str) (c:Int) (as:List Addr) (k:Nat) (f:Nat->Int) (F:Nat->Nat->Int) (m:Int),vs=[.ref ru,.ref p,.ref l]/\H ru=some (.tup [.str w,.int c])/\NeedIn K lP lQ H p l as k f F m /\
 (zbE w c as.length->∀r H' q,SameT H H'->TbW K "worst_days" lP lQ H'->Line (λi=>za0 k f (F i)) as.length q->IsQ H' r (za4 w (λi=>za0 k f (F i)) q c)->SzQ (za4 w (λi=>za0 k f (F i)) q c) 100 10->Q (.ref r) H') /\
 (¬zbE w c as.length->∀H',Same H H'->E (.ref C) none H')
def zky:=λ{K:Fg} {C:Addr} {lP:Pos} {lQ:Str} {ru p l:Addr} {w:Str} {c:Int} {as:List Addr} {k:Nat} {f:Nat->Int} {F:Nat->Nat->Int} {m:Int} {H:Hp} {Q:VK} {E:XK} h1 h2 h3 q=>@id (zm9 K C lP lQ [.ref ru,.ref p,.ref l] H Q E) ⟨ru,p,l,w,c,as,k,f,F,m,rfl,h1,h2,λ_=>q,λz=>absurd h3 z⟩
noncomputable def bfl (m w y:Int) (d:Addr):List (Str × V):=zZ "deals" (.ref d) (zZ "day" (.int y) (zZ "wares" (.int w) (zZ "many" (.int m) [])))
section
variable {m w y:Int}{d:Addr}
def zoG:(bfl m w y d).lookup ("deals" : Str)=some (.ref d):=by unfold bfl;rw[zk,if_pos rfl]
def zlf:(bfl m w y d).lookup ("day" : Str)=some (.int y):=by unfold bfl;rw[zk,if_neg (by decide +kernel),zk,if_pos rfl]
def zob:(bfl m w y d).lookup ("wares" : Str)=some (.int w):=by unfold bfl;rw[zk,if_neg (by decide +kernel),zk,if_neg (by decide +kernel),zk,if_pos rfl]
def zp9:(bfl m w y d).lookup ("many" : Str)=some (.int m):=by unfold bfl;rw[zk,if_neg (by decide +kernel),zk,if_neg (by decide +kernel),zk,if_neg (by decide +kernel),zk,if_pos rfl]
def zse{n:Str}(h1:¬n = "deals")(h2:¬n = "day")(b:¬n = "wares")(a:¬n = "many"):(bfl m w y d).lookup n=none:=by
 unfold bfl;rw[zk,if_neg h1,zk,if_neg h2,zk,if_neg b,zk,if_neg a];rfl
end
structure T7 where
 p:Int
 q:Int
 w:Int
 u:Int
 a:Int
 y:Int
 r:Int
variable {ts:List (T7 × Str)}
noncomputable def zg9 (t:T7):List V:=[.int t.p,.int t.q,.int t.w,.int t.u,.int t.a,.int t.y,.int t.r]
noncomputable def zbP (x:T7 × Str):List V:=zg9 x.1++[.str x.2]
noncomputable def ButL (d:Addr) (H H':Hp):Prop:=(∀b o,b≠d->H b=some o->H' b=some o)/\∃xs,H d=some (.lst xs)
def ButL.at(g:ButL d H H')(h:H a=some o)(n:a≠d):H' a=some o:=g.1 a o n h
def ButL.of(h:H d=some (.lst xs))(e:Same H H1)(g:LBut d H1 H2):ButL d H H2:=⟨λb o n q=>g.1.at (e b o q) n,xs,h⟩
structure Bk(C:Addr)(H:Hp)(b d:Addr)(m w y:Int)(ts:List (T7 × Str)):Prop where
 ob:∃dx,H b=some (.ins C dx (bfl m w y d))
 ds:∃xs,H d=some (.lst xs)/\IsTs zbP H xs ts
section
variable {C:Addr}{H H':Hp}{b d:Addr}{m w y:Int}{ts:List (T7 × Str)}
theorem Bk.same(h:Bk C H b d m w y ts)(e:Same H H'):Bk C H' b d m w y ts:=by
 obtain⟨⟨dx,h1⟩,xs,h2,a⟩:=h;exact⟨⟨dx,e.at h1⟩,xs,e.at h2,a.same e⟩
theorem LBut.ins{l:Addr}(g:LBut l H H'){a C dx:Addr}{fs:List (Str × V)}(h:H a=some (.ins C dx fs)):H' a=some (.ins C dx fs):=by
 obtain⟨ys,e⟩:=g.2;exact g.1.at h (zV h e (by intro z;cases z))
def Bk.but(h:Bk C H b d m w y ts)(g:LBut l H H')(n:d≠l):Bk C H' b d m w y ts:=by
 obtain⟨⟨dx,h1⟩,xs,h2,a⟩:=h;exact⟨⟨dx,g.ins h1⟩,xs,g.lst h2 n,LBut.isTs g a⟩
theorem Bk.app{H1 H2:Hp}{t:T7 × Str}{a:Addr}{xs:List V}(h:Bk C H b d m w y ts)(i:H d=some (.lst xs))(e:Same H H1)(k:H1 a=some (.tup (zbP t)))(g:LBut d H1 H2)(h2:H2 d=some (.lst (xs++[.ref a]))):Bk C H2 b d m w y (ts++[t]):=by
 obtain⟨⟨dx,h1⟩,ys,c,j⟩:=h;rw[i]at c;cases c;exact⟨⟨dx,g.ins (e.at h1)⟩,_,h2,IsTs.app (f:=zbP) (g.tup k) (LBut.isTs g (j.same e))⟩
end
noncomputable def zq9 (C:Addr):Sp:=λvs H Q _=>∃(p dx:Addr) (m w:Int),vs=[.ref p,.int m,.int w]/\H p=some (.ins C dx [])/\∀d H',H d=none->(∀b o,b≠p->H b=some o->H' b=some o)->H' p=some (.ins C dx (bfl m w 0 d))->H' d=some (.lst [])->Q .non H'
noncomputable def zrI (C CE:Addr):Sp:=λvs H Q E=>∃(b dx d:Addr) (m w y n:Int) (xs:List V),vs=[.ref b,.int n]/\H b=some (.ins C dx (bfl m w y d))/\H d=some (.lst xs)/\((0<=n/\∃v,xs[n.toNat]?=some v/\Q v H)\/(¬(0<=n/\n<xs.length)/\E (.ref CE) none H))
noncomputable def zl3 (C:Addr):Sp:=λvs H Q _=>∃(b dx d:Addr) (m w y:Int),vs=[.ref b]/\H b=some (.ins C dx (bfl m w y d))/\Q (.int y) H
section
variable {X:Cx}{pos:Pos}
end
section
variable {σ:St}{H:Hp}{D:Ends}{Eh:Addr->Hp->Prop}{Eg:Addr->St->Hp->Prop}
end
noncomputable def ztV (K:Fg) (f:Str) (tv:TE) (c:V->V->Hp->VK->Prop) (σ:St) (R:Hp->Prop) (x:V) (H1:Hp):Prop:=∃a C dx fs v,x=.ref a/\H1 a=some (.ins C dx fs)/\Cls K C/\NoAttr K C f/\fs.lookup f=some v /\
 tv σ H1 λy H2=>c v y H2 λz b=>∃dx' fs',b a=some (.ins C dx' fs')/\fs'.length<1000/\R (upd b a (.ins C dx' (zZ f z fs')))
def zsI{f:Str}{ta tv:TE}{a:V->V->Hp->VK->Prop}{D:Ends}(q:ta σ H (ztV K f tv a σ (D.nx σ))):zec K ta tv a f D σ H:=q
section
variable {X:Cx}
end
noncomputable def OkO (ws:List Str):Prop:=(∀w∈ws,w∈words5)/\ws.Nodup
noncomputable def znO (K:Fg) (C:Addr):Sp:=λvs H Q E=>∃(o:Addr) (ws:List Str),vs=[.ref o]/\SqL K H o (ws.map V.str)/\ws.length<=100/\((OkO ws/\∀H',Same H H'->Q .non H')\/(¬OkO ws/\∀H',Same H H'->E (.ref C) none H'))
def zp0{w:Str}(h:OkO ws)(c:w∈words5)(g:w∉ws):OkO (ws++[w]):=⟨λu f=>by
 rcases List.mem_append.mp f with q | q
 ·exact h.1 u q
 ·rw[yh.mp q];exact c,List.nodup_append.mpr ⟨h.2,by simp,λa i b d e=>by
 rw[yh.mp d]at e;exact g (e▸i)⟩⟩
def zlA{p q:Prop}[Decidable p][Decidable q]{α:Type}{a b:α}(h:p↔q):(if p then a else b)=if q then a else b:=by
 by_cases hp:p
 ·rw[if_pos hp,if_pos (h.mp hp)]
 ·rw[if_neg hp,if_neg λz=>hp (h.mpr z)]
noncomputable def t7 (f:Nat->Int):T7:=⟨f 0,f 1,f 2,f 3,f 4,f 5,f 6⟩
noncomputable def zeF (m p q:Int):Prop:=(0<=p/\p<m)/\(0<=q/\q<m)/\p≠q
instance (m p q:Int):Decidable (zeF m p q):=inferInstanceAs (Decidable (_/\_))
noncomputable def zdl (w:Int) (t:T7):Prop:=(0<=t.w/\t.w<w)/\(1<=t.u/\t.u<=1000000)/\(1<=t.a/\t.a<=1000000000)/\(0<=t.y/\t.y<=1000000)/\(0<=t.r/\t.r<=2)
instance (w:Int) (t:T7):Decidable (zdl w t):=inferInstanceAs (Decidable (_/\_))
noncomputable def zcf (m w y:Int) (t:T7):Nat:=if ¬zeF m t.p t.q then 1 else if ¬zdl w t then 2 else if t.y<y then 3 else 0
theorem IsTs.set{α:Type}{f:α->List V}{H:Hp}{a:Addr}{x:α}(b:H a=some (.tup (f x))):∀{vs:List V} {xs:List α} (n:Nat),IsTs f H vs xs->IsTs f H (vs.set n (.ref a)) (xs.set n x)
 | [],[],_,_=>trivial
 | _ :: _,_ :: _,0,⟨_,h2⟩=>⟨⟨a,rfl,b⟩,h2⟩
 | _ :: _,_ :: _,n+1,⟨h1,h2⟩=>⟨h1,IsTs.set b n h2⟩
def zkF(m w y:Int)(d:Addr):bfl m w y d=[(("many" : Str),V.int m),(("wares" : Str),V.int w),(("day" : Str),V.int y),(("deals" : Str),V.ref d)]:=by
 have h1:¬(("many" : Str) = "wares"):=by decide +kernel
 have h2:¬(("many" : Str) = "day"):=by decide +kernel
 have b:¬(("wares" : Str) = "day"):=by decide +kernel
 have e:¬(("many" : Str) = "deals"):=by decide +kernel
 have a:¬(("wares" : Str) = "deals"):=by decide +kernel
 have c:¬(("day" : Str) = "deals"):=by decide +kernel
 unfold bfl;simp only[zZ,if_neg h1,if_neg h2,if_neg b,if_neg e,if_neg a,if_neg c]
def zr8(m w y z:Int)(d:Addr):zZ "day" (.int z) (bfl m w y d)=bfl m w z d:=by
 have h2:¬(("many" : Str) = "day"):=by decide +kernel
 have a:¬(("wares" : Str) = "day"):=by decide +kernel
 rw[zkF,zkF];simp only[zZ,if_neg h2,if_neg a,if_pos]
def zrA(m w y:Int)(d:Addr):(bfl m w y d).length<1000:=by rw[zkF];show 4<1000;decide
noncomputable def znW (C a:Addr):Sp:=λvs H Q E=>∃(b dx d:Addr) (m w y p q:Int),vs=[.ref b,.int p,.int q]/\H b=some (.ins C dx (bfl m w y d))/\((zeF m p q/\∀H',Same H H'->Q .non H')\/(¬zeF m p q/\∀H',Same H H'->E (.ref a) none H'))
noncomputable def zm6 (C c e:Addr):Sp:=λvs H Q E=>∃(b dx d:Addr) (m w y:Int) (t:T7),vs=[.ref b,.int t.w,.int t.u,.int t.a,.int t.y,.int t.r]/\H b=some (.ins C dx (bfl m w y d))/\((zdl w t/\y<=t.y/\Q .non H)\/(¬zdl w t/\E (.ref c) none H)\/(zdl w t/\t.y<y/\E (.ref e) none H))
noncomputable def zn8 (C f c e:Addr):Sp:=λvs H Q E=>∃(b dx d:Addr) (m w y:Int) (t:T7) (xs:List V),vs=.ref b :: zg9 t/\H b=some (.ins C dx (bfl m w y d))/\H d=some (.lst xs)/\xs.length<=1000 /\
 ((zcf m w y t=0/\∀a H1 H2,Same H H1->H1 a=some (.tup (zbP (t,("standing" : Str))))->LBut d H1 H2->H2 d=some (.lst (xs++[.ref a]))->Q (.int xs.length) H2) \/
  (zcf m w y t=1/\∀H',Same H H'->E (.ref f) none H')\/(zcf m w y t=2/\∀H',Same H H'->E (.ref c) none H')\/(zcf m w y t=3/\∀H',Same H H'->E (.ref e) none H'))
noncomputable def zdj (s:Str) (ts:List (T7 × Str)) (S:List Int):List (T7 × Str):=(List.range ts.length).map λi:Nat=>if(i:Int)∈S then((ts.getD i (⟨0,0,0,0,0,0,0⟩, "")).1,s)else ts.getD i (⟨0,0,0,0,0,0,0⟩, "")
def zbH{s:Str}{S:List Int}:(zdj s ts S).length=ts.length:=by unfold zdj;rw[yc,List.length_range]
def zcY{s:Str}{S:List Int}{t:T7 × Str}(h:ts[i]?=some t):(zdj s ts S)[i]?=some (if(i:Int)∈S then(t.1,s)else t):=by
 have hi:=(yi.mp h).1;unfold zdj;rw[yf,List.getElem?_range hi];have a:ts.getD i (⟨0,0,0,0,0,0,0⟩, "")=t:=by rw[yn,h];rfl
 show some (if(i:Int)∈S then((ts.getD i (⟨0,0,0,0,0,0,0⟩, "")).1,s)else ts.getD i (⟨0,0,0,0,0,0,0⟩, ""))=_;rw[a]
def zif{α:Type}{xs ys:List α}(c:xs.length=ys.length)(h:∀(i:Nat) (x y:α),xs[i]?=some x->ys[i]?=some y->x=y):xs=ys:=by
 apply List.ext_getElem?;intro i;by_cases hi:i<xs.length
 ·obtain⟨x,a⟩:=zP hi;obtain⟨y,b⟩:=zP (show i<ys.length by lia);rw[a,b,h i x y a b]
 ·rw[List.getElem?_eq_none ⋯,List.getElem?_eq_none ⋯]
def zne{s:Str}:zdj s ts []=ts:=zif zbH λi x y a b=>by
 rw[zcY b]at a;rw[if_neg (by simp)]at a;exact(yk a).symm
def znS{s:Str}{S:List Int}{t:T7 × Str}(h:ts[n]?=some t):(zdj s ts S).set n (t.1,s)=zdj s ts (S++[(n:Int)]):=by
 refine zif (by rw[List.length_set,zbH,zbH]) λi x y c a=>?_;have hi:i<ts.length:=by have:=(yi.mp a).1;rwa [zbH]at this
 obtain⟨u,d⟩:=zP hi;rw[zcY d]at a;by_cases e:i=n
 ·subst e;rw[List.getElem?_set_self (by rw[zbH];exact hi)]at c;rw[h]at d;cases d;rw[if_pos (by simp)]at a;exact(yk c).symm.trans (yk a)
 ·rw[List.getElem?_set_ne (λz=>e z.symm),zcY d]at c;have b:((i:Int)∈S++[(n:Int)])↔(i:Int)∈S:=by
   rw[List.mem_append,yh];exact⟨λh=>h.elim id λz=>absurd z ⋯,.inl⟩
  rw[show(if(i:Int)∈S++[(n:Int)] then(u.1,s)else u)=if(i:Int)∈S then(u.1,s)else u from zlA b]at a;exact(yk c).symm.trans (yk a)
noncomputable def zaF (P:T7 × Str->Bool) (ts:List (T7 × Str)):Nat->List Int
 | 0=>[]
 | n+1=>zaF P ts n++(match ts[n]? with | some t=>if P t then[(n:Int)] else[] | none=>[])
def zdN{P:T7 × Str->Bool}{t:T7 × Str}(h:ts[n]?=some t):zaF P ts (n+1)=zaF P ts n++if P t then[(n:Int)] else[]:=by
 show zaF P ts n++_=_;rw[h]
theorem zeN{P:T7 × Str->Bool}{ts:List (T7 × Str)}{x:Int}:∀{n:Nat},n<=ts.length->(x∈zaF P ts n↔∃(i:Nat) (t:T7 × Str),i<n/\x=(i:Int)/\ts[i]?=some t/\P t=true)
 | 0,_=>by
  constructor
  ·intro h;cases h
  ·rintro⟨i,t,h,_⟩;lia
 | n+1,hn=>by
  obtain⟨t,b⟩:=zP (show n<ts.length by lia);rw[zdN b,List.mem_append,zeN ⋯];constructor
  ·rintro(⟨i,u,h1,h2,a⟩ | h)
   ·exact⟨i,u,⋯,h2,a⟩
   ·by_cases hp:P t=true
    ·rw[if_pos hp,yh]at h;exact⟨n,t,⋯,h,b,hp⟩
    ·rw[if_neg hp]at h;cases h
  ·rintro⟨i,u,h1,h2,a,c⟩
   by_cases e:i=n
   ·subst e;rw[b]at a;cases a;exact .inr (by rw[if_pos c,yh];exact h2)
   ·exact .inl ⟨i,u,⋯,h2,a,c⟩
theorem zgv{P:T7 × Str->Bool}{ts:List (T7 × Str)}:∀n,(zaF P ts n).length<=n
 | 0=>yg _
 | n+1=>by
  have:=zgv (P:=P) (ts:=ts) n
  show(zaF P ts n++_).length<=_
  rw[ye];have h2:(match ts[n]? with | some t=>if P t then[(n:Int)] else[] | none=>[]).length<=1:=by
   split
   ·split<;>simp
   ·simp
  lia
noncomputable def zaE (y:Int) (t:T7 × Str):Bool:=decide (t.2 = "standing")&&decide (t.1.y=y)
noncomputable def zd6 (y:Int) (t:T7 × Str):T7 × Str:=if zaE y t then(t.1, "settled")else t
def zpk{y:Int}:zdj "settled" ts (zaF (zaE y) ts ts.length)=ts.map (zd6 y):=by
 refine zif (by rw[zbH,yc]) λi a b e g=>?_;have hi:i<ts.length:=by have:=(yi.mp e).1;rwa [zbH]at this
 obtain⟨t,d⟩:=zP hi;rw[zcY d]at e;rw[yf,d]at g;have c:((i:Int)∈zaF (zaE y) ts ts.length)↔zaE y t=true:=by
  rw[zeN (yg _)];constructor
  ·rintro⟨j,u,h1,h2,f,k⟩
   obtain rfl:i=j:=by lia
   rw[d]at f;cases f;exact k
  ·exact λh=>⟨i,t,hi,rfl,d,h⟩
 rw[show(if(i:Int)∈zaF (zaE y) ts ts.length then(t.1,("settled" : Str))else t)=zd6 y t from zlA c]at e;exact(yk e).symm.trans (yk g)
noncomputable def zma (C:Addr):Sp:=λvs H Q _=>∃(b d:Addr) (m w y n:Int) (s:Str) (ts:List (T7 × Str)) (t:T7 × Str),vs=[.ref b,.int n,.str s]/\Bk C H b d m w y ts/\0<=n/\ts[n.toNat]?=some t/\∀H',Bk C H' b d m w y (ts.set n.toNat (t.1,s))->ButL d H H'->Q .non H'
noncomputable def zq3 (C:Addr):Sp:=λvs H Q _=>∃(b d:Addr) (m w y:Int) (ts:List (T7 × Str)),vs=[.ref b]/\Bk C H b d m w y ts/\ts.length<=1000/\∀p H',Bk C H' b d m w (y+1) (ts.map (zd6 y))->(∀c o,c≠d->c≠b->H c=some o->H' c=some o)->H' p=some (.lst ((zaF (zaE y) ts ts.length).map V.int))->Q (.ref p) H'
noncomputable def onP (y:Int) (t:T7 × Str):Bool:=decide (t.1.y=y)&&decide (¬t.2 = "broken")
noncomputable def zld (C:Addr):Sp:=λvs H Q _=>∃(b d:Addr) (m w y z:Int) (ts:List (T7 × Str)),vs=[.ref b,.int z]/\Bk C H b d m w y ts/\ts.length<=1000/\∀p H',H p=none->Same H H'->H' p=some (.lst ((zaF (onP z) ts ts.length).map V.int))->Q (.ref p) H'
section
variable {H H':Hp}{as:List Addr}{ts:List (T7 × Str)}
end
def zjQ(h:H a=some (.lst xs))(q:∀p H',H p=none->Same H H'->H' p=some (.tup xs)->Q (.ref p) H'):zgy K [.ref a] H Q:=⟨a,xs,rfl,.inl ⟨.of h,λl b=>q l _ b (Same.new b _) zQ⟩⟩
structure RoomH(k:Nat)(A:Around):Prop where
 dp:A.depth+3*k+5<recursionLimit
 un:A.units+16*k+200<cLine
theorem RoomH.deeper{k:Nat}{A:Around}(r:RoomH (k+1) A)(env:Env):RoomH k (A.deeper env):=
 ⟨by have:=r.dp;show A.depth+1+3*k+5<_;lia,by have:=r.un;show A.units+3+16*k+200<_;lia⟩
theorem RoomH.depth{k:Nat}{A:Around}(r:RoomH k A):A.depth<recursionLimit:=by have:=r.dp;lia
theorem Room.mark{k:Nat}{A:Around}(r:Room k A)(h:Option Value):RoomH k (A.mark h):=⟨r.dp,r.un⟩
abbrev Cx.toH(X:Cx)(A:Around):Cx:={ X with A:=A,calm:=false,xe:=λ_ _=>False }
theorem Inv.toH{X:Cx}{pins:List (Addr × Obj)}{σ:St}{H:Hp}{s:Shared}(I:Inv X pins σ H s)(A:Around)(a:A.frames=some X.stack):Inv (X.toH A) pins σ H s:=
 ⟨⟨I.ok.mod,I.ok.kind,I.ok.glob,I.ok.blt,I.ok.above,I.ok.inj,I.ok.has,I.ok.cab,λz=>(by cases z),a,I.ok.stk,I.ok.exf,I.ok.bs,I.ok.bsz,I.ok.noex,I.ok.exfs,I.ok.funs,I.ok.frf⟩,I.os,I.bare,I.base,I.loc,I.cell,I.free,I.freeC,I.pin,I.hok,I.len⟩
structure FnOkH(P:Program)(w:World)(K:Fg)(mg:Str->Option Value)(base:Heap)(k:Nat)(f:Addr)(fd:FuncData)(ps:List Str)(sp:Sp):Prop where
 len:∀vs H Q E,sp vs H Q E->vs.length=ps.length
 run:∀(A:Around) (outer:List Env) (s:Shared) (H:Hp) (args:Args) (us:List Value) (vs:List V) (Q:VK) (E:XK),RoomH k A->Env0 P w K mg base A outer s H->BindsTo s fd args (ps.zip us)->Vals vs us->sp vs H Q E ->
  codeAny (model P w) A (.call (.ref f) args) (CR (λ_ _ _ _ _ _=>False) outer P w H s Q E) s
abbrev cxH(P:Program)(w:World)(K:Fg)(mg:Str->Option Value)(base:Heap)(N:List Str)(qual:Str)(scope:Scope)(f:Addr)(cd:Value)(A:Around)(outer:List Env)(s:Shared)(H:Hp)(E:XK):Cx:=
 (zay (CXF P w) P w K mg base N qual scope f cd A outer s H E).toH (A.deeper (envOfC qual scope s.heap.objs.size f cd))
def Fun.okH{P:Program}{w:World}{mg:Str->Option Value}{base:Heap}{k:Nat}(F:Fun K x qual st f fd)(S:FnScope N ps (zj st))(len:∀vs H Q E,sp vs H Q E->vs.length=ps.length)
  (hbody:∀(a:Value) (A:Around) (outer:List Env) (s:Shared) (H:Hp) (vs:List V) (Q:VK) (E:XK),RoomH k (A.deeper (envOfC qual (zj st) s.heap.objs.size f a))->sp vs H Q E ->
   ∃t,PSs (cxH P w K mg base N qual (zj st) f a A outer s H E) (zbb st) t/\t { nx:=λ_ H'=>Q .non H',rt:=Q } (start N vs) H):FnOkH P w K mg base (k+1) f fd ps sp:=by
 obtain⟨Z,od,kV,L,pm,an,a,ct,T,rfl,R,z⟩:=F.ex;refine⟨len,λA outer s H args us vs Q E C c Y r h=>?_⟩;have X:=len _ _ _ _ h;have B:K.In s.heap:=c.mod.kin.keeps λb o e=>(c.bs b o e).1;have j:s.heap.NoLimit:=c.mod.nolimit.keeps λb o e=>(c.bs b o e).1;have d:∀y∈ps.zip us,(zj st).names.lookup y.1=some .local\/((zj st).names.lookup y.1=some .cell/\((cellsFrom (s.heap.objs.size+1) (zj st).names []).lookup y.1).isSome=true):=fun⟨n,v⟩ hy=>by
  rcases S.par n (List.of_mem_zip hy).1 with q | q
  ·exact .inl q
  ·exact .inr ⟨q,PySem.W.cellsFrom_some _ _ _ (.inl q)⟩
 refine codeAny_call_function C.depth (B _ _ R) rfl S.co S.gen rfl (PySem.W.codeRec_of B z) (Y _ _ _ _ ?_);refine wpAny_newFunctionEnv_cells S.kind d λenv O m x=>?_;subst O;refine⟨j.keeps x.toInCall.keep,codeAny_func ?_⟩;obtain⟨t,G,U⟩:=hbody a A outer s H vs Q E (C.deeper _) h;have l:Env0 P w K mg base { A with handled:=none } outer s H:=⟨c.frames,c.mod,c.bs,c.bsz,c.funs,c.frf,c.hok,c.bare⟩
 have D:Inv (zay (CXF P w) P w K mg base N qual (zj st) f a { A with handled:=none } outer s H E) [] (start N vs) H m:=ziP S rfl l X r x;have I:Inv (cxH P w K mg base N qual (zj st) f a A outer s H E) [] (start N vs) H m:=D.toH _ D.ok.frames;refine wpAny_mono (G [] m (start N vs) H _ I U) (λM s' g=>?_) λe s' g=>g.elim;have fin:∀{i:St} {H':Hp} {v:V} {u:Value},Inv (cxH P w K mg base N qual (zj st) f a A outer s H E) [] i H' s'->RelV v u->Q v H'->CE outer P w H s Q u s':=
  λ{i H' v u} J p q=>⟨v,H',J.os,J.bare,J.base,J.hok,p,q⟩
 cases M with
 | ret u=>
  obtain⟨v,i,H',J,p,q⟩:=g;exact fin J p q
 | next=>
  obtain⟨i,H',J,q⟩:=g;exact fin (v:=V.non) (u:=Value.none) J rfl q
 | brk=>
  obtain⟨_,_,_,q⟩:=g;exact False.elim q
 | cont=>
  obtain⟨_,_,_,q⟩:=g;exact False.elim q
def zpJ{E:XK}{p pos:Pos}{e:Expr}{es:List Expr}{t:TA}(F:FnOkH X.prog X.w X.K X.mg X.base k f fd ps sp)(i:RoomH k X.A)(m:Gl X x)(n:X.mg x=some (.ref f))(j:PySem.W.keepIn X.K (.ref f)=true)(l:Binds X.K fd ps [])
  (ha:PA X (e :: es) t) (hdb:autoParam ((x == ("__debug__" : Str))=false) Internal.aut1._auto_1) (he:autoParam (starEach (e :: es) X.env=(false,eval e X.env) :: starEach es X.env) Internal.aut2._auto_1) (hpl:autoParam ((backTo pos (starEach es X.env)).any (·.1)=false) Internal.aut2._auto_1) :
  PE X (.Call (.Name x p) (e :: es) [] pos) (zeI sp [] E t):=by
 intro pins s σ H Q I h;refine wpAny_Call_Name_kw (zcO I m n ?_ hdb);refine PySem.W.callWith_K (h₀:=X.base) I.ok.mod.kin j (thn (ha pos pins s σ H _ I h) λus d ⟨vs,H1,c,r,q⟩=>⟨c.kIn,?_⟩) he hpl;have q:sp (vs++[]) H1 Q E:=q;rw[List.append_nil]at q;have g:us.length=ps.length:=by rw[<- r.length];exact F.len _ _ _ _ q
 have b:=l d us c.kIn (by rw[List.append_nil];exact g);rw[List.append_nil]at b;refine wpAny_call (codeAny_mono (F.run X.A X.stack d H1 ⟨us,[]⟩ us vs Q E i c.env0 b r q) λres s' a=>?_);cases res with
 | error e=>exact False.elim a
 | ok fl=>
  cases fl with
  | ret u=>exact c.after a
  | next=>exact False.elim a
  | brk=>exact False.elim a
  | cont=>exact False.elim a
noncomputable def t0:T7 × Str:=(⟨0,0,0,0,0,0,0⟩, "")
def zqZ{t:T7 × Str}(h:ts[i]?=some t):ts.getD i t0=t:=by rw[yn,h];rfl
noncomputable def zjy (t:T7 × Str):Due:=⟨t.1.p,t.1.q,t.1.r,t.1.a⟩
noncomputable def zcU (ts:List (T7 × Str)) (ns:List Int):List (T7 × Str):=ns.map λn=>ts.getD n.toNat t0
noncomputable def zjH (z:Int) (ts:List (T7 × Str)):List Due:=(zcU ts (zaF (onP z) ts ts.length)).map zjy
noncomputable def znH (C:Addr):Sp:=λvs H Q _=>∃(b d:Addr) (m w y z:Int) (ts:List (T7 × Str)),vs=[.ref b,.int z]/\Bk C H b d m w y ts/\ts.length<=1000/\∀p H' vs,H p=none->Same H H'->H' p=some (.lst vs)->IsTs zdd H' vs (zjH z ts)->Q (.ref p) H'
open PySem PySem.W PySem.Spec PySem.Calls PyProof.Rows
section
variable {prog:Program}{w:World}{A:Around}{E:Value->Shared->Prop}
end
open PySem PySem.Spec PyProof.Rows
noncomputable def zcs (t:T7 × Str) (m:Int) (j:Nat):Int:=if t.2=("standing" : Str)/\t.1.w=(j:Int) then(if t.1.p=m then t.1.u else if t.1.q=m then -t.1.u else 0)else 0
noncomputable def zaR:List (T7 × Str)->Int->Nat->Int
 | [],_,_=>0
 | t :: ts,m,j=>zcs t m j+zaR ts m j
def zo4(ts us:List (T7 × Str))(m:Int)(j:Nat):zaR (ts++us) m j=zaR ts m j+zaR us m j:=by
 induction ts with
 | nil=>show zaR us m j=0+zaR us m j;lia
 | cons t ts ih=>show zcs t m j+zaR (ts++us) m j=zcs t m j+zaR ts m j+zaR us m j;rw[ih];lia
def znq{t:T7 × Str}(h:ts[i]?=some t)(m:Int)(j:Nat):zaR (ts.take (i+1)) m j=zaR (ts.take i) m j+zcs t m j:=by
 rw[List.take_succ,h,zo4];show _+(zcs t m j+0)=_;lia
def zqW{t:T7 × Str}(a:1<=t.1.u)(b:t.1.u<=1000000)(m:Int)(j:Nat):-1000000<=zcs t m j/\zcs t m j<=1000000:=by
 unfold zcs;split
 ·split
  ·lia
  ·split<;>lia
 ·lia
theorem zig:∀{ts:List (T7 × Str)},(∀t∈ts,1<=t.1.u/\t.1.u<=1000000)->∀(m:Int) (j:Nat),-((ts.length:Int)*1000000)<=zaR ts m j/\zaR ts m j<=(ts.length:Int)*1000000
 | [],_,m,j=>by show -(0*_)<=(0:Int)/\(0:Int)<=0*_;lia
 | t :: ts,h,m,j=>by
  have b:=zig (ts:=ts) (λt a=>h t (List.mem_cons_of_mem _ a)) m j;have h1:=h t List.mem_cons_self;have h2:=zqW h1.1 h1.2 m j;show -(((ts.length+1:Nat):Int)*1000000)<=zcs t m j+zaR ts m j/\zcs t m j+zaR ts m j<=((ts.length+1:Nat):Int)*1000000;lia
noncomputable def zl9 (C:Addr):Sp:=λvs H Q _=>∃(b d:Addr) (m y n:Int) (w:Nat) (ts:List (T7 × Str)),vs=[.ref b,.int n]/\Bk C H b d m (w:Int) y ts/\(∀t∈ts,0<=t.1.w/\t.1.w<(w:Int))/\w<=1000/\∀p H',H p=none->Same H H'->H' p=some (.lst ((vec w (zaR ts n)).map V.int))->Q (.ref p) H'
section
variable {ts:List (T7 × Str)}{m:Int}{i:Nat}
end
abbrev FE:=Int ⊕ List Int
noncomputable def feV (H:Hp) (v:V):FE->Prop
 | .inl n=>v=.int n
 | .inr ns=>∃a,v=.ref a/\H a=some (.tup (ns.map V.int))
noncomputable def Fls (H:Hp):List V->List FE->Prop
 | [],[]=>True
 | v :: vs,e :: es=>feV H v e/\Fls H vs es
 | _,_=>False
section
variable {H H':Hp}
end
noncomputable def e13:FE:=.inr [1,1,1]
noncomputable def zpQ (K:Fg) (tl:TE):TI:=λσ H R=>tl σ H λx H1=>∃a,x=.ref a/\(((∃xs,SqL K H1 a xs)/\R (Itl K a) H1)\/((∃xs,SqT K H1 a xs)/\R (Itt K a) H1))
def zsz{l:Expr}(k:PE X l tl):PI X tg l (zpQ X.K tl):=by
 intro pins s σ H R I h;refine thn (k pins s σ H _ I h) λv c g=>?_;obtain⟨x,H1,d,m,q1⟩:=g;obtain⟨a,e,q1⟩:=q1;subst e;cases m;rcases q1 with⟨⟨xs,hq⟩,q⟩ | ⟨⟨xs,hq⟩,q⟩
 ·obtain⟨its,j,p,i⟩:=d.list hq;refine wpAny_pyIter_list p.isList ?_;refine⟨c.heap.objs.size,[c.heap.objs.size],_,_,H1,rfl,d.kept (t':=c.toks) λb o e=>Heap.get?_push_of_some _ e,ziR a _,⟨_,Heap.get?_push_size _ rfl,rfl,rfl⟩,λb f=>?_,q⟩;have e:b=c.heap.objs.size:=by simpa using f
  subst e;exact d.fpOk (yg _) (d.hok.fresh (yg _))
 ·obtain⟨its,j,p,i⟩:=d.tuple hq;refine wpAny_pyIter_tuple (show c.heap.IsTuple a its.toArray from p) ?_;refine⟨c.heap.objs.size,[c.heap.objs.size],_,_,H1,rfl,d.kept (t':=c.toks) λb o e=>Heap.get?_push_of_some _ e,zgX a _,⟨_,Heap.get?_push_size _ rfl,rfl,rfl⟩,λb f=>?_,q⟩;have e:b=c.heap.objs.size:=by simpa using f
  subst e;exact d.fpOk (yg _) (d.hok.fresh (yg _))
def zqi{R:It->Hp->Prop}(q:tl σ H λx H1=>∃a,x=.ref a/\(((∃xs,SqL K H1 a xs)/\R (Itl K a) H1)\/((∃xs,SqT K H1 a xs)/\R (Itt K a) H1))):zpQ K tl σ H R:=q
structure HA where
 pu:Addr
 pl:Addr
 sh:Addr
 mv:Addr
 ru:Addr
 od:Addr
 bk:Addr
 ou:Addr
 re:Addr
noncomputable def hfl3 (pu pl sh:Addr):List (Str × V):=zZ "shares" (.ref sh) (zZ "pledges" (.ref pl) (zZ "purses" (.ref pu) []))
noncomputable def hfl (A:HA) (own:Int):List (Str × V):=zZ "reports" (.ref A.re) (zZ "outs" (.ref A.ou) (zZ "book" (.ref A.bk) (zZ "order" (.ref A.od) (zZ "rule" (.ref A.ru) (zZ "moves" (.ref A.mv) (zZ "kept" (.int own) (hfl3 A.pu A.pl A.sh)))))))
section
variable {A:HA}{own:Int}
def zkZ:(hfl A own).lookup ("reports" : Str)=some (.ref A.re):=by unfold hfl hfl3;rw[zk,if_pos rfl]
def zpF:(hfl A own).lookup ("outs" : Str)=some (.ref A.ou):=by unfold hfl hfl3;rw[zk,if_neg (by decide +kernel),zk,if_pos rfl]
def zpg:(hfl A own).lookup ("book" : Str)=some (.ref A.bk):=by unfold hfl hfl3;rw[zk,if_neg (by decide +kernel),zk,if_neg (by decide +kernel),zk,if_pos rfl]
def znf:(hfl A own).lookup ("order" : Str)=some (.ref A.od):=by unfold hfl hfl3;rw[zk,if_neg (by decide +kernel),zk,if_neg (by decide +kernel),zk,if_neg (by decide +kernel),zk,if_pos rfl]
def zpP:(hfl A own).lookup ("rule" : Str)=some (.ref A.ru):=by unfold hfl hfl3;rw[zk,if_neg (by decide +kernel),zk,if_neg (by decide +kernel),zk,if_neg (by decide +kernel),zk,if_neg (by decide +kernel),zk,if_pos rfl]
def zoq:(hfl A own).lookup ("moves" : Str)=some (.ref A.mv):=by unfold hfl hfl3;rw[zk,if_neg (by decide +kernel),zk,if_neg (by decide +kernel),zk,if_neg (by decide +kernel),zk,if_neg (by decide +kernel),zk,if_neg (by decide +kernel),zk,if_pos rfl]
def zgz:(hfl A own).lookup ("kept" : Str)=some (.int own):=by unfold hfl hfl3;rw[zk,if_neg (by decide +kernel),zk,if_neg (by decide +kernel),zk,if_neg (by decide +kernel),zk,if_neg (by decide +kernel),zk,if_neg (by decide +kernel),zk,if_neg (by decide +kernel),zk,if_pos rfl]
def zm1:(hfl A own).lookup ("shares" : Str)=some (.ref A.sh):=by unfold hfl hfl3;rw[zk,if_neg (by decide +kernel),zk,if_neg (by decide +kernel),zk,if_neg (by decide +kernel),zk,if_neg (by decide +kernel),zk,if_neg (by decide +kernel),zk,if_neg (by decide +kernel),zk,if_neg (by decide +kernel),zk,if_pos rfl]
def zk3:(hfl A own).lookup ("pledges" : Str)=some (.ref A.pl):=by unfold hfl hfl3;rw[zk,if_neg (by decide +kernel),zk,if_neg (by decide +kernel),zk,if_neg (by decide +kernel),zk,if_neg (by decide +kernel),zk,if_neg (by decide +kernel),zk,if_neg (by decide +kernel),zk,if_neg (by decide +kernel),zk,if_neg (by decide +kernel),zk,if_pos rfl]
def zme:(hfl A own).lookup ("purses" : Str)=some (.ref A.pu):=by unfold hfl hfl3;rw[zk,if_neg (by decide +kernel),zk,if_neg (by decide +kernel),zk,if_neg (by decide +kernel),zk,if_neg (by decide +kernel),zk,if_neg (by decide +kernel),zk,if_neg (by decide +kernel),zk,if_neg (by decide +kernel),zk,if_neg (by decide +kernel),zk,if_neg (by decide +kernel),zk,if_pos rfl]
noncomputable def hno (n:Str):Bool:=!decide (n = "reports")&&!decide (n = "outs")&&!decide (n = "book")&&!decide (n = "order")&&!decide (n = "rule")&&!decide (n = "moves")&&!decide (n = "kept")&&!decide (n = "shares")&&!decide (n = "pledges")&&!decide (n = "purses")
def ztv{n:Str}(h:hno n=true):(hfl A own).lookup n=none:=by
 unfold hno at h;simp only[Bool.and_eq_true,Bool.not_eq_true',decide_eq_false_iff_not]at h;obtain⟨⟨⟨⟨⟨⟨⟨⟨⟨h1,h2⟩,e⟩,i⟩,d⟩,g⟩,b⟩,c⟩,f⟩,a⟩:=h;unfold hfl hfl3;rw[zk,if_neg h1,zk,if_neg h2,zk,if_neg e,zk,if_neg i,zk,if_neg d,zk,if_neg g,zk,if_neg b,zk,if_neg c,zk,if_neg f,zk,if_neg a];rfl
def zrj:(hfl A own).length<=10:=by
 unfold hfl hfl3;exact ya (zt _ _ _) (yb (ya (zt _ _ _) (yb (ya (zt _ _ _) (yb (ya (zt _ _ _) (yb (ya (zt _ _ _) (yb (ya (zt _ _ _) (yb (ya (zt _ _ _) (yb (ya (zt _ _ _) (yb (ya (zt _ _ _) (yb (zt _ _ _))))))))))))))))))
end
noncomputable def NB (p:Addr) (H H':Hp):Prop:=∀b o,b≠p->H b=some o->H' b=some o
section
variable {p:Addr}{H H1 H2:Hp}
def NB.at(e:NB p H H1)(h:H a=some o)(n:a≠p):H1 a=some o:=e a o n h
def NB.trans(e:NB p H H1)(f:NB p H1 H2):NB p H H2:=λb o n h=>f b o n (e b o n h)
def Same.nb(e:Same H H1):NB p H H1:=λb o _ h=>e b o h
def But.nb(e:But p H H1):NB p H H1:=λb o n h=>e.at h n
def NB.no(e:NB p H H1){x:Addr}(h:H1 x=none)(n:x≠p):H x=none:=by
 cases z:H x with
 | none=>rfl
 | some o=>rw[e x o n z]at h;cases h
def NB.same{H0:Hp}(g:NB p H H1)(e:Same H0 H)(h:H0 p=none):Same H0 H1:=λb o q=>g b o (zE q h) (e b o q)
end
def Bk.sameT{m w y:Int}(h:Bk C H b d m w y ts)(e:SameT H H'):Bk C H' b d m w y ts:=by
 obtain⟨⟨dx,h1⟩,xs,h2,c⟩:=h;exact⟨⟨dx,e.ins h1⟩,xs,e.lst h2,IsTs.keep (λa ys z=>e.tup z) c⟩
structure HN(K:Fg)(CB:Addr)(lP:Pos)(lQ:Str)(H:Hp)(A:HA)(d:Addr)(m y:Int)(ts:List (T7 × Str))(bs:List Addr)(k:Nat)(F:Nat->Nat->Int)(w:Str)(c:Int):Prop where
 bk:Bk CB H A.bk d m (k:Int) y ts
 tok:∀t∈ts,0<=t.1.w/\t.1.w<(k:Int)
 tu:∀t∈ts,1<=t.1.u/\t.1.u<=1000000
 tl:ts.length<=1000
 ru:H A.ru=some (.tup [.str w,.int c])
 mv:H A.mv=some (.lst (bs.map V.ref))
 rows:Rows H bs k F
 fw:zea 1000000 bs.length k F
 ok:zbE w c bs.length
 k9:k<=9
 n64:bs.length<2
 tb:TbW K "worst_days" lP lQ H
section
variable {K:Fg}{CB:Addr}{lP:Pos}{lQ:Str}{H H':Hp}{A:HA}{d:Addr}{m y:Int}{ts:List (T7 × Str)}{bs:List Addr}{k:Nat}{F:Nat->Nat->Int}{w:Str}{c:Int}
theorem HN.sameT(h:HN K CB lP lQ H A d m y ts bs k F w c)(e:SameT H H')(t:TbW K "worst_days" lP lQ H'):HN K CB lP lQ H' A d m y ts bs k F w c:=
 ⟨h.bk.sameT e,h.tok,h.tu,h.tl,e.tup h.ru,e.lst h.mv,e.rows h.rows,h.fw,h.ok,h.k9,h.n64,t⟩
theorem HN.same(h:HN K CB lP lQ H A d m y ts bs k F w c)(e:Same H H'):HN K CB lP lQ H' A d m y ts bs k F w c:=h.sameT e.t (TbW.same e h.tb)
theorem HN.but{l:Addr}(h:HN K CB lP lQ H A d m y ts bs k F w c)(g:LBut l H H')(n1:d≠l)(n2:A.mv≠l)(n3:l∉bs):HN K CB lP lQ H' A d m y ts bs k F w c:=
 ⟨h.bk.but g n1,h.tok,h.tu,h.tl,g.tup h.ru,g.lst h.mv n2,h.rows.but g n3,h.fw,h.ok,h.k9,h.n64,TbW.but g h.tb⟩
end
noncomputable def zeE (ts:List (T7 × Str)) (m:Int) (k:Nat) (F:Nat->Nat->Int) (i:Nat):Int:=za0 k (zaR ts m) (F i)
noncomputable def zrH (K:Fg) (C CB:Addr) (lP:Pos) (lQ:Str):Sp:=λvs H Q _=>∃(h dx d:Addr) (A:HA) (own m y n:Int) (ts:List (T7 × Str)) (bs:List Addr) (k:Nat) (F:Nat->Nat->Int) (w:Str) (c:Int),vs=[.ref h,.int n]/\H h=some (.ins C dx (hfl A own))/\HN K CB lP lQ H A d m y ts bs k F w c /\
 ∀r H' q,SameT H H'->TbW K "worst_days" lP lQ H'->Line (zeE ts n k F) bs.length q->IsQ H' r (za4 w (zeE ts n k F) q c)->SzQ (za4 w (zeE ts n k F) q c) 100 10->Q (.ref r) H'
noncomputable def zo2 (C CB:Addr):Sp:=λvs H Q _=>∃(h dx d:Addr) (A:HA) (own m w y:Int) (ts:List (T7 × Str)),vs=[.ref h]/\H h=some (.ins C dx (hfl A own))/\Bk CB H A.bk d m w y ts/\Q (.int y) H
structure Stk(p:Addr)(H0 H:Hp)(l:List Addr):Prop where
 nb:NB p H0 H
 hp:H p≠none
 nd:l.Nodup
 ex:∀y∈l,H y≠none/\y≠p/\H0 y=none
section
variable {p:Addr}{H0 H H':Hp}{l:List Addr}
def NB.some(e:NB p H H'){y:Addr}(h:H y≠none)(n:y≠p):H' y≠none:=λz=>h (e.no z n)
def Stk.nil(h:H p≠none):Stk p H H []:=⟨λ_ _ _ h=>h,h,List.nodup_nil,λy a=>nomatch a⟩
def Stk.keep(s:Stk p H0 H l)(e:NB p H H')(hp:H' p≠none):Stk p H0 H' l:=⟨s.nb.trans e,hp,s.nd,λy a=>⟨e.some (s.ex y a).1 (s.ex y a).2.1,(s.ex y a).2⟩⟩
def Stk.same(s:Stk p H0 H l)(e:Same H H'):Stk p H0 H' l:=s.keep e.nb λz=>s.hp (Same.none z e)
def Stk.fresh(s:Stk p H0 H l){x:Addr}(h:H x=none):x≠p/\x∉l/\H0 x=none:=
 have hp:x≠p:=λz=>s.hp (z▸h)
 ⟨hp,λa=>(s.ex x a).1 h,s.nb.no h hp⟩
def Stk.new(s:Stk p H0 H l){x:Addr}(h:H x=none)(e:Same H H')(b:H' x≠none):Stk p H0 H' (x :: l):=by
 obtain⟨n1,n2,n3⟩:=s.fresh h;have s':=s.same e;refine⟨s'.nb,s'.hp,List.nodup_cons.mpr ⟨n2,s.nd⟩,λy a=>?_⟩;rcases List.mem_cons.mp a with rfl | a
 ·exact⟨b,n1,n3⟩
 ·exact s'.ex y a
def Stk.more(s:Stk p H0 H l){bs:List Addr}(h:∀b∈bs,H b=none)(nd:bs.Nodup)(e:Same H H')(d:∀b∈bs,H' b≠none):Stk p H0 H' (bs++l):=by
 have s':=s.same e;refine⟨s'.nb,s'.hp,List.nodup_append.mpr ⟨nd,s.nd,λa g b f z=>(s.fresh (h a g)).2.1 (z▸f)⟩,λy c=>?_⟩;rcases List.mem_append.mp c with c | c
 ·obtain⟨n1,n2,n3⟩:=s.fresh (h y c);exact⟨d y c,n1,n3⟩
 ·exact s'.ex y c
def zao(h:H a=some o):H a≠none:=λz=>by rw[h]at z;cases z
end
noncomputable def m3V (x:Int × Int × Int):List V:=[.int x.1,.int x.2.1,.int x.2.2]
structure HNew(CB p:Addr)(H H':Hp)(A:HA)(d:Addr)(bs:List Addr)(xs:List (Int × Int × Int))(k:Nat)(F:Nat->Nat->Int)(w:Str)(c:Int)(ws:List Str):Prop where
 pu:H' A.pu=some (.lst ((vec xs.length λi=>(xs.getD i (0,0,0)).1).map V.int))
 pl:H' A.pl=some (.lst ((vec xs.length λi=>(xs.getD i (0,0,0)).2.1).map V.int))
 sh:H' A.sh=some (.lst ((vec xs.length λi=>(xs.getD i (0,0,0)).2.2).map V.int))
 mv:H' A.mv=some (.lst (bs.map V.ref))
 rows:Rows H' bs k F
 ru:H' A.ru=some (.tup [.str w,.int c])
 od:H' A.od=some (.lst (ws.map V.str))
 bk:Bk CB H' A.bk d xs.length k 0 []
 ou:H' A.ou=some (.lst ((List.replicate xs.length false).map V.bl))
 re:H' A.re=some (.lst [])
 st:Stk p H H' (A.re :: A.ou :: d :: A.bk :: A.od :: A.ru :: (bs++[A.mv,A.sh,A.pl,A.pu]))
noncomputable def zqY (K:Fg) (C CB CR a:Addr):Sp:=λvs H Q E=>∃(p dx ms mo ru od:Addr) (us:List V) (xs:List (Int × Int × Int)) (as:List Addr) (k:Nat) (F:Nat->Nat->Int) (w:Str) (c:Int) (ws:List Str) (own:Int),
 vs=[.ref p,.ref ms,.ref mo,.ref ru,.ref od,.int own]/\H p=some (.ins C dx [])/\H ms=some (.lst us)/\IsTs m3V H us xs/\xs.length<=1000/\H mo=some (.lst (as.map V.ref))/\Rows H as k F/\1<=as.length/\as.length<=1000/\0<k/\k<=1000/\H ru=some (.tup [.str w,.int c])/\H od=some (.lst (ws.map V.str))/\ws.length<=100 /\
 (zbE w c as.length->OkO ws->∀A d bs H',NB p H H'->H' p=some (.ins C dx (hfl A own))->bs.length=as.length->HNew CB p H H' A d bs xs k F w c ws->Q .non H')/\(¬zbE w c as.length->∀H',Same H H'->E (.ref CR) none H')/\(zbE w c as.length->¬OkO ws->∀H',Same H H'->E (.ref a) none H')
noncomputable def mOk (n:Nat) (m:Int):Prop:=0<=m/\m<(n:Int)
noncomputable def tOk (c:Int):Prop:=0<=c/\c<=1000000000
structure HC(C:Addr)(H:Hp)(h:Addr)(A:HA)(own:Int)(n:Nat)(P L:Nat->Int):Prop where
 ob:∃dx,H h=some (.ins C dx (hfl A own))
 pu:H A.pu=some (.lst ((vec n P).map V.int))
 pl:H A.pl=some (.lst ((vec n L).map V.int))
 ne:A.pu≠A.pl
noncomputable def zj7 (f:Nat->Int) (m:Int) (c:Int):Nat->Int:=λi=>if i=m.toNat then f m.toNat+c else f i
noncomputable def zsp (C b a:Addr):Sp:=λvs H Q E=>∃(h:Addr) (A:HA) (own m c:Int) (n:Nat) (P L:Nat->Int),vs=[.ref h,.int m,.int c]/\HC C H h A own n P L/\(mOk n m->tOk c->Q .non H)/\(¬mOk n m->E (.ref b) none H)/\(mOk n m->¬tOk c->E (.ref a) none H)
noncomputable def zpV (a:Addr):Sp:=λvs H Q E=>∃x y:Int,vs=[.int x,.int y]/\(y<=x->Q .non H)/\(x<y->E (.ref a) none H)
noncomputable def znV (CB:Addr):Sp:=λvs H Q E=>∃(x:Int) (r:Addr) (q:Rat),vs=[.int x,.ref r]/\IsQ H r q/\SzQ q 60000 60000/\sz x<=60000/\(¬(x:Rat)<q->∀H',Same H H'->Q .non H')/\((x:Rat)<q->∀H',Same H H'->E (.ref CB) none H')
noncomputable def zr7 (K:Fg) (C CB:Addr) (lP:Pos) (lQ:Str) (b a e CR:Addr):Sp:=λvs H Q E=>∃(h d:Addr) (A:HA) (own m c mm y:Int) (n:Nat) (P L:Nat->Int) (ts:List (T7 × Str)) (bs:List Addr) (k:Nat) (F:Nat->Nat->Int) (w:Str) (cr:Int),vs=[.ref h,.int m,.int c]/\HC C H h A own n P L/\HN K CB lP lQ H A d mm y ts bs k F w cr/\(mOk n m->tOk c->sz (L m.toNat-c)<=60000) /\
 (mOk n m->tOk c->c<=L m.toNat->∀H1 q,SameT H H1->TbW K "worst_days" lP lQ H1->Line (zeE ts m k F) bs.length q->(((L m.toNat-c:Int):Rat)<za4 w (zeE ts m k F) q cr->E (.ref CR) none H1)/\(¬((L m.toNat-c:Int):Rat)<za4 w (zeE ts m k F) q cr->∀H2 H',LBut A.pl H1 H2->H2 A.pl=some (.lst ((vec n (zj7 L m (-c))).map V.int))->LBut A.pu H2 H'->H' A.pu=some (.lst ((vec n (zj7 P m c)).map V.int))->Q .non H')) /\
 (¬mOk n m->E (.ref b) none H)/\(mOk n m->¬tOk c->E (.ref a) none H)/\(mOk n m->tOk c->L m.toNat<c->E (.ref e) none H)
section
variable {κ:Type}[DecidableEq κ]
end
section
variable {P:Program}{w:World}{H:Hp}{h:Heap}{a:Addr}
end
section
variable {X:Cx}{pins:List (Addr × Obj)}{σ:St}{H:Hp}{s:Shared}{a:Addr}{y v:V}{u r:Value}{o:Option V}{A:Around}{E:Value->Shared->Prop}
end
section
variable {X:Cx}{pins:List (Addr × Obj)}{σ:St}{H:Hp}{s:Shared}{a:Addr}{kvs:List (Key × V)}{k:Key}{u:Value}{A:Around}{E:Value->Shared->Prop}
end
section
variable {X:Cx}{o i e value:Expr}{pos pos' tpos:Pos}{td ty tv:TE}
end
section
variable {X:Cx}{pos:Pos}
end
section
variable {X:Cx}{pins:List (Addr × Obj)}{σ:St}{H:Hp}{s:Shared}{a:Addr}{y d:V}{u r:Value}{o:Option V}{A:Around}{E:Value->Shared->Prop}
end
section
variable {X:Cx}{o e f:Expr}{apos cpos:Pos}{td ty tx:TE}
end
section
variable {X:Cx}{pins:List (Addr × Obj)}{σ:St}{H:Hp}{s:Shared}{a:Addr}{kvs:List (Key × V)}{A:Around}{E:Value->Shared->Prop}
end
section
variable {X:Cx}{pins:List (Addr × Obj)}{σ:St}{H:Hp}{s:Shared}{a:Addr}{y:V}{u:Value}{A:Around}{E:Value->Shared->Prop}
end
instance (n:Nat) (m:Int):Decidable (mOk n m):=inferInstanceAs (Decidable (_/\_))
instance (c:Int):Decidable (tOk c):=inferInstanceAs (Decidable (_/\_))
noncomputable def dK (wd:Str) (n:Nat) (P L:Nat->Int) (m c:Int):Nat:=if ¬mOk n m then 1 else if ¬tOk c then 2 else if(wd = "free" /\ L m.toNat<c)\/((wd = "take" \/ wd = "lay")/\P m.toNat<c)then 3 else 0
section
variable {wd:Str}{n:Nat}{P L:Nat->Int}{m c:Int}
end
structure HX where
 h:Addr
 ro:Addr
 d:Addr
 mr:Addr
 A:HA
 as:List Addr
 own:Int
 n:Nat
 S:Nat->Int
 zs:List (Addr × List V)
section
variable {K:Fg}{C CB:Addr}{lP:Pos}{lQ:Str}{H0:Hp}{X:HX}{H H':Hp}{P L P' L':Nat->Int}{R:Nat->Nat->Int}
end
noncomputable def HX.on (X:HX) (z:Addr) (xs:List V):HX:={ X with zs:=[(z,xs)] }
theorem zgU(g:Nat->Int):∀k,za0 k (λ_=>0) g=0
 | 0=>rfl
 | k+1=>by rw[zhd,zgU g k];lia
def zhJ{w:Str}{q:List Nat}(h:∀i,L i=0):za4 w L q c=0:=by
 have e:L=λ_=>0:=funext h;unfold za4 pos0;rw[if_neg];unfold zda;subst e;have h1:lsum (λ_=>0) (q.take c.toNat)=0:=by rw[zew];lia
 split
 ·rw[h1,Rat.zero_divInt];decide
 ·show ¬(0:Rat)<((0:Int):Rat);decide
def znn{m:Int}{F:Nat->Nat->Int}{w:Str}{q:List Nat}:za4 w (zeE [] m k F) q c=0:=zhJ λi=>zgU (F i) k
section
variable (K:Fg)(C CB:Addr)(lP:Pos)(lQ:Str)
end
def apart{re ou bk od ru mr mv sh pl pu:Addr}(nd:([re,ou,d,bk,od,ru]++([mr]++[mv,sh,pl,pu]):List Addr).Nodup):pu≠pl/\∀x∈[sh,d,mv,mr],x≠pu/\x≠pl:=by
 simp only[List.cons_append,List.nil_append,List.nodup_cons,List.mem_cons,List.not_mem_nil,or_false,not_or]at nd;obtain⟨_,_,hd,_,_,_,c,b,a,e,_⟩:=nd;refine⟨λz=>e z.symm,λx f=>?_⟩;simp only[List.mem_cons,List.not_mem_nil,or_false]at f;rcases f with rfl | rfl | rfl | rfl
 ·exact⟨a.2,a.1⟩
 ·obtain⟨_,_,_,_,_,_,h1,h2⟩:=hd;exact⟨h2,h1⟩
 ·exact⟨b.2.2,b.2.1⟩
 ·exact⟨c.2.2.2,c.2.2.1⟩
noncomputable def swp (t:T7 × Str) (z:Int):T7:=⟨t.1.q,t.1.p,t.1.w,t.1.u,t.1.a,z,t.1.r⟩
noncomputable def zjN (ts:List (T7 × Str)) (n:Int) (a u:Int) (j:Nat):Int:=if j=a.toNat then zaR ts n a.toNat+u else zaR ts n j
noncomputable def zbp (ts:List (T7 × Str)) (m a u:Int) (k:Nat) (F:Nat->Nat->Int) (i:Nat):Int:=za0 k (zjN ts m a u) (F i)
noncomputable def zqM (K:Fg) (C CB:Addr) (lP:Pos) (lQ:Str):Sp:=λvs H Q _=>∃(h dx d:Addr) (A:HA) (own m y n wa u:Int) (ts:List (T7 × Str)) (bs:List Addr) (k:Nat) (F:Nat->Nat->Int) (w:Str) (c:Int),vs=[.ref h,.int n,.int wa,.int u]/\H h=some (.ins C dx (hfl A own))/\HN K CB lP lQ H A d m y ts bs k F w c/\0<=wa/\wa<(k:Int)/\-1000000<=u/\u<=1000000 /\
 ∀r H' q,SameT H H'->TbW K "worst_days" lP lQ H'->Line (zbp ts n wa u k F) bs.length q->IsQ H' r (za4 w (zbp ts n wa u k F) q c)->SzQ (za4 w (zbp ts n wa u k F) q c) 100 10->Q (.ref r) H'
noncomputable def tab83 (K:Fg) (ds:List Addr) (q:Addr):Bool:=(ds.take 13).all λc=>errOk K c&&(PySem.W.exmOne K (.ref c) (.ref q) == some true)&&(PySem.W.kitOne K (.ref c) (.ref q) == some true)&&(PySem.W.kitOne K (.ref c) (.type "ValueError") == some true)&&ds.all λd=>PySem.W.kitOne K (.ref c) (.ref d) == some (decide (c=d))
def zgl{ds:List Addr}{q:Addr}(h:tab83 K ds q=true)(g:ds[n]?=some C)(f:n<13):(errOk K C=true/\PySem.W.exmOne K (.ref C) (.ref q)=some true/\PySem.W.kitOne K (.ref C) (.ref q)=some true/\PySem.W.kitOne K (.ref C) (.type "ValueError")=some true)/\∀d∈ds,PySem.W.kitOne K (.ref C) (.ref d)=some (decide (C=d)):=by
 have k:C∈ds.take 13:=ym (i:=n) (by rw[List.getElem?_take,if_pos f];exact g)
 have:=List.all_eq_true.mp h C k
 simp only[Bool.and_eq_true,beq_iff_eq]at this;obtain⟨⟨⟨⟨a,b⟩,c⟩,d⟩,e⟩:=this;exact⟨⟨a,b,c,d⟩,λx j=>beq_iff_eq.mp (List.all_eq_true.mp e x j)⟩
def zaG{ds:List Addr}{q:Addr}{j:Nat}(h:tab83 K ds q=true)(nd:ds.Nodup)(b:ds[n]?=some C)(c:n<13)(a:ds[j]?=some d):PySem.W.kitOne K (.ref C) (.ref d)=some (decide (j=n)):=by
 rw[(zgl h b c).2 d (ym a)];congr 1;by_cases e:j=n
 ·subst e;rw[b]at a;cases a;simp
 ·rw[decide_eq_false e];refine decide_eq_false λz=>e ?_;exact(List.getElem?_inj (yi.mp a).1 nd).mp (by rw[a,b,z])
noncomputable def zuy (H:Hp) (x:V) (b:Bool):Prop:=match x with
 | .int _=>b=false
 | .str _=>b=false
 | .ref a=>b=true/\∃xs,H a=some (.lst xs)\/H a=some (.tup xs)
 | _=>False
noncomputable def zqm (K:Fg):List V->Hp->VK->Prop:=λxs H Q=>∃x tp b,xs=[x,.ref tp]/\H tp=some (.tup [.ty "list",.ty "tuple"])/\zuy H x b /\
 PySem.W.kitAny K (.type "int") [.type "list",.type "tuple"]=some false/\PySem.W.kitAny K (.type "str") [.type "list",.type "tuple"]=some false /\
 PySem.W.kitAny K (.type "list") [.type "list",.type "tuple"]=some true/\PySem.W.kitAny K (.type "tuple") [.type "list",.type "tuple"]=some true/\Q (.bl b) H
def zod:CallR X (.builtin "isinstance") (zqm X.K):=by
 intro pins s σ H xs us Q I r h;obtain⟨x,tp,b,rfl,j,e,k1,k2,k3,k,q⟩:=h;obtain⟨u,D,rfl,f,r2⟩:=vals2 r;obtain rfl:D=Value.ref tp:=r2;obtain⟨_,us,A,p⟩:=(show ObjOk X.prog X.w H s.heap tp (.tup [.ty "list",.ty "tuple"])from I.hok tp _ j)
 obtain⟨o,h1,h2,n,m⟩:=p;obtain⟨C,l,rfl,e1,e2⟩:=vals2 A;obtain rfl:C=Value.type "list" := e1;obtain rfl:l=Value.type "tuple" := e2;obtain⟨c,dd,d,E⟩:=o;obtain rfl:c=Value.type "tuple" := h2;obtain rfl:d=.seq [Value.type "list",Value.type "tuple"].toArray n:=m;have fin:∀tk,∃v H',Inv X pins σ H' { s with toks:=tk }/\RelV v (.bool b)/\Q v H':=λtk=>⟨.bl b,H,I.tok tk,rfl,q⟩
 cases x with
 | int i=>
  obtain⟨t,rfl⟩:=(show ∃t,u=Value.int i t from f)
  obtain rfl:b=false:=e;exact PySem.W.kia_tup PySem.W.kitx_int I.kIn True.intro h1 k1 (λz=>nomatch z) fin
 | str y=>
  obtain⟨t,rfl⟩:=(show ∃t,u=Value.str y t from f)
  obtain rfl:b=false:=e;exact PySem.W.kia_tup PySem.W.kitx_str I.kIn True.intro h1 k2 (λz=>nomatch z) fin
 | ref a=>
  obtain rfl:u=Value.ref a:=f;obtain⟨rfl,xs,g | g⟩:=(show b=true/\∃xs,H a=some (.lst xs)\/H a=some (.tup xs)from e)
  ·obtain⟨_,_,n,_,g1⟩:=(show ObjOk X.prog X.w H s.heap a (.lst xs)from I.hok a _ g)
   exact PySem.W.kia_tup PySem.W.kitx_list I.kIn ⟨_,g1,rfl⟩ h1 k3 (λz=>nomatch z) fin
  ·obtain⟨_,_,_,p⟩:=(show ObjOk X.prog X.w H s.heap a (.tup xs)from I.hok a _ g)
   obtain⟨o,g1,B,_⟩:=p;exact PySem.W.kia_tup PySem.W.kitx_tuple I.kIn ⟨o,g1,B⟩ h1 k (λz=>nomatch z) fin
 | _=>exact e.elim
set_option genInjectivity true in
set_option genSizeOf true in
inductive Tr where
 | int (i:Int)
 | str (s:Str)
 | nod (l:Bool) (ts:List Tr)
mutual
inductive IsTr(H:Hp):V->Tr->Prop
 | int (i:Int):IsTr H (.int i) (.int i)
 | str (s:Str):IsTr H (.str s) (.str s)
 | lst {a:Addr} {xs:List V} {ts:List Tr} (e:H a=some (.lst xs)) (h:IsTrs H xs ts):IsTr H (.ref a) (.nod true ts)
 | tup {a:Addr} {xs:List V} {ts:List Tr} (e:H a=some (.tup xs)) (h:IsTrs H xs ts):IsTr H (.ref a) (.nod false ts)
inductive IsTrs(H:Hp):List V->List Tr->Prop
 | nil:IsTrs H [] []
 | cons {x:V} {xs:List V} {t:Tr} {ts:List Tr} (h:IsTr H x t) (r:IsTrs H xs ts):IsTrs H (x :: xs) (t :: ts)
end
mutual
inductive IsTp(H:Hp):V->Tr->Prop
 | int (i:Int):IsTp H (.int i) (.int i)
 | str (s:Str):IsTp H (.str s) (.str s)
 | nod {a:Addr} {l:Bool} {xs:List V} {ts:List Tr} (e:H a=some (.tup xs)) (h:IsTps H xs ts):IsTp H (.ref a) (.nod l ts)
inductive IsTps(H:Hp):List V->List Tr->Prop
 | nil:IsTps H [] []
 | cons {x:V} {xs:List V} {t:Tr} {ts:List Tr} (h:IsTp H x t) (r:IsTps H xs ts):IsTps H (x :: xs) (t :: ts)
end
mutual
theorem IsTp.keep{H H':Hp}(e:∀a xs,H a=some (.tup xs)->H' a=some (.tup xs)):∀{x:V} {t:Tr},IsTp H x t->IsTp H' x t
 | _,_,.int i=>.int i
 | _,_,.str s=>.str s
 | _,_,.nod a h=>.nod (e _ _ a) (IsTps.keep e h)
theorem IsTps.keep{H H':Hp}(e:∀a xs,H a=some (.tup xs)->H' a=some (.tup xs)):∀{xs:List V} {ts:List Tr},IsTps H xs ts->IsTps H' xs ts
 | _,_,.nil=>.nil
 | _,_,.cons h r=>.cons (IsTp.keep e h) (IsTps.keep e r)
end
theorem IsTps.snoc{H:Hp}{z:V}{u:Tr}(k:IsTp H z u):∀{xs:List V} {ts:List Tr},IsTps H xs ts->IsTps H (xs++[z]) (ts++[u])
 | _,_,.nil=>.cons k .nil
 | _,_,.cons h r=>.cons h (r.snoc k)
mutual
noncomputable def Tr.ok (d:Nat):Tr->Prop
 | .int _=>True
 | .str _=>True
 | .nod _ ts=>1<=d/\ts.length<=1000/\Tr.oks (d-1) ts
noncomputable def Tr.oks (d:Nat):List Tr->Prop
 | []=>True
 | t :: ts=>t.ok d/\Tr.oks d ts
end
mutual
theorem IsTr.same{H H':Hp}(e:Same H H'):∀{x:V} {t:Tr},IsTr H x t->IsTr H' x t
 | _,_,.int i=>.int i
 | _,_,.str s=>.str s
 | _,_,.lst a h=>.lst (e.at a) (IsTrs.same e h)
 | _,_,.tup a h=>.tup (e.at a) (IsTrs.same e h)
theorem IsTrs.same{H H':Hp}(e:Same H H'):∀{xs:List V} {ts:List Tr},IsTrs H xs ts->IsTrs H' xs ts
 | _,_,.nil=>.nil
 | _,_,.cons h r=>.cons (IsTr.same e h) (IsTrs.same e r)
end
section
variable {H:Hp}{xs ys:List V}{ts us:List Tr}
theorem IsTrs.len:∀{xs:List V} {ts:List Tr},IsTrs H xs ts->xs.length=ts.length
 | _,_,.nil=>rfl
 | _,_,.cons _ r=>by rw[List.length_cons,List.length_cons,r.len]
theorem IsTrs.app:∀{xs:List V} {ts:List Tr},IsTrs H xs ts->IsTrs H ys us->IsTrs H (xs++ys) (ts++us)
 | _,_,.nil,k=>k
 | _,_,.cons h r,k=>.cons h (r.app k)
theorem IsTrs.get:∀{xs:List V} {ts:List Tr},IsTrs H xs ts->∀{i:Nat} {x:V},xs[i]?=some x->∃t,ts[i]?=some t/\IsTr H x t
 | _,_,.nil,i,x,h=>by simp at h
 | _,_,.cons h r,0,x,e=>by cases e;exact⟨_,rfl,h⟩
 | _,_,.cons h r,i+1,x,e=>r.get (i:=i) e
theorem zh7{d:Nat}:∀{ts:List Tr},Tr.oks d ts->∀{i:Nat} {t:Tr},ts[i]?=some t->t.ok d
 | [],_,i,t,e=>by simp at e
 | u :: ts,h,0,t,e=>by cases e;exact h.1
 | u :: ts,h,i+1,t,e=>zh7 h.2 (i:=i) e
end
noncomputable def zqG (K:Fg) (l:Nat):Sp:=λvs H Q _=>∃(x:V) (t:Tr) (d:Nat),vs=[x]/\d<l/\IsTr H x t/\t.ok d /\
 PySem.W.kitAny K (.type "int") [.type "list",.type "tuple"]=some false/\PySem.W.kitAny K (.type "str") [.type "list",.type "tuple"]=some false /\
 PySem.W.kitAny K (.type "list") [.type "list",.type "tuple"]=some true/\PySem.W.kitAny K (.type "tuple") [.type "list",.type "tuple"]=some true /\
 ∀y H',Same H H'->IsTp H' y t->Q y H'
def zsg{i:Int}{n:Nat}(a:0<=i)(h1:i<2 ^ n):sz i<=n:=zW (by
 have:(i.natAbs:Int)<((2 ^ n:Nat):Int):=by
  rw[Int.natAbs_of_nonneg a]
  push_cast
  exact h1
 exact_mod_cast this)
noncomputable def zmB (q:Rat):Prop:=0<=q/\SzQ q 100 31
section
variable {f:Nat->Int}{q:Rat}
def zmx{i:Int}(a:0<=i)(h1:i<=100000000000000):SzQ ((i:Int):Rat) 47 1:=
 ⟨zsg a (Int.lt_of_le_of_lt h1 (by decide)),zW (by show(1:Int).natAbs<2 ^ 1;decide)⟩
theorem zqt(b:SzQ q 100 31)(a:∀j,j<3->0<=f j/\f j<=100000000000000):∀r,r<=3->SzQ (za3 f q r) (100+40*r) (31+r)
 | 0,_=>b
 | r+1,hr=>by
  have c:=zqt b a r ⋯;have z:=zmx (a r ⋯).1 (a r ⋯).2;rw[zmr];unfold zbr;split
  ·rw[Rat.sub_eq_add_neg];exact(c.add z.neg (k:=100+40*r+20) ⋯ ⋯ (yg _)).mono ⋯ ⋯
  ·rw[show za3 f q r-za3 f q r=0 by grind];exact zev ⋯
def zsr(d:SzQ q 100 31)(a:∀j,j<3->0<=f j/\f j<=100000000000000){r:Nat}(b:r<3):SzQ (za2 f q r) 190 81:=by
 unfold za2;split
 ·rename_i e;rw[Rat.div_def];have z:=zmx (a r b).1 (a r b).2;have h2:=z.inv (by show f r≠0;lia);have c:SzQ (zbr f q r) 180 34:=by
   unfold zbr;split
   ·exact z.mono (by decide) (by decide)
   ·exact(zqt d a r ⋯).mono ⋯ ⋯
  exact(c.mul h2 (yg _) (yg _)).mono (by decide) (by decide)
 ·exact zev (by decide)
end
noncomputable def zbB (ds:List Due) (g:Due->Rat) (m:Nat):List Rat:=(ds.filter λd=>decide (d.q=(m:Int))).map g
def zg7(ds:List Due)(d:Due)(g:Due->Rat)(m:Nat):zbB (ds++[d]) g m=zbB ds g m++if d.q=(m:Int) then[g d] else[]:=by
 unfold zbB;rw[List.filter_append,yj];congr 1;by_cases e:d.q=(m:Int)
 ·rw[if_pos e,List.filter_cons_of_pos (p:=λd:Due=>decide (d.q=(m:Int))) (by simpa using e)];rfl
 ·rw[if_neg e,List.filter_cons_of_neg (p:=λd:Due=>decide (d.q=(m:Int))) (by simpa using e)];rfl
def zi3{ds:List Due}{g:Due->Rat}{m:Nat}:(zbB ds g m).length<=ds.length:=by
 unfold zbB;rw[yc];exact List.length_filter_le _ _
def zoE{ds:List Due}{g:Due->Rat}{m:Nat}{x:Rat}(h:x∈zbB ds g m):∃d∈ds,x=g d:=by
 obtain⟨d,hd,e⟩:=List.mem_map.mp h;exact⟨d,(List.mem_filter.mp hd).1,e.symm⟩
noncomputable def zdb (ds:List Due) (g:Due->Rat) (m:Nat):Rat:=zd3 (zbB ds g m)
def znu(ds:List Due)(d:Due)(g:Due->Rat)(m:Nat):zdb (ds++[d]) g m=zdb ds g m+if d.q=(m:Int)then g d else 0:=by
 unfold zdb;rw[zg7];split
 ·rw[zdM]
 ·rw[List.append_nil];grind
noncomputable def PRows (H:Hp) (as:List Addr) (F:Nat->List Rat):Prop:=as.Nodup/\∀(m:Nat) (a:Addr),as[m]?=some a->∃vs,H a=some (.lst vs)/\IsQs H vs (F m)
section
variable {H H':Hp}{as:List Addr}{F:Nat->List Rat}
theorem PRows.same(h:PRows H as F)(e:Same H H'):PRows H' as F:=⟨h.1,λm a q=>by obtain⟨vs,h1,h2⟩:=h.2 m a q;exact⟨vs,e.at h1,h2.same e⟩⟩
def PRows.but{l:Addr}(h:PRows H as F)(g:LBut l H H')(n:l∉as):PRows H' as F:=
 ⟨h.1,λm a q=>by
  obtain⟨vs,h1,h2⟩:=h.2 m a q;exact⟨vs,g.lst h1 λz=>n (z▸ym q),LBut.isQs g h2⟩⟩
def PRows.fresh{p:Addr}(h:PRows H as F)(hp:H p=none):p∉as:=λm=>by
 obtain⟨i,hi,e⟩:=List.getElem_of_mem m;obtain⟨vs,h1,_⟩:=h.2 i p (by rw[List.getElem?_eq_getElem hi,e]);rw[hp]at h1;cases h1
def PRows.app{p:Addr}(h:PRows H as F)(n:p∉as)(hp:H p=some (.lst []))(f:F as.length=[]):PRows H (as++[p]) F:=by
 refine⟨List.nodup_append.mpr ⟨h.1,by simp,λa g b d e=>n (by rw[yh]at d;subst d;subst e;exact g)⟩,λi a q=>?_⟩;rw[List.getElem?_append]at q;split at q
 ·exact h.2 i a q
 ·rename_i hi;have c:i-as.length=0:=by
   cases e:i-as.length with
   | zero=>rfl
   | succ m=>rw[e]at q;cases q
  rw[c]at q;cases q
  have:i=as.length:=by lia
  subst this;exact⟨[],hp,by rw[f];trivial⟩
def PRows.set{j:Nat}{a p:Addr}{vs:List V}{q:Rat}(h:PRows H as F)(g:LBut a H H')(f:as[j]?=some a)(k:H a=some (.lst vs))(hp:IsQ H p q)(h':H' a=some (.lst (vs++[.ref p]))):PRows H' as (λm=>if m=j then F m++[q]else F m):=by
 refine⟨h.1,λm b c=>?_⟩;by_cases e:m=j
 ·subst e;rw[f]at c;cases c;obtain⟨us,d,i⟩:=h.2 m a f;rw[k]at d;cases d;show ∃vs,H' a=some (.lst vs)/\IsQs H' vs (if m=m then F m++[q]else F m);rw[if_pos rfl];exact⟨_,h',IsQs.app (LBut.isQ g hp) (LBut.isQs g i)⟩
 ·obtain⟨us,d,i⟩:=h.2 m b c;show ∃vs,H' b=some (.lst vs)/\IsQs H' vs (if m=j then F m++[q]else F m);rw[if_neg e];exact⟨us,g.lst d λz=>e (zdV h.1 c (z▸f)),LBut.isQs g i⟩
end
def zuB{ds:List Due}{qs:List Rat}(hd:∀d∈ds,zaM qs.length d/\d.a<=1000000000000)(l:ds.length<=64)(e:∀q∈qs,zmB q):∀d∈ds,SzQ (za6 ds qs d) 240 82:=by
 intro d h;have g:∀i j,j<3->0<=zK ds i j/\zK ds i j<=100000000000000:=λi j _=>by
  have:=zgC (m:=i) (r:=j) ds λd h=>⟨(hd d h).1.2.2.2.2.2.2.2.1,(hd d h).2⟩
  lia
 obtain⟨⟨t,u,o,q1,n,k,s,f,a1⟩,a2⟩:=hd d h;obtain⟨q,b⟩:=zP (show d.p.toNat<qs.length by lia);have c:qs.getD d.p.toNat 0=q:=by rw[yn,b];rfl
 unfold za6;rw[c];exact((zmx f a1).mul (zsr (e q (ym b)).2 (g _) (show d.r.toNat<3 by lia)) (yg _) (yg _)).mono (by decide) (by decide)
noncomputable def zj6 (K:Fg):Sp:=λvs H Q _=>∃(a y:Addr) (ds:List Due) (ws:List V) (qs:List Rat),vs=[.ref a,.ref y]/\IsSh K H a ds/\H y=some (.lst ws)/\IsQs H ws qs/\(∀d∈ds,zaM qs.length d/\d.a<=1000000000000)/\ds.length<=64/\qs.length<=9/\(∀q∈qs,zmB q)/\∀p H' vs,H p=none->Same H H'->H' p=some (.lst vs)->IsQs H' vs ((List.range qs.length).map (zdb ds (za6 ds qs)))->Q (.ref p) H'
def zpR:=λ{K:Fg} {a y:Addr} {ds:List Due} {ws:List V} {qs:List Rat} {H:Hp} {Q:VK} {E:XK} h hy hq hd hl h9 hs k=>@id (zj6 K [.ref a,.ref y] H Q E) ⟨a,y,ds,ws,qs,rfl,h,hy,hq,hd,hl,h9,hs,k⟩
section
variable {D E:Nat}{x y:Rat}
end
section
variable {f:Nat->Int}{q q':Rat}{D:Nat}
noncomputable def rkN (t:Int):Nat:=if 0<t then t.toNat else 1
end
noncomputable def zqw (F:Due->Int):List Due->Nat
 | []=>1
 | d :: ds=>rkN (F d)*zqw F ds
noncomputable def Drawn (ds:List Due) (c m:Int):Prop:=(m=0->∀d∈ds,d.a<=12)/\(m≠0->c<17)/\ds.length=c.toNat
def PRows.snoc{H:Hp}{as:List Addr}{F:Nat->List Rat}{p:Addr}{vs:List V}(h:PRows H as F)(n:p∉as)(hp:H p=some (.lst vs))(f:IsQs H vs (F as.length)):PRows H (as++[p]) F:=by
 refine⟨List.nodup_append.mpr ⟨h.1,by simp,λa g b d e=>n (by rw[yh]at d;subst d;subst e;exact g)⟩,λi a q=>?_⟩;rw[List.getElem?_append]at q;split at q
 ·exact h.2 i a q
 ·rename_i hi;have c:i-as.length=0:=by
   cases e:i-as.length with
   | zero=>rfl
   | succ m=>rw[e]at q;cases q
  rw[c]at q;cases q
  have:i=as.length:=by lia
  subst this;exact⟨vs,hp,f⟩
def PRows.nil{H:Hp}{F:Nat->List Rat}:PRows H [] F:=⟨List.nodup_nil,λ_ _ h=>nomatch h⟩
def PRows.ne{H:Hp}{as:List Addr}{F:Nat->List Rat}{D:Addr}(h:PRows H as F)(g:H D=some (.lst (as.map V.ref))):D∉as:=λz=>by
 obtain⟨i,hi,e⟩:=List.getElem_of_mem z;have j:as[i]?=some D:=by rw[List.getElem?_eq_getElem hi,e]
 obtain⟨vs,h1,h2⟩:=h.2 i D j;rw[g]at h1;cases h1;obtain⟨c,b⟩:=zP (show 0<as.length by lia);obtain⟨v,q,d,_,k⟩:=h2.get (show(as.map V.ref)[0]?=some (.ref c) by rw[yf,b];rfl);obtain⟨ws,f,_⟩:=h.2 0 c b;cases d;have a:H c=some (.tup [.int q.num,.int (q.den:Int)]):=k;rw[f]at a;cases a
def PRows.congr{H:Hp}{as:List Addr}{F G:Nat->List Rat}(h:PRows H as F)(e:∀m,m<as.length->F m=G m):PRows H as G:=
 ⟨h.1,λm a q=>by obtain⟨vs,h1,h2⟩:=h.2 m a q;exact⟨vs,h1,by rw[<- e m (yi.mp q).1];exact h2⟩⟩
end Internal
namespace Dt
noncomputable def sm (n:Nat) (f:Nat->Rat):Rat:=match n with
 | 0=>0
 | n+1=>sm n f+f n
theorem sm_zero:∀{n:Nat} {f:Nat->Rat},(∀i,i<n->f i=0)->sm n f=0
 | 0,_,_=>rfl
 | n+1,f,h=>by unfold sm;rw[sm_zero λi hi=>h i ⋯,h n ⋯];grind
noncomputable def skip (i:Nat) (f:Nat->Rat):Nat->Rat:=λr=>if r<i then f r else f (r+1)
noncomputable def up (i k:Nat):Nat:=if k<i then k else k+1
noncomputable def sgn:Nat->Rat
 | 0=>1
 | n+1=>-sgn n
noncomputable def det:Nat->(Nat->Nat->Rat)->Rat
 | 0,_=>1
 | n+1,c=>sm (n+1) λi=>sgn (n+i)*c n i*det n (λj=>skip i (c j))
end Dt
namespace Dt
noncomputable def cl (A:Nat->Nat->Rat):Nat->Nat->Rat:=λj r=>A r j
section
variable {n k:Nat}{A T:Nat->Nat->Rat}{d:Rat}
noncomputable def swp {α:Type} (T:Nat->α) (a b:Nat):Nat->α:=λi=>if i=a then T b else if i=b then T a else T i
end
end Dt
namespace Dt
noncomputable def Bd (b x:Rat):Prop:=-b<=x/\x<=b
end Dt
namespace Dt
structure Leak(n:Nat)(f:Nat->Nat->Rat)(r:Nat->Rat):Prop where
 nn:∀j i,j<n->i<n->0<=f j i
 own:∀i,i<n->f i i=0
 le:∀j,j<n->sm n (f j)<=r j
 leak:∀S:Nat->Bool,(∃j,j<n/\S j=true)->∃j,j<n/\S j=true/\sm n (λi=>if S i then f j i else 0)<r j
noncomputable def bal (f:Nat->Nat->Rat) (r:Nat->Rat):Nat->Nat->Rat:=λi j=>if i=j then r i else -f j i
end Dt
namespace Dt
noncomputable def zey (B:Nat->Rat):Nat->Rat
 | 0=>1
 | n+1=>zey B n*B n
end Dt
namespace Internal
open PySem PySem.Spec PyProof.Rows
section
variable {f:Nat->Int}{q q':Rat}
noncomputable def zfH (f:Nat->Int) (r:Nat):Rat:=((zbj f r:Int):Rat)
theorem zlY:∀{k ρ:Nat},zaN f q k=some ρ->ρ < k/\q<zfH f (ρ+1)/\∀r,r < ρ->zfH f (r+1)<=q
 | 0,_,h=>by cases h
 | k+1,ρ,h=>by
  have h':(match zaN f q k with | some r=>some r | none=>if zbx f q k then some k else none)=some ρ:=h;have d:∀{k:Nat},zaN f q k=none->∀r,r<k->zfH f (r+1)<=q:=by
   intro k
   induction k with
   | zero=>intro _ r b;lia
   | succ k ih=>
    intro c r b;have a:(match zaN f q k with | some r=>some r | none=>if zbx f q k then some k else none)=none:=c;cases e:zaN f q k with
    | some x=>rw[e]at a;cases a
    | none=>
     rw[e]at a;dsimp only at a;rcases Nat.lt_or_eq_of_le (Nat.le_of_lt_succ b)with g | g
     ·exact ih e r g
     ·subst g
      have:¬zbx f q r:=λz=>by rw[if_pos z]at a;cases a
      exact Rat.not_lt.mp λz=>this (under_int.mp z)
  cases e:zaN f q k with
  | some x=>
   rw[e]at h';cases h'
   have:=zlY (k:=k) e
   exact⟨⋯,this.2⟩
  | none=>
   rw[e]at h';dsimp only at h';by_cases g:zbx f q k
   ·rw[if_pos g]at h';cases h';exact⟨⋯,under_int.mpr g,d e⟩
   ·rw[if_neg g]at h';cases h'
end
noncomputable def za7 (ρ:Nat->Option Nat) (ds:List Due) (i j:Nat):Int:=ds.foldl (fun(s:Int) (d:Due)=>if d.p=(i:Int)/\d.q=(j:Int)/\ρ i=some d.r.toNat then s+d.a else s) 0
def zgR(ρ:Nat->Option Nat)(ds:List Due)(d:Due)(i j:Nat):za7 ρ (ds++[d]) i j=za7 ρ ds i j+if d.p=(i:Int)/\d.q=(j:Int)/\ρ i=some d.r.toNat then d.a else 0:=by
 have e:za7 ρ (ds++[d]) i j=if d.p=(i:Int)/\d.q=(j:Int)/\ρ i=some d.r.toNat then za7 ρ ds i j+d.a else za7 ρ ds i j:=by
  unfold za7;rw[List.foldl_append];rfl
 rw[e];split
 ·rfl
 ·exact(Int.add_zero _).symm
end Internal
namespace Rc
variable {k:Nat}
section
variable {n:Nat}{g:Nat->Nat->Bool}{i:Nat}
noncomputable def zgQ (n:Nat) (g:Nat->Nat->Bool) (j:Nat) (l:List Nat):List Nat:=(List.range n).filter λk=>g j k&&!decide (k∈l)
def mem_next{j:Nat}{l:List Nat}:k∈zgQ n g j l↔k<n/\g j k=true/\k∉l:=by
 unfold zgQ;rw[List.mem_filter,List.mem_range,Bool.and_eq_true,Bool.not_eq_true',decide_eq_false_iff_not]
def zmU{j:Nat}{l:List Nat}:(zgQ n g j l).Nodup:=List.nodup_range.filter _
noncomputable def seqL (n:Nat) (g:Nat->Nat->Bool) (i:Nat):Nat->List Nat
 | 0=>[i]
 | k+1=>if k<(seqL n g i k).length then seqL n g i k++zgQ n g ((seqL n g i k).getD k 0) (seqL n g i k)else seqL n g i k
def seq_succ(h:k<(seqL n g i k).length):seqL n g i (k+1)=seqL n g i k++zgQ n g ((seqL n g i k).getD k 0) (seqL n g i k):=if_pos h
def zcI(h:¬k<(seqL n g i k).length):seqL n g i (k+1)=seqL n g i k:=if_neg h
theorem zi2:∀k,(seqL n g i k).Nodup
 | 0=>by show[i].Nodup;simp
 | k+1=>by
  have c:=zi2 k;by_cases h:k<(seqL n g i k).length
  ·rw[seq_succ h];exact List.nodup_append.mpr ⟨c,zmU,λa f b d e=>(mem_next.mp d).2.2 (e▸f)⟩
  ·rw[zcI h];exact c
theorem seq_lt(hi:i<n):∀k x,x∈seqL n g i k->x<n
 | 0,x,h=>by rw[yh.mp h];exact hi
 | k+1,x,a=>by
  have b:=seq_lt hi k;by_cases h:k<(seqL n g i k).length
  ·rw[seq_succ h]at a;rcases List.mem_append.mp a with a | a
   ·exact b x a
   ·exact(mem_next.mp a).1
  ·rw[zcI h]at a;exact b x a
theorem zfv:∀k,i∈seqL n g i k
 | 0=>yh.mpr rfl
 | k+1=>by
  by_cases h:k<(seqL n g i k).length
  ·rw[seq_succ h];exact List.mem_append_left _ (zfv k)
  ·rw[zcI h];exact zfv k
def zqN{x:Nat}(a:x∈seqL n g i k):x∈seqL n g i (k+1):=by
 by_cases h:k<(seqL n g i k).length
 ·rw[seq_succ h];exact List.mem_append_left _ a
 ·rw[zcI h];exact a
theorem zgB:∀(k p x y:Nat),p<k->(seqL n g i k)[p]?=some x->y<n->g x y=true->y∈seqL n g i k
 | 0,_,_,_,h,_,_,_=>absurd h (Nat.not_lt_zero _)
 | k+1,p,x,y,hp,hx,hy,hg=>by
  by_cases h:k<(seqL n g i k).length
  ·rcases Nat.lt_or_eq_of_le (Nat.le_of_lt_succ hp)with e | e
   ·have a:(seqL n g i k)[p]?=some x:=by
     rw[seq_succ h,List.getElem?_append_left ⋯]at hx;exact hx
    exact zqN (zgB k p x y e a hy hg)
   ·subst e;have a:(seqL n g i p)[p]?=some x:=by
     rw[seq_succ h,List.getElem?_append_left h]at hx;exact hx
    have hd:(seqL n g i p).getD p 0=x:=by rw[yn,a];rfl
    rw[seq_succ h,hd];rcases Classical.em (y∈seqL n g i p)with q | q
    ·exact List.mem_append_left _ q
    ·exact List.mem_append_right _ (mem_next.mpr ⟨hy,hg,q⟩)
  ·rw[zcI h]at hx ⊢;have b:=(yi.mp hx).1;exact zgB k p x y ⋯ hx hy hg
def ztq{l:List Nat}(nd:l.Nodup)(h:∀x∈l,x<n):l.length<=n:=by
 have h2:l.length<=(List.range n).length:=List.Nodup.length_le_of_subset nd λx a=>List.mem_range.mpr (h x a)
 rwa [List.length_range]at h2
noncomputable def reach (n:Nat) (g:Nat->Nat->Bool) (i:Nat):List Nat:=seqL n g i n
def reach_lt(hi:i<n){x:Nat}(a:x∈reach n g i):x<n:=seq_lt hi n x a
def reach_start:i∈reach n g i:=zfv n
def seq_len(hi:i<n)(k:Nat):(seqL n g i k).length<=n:=ztq (zi2 k) (seq_lt hi k)
def reach_closed(hi:i<n){x y:Nat}(a:x∈reach n g i)(c:y<n)(b:g x y=true):y∈reach n g i:=by
 obtain⟨p,hp,e⟩:=List.getElem_of_mem a;exact zgB n p x y (Nat.lt_of_lt_of_le hp (seq_len hi n)) (by rw[<- e];exact List.getElem?_eq_getElem hp) c b
theorem ziN{k:Nat}(h:¬k<(seqL n g i k).length):∀m,seqL n g i (k+m)=seqL n g i k
 | 0=>rfl
 | m+1=>by
  have a:=ziN h m;show seqL n g i (k+m+1)=_;rw[zcI (by rw[a];lia),a]
def seq_end(hi:i<n)(a:k<=(seqL n g i k).length)(h:¬k<(seqL n g i k).length):seqL n g i k=reach n g i:=by
 have b:=seq_len (g:=g) hi k
 have:=ziN h (n-k)
 rw[show k+(n-k)=n by lia]at this;exact this.symm
noncomputable def minL:List (List Nat)->List Nat
 | []=>[]
 | l :: ls=>ls.foldl (λb c=>if c.length<b.length then c else b) l
noncomputable def circles (n:Nat) (g:Nat->Nat->Bool) (sh:Nat->Bool):List (List Nat):=((List.range n).map (reach n g)).filter λl=>l.all sh
noncomputable def circle (n:Nat) (g:Nat->Nat->Bool) (sh:Nat->Bool):List Nat:=minL (circles n g sh)
variable {sh:Nat->Bool}
def mem_circles{c:List Nat}:c∈circles n g sh↔∃i,i<n/\c=reach n g i/\∀x∈c,sh x=true:=by
 unfold circles;rw[List.mem_filter,List.mem_map,List.all_eq_true];constructor
 ·rintro⟨⟨i,hi,e⟩,h⟩;exact⟨i,List.mem_range.mp hi,e.symm,h⟩
 ·rintro⟨i,hi,e,h⟩;exact⟨⟨i,List.mem_range.mpr hi,e.symm⟩,h⟩
end
end Rc
namespace Dt
end Dt
namespace Internal
variable {i:Nat}
open PySem PySem.Spec PyProof.Rows
noncomputable def stp (ds:List Due) (l:Nat->Rat) (i:Nat):Option Nat:=zaN (zK ds i) (l i) 3
noncomputable def flR (ds:List Due) (l:Nat->Rat) (i j:Nat):Rat:=((za7 (stp ds l) ds i j:Int):Rat)
noncomputable def zo9 (n:Nat) (ds:List Due) (l:Nat->Rat) (i:Nat):Rat:=Dt.sm n (flR ds l i)
section
variable {n:Nat}{ds:List Due}{p l s:Nat->Rat}{t x e:Rat}
end
open Dt (sm Leak bal)
noncomputable def sF (m:Nat) (s:Nat->Nat) (x:Nat->Rat) (i:Nat):Rat:=sm m (λa=>if s a=i then x a else 0)
section
variable {n m:Nat}{s:Nat->Nat}{x:Nat->Rat}
def ztE(h:∀a,a<m->s a≠i):sF m s x i=0:=Dt.sm_zero λa b=>if_neg (h a b)
end
section
variable {n:Nat}{ds:List Due}{p l:Nat->Rat}
noncomputable def gB (ds:List Due) (l:Nat->Rat) (i j:Nat):Bool:=decide (0<za7 (stp ds l) ds i j)
noncomputable def shB (ds:List Due) (l:Nat->Rat) (i:Nat):Bool:=(stp ds l i).isSome
end
end Internal
namespace Dt
end Dt
namespace Internal
variable {ds:List Due}{i:Nat}
open PySem PySem.Spec PyProof.Rows
open Dt (sm Leak bal)
noncomputable def zuP (f:Nat->Nat->Rat) (r:Nat->Rat) (a b:Nat):Rat:=if a=0 then(if b=0 then 1 else 0)else bal f r a b
section
variable {n:Nat}{ds:List Due}{l:Nat->Rat}{c:List Nat}{m:Nat}
abbrev cF(ds:List Due)(l:Nat->Rat)(c:List Nat):Nat->Nat->Rat:=λa b=>flR ds l (c.getD a 0) (c.getD b 0)
abbrev cR(n:Nat)(ds:List Due)(l:Nat->Rat)(c:List Nat):Nat->Rat:=λa=>zo9 n ds l (c.getD a 0)
end
open PySem PySem.Spec PyProof.Rows
open Dt (sm)
noncomputable def rkL (ds:List Due) (l:Nat->Rat) (i:Nat):Nat:=(stp ds l i).getD 3
section
variable {ds:List Due}{l l':Nat->Rat}{i:Nat}
end
noncomputable def nsum (f:Nat->Nat):Nat->Nat
 | 0=>0
 | n+1=>nsum f n+f n
noncomputable def zde (ds:List Due) (l:Nat->Rat) (i:Nat):Rat:=zfH (zK ds i) (rkL ds l i+1)
noncomputable def zaO (ds:List Due) (l r:Nat->Rat) (i:Nat):Rat:=(zde ds l i-l i)/r i
noncomputable def za1 (ds:List Due) (l r:Nat->Rat):Nat->Option Rat
 | 0=>none
 | k+1=>if 0<r k then(match za1 ds l r k with | none=>some (zaO ds l r k) | some q=>some (if zaO ds l r k<q then zaO ds l r k else q))else za1 ds l r k
section
variable {ds:List Due}{l r:Nat->Rat}
theorem ziC:∀{k:Nat},za1 ds l r k=none->∀i,i<k->¬0<r i
 | 0,_,i,h=>absurd h (Nat.not_lt_zero _)
 | k+1,h,i,hi=>by
  have h':(if 0<r k then(match za1 ds l r k with | none=>some (zaO ds l r k) | some q=>some (if zaO ds l r k<q then zaO ds l r k else q))else za1 ds l r k)=none:=h;by_cases g:0<r k
  ·rw[if_pos g]at h';split at h'<;>cases h'
  ·rw[if_neg g]at h';rcases Nat.lt_or_eq_of_le (Nat.le_of_lt_succ hi)with e | e
   ·exact ziC h' i e
   ·rw[e];exact g
theorem zfg:∀{k:Nat} {x:Rat},za1 ds l r k=some x->(∃i,i<k/\0<r i/\x=zaO ds l r i)/\∀i,i<k->0<r i->x<=zaO ds l r i
 | 0,_,h=>by cases h
 | k+1,x,h=>by
  have h':(if 0<r k then(match za1 ds l r k with | none=>some (zaO ds l r k) | some q=>some (if zaO ds l r k<q then zaO ds l r k else q))else za1 ds l r k)=some x:=h;by_cases g:0<r k
  ·rw[if_pos g]at h';cases e:za1 ds l r k with
   | none=>
    rw[e]at h';cases h';refine⟨⟨k,⋯,g,rfl⟩,λi hi b=>?_⟩;rcases Nat.lt_or_eq_of_le (Nat.le_of_lt_succ hi)with q | q
    ·exact absurd b (ziC e i q)
    ·rw[q];exact Rat.le_refl
   | some q=>
    rw[e]at h';dsimp only at h';obtain⟨⟨j,m,d,f⟩,a⟩:=zfg (k:=k) e;by_cases c:zaO ds l r k<q
    ·rw[if_pos c]at h';cases h';refine⟨⟨k,⋯,g,rfl⟩,λi hi b=>?_⟩;rcases Nat.lt_or_eq_of_le (Nat.le_of_lt_succ hi)with w | w
     ·have:=a i w b;grind
     ·rw[w];exact Rat.le_refl
    ·rw[if_neg c]at h';cases h';refine⟨⟨j,⋯,d,f⟩,λi hi b=>?_⟩;rcases Nat.lt_or_eq_of_le (Nat.le_of_lt_succ hi)with w | w
     ·exact a i w b
     ·rw[w];exact Rat.not_lt.mp c
  ·rw[if_neg g]at h';obtain⟨⟨j,m,d,f⟩,a⟩:=zfg (k:=k) h';refine⟨⟨j,⋯,d,f⟩,λi hi b=>?_⟩;rcases Nat.lt_or_eq_of_le (Nat.le_of_lt_succ hi)with w | w
   ·exact a i w b
   ·rw[w]at b;exact absurd b g
end
def zsm{l:Nat->Rat}{ρ:Nat}(a:stp ds l i=some ρ):zde ds l i=zfH (zK ds i) (ρ+1):=by
 unfold zde rkL;rw[a];rfl
section
variable {n:Nat}{ds:List Due}{l s:Nat->Rat}{x:Rat}
abbrev rtR(n:Nat)(ds:List Due)(l s:Nat->Rat)(i:Nat):Rat:=s i*zo9 n ds l i
end
end Internal
namespace Dt
end Dt
namespace Internal
open PySem PySem.Spec PyProof.Rows
open Dt (sm Leak bal)
noncomputable def slL (n:Nat) (ds:List Due) (l:Nat->Rat):List Nat:=(List.range n).filter (shB ds l)
abbrev crL(n:Nat)(ds:List Due)(l:Nat->Rat):List Nat:=Rc.circle n (gB ds l) (shB ds l)
noncomputable def ztS (n:Nat) (ds:List Due) (l:Nat->Rat) (c:List Nat) (x:Nat->Rat):Prop:=∀a,a<c.length->sm c.length (λb=>zuP (cF ds l c) (cR n ds l c) a b*x b)=if a=0 then 1 else 0
noncomputable def zuq (n:Nat) (ds:List Due) (p l:Nat->Rat) (c:List Nat) (x:Nat->Rat):Prop:=∀a,a<c.length->sm c.length (λb=>bal (cF ds l c) (cR n ds l c) a b*x b)=p (c.getD a 0)
noncomputable def zuX (n:Nat) (ds:List Due) (l:Nat->Rat) (c:List Nat):Nat->Rat:=Classical.epsilon (ztS n ds l c)
noncomputable def zuO (n:Nat) (ds:List Due) (p l:Nat->Rat) (c:List Nat):Nat->Rat:=Classical.epsilon (zuq n ds p l c)
section
variable {n:Nat}{ds:List Due}{p l:Nat->Rat}{t:Rat}
def zo8{c:List Nat}(nd:c.Nodup)(a b:Nat)(d:a<c.length)(f:b<c.length)(e:c.getD a 0=c.getD b 0):a=b:=by
 have g:∀a,a<c.length->c[a]?=some (c.getD a 0):=λa d=>by rw[yn,List.getElem?_eq_getElem d];rfl
 exact zdV nd (g a d) (by rw[e];exact g b f)
end
noncomputable def shF (n:Nat) (ds:List Due) (p l:Nat->Rat):Nat->Rat:=
 if crL n ds l=[]then sF (slL n ds l).length (λa=>(slL n ds l).getD a 0) (zuO n ds p l (slL n ds l))else sF (crL n ds l).length (λa=>(crL n ds l).getD a 0) (zuX n ds l (crL n ds l))
noncomputable def rtF (n:Nat) (ds:List Due) (p l:Nat->Rat):Nat->Rat:=rtR n ds l (shF n ds p l)
noncomputable def stF (n:Nat) (ds:List Due) (p l:Nat->Rat) (t:Rat):Rat:=
 if crL n ds l=[] then(match za1 ds l (rtF n ds p l) n with | none=>1-t | some q=>if 1-t<q then 1-t else q) else(za1 ds l (rtF n ds p l) n).getD 0
noncomputable def nxL (n:Nat) (ds:List Due) (p l:Nat->Rat) (t:Rat):Nat->Rat:=λi=>l i+stF n ds p l t*rtF n ds p l i
noncomputable def nxT (n:Nat) (ds:List Due) (p l:Nat->Rat) (t:Rat):Rat:=if crL n ds l=[]then t+stF n ds p l t else t
section
variable {n:Nat}{ds:List Due}{p l:Nat->Rat}{t:Rat}
end
end Internal
namespace Dt
noncomputable def Wh (q:Rat):Prop:=∃k:Int,q=(k:Rat)
end Dt
namespace Internal
open PySem PySem.Spec PyProof.Rows
open Dt (sm Leak bal Wh Bd zey)
section
variable {n:Nat}{ds:List Due}{p l:Nat->Rat}{t W P:Rat}
end
open PySem PySem.Spec PyProof.Rows
open Dt (sm Leak bal Wh Bd zey)
section
variable {n:Nat}{ds:List Due}{p l:Nat->Rat}{t W M Δ:Rat}{D:Nat}
end
open PySem PySem.Spec PyProof.Rows
open Dt (sm Leak bal Wh Bd zey)
noncomputable def cst (n:Nat) (ds:List Due) (p:Nat->Rat):Nat->(Nat->Rat) × Rat
 | 0=>(λ_=>0,0)
 | k+1=>(nxL n ds p (cst n ds p k).1 (cst n ds p k).2,nxT n ds p (cst n ds p k).1 (cst n ds p k).2)
section
variable {n:Nat}{ds:List Due}{p l:Nat->Rat}{t W P:Rat}
end
end Internal
namespace Internal.BT
open PySem
theorem all:bootBuiltins "all" = some (.builtin "all"):=by decide +kernel
end Internal.BT
namespace Internal
variable {C a b d p:Addr}{H H' H1 H2:Hp}{K:Fg}{L:Nat->Int}{N ws:List Str}{Q:VK}{X:Cx}{as:List Addr}{e elt iter tg:Expr}{es:List Expr}{i k m n:Nat}{ns:List Int}{o:HO}{q r:Rat}{qual x:Str}{scope:Scope}{tl:TE}{v:V}{vs xs ys:List V}{wi:TI}
open PySem PySem.Spec PyProof.Rows
section
variable {X:Cx}
noncomputable def zjv (K:Fg):List V->Hp->VK->Prop:=λvs H Q=>∃(a:Addr) (bs:List Bool),vs=[.ref a]/\SqL K H a (bs.map V.bl)/\Q (.bl (bs.all id)) H
theorem zjE:∀{bs:List Bool} {its:List Value},Vals (bs.map V.bl) its->its=bs.map Value.bool
 | [],_,r=>by cases r;rfl
 | b :: bs,_,r=>by
  cases r with
  | cons h t=>rw[zjE t,show _=Value.bool b from h];rfl
def znN(k:X.calm=true):CallR X (.builtin "all") (zjv X.K):=by
 intro pins s σ H xs us Q I r h;obtain⟨a,bs,rfl,n,q⟩:=h;obtain⟨u,rfl,m⟩:=vals1 r;cases m;obtain⟨its,p,pl,y,d⟩:=I.walk n;have l:=zjE p;subst l;refine call_all_walk (wpAny_pyIter_list pl ?_);refine⟨s.heap.objs.size,[s.heap.objs.size,a],[s.heap.objs.size],(bs.map Value.bool).toArray.size,_,_,λi=>(bs[i]?).getD true,rfl,Walks.list (A:=X.A.in1) (I.ok.hd k) _ a (yo d) (bs.map Value.bool).toArray,
  ⟨⟨_,Heap.get?_push_size _ rfl,rfl,rfl⟩,pl.push _⟩,λi v s' x B g f=>?_,λh' tk j=>?_⟩
 ·have c:(bs.map Value.bool)[i]?=some v:=by simpa using g
  rw[yf]at c;cases e:bs[i]? with
  | none=>rw[e]at c;cases c
  | some b=>
   dsimp only at f;rw[e]at c f;cases c;exact wpAny_truthy_bool f
 ·have e:((List.range (bs.map Value.bool).toArray.size).all λi=>(bs[i]?).getD true)=bs.all id:=by
   rw[yl,yc];exact LSm.range_all bs
  rw[e];have t:Inv X pins σ H { s with heap:=h',toks:=tk }:=I.kept λb o z=>j b o (λw=>by rw[yh.mp w]at z;exact Nat.lt_irrefl _ (Heap.lt_size z)) (Heap.get?_push_of_some _ z);exact⟨.bl _,H,t,rfl,q⟩
end
def zsl{bs:List Bool}(h:H a=some (.lst (bs.map V.bl)))(q:Q (.bl (bs.all id)) H):zjv K [.ref a] H Q:=⟨a,bs,rfl,.of h,q⟩
open PySem PySem.W PySem.Spec PySem.Calls PyProof.Rows
section
variable {prog:Program}{w:World}{A:Around}{E:Value->Shared->Prop}{s:Shared}{l I S:Addr}{kid:String}{vs:List Value}{kw:List (Str × Value)}{R:Result->Shared->Prop}{Q:Value->Shared->Prop}
noncomputable def zef (I S:Addr) (a h:Heap):Prop:=∀b o,b≠I->b≠S->a.get? b=some o->h.get? b=some o
def zrv(kf:Nat->Int)(hh:A.handled=none)(hl:s.heap.IsList l vs.toArray)(F:l≠I)(z:S≠I)(a0:l≠S)
  (turn:∀(i:Nat) (v:Value),vs[i]?=some v->∀(h:Heap) (tk:Nat),zef I S s.heap h ->
   wpAny (model prog w) A.in1 (call (.builtin kid) [v]) (λx Q=>∃d t,x=.int (kf i) t/\Q={ s with heap:=h,toks:=d }) (λ_ _=>False) { s with heap:=h,toks:=tk })
  (hR:∀i v h' d,vs[i]?=some v->(∀j,j<vs.length->kf i<=kf j/\(j<i->kf i<kf j))->zef I S s.heap h'->R (.ok (.ret v)) { s with heap:=h',toks:=d }) :
  ∀(r j i:Nat) (h:Heap) (tk:Nat) (C:Value) (tb:Tok) (c:Nat),vs.length-(j+1)=r->j+1<=vs.length->zef I S s.heap h ->
   h.get? S=some (seqObj "list" #[C,.int (kf i) tb] c)->h.IsListIter I l (j+1)->vs[i]?=some C->i<=j->(∀f,f<=j->kf i<=kf f/\(f<i->kf i<kf f)) ->
   codeAny (model prog w) A (.builtin "min.loop" ⟨[.ref I,.builtin kid,.ref S],kw⟩) R { s with heap:=h,toks:=tk }:=by
 have g:(toString "min" ++ toString ".loop" : String) = "min.loop" := by decide
 have W:=Walks.list (prog:=prog) (w:=w) (A:=A.in1) hh I l F vs.toArray;have D:vs.toArray.size=vs.length:=yl ..;have N:∀h,zef I S s.heap h->h.IsList l vs.toArray:=λh k=>by
  obtain⟨o,e,r⟩:=hl;exact⟨o,k l o F a0 e,r⟩
 intro r
 induction r with
 | zero=>
  intro j i h tk C tb c hr hj K T B u V a;have X:j+1=vs.length:=by lia
  refine codeAny_builtin PySem.F.entry_min_loop ?_;rw[Around.under_plainId PySem.F.plain_min_loop _];show wpAny _ A.in1 (seqItems? (.ref S) >>= _) _ _ _;refine wpAny_bind (wpAny_seqItems T rfl ?_);show wpAny _ A.in1 (tryCatch (pyNext (.ref I)) _ >>= _) _ _ _;refine wpAny_bind (wpAny_tryCatch (W.done _ _ _ ⟨by rw[D,<- X];exact B,N h K⟩ λh' d m=>?_));have Y:=m S _ (by simpa using z) T;have U:=Heap.SameBut.update h' S (Obj.mapSeq λ_=>(#[]:Array Value));show wpAny _ A.in1 (updateSeq S (λ_=>#[]) >>= _) _ _ _;refine wpAny_bind ?_;refine wpAny_updateSeq Y rfl (wpAny_bind (wpAny_letGo (wpAny_pure ?_)));exact hR i C _ _ u (λf L=>a f ⋯) λb o n1 n2 e=>(U.2 b n2).trans (m b o (by simpa using n1) (K b o n1 n2 e))
 | succ r ih=>
  intro j i h tk C tb c hr hj K T B u V a;have y:j+1<vs.length:=by lia
  refine codeAny_builtin PySem.F.entry_min_loop ?_;rw[Around.under_plainId PySem.F.plain_min_loop _];show wpAny _ A.in1 (seqItems? (.ref S) >>= _) _ _ _;refine wpAny_bind (wpAny_seqItems T rfl ?_);show wpAny _ A.in1 (tryCatch (pyNext (.ref I)) _ >>= _) _ _ _;refine wpAny_bind (wpAny_tryCatch (W.item (j+1) _ _ _ (by rw[D];exact y) ⟨B,N h K⟩ λv h' d hP G m=>?_));have hv:vs[j+1]?=some v:=by simpa using hP
  obtain⟨O,p,E,M⟩:=id G.1;have K1:zef I S s.heap h':=λb o n1 n2 e=>m b o (by simpa using n1) (K b o n1 n2 e);have q:=m S _ (by simpa using z) T;show wpAny _ A.in1 (tryCatch (holding [v] (call (.builtin kid) [v])) _ >>= _) _ _ _;refine wpAny_bind (wpAny_tryCatch (wpAny_holding (wpAny_mono (turn (j+1) v hv h' d K1) (λx Q he=>?_) λ_ _ hF=>hF.elim)));obtain⟨a3,n,rfl,rfl⟩:=he;have H:h'.IsListIter I l (j+1+1):=⟨O,p,E,M⟩
  show wpAny _ A.in1 (tryCatch (holding [v,.int (kf (j+1)) n] (richCompare .Lt (.int (kf (j+1)) n) (.int (kf i) tb) >>= _)) _ >>= _) _ _ _;refine wpAny_bind (wpAny_tryCatch (wpAny_holding (wpAny_bind (CmpOf.ints_lt (prog:=prog) (w:=w) (A:=A.in1) (P:=λi v=>∃t,v=.int (kf i) t) kf (λi v h=>h) (j+1) i _ _ _ _ _ ⟨n,rfl⟩ ⟨tb,rfl⟩ ?_))));refine wpAny_bind (wpAny_holding (wpAny_truthy_bool ?_));refine wpAny_bind (wpAny_letGo (wpAny_pure ?_));by_cases J:kf (j+1)<kf i
  ·have U:=Heap.SameBut.update h' S (Obj.mapSeq λ_=>#[v,.int (kf (j+1)) n]);obtain⟨c2,a1⟩:∃c2,(h'.update S (Obj.mapSeq λ_=>#[v,.int (kf (j+1)) n])).get? S=some (seqObj "list" #[v,.int (kf (j+1)) n] c2):=⟨_,get?_update_seq q λ_=>#[v,.int (kf (j+1)) n]⟩
   simp only[J,decide_true,if_true];refine wpAny_bind ?_;refine wpAny_updateSeq q rfl (wpAny_bind (wpAny_letGo ?_));rw[g];refine wpAny_pure ⟨plainId_quiet PySem.F.plain_min_loop _,ih (j+1) (j+1) _ _ v n c2 ⋯ y (λb o n1 n2 e=>(U.2 b n2).trans (K1 b o n1 n2 e)) a1 ⟨O,(U.2 I z.symm).trans p,E,M⟩ hv (yg _) λf L=>?_⟩;by_cases e:f=j+1
   ·subst e;exact⟨⋯,λ_=>by lia⟩
   ·have Z:=a f ⋯;have a2:=Z.1;exact⟨⋯,λ_=>by lia⟩
  ·simp only[J,decide_false,Bool.false_eq_true,if_false];refine wpAny_bind (wpAny_letGo ?_);rw[g];refine wpAny_pure ⟨plainId_quiet PySem.F.plain_min_loop _,ih (j+1) i _ _ C tb c ⋯ y K1 q H u ⋯ λf L=>?_⟩;by_cases e:f=j+1
   ·subst e;exact⟨⋯,λ_=>by lia⟩
   ·exact a f ⋯
def zk4(a v d:Value):argsOk "min" ⟨[a],[(Str.ofString "key",v),(Str.ofString "default",d)]⟩:=by unfold argsOk;kernel_rfl
def zq2(kf:Nat->Int){d:Value}(Z:A.handled=none)(G:s.heap.IsList l vs.toArray)
  (turn:∀(i:Nat) (v:Value),vs[i]?=some v->∀(h:Heap) (tk:Nat),(∀b o,s.heap.get? b=some o->h.get? b=some o) ->
   wpAny (model prog w) A.in1 (call (.builtin kid) [v]) (λx B=>∃a t,x=.int (kf i) t/\B={ s with heap:=h,toks:=a }) (λ_ _=>False) { s with heap:=h,toks:=tk })
  (hQ:∀i v h' a,vs[i]?=some v->(∀j,j<vs.length->kf i<=kf j/\(j<i->kf i<kf j))->(∀b o,s.heap.get? b=some o->h'.get? b=some o)->Q v { s with heap:=h',toks:=a })
  (hD:vs=[]->∀h' a,(∀b o,s.heap.get? b=some o->h'.get? b=some o)->Q d { s with heap:=h',toks:=a }) :
  wpAny (model prog w) A (call (.builtin "min") [.ref l] [(Str.ofString "key",.builtin kid),(Str.ofString "default",d)]) Q E s:=by
 have c:(toString "min" ++ toString ".loop" : String) = "min.loop" := by decide
 obtain⟨ol,J,_⟩:=id G;have y:l<s.heap.objs.size:=Heap.lt_size J;refine kmb_tree PySem.F.kind_min PySem.F.plain_min PySem.F.entry_min (zk4 _ _ _) ?_;show wpAny _ A.in1 (Builtin.Builtins.bindParams "min" ["key", "default"] 0 ⟨[],[(Str.ofString "key",.builtin kid),(Str.ofString "default",d)]⟩ >>= _) _ _ s;refine wpAny_bind (wpAny_of_eq (show Builtin.Builtins.bindParams "min" ["key", "default"] 0 ⟨[],[(Str.ofString "key",.builtin kid),(Str.ofString "default",d)]⟩=pure [some (.builtin kid),some d]from rfl) ?_);refine wpAny_bind (wpAny_pure ?_);refine wpAny_bind (wpAny_pyIter_list G ?_);refine wpAny_bind (wpAny_newList ?_ (Nat.zero_le _));rw[c];have L:(s.heap.push { cls:=.type "list_iterator",data:=.fields #[.ref l,.int 0 0] }).objs.size=s.heap.objs.size+1:=size_push' ..;have z:l≠s.heap.objs.size:=yo y;have m:(s.heap.push { cls:=.type "list_iterator",data:=.fields #[.ref l,.int 0 0] }).objs.size≠s.heap.objs.size:=by rw[L];exact Nat.ne_of_gt (Nat.lt_succ_self _)
 have R:l≠(s.heap.push { cls:=.type "list_iterator",data:=.fields #[.ref l,.int 0 0] }).objs.size:=by rw[L];exact yo (Nat.lt_succ_of_lt y)
 refine wpAny_pure ⟨plainId_quiet PySem.F.plain_min_loop _,?_⟩;have X:((s.heap.push { cls:=.type "list_iterator",data:=.fields #[.ref l,.int 0 0] }).push (seqObj "list" #[] 0)).get? s.heap.objs.size=some { cls:=.type "list_iterator",data:=.fields #[.ref l,.int 0 0] }:=
  Heap.get?_push_of_some _ (Heap.get?_push_size _ rfl)
 have U:((s.heap.push { cls:=.type "list_iterator",data:=.fields #[.ref l,.int 0 0] }).push (seqObj "list" #[] 0)).get? (s.heap.push { cls:=.type "list_iterator",data:=.fields #[.ref l,.int 0 0] }).objs.size=some (seqObj "list" #[] 0):=Heap.get?_push_size _ rfl;have T:∀b o,s.heap.get? b=some o->((s.heap.push { cls:=.type "list_iterator",data:=.fields #[.ref l,.int 0 0] }).push (seqObj "list" #[] 0)).get? b=some o:=λb o e=>Heap.get?_push_of_some _ (Heap.get?_push_of_some _ e);have u:((s.heap.push { cls:=.type "list_iterator",data:=.fields #[.ref l,.int 0 0] }).push (seqObj "list" #[] 0)).IsList l vs.toArray:=by
  obtain⟨o,e,r⟩:=G;exact⟨o,T l o e,r⟩
 have old:∀b o,s.heap.get? b=some o->b≠s.heap.objs.size/\b≠(s.heap.push { cls:=.type "list_iterator",data:=.fields #[.ref l,.int 0 0] }).objs.size:=λb o e=>by
  have h1:=Heap.lt_size e;exact⟨yo h1,by rw[L];exact yo (Nat.lt_succ_of_lt h1)⟩
 have W:=Walks.list (prog:=prog) (w:=w) (A:=A.in1) Z s.heap.objs.size l z vs.toArray;have H:vs.toArray.size=vs.length:=yl ..;generalize hSa:(s.heap.push { cls:=.type "list_iterator",data:=.fields #[.ref l,.int 0 0] }).objs.size=Sa at *
 generalize hH2:(s.heap.push { cls:=.type "list_iterator",data:=.fields #[.ref l,.int 0 0] }).push (seqObj "list" #[] 0)=H2 at *
 refine codeAny_builtin PySem.F.entry_min_loop ?_;rw[Around.under_plainId PySem.F.plain_min_loop _];show wpAny _ A.in1 (seqItems? (.ref Sa) >>= _) _ _ _;refine wpAny_bind (wpAny_seqItems U rfl ?_);show wpAny _ A.in1 (tryCatch (pyNext (.ref s.heap.objs.size)) _ >>= _) _ _ _;by_cases p:vs=[]
 ·subst p;refine wpAny_bind (wpAny_tryCatch (W.done _ _ _ ⟨⟨_,X,rfl,rfl⟩,u⟩ λh' a f=>?_));refine wpAny_bind (wpAny_rule (wpAny_pure ?_));exact hD rfl h' a λb o e=>f b o (by simpa using(old b o e).1) (T b o e)
 have g:0<vs.length:=List.length_pos_iff.mpr p;refine wpAny_bind (wpAny_tryCatch (W.item 0 _ _ _ (by rw[H];exact g) ⟨⟨_,X,rfl,rfl⟩,u⟩ λv h' a hP C f=>?_));have hv:vs[0]?=some v:=by simpa using hP
 obtain⟨O,q,M,N⟩:=id C.1;have Y:∀b o,s.heap.get? b=some o->h'.get? b=some o:=λb o e=>f b o (by simpa using(old b o e).1) (T b o e);have n:=f Sa _ (by simpa using m) U;show wpAny _ A.in1 (tryCatch (holding [v] (call (.builtin kid) [v])) _ >>= _) _ _ _;refine wpAny_bind (wpAny_tryCatch (wpAny_holding (wpAny_mono (turn 0 v hv h' a Y) (λx B he=>?_) λ_ _ hF=>hF.elim)));obtain⟨a1,k,rfl,rfl⟩:=he;have V:=Heap.SameBut.update h' Sa (Obj.mapSeq λ_=>#[v,.int (kf 0) k]);obtain⟨P,S⟩:∃P,(h'.update Sa (Obj.mapSeq λ_=>#[v,.int (kf 0) k])).get? Sa=some (seqObj "list" #[v,.int (kf 0) k] P):=⟨_,get?_update_seq n λ_=>#[v,.int (kf 0) k]⟩
 show wpAny _ A.in1 (updateSeq Sa (λ_=>#[v,.int (kf 0) k]) >>= _) _ _ _;refine wpAny_bind ?_;refine wpAny_updateSeq n rfl ?_;rw[c];have K2:zef s.heap.objs.size Sa s.heap (h'.update Sa (Obj.mapSeq λ_=>#[v,.int (kf 0) k])):=λb o n1 n2 e=>(V.2 b n2).trans (Y b o e);refine wpAny_pure ⟨plainId_quiet PySem.F.plain_min_loop _,zrv (s:=s) kf Z G z m R (λi v hi h tk K=>turn i v hi h tk λb o e=>K b o (old b o e).1 (old b o e).2 e) (λi v I D hi hb K=>hQ i v I D hi hb λb o e=>K b o (old b o e).1 (old b o e).2 e) _ 0 0 _ _ v k P rfl g K2 S ⟨O,(V.2 _ m.symm).trans q,M,N⟩ hv (yg _) λj' a0=>?_⟩;have e:j'=0:=by lia
 subst e;exact⟨⋯,λh=>absurd h (Nat.lt_irrefl _)⟩
end
noncomputable def zlh (K:Fg) (Q:VK) (vs:List V) (H1:Hp):Prop:=∃(a:Addr) (ls:List Addr) (n:Nat->Nat),vs=[.ref a]/\SqL K H1 a (ls.map V.ref)/\(∀i b,ls[i]?=some b->∃xs,H1 b=some (.lst xs)/\xs.length=n i/\n i<=16000) /\
 ∀p H2,H1 p=none->Same H1 H2->H2 p=some (.lst [])->(ls=[]->Q (.ref p) H2)/\∀i b,ls[i]?=some b->(∀j,j<ls.length->n i<=n j/\(j<i->n i<n j))->Q (.ref b) H2
noncomputable def zll (K:Fg) (ta:TA):TE:=λσ H Q=>ta σ H (zlh K Q)
def zn4{p pos kp R dp O:Pos}{ta:TA}(hc:X.calm=true)(hg:Gl X "min")(hm:X.mg "min" = none)(hv:bootBuiltins "min" = some (.builtin "min"))(N:Gl X "len")(D:X.mg "len" = none)(F:bootBuiltins "len" = some (.builtin "len"))(Z:PA X [e] ta)
  (he:autoParam (backTo pos (starEach [e] X.env)=(false,eval e X.env) :: backTo pos (starEach [] X.env)) Internal.aut2._auto_1)
  (hplain:autoParam ((backTo pos (starEach [e] X.env)).any (·.1)=false) Internal.aut2._auto_1):PE X (.Call (.Name "min" p) [e] [⟨some "key",.Name "len" R,kp⟩,⟨some "default",Expr.List [] dp,O⟩] pos) (zll X.K ta):=by
 intro pins s σ H Q I h;refine wpAny_Call_Name_kw (zb2 I hg hm hv ?_ (by decide) (by decide));refine PyProof.Rows.callWith_kw ?_ he hplain;refine thn (Z pos pins s σ H _ I h) λus P G=>?_;obtain⟨vs,H1,U,rv,a,x,n,rfl,hq,hn,kk⟩:=G;obtain⟨u1,rfl,Y⟩:=vals1 rv;cases Y;show wpAny (model X.prog X.w) X.A (evalAll ((do let v <- eval (.Name "len" R) X.env;standAt pos;pure v) :: (backToKw pos (keywordEach [⟨some "default",Expr.List [] dp,O⟩] X.env)).map (·.2))) _ _ P;refine wpAny_evalAll_cons (wpAny_bind (zb2 U N D F (wpAny_bind (wpAny_standAt (wpAny_pure ?_))) (by decide) (by decide)));refine thn (zlT (t:=zfA) (nm:=some "default") (kpos:=O) (zO (zd (X:=X))) znI pos pins P σ H1 (λws H2=>∃p,ws=[.ref p]/\H1 p=none/\Same H1 H2/\H2 p=some (.lst [])) U ?_) λkvs y G=>?_
 ·exact⟨Nat.zero_le _,λp hp=>⟨p,rfl,hp,Same.new hp _,zQ⟩⟩
 obtain⟨ws,H2,l,C,p2,rfl,fp,e2,hp⟩:=G;obtain⟨u2,rfl,r3⟩:=vals1 C;cases r3;show wpAny (model X.prog X.w) X.A (call (.builtin "min") [.ref a] [(Str.ofString "key",.builtin "len"),(Str.ofString "default",.ref p2)]) (EP X pins σ Q) X.xe y;obtain⟨its,E,pl,B,a0⟩:=l.walk (hq.keep e2);have f:its.length=x.length:=by rw[B,yc]
 have get:∀{i:Nat} {v:Value},its[i]?=some v->∃b,x[i]?=some b/\v=.ref b:=λ{i v} hi=>by
  have a3:=(yi.mp hi).1;obtain⟨b,d⟩:=zP (show i<x.length by lia);obtain⟨u,S,ru⟩:=E.get (show(x.map V.ref)[i]?=some (.ref b) by rw[yf,d];rfl);rw[hi]at S;cases S;exact⟨b,d,ru⟩
 obtain⟨kd,kl⟩:=kk p2 H2 fp e2 hp;refine zq2 (kf:=λi=>(n i:Int)) (l.ok.hd hc) pl (λi v hi h tk K=>?_) (λi v h' c hi d K=>?_) λg h' c K=>?_
 ·obtain⟨b,d,rfl⟩:=get hi;obtain⟨xs,hx,a1,T⟩:=hn i b d;obtain⟨m,rb,pb,a2,_⟩:=l.walk (SqL.of (e2.at hx));have M:h.IsList b m.toArray:=by
   obtain⟨o,q,r⟩:=pb;exact⟨o,K b o q,r⟩
  refine PySem.W.kun_lenL (s:={ y with heap:=h,toks:=tk }) M (k:=(n i:Int)) (by rw[yl];lia) ⋯ ⟨_,_,rfl,rfl⟩
 ·obtain⟨b,L,rfl⟩:=get hi;have J:Inv X pins σ H2 { y with heap:=h',toks:=c }:=l.kept λb o z=>K b o z;refine⟨.ref b,H2,J,rfl,kl i b L λj hj=>?_⟩;have h3:=d j ⋯;exact⟨⋯,λz=>by have:=h3.2 z;lia⟩
 ·have J:Inv X pins σ H2 { y with heap:=h',toks:=c }:=l.kept λb o z=>K b o z;exact⟨.ref p2,H2,J,rfl,kd (by
   have:x.length=0:=by rw[<- f,g];rfl
   exact List.eq_nil_of_length_eq_zero this)⟩
open PySem PySem.Spec PyProof.Rows
section
variable {X:Cx}{pins:List (Addr × Obj)}{s s':Shared}{σ:St}{H H':Hp}{pos:Pos}
end
theorem IsQs.setQ{H:Hp}{p:Addr}{q:Rat}(hp:IsQ H p q):∀{vs:List V} {qs:List Rat} (j:Nat),IsQs H vs qs->IsQs H (vs.set j (.ref p)) (qs.set j q)
 | [],[],j,h=>by cases j<;>exact h
 | _ :: _,[],_,h=>by simp[IsQs]at h
 | [],_ :: _,_,h=>by simp[IsQs]at h
 | v :: vs,r :: rs,0,h=>⟨⟨p,rfl,hp⟩,h.2⟩
 | v :: vs,r :: rs,j+1,h=>⟨h.1,IsQs.setQ hp (vs:=vs) (qs:=rs) j h.2⟩
def zlC{j:Nat}{g:Nat->Rat}:((List.range n).map g).set j q=(List.range n).map λm=>if m=j then q else g m:=by
 apply List.ext_getElem?;intro i;rw[List.getElem?_set,yf,yf,yc,List.length_range];by_cases h:i<n
 ·rw[List.getElem?_range h];by_cases e:j=i
  ·subst e;rw[if_pos rfl,if_pos h];show _=some (if j=j then q else g j);rw[if_pos rfl]
  ·rw[if_neg e];show some (g i)=some (if i=j then q else g i);rw[if_neg (λz=>e z.symm)]
 ·rw[List.getElem?_eq_none (by rw[List.length_range];lia)];by_cases e:j=i
  ·rw[if_pos e,if_neg ⋯];rfl
  ·rw[if_neg e];rfl
def zrs{r:Int}{o:Option Nat}(h:0<=r)(q:Q (.bl (decide (o=some r.toNat))) H):zex K (.int r) (zbM o) H Q:=by
 cases o with
 | none=>
  refine .inr ⟨rfl,?_⟩;have e:decide ((none:Option Nat)=some r.toNat)=false:=by simp
  rw[e]at q;have e2:decide (V.int r=zbM none)=false:=by simp[zbM]
  rw[e2];exact q
 | some m=>
  refine zqo ?_;have e:decide (r=((m:Nat):Int))=decide (some m=some r.toNat):=by
   rw[decide_eq_decide];constructor
   ·intro h;congr 1;lia
   ·intro h;have:=yk h;lia
  rw[e];exact q
noncomputable def zis (K:Fg):Sp:=λvs H Q _=>∃(a b:Addr) (ds:List Due) (n:Nat) (ρ:Nat->Option Nat),vs=[.ref a,.ref b]/\IsSh K H a ds/\H b=some (.lst (zar n ρ))/\n<=9/\(∀d∈ds,zaM n d) /\
 ∀l H' as,H l=none->Same H H'->H' l=some (.lst (List.map V.ref as))->as.length=n->Rows H' as n (za7 ρ ds)->(∀b∈as,H b=none)->Q (.ref l) H'
def zoH:=λ{K:Fg} {a b:Addr} {ds:List Due} {n:Nat} {ρ:Nat->Option Nat} {H:Hp} {Q:VK} {E:XK} h hb n1 hd q=>@id (zis K [.ref a,.ref b] H Q E) ⟨a,b,ds,n,ρ,rfl,h,hb,n1,hd,q⟩
abbrev zqJ(l:List Nat):List Int:=l.map fun(x:Nat)=>(x:Int)
abbrev zaU(l:List Nat):List V:=(zqJ l).map V.int
def intsN_mem{l:List Nat}{x:Nat}:((x:Int)∈zqJ l)↔x∈l:=by
 rw[List.mem_map];constructor
 ·rintro⟨y,h,e⟩;rw[<- Int.ofNat.inj e];exact h
 ·exact λh=>⟨x,h,rfl⟩
def zaI{l:List Nat}:(zaU l).length=l.length:=by simp
def zfu{l l':List Nat}:zaU (l++l')=zaU l++zaU l':=by simp
def zci{l:List Nat}(h:k<l.length):(zaU l)[k]?=some (.int ((l.getD k 0:Nat):Int)):=by
 rw[yf,yf,List.getElem?_eq_getElem h,yn,List.getElem?_eq_getElem h];rfl
def zdH{P:Nat->Bool}{j:Nat}:(List.range (j+1)).filter P=(List.range j).filter P++if P j=true then[j] else[]:=by
 rw[List.range_succ,List.filter_append];by_cases h:P j=true
 ·rw[if_pos h,List.filter_cons_of_pos h];rfl
 ·rw[if_neg h,List.filter_cons_of_neg h];rfl
def zrZ{α:Type}{P:α->Bool}{x:α}:[x].filter P=if P x=true then[x] else[]:=by
 by_cases h:P x=true
 ·rw[if_pos h,List.filter_cons_of_pos h];rfl
 ·rw[if_neg h,List.filter_cons_of_neg h];rfl
theorem zfR:∀(ls:List (List Nat)) (l0 l:List Nat) (i:Nat),(l0 :: ls)[i]?=some l->(∀(j:Nat) (m:List Nat),(l0 :: ls)[j]?=some m->l.length<=m.length/\(j<i->l.length<m.length))->ls.foldl (λb c=>if c.length<b.length then c else b) l0=l
 | [],l0,l,0,h,_=>yk h
 | [],l0,l,i+1,h,_=>by cases h
 | d :: ls,l0,l,0,h,c=>by
  have e:l0=l:=yk h;subst e;have h1:=(c 1 d rfl).1;show ls.foldl _ (if d.length<l0.length then d else l0)=l0;rw[if_neg ⋯];refine zfR ls l0 l0 0 rfl λj m a=>?_;cases j with
  | zero=>cases a;exact⟨yg _,λz=>absurd z (Nat.lt_irrefl _)⟩
  | succ j=>exact⟨(c (j+2) m a).1,λz=>absurd z (Nat.not_lt_zero _)⟩
 | d :: ls,l0,l,1,h,c=>by
  have e:d=l:=yk h;subst e;have h1:=(c 0 l0 rfl).2 ⋯;show ls.foldl _ (if d.length<l0.length then d else l0)=d;rw[if_pos h1];refine zfR ls d d 0 rfl λj m a=>?_;cases j with
  | zero=>cases a;exact⟨yg _,λz=>absurd z (Nat.lt_irrefl _)⟩
  | succ j=>exact⟨(c (j+2) m a).1,λz=>absurd z (Nat.not_lt_zero _)⟩
 | d :: ls,l0,l,i+2,h,c=>by
  have f:=(c 0 l0 rfl).2 ⋯;have h1:=(c 1 d rfl).2 ⋯;show ls.foldl _ (if d.length<l0.length then d else l0)=l;refine zfR ls _ l (i+1) h λj m a=>?_;cases j with
  | zero=>
   have e:=yk a;have h2:l.length<m.length:=by
    rw[<- e];by_cases z:d.length<l0.length
    ·rw[if_pos z];exact h1
    ·rw[if_neg z];exact f
   exact⟨Nat.le_of_lt h2,λ_=>h2⟩
  | succ j=>exact⟨(c (j+2) m a).1,λz=>(c (j+2) m a).2 ⋯⟩
def zq4{a:List (List Nat)}{l:List Nat}(h:a[i]?=some l)(c:∀(j:Nat) (m:List Nat),a[j]?=some m->l.length<=m.length/\(j<i->l.length<m.length)):Rc.minL a=l:=by
 cases a with
 | nil=>cases h
 | cons l0 a=>exact zfR a l0 l i h c
def zdn{l:List Nat}(h:k<l.length)(a:∀x∈l,x<n):l.getD k 0<n:=by
 rw[yn,List.getElem?_eq_getElem h];exact a _ (List.getElem_mem h)
noncomputable def LsOf (H:Hp) (as:List Addr) (b:List (List Nat)):Prop:=as.length=b.length/\∀(i:Nat) (a:Addr),as[i]?=some a->∃l,b[i]?=some l/\H a=some (.lst (zaU l))
def LsOf.nil:LsOf H [] []:=⟨rfl,λ_ _ h=>nomatch h⟩
def LsOf.same{b:List (List Nat)}(h:LsOf H as b)(e:Same H H'):LsOf H' as b:=⟨h.1,λi a q=>by obtain⟨l,h1,h2⟩:=h.2 i a q;exact⟨l,h1,e.at h2⟩⟩
def LsOf.but{b:List (List Nat)}{D:Addr}(h:LsOf H as b)(e:LBut D H H')(n:D∉as):LsOf H' as b:=
 ⟨h.1,λi a q=>by obtain⟨l,h1,h2⟩:=h.2 i a q;exact⟨l,h1,e.lst h2 λz=>n (z▸ym q)⟩⟩
def LsOf.snoc{c:List (List Nat)}{l:List Nat}(h:LsOf H as c)(d:H a=some (.lst (zaU l))):LsOf H (as++[a]) (c++[l]):=
 ⟨by rw[ye,ye,h.1];rfl,λi b q=>by
  rcases Nat.lt_trichotomy i as.length with hi | hi | hi
  ·rw[List.getElem?_append_left hi]at q;rw[List.getElem?_append_left (by rw[<- h.1];exact hi)];exact h.2 i b q
  ·rw[hi,List.getElem?_concat_length]at q;cases q;exact⟨l,by rw[hi,h.1,List.getElem?_concat_length],d⟩
  ·rw[List.getElem?_eq_none (by rw[ye];simp only[List.length_singleton];lia)]at q;cases q⟩
noncomputable def zhO (K:Fg):Sp:=λvs H Q _=>∃(a:Addr) (i n:Nat) (as:List Addr) (F:Nat->Nat->Int),vs=[.ref a,.int i]/\H a=some (.lst (as.map V.ref))/\as.length=n/\Rows H as n F/\n<=9/\i<n /\
 ∀p H',H p=none->Same H H'->H' p=some (.lst (zaU (Rc.reach n (λi j=>decide (0<F i j)) i)))->Q (.ref p) H'
def znG:=λ{K:Fg} {a:Addr} {i n:Nat} {as:List Addr} {F:Nat->Nat->Int} {H:Hp} {Q:VK} {E:XK} h hl hR h9 hi q=>@id (zhO K [.ref a,.int i] H Q E) ⟨a,i,n,as,F,rfl,h,hl,hR,h9,hi,q⟩
noncomputable def zgK (K:Fg):Sp:=λvs H Q _=>∃(a b:Addr) (n:Nat) (as:List Addr) (F:Nat->Nat->Int) (ρ:Nat->Option Nat),vs=[.ref a,.ref b]/\H a=some (.lst (as.map V.ref))/\as.length=n/\Rows H as n F/\H b=some (.lst (zar n ρ))/\n<=9 /\
 ∀p H',H p=none->Same H H'->H' p=some (.lst (zaU (Rc.circle n (λi j=>decide (0<F i j)) λi=>(ρ i).isSome)))->Q (.ref p) H'
def zm3:=λ{K:Fg} {a b:Addr} {n:Nat} {as:List Addr} {F:Nat->Nat->Int} {ρ:Nat->Option Nat} {H:Hp} {Q:VK} {E:XK} h hl hR hb h9 q=>@id (zgK K [.ref a,.ref b] H Q E) ⟨a,b,n,as,F,ρ,rfl,h,hl,hR,hb,h9,q⟩
def PRows.upd{F:Nat->List Rat}{j:Nat}{G:List Rat}(h:PRows H as F)(g:LBut a H H')(d:as[j]?=some a)(h':H' a=some (.lst vs))(i:IsQs H' vs G):PRows H' as (λm=>if m=j then G else F m):=by
 refine⟨h.1,λm b c=>?_⟩;by_cases e:m=j
 ·subst e;rw[d]at c;cases c;show ∃vs,H' a=some (.lst vs)/\IsQs H' vs (if m=m then G else F m);rw[if_pos rfl];exact⟨_,h',i⟩
 ·obtain⟨us,k,f⟩:=h.2 m b c;show ∃vs,H' b=some (.lst vs)/\IsQs H' vs (if m=j then G else F m);rw[if_neg e];exact⟨us,g.lst k λz=>e (zdV h.1 c (z▸d)),LBut.isQs g f⟩
noncomputable def zib (n:Nat) (F:Nat->Nat->Int) (c:List Nat) (a b:Nat):Int:=if a=b then zah (vec n (F (c.getD a 0)))else -F (c.getD b 0) (c.getD a 0)
noncomputable def zmZ (K:Fg):Sp:=λvs H Q _=>∃(a b:Addr) (n:Nat) (as:List Addr) (F:Nat->Nat->Int) (c:List Nat),vs=[.ref a,.ref b]/\H a=some (.lst (as.map V.ref))/\as.length=n/\Rows H as n F/\H b=some (.lst (zaU c))/\(∀x∈c,x<n)/\c.length<=9/\n<=9 /\
 ∀p H' bs,H p=none->Same H H'->H' p=some (.lst (List.map V.ref bs))->bs.length=c.length->PRows H' bs (λa=>(List.range c.length).map λb=>((zib n F c a b:Int):Rat))->(∀b∈bs,H b=none)->Q (.ref p) H'
def zlj:=λ{K:Fg} {a b:Addr} {n:Nat} {as:List Addr} {F:Nat->Nat->Int} {c:List Nat} {H:Hp} {Q:VK} {E:XK} h hl hR hb hc c9 h9 q=>@id (zmZ K [.ref a,.ref b] H Q E) ⟨a,b,n,as,F,c,rfl,h,hl,hR,hb,hc,c9,h9,q⟩
noncomputable def zmJ (n:Nat) (F:Nat->Nat->Int) (c:List Nat) (x:Nat->Rat) (i:Nat):Rat:=sF c.length (λa=>c.getD a 0) x i*((zah (vec n (F i)):Int):Rat)
noncomputable def zlW (K:Fg):Sp:=λvs H Q _=>∃(a b d:Addr) (n:Nat) (as:List Addr) (F:Nat->Nat->Int) (c:List Nat) (ws:List V) (x:Nat->Rat),vs=[.ref a,.ref b,.ref d]/\H a=some (.lst (as.map V.ref))/\as.length=n/\Rows H as n F/\H b=some (.lst (zaU c))/\(∀x∈c,x<n)/\c.Nodup/\c.length<=9/\n<=9/\H d=some (.lst ws)/\IsQs H ws ((List.range c.length).map x)/\(∀m,m<c.length->OkQ (x m))/\(∀i,i<n->OkQ ((zah (vec n (F i)):Int):Rat)) /\
 ∀p H' vs,H p=none->Same H H'->H' p=some (.lst vs)->IsQs H' vs ((List.range n).map (zmJ n F c x))->Q (.ref p) H'
def zn5:=λ{K:Fg} {a b d:Addr} {n:Nat} {as:List Addr} {F:Nat->Nat->Int} {c:List Nat} {ws:List V} {x:Nat->Rat} {H:Hp} {Q:VK} {E:XK} h hl hR hb hc nd c9 h9 hd hx z1 z2 q=>@id (zlW K [.ref a,.ref b,.ref d] H Q E) ⟨a,b,d,n,as,F,c,ws,x,rfl,h,hl,hR,hb,hc,nd,c9,h9,hd,hx,z1,z2,q⟩
def zbF:sz (1:Int)<=1:=zW (by decide)
def zcR{x:Int}{z:Nat}(h:sz x<=z):SzQ ((x:Int):Rat) z 1:=⟨h,zbF⟩
noncomputable def shorts (n:Nat) (ρ:Nat->Option Nat):List Nat:=(List.range n).filter λi=>(ρ i).isSome
def znm{ρ:Nat->Option Nat}:∀x∈shorts n ρ,x<n:=λx h=>List.mem_range.mp (List.mem_filter.mp h).1
def znF{ρ:Nat->Option Nat}:(shorts n ρ).Nodup:=List.nodup_range.filter _
def zmM{ρ:Nat->Option Nat}:(shorts n ρ).length<=n:=by
 have:=List.length_filter_le (λi=>(ρ i).isSome) (List.range n)
 rw[List.length_range]at this;exact this
noncomputable def zoD (K:Fg):Sp:=λvs H Q _=>∃(a b d e:Addr) (n:Nat) (as:List Addr) (ds:List Due) (l r:Nat->Rat) (us ws:List V),vs=[.ref a,.ref b,.ref d,.ref e]/\H a=some (.lst (as.map V.ref))/\as.length=n/\Rows H as 3 (zK ds)/\H b=some (.lst (zar n (stp ds l)))/\H d=some (.lst us)/\IsQs H us ((List.range n).map l)/\H e=some (.lst ws)/\IsQs H ws ((List.range n).map r)/\n<=9/\(∀i,i<n->0<r i->stp ds l i≠none/\OkQ (l i)/\OkQ (zde ds l i)/\OkQ (zde ds l i-l i)/\SzQ (r i) 8999 8999/\SzQ (zaO ds l r i) 60000 60000) /\
 (za1 ds l r n=none->∀H',Same H H'->Q .non H')/\(∀x,za1 ds l r n=some x->∀p H',Same H H'->IsQ H' p x->Q (.ref p) H')
def zqa:=λ{K:Fg} {a b d e:Addr} {n:Nat} {as:List Addr} {ds:List Due} {l r:Nat->Rat} {us ws:List V} {H:Hp} {Q:VK} {E:XK} h hl hR hb hd hu he hw h9 z q1 q2=>@id (zoD K [.ref a,.ref b,.ref d,.ref e] H Q E) ⟨a,b,d,e,n,as,ds,l,r,us,ws,rfl,h,hl,hR,hb,hd,hu,he,hw,h9,z,q1,q2⟩
noncomputable def zln (K:Fg):Sp:=λvs H Q _=>∃(d e s:Addr) (n:Nat) (l r:Nat->Rat) (t:Rat) (us ws:List V),vs=[.ref d,.ref e,.ref s]/\H d=some (.lst us)/\IsQs H us ((List.range n).map l)/\H e=some (.lst ws)/\IsQs H ws ((List.range n).map r)/\IsQ H s t/\n<=9/\OkQ t/\(∀i,i<n->OkQ (l i)/\OkQ (r i)/\OkQ (r i*t)) /\
 ∀p H' vs,H p=none->Same H H'->H' p=some (.lst vs)->IsQs H' vs ((List.range n).map λi=>l i+r i*t)->Q (.ref p) H'
def ziY:=λ{K:Fg} {d e s:Addr} {n:Nat} {l r:Nat->Rat} {t:Rat} {us ws:List V} {H:Hp} {Q:VK} {E:XK} hd hu he hw hs h9 z0 z q=>@id (zln K [.ref d,.ref e,.ref s] H Q E) ⟨d,e,s,n,l,r,t,us,ws,rfl,hd,hu,he,hw,hs,h9,z0,z,q⟩
noncomputable def zQs (n:Nat):List Rat:=(List.range n).map λ_=>0
def zhv:SzQ (0:Rat) 60000 60000:=⟨ya (zW (i:=0) (n:=0) (by decide)) (by decide),ya zbF (by decide)⟩
def zfM:OkQ (0:Rat):=⟨ya (zW (i:=0) (n:=0) (by decide)) (by decide),ya zbF (by decide)⟩
noncomputable def zce (ps:List Int):List Rat:=ps.map λp=>((p:Int):Rat)
noncomputable def gvS (row:Nat->LRow) (m i:Nat):Int:=My.sumTo (λj=>(row j).gv i) m
noncomputable def zoZ (K:Fg):Sp:=λvs H Q _=>∃(u r:Addr) (n:Nat) (pf:Nat->Int) (row:Nat->LRow) (tr:List (Addr × Addr × Addr)),vs=[.ref u,.ref r]/\H u=some (.lst ((vec n pf).map V.int))/\H r=some (.lst (tr.map λt=>V.ref t.1))/\LRs H n row tr/\n<=9/\tr.length<=100/\zcJ H Q (vec n λi=>pf i+gvS row tr.length i)
noncomputable def whQ (ns:List Int):List Rat:=ns.map λn=>((n:Int):Rat)
def zlN(h:(whQ ns)[i]?=some q):∃n,ns[i]?=some n/\q=((n:Int):Rat):=by
 unfold whQ at h;rw[yf]at h;cases e:ns[i]? with
 | none=>rw[e]at h;cases h
 | some n=>rw[e]at h;exact⟨n,rfl,(yk h).symm⟩
noncomputable def zo7 (K:Fg):Sp:=λvs H Q _=>∃(a:Addr) (ws:List V) (ns:List Int),vs=[.ref a]/\H a=some (.lst ws)/\IsQs H ws (whQ ns)/\ns.length<=20/\(∀x∈ns,sz x<=1000)/\zcJ H Q ns
noncomputable def zpL (K:Fg):Sp:=λvs H Q _=>∃(a r:Addr) (x y:Int),vs=[.ref a,.int 0]/\H a=some (.lst [.ref r])/\H r=some (.lst ([x,y].map V.int))/\x≠0/\∀p H',H p=none->Same H H'->H' p=some (.lst [.ref r])->Q (.ref p) H'
noncomputable def zpt (K:Fg):Sp:=λvs H Q _=>∃(a r:Addr) (x y b:Int),vs=[.ref a,.int 0,.int b]/\H a=some (.lst [.ref r])/\H r=some (.lst ([x,y].map V.int))/\∀p H',H p=none->Same H H'->H' p=some (.lst [.ref r])->Q (.ref p) H'
noncomputable def zou (K:Fg):Sp:=λvs H Q _=>∃(a r p b q:Addr) (x y:Int),vs=[.ref a,.ref b]/\H a=some (.lst [.ref r])/\H r=some (.lst [.ref p])/\IsQ H p ((x:Int):Rat)/\H b=some (.lst [.ref q])/\IsQ H q ((y:Int):Rat)/\0<x/\x<=1000000/\0<=y/\y<=1000000/\∀l z H',H l=none->Same H H'->H' l=some (.lst [.ref z])->IsQ H' z (Rat.divInt y x)->Q (.ref l) H'
section
variable {X:Cx}{a b e:Expr}{es:List Expr}{ta tb te:TE}{t:TA}{p pos:Pos}
def qIx(K:Fg)(e:PE X a ta)(c:PE X b tb)(d:autoParam (X.K=K) Internal.aut2._auto_1)(f:autoParam (zlt b) Internal.aut6._auto_1):PE X (.Subscript a b pos) (tOp (rIx K) ta tb):=by
 subst d;exact ztZ zsd e c f
def zaw(K:Fg)(a:autoParam (X.K=K) Internal.aut2._auto_1):OpR X (binaryOp .Add) (zg1 K):=by subst a;exact zr4
def qEq(K:Fg)(b:X.A.units+64<cLine)(a:autoParam (X.K=K) Internal.aut2._auto_1):OpR X (compareOp .Eq) (zex K):=by subst a;exact ztC b
def qNe(K:Fg)(b:X.A.units+64<cLine)(a:autoParam (X.K=K) Internal.aut2._auto_1):OpR X (compareOp .NotEq) (zfe K):=by subst a;exact ztb b
def zcd(K:Fg)(d:PE X a ta)(b:autoParam (X.K=K) Internal.aut2._auto_1)(c:autoParam (∀whole,isTrue a X.env whole=(do let v <- whole;standAt a.pos;holding [v] (truthy v))) Internal.aut7._auto_1):PT X a (zs7 K ta):=by
 subst b;exact zni d c
def zsZ(K:Fg)(c:PE X a ta)(b:autoParam (X.K=K) Internal.aut2._auto_1):PE X (.UnaryOp .Not a pos) (zmt K ta):=by subst b;exact zqV c
def zT(K:Fg){l:Expr}(b:PE X l tl)(a:autoParam (X.K=K) Internal.aut2._auto_1):PI X tg l (zmy K tl):=by subst a;exact zrO b
def zaz(K:Fg){kx:Nat}{tp:Pos}{ta:TA}(e:X.mg "enumerate" = none)(b:PA X [a] ta)(d:autoParam (Gl X "enumerate") Internal.aut2._auto_1)(f:autoParam (starEach [a] X.env=[(false,eval a X.env)]) Internal.aut2._auto_1)(c:autoParam (X.K=K) Internal.aut2._auto_1):PI X (.Tuple es kx tp) (.Call (.Name "enumerate" p) [a] [] pos) (zqc K ta):=by
 subst c;exact zq5 d e b f
def za5(K:Fg)(f:X.mg "len" = none)(g:PA X (e :: es) t)(d:autoParam (Gl X "len") Internal.aut2._auto_1)(c:autoParam (starEach (e :: es) X.env=(false,eval e X.env) :: starEach es X.env) Internal.aut2._auto_1)(a:autoParam ((backTo pos (starEach es X.env)).any (·.1)=false) Internal.aut2._auto_1)(b:autoParam (X.K=K) Internal.aut2._auto_1):PE X (.Call (.Name "len" p) (e :: es) [] pos) (tCB (zmI K) t):=by
 subst b;exact zaS zoe d f BT.len g (by decide) (by decide) c a
def zbZ(K:Fg)(f:X.mg "sum" = none)(g:PA X (e :: es) t)(d:autoParam (Gl X "sum") Internal.aut2._auto_1)(h:autoParam (X.calm=true) Internal.aut2._auto_1)(c:autoParam (starEach (e :: es) X.env=(false,eval e X.env) :: starEach es X.env) Internal.aut2._auto_1)(a:autoParam ((backTo pos (starEach es X.env)).any (·.1)=false) Internal.aut2._auto_1)(b:autoParam (X.K=K) Internal.aut2._auto_1):PE X (.Call (.Name "sum" p) (e :: es) [] pos) (tCB (zm0 K) t):=by
 subst b;exact zaS (znE h) d f BT.sum g (by decide) (by decide) c a
def zbq(K:Fg)(f:X.mg "isinstance" = none)(g:PA X (e :: es) t)(d:autoParam (Gl X "isinstance") Internal.aut2._auto_1)(c:autoParam (starEach (e :: es) X.env=(false,eval e X.env) :: starEach es X.env) Internal.aut2._auto_1)(a:autoParam ((backTo pos (starEach es X.env)).any (·.1)=false) Internal.aut2._auto_1)(b:autoParam (X.K=K) Internal.aut2._auto_1):PE X (.Call (.Name "isinstance" p) (e :: es) [] pos) (tCB (zgZ K) t):=by
 subst b;exact zaS zoi d f BT.isinstance g (by decide) (by decide) c a
def zgp(K:Fg)(f:X.mg "list" = none)(g:PA X (e :: es) t)(d:autoParam (Gl X "list") Internal.aut2._auto_1)(c:autoParam (starEach (e :: es) X.env=(false,eval e X.env) :: starEach es X.env) Internal.aut2._auto_1)(a:autoParam ((backTo pos (starEach es X.env)).any (·.1)=false) Internal.aut2._auto_1)(b:autoParam (X.K=K) Internal.aut2._auto_1):PE X (.Call (.Name "list" p) (e :: es) [] pos) (tCB (zdm K) t):=by
 subst b;exact zfq zmo d f BT.list g (by decide) (by decide) c a
def zu{P:List Str}{b:Scope}{pos':Pos}(i:Nat)(S:FnScope N P b)(g:PE X e te)(hi:autoParam (X.N[i]?=some x) Internal.aut2._auto_1)(c:autoParam (Loc X.env.scope x) Internal.aut8._auto_1)(a:autoParam (X.N=N) Internal.aut2._auto_1)(d:autoParam (swapsWith e (some (.Name x pos')) pos.line X.env=pure false) Internal.aut2._auto_1)(f:autoParam (X.fn x=true\/X.env.scope.names.lookup x=some .local) Internal.aut9._auto_1) :
  PS X (.Assign [.Name x pos'] e pos) (zj1 te (zbO i)):=zsw (a▸S.nd) hi c g d f
def qAp(K:Fg){o:Expr}{to:TE}{t:TA}{apos cpos:Pos}(a:PE X o to)(c:PA X [e] t)(b:autoParam (X.K=K) Internal.aut2._auto_1)
  (hbase:autoParam (attributeBase o "append" X.env (eval o X.env)=eval o X.env) Internal.aut2._auto_1)
  (hfew:autoParam (((backTo cpos (starEach [e] X.env)).all (λx=>!x.1)&&(backToKw cpos (keywordEach [] X.env)).all (λx=>x.1.isSome)
   && decide (([e]:List Expr).length+([]:List Keyword).length+(if([]:List Keyword).isEmpty then 0 else 1)<30))=true) Internal.aut2._auto_1)
  (hline:autoParam ((apos.endLine == cpos.line)=true) Internal.aut2._auto_1) (hs:autoParam (starEach [e] X.env=(false,eval e X.env) :: starEach [] X.env) Internal.aut2._auto_1) (hplain:autoParam ((backTo cpos (starEach [] X.env)).any (·.1)=false) Internal.aut2._auto_1) :
  PE X (.Call (.Attribute o "append" apos) [e] [] cpos) (tBM K "list" zbn to t):=by
 subst b;exact zmK PySem.F.plainAttrs_list PySem.F.slot_list_append PySem.F.type_list_append zi0 a c hbase hfew hline hs hplain
def qC1(Ni:List Str)(caps:List (Option Nat)){b:Pos}(hi:PI X (.Name x b) iter wi)(c:∀cs s₃ H₃ fp pins,PE (zaV X scope Ni cs s₃ H₃ fp pins) elt te)(g:autoParam (zen X.env.scope X.N scope Ni caps=true) Internal.aut2._auto_1)(d:autoParam (X.calm=true) Internal.aut2._auto_1)(e:autoParam (scope.names.lookup x=some .local\/scope.names.lookup x=some .cell) Internal.aut8._auto_1)(a:autoParam (Ni[0]?=some x) Internal.aut2._auto_1)(f:autoParam (∀x,foldedSetIterable iter X.env x=pure x) Internal.aut3._auto_1):PE X (.ListComp elt [⟨.Name x b,iter,[],0⟩] scope pos) (zeA wi caps (zbO 0) zfo te):=
 zeo d hi (zam g) (λS _ _ _ _ _=>zag S e a) (λ_ _ _ _ _=>zel) c f
def qS1(i:Nat){P:List Str}{k:Scope}{y:Str}{g a:Pos}(F:FnScope N P k)(Ni:List Str)(caps:List (Option Nat)){b:Pos}(hi:PI X (.Name x b) iter wi)(l:∀cs s₃ H₃ fp pins,PE (zaV X scope Ni cs s₃ H₃ fp pins) elt te)(e:autoParam (X.N[i]?=some y) Internal.aut2._auto_1)(h:autoParam (X.env.scope.names.lookup y=some .local) Internal.aut2._auto_1)(f:autoParam (X.N=N) Internal.aut2._auto_1)(j:autoParam (zen X.env.scope X.N scope Ni caps=true) Internal.aut2._auto_1)(m:autoParam (X.calm=true) Internal.aut2._auto_1)(n:autoParam (scope.names.lookup x=some .local\/scope.names.lookup x=some .cell) Internal.aut8._auto_1)(c:autoParam (Ni[0]?=some x) Internal.aut2._auto_1)(d:autoParam (swapsWith (.ListComp elt [⟨.Name x b,iter,[],0⟩] scope pos) (some (.Name y g)) a.line X.env=pure true) Internal.aut2._auto_1)(o:autoParam (∀x,foldedSetIterable iter X.env x=pure x) Internal.aut3._auto_1):PS X (.Assign [.Name y g] (.ListComp elt [⟨.Name x b,iter,[],0⟩] scope pos) a) (zj1 (zeA wi caps (zbO 0) zfo te) (zbO i)):=
 zcj (f▸F.nd) e h m hi (zam j) (λS _ _ _ _ _=>zag S n c) (λ_ _ _ _ _=>zel) l d o
def qC2(K:Fg)(Ni:List Str)(caps:List (Option Nat)){y:Str}{c e tp:Pos}{kx:Nat}(hi:PI X (.Tuple [.Name x c,.Name y e] kx tp) iter wi)(i:∀cs s₃ H₃ fp pins,PE (zaV X scope Ni cs s₃ H₃ fp pins) elt te)(g:autoParam (zen X.env.scope X.N scope Ni caps=true) Internal.aut2._auto_1)(d:autoParam (X.calm=true) Internal.aut2._auto_1)(j:autoParam (scope.names.lookup x=some .local\/scope.names.lookup x=some .cell) Internal.aut8._auto_1)(f:autoParam (scope.names.lookup y=some .local\/scope.names.lookup y=some .cell) Internal.aut8._auto_1)(b:autoParam (Ni[0]?=some x) Internal.aut2._auto_1)(a:autoParam (Ni[1]?=some y) Internal.aut2._auto_1)(h:autoParam (X.K=K) Internal.aut2._auto_1)(k:autoParam (∀x,foldedSetIterable iter X.env x=pure x) Internal.aut3._auto_1):PE X (.ListComp elt [⟨.Tuple [.Name x c,.Name y e] kx tp,iter,[],0⟩] scope pos) (zeA wi caps (zaT K 2 (zjA (zbO 0) (zjA (zbO 1) zpb))) zfo te):=by
 subst h;exact zeo d hi (zam g) (λS _ _ _ _ _=>zat (n:=2) d (zy (zag S j b) (zy (zag S f a) zaj))) (λ_ _ _ _ _=>zel) i k
end
noncomputable def r2 (s:Int) (i:Nat):Rat:=if i=0 then((s:Int):Rat)else 0
def zmO{ρ:Nat->Option Nat}(a:(ρ 0).isSome=true)(h1:ρ 1=none):shorts 2 ρ=[0]:=by
 unfold shorts;simp[List.range_succ,List.filter,a,h1]
def zrM{F:Nat->Nat->Int}{x:Nat->Rat}{s A:Int}(c:zah (vec 2 (F 0))=A)(f:0<A)(d:x 0=Rat.divInt s A):∀i,i<2->zmJ 2 F [0] x i=r2 s i:=λi hi=>by
 have e:∀j,sF 1 (λa=>([0]:List Nat).getD a 0) x j=if 0=j then x 0 else 0:=λj=>by
  unfold sF;show Dt.sm 1 _=_;simp[Dt.sm,Rat.zero_add]
 unfold zmJ r2;show sF 1 (λa=>([0]:List Nat).getD a 0) x i*_=_;rw[e];by_cases h:i=0
 ·subst h;rw[if_pos rfl,if_pos rfl,c,d];have b:((A:Int):Rat)≠0:=λz=>absurd (show A=0 by exact_mod_cast z) ⋯;rw[Rat.divInt_eq_div,Rat.div_mul_cancel b]
 ·rw[if_neg (λz=>h z.symm),if_neg h,Rat.zero_mul]
noncomputable def zry (K:Fg):Sp:=λvs H Q _=>∃(a b d:Addr) (as:List Addr) (F:Nat->Nat->Int) (ρ:Nat->Option Nat) (s z A:Int),vs=[.ref a,.ref b,.ref d]/\H a=some (.lst (as.map V.ref))/\as.length=2/\Rows H as 2 F/\H b=some (.lst (zar 2 ρ))/\(ρ 0).isSome=true/\ρ 1=none/\H d=some (.lst ([s,z].map V.int))/\zah (vec 2 (F 0))=A/\0<A/\A<=1000000/\zah (vec 2 (F 1))=0/\0<=s/\s<=1000000 /\
 ∀p H' vs,H p=none->Same H H'->H' p=some (.lst vs)->IsQs H' vs ((List.range 2).map (r2 s))->Q (.ref p) H'
open PySem PySem.Spec PyProof.Rows Dt
section
variable {n:Nat}{ds:List Due}{l p:Nat->Rat}{c:List Nat}{x:Nat->Rat}{t:Rat}
end
section
variable {n:Nat}{ds:List Due}{ps:List Int}{W P:Rat}{l:Nat->Rat}{t:Rat}{k:Nat}
end
section
variable {n:Nat}{ds:List Due}{ps:List Int}{W P:Rat}{l:Nat->Rat}{t:Rat}{k:Nat}
end
def zuc(h1:IsQ H a q)(h2:IsQ H b r)(k:Q (.bl (decide (q=r))) H):zex K (.ref a) (.ref b) H Q:=by
 have c:(dQ q).depth<=1:=by simp[dQ,PyData.depth,PyData.depthAll]
 refine zqx h1.rep h2.rep ⋯ ?_;rw[zuZ];exact k
open PySem PySem.Spec PyProof.Rows
noncomputable def due1 (A:Int):List Due:=[⟨0,1,0,A⟩]
section
variable {A x s:Int}
def rank1(i r:Nat):zK (due1 A) i r=if i=0/\r=0 then A else 0:=by
 show(if(0:Int)=(i:Int)/\(0:Int)=(r:Int)then 0+A else 0)=_
 by_cases h:i=0/\r=0
 ·rw[if_pos h,if_pos ⟨⋯,⋯⟩];lia
 ·rw[if_neg h,if_neg λz=>h ⟨⋯,⋯⟩]
def cum1(r:Nat):zbj (zK (due1 A) 0) (r+1)=A:=by
 induction r with
 | zero=>show 0+zK (due1 A) 0 0=A;rw[rank1,if_pos ⟨rfl,rfl⟩];lia
 | succ r ih=>show zbj (zK (due1 A) 0) (r+1)+zK (due1 A) 0 (r+1)=A;rw[ih,rank1,if_neg λz=>by lia];lia
def cum1'(r:Nat):zbj (zK (due1 A) 1) r=0:=by
 induction r with
 | zero=>rfl
 | succ r ih=>show zbj (zK (due1 A) 1) r+zK (due1 A) 1 r=0;rw[ih,rank1,if_neg λz=>by lia];rfl
def stp10(h:x<A):stp (due1 A) (r2 x) 0=some 0:=by
 have u:zbx (zK (due1 A) 0) (r2 x 0) 0:=by
  show x<zbj (zK (due1 A) 0) (0+1)*((1:Nat):Int)
  rw[cum1];lia
 unfold stp;have e1:zaN (zK (due1 A) 0) (r2 x 0) 1=some 0:=by show(if zbx _ _ 0 then some 0 else none)=_;rw[if_pos u]
 show(match (match zaN (zK (due1 A) 0) (r2 x 0) 1 with | some r=>some r | none=>_)with | some r=>some r | none=>_)=some 0
 rw[e1]
def stp11:stp (due1 A) (r2 x) 1=none:=by
 have u:∀r,¬zbx (zK (due1 A) 1) (r2 x 1) r:=λr z=>by
  have a:(0:Int)<zbj (zK (due1 A) 1) (r+1)*((1:Nat):Int):=z;rw[cum1']at a;lia
 unfold stp;simp[zaN,u]
def flow1(h:x<A)(i j:Nat):za7 (stp (due1 A) (r2 x)) (due1 A) i j=if i=0/\j=1 then A else 0:=by
 show(if(0:Int)=(i:Int)/\(1:Int)=(j:Int)/\stp (due1 A) (r2 x) i=some (0:Int).toNat then 0+A else 0)=_
 by_cases h1:i=0/\j=1
 ·obtain⟨rfl,rfl⟩:=h1;rw[if_pos ⟨rfl,rfl,stp10 h⟩,if_pos ⟨rfl,rfl⟩];lia
 ·rw[if_neg h1,if_neg λz=>h1 ⟨⋯,⋯⟩]
def flow1s(h:x<A):zah (vec 2 (za7 (stp (due1 A) (r2 x)) (due1 A) 0))=A/\zah (vec 2 (za7 (stp (due1 A) (r2 x)) (due1 A) 1))=0:=by
 constructor
 ·show zah [za7 _ _ 0 0,za7 _ _ 0 1]=A;rw[flow1 h,flow1 h];show 0+(if(0:Nat)=0/\(0:Nat)=1 then A else 0)+(if(0:Nat)=0/\(1:Nat)=1 then A else 0)=A
  simp
 ·show zah [za7 _ _ 1 0,za7 _ _ 1 1]=0;rw[flow1 h,flow1 h];show 0+(if(1:Nat)=0/\(0:Nat)=1 then A else 0)+(if(1:Nat)=0/\(1:Nat)=1 then A else 0)=0
  simp
def circle1{g:Nat->Nat->Bool}{sh:Nat->Bool}(h:sh 1=false)(a:g 0 1=true):Rc.circle 2 g sh=[]:=by
 have e:Rc.circles 2 g sh=[]:=by
  cases e:Rc.circles 2 g sh with
  | nil=>rfl
  | cons c cs=>
   obtain⟨i,hi,rfl,b⟩:=Rc.mem_circles.mp (show c∈Rc.circles 2 g sh by rw[e];exact .head _)
   have:1∈Rc.reach 2 g i:=by
    rcases(show i=0\/i=1 by lia)with rfl | rfl
    ·exact Rc.reach_closed (by decide) Rc.reach_start (by decide) a
    ·exact Rc.reach_start
   have:=b 1 this
   rw[h]at this;cases this
 unfold Rc.circle;rw[e];rfl
def room1(h:x<A):zde (due1 A) (r2 x) 0=((A:Int):Rat):=by
 unfold zde rkL;rw[stp10 h]
 show((zbj (zK (due1 A) 0) (0+1):Int):Rat)=_
 rw[cum1]
def zs0(h:x<A):za1 (due1 A) (r2 x) (r2 s) 2=if(0:Rat)<((s:Int):Rat)then some ((((A:Int):Rat)-((x:Int):Rat))/((s:Int):Rat))else none:=by
 have e1:¬(0:Rat)<r2 s 1:=by show ¬(0:Rat)<0;decide
 show(if 0<r2 s 1 then _ else(if 0<r2 s 0 then some (zaO (due1 A) (r2 x) (r2 s) 0)else none))=_
 rw[if_neg e1]
 show(if(0:Rat)<((s:Int):Rat)then some (zaO (due1 A) (r2 x) (r2 s) 0)else none)=_
 unfold zaO;rw[room1 h];rfl
end
def zoV{s Y:Int}(h:(if(0:Rat)<((s:Int):Rat)then some ((((Y:Int):Rat)-((0:Int):Rat))/((s:Int):Rat))else none)=some q)(d:s<Y)(f:Y<=1000000):(1:Rat)-0<q/\SzQ q 60000 60000:=by
 by_cases a:(0:Rat)<((s:Int):Rat)
 ·rw[if_pos a]at h;have c:0<s:=by exact_mod_cast a
  have e:(((Y:Int):Rat)-((0:Int):Rat))/((s:Int):Rat)=Rat.divInt Y s:=by
   rw[Rat.divInt_eq_div]
   have:((Y:Int):Rat)-((0:Int):Rat)=((Y:Int):Rat):=by
    show((Y:Int):Rat)-0=_
    grind
   rw[this]
  obtain rfl:=yk h;constructor
  ·rw[e,Rat.divInt_eq_div];have b:((s:Int):Rat)<((Y:Int):Rat):=by exact_mod_cast d
   rw[Rat.lt_div_iff a];grind
  ·rw[e];exact zck c (ya (zW (n:=20) ⋯) (by decide)) (ya (zW (n:=20) ⋯) (by decide))
 ·rw[if_neg a]at h;cases h
def zcL{A:Int}(a:0<=A)(h1:A<=1000000):∀d∈due1 A,zaM ((2:Nat):Int) d:=λd h=>by
 rw[yh.mp h];exact⟨by show(0:Int)<=0;decide,by show(0:Int)<2;decide,by show(0:Int)<=1;decide,by show(1:Int)<2;decide,by show(0:Int)≠1;decide,by show(0:Int)<=0;decide,by show(0:Int)<3;decide,a,by show A<=_;lia⟩
noncomputable def zmn (K:Fg):Sp:=λvs H Q _=>∃(a u:Addr) (A s z:Int),vs=[.ref a,.ref u]/\IsSh K H a (due1 A)/\H u=some (.lst ([s,z].map V.int))/\0<=s/\s<A/\A<=1000000/\∀p H' ws,H p=none->Same H H'->H' p=some (.lst ws)->IsQs H' ws ((List.range 2).map (r2 s))->Q (.ref p) H'
def onw0{g:Nat->Bool}:zcb (due1 0) g (due1 0).length m=none:=by
 show zcb (due1 0) g (0+1) m=none;rw[ziE (d:=⟨0,1,0,0⟩) rfl,if_neg]
 ·rfl
 ·intro z
  have:(0:Int)<0:=by first | exact z.1 | exact z.2.1 | exact z.2.2.1 | exact z.2.2.2
  lia
def way0{t:Nat}:zcK (due1 0) t m=none:=by
 cases t with
 | zero=>rfl
 | succ t=>exact onw0
def stops1{A s:Int}(h:s<A):znY (due1 A) ((List.range 2).map (r2 s))=[.int 0,.non]:=by
 have a:zaN (zK (due1 A) 0) (r2 s 0) 3=some 0:=stp10 h;have e1:zaN (zK (due1 A) 1) (r2 s 1) 3=none:=stp11
 show[zbM (zaN (zK (due1 A) 0) (r2 s 0) 3),zbM (zaN (zK (due1 A) 1) (r2 s 1) 3)]=_
 rw[a,e1];rfl
def with1{A:Int}:zbN (due1 A) (λi=>([0]:List Int).getD i 0)=due1 0:=rfl
def zun{s:Int}(b:0<=s)(h:s<=1000000):∀q∈(List.range 2).map (r2 s),SzQ q 60000 60000:=λq a=>by
 obtain⟨i,_,rfl⟩:=List.mem_map.mp a;unfold r2;split
 ·exact(zcR (zW (n:=20) ⋯)).mono (by decide) (by decide)
 ·exact zhv
noncomputable def zrF (K:Fg):Sp:=λvs H Q _=>∃a:Addr,vs=[.int 2,.ref a]/\IsSh K H a (due1 0)/\∀p H',H p=none->Same H H'->H' p=some (.lst [])->Q (.ref p) H'
noncomputable def zsB (K:Fg):Sp:=λvs H Q _=>∃a:Addr,vs=[.int 2,.ref a]/\IsSh K H a (due1 0)/\∀p l c H',H p=none->Same H H'->H' p=some (.tup [.ref l,.ref c])->H' l=some (.lst [.int 0])->Q (.ref p) H'
noncomputable def zr5 (K:Fg):Sp:=λvs H Q _=>∃(a u:Addr) (A s z:Int),vs=[.ref a,.ref u]/\IsSh K H a (due1 A)/\H u=some (.lst ([s,z].map V.int))/\0<=s/\s<A/\A<=1000000/\∀p H',H p=none->Same H H'->H' p=some (.lst [.int A])->Q (.ref p) H'
section
variable {A s z:Int}
def pay1(f:0<=s)(h:s<A):za6 (due1 A) ((List.range 2).map (r2 s)) ⟨0,1,0,A⟩=((s:Int):Rat):=by
 have b:zK (due1 A) 0 0=A:=by rw[rank1,if_pos ⟨rfl,rfl⟩]
 have c:(0:Int)<A:=by lia
 have a:((A:Int):Rat)≠0:=λq=>by
  have:A=0:=by exact_mod_cast q
  lia
 have e:((s:Int):Rat)<((A:Int):Rat):=by exact_mod_cast h
 have d:zbr (zK (due1 A) 0) ((s:Int):Rat) 0=((s:Int):Rat):=by
  unfold zbr;rw[b]
  show(if((A:Int):Rat)<((s:Int):Rat)then _ else((s:Int):Rat))=_
  rw[if_neg (λq=>by grind)]
 show((A:Int):Rat)*za2 (zK (due1 A) 0) ((s:Int):Rat) 0=_
 unfold za2;rw[b,if_pos c,d,Rat.mul_comm,Rat.div_mul_cancel a]
def got1{g:Due->Rat}:zdb (due1 A) g m=if m=1 then g ⟨0,1,0,A⟩else 0:=by
 show zdb ([]++[⟨0,1,0,A⟩]) g m=_;rw[znu]
 show(0:Rat)+(if(1:Int)=(m:Int)then _ else 0)=_
 rw[Rat.zero_add];by_cases h:m=1
 ·rw[if_pos h,if_pos ⋯]
 ·rw[if_neg h,if_neg ⋯]
end
def owes1{A:Int}:vec 2 (zbS (due1 A))=[A,0]:=by
 show[zbS (due1 A) 0,zbS (due1 A) 1]=_
 simp[zbS,due1]
noncomputable def zrw (K:Fg):Sp:=λvs H Q _=>∃(a u y:Addr) (A s z:Int) (ws:List V),vs=[.ref a,.ref u,.ref y]/\IsSh K H a (due1 A)/\H u=some (.lst ([s,z].map V.int))/\H y=some (.lst ws)/\IsQs H ws ((List.range 2).map (r2 s))/\0<=s/\s<A/\A<=1000000/\0<=z/\z<=1000000/\∀p H' vs,H p=none->Same H H'->H' p=some (.lst vs)->IsQs H' vs (zce [0,z+s])->Q (.ref p) H'
noncomputable def zrt (K:Fg):Sp:=λvs H Q _=>∃(a y:Addr) (A s:Int) (wl:List V),vs=[.ref a,.ref y]/\IsSh K H a (due1 A)/\H y=some (.lst wl)/\IsQs H wl ((List.range 2).map (r2 s))/\0<=s/\s<A/\A<=1000000/\zcJ H Q [0]
def zi4{f:Str}{u:V}{fs:List (Str × V)}:zZ f v (zZ f u fs)=zZ f v fs:=by
 induction fs with
 | nil=>simp[zZ]
 | cons p r ih=>
  obtain⟨g,x⟩:=p;by_cases h:g=f
  ·simp[zZ,h]
  ·simp[zZ,h,ih]
theorem zau{f g:Str}{u v:V}(n:¬f=g):∀{fs:List (Str × V)},(fs.lookup f).isSome=true->zZ f v (zZ g u fs)=zZ g u (zZ f v fs)
 | [],h=>by simp at h
 | (k,x) :: r,h=>by
  by_cases h1:k=f
  ·subst h1;simp[zZ,n]
  ·have h2:(r.lookup f).isSome=true:=by
    rw[List.lookup_cons]at h
    rwa [show(f == k)=false from by simpa using λz=>h1 z.symm]at h
   by_cases a:k=g
   ·subst a;simp[zZ,h1]
   ·simp[zZ,h1,a,zau n h2]
def zkD{f:Str}{fs:List (Str × V)}:((zZ f v fs).lookup f).isSome=true:=by rw[zk,if_pos rfl];rfl
def zaJ{f g:Str}{fs:List (Str × V)}(h:(fs.lookup f).isSome=true):((zZ g v fs).lookup f).isSome=true:=by
 rw[zk];split
 ·rfl
 ·exact h
def zfl(A:HA)(own c:Int):zZ "kept" (.int c) (hfl A own)=hfl A c:=by
 unfold hfl;have b:=zkD (f := "kept") (v:=.int own) (fs:=hfl3 A.pu A.pl A.sh);have p2:=zaJ (g := "moves") (v:=.ref A.mv) b;have a:=zaJ (g := "rule") (v:=.ref A.ru) p2;have e:=zaJ (g := "order") (v:=.ref A.od) a;have d:=zaJ (g := "book") (v:=.ref A.bk) e;have h:=zaJ (g := "outs") (v:=.ref A.ou) d;rw[zau (by decide +kernel) h,zau (by decide +kernel) d,zau (by decide +kernel) e,zau (by decide +kernel) a,zau (by decide +kernel) p2,zau (by decide +kernel) b,zi4]
def zij(A:HA)(own:Int)(a:Addr):zZ "purses" (.ref a) (hfl A own)=hfl { A with pu:=a } own:=by
 unfold hfl hfl3;have e:=zkD (f := "purses") (v:=.ref A.pu) (fs:=[]);have p2:=zaJ (g := "pledges") (v:=.ref A.pl) e;have d:=zaJ (g := "shares") (v:=.ref A.sh) p2;have i:=zaJ (g := "kept") (v:=.int own) d;have h:=zaJ (g := "moves") (v:=.ref A.mv) i;have b:=zaJ (g := "rule") (v:=.ref A.ru) h;have j:=zaJ (g := "order") (v:=.ref A.od) b;have c:=zaJ (g := "book") (v:=.ref A.bk) j;have k:=zaJ (g := "outs") (v:=.ref A.ou) c;rw[zau (by decide +kernel) k,zau (by decide +kernel) c,zau (by decide +kernel) j,zau (by decide +kernel) b,zau (by decide +kernel) h,zau (by decide +kernel) i,zau (by decide +kernel) d,zau (by decide +kernel) p2,zau (by decide +kernel) e,zi4]
def zjP{A:HA}{own:Int}:(hfl A own).length<1000:=Nat.lt_of_le_of_lt zrj (by decide)
noncomputable def KB (S:List Addr) (H H':Hp):Prop:=∀b o,b∉S->H b=some o->H' b=some o
section
variable {S:List Addr}{H H1 H2:Hp}
def KB.refl:KB S H H:=λ_ _ _ h=>h
def KB.at(e:KB S H H1)(h:H a=some o)(n:a∉S):H1 a=some o:=e a o n h
def KB.trans(e:KB S H H1)(f:KB S H1 H2):KB S H H2:=λb o n h=>f b o n (e b o n h)
def Same.kb(e:Same H H1):KB S H H1:=λb o _ h=>e b o h
def But.kb(e:But p H H1)(m:p∈S):KB S H H1:=λb o n h=>e.at h λz=>n (z▸m)
end
noncomputable def znR (C CE:Addr):Sp:=λvs H Q E=>∃(h dx:Addr) (A:HA) (own k:Int),vs=[.ref h,.int k]/\H h=some (.ins C dx (hfl A own))/\H A.re=some (.lst [])/\E (.ref CE) none H
structure HE(C:Addr)(H:Hp)(h dx:Addr)(A:HA)(own:Int)(n:Nat)(pf P S:Nat->Int):Prop where
 ob:H h=some (.ins C dx (hfl A own))
 pu:H A.pu=some (.lst ((vec n pf).map V.int))
 pl:H A.pl=some (.lst ((vec n P).map V.int))
 sh:H A.sh=some (.lst ((vec n S).map V.int))
 n1:A.pl≠A.pu
 n2:A.sh≠A.pu
 n3:A.pl≠A.sh
noncomputable def zth (C:Addr):Sp:=λvs H Q _=>∃(h dx en:Addr) (A:HA) (own:Int) (we:List V) (n:Nat) (pf:Nat->Int),vs=[.ref h,.ref en]/\H h=some (.ins C dx (hfl A own))/\H en=some (.lst we)/\IsQs H we (zce (vec n pf))/\n<=9/\(∀i,i<n->0<=pf i/\pf i<=1000000000000) /\
 ∀pu own' H',KB [h] H H'->H' h=some (.ins C dx (hfl { A with pu:=pu } own'))->Q .non H'
def not3{h s:Addr}(n1:a≠h)(n2:a≠p)(n3:a≠s):a∉[h,p,s]:=λz=>by
 rcases List.mem_cons.mp z with z | z
 ·exact n1 z
 rcases List.mem_cons.mp z with z | z
 ·exact n2 z
 ·exact n3 (yh.mp z)
section
variable {C:Addr}{H H':Hp}{h dx:Addr}{A:HA}{own:Int}{n:Nat}{pf P S:Nat->Int}
def HE.not(e:HE C H h dx A own n pf P S)(b:H a=some o)(n1:∀fs,o≠.ins C dx fs)(n2:∀f,o≠.lst ((vec n f).map V.int)):a∉[h,A.pl,A.sh]:=
 not3 (zV b e.ob (n1 _)) (zV b e.pl (n2 _)) (zV b e.sh (n2 _))
theorem HE.tup(e:HE C H h dx A own n pf P S)(k:KB [h,A.pl,A.sh] H H'){a:Addr}{xs:List V}(b:H a=some (.tup xs)):H' a=some (.tup xs):=
 k.at b (e.not b (λ_ z=>by cases z) λ_ z=>by cases z)
def HE.refs(e:HE C H h dx A own n pf P S)(k:KB [h,A.pl,A.sh] H H')(n1:1<=n){bs:List Addr}(c:H a=some (.lst (bs.map V.ref))):H' a=some (.lst (bs.map V.ref)):=by
 refine k.at c (e.not c (λ_ z=>by cases z) λf z=>?_);have z:=congrArg List.head? (HO.lst.inj z);rw[List.head?_map,List.head?_map]at z;cases bs with
 | nil=>
  have l:(vec n f).head?=none:=by
   cases h:(vec n f).head? with
   | none=>rfl
   | some x=>rw[h]at z;cases z
  have:=congrArg List.length (List.head?_eq_none_iff.mp l)
  rw[zI]at this;exact absurd this (by simp;lia)
 | cons b r=>
  cases h:(vec n f).head? with
  | none=>rw[h]at z;cases z
  | some x=>rw[h]at z;cases z
def HE.ints(e:HE C H h dx A own n pf P S)(k:KB [h,A.pl,A.sh] H H')(b:H a=some (.lst xs))(c:xs.length≠n):H' a=some (.lst xs):=
 k.at b (e.not b (λ_ z=>by cases z) λf z=>c (by rw[HO.lst.inj z,yc,zI]))
def HE.purses(e:HE C H h dx A own n pf P S)(k:KB [h,A.pl,A.sh] H H'):H' A.pu=some (.lst ((vec n pf).map V.int)):=
 k.at e.pu (not3 (zV e.pu e.ob (by intro z;cases z)) e.n1.symm e.n2.symm)
end
def KB.but{S:List Addr}(k:KB S H H1)(e:But p H1 H2)(m:p∈S):KB S H H2:=k.trans (e.kb m)
def KB.lbut{S:List Addr}(k:KB S H H1)(e:LBut p H1 H2)(m:p∈S):KB S H H2:=k.trans (e.1.kb m)
theorem IsQs.keepT{H H':Hp}(e:∀a xs,H a=some (.tup xs)->H' a=some (.tup xs)):∀{vs:List V} {qs:List Rat},IsQs H vs qs->IsQs H' vs qs
 | [],[],_=>trivial
 | v :: vs,q :: qs,⟨⟨a,z,h⟩,r⟩=>⟨⟨a,z,e _ _ h⟩,IsQs.keepT e r⟩
theorem zjY(pf:Nat->Int):∀n,zd3 (zce (vec n pf))=((zah (vec n pf):Int):Rat)
 | 0=>rfl
 | n+1=>by
  have e:zce (vec n pf++[pf n])=zce (vec n pf)++[((pf n:Int):Rat)]:=by unfold zce;rw[yj];rfl
  rw[zav,e,zdM,zch,zjY pf n];exact(Rat.intCast_add _ _).symm
theorem znb{pf:Nat->Int}:∀n,(∀i,i<n->0<=pf i/\pf i<=1000000000000)->0<=zah (vec n pf)/\zah (vec n pf)<=1000000000000*n
 | 0,_=>⟨Int.le_refl _,Int.le_refl _⟩
 | n+1,h=>by
  have a:=znb n λi hi=>h i (Nat.lt_succ_of_lt hi);have b:=h n (Nat.lt_succ_self n);rw[zav,zch];lia
section
variable {H H':Hp}
theorem IsTrs.ints:∀ns:List Int,IsTrs H (ns.map V.int) (ns.map Tr.int)
 | []=>.nil
 | n :: ns=>.cons (.int n) (IsTrs.ints ns)
theorem zd9{α:Type}{d:Nat}{f:α->Tr}:∀{l:List α},(∀x∈l,(f x).ok d)->Tr.oks d (l.map f)
 | [],_=>trivial
 | a :: l,h=>⟨h a (.head _),zd9 λx b=>h x (.tail _ b)⟩
def zcG{d:Nat}:Tr.oks d (ns.map Tr.int):=zd9 λ_ _=>trivial
noncomputable def qT (q:Rat):Tr:=.nod false [.int q.num,.int q.den]
def zqh{d:Nat}(q:Rat):(qT q).ok (d+1):=⟨yb (Nat.zero_le _),Nat.le_of_ble_eq_true rfl,trivial,trivial,trivial⟩
theorem IsQs.trs:∀{vs:List V} {qs:List Rat},IsQs H vs qs->IsTrs H vs (qs.map qT)
 | [],[],_=>.nil
 | v :: vs,q :: qs,⟨⟨a,z,h⟩,r⟩=>by
  subst z;exact .cons (.tup h (.cons (.int _) (.cons (.int _) .nil))) (IsQs.trs r)
theorem IsQs.refs:∀{vs:List V} {qs:List Rat},IsQs H vs qs->∃bs:List Addr,vs=bs.map V.ref
 | [],[],_=>⟨[],rfl⟩
 | v :: vs,q :: qs,⟨⟨a,z,h⟩,r⟩=>by
  obtain⟨bs,e⟩:=IsQs.refs r;exact⟨a :: bs,by rw[z,e];rfl⟩
noncomputable def zsi (n:Nat) (r:LRow):Tr:=.nod false [.str r.w,.nod true ((vec n r.gv).map Tr.int),.nod true ((vec n r.f++[r.x]).map Tr.int)]
def zsa(h:n<=9)(r:LRow):(zsi n r).ok 2:=
 ⟨by decide,Nat.le_of_ble_eq_true rfl,trivial,⟨by decide,by rw[yc,zI];lia,zcG⟩,⟨by decide,by rw[yc,ye,zI];simp;lia,zcG⟩,trivial⟩
theorem LRs.trs{n:Nat}{row:Nat->LRow}{tr:List (Addr × Addr × Addr)}(h:LRs H n row tr):∀k,k<=tr.length->IsTrs H ((tr.take k).map λt=>V.ref t.1) ((List.range k).map λj=>zsi n (row j))
 | 0,_=>.nil
 | k+1,hk=>by
  obtain⟨t,a⟩:=zP hk;obtain⟨h1,h2,b⟩:=h k t a;rw[zak a,List.range_succ,yj,yj];exact(LRs.trs h k (Nat.le_of_lt hk)).app (.cons (.tup h1 (.cons (.str _) (.cons (.lst h2 (IsTrs.ints _)) (.cons (.lst b (IsTrs.ints _)) .nil)))) .nil)
def HE.same{h dx:Addr}{A:HA}{own:Int}{pf P S:Nat->Int}(s:HE C H h dx A own n pf P S)(e:Same H H'):HE C H' h dx A own n pf P S:=⟨e.at s.ob,e.at s.pu,e.at s.pl,e.at s.sh,s.n1,s.n2,s.n3⟩
end
noncomputable def g1:Nat->Int:=λi=>if i=0 then 1 else 0
noncomputable def row0:Nat->LRow:=λ_=>⟨"own",λ_=>0,0,λ_=>0⟩
noncomputable def zoO (K:Fg):Sp:=λvs H Q _=>∃(w:Str) (r p s wh:Addr),w = "own" /\ vs=[.str w,.ref r,.ref p,.ref s,.int 0,.ref wh]/\SqL K H r ((vec 2 g1).map V.int)/\zcJ H Q (vec 2 (λ_=>0)++[0])
noncomputable def zpS (K:Fg):Sp:=λvs H Q _=>∃(w:Str) (r b:Addr),w = "own" /\ vs=[.str w,.ref r,.ref b]/\SqL K H r ((vec 2 g1).map V.int)/\SqL K H b ((vec 2 (λ_=>0)++[0]).map V.int)/\zcJ H Q (vec 2 λ_=>0)
structure LO(H:Hp)(pt rs re t gi bo:Addr):Prop where
 hp:H pt=some (.tup [.ref rs,.ref re])
 hrs:H rs=some (.lst ([(t,gi,bo)].map λt=>V.ref t.1))
 hre:H re=some (.lst ((vec 2 g1).map V.int))
 rows:LRs H 2 row0 [(t,gi,bo)]
theorem LO.same{H H':Hp}{pt a re t gi b:Addr}(h:LO H pt a re t gi b)(e:Same H H'):LO H' pt a re t gi b:=⟨e.at h.hp,e.at h.hrs,e.at h.hre,h.rows.same e⟩
noncomputable def zl4 (K:Fg) (C:Addr):Sp:=λvs H Q E=>∃(o g p s:Addr) (own:Int) (ws:List Str),vs=[.ref o,.ref g,.ref p,.ref s,.int own]/\SqL K H o (ws.map V.str)/\ws.length<=100 /\
 ((ws=[("own" : Str)]/\own=0/\H g=some (.lst ((vec 2 g1).map V.int))/\(∃S:List Int,H s=some (.lst (S.map V.int)))/\∀pt rs re t gi bo H',Same H H'->LO H' pt rs re t gi bo->Q (.ref pt) H')\/(¬OkO ws/\∀H',Same H H'->E (.ref C) none H'))
def zli:OkO [("own" : Str)]:=⟨λw h=>by rw[yh.mp h];decide +kernel,by decide +kernel⟩
def share0:vec 2 (zc0 0 2 g1)=vec 2 λ_=>0:=by decide +kernel
def zty:zah (vec 2 g1)=1:=by decide +kernel
def gap1{s z:Int}{pf:Nat->Int}(a:pf 0=s)(h1:pf 1=z)(c:0<=z)(d:0<=s):vec 2 (zez (due1 (s+1)) pf)=vec 2 g1:=by
 have b:zcS (due1 (s+1)) 0=-(s+1):=by simp[zcS,due1,zbS,zcP]
 have n1:zcS (due1 (s+1)) 1=s+1:=by simp[zcS,due1,zbS,zcP]
 show[zez _ pf 0,zez _ pf 1]=[1,0]
 unfold zez;rw[b,n1,a,h1];congr 1
 ·split<;>lia
 ·congr 1;split<;>lia
structure SetO(H:Hp)(s z:Int)(pt ga p0 rs re le la en ou t gi bo:Addr)(wl we:List V):Prop where
 hpt:H pt=some (.tup [.ref ga,.ref rs,.ref re,.ref le,.ref la,.ref en,.ref ou])
 hga:H ga=some (.lst ((vec 2 g1).map V.int))
 lo:LO H p0 rs re t gi bo
 hle:H le=some (.lst ([s+1].map V.int))
 hla:H la=some (.lst wl)
 hwl:IsQs H wl ((List.range 2).map (r2 s))
 hen:H en=some (.lst we)
 hwe:IsQs H we (zce [0,z+s])
 hou:H ou=some (.lst ([0].map V.int))
noncomputable def zmW (K:Fg):Sp:=λvs H Q _=>∃(a u p sh o:Addr) (s z:Int) (S:List Int),vs=[.ref a,.ref u,.ref p,.ref sh,.int 0,.ref o]/\IsSh K H a (due1 (s+1))/\H u=some (.lst ([s,z].map V.int))/\H sh=some (.lst (S.map V.int))/\H o=some (.lst ([("own" : Str)].map V.str))/\0<=s/\s<=1000/\0<=z/\z<=1000 /\
 ∀pt ga p0 rs re le la en ou t gi bo wl we H',Same H H'->SetO H' s z pt ga p0 rs re le la en ou t gi bo wl we->Q (.ref pt) H'
noncomputable def zm2 (ns:List Int) (k:Int):Int:=if ns.length=0 then 0 else ns.getD (k%(ns.length:Int)).toNat 0
noncomputable def zbC (ns:List Int) (k m:Int):Int:=(zm2 ns k%1000003+k*k+1)*48271%999983%m
noncomputable def zih (K:Fg):Sp:=λvs H Q _=>∃(a:Addr) (ns:List Int) (k:Int),vs=[.ref a,.int k]/\SqL K H a (ns.map V.int)/\0<=k/\Q (.int (zm2 ns k)) H
def znl:=λ{K:Fg} {a:Addr} {ns:List Int} {k:Int} {H:Hp} {Q:VK} {E:XK} hS h0 q=>@id (zih K [.ref a,.int k] H Q E) ⟨a,ns,k,rfl,hS,h0,q⟩
noncomputable def zie (K:Fg):Sp:=λvs H Q _=>∃(a:Addr) (ns:List Int) (k m:Int),vs=[.ref a,.int k,.int m]/\SqL K H a (ns.map V.int)/\0<=k/\k<=5000/\1<=m/\(0<=zbC ns k m->zbC ns k m<m->Q (.int (zbC ns k m)) H)
def zn9:=λ{K:Fg} {a:Addr} {ns:List Int} {k m:Int} {H:Hp} {Q:VK} {E:XK} hS h0 h1 hm q=>@id (zie K [.ref a,.int k,.int m] H Q E) ⟨a,ns,k,m,rfl,hS,h0,h1,hm,q⟩
noncomputable def znT (C c a:Addr):Sp:=λvs H Q E=>∃(b d:Addr) (m w y n:Int) (ts:List (T7 × Str)) (t:T7 × Str),vs=[.ref b,.int n]/\Bk C H b d m w y ts/\0<=n/\ts[n.toNat]?=some t /\
 (¬t.2=("broken" : Str)->¬t.2=("settled" : Str)->∀x,H x=some (.tup (zbP t))->Q (.ref x) H)/\(t.2=("broken" : Str)->E (.ref c) none H)/\(¬t.2=("broken" : Str)->t.2=("settled" : Str)->E (.ref a) none H)
noncomputable def zny (C a:Addr):Sp:=λvs H Q E=>∃(b d:Addr) (m w y n:Int) (ts:List (T7 × Str)) (t:T7 × Str),vs=[.ref b,.int n]/\Bk C H b d m w y ts/\0<=n/\ts[n.toNat]?=some t /\
 (¬t.2=("broken" : Str))/\(¬t.2=("settled" : Str)->∀H',Bk C H' b d m w y (ts.set n.toNat (t.1, "broken"))->ButL d H H'->Q .non H')/\(t.2=("settled" : Str)->E (.ref a) none H)
noncomputable def zmp (C c:Addr):Sp:=λvs H Q E=>∃(b d:Addr) (m w y n a z:Int) (ts:List (T7 × Str)) (t:T7 × Str),vs=[.ref b,.int n,.int a,.int z]/\Bk C H b d m w y ts/\0<=n/\ts[n.toNat]?=some t/\t.2=("broken" : Str)/\E (.ref c) none H
noncomputable def zsq (C a:Addr):Sp:=λvs H Q E=>∃(b d:Addr) (m w y n:Int) (ts:List (T7 × Str)) (t:T7 × Str),vs=[.ref b,.int n]/\Bk C H b d m w y ts/\0<=n/\ts[n.toNat]?=some t/\t.2=("standing" : Str)/\E (.ref a) none H
noncomputable def znP (C a:Addr):Sp:=λvs H Q E=>∃(b d:Addr) (m w y n z:Int) (ts:List (T7 × Str)) (t:T7 × Str),vs=[.ref b,.int n,.int z]/\Bk C H b d m w y ts/\0<=n/\ts[n.toNat]?=some t/\t.2=("standing" : Str)/\E (.ref a) none H
noncomputable def zrz (C:Addr):Sp:=λvs H Q _=>∃(b d:Addr) (m w y i:Int) (ts:List (T7 × Str)),vs=[.ref b,.int i]/\Bk C H b d m w y ts/\(∀t∈ts,¬t.2=("standing" : Str))/\∀p H',Same H H'->Q (.ref p) H'
noncomputable def zku (C a:Addr):Sp:=λvs H Q E=>∃(h:Addr) (A:HA) (own m c:Int) (n:Nat) (P L:Nat->Int),vs=[.ref h,.int m,.int c]/\HC C H h A own n P L/\mOk n m/\tOk c/\P m.toNat<c/\E (.ref a) none H
noncomputable def zkW (K:Fg) (C CB:Addr) (lP:Pos) (lQ:Str) (b CR:Addr):Sp:=λvs H Q E=>∃(h d:Addr) (A:HA) (own y:Int) (n k:Nat) (os:List Bool) (b1 b2:Bool) (t:T7) (ts:List (T7 × Str)),vs=.ref h :: zg9 t/\(∃dx,H h=some (.ins C dx (hfl A own)))/\Bk CB H A.bk d (n:Int) (k:Int) y ts/\zeF (n:Int) t.p t.q/\H A.ou=some (.lst (os.map V.bl))/\os[t.p.toNat]?=some b1/\os[t.q.toNat]?=some b2 /\
 (((b1=true\/b2=true)/\∀H',Same H H'->E (.ref b) none H') \/
  (b1=false/\b2=false/\∃(L:Nat->Int) (xs:List V) (bs:List Addr) (F:Nat->Nat->Int) (w:Str) (cr:Int),H A.pl=some (.lst ((vec n L).map V.int))/\HN K CB lP lQ H A d (n:Int) y ts bs k F w cr/\H d=some (.lst xs)/\xs.length<=1000/\(∀i,i<n->sz (L i)<=60000)/\zdl (k:Int) t/\y<=t.y /\
  (∀H1 q1,SameT H H1->TbW K "worst_days" lP lQ H1->Line (zbp ts t.p t.w t.u k F) bs.length q1->((L t.p.toNat:Int):Rat)<za4 w (zbp ts t.p t.w t.u k F) q1 cr->E (.ref CR) none H1) /\
  (∀H1 q1,SameT H H1->TbW K "worst_days" lP lQ H1->Line (zbp ts t.p t.w t.u k F) bs.length q1->¬((L t.p.toNat:Int):Rat)<za4 w (zbp ts t.p t.w t.u k F) q1 cr->(∀q2,Line (zbp ts t.q t.w (-t.u) k F) bs.length q2->¬((L t.q.toNat:Int):Rat)<za4 w (zbp ts t.q t.w (-t.u) k F) q2 cr) /\
   ∀a H2 H3,Same H1 H2->H2 a=some (.tup (zbP (t,("standing" : Str))))->LBut d H2 H3->H3 d=some (.lst (xs++[.ref a]))->Q (.int xs.length) H3)))
noncomputable def zp4 (C:Addr):Sp:=λvs H Q _=>∃(h dx rs:Addr) (A:HA) (own:Int) (n:Nat) (pf P S:Nat->Int) (row:Nat->LRow) (tr:List (Addr × Addr × Addr)),vs=[.ref h,.ref rs]/\HE C H h dx A own n pf P S/\1<=n/\n<=9/\H rs=some (.lst (tr.map λt=>V.ref t.1))/\LRs H n row tr/\(∀i,¬(row i).w=("pledge" : Str)) /\
 ∀own' H',KB [h,A.pl,A.sh] H H'->H' h=some (.ins C dx (hfl A own'))->Q .non H'
def TbW.kb{pos:Pos}{S:List Addr}(h:TbW K x pos qual H)(e:KB S H H')(n:∀a∈S,(∃c dx fs,H a=some (.ins c dx fs))\/∃xs,H a=some (.lst xs)):TbW K x pos qual H':=by
 obtain⟨ps,b,f,g⟩:=h;have ne:∀{a:Addr} {o:HO},H a=some o->(∀c dx fs,o≠.ins c dx fs)->(∀xs,o≠.lst xs)->a∉S:=λd n1 n2 z=>by
  rcases n _ z with⟨c,dx,fs,q⟩ | ⟨xs,q⟩
  ·rw[d]at q;exact n1 _ _ _ (yk q)
  ·rw[d]at q;exact n2 _ (yk q)
 exact⟨ps,e.at b (ne b (λ_ _ _ z=>nomatch z) λ_ z=>nomatch z),f,g.imp id fun⟨c,h1,h2⟩=>⟨c,h1,e.at h2 (ne h2 (λ_ _ _ z=>nomatch z) λ_ z=>nomatch z)⟩⟩
def zqu{P:Nat->Int}{b:Bool}{r:List V}:HO.lst (V.bl b :: r)≠HO.lst ((vec n P).map V.int):=by
 intro z;have z:=congrArg List.head? (HO.lst.inj z);rw[List.head?_map]at z;cases h:(vec n P).head?<;>rw[h]at z<;>cases z
def sheet83(a:Int):zjH 0 [((⟨0,1,0,1,a,0,0⟩:T7),("standing" : Str))]=due1 a:=by
 have h:onP 0 ((⟨0,1,0,1,a,0,0⟩:T7),("standing" : Str))=true:=by
  show(decide ((0:Int)=0)&&decide (¬("standing" : Str)=("broken" : Str)))=true
  decide +kernel
 have e:zaF (onP 0) [((⟨0,1,0,1,a,0,0⟩:T7),("standing" : Str))] 1=[0]:=by
  rw[zdN (P:=onP 0) (n:=0) (t:=((⟨0,1,0,1,a,0,0⟩:T7),("standing" : Str))) rfl,if_pos h];rfl
 show((zaF (onP 0) _ 1).map _).map _=_
 rw[e];rfl
def SetO.tr{s z:Int}{pt ga k g re d h f ou t gi m sh c:Addr}{i l us:List V}(q:SetO H s z pt ga k g re d h f ou t gi m i l)(b:H sh=some (.lst us))(hi:IsTs zdd H us (due1 (s+1)))
  (hp:H c=some (.tup [.int 0,.ref sh,.ref ga,.ref g,.ref re,.ref d,.ref h,.ref f,.ref ou])):∃t,IsTr H (.ref c) t/\t.ok 4:=by
 match us,hi with
 | [v],⟨⟨a,e,ha⟩,_⟩=>
  subst e;have j:=LRs.trs q.lo.rows 1 (yg _);exact⟨_,.tup hp (.cons (.int _) (.cons (.lst b (.cons (.tup ha (.cons (.int _) (.cons (.int _) (.cons (.int _) (.cons (.int _) .nil))))) .nil)) (.cons (.lst q.hga (IsTrs.ints _)) (.cons (.lst q.lo.hrs j) (.cons (.lst q.lo.hre (IsTrs.ints _)) (.cons (.lst q.hle (IsTrs.ints _)) (.cons (.lst q.hla q.hwl.trs) (.cons (.lst q.hen q.hwe.trs) (.cons (.lst q.hou (IsTrs.ints _)) .nil))))))))),
   ⟨by decide,Nat.le_of_ble_eq_true rfl,trivial,⟨by decide,Nat.le_of_ble_eq_true rfl,⟨by decide,Nat.le_of_ble_eq_true rfl,trivial,trivial,trivial,trivial,trivial⟩,trivial⟩,⟨by decide,Nat.le_of_ble_eq_true rfl,zcG⟩,⟨by decide,Nat.le_of_ble_eq_true rfl,zd9 λ_ _=>zsa (by decide) _⟩,⟨by decide,Nat.le_of_ble_eq_true rfl,zcG⟩,⟨by decide,Nat.le_of_ble_eq_true rfl,zcG⟩,⟨by decide,Nat.le_of_ble_eq_true rfl,zd9 λ_ _=>zqh _⟩,⟨by decide,Nat.le_of_ble_eq_true rfl,zd9 λ_ _=>zqh _⟩,⟨by decide,Nat.le_of_ble_eq_true rfl,zcG⟩,trivial⟩⟩
theorem SetO.same{H H':Hp}{s z:Int}{pt ga f d re a i c ou t gi h:Addr}{b g:List V}(q:SetO H s z pt ga f d re a i c ou t gi h b g)(e:Same H H'):SetO H' s z pt ga f d re a i c ou t gi h b g:=
 ⟨e.at q.hpt,e.at q.hga,q.lo.same e,e.at q.hle,e.at q.hla,q.hwl.same e,e.at q.hen,q.hwe.same e,e.at q.hou⟩
structure H83(K:Fg)(C CB:Addr)(lP:Pos)(lQ:Str)(H:Hp)(h dx d:Addr)(A:HA)(pf P S:Nat->Int)(t:T7):Prop where
 he:HE C H h dx A 0 2 pf P S
 bk:Bk CB H A.bk d 2 1 0 [(t,("standing" : Str))]
 od:H A.od=some (.lst ([("own" : Str)].map V.str))
 re:H A.re=some (.lst [])
 ou:H A.ou=some (.lst ([false,false].map V.bl))
 nb:A.bk≠h
 tb:TbW K "worst_days" lP lQ H
noncomputable def zmz (K:Fg) (C CB:Addr) (lP:Pos) (lQ:Str):Sp:=λvs H Q _=>∃(h dx d:Addr) (A:HA) (pf P S:Nat->Int),vs=[.ref h]/\H83 K C CB lP lQ H h dx d A pf P S ⟨0,1,0,1,pf 0+1,0,0⟩/\0<=pf 0/\pf 0<=1000/\0<=pf 1/\pf 1<=1000 /\
 ∀v H' A' own' ts,KB [h,A.pl,A.sh,A.bk,A.re,A.ou,d] H H'->TbW K "worst_days" lP lQ H'->H' h=some (.ins C dx (hfl A' own'))->A'.bk=A.bk->A'.ou=A.ou->Bk CB H' A.bk d 2 1 1 ts->H' A.ou=some (.lst ([true,false].map V.bl))->Q v H'
noncomputable def ts83 (m x:Int):List (T7 × Str):=[(⟨0,m-1,0,5,6,3,1⟩, "standing"),(⟨m-1,0,0,5,6,2,0⟩, "broken"),(⟨0,m-1,0,1,1+x,0,2⟩, "settled")]
noncomputable def BkT (C:Addr) (H:Hp) (b:Addr):Prop:=∃(d:Addr) (m w x:Int),2<=m/\1<=w/\Bk C H b d m w 1 (ts83 m x)
theorem BkT.sameT{C:Addr}{H H':Hp}{b:Addr}(h:BkT C H b)(e:SameT H H'):BkT C H' b:=by
 obtain⟨d,m,w,x,h1,h2,a⟩:=h;exact⟨d,m,w,x,h1,h2,a.sameT e⟩
structure HsT(K:Fg)(C CB:Addr)(lP:Pos)(lQ:Str)(H:Hp)(h:Addr)(A:HA)(way s r:Int):Prop where
 ob:∃dx own,H h=some (.ins C dx (hfl A own))
 bk:∃d y ts,Bk CB H A.bk d 2 1 y ts
 ou:way=9->H A.ou=some (.lst ([true,false].map V.bl))
 md:way≠9->H A.ou=some (.lst ([false,false].map V.bl))/\H A.re=some (.lst [])/\∃(d mr:Addr) (P L:Nat->Int) (F:Nat->Nat->Int),HC C H h A 8 2 P L/\HN K CB lP lQ H A d 2 0 [] [mr] 1 F "mean" 1/\P 0=s/\L 0=(1+s)*(1+r)-1/\L 1=1000000000/\F 0 0=-1-r
theorem HsT.sameT{K:Fg}{C CB:Addr}{lP:Pos}{lQ:Str}{H H':Hp}{h:Addr}{A:HA}{c s r:Int}(q:HsT K C CB lP lQ H h A c s r)(e:SameT H H')(t:TbW K "worst_days" lP lQ H'):HsT K C CB lP lQ H' h A c s r:=by
 obtain⟨⟨dx,own,h1⟩,⟨d,y,ts,h2⟩,l,k⟩:=q;refine⟨⟨dx,own,e.ins h1⟩,⟨d,y,ts,h2.sameT e⟩,λz=>e.lst (l z),λz=>?_⟩;obtain⟨a,b,d,mr,P,L,F,⟨⟨f,j⟩,g,m,i⟩,n,r⟩:=k z;exact⟨e.lst a,e.lst b,d,mr,P,L,F,⟨⟨f,e.ins j⟩,e.lst g,e.lst m,i⟩,n.sameT e t,r⟩
noncomputable def bls83 (n:Nat):List V:=(List.range 19).map λi=>V.bl (decide (i=n))
noncomputable def zoa (ds:List Addr):Sp:=λvs H Q _=>∃(er C:Addr) (n:Nat),vs=[.ref er]/\H er=some (zca er C)/\ds[n]?=some C/\n<13/\∀p H',H p=none->Same H H'->H' p=some (.lst (bls83 n))->Q (.ref p) H'
noncomputable def zqb (K:Fg) (C:Addr):Sp:=λvs H Q _=>∃(a:Addr) (ns:List Int),vs=[.ref a]/\SqL K H a (ns.map V.int)/\∀b H',Same H H'->BkT C H' b->Q (.ref b) H'
noncomputable def zmX (C:Addr) (ds:List Addr):Sp:=λvs H Q E=>∃(b:Addr) (way s:Int),vs=[.ref b,.int way,.int s]/\BkT C H b/\2<=way/\way<=8/\0<=s/\s<=29/\∀H' c,Same H H'->ds[way.toNat]?=some c->E (.ref c) none H'
noncomputable def zm8 (K:Fg) (C CB:Addr) (lP:Pos) (lQ:Str):Sp:=λvs H Q _=>∃(a:Addr) (ns:List Int) (way s:Int),vs=[.ref a,.int way,.int s]/\SqL K H a (ns.map V.int)/\TbW K "worst_days" lP lQ H/\0<=s/\s<=29/\∀h A H',SameT H H'->TbW K "worst_days" lP lQ H'->HsT K C CB lP lQ H' h A way s (zbC ns 4 9)->0<=zbC ns 4 9->zbC ns 4 9<9->(way≠9->H A.pl=none/\H A.pu=none)->Q (.ref h) H'
noncomputable def KpT (A:HA) (H H':Hp):Prop:=∀b o,b≠A.pl->b≠A.pu->H b=some o->o.nt=true->H' b=some o
noncomputable def zle (K:Fg) (C CB:Addr) (lP:Pos) (lQ:Str) (ds:List Addr):Sp:=λvs H Q E=>∃(h:Addr) (A:HA) (way s r tn:Int),vs=[.ref h,.int way,.int s,.int tn]/\HsT K C CB lP lQ H h A way s r/\TbW K "worst_days" lP lQ H/\0<=r/\r<9/\9<=way/\way<=12/\0<=s/\s<=29/\0<=tn/\tn<3/\∀H' c,TbW K "worst_days" lP lQ H'->KpT A H H'->(way≠11->SameT H H')->ds[way.toNat]?=some c->E (.ref c) none H'
noncomputable def zmg (K:Fg) (C CB:Addr) (lP:Pos) (lQ:Str) (ds:List Addr):Sp:=λvs H Q E=>∃(a th b h:Addr) (ns:List Int) (A:HA) (way s r:Int),vs=[.ref a,.int way,.ref th,.int s]/\SqL K H a (ns.map V.int)/\H th=some (.lst [.ref b,.ref h])/\BkT CB H b/\HsT K C CB lP lQ H h A way s r/\TbW K "worst_days" lP lQ H/\0<=r/\r<9/\0<=way/\way<=12/\0<=s/\s<=29/\∀H' c,TbW K "worst_days" lP lQ H'->KpT A H H'->(way≠11->SameT H H')->ds[way.toNat]?=some c->E (.ref c) none H'
noncomputable def zms (K:Fg) (C CB:Addr) (lP:Pos) (lQ:Str):Sp:=λvs H Q _=>∃(a th b h:Addr) (ns:List Int) (A:HA) (way s r:Int),vs=[.ref a,.int way,.ref th,.int s]/\SqL K H a (ns.map V.int)/\H th=some (.lst [.ref b,.ref h])/\BkT CB H b/\HsT K C CB lP lQ H h A way s r/\TbW K "worst_days" lP lQ H/\0<=r/\r<9/\0<=way/\way<=12/\0<=s/\s<=29/\∀p H',TbW K "worst_days" lP lQ H'->KpT A H H'->(way≠11->SameT H H')->H' p=some (.lst (bls83 way.toNat))->Q (.ref p) H'
def KpT.of{A:HA}(e:SameT H H'):KpT A H H':=λb o _ _ h n=>e.keep b o h n
def line1{q:List Nat}(h:Line L 1 q):q=[0]:=List.perm_singleton.mp h.perm
def need83{q:List Nat}(h:Line L 1 q)(a:0<L 0):za4 "mean" L q 1=((L 0:Int):Rat):=by
 rw[line1 h];unfold za4 zda;rw[decide_eq_true rfl,if_pos rfl];show pos0 (Rat.divInt (L 0+0) 1)=_;rw[Int.add_zero,Rat.divInt_eq_div,show((L 0:Int):Rat)/((1:Int):Rat)=((L 0:Int):Rat) by show((L 0:Int):Rat)/1=_;grind];unfold pos0;rw[if_pos (by exact_mod_cast a)]
def loss83{F:Nat->Nat->Int}{m u:Int}:zbp [] m 0 u 1 F 0=-(u*F 0 0):=by
 show -(0+(zaR [] m 0+u)*F 0 0)=_;rw[Int.zero_add];rw[show zaR [] m 0=0 from rfl,Int.zero_add]
noncomputable def rep83 (K:Fg) (H:Hp):∀bs:List Bool,RepAll K H (bs.map V.bl) (bs.map PyData.bool)
 | []=>.nil
 | b :: bs=>.cons (.bl _) (rep83 K H bs)
def zlv(h1:H a=some (.lst (bls83 n)))(h2:H b=some (.lst (bls83 n)))(q:Q (.bl false) H):zfe K (.ref a) (.ref b) H Q:=by
 have e:bls83 n=((List.range 19).map λi=>decide (i=n)).map V.bl:=by unfold bls83;rw[List.map_map];rfl
 rw[e]at h1 h2;have rep:=rep83 K H ((List.range 19).map λi=>decide (i=n));refine zqy (.lst (.of h1) rep) (.lst (.of h2) rep) (by simp[PyData.depth,PyData.depthAll,List.range_succ]) ?_;rw[PySem.SeqAt.eqv_refl _ (by rw[PyData.canLay0];exact rep.lay)];exact q
def cls83(m x:Int):[((⟨0,m-1,0,5,6,3,1⟩:T7),("standing" : Str)),(⟨m-1,0,0,5,6,2,0⟩, "broken"),(⟨0,m-1,0,1,1+x,0,2⟩, "standing")].map (zd6 0)=ts83 m x:=by
 have h1:¬(decide (("standing" : Str)=("standing" : Str))&&decide ((3:Int)=0))=true:=by decide +kernel
 have h2:¬(decide (("broken" : Str)=("standing" : Str))&&decide ((2:Int)=0))=true:=by decide +kernel
 have b:(decide (("standing" : Str)=("standing" : Str))&&decide ((0:Int)=0))=true:=by decide +kernel
 show[zd6 0 _,zd6 0 _,zd6 0 _]=_
 have e1:zd6 0 ((⟨0,m-1,0,5,6,3,1⟩:T7),("standing" : Str))=((⟨0,m-1,0,5,6,3,1⟩:T7),("standing" : Str)):=if_neg h1;have e2:zd6 0 ((⟨m-1,0,0,5,6,2,0⟩:T7),("broken" : Str))=((⟨m-1,0,0,5,6,2,0⟩:T7),("broken" : Str)):=if_neg h2;have a:zd6 0 ((⟨0,m-1,0,1,1+x,0,2⟩:T7),("standing" : Str))=((⟨0,m-1,0,1,1+x,0,2⟩:T7),("settled" : Str)):=if_pos b;rw[e1,e2,a];rfl
def due83{m w y p q u a z r:Int}(h:(0<=p/\p<m/\0<=q/\q<m/\p≠q)/\0<w/\1<=u/\u<=1000000/\1<=a/\a<=1000000000/\0<=z/\z<=1000000/\0<=r/\r<=2/\y<=z):zcf m w y ⟨p,q,0,u,a,z,r⟩=0:=by
 obtain⟨⟨a1,a2,c,g,b⟩,i,e,f,d,b1,b2,k,l,j,n⟩:=h;have h1:zeF m p q:=⟨⟨a1,a2⟩,⟨c,g⟩,b⟩
 have h2:zdl w ⟨p,q,0,u,a,z,r⟩:=⟨⟨Int.le_refl _,i⟩,⟨e,f⟩,⟨d,b1⟩,⟨b2,k⟩,⟨l,j⟩⟩
 unfold zcf;rw[if_neg (not_not_intro h1),if_neg (not_not_intro h2),if_neg (by show ¬z<y;lia)]
def zbI(d:H a=some (.lst xs))(c:H b=some (.lst ys))(e:xs.length≠ys.length):a≠b:=zV d c λz=>e (by rw[HO.lst.inj z])
def HN.coins{CB:Addr}{lP:Pos}{lQ:Str}{a:Hp}{h mr:Addr}{A:HA}{P P' L':Nat->Int}{F:Nat->Nat->Int}(n:HN K CB lP lQ H A d 2 0 [] [mr] 1 F "mean" 1)(c:HC C H h A 8 2 P L)(e1:SameT H H1)(f:TbW K "worst_days" lP lQ H1)(b2:LBut A.pl H1 H2)(h2:H2 A.pl=some (.lst ((vec 2 L').map V.int)))(b:LBut A.pu H2 a)(i:a A.pu=some (.lst ((vec 2 P').map V.int))) :
  HC C a h A 8 2 P' L'/\HN K CB lP lQ a A d 2 0 [] [mr] 1 F "mean" 1:=by
 obtain⟨⟨dx,ob⟩,pu,pl,ne⟩:=c;obtain⟨_,ys,hd,g⟩:=id n.bk;obtain rfl:ys=[]:=List.length_eq_zero_iff.mp g.length;have e:=n.rows.2 0 mr rfl;refine⟨⟨⟨dx,b.ins (b2.ins (e1.ins ob))⟩,i,b.lst h2 ne.symm,ne⟩,((n.sameT e1 f).but b2 (zbI hd pl (by simp[zI])) (zbI n.mv pl (by simp[zI])) ?_).but b (zbI hd pu (by simp[zI])) (zbI n.mv pu (by simp[zI])) ?_⟩
 ·exact λz=>zbI e pl (by simp[zI]) (yh.mp z).symm
 ·exact λz=>zbI e pu (by simp[zI]) (yh.mp z).symm
def KB.sameT{S:List Addr}{H0:Hp}(k:KB S H H')(e:SameT H0 H)(f:∀a∈S,H0 a=none):SameT H0 H':=
 ⟨λb o h n=>k.at (e.keep b o h n) λz=>(by rw[f b z]at h;cases h),λb ps h=>by
  obtain⟨c,q⟩:=e.tb b ps h;exact⟨c,k.at q λz=>by rw[f b z]at h;cases h⟩⟩
def loss0{m u:Int}:zbp [] m 0 u 1 (λ_ _=>0) i=0:=by
 show -(0+_*0)=(0:Int)
 rw[Int.mul_zero];rfl
def HNew.two{CB h dx:Addr}{lP:Pos}{lQ:Str}{A:HA}{bs:List Addr}{x y:Int × Int × Int}{F:Nat->Nat->Int}{w:Str}{own:Int}(n:HNew CB h H H' A d bs [x,y] 1 F w 1 ws)(ob:H' h=some (.ins C dx (hfl A own)))(l:bs.length=1)(e:-1000000<=F 0 0/\F 0 0<=1000000)(ok:zbE w 1 1)(tb:TbW K "worst_days" lP lQ H') :
  ∃mr,bs=[mr]/\(A.pu≠A.pl/\A.sh≠A.pu/\A.sh≠A.pl/\A.re≠d)/\HN K CB lP lQ H' A d 2 0 [] [mr] 1 F w 1:=by
 match bs,l with
 | [mr],_=>
  obtain⟨a,b⟩:=apart n.st.nd;have c:=b A.sh (by simp);refine⟨mr,rfl,⟨a,c.1,c.2,λz=>(List.nodup_cons.mp n.st.nd).1 (by simp[z])⟩,n.bk,(λ_ z=>nomatch z),(λ_ z=>nomatch z),by decide,n.ru,n.mv,n.rows,λi hi j f=>?_,ok,by decide,by show 1<2;decide,tb⟩;obtain rfl:i=0:=by have:i<1:=hi;lia
  obtain rfl:j=0:=by lia
  exact e
def SqL.kept(e:∀x o,H x=some o->o.nt=true->H' x=some o)(h:SqL K H a xs):SqL K H' a xs:=by
 rcases h with(h | ⟨o,h⟩) | h
 ·exact .inl (.inl (e _ _ h rfl))
 ·exact .inl (.inr ⟨o,e _ _ h rfl⟩)
 ·exact .inr h
end Internal
namespace Internal.K
variable {A:Around}{C f:Addr}{E:XK}{H:Hp}{K:Fg}{N ps:List Str}{P:Program}{Q:VK}{X:Cx}{base:Heap}{e:Expr}{es:List Expr}{k n:Nat}{mg:Str->Option Value}{outer:List Env}{qual x:Str}{s:Shared}{scope:Scope}{sp:Sp}{st:Stmt}{w:World}{σ:St}
open PySem Internal
local macro_rules | `(tactic| walk_at "s")=>`(tactic| exact ⟨rfl,rfl,rfl,by decide +kernel,rfl,by decide +kernel,by decide +kernel⟩)
local macro_rules | `(tactic| walk_at "l1")=>`(tactic| (rename_i h; first | (obtain ⟨h,_⟩:=h; subst h; rfl) | (obtain ⟨_,h⟩:=h; walk_at "l1")))
local macro_rules | `(tactic| walk_at "l")=>`(tactic| (intro _ _ _ _ h; first | (obtain ⟨h,_⟩:=h; subst h; rfl) | (obtain ⟨_,h⟩:=h; walk_at "l1")))
local macro_rules | `(tactic| walk_at "z")=>`(tactic| first
 | assumption
 | exact sz200 (by lia) (by lia)
 | ((with_reducible apply zee);(focus walk_at "z");walk_at "z")
 | exact szL (by decide) (by lia) (by lia)
 | ((with_reducible apply ya (m:=_));(focus assumption);lia))
local macro_rules | `(tactic| walk_at "h")=>`(tactic| first
 | assumption
 | (with_reducible exact Same.refl _)
 | ((with_reducible apply Same.isQ);(focus assumption);walk_at "h")
 | ((with_reducible apply LBut.isQ);(focus assumption);walk_at "h")
 | ((with_reducible apply IsQs.same);(focus assumption);walk_at "h")
 | ((with_reducible apply LBut.isQs);(focus assumption);walk_at "h")
 | ((with_reducible apply Same.at);(focus assumption);walk_at "h")
 | ((with_reducible apply LBut.tup);(focus assumption);walk_at "h")
 | ((with_reducible apply LBut.lst);(focus assumption);(focus walk_at "h");walk_at "h")
 | ((with_reducible apply SqL.keep);(focus (show SqL _ _ _ _;assumption));walk_at "h")
 | ((with_reducible apply SqL.of);walk_at "h")
 | ((with_reducible apply Same.after);(focus assumption);walk_at "h")
 | ((with_reducible apply LBut.same);(focus assumption);(focus walk_at "h");walk_at "h")
 | ((with_reducible apply Same.none);(focus assumption);walk_at "h")
 | ((with_reducible apply TbW.same);(focus assumption);walk_at "h")
 | ((with_reducible apply TbW.but);(focus assumption);walk_at "h")
 | ((with_reducible apply SameT.lst);(focus assumption);walk_at "h")
 | ((with_reducible apply SameT.tup);(focus assumption);walk_at "h")
 | ((with_reducible apply SameT.ins);(focus assumption);walk_at "h")
 | ((with_reducible apply SameT.seq);(focus assumption);walk_at "h")
 | ((with_reducible apply SameT.rows);(focus assumption);walk_at "h")
 | ((with_reducible apply Same.isTs);(focus assumption);walk_at "h")
 | ((with_reducible apply LBut.isTs);(focus assumption);walk_at "h")
 | ((with_reducible apply Same.isSh);(focus assumption);walk_at "h")
 | ((with_reducible apply Same.rows);(focus assumption);walk_at "h")
 | ((with_reducible apply LBut.ins);(focus assumption);walk_at "h")
 | ((with_reducible apply Bk.same);(focus walk_at "h");(focus assumption))
 | ((with_reducible apply ztf);(focus assumption);walk_at "h")
 | ((with_reducible apply zbX);(focus assumption);walk_at "h"))
local macro_rules | `(tactic| walk_at "x1")=>`(tactic| first
 | ((with_reducible apply zui);(focus (exact rfl)))
 | (with_reducible (first
   | apply zuI
   | apply zsY
   | apply zqo
   | apply zt2
   | apply zt4
   | apply zuF
   | apply ztQ
   | apply zsE
   | apply zua
   | apply zut
   | apply ztO
   | apply ztk
   | apply zsO
   | apply zfw
   | apply zkq
   | apply zqS
   | apply zrW))
 | (with_reducible refine zsW (by assumption) ?_)
 | (with_reducible refine zto (by assumption) ?_)
 | (with_reducible refine zrh (by assumption) ?_)
 | (with_reducible refine zue (λ_=>?_) (λ_=>?_))
 | (with_reducible refine zsk (λ_=>?_) (λ_=>?_))
 | (with_reducible refine zsv (λ_=>?_) (λ_=>?_))
 | (with_reducible refine zsX (λ_=>?_) (λ_=>?_))
 | (with_reducible (first
   | apply zuk
   | apply zt9))
 | ((with_reducible show rIx _ (V.ref _) (V.int _) _ _);first
   | refine zoB (by assumption) (by rfl) ?_
   | refine zlG (by assumption) (by lia) (by lia) ?_
   | refine zq7 (by assumption) (by lia) (by assumption) ?_
   | refine zoB (by walk_at "h") (by rfl) ?_
   | refine zlG (by walk_at "h") (by lia) (by lia) ?_
   | refine zhp (by walk_at "h") (by assumption) ?_
   | refine zmC (by walk_at "h") (by assumption) ?_
   | refine zhp (by walk_at "h") (by rfl) ?_)
 | ((with_reducible show zgZ _ [V.ref _,V.ref _] _ _);refine zqv (by walk_at "h") (by assumption) rfl (by assumption) ?_)
 | ((with_reducible show zgZ _ [V.ref _,V.ty "ValueError"] _ _);refine zqv (by walk_at "h") (by assumption) rfl (by assumption) ?_)
 | (with_reducible refine zlF (by assumption) (λ_ _ _ _ _=>?_))
 | ((with_reducible show zfb _ [] _);refine za9 (by first | decide | simp) (λ_ _ _ _ _=>?_))
 | ((with_reducible show zfb _ [_] _);refine za9 (by first | decide | simp) (λ_ _ _ _ _=>?_))
 | ((with_reducible show zfb _ (_ :: _ :: _ :: _) _);refine za9 (by first | decide | simp) (λ_ _ _ _ _=>?_))
 | (with_reducible (first
   | apply zrC
   | apply ztw
   | apply zru))
 | ((with_reducible show zmI _ [V.ref _] _ _);first | refine IsQ.len (by walk_at "h") ?_ | refine zsU (by walk_at "h") ?_ | refine x_lenT' (by walk_at "h") ?_)
 | (with_reducible refine zr9 ?_)
 | ((with_reducible show zjW _ _ _ _);refine zoX (by walk_at "h") (by walk_at "h") (by walk_at "h") (by walk_at "h") ?_)
 | ((with_reducible show zia _ _ _ _);refine znD (by walk_at "h") (by walk_at "h") (by walk_at "h") (by walk_at "h") ?_)
 | ((with_reducible show ziv _ _ _ _);refine znt (by walk_at "h") (by walk_at "h") (by walk_at "h") (by walk_at "h") ?_)
 | (with_reducible (first
   | apply zuh
   | apply zs9
   | apply zpx
   | apply ztd
   | apply zuv))
 | ((with_reducible show zpy _ _ _ _ _ _);refine zul rfl ?_)
 | (with_reducible (first
   | apply ztt
   | apply zrd))
 | ((with_reducible show zaT _ _ _ (V.ref _) _ _ _);refine zsN (by assumption) rfl ?_)
 | ((with_reducible show zbe _ (V.ref _) (V.int _) _ _);first
   | refine zpa (by walk_at "h") (by lia) (by lia) ?_
   | refine znJ (by walk_at "h") (by assumption) ?_)
 | ((with_reducible show zhf (V.ref _) (V.int _) (V.int _) _ _);refine zpu (by walk_at "h") (by lia) (by lia) (λ_ _ _=>?_))
 | ((with_reducible show zdQ (V.ref _) (V.int _) _ _);first | refine zpY (by walk_at "h") (by lia) (by lia) (λ_ _ _ _ _=>?_) | refine zpv (by walk_at "h") (by lia) (by lia) (λ_ _ _ _ _=>?_) | refine zrU (by walk_at "h") (by lia) (by lia) (λ_ _ _ _ _=>?_))
 | ((with_reducible show rIn _ true (V.int _) (V.ref _) _ _);refine zrX (by walk_at "h") ?_)
 | ((with_reducible show zhk [V.int _] _ _);refine zpH (λ_ _ _ _ _=>?_))
 | ((with_reducible show zkK _ _ _ _ _);refine zo3 (by walk_at "h") (by lia) (by lia) (by lia) (by assumption) (λ_ _ _ _ _=>?_))
 | ((with_reducible show zgO _ _ _ _ _);refine zmm (by walk_at "h") (by walk_at "h") (by walk_at "h") (by assumption) (by assumption) (by assumption) (by lia) (by lia) (λ_ _ _ _ _=>?_))
 | ((with_reducible show zgi _ _ _ _ _);refine zl7 (by walk_at "h") (by assumption) (by walk_at "h") (by assumption) (λ_ _=>?_))
 | ((with_reducible show zis _ _ _ _ _);refine zoH (by walk_at "h") (by walk_at "h") (by lia) (by assumption) (λ_ _ _ _ _ _ _ _ _=>?_))
 | ((with_reducible show zhO _ _ _ _ _);refine znG (by walk_at "h") (by assumption) (by walk_at "h") (by lia) (by lia) (λ_ _ _ _ _=>?_))
 | ((with_reducible show zgK _ _ _ _ _);refine zm3 (by walk_at "h") (by assumption) (by walk_at "h") (by walk_at "h") (by lia) (λ_ _ _ _ _=>?_))
 | ((with_reducible show zjv _ _ _ _);refine zsl (by walk_at "h") ?_)
 | ((with_reducible show zmZ _ _ _ _ _);refine zlj (by walk_at "h") (by assumption) (by walk_at "h") (by walk_at "h") (by assumption) (by lia) (by lia) (λ_ _ _ _ _ _ _ _ _=>?_))
 | ((with_reducible show ziu _ _ _ _);refine ziD (by walk_at "h") (by walk_at "h") (by assumption) (by assumption) (by assumption) ?_)
 | ((with_reducible show zh3 _ _ _ _ _ _ _);refine zm4 (by walk_at "h") (by walk_at "h") (by walk_at "h") (by assumption) (by assumption) (by assumption) (by lia) (by lia) (by lia) (by lia) (by walk_at "h") (λ_ _ _ _ _ _ _ _=>?_))
 | ((with_reducible show zfr _ _ _ _ _);refine zkR (by walk_at "h") (by assumption) (by walk_at "h") (by assumption) (λ_ _ _ _ _ _ _=>?_))
 | ((with_reducible show zio _ _ _ _ _);refine zog (by walk_at "h") (by walk_at "h") (by walk_at "h") (by assumption) (by lia) (by lia) (by assumption) (λ_ _ _ _ _ _ _=>?_))
 | ((with_reducible show zj6 _ _ _ _ _);refine zpR (by walk_at "h") (by walk_at "h") (by walk_at "h") (by assumption) (by lia) (by lia) (by assumption) (λ_ _ _ _ _ _ _=>?_))
 | (with_reducible (first
   | apply ztW
   | apply zss
   | apply zsn
   | apply zsV
   | apply zsI
   | apply zub
   | apply zuj
   | apply ztR))
 | ((with_reducible show zmh _ _ _ (V.ref _) _);refine zoF (by walk_at "h") (by assumption) (by assumption) (by with_reducible first | exact zp9 | exact zob | exact zlf | exact zoG) ?_)
 | ((with_reducible show zjC _ _ _ _ _ _ _ (V.ref _) _);refine zlV (by walk_at "h") (zse (by decide +kernel) (by decide +kernel) (by decide +kernel) (by decide +kernel)) ?_)
 | ((with_reducible show zmh _ _ _ (V.ref _) _);refine zoF (by walk_at "h") (by assumption) (by assumption) (by with_reducible first | exact zme | exact zk3 | exact zm1 | exact zgz | exact zoq | exact zpP | exact znf | exact zpg | exact zpF | exact zkZ) ?_)
 | ((with_reducible show zjC _ _ _ _ _ _ _ (V.ref _) _);refine zlV (by walk_at "h") (ztv (by decide +kernel)) ?_)
 | ((with_reducible show zl3 _ _ _ _ _);refine⟨_,_,_,_,_,_,rfl,(by walk_at "h"),?_⟩)
 | ((with_reducible show zid _ _ _ _ _);refine znx (by walk_at "h") (by walk_at "h") (by assumption) (by assumption) ?_)
 | ((with_reducible show zh6 _ _ _ _ _);refine zom (by walk_at "h") (by walk_at "h") (by lia) (by lia) (by assumption) (λ_ _ _ _ _=>?_))
 | ((with_reducible show zm0 _ [V.ref _] _ _);refine zqC (by walk_at "h") ?_)
 | ((with_reducible show zmN _ [V.int _] _);refine zrl (by lia) (by lia) ?_)
 | ((with_reducible show zmf _ [V.int _,V.int _] _);refine zrk (by lia) (by lia) (by lia) (by lia) ?_)
 | ((with_reducible show zoU _ _ (V.ref _) _);refine zqH (by walk_at "h") ?_)
 | ((with_reducible show zmc _ _ [V.ref _] _);refine zrr (by walk_at "h") ?_)
 | ((with_reducible show zpw _ _ [V.ref _,V.ref _] _);refine ztj (by walk_at "h") (by walk_at "h") ?_)
 | ((with_reducible show zko _ _ _ _ _);refine zo1 (by walk_at "h") (by lia) (by lia) (by assumption) (λ_ _ _ _ _=>?_))
 | ((with_reducible show zkb _ _ _ _ _);refine zpc (by walk_at "h") (by lia) (by lia) (by assumption) (λ_ _ _ _ _=>?_))
 | ((with_reducible show zgj _ _ _ _ _);refine zmd (by walk_at "h") (by lia) (by lia) (by assumption) (λ_ _ _ _ _ _ _ _ _=>?_))
 | ((with_reducible show zd4 _ _ _ _ _);refine zju (by walk_at "h") (by lia) (λ_ _ _ _ _=>?_))
 | ((with_reducible show zjM _ _ _ _ _);refine zgs (by walk_at "h") (by walk_at "h") (by lia) (by lia) (λ_ _ _ _ _ _ _=>?_))
 | ((with_reducible show zgL _ _ _ _ _ _);refine zmw (by walk_at "h") (by assumption) ?_)
 | ((with_reducible show zkM _ _ _ _ _);refine zoS (by walk_at "h") (by walk_at "h") (by lia) (λ_ _ _ _ _=>?_))
 | ((with_reducible show zkh _ _ _ _ _);refine zoP (by walk_at "h") (by walk_at "h") (by lia) (by assumption) (λ_ _ _ _ _=>?_))
 | ((with_reducible show zih _ _ _ _ _);refine znl (by walk_at "h") (by lia) ?_)
 | ((with_reducible show zie _ _ _ _ _);refine zn9 (by walk_at "h") (by lia) (by lia) (by lia) (λ_ _=>?_))
 | ((with_reducible show zeJ (Itl _ _) _ _ zfo (tC (V.int _)) _ _ _);refine zp1 (by walk_at "h") rfl (by first | lia | (simp only[yc,zI];lia)) (λ_ _ _ _ _=>?_))
 | ((with_reducible show zex _ (V.ref _) (V.ref _) _ _);first | refine zkv (by walk_at "h") (by walk_at "h") rfl ?_ | refine x_eqSh (by walk_at "h") (by walk_at "h") rfl ?_ | refine x_eqQs (by walk_at "h") (by walk_at "h") (by walk_at "h") (by walk_at "h") ?_)
 | ((with_reducible show zfe _ (V.ref _) (V.ref _) _ _);first | refine zgN (by walk_at "h") (by walk_at "h") rfl ?_ | refine x_neRows (by walk_at "h") (by walk_at "h") (by walk_at "h") (by walk_at "h") (by lia) (λ_ _ _ _=>rfl) ?_ | refine x_neSh (by walk_at "h") (by walk_at "h") rfl ?_ | refine x_neQs (by walk_at "h") (by walk_at "h") (by walk_at "h") (by walk_at "h") ?_)
 | (with_reducible (first
   | apply zti
   | apply zs5
   | apply zt5
   | apply zuS
   | apply ztz
   | apply zqO))
 | ((with_reducible show tyV _ "list" (V.ref _) _/\_);refine zup (by walk_at "h") ?_)
 | ((with_reducible show zbn (V.ref _) [_] _ _);refine zdr (by walk_at "h") (by lia) (λ_ _ _=>?_))
 | ((with_reducible show NewQ _ _ _);intro _ _ _ _)
 | ((with_reducible show zp8 _ _ _);refine ztL (by first | decide | simp) (λ_ _ _ _ _=>?_))
 | ((with_reducible show zdm _ _ _ _);refine znp (by walk_at "h") (λ_ _ _ _ _=>?_))
 | ((with_reducible show zeM _ _ _ _ _ _);refine zsM (by walk_at "h") (λ_ _ _ _ _=>?_))
 | ((with_reducible show ziq _ _ _ _ _);refine zi5 (by walk_at "h") (by walk_at "h") (by walk_at "h") (by walk_at "h") ?_)
 | ((with_reducible show zfL _ _ _ _ _);refine ziW (by walk_at "h") (by walk_at "h") (by walk_at "h") (by walk_at "h") ?_)
 | ((with_reducible show zmS _ _ _ _);refine ztM (by first | decide | lia) ?_)
 | ((with_reducible show zdQ _ _ _ _);refine zmi (by first | assumption | (apply CMulS.of;(focus walk_at "z");(focus walk_at "z");first | decide | lia)) ?_)
 | ((with_reducible show zjw _ _ _ _);refine zqz (by first | walk_at "h" | decide) (by first | walk_at "h" | exact szL (by decide) (by decide) (by decide)) ?_)
 | ((with_reducible show rI zmL _ _ _ _ _);refine zt6 ⟨by decide,by decide,by decide⟩ rfl ?_;(try simp only[Int.reduceToNat,Int.reducePow]))
 | ((with_reducible show Ends.nx _ _ _);dsimp only[List.set,Ends.gone]))
local macro_rules | `(tactic| walk_at "x")=>`(tactic| repeat' (walk_at "x1"))
local macro_rules|`(∅)=>`(by walk_at "h")
noncomputable def top (i:Nat):Stmt:=PySem.Challenge.pw_quits_k83_refusals_apart.main.body.getD i (.Pass ⟨0,0,0,0⟩)
abbrev zd2:Stmt:=zaa (top 38) 0
abbrev zeY:Stmt:=zaa (top 38) 1
abbrev zcz:Stmt:=zaa (top 38) 2
abbrev zc1:Stmt:=zaa (top 38) 3
abbrev ze5:Stmt:=zaa (top 38) 4
abbrev zdK:Stmt:=zaa (top 38) 5
abbrev zcC:Stmt:=zaa (top 38) 6
abbrev zdt:Stmt:=zaa (top 38) 7
abbrev zdE:Stmt:=zaa (top 38) 8
abbrev zdY:Stmt:=zaa (top 38) 9
abbrev zco:Stmt:=zaa (top 38) 10
abbrev zfn:Stmt:=zaa (top 38) 11
abbrev zfE:Stmt:=zaa (top 38) 12
abbrev zga:Stmt:=zaa (top 38) 14
abbrev zdh:Stmt:=zaa (top 38) 15
abbrev zd1:Stmt:=zaa (top 38) 16
abbrev zdX:Stmt:=zaa (top 38) 18
abbrev zdG:Stmt:=zaa (top 110) 0
abbrev zfc:Stmt:=zaa (top 110) 2
abbrev zgb:Stmt:=zaa (top 110) 3
abbrev zfJ:Stmt:=zaa (top 110) 4
abbrev zcE:Stmt:=zaa (top 110) 5
abbrev zep:Stmt:=zaa (top 110) 6
abbrev zeZ:Stmt:=zaa (top 110) 10
abbrev zff:Stmt:=zaa (top 110) 11
abbrev zdR:Stmt:=zaa (top 110) 12
abbrev zeg:Stmt:=zaa (top 110) 13
abbrev zfi:Stmt:=zaa (top 110) 19
abbrev zdf:Stmt:=zaa (top 110) 20
abbrev zeS:Stmt:=zaa (top 110) 22
abbrev zgg:Stmt:=top 21
abbrev zhr:Stmt:=top 22
abbrev zeW:Stmt:=top 23
abbrev zg5:Stmt:=top 24
abbrev zdZ:Stmt:=top 25
abbrev znc:Stmt:=top 40
abbrev zol:Stmt:=top 41
abbrev zjF:Stmt:=top 42
abbrev zfs:Stmt:=top 43
abbrev zek:Stmt:=top 44
abbrev ziH:Stmt:=top 47
abbrev ziy:Stmt:=top 48
abbrev ze6:Stmt:=top 49
abbrev zgV:Stmt:=top 50
abbrev zhA:Stmt:=top 51
abbrev zoz:Stmt:=top 52
abbrev zi7:Stmt:=top 54
abbrev zov:Stmt:=top 56
abbrev zn2:Stmt:=top 57
abbrev zl2:Stmt:=top 58
abbrev zlK:Stmt:=top 59
abbrev znZ:Stmt:=top 60
abbrev zlk:Stmt:=top 61
abbrev zls:Stmt:=top 62
abbrev zlu:Stmt:=top 63
abbrev zhC:Stmt:=top 64
abbrev zgf:Stmt:=top 66
abbrev zft:Stmt:=top 67
abbrev ziO:Stmt:=top 69
abbrev zfy:Stmt:=top 70
abbrev zn3:Stmt:=top 72
abbrev ze4:Stmt:=top 73
abbrev zi6:Stmt:=top 74
abbrev zqD:Stmt:=top 75
abbrev zkx:Stmt:=top 77
abbrev zf7:Stmt:=top 78
abbrev zfC:Stmt:=top 79
abbrev zlJ:Stmt:=top 80
abbrev zf8:Stmt:=top 81
abbrev ziJ:Stmt:=top 83
abbrev zhF:Stmt:=top 84
abbrev zd0:Stmt:=top 85
abbrev zg6:Stmt:=top 86
abbrev zht:Stmt:=top 87
abbrev zdv:Stmt:=top 88
abbrev zdT:Stmt:=top 89
abbrev zg0:Stmt:=top 90
abbrev zfk:Stmt:=top 91
abbrev zlS:Stmt:=top 92
abbrev ziQ:Stmt:=top 93
abbrev zkl:Stmt:=top 95
abbrev zeX:Stmt:=top 96
abbrev zfh:Stmt:=top 97
abbrev zqB:Stmt:=top 99
abbrev zlU:Stmt:=top 101
abbrev zho:Stmt:=top 103
abbrev ze1:Stmt:=top 105
abbrev zg2:Stmt:=top 106
abbrev ziS:Stmt:=top 107
abbrev zeb:Stmt:=top 111
abbrev zdO:Stmt:=top 112
abbrev zf4:Stmt:=top 113
abbrev zf9:Stmt:=top 115
abbrev zf6:Stmt:=top 116
abbrev zfd:Stmt:=top 117
abbrev zgd:Stmt:=top 118
abbrev zes:Stmt:=top 119
abbrev zfz:Stmt:=top 120
abbrev zdS:Stmt:=top 121
abbrev zeP:Stmt:=top 122
abbrev ze2:Stmt:=top 123
abbrev zql:Stmt:=top 124
def zgG:FnScope ["self", "many", "wares"] ["self", "many", "wares"] (zj zd2):=by walk_at "s"
def zix:FnScope ["self", "payer", "payee", "ware", "units", "amount", "day", "rank"] ["self", "payer", "payee", "ware", "units", "amount", "day", "rank"] (zj zeY):=by walk_at "s"
def sc_Book_check_members:FnScope ["self", "payer", "payee", "member"] ["self", "payer", "payee"] (zj zcz):=by walk_at "s"
def ze7:FnScope ["self", "ware", "units", "amount", "day", "rank"] ["self", "ware", "units", "amount", "day", "rank"] (zj zc1):=by walk_at "s"
def zeh:FnScope ["self", "number", "amount", "day", "old"] ["self", "number", "amount", "day"] (zj ze5):=by walk_at "s"
def zf2:FnScope ["self", "number"] ["self", "number"] (zj zdK):=by walk_at "s"
def zcl:FnScope ["self", "number", "found"] ["self", "number"] (zj zcC):=by walk_at "s"
def zfZ:FnScope ["self", "number", "state"] ["self", "number", "state"] (zj zdt):=by walk_at "s"
def sc_Book_break_all:FnScope ["self", "member", "numbers", "number"] ["self", "member"] (zj zdE):=by walk_at "s"
def zdI:FnScope ["self", "number", "day", "terms"] ["self", "number", "day"] (zj zdY):=by walk_at "s"
def zb4:FnScope ["self", "number", "found"] ["self", "number"] (zj zco):=by walk_at "s"
def sc_Book_close:FnScope ["self", "numbers", "number"] ["self"] (zj zfn):=by walk_at "s"
def zjf:FnScope ["self"] ["self"] (zj zfE):=by walk_at "s"
def zkL:FnScope ["self", "number"] ["self", "number"] (zj zga):=by walk_at "s"
def ze8:FnScope ["self", "day"] ["self", "day"] (zj zdh):=by walk_at "s"
def zds:FnScope ["self", "day", "some"] ["self", "day"] (zj zd1):=by walk_at "s"
def sc_Book_position:FnScope ["self", "member", "made", "one"] ["self", "member"] (zj zdX):=by walk_at "s"
def zf3:FnScope ["self", "members", "moves", "rule", "order", "own"] ["self", "members", "moves", "rule", "order", "own"] (zj zdG):=by walk_at "s"
def zjm:FnScope ["self", "member", "coins"] ["self", "member", "coins"] (zj zfc):=by walk_at "s"
def zkk:FnScope ["self", "member", "coins"] ["self", "member", "coins"] (zj zgb):=by walk_at "s"
def zjc:FnScope ["self", "member", "coins"] ["self", "member", "coins"] (zj zfJ):=by walk_at "s"
def zeG:FnScope ["self", "member", "coins"] ["self", "member", "coins"] (zj zcE):=by walk_at "s"
def zhH:FnScope ["self", "payer", "payee", "ware", "units", "amount", "day", "rank"] ["self", "payer", "payee", "ware", "units", "amount", "day", "rank"] (zj zep):=by walk_at "s"
def sc_House_close:FnScope ["self", "day", "sheet", "told", "made", "member"] ["self"] (zj zeZ):=by walk_at "s"
def sc_House_bear:FnScope ["self", "rows", "word", "given", "borne", "there", "member"] ["self", "rows"] (zj zff):=by walk_at "s"
def zgn:FnScope ["self", "ends"] ["self", "ends"] (zj zdR):=by walk_at "s"
def zhj:FnScope ["self", "day"] ["self", "day"] (zj zeg):=by walk_at "s"
def zjj:FnScope ["self", "member"] ["self", "member"] (zj zfi):=by walk_at "s"
def zcW:FnScope ["self", "member", "ware", "units", "held"] ["self", "member", "ware", "units"] (zj zdf):=by walk_at "s"
def zh4:FnScope ["self"] ["self"] (zj zeS):=by walk_at "s"
def zcB:FnScope ["coins", "bounds", "together", "borne", "broken"] ["coins", "bounds"] (zj zgg):=by walk_at "s"
def zcT:FnScope ["coins", "bounds", "level", "borne", "above"] ["coins", "bounds"] (zj zhr):=by walk_at "s"
def zit:FnScope ["coins", "bounds"] ["coins", "bounds"] (zj zeW):=by walk_at "s"
def zkP:FnScope ["coins", "bounds", "rest", "bearers", "bound"] ["coins", "bounds"] (zj zg5):=by walk_at "s"
def sc_with_one_more:FnScope ["borne", "chosen", "left_over", "made", "rest", "number", "coins"] ["borne", "chosen", "left_over"] (zj zdZ):=by walk_at "s"
def sc_owes:FnScope ["many", "sheet", "sums", "payer", "payee", "rank", "amount"] ["many", "sheet"] (zj znc):=by walk_at "s"
def sc_nets:FnScope ["many", "sheet", "sums", "payer", "payee", "rank", "amount"] ["many", "sheet"] (zj zol):=by walk_at "s"
def sc_ranked:FnScope ["many", "sheet", "sums", "payer", "payee", "rank", "amount"] ["many", "sheet"] (zj zjF):=by walk_at "s"
def zjd:FnScope ["sheet"] ["sheet"] (zj zfs):=by walk_at "s"
def zhN:FnScope ["sheet", "amounts"] ["sheet", "amounts"] (zj zek):=by walk_at "s"
def zgP:FnScope ["sheet", "purses", "sums"] ["sheet", "purses"] (zj ziH):=by walk_at "s"
def sc_layered:FnScope ["order", "gaps", "pledges", "shares", "own", "rests", "shares_left", "rows", "word", "borne", "given"] ["order", "gaps", "pledges", "shares", "own"] (zj ziy):=by walk_at "s"
def sc_check_order:FnScope ["order", "place", "word"] ["order"] (zj ze6):=by walk_at "s"
def sc_borne_in:FnScope ["word", "rests", "pledges", "shares", "own", "whole", "bounds", "coins"] ["word", "rests", "pledges", "shares", "own", "whole"] (zj zgV):=by walk_at "s"
def zkO:FnScope ["word", "rests", "borne"] ["word", "rests", "borne"] (zj zhA):=by walk_at "s"
def zrf:FnScope ["some", "off"] ["some", "off"] (zj zoz):=by walk_at "s"
def zbR:FnScope ["one", "other", "kept", "rest", "further"] ["one", "other"] (zj zi7):=by walk_at "s"
def zhX:FnScope ["top", "bottom", "common"] ["top", "bottom"] (zj zov):=by walk_at "s"
def zfP:FnScope ["one", "other", "shared", "top", "common"] ["one", "other"] (zj zn2):=by walk_at "s"
def zpe:FnScope ["one", "other"] ["one", "other"] (zj zl2):=by walk_at "s"
def zdu:FnScope ["one", "other", "down", "across", "top", "bottom"] ["one", "other"] (zj zlK):=by walk_at "s"
def zrm:FnScope ["one", "other"] ["one", "other"] (zj znZ):=by walk_at "s"
def zph:FnScope ["one", "other"] ["one", "other"] (zj zlk):=by walk_at "s"
def zp7:FnScope ["one", "other"] ["one", "other"] (zj zls):=by walk_at "s"
def sc_total:FnScope ["some", "added", "each"] ["some"] (zj zlu):=by walk_at "s"
def zkY:FnScope ["one"] ["one"] (zj zhC):=by walk_at "s"
def zke:FnScope ["position", "moves"] ["position", "moves"] (zj zgf):=by walk_at "s"
def zeR:FnScope ["position", "moves", "k", "losses"] ["position", "moves", "k"] (zj zft):=by walk_at "s"
def zct:FnScope ["rule", "position", "moves", "losses", "worst", "need"] ["rule", "position", "moves"] (zj ziO):=by walk_at "s"
def zji:FnScope ["rule", "moves"] ["rule", "moves"] (zj zfy):=by walk_at "s"
def zik:FnScope ["sheet", "lays", "owed", "shares"] ["sheet", "lays"] (zj zn3):=by walk_at "s"
def sc_shares_paid:FnScope ["owed", "lay", "shares", "rest", "here", "laid"] ["owed", "lay"] (zj ze4):=by walk_at "s"
def sc_stop_of:FnScope ["owed", "lay", "end", "rank", "here"] ["owed", "lay"] (zj zi6):=by walk_at "s"
def sc_got:FnScope ["sheet", "lays", "gains", "number", "gain"] ["sheet", "lays"] (zj zqD):=by walk_at "s"
def sc_solved:FnScope ["rows", "right", "count", "table", "before", "place"] ["rows", "right"] (zj zkx):=by walk_at "s"
def sc_whole_row:FnScope ["row", "common", "top", "bottom"] ["row"] (zj zf7):=by walk_at "s"
def sc_with_first:FnScope ["table", "place", "found", "swapped"] ["table", "place"] (zj zfC):=by walk_at "s"
def sc_swept:FnScope ["table", "place", "before", "sweeper", "made", "number", "row"] ["table", "place", "before"] (zj zlJ):=by walk_at "s"
def zjV:FnScope ["row", "sweeper", "place", "before", "keep", "take"] ["row", "sweeper", "place", "before"] (zj zf8):=by walk_at "s"
def sc_cleared:FnScope ["sheet", "purses", "owed", "lays", "opened", "ranks", "flows", "circle", "rates", "step", "shut"] ["sheet", "purses"] (zj ziJ):=by walk_at "s"
def sc_flows_of:FnScope ["sheet", "ranks", "flows", "payer", "payee", "rank", "amount"] ["sheet", "ranks"] (zj zhF):=by walk_at "s"
def sc_closed_circle:FnScope ["flows", "ranks", "circles", "member", "reached"] ["flows", "ranks"] (zj zd0):=by walk_at "s"
def sc_reach_of:FnScope ["flows", "member", "reached", "place", "here"] ["flows", "member"] (zj zg6):=by walk_at "s"
def sc_balances:FnScope ["flows", "members", "rows", "place", "member"] ["flows", "members"] (zj zht):=by walk_at "s"
def zf0:FnScope ["flows", "circle", "rows", "right"] ["flows", "circle"] (zj zdv):=by walk_at "s"
def sc_opening_rates:FnScope ["flows", "ranks", "purses", "short", "right"] ["flows", "ranks", "purses"] (zj zdT):=by walk_at "s"
def sc_rates_of:FnScope ["flows", "members", "shares", "rates", "place", "member"] ["flows", "members", "shares"] (zj zg0):=by walk_at "s"
def sc_least_room:FnScope ["owed", "ranks", "lays", "rates", "room", "member", "rate", "end", "here"] ["owed", "ranks", "lays", "rates"] (zj zfk):=by walk_at "s"
def zoK:FnScope ["lays", "rates", "step"] ["lays", "rates", "step"] (zj zlS):=by walk_at "s"
def zhK:FnScope ["sheet", "purses", "lays", "gains"] ["sheet", "purses", "lays"] (zj ziQ):=by walk_at "s"
def sc_a_ring:FnScope ["many", "sheet", "onward", "going", "payers", "member"] ["many", "sheet"] (zj zkl):=by walk_at "s"
def sc_ways_onward:FnScope ["many", "sheet", "going", "onward", "turn"] ["many", "sheet"] (zj zeX):=by walk_at "s"
def sc_dues_among:FnScope ["sheet", "going", "onward", "number", "due"] ["sheet", "going"] (zj zfh):=by walk_at "s"
def sc_cut:FnScope ["many", "sheet", "left", "cuts", "ring", "fewest", "number"] ["many", "sheet"] (zj zqB):=by walk_at "s"
def zjK:FnScope ["sheet", "lays", "owed"] ["sheet", "lays"] (zj zlU):=by walk_at "s"
def sc_safe_cut:FnScope ["sheet", "purses", "ranks", "free", "amounts", "within", "left"] ["sheet", "purses"] (zj zho):=by walk_at "s"
def zaL:FnScope ["sheet", "purses", "pledges", "shares", "own", "order", "gaps", "told", "means", "left", "after", "lays", "ends"] ["sheet", "purses", "pledges", "shares", "own", "order"] (zj ze1):=by walk_at "s"
def zk2:FnScope ["purses", "rows"] ["purses", "rows"] (zj zg2):=by walk_at "s"
def zhG:FnScope ["sheet", "lays", "owed"] ["sheet", "lays"] (zj ziS):=by walk_at "s"
def zhI:FnScope ["coins", "wanted"] ["coins", "wanted"] (zj zeb):=by walk_at "s"
def zgq:FnScope ["pledge", "need"] ["pledge", "need"] (zj zdO):=by walk_at "s"
def zks:FnScope ["told"] ["told"] (zj zf4):=by walk_at "s"
def zjO:FnScope ["_law_script", "_law_k"] ["_law_script", "_law_k"] (zj zf9):=by walk_at "s"
def zjS:FnScope ["_law_script", "_law_k", "_law_many"] ["_law_script", "_law_k", "_law_many"] (zj zf6):=by walk_at "s"
def zbw:FnScope ["_law_e", "_law_kinds_here"] ["_law_e"] (zj zfd):=by walk_at "s"
def zdy:FnScope ["_law_script", "_law_many", "_law_book_here"] ["_law_script"] (zj zgd):=by walk_at "s"
def zhs:FnScope ["_law_book_here", "_law_way", "_law_some"] ["_law_book_here", "_law_way", "_law_some"] (zj zes):=by walk_at "s"
def zb7:FnScope ["_law_script", "_law_way", "_law_some", "_law_loss", "_law_house_here", "_law_members"] ["_law_script", "_law_way", "_law_some"] (zj zfz):=by walk_at "s"
def zgH:FnScope ["_law_house_here", "_law_way", "_law_some", "_law_turn"] ["_law_house_here", "_law_way", "_law_some", "_law_turn"] (zj zdS):=by walk_at "s"
def zh2:FnScope ["_law_script", "_law_way", "_law_things", "_law_some"] ["_law_script", "_law_way", "_law_things", "_law_some"] (zj zeP):=by walk_at "s"
def sc__law_caught:FnScope ["_law_script", "_law_way", "_law_things", "_law_some", "_law_kinds_here", "_law_e"] ["_law_script", "_law_way", "_law_things", "_law_some"] (zj ze2):=by walk_at "s"
def sc_law:FnScope ["_law_script", "_law_first", "_law_k", "_law_way", "_law_some", "_law_due", "_law_things"] ["_law_script"] (zj zql):=by walk_at "s"
def zgx{α:Type}{us:List α}(h:us.length=0):us=[]:=List.eq_nil_of_length_eq_zero h
def zaP{α:Type}{us:List α}(h:us.length=n+1):∃a vs,us=a :: vs/\vs.length=n:=by
 cases us with
 | nil=>cases h
 | cons a vs=>exact⟨a,vs,rfl,Nat.succ.inj h⟩
def len1{α:Type}{us:List α}(h:us.length=1):∃a,us=[a]:=by
 obtain⟨a,c,rfl,b⟩:=zaP h;obtain rfl:=zgx b;exact⟨a,rfl⟩
def len2{α:Type}{us:List α}(h:us.length=2):∃a a1,us=[a,a1]:=by
 obtain⟨a,c,rfl,d⟩:=zaP h;obtain⟨a1,b,rfl,h1⟩:=zaP d;obtain rfl:=zgx h1;exact⟨a,a1,rfl⟩
def len3{α:Type}{us:List α}(h:us.length=3):∃a a1 a2,us=[a,a1,a2]:=by
 obtain⟨a,c,rfl,e⟩:=zaP h;obtain⟨a1,b,rfl,h1⟩:=zaP e;obtain⟨a2,d,rfl,h2⟩:=zaP h1;obtain rfl:=zgx h2;exact⟨a,a1,a2,rfl⟩
def len4{α:Type}{us:List α}(h:us.length=4):∃b a1 a2 a,us=[b,a1,a2,a]:=by
 obtain⟨b,d,rfl,g⟩:=zaP h;obtain⟨a1,c,rfl,h1⟩:=zaP g;obtain⟨a2,e,rfl,h2⟩:=zaP h1;obtain⟨a,i,rfl,f⟩:=zaP h2;obtain rfl:=zgx f;exact⟨b,a1,a2,a,rfl⟩
def len5{α:Type}{us:List α}(h:us.length=5):∃b a1 a2 a c,us=[b,a1,a2,a,c]:=by
 obtain⟨b,e,rfl,f⟩:=zaP h;obtain⟨a1,d,rfl,h1⟩:=zaP f;obtain⟨a2,j,rfl,h2⟩:=zaP h1;obtain⟨a,g,rfl,k⟩:=zaP h2;obtain⟨c,l,rfl,i⟩:=zaP k;obtain rfl:=zgx i;exact⟨b,a1,a2,a,c,rfl⟩
def len6{α:Type}{us:List α}(h:us.length=6):∃c a1 a2 b d a,us=[c,a1,a2,b,d,a]:=by
 obtain⟨c,g,rfl,i⟩:=zaP h;obtain⟨a1,e,rfl,h1⟩:=zaP i;obtain⟨a2,m,rfl,h2⟩:=zaP h1;obtain⟨b,k,rfl,n⟩:=zaP h2;obtain⟨d,o,rfl,l⟩:=zaP n;obtain⟨a,j,rfl,f⟩:=zaP l;obtain rfl:=zgx f;exact⟨c,a1,a2,b,d,a,rfl⟩
def len8{α:Type}{us:List α}(h:us.length=8):∃d a1 a2 b e a f c,us=[d,a1,a2,b,e,a,f,c]:=by
 obtain⟨d,k,rfl,m⟩:=zaP h;obtain⟨a1,g,rfl,h1⟩:=zaP m;obtain⟨a2,r,rfl,h2⟩:=zaP h1;obtain⟨b,o,rfl,s⟩:=zaP h2;obtain⟨e,u,rfl,p⟩:=zaP s;obtain⟨a,n,rfl,j⟩:=zaP p;obtain⟨f,t,rfl,l⟩:=zaP j;obtain⟨c,q,rfl,i⟩:=zaP l;obtain rfl:=zgx i;exact⟨d,a1,a2,b,e,a,f,c,rfl⟩
structure Dfn(K:Fg)(mg:Str->Option Value)(x qual:Str)(st:Stmt)(ps:List Str) where
 a:Addr
 fd:FuncData
 F:Fun K x qual st a fd
 b:Binds K fd ps []
 m:mg x=some (.ref a)
abbrev Dfn.Ok(D:Dfn K mg x qual st ps)(P:Program)(w:World)(base:Heap)(k:Nat)(sp:Sp):Prop:=FnOk P w K mg base (CXF P w) k D.a D.fd ps sp
structure DfnM(K:Fg)(C:Addr)(x qual:Str)(st:Stmt)(ps:List Str) where
 a:Addr
 fd:FuncData
 F:Fun K x qual st a fd
 b:Binds K fd ps []
 mt:Meth K C x a
abbrev DfnM.Ok(D:DfnM K C x qual st ps)(P:Program)(w:World)(mg:Str->Option Value)(base:Heap)(k:Nat)(sp:Sp):Prop:=FnOk P w K mg base (CXF P w) k D.a D.fd ps sp
def qD{j:Nat}{t:TA}{p pos:Pos}(D:Dfn X.K X.mg x qual st ps)(F:FnOk X.prog X.w X.K X.mg X.base (CXF X.prog X.w) k D.a D.fd ps sp)(f:Room j X.A)(i:PA X (e :: es) t)(hle:autoParam (k<=j) Internal.aut1._auto_1)(h:autoParam (Gl X x) Internal.aut2._auto_1)(d:autoParam ((x == ("__debug__" : Str))=false) Internal.aut1._auto_1)(g:autoParam (starEach (e :: es) X.env=(false,eval e X.env) :: starEach es X.env) Internal.aut2._auto_1)(c:autoParam ((backTo pos (starEach es X.env)).any (·.1)=false) Internal.aut2._auto_1):PE X (.Call (.Name x p) (e :: es) [] pos) (zeI sp [] E0 t):=ziw F (f.mono hle) h D.m D.F.kp D.b .nil (zaD zaA) i d g c
def qE{d:Fg}{c:Str}{g:Value}{j:Nat}{t:TA}{p pos:Pos}(D:Dfn d mg x qual st ps)(F:FnOk P w d mg base (CXF P w) k D.a D.fd ps sp)(n:Room j (zay (CXF P w) P w d mg base N c scope f g A outer s H E).A)(l:PA (zay (CXF P w) P w d mg base N c scope f g A outer s H E) (e :: es) t)(hle:autoParam (k<=j) Internal.aut1._auto_1)(q:autoParam (Gl (zay (CXF P w) P w d mg base N c scope f g A outer s H E) x) Internal.aut2._auto_1)(i:autoParam ((x == ("__debug__" : Str))=false) Internal.aut1._auto_1)(o:autoParam (starEach (e :: es) (zay (CXF P w) P w d mg base N c scope f g A outer s H E).env=(false,eval e (zay (CXF P w) P w d mg base N c scope f g A outer s H E).env) :: starEach es (zay (CXF P w) P w d mg base N c scope f g A outer s H E).env) Internal.aut2._auto_1)(h:autoParam ((backTo pos (starEach es (zay (CXF P w) P w d mg base N c scope f g A outer s H E).env)).any (·.1)=false) Internal.aut2._auto_1):PE (zay (CXF P w) P w d mg base N c scope f g A outer s H E) (.Call (.Name x p) (e :: es) [] pos) (zeI sp [] E t):=ziw F (n.mono hle) q D.m D.F.kp D.b .nil zac l i o h
structure GI(mg:Str->Option Value)(x:Str)(c:Int) where
 t:Tok
 h:mg x=some (.int c t)
structure Txt(K:Fg)(mg:Str->Option Value) where
 c_Bare:Addr
 m_Bare:mg "Bare" = some (.ref c_Bare)
 c_Closed:Addr
 m_Closed:mg "Closed" = some (.ref c_Closed)
 c_Gone:Addr
 m_Gone:mg "Gone" = some (.ref c_Gone)
 c_NoAnswer:Addr
 m_NoAnswer:mg "NoAnswer" = some (.ref c_NoAnswer)
 c_NoDeal:Addr
 m_NoDeal:mg "NoDeal" = some (.ref c_NoDeal)
 c_NoLayer:Addr
 m_NoLayer:mg "NoLayer" = some (.ref c_NoLayer)
 c_NoMember:Addr
 m_NoMember:mg "NoMember" = some (.ref c_NoMember)
 c_NoPart:Addr
 m_NoPart:mg "NoPart" = some (.ref c_NoPart)
 c_NoRule:Addr
 m_NoRule:mg "NoRule" = some (.ref c_NoRule)
 c_NoTerms:Addr
 m_NoTerms:mg "NoTerms" = some (.ref c_NoTerms)
 c_Out:Addr
 m_Out:mg "Out" = some (.ref c_Out)
 c_Poor:Addr
 m_Poor:mg "Poor" = some (.ref c_Poor)
 c_QuitsError:Addr
 m_QuitsError:mg "QuitsError" = some (.ref c_QuitsError)
 c_Ringed:Addr
 m_Ringed:mg "Ringed" = some (.ref c_Ringed)
 c_Settled:Addr
 m_Settled:mg "Settled" = some (.ref c_Settled)
 c_Standing:Addr
 m_Standing:mg "Standing" = some (.ref c_Standing)
 c_TooMuch:Addr
 m_TooMuch:mg "TooMuch" = some (.ref c_TooMuch)
 c_Unclosed:Addr
 m_Unclosed:mg "Unclosed" = some (.ref c_Unclosed)
 e_Bare:errOk K c_Bare=true
 e_Closed:errOk K c_Closed=true
 e_Gone:errOk K c_Gone=true
 e_NoAnswer:errOk K c_NoAnswer=true
 e_NoDeal:errOk K c_NoDeal=true
 e_NoLayer:errOk K c_NoLayer=true
 e_NoMember:errOk K c_NoMember=true
 e_NoPart:errOk K c_NoPart=true
 e_NoRule:errOk K c_NoRule=true
 e_NoTerms:errOk K c_NoTerms=true
 e_Out:errOk K c_Out=true
 e_Poor:errOk K c_Poor=true
 e_Settled:errOk K c_Settled=true
 e_Standing:errOk K c_Standing=true
 e_TooMuch:errOk K c_TooMuch=true
 e_Unclosed:errOk K c_Unclosed=true
 kt:tab83 K [c_TooMuch,c_NoLayer,c_NoMember,c_NoTerms,c_NoDeal,c_Closed,c_Gone,c_Settled,c_Standing,c_Out,c_Bare,c_Poor,c_Unclosed,c_NoPart,c_Ringed,c_NoAnswer,c_NoRule] c_QuitsError=true
 kd:([c_TooMuch,c_NoLayer,c_NoMember,c_NoTerms,c_NoDeal,c_Closed,c_Gone,c_Settled,c_Standing,c_Out,c_Bare,c_Poor,c_Unclosed,c_NoPart,c_Ringed,c_NoAnswer,c_NoRule]:List Addr).Nodup
 c_Book:Addr
 m_Book:mg "Book" = some (.ref c_Book)
 cl_Book:Cls K c_Book
 na_Book_day:NoAttr K c_Book "day"
 na_Book_deals:NoAttr K c_Book "deals"
 na_Book_many:NoAttr K c_Book "many"
 na_Book_wares:NoAttr K c_Book "wares"
 c_House:Addr
 m_House:mg "House" = some (.ref c_House)
 cl_House:Cls K c_House
 na_House_book:NoAttr K c_House "book"
 na_House_kept:NoAttr K c_House "kept"
 na_House_moves:NoAttr K c_House "moves"
 na_House_order:NoAttr K c_House "order"
 na_House_outs:NoAttr K c_House "outs"
 na_House_pledges:NoAttr K c_House "pledges"
 na_House_purses:NoAttr K c_House "purses"
 na_House_reports:NoAttr K c_House "reports"
 na_House_rule:NoAttr K c_House "rule"
 na_House_shares:NoAttr K c_House "shares"
 g_AMOUNT:GI mg "AMOUNT" 4
 g_DAY:GI mg "DAY" 5
 g_MOST_AMOUNT:GI mg "MOST_AMOUNT" 1000000000
 g_MOST_COINS:GI mg "MOST_COINS" 1000000000
 g_MOST_DAY:GI mg "MOST_DAY" 1000000
 g_MOST_UNITS:GI mg "MOST_UNITS" 1000000
 g_PAYEE:GI mg "PAYEE" 1
 g_PAYER:GI mg "PAYER" 0
 g_RANK:GI mg "RANK" 6
 g_STATE:GI mg "STATE" 7
 g_UNITS:GI mg "UNITS" 3
 g_WARE:GI mg "WARE" 2
 a_WORDS:Addr
 g_WORDS:mg "WORDS" = some (.ref a_WORDS)
 q_WORDS:∀H:Hp,SqT K H a_WORDS [.str "pledge",.str "share",.str "own",.str "others",.str "level"]
 d_Book___init__:DfnM K c_Book "__init__" "Book.__init__" zd2 ["self", "many", "wares"]
 mk_Book:Mk K c_Book d_Book___init__.a
 d_Book_strike:DfnM K c_Book "strike" "Book.strike" zeY ["self", "payer", "payee", "ware", "units", "amount", "day", "rank"]
 d_Book_check_members:DfnM K c_Book "check_members" "Book.check_members" zcz ["self", "payer", "payee"]
 d_Book_check_terms:DfnM K c_Book "check_terms" "Book.check_terms" zc1 ["self", "ware", "units", "amount", "day", "rank"]
 d_Book_change:DfnM K c_Book "change" "Book.change" ze5 ["self", "number", "amount", "day"]
 d_Book_break_off:DfnM K c_Book "break_off" "Book.break_off" zdK ["self", "number"]
 d_Book_standing_deal:DfnM K c_Book "standing_deal" "Book.standing_deal" zcC ["self", "number"]
 d_Book_put_state:DfnM K c_Book "put_state" "Book.put_state" zdt ["self", "number", "state"]
 d_Book_break_all:DfnM K c_Book "break_all" "Book.break_all" zdE ["self", "member"]
 d_Book_contrary:DfnM K c_Book "contrary" "Book.contrary" zdY ["self", "number", "day"]
 d_Book_contrary_terms:DfnM K c_Book "contrary_terms" "Book.contrary_terms" zco ["self", "number"]
 d_Book_close:DfnM K c_Book "close" "Book.close" zfn ["self"]
 d_Book_today:DfnM K c_Book "today" "Book.today" zfE ["self"]
 d_Book_deal:DfnM K c_Book "deal" "Book.deal" zga ["self", "number"]
 d_Book_numbers_on:DfnM K c_Book "numbers_on" "Book.numbers_on" zdh ["self", "day"]
 d_Book_sheet_on:DfnM K c_Book "sheet_on" "Book.sheet_on" zd1 ["self", "day"]
 d_Book_position:DfnM K c_Book "position" "Book.position" zdX ["self", "member"]
 d_House___init__:DfnM K c_House "__init__" "House.__init__" zdG ["self", "members", "moves", "rule", "order", "own"]
 mk_House:Mk K c_House d_House___init__.a
 d_House_take:DfnM K c_House "take" "House.take" zfc ["self", "member", "coins"]
 d_House_lay:DfnM K c_House "lay" "House.lay" zgb ["self", "member", "coins"]
 d_House_free:DfnM K c_House "free" "House.free" zfJ ["self", "member", "coins"]
 d_House_check_coins:DfnM K c_House "check_coins" "House.check_coins" zcE ["self", "member", "coins"]
 d_House_strike:DfnM K c_House "strike" "House.strike" zep ["self", "payer", "payee", "ware", "units", "amount", "day", "rank"]
 d_House_close:DfnM K c_House "close" "House.close" zeZ ["self"]
 d_House_bear:DfnM K c_House "bear" "House.bear" zff ["self", "rows"]
 d_House_pay_out:DfnM K c_House "pay_out" "House.pay_out" zdR ["self", "ends"]
 d_House_report:DfnM K c_House "report" "House.report" zeg ["self", "day"]
 d_House_need:DfnM K c_House "need" "House.need" zfi ["self", "member"]
 d_House_need_with:DfnM K c_House "need_with" "House.need_with" zdf ["self", "member", "ware", "units"]
 d_House_today:DfnM K c_House "today" "House.today" zeS ["self"]
 d_by_shares:Dfn K mg "by_shares" "by_shares" zgg ["coins", "bounds"]
 d_by_level:Dfn K mg "by_level" "by_level" zhr ["coins", "bounds"]
 d_check_coins:Dfn K mg "check_coins" "check_coins" zeW ["coins", "bounds"]
 d_level_of:Dfn K mg "level_of" "level_of" zg5 ["coins", "bounds"]
 d_with_one_more:Dfn K mg "with_one_more" "with_one_more" zdZ ["borne", "chosen", "left_over"]
 d_owes:Dfn K mg "owes" "owes" znc ["many", "sheet"]
 d_nets:Dfn K mg "nets" "nets" zol ["many", "sheet"]
 d_ranked:Dfn K mg "ranked" "ranked" zjF ["many", "sheet"]
 d_amounts_of:Dfn K mg "amounts_of" "amounts_of" zfs ["sheet"]
 d_with_amounts:Dfn K mg "with_amounts" "with_amounts" zek ["sheet", "amounts"]
 d_gaps_of:Dfn K mg "gaps_of" "gaps_of" ziH ["sheet", "purses"]
 d_layered:Dfn K mg "layered" "layered" ziy ["order", "gaps", "pledges", "shares", "own"]
 d_check_order:Dfn K mg "check_order" "check_order" ze6 ["order"]
 d_borne_in:Dfn K mg "borne_in" "borne_in" zgV ["word", "rests", "pledges", "shares", "own", "whole"]
 d_given_in:Dfn K mg "given_in" "given_in" zhA ["word", "rests", "borne"]
 d_less:Dfn K mg "less" "less" zoz ["some", "off"]
 d_divisor:Dfn K mg "divisor" "divisor" zi7 ["one", "other"]
 d_part:Dfn K mg "part" "part" zov ["top", "bottom"]
 d_plus:Dfn K mg "plus" "plus" zn2 ["one", "other"]
 d_minus:Dfn K mg "minus" "minus" zl2 ["one", "other"]
 d_times:Dfn K mg "times" "times" zlK ["one", "other"]
 d_over:Dfn K mg "over" "over" znZ ["one", "other"]
 d_under:Dfn K mg "under" "under" zlk ["one", "other"]
 d_least:Dfn K mg "least" "least" zls ["one", "other"]
 d_total:Dfn K mg "total" "total" zlu ["some"]
 d_whole_of:Dfn K mg "whole_of" "whole_of" zhC ["one"]
 d_losses_of:Dfn K mg "losses_of" "losses_of" zgf ["position", "moves"]
 d_worst_days:Dfn K mg "worst_days" "worst_days" zft ["position", "moves", "k"]
 d_need_of:Dfn K mg "need_of" "need_of" ziO ["rule", "position", "moves"]
 d_check_rule:Dfn K mg "check_rule" "check_rule" zfy ["rule", "moves"]
 d_paid:Dfn K mg "paid" "paid" zn3 ["sheet", "lays"]
 d_shares_paid:Dfn K mg "shares_paid" "shares_paid" ze4 ["owed", "lay"]
 d_stop_of:Dfn K mg "stop_of" "stop_of" zi6 ["owed", "lay"]
 d_got:Dfn K mg "got" "got" zqD ["sheet", "lays"]
 d_solved:Dfn K mg "solved" "solved" zkx ["rows", "right"]
 d_whole_row:Dfn K mg "whole_row" "whole_row" zf7 ["row"]
 d_with_first:Dfn K mg "with_first" "with_first" zfC ["table", "place"]
 d_swept:Dfn K mg "swept" "swept" zlJ ["table", "place", "before"]
 d_swept_row:Dfn K mg "swept_row" "swept_row" zf8 ["row", "sweeper", "place", "before"]
 d_cleared:Dfn K mg "cleared" "cleared" ziJ ["sheet", "purses"]
 d_flows_of:Dfn K mg "flows_of" "flows_of" zhF ["sheet", "ranks"]
 d_closed_circle:Dfn K mg "closed_circle" "closed_circle" zd0 ["flows", "ranks"]
 d_reach_of:Dfn K mg "reach_of" "reach_of" zg6 ["flows", "member"]
 d_balances:Dfn K mg "balances" "balances" zht ["flows", "members"]
 d_circling_rates:Dfn K mg "circling_rates" "circling_rates" zdv ["flows", "circle"]
 d_opening_rates:Dfn K mg "opening_rates" "opening_rates" zdT ["flows", "ranks", "purses"]
 d_rates_of:Dfn K mg "rates_of" "rates_of" zg0 ["flows", "members", "shares"]
 d_least_room:Dfn K mg "least_room" "least_room" zfk ["owed", "ranks", "lays", "rates"]
 d_grown:Dfn K mg "grown" "grown" zlS ["lays", "rates", "step"]
 d_ends_by:Dfn K mg "ends_by" "ends_by" ziQ ["sheet", "purses", "lays"]
 d_a_ring:Dfn K mg "a_ring" "a_ring" zkl ["many", "sheet"]
 d_ways_onward:Dfn K mg "ways_onward" "ways_onward" zeX ["many", "sheet"]
 d_dues_among:Dfn K mg "dues_among" "dues_among" zfh ["sheet", "going"]
 d_cut:Dfn K mg "cut" "cut" zqB ["many", "sheet"]
 d_stops:Dfn K mg "stops" "stops" zlU ["sheet", "lays"]
 d_safe_cut:Dfn K mg "safe_cut" "safe_cut" zho ["sheet", "purses"]
 d_settled_day:Dfn K mg "settled_day" "settled_day" ze1 ["sheet", "purses", "pledges", "shares", "own", "order"]
 d_means_of:Dfn K mg "means_of" "means_of" zg2 ["purses", "rows"]
 d_outs_of:Dfn K mg "outs_of" "outs_of" ziS ["sheet", "lays"]
 d_check_enough:Dfn K mg "check_enough" "check_enough" zeb ["coins", "wanted"]
 d_check_covered:Dfn K mg "check_covered" "check_covered" zdO ["pledge", "need"]
 d_as_tuples:Dfn K mg "as_tuples" "as_tuples" zf4 ["told"]
 d__law_cell:Dfn K mg "_law_cell" "_law_cell" zf9 ["_law_script", "_law_k"]
 d__law_draw:Dfn K mg "_law_draw" "_law_draw" zf6 ["_law_script", "_law_k", "_law_many"]
 d__law_kinds:Dfn K mg "_law_kinds" "_law_kinds" zfd ["_law_e"]
 d__law_book:Dfn K mg "_law_book" "_law_book" zgd ["_law_script"]
 d__law_by_book:Dfn K mg "_law_by_book" "_law_by_book" zes ["_law_book_here", "_law_way", "_law_some"]
 d__law_house:Dfn K mg "_law_house" "_law_house" zfz ["_law_script", "_law_way", "_law_some"]
 d__law_by_house:Dfn K mg "_law_by_house" "_law_by_house" zdS ["_law_house_here", "_law_way", "_law_some", "_law_turn"]
 d__law_called:Dfn K mg "_law_called" "_law_called" zeP ["_law_script", "_law_way", "_law_things", "_law_some"]
 d__law_caught:Dfn K mg "_law_caught" "_law_caught" ze2 ["_law_script", "_law_way", "_law_things", "_law_some"]
 d_law:Dfn K mg "law" "law" zql ["_law_script"]
 cw_worst_days:Addr
 tw_worst_days:Addr
 tb_worst_days:PySem.W.tabIn K "worst_days" = some (cw_worst_days,tw_worst_days)
 cc_worst_days:d_worst_days.fd.code=.ref cw_worst_days
 bl_law:∀(s:Shared) (v:Value),BindsTo s d_law.fd ⟨[v],[]⟩ [("_law_script",v)]
 z_ValueError:mg "ValueError" = none
 z_abs:mg "abs" = none
 z_all:mg "all" = none
 z_enumerate:mg "enumerate" = none
 z_isinstance:mg "isinstance" = none
 z_len:mg "len" = none
 z_list:mg "list" = none
 z_max:mg "max" = none
 z_min:mg "min" = none
 z_range:mg "range" = none
 z_sorted:mg "sorted" = none
 z_sum:mg "sum" = none
 z_tuple:mg "tuple" = none
 z_zip:mg "zip" = none
noncomputable def mkD {K:Fg} {h:Heap} {mg:Str->Option Value} (X:K.In h) (G:h.Ns mainGlobals mg) {x qual:Str} {st:Stmt} {ps:List Str} {f:Addr} {i kV j e g ct:Value} {od d:Option Addr} {n:Array (Option Value)} (a:PySem.W.nsIn K mainGlobals x=some (some (.ref f))) (l:K.lookup f=some ⟨i,od,.func (PySem.W.fnOf x qual (zcp st) (zbb st) (zj st) .none kV j e d g ct),n⟩) (c:PySem.W.codeIn K g qual=true) (k:PySem.W.keepIn K (.ref f)=true) (b:∀(kV doc e:Value) (d:Option Addr) (cdv ct:Value) (us:List Value),us.length=ps.length->bindArgs (PySem.W.fnOf x qual (zcp st) (zbb st) (zj st) .none kV doc e d cdv ct) ⟨us,[]⟩=pure (ps.zip us)):Dfn K mg x qual st ps:={ a:=f,fd:=_,F:=zhx (st:=st) l c k,b:=(zhx (st:=st) l c k).binds b,m:=PySem.W.mg_of X G a }
noncomputable def mkM {K:Fg} {C:Addr} {x qual:Str} {st:Stmt} {ps:List Str} {f:Addr} {h kV j e g ct:Value} {od d:Option Addr} {m:Array (Option Value)} (a:PySem.W.findIn K (.ref C) x=some (some (.ref f))) (i:PySem.W.isFn K (.ref f)=true) (l:K.lookup f=some ⟨h,od,.func (PySem.W.fnOf x qual (zcp st) (zbb st) (zj st) .none kV j e d g ct),m⟩) (c:PySem.W.codeIn K g qual=true) (k:PySem.W.keepIn K (.ref f)=true) (b:∀(kV doc e:Value) (d:Option Addr) (cdv ct:Value) (us:List Value),us.length=ps.length->bindArgs (PySem.W.fnOf x qual (zcp st) (zbb st) (zj st) .none kV doc e d cdv ct) ⟨us,[]⟩=pure (ps.zip us)):DfnM K C x qual st ps:={ a:=f,fd:=_,F:=zhx (st:=st) l c k,b:=(zhx (st:=st) l c k).binds b,mt:=⟨a,i,k⟩ }
def mkQ_WORDS{w:Addr}{od:Option Addr}{a:Array (Option Value)}{k0 k1 k2 k3 b:Tok}(o:K.lookup w=some ⟨.type "tuple",od,.seq #[.str "pledge" k0,.str "share" k1,.str "own" k2,.str "others" k3,.str "level" b] n,a⟩)(H:Hp):SqT K H w [.str "pledge",.str "share",.str "own",.str "others",.str "level"]:=.inr ⟨_,_,_,o,rfl,rfl,(by show 5<=_;rw[sizeLine_eq];decide),(.cons ⟨_,rfl⟩ (.cons ⟨_,rfl⟩ (.cons ⟨_,rfl⟩ (.cons ⟨_,rfl⟩ (.cons ⟨_,rfl⟩ .nil)))))⟩
noncomputable def mkI {K:Fg} {h:Heap} {mg:Str->Option Value} (X:K.In h) (G:h.Ns mainGlobals mg) {x:Str} {c:Int} {t:Tok} (g:PySem.W.nsIn K mainGlobals x=some (some (.int c t))):GI mg x c:=⟨t,PySem.W.mg_of X G g⟩
section
variable {P:Program}{w:World}{K:Fg}{mg:Str->Option Value}{base:Heap}[TabX K mg base "worst_days"]
abbrev lP:Pos:=⟨316,42,316,73⟩
abbrev lQ:Str:=("worst_days" : Str) ++ ".<locals>." ++ "<lambda>"
theorem zeQ(T:Txt K mg):∀l:Nat,FnOk P w K mg base (CXF P w) l T.d_as_tuples.a T.d_as_tuples.fd ["told"] (zqG K l)
 | 0=>⟨λvs H Q E h=>(by obtain⟨_,_,_,_,h,_⟩:=h;exact absurd h (Nat.not_lt_zero _)),λA outer s H args us vs Q E _ _ _ _ h=>(by obtain⟨_,_,_,_,h,_⟩:=h;exact absurd h (Nat.not_lt_zero _))⟩
 | l+1=>by
  have R:=zeQ T l;refine T.d_as_tuples.F.okN zks (by walk_at "l") λa0 A outer s H vs Q E hr h=>?_;obtain⟨x,t,d,rfl,hd,ht,hok,k1,k2,k3,G,k⟩:=h;have U:=hr;refine⟨_,(ze (zG (zcd K (zaS (show CallR _ _ (zqm K)from zod) rfl T.z_isinstance BT.isinstance (za (pv 0) (za (zM (za (zhR (v:=.ty "list") rfl T.z_list BT.list rfl) (za (zhR (v:=.ty "tuple") rfl T.z_tuple BT.tuple rfl) zd))) zd))))
 (zi (zp (zfq (show CallR _ _ (zgy K)from zkV) rfl T.z_tuple BT.tuple (za (qC1 ["each"] [none] (show PI _ _ _ (zpQ K _)from zsz (pv 0)) (λ_ _ _ _ _=>(ziw R U rfl T.d_as_tuples.m T.d_as_tuples.F.kp T.d_as_tuples.b .nil (zaD zaA) (za (pv 0) zd)))) zd))))
 zA)
 (zi (zp (pv 0)))),?_⟩
  refine zo (σ0:=[some (x)]) rfl ?_;walk_at "x";refine za9 (by first | decide | simp) λtp H1 a2 e1 j=>?_;have a1:=ht.same e1;cases ht with
  | int i=>
   refine⟨_,tp,false,rfl,j,rfl,k1,k2,k3,G,?_⟩;walk_at "x";exact k _ _ e1 (.int i)
  | str s=>
   refine⟨_,tp,false,rfl,j,rfl,k1,k2,k3,G,?_⟩;walk_at "x";exact k _ _ e1 (.str s)
  | @lst a xs ts ea hxs=>
   obtain⟨d1,J,c⟩:=hok;have C:=hxs.len;refine⟨_,tp,true,rfl,j,⟨rfl,xs,.inl (e1.at ea)⟩,k1,k2,k3,G,?_⟩;walk_at "x";refine zqi ?_;walk_at "x";refine⟨a,rfl,.inl ⟨⟨xs,SqL.of (e1.at ea)⟩,?_⟩⟩;refine zR (zS (K:=K) (a:=a) (xs:=xs)) (λH' e=>SqL.of (e.at (e1.at ea))) rfl (λi vs H'=>IsTps H' vs (ts.take i)) (λH' _=>.nil) ?_ ?_
   ·rintro i y D vs o V S hi Y B M f n g X;obtain⟨u,L,r⟩:=hxs.get X;walk_at "x";refine⟨y,u,d-1,rfl,⋯,r.same (e1.trans (B.trans g)),zh7 c L,k1,k2,k3,G,λz H5 Z N=>?_⟩;have I:vs.length<=1000:=by lia
    walk_at "x";rename_i H6 O W;refine⟨⟨_,rfl⟩,∅,_,W,by rw[ye];exact yb f,?_⟩;dsimp only;rw[zak L];exact(((n.keep λ_ _ q=>(g.trans Z).at q).snoc N).keep λ_ _ q=>O.tup q)
   rintro D V vs Y B M f n;rw[C,List.take_length]at n;refine zjQ M λp S fp g hp=>?_;exact k _ _ ((e1.trans B).trans g) (.nod hp (n.keep λ_ _ q=>g.at q))
  | @tup a xs ts ea hxs=>
   obtain⟨d1,J,c⟩:=hok;have C:=hxs.len;refine⟨_,tp,true,rfl,j,⟨rfl,xs,.inr (e1.at ea)⟩,k1,k2,k3,G,?_⟩;walk_at "x";refine zqi ?_;walk_at "x";refine⟨a,rfl,.inr ⟨⟨xs,SqT.of (e1.at ea)⟩,?_⟩⟩;refine zR (zlH (K:=K) (a:=a) (xs:=xs)) (λH' e=>SqT.of (e.at (e1.at ea))) rfl (λi vs H'=>IsTps H' vs (ts.take i)) (λH' _=>.nil) ?_ ?_
   ·rintro i y D vs o V S hi Y B M f n g X;obtain⟨u,L,r⟩:=hxs.get X;walk_at "x";refine⟨y,u,d-1,rfl,⋯,r.same (e1.trans (B.trans g)),zh7 c L,k1,k2,k3,G,λz H5 Z N=>?_⟩;have I:vs.length<=1000:=by lia
    walk_at "x";rename_i H6 O W;refine⟨⟨_,rfl⟩,∅,_,W,by rw[ye];exact yb f,?_⟩;dsimp only;rw[zak L];exact(((n.keep λ_ _ q=>(g.trans Z).at q).snoc N).keep λ_ _ q=>O.tup q)
   rintro D V vs Y B M f n;rw[C,List.take_length]at n;refine zjQ M λp S fp g hp=>?_;exact k _ _ ((e1.trans B).trans g) (.nod hp (n.keep λ_ _ q=>g.at q))
def zbU(T:Txt K mg):T.d_divisor.Ok P w base 1 zqj:=by
 refine T.d_divisor.F.okN zbR (by walk_at "l") λn A outer s H vs Q E o h=>?_;obtain⟨a,b,rfl,q⟩:=h;refine⟨_,(ze (zu 2 zbR (zaS ziI rfl T.z_abs BT.abs (za (pv 0) zd)))
 (ze (zu 3 zbR (zaS ziI rfl T.z_abs BT.abs (za (pv 1) zd)))
 (ze (zdp PassesOwn.never (zm (qNe K o.units) (pv 3) zh (nomark _))
 (ze (zu 4 zbR (zw zbV (pv 2) (pv 3)))
 (ze (zu 2 zbR (pv 3))
 (zi (zu 3 zbR (pv 4))))))
 (zi (zp (pv 2)))))),?_⟩
 refine zo (σ0:=[some (.int a),some (.int b),none,none,none]) rfl ?_;walk_at "x";refine⟨λm σ H'=>∃k r f,σ=[some (.int a),some (.int b),some (.int k),some (.int r),f]/\H'=H/\0<=k/\0<=r/\My.gc k r=My.gc a b/\m=r.toNat,⟨_,_,_,_,rfl,rfl,znj a,znj b,My.gc_abs a b,rfl⟩,?_⟩;rintro m σ H' ⟨k,r,f,rfl,rfl,l,d,e,rfl⟩;walk_at "x"
 ·rename_i i;refine⟨λg c=>g=[some (.int a),some (.int b),some (.int r),some (.int (k%r)),some (.int (k%r))]/\c=H',?_,?_⟩
  ·rintro g c ⟨rfl,rfl⟩;have h1:=Int.emod_nonneg k (b:=r) ⋯;have h2:=Int.emod_lt_of_pos k (b:=r) ⋯;exact⟨_,⋯,_,_,_,rfl,rfl,d,h1,by rw[My.gc_step];exact e,rfl⟩
  ·walk_at "x";exact⟨rfl,rfl⟩
 ·rename_i j;rw[j,My.gc_zero_right l]at e;rw[e];exact q
noncomputable def zlz (C:Addr):Sp:=λvs H Q E=>∃t b:Int,vs=[.int t,.int b]/\sz b<=8999/\((b=0/\E (.ref C) none H)\/(b≠0/\NewQ H Q (Rat.divInt t b)))
def ziL{t b:Int}(a:b≠0)(c:sz b<=8999)(q:NewQ H Q (Rat.divInt t b)):zlz C [.int t,.int b] H Q E:=⟨t,b,rfl,c,.inr ⟨a,q⟩⟩
def zlo(T:Txt K mg):T.d_part.Ok P w base 2 (zlz T.c_NoPart):=by
 refine T.d_part.F.okX zhX (λvs H Q E h=>?_) (λf A outer s H vs Q E d h=>?_)
 ·obtain⟨t,b,rfl,_⟩:=h;rfl
 obtain⟨t,b,rfl,g,k⟩:=h;refine⟨_,(ze (zG (zm (qEq K d.units) (pv 1) zh (nomark _))
 (zi (zad rfl rfl T.m_NoPart (errOk.own T.e_NoPart) (za zH zd) zax))
 zA)
 (ze (zu 2 zhX (qD T.d_divisor (zbU (base:=base) T) d (za (pv 0) (za (pv 1) zd))))
 (zlM (zG (zm zba (pv 1) zh (nomark _))
 (zi (zu 2 zhX (zbY zbk (pv 2))))
 zA)
 (zi (zp (zM (za (zw zaX (pv 0) (pv 2)) (za (zw zaX (pv 1) (pv 2)) zd)))))))),?_⟩
 refine zo (σ0:=[some (.int t),some (.int b),none]) rfl ?_;walk_at "x"
 ·rename_i a;rcases k with⟨_,k⟩ | ⟨h1,_⟩
  ·exact⟨by decide,k⟩
  ·exact absurd a h1
 ·rename_i a;rcases k with⟨h1,_⟩ | ⟨_,k⟩
  ·exact absurd h1 a
  have i:0<My.gc t b:=My.gc_pos_right a;have e:sz (My.gc t b)<=9000:=ya (zb5 a g) (by decide);refine zot 2 (λv H'=>H'=H/\((b<0/\v=.int (-My.gc t b))\/(0<b/\v=.int (My.gc t b)))) ?_ ?_
  ·walk_at "x"
   ·rename_i h2;exact⟨_,rfl,rfl,.inl ⟨h2,rfl⟩⟩
   ·rename_i h2;exact⟨_,rfl,rfl,.inr ⟨⋯,rfl⟩⟩
  rintro v H' ⟨rfl,h2⟩;rcases h2 with⟨hn,rfl⟩ | ⟨hp,rfl⟩
  ·have c:sz (-My.gc t b)<=9000:=ya (zhn _) e;walk_at "x";refine znv ⋯ c ?_;walk_at "x";refine znv ⋯ c ?_;walk_at "x";exact NewQ.mk k (My.part_neg hn)
  ·walk_at "x";exact NewQ.mk k (My.part_pos hp)
def zem(T:Txt K mg):T.d_plus.Ok P w base 2 zjW:=by
 refine T.d_plus.F.okN zfP (by walk_at "l") λg A outer s H vs Q E e h=>?_;obtain⟨a,b,q,r,rfl,h1,h2,d,c,k⟩:=h;refine⟨_,(ze (zu 2 zfP (qD T.d_divisor (zbU (base:=base) T) e (za (qIx K (pv 0) zh) (za (qIx K (pv 1) zh) zd))))
 (ze (zu 3 zfP (zw (zaw K) (zw zaq (qIx K (pv 0) zh) (zw zaX (qIx K (pv 1) zh) (pv 2))) (zw zaq (qIx K (pv 1) zh) (zw zaX (qIx K (pv 0) zh) (pv 2)))))
 (ze (zu 4 zfP (qD T.d_divisor (zbU (base:=base) T) e (za (pv 3) (za (pv 2) zd))))
 (zi (zp (zM (za (zw zaX (pv 3) (pv 4)) (za (zw zaq (zw zaX (qIx K (pv 0) zh) (pv 2)) (zw zaX (qIx K (pv 1) zh) (pv 4))) zd)))))))),?_⟩
 refine zo (σ0:=[some (.ref a),some (.ref b),none,none,none]) rfl ?_;have f:0<My.gc (q.den:Int) (r.den:Int):=My.gc_pos_right (Int.ne_of_gt (zaH r));have i:sz (My.gc (q.den:Int) (r.den:Int))<=9000:=ya (zb5 (Int.ne_of_gt (zaH r)) c.2) (by decide);have o:CMulS q.num ((r.den:Int)/My.gc (q.den:Int) (r.den:Int)):=CMulS.of d.1 (ya (zb1 _ _) c.2) (by decide);have l:CMulS r.num ((q.den:Int)/My.gc (q.den:Int) (r.den:Int)):=CMulS.of c.1 (ya (zb1 _ _) d.2) (by decide);have n:0<My.gc (q.num*((r.den:Int)/My.gc (q.den:Int) (r.den:Int))+r.num*((q.den:Int)/My.gc (q.den:Int) (r.den:Int))) (My.gc (q.den:Int) (r.den:Int)):=My.gc_pos_right (Int.ne_of_gt f);have j:sz (My.gc (q.num*((r.den:Int)/My.gc (q.den:Int) (r.den:Int))+r.num*((q.den:Int)/My.gc (q.den:Int) (r.den:Int))) (My.gc (q.den:Int) (r.den:Int)))<=9000:=zb5 (Int.ne_of_gt f) i;have m:CMulS ((q.den:Int)/My.gc (q.den:Int) (r.den:Int)) ((r.den:Int)/My.gc (q.num*((r.den:Int)/My.gc (q.den:Int) (r.den:Int))+r.num*((q.den:Int)/My.gc (q.den:Int) (r.den:Int))) (My.gc (q.den:Int) (r.den:Int))):=CMulS.of (ya (zb1 _ _) d.2) (ya (zb1 _ _) c.2) (by decide);walk_at "x";exact NewQ.mk k (zmb q r)
def zdD(T:Txt K mg):T.d_times.Ok P w base 2 ziv:=by
 refine T.d_times.F.okN zdu (by walk_at "l") λf A outer s H vs Q E e h=>?_;obtain⟨a,b,q,r,rfl,h1,h2,c,d,k⟩:=h;refine⟨_,(ze (zu 2 zdu (qD T.d_divisor (zbU (base:=base) T) e (za (qIx K (pv 0) zh) (za (qIx K (pv 1) zh) zd))))
 (ze (zu 3 zdu (qD T.d_divisor (zbU (base:=base) T) e (za (qIx K (pv 1) zh) (za (qIx K (pv 0) zh) zd))))
 (ze (zu 4 zdu (zw zaq (zw zaX (qIx K (pv 0) zh) (pv 2)) (zw zaX (qIx K (pv 1) zh) (pv 3))))
 (ze (zu 5 zdu (zw zaq (zw zaX (qIx K (pv 0) zh) (pv 3)) (zw zaX (qIx K (pv 1) zh) (pv 2))))
 (zi (zp (zM (za (pv 4) (za (pv 5) zd))))))))),?_⟩
 refine zo (σ0:=[some (.ref a),some (.ref b),none,none,none,none]) rfl ?_;have m:0<My.gc q.num (r.den:Int):=My.gc_pos_right (Int.ne_of_gt (zaH r));have n:sz (My.gc q.num (r.den:Int))<=9000:=ya (zb5 (Int.ne_of_gt (zaH r)) d.2) (by decide);have j:0<My.gc r.num (q.den:Int):=My.gc_pos_right (Int.ne_of_gt (zaH q));have g:sz (My.gc r.num (q.den:Int))<=9000:=ya (zb5 (Int.ne_of_gt (zaH q)) c.2) (by decide);have l:CMulS (q.num/My.gc q.num (r.den:Int)) (r.num/My.gc r.num (q.den:Int)):=CMulS.of (ya (zb1 _ _) c.1) (ya (zb1 _ _) d.1) (by decide);have i:CMulS ((q.den:Int)/My.gc r.num (q.den:Int)) ((r.den:Int)/My.gc q.num (r.den:Int)):=CMulS.of (ya (zb1 _ _) c.2) (ya (zb1 _ _) d.2) (by decide);walk_at "x";exact NewQ.mk k (zk6 q r)
def zdw(T:Txt K mg):T.d_minus.Ok P w base 3 zia:=by
 refine T.d_minus.F.okN zpe (by walk_at "l") λd A outer s H vs Q E e h=>?_;obtain⟨a,b,q,r,rfl,h1,h2,j,f,k⟩:=h;refine⟨_,(zi (zp (qD T.d_plus (zem (base:=base) T) e (za (pv 0) (za (zM (za (zbY zbk (qIx K (pv 1) zh)) (za (qIx K (pv 1) zh) zd))) zd))))),?_⟩;refine zo (σ0:=[some (.ref a),some (.ref b)]) rfl ?_;have g:OkQ (-r):=SzQ.neg f;walk_at "x";refine zan (q:=-r) (zkS r) ?_;walk_at "x";rename_i i H1 e1 c;rw[<- Rat.sub_eq_add_neg]at c;exact k _ _ ∅ c
def zeH(T:Txt K mg):T.d_under.Ok P w base 1 (ziq 60000):=by
 refine T.d_under.F.okN zph (by walk_at "l") λf A outer s H vs Q E g h=>?_;obtain⟨a,b,q,r,rfl,h1,h2,d,c,k⟩:=h;refine⟨_,(zi (zp (zbz zba (zw zaq (qIx K (pv 0) zh) (qIx K (pv 1) zh)) (zw zaq (qIx K (pv 1) zh) (qIx K (pv 0) zh)) (nomark _)))),?_⟩;refine zo (σ0:=[some (.ref a),some (.ref b)]) rfl ?_;have e:decide (q<r)=decide (q.num*(r.den:Int)<r.num*(q.den:Int)):=decide_eq_decide.mpr (Rat.lt_iff q r);rw[e]at k;walk_at "x";refine zmi (CMulS.of d.1 c.2 (by decide)) ?_;walk_at "x";refine zmi (CMulS.of c.1 d.2 (by decide)) ?_;walk_at "x";exact k
def zjU(T:Txt K mg):T.d_swept_row.Ok P w base 1 zii:=by
 refine T.d_swept_row.F.okN zjV (λvs H Q E h=>h.elim) (λa A outer s H vs Q E b h=>h.elim)
def zkg(T:Txt K mg):T.d_whole_row.Ok P w base 2 (zo7 K):=by
 refine T.d_whole_row.F.okN sc_whole_row (by walk_at "l") λI A outer s H vs Q E J h=>?_;obtain⟨a,ws,ns,rfl,z,v,O,C,k⟩:=h;have hwl:=v.length;have p:(whQ ns).length=ns.length:=yc ..;refine⟨_,(ze (zu 1 sc_whole_row zh)
 (ze (zai PassesOwn.never rfl (zT K (pv 0)) (show PG _ _ (zaT K 2 _)from zat (n:=2) rfl (zy (zD (i:=2) sc_whole_row.nd rfl (Or.inl rfl)) (zy (zD (i:=3) sc_whole_row.nd rfl (Or.inl rfl)) zaj)))
 (zi (zu 1 sc_whole_row (zw zaq (zw zaX (pv 1) (qD T.d_divisor (zbU (base:=base) T) J (za (pv 1) (za (pv 3) zd)))) (pv 3)))))
 (zi (zp (qC2 K ["top", "bottom", "common"] [none,none,some 1] (zT K (pv 0)) (λ_ _ _ _ _=>(zw zaq (pv 0) (zw zaX (pv 2) (pv 1))))))))),?_⟩
 refine zo (σ0:=[some (.ref a),none,none,none]) rfl ?_;walk_at "x";refine zbh (xs:=ws) (λi j H'=>∃(g f:Option V),j=[some (.ref a),some (.int 1),g,f]/\H'=H) ⟨_,_,rfl,rfl⟩ ?_ ?_ ?_
 ·rintro i j H' _ ⟨g,f,rfl,rfl⟩;exact SqL.of z
 ·rintro i x j H' t ⟨g,f,rfl,rfl⟩;obtain⟨b,q,rfl,c,y⟩:=v.get t;obtain⟨n,m,rfl⟩:=zlN c;have r:H' b=some (.tup [.int n,.int 1]):=y;walk_at "x";rw[show(1:Int)/My.gc 1 1=1 from by decide];walk_at "x";exact⟨_,_,rfl,rfl⟩
 rintro j H' ⟨g,f,rfl,rfl⟩;walk_at "x";refine zas (zS (K:=K) (a:=a) (xs:=ws)) (λH2 e=>SqL.of (e.at z)) rfl (λi vs H2=>vs=(ns.take i).map V.int) (λH2 _=>rfl) ?_ ?_
 ·rintro i x D vs o o' H1 H2 hi B e1 l d rfl e2 t;obtain⟨b,q,rfl,c,y⟩:=(v.same (e1.trans e2)).get t;obtain⟨n,m,rfl⟩:=zlN c;have r:H2 b=some (.tup [.int n,.int 1]):=y;have L:=e2.at l;have u:=C n (ym m);have R:CMulS n (1/1):=CMulS.of u (ya (zW (i:=1/1) (n:=1) (by decide)) (by decide:1<=9000)) (by decide);walk_at "x";rename_i N M G;refine⟨⟨_,_,rfl⟩,∅,_,G,by rw[ye];exact yb d,?_⟩;dsimp only;rw[zak m,yj,show n*(1/1)=n from Int.mul_one n];rfl
 rintro D H2 vs B e l d rfl;rw[hwl,p,List.take_length]at l;exact k D H2 B e l
def zjg(T:Txt K mg):T.d_with_first.Ok P w base 1 (zpL K):=by
 refine T.d_with_first.F.okN sc_with_first (by walk_at "l") λn A outer s H vs Q E o h=>?_;obtain⟨a,r,x,y,rfl,e,f,t,k⟩:=h;have q:(([V.ref r]:List V).length:Int)=1:=rfl;refine⟨_,(ze (zai PassesOwn.never rfl (zn0 rfl T.z_range (za (pv 1) (za (za5 K T.z_len (za (pv 0) zd)) zd))) (zD (i:=2) sc_with_first.nd rfl (Or.inl rfl))
 (zi (zG (zm (qNe K o.units) (qIx K (qIx K (pv 0) (pv 2)) (pv 1)) zh (nomark _))
 (ze (zu 3 sc_with_first (zgp K T.z_list (za (pv 0) zd)))
 (ze (zc4 (qIx K (pv 0) (pv 2)) (zc3 (pv 3) (pv 1) zaf))
 (ze (zc4 (qIx K (pv 0) (pv 1)) (zc3 (pv 3) (pv 2) zaf))
 (zi (zp (pv 3))))))
 zA)))
 (zi zjG)),?_⟩
 refine zo (σ0:=[some (.ref a),some (.int 0),none,none]) rfl ?_;walk_at "x"
 try (refine zX ?_;walk_at "x")
 refine zei (λi d H'=>∃c b:Option V,d=[some (.ref a),some (.int 0),c,b]/\i=0/\H'=H) ⟨_,_,rfl,rfl,rfl⟩ ?_ ?_
 ·rintro i d H' hi ⟨c,b,rfl,rfl,rfl⟩;walk_at "x";rename_i p H1 fp e1 hp;refine zc7 hp (show ixN 1 0=some 0 from rfl) λH2 b2 h2=>?_;have g:=b2.lst (e1.at e) (zE e fp);walk_at "x";refine zc7 h2 (show ixN 1 0=some 0 from rfl) λm l j=>?_;walk_at "x";exact k p m fp (l.same (b2.same e1 fp) fp) j
 ·rintro d H' ⟨c,b,rfl,u,rfl⟩;exfalso;lia
def zpZ(T:Txt K mg):T.d_swept.Ok P w base 2 (zpt K):=by
 refine T.d_swept.F.okN sc_swept (by walk_at "l") λz A outer s H vs Q E o h=>?_;obtain⟨a,r,x,y,b,rfl,u,q,k⟩:=h;refine⟨_,(ze (zu 3 sc_swept (qIx K (pv 0) (pv 1)))
 (ze (zu 4 sc_swept (zO zd))
 (ze (zai PassesOwn.never rfl (zaz K T.z_enumerate (za (pv 0) zd)) (show PG _ _ (zaT K 2 _)from zat (n:=2) rfl (zy (zD (i:=5) sc_swept.nd rfl (Or.inl rfl)) (zy (zD (i:=6) sc_swept.nd rfl (Or.inl rfl)) zaj)))
 (zi (zG (zm (qEq K o.units) (pv 5) (pv 1) (nomark _))
 (zi (zJ (qAp K (pv 4) (za (pv 6) zd))))
 (zi (zJ (qAp K (pv 4) (za (qD T.d_swept_row (zjU (base:=base) T) o (za (pv 6) (za (pv 3) (za (pv 1) (za (pv 2) zd))))) zd)))))))
 (zi (zp (pv 4)))))),?_⟩
 refine zo (σ0:=[some (.ref a),some (.int 0),some (.int b),none,none,none,none]) rfl ?_;walk_at "x";rename_i D H1 m e1 B;refine zb3 (zab (K:=K) (a:=a) (xs:=[.ref r])) (λi g H'=>∃(f d:Option V),g=[some (.ref a),some (.int 0),some (.int b),some (.ref r),some (.ref D),f,d]/\Same H H'/\H' D=some (.lst ([V.ref r].take i))) ⟨_,_,rfl,e1,B⟩ ?_ ?_ ?_
 ·rintro i g H' ⟨f,d,rfl,e,_⟩;exact SqL.of (e.at u)
 ·rintro i x g H2 J hi ⟨f,d,rfl,e,c⟩ l ⟨p,v,rfl,C,hp⟩;obtain rfl:i=0:=by simp at hi;lia
  cases C;walk_at "x"
  ·refine zX ?_;refine zdr (l.at c) (Nat.zero_le _) λI G t=>?_;exact⟨_,_,rfl,G.same (e.trans l) m,t⟩
  ·rename_i j;exact absurd rfl j
 rintro g H' ⟨f,d,rfl,e,c⟩;walk_at "x";exact k D H' m e c
def znz(T:Txt K mg):T.d_solved.Ok P w base 3 (zou K):=by
 refine T.d_solved.F.okN sc_solved (by walk_at "l") λab A outer s H vs Q E S h=>?_;obtain⟨a,r,p,b,q,x,y,rfl,ha,a0,hp,hb,hq,x0,x1,y0,y1,k⟩:=h;have ae:(([V.ref r]:List V).length:Int)=1:=rfl;refine⟨_,(ze (zu 2 sc_solved (za5 K T.z_len (za (pv 0) zd)))
 (ze (qS1 3 sc_solved ["place", "rows", "right"] [none,some 0,some 1] (zbc rfl T.z_range (za (pv 2) zd)) (λ_ _ _ _ _=>(qD T.d_whole_row (zkg (base:=base) T) S (za (zw (zaw K) (zgp K T.z_list (za (qIx K (pv 1) (pv 0)) zd)) (zO (za (qIx K (pv 2) (pv 0)) zd))) zd))))
 (ze (zu 4 sc_solved zh)
 (ze (zai PassesOwn.never rfl (zbc rfl T.z_range (za (pv 2) zd)) (zD (i:=5) sc_solved.nd rfl (Or.inl rfl))
 (ze (zu 3 sc_solved (qD T.d_with_first (zjg (base:=base) T) S (za (pv 3) (za (pv 5) zd))))
 (ze (zu 3 sc_solved (qD T.d_swept (zpZ (base:=base) T) S (za (pv 3) (za (pv 5) (za (pv 4) zd)))))
 (zi (zu 4 sc_solved (qIx K (qIx K (pv 3) (pv 5)) (pv 5)))))))
 (zi (zp (qC1 ["row", "count", "before"] [none,some 2,some 4] (zT K (pv 3)) (λ_ _ _ _ _=>(qD T.d_part (zlo (base:=base) T) S (za (qIx K (pv 0) (pv 1)) (za (pv 2) zd))))))))))),?_⟩
 refine zo (σ0:=[some (.ref a),some (.ref b),none,none,none,none]) rfl ?_;walk_at "x";refine zR (zdP (lo:=0) (n:=(([V.ref r]:List V).length:Int).toNat)) (λ_ _=>trivial) rfl (λi vs H'=>∃bs:List Addr,vs=bs.map V.ref/\bs.length=i/\(i=1->∃c,bs=[c]/\H' c=some (.lst ([x,y].map V.int)))) (λH' _=>⟨[],rfl,rfl,λz=>nomatch z⟩) ?_ ?_
 ·rintro i x' D vs o H1 H2 hi hD e1 C B ⟨bs,rfl,R,hC⟩ e2 rfl;obtain rfl:i=0:=by lia
  obtain rfl:bs=[]:=List.length_eq_zero_iff.mp R;have d:=e1.trans e2;have aa:=d.at ha;have ad:=d.at hb;have f:=d.at a0;have O:=e2.at C;walk_at "x";rename_i l1 U f1 m M l2 H4 f2 g a1;refine zej (g.at M) a1 (by show 1+1<=100000;decide) ?_;intro l3 H5 X W Z;have j:=m.trans (g.trans W);have N:=d.trans j;have a9:IsQs H5 [.ref p,.ref q] (whQ [x,y]):=⟨⟨p,rfl,N.isQ hp⟩,⟨q,rfl,N.isQ hq⟩,trivial⟩
  refine zX ?_;refine⟨l3,_,[x,y],rfl,Z,a9,by show 2<=20;decide,λv C=>?_,λc H6 fc e6 hc=>?_⟩
  ·rcases List.mem_cons.mp C with rfl | C
   ·exact ya (zW (n:=20) ⋯) (by decide)
   ·rw[yh.mp C];exact ya (zW (n:=20) ⋯) (by decide)
  have ac:=(j.trans e6).at O;walk_at "x";rename_i H7 b7 h7;have a6:c≠D:=λz=>by rw[z,j.at O]at fc;cases fc
  exact⟨⟨_,rfl⟩,b7.same (d.trans (j.trans e6)) hD,_,h7,yb (Nat.zero_le _),[c],rfl,rfl,λ_=>⟨c,rfl,b7.lst hc a6⟩⟩
 rintro t H1 vs ft e1 ht B ⟨bs,rfl,R,hC⟩;obtain⟨c,rfl,hc⟩:=hC rfl;walk_at "x";refine zei (λi σ' H'=>∃(I:Addr) (G:Int) (X:Option V),σ'=[some (.ref a),some (.ref b),some (.int (([V.ref r]:List V).length:Int)),some (.ref I),some (.int G),X]/\Same H H'/\H' I=some (.lst [.ref c])/\H' c=some (.lst ([x,y].map V.int))/\(i=1->G=x)) ⟨t,1,_,rfl,e1,ht,hc,λz=>nomatch z⟩ ?_ ?_
 ·rintro i σ' H2 hi ⟨I,G,X,rfl,e2,u,f,_⟩;obtain rfl:i=0:=by lia
  walk_at "x";refine zX ?_;refine⟨I,c,x,y,rfl,u,f,⋯,λt3 U f3 m a8=>?_⟩;have J:=m.at f;walk_at "x";refine zX ?_;refine⟨t3,c,x,y,G,rfl,a8,J,λt4 H4 f4 g a5=>?_⟩;have L:=g.at J;walk_at "x";exact⟨t4,x,_,rfl,e2.trans (m.trans g),a5,L,λ_=>rfl⟩
 rintro σ' H2 ⟨I,G,X,rfl,e2,u,f,a7⟩;obtain rfl:=a7 rfl;walk_at "x";refine zR (zS (K:=K) (a:=I) (xs:=[.ref c])) (λH' e=>SqL.of (e.at u)) rfl (λi vs H'=>(i=0->vs=[])/\(i=1->∃z,vs=[.ref z]/\IsQ H' z (Rat.divInt y G))) (λH' _=>⟨λ_=>rfl,λz=>nomatch z⟩) ?_ ?_
 ·rintro i x' D vs o U H4 hi hD m C B ⟨a4,_⟩ g hx;obtain rfl:i=0:=by simp at hi;lia
  obtain rfl:=a4 rfl;cases hx;have L:=(m.trans g).at f;have a3:=g.at C;walk_at "x";refine zX ?_;refine ziL ⋯ (ya (zW (n:=20) ⋯) (by decide)) ?_;intro z H5 W Y;refine zdr (W.at a3) (Nat.zero_le _) λH6 b6 h6=>?_;exact⟨⟨_,rfl⟩,b6.same ((m.trans g).trans W) hD,_,h6,yb (Nat.zero_le _),(λw=>nomatch w),(λ_=>⟨z,rfl,LBut.isQ b6 Y⟩)⟩
 rintro l U vs fl m hl B ⟨_,Y⟩;obtain⟨z,rfl,a2⟩:=Y rfl;exact k l z U (Same.none fl e2) (e2.trans m) hl a2
def zlb(T:Txt K mg):T.d_balances.Ok P w base 1 (zmZ K):=by
 refine T.d_balances.F.okN sc_balances (by walk_at "l") λao A outer s H vs Q E hr h=>?_;obtain⟨a,b,n,as,F,c,rfl,ha,af,hR,hb,hc,c9,h9,k⟩:=h;refine⟨_,(ze (qS1 2 sc_balances ["member", "members", "flows"] [none,some 1,some 0] (zT K (pv 1)) (λ_ _ _ _ _=>(qC1 ["other", "flows", "member"] [none,some 2,some 0] (zT K (pv 1)) (λ_ _ _ _ _=>(zM (za (zbY zbk (qIx K (qIx K (pv 1) (pv 0)) (pv 2))) (za zh zd)))))))
 (ze (zai PassesOwn.never rfl (zaz K T.z_enumerate (za (pv 1) zd)) (show PG _ _ (zaT K 2 _)from zat (n:=2) rfl (zy (zD (i:=3) sc_balances.nd rfl (Or.inl rfl)) (zy (zD (i:=4) sc_balances.nd rfl (Or.inl rfl)) zaj)))
 (zi (zc4 (zM (za (zbZ K T.z_sum (za (qIx K (pv 0) (pv 4)) zd)) (za zh zd))) (zc3 (qIx K (pv 2) (pv 3)) (pv 3) zaf))))
 (zi (zp (pv 2))))),?_⟩
 refine zo (σ0:=[some (.ref a),some (.ref b),none,none,none]) rfl ?_;walk_at "x";refine zR (zS (K:=K) (a:=b) (xs:=zaU c)) (λH' e=>SqL.of (e.at hb)) rfl (λi vs H'=>∃bs:List Addr,vs=bs.map V.ref/\bs.length=i/\PRows H' bs (λa=>(List.range c.length).map λb=>((-F (c.getD b 0) (c.getD a 0):Int):Rat))/\∀b∈bs,H b=none) (λH' _=>⟨[],rfl,rfl,PRows.nil,λ_ h=>nomatch h⟩) ?_ ?_
 ·rintro i x D vs o H2 H3 hi hD e2 hv X ⟨bs,rfl,C,R,hF⟩ d M;rw[zaI]at hi;rw[zci hi]at M;cases M;have a0:=zdn hi hc;have a3:=(e2.trans d).at hb;have a1:=(e2.trans d).at ha;have a8:=hR.same (e2.trans d);walk_at "x";refine zR (zS (K:=K) (a:=b) (xs:=zaU c)) (λH' e=>SqL.of (e.at a3)) rfl (λj vs H'=>IsQs H' vs ((List.range j).map λb=>((-F (c.getD b 0) (c.getD i 0):Int):Rat))) (λH' _=>trivial) ?_ ?_
  ·rintro j x D2 vs o2 H4 H5 S u f O L hQ G M;rw[zaI]at S;rw[zci S]at M;cases M;have an:=zdn S hc;obtain⟨r,B⟩:=zP (show c.getD j 0<as.length by lia);have ag:=(a8.same (f.trans G)).2 _ _ B;have am:=(f.trans G).at a1;have a2:atI (as.map V.ref) ((c.getD j 0:Nat):Int)=some (.ref r):=zal (by rw[yf,B];rfl);have U:atI ((vec n (F (c.getD j 0))).map V.int) ((c.getD i 0:Nat):Int)=some (.int (F (c.getD j 0) (c.getD i 0))):=zal (by rw[yf,zap a0];rfl);walk_at "x";refine zan (q:=((-F (c.getD j 0) (c.getD i 0):Int):Rat)) ⟨rfl,rfl⟩ ?_;intro p H6 e6 hp;have aj:=(G.trans e6).at O;walk_at "x";rename_i H7 b7 h7;refine⟨⟨_,rfl⟩,b7.same ((f.trans G).trans e6) u,_,h7,by rw[ye];exact yb L,?_⟩;show IsQs H7 _ ((List.range (j+1)).map _);rw[List.range_succ,yj,List.map_singleton];exact IsQs.app (LBut.isQ b7 hp) (LBut.isQs b7 (hQ.same (G.trans e6)))
  ·rintro D2 H4 vs u f O L hQ;rw[zaI]at hQ;have ak:=(d.trans f).at hv;walk_at "x";rename_i H5 b5 h5;have ab:D∉bs:=R.ne hv;have a5:D2∉bs:=(R.same d).fresh u;have a9:D2≠D:=λz=>by rw[z,d.at hv]at u;cases u
   refine⟨⟨_,rfl⟩,b5.same ((e2.trans d).trans f) hD,_,h5,by rw[ye];exact yb X,bs++[D2],by rw[yj];rfl,by rw[ye,C];rfl,PRows.snoc ((R.same (d.trans f)).but b5 ab) a5 (b5.lst O a9) (by rw[C];exact LBut.isQs b5 hQ),λy hy=>?_⟩;rcases List.mem_append.mp hy with h | h
   ·exact hF y h
   ·rw[yh.mp h];exact Same.none u (e2.trans d)
 ·rintro l H2 vs fl e2 hl X ⟨bs,rfl,C,R,hF⟩;rw[zaI]at C;walk_at "x";have ac:l∉bs:=R.ne hl;have al:=e2.at hb;refine zb3 (zab (K:=K) (a:=b) (xs:=zaU c)) (λi σ' H'=>∃f3 f4:Option V,σ'=[some (.ref a),some (.ref b),some (.ref l),f3,f4]/\H' l=some (.lst (bs.map V.ref))/\PRows H' bs (λa=>(List.range c.length).map λb=>(((if a<i then zib n F c a b else -F (c.getD b 0) (c.getD a 0)):Int):Rat))/\Same H H') ⟨_,_,rfl,hl,R.congr λm hm=>(by simp),e2⟩ ?_ ?_ ?_
  ·rintro i σ' H' ⟨_,_,_,_,_,e⟩;exact SqL.of (e.at hb)
  ·rintro i x σ' H3 H4 hi ⟨f3,f4,rfl,N,I,d⟩ f ⟨t,v,rfl,M,a6⟩;rw[zaI]at hi;rw[zci hi]at M;cases M;have ap:H4 t=some (.tup [.int (i:Int),.int ((c.getD i 0:Nat):Int)]):=a6;have a0:=zdn hi hc;have ah:=(d.trans f).at ha;obtain⟨r,B⟩:=zP (show c.getD i 0<as.length by lia);have ai:=(hR.same (d.trans f)).2 _ _ B;have a2:atI (as.map V.ref) ((c.getD i 0:Nat):Int)=some (.ref r):=zal (by rw[yf,B];rfl);obtain⟨s1,J⟩:=zP (show i<bs.length by lia);have U:atI (bs.map V.ref) (i:Int)=some (.ref s1):=zal (by rw[yf,J];rfl);have ad:=f.at N;obtain⟨ws,ae,Z⟩:=(I.same f).2 _ _ J;have hwl:=Z.length;rw[yc,List.length_range]at hwl;walk_at "x";refine zan (q:=((zah (vec n (F (c.getD i 0))):Int):Rat)) ⟨rfl,rfl⟩ ?_;intro p H5 G hp;have a7:=G.at ad;have a4:=G.at ae;walk_at "x";refine zc7 (j:=((i:Int)).toNat) a4 (zfp ⋯ ⋯) ?_;intro H6 W h6;rw[Int.toNat_natCast]at h6;walk_at "x";have Y:s1∈bs:=ym J;have aa:l≠s1:=λz=>ac (z▸Y);refine⟨_,_,rfl,W.lst a7 aa,((((I.same f).same G).upd W J h6 (IsQs.setQ (LBut.isQ W hp) i (LBut.isQs W (Z.same G)))).congr λm hm=>?_),W.same ((d.trans f).trans G) (hF _ Y)⟩;dsimp only;by_cases e:m=i
   ·subst e;rw[if_pos rfl,zlC];refine List.map_congr_left λj S=>?_;unfold zib;by_cases g:j=m
    ·rw[if_pos g,if_pos ⋯,if_pos g.symm]
    ·rw[if_neg g,if_neg ⋯,if_pos ⋯,if_neg (λz=>g z.symm)]
   ·rw[if_neg e];refine List.map_congr_left λj S=>?_;by_cases g:m<i
    ·rw[if_pos g,if_pos ⋯]
    ·rw[if_neg g,if_neg ⋯]
  ·rintro σ' H3 ⟨f3,f4,rfl,N,I,d⟩;walk_at "x";exact k l H3 bs fl d N C (I.congr λm hm=>List.map_congr_left λj S=>(by rw[zaI,if_pos ⋯])) hF
def zkU(T:Txt K mg):T.d_rates_of.Ok P w base 3 (zlW K):=by
 refine T.d_rates_of.F.okN sc_rates_of (by walk_at "l") λab A outer s H vs Q E hr h=>?_;obtain⟨a,b,d,n,as,F,c,ws,x,rfl,X,W,hR,hb,hc,nd,c9,h9,hd,hx,z1,z2,k⟩:=h;refine⟨_,(ze (qS1 3 sc_rates_of ["flow"] [none] (zT K (pv 0)) (λ_ _ _ _ _=>(zM (za zh (za zh zd)))))
 (ze (zai PassesOwn.never rfl (zaz K T.z_enumerate (za (pv 1) zd)) (show PG _ _ (zaT K 2 _)from zat (n:=2) rfl (zy (zD (i:=4) sc_rates_of.nd rfl (Or.inl rfl)) (zy (zD (i:=5) sc_rates_of.nd rfl (Or.inl rfl)) zaj)))
 (zi (zc4 (qD T.d_times (zdD (base:=base) T) hr (za (qIx K (pv 2) (pv 4)) (za (zM (za (zbZ K T.z_sum (za (qIx K (pv 0) (pv 5)) zd)) (za zh zd))) zd))) (zc3 (pv 3) (pv 5) zaf))))
 (zi (zp (pv 3))))),?_⟩
 refine zo (σ0:=[some (.ref a),some (.ref b),some (.ref d),none,none,none]) rfl ?_;walk_at "x";refine zR (zS (K:=K) (a:=a) (xs:=as.map V.ref)) (λH' e=>SqL.of (e.at X)) rfl (λi vs H'=>IsQs H' vs ((List.range i).map λ_=>(0:Rat))) (λH' _=>trivial) ?_ ?_
 ·rintro i x D vs o H2 H3 hi hD e2 hv M O G hx;rw[yc]at hi;walk_at "x";refine zan (q:=(0:Rat)) ⟨rfl,rfl⟩ ?_;intro p H4 C hp;have a9:=(G.trans C).at hv;walk_at "x";rename_i H5 b5 h5;refine⟨⟨_,rfl⟩,b5.same ((e2.trans G).trans C) hD,_,h5,by rw[ye];exact yb M,?_⟩;show IsQs H5 _ ((List.range (i+1)).map _);rw[List.range_succ,yj,List.map_singleton];exact IsQs.app (LBut.isQ b5 hp) (LBut.isQs b5 (O.same (G.trans C)))
 ·rintro l H2 vs fl e2 hl M O;rw[yc,W]at O;walk_at "x";refine zb3 (zab (K:=K) (a:=b) (xs:=zaU c)) (λi S H'=>∃(U f5:Option V) (us:List V),S=[some (.ref a),some (.ref b),some (.ref d),some (.ref l),U,f5]/\H' l=some (.lst us)/\IsQs H' us ((List.range n).map λj=>sF i (λa=>c.getD a 0) x j*((zah (vec n (F j)):Int):Rat))/\Same H H') ⟨_,_,vs,rfl,hl,by rw[show(List.range n).map (λj=>sF 0 (λa=>c.getD a 0) x j*((zah (vec n (F j)):Int):Rat))=(List.range n).map (λ_=>(0:Rat))from List.map_congr_left λj _=>by show(0:Rat)*_=0;grind];exact O,e2⟩ ?_ ?_ ?_
  ·rintro i S H' ⟨_,_,_,_,_,_,e⟩;exact SqL.of (e.at hb)
  ·rintro i y S H3 H4 hi ⟨U,f5,us,rfl,B,J,G⟩ C ⟨t,v,rfl,hy,Y⟩;rw[zaI]at hi;rw[zci hi]at hy;cases hy;have ae:H4 t=some (.tup [.int (i:Int),.int ((c.getD i 0:Nat):Int)]):=Y;have a3:=zdn hi hc;have f:=G.trans C;have ad:=f.at X;have ac:=f.at hd;obtain⟨r,I⟩:=zP (show c.getD i 0<as.length by lia);have a8:=(hR.same f).2 _ _ I;have a7:atI (as.map V.ref) ((c.getD i 0:Nat):Int)=some (.ref r):=zal (by rw[yf,I];rfl);have hwl:=hx.length;rw[yc,List.length_range]at hwl;have a0:=J.length;rw[yc,List.length_range]at a0;obtain⟨v,N⟩:=zP (show i<ws.length by lia);obtain⟨g,q,rfl,L,a5⟩:=hx.get N;rw[yf,List.getElem?_range hi]at L;cases L;have a6:atI ws (i:Int)=some (.ref g):=zal N;have a4:=f.isQ a5;have zx:=z1 i hi;have zs:=z2 _ a3;walk_at "x";refine zan (q:=((zah (vec n (F (c.getD i 0))):Int):Rat)) ⟨rfl,rfl⟩ ?_;intro p H5 R hp;have aa:=R.isQ a4;have Z:=(C.trans R).at B;walk_at "x";rename_i t2 H6 e6 a1;have a2:=e6.at Z;refine zc7 (j:=((c.getD i 0:Nat):Int).toNat) a2 (zfp ⋯ ⋯) ?_;intro H7 b7 h7;rw[Int.toNat_natCast]at h7;walk_at "x";refine⟨_,_,_,rfl,h7,?_,b7.same ((f.trans R).trans e6) fl⟩;have u:=IsQs.setQ (LBut.isQ b7 a1) (c.getD i 0) (LBut.isQs b7 (J.same ((C.trans R).trans e6)));rw[zlC]at u;have e:(List.range n).map (λm=>if m=c.getD i 0 then x i*((zah (vec n (F (c.getD i 0))):Int):Rat)else sF i (λa=>c.getD a 0) x m*((zah (vec n (F m)):Int):Rat))=(List.range n).map λj=>sF (i+1) (λa=>c.getD a 0) x j*((zah (vec n (F j)):Int):Rat):=by
    refine List.map_congr_left λm _=>?_;have es:sF (i+1) (λa=>c.getD a 0) x m=sF i (λa=>c.getD a 0) x m+(if c.getD i 0=m then x i else 0):=rfl;rw[es];by_cases e:m=c.getD i 0
    ·rw[if_pos e,if_pos e.symm,e,ztE λa X e2=>absurd (zo8 nd a i ⋯ hi e2) ⋯];grind
    ·rw[if_neg e,if_neg λz=>e z.symm];grind
   rw[<- e];exact u
  ·rintro S H3 ⟨U,f5,us,rfl,B,J,G⟩;rw[zaI]at J;walk_at "x";exact k l H3 us fl G B J
def zgM(T:Txt K mg):T.d_opening_rates.Ok P w base 4 (zry K):=by
 refine T.d_opening_rates.F.okN sc_opening_rates (by walk_at "l") λaf A outer s H vs Q E hr h=>?_;obtain⟨a,b,d,as,F,ρ,l,z,Y,rfl,ha,I,hR,hb,h0,h1,hd,W,Y0,Y1,a6,s0,s9,k⟩:=h;have J:(zar 2 ρ).length=2:=zbd;refine⟨_,(ze (zcj (i:=3) sc_opening_rates.nd rfl rfl rfl (zaz K T.z_enumerate (za (pv 1) zd)) (zam (Ni:=["member", "rank"]) (caps:=[none,none]) (by rfl)) (λS _ _ _ _ _=>(show PG _ _ (zaT K 2 _)from zat (n:=2) rfl (zy (zag (gi:=0) S (Or.inl rfl) rfl) (zy (zag (gi:=1) S (Or.inl rfl) rfl) zaj)))) (λ_ _ _ _ _=>(zdC (zm zfU (pv 1) zbg (nomark _)))) (λ_ _ _ _ _=>(pv 0)))
 (ze (qS1 4 sc_opening_rates ["member", "purses"] [none,some 2] (zT K (pv 3)) (λ_ _ _ _ _=>(zM (za (qIx K (pv 1) (pv 0)) (za zh zd)))))
 (zi (zp (qD T.d_rates_of (zkU (base:=base) T) hr (za (pv 0) (za (pv 3) (za (qD T.d_solved (znz (base:=base) T) hr (za (qD T.d_balances (zlb (base:=base) T) hr (za (pv 0) (za (pv 3) zd))) (za (pv 4) zd))) zd)))))))),?_⟩
 refine zo (σ0:=[some (.ref a),some (.ref b),some (.ref d),none,none]) rfl ?_;walk_at "x";refine zas (zab (K:=K) (a:=b) (xs:=zar 2 ρ)) (λH' e=>SqL.of (e.at hb)) rfl (λj vs _=>vs=zaU ((List.range j).filter λi=>(ρ i).isSome)) (λH' _=>rfl) ?_ ?_
 ·rintro j x D vs o o' M H4 G hD t hv g rfl B ⟨tt,v,rfl,u,Z⟩;rw[J]at G;rw[zbs G]at u;cases u;have ah:H4 tt=some (.tup [.int (j:Int),zbM (ρ j)]):=Z;walk_at "x"
  ·rename_i h1 O b5 h5;refine⟨⟨_,_,rfl⟩,∅,_,h5,by rw[ye];exact yb g,?_⟩;dsimp only;rw[zdH,if_pos (by cases G:ρ j with | none=>rw[G]at h1;exact absurd rfl h1 | some _=>rfl),zfu];rfl
  ·rename_i h1;refine⟨⟨_,_,rfl⟩,∅,_,∅,Nat.le_succ_of_le g,?_⟩;dsimp only;rw[zdH,if_neg (by cases G:ρ j with | none=>decide | some _=>rw[G]at h1;cases h1),List.append_nil]
 rintro sh H1 vs ab e1 C g rfl;rw[J]at C;have hc:=znm (n:=2) (ρ:=ρ);have nd:=znF (n:=2) (ρ:=ρ);have U:=zmM (n:=2) (ρ:=ρ);have f:H1 sh=some (.lst (zaU (shorts 2 ρ))):=C;rw[zmO h0 h1]at f;clear C hc nd U;have L:H1 sh=some (.lst [.int 0]):=f;walk_at "x";refine zR (zS (K:=K) (a:=sh) (xs:=[.int 0])) (λH' e=>SqL.of (e.at L)) rfl (λi vs H'=>(i=0->vs=[])/\(i=1->∃q,vs=[.ref q]/\IsQ H' q ((l:Int):Rat))) (λH' _=>⟨λ_=>rfl,λz=>nomatch z⟩) ?_ ?_
 ·rintro i x D vs o M H4 hi hD t hv g ⟨R,_⟩ B u;obtain rfl:i=0:=by simp at hi;lia
  obtain rfl:=R rfl;cases u;have ag:=(e1.trans (t.trans B)).at hd;have a1:=B.at hv;have aa:atI ([l,z].map V.int) 0=some (.int l):=rfl;walk_at "x";refine zan (q:=((l:Int):Rat)) ⟨rfl,rfl⟩ ?_;intro q O N hq;refine zdr (N.at a1) (Nat.zero_le _) λH6 b6 h6=>?_;exact⟨⟨_,rfl⟩,b6.same ((t.trans B).trans N) hD,_,h6,yb (Nat.zero_le _),(λw=>nomatch w),(λ_=>⟨q,rfl,LBut.isQ b6 hq⟩)⟩
 rintro ri H2 vs ac e2 a8 g ⟨_,hq⟩;obtain⟨q,rfl,X⟩:=hq rfl;have y:=e1.trans e2;walk_at "x";refine zX ?_;refine zlj (n:=2) (c:=[0]) (y.at ha) I (hR.same y) (e2.at f) (λx u=>by rw[yh.mp u];decide) (by decide) (by decide) ?_;intro ba M bs ae t a3 a5 hP _;obtain⟨r,rfl⟩:∃r,bs=[r]:=List.length_eq_one_iff.mp a5;obtain⟨us,u1,u2⟩:=hP.2 0 r rfl;obtain⟨p,rfl,hp⟩:∃p,us=[.ref p]/\IsQ M p ((zib 2 F [0] 0 0:Int):Rat):=by
  have u3:IsQs M us [((zib 2 F [0] 0 0:Int):Rat)]:=u2
  match us,u3 with
  | [v],⟨⟨a,z,h⟩,_⟩=>exact⟨a,by rw[z],h⟩
 have eb:zib 2 F [0] 0 0=Y:=W;rw[eb]at hp;walk_at "x"
 try refine zX ?_
 refine⟨ba,r,p,ri,q,Y,l,rfl,a3,u1,hp,t.at a8,t.isQ X,Y0,Y1,s0,s9,λso zz H4 ad B a2 a4=>?_⟩;have m:=y.trans (t.trans B);have oks:SzQ (Rat.divInt l Y) 20 20:=zck Y0 (zW ⋯) (zW ⋯);walk_at "x"
 try refine zX ?_
 refine zn5 (n:=2) (c:=[0]) (x:=λ_=>Rat.divInt l Y) (m.at ha) I (hR.same m) ((e2.trans (t.trans B)).at f) (λx u=>by rw[yh.mp u];decide) (List.nodup_cons.mpr ⟨by simp,List.nodup_nil⟩) (by decide) (by decide) a2 ⟨⟨zz,rfl,a4⟩,trivial⟩ (λ_ _=>oks.ok (by decide) (by decide)) (λi hi=>?_) ?_
 ·rcases(show i=0\/i=1 by lia)with rfl | rfl
  ·rw[W];exact(zcR (zW (n:=20) ⋯)).ok (by decide) (by decide)
  ·rw[a6];exact zfM
 intro rt O vs a7 N a9 a0;refine k rt O vs (Same.none a7 m) (m.trans N) a9 ?_
 have:(List.range 2).map (r2 l)=(List.range 2).map (zmJ 2 F [0] λ_=>Rat.divInt l Y):=List.map_congr_left λi hi=>(zrM W Y0 rfl i (List.mem_range.mp hi)).symm
 rw[this];exact a0
def zlw(T:Txt K mg):T.d_over.Ok P w base 3 ziu:=by
 refine T.d_over.F.okN zrm (by walk_at "l") λe A outer s H vs Q E c h=>?_;obtain⟨a,b,q,r,rfl,h1,h2,j,g,f,k⟩:=h;refine⟨_,(ze (zG (zm (qEq K c.units) (qIx K (pv 1) zh) zh (nomark _))
 (zi zjG)
 zA)
 (ze (zG (zm zba (qIx K (pv 1) zh) zh (nomark _))
 (zi (zp (qD T.d_times (zdD (base:=base) T) c (za (pv 0) (za (zM (za (zbY zbk (qIx K (pv 1) zh)) (za (zbY zbk (qIx K (pv 1) zh)) zd))) zd)))))
 zA)
 (zi (zp (qD T.d_times (zdD (base:=base) T) c (za (pv 0) (za (zM (za (qIx K (pv 1) zh) (za (qIx K (pv 1) zh) zd))) zd))))))),?_⟩
 refine zo (σ0:=[some (.ref a),some (.ref b)]) rfl ?_;rw[Rat.div_def]at k;have i:OkQ r⁻¹:=(g.inv f).mono (by decide) (by decide);walk_at "x"
 all_goals first | (exfalso;contradiction) | skip
 ·rename_i d;refine zan (q:=r⁻¹) (zrT d) ?_;walk_at "x";exact k _ _ ∅ ∅
 ·rename_i d;refine zan (q:=r⁻¹) (zrN ⋯) ?_;walk_at "x";exact k _ _ ∅ ∅
def zgu(T:Txt K mg):T.d_least.Ok P w base 2 (zfL 60000):=by
 refine T.d_least.F.okN zp7 (by walk_at "l") λc A outer s H vs Q E d h=>?_;obtain⟨a,b,q,r,rfl,h1,h2,f,e,k⟩:=h;refine⟨_,(ze (zG (zcd K (qD T.d_under (zeH (base:=base) T) d (za (pv 1) (za (pv 0) zd))))
 (zi (zp (pv 1)))
 zA)
 (zi (zp (pv 0)))),?_⟩
 refine zo (σ0:=[some (.ref a),some (.ref b)]) rfl ?_;walk_at "x"
 ·rename_i h;rw[if_pos h]at k;exact k
 ·rename_i h;rw[if_neg h]at k;exact k
def zeT(T:Txt K mg):T.d_least_room.Ok P w base 4 (zoD K):=by
 refine T.d_least_room.F.okN sc_least_room (by walk_at "l") λal A outer s H vs Q E hr h=>?_;obtain⟨a,b,d,e,n,as,ds,l,r,us,ws,rfl,ha,ab,hR,hb,hd,hu,he,hw,h9,hz,q1,q2⟩:=h;have hwl:=hw.length;rw[yc,List.length_range]at hwl;have a4:=hu.length;rw[yc,List.length_range]at a4;refine⟨_,(ze (zu 4 sc_least_room zbg)
 (ze (zai PassesOwn.never rfl (zaz K T.z_enumerate (za (pv 3) zd)) (show PG _ _ (zaT K 2 _)from zat (n:=2) rfl (zy (zD (i:=5) sc_least_room.nd rfl (Or.inl rfl)) (zy (zD (i:=6) sc_least_room.nd rfl (Or.inl rfl)) zaj)))
 (zi (zG (zm zbo (qIx K (pv 6) zh) zh (nomark _))
 (ze (zu 7 sc_least_room (zbZ K T.z_sum (za (zbu (show SlR _ (zeM K)from zd8) (qIx K (pv 0) (pv 5)) zbQ (zbW (zw (zaw K) (qIx K (pv 1) (pv 5)) zh))) zd)))
 (ze (zu 8 sc_least_room (qD T.d_over (zlw (base:=base) T) hr (za (qD T.d_minus (zdw (base:=base) T) hr (za (zM (za (pv 7) (za zh zd))) (za (qIx K (pv 2) (pv 5)) zd))) (za (pv 6) zd))))
 (zi (zu 4 sc_least_room (zbJ (zm zfx (pv 4) zbg (nomark _)) (pv 8) (qD T.d_least (zgu (base:=base) T) hr (za (pv 4) (za (pv 8) zd))))))))
 zA)))
 (zi (zp (pv 4))))),?_⟩
 refine zo (σ0:=[some (.ref a),some (.ref b),some (.ref d),some (.ref e),none,none,none,none,none]) rfl ?_;walk_at "x";refine zb3 (zab (K:=K) (a:=e) (xs:=ws)) (λi Z H'=>∃(v:V) (f5 f6 f7 f8:Option V),Z=[some (.ref a),some (.ref b),some (.ref d),some (.ref e),some v,f5,f6,f7,f8]/\(match za1 ds l r i with | none=>v=.non | some x=>∃p,v=.ref p/\IsQ H' p x)/\Same H H') ⟨_,_,_,_,_,rfl,rfl,Same.refl _⟩ ?_ ?_ ?_
 ·rintro i Z H' ⟨_,_,_,_,_,_,_,e⟩;exact SqL.of (e.at he)
 ·rintro i y Z H3 H4 hi ⟨v,f5,f6,f7,f8,rfl,m,L⟩ O ⟨t,v',rfl,hy,a3⟩;obtain⟨g,q,rfl,W,a2⟩:=hw.get hy;rw[yf,List.getElem?_range ⋯]at W;cases W;have an:H4 t=some (.tup [.int (i:Int),.ref g]):=a3;have a0:=(L.trans O).isQ a2;have en:(0:Rat)<r i↔0<(r i).num:=by rw[Rat.lt_iff];show(0:Int)*_<_*(1:Int)↔_;lia
  have f:za1 ds l r (i+1)=if 0<r i then(match za1 ds l r i with | none=>some (zaO ds l r i) | some q=>some (if zaO ds l r i<q then zaO ds l r i else q))else za1 ds l r i:=rfl
  walk_at "x"
  ·rename_i o;have B:=en.mpr o;obtain⟨z1,z2,z3,z4,z5,z6⟩:=hz i ⋯ B;rw[if_pos B]at f;obtain⟨ρ,hρ⟩:∃ρ,stp ds l i=some ρ:=by
    cases h:stp ds l i with
    | none=>exact absurd h z1
    | some ρ=>exact⟨ρ,rfl⟩
   have ak:ρ < 3:=(zlY hρ).1;have k:=L.trans O;obtain⟨c,hc⟩:=zP (show i<as.length by lia);have ah:=k.at ha;have ai:=k.at hb;have a6:=k.at hd;have af:=(hR.same k).2 _ _ hc;have a9:atI (as.map V.ref) (i:Int)=some (.ref c):=zal (by rw[yf,hc];rfl);have a7:atI (zar n (stp ds l)) (i:Int)=some (.int (ρ:Int)):=by rw[<- show zbM (stp ds l i)=.int (ρ:Int) by rw[hρ];rfl];exact zal (zbs ⋯)
   obtain⟨v2,R⟩:=zP (show i<us.length by lia);obtain⟨g2,y2,rfl,h1,h2⟩:=(hu.same k).get R;rw[yf,List.getElem?_range ⋯]at h1;cases h1;have a8:atI us (i:Int)=some (.ref g2):=zal R;walk_at "x";rename_i sl H5 ad X N;have S:zcH ((vec 3 (zK ds i)).map V.int) none (some ((ρ:Int)+1))=(vec (ρ+1) (zK ds i)).map V.int:=by
    obtain rfl | rfl | rfl:ρ=0\/ρ=1\/ρ=2:=by lia
    all_goals rfl
   rw[S]at N;refine zqC (SqL.of N) ?_;rw[zlO];have G:zde ds l i=((zbj (zK ds i) (ρ+1):Int):Rat):=zsm hρ;have ac:(r i).num≠0:=by lia
   walk_at "x";refine zan (q:=zde ds l i) ⟨by rw[G];rfl,by rw[G];rfl⟩ ?_;intro t2 H6 U aj;have C:=X.trans U;have aa:=C.at a6;have ae:=C.isQ h2;have am:=C.isQ a0;clear C;cases hro:za1 ds l r i with
   | none=>
    rw[hro]at m f;subst m;have z7:SzQ ((zde ds l i-l i)/r i) 60000 60000:=z6;walk_at "x"
    all_goals first | (exfalso;contradiction) | skip
    ·rename_i p1 H7 M Y p2 H8 J D _;refine⟨_,_,_,_,_,rfl,?_,((k.trans X).trans U).trans (M.trans J)⟩;rw[f];exact⟨_,rfl,D⟩
   | some x=>
    rw[hro]at m f;obtain⟨p,rfl,hp⟩:=m;have a5:=((O.trans X).trans U).isQ hp;have ag:SzQ x 60000 60000:=by
     obtain⟨⟨j,hj,a1,rfl⟩,_⟩:=zfg hro;exact(hz j ⋯ a1).2.2.2.2.2
    have z7:SzQ ((zde ds l i-l i)/r i) 60000 60000:=z6;walk_at "x"
    all_goals first | (exfalso;contradiction) | skip
    ·rename_i p1 H7 M Y p2 H8 J D _ I;refine⟨_,_,_,_,_,rfl,?_,((k.trans X).trans U).trans (M.trans J)⟩;have u:zaO ds l r i<x:=I;rw[f];dsimp only;rw[if_pos u];exact⟨_,rfl,D⟩
    ·rename_i p1 H7 M Y p2 H8 J D _ I;refine⟨_,_,_,_,_,rfl,?_,((k.trans X).trans U).trans (M.trans J)⟩;have u:¬zaO ds l r i<x:=I;rw[f];dsimp only;rw[if_neg u];exact⟨_,rfl,(M.trans J).isQ a5⟩
  ·rename_i o;rw[if_neg λz=>o (en.mp z)]at f;refine⟨_,_,_,_,_,rfl,?_,L.trans O⟩;rw[f];cases hro:za1 ds l r i with
   | none=>rw[hro]at m;exact m
   | some x=>rw[hro]at m;obtain⟨p,rfl,hp⟩:=m;exact⟨p,rfl,O.isQ hp⟩
 ·rintro Z H3 ⟨v,f5,f6,f7,f8,rfl,m,L⟩;rw[hwl]at m;walk_at "x";cases hro:za1 ds l r n with
  | none=>rw[hro]at m;rw[show v=.non from m];exact q1 hro H3 L
  | some x=>rw[hro]at m;obtain⟨p,rfl,hp⟩:=m;exact q2 x hro p H3 L hp
def zfG(T:Txt K mg):T.d_ranked.Ok P w base 1 (zgj K):=by
 refine T.d_ranked.F.okN sc_ranked (by walk_at "l") λa3 A outer s H vs Q E hr h=>?_;obtain⟨n,a,ds,rfl,⟨xs,hS,hT⟩,n0,n1,hd,k⟩:=h;refine⟨_,(ze (qS1 2 sc_ranked ["member"] [none] (zbc rfl T.z_range (za (pv 0) zd)) (λ_ _ _ _ _=>(zO (za zh (za zh (za zh zd))))))
 (ze (zai PassesOwn.never rfl (zT K (pv 1)) (show PG _ _ (zaT K 4 _)from zat (n:=4) rfl (zy (zD (i:=3) sc_ranked.nd rfl (Or.inl rfl)) (zy (zD (i:=4) sc_ranked.nd rfl (Or.inl rfl)) (zy (zD (i:=5) sc_ranked.nd rfl (Or.inl rfl)) (zy (zD (i:=6) sc_ranked.nd rfl (Or.inl rfl)) zaj)))))
 (zi (zaW (qIx K (pv 2) (pv 3)) (pv 5) (show zbK _ (zbe K)from zaB) (pv 6) zb6 zaf)))
 (zi (zp (pv 2))))),?_⟩
 refine zo (σ0:=[some (.int n),some (.ref a),none,none,none,none,none]) rfl ?_;walk_at "x";refine zR zdP (λ_ _=>trivial) rfl (λi vs H'=>∃as,vs=as.map V.ref/\as.length=i/\Rows H' as 3 (λ_ _=>0)/\∀b∈as,H b=none) (λH' _=>⟨[],rfl,rfl,⟨List.nodup_nil,λi a h=>nomatch h⟩,λ_ h=>nomatch h⟩) ?_ ?_
 ·rintro i x D vs o H2 L hi hD e2 hv y ⟨as,rfl,v,t,C⟩ g rfl;walk_at "x";rename_i p H4 fp e4 hp H5 Z h5;have S:D∉as:=t.ne (by decide) hv;have R:p≠D:=zbX fp (g.at hv);have O:H5 p=some (.lst ((vec 3 λ_=>0).map V.int)):=Z.lst hp R;refine⟨⟨_,rfl⟩,∅,_,h5,by rw[ye];exact yb y,as++[p],by rw[yj];rfl,by rw[ye,v];rfl,Rows.app ((t.same (g.trans e4)).but Z S) ((t.same g).fresh fp) O,λb X=>?_⟩;rcases List.mem_append.mp X with h | h
  ·exact C b h
  ·rw[yh.mp h];exact Same.none fp (e2.trans g)
 ·rintro l H2 vs fl e2 hl y ⟨as,rfl,v,t,C⟩;walk_at "x";have hla:l∉as:=t.ne (by decide) hl;refine zbh (xs:=xs) (λi G H'=>∃I J W U,G=[some (.int n),some (.ref a),some (.ref l),I,J,W,U]/\H' l=some (.lst (as.map V.ref))/\Rows H' as 3 (zK (ds.take i))/\Same H H') ?_ ?_ ?_ ?_
  ·exact⟨_,_,_,_,rfl,hl,t,e2⟩
  ·rintro i G H' _ ⟨_,_,_,_,_,_,_,e⟩;exact e.seq hS
  ·rintro i x G L hx ⟨I,J,W,U,rfl,j,f,g⟩;obtain⟨b,d,rfl,B,X⟩:=(hT.same g).get hx;have a2:L b=some (.tup [.int d.p,.int d.q,.int d.r,.int d.a]):=X;obtain⟨p0,p1,q0,q1,pq,r0,r1,a0,a1⟩:=hd d (ym B);obtain⟨c,N⟩:=zP (show d.p.toNat<as.length by lia);have Y:=f.2 _ _ N;have u:=ym N;have M:l≠c:=λz=>hla (z▸u);have fc:=C c u;walk_at "x";rename_i H4 b4 h4;refine⟨_,_,_,_,rfl,b4.lst j M,(f.set b4 N h4).congr λm hm r hr=>?_,∅⟩;rw[zak B];exact zok p0 r0 m r
  ·rintro G L ⟨I,J,W,U,rfl,j,f,g⟩;rw[hT.length,List.take_length]at f;walk_at "x";exact k _ _ _ fl g j ⋯ f C
def zg8(T:Txt K mg):T.d_stop_of.Ok P w base 2 (zgi K):=by
 refine T.d_stop_of.F.okN sc_stop_of (by walk_at "l") λM A outer s H vs Q E S h=>?_;obtain⟨l,y,f,q,rfl,R,I,O,L,k⟩:=h;refine⟨_,(ze (zu 2 sc_stop_of zh)
 (ze (zai PassesOwn.never rfl (zaz K T.z_enumerate (za (pv 0) zd)) (show PG _ _ (zaT K 2 _)from zat (n:=2) rfl (zy (zD (i:=3) sc_stop_of.nd rfl (Or.inl rfl)) (zy (zD (i:=4) sc_stop_of.nd rfl (Or.inl rfl)) zaj)))
 (ze (zkc (i:=2) sc_stop_of.nd rfl (Or.inl rfl) (pv 4) zb6)
 (zi (zG (zcd K (qD T.d_under (zeH (base:=base) T) S (za (pv 1) (za (zM (za (pv 2) (za zh zd))) zd))))
 (zi (zp (pv 3)))
 zA))))
 (zi (zp zbg)))),?_⟩
 refine zo (σ0:=[some (.ref l),some (.ref y),none,none,none]) rfl ?_;walk_at "x";refine zb3 (zab (K:=K) (a:=l) (xs:=(vec 3 f).map V.int)) (λi d H'=>∃g j:Option V,d=[some (.ref l),some (.ref y),some (.int (zbj f i)),g,j]/\zaN f q i=none/\Same H H') ⟨_,_,rfl,rfl,Same.refl _⟩ ?_ ?_ ?_
 ·rintro i d H' ⟨_,_,_,_,e⟩;exact SqL.of (e.at R)
 ·rintro i x d H1 H2 hi ⟨g,j,rfl,hno,e1⟩ e2 ⟨t,v,rfl,C,G⟩;rw[yc,zI]at hi;rw[yf,zap hi]at C;cases C;have U:H2 t=some (.tup [.int (i:Int),.int (f i)]):=G;have W:=zlB I (i+1) ⋯;have m:SzQ ((zbj f (i+1):Int):Rat) 60000 60000:=zr3 ⋯ ⋯;walk_at "x";refine za9 (by first | decide | simp) λtp o N J B=>?_;have u:IsQ o tp ((zbj f (i+1):Int):Rat):=B;have e13:Same H o:=e1.trans (e2.trans J);have p:IsQ o y q:=e13.at O;refine zX ?_;refine zi5 p u L m ?_;have b:zaN f q (i+1)=if zbx f q i then some i else none:=by show(match zaN f q i with | some r=>some r | none=>_)=_;rw[hno]
  by_cases c:zbx f q i
  ·rw[decide_eq_true (under_int.mpr c)];rw[if_pos c]at b;have D:=zhm b (3-(i+1));rw[show i+1+(3-(i+1))=3 by lia]at D;rw[D]at k;walk_at "x";exact k _ e13
  ·rw[decide_eq_false λz=>c (under_int.mp z)];rw[if_neg c]at b;walk_at "x";exact⟨_,_,rfl,b,e13⟩
 ·rintro d H1 ⟨g,j,rfl,hno,e1⟩;rw[yc,zI]at hno;rw[hno]at k;walk_at "x";exact k _ e1
def zkT(T:Txt K mg):T.d_flows_of.Ok P w base 1 (zis K):=by
 refine T.d_flows_of.F.okN sc_flows_of (by walk_at "l") λad A outer s H vs Q E hr h=>?_;obtain⟨a,b,ds,n,ρ,rfl,⟨xs,hS,hT⟩,R,n1,hd,k⟩:=h;have N:(zar n ρ).length=n:=zbd;refine⟨_,(ze (qS1 2 sc_flows_of ["rank", "ranks"] [none,some 1] (zT K (pv 1)) (λ_ _ _ _ _=>(zw zaq (zO (za zh zd)) (za5 K T.z_len (za (pv 1) zd)))))
 (ze (zai PassesOwn.never rfl (zT K (pv 0)) (show PG _ _ (zaT K 4 _)from zat (n:=4) rfl (zy (zD (i:=3) sc_flows_of.nd rfl (Or.inl rfl)) (zy (zD (i:=4) sc_flows_of.nd rfl (Or.inl rfl)) (zy (zD (i:=5) sc_flows_of.nd rfl (Or.inl rfl)) (zy (zD (i:=6) sc_flows_of.nd rfl (Or.inl rfl)) zaj)))))
 (zi (zG (zm (qEq K hr.units) (pv 5) (qIx K (pv 1) (pv 3)) (nomark _))
 (zi (zaW (qIx K (pv 2) (pv 3)) (pv 4) (show zbK _ (zbe K)from zaB) (pv 6) zb6 zaf))
 zA)))
 (zi (zp (pv 2))))),?_⟩
 refine zo (σ0:=[some (.ref a),some (.ref b),none,none,none,none,none]) rfl ?_;walk_at "x";refine zR (zS (K:=K) (a:=b) (xs:=zar n ρ)) (λH' e=>SqL.of (e.at R)) rfl (λi vs H'=>∃as,vs=as.map V.ref/\as.length=i/\Rows H' as n (λ_ _=>0)/\∀b∈as,H b=none) (λH' _=>⟨[],rfl,rfl,⟨List.nodup_nil,λi a h=>nomatch h⟩,λ_ h=>nomatch h⟩) ?_ ?_
 ·rintro i x D vs o H2 J hi hD e2 hv L ⟨as,rfl,t,C,S⟩ u hx;have Y:=(e2.trans u).at R;walk_at "x";rename_i z1 ae aa O ab p H4 fp a2 G H5 b5 h5;have e4:Same J H4:=O.trans a2;rw[Int.toNat_natCast,N]at G;have y:J p=none:=Same.none fp O;have a6:p≠D:=zbX y (u.at hv);have a5:H5 p=some (.lst ((vec n λ_=>0).map V.int)):=b5.lst G a6;have a7:D∉as:=λz=>by
   obtain⟨m,hm,a3,f⟩:=C.mem z;rw[hv]at f;have hn:n≠0:=by lia
   cases as with
   | nil=>cases z
   | cons z0 zs=>
    obtain⟨M,rfl⟩:∃M,n=M+1:=⟨n-1,⋯⟩
    unfold vec at f;rw[List.range_succ_eq_map]at f;cases f
  refine⟨⟨_,rfl⟩,∅,_,h5,by rw[ye];exact yb L,as++[p],by rw[yj];rfl,by rw[ye,t];rfl,Rows.app ((C.same (u.trans e4)).but b5 a7) ((C.same u).fresh y) a5,λb R=>?_⟩;rcases List.mem_append.mp R with h | h
  ·exact S b h
  ·rw[yh.mp h];exact Same.none y (e2.trans u)
 ·rintro l H2 vs fl e2 hl L ⟨as,rfl,t,C,S⟩;rw[N]at t;walk_at "x";have hla:l∉as:=λz=>by
   obtain⟨m,hm,a3,f⟩:=C.mem z;rw[hl]at f;cases as with
   | nil=>cases z
   | cons z0 zs=>
    obtain⟨M,rfl⟩:∃M,n=M+1:=⟨n-1,by simp only[List.length_cons]at t;lia⟩
    unfold vec at f;rw[List.range_succ_eq_map]at f;cases f
  refine zbh (xs:=xs) (λi U H'=>∃W X f5 f6,U=[some (.ref a),some (.ref b),some (.ref l),W,X,f5,f6]/\H' l=some (.lst (as.map V.ref))/\Rows H' as n (za7 ρ (ds.take i))/\Same H H') ?_ ?_ ?_ ?_
  ·exact⟨_,_,_,_,rfl,hl,C,e2⟩
  ·rintro i U H' _ ⟨_,_,_,_,_,_,_,e⟩;exact e.seq hS
  ·rintro i x U J hx ⟨W,X,f5,f6,rfl,v,g,u⟩;obtain⟨b',d,rfl,B,a4⟩:=(hT.same u).get hx;have ac:J b'=some (.tup [.int d.p,.int d.q,.int d.r,.int d.a]):=a4;obtain⟨p0,p1,q0,q1,pq,r0,r1,a0,a1⟩:=hd d (ym B);obtain⟨c,hc⟩:=zP (show d.p.toNat<as.length by lia);have a8:=g.2 _ _ hc;have I:=ym hc;have Z:l≠c:=λz=>hla (z▸I);have fc:=S c I;have Y:=u.at R;have a9:atI (zar n ρ) d.p=some (zbM (ρ d.p.toNat)):=zbl ⋯ (zbs ⋯);walk_at "x";refine zrs r0 ?_;walk_at "x"
   ·rename_i hρ H4 b4 h4;refine⟨_,_,_,_,rfl,b4.lst v Z,(g.set b4 hc h4).congr λm hm j hj=>?_,∅⟩;rw[zak B,zgR];by_cases e1:m=d.p.toNat
    ·rw[if_pos e1];by_cases e2:j=d.q.toNat
     ·rw[if_pos e2,if_pos ⟨⋯,⋯,by rw[e1];exact hρ⟩,e1,e2]
     ·rw[if_neg e2,if_neg (λz=>e2 ⋯),e1];lia
    ·rw[if_neg e1,if_neg (λz=>e1 ⋯)];lia
   ·rename_i hρ;refine⟨_,_,_,_,rfl,v,g.congr λm hm j hj=>?_,u⟩;rw[zak B,zgR,if_neg (λz=>hρ (by rw[show d.p.toNat=m by lia];exact z.2.2))];lia
  ·rintro U J ⟨W,X,f5,f6,rfl,v,g,u⟩;rw[hT.length,List.take_length]at g;walk_at "x";exact k _ _ _ fl u v t g S
def zk7(T:Txt K mg):T.d_reach_of.Ok P w base 1 (zhO K):=by
 refine T.d_reach_of.F.okN sc_reach_of (by walk_at "l") λa3 A outer s H vs Q E hr h=>?_;obtain⟨a,i,n,as,F,rfl,Y,X,hR,h9,hi,k⟩:=h;refine⟨_,(ze (zu 2 sc_reach_of (zO (za (pv 1) zd)))
 (ze (zu 3 sc_reach_of zh)
 (ze (zdp PassesOwn.never (zm zba (pv 3) (za5 K T.z_len (za (pv 2) zd)) (nomark _))
 (ze (zu 4 sc_reach_of (qIx K (pv 0) (qIx K (pv 2) (pv 3))))
 (ze (zJ (show PE _ _ (tBM K _ _ _ _)from zmK PySem.F.plainAttrs_list PySem.F.slot_list_extend PySem.F.type_list_extend zor (pv 2) (za (zeo rfl (zaz K T.z_enumerate (za (pv 4) zd)) (zam (Ni:=["other", "flow", "reached"]) (caps:=[none,none,some 2]) (by rfl)) (λS _ _ _ _ _=>(show PG _ _ (zaT K 2 _)from zat (n:=2) rfl (zy (zag (gi:=0) S (Or.inl rfl) rfl) (zy (zag (gi:=1) S (Or.inl rfl) rfl) zaj)))) (λ_ _ _ _ _=>(zdC (PW.pt (zbL (zm zbo (pv 1) zh (nomark _)) (zby (zm (show OpR _ (compareOp .NotIn) (rIn K true)from zcv) (pv 0) (pv 2) (by with_unfolding_all rfl))))))) (λ_ _ _ _ _=>(pv 0))) zd)))
 (zi (zkc (i:=3) sc_reach_of.nd rfl (Or.inl rfl) zh zb6)))))
 (zi (zp (pv 2)))))),?_⟩
 refine zo (σ0:=[some (.ref a),some (.int (i:Int)),none,none,none]) rfl ?_;walk_at "x";rename_i p H1 fp e1 hp;generalize hg:(λi j=>decide (0<F i j))=g at k;have r:∀i j,g i j=decide (0<F i j):=λi j=>by rw[<- hg]
 refine⟨λm σ H'=>∃(t:Nat) (y:Option V),σ=[some (.ref a),some (.int (i:Int)),some (.ref p),some (.int (t:Int)),y]/\t<=(Rc.seqL n g i t).length/\H' p=some (.lst (zaU (Rc.seqL n g i t)))/\Same H H'/\m=n-t,⟨_,0,_,rfl,Nat.zero_le _,hp,e1,rfl⟩,?_⟩;rintro m σ H2 ⟨t,y,rfl,ht,f,e2,rfl⟩;have a0:=zaI (l:=Rc.seqL n g i t);have a7:=Rc.seq_len (g:=g) hi t;walk_at "x"
 ·rename_i I;have b:t<(Rc.seqL n g i t).length:=by lia
  refine⟨λR H'=>∃y:Option V,R=[some (.ref a),some (.int (i:Int)),some (.ref p),some (.int ((t+1:Nat):Int)),y]/\H' p=some (.lst (zaU (Rc.seqL n g i (t+1))))/\Same H H',?_,?_⟩
  ·rintro R H' ⟨f5,rfl,q,u⟩;refine⟨n-(t+1),⋯,t+1,f5,rfl,?_,q,u,rfl⟩;rw[Rc.seq_succ b,ye];lia
  ·generalize hs:Rc.seqL n g i t=sl at *
   have a5:sl.getD t 0<n:=zdn b (by rw[<- hs];exact λx B=>Rc.seq_lt hi t x B);obtain⟨c,M⟩:=zP (show sl.getD t 0<as.length by lia);have W:atI (zaU sl) (t:Int)=some (.int ((sl.getD t 0:Nat):Int)):=zal (zci b);have L:atI (as.map V.ref) ((sl.getD t 0:Nat):Int)=some (.ref c):=zal (by rw[yf,M];rfl);have a2:=e2.at Y;have J:=(hR.same e2).2 _ _ M;walk_at "x";refine zas (zab (K:=K) (a:=c) (xs:=(vec n (F (sl.getD t 0))).map V.int)) (λH' e=>SqL.of (e.at J)) rfl (λj vs _=>vs=zaU ((List.range j).filter λk=>g (sl.getD t 0) k&&!decide (k∈sl))) (λH' _=>rfl) ?_ ?_
   ·rintro j x D vs o o' Z O N hD u G d rfl e4 ⟨U,v,rfl,B,C⟩;rw[yc,zI]at N;rw[yf,zap N]at B;cases B;have a6:O U=some (.tup [.int (j:Int),.int (F (sl.getD t 0) j)]):=C;have a4:=(u.trans e4).at f;walk_at "x"
    ·rename_i h1 h2 H5 b5 h5;refine⟨⟨_,_,rfl⟩,∅,_,h5,by rw[ye];exact yb d,?_⟩;dsimp only;rw[zdH,if_pos (by rw[r,decide_eq_true h1,decide_eq_false (λz=>h2 (intsN_mem.mpr z))];rfl),zfu];rfl
    ·rename_i h1 h2;refine⟨⟨_,_,rfl⟩,∅,_,∅,Nat.le_succ_of_le d,?_⟩;dsimp only;rw[zdH,if_neg (by rw[decide_eq_true (intsN_mem.mp h2)];simp),List.append_nil]
    ·rename_i h1;refine⟨⟨_,_,rfl⟩,∅,_,∅,Nat.le_succ_of_le d,?_⟩;dsimp only;rw[zdH,if_neg (by rw[r,decide_eq_false h1];simp),List.append_nil]
   ·rintro D Z vs hD u G d rfl;rw[yc,zI]at G;have q:=u.at f;have hfl:=List.length_filter_le (λk=>g (sl.getD t 0) k&&!decide (k∈sl)) (List.range n);rw[List.length_range]at hfl;have a1:=zaI (l:=(List.range n).filter λk=>g (sl.getD t 0) k&&!decide (k∈sl));walk_at "x";refine zsQ q G ⋯ λO b4 h4=>?_;walk_at "x";refine⟨_,rfl,?_,∅⟩;rw[Rc.seq_succ (by rw[hs];exact b),hs,zfu];exact h4
 ·rename_i I
  have:=Rc.seq_end (g:=g) hi ht ⋯
  rw[this]at f;walk_at "x";exact k p _ fp e2 f
def zgm(T:Txt K mg):T.d_closed_circle.Ok P w base 2 (zgK K):=by
 refine T.d_closed_circle.F.okN sc_closed_circle (by walk_at "l") λab A outer s H vs Q E hr h=>?_;obtain⟨a,b,n,as,F,ρ,rfl,ha,a8,hR,hb,h9,k⟩:=h;have S:(zar n ρ).length=n:=zbd;refine⟨_,(ze (zu 2 sc_closed_circle (zO zd))
 (ze (zai PassesOwn.never rfl (zbc rfl T.z_range (za (za5 K T.z_len (za (pv 1) zd)) zd)) (zD (i:=3) sc_closed_circle.nd rfl (Or.inl rfl))
 (ze (zu 4 sc_closed_circle (qD T.d_reach_of (zk7 (base:=base) T) hr (za (pv 0) (za (pv 3) zd))))
 (zi (zG (zcd K (zaS (show CallR _ _ (zjv K)from znN rfl) rfl T.z_all BT.all (za (qC1 ["other", "ranks"] [none,some 1] (zT K (pv 4)) (λ_ _ _ _ _=>(zbz zfU (qIx K (pv 1) (pv 0)) zbg (nomark _)))) zd)))
 (zi (zJ (qAp K (pv 2) (za (pv 4) zd))))
 zA))))
 (zi (zp (show PE _ _ (zll K _)from zn4 rfl (by rfl) T.z_min BT.min (by rfl) T.z_len BT.len (za (pv 2) zd)))))),?_⟩
 refine zo (σ0:=[some (.ref a),some (.ref b),none,none,none]) rfl ?_;walk_at "x";rename_i cs H1 ad e1 Y;generalize hg:(λi j=>decide (0<F i j))=g at k;have ae:∀i j,g i j=decide (0<F i j):=λi j=>by rw[<- hg]
 refine zei (n:=((zar n ρ).length:Int).toNat) (λi σ' H'=>∃(X f4:Option V) (f:List Addr),σ'=[some (.ref a),some (.ref b),some (.ref cs),X,f4]/\H' cs=some (.lst (f.map V.ref))/\cs∉f/\(∀c∈f,H c=none)/\f.length<=i/\LsOf H' f (((List.range i).map (Rc.reach n g)).filter λl=>l.all λi=>(ρ i).isSome)/\Same H H') ⟨_,_,[],rfl,Y,(λz=>nomatch z),(λ_ z=>nomatch z),yg _,LsOf.nil,e1⟩ ?_ ?_
 ·rintro i σ' H2 hi ⟨X,f4,f,rfl,d,r,q,L,t,e2⟩;have ei:(0:Int)+(i:Int)=i:=by lia
  rw[Int.toNat_natCast,S]at hi;have aa:=e2.at ha;have a9:=hR.same e2;have a4:=e2.at hb;rw[ei];walk_at "x";rename_i p1 H3 M B G;rw[hg]at G;have er:((List.range (i+1)).map (Rc.reach n g)).filter (λl=>l.all λi=>(ρ i).isSome)=((List.range i).map (Rc.reach n g)).filter (λl=>l.all λi=>(ρ i).isSome)++if((Rc.reach n g i).all λi=>(ρ i).isSome)=true then[Rc.reach n g i] else[]:=by
   rw[List.range_succ,yj,List.filter_append,List.map_singleton,zrZ]
  rw[er];have Z:∀x∈Rc.reach n g i,x<n:=λx W=>Rc.reach_lt hi W;have ac:(Rc.reach n g i).length<=n:=Rc.seq_len (g:=g) hi n;generalize Rc.reach n g i=rl at *
  have a3:=B.at a4;refine zR (zS (K:=K) (a:=p1) (xs:=zaU rl)) (λH' e=>SqL.of (e.at G)) rfl (λj vs _=>vs=((rl.take j).map λx=>(ρ x).isSome).map V.bl) (λH' _=>rfl) ?_ ?_
  ·rintro j x D vs o H4 H5 I hD J hv O rfl e5 W;rw[zaI]at I;rw[zci I]at W;cases W;have a0:=zdn I Z;have af:=(J.trans e5).at a3;have a7:atI (zar n ρ) ((rl.getD j 0:Nat):Int)=some (zbM (ρ (rl.getD j 0))):=zal (zbs a0);walk_at "x";rename_i H6 b6 h6;rw[zka,show(!(ρ (rl.getD j 0)).isNone)=(ρ (rl.getD j 0)).isSome by cases ρ (rl.getD j 0)<;>rfl]at h6;refine⟨⟨_,rfl⟩,∅,_,h6,by rw[ye];exact yb O,?_⟩;dsimp only;have a1:rl[j]?=some (rl.getD j 0):=by rw[yn,List.getElem?_eq_getElem I];rfl
   rw[zak a1,yj,yj];rfl
  ·rintro D H4 vs hD J hv O rfl;rw[zaI,List.take_length]at hv;have a6:(f.map V.ref).length<=100000:=by rw[yc];lia
   have ea:((rl.map λx=>(ρ x).isSome).all id)=rl.all λi=>(ρ i).isSome:=by rw[List.all_map];rfl
   have R:H4 cs=some (.lst (f.map V.ref)):=(B.trans J).at d;have y:=B.trans J;walk_at "x"
   ·rename_i v H5 b5 h5;rw[ea]at v;have U:p1≠cs:=zbX M d;refine⟨_,_,f++[p1],rfl,by rw[h5,yj];rfl,λz=>?_,λc u=>?_,by rw[ye];simp only[List.length_singleton];lia,?_,∅⟩
    ·rcases List.mem_append.mp z with h | h
     ·exact r h
     ·exact U (yh.mp h).symm
    ·rcases List.mem_append.mp u with h | h
     ·exact q c h
     ·rw[yh.mp h];exact Same.none M e2
    ·rw[if_pos v];exact((t.same y).but b5 r).snoc (b5.lst (J.at G) U)
   ·rename_i hno;rw[ea]at hno;rw[if_neg (by rw[hno];decide),List.append_nil];exact⟨_,_,f,rfl,R,r,q,Nat.le_succ_of_le L,t.same y,e2.trans y⟩
 ·rintro σ' H2 ⟨X,f4,f,rfl,d,r,q,L,t,e2⟩;rw[Int.toNat_natCast,S]at t;have a2:∀c∈((List.range n).map (Rc.reach n g)).filter (λl=>l.all λi=>(ρ i).isSome),c.length<=n:=λc u=>by
   obtain⟨i,hi,rfl,_⟩:=Rc.mem_circles.mp u;exact Rc.seq_len (g:=g) hi n
  have a5:Rc.circle n g (λi=>(ρ i).isSome)=Rc.minL (((List.range n).map (Rc.reach n g)).filter λl=>l.all λi=>(ρ i).isSome):=rfl;rw[a5]at k;generalize (((List.range n).map (Rc.reach n g)).filter λl=>l.all λi=>(ρ i).isSome)=C at *
  show(zjx (zj3 2) zfA) _ _ (zlh K _)
  walk_at "x";refine⟨cs,f,λi=>(C.getD i []).length,rfl,SqL.of d,λi c u=>?_,λp H3 fp B hp=>⟨λhn=>?_,λi c u N=>?_⟩⟩
  ·obtain⟨l,h1,h2⟩:=t.2 i c u;have e:C.getD i []=l:=by rw[yn,h1];rfl
   have:=a2 l (ym h1)
   exact⟨_,h2,by rw[zaI];exact(congrArg List.length e).symm,by show(C.getD i []).length<=16000;rw[e];lia⟩
  ·have hC:C=[]:=List.eq_nil_of_length_eq_zero (by rw[<- t.1,hn];rfl);rw[hC]at k;exact k p H3 (Same.none fp e2) (e2.trans B) hp
  ·obtain⟨l,h1,h2⟩:=t.2 i c u;have e:C.getD i []=l:=by rw[yn,h1];rfl
   have em:=zq4 h1 λj m hm=>by
    have I:j<f.length:=by rw[t.1];exact(yi.mp hm).1
    have:=N j I
    dsimp only at this;rw[e,show C.getD j []=m by rw[yn,hm];rfl]at this;exact this
   rw[em]at k;exact k c H3 (q c (ym u)) (e2.trans B) (B.at h2)
def zfY(T:Txt K mg):T.d_circling_rates.Ok P w base 4 zii:=by
 refine T.d_circling_rates.F.okN zf0 (λvs H Q E h=>h.elim) (λa A outer s H vs Q E b h=>h.elim)
def zkm(T:Txt K mg):T.d_grown.Ok P w base 3 (zln K):=by
 refine T.d_grown.F.okN zoK (by walk_at "l") λY A outer s H vs Q E N h=>?_;obtain⟨d,e,s,n,l,r,t,us,ws,rfl,hd,L,S,J,W,h9,z0,O,k⟩:=h;have hwl:=J.length;rw[yc,List.length_range]at hwl;have q:=L.length;rw[yc,List.length_range]at q;refine⟨_,(zi (zp (qC2 K ["lay", "rate", "step"] [none,none,some 2] (show PI _ _ _ (zpU K _)from znB rfl T.z_zip (za (pv 0) (za (pv 1) zd))) (λ_ _ _ _ _=>(qD T.d_plus (zem (base:=base) T) N (za (pv 0) (za (qD T.d_times (zdD (base:=base) T) N (za (pv 1) (za (pv 2) zd))) zd))))))),?_⟩;refine zo (σ0:=[some (.ref d),some (.ref e),some (.ref s)]) rfl ?_;walk_at "x";refine zas (zlZ (K:=K) (a:=d) (b:=e) (xs:=us) (ys:=ws)) (λH' e=>⟨SqL.of (e.at hd),SqL.of (e.at S)⟩) rfl (λi vs H'=>IsQs H' vs ((List.range i).map λi=>l i+r i*t)) (λH' _=>trivial) ?_ ?_
 ·rintro i x D vs o o' B H4 hi y c C f m g ⟨p,v,w',rfl,V,Z,U⟩;have j:i<n:=by lia
  obtain⟨g1,y1,rfl,h1,h2⟩:=(L.same (c.trans g)).get V;obtain⟨g2,y2,rfl,G,h4⟩:=(J.same (c.trans g)).get Z;rw[yf,List.getElem?_range j]at h1 G;cases h1;cases G;have R:=(c.trans g).isQ W;obtain⟨o1,o2,o3⟩:=O i j;walk_at "x";rename_i p1 H5 M a0 p2 H6 I u H7 z X;refine⟨⟨_,_,rfl⟩,z.same (((c.trans g).trans M).trans I) y,_,X,by rw[ye];exact yb f,?_⟩;show IsQs H7 _ ((List.range (i+1)).map _);rw[List.range_succ,yj,List.map_singleton];exact IsQs.app (LBut.isQ z u) (LBut.isQs z (m.same ((g.trans M).trans I)))
 ·rintro D B vs y c C f m;rw[show min us.length ws.length=n by lia]at m;exact k D B vs y c C m
def zhD(T:Txt K mg):T.d_cleared.Ok P w base 5 (zmn K):=by
 refine T.d_cleared.F.okN sc_cleared (by walk_at "l") λc5 A outer s H vs Q E O h=>?_;obtain⟨a,u,Y,C,z,rfl,hS,hu,s0,sY,Y9,k⟩:=h;have cf:(([C,z].map V.int).length:Int)=2:=rfl;obtain⟨ds,B⟩:∃ds,ds=due1 Y:=⟨_,rfl⟩
 obtain⟨n,hn⟩:∃n:Nat,n=2:=⟨_,rfl⟩
 have h9:n<=9:=by lia
 have c7:∀d∈ds,zaM (n:Int) d:=by rw[B,hn];exact zcL ⋯ Y9
 have co:∀d∈ds,zaM (([C,z].map V.int).length:Int) d:=by rw[B];exact zcL ⋯ Y9
 rw[<- B]at hS;have zr:r2 0=λ_=>0:=funext λi=>by unfold r2;split<;>rfl
 refine⟨_,(ze (zu 2 sc_cleared (qD T.d_ranked (zfG (base:=base) T) O (za (za5 K T.z_len (za (pv 1) zd)) (za (pv 0) zd))))
 (ze (qS1 3 sc_cleared ["purse"] [none] (zT K (pv 1)) (λ_ _ _ _ _=>(zM (za zh (za zh zd)))))
 (ze (zu 4 sc_cleared (zM (za zh (za zh zd))))
 (zi (zdp PassesOwn.never (zcd K zeu)
 (ze (zcj (i:=5) sc_cleared.nd rfl rfl rfl (zaz K T.z_enumerate (za (pv 3) zd)) (zam (Ni:=["member", "lay", "owed"]) (caps:=[none,none,some 2]) (by rfl)) (λS _ _ _ _ _=>(show PG _ _ (zaT K 2 _)from zat (n:=2) rfl (zy (zag (gi:=0) S (Or.inl rfl) rfl) (zy (zag (gi:=1) S (Or.inl rfl) rfl) zaj)))) (λ_ _ _ _ _=>zel) (λ_ _ _ _ _=>(qD T.d_stop_of (zg8 (base:=base) T) O (za (qIx K (pv 2) (pv 0)) (za (pv 1) zd)))))
 (ze (zu 6 sc_cleared (qD T.d_flows_of (zkT (base:=base) T) O (za (pv 0) (za (pv 5) zd))))
 (ze (zu 7 sc_cleared (qD T.d_closed_circle (zgm (base:=base) T) O (za (pv 6) (za (pv 5) zd))))
 (zi (zG (zm (qNe K O.units) (pv 7) (zO zd) (nomark _))
 (ze (zu 8 sc_cleared (qD T.d_circling_rates (zfY (base:=base) T) O (za (pv 6) (za (pv 7) zd))))
 (zi (zu 3 sc_cleared (qD T.d_grown (zkm (base:=base) T) O (za (pv 3) (za (pv 8) (za (qD T.d_least_room (zeT (base:=base) T) O (za (pv 2) (za (pv 5) (za (pv 3) (za (pv 8) zd))))) zd)))))))
 (zi (zG (zm (qEq K O.units) (pv 4) (zM (za zh (za zh zd))) (nomark _))
 (zi (zp (pv 3)))
 (ze (zu 8 sc_cleared (qD T.d_opening_rates (zgM (base:=base) T) O (za (pv 6) (za (pv 5) (za (pv 1) zd)))))
 (ze (zu 9 sc_cleared (qD T.d_least_room (zeT (base:=base) T) O (za (pv 2) (za (pv 5) (za (pv 3) (za (pv 8) zd))))))
 (ze (zu 10 sc_cleared (qD T.d_minus (zdw (base:=base) T) O (za (zM (za zh (za zh zd))) (za (pv 4) zd))))
 (ze (zu 9 sc_cleared (zbJ (zm zfx (pv 9) zbg (nomark _)) (pv 10) (qD T.d_least (zgu (base:=base) T) O (za (pv 9) (za (pv 10) zd)))))
 (ze (zu 3 sc_cleared (qD T.d_grown (zkm (base:=base) T) O (za (pv 3) (za (pv 8) (za (pv 9) zd)))))
 (zi (zu 4 sc_cleared (qD T.d_plus (zem (base:=base) T) O (za (pv 4) (za (pv 9) zd)))))))))))))))))))))),?_⟩
 refine zo (σ0:=[some (.ref a),some (.ref u),none,none,none,none,none,none,none,none,none]) rfl ?_;walk_at "x";rename_i ow H1 as cj e1 b2 ap hR hF;have bb:=e1.at hu;have aq:as.length=n:=by rw[hn];exact ap
 clear ap;refine zR (zS (K:=K) (a:=u) (xs:=[C,z].map V.int)) (λH' e=>SqL.of (e.at bb)) rfl (λi vs H'=>IsQs H' vs (zQs i)) (λH' _=>trivial) ?_ ?_
 ·rintro i x D vs o H2 H3 hi hD e2 hv X hQ U hx;have c1:vs.length<=100:=by have:i<2:=hi;lia
  walk_at "x";refine zan (q:=(0:Rat)) ⟨rfl,rfl⟩ ?_;intro p H4 e4 hp;have c3:=(U.trans e4).at hv;walk_at "x";rename_i H5 b5 h5;refine⟨⟨_,rfl⟩,b5.same ((e2.trans U).trans e4) hD,_,h5,by rw[ye];exact yb X,?_⟩;show IsQs H5 _ ((List.range (i+1)).map _);rw[List.range_succ,yj,List.map_singleton];exact IsQs.app (LBut.isQ b5 hp) (LBut.isQs b5 (hQ.same (U.trans e4)))
 rintro L H2 vs a7 e2 hla X ao;have hQ:IsQs H2 vs ((List.range 2).map (r2 0)):=by rw[zr];exact ao
 walk_at "x";refine zan (q:=(0:Rat)) ⟨rfl,rfl⟩ ?_;intro op H3 U a8;walk_at "x";refine⟨λm σ H'=>∃(x:Int) (t:Rat) (L op:Addr) (ws:List V) (f5 f6 f7 f8 f9 W:Option V),σ=[some (.ref a),some (.ref u),some (.ref ow),some (.ref L),some (.ref op),f5,f6,f7,f8,f9,W]/\H' L=some (.lst ws)/\IsQs H' ws ((List.range 2).map (r2 x))/\IsQ H' op t/\H L=none/\Same H1 H'/\0<=x/\x<Y/\(t=0/\m=1/\x=0\/t=1/\m=0/\x=C),⟨1,0,0,L,op,vs,_,_,_,_,_,_,rfl,U.at hla,hQ.same U,a8,Same.none a7 e1,e2.trans U,⋯,⋯,.inl ⟨rfl,rfl,rfl⟩⟩,?_⟩;clear a8 hla hQ ao X U e2 a7 L op vs H2 H3;rintro m σ H2 ⟨x,t,L,op,ws,f5,f6,f7,f8,f9,W,rfl,hla,hQ,a8,a7,e2,x0,xY,ht⟩;have hwl:ws.length=n:=by rw[hn];exact hQ.length
 have br:=hR.same e2;have az:=e2.at b2;walk_at "x";refine⟨λσ' H'=>∃(L op:Addr) (ws:List V) (f5 f6 f7 f8 f9 W:Option V),t=0/\σ'=[some (.ref a),some (.ref u),some (.ref ow),some (.ref L),some (.ref op),f5,f6,f7,f8,f9,W]/\H' L=some (.lst ws)/\IsQs H' ws ((List.range 2).map (r2 C))/\IsQ H' op 1/\H L=none/\Same H1 H',?_,?_⟩
 ·rintro σ' H' ⟨L,op,ws,f5,f6,f7,f8,f9,W,rfl,rfl,i1,i2,i3,i4,i5⟩;rcases ht with⟨_,rfl,_⟩ | ⟨z,_⟩
  ·exact⟨0,Nat.zero_lt_one,C,1,L,op,ws,f5,f6,f7,f8,f9,W,rfl,i1,i2,i3,i4,i5,s0,sY,.inr ⟨rfl,rfl,rfl⟩⟩
  ·exact absurd z (by decide)
 have zx:SzQ ((x:Int):Rat) 60000 60000:=(zcR (zW (n:=20) ⋯)).mono (by decide) (by decide);have c8:OkQ ((x:Int):Rat):=(zcR (zW (n:=20) ⋯)).ok (by decide) (by decide);have bu:∀i,SzQ (r2 x i) 60000 60000:=λi=>by unfold r2;split;exact zx;exact zhv
 walk_at "x";refine zas (zab (K:=K) (a:=L) (xs:=ws)) (λH' e=>SqL.of (e.at hla)) rfl (λj vs _=>vs=zar j (stp ds (r2 x))) (λH' _=>rfl) ?_ ?_
 ·rintro j x' D vs o o' H3 H4 hj hD U hv X rfl e4 ⟨tt,v,rfl,hx,bd⟩;obtain⟨g,q,rfl,ax,cm⟩:=(hQ.same (U.trans e4)).get hx;rw[yf,List.getElem?_range ⋯]at ax;cases ax;have cp:H4 tt=some (.tup [.int (j:Int),.ref g]):=bd;obtain⟨c,hc⟩:=zP (show j<as.length by lia);have cg:atI (as.map V.ref) (j:Int)=some (.ref c):=zal (by rw[yf,hc];rfl);have c0:=(U.trans e4).at az;have ck:=(br.same (U.trans e4)).2 _ _ hc;have ch:∀r,r<3->0<=zK ds j r/\zK ds j r<=100000000000000:=λr _=>by rw[B,rank1];split<;>lia
  have zq:=bu j;walk_at "x";rename_i H5 e5 H6 b6 h6;refine⟨⟨_,_,rfl⟩,∅,_,h6,by rw[ye];exact yb X,?_⟩;dsimp only;rw[ziB];rfl
 rintro ra H3 vs cd U b9 X rfl;rw[hwl]at b9;have cn:IsSh K H3 a ds:=by walk_at "h"
 walk_at "x";rename_i fl H4 bs ce e4 hfl bo be cc ci H5 c9 e5 bi em H6 cb e6 bg;have bv:Rc.circle n (λi j=>decide (0<za7 (stp ds (r2 x)) ds i j)) (λi=>(stp ds (r2 x) i).isSome)=[]:=by
  rw[hn];refine circle1 (by rw[B,stp11];rfl) ?_;rw[B,flow1 xY,if_pos ⟨rfl,rfl⟩];exact decide_eq_true ⋯
 have aw:H5 ci=some (.lst []):=by
  have:=bi
  rw[bv]at this;exact this
 refine zgN (ns:=[]) (ms:=[]) (SqL.of (e6.at aw)) (SqL.of bg) rfl ?_;have a2:=U.trans ((e4.trans e5).trans e6);have ab:=a2.isQ a8;have ad:=a2.at hla;have b1:=hQ.same a2;have b3:=(e5.trans e6).at hfl;have an:=be.same (e5.trans e6);have bc:=((e4.trans e5).trans e6).at b9;have bm:=(e2.trans a2).at bb;walk_at "x";refine zan (q:=(1:Rat)) ⟨rfl,rfl⟩ ?_;intro t1 H7 e7 bt;refine zuc (e7.isQ ab) bt ?_;have ar:=(e2.trans a2).trans e7;walk_at "x"
 ·rename_i h1;rcases ht with⟨z,_⟩ | ⟨_,_,rfl⟩
  ·rw[z]at h1;exact absurd h1 (by decide)
  ·exact k L H7 ws a7 (e1.trans ar) (e7.at ad) (b1.same e7)
 ·rename_i h1;obtain⟨t0,bz⟩:t=0/\x=0:=by
   rcases ht with⟨z,_,y⟩ | ⟨z,_⟩
   ·exact⟨z,y⟩
   ·exact absurd z h1
  subst t0;subst bz;have ba:=e7.at b3;have ac:=e7.at bc;have bq:=e7.at bm;have b8:=an.same e7;have bp:OkQ (1:Rat):=(zcR (x:=1) zbF).ok (by decide) (by decide);have ca:OkQ (0:Rat):=zfM;have G:(1:Rat)-0=1:=by grind
  have c4:SzQ ((1:Rat)-0) 60000 60000:=by rw[G];exact(zcR (x:=1) zbF).mono (by decide) (by decide)
  have oks:OkQ ((1:Rat)-0):=by rw[G];exact bp
  walk_at "x";subst hn;refine zX ?_;refine⟨fl,ra,u,bs,_,_,C,z,Y,rfl,ba,bo,b8,ac,(by rw[B,stp10 xY];rfl),(by rw[B];exact stp11),bq,(by rw[B];exact(flow1s xY).1),⋯,Y9,(by rw[B];exact(flow1s xY).2),s0,⋯,λrt H8 rs c6 e8 af hrs=>?_⟩;have Z:=ar.trans e8;have b7:=Z.at b2;have bw:=hR.same Z;have a3:=(e7.trans e8).at ad;have ae:=b1.same (e7.trans e8);have a9:=(e7.trans e8).isQ ab;have av:=e8.at ac;have zs:SzQ ((C:Int):Rat) 20 20:=(zcR (zW (n:=20) ⋯)).mono (by decide) (by decide);have zY:SzQ ((Y:Int):Rat) 21 20:=(zcR (zW (n:=21) ⋯)).mono (by decide) (by decide);have b4:=zs0 (A:=Y) (x:=0) (s:=C) xY;rw[<- B]at b4;have au:∀i,r2 0 i+r2 C i*((1:Rat)-0)=r2 C i:=λi=>by rw[zr,G,Rat.mul_one,Rat.zero_add]
  have a6:∀i,OkQ (r2 C i):=λi=>by unfold r2;split;exact zs.ok (by decide) (by decide);exact zfM
  have am:∀i,OkQ (r2 0 i):=λi=>by rw[zr];exact zfM
  walk_at "x";refine zX ?_;refine zqa (ds:=ds) (l:=r2 0) (r:=r2 C) b7 aq bw av a3 ae af hrs (by decide) (λi hi aa=>?_) (λbj H9 R=>?_) (λq hq p9 H9 R bh=>?_)
  ·rcases(show i=0\/i=1 by lia)with rfl | rfl
   ·have ah:(0:Rat)<((C:Int):Rat):=aa;have bn:0<C:=by exact_mod_cast ah
    have er:zde ds (r2 0) 0=((Y:Int):Rat):=by rw[B];exact room1 xY
    have el:r2 0 0=0:=by rw[zr]
    have ei:zaO ds (r2 0) (r2 C) 0=Rat.divInt Y C:=by
     unfold zaO;rw[er,el,Rat.divInt_eq_div]
     show(((Y:Int):Rat)-0)/((C:Int):Rat)=_
     rw[show((Y:Int):Rat)-0=((Y:Int):Rat) by grind]
    refine⟨(λz=>by rw[B,stp10 xY]at z;cases z),am 0,by rw[er];exact zY.ok (by decide) (by decide),?_,zs.mono (by decide) (by decide),?_⟩
    ·rw[er,el,show((Y:Int):Rat)-0=((Y:Int):Rat) by grind];exact zY.ok (by decide) (by decide)
    ·rw[ei];exact zck bn (ya (zW (n:=20) ⋯) (by decide)) (ya (zW (n:=20) ⋯) (by decide))
   ·exact absurd aa (by show ¬(0:Rat)<0;decide)
  ·have a5:=R.isQ a9;walk_at "x";refine zan (q:=(1:Rat)) ⟨rfl,rfl⟩ ?_;intro t2 bl b bf;have I:=b.isQ a5;have M:=(R.trans b).at a3;have a4:=ae.same (R.trans b);have N:=(R.trans b).at af;have J:=hrs.same (R.trans b);walk_at "x"
   rotate_right 1
   ·contradiction
   rename_i sh al f a0 _;refine ziY (l:=r2 0) (r:=r2 C) (n:=2) (f.at M) (a4.same f) (f.at N) (J.same f) a0 (by decide) oks (λi hi=>⟨am i,a6 i,by rw[G,Rat.mul_one];exact a6 i⟩) ?_;intro gr Ha gs ag ea a1 ak;have ay:=(f.trans ea).isQ I;have b0:=ea.isQ a0;walk_at "x";rename_i np Hb eb aj;have ai:Same H al:=(e1.trans Z).trans (R.trans (b.trans f));refine⟨gr,np,gs,_,_,_,_,_,_,rfl,rfl,eb.at a1,?_,?_,Same.none ag ai,(Z.trans (R.trans (b.trans f))).trans (ea.trans eb)⟩
   ·have:(List.range 2).map (r2 C)=(List.range 2).map λi=>r2 0 i+r2 C i*((1:Rat)-0):=List.map_congr_left λi _=>(au i).symm
    rw[this];exact ak.same eb
   ·have:(1:Rat)=0+(1-0):=by grind
    rw[this];exact aj
  ·have a5:=R.isQ a9;rw[b4]at hq;obtain⟨bx,zq⟩:=zoV hq sY Y9;walk_at "x";refine zan (q:=(1:Rat)) ⟨rfl,rfl⟩ ?_;intro t2 bl b bf;have I:=b.isQ a5;have M:=(R.trans b).at a3;have a4:=ae.same (R.trans b);have N:=(R.trans b).at af;have J:=hrs.same (R.trans b);have c2:=b.isQ bh;walk_at "x"
   rotate_left 1
   ·rename_i sh al f a0 _ _;refine ziY (l:=r2 0) (r:=r2 C) (n:=2) (f.at M) (a4.same f) (f.at N) (J.same f) a0 (by decide) oks (λi hi=>⟨am i,a6 i,by rw[G,Rat.mul_one];exact a6 i⟩) ?_;intro gr Ha gs ag ea a1 ak;have ay:=(f.trans ea).isQ I;have b0:=ea.isQ a0;walk_at "x";rename_i np Hb eb aj;have ai:Same H al:=(e1.trans Z).trans (R.trans (b.trans f));refine⟨gr,np,gs,_,_,_,_,_,_,rfl,rfl,eb.at a1,?_,?_,Same.none ag ai,(Z.trans (R.trans (b.trans f))).trans (ea.trans eb)⟩
    ·have:(List.range 2).map (r2 C)=(List.range 2).map λi=>r2 0 i+r2 C i*((1:Rat)-0):=List.map_congr_left λi _=>(au i).symm
     rw[this];exact ak.same eb
    ·have:(1:Rat)=0+(1-0):=by grind
     rw[this];exact aj
   ·rename_i hno;exact absurd bx hno
   ·rename_i hno;exact absurd hno (λz=>nomatch z)
def ze0(T:Txt K mg):T.d_amounts_of.Ok P w base 1 (zd4 K):=by
 refine T.d_amounts_of.F.okN zjd (by walk_at "l") λB A outer s H vs Q E M h=>?_;obtain⟨a,ds,rfl,⟨xs,u,n⟩,h1,k⟩:=h;have j:=n.length;refine⟨_,(zi (zp (qC1 ["due"] [none] (zT K (pv 0)) (λ_ _ _ _ _=>(qIx K (pv 0) zh))))),?_⟩;refine zo (σ0:=[some (.ref a)]) rfl ?_;walk_at "x";refine zR (zS (K:=K) (a:=a) (xs:=xs)) (λH' e=>e.seq u) rfl (λi vs _=>vs=((ds.take i).map Due.a).map V.int) (λH' _=>rfl) ?_ ?_
 ·rintro i x D vs o m z hi t f l c rfl I y;obtain⟨b,d,rfl,g,G⟩:=(n.same (f.trans I)).get y;have v:z b=some (.tup [.int d.p,.int d.q,.int d.r,.int d.a]):=G;walk_at "x";rename_i L J C;exact⟨⟨_,rfl⟩,∅,_,C,by rw[ye];exact yb c,by show _=((ds.take (i+1)).map Due.a).map V.int;rw[zak g,yj,yj];rfl⟩
 ·rintro D m vs t f l c rfl;rw[j,List.take_length]at l;exact k D m t f l
def zcy(T:Txt K mg):T.d_with_amounts.Ok P w base 1 (zjM K):=by
 refine T.d_with_amounts.F.okN zhN (by walk_at "l") λX A outer s H vs Q E hr h=>?_;obtain⟨a,b,ds,ms,rfl,⟨xs,N,C⟩,hM,hl,h1,k⟩:=h;have z:=C.length;refine⟨_,(zi (zp (qC2 K ["number", "due", "amounts"] [none,none,some 1] (zaz K T.z_enumerate (za (pv 0) zd)) (λ_ _ _ _ _=>(zM (za (qIx K (pv 1) zh) (za (qIx K (pv 1) zh) (za (qIx K (pv 1) zh) (za (qIx K (pv 2) (pv 0)) zd))))))))),?_⟩;refine zo (σ0:=[some (.ref a),some (.ref b)]) rfl ?_;walk_at "x";refine zas (zab (K:=K) (a:=a) (xs:=xs)) (λH' e=>e.seq N) rfl (λi vs H'=>IsTs zdd H' vs ((zbN ds λi=>ms.getD i 0).take i)) (λH' _=>trivial) ?_ ?_
 ·rintro i x D vs o o' B U hi G l I g j e4 ⟨t,v,rfl,S,a0⟩;obtain⟨c,d,rfl,n,R⟩:=(C.same (l.trans e4)).get S;have Z:U c=some (.tup [.int d.p,.int d.q,.int d.r,.int d.a]):=R;have u:i<ms.length:=by lia
  have O:atI (ms.map V.int) (i:Int)=some (.int (ms.getD i 0)):=zir ⋯ (by rw[Int.toNat_natCast];exact zkA u);walk_at "x";rename_i t J ft e5 L W M Y;have y:J t=some (.tup (zdd ⟨d.p,d.q,d.r,ms.getD i 0⟩)):=L;refine⟨⟨_,_,rfl⟩,∅,_,Y,by rw[ye];exact yb g,?_⟩;show IsTs zdd W _ (List.take (i+1) _);rw[zmq n];exact IsTs.app (f:=zdd) (M.tup y) ∅
 ·rintro D B vs G l I g j;rw[z,<- zoc (m:=λi=>ms.getD i 0),List.take_length]at j;exact k D B vs G l I j
def zja(T:Txt K mg):T.d_dues_among.Ok P w base 1 (zh6 K):=by
 refine T.d_dues_among.F.okN sc_dues_among (by walk_at "l") λa3 A outer s H vs Q E hr h=>?_;obtain⟨a,b,ds,n,g,rfl,⟨xs,O,N⟩,X,hn,hl,hd,k⟩:=h;have I:=N.length;have G:(bls n g).length=n:=zlp;refine⟨_,(ze (zu 2 sc_dues_among (zw zaq (zO (za zbg zd)) (za5 K T.z_len (za (pv 1) zd))))
 (ze (zai PassesOwn.never rfl (zaz K T.z_enumerate (za (pv 0) zd)) (show PG _ _ (zaT K 2 _)from zat (n:=2) rfl (zy (zD (i:=3) sc_dues_among.nd rfl (Or.inl rfl)) (zy (zD (i:=4) sc_dues_among.nd rfl (Or.inl rfl)) zaj)))
 (zi (zG (PW.pt (zbL (zm zbo (qIx K (pv 4) zh) zh (nomark _)) (zbL (zcd K (qIx K (pv 1) (qIx K (pv 4) zh))) (zby (zcd K (qIx K (pv 1) (qIx K (pv 4) zh)))))))
 (zi (zc4 (pv 3) (zc3 (pv 2) (qIx K (pv 4) zh) zaf)))
 zA)))
 (zi (zp (pv 2))))),?_⟩
 refine zo (σ0:=[some (.ref a),some (.ref b),none,none,none]) rfl ?_;walk_at "x";rename_i l0 H0 R e0 W l H1 fl e1 o;rw[Int.toNat_natCast,G]at o;refine zb3 (zab (K:=K) (a:=a) (xs:=xs)) (λi x H'=>∃B C,x=[some (.ref a),some (.ref b),some (.ref l),B,C]/\H' l=some (.lst (zar n (zcb ds g i)))/\Same H H') ?_ ?_ ?_ ?_
 ·exact⟨_,_,rfl,o,∅⟩
 ·rintro i x H' ⟨_,_,_,_,e⟩;exact e.seq O
 ·rintro i y x S H4 hi ⟨B,C,rfl,f,u⟩ D ⟨t,v,rfl,U,ht⟩;obtain⟨c,d,rfl,j,hc⟩:=(N.same (u.trans D)).get U;have a4:H4 c=some (.tup [.int d.p,.int d.q,.int d.r,.int d.a]):=hc;obtain⟨L,p1,Z,q1,pq,r0,r1,a0,a1⟩:=hd d (ym j);have M:atI (bls n g) d.p=some (.bl (g d.p.toNat)):=zbl L (zfW ⋯);have J:atI (bls n g) d.q=some (.bl (g d.q.toNat)):=zbl Z (zfW ⋯);have a2:=(u.trans D).seq X;have es:∀m,zcb ds g (i+1) m=if useful g m d then some i else zcb ds g i m:=ziE j
  walk_at "x"
  ·rename_i h1 h2 h3;refine zc7 ∅ (show ixN (zar n (zcb ds g i)).length d.p=some d.p.toNat by rw[zbd];exact zfp L ⋯) λH5 b5 Y=>?_;refine⟨_,_,rfl,?_,∅⟩;rw[Y];show some (HO.lst ((zar n (zcb ds g i)).set d.p.toNat (zbM (some i))))=_;rw[zpB];congr 2;refine zhh λm V=>?_;rw[es m];by_cases e:m=d.p.toNat
   ·rw[if_pos e,if_pos ⟨⋯,h1,h2,h3⟩]
   ·rw[if_neg e,if_neg (λz=>e (by have:=z.1;lia))]
  all_goals
   refine⟨_,_,rfl,?_,∅⟩;rw[D.at f];congr 2;refine zhh λm V=>?_;rw[es m,if_neg]
   rintro⟨z1,z2,z3,z4⟩
   simp_all
 ·rintro x S ⟨B,C,rfl,f,u⟩;rw[I]at f;walk_at "x";exact k _ _ ∅ u f
def zhQ(T:Txt K mg):T.d_ways_onward.Ok P w base 2 (zkK K):=by
 refine T.d_ways_onward.F.okN sc_ways_onward (by walk_at "l") λO A outer s H vs Q E W h=>?_;obtain⟨n,a,ds,rfl,hS,n0,n1,hl,hd,k⟩:=h;have z:∀d∈ds,zaM (n.toNat:Int) d:=by rw[show(n.toNat:Int)=n by lia];exact hd
 refine⟨_,(ze (zu 2 sc_ways_onward (zw zaq (zO (za zeu zd)) (pv 0)))
 (ze (zu 3 sc_ways_onward (zw zaq (zO (za zbg zd)) (pv 0)))
 (ze (zai PassesOwn.never rfl (zbc rfl T.z_range (za (pv 0) zd)) (zD (i:=4) sc_ways_onward.nd rfl (Or.inl rfl))
 (ze (zu 3 sc_ways_onward (qD T.d_dues_among (zja (base:=base) T) W (za (pv 1) (za (pv 2) zd))))
 (zi (qS1 2 sc_ways_onward ["number"] [none] (zT K (pv 3)) (λ_ _ _ _ _=>(zbz zfU (pv 0) zbg (nomark _)))))))
 (zi (zp (pv 3)))))),?_⟩
 refine zo (σ0:=[some (.int n),some (.ref a),none,none,none]) rfl ?_;walk_at "x";rename_i l0 H0 C e0 J go H1 U e1 R l1 H2 I e2 Y on H3 G e3 c;refine zei (λi q H'=>∃(g o:Addr) (f:Option V),q=[some (.int n),some (.ref a),some (.ref g),some (.ref o),f]/\H' g=some (.lst (bls n.toNat (goF ds i)))/\H' o=some (.lst (zar n.toNat (zcK ds i)))/\Same H H'/\H o=none) ?_ ?_ ?_
 ·exact⟨_,_,_,rfl,∅,c,∅,∅⟩
 ·rintro i q M hi ⟨g,o,f,rfl,X,v,r,y⟩;walk_at "x";rename_i p Z fp e5 hp;refine zR (zS (K:=K) (a:=p) (xs:=zar n.toNat (zcK ds (i+1)))) (λH' e=>SqL.of (e.at hp)) rfl (λj vs _=>vs=bls j (goF ds (i+1))) (λH' _=>rfl) ?_ ?_
  ·rintro j x D vs o2 N H7 u S L l b rfl e7 t;have m:j<n.toNat:=by rw[zbd]at u;exact u
   rw[zbs m]at t;cases t;walk_at "x";rename_i H8 b8 B;refine⟨⟨_,rfl⟩,∅,_,B,by rw[ye];exact yb b,?_⟩;show _=bls (j+1) _;rw[zgr,zka];congr 2;show V.bl (!(zcK ds (i+1) j).isNone)=V.bl ((zcK ds (i+1) j).isSome);cases zcK ds (i+1) j<;>rfl
  ·rintro D N vs S L l b rfl;rw[zbd]at l;exact⟨_,_,_,rfl,l,∅,∅,∅⟩
 ·rintro q M ⟨g,o,f,rfl,X,v,r,y⟩;walk_at "x";exact k _ _ y r v
def ziA(T:Txt K mg):T.d_a_ring.Ok P w base 3 (zrF K):=by
 refine T.d_a_ring.F.okN sc_a_ring (by walk_at "l") λu A outer s H vs Q E f h=>?_;obtain⟨a,rfl,m,k⟩:=h;obtain⟨n,e⟩:∃n:Int,n=2:=⟨_,rfl⟩
 have C:1<=n:=by lia
 have n1:n<=100:=by lia
 obtain⟨ds,b⟩:∃ds,ds=due1 0:=⟨_,rfl⟩
 have V:ds.length<=1000:=by rw[b];decide
 have hd:∀d∈ds,zaM n d:=by rw[b,e];exact zcL (by decide) (by decide)
 rw[<- b]at m;refine⟨_,(ze (zu 2 sc_a_ring (qD T.d_ways_onward (zhQ (base:=base) T) f (za (pv 0) (za (pv 1) zd))))
 (ze (zcj (i:=3) sc_a_ring.nd rfl rfl rfl (zbc rfl T.z_range (za (pv 0) zd)) (zam (Ni:=["member", "onward"]) (caps:=[none,some 2]) (by rfl)) (λS _ _ _ _ _=>(zag (gi:=0) S (Or.inl rfl) rfl)) (λ_ _ _ _ _=>(zdC (zm zfU (qIx K (pv 1) (pv 0)) zbg (nomark _)))) (λ_ _ _ _ _=>(pv 0)))
 (ze (zG (zm (qEq K f.units) (pv 3) (zO zd) (nomark _))
 (zi (zp (zO zd)))
 zA)
 (ze (zu 4 sc_a_ring (zO zd))
 (ze (zu 5 sc_a_ring (qIx K (pv 3) zh))
 (ze (zdp PassesOwn.never (zm (show OpR _ (compareOp .NotIn) (rIn K true)from zcv) (pv 5) (pv 4) (by with_unfolding_all rfl))
 (ze (zJ (qAp K (pv 4) (za (pv 5) zd)))
 (zi (zu 5 sc_a_ring (qIx K (qIx K (pv 1) (qIx K (pv 2) (pv 5))) zh)))))
 (zi (zp (qC1 ["payer", "onward"] [none,some 2] (zT K (zbu (show SlR _ (zeM K)from zd8) (pv 4) (zbW (show PE _ _ (tBM K _ _ _ _)from zmK PySem.F.plainAttrs_list PySem.F.slot_list_index PySem.F.type_list_index zpl (pv 4) (za (pv 5) zd))) zbQ)) (λ_ _ _ _ _=>(qIx K (pv 1) (pv 0)))))))))))),?_⟩
 refine zo (σ0:=[some (.int 2),some (.ref a),none,none,none,none]) rfl ?_;rw[<- e];walk_at "x";rename_i on H1 v e1 g;refine zR zdP (λ_ _=>trivial) rfl (λj vs _=>vs=[]) (λH' _=>rfl) ?_ ?_
 ·rintro j x D vs B M W q U J R c rfl Z rfl;have o:atI (zar n.toNat (zcK ds n.toNat)) ((0:Int)+(j:Int))=some .non:=zbl ⋯ (by rw[show((0:Int)+(j:Int)).toNat=j by lia,zbs q,b,way0];rfl);walk_at "x"
  ·rename_i h X L G;exact absurd rfl h
  ·exact⟨⟨_,rfl⟩,∅,_,∅,Nat.le_succ_of_le c,rfl⟩
 rintro O H2 vs z e2 l c rfl;walk_at "x";rename_i em N y I t;refine zkv (ns:=[]) (ms:=[]) ∅ ∅ rfl ?_;walk_at "x";rename_i p r fp Y hp;exact k p r ∅ ∅ hp
def ztc(T:Txt K mg):T.d_cut.Ok P w base 4 (zsB K):=by
 refine T.d_cut.F.okN sc_cut (by walk_at "l") λv A outer s H vs Q E b h=>?_;obtain⟨a,rfl,q,k⟩:=h;have C:(due1 0).length<=1000:=by decide
 refine⟨_,(ze (zu 2 sc_cut (qD T.d_amounts_of (ze0 (base:=base) T) b (za (pv 1) zd)))
 (ze (zu 3 sc_cut (zO zd))
 (ze (zu 4 sc_cut (qD T.d_a_ring (ziA (base:=base) T) b (za (pv 0) (za (pv 1) zd))))
 (ze (zdp PassesOwn.never (zm (qNe K b.units) (pv 4) (zO zd) (nomark _))
 (ze (zu 5 sc_cut (zaS (show CallR _ _ (zqA K)from zoy rfl) rfl T.z_min BT.min (za (qC1 ["number", "left"] [none,some 2] (zT K (pv 4)) (λ_ _ _ _ _=>(qIx K (pv 1) (pv 0)))) zd)))
 (ze (zai PassesOwn.never rfl (zT K (pv 4)) (zD (i:=6) sc_cut.nd rfl (Or.inl rfl))
 (zi (zaW (pv 2) (pv 6) (show zbK _ (zbe K)from zaB) (pv 5) zc8 zaf)))
 (ze (zJ (qAp K (pv 3) (za (zM (za (pv 4) (za (pv 5) zd))) zd)))
 (zi (zu 4 sc_cut (qD T.d_a_ring (ziA (base:=base) T) b (za (pv 0) (za (qD T.d_with_amounts (zcy (base:=base) T) b (za (pv 1) (za (pv 2) zd))) zd)))))))))
 (zi (zp (zM (za (pv 2) (za (pv 3) zd))))))))),?_⟩
 refine zo (σ0:=[some (.int 2),some (.ref a),none,none,none,none,none]) rfl ?_;walk_at "x";rename_i l H1 G e1 j c H2 N e2 y;refine zX ?_;refine⟨a,rfl,q.same (e1.trans e2),λr u M n f=>?_⟩;have d:u l=some (.lst [.int 0]):=(e2.trans n).at j;walk_at "x";refine⟨λ_ σ H'=>σ=[some (.int 2),some (.ref a),some (.ref l),some (.ref c),some (.ref r),none,none]/\H' l=some (.lst [.int 0])/\H' r=some (.lst [])/\Same H H',⟨0,rfl,d,f,e1.trans (e2.trans n)⟩,?_⟩;rintro m σ J ⟨rfl,x,g,O⟩;walk_at "x";rename_i z D L B o;refine zgN (ns:=[]) (ms:=[]) (SqL.of (B.at g)) (SqL.of o) rfl ?_;walk_at "x";refine za9 (by first | decide | simp) λp t fp I e=>?_;walk_at "x";exact k p l c t ∅ ∅ e ∅
def zpn(T:Txt K mg):T.d_stops.Ok P w base 3 (zq6 K):=by
 refine T.d_stops.F.okN zjK (by walk_at "l") λa0 A outer s H vs Q E N h=>?_;obtain⟨a,y,ds,ws,qs,rfl,h,hd,hl,hy,L,h9,Z,k⟩:=h;have hwl:=L.length;have Y:∀d∈ds,zaM (ws.length:Int) d:=by rw[hwl];exact λd h=>(hd d h).1
 refine⟨_,(ze (zu 2 zjK (qD T.d_ranked (zfG (base:=base) T) N (za (za5 K T.z_len (za (pv 1) zd)) (za (pv 0) zd))))
 (zi (zp (qC2 K ["member", "lay", "owed"] [none,none,some 2] (zaz K T.z_enumerate (za (pv 1) zd)) (λ_ _ _ _ _=>(qD T.d_stop_of (zg8 (base:=base) T) N (za (qIx K (pv 2) (pv 0)) (za (pv 1) zd)))))))),?_⟩
 refine zo (σ0:=[some (.ref a),some (.ref y),none]) rfl ?_;walk_at "x";rename_i S H1 as U e1 n p hR hF;rw[Int.toNat_natCast]at p;have G:=L.same e1;have u:=e1.at hy;refine zas (zab (K:=K) (a:=y) (xs:=ws)) (λH' e=>SqL.of (e.at u)) rfl (λi vs _=>vs=zar i λm=>zaN (zK ds m) (qs.getD m 0) 3) (λH' _=>rfl) ?_ ?_
 ·rintro i x D vs o o' H2 I hi M e2 z g rfl C ⟨t,v,rfl,X,O⟩;obtain⟨b,q,rfl,l,hb⟩:=(G.same (e2.trans C)).get X;have a1:I t=some (.tup [.int (i:Int),.ref b]):=O;obtain⟨c,W⟩:=zP (show((i:Int)).toNat<as.length by lia);have f:=(hR.same (e2.trans C)).2 _ _ W;rw[Int.toNat_natCast]at f;have hf:∀j,j<3->0<=zK ds i j/\zK ds i j<=100000000000000:=λj _=>by
   have:=zgC (m:=i) (r:=j) ds λd h=>⟨(hd d h).1.2.2.2.2.2.2.2.1,(hd d h).2⟩
   lia
  have a2:=Z q (ym l);have J:I S=some (.lst (as.map V.ref)):=(e2.trans C).at n;have B:qs.getD i 0=q:=by rw[yn,l];rfl
  walk_at "x";rename_i H4 e4 H5 b5 R;refine⟨⟨_,_,rfl⟩,∅,_,R,by rw[ye];exact yb g,?_⟩;dsimp only;rw[ziB,B]
 ·rintro D H2 vs M e2 z g rfl;rw[hwl]at z;exact k D H2 (Same.none M e1) (e1.trans e2) z
def zkQ(T:Txt K mg):T.d_safe_cut.Ok P w base 6 (zr5 K):=by
 refine T.d_safe_cut.F.okN sc_safe_cut (by walk_at "l") λag A outer s H vs Q E G h=>?_;obtain⟨a,u,Y,X,z,rfl,g,hu,s0,sY,Y9,k⟩:=h;refine⟨_,(ze (zu 2 sc_safe_cut (qD T.d_stops (zpn (base:=base) T) G (za (pv 0) (za (qD T.d_cleared (zhD (base:=base) T) G (za (pv 0) (za (pv 1) zd))) zd))))
 (ze (zu 3 sc_safe_cut (qC1 ["due", "ranks"] [none,some 2] (zT K (pv 0)) (λ_ _ _ _ _=>(zm7 (zbz zfx (qIx K (pv 1) (qIx K (pv 0) zh)) zbg (nomark _)) (zoh (zbz zfx (qIx K (pv 1) (qIx K (pv 0) zh)) zbg (nomark _)))))))
 (ze (zu 4 sc_safe_cut (qD T.d_amounts_of (ze0 (base:=base) T) G (za (pv 0) zd)))
 (ze (zcj (i:=5) sc_safe_cut.nd rfl rfl rfl (zaz K T.z_enumerate (za (pv 4) zd)) (zam (Ni:=["number", "amount", "free"]) (caps:=[none,none,some 3]) (by rfl)) (λS _ _ _ _ _=>(show PG _ _ (zaT K 2 _)from zat (n:=2) rfl (zy (zag (gi:=0) S (Or.inl rfl) rfl) (zy (zag (gi:=1) S (Or.inl rfl) rfl) zaj)))) (λ_ _ _ _ _=>zel) (λ_ _ _ _ _=>(zbJ (zcd K (qIx K (pv 2) (pv 0))) (pv 1) zh)))
 (ze (zu 6 sc_safe_cut (qIx K (qD T.d_cut (ztc (base:=base) T) G (za (za5 K T.z_len (za (pv 1) zd)) (za (qD T.d_with_amounts (zcy (base:=base) T) G (za (pv 0) (za (pv 5) zd))) zd))) zh))
 (zi (zp (qC2 K ["number", "amount", "free", "left"] [none,none,some 3,some 6] (zaz K T.z_enumerate (za (pv 4) zd)) (λ_ _ _ _ _=>(zbJ (zcd K (qIx K (pv 2) (pv 0))) (qIx K (pv 3) (pv 0)) (pv 1))))))))))),?_⟩
 refine zo (σ0:=[some (.ref a),some (.ref u),none,none,none,none,none]) rfl ?_;walk_at "x";refine zX ?_;refine⟨a,u,Y,X,z,rfl,g,hu,s0,sY,Y9,λla H1 ws ad e1 hla a5=>?_⟩;walk_at "x";refine zX ?_;have a0:∀d∈due1 Y,zaM (((List.range 2).map (r2 X)).length:Int) d/\d.a<=1000000000000:=λd hd=>⟨zcL ⋯ Y9 d hd,by rw[yh.mp hd];show Y<=_;lia⟩
 refine⟨a,la,due1 Y,ws,_,rfl,g.same e1,a0,by show 1<=64;decide,hla,a5,by show 2<=9;decide,zun s0 ⋯,λst H2 aj e2 B=>?_⟩;rw[stops1 sY]at B;obtain⟨xs,hS,hT⟩:=g.same (e1.trans e2);obtain⟨b,rfl,hb⟩:∃b,xs=[.ref b]/\H2 b=some (.tup [.int 0,.int 1,.int 0,.int Y]):=by
  match xs,hT with
  | [v],⟨⟨a,z,h⟩,_⟩=>exact⟨a,by rw[z],h⟩
 walk_at "x";refine zR (zS (K:=K) (a:=a) (xs:=[.ref b])) (λH' e=>hS.keep e) rfl (λi vs _=>vs=(List.replicate i false).map V.bl) (λH' _=>rfl) ?_ ?_
 ·rintro i x D vs o H3 H4 hi t p J c rfl f C;obtain rfl:i=0:=by simp at hi;lia
  cases C;have ar:=(p.trans f).at hb;have ab:=(p.trans f).at B;have af:=f.at J;walk_at "x"
  all_goals first
   | (rename_i h y b5 h5;exact⟨⟨_,rfl⟩,b5.same (p.trans f) t,_,h5,yb (Nat.zero_le _),rfl⟩)
   | exact absurd (by assumption:V.int 0=V.non) (λz=>nomatch z)
 rintro fr H3 vs ao p a6 c rfl;have a8:IsSh K H3 a (due1 Y):=g.same (e1.trans (e2.trans p));have au:(due1 Y).length<=1000:=by show 1<=1000;decide
 walk_at "x";rename_i am H4 as f a1;have m:H4 am=some (.lst [.int Y]):=a1;have l:H4 fr=some (.lst [.bl false]):=f.at a6;refine zas (zab (K:=K) (a:=am) (xs:=[.int Y])) (λH' e=>SqL.of (e.at m)) rfl (λi vs _=>vs=(List.replicate i (0:Int)).map V.int) (λH' _=>rfl) ?_ ?_
 ·rintro i x D vs o o' y H6 hi t j J c rfl q ⟨U,v,rfl,C,r⟩;obtain rfl:i=0:=by simp at hi;lia
  cases C;have a9:H6 U=some (.tup [.int 0,.int Y]):=r;have ac:=(j.trans q).at l;have an:=q.at J;have W:atI [V.bl false] 0=some (.bl false):=rfl;walk_at "x";rename_i H7 b7 h7;exact⟨⟨_,_,rfl⟩,b7.same (j.trans q) t,_,h7,yb (Nat.zero_le _),rfl⟩
 rintro wi y vs ap j a2 c rfl;have N:y wi=some (.lst ([(0:Int)].map V.int)):=a2;have ae:y u=some (.lst ([X,z].map V.int)):=(e1.trans (e2.trans (p.trans (f.trans j)))).at hu;have a4:IsSh K y a (due1 Y):=a8.same (f.trans j);walk_at "x";refine zX ?_;refine zgs (ms:=[0]) a4 (SqL.of N) (by show 1<=1;decide) (by show 1<=1000;decide) ?_;intro wa H6 us aq q a7 L;rw[with1]at L;refine zX ?_;refine⟨wa,rfl,⟨us,SqL.of a7,L⟩,λtp le cu H7 ak R ah hle=>?_⟩;have M:=((j.trans q).trans R).at m;have I:=((j.trans q).trans R).at l;walk_at "x";refine zas (zab (K:=K) (a:=am) (xs:=[.int Y])) (λH' e=>SqL.of (e.at M)) rfl (λi vs _=>vs=(List.replicate i Y).map V.int) (λH' _=>rfl) ?_ ?_
 ·rintro i x D vs o o' H8 H9 hi t O J c rfl e9 ⟨U,v,rfl,C,r⟩;obtain rfl:i=0:=by simp at hi;lia
  cases C;have a9:H9 U=some (.tup [.int 0,.int Y]):=r;have aa:=(O.trans e9).at I;have ai:=e9.at J;have W:atI [V.bl false] 0=some (.bl false):=rfl;walk_at "x";rename_i al a3 Z;exact⟨⟨_,_,rfl⟩,a3.same (O.trans e9) t,_,Z,yb (Nat.zero_le _),rfl⟩
 rintro D H8 vs fD O t c rfl;exact k D H8 (Same.none fD ((e1.trans e2).trans ((p.trans f).trans (j.trans (q.trans R))))) (((e1.trans e2).trans ((p.trans f).trans (j.trans (q.trans R)))).trans O) t
def zkI(T:Txt K mg):T.d_total.Ok P w base 3 (zid K):=by
 refine T.d_total.F.okN sc_total (by walk_at "l") λo A outer s H vs Q E r h=>?_;obtain⟨a,xs,qs,rfl,g,l,hok,c,k⟩:=h;refine⟨_,(ze (zu 1 sc_total (zM (za zh (za zh zd))))
 (ze (zai PassesOwn.never rfl (zT K (pv 0)) (zD (i:=2) sc_total.nd rfl (Or.inl rfl))
 (zi (zu 1 sc_total (qD T.d_plus (zem (base:=base) T) r (za (pv 1) (za (pv 2) zd))))))
 (zi (zp (pv 1))))),?_⟩
 refine zo (σ0:=[some (.ref a),none,none]) rfl ?_;walk_at "x";refine zan (q:=0) ⟨rfl,rfl⟩ ?_;intro p H1 e1 t;walk_at "x"
 try refine zqH (e1.seq g) ?_
 refine zbh (xs:=xs) (λi d H'=>∃p f,d=[some (.ref a),some (.ref p),f]/\IsQ H' p (zd3 (qs.take i))/\Same H H') ⟨p,_,rfl,t,e1⟩ ?_ ?_ ?_
 ·rintro i d H' _ ⟨p,f,rfl,_,e⟩;exact e.seq g
 ·rintro i x d H' n ⟨p,f,rfl,hp,e⟩;obtain⟨b,q,rfl,j,u⟩:=(l.same e).get n;have y:OkQ q:=hok q (ym j);have v:=c i;walk_at "x";rename_i p2 H2 e2 m;refine⟨p2,_,rfl,?_,e.trans e2⟩
  have:qs.take (i+1)=qs.take i++[q]:=by
   obtain⟨hi,rfl⟩:=yi.mp j;exact List.take_succ_eq_append_getElem hi
  rw[this,zdM];exact m
 ·rintro d H' ⟨p,f,rfl,hp,e⟩;rw[l.length,List.take_length]at hp;walk_at "x";exact k _ _ e hp
def zhZ(T:Txt K mg):T.d_shares_paid.Ok P w base 4 (zfr K):=by
 refine T.d_shares_paid.F.okN sc_shares_paid (by walk_at "l") λa2 A outer s H vs Q E O h=>?_;obtain⟨l,y,f,q,rfl,hl,Z,hy,hs,k⟩:=h;refine⟨_,(ze (zu 2 sc_shares_paid (zO zd))
 (ze (zu 3 sc_shares_paid (pv 1))
 (ze (zai PassesOwn.never rfl (zT K (pv 0)) (zD (i:=4) sc_shares_paid.nd rfl (Or.inl rfl))
 (ze (zu 5 sc_shares_paid (qD T.d_least (zgu (base:=base) T) O (za (pv 3) (za (zM (za (pv 4) (za zh zd))) zd))))
 (ze (zu 3 sc_shares_paid (qD T.d_minus (zdw (base:=base) T) O (za (pv 3) (za (pv 5) zd))))
 (zi (zJ (qAp K (pv 2) (za (zbJ (zm zbo (pv 4) zh (nomark _)) (qD T.d_over (zlw (base:=base) T) O (za (pv 5) (za (zM (za (pv 4) (za zh zd))) zd))) (zM (za zh (za zh zd)))) zd)))))))
 (zi (zp (pv 2)))))),?_⟩
 refine zo (σ0:=[some (.ref l),some (.ref y),none,none,none,none]) rfl ?_;walk_at "x";rename_i sh H0 n S C;refine zbh (xs:=(vec 3 f).map V.int) (λi g H'=>∃(p:Addr) (vs:List V) (m N:Option V),g=[some (.ref l),some (.ref y),some (.ref sh),some (.ref p),m,N]/\IsQ H' p (za3 f q i)/\H' sh=some (.lst vs)/\IsQs H' vs ((List.range i).map (za2 f q))/\Same H H') ⟨y,[],_,_,rfl,S.at hy,C,trivial,S⟩ ?_ ?_ ?_
 ·rintro i g H' _ ⟨_,_,_,_,_,_,_,_,e⟩;exact SqL.of (e.at hl)
 ·rintro i x g H1 J ⟨p,vs,m,N,rfl,hp,b,a,e1⟩;have hi:i<3:=by
   have:=(yi.mp J).1
   rwa [yc,zI]at this
  have ex:x=.int (f i):=by rw[yf,zap hi]at J;exact(yk J).symm
  subst ex;obtain⟨W,U⟩:=Z i hi;have v:=zlD hs Z hi;have zl:=zfK v (by decide) W U;have Y:=zcg W U;have o1:OkQ (za3 f q i):=v.ok (by decide) (by decide);have o2:OkQ (zbr f q i):=zl.ok (by decide) (by decide);have z8:SzQ ((f i:Int):Rat) 8999 8999:=Y.mono (by decide) (by decide);have a0:vs.length<=3:=by have:=a.length;rw[yc,List.length_range]at this;lia
  walk_at "x";refine zan (q:=((f i:Int):Rat)) ⟨rfl,rfl⟩ ?_;intro t H2 e2 ht;refine zX ?_;refine zn1 (e2.at hp) ht (v.mono (by decide) (by decide)) (Y.mono (by decide) (by decide)) λc hc=>?_;have M:IsQ H2 c (zbr f q i):=hc;have a1:IsQ H2 p (za3 f q i):=e2.at hp;walk_at "x"
  ·rename_i r2 H3 d u D;refine zan (q:=((f i:Int):Rat)) ⟨rfl,rfl⟩ ?_;intro t2 H4 X I;have o:((f i:Int):Rat).num≠0:=by show f i≠0;lia
   have z:IsQ H4 c (zbr f q i):=X.at (d.at M);have j:H4 sh=some (.lst vs):=X.at (d.at (e2.at b));refine zX ?_;refine ziD z I o2 z8 o ?_;intro G R e5 B;walk_at "x";rename_i L b6 r;refine⟨r2,vs++[.ref G],_,_,rfl,?_,r,?_,∅⟩
   ·show IsQ L r2 (za3 f q i-zbr f q i);walk_at "h"
   ·rw[List.range_succ,yj,List.map_singleton,show za2 f q i=zbr f q i/((f i:Int):Rat)from if_pos D];exact IsQs.app ∅ ∅
  ·rename_i r2 H3 d u D;refine zan (q:=(0:Rat)) ⟨rfl,rfl⟩ ?_;intro G R e5 B;have j:R sh=some (.lst vs):=e5.at (d.at (e2.at b));walk_at "x";rename_i L b6 r;refine⟨r2,vs++[.ref G],_,_,rfl,?_,r,?_,∅⟩
   ·show IsQ L r2 (za3 f q i-zbr f q i);walk_at "h"
   ·rw[List.range_succ,yj,List.map_singleton,show za2 f q i=0 from if_neg D];exact IsQs.app ∅ ∅
 ·rintro g H1 ⟨p,vs,m,N,rfl,hp,b,a,e1⟩;rw[yc,zI]at a;walk_at "x";exact k _ _ _ n e1 b a
def zqP(T:Txt K mg):T.d_paid.Ok P w base 5 (zio K):=by
 refine T.d_paid.F.okN zik (by walk_at "l") λar A outer s H vs Q E hr h=>?_;obtain⟨a,y,ds,ws,qs,rfl,⟨xs,hS,hT⟩,hy,hq,hd,hl,h9,hs,k⟩:=h;have hwl:=hq.length;have ay:∀d∈ds,zaM (ws.length:Int) d:=by rw[hwl];exact λd h=>(hd d h).1
 have au:IsSh K H a ds:=⟨xs,hS,hT⟩
 refine⟨_,(ze (zu 2 zik (qD T.d_ranked (zfG (base:=base) T) hr (za (za5 K T.z_len (za (pv 1) zd)) (za (pv 0) zd))))
 (ze (zu 3 zik (qC2 K ["member", "lay", "owed"] [none,none,some 2] (zaz K T.z_enumerate (za (pv 1) zd)) (λ_ _ _ _ _=>(qD T.d_shares_paid (zhZ (base:=base) T) hr (za (qIx K (pv 2) (pv 0)) (za (pv 1) zd))))))
 (zi (zp (qC1 ["due", "shares"] [none,some 3] (zT K (pv 0)) (λ_ _ _ _ _=>(qD T.d_times (zdD (base:=base) T) hr (za (zM (za (qIx K (pv 0) zh) (za zh zd))) (za (qIx K (qIx K (pv 1) (qIx K (pv 0) zh)) (qIx K (pv 0) zh)) zd))))))))),?_⟩
 refine zo (σ0:=[some (.ref a),some (.ref y),none,none]) rfl ?_;walk_at "x";rename_i su H1 as aq e1 a7 a8 hR hF;rw[Int.toNat_natCast]at a8;have ac:=hq.same e1;have ag:=e1.at hy;have B:∀i j,j<3->0<=zK ds i j/\zK ds i j<=100000000000000:=λi j _=>by
  have:=zgC (m:=i) (r:=j) ds λd h=>⟨(hd d h).1.2.2.2.2.2.2.2.1,(hd d h).2⟩
  lia
 refine zas (zab (K:=K) (a:=y) (xs:=ws)) (λH' e=>SqL.of (e.at ag)) rfl (λi vs H'=>∃as:List Addr,vs=as.map V.ref/\as.length=i/\∀(m:Nat) (b:Addr),as[m]?=some b->∃us,H' b=some (.lst us)/\H1 b=none/\IsQs H' us ((List.range 3).map (za2 (zK ds m) (qs.getD m 0)))) (λH' _=>⟨[],rfl,rfl,λm b h=>nomatch h⟩) ?_ ?_
 ·rintro i x D vs o o' H2 H3 hi hD e2 U n ⟨bs,rfl,a4,u⟩ l ⟨t,v,rfl,hx,ht⟩;obtain⟨b,q,rfl,X,hb⟩:=(ac.same (e2.trans l)).get hx;have b2:H3 t=some (.tup [.int (i:Int),.ref b]):=ht;obtain⟨c,hc⟩:=zP (show((i:Int)).toNat<as.length by lia);have R:=(hR.same (e2.trans l)).2 _ _ hc;rw[Int.toNat_natCast]at R;have hf:=B i;have av:=hs q (ym X);have an:H3 su=some (.lst (as.map V.ref)):=(e2.trans l).at a7;have I:qs.getD i 0=q:=by rw[yn,X];rfl
  walk_at "x";rename_i sp H4 us N C ak al H5 b5 h5;have W:sp≠D:=zbX N (l.at U);refine⟨⟨_,_,rfl⟩,∅,_,h5,by rw[ye];exact yb n,bs++[sp],by rw[yj];rfl,by rw[ye,a4];rfl,λm b' g=>?_⟩;rw[List.getElem?_append]at g;split at g
  ·obtain⟨aj,M,u2,S⟩:=u m b' g;have aa:b'≠D:=λz=>by
    subst z;rw[U]at M;cases M;cases bs with
    | nil=>cases g
    | cons z0 zs=>
     obtain⟨az,w1,_,_⟩:=u 0 z0 rfl;have ab:IsQs H2 (V.ref z0 :: zs.map V.ref) (za2 (zK ds m) (qs.getD m 0) 0 :: [za2 (zK ds m) (qs.getD m 0) 1,za2 (zK ds m) (qs.getD m 0) 2]):=S;obtain⟨⟨a0,w2,w3⟩,_⟩:=ab;cases w2;have Z:H2 z0=some (.tup _):=w3;rw[w1]at Z;cases Z
   exact⟨aj,b5.lst (C.at (l.at M)) aa,u2,LBut.isQs b5 (S.same (l.trans C))⟩
  ·rename_i hm;have e0:m-bs.length=0:=by
    cases e:m-bs.length with
    | zero=>rfl
    | succ k=>rw[e]at g;cases g
   rw[e0]at g;cases g;obtain rfl:m=i:=by lia
   rw[I];exact⟨us,b5.lst ak W,Same.none (Same.none N l) e2,LBut.isQs b5 al⟩
 rintro ai H2 vs ao e2 a6 n ⟨bs,rfl,a4,u⟩;walk_at "x";have ae:=hT.same (e1.trans e2);have a9:SqL K H2 a xs:=(e1.trans e2).seq hS;have ad:=hT.length;refine zR (zS (K:=K) (a:=a) (xs:=xs)) (λH' e=>e.seq a9) rfl (λi vs H'=>IsQs H' vs ((ds.take i).map (za6 ds qs))) (λH' _=>trivial) ?_ ?_
 ·rintro i x D vs o H3 H4 hi hD l U n G C hx;obtain⟨b,d,rfl,a3,hb⟩:=(ae.same (l.trans C)).get hx;have g:H4 b=some (.tup [.int d.p,.int d.q,.int d.r,.int d.a]):=hb;obtain⟨⟨p0,p1,q0,q1,pq,r0,r1,a0,a1⟩,a2⟩:=hd d (ym a3);obtain⟨c,hc⟩:=zP (show d.p.toNat<bs.length by lia);obtain⟨us,M,u2,S⟩:=u _ _ hc;have ul:=S.length;rw[yc,List.length_range]at ul;obtain⟨v,Y⟩:=zP (show d.r.toNat<us.length by lia);obtain⟨e,s,rfl,L,af⟩:=(S.same (l.trans C)).get Y;have J:d.r.toNat<3:=by lia
  have es:s=za2 (zK ds d.p.toNat) (qs.getD d.p.toNat 0) d.r.toNat:=by
   rw[yf,List.getElem?_range J]at L;exact(yk L).symm
  have ap:atI us d.r=some (.ref e):=zbl r0 Y;have ah:H4 c=some (.lst us):=(l.trans C).at M;have O:H4 ai=some (.lst (bs.map V.ref)):=(l.trans C).at a6;obtain⟨lq,a5⟩:=zP (show d.p.toNat<qs.length by lia);have I:qs.getD d.p.toNat 0=lq:=by rw[yn,a5];rfl
  have zs:=znr (f:=zK ds d.p.toNat) (hs lq (ym a5)) (B d.p.toNat) J;rw[<- I,<- es]at zs;have o1:OkQ ((d.a:Int):Rat):=(zcg a0 a1).ok (by decide) (by decide);have o2:OkQ s:=zs.ok (by decide) (by decide);walk_at "x";refine zan (q:=((d.a:Int):Rat)) ⟨rfl,rfl⟩ ?_;intro t H5 e5 ht;have aw:IsQ H5 e s:=e5.at af;have b1:=e5.at ah;have am:=e5.at O;have b0:=e5.at g;walk_at "x";rename_i p H6 e6 ax H7 b7 h7;refine⟨⟨_,rfl⟩,∅,_,h7,by rw[ye];exact yb n,?_⟩;show IsQs H7 _ ((ds.take (i+1)).map (za6 ds qs));rw[zak a3,yj,List.map_singleton,show za6 ds qs d=((d.a:Int):Rat)*s by rw[es];rfl];exact IsQs.app ∅ ∅
 ·rintro D H3 vs hD l U n G;rw[ad,List.take_length]at G;exact k _ _ _ (Same.none (Same.none hD e2) e1) (e1.trans (e2.trans l)) U G
def zsA(T:Txt K mg):T.d_got.Ok P w base 6 (zj6 K):=by
 refine T.d_got.F.okN sc_got (by walk_at "l") λao A outer s H vs Q E hr h=>?_;obtain⟨a,y,ds,ws,qs,rfl,⟨xs,hS,hT⟩,hy,hq,hd,hl,h9,hs,k⟩:=h;have hwl:=hq.length;have au:=hT.length;have ap:IsSh K H a ds:=⟨xs,hS,hT⟩
 have av:∀q∈qs,SzQ q 200 200:=λq h=>(hs q h).2.mono (by decide) (by decide);have ae:=zuB hd hl hs;refine⟨_,(ze (qS1 2 sc_got ["lay"] [none] (zT K (pv 1)) (λ_ _ _ _ _=>(zO zd)))
 (ze (zai PassesOwn.never rfl (zaz K T.z_enumerate (za (qD T.d_paid (zqP (base:=base) T) hr (za (pv 0) (za (pv 1) zd))) zd)) (show PG _ _ (zaT K 2 _)from zat (n:=2) rfl (zy (zD (i:=3) sc_got.nd rfl (Or.inl rfl)) (zy (zD (i:=4) sc_got.nd rfl (Or.inl rfl)) zaj)))
 (zi (zJ (qAp K (qIx K (pv 2) (qIx K (qIx K (pv 0) (pv 3)) zh)) (za (pv 4) zd)))))
 (zi (zp (qC1 ["some"] [none] (zT K (pv 2)) (λ_ _ _ _ _=>(qD T.d_total (zkI (base:=base) T) hr (za (pv 0) zd)))))))),?_⟩
 refine zo (σ0:=[some (.ref a),some (.ref y),none,none,none]) rfl ?_;walk_at "x";refine zR (zS (K:=K) (a:=y) (xs:=ws)) (λH' e=>SqL.of (e.at hy)) rfl (λi vs H'=>∃as:List Addr,vs=as.map V.ref/\as.length=i/\PRows H' as (λ_=>[])/\(∀b∈as,H b=none)/\∀b∈as,H' b=some (.lst [])) (λH' _=>⟨[],rfl,rfl,⟨List.nodup_nil,λi a h=>nomatch h⟩,(λ_ h=>nomatch h),λ_ h=>nomatch h⟩) ?_ ?_
 ·rintro i x D vs o H2 H3 hi hD e2 Z C ⟨as,rfl,R,hR,hF,hE⟩ J hx;walk_at "x";rename_i p W fp f hp H5 L h5;have a5:D∉as:=λz=>by
   have:=hE D z
   rw[Z]at this;cases as with
   | nil=>cases z
   | cons z0 zs=>cases this
  have a4:p≠D:=zbX fp (J.at Z);refine⟨⟨_,rfl⟩,∅,_,h5,by rw[ye];exact yb C,as++[p],by rw[yj];rfl,by rw[ye,R];rfl,PRows.app ((hR.same (J.trans f)).but L a5) ((hR.same J).fresh fp) (L.lst hp a4) rfl,λb hb=>?_,λb hb=>?_⟩
  ·rcases List.mem_append.mp hb with h | h
   ·exact hF b h
   ·rw[yh.mp h];exact Same.none fp (e2.trans J)
  ·rcases List.mem_append.mp hb with h | h
   ·exact L.lst ((J.trans f).at (hE b h)) λz=>a5 (z▸h)
   ·rw[yh.mp h];exact L.lst hp a4
 rintro ga H1 vs aw e1 hga C ⟨as,rfl,R,hR,hF,hE⟩;walk_at "x";rename_i pl H2 us a9 e2 a8 a6;have a3:=a6.length;rw[yc]at a3;have af:pl∉as:=hR.fresh a9;have ag:ga∉as:=λz=>by
  have:=hE ga z
  rw[hga]at this;cases as with
  | nil=>cases z
  | cons z0 zs=>cases this
 refine zb3 (zab (K:=K) (a:=pl) (xs:=us)) (λi σ' H'=>∃f3 f4:Option V,σ'=[some (.ref a),some (.ref y),some (.ref ga),f3,f4]/\H' pl=some (.lst us)/\IsQs H' us (ds.map (za6 ds qs))/\H' ga=some (.lst (as.map V.ref))/\PRows H' as (zbB (ds.take i) (za6 ds qs))/\Same H H') ⟨_,_,rfl,a8,a6,e2.at hga,hR.same e2,e1.trans e2⟩ ?_ ?_ ?_
 ·rintro i σ' H' ⟨_,_,_,h,_⟩;exact SqL.of h
 ·rintro i x σ' H3 W hi ⟨f3,f4,rfl,N,u,B,G,J⟩ f ⟨t,v,rfl,hx,ab⟩;obtain⟨d,M⟩:=zP (show i<ds.length by lia);obtain⟨⟨p0,p1,q0,q1,pq,r0,r1,a0,a1⟩,a2⟩:=hd d (ym M);obtain⟨b,r,rfl,a7,hb⟩:=(u.same f).get hx;have er:r=za6 ds qs d:=by rw[yf,M]at a7;exact(yk a7).symm
  subst er;have ar:W t=some (.tup [.int (i:Int),.ref b]):=ab;obtain⟨c,ad,ai⟩:=(hT.same (J.trans f)).getI M;have aq:W c=some (.tup [.int d.p,.int d.q,.int d.r,.int d.a]):=ai;have al:atI xs (i:Int)=some (.ref c):=zal ad;obtain⟨l,j⟩:=zP (show d.q.toNat<as.length by lia);obtain⟨zs,z1,z2⟩:=(G.same f).2 _ _ j;have an:=z2.length;have X:=zi3 (ds:=ds.take i) (g:=za6 ds qs) (m:=d.q.toNat);rw[List.length_take]at X;have O:=ym j;have fl:=hF l O;have Y:=f.at B;have am:SqL K W a xs:=(J.trans f).seq hS;walk_at "x";rename_i H5 L h5;have aa:pl≠l:=λz=>af (z▸O);have aj:ga≠l:=λz=>ag (z▸O);have R5:=(G.same f).set L j z1 hb h5;refine⟨_,_,rfl,L.lst (f.at N) aa,LBut.isQs L (u.same f),L.lst Y aj,?_,∅⟩;refine⟨R5.1,λm bb ak=>?_⟩;obtain⟨S,w1,w2⟩:=R5.2 m bb ak;refine⟨S,w1,?_⟩;rw[zak M,zg7];by_cases e:d.q=(m:Int)
  ·rw[if_pos e];have I:IsQs H5 S (if m=d.q.toNat then zbB (ds.take i) (za6 ds qs) m++[za6 ds qs d]else zbB (ds.take i) (za6 ds qs) m):=w2;rw[if_pos ⋯]at I;exact I
  ·rw[if_neg e,List.append_nil];have I:IsQs H5 S (if m=d.q.toNat then zbB (ds.take i) (za6 ds qs) m++[za6 ds qs d]else zbB (ds.take i) (za6 ds qs) m):=w2;rw[if_neg ⋯]at I;exact I
 ·rintro σ' H3 ⟨f3,f4,rfl,N,u,B,G,J⟩;rw[a3,List.take_length]at G;walk_at "x";refine zR (zS (K:=K) (a:=ga) (xs:=as.map V.ref)) (λH' e=>SqL.of (e.at B)) rfl (λi vs H'=>IsQs H' vs ((List.range i).map (zdb ds (za6 ds qs)))) (λH' _=>trivial) ?_ ?_
  ·rintro i x D vs o W H5 hi hD f Z C U e5 hx;rw[yc]at hi;obtain⟨l,j⟩:=zP hi;have ex:x=.ref l:=by rw[yf,j]at hx;exact(yk hx).symm
   subst ex;obtain⟨zs,z1,z2⟩:=(G.same (f.trans e5)).2 _ _ j;have hz:∀q∈zbB ds (za6 ds qs) i,SzQ q 240 82:=λq h=>by
    obtain⟨d,ac,e⟩:=zoE h;rw[e];exact ae d ac
   have o1:∀q∈zbB ds (za6 ds qs) i,OkQ q:=λq h=>(hz q h).ok (by decide) (by decide);have o2:=zlR (c:=64) (by decide) hz (ya zi3 hl) (by decide) (by decide);walk_at "x";rename_i p H6 e6 ah H7 b7 h7;refine⟨⟨_,rfl⟩,∅,_,h7,by rw[ye];exact yb C,?_⟩;show IsQs H7 _ ((List.range (i+1)).map (zdb ds (za6 ds qs)));rw[List.range_succ,yj,List.map_singleton];exact IsQs.app (LBut.isQ b7 ah) ∅
  ·rintro D W vs hD f Z C U;rw[yc,R,hwl]at U;exact k D W vs (Same.none hD J) (J.trans f) Z U
def zmD(T:Txt K mg):T.d_ends_by.Ok P w base 7 (zrw K):=by
 refine T.d_ends_by.F.okN zhK (by walk_at "l") λaj A outer s H vs Q E hr h=>?_;obtain⟨a,u,y,Y,b,z,ws,rfl,a6,hu,hy,B,S,sY,Y9,z0,z9,k⟩:=h;obtain⟨qs,eq⟩:∃qs,qs=(List.range 2).map (r2 b):=⟨_,rfl⟩
 obtain⟨ds,c⟩:∃ds,ds=due1 Y:=⟨_,rfl⟩
 rw[<- eq]at B;rw[<- c]at a6;have a5:qs.length=2:=by rw[eq];rfl
 have hwl:=B.length;have hd:∀d∈ds,zaM (qs.length:Int) d/\d.a<=1000000000000:=λd hd=>by
  rw[c]at hd;rw[a5];exact⟨zcL ⋯ Y9 d hd,by rw[yh.mp hd];show Y<=_;lia⟩
 have hl:ds.length<=64:=by rw[c];show 1<=64;decide
 have hs:∀q∈qs,zmB q:=λq B=>by
  rw[eq]at B;obtain⟨i,_,rfl⟩:=List.mem_map.mp B;unfold r2;split
  ·exact⟨by exact_mod_cast S,ya (zW (i:=b) (n:=20) ⋯) (by decide),ya zbF (by decide)⟩
  ·exact⟨Rat.le_refl,ya (zW (i:=0) (n:=0) (by decide)) (by decide),ya zbF (by decide)⟩
 have ag:qs.length<=9:=by lia
 refine⟨_,(ze (zu 3 zhK (qD T.d_got (zsA (base:=base) T) hr (za (pv 0) (za (pv 2) zd))))
 (zi (zp (qC2 K ["member", "purse", "gains", "lays"] [none,none,some 3,some 2] (zaz K T.z_enumerate (za (pv 1) zd)) (λ_ _ _ _ _=>(qD T.d_minus (zdw (base:=base) T) hr (za (qD T.d_plus (zem (base:=base) T) hr (za (zM (za (pv 1) (za zh zd))) (za (qIx K (pv 2) (pv 0)) zd))) (za (qIx K (pv 3) (pv 0)) zd)))))))),?_⟩
 refine zo (σ0:=[some (.ref a),some (.ref u),some (.ref y),none]) rfl ?_;walk_at "x";rename_i ga H2 us an e2 hga N;have a2:=N.length;rw[yc,List.length_range]at a2;have a3:=e2.at hu;have C:∀i,zdb ds (za6 ds qs) i=if i=1 then((b:Int):Rat)else 0:=λi=>by rw[c,eq,got1,pay1 S sY]
 refine zas (zab (K:=K) (a:=u) (xs:=[b,z].map V.int)) (λH' e=>SqL.of (e.at a3)) rfl (λi vs H'=>IsQs H' vs ((zce [0,z+b]).take i)) (λH' _=>trivial) ?_ ?_
 ·rintro i x D vs o o' H3 H4 hi hD j hv J a1 m ⟨t,v,rfl,hx,ht⟩;have a7:i<2:=hi;obtain⟨p,q,Z,U,am,a4,G⟩:∃(p:Int) (q:Int),([b,z].map V.int)[i]?=some (.int p)/\0<=p/\p<=1000000/\(zce [0,z+b])[i]?=some ((q:Int):Rat)/\((p:Int):Rat)+(if i=1 then((b:Int):Rat)else 0)-r2 b i=((q:Int):Rat):=by
   rcases(show i=0\/i=1 by lia)with rfl | rfl
   ·exact⟨b,0,rfl,S,⋯,rfl,by rw[if_neg (by decide)];show((b:Int):Rat)+0-((b:Int):Rat)=0;grind⟩
   ·exact⟨z,z+b,rfl,z0,z9,rfl,by rw[if_pos rfl];show((z:Int):Rat)+((b:Int):Rat)-0=((z+b:Int):Rat);rw[Rat.intCast_add];grind⟩
  rw[Z]at hx;cases hx;have a9:H4 t=some (.tup [.int (i:Int),.int p]):=ht;obtain⟨v,I⟩:=zP (show i<us.length by lia);obtain⟨g,r,rfl,R,hg⟩:=(N.same (j.trans m)).get I;have ab:atI us (i:Int)=some (.ref g):=zal I;have er:r=zdb ds (za6 ds qs) i:=by rw[yf,List.getElem?_range ⋯]at R;exact(yk R).symm
  rw[C]at er;subst er;have L:H4 ga=some (.lst us):=(j.trans m).at hga;obtain⟨v,O⟩:=zP (show i<ws.length by lia);obtain⟨gl,ql,rfl,f,X⟩:=(B.same (e2.trans (j.trans m))).get O;have ae:atI ws (i:Int)=some (.ref gl):=zal O;have a0:=(e2.trans (j.trans m)).at hy;have a8:ql=r2 b i:=by
   rw[eq,yf,List.getElem?_range a7]at f;exact(yk f).symm
  subst a8;have o1:OkQ ((p:Int):Rat):=(zcg U ⋯).ok (by decide) (by decide);have oS:OkQ ((b:Int):Rat):=(zcg S ⋯).ok (by decide) (by decide);have o2:OkQ (if i=1 then((b:Int):Rat)else 0):=by split;exact oS;exact zfM
  have oL:OkQ (r2 b i):=by unfold r2;split;exact oS;exact zfM
  have o3:OkQ (((p:Int):Rat)+(if i=1 then((b:Int):Rat)else 0)):=by
   split
   ·rw[<- Rat.intCast_add];exact(zcg ⋯ ⋯).ok (by decide) (by decide)
   ·rw[Rat.add_zero];exact o1
  generalize (if i=1 then((b:Int):Rat)else 0)=gq at *
  walk_at "x";refine zan (q:=((p:Int):Rat)) ⟨rfl,rfl⟩ ?_;intro t2 H6 l ai;have ac:=l.at L;have ah:=l.at a9;have ak:IsQ H6 g gq:=l.at hg;have ad:IsQ H6 gl (r2 b i):=l.at X;have af:=l.at a0;walk_at "x";rename_i p1 H7 e7 al p2 H8 e8 M H9 W aa;rw[G]at M;refine⟨⟨_,_,rfl⟩,W.same ((((j.trans m).trans l).trans e7).trans e8) hD,_,aa,by rw[ye];exact yb J,?_⟩;show IsQs H9 _ ((zce [0,z+b]).take (i+1));rw[zak a4];exact IsQs.app (LBut.isQ W M) (LBut.isQs W (a1.same (((m.trans l).trans e7).trans e8)))
 ·rintro D H3 vs hD j hv J hQ;exact k D H3 vs (Same.none hD e2) (e2.trans j) hv hQ
def zre(T:Txt K mg):T.d_nets.Ok P w base 1 (zkb K):=by
 refine T.d_nets.F.okN sc_nets (by walk_at "l") λJ A outer s H vs Q E hr h=>?_;obtain⟨n,a,ds,rfl,⟨xs,C,B⟩,W,n1,hd,k⟩:=h;refine⟨_,(ze (zu 2 sc_nets (zw zaq (zO (za zh zd)) (pv 0)))
 (ze (zai PassesOwn.never rfl (zT K (pv 1)) (show PG _ _ (zaT K 4 _)from zat (n:=4) rfl (zy (zD (i:=3) sc_nets.nd rfl (Or.inl rfl)) (zy (zD (i:=4) sc_nets.nd rfl (Or.inl rfl)) (zy (zD (i:=5) sc_nets.nd rfl (Or.inl rfl)) (zy (zD (i:=6) sc_nets.nd rfl (Or.inl rfl)) zaj)))))
 (ze (zaW (pv 2) (pv 3) (show zbK _ (zbe K)from zaB) (pv 6) zc8 zaf)
 (zi (zaW (pv 2) (pv 4) (show zbK _ (zbe K)from zaB) (pv 6) zb6 zaf))))
 (zi (zp (pv 2))))),?_⟩
 refine zo (σ0:=[some (.int n),some (.ref a),none,none,none,none,none]) rfl ?_;walk_at "x";rename_i l H2 S e2 M;refine zbh (xs:=xs) (λi j H'=>∃o u z y,j=[some (.int n),some (.ref a),some (.ref l),o,u,z,y]/\H' l=some (.lst ((vec n.toNat (zcS (ds.take i))).map V.int))/\Same H H') ?_ ?_ ?_ ?_
 ·exact⟨_,_,_,_,rfl,M,∅⟩
 ·rintro i j H' _ ⟨_,_,_,_,_,_,e⟩;exact e.seq C
 ·rintro i x j I G ⟨o,u,z,y,rfl,c,v⟩;obtain⟨b,d,rfl,f,N⟩:=(B.same v).get G;have D:I b=some (.tup [.int d.p,.int d.q,.int d.r,.int d.a]):=N;obtain⟨p0,p1,Z,q1,Y,X,r1,a0,a1⟩:=hd d (ym f);walk_at "x";rename_i O b5 R H6 U L;refine⟨_,_,_,_,rfl,?_,∅⟩;rw[L,zak f];congr 3;refine zcX λm hm=>?_;unfold zcS;rw[zg3,zkC];by_cases e:d.p=m
  ·have:¬d.q=m:=by lia
   rw[if_pos e,if_neg this,if_neg ⋯,if_pos ⋯];have g:d.p.toNat=m:=by lia
   rw[g];lia
  ·by_cases g:d.q=m
   ·rw[if_neg e,if_pos g,if_pos ⋯,if_neg ⋯];have t:d.q.toNat=m:=by lia
    rw[t];lia
   ·rw[if_neg e,if_neg g,if_neg ⋯,if_neg ⋯]
 ·rintro j H3 ⟨o,u,z,y,rfl,c,v⟩;rw[B.length,List.take_length]at c;walk_at "x";exact k _ _ ∅ v c
def zmT(T:Txt K mg):T.d_gaps_of.Ok P w base 2 (zkh K):=by
 refine T.d_gaps_of.F.okN zgP (by walk_at "l") λz A outer s H vs Q E M h=>?_;obtain⟨a,b,ds,n,pf,rfl,U,r,N,hd,k⟩:=h;have c:((vec n pf).map V.int).length=n:=by rw[yc,zI]
 have B:∀d∈ds,zaM (((vec n pf).map V.int).length:Int) d:=by rw[c];exact hd
 refine⟨_,(ze (zu 2 zgP (qD T.d_nets (zre (base:=base) T) M (za (za5 K T.z_len (za (pv 1) zd)) (za (pv 0) zd))))
 (zi (zp (qC2 K ["member", "purse", "sums"] [none,none,some 2] (zaz K T.z_enumerate (za (pv 1) zd)) (λ_ _ _ _ _=>(zaS (znL rfl) rfl T.z_max BT.max (za zh (za (zw zbi (zbY zbk (qIx K (pv 2) (pv 0))) (pv 1)) zd)))))))),?_⟩
 refine zo (σ0:=[some (.ref a),some (.ref b),none]) rfl ?_;walk_at "x";rename_i l H1 O e1 L;rw[Int.toNat_natCast,c]at L;have j:=e1.seq r;refine zas (zab (K:=K) (a:=b) (xs:=(vec n pf).map V.int)) (λH' e=>e.seq j) rfl (λi vs _=>vs=(vec i (zez ds pf)).map V.int) (λH' _=>rfl) ?_ ?_
 ·rintro i x D vs o o' q y hi J u m g rfl W ⟨t,v,rfl,p,I⟩;have f:i<n:=by lia
  rw[yf,zap f]at p;cases p;have G:y l=some (.lst ((vec n (zcS ds)).map V.int)):=by walk_at "h"
  walk_at "x";rename_i S R C;exact CompN.int ⟨_,_,rfl⟩ ∅ C (by rw[Int.toNat_natCast];rfl)
 ·rintro D q vs J u m g rfl;rw[c]at m;exact k D q ∅ ∅ m
def zrG(T:Txt K mg):T.d_owes.Ok P w base 1 (zko K):=by
 refine T.d_owes.F.okN sc_owes (by walk_at "l") λI A outer s H vs Q E hr h=>?_;obtain⟨n,a,ds,rfl,⟨xs,B,y⟩,O,n1,hd,k⟩:=h;refine⟨_,(ze (zu 2 sc_owes (zw zaq (zO (za zh zd)) (pv 0)))
 (ze (zai PassesOwn.never rfl (zT K (pv 1)) (show PG _ _ (zaT K 4 _)from zat (n:=4) rfl (zy (zD (i:=3) sc_owes.nd rfl (Or.inl rfl)) (zy (zD (i:=4) sc_owes.nd rfl (Or.inl rfl)) (zy (zD (i:=5) sc_owes.nd rfl (Or.inl rfl)) (zy (zD (i:=6) sc_owes.nd rfl (Or.inl rfl)) zaj)))))
 (zi (zaW (pv 2) (pv 3) (show zbK _ (zbe K)from zaB) (pv 6) zb6 zaf)))
 (zi (zp (pv 2))))),?_⟩
 refine zo (σ0:=[some (.int n),some (.ref a),none,none,none,none,none]) rfl ?_;walk_at "x";rename_i l H2 N e2 J;refine zbh (xs:=xs) (λi g H'=>∃j o v u,g=[some (.int n),some (.ref a),some (.ref l),j,o,v,u]/\H' l=some (.lst ((vec n.toNat (zbS (ds.take i))).map V.int))/\Same H H') ?_ ?_ ?_ ?_
 ·exact⟨_,_,_,_,rfl,J,∅⟩
 ·rintro i g H' _ ⟨_,_,_,_,_,_,e⟩;exact e.seq B
 ·rintro i x g G D ⟨j,o,v,u,rfl,c,t⟩;obtain⟨b,d,rfl,f,L⟩:=(y.same t).get D;have C:G b=some (.tup [.int d.p,.int d.q,.int d.r,.int d.a]):=L;obtain⟨p0,p1,U,q1,S,R,W,Z,a1⟩:=hd d (ym f);walk_at "x";rename_i M X z;refine⟨_,_,_,_,rfl,?_,∅⟩;rw[z,zak f];congr 3;refine zcX λm hm=>?_;rw[zg3];by_cases e:d.p=m
  ·rw[if_pos e,if_pos ⋯];congr 2;lia
  ·rw[if_neg e,if_neg ⋯]
 ·rintro g Y ⟨j,o,v,u,rfl,c,t⟩;rw[y.length,List.take_length]at c;walk_at "x";exact k _ _ ∅ t c
def zmH(T:Txt K mg):T.d_outs_of.Ok P w base 2 (zrt K):=by
 refine T.d_outs_of.F.okN zhG (by walk_at "l") λa5 A outer s H vs Q E hr h=>?_;obtain⟨a,y,Y,G,O,rfl,hS,hy,hq,s0,sY,Y9,k⟩:=h;have hwl:O.length=2:=hq.length;obtain⟨ds,f⟩:∃ds,ds=due1 Y:=⟨_,rfl⟩
 rw[<- f]at hS;have a4:∀d∈ds,zaM (O.length:Int) d:=by rw[f,hwl];exact zcL ⋯ Y9
 refine⟨_,(ze (zu 2 zhG (qD T.d_owes (zrG (base:=base) T) hr (za (za5 K T.z_len (za (pv 1) zd)) (za (pv 0) zd))))
 (zi (zp (zeo rfl (zaz K T.z_enumerate (za (pv 1) zd)) (zam (Ni:=["member", "lay", "owed"]) (caps:=[none,none,some 2]) (by rfl)) (λS _ _ _ _ _=>(show PG _ _ (zaT K 2 _)from zat (n:=2) rfl (zy (zag (gi:=0) S (Or.inl rfl) rfl) (zy (zag (gi:=1) S (Or.inl rfl) rfl) zaj)))) (λ_ _ _ _ _=>(zdC (zcd K (qD T.d_under (zeH (base:=base) T) hr (za (pv 1) (za (zM (za (qIx K (pv 2) (pv 0)) (za zh zd))) zd)))))) (λ_ _ _ _ _=>(pv 0)))))),?_⟩
 refine zo (σ0:=[some (.ref a),some (.ref y),none]) rfl ?_;walk_at "x";rename_i ow H1 a2 e1 B;rw[hwl,f,show((2:Nat):Int).toNat=2 from rfl,owes1]at B;have J:=e1.at hy;refine zas (zab (K:=K) (a:=y) (xs:=O)) (λH' e=>SqL.of (e.at J)) rfl (λi vs _=>vs=if i=0 then[] else[.int 0]) (λH' _=>rfl) ?_ ?_
 ·rintro i x D vs o o' H3 U hi hD m r p b l ⟨t,v,rfl,hx,M⟩;have Z:i<2:=by lia
  obtain⟨g,q,rfl,u,hg⟩:=(hq.same (e1.trans (m.trans l))).get hx;rw[yf,List.getElem?_range Z]at u;obtain rfl:=yk u;have C:U t=some (.tup [.int (i:Int),.ref g]):=M;have a0:=(m.trans l).at B;have N:=l.at r;have zs:SzQ ((G:Int):Rat) 60000 60000:=(zcR (zW (n:=20) ⋯)).mono (by decide) (by decide);have zY:SzQ ((Y:Int):Rat) 60000 60000:=(zcR (zW (n:=20) ⋯)).mono (by decide) (by decide);have z0:SzQ (0:Rat) 60000 60000:=zhv;have a1:SzQ (((0:Int)):Rat) 60000 60000:=zhv
  rcases(show i=0\/i=1 by lia)with rfl | rfl
  ·have I:atI ([Y,0].map V.int) ((0:Nat):Int)=some (.int Y):=rfl;have j:IsQ U g ((G:Int):Rat):=hg;rw[if_pos rfl]at b;subst b;walk_at "x";refine zan (q:=((Y:Int):Rat)) ⟨rfl,rfl⟩ ?_;intro t2 W c R;have X:IsQ W g ((G:Int):Rat):=c.at j;have L:=c.at C;have a3:=c.at N;have z:((G:Int):Rat)<((Y:Int):Rat):=by exact_mod_cast sY
   walk_at "x";rename_i H7 b7 h7;exact⟨⟨_,_,rfl⟩,b7.same ((m.trans l).trans c) hD,_,h7,yb (Nat.zero_le _),rfl⟩
  ·have I:atI ([Y,0].map V.int) ((1:Nat):Int)=some (.int 0):=rfl;have j:IsQ U g 0:=hg;rw[if_neg (by decide)]at b;subst b;walk_at "x";refine zan (q:=((0:Int):Rat)) ⟨rfl,rfl⟩ ?_;intro t2 W c R;have X:IsQ W g 0:=c.at j;have L:=c.at C;walk_at "x"
   ·rename_i z H7 b7 h7;exact absurd z (by decide)
   ·exact⟨⟨_,_,rfl⟩,(m.trans l).trans c,_,(l.trans c).at r,Nat.le_succ_of_le p,rfl⟩
 ·rintro D H3 vs hD m r p rfl;rw[hwl]at r;exact k D H3 (Same.none hD e1) (e1.trans m) r
def zed(T:Txt K mg):T.d_check_coins.Ok P w base 1 (zgL K T.c_TooMuch):=by
 refine T.d_check_coins.F.okX zit (λvs H Q E h=>?_) (λb A outer s H vs Q E e h=>?_)
 ·obtain⟨c,a,ns,rfl,_⟩:=h;rfl
 obtain⟨c,a,ns,rfl,d,k⟩:=h;refine⟨_,(zi (zG (zm zbo (pv 0) (zbZ K T.z_sum (za (pv 1) zd)) (nomark _))
 (zi (zad rfl rfl T.m_TooMuch (errOk.own T.e_TooMuch) (za zH zd) zax))
 zA)),?_⟩
 refine zo (σ0:=[some (.int c),some (.ref a)]) rfl ?_;walk_at "x"
 ·rename_i h;rcases k with⟨h1,_⟩ | ⟨_,k⟩
  ·lia
  ·exact⟨by decide,k⟩
 ·rename_i h;rcases k with⟨_,k⟩ | ⟨h1,_⟩
  ·exact k
  ·lia
def zdo(T:Txt K mg):T.d_with_one_more.Ok P w base 1 (zkM K):=by
 refine T.d_with_one_more.F.okN sc_with_one_more (by walk_at "l") λI A outer s H vs Q E W h=>?_;obtain⟨a,b,n,x,ch,L,rfl,G,u,R,k⟩:=h;refine⟨_,(ze (zu 3 sc_with_one_more (zO zd))
 (ze (zu 4 sc_with_one_more (pv 2))
 (ze (zai PassesOwn.never rfl (zaz K T.z_enumerate (za (pv 0) zd)) (show PG _ _ (zaT K 2 _)from zat (n:=2) rfl (zy (zD (i:=5) sc_with_one_more.nd rfl (Or.inl rfl)) (zy (zD (i:=6) sc_with_one_more.nd rfl (Or.inl rfl)) zaj)))
 (zi (zG (PW.pt (zbL (zcd K (qIx K (pv 1) (pv 5))) (zby (zm zbo (pv 4) zh (nomark _)))))
 (ze (zJ (qAp K (pv 3) (za (zw (zaw K) (pv 6) zh) zd)))
 (zi (zkc (i:=4) sc_with_one_more.nd rfl (Or.inl rfl) zh zc8)))
 (zi (zJ (qAp K (pv 3) (za (pv 6) zd)))))))
 (zi (zp (pv 3)))))),?_⟩
 refine zo (σ0:=[some (.ref a),some (.ref b),some (.int L),none,none,none,none]) rfl ?_;walk_at "x";rename_i l H1 S e1 M;refine zb3 (zab (K:=K) (a:=a) (xs:=(vec n x).map V.int)) (λi g H'=>∃o m,g=[some (.ref a),some (.ref b),some (.int L),some (.ref l),some (.int (My.rest ch L i)),o,m]/\H' l=some (.lst ((vec i (My.more ch x L)).map V.int))/\Same H H') ?_ ?_ ?_ ?_
 ·exact⟨_,_,rfl,M,e1⟩
 ·rintro i g H' ⟨_,_,_,_,e⟩;exact e.seq G
 ·rintro i y g D U hi ⟨o,m,rfl,c,j⟩ N ⟨t,v,rfl,r,O⟩;have f:i<n:=by simpa[zI]using hi
  have J:((vec i (My.more ch x L)).map V.int).length<=100000:=by rw[yc,zI];lia
  rw[yf,zap f]at r;cases r;have B:atI (bls n ch) (i:Int)=some (.bl (ch i)):=zal (zfW f);have C:=(j.trans N).seq u;have er:My.rest ch L (i+1)=if ch i=true/\My.rest ch L i>0 then My.rest ch L i-1 else My.rest ch L i:=rfl
  have em:My.more ch x L i=if ch i=true/\My.rest ch L i>0 then x i+1 else x i:=rfl
  walk_at "x"
  ·rename_i h1 h2 p q d;rw[if_pos ⟨h1,h2⟩]at er em;rw[er];refine⟨_,_,rfl,?_,∅⟩;rw[d,zav,yj,em];rfl
  ·rename_i h1 h2 p q d;rw[if_neg (λz=>h2 z.2)]at er em;rw[er];refine⟨_,_,rfl,?_,∅⟩;rw[d,zav,yj,em];rfl
  ·rename_i h1 p q d;rw[if_neg (λz=>by rw[h1]at z;cases z.1)]at er em;rw[er];refine⟨_,_,rfl,?_,∅⟩;rw[d,zav,yj,em];rfl
 ·rintro g D ⟨o,m,rfl,c,j⟩;rw[yc,zI]at c;walk_at "x";exact k _ _ ∅ j c
def zdz(T:Txt K mg):T.d_by_shares.Ok P w base 2 (zof K T.c_TooMuch):=by
 refine T.d_by_shares.F.okX zcB (λvs H Q E h=>?_) (λS A outer s H vs Q E y h=>?_)
 ·obtain⟨c,a,n,b,rfl,_⟩:=h;rfl
 obtain⟨c,a,n,b,rfl,t,hn,z,L,k⟩:=h;have h0:=My.sumTo_nonneg λi hi=>(z i hi).1;have j:=zdF b n;have g:((vec n b).map V.int).length=n:=by rw[yc,zI]
 have Z:sz (zah (vec n b))<=9000:=by rw[j];lia
 refine⟨_,(ze (zJ (qE T.d_check_coins (zed (base:=base) T) y (za (pv 0) (za (pv 1) zd))))
 (ze (zu 2 zcB (zbZ K T.z_sum (za (pv 1) zd)))
 (ze (zG (zm (qEq K y.units) (pv 2) zh (nomark _))
 (zi (zp (qC1 ["bound"] [none] (zT K (pv 1)) (λ_ _ _ _ _=>zh))))
 zA)
 (ze (qS1 3 zcB ["bound", "coins", "together"] [none,some 0,some 2] (zT K (pv 1)) (λ_ _ _ _ _=>(zw zaX (zw zaq (pv 1) (pv 0)) (pv 2))))
 (ze (qS1 4 zcB ["bound", "coins", "together"] [none,some 0,some 2] (zT K (pv 1)) (λ_ _ _ _ _=>(zbz zbo (zw zbV (zw zaq (pv 1) (pv 0)) (pv 2)) zh (nomark _))))
 (zi (zp (qD T.d_with_one_more (zdo (base:=base) T) y (za (pv 3) (za (pv 4) (za (zw zbi (pv 0) (zbZ K T.z_sum (za (pv 3) zd))) zd))))))))))),?_⟩
 refine zo (σ0:=[some (.int c),some (.ref a),none,none,none]) rfl ?_;rcases k with⟨hc,k⟩ | ⟨hc,k⟩
 case inr=>
  walk_at "x";exact⟨_,_,_,rfl,t,.inr ⟨by rw[j];exact hc,k⟩⟩
 have G:c<=zah (vec n b):=by rw[j];exact hc.2
 have zc:sz c<=300:=ya (zfV ⋯) L;walk_at "x"
 ·rename_i m p H1 fp e1 hp;rw[g]at hp;refine k p H1 fp e1 ?_;rw[zlc (by rw[<- j];exact m)];exact hp
 ·rename_i m;have B:0<zah (vec n b):=by lia
  have W:=zmG (c:=c) (n:=n) (b:=b) (by rw[<- j];exact m);refine zR (zS (K:=K) (a:=a) (xs:=(vec n b).map V.int)) (λH' e=>e.seq t) rfl (λi vs _=>vs=(vec i λi=>c*b i/zah (vec n b)).map V.int) (λH' _=>rfl) ?_ ?_
  ·rintro i x D vs o I r hi U C X f rfl J l;have d:i<n:=by lia
   rw[yf,zap d]at l;cases l;have Y:=(z i d).2;walk_at "x";rename_i R M u;exact CompN.int ⟨_,rfl⟩ ∅ u rfl
  rintro bo H2 vs N e2 q f rfl;rw[g]at q;walk_at "x";refine zR (zS (K:=K) (a:=a) (xs:=(vec n b).map V.int)) (λH' e=>e.seq (e2.seq t)) rfl (λi vs _=>vs=bls i λi=>decide (c*b i%zah (vec n b)>0)) (λH' _=>rfl) ?_ ?_
  ·rintro i x D vs o I r hi U C X f rfl J l;have d:i<n:=by lia
   rw[yf,zap d]at l;cases l;have Y:=(z i d).2;walk_at "x";rename_i R M u;exact⟨⟨_,rfl⟩,∅,_,u,by rw[ye];exact yb f,by show _=bls (i+1) _;rw[zgr]⟩
  rintro br I vs O C v f rfl;rw[g]at v;walk_at "x";rename_i p r fp J hp;refine k p r ∅ ∅ ?_;rw[W,hp,j,zdF]
def zk8(T:Txt K mg):T.d_level_of.Ok P w base 1 zii:=by
 refine T.d_level_of.F.okN zkP (λvs H Q E h=>h.elim) (λa A outer s H vs Q E b h=>h.elim)
def zgc(T:Txt K mg):T.d_by_level.Ok P w base 2 (zoT K T.c_TooMuch):=by
 refine T.d_by_level.F.okX zcT (λvs H Q E h=>?_) (λf A outer s H vs Q E b h=>?_)
 ·obtain⟨c,a,ns,rfl,_⟩:=h;rfl
 obtain⟨c,a,ns,rfl,e,k⟩:=h;refine⟨_,(ze (zJ (qE T.d_check_coins (zed (base:=base) T) b (za (pv 0) (za (pv 1) zd))))
 (ze (zG (zm (qEq K b.units) (pv 0) (zbZ K T.z_sum (za (pv 1) zd)) (nomark _))
 (zi (zp (zgp K T.z_list (za (pv 1) zd))))
 zA)
 (ze (zu 2 zcT (qD T.d_level_of (zk8 (base:=base) T) b (za (pv 0) (za (pv 1) zd))))
 (ze (qS1 3 zcT ["bound", "level"] [none,some 2] (zT K (pv 1)) (λ_ _ _ _ _=>(zaS (zc6 rfl) rfl T.z_min BT.min (za (pv 0) (za (pv 1) zd)))))
 (ze (qS1 4 zcT ["bound", "level"] [none,some 2] (zT K (pv 1)) (λ_ _ _ _ _=>(zbz zbo (pv 0) (pv 1) (nomark _))))
 (zi (zp (qD T.d_with_one_more (zdo (base:=base) T) b (za (pv 3) (za (pv 4) (za (zw zbi (pv 0) (zbZ K T.z_sum (za (pv 3) zd))) zd))))))))))),?_⟩
 refine zo (σ0:=[some (.int c),some (.ref a),none,none,none]) rfl ?_;rcases k with⟨hc,k⟩ | ⟨hc,k⟩
 case inr=>
  walk_at "x";exact⟨_,_,_,rfl,e,.inr ⟨hc,k⟩⟩
 have d:c<=zah ns:=by lia
 walk_at "x";rename_i p H1 fp e1 h1;exact k p H1 fp e1 h1
def zer(T:Txt K mg):T.d_check_order.Ok P w base 1 (znO K T.c_NoLayer):=by
 refine T.d_check_order.F.okX sc_check_order (λvs H Q E h=>?_) (λL A outer s H vs Q E U h=>?_)
 ·obtain⟨o,ws,rfl,_⟩:=h;rfl
 obtain⟨o,ws,rfl,r,S,k⟩:=h;have B:=T.q_WORDS;refine⟨_,(zi (zai PassesOwn.leaving rfl (zaz K T.z_enumerate (za (pv 0) zd)) (show PG _ _ (zaT K 2 _)from zat (n:=2) rfl (zy (zD (i:=1) sc_check_order.nd rfl (Or.inl rfl)) (zy (zD (i:=2) sc_check_order.nd rfl (Or.inl rfl)) zaj)))
 (zi (zG (PW.pt (zbT (zm (show OpR _ (compareOp .NotIn) (rIn K true)from zcv) (pv 2) (zC (v:=.ref T.a_WORDS) rfl T.g_WORDS rfl) (by with_unfolding_all rfl)) (zbm (zm (show OpR _ (compareOp .In) (rIn K false)from zdW) (pv 2) (zbu (show SlR _ (zeM K)from zd8) (pv 0) zbQ (zbW (pv 1))) (by with_unfolding_all rfl)))))
 (zi (zad rfl rfl T.m_NoLayer (errOk.own T.e_NoLayer) (za zH zd) zax))
 zA)))),?_⟩
 refine zo (σ0:=[some (.ref o),none,none]) rfl ?_;walk_at "x";refine zb3 (zab (K:=K) (a:=o) (xs:=ws.map V.str)) (λi m H'=>∃p q:Option V,m=[some (.ref o),p,q]/\Same H H'/\OkO (ws.take i)) ⟨_,_,rfl,Same.refl _,by rw[List.take_zero];exact⟨(λ_ z=>nomatch z),List.nodup_nil⟩⟩ ?_ ?_ ?_
 ·rintro i m H' ⟨_,_,_,e,_⟩;exact e.seq r
 ·rintro i y m R u hi ⟨p,q,rfl,J,g⟩ D ⟨t,v,rfl,b,I⟩;obtain⟨w,d,rfl⟩:=zrE b;have c:Same H u:=J.trans D;have G:=c.seq r;have M:u t=some (.tup [.int (i:Int),.str w]):=I;have bad:¬(w∈words5/\w∉ws.take i)->¬OkO ws:=λz b=>z ⟨b.1 w (ym d),zpi b.2 d⟩;walk_at "x";refine zj9 (ws:=words5) (B _) ?_;by_cases l:w∈words5
  ·rw[decide_eq_true l];walk_at "x";rename_i O N C x f;rw[zjX,<- List.map_take]at f;refine ztx (ws:=ws.take i) (SqL.of f) ?_;by_cases j:w∈ws.take i
   ·rw[decide_eq_true j];walk_at "x";rcases k with⟨b,_⟩ | ⟨_,k⟩
    ·exact absurd b (bad λz=>z.2 j)
    ·exact⟨by decide,k _ (c.trans x)⟩
   ·rw[decide_eq_false j];walk_at "x";refine⟨_,_,rfl,c.trans x,?_⟩;rw[List.take_succ,d];exact zp0 g l j
  ·rw[decide_eq_false l];walk_at "x";rcases k with⟨b,_⟩ | ⟨_,k⟩
   ·exact absurd b (bad λz=>l z.1)
   ·exact⟨by decide,k _ c⟩
 ·rintro m H1 ⟨p,q,rfl,e1,g⟩;rw[yc,List.take_length]at g;walk_at "x";rcases k with⟨_,k⟩ | ⟨b,_⟩
  ·exact k _ e1
  ·exact absurd g b
def zk5(T:Txt K mg):T.d_borne_in.Ok P w base 3 (zoO K):=by
 refine T.d_borne_in.F.okN sc_borne_in (by walk_at "l") λm A outer s H vs Q E a h=>?_;obtain⟨w,r,p,sh,l,e,rfl,v,k⟩:=h;have h1:¬w = "pledge" := by rw[e];decide +kernel
 have h2:¬w = "share" := by rw[e];decide +kernel
 refine⟨_,(ze (zG (zm (qEq K a.units) (pv 0) zH (nomark _))
 (zi (zp (zw (zaw K) (qC2 K ["member", "rest", "pledges"] [none,none,some 2] (zaz K T.z_enumerate (za (pv 1) zd)) (λ_ _ _ _ _=>(zaS (zc6 rfl) rfl T.z_min BT.min (za (pv 1) (za (qIx K (pv 2) (pv 0)) zd))))) (zO (za zh zd)))))
 zA)
 (ze (zG (zm (qEq K a.units) (pv 0) zH (nomark _))
 (zi (zp (zw (zaw K) (qC2 K ["member", "rest", "shares"] [none,none,some 3] (zaz K T.z_enumerate (za (pv 1) zd)) (λ_ _ _ _ _=>(zaS (zc6 rfl) rfl T.z_min BT.min (za (pv 1) (za (qIx K (pv 2) (pv 0)) zd))))) (zO (za zh zd)))))
 zA)
 (ze (zG (zm (qEq K a.units) (pv 0) zH (nomark _))
 (zi (zp (zw (zaw K) (qC1 ["rest"] [none] (zT K (pv 1)) (λ_ _ _ _ _=>zh)) (zO (za (zaS (zc6 rfl) rfl T.z_min BT.min (za (pv 4) (za (zbZ K T.z_sum (za (pv 1) zd)) zd))) zd)))))
 zA)
 (ze (zcj (i:=6) sc_borne_in.nd rfl rfl rfl (zaz K T.z_enumerate (za (pv 3) zd)) (zam (Ni:=["member", "share", "whole"]) (caps:=[none,none,some 5]) (by rfl)) (λS _ _ _ _ _=>(show PG _ _ (zaT K 2 _)from zat (n:=2) rfl (zy (zag (gi:=0) S (Or.inl rfl) rfl) (zy (zag (gi:=1) S (Or.inl rfl) rfl) zaj)))) (λ_ _ _ _ _=>zel) (λ_ _ _ _ _=>(zbJ (zcd K (qIx K (pv 2) (pv 0))) (pv 1) zh)))
 (ze (zu 7 sc_borne_in (zaS (zc6 rfl) rfl T.z_min BT.min (za (zbZ K T.z_sum (za (pv 6) zd)) (za (zbZ K T.z_sum (za (pv 1) zd)) zd))))
 (ze (zG (zm (qEq K a.units) (pv 0) zH (nomark _))
 (zi (zp (zw (zaw K) (qD T.d_by_shares (zdz (base:=base) T) a (za (pv 7) (za (pv 6) zd))) (zO (za zh zd)))))
 zA)
 (zi (zp (zw (zaw K) (qD T.d_by_level (zgc (base:=base) T) a (za (pv 7) (za (pv 6) zd))) (zO (za zh zd))))))))))),?_⟩
 refine zo (σ0:=[some (.str w),some (.ref r),some (.ref p),some (.ref sh),some (.int 0),some (.ref l),none,none]) rfl ?_;walk_at "x";rename_i j H1 g e1 b z H2 x e2 c;have d:H1 j=some (.lst ((vec 2 λ_=>0).map V.int)):=b;rw[zty,if_neg (by decide)]at c;refine zej ∅ c (by decide) λq o t u f=>?_;rw[zoA]at f;exact k q o ∅ ∅ f
def zla(T:Txt K mg):T.d_given_in.Ok P w base 3 (zpS K):=by
 refine T.d_given_in.F.okN zkO (by walk_at "l") λf A outer s H vs Q E g h=>?_;obtain⟨w,r,b,j,rfl,e,l,k⟩:=h;refine⟨_,(ze (zG (zm (show OpR _ (compareOp .In) (rIn K false)from zdW) (pv 0) (zM (za zH (za zH zd))) (by with_unfolding_all rfl))
 (zi (zp (zbu (show SlR _ (zeM K)from zd8) (pv 2) zbQ (zbW (zbY zbk zh)))))
 zA)
 (zi (zp (qD T.d_by_shares (zdz (base:=base) T) g (za (zbZ K T.z_sum (za (pv 2) zd)) (za (pv 1) zd)))))),?_⟩
 refine zo (σ0:=[some (.str w),some (.ref r),some (.ref b)]) rfl ?_;walk_at "x";refine za9 (by first | decide | simp) λt H1 o e1 d=>?_;refine zqK (ws:=["pledge", "share"]) (.of d) ?_;have m:=e1.seq l;have a:=e1.seq e;rw[decide_eq_false (by rw[j];decide +kernel)];walk_at "x";rw[show zah (vec 2 (λ_=>(0:Int))++[0])=0 by decide +kernel];refine⟨_,r,2,g1,rfl,a,by decide,λi hi=>?_,by decide +kernel,.inl ⟨by decide +kernel,λq H2 n e2 c=>?_⟩⟩
 ·unfold g1;split
  ·exact⟨by decide,by decide +kernel⟩
  ·exact⟨by decide,by decide +kernel⟩
 rw[share0]at c;exact k q H2 ∅ ∅ c
def zlX(T:Txt K mg):T.d_less.Ok P w base 1 (zrc K):=by
 refine T.d_less.F.okN zrf (by walk_at "l") λG A outer s H vs Q E S h=>?_;obtain⟨a,of,n,d,B,ns,rfl,C,L,M,m,k⟩:=h;have f:((vec n d).map V.int).length=n:=by rw[yc,zI]
 refine⟨_,(zi (zp (qC2 K ["place", "number", "off"] [none,none,some 1] (zaz K T.z_enumerate (za (pv 0) zd)) (λ_ _ _ _ _=>(zw zbi (pv 1) (qIx K (pv 2) (pv 0))))))),?_⟩;refine zo (σ0:=[some (.ref a),some (.ref of)]) rfl ?_;walk_at "x";refine zas (zab (K:=K) (a:=a) (xs:=(vec n d).map V.int)) (λH' e=>e.seq C) rfl (λi vs _=>vs=(vec i λi=>d i-B i).map V.int) (λH' _=>rfl) ?_ ?_
 ·rintro i x D vs o o' H2 z hi R e2 U c rfl y ⟨t,v,rfl,j,g⟩;have b:i<n:=by lia
  rw[yf,zap b]at j;cases j;have J:z t=some (.tup [.int (i:Int),.int (d i)]):=g;have r:atI (ns.map V.int) (i:Int)=some (.int (B i)):=zal (by rw[yf,m i b];rfl);have u:=(e2.trans y).seq L;walk_at "x";rename_i O N I;refine⟨⟨_,_,rfl⟩,∅,_,I,by rw[ye];exact yb c,?_⟩;show _=(vec (i+1) _).map V.int;rw[zav,yj];rfl
 rintro q H1 vs p e1 l c rfl;rw[f]at l;exact k q H1 p e1 l
def zha(T:Txt K mg):T.d_layered.Ok P w base 4 (zl4 K T.c_NoLayer):=by
 refine T.d_layered.F.okX sc_layered (λvs H Q E h=>?_) (λao A outer s H vs Q E Z h=>?_)
 ·obtain⟨o,g,p,sh,own,ws,rfl,_⟩:=h;rfl
 obtain⟨o,g,p,sh,own,ws,rfl,hO,hwl,k⟩:=h;refine⟨_,(ze (zJ (qE T.d_check_order (zer (base:=base) T) Z (za (pv 0) zd)))
 (ze (zu 5 sc_layered (zgp K T.z_list (za (pv 1) zd)))
 (ze (zu 6 sc_layered (zgp K T.z_list (za (pv 3) zd)))
 (ze (zu 7 sc_layered (zO zd))
 (ze (zai PassesOwn.leaving rfl (zT K (pv 0)) (zD (i:=8) sc_layered.nd rfl (Or.inl rfl))
 (ze (zu 9 sc_layered (qE T.d_borne_in (zk5 (base:=base) T) Z (za (pv 8) (za (pv 5) (za (pv 2) (za (pv 6) (za (pv 4) (za (qC1 ["gap"] [none] (zT K (pv 1)) (λ_ _ _ _ _=>(zbz (qEq K Z.units) (pv 0) zh (nomark _)))) zd))))))))
 (ze (zu 10 sc_layered (qE T.d_given_in (zla (base:=base) T) Z (za (pv 8) (za (pv 5) (za (pv 9) zd)))))
 (ze (zJ (qAp K (pv 7) (za (zM (za (pv 8) (za (pv 10) (za (pv 9) zd)))) zd)))
 (ze (zu 5 sc_layered (qD T.d_less (zlX (base:=base) T) Z (za (pv 5) (za (pv 10) zd))))
 (zi (zG (zm (show OpR _ (compareOp .In) (rIn K false)from zdW) (pv 8) (zM (za zH (za zH (za zH zd)))) (by with_unfolding_all rfl))
 (zi (zu 6 sc_layered (qD T.d_less (zlX (base:=base) T) Z (za (pv 6) (za (pv 9) zd)))))
 zA)))))))
 (zi (zp (zM (za (pv 7) (za (pv 5) zd)))))))))),?_⟩
 refine zo (σ0:=[some (.ref o),some (.ref g),some (.ref p),some (.ref sh),some (.int own),none,none,none,none,none,none]) rfl ?_;rcases k with⟨rfl,rfl,hG,⟨S,hS⟩,k⟩ | ⟨hv,k⟩
 case inr=>
  walk_at "x";exact⟨o,ws,rfl,hO,hwl,.inr ⟨hv,k⟩⟩
 walk_at "x";refine⟨o,["own"],rfl,hO,by decide,.inl ⟨zli,λH1 e1=>?_⟩⟩;have az:=e1.at hG;have ap:=e1.at hS;walk_at "x";rename_i re H2 ar e2 hre sl H3 au e3 ai u H4 frs e4 hrs;have L:Same H H4:=e1.trans (e2.trans (e3.trans e4));have a1:H u=none:=Same.none frs (e1.trans (e2.trans e3));have ah:re≠u:=zE (e3.at hre) frs;have ay:sl≠u:=zE ai frs;refine zbh (xs:=[("own" : Str)].map V.str) (λi σ' H'=>∃(c:Addr) (f8 f9 I:Option V),σ'=[some (.ref o),some (.ref g),some (.ref p),some (.ref sh),some (.int 0),some (.ref c),some (.ref sl),some (.ref u),f8,f9,I]/\Same H H'/\H' c=some (.lst ((vec 2 g1).map V.int)) /\
  (i=0->c=re/\H'=H4)/\(i=1->∃t gi n,H' u=some (.lst ([(t,gi,n)].map λt=>V.ref t.1))/\LRs H' 2 row0 [(t,gi,n)]))
  ⟨re,_,_,_,rfl,L,e4.at (e3.at hre),(λ_=>⟨rfl,rfl⟩),(λz=>nomatch z)⟩ ?_ ?_ ?_
 ·rintro i σ' H' _ ⟨_,_,_,_,_,e,_⟩;exact e.seq hO
 ·rintro i x σ' H5 hx ⟨d,f8,f9,I,rfl,e5,b,h0,_⟩;obtain rfl:i=0:=by
   have:=(yi.mp hx).1
   simp at this;lia
  obtain⟨rfl,rfl⟩:=h0 rfl;cases hx;have ag:=L.at hG;walk_at "x";refine zR (zS (K:=K) (a:=g) (xs:=(vec 2 g1).map V.int)) (λH' e=>SqL.of (e.at ag)) rfl (λi vs _=>vs=bls i λi=>decide (g1 i=0)) (λH' _=>rfl) ?_ ?_
  ·rintro j x D vs o' H3 H4 O hD e3 hv a9 rfl e4 hx;have aj:j<2:=O;rw[yf,zap aj]at hx;cases hx;generalize hgj:g1 j=gj;walk_at "x";rename_i H6 b6 h6;exact⟨⟨_,rfl⟩,∅,_,h6,by rw[ye];exact yb a9,by show _=bls (j+1) _;rw[zgr,hgj]⟩
  rintro wh H6 vs ax q b1 a9 rfl;have C:=q.at b;refine⟨_,d,p,sl,wh,rfl,rfl,SqL.of C,λn H7 a2 e7 U=>?_⟩;walk_at "x";refine⟨_,d,n,rfl,rfl,SqL.of (e7.at C),SqL.of U,λgi H8 r e8 al=>?_⟩;have B:=q.trans (e7.trans e8);have aa:=B.at hrs;have ab:=B.at b;have a7:=e8.at U;have aq:gi≠n:=λz=>by rw[z,U]at r;cases r
  have a3:n≠u:=λz=>by rw[z,q.at hrs]at a2;cases a2
  have a4:gi≠u:=λz=>by rw[z,e7.at (q.at hrs)]at r;cases r
  have ad:Same H H8:=L.trans B;clear q e7 e8 B;walk_at "x";rename_i tp H9 av e9 af;refine zX ?_;refine zdr (l:=u) (y:=.ref tp) (e9.at aa) (by decide) λa8 f ae=>?_;have J:=f.lst (e9.at ab) ah;have m:=f.lst (e9.at al) a4;have Y:=f.lst (e9.at a7) a3;have X:=f.tup af;have a5:Same H a8:=f.same (ad.trans e9) a1;have G:LRs a8 2 row0 [(tp,gi,n)]:=λj t O=>by
   match j,O with
   | 0,O=>cases O;exact⟨X,m,Y⟩
  walk_at "x";refine⟨d,gi,2,g1,(λ_=>0),_,rfl,SqL.of J,SqL.of m,by decide,λj O=>zap O,λc am an W ac=>?_⟩;have M:=W.at ae;have R:=G.same W;have N:am c=some (.lst ((vec 2 g1).map V.int)):=ac;walk_at "x";rename_i t3 aw as v ak;refine zqK (ws:=["share", "others", "level"]) (.of ak) ?_;rw[decide_eq_false (by decide +kernel)];walk_at "x";exact⟨c,_,_,_,rfl,a5.trans (W.trans v),v.at N,(λz=>nomatch z),λ_=>⟨tp,gi,n,v.at M,R.same v⟩⟩
 ·rintro σ' H5 ⟨d,f8,f9,I,rfl,e5,b,_,h1⟩;obtain⟨t,gi,n,a0,a6⟩:=h1 rfl;walk_at "x";refine za9 (by first | decide | simp) λpt H6 b0 q hpt=>?_;exact k pt u d t gi n H6 (e5.trans q) ⟨hpt,q.at a0,q.at b,a6.same q⟩
def zk0(T:Txt K mg):T.d_means_of.Ok P w base 1 (zoZ K):=by
 refine T.d_means_of.F.okN zk2 (by walk_at "l") λa0 A outer s H vs Q E hr h=>?_;obtain⟨u,r,n,pf,row,tr,rfl,hu,B,hL,n9,t9,k⟩:=h;refine⟨_,(zi (zp (qC2 K ["member", "purse", "rows"] [none,none,some 1] (zaz K T.z_enumerate (za (pv 0) zd)) (λ_ _ _ _ _=>(zw (zaw K) (pv 1) (zbZ K T.z_sum (za (qC1 ["row", "member"] [none,some 0] (zT K (pv 2)) (λ_ _ _ _ _=>(qIx K (qIx K (pv 0) zh) (pv 1)))) zd))))))),?_⟩;refine zo (σ0:=[some (.ref u),some (.ref r)]) rfl ?_;walk_at "x";refine zas (zab (K:=K) (a:=u) (xs:=(vec n pf).map V.int)) (λH' e=>SqL.of (e.at hu)) rfl (λi vs _=>vs=(vec i λi=>pf i+gvS row tr.length i).map V.int) (λH' _=>rfl) ?_ ?_
 ·rintro i x D vs o o' N Z hi O y l G rfl q ⟨t,v,rfl,f,C⟩;rw[yc,zI]at hi;rw[yf,zap hi]at f;cases f;have b:=y.trans q;have I:=b.at B;have J:=hL.same b;have a1:Z t=some (.tup [.int (i:Int),.int (pf i)]):=C;clear b;walk_at "x";refine zR (zS (K:=K) (a:=r) (xs:=tr.map λt=>V.ref t.1)) (λH' e=>SqL.of (e.at I)) rfl (λj vs _=>vs=(vec j λj=>(row j).gv i).map V.int) (λH' _=>rfl) ?_ ?_
  ·rintro j x L vs o2 R H6 M c p m d rfl Y f;rw[yc]at M;obtain⟨S,g⟩:=zP M;rw[yf,g]at f;cases f;obtain⟨h1,h2,h3⟩:=(J.same (p.trans Y)) j S g;have X:atI ((vec n (row j).gv).map V.int) (i:Int)=some (.int ((row j).gv i)):=zal (by rw[yf,zap hi];rfl);walk_at "x";rename_i H7 b7 h7;exact CompN.int ⟨_,rfl⟩ ∅ h7 rfl
  ·rintro L R vs c p m d rfl;rw[yc]at m;have a2:=(q.trans p).at l;have W:L≠D:=λz=>by rw[z,q.at l]at c;cases c
   walk_at "x";rename_i H6 U h6;exact CompN.int ⟨_,_,rfl⟩ (U.same ((y.trans q).trans p) O) h6 (by rw[zdF];rfl)
 ·rintro D N vs O y l G rfl;rw[yc,zI]at l;exact k D N ∅ ∅ l
def zhS(T:Txt K mg):T.d_settled_day.Ok P w base 8 (zmW K):=by
 refine T.d_settled_day.F.okX zaL (λvs H Q E h=>?_) (λag A outer s H vs Q E x h=>?_)
 ·obtain⟨a,u,p,sh,o,s,z,S,rfl,_⟩:=h;rfl
 obtain⟨a,u,p,sh,o,c,z,S,rfl,W,hu,hs,ho,J,s9,z0,z9,k⟩:=h;obtain⟨ds,B⟩:∃ds,ds=due1 (c+1):=⟨_,rfl⟩
 obtain⟨n,M⟩:∃n:Nat,n=2:=⟨_,rfl⟩
 obtain⟨pf,e⟩:∃pf:Nat->Int,pf=λi=>if i=0 then c else z:=⟨_,rfl⟩
 have a0:H u=some (.lst ((vec n pf).map V.int)):=by rw[M,e];exact hu
 have ad:∀d∈ds,zaM (n:Int) d:=by rw[B,M];exact zcL ⋯ ⋯
 have a9:IsSh K H a ds:=by rw[B];exact W
 refine⟨_,(ze (zu 6 zaL (qD T.d_gaps_of (zmT (base:=base) T) x (za (pv 0) (za (pv 1) zd))))
 (ze (zu 7 zaL (qE T.d_layered (zha (base:=base) T) x (za (pv 5) (za (pv 6) (za (pv 2) (za (pv 3) (za (pv 4) zd)))))))
 (ze (zu 8 zaL (qD T.d_means_of (zk0 (base:=base) T) x (za (pv 1) (za (qIx K (pv 7) zh) zd))))
 (ze (zu 9 zaL (qE T.d_safe_cut (zkQ (base:=base) T) x (za (pv 0) (za (pv 8) zd))))
 (ze (zu 10 zaL (qD T.d_with_amounts (zcy (base:=base) T) x (za (pv 0) (za (pv 9) zd))))
 (ze (zu 11 zaL (qE T.d_cleared (zhD (base:=base) T) x (za (pv 10) (za (pv 8) zd))))
 (ze (zu 12 zaL (qE T.d_ends_by (zmD (base:=base) T) x (za (pv 10) (za (pv 8) (za (pv 11) zd)))))
 (zi (zp (zM (za (pv 6) (za (qIx K (pv 7) zh) (za (qIx K (pv 7) zh) (za (pv 9) (za (pv 11) (za (pv 12) (za (qD T.d_outs_of (zmH (base:=base) T) x (za (pv 10) (za (pv 11) zd))) zd))))))))))))))))),?_⟩
 refine zo (σ0:=[some (.ref a),some (.ref u),some (.ref p),some (.ref sh),some (.int 0),some (.ref o),none,none,none,none,none,none,none]) rfl ?_;walk_at "x";rename_i ga H1 al e1 hga;rw[B,M,gap1 (by rw[e];rfl) (by rw[e];rfl) z0 J]at hga;have a1:=e1.at ho;have a7:=e1.at hs;refine zX ?_;refine⟨o,ga,p,sh,0,["own"],rfl,SqL.of a1,by decide,.inl ⟨rfl,rfl,hga,⟨S,a7⟩,λp0 rs re t gi bo H2 e2 Z=>?_⟩⟩;have aa:=Z.hp;have a2:=(e1.trans e2).at a0;walk_at "x";refine⟨u,rs,n,pf,row0,[(t,gi,bo)],rfl,a2,Z.hrs,by rw[M];exact Z.rows,⋯,by show 1<=100;decide,λme H3 ac R a4=>?_⟩;have q:H3 me=some (.lst ([c,z].map V.int)):=by
  rw[a4,M,e];show some (HO.lst [.int (c+0),.int (z+0)])=_;rw[Int.add_zero,Int.add_zero];rfl
 have l:=W.same ((e1.trans e2).trans R);walk_at "x";refine zX ?_;refine⟨a,me,c+1,c,z,rfl,l,q,J,⋯,⋯,λle H4 aj D hle=>?_⟩;have L:=l.same D;have N:=D.at q;have j:H4 le=some (.lst ([c+1].map V.int)):=hle;walk_at "x";refine zX ?_;refine zgs (ms:=[c+1]) L (SqL.of j) (by show 1<=1;decide) (by show 1<=1000;decide) ?_;intro af H5 us ah G a6 a5;have g:=G.at N;have y:IsSh K H5 af (due1 (c+1)):=⟨us,SqL.of a6,a5⟩
 walk_at "x";refine zX ?_;refine⟨af,me,c+1,c,z,rfl,y,g,J,⋯,⋯,λla H6 wl ab C hla hwl=>?_⟩;have m:=y.same C;have U:=C.at g;walk_at "x";refine zX ?_;refine⟨af,me,la,c+1,c,z,wl,rfl,m,U,hla,hwl,J,⋯,⋯,z0,⋯,λen H7 we ae r hen hwe=>?_⟩;have X:=m.same r;have v:=r.at hla;have f:=hwl.same r;have I:=(((((e2.trans R).trans D).trans G).trans C).trans r).at hga;have O:=Z.same ((((R.trans D).trans G).trans C).trans r);have a8:=O.hp;have Y:=((G.trans C).trans r).at j;have a3:Same H H7:=(((((e1.trans e2).trans R).trans D).trans G).trans C).trans r;clear e1 e2 R D G C r;walk_at "x";refine zX ?_;refine⟨af,la,c+1,c,wl,rfl,X,v,f,J,⋯,⋯,λou H8 ak e8 hou=>?_⟩;walk_at "x";rename_i pt H9 ai e9 hpt;have b:=e8.trans e9;exact k pt ga p0 rs re le la en ou t gi bo wl we H9 (a3.trans b) ⟨hpt,b.at I,O.same b,b.at Y,b.at v,f.same b,b.at hen,hwe.same b,e9.at hou⟩
def zge(T:Txt K mg):T.d_whole_of.Ok P w base 1 zoj:=by
 refine T.d_whole_of.F.okN zkY (by walk_at "l") λb A outer s H vs Q E d h=>?_;obtain⟨a,q,rfl,h1,c,k⟩:=h;refine⟨_,(zi (zp (zw zaX (qIx K (pv 0) zh) (qIx K (pv 0) zh)))),?_⟩;refine zo (σ0:=[some (.ref a)]) rfl ?_;walk_at "x";refine zqz (zaH q) (ya c.2 (by decide)) ?_;exact k
def zdB(T:Txt K mg):T.d_Book___init__.Ok P w mg base 1 (zq9 T.c_Book):=by
 refine T.d_Book___init__.F.okN zgG (by walk_at "l") λt A outer s H vs Q E x h=>?_;obtain⟨p,dx,m,w,rfl,hp,k⟩:=h;refine⟨_,(ze (show PS _ _ (zbG K _ _ _)from za8 (pv 0) (pv 1) rfl)
 (ze (show PS _ _ (zbG K _ _ _)from za8 (pv 0) (pv 2) rfl)
 (ze (show PS _ _ (zbG K _ _ _)from za8 (pv 0) zh rfl)
 (zi (show PS _ _ (zbG K _ _ _)from za8 (pv 0) (zO zd) rfl))))),?_⟩
 refine zo (σ0:=[some (.ref p),some (.int m),some (.int w)]) rfl ?_;walk_at "x";refine zaY hp T.cl_Book T.na_Book_many (by show 0<1000;decide) λH1 b1 h1=>?_;walk_at "x";refine zaY h1 T.cl_Book T.na_Book_wares (by show 1<1000;decide) λH2 b2 h2=>?_;walk_at "x";refine zaY h2 T.cl_Book T.na_Book_day (Nat.lt_of_le_of_lt (zt _ _ _) (by show 2<1000;decide)) λv f c=>?_;walk_at "x";rename_i d u fd g hd;refine zaY (g.at c) T.cl_Book T.na_Book_deals (Nat.lt_of_le_of_lt (zt _ _ _) (Nat.lt_of_le_of_lt (Nat.add_le_add_right (zt _ _ _) 1) (by show 3<1000;decide))) λi e j=>?_;have a:d≠p:=zbX fd c;refine k d i ?_ (λb o n q=>e.at (g.at (f.at (b2.at (b1.at q n) n) n)) n) j (e.at hd a);have l:H2 d=none:=by rw[<- f d a];exact fd
 have r:H1 d=none:=by rw[<- b2 d a];exact l
 rw[<- b1 d a];exact r
def zcm(T:Txt K mg):T.d_Book_check_members.Ok P w mg base 1 (znW T.c_Book T.c_NoMember):=by
 refine T.d_Book_check_members.F.okX sc_Book_check_members (λvs H Q E h=>?_) (λC A outer s H vs Q E D h=>?_)
 ·obtain⟨b,dx,d,m,w,y,p,q,rfl,_⟩:=h;rfl
 obtain⟨b,dx,d,m,w,y,p,q,rfl,G,h⟩:=h;have cl_Book:=T.cl_Book;have na_Book_many:=T.na_Book_many;refine⟨_,(ze (zai PassesOwn.leaving rfl (show PI _ _ _ (zpE K _)from zsx (zM (za (pv 1) (za (pv 2) zd)))) (zD (i:=3) sc_Book_check_members.nd rfl (Or.inl rfl))
 (zi (zG (PW.pt (zbT (zm zba (pv 3) zh (nomark _)) (zbm (zm zhz (pv 3) (show PE _ _ (zU K _ _)from zF (pv 0) rfl) (nomark _)))))
 (zi (zad rfl rfl T.m_NoMember (errOk.own T.e_NoMember) (za zH zd) zax))
 zA)))
 (zi (zG (zm (qEq K D.units) (pv 1) (pv 2) (nomark _))
 (zi (zad rfl rfl T.m_NoMember (errOk.own T.e_NoMember) (za zH zd) zax))
 zA))),?_⟩
 refine zo (σ0:=[some (.ref b),some (.int p),some (.int q),none]) rfl ?_;walk_at "x";refine za9 (by first | decide | simp) λt H1 J e1 j=>?_;refine zs8 (.of j) ?_;refine zb3 (zlH (xs:=[.int p,.int q])) (λi c H'=>∃f:Option V,c=[some (.ref b),some (.int p),some (.int q),f]/\Same H1 H'/\(0<i->0<=p/\p<m)/\(1<i->0<=q/\q<m)) ⟨_,rfl,Same.refl _,λz=>absurd z ⋯,λz=>absurd z ⋯⟩ ?_ ?_ ?_
 ·rintro i c H' ⟨_,_,e,_⟩;exact .of (e.at j)
 ·rintro i x c H' H2 hi ⟨f,rfl,a,g,o⟩ e2 l;have r:H2 b=some (.ins T.c_Book dx (bfl m w y d)):=e2.at (a.at (e1.at G));obtain⟨v,rfl,n⟩:∃v:Int,x=.int v/\((i=0/\v=p)\/(i=1/\v=q)):=by
   have u:i<2:=hi;obtain rfl | rfl:i=0\/i=1:=by lia
   ·exact⟨p,(yk l).symm,.inl ⟨rfl,rfl⟩⟩
   ·exact⟨q,(yk l).symm,.inr ⟨rfl,rfl⟩⟩
  walk_at "x"
  all_goals first
   | exact⟨_,rfl,a.trans e2,λ_=>by rcases n with⟨_,rfl⟩ | ⟨z,_⟩<;>first | (constructor<;>lia) | exact g ⋯,λ_=>by rcases n with⟨z,_⟩ | ⟨_,rfl⟩<;>first | (exfalso;lia) | (constructor<;>lia)⟩
   | (rcases h with⟨⟨⟨a1,a2⟩,⟨a3,a4⟩,a5⟩,_⟩ | ⟨_,k⟩
      ·exfalso;lia
      ·exact⟨by decide,k _ (e1.trans (a.trans e2))⟩)
 ·rintro c H' ⟨f,rfl,a,g,o⟩;have I:=g (show 0<2 by decide);have B:=o (show 1<2 by decide);walk_at "x"
  all_goals rcases h with⟨⟨⟨a1,a2⟩,⟨a3,a4⟩,a5⟩,k⟩ | ⟨hn,k⟩
  all_goals first
   | exact k _ (e1.trans a)
   | exact⟨by decide,k _ (e1.trans a)⟩
   | (exfalso;lia)
   | exact absurd ⟨I,B,⋯⟩ hn
def zbA(T:Txt K mg):T.d_Book_check_terms.Ok P w mg base 1 (zm6 T.c_Book T.c_NoTerms T.c_Closed):=by
 refine T.d_Book_check_terms.F.okX ze7 (λvs H Q E h=>?_) (λc A outer s H vs Q E e h=>?_)
 ·obtain⟨b,dx,d,m,w,y,t,rfl,_⟩:=h;rfl
 obtain⟨b,dx,d,m,w,y,t,rfl,f,h⟩:=h;have cl_Book:=T.cl_Book;have na_Book_wares:=T.na_Book_wares;have na_Book_day:=T.na_Book_day;refine⟨_,(ze (zG (PW.pt (zbT (zm zba (pv 1) zh (nomark _)) (zbm (zm zhz (pv 1) (show PE _ _ (zU K _ _)from zF (pv 0) rfl) (nomark _)))))
 (zi (zad rfl rfl T.m_NoTerms (errOk.own T.e_NoTerms) (za zH zd) zax))
 zA)
 (ze (zG (PW.pt (zbT (zm zba (pv 2) zh (nomark _)) (zbm (zm zbo (pv 2) (zC (v:=.int 1000000) rfl T.g_MOST_UNITS.h ⟨_,rfl⟩) (nomark _)))))
 (zi (zad rfl rfl T.m_NoTerms (errOk.own T.e_NoTerms) (za zH zd) zax))
 zA)
 (ze (zG (PW.pt (zbT (zm zba (pv 3) zh (nomark _)) (zbm (zm zbo (pv 3) (zC (v:=.int 1000000000) rfl T.g_MOST_AMOUNT.h ⟨_,rfl⟩) (nomark _)))))
 (zi (zad rfl rfl T.m_NoTerms (errOk.own T.e_NoTerms) (za zH zd) zax))
 zA)
 (ze (zG (PW.pt (zbT (zm zba (pv 4) zh (nomark _)) (zbm (zm zbo (pv 4) (zC (v:=.int 1000000) rfl T.g_MOST_DAY.h ⟨_,rfl⟩) (nomark _)))))
 (zi (zad rfl rfl T.m_NoTerms (errOk.own T.e_NoTerms) (za zH zd) zax))
 zA)
 (ze (zG (PW.pt (zbT (zm zba (pv 5) zh (nomark _)) (zbm (zm zbo (pv 5) zh (nomark _)))))
 (zi (zad rfl rfl T.m_NoTerms (errOk.own T.e_NoTerms) (za zH zd) zax))
 zA)
 (zi (zG (zm zba (pv 4) (show PE _ _ (zU K _ _)from zF (pv 0) rfl) (nomark _))
 (zi (zad rfl rfl T.m_Closed (errOk.own T.e_Closed) (za zH zd) zax))
 zA))))))),?_⟩
 refine zo (σ0:=[some (.ref b),some (.int t.w),some (.int t.u),some (.int t.a),some (.int t.y),some (.int t.r)]) rfl ?_;rcases h with⟨⟨⟨b1,b2⟩,⟨b3,b4⟩,⟨b5,b6⟩,⟨b7,b8⟩,b9,b10⟩,h2,k⟩ | ⟨h1,k⟩ | ⟨⟨⟨b1,b2⟩,⟨b3,b4⟩,⟨b5,b6⟩,⟨b7,b8⟩,b9,b10⟩,h2,k⟩
 ·walk_at "x"
  all_goals first | exact k | (exfalso;lia)
 ·walk_at "x"
  all_goals first | exact⟨by decide,k⟩ | exact absurd (show zdl w t from⟨⟨⋯,⋯⟩,⟨⋯,⋯⟩,⟨⋯,⋯⟩,⟨⋯,⋯⟩,⋯,⋯⟩) h1
 ·walk_at "x"
  all_goals first | exact⟨by decide,k⟩ | (exfalso;lia)
def zaK(T:Txt K mg):T.d_Book_strike.Ok P w mg base 2 (zn8 T.c_Book T.c_NoMember T.c_NoTerms T.c_Closed):=by
 refine T.d_Book_strike.F.okX zix (λvs H Q E h=>?_) (λx A outer s H vs Q E j h=>?_)
 ·obtain⟨b,dx,d,m,w,y,t,xs,rfl,_⟩:=h;rfl
 obtain⟨b,dx,d,m,w,y,t,xs,rfl,f,hd,D,h⟩:=h;have cl_Book:=T.cl_Book;have na_Book_deals:=T.na_Book_deals;refine⟨_,(ze (zJ (zL (pv 0) T.cl_Book T.d_Book_check_members.mt (zcm (base:=base) T) (j.mono (by decide)) T.d_Book_check_members.b .nil zac (za (pv 1) (za (pv 2) zd))))
 (ze (zJ (zL (pv 0) T.cl_Book T.d_Book_check_terms.mt (zbA (base:=base) T) (j.mono (by decide)) T.d_Book_check_terms.b .nil zac (za (pv 3) (za (pv 4) (za (pv 5) (za (pv 6) (za (pv 7) zd)))))))
 (ze (zJ (qAp K (show PE _ _ (zU K _ _)from zF (pv 0) rfl) (za (zM (za (pv 1) (za (pv 2) (za (pv 3) (za (pv 4) (za (pv 5) (za (pv 6) (za (pv 7) (za zH zd))))))))) zd)))
 (zi (zp (zw zbi (za5 K T.z_len (za (show PE _ _ (zU K _ _)from zF (pv 0) rfl) zd)) zh)))))),?_⟩
 refine zo (σ0:=[some (.ref b),some (.int t.p),some (.int t.q),some (.int t.w),some (.int t.u),some (.int t.a),some (.int t.y),some (.int t.r)]) rfl ?_;walk_at "x";by_cases e:zeF m t.p t.q
 ·refine⟨b,dx,d,m,w,y,_,_,rfl,f,.inl ⟨e,λH1 e1=>?_⟩⟩;walk_at "x";by_cases c:zdl w t
  ·by_cases i:t.y<y
   ·have g:zcf m w y t=3:=by unfold zcf;rw[if_neg (Classical.not_not.mpr e),if_neg (Classical.not_not.mpr c),if_pos i]
    refine⟨b,dx,d,m,w,y,t,rfl,e1.at f,.inr (.inr ⟨c,i,?_⟩)⟩;rcases h with⟨z,_⟩ | ⟨z,_⟩ | ⟨z,_⟩ | ⟨_,k⟩
    all_goals first | exact k _ e1 | (exfalso;lia)
   ·have g:zcf m w y t=0:=by unfold zcf;rw[if_neg (Classical.not_not.mpr e),if_neg (Classical.not_not.mpr c),if_neg i]
    refine⟨b,dx,d,m,w,y,t,rfl,e1.at f,.inl ⟨c,⋯,?_⟩⟩;rcases h with⟨_,k⟩ | ⟨z,_⟩ | ⟨z,_⟩ | ⟨z,_⟩
    case inr.inl=>exfalso;lia
    case inr.inr.inl=>exfalso;lia
    case inr.inr.inr=>exfalso;lia
    walk_at "x";rename_i a H2 C e2 o v n l;have B:(((xs++[V.ref a]).length:Nat):Int)-1=((xs.length:Nat):Int):=by rw[ye];show(((xs.length+1:Nat):Nat):Int)-1=_;lia
    rw[B];exact k a H2 v (e1.trans e2) o n l
  ·have g:zcf m w y t=2:=by unfold zcf;rw[if_neg (Classical.not_not.mpr e),if_pos c]
   refine⟨b,dx,d,m,w,y,t,rfl,e1.at f,.inr (.inl ⟨c,?_⟩)⟩;rcases h with⟨z,_⟩ | ⟨z,_⟩ | ⟨_,k⟩ | ⟨z,_⟩
   all_goals first | exact k _ e1 | (exfalso;lia)
 ·have g:zcf m w y t=1:=by unfold zcf;rw[if_pos e]
  refine⟨b,dx,d,m,w,y,_,_,rfl,f,.inr ⟨e,λH1 e1=>?_⟩⟩;rcases h with⟨z,_⟩ | ⟨_,k⟩ | ⟨z,_⟩ | ⟨z,_⟩
  all_goals first | exact k _ e1 | (exfalso;lia)
def zeU(T:Txt K mg):T.d_Book_today.Ok P w mg base 1 (zl3 T.c_Book):=by
 refine T.d_Book_today.F.okN zjf (by walk_at "l") λa A outer s H vs Q E c h=>?_;obtain⟨b,dx,d,m,w,y,rfl,e,k⟩:=h;have cl_Book:=T.cl_Book;have na_Book_day:=T.na_Book_day;refine⟨_,(zi (zp (show PE _ _ (zU K _ _)from zF (pv 0) rfl))),?_⟩;refine zo (σ0:=[some (.ref b)]) rfl ?_;walk_at "x";exact k
def zdJ(T:Txt K mg):T.d_Book_deal.Ok P w mg base 1 (zrI T.c_Book T.c_NoDeal):=by
 refine T.d_Book_deal.F.okX zkL (λvs H Q E h=>?_) (λa A outer s H vs Q E f h=>?_)
 ·obtain⟨b,dx,d,m,w,y,n,xs,rfl,_⟩:=h;rfl
 obtain⟨b,dx,d,m,w,y,n,xs,rfl,g,hd,h⟩:=h;have cl_Book:=T.cl_Book;have na_Book_deals:=T.na_Book_deals;refine⟨_,(ze (zG (PW.pt (zbT (zm zba (pv 1) zh (nomark _)) (zbm (zm zhz (pv 1) (za5 K T.z_len (za (show PE _ _ (zU K _ _)from zF (pv 0) rfl) zd)) (nomark _)))))
 (zi (zad rfl rfl T.m_NoDeal (errOk.own T.e_NoDeal) (za zH zd) zax))
 zA)
 (zi (zp (qIx K (show PE _ _ (zU K _ _)from zF (pv 0) rfl) (pv 1))))),?_⟩
 refine zo (σ0:=[some (.ref b),some (.int n)]) rfl ?_;rcases h with⟨n0,v,hv,k⟩ | ⟨hn,k⟩
 ·have c:=(yi.mp hv).1;have e:atI xs n=some v:=zbl n0 hv;walk_at "x"
  all_goals first | exact k | (exfalso;lia)
 ·walk_at "x"
  all_goals first | exact⟨by decide,k⟩ | (exfalso;lia)
def zcn(T:Txt K mg):T.d_Book_standing_deal.Ok P w mg base 2 (znT T.c_Book T.c_Gone T.c_Settled):=by
 refine T.d_Book_standing_deal.F.okX zcl (λvs H Q E h=>?_) (λl A outer s H vs Q E f h=>?_)
 ·obtain⟨b,d,m,w,y,n,ts,t,rfl,_⟩:=h;rfl
 obtain⟨b,d,m,w,y,n,ts,t,rfl,i,j,g,k1,k2,k3⟩:=h;obtain⟨⟨dx,z⟩,xs,hd,o⟩:=id i;obtain⟨x,e,c⟩:=o.getI g;have k:H x=some (.tup [.int t.1.p,.int t.1.q,.int t.1.w,.int t.1.u,.int t.1.a,.int t.1.y,.int t.1.r,.str t.2]):=c;refine⟨_,(ze (zu 2 zcl (zL (pv 0) T.cl_Book T.d_Book_deal.mt (zdJ (base:=base) T) (f.mono (by decide)) T.d_Book_deal.b .nil zac (za (pv 1) zd)))
 (ze (zG (zm (qEq K f.units) (qIx K (pv 2) (zC (v:=.int 7) rfl T.g_STATE.h ⟨_,rfl⟩)) zH (nomark _))
 (zi (zad rfl rfl T.m_Gone (errOk.own T.e_Gone) (za zH zd) zax))
 zA)
 (ze (zG (zm (qEq K f.units) (qIx K (pv 2) (zC (v:=.int 7) rfl T.g_STATE.h ⟨_,rfl⟩)) zH (nomark _))
 (zi (zad rfl rfl T.m_Settled (errOk.own T.e_Settled) (za zH zd) zax))
 zA)
 (zi (zp (pv 2)))))),?_⟩
 refine zo (σ0:=[some (.ref b),some (.int n),none]) rfl ?_;walk_at "x";refine⟨b,dx,d,m,w,y,n,xs,rfl,z,hd,.inl ⟨j,.ref x,e,?_⟩⟩;walk_at "x"
 all_goals first | exact⟨by decide,k2 (by assumption)⟩ | exact⟨by decide,k3 (by assumption) (by assumption)⟩ | exact k1 (by assumption) (by assumption) x c
def zb0(T:Txt K mg):T.d_Book_put_state.Ok P w mg base 1 (zma T.c_Book):=by
 refine T.d_Book_put_state.F.okN zfZ (by walk_at "l") λU A outer s H vs Q E Y h=>?_;obtain⟨b,d,m,w,y,n,st,ts,t,rfl,L,I,G,k⟩:=h;obtain⟨⟨dx,W⟩,xs,hd,D⟩:=id L;have X:=D.length;have M:=(yi.mp G).1;obtain⟨a,x,l⟩:=D.getI G;have j:H a=some (.tup [.int t.1.p,.int t.1.q,.int t.1.w,.int t.1.u,.int t.1.a,.int t.1.y,.int t.1.r,.str t.2]):=l;have O:atI xs n=some (.ref a):=zbl I x;have cl_Book:=T.cl_Book;have na_Book_deals:=T.na_Book_deals;refine⟨_,(zi (zc4 (zw (zaw K) (zbu (show SlR _ (zic K)from zhB) (qIx K (show PE _ _ (zU K _ _)from zF (pv 0) rfl) (pv 1)) zbQ (zbW (zC (v:=.int 7) rfl T.g_STATE.h ⟨_,rfl⟩))) (zM (za (pv 2) zd))) (zc3 (show PE _ _ (zU K _ _)from zF (pv 0) rfl) (pv 1) zaf))),?_⟩;refine zo (σ0:=[some (.ref b),some (.int n),some (.str st)]) rfl ?_;walk_at "x";refine zts j (by show ¬(HT.sIx 8 0 none=0/\HT.sIx 8 8 (some 7)=8);decide) λp H1 fp e1 hp=>?_;have z:H1 p=some (.tup (zg9 t.1)):=hp;walk_at "x";rename_i o H2 Z e2 S;refine znw (e2.at z) S (by unfold zg9;simp) (by simp) (by show 7+1<=100000;decide) λp2 V J c g=>?_;have i:V p2=some (.tup (zbP (t.1,st))):=g;have B:=c.at (e2.at (e1.at hd));have C:=c.at (e2.at (e1.at W));walk_at "x";refine zc7 B (zfp I ⋯) λR e N=>?_;walk_at "x";refine k R ⟨⟨dx,e.ins C⟩,_,N,?_⟩ (ButL.of hd (e1.trans (e2.trans c)) e);exact IsTs.set (f:=zbP) (e.tup i) _ (LBut.isTs e (D.same (e1.trans (e2.trans c))))
def zdi(T:Txt K mg):T.d_Book_break_off.Ok P w mg base 3 (zny T.c_Book T.c_Settled):=by
 refine T.d_Book_break_off.F.okX zf2 (λvs H Q E h=>?_) (λi A outer s H vs Q E g h=>?_)
 ·obtain⟨b,d,m,w,y,n,ts,t,rfl,_⟩:=h;rfl
 obtain⟨b,d,m,w,y,n,ts,t,rfl,a,f,e,h1,k1,k2⟩:=h;obtain⟨⟨dx,l⟩,xs,hd,k⟩:=id a;refine⟨_,(ze (zJ (zL (pv 0) T.cl_Book T.d_Book_standing_deal.mt (zcn (base:=base) T) (g.mono (by decide)) T.d_Book_standing_deal.b .nil zac (za (pv 1) zd)))
 (zi (zJ (zL (pv 0) T.cl_Book T.d_Book_put_state.mt (zb0 (base:=base) T) (g.mono (by decide)) T.d_Book_put_state.b .nil (zaD zaA) (za (pv 1) (za zH zd)))))),?_⟩
 refine zo (σ0:=[some (.ref b),some (.int n)]) rfl ?_;walk_at "x";refine⟨b,d,m,w,y,n,ts,t,rfl,a,f,e,λ_ h2 x j=>?_,λz=>absurd z h1,λ_ z=>k2 z⟩;walk_at "x";refine⟨b,d,m,w,y,n,_,ts,t,rfl,a,f,e,λH1 c g1=>?_⟩;walk_at "x";exact k1 h2 H1 c g1
def zh9(T:Txt K mg):T.d_Book_change.Ok P w mg base 3 (zmp T.c_Book T.c_Gone):=by
 refine T.d_Book_change.F.okX zeh (λvs H Q E h=>?_) (λg A outer s H vs Q E e h=>?_)
 ·obtain⟨b,d,m,w,y,n,a,z,ts,t,rfl,_⟩:=h;rfl
 obtain⟨b,d,m,w,y,n,a,z,ts,t,rfl,c,i,f,h1,k⟩:=h;obtain⟨⟨dx,l⟩,xs,hd,j⟩:=id c;refine⟨_,(ze (zu 4 zeh (zL (pv 0) T.cl_Book T.d_Book_standing_deal.mt (zcn (base:=base) T) (e.mono (by decide)) T.d_Book_standing_deal.b .nil zac (za (pv 1) zd)))
 (ze (zJ (zL (pv 0) T.cl_Book T.d_Book_check_terms.mt (zbA (base:=base) T) (e.mono (by decide)) T.d_Book_check_terms.b .nil zac (za (qIx K (pv 4) (zC (v:=.int 2) rfl T.g_WARE.h ⟨_,rfl⟩)) (za (qIx K (pv 4) (zC (v:=.int 3) rfl T.g_UNITS.h ⟨_,rfl⟩)) (za (pv 2) (za (pv 3) (za (qIx K (pv 4) (zC (v:=.int 6) rfl T.g_RANK.h ⟨_,rfl⟩)) zd)))))))
 (zi (zc4 (zw (zaw K) (zw (zaw K) (zbu (show SlR _ (zic K)from zhB) (pv 4) zbQ (zbW (zC (v:=.int 4) rfl T.g_AMOUNT.h ⟨_,rfl⟩))) (zM (za (pv 2) (za (pv 3) zd)))) (zbu (show SlR _ (zic K)from zhB) (pv 4) (zbW (zC (v:=.int 6) rfl T.g_RANK.h ⟨_,rfl⟩)) zbQ)) (zc3 (show PE _ _ (zU K _ _)from zF (pv 0) rfl) (pv 1) zaf))))),?_⟩
 refine zo (σ0:=[some (.ref b),some (.int n),some (.int a),some (.int z),none]) rfl ?_;walk_at "x";exact⟨b,d,m,w,y,n,ts,t,rfl,c,i,f,λz=>absurd h1 z,λ_=>k,λz=>absurd h1 z⟩
def zd5(T:Txt K mg):T.d_Book_contrary_terms.Ok P w mg base 2 (zsq T.c_Book T.c_Standing):=by
 refine T.d_Book_contrary_terms.F.okX zb4 (λvs H Q E h=>?_) (λo A outer s H vs Q E f h=>?_)
 ·obtain⟨b,d,m,w,y,n,ts,t,rfl,_⟩:=h;rfl
 obtain⟨b,d,m,w,y,n,ts,t,rfl,i,j,g,h2,k⟩:=h;obtain⟨⟨dx,B⟩,xs,hd,z⟩:=id i;obtain⟨x,c,e⟩:=z.getI g;have l:H x=some (.tup [.int t.1.p,.int t.1.q,.int t.1.w,.int t.1.u,.int t.1.a,.int t.1.y,.int t.1.r,.str t.2]):=e;have h1:¬t.2=("broken" : Str):=by rw[h2];decide +kernel
 refine⟨_,(ze (zu 2 zb4 (zL (pv 0) T.cl_Book T.d_Book_deal.mt (zdJ (base:=base) T) (f.mono (by decide)) T.d_Book_deal.b .nil zac (za (pv 1) zd)))
 (ze (zG (zm (qEq K f.units) (qIx K (pv 2) (zC (v:=.int 7) rfl T.g_STATE.h ⟨_,rfl⟩)) zH (nomark _))
 (zi (zad rfl rfl T.m_Gone (errOk.own T.e_Gone) (za zH zd) zax))
 zA)
 (ze (zG (zm (qEq K f.units) (qIx K (pv 2) (zC (v:=.int 7) rfl T.g_STATE.h ⟨_,rfl⟩)) zH (nomark _))
 (zi (zad rfl rfl T.m_Standing (errOk.own T.e_Standing) (za zH zd) zax))
 zA)
 (zi (zp (zw (zaw K) (zM (za (qIx K (pv 2) (zC (v:=.int 1) rfl T.g_PAYEE.h ⟨_,rfl⟩)) (za (qIx K (pv 2) (zC (v:=.int 0) rfl T.g_PAYER.h ⟨_,rfl⟩)) zd))) (zbu (show SlR _ (zic K)from zhB) (pv 2) (zbW (zC (v:=.int 2) rfl T.g_WARE.h ⟨_,rfl⟩)) zbQ))))))),?_⟩
 refine zo (σ0:=[some (.ref b),some (.int n),none]) rfl ?_;walk_at "x";refine⟨b,dx,d,m,w,y,n,xs,rfl,B,hd,.inl ⟨j,.ref x,c,?_⟩⟩;walk_at "x"
 all_goals first | exact⟨by decide,k⟩ | (exfalso;contradiction)
def zgD(T:Txt K mg):T.d_Book_contrary.Ok P w mg base 3 (znP T.c_Book T.c_Standing):=by
 refine T.d_Book_contrary.F.okX zdI (λvs H Q E h=>?_) (λf A outer s H vs Q E c h=>?_)
 ·obtain⟨b,d,m,w,y,n,z,ts,t,rfl,_⟩:=h;rfl
 obtain⟨b,d,m,w,y,n,z,ts,t,rfl,a,g,e,h2,k⟩:=h;obtain⟨⟨dx,j⟩,xs,hd,i⟩:=id a;refine⟨_,(ze (zu 3 zdI (zL (pv 0) T.cl_Book T.d_Book_contrary_terms.mt (zd5 (base:=base) T) (c.mono (by decide)) T.d_Book_contrary_terms.b .nil zac (za (pv 1) zd)))
 (zi (zp (zL (pv 0) T.cl_Book T.d_Book_strike.mt (zaK (base:=base) T) (c.mono (by decide)) T.d_Book_strike.b .nil zac (za (qIx K (pv 3) (zC (v:=.int 0) rfl T.g_PAYER.h ⟨_,rfl⟩)) (za (qIx K (pv 3) (zC (v:=.int 1) rfl T.g_PAYEE.h ⟨_,rfl⟩)) (za (qIx K (pv 3) (zC (v:=.int 2) rfl T.g_WARE.h ⟨_,rfl⟩)) (za (qIx K (pv 3) (zC (v:=.int 3) rfl T.g_UNITS.h ⟨_,rfl⟩)) (za (qIx K (pv 3) (zC (v:=.int 4) rfl T.g_AMOUNT.h ⟨_,rfl⟩)) (za (pv 2) (za (qIx K (pv 3) (zC (v:=.int 6) rfl T.g_RANK.h ⟨_,rfl⟩)) zd))))))))))),?_⟩
 refine zo (σ0:=[some (.ref b),some (.int n),some (.int z),none]) rfl ?_;walk_at "x";exact⟨b,d,m,w,y,n,ts,t,rfl,a,g,e,h2,k⟩
def zf1(T:Txt K mg):T.d_Book_break_all.Ok P w mg base 2 (zrz T.c_Book):=by
 refine T.d_Book_break_all.F.okN sc_Book_break_all (by walk_at "l") λW A outer s H vs Q E I h=>?_;obtain⟨b,d,m,w,y,B,ts,rfl,J,L,k⟩:=h;obtain⟨⟨dx,hb⟩,xs,hd,Y⟩:=id J;have cl_Book:=T.cl_Book;have na_Book_deals:=T.na_Book_deals;refine⟨_,(ze (zcj (i:=2) sc_Book_break_all.nd rfl rfl rfl (zaz K T.z_enumerate (za (show PE _ _ (zU K _ _)from zF (pv 0) rfl) zd)) (zam (Ni:=["number", "one", "member"]) (caps:=[none,none,some 1]) (by rfl)) (λS _ _ _ _ _=>(show PG _ _ (zaT K 2 _)from zat (n:=2) rfl (zy (zag (gi:=0) S (Or.inl rfl) rfl) (zy (zag (gi:=1) S (Or.inl rfl) rfl) zaj)))) (λ_ _ _ _ _=>(zdC (PW.pt (zbL (zm (qEq K I.units) (qIx K (pv 1) (zC (v:=.int 7) rfl T.g_STATE.h ⟨_,rfl⟩)) zH (nomark _)) (zby (zm (show OpR _ (compareOp .In) (rIn K false)from zdW) (pv 2) (zM (za (qIx K (pv 1) (zC (v:=.int 0) rfl T.g_PAYER.h ⟨_,rfl⟩)) (za (qIx K (pv 1) (zC (v:=.int 1) rfl T.g_PAYEE.h ⟨_,rfl⟩)) zd))) (by with_unfolding_all rfl))))))) (λ_ _ _ _ _=>(pv 0)))
 (ze (zai PassesOwn.never rfl (zT K (pv 2)) (zD (i:=3) sc_Book_break_all.nd rfl (Or.inl rfl))
 (zi (zJ (zL (pv 0) T.cl_Book T.d_Book_put_state.mt (zb0 (base:=base) T) (I.mono (by decide)) T.d_Book_put_state.b .nil (zaD zaA) (za (pv 3) (za zH zd))))))
 (zi (zp (pv 2))))),?_⟩
 refine zo (σ0:=[some (.ref b),some (.int B),none,none]) rfl ?_;walk_at "x";refine zas (zab (K:=K) (a:=d) (xs:=xs)) (λH' e=>SqL.of (e.at hd)) rfl (λi vs _=>vs=[]) (λH' _=>rfl) ?_ ?_
 ·rintro i x D vs o o' H2 G hi hD e2 hv j rfl O ⟨t,v,rfl,f,g⟩;obtain⟨a,u,rfl,X,U⟩:=(Y.same (e2.trans O)).get f;have Z:G t=some (.tup [.int (i:Int),.ref a]):=g;have M:G a=some (.tup [.int u.1.p,.int u.1.q,.int u.1.w,.int u.1.u,.int u.1.a,.int u.1.y,.int u.1.r,.str u.2]):=U;have R:=L u (ym X);walk_at "x";exact⟨⟨_,_,rfl⟩,∅,_,∅,⋯,rfl⟩
 rintro C H1 vs N e1 l j rfl;walk_at "x";refine zbh (xs:=[]) (λi c H'=>∃z:Option V,c=[some (.ref b),some (.int B),some (.ref C),z]/\H'=H1) ⟨_,rfl,rfl⟩ ?_ ?_ ?_
 ·rintro i c H' _ ⟨_,_,rfl⟩;exact SqL.of l
 ·rintro i x c H' f;simp at f
 ·rintro c H' ⟨z,rfl,rfl⟩;walk_at "x";exact k C H' e1
def zeV(T:Txt K mg):T.d_Book_close.Ok P w mg base 2 (zq3 T.c_Book):=by
 refine T.d_Book_close.F.okN sc_Book_close (by walk_at "l") λa4 A outer s H vs Q E hr h=>?_;obtain⟨b,d,m,w,y,ts,rfl,hB,hl,k⟩:=h;obtain⟨⟨dx,hb⟩,xs,hd,hI⟩:=id hB;have a1:=hI.length;have cl_Book:=T.cl_Book;have na_Book_deals:=T.na_Book_deals;have na_Book_day:=T.na_Book_day;refine⟨_,(ze (zcj (i:=1) sc_Book_close.nd rfl rfl rfl (zaz K T.z_enumerate (za (show PE _ _ (zU K _ _)from zF (pv 0) rfl) zd)) (zam (Ni:=["number", "one", "self"]) (caps:=[none,none,some 0]) (by rfl)) (λS _ _ _ _ _=>(show PG _ _ (zaT K 2 _)from zat (n:=2) rfl (zy (zag (gi:=0) S (Or.inl rfl) rfl) (zy (zag (gi:=1) S (Or.inl rfl) rfl) zaj)))) (λ_ _ _ _ _=>(zdC (PW.pt (zbL (zm (qEq K hr.units) (qIx K (pv 1) (zC (v:=.int 7) rfl T.g_STATE.h ⟨_,rfl⟩)) zH (nomark _)) (zby (zm (qEq K hr.units) (qIx K (pv 1) (zC (v:=.int 5) rfl T.g_DAY.h ⟨_,rfl⟩)) (show PE _ _ (zU K _ _)from zF (pv 2) rfl) (nomark _))))))) (λ_ _ _ _ _=>(pv 0)))
 (ze (zai PassesOwn.never rfl (zT K (pv 1)) (zD (i:=2) sc_Book_close.nd rfl (Or.inl rfl))
 (zi (zJ (zL (pv 0) T.cl_Book T.d_Book_put_state.mt (zb0 (base:=base) T) (hr.mono (by decide)) T.d_Book_put_state.b .nil (zaD zaA) (za (pv 2) (za zH zd))))))
 (ze (show PS _ _ (zec K _ _ _ _)from zfm (pv 0) zh znQ)
 (zi (zp (pv 1)))))),?_⟩
 refine zo (σ0:=[some (.ref b),none,none]) rfl ?_;walk_at "x";refine zas (zab (K:=K) (a:=d) (xs:=xs)) (λH' e=>SqL.of (e.at hd)) rfl (λi vs _=>vs=(zaF (zaE y) ts i).map V.int) (λH' _=>rfl) ?_ ?_
 ·rintro i x D vs o o' H2 H3 hi hD e2 hv N rfl e3 ⟨t,v,rfl,C,W⟩;obtain⟨a,u,rfl,hu,ha⟩:=(hI.same (e2.trans e3)).get C;have a8:H3 t=some (.tup [.int (i:Int),.ref a]):=W;have a5:H3 a=some (.tup [.int u.1.p,.int u.1.q,.int u.1.w,.int u.1.u,.int u.1.a,.int u.1.y,.int u.1.r,.str u.2]):=ha;have a6:H3 b=some (.ins T.c_Book dx (bfl m w y d)):=e3.at (e2.at hb);have es:=zdN (P:=zaE y) hu;walk_at "x"
  ·rename_i h1 h2 H5 b5 h5;rw[if_pos (by unfold zaE;rw[decide_eq_true h1,decide_eq_true h2];rfl)]at es;refine⟨⟨_,_,rfl⟩,∅,_,h5,by rw[ye];exact yb N,?_⟩;show _=(zaF (zaE y) ts (i+1)).map V.int;rw[es,yj];rfl
  ·rename_i h1 h2;rw[if_neg (by unfold zaE;rw[decide_eq_false h2];simp),List.append_nil]at es;refine⟨⟨_,_,rfl⟩,∅,_,∅,⋯,?_⟩;show _=(zaF (zaE y) ts (i+1)).map V.int;rw[es]
  ·rename_i h1;rw[if_neg (by unfold zaE;rw[decide_eq_false h1];simp),List.append_nil]at es;refine⟨⟨_,_,rfl⟩,∅,_,∅,⋯,?_⟩;show _=(zaF (zaE y) ts (i+1)).map V.int;rw[es]
 rintro R H1 vs a2 e1 L N rfl;rw[a1]at L;have a7:=zgv (P:=zaE y) (ts:=ts) ts.length;walk_at "x";have ndn:R≠d:=zbX a2 hd;refine zbh (xs:=(zaF (zaE y) ts ts.length).map V.int) (λi U H'=>∃Z:Option V,U=[some (.ref b),some (.ref R),Z]/\Bk T.c_Book H' b d m w y (zdj "settled" ts ((zaF (zaE y) ts ts.length).take i))/\H' R=some (.lst ((zaF (zaE y) ts ts.length).map V.int))/\∀c o,c≠d->H1 c=some o->H' c=some o) ⟨_,rfl,by rw[List.take_zero,zne];exact hB.same e1,L,λc o _ h=>h⟩ ?_ ?_ ?_
 ·rintro i U H' _ ⟨_,_,_,h,_⟩;exact SqL.of h
 ·rintro i x U H' C ⟨Z,rfl,l,f,G⟩;obtain⟨n,hn,ex⟩:∃n,(zaF (zaE y) ts ts.length)[i]?=some n/\x=.int n:=by
   rw[yf]at C;cases h:(zaF (zaE y) ts ts.length)[i]? with
   | none=>rw[h]at C;cases C
   | some n=>rw[h]at C;exact⟨n,rfl,(yk C).symm⟩
  subst ex;obtain⟨j,t,hj,rfl,M,hP⟩:=(zeN (yg _)).mp (ym hn);obtain⟨⟨B,g⟩,_⟩:=id l;walk_at "x";have a0:=zcY (s := "settled") (S:=(zaF (zaE y) ts ts.length).take i) M;refine⟨b,d,m,w,y,_, "settled",_,_,rfl,l,⋯,by rw[Int.toNat_natCast];exact a0,λH2 I g2=>?_⟩;rw[Int.toNat_natCast]at I;have J:(if(j:Int)∈(zaF (zaE y) ts ts.length).take i then(t.1,("settled" : Str))else t).1=t.1:=by split<;>rfl
  rw[J,znS M,<- zak hn]at I;walk_at "x";exact⟨_,rfl,I,g2.at f ndn,λc o n h=>g2.at (G c o n h) n⟩
 ·rintro U H' ⟨Z,rfl,l,f,G⟩;rw[yc,List.take_length,zpk]at l;obtain⟨⟨B,g⟩,Y,O,X⟩:=id l;walk_at "x";have a3:d≠b:=zV O g (by intro z;cases z);refine⟨b,T.c_Book,B,_,_,rfl,g,cl_Book,na_Book_day,zlf,?_⟩;walk_at "x";refine⟨y,1,rfl,rfl,B,_,g,zrA _ _ _ _,?_⟩;rw[zr8];walk_at "x";refine k R _ ⟨⟨B,zQ⟩,Y,by rw[zN a3];exact O,IsTs.keep (λa ys z=>by rw[zN (zV z g (by intro q;cases q))];exact z) X⟩ (λc o n1 n2 h=>?_) ?_
  ·rw[zN n2];exact G c o n1 (e1 c o h)
  ·rw[zN (zV f g (by intro z;cases z))];exact f
def zfj(T:Txt K mg):T.d_Book_numbers_on.Ok P w mg base 1 (zld T.c_Book):=by
 refine T.d_Book_numbers_on.F.okN ze8 (by walk_at "l") λU A outer s H vs Q E G h=>?_;obtain⟨b,d,m,w,y,z,ts,rfl,I,hl,k⟩:=h;obtain⟨⟨dx,hb⟩,xs,hd,C⟩:=id I;have l:=C.length;have cl_Book:=T.cl_Book;have na_Book_deals:=T.na_Book_deals;refine⟨_,(zi (zp (zeo rfl (zaz K T.z_enumerate (za (show PE _ _ (zU K _ _)from zF (pv 0) rfl) zd)) (zam (Ni:=["number", "one", "day"]) (caps:=[none,none,some 1]) (by rfl)) (λS _ _ _ _ _=>(show PG _ _ (zaT K 2 _)from zat (n:=2) rfl (zy (zag (gi:=0) S (Or.inl rfl) rfl) (zy (zag (gi:=1) S (Or.inl rfl) rfl) zaj)))) (λ_ _ _ _ _=>(zdC (PW.pt (zbL (zm (qEq K G.units) (qIx K (pv 1) (zC (v:=.int 5) rfl T.g_DAY.h ⟨_,rfl⟩)) (pv 2) (nomark _)) (zby (zm (qNe K G.units) (qIx K (pv 1) (zC (v:=.int 7) rfl T.g_STATE.h ⟨_,rfl⟩)) zH (nomark _))))))) (λ_ _ _ _ _=>(pv 0))))),?_⟩;refine zo (σ0:=[some (.ref b),some (.int z)]) rfl ?_;walk_at "x";refine zas (zab (K:=K) (a:=d) (xs:=xs)) (λH' e=>SqL.of (e.at hd)) rfl (λi vs _=>vs=(zaF (onP z) ts i).map V.int) (λH' _=>rfl) ?_ ?_
 ·rintro i x D vs o o' H2 B hi hD e2 hv c rfl M ⟨t,v,rfl,N,j⟩;obtain⟨a,u,rfl,W,R⟩:=(C.same (e2.trans M)).get N;have X:B t=some (.tup [.int (i:Int),.ref a]):=j;have L:B a=some (.tup [.int u.1.p,.int u.1.q,.int u.1.w,.int u.1.u,.int u.1.a,.int u.1.y,.int u.1.r,.str u.2]):=R;have es:=zdN (P:=onP z) W;walk_at "x"
  ·rename_i h1 h2 Y Z J;rw[if_pos (by unfold onP;rw[decide_eq_true h1,decide_eq_true h2];rfl)]at es;refine⟨⟨_,_,rfl⟩,∅,_,J,by rw[ye];exact yb c,?_⟩;show _=(zaF (onP z) ts (i+1)).map V.int;rw[es,yj];rfl
  ·rename_i h1 h2;rw[if_neg (by unfold onP;rw[decide_eq_false (show ¬¬u.2=("broken" : Str)from λw=>w h2)];simp),List.append_nil]at es;refine⟨⟨_,_,rfl⟩,∅,_,∅,⋯,?_⟩;show _=(zaF (onP z) ts (i+1)).map V.int;rw[es]
  ·rename_i h1;rw[if_neg (by unfold onP;rw[decide_eq_false h1];simp),List.append_nil]at es;refine⟨⟨_,_,rfl⟩,∅,_,∅,⋯,?_⟩;show _=(zaF (onP z) ts (i+1)).map V.int;rw[es]
 rintro O H1 vs g e1 f c rfl;rw[l]at f;exact k O H1 g e1 f
def zgF(T:Txt K mg):T.d_Book_sheet_on.Ok P w mg base 2 (znH T.c_Book):=by
 refine T.d_Book_sheet_on.F.okN zds (by walk_at "l") λa5 A outer s H vs Q E hr h=>?_;obtain⟨b,d,m,w,y,z,ts,rfl,hB,hn,k⟩:=h;obtain⟨⟨dx,hb⟩,xs,hd,hI⟩:=id hB;have a8:=hI.length;have cl_Book:=T.cl_Book;have na_Book_deals:=T.na_Book_deals;refine⟨_,(ze (qS1 2 zds ["number", "self"] [none,some 0] (zT K (zL (pv 0) T.cl_Book T.d_Book_numbers_on.mt (zfj (base:=base) T) (hr.mono (by decide)) T.d_Book_numbers_on.b .nil (zaD zaA) (za (pv 1) zd))) (λ_ _ _ _ _=>(qIx K (show PE _ _ (zU K _ _)from zF (pv 1) rfl) (pv 0))))
 (zi (zp (qC1 ["one"] [none] (zT K (pv 2)) (λ_ _ _ _ _=>(zM (za (qIx K (pv 0) (zC (v:=.int 0) rfl T.g_PAYER.h ⟨_,rfl⟩)) (za (qIx K (pv 0) (zC (v:=.int 1) rfl T.g_PAYEE.h ⟨_,rfl⟩)) (za (qIx K (pv 0) (zC (v:=.int 6) rfl T.g_RANK.h ⟨_,rfl⟩)) (za (qIx K (pv 0) (zC (v:=.int 4) rfl T.g_AMOUNT.h ⟨_,rfl⟩)) zd)))))))))),?_⟩
 refine zo (σ0:=[some (.ref b),some (.int z),none]) rfl ?_;walk_at "x";refine⟨b,d,m,w,y,z,ts,rfl,hB,hn,λp H1 fp e1 hp=>?_⟩;have aa:=zgv (P:=onP z) (ts:=ts) ts.length;have hm:=λx=>zeN (P:=onP z) (ts:=ts) (x:=x) (yg ts.length);generalize hnu:zaF (onP z) ts ts.length=nu at *
 walk_at "x";refine zR (zS (K:=K) (a:=p) (xs:=nu.map V.int)) (λH' e=>SqL.of (e.at hp)) rfl (λi vs H'=>IsTs zbP H' vs (zcU ts (nu.take i))) (λH' _=>trivial) ?_ ?_
 ·rintro i x D vs o H2 J hi hD e2 hv L g C B;obtain⟨j,hj,ex⟩:∃n,nu[i]?=some n/\x=.int n:=by
   rw[yf]at B;cases h:nu[i]? with
   | none=>rw[h]at B;cases B
   | some n=>rw[h]at B;exact⟨n,rfl,(yk B).symm⟩
  subst ex;have a7:i<nu.length:=by simpa using hi
  obtain⟨jj,t,a4,rfl,I,_⟩:=(hm j).mp (ym hj);obtain⟨c,W,Z⟩:=hI.getI I;have a1:atI xs (jj:Int)=some (.ref c):=zal W;have e13:Same H J:=e1.trans (e2.trans C);have a9:=e13.at hb;have a3:=e13.at hd;have N:J c=some (.tup (zbP t)):=e13.at Z;have G:=g.same C;clear e13;walk_at "x";rename_i Y b4 h4;refine⟨⟨_,rfl⟩,∅,_,h4,by rw[ye];exact yb L,?_⟩;have ep:zcU ts (nu.take (i+1))=zcU ts (nu.take i)++[t]:=by
   rw[zak hj];unfold zcU;rw[yj,List.map_singleton,Int.toNat_natCast,zqZ I]
  show IsTs zbP Y _ (zcU ts (nu.take (i+1)));rw[ep];exact IsTs.app (f:=zbP) (b4.tup N) (LBut.isTs b4 G)
 rintro so H2 vs a2 e2 X L g;rw[yc,List.take_length]at g;have O:=g.length;have a0:(zcU ts nu).length=nu.length:=by unfold zcU;rw[yc]
 walk_at "x";refine zR (zS (K:=K) (a:=so) (xs:=vs)) (λH' e=>SqL.of (e.at X)) rfl (λi ws H'=>IsTs zdd H' ws ((zcU ts nu).take i |>.map zjy)) (λH' _=>trivial) ?_ ?_
 ·rintro i x D ws o J Y hi hD C hv hwl l e4 B;obtain⟨c,t,rfl,ht,hc⟩:=(g.same (C.trans e4)).get B;have a6:Y c=some (.tup [.int t.1.p,.int t.1.q,.int t.1.w,.int t.1.u,.int t.1.a,.int t.1.y,.int t.1.r,.str t.2]):=hc;have M:=l.same e4;walk_at "x";rename_i q H5 fq e5 hq H6 b6 h6;have U:H5 q=some (.tup (zdd (zjy t))):=hq;refine⟨⟨_,rfl⟩,∅,_,h6,by rw[ye];exact yb hwl,?_⟩;show IsTs zdd H6 _ (((zcU ts nu).take (i+1)).map zjy);rw[zak ht,yj];exact IsTs.app (f:=zdd) (b6.tup U) (LBut.isTs b6 (M.same e5))
 ·rintro sh J ws S C R hwl l;rw[O,List.take_length]at l;refine k sh J ws (Same.none S (e1.trans e2)) (e1.trans (e2.trans C)) R ?_;unfold zjH;rw[hnu];exact l
def zdq(T:Txt K mg):T.d_Book_position.Ok P w mg base 1 (zl9 T.c_Book):=by
 refine T.d_Book_position.F.okN sc_Book_position (by walk_at "l") λa1 A outer s H vs Q E D h=>?_;obtain⟨b,d,m,y,n,w,ts,rfl,S,hw,w1,k⟩:=h;obtain⟨⟨dx,hb⟩,xs,hd,R⟩:=id S;have cl_Book:=T.cl_Book;have na_Book_deals:=T.na_Book_deals;have na_Book_wares:=T.na_Book_wares;refine⟨_,(ze (zu 2 sc_Book_position (zw zaq (zO (za zh zd)) (show PE _ _ (zU K _ _)from zF (pv 0) rfl)))
 (ze (zai PassesOwn.never rfl (zT K (show PE _ _ (zU K _ _)from zF (pv 0) rfl)) (zD (i:=3) sc_Book_position.nd rfl (Or.inl rfl))
 (zi (zG (PW.pt (zbL (zm (qEq K D.units) (qIx K (pv 3) (zC (v:=.int 7) rfl T.g_STATE.h ⟨_,rfl⟩)) zH (nomark _)) (zby (zm (qEq K D.units) (qIx K (pv 3) (zC (v:=.int 0) rfl T.g_PAYER.h ⟨_,rfl⟩)) (pv 1) (nomark _)))))
 (zi (zaW (pv 2) (qIx K (pv 3) (zC (v:=.int 2) rfl T.g_WARE.h ⟨_,rfl⟩)) (show zbK _ (zbe K)from zaB) (qIx K (pv 3) (zC (v:=.int 3) rfl T.g_UNITS.h ⟨_,rfl⟩)) zb6 zaf))
 (zi (zG (PW.pt (zbL (zm (qEq K D.units) (qIx K (pv 3) (zC (v:=.int 7) rfl T.g_STATE.h ⟨_,rfl⟩)) zH (nomark _)) (zby (zm (qEq K D.units) (qIx K (pv 3) (zC (v:=.int 1) rfl T.g_PAYEE.h ⟨_,rfl⟩)) (pv 1) (nomark _)))))
 (zi (zaW (pv 2) (qIx K (pv 3) (zC (v:=.int 2) rfl T.g_WARE.h ⟨_,rfl⟩)) (show zbK _ (zbe K)from zaB) (qIx K (pv 3) (zC (v:=.int 3) rfl T.g_UNITS.h ⟨_,rfl⟩)) zc8 zaf))
 zA)))))
 (zi (zp (pv 2))))),?_⟩
 refine zo (σ0:=[some (.ref b),some (.int n),none,none]) rfl ?_;walk_at "x";rename_i z0 H1 a3 e1 W B H2 J e2 t;rw[Int.toNat_natCast]at t;have f:H B=none:=Same.none J e1;refine zbh (xs:=xs) (λi G H'=>∃I:Option V,G=[some (.ref b),some (.int n),some (.ref B),I]/\Same H H'/\H' B=some (.lst ((vec w (zaR (ts.take i) n)).map V.int))) ⟨_,rfl,e1.trans e2,t⟩ ?_ ?_ ?_
 ·rintro i G H' _ ⟨_,_,e,_⟩;exact SqL.of (e.at hd)
 ·rintro i x G C X ⟨I,rfl,o,c⟩;obtain⟨a,u,rfl,O,ha⟩:=(R.same o).get X;have U:C a=some (.tup [.int u.1.p,.int u.1.q,.int u.1.w,.int u.1.u,.int u.1.a,.int u.1.y,.int u.1.r,.str u.2]):=ha;obtain⟨a2,a0⟩:=hw u (ym O);have hpt:=znq O n;have same:zaR (ts.take (i+1)) n=zaR (ts.take i) n->C B=some (.lst ((vec w (zaR (ts.take (i+1)) n)).map V.int)):=λe=>by rw[e];exact c
  walk_at "x"
  ·rename_i h1 h2 Z N L;refine⟨_,rfl,N.same o f,?_⟩;rw[L];congr 3;refine zcX λj Y=>?_;rw[hpt];unfold zcs;by_cases g:u.1.w=(j:Int)
   ·have l:u.1.w.toNat=j:=by lia
    rw[l,if_pos rfl,if_pos ⟨h1,g⟩,if_pos h2]
   ·rw[if_neg (show ¬j=u.1.w.toNat by lia),if_neg (λz=>g z.2)];lia
  ·rename_i h1 h2 M Z N L;refine⟨_,rfl,N.same o f,?_⟩;rw[L];congr 3;refine zcX λj Y=>?_;rw[hpt];unfold zcs;by_cases g:u.1.w=(j:Int)
   ·have l:u.1.w.toNat=j:=by lia
    rw[l,if_pos rfl,if_pos ⟨h1,g⟩,if_neg h2,if_pos M];lia
   ·rw[if_neg (show ¬j=u.1.w.toNat by lia),if_neg (λz=>g z.2)];lia
  ·rename_i h1 h2 M;refine⟨_,rfl,o,same (funext λj=>?_)⟩;rw[hpt];unfold zcs;rw[if_neg h2,if_neg M];split<;>lia
  ·rename_i h1;refine⟨_,rfl,o,same (funext λj=>?_)⟩;rw[hpt];unfold zcs;rw[if_neg λz=>h1 z.1];lia
 ·rintro G C ⟨I,rfl,o,c⟩;rw[R.length,List.take_length]at c;walk_at "x";exact k B C f o c
def zfD(T:Txt K mg):T.d_losses_of.Ok P w base 1 (zgO K):=by
 refine T.d_losses_of.F.okN zke (by walk_at "l") λa1 A outer s H vs Q E hr h=>?_;obtain⟨p,l,as,k,f,F,m,rfl,hp,hl,hR,Y,O,hm,hk,R,q⟩:=h;refine⟨_,(zi (zp (qC1 ["day", "position"] [none,some 0] (zT K (pv 1)) (λ_ _ _ _ _=>(zbY zbk (zbZ K T.z_sum (za (qC2 K ["units", "move"] [none,none] (show PI _ _ _ (zpU K _)from znB rfl T.z_zip (za (pv 1) (za (pv 0) zd))) (λ_ _ _ _ _=>(zw zaq (pv 0) (pv 1)))) zd))))))),?_⟩;refine zo (σ0:=[some (.ref p),some (.ref l)]) rfl ?_;walk_at "x";refine zR (zS (K:=K) (a:=l) (xs:=as.map V.ref)) (λH' e=>SqL.of (e.at hl)) rfl (λi vs _=>vs=(vec i λi=>za0 k f (F i)).map V.int) (λH' _=>rfl) ?_ ?_
 ·rintro i x D vs o S H4 hi L C z r rfl e4 I;rw[yc]at hi;obtain⟨c,G⟩:=zP hi;have ex:x=.ref c:=by rw[yf,G]at I;exact(yk I).symm
  subst ex;have B:=hR.2 _ _ G;have X:=O i hi;walk_at "x";refine zas (zlZ (K:=K) (a:=p) (b:=c) (xs:=(vec k f).map V.int) (ys:=(vec k (F i)).map V.int)) (λH' e=>⟨SqL.of ∅,SqL.of ∅⟩) rfl (λj vs _=>vs=(vec j λj=>f j*F i j).map V.int) (λH' _=>rfl) ?_ ?_
  ·rintro j x Z vs o o' M J hj a2 e5 u d rfl e6 ⟨t,v,w',rfl,n,y,W⟩;have g:j<k:=by
    rw[yc,yc,zI,zI]at hj;lia
   rw[yf,zap g]at n y;cases n;cases y;obtain⟨f0,f1⟩:=Y j g;obtain⟨g0,g1⟩:=X j g;have a3:J t=some (.tup [.int (f j),.int (F i j)]):=W;have sf:sz (f j)<=200:=sz200 ⋯ ⋯;have sg:sz (F i j)<=200:=sz200 ⋯ ⋯;walk_at "x";rename_i H8 b8 N;refine⟨⟨_,_,rfl⟩,∅,_,N,by rw[ye];exact yb d,?_⟩;dsimp only;rw[zav,yj];rfl
  ·rintro Z M vs a0 e5 u d rfl;rw[yc,yc,zI,zI,Nat.min_self]at u;walk_at "x";rename_i J b6 U;refine⟨⟨_,rfl⟩,∅,_,U,by rw[ye];exact yb r,?_⟩;dsimp only;rw[zav,yj];rfl
 ·rintro D S vs L C z r rfl;rw[yc]at z;exact q _ _ L C z
def zjb(T:Txt K mg):T.d_worst_days.Ok P w base 2 (zh3 K lP lQ):=by
 have tx:=TabX.ex (K:=K) (mg:=mg) (base:=base) (x := "worst_days") T.cw_worst_days T.tw_worst_days T.tb_worst_days;have G:zgo K "worst_days" = T.tw_worst_days:=by unfold zgo;rw[T.tb_worst_days]
 refine T.d_worst_days.F.okC T.cc_worst_days zeR (λvs H Q E h=>?_) (λA outer s H vs Q E I h=>?_)
 ·obtain⟨p,l,as,k,f,F,m,n,rfl,_⟩:=h;rfl
 obtain⟨p,l,as,k,f,F,m,n,rfl,hp,hl,hR,hf,hF,hm,hk,h1,B,n0,hT,W⟩:=h;have al:as.length<=1000:=by lia
 refine⟨_,(ze (zu 3 zeR (qD T.d_losses_of (zfD (base:=base) T) I (za (pv 0) (za (pv 1) zd))))
 (zi (zp (zbu (show SlR _ (zeM K)from zd8) (show PE _ _ (tSK _ _ _ _ _ _)from zmA (k:=0) (j:=3) (x := "day") (y := "losses") (by rfl) T.z_sorted BT.sorted (za (zfq (show CallR _ _ zhk from zkX) rfl T.z_range BT.range (za (za5 K T.z_len (za (pv 3) zd)) zd)) zd) rfl tx.1 tx.2 rfl rfl (I.mono (by decide)) (λ_ _ _ _ _ _=>(zM (za (zbY zbk (qIx K (pv 1) (pv 0))) (za (pv 0) zd))))) zbQ (zbW (pv 2)))))),?_⟩
 refine zo (σ0:=[some (.ref p),some (.ref l),some (.int n),none]) rfl ?_;walk_at "x";rename_i lo H1 O e1 u;have v:TbW K "worst_days" lP lQ H1:=TbW.same e1 hT;have e:Tb H1 T.tw_worst_days lP lQ:=by rw[<- G];exact v
 have b:((vec as.length λi=>za0 k f (F i)).map V.int).length=as.length:=by rw[yc,zI]
 refine ztU (zuA (zux ?_));walk_at "x";rename_i r a0 fr e2 d;rw[b]at d;refine zX ?_;refine⟨Tb.same e e2,r,as.length,.ref lo,λi=>-za0 k f (F i),rfl,d,h1,B,rfl,λi H2 hi st=>?_,λl q X L st c a U Y=>?_⟩
 ·have C:H2 lo=some (.lst ((vec as.length λi=>za0 k f (F i)).map V.int)):=st.at (e2.at u);have R:atI ((vec as.length λi=>za0 k f (F i)).map V.int) (i:Int)=some (.int (za0 k f (F i))):=zal (by rw[yf,zap hi];rfl);walk_at "x";refine za9 (by first | decide | simp) λt D ft o J=>?_;exact⟨t,rfl,o,J⟩
 ·have Z:X l=some (.lst ((zc9 q).map V.int)):=by rw[Y];unfold zc9;rw[List.map_map];rfl
  have M:(zc9 q).length=as.length:=by rw[zgE];exact a.length_eq.trans List.length_range
  have N:n=((n.toNat:Nat):Int):=by lia
  walk_at "x";rename_i S D z o g;rw[N,zm5,zn6]at g;exact W S D q (Same.none (Same.none (st.none z) e2) e1) ((e1.trans e2).t.trans (st.trans o.t)) (TbW.same o (by unfold TbW;rw[G];exact c)) ⟨a,U⟩ g
def ze3(T:Txt K mg):T.d_check_rule.Ok P w base 1 (zj8 K T.c_NoRule):=by
 refine T.d_check_rule.F.okX zji (λvs H Q E h=>?_) (λi A outer s H vs Q E m h=>?_)
 ·obtain⟨ru,l,w,c,xs,rfl,_⟩:=h;rfl
 obtain⟨ru,l,w,c,xs,rfl,h1,h2,q1,q2⟩:=h;refine⟨_,(ze (zG (zm (show OpR _ (compareOp .NotIn) (rIn K true)from zcv) (qIx K (pv 0) zh) (zM (za zH (za zH zd))) (by with_unfolding_all rfl))
 (zi (zad rfl rfl T.m_NoRule (errOk.own T.e_NoRule) (za zH zd) zax))
 zA)
 (zi (zG (PW.pt (zbT (zm zba (qIx K (pv 0) zh) zh (nomark _)) (zbm (zm zbo (qIx K (pv 0) zh) (za5 K T.z_len (za (pv 1) zd)) (nomark _)))))
 (zi (zad rfl rfl T.m_NoRule (errOk.own T.e_NoRule) (za zH zd) zax))
 zA))),?_⟩
 refine zo (σ0:=[some (.ref ru),some (.ref l)]) rfl ?_;walk_at "x";refine za9 (by first | decide | simp) λt H1 k e1 g=>?_;refine zj9 (ws:=["worst", "mean"]) (SqT.of g) ?_;have e:=e1.at h1;have j:=e1.at h2;have a:w∈(["worst", "mean"]:List Str)↔(w = "worst" \/ w = "mean"):=by
  rw[List.mem_cons,yh]
 by_cases b:w∈(["worst", "mean"]:List Str)
 ·rw[decide_eq_true b];walk_at "x"
  ·rename_i f;exact⟨by decide,q2 (λz=>by have:=z.2.1;lia) _ e1⟩
  ·rename_i f d;exact⟨by decide,q2 (λz=>by have:=z.2.2;lia) _ e1⟩
  ·rename_i f d;exact q1 ⟨a.mp b,⋯,⋯⟩ _ e1
 ·rw[decide_eq_false b];walk_at "x";exact⟨by decide,q2 (λz=>b (a.mpr z.1)) _ e1⟩
def zhc(T:Txt K mg):T.d_need_of.Ok P w base 3 (zm9 K T.c_NoRule lP lQ):=by
 refine T.d_need_of.F.okX zct (λvs H Q E h=>?_) (λai A outer s H vs Q E W h=>?_)
 ·obtain⟨ru,p,l,w,c,as,k,f,F,m,rfl,_⟩:=h;rfl
 obtain⟨ru,p,l,w,c,as,k,f,F,m,rfl,a0,⟨hp,hl,hR,w1,w2,hm,hk,n1,n2,hT⟩,q1,q2⟩:=h;have Z:(as.map V.ref).length=as.length:=yc ..;refine⟨_,(ze (zJ (qE T.d_check_rule (ze3 (base:=base) T) W (za (pv 0) (za (pv 2) zd))))
 (ze (zu 3 zct (qD T.d_losses_of (zfD (base:=base) T) W (za (pv 1) (za (pv 2) zd))))
 (ze (qS1 4 zct ["day", "losses"] [none,some 3] (zT K (qD T.d_worst_days (zjb (base:=base) T) W (za (pv 1) (za (pv 2) (za (qIx K (pv 0) zh) zd))))) (λ_ _ _ _ _=>(qIx K (pv 1) (pv 0))))
 (zlM (zG (zm (qEq K W.units) (qIx K (pv 0) zh) zH (nomark _))
 (zi (zu 5 zct (zM (za (qIx K (pv 4) (zbY zbk zh)) (za zh zd)))))
 (zi (zu 5 zct (qE T.d_part (zlo (base:=base) T) W (za (zbZ K T.z_sum (za (pv 4) zd)) (za (za5 K T.z_len (za (pv 4) zd)) zd))))))
 (zi (zp (zbJ (zm zbo (qIx K (pv 5) zh) zh (nomark _)) (pv 5) (zM (za zh (za zh zd)))))))))),?_⟩
 refine zo (σ0:=[some (.ref ru),some (.ref p),some (.ref l),none,none,none]) rfl ?_;walk_at "x";refine zhE a0 hl (λok H1 e1=>?_) (λU H1 e1=>q2 (by rw[Z]at U;exact U) H1 e1);rw[Z]at ok;obtain⟨hw,c0,c1⟩:=ok;have O:=e1.at a0;have am:=e1.at hp;have an:=e1.at hl;have ah:=hR.same e1;have aj:TbW K "worst_days" lP lQ H1:=TbW.same e1 hT;walk_at "x";rename_i lo H2 al e2 R wd H3 q fwd B ac C a7;obtain⟨L,J⟩:∃L:Nat->Int,L=λi=>za0 k f (F i):=⟨_,rfl⟩
 rw[<- J]at C q1;have ad:(vec as.length λi=>za0 k f (F i))=vec as.length L:=by rw[J]
 rw[ad]at R;have af:as.length<=64:=by lia
 have a3:(q.take c.toNat).length=c.toNat:=by rw[List.length_take,C.len];lia
 have S:H3 lo=some (.lst ((vec as.length L).map V.int)):=B.lst R;have a1:H3 ru=some (.tup [.str w,.int c]):=B.tup (e2.at O);have a4:SameT H H3:=(e1.trans e2).t.trans B;refine zR (zS (K:=K) (a:=wd) (xs:=(zc9 (q.take c.toNat)).map V.int)) (λH' e=>SqL.of (e.at a7)) rfl (λi vs _=>vs=(vec i λi=>L (q.getD i 0)).map V.int) (λH' _=>rfl) ?_ ?_
 ·rintro i x D vs o H4 M hi hD N hv Y rfl u hx;rw[yc,zgE,a3]at hi;have ex:x=.int ((q.getD i 0:Nat):Int):=by
   rw[yf,zr6 ⋯,yn,List.getElem?_take,if_pos hi,<- yn]at hx;exact(yk hx).symm
  subst ex;have hq:=C.getLt ⋯ i;have ae:=(N.trans u).at S;have a6:atI ((vec as.length L).map V.int) ((q.getD i 0:Nat):Int)=some (.int (L (q.getD i 0))):=zal (by rw[yf,zap hq];rfl);walk_at "x";rename_i H6 b6 h6;refine⟨⟨_,rfl⟩,b6.same (N.trans u) hD,_,h6,by rw[ye];exact yb Y,?_⟩;dsimp only;rw[zav,yj];rfl
 rintro wl H4 vs ak N hwl Y rfl;rw[yc,zgE,a3]at hwl;have ag:=N.at a1;have hB:∀d,d<as.length->-9000000000000000000000000<=L d/\L d<=9000000000000000000000000:=λd hd=>by
  have:=zkt (k:=k) (f:=f) (g:=F d) hm w1 (w2 d hd)
  have h1:(k:Int)*1000000000000000000000000<=9*1000000000000000000000000:=Int.mul_le_mul_of_nonneg_right ⋯ (by decide);rw[J];dsimp only;lia
 have a2:SzQ (zda (decide (w = "mean")) L q c.toNat) 100 10:=ztn C ⋯ ⋯ (Nat.lt_of_lt_of_le n2 (by decide)) hB;have a5:("worst" : Str) ≠ "mean" := by decide
 have a6:atI ((vec c.toNat λi=>L (q.getD i 0)).map V.int) (-1)=some (.int (L (q.getD (c.toNat-1) 0))):=by
  obtain⟨c',aa⟩:∃c',c.toNat=c'+1:=⟨c.toNat-1,⋯⟩
  rw[aa,zav,yj];exact zkj _ _
 have ab:((vec c.toNat λi=>L (q.getD i 0)).map V.int).length=c.toNat:=by rw[yc,zI]
 walk_at "x";refine zot 5 (λv H'=>∃r:Addr,v=.ref r/\Same H4 H'/\IsQ H' r (zda (decide (w = "mean")) L q c.toNat)) ?_ ?_
 ·walk_at "x"
  ·rename_i G;refine zan (q:=((L (q.getD (c.toNat-1) 0):Int):Rat)) ⟨rfl,rfl⟩ ?_;intro r M u b;refine⟨_,rfl,r,rfl,u,?_⟩;unfold zda;rw[G,decide_eq_false a5,if_neg (by decide)];exact b
  ·rename_i G;have a8:w = "mean" := hw.resolve_left G;refine ziL ⋯ (ya (zW (n:=10) ⋯) (by decide)) ?_;intro r M u b;refine⟨_,rfl,r,rfl,u,?_⟩;unfold zda;rw[a8,decide_eq_true rfl,if_pos rfl,ziV _ _ _ (by rw[C.len];lia)];rw[zdF,ab]at b;exact b
 rintro _ M ⟨r,rfl,u,b⟩;have X:TbW K "worst_days" lP lQ M:=TbW.same (N.trans u) ac;have y:SameT H M:=a4.trans (N.trans u).t;walk_at "x"
 ·rename_i j;have I:pos0 (zda (decide (w = "mean")) L q c.toNat)=zda (decide (w = "mean")) L q c.toNat:=if_pos (nump.mp j);refine q1 ⟨hw,c0,c1⟩ r M q y X C ?_ (zlm a2 (by decide));unfold za4;rw[I];exact b
 ·rename_i j;refine zan (q:=(0:Rat)) ⟨rfl,rfl⟩ ?_;intro r' H6 e6 a9;have I:pos0 (zda (decide (w = "mean")) L q c.toNat)=0:=if_neg (λz=>j (nump.mpr z));refine q1 ⟨hw,c0,c1⟩ r' H6 q (y.trans e6.t) (TbW.same e6 X) C ?_ (zlm a2 (by decide));unfold za4;rw[I];exact a9
def zcu(T:Txt K mg):T.d_check_enough.Ok P w base 1 (zpV T.c_Poor):=by
 refine T.d_check_enough.F.okX zhI (λvs H Q E h=>?_) (λa A outer s H vs Q E c h=>?_)
 ·obtain⟨x,y,rfl,_⟩:=h;rfl
 obtain⟨x,y,rfl,b,q1⟩:=h;refine⟨_,(zi (zG (zm zba (pv 0) (pv 1) (nomark _))
 (zi (zad rfl rfl T.m_Poor (errOk.own T.e_Poor) (za zH zd) zax))
 zA)),?_⟩
 refine zo (σ0:=[some (.int x),some (.int y)]) rfl ?_;walk_at "x"
 ·rename_i h;exact⟨by decide,q1 h⟩
 ·rename_i h;exact b ⋯
def zcc(T:Txt K mg):T.d_check_covered.Ok P w base 2 (znV T.c_Bare):=by
 refine T.d_check_covered.F.okX zgq (λvs H Q E h=>?_) (λb A outer s H vs Q E c h=>?_)
 ·obtain⟨x,r,q,rfl,_⟩:=h;rfl
 obtain⟨x,r,q,rfl,g,i,a,d,q1⟩:=h;refine⟨_,(zi (zG (zcd K (qD T.d_under (zeH (base:=base) T) c (za (zM (za (pv 0) (za zh zd))) (za (pv 1) zd))))
 (zi (zad rfl rfl T.m_Bare (errOk.own T.e_Bare) (za zH zd) zax))
 zA)),?_⟩
 refine zo (σ0:=[some (.int x),some (.ref r)]) rfl ?_;walk_at "x";refine zan (q:=((x:Int):Rat)) ⟨rfl,rfl⟩ ?_;intro t H1 e1 e;have f:SzQ ((x:Int):Rat) 60000 60000:=⟨a,zW (by show(1:Int).natAbs<_;exact Nat.lt_of_lt_of_le (by decide:(1:Int).natAbs<2 ^ 1) (Nat.pow_le_pow_right (by decide) (by decide)))⟩
 walk_at "x"
 ·rename_i h;exact⟨by decide,q1 h _ e1⟩
 ·rename_i h;exact d h _ e1
def zjt(T:Txt K mg):T.d_House_need.Ok P w mg base 4 (zrH K T.c_House T.c_Book lP lQ):=by
 refine T.d_House_need.F.okX zjj (λvs H Q E h=>?_) (λD A outer s H vs Q E g h=>?_)
 ·obtain⟨h,dx,d,B,own,m,y,n,ts,bs,k,F,w,c,rfl,_⟩:=h;rfl
 obtain⟨h,dx,d,B,own,m,y,n,ts,bs,k,F,w,c,rfl,G,a,q⟩:=h;obtain⟨⟨z,u⟩,_⟩:=id a.bk;have cl_House:=T.cl_House;have na_House_rule:=T.na_House_rule;have na_House_book:=T.na_House_book;have na_House_moves:=T.na_House_moves;refine⟨_,(zi (zp (qE T.d_need_of (zhc (base:=base) T) g (za (show PE _ _ (zU K _ _)from zF (pv 0) rfl) (za (zL (show PE _ _ (zU K _ _)from zF (pv 0) rfl) T.cl_Book T.d_Book_position.mt (zdq (base:=base) T) (g.mono (by decide)) T.d_Book_position.b .nil (zaD zaA) (za (pv 1) zd)) (za (show PE _ _ (zU K _ _)from zF (pv 0) rfl) zd)))))),?_⟩;refine zo (σ0:=[some (.ref h),some (.int n)]) rfl ?_;walk_at "x";refine⟨_,d,_,_,n,k,ts,rfl,a.bk,a.tok,by have:=a.k9;lia,λp H1 fp e1 hp=>?_⟩;have I:=e1.at G;walk_at "x";have e:=a.same e1;have J:∀j,-1000000000<=zaR ts n j/\zaR ts n j<=1000000000:=λj=>by
  have h1:=zig a.tu n j;have h2:=a.tl;lia
 refine zky (m:=1000000000) e.ru ⟨hp,e.mv,e.rows,λj _=>J j,λi hi j x=>by have:=a.fw i hi j x;lia,by decide,a.k9,by have:=a.ok.2;lia,a.n64,e.tb⟩ a.ok λr H2 v L o C f l=>?_;exact q r H2 v (e1.t.trans L) o C f l
def zcZ(T:Txt K mg):T.d_House_need_with.Ok P w mg base 4 (zqM K T.c_House T.c_Book lP lQ):=by
 refine T.d_House_need_with.F.okX zcW (λvs H Q E h=>?_) (λU A outer s H vs Q E C h=>?_)
 ·obtain⟨h,dx,d,B,own,m,y,n,g,u,ts,bs,k,F,w,c,rfl,_⟩:=h;rfl
 obtain⟨h,dx,d,B,own,m,y,n,g,u,ts,bs,k,F,w,c,rfl,X,a,Z,w1,u0,u1,q⟩:=h;obtain⟨⟨O,J⟩,_⟩:=id a.bk;have cl_House:=T.cl_House;have na_House_rule:=T.na_House_rule;have na_House_book:=T.na_House_book;have na_House_moves:=T.na_House_moves;refine⟨_,(ze (zu 4 zcW (zL (show PE _ _ (zU K _ _)from zF (pv 0) rfl) T.cl_Book T.d_Book_position.mt (zdq (base:=base) T) (C.mono (by decide)) T.d_Book_position.b .nil (zaD zaA) (za (pv 1) zd)))
 (ze (zaW (pv 4) (pv 2) (show zbK _ (zbe K)from zaB) (pv 3) zb6 zaf)
 (zi (zp (qE T.d_need_of (zhc (base:=base) T) C (za (show PE _ _ (zU K _ _)from zF (pv 0) rfl) (za (pv 4) (za (show PE _ _ (zU K _ _)from zF (pv 0) rfl) zd)))))))),?_⟩
 refine zo (σ0:=[some (.ref h),some (.int n),some (.int g),some (.int u),none]) rfl ?_;walk_at "x";refine⟨_,d,_,_,n,k,ts,rfl,a.bk,a.tok,by have:=a.k9;lia,λp H1 fp e1 hp=>?_⟩;have Y:=e1.at X;have l:=a.same e1;walk_at "x";rename_i H2 b2 h2;obtain⟨_,W,f,_⟩:=id a.bk;have n1:d≠p:=λz=>by rw[z,fp]at f;cases f
 have n2:B.mv≠p:=λz=>by have:=a.mv;rw[z,fp]at this;cases this
 have n3:p∉bs:=a.rows.fresh fp;have e:=l.but b2 n1 n2 n3;have e2:=b2.same e1 fp;have D:∀j,-1000000000<=zaR ts n j/\zaR ts n j<=1000000000:=λj=>by
  have h1:=zig a.tu n j;have h2:=a.tl;lia
 have v:∀j,-1001000000<=zjN ts n g u j/\zjN ts n g u j<=1001000000:=λj=>by
  unfold zjN
  have:=D j
  have:=D g.toNat
  split<;>lia
 have o:H2 p=some (.lst ((vec k (zjN ts n g u)).map V.int)):=h2;refine zX ?_;refine zky (m:=1001000000) e.ru ⟨o,e.mv,e.rows,λj _=>v j,λi hi j N=>by have:=a.fw i hi j N;lia,by decide,a.k9,by have:=a.ok.2;lia,a.n64,e.tb⟩ a.ok λr S L M I R x G=>?_;exact q r S L (e2.t.trans M) I R x G
def zbv(T:Txt K mg):T.d_House_check_coins.Ok P w mg base 1 (zsp T.c_House T.c_NoMember T.c_NoTerms):=by
 refine T.d_House_check_coins.F.okX zeG (λvs H Q E h=>?_) (λb A outer s H vs Q E k h=>?_)
 ·obtain⟨h,B,own,m,c,n,P,L,rfl,_⟩:=h;rfl
 obtain⟨h,B,own,m,c,n,P,L,rfl,g,f,q1,q2⟩:=h;obtain⟨⟨dx,j⟩,i,d,e⟩:=id g;have a:((vec n P).map V.int).length=n:=by rw[yc,zI]
 have cl_House:=T.cl_House;have na_House_purses:=T.na_House_purses;refine⟨_,(ze (zG (PW.pt (zbT (zm zba (pv 1) zh (nomark _)) (zbm (zm zhz (pv 1) (za5 K T.z_len (za (show PE _ _ (zU K _ _)from zF (pv 0) rfl) zd)) (nomark _)))))
 (zi (zad rfl rfl T.m_NoMember (errOk.own T.e_NoMember) (za zH zd) zax))
 zA)
 (zi (zG (PW.pt (zbT (zm zba (pv 2) zh (nomark _)) (zbm (zm zbo (pv 2) (zC (v:=.int 1000000000) rfl T.g_MOST_COINS.h ⟨_,rfl⟩) (nomark _)))))
 (zi (zad rfl rfl T.m_NoTerms (errOk.own T.e_NoTerms) (za zH zd) zax))
 zA))),?_⟩
 refine zo (σ0:=[some (.ref h),some (.int m),some (.int c)]) rfl ?_;walk_at "x"
 all_goals first
  | exact f ⟨⋯,⋯⟩ ⟨⋯,⋯⟩
  | exact⟨by decide,q1 (λz=>by have:=z.1;have:=z.2;lia)⟩
  | exact⟨by decide,q2 ⟨⋯,⋯⟩ (λz=>by have:=z.1;have:=z.2;lia)⟩
def zi9(T:Txt K mg):T.d_House_take.Ok P w mg base 2 (zku T.c_House T.c_Poor):=by
 refine T.d_House_take.F.okX zjm (λvs H Q E h=>?_) (λg A outer s H vs Q E a h=>?_)
 ·obtain⟨h,B,own,m,c,n,P,L,rfl,_⟩:=h;rfl
 obtain⟨h,B,own,m,c,n,P,L,rfl,d,e,f,hp,k⟩:=h;obtain⟨⟨dx,o⟩,l,i,j⟩:=id d;have cl_House:=T.cl_House;have na_House_purses:=T.na_House_purses;refine⟨_,(ze (zJ (zL (pv 0) T.cl_House T.d_House_check_coins.mt (zbv (base:=base) T) (a.mono (by decide)) T.d_House_check_coins.b .nil zac (za (pv 1) (za (pv 2) zd))))
 (ze (zJ (qE T.d_check_enough (zcu (base:=base) T) a (za (qIx K (show PE _ _ (zU K _ _)from zF (pv 0) rfl) (pv 1)) (za (pv 2) zd))))
 (zi (zaW (show PE _ _ (zU K _ _)from zF (pv 0) rfl) (pv 1) (show zbK _ (zbe K)from zaB) (pv 2) zc8 zaf)))),?_⟩
 refine zo (σ0:=[some (.ref h),some (.int m),some (.int c)]) rfl ?_;walk_at "x";refine⟨h,B,own,m,c,n,P,L,rfl,d,λ_ _=>?_,λz=>absurd e z,λ_ z=>absurd f z⟩;have ⟨m0,m1⟩:=e;walk_at "x";exact⟨_,_,rfl,λz=>absurd hp ⋯,λ_=>k⟩
def zjR(T:Txt K mg):T.d_House_lay.Ok P w mg base 2 (zku T.c_House T.c_Poor):=by
 refine T.d_House_lay.F.okX zkk (λvs H Q E h=>?_) (λg A outer s H vs Q E a h=>?_)
 ·obtain⟨h,B,own,m,c,n,P,L,rfl,_⟩:=h;rfl
 obtain⟨h,B,own,m,c,n,P,L,rfl,d,e,f,hp,k⟩:=h;obtain⟨⟨dx,o⟩,l,i,j⟩:=id d;have cl_House:=T.cl_House;have na_House_purses:=T.na_House_purses;refine⟨_,(ze (zJ (zL (pv 0) T.cl_House T.d_House_check_coins.mt (zbv (base:=base) T) (a.mono (by decide)) T.d_House_check_coins.b .nil zac (za (pv 1) (za (pv 2) zd))))
 (ze (zJ (qE T.d_check_enough (zcu (base:=base) T) a (za (qIx K (show PE _ _ (zU K _ _)from zF (pv 0) rfl) (pv 1)) (za (pv 2) zd))))
 (ze (zaW (show PE _ _ (zU K _ _)from zF (pv 0) rfl) (pv 1) (show zbK _ (zbe K)from zaB) (pv 2) zc8 zaf)
 (zi (zaW (show PE _ _ (zU K _ _)from zF (pv 0) rfl) (pv 1) (show zbK _ (zbe K)from zaB) (pv 2) zb6 zaf))))),?_⟩
 refine zo (σ0:=[some (.ref h),some (.int m),some (.int c)]) rfl ?_;walk_at "x";refine⟨h,B,own,m,c,n,P,L,rfl,d,λ_ _=>?_,λz=>absurd e z,λ_ z=>absurd f z⟩;have ⟨m0,m1⟩:=e;walk_at "x";exact⟨_,_,rfl,λz=>absurd hp ⋯,λ_=>k⟩
def zeO(T:Txt K mg):T.d_House_free.Ok P w mg base 5 (zr7 K T.c_House T.c_Book lP lQ T.c_NoMember T.c_NoTerms T.c_Poor T.c_Bare):=by
 refine T.d_House_free.F.okX zjc (λvs H Q E h=>?_) (λa0 A outer s H vs Q E g h=>?_)
 ·obtain⟨h,d,B,own,m,c,M,y,n,P,L,ts,bs,k,F,w,N,rfl,_⟩:=h;rfl
 obtain⟨h,d,B,own,m,c,M,y,n,P,L,ts,bs,k,F,w,N,rfl,D,W,R,z,q1,q2,S⟩:=h;obtain⟨⟨dx,J⟩,o,j,V⟩:=id D;have cl_House:=T.cl_House;have na_House_purses:=T.na_House_purses;have na_House_pledges:=T.na_House_pledges;refine⟨_,(ze (zJ (zL (pv 0) T.cl_House T.d_House_check_coins.mt (zbv (base:=base) T) (g.mono (by decide)) T.d_House_check_coins.b .nil zac (za (pv 1) (za (pv 2) zd))))
 (ze (zJ (qE T.d_check_enough (zcu (base:=base) T) g (za (qIx K (show PE _ _ (zU K _ _)from zF (pv 0) rfl) (pv 1)) (za (pv 2) zd))))
 (ze (zJ (qE T.d_check_covered (zcc (base:=base) T) g (za (zw zbi (qIx K (show PE _ _ (zU K _ _)from zF (pv 0) rfl) (pv 1)) (pv 2)) (za (zL (pv 0) T.cl_House T.d_House_need.mt (zjt (base:=base) T) (g.mono (by decide)) T.d_House_need.b .nil zac (za (pv 1) zd)) zd))))
 (ze (zaW (show PE _ _ (zU K _ _)from zF (pv 0) rfl) (pv 1) (show zbK _ (zbe K)from zaB) (pv 2) zc8 zaf)
 (zi (zaW (show PE _ _ (zU K _ _)from zF (pv 0) rfl) (pv 1) (show zbK _ (zbe K)from zaB) (pv 2) zb6 zaf)))))),?_⟩
 refine zo (σ0:=[some (.ref h),some (.int m),some (.int c)]) rfl ?_;walk_at "x";refine⟨h,B,own,m,c,n,P,L,rfl,D,λe f=>?_,q1,q2⟩;have ⟨m0,m1⟩:=e;walk_at "x";refine⟨_,_,rfl,λhle=>?_,λa=>S e f a⟩;walk_at "x";refine⟨h,dx,d,B,own,M,y,m,ts,bs,k,F,w,N,rfl,J,W,λr H1 q p I G i u=>?_⟩;walk_at "x";refine⟨_,r,_,rfl,i,u.mono (by decide) (by decide),R e f,λl H2 e2=>?_,λa H2 e2=>?_⟩
 ·obtain⟨qb,X⟩:=z e f hle H2 q (p.trans e2.t) (TbW.same e2 I) G;have v:SameT H H2:=p.trans e2.t;have Y:=v.ins J;have x:=v.lst o;have O:=v.lst j;walk_at "x";rename_i H3 Z C H4 b4 U;rw[Int.sub_eq_add_neg]at C;exact X l _ _ Z C b4 U
 ·exact(z e f hle H2 q (p.trans e2.t) (TbW.same e2 I) G).1 a
def zh0(T:Txt K mg):T.d_House_today.Ok P w mg base 2 (zo2 T.c_House T.c_Book):=by
 refine T.d_House_today.F.okN zh4 (by walk_at "l") λc A outer s H vs Q E f h=>?_;obtain⟨h,dx,d,B,own,m,w,y,ts,rfl,i,a,q⟩:=h;obtain⟨⟨g,e⟩,_⟩:=id a;have cl_House:=T.cl_House;have na_House_book:=T.na_House_book;refine⟨_,(zi (zp (zcM (show PE _ _ (zU K _ _)from zF (pv 0) rfl) T.cl_Book T.d_Book_today.mt (zeU (base:=base) T) (f.mono (by decide)) T.d_Book_today.b .nil (zaD zaA)))),?_⟩;refine zo (σ0:=[some (.ref h)]) rfl ?_;walk_at "x";exact q
def zhg(T:Txt K mg):T.d_House_report.Ok P w mg base 1 (znR T.c_House T.c_Unclosed):=by
 refine T.d_House_report.F.okX zhj (λvs H Q E h=>?_) (λa A outer s H vs Q E d h=>?_)
 ·obtain⟨h,dx,B,own,k,rfl,_⟩:=h;rfl
 obtain⟨h,dx,B,own,k,rfl,c,b,q⟩:=h;have cl_House:=T.cl_House;have na_House_reports:=T.na_House_reports;refine⟨_,(ze (zG (PW.pt (zbT (zm zba (pv 1) zh (nomark _)) (zbm (zm zhz (pv 1) (za5 K T.z_len (za (show PE _ _ (zU K _ _)from zF (pv 0) rfl) zd)) (nomark _)))))
 (zi (zad rfl rfl T.m_Unclosed (errOk.own T.e_Unclosed) (za zH zd) zax))
 zA)
 (zi (zp (qIx K (show PE _ _ (zU K _ _)from zF (pv 0) rfl) (pv 1))))),?_⟩
 refine zo (σ0:=[some (.ref h),some (.int k)]) rfl ?_;walk_at "x"
 all_goals first | exact⟨by decide,q⟩ | (exfalso;simp at *;lia)
def zcq(T:Txt K mg):T.d_House_strike.Ok P w mg base 5 (zkW K T.c_House T.c_Book lP lQ T.c_Out T.c_Bare):=by
 refine T.d_House_strike.F.okX zhH (λvs H Q E h=>?_) (λa9 A outer s H vs Q E j h=>?_)
 ·obtain⟨h,d,B,own,y,n,k,os,b1,b2,t,ts,rfl,_⟩:=h;rfl
 obtain⟨h,d,B,own,y,n,k,os,b1,b2,t,ts,rfl,⟨dx,hh⟩,hB,O,hou,J,R,q⟩:=h;obtain⟨⟨i,f⟩,_⟩:=id hB;have cl_House:=T.cl_House;have na_House_book:=T.na_House_book;have na_House_outs:=T.na_House_outs;have na_House_pledges:=T.na_House_pledges;obtain⟨⟨p0,p1⟩,⟨r0,r1⟩,pq⟩:=id O;have a6:atI (os.map V.bl) t.p=some (.bl b1):=zbl p0 (by rw[yf,J];rfl);have a3:atI (os.map V.bl) t.q=some (.bl b2):=zbl r0 (by rw[yf,R];rfl);refine⟨_,(ze (zJ (zL (show PE _ _ (zU K _ _)from zF (pv 0) rfl) T.cl_Book T.d_Book_check_members.mt (zcm (base:=base) T) (j.mono (by decide)) T.d_Book_check_members.b .nil zac (za (pv 1) (za (pv 2) zd))))
 (ze (zG (PW.pt (zbT (zcd K (qIx K (show PE _ _ (zU K _ _)from zF (pv 0) rfl) (pv 1))) (zbm (zcd K (qIx K (show PE _ _ (zU K _ _)from zF (pv 0) rfl) (pv 2))))))
 (zi (zad rfl rfl T.m_Out (errOk.own T.e_Out) (za zH zd) zax))
 zA)
 (ze (zJ (zL (show PE _ _ (zU K _ _)from zF (pv 0) rfl) T.cl_Book T.d_Book_check_terms.mt (zbA (base:=base) T) (j.mono (by decide)) T.d_Book_check_terms.b .nil zac (za (pv 3) (za (pv 4) (za (pv 5) (za (pv 6) (za (pv 7) zd)))))))
 (ze (zJ (qE T.d_check_covered (zcc (base:=base) T) j (za (qIx K (show PE _ _ (zU K _ _)from zF (pv 0) rfl) (pv 1)) (za (zL (pv 0) T.cl_House T.d_House_need_with.mt (zcZ (base:=base) T) (j.mono (by decide)) T.d_House_need_with.b .nil zac (za (pv 1) (za (pv 3) (za (pv 4) zd)))) zd))))
 (ze (zJ (qE T.d_check_covered (zcc (base:=base) T) j (za (qIx K (show PE _ _ (zU K _ _)from zF (pv 0) rfl) (pv 2)) (za (zL (pv 0) T.cl_House T.d_House_need_with.mt (zcZ (base:=base) T) (j.mono (by decide)) T.d_House_need_with.b .nil zac (za (pv 2) (za (pv 3) (za (zbY zbk (pv 4)) zd)))) zd))))
 (zi (zp (zL (show PE _ _ (zU K _ _)from zF (pv 0) rfl) T.cl_Book T.d_Book_strike.mt (zaK (base:=base) T) (j.mono (by decide)) T.d_Book_strike.b .nil zac (za (pv 1) (za (pv 2) (za (pv 3) (za (pv 4) (za (pv 5) (za (pv 6) (za (pv 7) zd))))))))))))))),?_⟩
 refine zo (σ0:=[some (.ref h),some (.int t.p),some (.int t.q),some (.int t.w),some (.int t.u),some (.int t.a),some (.int t.y),some (.int t.r)]) rfl ?_;walk_at "x";refine zX ?_;refine⟨_,i,d,_,_,_,t.p,t.q,rfl,f,.inl ⟨O,λH1 e1=>?_⟩⟩;have a1:=e1.at hh;have a4:=e1.at hou;have l:=e1.at f;rcases q with⟨hor,k⟩ | ⟨rfl,rfl,L,xs,bs,F,w,cr,hpl,hN,hd,hxl,hsz,ht,hty,qa,qb⟩
 ·walk_at "x"
  ·exact⟨by decide,k _ e1⟩
  ·exact⟨by decide,k _ e1⟩
  ·rename_i z1 z2;rw[z1,z2]at hor;exact absurd hor (by decide)
 have a5:=e1.at hpl;have X:=hN.same e1;walk_at "x";refine zX ?_;obtain⟨⟨w0,w1⟩,⟨u0,u1⟩,_⟩:=id ht;refine⟨_,i,d,_,_,_,t,rfl,l,.inl ⟨ht,hty,?_⟩⟩;walk_at "x";refine zX ?_;refine⟨h,dx,d,B,own,_,_,t.p,t.w,t.u,ts,bs,k,F,w,cr,rfl,a1,X,w0,w1,⋯,⋯,λr H2 G s2 t2 M Z U=>?_⟩;walk_at "x";refine zX ?_;have x:=e1.t.trans s2;refine⟨_,r,_,rfl,Z,U.mono (by decide) (by decide),hsz _ ⋯,λo z v=>?_,λg z v=>qa z G (x.trans v.t) (TbW.same v t2) M g⟩;have c:=x.trans v.t;have t3:TbW K "worst_days" lP lQ z:=TbW.same v t2;have I:=c.ins hh;have a7:=c.lst hpl;have a2:=hN.sameT c t3;walk_at "x";refine zX ?_;refine⟨h,dx,d,B,own,_,_,t.q,t.w,-t.u,ts,bs,k,F,w,cr,rfl,I,a2,w0,w1,⋯,⋯,λr2 H4 S s4 t4 a0 N W=>?_⟩;walk_at "x";refine zX ?_;have D:=c.trans s4;refine⟨_,r2,_,rfl,N,W.mono (by decide) (by decide),hsz _ ⋯,λa8 C e5=>?_,λg C e5=>absurd g ((qb z G c t3 M o).1 S a0)⟩;have e:=D.trans e5.t;have t5:TbW K "worst_days" lP lQ C:=TbW.same e5 t4;have aa:=e.ins hh;have m:=e.ins f;have Y:=e.lst hd;walk_at "x";refine zX ?_;refine⟨_,i,d,_,_,_,t,xs,rfl,m,Y,hxl,.inl ⟨?_,λa H6 H7 e6 ha b7 h7=>?_⟩⟩
 ·unfold zcf;rw[if_neg (not_not_intro O),if_neg (not_not_intro ht),if_neg ⋯]
 ·walk_at "x";exact(qb C G e t5 M o).2 a H6 H7 e6 ha b7 h7
def zrP{r:Addr}{rows:List Addr}{F:Nat->Nat->Int}(N:H r=some (.lst (rows.map V.ref)))(E:Rows H rows k F)(y:0<k)(R:rows.length<=1000)(P:k<=1000)(J:zb9 [none] σ=[none])(q:∀D H' (bs:List Addr),H D=none->Same H H'->H' D=some (.lst (bs.map V.ref))->bs.length=rows.length->Rows H' bs k F->(∀b∈bs,H b=none)->D∉bs->Q (.ref D) H'):zeJ (Itl K r) [none] (zbO 0) zfo (tCB (zdm K) (zjx (zj3 0) zfA)) σ Q H:=by
 refine zR (zS (K:=K) (a:=r) (xs:=rows.map V.ref)) (λH' e=>SqL.of (e.at N)) J (λi vs H'=>∃bs:List Addr,vs=bs.map V.ref/\bs.length=i/\Rows H' bs k F/\∀b∈bs,H b=none) (λH' _=>⟨[],rfl,rfl,⟨List.nodup_nil,λi a h=>nomatch h⟩,λb j=>nomatch j⟩) ?_ ?_
 ·rintro i x D vs o S v hi u O B t ⟨bs,rfl,f,d,g⟩ l A;rw[yc]at hi;obtain⟨c,z⟩:=zP hi;have ex:x=.ref c:=by rw[yf,z]at A;exact(yk A).symm
  subst ex;have w:=E.2 _ _ z;have G:(bs.map V.ref).length<=1000:=by rw[yc];lia
  walk_at "x";rename_i p T fp I hp U C L;have s:D∉bs:=d.ne y B;have n:p≠D:=zbX fp (l.at B);have m:H p=none:=Same.none fp (O.trans l);subst f;refine⟨⟨_,rfl⟩,∅,_,L,by rw[ye];exact yb t,bs++[p],by rw[yj];rfl,by rw[ye];rfl,Rows.app ((d.same (l.trans I)).but C s) ((d.same l).fresh fp) (C.lst hp n),λb j=>?_⟩;rcases List.mem_append.mp j with j | j
  ·exact g b j
  ·rw[yh.mp j];exact m
 ·rintro D v us M l u _ ⟨bs,rfl,f,d,g⟩;rw[yc]at f;exact q D v bs M l u f d g (d.ne y u)
def zdg(T:Txt K mg):T.d_House___init__.Ok P w mg base 3 (zqY K T.c_House T.c_Book T.c_NoRule T.c_NoLayer):=by
 refine T.d_House___init__.F.okX zf3 (λvs H Q E h=>?_) (λdk A outer s H vs Q E hr h=>?_)
 ·obtain⟨p,dx,ms,mo,ru,od,us,xs,as,k,F,w,c,ws,own,rfl,_⟩:=h;rfl
 obtain⟨p,dx,ms,mo,ru,od,us,xs,as,k,F,w,c,ws,own,rfl,hp,m,hI,dn,M,hR,dm,dd,k0,k1,ak,ag,hwl,q0,q1,q2⟩:=h;have au:(as.map V.ref).length=as.length:=yc ..;have B:=hI.length;have d7:Stk p H H []:=Stk.nil (zao hp);have y:ms≠p:=zV m hp (by intro z;cases z);have c2:mo≠p:=zV M hp (by intro z;cases z);have cc:ru≠p:=zV ak hp (by intro z;cases z);have nod:od≠p:=zV ag hp (by intro z;cases z);refine⟨_,(ze (zJ (qE T.d_check_rule (ze3 (base:=base) T) hr (za (pv 3) (za (pv 2) zd))))
 (ze (zJ (qE T.d_check_order (zer (base:=base) T) hr (za (pv 4) zd)))
 (ze (show PS _ _ (zbG K _ _ _)from za8 (pv 0) (qC1 ["coins"] [none] (zT K (pv 1)) (λ_ _ _ _ _=>(qIx K (pv 0) zh))) rfl)
 (ze (show PS _ _ (zbG K _ _ _)from za8 (pv 0) (qC1 ["coins"] [none] (zT K (pv 1)) (λ_ _ _ _ _=>(qIx K (pv 0) zh))) rfl)
 (ze (show PS _ _ (zbG K _ _ _)from za8 (pv 0) (qC1 ["coins"] [none] (zT K (pv 1)) (λ_ _ _ _ _=>(qIx K (pv 0) zh))) rfl)
 (ze (show PS _ _ (zbG K _ _ _)from za8 (pv 0) (pv 5) rfl)
 (ze (show PS _ _ (zbG K _ _ _)from za8 (pv 0) (qC1 ["moved"] [none] (zT K (pv 2)) (λ_ _ _ _ _=>(zgp K T.z_list (za (pv 0) zd)))) rfl)
 (ze (show PS _ _ (zbG K _ _ _)from za8 (pv 0) (zM (za (qIx K (pv 3) zh) (za (qIx K (pv 3) zh) zd))) rfl)
 (ze (show PS _ _ (zbG K _ _ _)from za8 (pv 0) (zgp K T.z_list (za (pv 4) zd)) rfl)
 (ze (show PS _ _ (zbG K _ _ _)from za8 (pv 0) (zfO T.mk_Book (zdB (base:=base) T) (hr.mono (by decide)) rfl T.m_Book T.d_Book___init__.b .nil (zaD zaA) (za (za5 K T.z_len (za (pv 1) zd)) (za (za5 K T.z_len (za (qIx K (pv 2) zh) zd)) zd))) rfl)
 (ze (show PS _ _ (zbG K _ _ _)from za8 (pv 0) (qC1 ["coins"] [none] (zT K (pv 1)) (λ_ _ _ _ _=>zeu)) rfl)
 (zi (show PS _ _ (zbG K _ _ _)from za8 (pv 0) (zO zd) rfl))))))))))))),?_⟩
 refine zo (σ0:=[some (.ref p),some (.ref ms),some (.ref mo),some (.ref ru),some (.ref od),some (.int own)]) rfl ?_;walk_at "x";refine zhE ak M (λok H1 e1=>?_) (λav H1 e1=>q1 (by rw[au]at av;exact av) H1 e1);rw[au]at ok;walk_at "x";refine⟨od,ws,rfl,SqL.of (e1.at ag),hwl,?_⟩;by_cases hO:OkO ws
 case neg=>exact .inr ⟨hO,λH2 e2=>q2 ok hO _ (e1.trans e2)⟩
 refine .inl ⟨hO,λH2 e2=>?_⟩;have a6:=(d7.same e1).same e2;have cm:=(e1.trans e2).at hp;walk_at "x";have bc:=a6.nb.at m y;refine zR (zS (K:=K) (a:=ms) (xs:=us)) (λH' e=>SqL.of (e.at bc)) rfl (λi vs _=>vs=(vec i λi=>(xs.getD i (0,0,0)).1).map V.int) (λH' _=>rfl) ?_ ?_
 ·rintro i x D vs o G G' hi hD I hv j rfl g X;obtain⟨a,u,rfl,hu,J⟩:=hI.get X;have t:a≠p:=zV J hp (by intro z;cases z);have bh:G' a=some (.tup [.int u.1,.int u.2.1,.int u.2.2]):=(I.trans g).at (a6.nb.at J t);have a7:=g.at hv;walk_at "x";rename_i G6 C h6;refine⟨⟨_,rfl⟩,C.same (I.trans g) hD,_,h6,by rw[ye];exact yb j,?_⟩;dsimp only;rw[zav,yj,yn,hu];rfl
 rintro pu H3 vs cr e3 am _ rfl;rw[B]at am;have ce:=a6.new cr e3 (zao am);have d1:=e3.at cm;walk_at "x";refine zaY d1 T.cl_House T.na_House_purses (by show 0<1000;decide) λH4 b4 bv=>?_;have an:=ce.keep b4.nb (zao bv);have c4:NB p H3 H4:=b4.nb;have az:=an.nb.at m y;walk_at "x";refine zR (zS (K:=K) (a:=ms) (xs:=us)) (λH' e=>SqL.of (e.at az)) rfl (λi vs _=>vs=(vec i λi=>(xs.getD i (0,0,0)).2.1).map V.int) (λH' _=>rfl) ?_ ?_
 ·rintro i x D vs o G G' hi hD I hv j rfl g X;obtain⟨a,u,rfl,hu,J⟩:=hI.get X;have t:a≠p:=zV J hp (by intro z;cases z);have bh:G' a=some (.tup [.int u.1,.int u.2.1,.int u.2.2]):=(I.trans g).at (an.nb.at J t);have a7:=g.at hv;walk_at "x";rename_i G6 C h6;refine⟨⟨_,rfl⟩,C.same (I.trans g) hD,_,h6,by rw[ye];exact yb j,?_⟩;dsimp only;rw[zav,yj,yn,hu];rfl
 rintro pl H5 vs ca g ac _ rfl;rw[B]at ac;have ch:=an.new ca g (zao ac);have d0:=g.at bv;walk_at "x";refine zaY d0 T.cl_House T.na_House_pledges (by exact Nat.lt_of_le_of_lt (zt _ _ []) (by decide:1<1000)) λH6 C bi=>?_;have ai:=ch.keep C.nb (zao bi);have c6:NB p H5 H6:=C.nb;have c7:=ai.nb.at m y;walk_at "x";refine zR (zS (K:=K) (a:=ms) (xs:=us)) (λH' e=>SqL.of (e.at c7)) rfl (λi vs _=>vs=(vec i λi=>(xs.getD i (0,0,0)).2.2).map V.int) (λH' _=>rfl) ?_ ?_
 ·rintro i x D vs o G G' hi hD I hv j rfl g X;obtain⟨a,u,rfl,hu,J⟩:=hI.get X;have t:a≠p:=zV J hp (by intro z;cases z);have bh:G' a=some (.tup [.int u.1,.int u.2.1,.int u.2.2]):=(I.trans g).at (ai.nb.at J t);have a7:=g.at hv;walk_at "x";rename_i G6 C h6;refine⟨⟨_,rfl⟩,C.same (I.trans g) hD,_,h6,by rw[ye];exact yb j,?_⟩;dsimp only;rw[zav,yj,yn,hu];rfl
 rintro sh H7 vs cj e7 a2 _ rfl;rw[B]at a2;have d9:=ai.new cj e7 (zao a2);have cf:=e7.at bi;walk_at "x";refine zaY cf T.cl_House T.na_House_shares (by exact Nat.lt_of_le_of_lt (ya (zt _ _ _) (yb (zt _ _ []))) (by decide:2<1000)) λH8 b8 bp=>?_;have d2:=d9.keep b8.nb (zao bp);have c8:NB p H7 H8:=b8.nb;walk_at "x";refine zaY bp T.cl_House T.na_House_kept (by exact Nat.lt_of_le_of_lt (ya (zt _ _ _) (yb (ya (zt _ _ _) (yb (zt _ _ []))))) (by decide:3<1000)) λH9 b9 b2=>?_;have ah:=d2.keep b9.nb (zao b2);have aw:=ah.nb.at M c2;walk_at "x";have cn:Rows H9 as k F:=⟨hR.1,λi a e=>ah.nb.at (hR.2 i a e) (zV (hR.2 i a e) hp (by intro z;cases z))⟩
 refine zrP aw cn k0 dd k1 rfl λmv be bs cw af b0 ct r cp dc=>?_;have bf:Stk p H be (bs++[mv,sh,pl,pu]):=by
  have s1:=ah.more (bs:=bs++[mv]) (λb n=>(List.mem_append.mp n).elim (cp b) λh=>by rw[yh.mp h];exact cw) (List.nodup_append.mpr ⟨r.1,List.nodup_cons.mpr ⟨by simp,List.nodup_nil⟩,λa J b n z=>dc (by rw[<- yh.mp n,<- z];exact J)⟩) af (λb n=>(List.mem_append.mp n).elim (λh=>by
   obtain⟨i,hi,e⟩:=List.getElem_of_mem h;exact zao (r.2 i b (by rw[List.getElem?_eq_getElem hi,e]))) λh=>by rw[yh.mp h];exact zao b0)
  rw[List.append_assoc]at s1;exact s1
 have Y:=af.at b2;walk_at "x";refine zaY Y T.cl_House T.na_House_moves (by exact Nat.lt_of_le_of_lt (ya (zt _ _ _) (yb (ya (zt _ _ _) (yb (ya (zt _ _ _) (yb (zt _ _ []))))))) (by decide:4<1000)) λdh bw W=>?_;have U:=bf.keep bw.nb (zao W);have ci:=U.nb.at ak cc;walk_at "x";refine za9 (by first | decide | simp) λrr db cx ab b3=>?_;have bt:=U.new cx ab (zao b3);have bu:=ab.at W;walk_at "x";refine zaY bu T.cl_House T.na_House_rule (by exact Nat.lt_of_le_of_lt (ya (zt _ _ _) (yb (ya (zt _ _ _) (yb (ya (zt _ _ _) (yb (ya (zt _ _ _) (yb (zt _ _ []))))))))) (by decide:5<1000)) λcz ba a1=>?_;have N:=bt.keep ba.nb (zao a1);have cv:=N.nb.at ag nod;walk_at "x";rename_i oo cy cd al bg;have c5:=N.new cd al (zao bg);have ao:=al.at a1;refine zaY ao T.cl_House T.na_House_order (by exact Nat.lt_of_le_of_lt (ya (zt _ _ _) (yb (ya (zt _ _ _) (yb (ya (zt _ _ _) (yb (ya (zt _ _ _) (yb (ya (zt _ _ _) (yb (zt _ _ []))))))))))) (by decide:6<1000)) λL bd a0=>?_;have l:=c5.keep bd.nb (zao a0);have cs:=l.nb.at m y;have dg:=l.nb.at M c2;obtain⟨c0,a5⟩:=zP (show 0<as.length by lia);have dj:atI (as.map V.ref) 0=some (.ref c0):=zbl (by decide) (by rw[yf,show(0:Int).toNat=0 from rfl,a5];rfl);have c9:L c0=some (.lst ((vec k (F 0)).map V.int)):=l.nb.at (hR.2 _ _ a5) (zV (hR.2 _ _ a5) hp (by intro z;cases z));have de:(((vec k (F 0)).map V.int).length:Int)=k:=by rw[yc,zI]
 walk_at "x";refine zfX λbk bj dl bx ap c3=>?_;refine⟨bk,bj,_,_,rfl,c3,λd a4 fd d6 aj hd=>⟨rfl,?_⟩⟩;have a3:Same L a4:=λc o q=>d6 c o (zE q bx) (ap c o q);have da:L d=none:=Same.none fd ap;have bb:d≠bk:=λz=>by rw[z,c3]at fd;cases fd
 rw[B,de]at aj;have b7:Stk p H a4 (d :: bk :: oo :: rr :: (bs++[mv,sh,pl,pu])):=by
  refine l.more (bs:=[d,bk]) (λb n=>?_) (List.nodup_cons.mpr ⟨by rw[yh];exact bb,List.nodup_cons.mpr ⟨by simp,List.nodup_nil⟩⟩) a3 λb n=>?_
  ·rcases List.mem_cons.mp n with rfl | n
   ·exact da
   ·rw[yh.mp n];exact bx
  ·rcases List.mem_cons.mp n with rfl | n
   ·exact zao hd
   ·rw[yh.mp n];exact zao aj
 have bn:=a3.at a0;walk_at "x";refine zaY bn T.cl_House T.na_House_book (by exact Nat.lt_of_le_of_lt (ya (zt _ _ _) (yb (ya (zt _ _ _) (yb (ya (zt _ _ _) (yb (ya (zt _ _ _) (yb (ya (zt _ _ _) (yb (ya (zt _ _ _) (yb (zt _ _ []))))))))))))) (by decide:7<1000)) λco aq O=>?_;have Z:=b7.keep aq.nb (zao O);have a8:=Z.nb.at m y;walk_at "x";refine zR (zS (K:=K) (a:=ms) (xs:=us)) (λH' e=>SqL.of (e.at a8)) rfl (λi vs _=>vs=(List.replicate i false).map V.bl) (λH' _=>rfl) ?_ ?_
 ·rintro i x D vs o G G' hi hD I hv j rfl g X;have a7:=g.at hv;walk_at "x";rename_i G6 C h6;refine⟨⟨_,rfl⟩,C.same (I.trans g) hD,_,h6,by rw[ye];exact yb j,?_⟩;dsimp only;rw[List.replicate_succ',yj];rfl
 rintro ou d3 vs di a9 hou _ rfl;rw[B]at hou;have ax:=Z.new di a9 (zao hou);have bq:=a9.at O;walk_at "x";refine zaY bq T.cl_House T.na_House_outs (by exact Nat.lt_of_le_of_lt (ya (zt _ _ _) (yb (ya (zt _ _ _) (yb (ya (zt _ _ _) (yb (ya (zt _ _ _) (yb (ya (zt _ _ _) (yb (ya (zt _ _ _) (yb (ya (zt _ _ _) (yb (zt _ _ []))))))))))))))) (by decide:8<1000)) λd4 ar S=>?_;have bz:=ax.keep ar.nb (zao S);walk_at "x";rename_i re df cg aa hre;have ay:=bz.new cg aa (zao hre);have bo:=aa.at S;refine zaY bo T.cl_House T.na_House_reports (by exact Nat.lt_of_le_of_lt (ya (zt _ _ _) (yb (ya (zt _ _ _) (yb (ya (zt _ _ _) (yb (ya (zt _ _ _) (yb (ya (zt _ _ _) (yb (ya (zt _ _ _) (yb (ya (zt _ _ _) (yb (ya (zt _ _ _) (yb (zt _ _ []))))))))))))))))) (by decide:9<1000)) λf bm R=>?_;have v:=ay.keep bm.nb (zao R);walk_at "x";have br:NB p df f:=bm.nb;have ck:NB p d4 f:=aa.nb.trans br;have c1:NB p d3 f:=ar.nb.trans ck;have cb:NB p co f:=a9.nb.trans c1;have ad:NB p a4 f:=aq.nb.trans cb;have cu:NB p L f:=a3.nb.trans ad;have b1:NB p cy f:=bd.nb.trans cu;have d5:NB p cz f:=al.nb.trans b1;have b5:NB p db f:=ba.nb.trans d5;have d8:NB p dh f:=ab.nb.trans b5;have ae:NB p be f:=bw.nb.trans d8;have cq:NB p H9 f:=af.nb.trans ae;have n9:NB p H8 f:=b9.nb.trans cq;have n8:NB p H7 f:=b8.nb.trans n9;have n7:NB p H6 f:=e7.nb.trans n8;have n6:NB p H5 f:=C.nb.trans n7;have n5:NB p H4 f:=g.nb.trans n6;have n4:NB p H3 f:=b4.nb.trans n5;have mp:∀x,x∈(re :: ou :: d :: bk :: oo :: rr :: (bs++[mv,sh,pl,pu]))->x≠p:=λx X=>(v.ex x X).2.1;refine q0 ok hO ⟨pu,pl,sh,mv,rr,oo,bk,ou,re⟩ d bs f v.nb R ct ⟨?_,?_,?_,?_,?_,?_,?_,?_,?_,?_,v⟩
 ·exact n4.at am (mp _ (by simp))
 ·exact n6.at ac (mp _ (by simp))
 ·exact n8.at a2 (mp _ (by simp))
 ·exact ae.at b0 (mp _ (by simp))
 ·exact⟨r.1,λi a e=>ae.at (r.2 i a e) (zV (r.2 i a e) Y (by intro z;cases z))⟩
 ·exact b5.at b3 (mp _ (by simp))
 ·exact b1.at bg (mp _ (by simp))
 ·exact⟨⟨bj,ad.at aj (mp _ (by simp))⟩,[],ad.at hd (mp _ (by simp)),trivial⟩
 ·exact c1.at hou (mp _ (by simp))
 ·exact br.at hre (mp _ (by simp))
def zjp(T:Txt K mg):T.d_House_bear.Ok P w mg base 1 (zp4 T.c_House):=by
 refine T.d_House_bear.F.okN sc_House_bear (by walk_at "l") λa1 A outer s H vs Q E hr h=>?_;obtain⟨h,dx,y,B,own,n,pf,P,S,row,tr,rfl,p,n1,n9,hrs,hL,hW,k⟩:=h;obtain⟨hh,a3,D,I,a2,a4,N⟩:=id p;have cl_House:=T.cl_House;have na_House_purses:=T.na_House_purses;have na_House_pledges:=T.na_House_pledges;have na_House_shares:=T.na_House_shares;have na_House_kept:=T.na_House_kept;refine⟨_,(zi (zai PassesOwn.never rfl (zT K (pv 1)) (show PG _ _ (zaT K 3 _)from zat (n:=3) rfl (zy (zD (i:=2) sc_House_bear.nd rfl (Or.inl rfl)) (zy (zD (i:=3) sc_House_bear.nd rfl (Or.inl rfl)) (zy (zD (i:=4) sc_House_bear.nd rfl (Or.inl rfl)) zaj))))
 (ze (zu 5 sc_House_bear (zbJ (zm (qEq K hr.units) (pv 2) zH (nomark _)) (show PE _ _ (zU K _ _)from zF (pv 0) rfl) (show PE _ _ (zU K _ _)from zF (pv 0) rfl)))
 (ze (zai PassesOwn.never rfl (zbc rfl T.z_range (za (za5 K T.z_len (za (show PE _ _ (zU K _ _)from zF (pv 0) rfl) zd)) zd)) (zD (i:=6) sc_House_bear.nd rfl (Or.inl rfl))
 (zi (zaW (pv 5) (pv 6) (show zbK _ (zbe K)from zaB) (qIx K (pv 4) (pv 6)) zc8 zaf)))
 (zi (show PS _ _ (zec K _ _ _ _)from zfm (pv 0) (qIx K (pv 4) (zbY zbk zh)) zsj)))))),?_⟩
 refine zo (σ0:=[some (.ref h),some (.ref y),none,none,none,none,none]) rfl ?_;walk_at "x";have r:H y=some (.lst ((tr.map λt=>t.1).map V.ref)):=by rw[List.map_map];exact hrs
 refine zbh (xs:=(tr.map λt=>t.1).map V.ref) (λi l H'=>∃(J C G R m:Option V) (a:Int) (P' v:Nat->Int),l=[some (.ref h),some (.ref y),J,C,G,R,m]/\KB [h,B.pl,B.sh] H H'/\H' h=some (.ins T.c_House dx (hfl B a))/\H' B.pl=some (.lst ((vec n P').map V.int))/\H' B.sh=some (.lst ((vec n v).map V.int))) ⟨_,_,_,_,_,own,P,S,rfl,KB.refl,hh,D,I⟩ ?_ ?_ ?_
 ·rintro i l H' _ ⟨_,_,_,_,_,_,_,_,_,e,_⟩;exact SqL.of (p.refs e n1 r)
 ·rintro i x l H1 u ⟨J,C,G,R,m,a,P',v,rfl,e1,q,g,d⟩;rw[yf,yf]at u;obtain⟨t,Y⟩:∃t,tr[i]?=some t:=by
   cases h:tr[i]? with
   | none=>rw[h]at u;cases u
   | some t=>exact⟨t,rfl⟩
  rw[Y]at u;cases u;obtain⟨r1,_,O⟩:=hL i t Y;have q1:=p.tup e1 r1;have q3:=p.ints e1 O (by rw[yc,ye,zI];simp);have X:=p.purses e1;have a0:=hW i;have a5:(((vec n pf).map V.int).length:Int)=n:=by rw[yc,zI]
  have U:((vec n (row i).f++[(row i).x]).map V.int).length≠n:=by rw[yc,ye,zI];simp
  have r5:∀j,j<n->atI ((vec n (row i).f++[(row i).x]).map V.int) ((0:Int)+(j:Int))=some (.int ((row i).f j)):=λj L=>zbl ⋯ (by rw[show((0:Int)+(j:Int)).toNat=j by lia,yf,List.getElem?_append_left (by rw[zI];exact L),zap L];rfl);have r6:atI ((vec n (row i).f++[(row i).x]).map V.int) (-1)=some (.int (row i).x):=by rw[yj];exact zkj _ _
  walk_at "x"
  try (refine zX ?_;walk_at "x")
  refine zei (λj l H'=>∃(m:Option V) (W:Nat->Int),l=[some (.ref h),some (.ref y),some (.str (row i).w),some (.ref t.2.1),some (.ref t.2.2),some (.ref B.sh),m]/\KB [h,B.pl,B.sh] H H'/\H' h=some (.ins T.c_House dx (hfl B a))/\H' B.pl=some (.lst ((vec n P').map V.int))/\H' B.sh=some (.lst ((vec n W).map V.int))) ⟨_,v,rfl,e1,q,g,d⟩ ?_ ?_
  ·rintro j l H2 L ⟨m,W,rfl,e2,b,c,o⟩;have q2:=p.ints e2 O U;have Z:=r5 j ⋯;walk_at "x";rename_i H3 M h3;exact⟨_,_,rfl,e2.lbut M (by simp),M.ins b,M.lst c N,h3⟩
  ·rintro l H2 ⟨m,W,rfl,e2,b,c,o⟩;have q2:=p.ints e2 O U;walk_at "x";refine⟨h,T.c_House,dx,_,_,rfl,b,cl_House,na_House_kept,zgz,?_⟩;walk_at "x";refine⟨a,_,rfl,rfl,dx,_,b,zjP,?_⟩;rw[zfl];walk_at "x";exact⟨_,_,_,_,_,_,_,_,rfl,e2.but But.upd (by simp),zQ,by rw[zN (zV c b (by intro z;cases z))];exact c,by rw[zN (zV o b (by intro z;cases z))];exact o⟩
 ·rintro l H1 ⟨J,C,G,R,m,a,P',v,rfl,e1,q,g,d⟩;walk_at "x";exact k a H1 e1 q
def zgA(T:Txt K mg):T.d_House_pay_out.Ok P w mg base 4 (zth T.c_House):=by
 refine T.d_House_pay_out.F.okN zgn (by walk_at "l") λa5 A outer s H vs Q E I h=>?_;obtain⟨h,dx,C,B,own,r,n,pf,rfl,Y,hen,hwe,n9,b,k⟩:=h;have cl_House:=T.cl_House;have na_House_purses:=T.na_House_purses;have na_House_kept:=T.na_House_kept;refine⟨_,(ze (show PS _ _ (zbG K _ _ _)from za8 (pv 0) (qC1 ["end"] [none] (zT K (pv 1)) (λ_ _ _ _ _=>(qD T.d_whole_of (zge (base:=base) T) I (za (pv 0) zd)))) rfl)
 (zi (show PS _ _ (zec K _ _ _ _)from zfm (pv 0) (qD T.d_whole_of (zge (base:=base) T) I (za (qD T.d_minus (zdw (base:=base) T) I (za (qD T.d_total (zkI (base:=base) T) I (za (pv 1) zd)) (za (zM (za (zbZ K T.z_sum (za (show PE _ _ (zU K _ _)from zF (pv 0) rfl) zd)) (za zh zd))) zd))) zd)) znQ))),?_⟩
 refine zo (σ0:=[some (.ref h),some (.ref C)]) rfl ?_;have hwl:r.length=n:=by rw[hwe.length];unfold zce;rw[yc,zI]
 have O:∀q∈zce (vec n pf),SzQ q 100 1:=λq d=>by
  obtain⟨p,hp,rfl⟩:=List.mem_map.mp d;obtain⟨i,hi,rfl⟩:=zrx hp;exact⟨zW (i:=pf i) (n:=100) (by have:=b i hi;lia),zbF⟩
 walk_at "x";refine zR (zS (K:=K) (a:=C) (xs:=r)) (λH' e=>SqL.of (e.at hen)) rfl (λi vs _=>vs=(vec i pf).map V.int) (λH' _=>rfl) ?_ ?_
 ·rintro i x D vs o H2 H3 hi hD e2 hv l rfl f hx;obtain⟨g,q,rfl,d,hg⟩:=(hwe.same (e2.trans f)).get hx;have y:i<n:=by lia
  unfold zce at d;rw[yf,zap y]at d;obtain rfl:=yk d;have a3:=f.at hv;have J:SzQ ((pf i:Int):Rat) 60000 8999:=⟨ya (zW (i:=pf i) (n:=50) (by have:=b i y;lia)) (by decide),ya zbF (by decide)⟩
  walk_at "x";refine zX ?_;refine⟨g,_,rfl,hg,J,?_⟩;walk_at "x";rename_i Z b5 G;refine⟨⟨_,rfl⟩,b5.same (e2.trans f) hD,_,G,by rw[ye];exact yb l,?_⟩;dsimp only;rw[zav,yj];congr 3;exact Int.ediv_one (pf i)
 rintro pu H1 vs a4 e1 v l rfl;rw[hwl]at v;walk_at "x";refine zaY (e1.at Y) cl_House na_House_purses zjP λH2 b2 h2=>?_;rw[zij]at h2;walk_at "x";refine⟨h,T.c_House,dx,_,_,rfl,h2,cl_House,na_House_kept,zgz,?_⟩;have e2:∀{a:Addr} {o:HO},H1 a=some o->(∀fs,o≠.ins T.c_House dx fs)->H2 a=some o:=λR hn=>b2.at R (zV R (e1.at Y) (hn _));have j:H2 C=some (.lst r):=e2 (e1.at hen) (λ_ z=>by cases z);have W:H2 pu=some (.lst ((vec n pf).map V.int)):=e2 v (λ_ z=>by cases z);have u:IsQs H2 r (zce (vec n pf)):=IsQs.keepT (λa xs z=>e2 z (λ_ z=>by cases z)) (hwe.same e1);walk_at "x";refine zX ?_;refine⟨C,r,_,rfl,SqL.of j,u,λq d=>(O q d).mono (by decide) (by decide),zlR (n:=100) (m:=1) (c:=9) (by decide) O (by rw[hwe.length]at hwl;lia) (by decide) (by decide),λtq H3 f t=>?_⟩;rw[zjY]at t;have a0:=znb n b;have M:SzQ ((zah (vec n pf):Int):Rat) 100 1:=⟨zW (i:=zah (vec n pf)) (n:=100) ⋯,zbF⟩
 have a1:OkQ ((zah (vec n pf):Int):Rat):=M.mono (by decide) (by decide);walk_at "x";refine zan (q:=((zah (vec n pf):Int):Rat)) ⟨rfl,rfl⟩ ?_;intro t2 H4 L a2;have S:IsQ H4 tq _:=L.at t;walk_at "x";rename_i p5 Z X G;rw[Rat.sub_self]at G;refine zX ?_;refine⟨p5,_,rfl,G,⟨zhv.1,ya zbF (by decide)⟩,?_⟩;have N:=(f.trans (L.trans X)).at h2;walk_at "x";refine⟨own,_,rfl,rfl,dx,_,N,zjP,?_⟩;rw[zfl];walk_at "x";refine k pu _ _ (λc o n q=>?_) zQ;have U:c≠h:=λz=>n (by rw[z];exact yh.mpr rfl);rw[zN U];exact(f.trans (L.trans X)).at (b2.at (e1.at q) U)
def zkp(T:Txt K mg):T.d_as_tuples.Ok P w base 5 (zqG K 5):=zeQ T 5
def zhW(T:Txt K mg):T.d_House_close.Ok P w mg base 9 (zmz K T.c_House T.c_Book lP lQ):=by
 refine T.d_House_close.F.okX sc_House_close (λvs H Q E h=>?_) (λbg A outer s H vs Q E Y h=>?_)
 ·obtain⟨h,dx,d,B,pf,P,S,rfl,_⟩:=h;rfl
 obtain⟨h,dx,d,B,pf,P,S,rfl,⟨hE,hB,aw,hre,g,a2,as⟩,s0,s9,z0,z9,k⟩:=h;obtain⟨hh,b6,ao,a8,_,_,_⟩:=id hE;obtain⟨⟨al,O⟩,xs,hd,hI⟩:=id hB;obtain⟨ax,rfl⟩:∃ax,xs=[V.ref ax]:=by
  match xs,hI with
  | [v],⟨⟨a,e,_⟩,_⟩=>exact⟨a,by rw[e]⟩
 have cl_House:=T.cl_House;have na_House_book:=T.na_House_book;have na_House_purses:=T.na_House_purses;have na_House_pledges:=T.na_House_pledges;have na_House_shares:=T.na_House_shares;have na_House_kept:=T.na_House_kept;have na_House_order:=T.na_House_order;have na_House_outs:=T.na_House_outs;have na_House_reports:=T.na_House_reports;refine⟨_,(ze (zu 1 sc_House_close (zcM (show PE _ _ (zU K _ _)from zF (pv 0) rfl) T.cl_Book T.d_Book_today.mt (zeU (base:=base) T) (Y.mono (by decide)) T.d_Book_today.b .nil (zaD zaA)))
 (ze (zu 2 sc_House_close (zL (show PE _ _ (zU K _ _)from zF (pv 0) rfl) T.cl_Book T.d_Book_sheet_on.mt (zgF (base:=base) T) (Y.mono (by decide)) T.d_Book_sheet_on.b .nil (zaD zaA) (za (pv 1) zd)))
 (ze (zu 3 sc_House_close (qE T.d_settled_day (zhS (base:=base) T) Y (za (pv 2) (za (show PE _ _ (zU K _ _)from zF (pv 0) rfl) (za (show PE _ _ (zU K _ _)from zF (pv 0) rfl) (za (show PE _ _ (zU K _ _)from zF (pv 0) rfl) (za (show PE _ _ (zU K _ _)from zF (pv 0) rfl) (za (show PE _ _ (zU K _ _)from zF (pv 0) rfl) zd))))))))
 (ze (zu 4 sc_House_close (qD T.d_as_tuples (zkp (base:=base) T) Y (za (zw (zaw K) (zM (za (pv 1) (za (pv 2) zd))) (pv 3)) zd)))
 (ze (zJ (zL (pv 0) T.cl_House T.d_House_bear.mt (zjp (base:=base) T) (Y.mono (by decide)) T.d_House_bear.b .nil (zaD zaA) (za (qIx K (pv 3) zh) zd)))
 (ze (zJ (zL (pv 0) T.cl_House T.d_House_pay_out.mt (zgA (base:=base) T) (Y.mono (by decide)) T.d_House_pay_out.b .nil (zaD zaA) (za (qIx K (pv 3) zh) zd)))
 (ze (zJ (zcM (show PE _ _ (zU K _ _)from zF (pv 0) rfl) T.cl_Book T.d_Book_close.mt (zeV (base:=base) T) (Y.mono (by decide)) T.d_Book_close.b .nil (zaD zaA)))
 (ze (zai PassesOwn.leaving rfl (zT K (qIx K (pv 3) zh)) (zD (i:=5) sc_House_close.nd rfl (Or.inl rfl))
 (ze (zc4 zeu (zc3 (show PE _ _ (zU K _ _)from zF (pv 0) rfl) (pv 5) zaf))
 (zi (zJ (zL (show PE _ _ (zU K _ _)from zF (pv 0) rfl) T.cl_Book T.d_Book_break_all.mt (zf1 (base:=base) T) (Y.mono (by decide)) T.d_Book_break_all.b .nil (zaD zaA) (za (pv 5) zd))))))
 (ze (zJ (qAp K (show PE _ _ (zU K _ _)from zF (pv 0) rfl) (za (pv 4) zd)))
 (zi (zp (pv 4)))))))))))),?_⟩
 refine zo (σ0:=[some (.ref h),none,none,none,none,none]) rfl ?_;walk_at "x";refine⟨_,d,_,_,_,0,_,rfl,hB,by show 1<=1000;decide,λst H1 us bi e1 a5 a4=>?_⟩;rw[sheet83]at a4;walk_at "x";refine zX ?_;refine⟨st,B.pu,B.pl,B.sh,B.od,pf 0,pf 1,vec 2 S,rfl,⟨us,SqL.of a5,a4⟩,e1.at b6,e1.at a8,e1.at aw,s0,s9,z0,z9,?_⟩;intro pt ga p0 rs re le la en ou tt gi bo wl we H2 e2 a6;have ad:=a6.hpt;have a7:=e2.at a5;walk_at "x";refine za9 (by first | decide | simp) λtp H3 bj e3 az=>?_;walk_at "x";refine znw az (e3.at ad) (by simp) (by simp) (by simp) λp9 H4 bf e4 b0=>?_;have ai:=(a6.same e3).same e4;obtain⟨tr,b3,ab⟩:=ai.tr (e4.at (e3.at a7)) (((a4.same e2).same e3).same e4) b0;refine⟨_,tr,4,rfl,by decide,b3,ab,by with_unfolding_all rfl,by with_unfolding_all rfl,by with_unfolding_all rfl,by with_unfolding_all rfl,λyv H5 e5 bh=>?_⟩;have n:=ai.same e5;have f:Same H H5:=e1.trans (e2.trans (e3.trans (e4.trans e5)));have c:=hE.same f;have af:=n.hpt;walk_at "x";refine zX ?_;refine⟨h,dx,rs,B,0,2,pf,P,S,row0,[(tt,gi,bo)],rfl,c,by decide,by decide,n.lo.hrs,n.lo.rows,(λ_=>by show ¬("own" : Str) = "pledge";decide +kernel),λaj H6 X am=>?_⟩;have a0:=c.tup X af;obtain⟨bs,a9⟩:=n.hwe.refs;have ak:H6 en=some (.lst we):=by rw[a9];exact c.refs X (by decide) (by rw[<- a9];exact n.hen)
 have ae:=IsQs.keepT (λa xs z=>c.tup X z) n.hwe;walk_at "x";refine zX ?_;refine⟨h,dx,en,B,aj,we,2,λi=>if i=0 then 0 else pf 1+pf 0,rfl,am,ak,ae,by decide,λi _=>by dsimp only;split<;>lia,λar R H7 k7 ac=>?_⟩;have n7:∀{a:Addr} {o:HO},H6 a=some o->a≠h->H7 a=some o:=λz nz=>k7.at z (λm=>nz (yh.mp m));have M:=n7 a0 (zV a0 am (by intro z;cases z));have j:H7 B.bk=some (.ins T.c_Book al (bfl 2 1 0 d)):=n7 (X.at (f.at O) (not3 a2 (zV (f.at O) c.pl (by intro z;cases z)) (zV (f.at O) c.sh (by intro z;cases z)))) a2;have nl:∀{a:Addr} {l:List V},H5 a=some (.lst l)->l.length≠2->H7 a=some (.lst l):=λz hl=>n7 (c.ints X z hl) (zV z c.ob (by intro z;cases z));have L:=nl n.hou (by decide);have G:=nl (f.at hre) (by decide);have J:=nl (f.at hd) (by show 1≠2;decide);have u:H7 B.ou=some (.lst ([false,false].map V.bl)):=n7 (X.at (f.at g) (not3 (zV (f.at g) c.ob (by intro z;cases z)) (zV (f.at g) c.pl zqu) (zV (f.at g) c.sh zqu))) (zV (f.at g) c.ob (by intro z;cases z));have b2:∀a xs,H5 a=some (.tup xs)->H7 a=some (.tup xs):=λa xs z=>n7 (c.tup X z) (zV z c.ob (by intro z;cases z));have av:Bk T.c_Book H7 B.bk d 2 1 0 _:=⟨⟨al,j⟩,_,J,IsTs.keep b2 (hI.same f)⟩
 walk_at "x";refine⟨_,d,_,_,_,_,rfl,av,by show 1<=1000;decide,λp8 H8 b1 k8 bd=>?_⟩;have n8:∀{a:Addr} {o:HO},H7 a=some o->a≠d->a≠B.bk->H8 a=some o:=λz n1 n2=>k8 _ _ n1 n2 z;have nd:∀{a:Addr} {l:List V},H7 a=some (.lst l)->l.length≠1->a≠d:=λz hl=>zV z J (by intro q;exact hl (by rw[HO.lst.inj q];rfl));have b5:=n8 ac (zV ac J (by intro z;cases z)) a2.symm;have bc:=n8 M (zV M J (by intro z;cases z)) (zV M j (by intro z;cases z));have D:=n8 L (zV L J (by intro z;cases z)) (zV L j (by intro z;cases z));have a1:=n8 G (nd G (by decide)) (zV G j (by intro z;cases z));have p:=n8 u (nd u (by decide)) (zV u j (by intro z;cases z));have U:Bk T.c_Book H8 B.bk d 2 1 1 [((⟨0,1,0,1,pf 0+1,0,0⟩:T7),("settled" : Str))]:=b1;obtain⟨⟨ba,ag⟩,ys,b4,b7⟩:=id U;have an:KB [h,B.pl,B.sh,B.bk,B.re,B.ou,d] H H8:=λa o na z=>by
  simp only[List.mem_cons,List.not_mem_nil,or_false,not_or]at na;obtain⟨m1,m2,m3,m4,m5,m6,m7⟩:=na;exact n8 (n7 (X.at (f.at z) (not3 m1 m2 m3)) m1) m7 m4
 walk_at "x";refine zbh (xs:=[0].map V.int) (λi σ' H'=>∃f5:Option V,σ'=[some (.ref h),some (.int 0),some (.ref st),some (.ref pt),some yv,f5]/\(i=0->H'=H8)/\KB [h,B.pl,B.sh,B.bk,B.re,B.ou,d] H H'/\H' ou=some (.lst ([0].map V.int))/\(i=1->H' h=some (.ins T.c_House dx (hfl { B with pu:=ar } R))/\Bk T.c_Book H' B.bk d 2 1 1 [((⟨0,1,0,1,pf 0+1,0,0⟩:T7),("settled" : Str))]/\H' B.ou=some (.lst ([true,false].map V.bl))/\H' B.re=some (.lst []))) ⟨_,rfl,(λ_=>rfl),an,D,(λz=>nomatch z)⟩ ?_ ?_ ?_
 ·rintro i σ' H' _ ⟨_,_,_,_,z,_⟩;exact SqL.of z
 ·rintro i x σ' H' hx ⟨f5,rfl,h0,_,_⟩;obtain rfl:i=0:=by
   have:=(yi.mp hx).1
   simp at this;lia
  obtain rfl:=h0 rfl;cases hx;have aa:=b7.length;have n1:d≠B.ou:=zV b4 p (by intro z;rw[HO.lst.inj z]at aa;cases aa);have n2:ou≠B.ou:=zV D p (by intro z;cases z);have n3:B.re≠B.ou:=zV a1 p (by intro z;cases z);walk_at "x";refine zc7 p (show ixN 2 0=some 0 from rfl) λH9 b9 h9=>?_;have I:=U.but b9 n1;have a3:=b9.ins b5;have bb:=b9.ins ag;walk_at "x";refine⟨_,d,_,_,_,0,_,rfl,I,λt ht=>by rw[yh.mp ht];show ¬("settled" : Str) = "standing";decide +kernel,λp9 ah r=>?_⟩;walk_at "x";exact⟨_,rfl,(λz=>nomatch z),(an.lbut b9 (by simp)).trans r.kb,r.at (b9.lst D n2),λ_=>⟨r.at a3,I.same r,r.at h9,r.at (b9.lst a1 n3)⟩⟩
 ·rintro σ' H' ⟨f5,rfl,_,b8,_,h1⟩;obtain⟨a3,I,Z,C⟩:=h1 rfl;walk_at "x";refine zX ?_;refine zdr (l:=B.re) (y:=yv) C (by decide) λah N be=>?_;walk_at "x";have ay:B.ou≠B.re:=zV Z C (by intro z;cases z);have au:d≠B.re:=by
   obtain⟨_,ys,ap,aq⟩:=id I
   have:=aq.length
   exact zV ap C (by intro z;rw[HO.lst.inj z]at this;cases this)
  have W:=b8.lbut N (by simp);refine k yv ah _ R _ W (as.kb W λa ha=>?_) (N.ins a3) rfl rfl (I.but N au) (N.lst Z ay);simp only[List.mem_cons,List.not_mem_nil,or_false]at ha;rcases ha with rfl | rfl | rfl | rfl | rfl | rfl | rfl
  ·exact .inl ⟨_,_,_,hh⟩
  ·exact .inr ⟨_,ao⟩
  ·exact .inr ⟨_,a8⟩
  ·exact .inl ⟨_,_,_,O⟩
  ·exact .inr ⟨_,hre⟩
  ·exact .inr ⟨_,g⟩
  ·exact .inr ⟨_,hd⟩
def zjJ(T:Txt K mg):T.d__law_cell.Ok P w base 1 (zih K):=by
 refine T.d__law_cell.F.okN zjO (by walk_at "l") λc A outer s H vs Q E f h=>?_;obtain⟨a,ns,k,rfl,d,j,q⟩:=h;have e:(ns.map V.int).length=ns.length:=yc ..;unfold zm2 at q;refine⟨_,(ze (zG (zm (qEq K f.units) (za5 K T.z_len (za (pv 0) zd)) zh (nomark _))
 (zi (zp zh))
 zA)
 (zi (zp (qIx K (pv 0) (zw zbV (pv 1) (za5 K T.z_len (za (pv 0) zd))))))),?_⟩
 refine zo (σ0:=[some (.ref a),some (.int k)]) rfl ?_;walk_at "x"
 ·rw[if_pos ⋯]at q;exact q
 ·rename_i h;rw[if_neg ⋯]at q;have g:(0:Int)<((ns.map V.int).length:Int):=by lia
  have i:=Int.emod_nonneg k (b:=((ns.map V.int).length:Int)) ⋯;have l:=Int.emod_lt_of_pos k g;exact zmC d (zir i (v:=ns.getD (k%((ns.map V.int).length:Int)).toNat 0) (by rw[yn];rw[List.getElem?_eq_getElem ⋯];rfl)) (by rw[e];exact q)
def zaQ(T:Txt K mg):T.d__law_draw.Ok P w base 2 (zie K):=by
 refine T.d__law_draw.F.okN zjS (by walk_at "l") λc A outer s H vs Q E d h=>?_;obtain⟨a,ns,k,n,rfl,g,b,h1,f,q⟩:=h;refine⟨_,(zi (zp (zw zbV (zw zbV (zw zaq (zw (zaw K) (zw (zaw K) (zw zbV (qD T.d__law_cell (zjJ (base:=base) T) d (za (pv 0) (za (pv 1) zd))) zh) (zw zaq (pv 1) (pv 1))) zh) zh) zh) (pv 2)))),?_⟩;refine zo (σ0:=[some (.ref a),some (.int k),some (.int n)]) rfl ?_;have mk:CMulS k k:=CMulS.of (sz200 ⋯ ⋯) (sz200 ⋯ ⋯) (by decide);have e:0<=k*k/\k*k<=25000000:=⟨Int.mul_nonneg b b,Int.le_trans (Int.mul_le_mul h1 h1 b (by decide)) (by decide)⟩
 walk_at "x";exact q (Int.emod_nonneg _ ⋯) (Int.emod_lt_of_pos _ ⋯)
noncomputable def ds83 (T:Txt K mg):List Addr:=[T.c_TooMuch,T.c_NoLayer,T.c_NoMember,T.c_NoTerms,T.c_NoDeal,T.c_Closed,T.c_Gone,T.c_Settled,T.c_Standing,T.c_Out,T.c_Bare,T.c_Poor,T.c_Unclosed,T.c_NoPart,T.c_Ringed,T.c_NoAnswer,T.c_NoRule]
def zjs(T:Txt K mg):FnOkH P w K mg base 1 T.d__law_kinds.a T.d__law_kinds.fd ["_law_e"] (zoa (ds83 T)):=by
 refine T.d__law_kinds.F.okH zbw (λvs H Q E h=>?_) (λX A outer s H vs Q E hr h=>?_)
 ·obtain⟨er,A,n,rfl,_⟩:=h;rfl
 obtain⟨er,A,n,rfl,u,c,b,k⟩:=h;obtain⟨⟨ea,_,iq,iv⟩,_⟩:=zgl T.kt c b;have i0:=zaG (j:=0) T.kt T.kd c b rfl;have i1:=zaG (j:=1) T.kt T.kd c b rfl;have i2:=zaG (j:=2) T.kt T.kd c b rfl;have i3:=zaG (j:=3) T.kt T.kd c b rfl;have i4:=zaG (j:=4) T.kt T.kd c b rfl;have i5:=zaG (j:=5) T.kt T.kd c b rfl;have i6:=zaG (j:=6) T.kt T.kd c b rfl;have i7:=zaG (j:=7) T.kt T.kd c b rfl;have i8:=zaG (j:=8) T.kt T.kd c b rfl;have i9:=zaG (j:=9) T.kt T.kd c b rfl;have x:=zaG (j:=10) T.kt T.kd c b rfl;have C:=zaG (j:=11) T.kt T.kd c b rfl;have J:=zaG (j:=12) T.kt T.kd c b rfl;have L:=zaG (j:=13) T.kt T.kd c b rfl;have y:=zaG (j:=14) T.kt T.kd c b rfl;have D:=zaG (j:=15) T.kt T.kd c b rfl;have B:=zaG (j:=16) T.kt T.kd c b rfl;refine⟨_,(ze (zu 1 zbw (zO (za (zbq K T.z_isinstance (za (pv 0) (za (zC (v:=.ref T.c_TooMuch) rfl T.m_TooMuch rfl) zd))) (za (zbq K T.z_isinstance (za (pv 0) (za (zC (v:=.ref T.c_NoLayer) rfl T.m_NoLayer rfl) zd))) (za (zbq K T.z_isinstance (za (pv 0) (za (zC (v:=.ref T.c_NoMember) rfl T.m_NoMember rfl) zd))) (za (zbq K T.z_isinstance (za (pv 0) (za (zC (v:=.ref T.c_NoTerms) rfl T.m_NoTerms rfl) zd))) zd))))))
 (ze (zu 1 zbw (zw (zaw K) (pv 1) (zO (za (zbq K T.z_isinstance (za (pv 0) (za (zC (v:=.ref T.c_NoDeal) rfl T.m_NoDeal rfl) zd))) (za (zbq K T.z_isinstance (za (pv 0) (za (zC (v:=.ref T.c_Closed) rfl T.m_Closed rfl) zd))) (za (zbq K T.z_isinstance (za (pv 0) (za (zC (v:=.ref T.c_Gone) rfl T.m_Gone rfl) zd))) (za (zbq K T.z_isinstance (za (pv 0) (za (zC (v:=.ref T.c_Settled) rfl T.m_Settled rfl) zd))) zd)))))))
 (ze (zu 1 zbw (zw (zaw K) (pv 1) (zO (za (zbq K T.z_isinstance (za (pv 0) (za (zC (v:=.ref T.c_Standing) rfl T.m_Standing rfl) zd))) (za (zbq K T.z_isinstance (za (pv 0) (za (zC (v:=.ref T.c_Out) rfl T.m_Out rfl) zd))) (za (zbq K T.z_isinstance (za (pv 0) (za (zC (v:=.ref T.c_Bare) rfl T.m_Bare rfl) zd))) (za (zbq K T.z_isinstance (za (pv 0) (za (zC (v:=.ref T.c_Poor) rfl T.m_Poor rfl) zd))) zd)))))))
 (ze (zu 1 zbw (zw (zaw K) (pv 1) (zO (za (zbq K T.z_isinstance (za (pv 0) (za (zC (v:=.ref T.c_Unclosed) rfl T.m_Unclosed rfl) zd))) (za (zbq K T.z_isinstance (za (pv 0) (za (zC (v:=.ref T.c_NoPart) rfl T.m_NoPart rfl) zd))) (za (zbq K T.z_isinstance (za (pv 0) (za (zC (v:=.ref T.c_Ringed) rfl T.m_Ringed rfl) zd))) (za (zbq K T.z_isinstance (za (pv 0) (za (zC (v:=.ref T.c_NoAnswer) rfl T.m_NoAnswer rfl) zd))) zd)))))))
 (zi (zp (zw (zaw K) (pv 1) (zO (za (zbq K T.z_isinstance (za (pv 0) (za (zC (v:=.ref T.c_NoRule) rfl T.m_NoRule rfl) zd))) (za (zsZ K (zbq K T.z_isinstance (za (pv 0) (za (zC (v:=.ref T.c_QuitsError) rfl T.m_QuitsError rfl) zd)))) (za (zsZ K (zbq K T.z_isinstance (za (pv 0) (za (zhR (v:=.ty "ValueError") rfl T.z_ValueError BT.ValueError rfl) zd)))) zd))))))))))),?_⟩
 refine zo (σ0:=[some (.ref er),none]) rfl ?_;walk_at "x";rename_i a1 H1 f1 e1 h1 a2 H2 f2 e2 h2;refine zej (e2.at h1) h2 (by show 8<=100000;decide) λq3 H3 f3 q S=>?_;have f:=(e1.trans (e2.trans q)).at u;walk_at "x";rename_i a4 H4 f4 g O;refine zej (g.at S) O (by show 12<=100000;decide) λq5 H5 f5 t N=>?_;have e:=(g.trans t).at f;walk_at "x";rename_i a6 H6 f6 p G;refine zej (p.at N) G (by show 16<=100000;decide) λq7 H7 f7 r W=>?_;have U:=(p.trans r).at e;walk_at "x";rename_i a8 H8 f8 o z;refine zej (o.at W) z (by show 19<=100000;decide) λZ I M R Y=>?_;have d:=(e1.trans (e2.trans q)).trans ((g.trans t).trans (p.trans r));refine k Z I (Same.none M (d.trans o)) ((d.trans o).trans R) ?_;have l:decide (17=n)=false:=decide_eq_false ⋯;have m:decide (18=n)=false:=decide_eq_false ⋯;rw[Y,show bls83 n=(List.range 17).map (λi=>V.bl (decide (i=n)))++[V.bl (decide (17=n)),V.bl (decide (18=n))]from rfl,l,m];rfl
def zkd(T:Txt K mg):T.d__law_book.Ok P w base 4 (zqb K T.c_Book):=by
 refine T.d__law_book.F.okN zdy (by walk_at "l") λa4 A outer s H vs Q E f h=>?_;obtain⟨a,ns,rfl,X,k⟩:=h;have cl_Book:=T.cl_Book;refine⟨_,(ze (zu 1 zdy (zw (zaw K) zh (qD T.d__law_draw (zaQ (base:=base) T) f (za (pv 0) (za zh (za zh zd))))))
 (ze (zu 2 zdy (zfO T.mk_Book (zdB (base:=base) T) (f.mono (by decide)) rfl T.m_Book T.d_Book___init__.b .nil (zaD zaA) (za (pv 1) (za (zw (zaw K) zh (qD T.d__law_draw (zaQ (base:=base) T) f (za (pv 0) (za zh (za zh zd))))) zd))))
 (ze (zJ (zL (pv 2) T.cl_Book T.d_Book_strike.mt (zaK (base:=base) T) (f.mono (by decide)) T.d_Book_strike.b .nil (zaD zaA) (za zh (za (zw zbi (pv 1) zh) (za zh (za zh (za zh (za zh (za zh zd)))))))))
 (ze (zJ (zL (pv 2) T.cl_Book T.d_Book_strike.mt (zaK (base:=base) T) (f.mono (by decide)) T.d_Book_strike.b .nil (zaD zaA) (za (zw zbi (pv 1) zh) (za zh (za zh (za zh (za zh (za zh (za zh zd)))))))))
 (ze (zJ (zL (pv 2) T.cl_Book T.d_Book_strike.mt (zaK (base:=base) T) (f.mono (by decide)) T.d_Book_strike.b .nil (zaD zaA) (za zh (za (zw zbi (pv 1) zh) (za zh (za zh (za (zw (zaw K) zh (qD T.d__law_draw (zaQ (base:=base) T) f (za (pv 0) (za zh (za zh zd))))) (za zh (za zh zd)))))))))
 (ze (zJ (zL (pv 2) T.cl_Book T.d_Book_break_off.mt (zdi (base:=base) T) (f.mono (by decide)) T.d_Book_break_off.b .nil (zaD zaA) (za zh zd)))
 (ze (zJ (zcM (pv 2) T.cl_Book T.d_Book_close.mt (zeV (base:=base) T) (f.mono (by decide)) T.d_Book_close.b .nil (zaD zaA)))
 (zi (zp (pv 2)))))))))),?_⟩
 refine zo (σ0:=[some (.ref a),none,none]) rfl ?_;walk_at "x";rename_i m0 m1 w0 w1;refine zX ?_;generalize zbC ns 1 7=r1 at *
 generalize zbC ns 2 4=r2 at *
 refine zfX λb dx H1 V e1 h1=>?_;refine⟨b,dx,_,_,rfl,h1,λd H2 fd s2 i g=>⟨rfl,?_⟩⟩;have e2:Same H H2:=λc o q=>s2 c o (zE q V) (e1 c o q);have e:H d=none:=Same.none fd e1;have N:Bk T.c_Book H2 b d (2+r1) (1+r2) 0 []:=⟨⟨dx,i⟩,[],g,trivial⟩
 walk_at "x";refine⟨b,dx,d,_,_,_,⟨0,2+r1-1,0,5,6,3,1⟩,_,rfl,i,g,by decide,.inl ⟨due83 ⋯,λa1 H3 H4 L y G I=>?_⟩⟩;have M:=N.app g L y G I;have e4:=G.same (e2.trans L) e;have m:=G.ins (L.at i);walk_at "x";refine⟨b,dx,d,_,_,_,⟨2+r1-1,0,0,5,6,2,0⟩,_,rfl,m,I,by show 1<=1000;decide,.inl ⟨due83 ⋯,λa2 H5 H6 O J r C=>?_⟩⟩;have R:=M.app I O J r C;have U:=r.same (e4.trans O) e;have n:=r.ins (O.at m);have W:=U.seq X;walk_at "x";rename_i x0 x1;generalize zbC ns 3 99=x at *
 refine⟨b,dx,d,_,_,_,⟨0,2+r1-1,0,1,1+x,0,2⟩,_,rfl,n,C,by show 2<=1000;decide,.inl ⟨due83 ⋯,λa3 H7 H8 S t B Y=>?_⟩⟩;have v:=R.app C S t B Y;have e8:=B.same (U.trans S) e;have a0:=B.ins (S.at n);walk_at "x";refine⟨b,d,_,_,_,1,_,_,rfl,v,by decide,rfl,by show ¬("standing" : Str) = "broken";decide +kernel,λ_ H9 l Z=>?_,λz=>absurd z (by show ¬("standing" : Str) = "settled";decide +kernel)⟩;have e9:Same H H9:=λc o q=>Z.1 c o (zE q e) (e8 c o q);obtain⟨⟨a5,a6⟩,_⟩:=id l;walk_at "x";refine⟨b,d,_,_,_,_,rfl,l,by show 3<=1000;decide,λp D j u _=>?_⟩;walk_at "x";refine k b D (λc o q=>u c o (zE q e) (zE q V) (e9 c o q)) ⟨d,2+r1,1+r2,x,⋯,⋯,?_⟩;rw[<- cls83];exact j
def zhq(T:Txt K mg):T.d__law_by_book.Ok P w base 4 (zmX T.c_Book (ds83 T)):=by
 refine T.d__law_by_book.F.okX zhs (λvs H Q E h=>?_) (λl A outer s H vs Q E a h=>?_)
 ·obtain⟨b,g,s,rfl,_⟩:=h;rfl
 obtain⟨b,g,j,rfl,i,r,t,u,p,k⟩:=h;obtain⟨d,m,w,x,v,q,i⟩:=i;obtain⟨⟨f,c⟩,xs,hd,n⟩:=id i;have cl_Book:=T.cl_Book;refine⟨_,(ze (zG (zm (qEq K a.units) (pv 1) zh (nomark _))
 (zi (zp (zL (pv 0) T.cl_Book T.d_Book_strike.mt (zaK (base:=base) T) (a.mono (by decide)) T.d_Book_strike.b .nil zac (za zh (za zh (za zh (za zh (za zh (za zh (za zh zd))))))))))
 zA)
 (ze (zG (zm (qEq K a.units) (pv 1) zh (nomark _))
 (zi (zp (zL (pv 0) T.cl_Book T.d_Book_strike.mt (zaK (base:=base) T) (a.mono (by decide)) T.d_Book_strike.b .nil zac (za zh (za zh (za zh (za zh (za zh (za zh (za zh zd))))))))))
 zA)
 (ze (zG (zm (qEq K a.units) (pv 1) zh (nomark _))
 (zi (zp (zL (pv 0) T.cl_Book T.d_Book_deal.mt (zdJ (base:=base) T) (a.mono (by decide)) T.d_Book_deal.b .nil zac (za (zw (zaw K) zh (pv 2)) zd))))
 zA)
 (ze (zG (zm (qEq K a.units) (pv 1) zh (nomark _))
 (zi (zp (zL (pv 0) T.cl_Book T.d_Book_strike.mt (zaK (base:=base) T) (a.mono (by decide)) T.d_Book_strike.b .nil zac (za zh (za zh (za zh (za zh (za zh (za zh (za zh zd))))))))))
 zA)
 (ze (zG (zm (qEq K a.units) (pv 1) zh (nomark _))
 (zi (zp (zL (pv 0) T.cl_Book T.d_Book_change.mt (zh9 (base:=base) T) (a.mono (by decide)) T.d_Book_change.b .nil zac (za zh (za zh (za (zw (zaw K) zh (pv 2)) zd))))))
 zA)
 (ze (zG (zm (qEq K a.units) (pv 1) zh (nomark _))
 (zi (zp (zL (pv 0) T.cl_Book T.d_Book_break_off.mt (zdi (base:=base) T) (a.mono (by decide)) T.d_Book_break_off.b .nil zac (za zh zd))))
 zA)
 (zi (zp (zL (pv 0) T.cl_Book T.d_Book_contrary.mt (zgD (base:=base) T) (a.mono (by decide)) T.d_Book_contrary.b .nil zac (za zh (za (zw (zaw K) zh (pv 2)) zd))))))))))),?_⟩
 refine zo (σ0:=[some (.ref b),some (.int g),some (.int j)]) rfl ?_;have o:xs.length=3:=n.length;walk_at "x"
 ·rename_i z;subst z;exact⟨b,f,d,m,w,1,⟨1,1,0,5,6,3,1⟩,xs,rfl,c,hd,⋯,.inr (.inl ⟨if_pos λz=>z.2.2 rfl,λH' e=>k H' _ e rfl⟩)⟩
 ·rename_i z;subst z;refine⟨b,f,d,m,w,1,⟨0,1,0,0,6,3,1⟩,xs,rfl,c,hd,⋯,.inr (.inr (.inl ⟨?_,λH' e=>k H' _ e rfl⟩))⟩;exact(if_neg (not_not_intro ⟨⟨by decide,by show(0:Int)<m;lia⟩,⟨by decide,by show(1:Int)<m;lia⟩,by decide⟩)).trans (if_pos λz=>absurd z.2.1.1 (by decide))
 ·rename_i z;subst z;exact⟨b,f,d,m,w,1,3+j,xs,rfl,c,hd,.inr ⟨⋯,k H _ (Same.refl _) rfl⟩⟩
 ·rename_i z;subst z;refine⟨b,f,d,m,w,1,⟨0,1,0,5,6,0,1⟩,xs,rfl,c,hd,⋯,.inr (.inr (.inr ⟨?_,λH' e=>k H' _ e rfl⟩))⟩;exact(if_neg (not_not_intro ⟨⟨by decide,by show(0:Int)<m;lia⟩,⟨by decide,by show(1:Int)<m;lia⟩,by decide⟩)).trans ((if_neg (not_not_intro ⟨⟨by decide,by show(0:Int)<w;lia⟩,by decide,by decide,by decide,by decide⟩)).trans (if_pos (by decide)))
 ·rename_i z;subst z;exact⟨b,d,m,w,1,1,6,4+j,ts83 m x,_,rfl,i,by decide,rfl,rfl,k H _ (Same.refl _) rfl⟩
 ·rename_i z;subst z;exact⟨b,d,m,w,1,2,ts83 m x,_,rfl,i,by decide,rfl,by show ¬("settled" : Str) = "broken";decide +kernel,λz=>absurd rfl z,λ_=>k H _ (Same.refl _) rfl⟩
 ·obtain rfl:g=8:=by lia
  exact⟨b,d,m,w,1,0,4+j,ts83 m x,_,rfl,i,by decide,rfl,rfl,k H _ (Same.refl _) rfl⟩
def zjl(T:Txt K mg):T.d__law_house.Ok P w base 10 (zm8 K T.c_House T.c_Book lP lQ):=by
 refine T.d__law_house.F.okN zb7 (by walk_at "l") λam A outer s H vs Q E O h=>?_;obtain⟨a,ns,af,G,rfl,hS,a4,s0,s9,k⟩:=h;have cl_House:=T.cl_House;refine⟨_,(ze (zu 3 zb7 (zw zaq (zw (zaw K) zh (pv 2)) (zw (zaw K) zh (qD T.d__law_draw (zaQ (base:=base) T) O (za (pv 0) (za zh (za zh zd)))))))
 (ze (zG (zm (qEq K O.units) (pv 1) zh (nomark _))
 (ze (zu 4 zb7 (zfO T.mk_House (zdg (base:=base) T) (O.mono (by decide)) rfl T.m_House T.d_House___init__.b .nil (zaD zaA) (za (zO (za (zM (za (pv 2) (za zh (za zh zd)))) (za (zM (za zh (za zh (za zh zd)))) zd))) (za (zO (za (zO (za zh zd)) zd)) (za (zM (za zH (za zh zd))) (za (zO (za zH zd)) (za zh zd)))))))
 (ze (zJ (zL (pv 4) T.cl_House T.d_House_strike.mt (zcq (base:=base) T) (O.mono (by decide)) T.d_House_strike.b .nil (zaD zaA) (za zh (za zh (za zh (za zh (za (zw (zaw K) (pv 2) zh) (za zh (za zh zd)))))))))
 (ze (zJ (zcM (pv 4) T.cl_House T.d_House_close.mt (zhW (base:=base) T) (O.mono (by decide)) T.d_House_close.b .nil (zaD zaA)))
 (zi (zp (pv 4))))))
 zA)
 (ze (zu 5 zb7 (zO (za (zM (za (pv 2) (za (zw zbi (pv 3) zh) (za zh zd)))) (za (zM (za zh (za (zw zoC zh zh) (za zh zd)))) zd))))
 (zi (zp (zfO T.mk_House (zdg (base:=base) T) (O.mono (by decide)) rfl T.m_House T.d_House___init__.b .nil (zaD zaA) (za (pv 5) (za (zO (za (zO (za (zw zbi (zbY zbk zh) (qD T.d__law_draw (zaQ (base:=base) T) O (za (pv 0) (za zh (za zh zd))))) zd)) zd)) (za (zM (za zH (za zh zd))) (za (zO (za zH zd)) (za zh zd))))))))))),?_⟩
 refine zo (σ0:=[some (.ref a),some (.int af),some (.int G),none,none,none]) rfl ?_;walk_at "x"
 ·rename_i r0 r1 z W H1 f1 e1 h1 X H2 f2 e2 h2 ms H3 f3 D h3 rw H4 f4 e4 h4 mo H5 f5 N h5;subst z;refine za9 (by first | decide | simp) λru H6 f6 e6 h6=>?_;walk_at "x";rename_i od H7 f7 S h7;refine zfX λh dx H8 fh L h8=>?_;have f:=e6.trans (S.trans L);have e:=e4.trans (N.trans f);have g:=e1.trans (e2.trans (D.trans e));have j:zbE "worst" 1 1:=⟨.inl rfl,by decide,by decide⟩
  refine⟨h,dx,ms,mo,ru,od,[.ref W,.ref X],[(G,5,0),(9,5,0)],[rw],1,λ_ _=>0, "worst",1,["own"],0,rfl,h8,e.at h3,⟨⟨W,rfl,(e2.trans (D.trans e)).at h1⟩,⟨X,rfl,(D.trans e).at h2⟩,trivial⟩,by show 2<=1000;decide,f.at h5,⟨List.nodup_cons.mpr ⟨by simp,List.nodup_nil⟩,λi a z=>?_⟩,by show 1<=1;decide,by show 1<=1000;decide,by decide,by decide,(S.trans L).at h6,L.at h7,by decide,λ_ _ B d bs J U R M c=>⟨rfl,?_⟩,λz=>absurd j z,λ_ z=>absurd zli z⟩
  ·match i,z with
   | 0,z=>cases z;exact(N.trans f).at h4
  have C:H h=none:=Same.none fh (e1.trans (e2.trans (D.trans (e4.trans (N.trans (e6.trans S))))));have o:Same H J:=U.same g C;have t9:TbW K "worst_days" lP lQ J:=TbW.same o a4;obtain⟨mr,rfl,⟨n1,n2,n3,n4⟩,I⟩:=c.two R M ⟨by decide,by decide⟩ j t9;have fr:∀y∈[B.pl,B.sh,B.bk,B.re,B.ou,d],H y=none:=λy hy=>Same.none (c.st.ex y (by simp at hy;simp;rcases hy with rfl | rfl | rfl | rfl | rfl | rfl<;>simp)).2.2 g;obtain⟨⟨al,ai⟩,ys,hd,hI⟩:=id c.bk;obtain rfl:ys=[]:=List.length_eq_zero_iff.mp hI.length;have a7:=c.pl;have hou:=c.ou;have z5:∀{m u:Int} {q:List Nat},¬((5:Int):Rat)<za4 "worst" (zbp [] m 0 u 1 λ_ _=>0) q 1:=by
   intro m u q;rw[zhJ λi=>loss0];decide
  walk_at "x";refine⟨h,d,B,0,0,2,1,[false,false],false,false,⟨0,1,0,1,G+1,0,0⟩,[],rfl,⟨dx,R⟩,c.bk,⟨⟨by show(0:Int)<=0;decide,by show(0:Int)<2;decide⟩,⟨by show(0:Int)<=1;decide,by show(1:Int)<2;decide⟩,by show(0:Int)≠1;decide⟩,hou,rfl,rfl,.inr ⟨rfl,rfl,_,[],[mr],_, "worst",1,a7,I,hd,by decide,λi hi=>?_,⟨⟨by show(0:Int)<=0;decide,by show(0:Int)<1;decide⟩,⟨by show(1:Int)<=1;decide,by show(1:Int)<=_;decide⟩,⟨by show 1<=G+1;lia,by show G+1<=_;lia⟩,⟨by show(0:Int)<=0;decide,by show(0:Int)<=_;decide⟩,⟨by show(0:Int)<=0;decide,by show(0:Int)<=2;decide⟩⟩,by show(0:Int)<=0;decide,λH1 q1 e1 W hL ad=>absurd ad z5,λaj q1 x a8 hL ak=>⟨λq2 _=>z5,λa1 an a0 r aa p ah=>?_⟩⟩⟩
  ·refine ya (zW (n:=40) ?_) (by decide)
   rcases(show i=0\/i=1 by lia)with rfl | rfl
   ·show(5:Int).natAbs<_;decide
   ·show(5:Int).natAbs<_;decide
  have up:∀{a:Addr} {l:List V},J a=some (.lst l)->a≠d->a0 a=some (.lst l):=λq n=>p.lst (r.at (x.lst q)) n;have a3:=p.ins (r.at (x.ins R));have Y:=(c.bk.sameT x).app (x.lst hd) r aa p ah;have a6:SameT H a0:=p.sameT ((o.t.trans x).trans r.t) (fr d (by simp));walk_at "x";refine⟨h,dx,d,B,_,_,_,rfl,⟨⟨a3,up c.pu (zbI c.pu hd (by simp[zI])),up c.pl (zbI c.pl hd (by simp[zI])),up c.sh (zbI c.sh hd (by simp[zI])),n1.symm,n2,n3.symm⟩,Y,up c.od (zbI c.od hd (by simp)),up c.re n4,up c.ou (zbI c.ou hd (by simp)),(c.st.ex B.bk (by simp)).2.1,TbW.but p (TbW.same r a8)⟩,s0,by show G<=1000;lia,by show(0:Int)<=9;decide,by show(9:Int)<=1000;decide,λv ac A' a5 ts ae ag a9 eb eo Z a2=>?_⟩;walk_at "x";refine k h A' ac (ae.sameT a6 λa ha=>?_) ag ⟨⟨dx,a5,a9⟩,⟨d,1,ts,by rw[eb];exact Z⟩,λ_=>by rw[eo];exact a2,λz=>absurd rfl z⟩ r0 r1 (λz=>absurd rfl z);rcases List.mem_cons.mp ha with rfl | ha
  ·exact C
  ·exact fr a ha
 ·rename_i r0 r1 hz W H1 f1 e1 h1 X H2 f2 e2 h2 ms H3 f3 D h3 _ _ rw H4 f4 e4 h4 mo H5 f5 N h5;refine za9 (by first | decide | simp) λru H6 f6 e6 h6=>?_;walk_at "x";rename_i od H7 f7 S h7;refine zfX λh dx H8 fh L h8=>?_;have f:=e6.trans (S.trans L);have e:=e4.trans (N.trans f);have g:=e1.trans (e2.trans (D.trans e));have j:zbE "mean" 1 1:=⟨.inr rfl,by decide,by decide⟩
  have ab:OkO [("share" : Str)]:=⟨λw h=>by rw[yh.mp h];decide +kernel,by decide +kernel⟩
  refine⟨h,dx,ms,mo,ru,od,[.ref W,.ref X],[(G,(1+G)*(1+zbC ns 4 9)-1,3),(7,1000000000,0)],[rw],1,λ_ _=>-1-zbC ns 4 9, "mean",1,["share"],8,rfl,h8,e.at h3,⟨⟨W,rfl,(e2.trans (D.trans e)).at h1⟩,⟨X,rfl,(D.trans e).at h2⟩,trivial⟩,by show 2<=1000;decide,f.at h5,⟨List.nodup_cons.mpr ⟨by simp,List.nodup_nil⟩,λi a z=>?_⟩,by show 1<=1;decide,by show 1<=1000;decide,by decide,by decide,(S.trans L).at h6,L.at h7,by decide,λ_ _ B d bs J U R M c=>⟨rfl,?_⟩,λz=>absurd j z,λ_ z=>absurd ab z⟩
  ·match i,z with
   | 0,z=>cases z;exact(N.trans f).at h4
  have C:H h=none:=Same.none fh (e1.trans (e2.trans (D.trans (e4.trans (N.trans (e6.trans S))))));have o:Same H J:=U.same g C;have t9:TbW K "worst_days" lP lQ J:=TbW.same o a4;obtain⟨mr,rfl,⟨n1,n2,n3,n4⟩,I⟩:=c.two R M ⟨⋯,⋯⟩ j t9;have fr:∀y∈[B.pl,B.pu],H y=none:=λy hy=>Same.none (c.st.ex y (by simp at hy;simp;rcases hy with rfl | rfl<;>simp)).2.2 g;exact k h B J o.t t9 ⟨⟨dx,8,R⟩,⟨d,0,[],c.bk⟩,λz=>absurd z hz,λ_=>⟨c.ou,c.re,d,mr,_,_,_,⟨⟨dx,R⟩,c.pu,c.pl,n1⟩,I,rfl,rfl,rfl,rfl⟩⟩ r0 r1 (λ_=>⟨fr _ (by simp),fr _ (by simp)⟩)
def zgw(T:Txt K mg):T.d__law_by_house.Ok P w base 6 (zle K T.c_House T.c_Book lP lQ (ds83 T)):=by
 refine T.d__law_by_house.F.okX zgH (λvs H Q E h=>?_) (λa3 A outer s H vs Q E f h=>?_)
 ·obtain⟨h,B,j,s,r,c,rfl,_⟩:=h;rfl
 obtain⟨h,B,j,a,r,c,rfl,hT,g,r0,r9,w0,w1,s0,s9,t0,t3,k⟩:=h;obtain⟨⟨dx,own,D⟩,⟨d,y,ts,S⟩,h9,W⟩:=id hT;have cl_House:=T.cl_House;refine⟨_,(ze (zG (zm (qEq K f.units) (pv 1) zh (nomark _))
 (zi (zp (zL (pv 0) T.cl_House T.d_House_strike.mt (zcq (base:=base) T) (f.mono (by decide)) T.d_House_strike.b .nil zac (za (zw zbV (pv 3) zh) (za (zw zbi zh (zw zbV (pv 3) zh)) (za zh (za zh (za zh (za zh (za zh zd))))))))))
 zA)
 (ze (zG (zm (qEq K f.units) (pv 1) zh (nomark _))
 (zi (zp (zL (pv 0) T.cl_House T.d_House_strike.mt (zcq (base:=base) T) (f.mono (by decide)) T.d_House_strike.b .nil zac (za zh (za zh (za zh (za (zw (zaw K) zh (pv 2)) (za zh (za zh (za zh zd))))))))))
 zA)
 (ze (zG (zm (qEq K f.units) (pv 1) zh (nomark _))
 (zi (zp (zL (pv 0) T.cl_House T.d_House_report.mt (zhg (base:=base) T) (f.mono (by decide)) T.d_House_report.b .nil zac (za (zcM (pv 0) T.cl_House T.d_House_today.mt (zh0 (base:=base) T) (f.mono (by decide)) T.d_House_today.b .nil (zaD zaA)) zd))))
 zA)
 (ze (zG (zm (qEq K f.units) (pv 3) zh (nomark _))
 (zi (zp (zL (pv 0) T.cl_House T.d_House_take.mt (zi9 (base:=base) T) (f.mono (by decide)) T.d_House_take.b .nil zac (za zh (za (zw (zaw K) (pv 2) zh) zd)))))
 zA)
 (ze (zG (zm (qEq K f.units) (pv 3) zh (nomark _))
 (zi (zp (zL (pv 0) T.cl_House T.d_House_lay.mt (zjR (base:=base) T) (f.mono (by decide)) T.d_House_lay.b .nil zac (za zh (za (zw (zaw K) (pv 2) zh) zd)))))
 zA)
 (zi (zp (zm7 (zbz zfx (zL (pv 0) T.cl_House T.d_House_free.mt (zeO (base:=base) T) (f.mono (by decide)) T.d_House_free.b .nil zac (za zh (za (zw zbi (zw zoC zh zh) zh) zd))) zbg (nomark _)) (zoh (zL (pv 0) T.cl_House T.d_House_free.mt (zeO (base:=base) T) (f.mono (by decide)) T.d_House_free.b .nil zac (za zh (za zh zd)))))))))))),?_⟩
 refine zo (σ0:=[some (.ref h),some (.int j),some (.int a),some (.int c)]) rfl ?_;walk_at "x"
 ·rename_i z;subst z;have G:c%2=0\/c%2=1:=by lia
  refine⟨h,d,B,own,y,2,1,[true,false],decide (c%2=0),decide (c%2=1),⟨c%2,1-c%2,0,1,1,1,0⟩,ts,rfl,⟨dx,D⟩,S,⟨⟨by show 0<=c%2;lia,by show c%2<2;lia⟩,⟨by show 0<=1-c%2;lia,by show 1-c%2<2;lia⟩,by show c%2≠1-c%2;lia⟩,h9 rfl,?_,?_,.inl ⟨?_,λH' e=>k H' _ (TbW.same e g) (KpT.of e.t) (λ_=>e.t) rfl⟩⟩
  ·show[true,false][(c%2).toNat]?=_;rcases G with z | z<;>rw[z]<;>rfl
  ·show[true,false][(1-c%2).toNat]?=_;rcases G with z | z<;>rw[z]<;>rfl
  ·exact G.imp decide_eq_true decide_eq_true
 all_goals obtain⟨hou,hre,d',mr,P,L,F,l,p,p0,R,m,f0⟩:=W ⋯
 ·rename_i z;subst z;obtain⟨_,ys,hd,hI⟩:=id p.bk;obtain rfl:ys=[]:=List.length_eq_zero_iff.mp hI.length;have Y:1*1<=(1+a)*(1+r):=Int.mul_le_mul ⋯ ⋯ (by decide) ⋯;have a1:(1+a)*(1+r)<=30*9:=Int.mul_le_mul ⋯ ⋯ ⋯ (by decide);have u:zbp [] 0 0 (1+a) 1 F 0=(1+a)*(1+r):=by rw[loss83,f0];grind
  refine⟨h,d',B,own,0,2,1,[false,false],false,false,⟨0,1,0,1+a,5,0,0⟩,[],rfl,⟨dx,D⟩,p.bk,⟨⟨by show(0:Int)<=0;decide,by show(0:Int)<2;decide⟩,⟨by show(0:Int)<=1;decide,by show(1:Int)<2;decide⟩,by show(0:Int)≠1;decide⟩,hou,rfl,rfl,.inr ⟨rfl,rfl,L,[],[mr],F, "mean",1,l.pl,p,hd,by decide,λi hi=>?_,⟨⟨by show(0:Int)<=0;decide,by show(0:Int)<1;decide⟩,⟨by show 1<=1+a;lia,by show 1+a<=_;lia⟩,⟨by show(1:Int)<=5;decide,by show(5:Int)<=_;decide⟩,⟨by show(0:Int)<=0;decide,by show(0:Int)<=_;decide⟩,⟨by show(0:Int)<=0;decide,by show(0:Int)<=2;decide⟩⟩,by show(0:Int)<=0;decide,λH1 q1 e1 C J a0=>k H1 _ C (KpT.of e1) (λ_=>e1) rfl,λH1 q1 e1 C J M=>absurd ?_ M⟩⟩
  ·refine ya (zW (n:=40) ?_) (by decide)
   rcases(show i=0\/i=1 by lia)with rfl | rfl
   ·rw[R];lia
   ·rw[m];decide
  ·have I:Line (zbp [] 0 0 (1+a) 1 F) 1 q1:=J
   show((L 0:Int):Rat)<za4 "mean" (zbp [] 0 0 (1+a) 1 F) q1 1
   rw[need83 I (by rw[u];lia),u,R];exact_mod_cast (by lia:(1+a)*(1+r)-1<(1+a)*(1+r))
 ·rename_i z;subst z;refine⟨h,dx,d,B,own,2,1,y,ts,rfl,D,S,?_⟩;walk_at "x";exact⟨h,dx,B,own,y,rfl,D,hre,k H _ g (KpT.of (SameT.refl _)) (λ_=>SameT.refl _) rfl⟩
 all_goals obtain rfl:j=11:=by lia
 ·exact⟨h,B,8,0,a+1,2,P,L,rfl,l,⟨by decide,by decide⟩,⟨⋯,⋯⟩,by show P 0<a+1;lia,k H _ g (KpT.of (SameT.refl _)) (λ_=>SameT.refl _) rfl⟩
 ·exact⟨h,B,8,0,a+1,2,P,L,rfl,l,⟨by decide,by decide⟩,⟨⋯,⋯⟩,by show P 0<a+1;lia,k H _ g (KpT.of (SameT.refl _)) (λ_=>SameT.refl _) rfl⟩
 ·have O:mOk 2 1:=⟨by decide,by decide⟩
  have V:tOk (1000000000-1):=⟨by decide,by decide⟩
  have o3:tOk 2:=⟨by decide,by decide⟩
  refine⟨h,d',B,8,1,1000000000-1,2,0,2,P,L,[],[mr],1,F, "mean",1,rfl,l,p,λ_ _=>?_,λ_ _ _ H1 q e1 C J=>⟨λz=>?_,λ_ H2 Z b2 h2 U h3=>?_⟩,λz=>absurd O z,λ_ z=>absurd V z,λ_ _ z=>?_⟩
  ·refine ya (zW (n:=40) ?_) (by decide)
   show(L 1-(1000000000-1)).natAbs<_
   rw[m];decide
  ·rw[znn]at z;exact absurd z (by show ¬((L 1-(1000000000-1):Int):Rat)<0;rw[m];decide)
  ·obtain⟨v,x⟩:=p.coins l e1 C b2 h2 U h3;obtain⟨a2,X⟩:=v.ob;refine⟨rfl,true,by rw[decide_eq_true rfl],?_⟩;rw[if_pos rfl];walk_at "x";have N:zj7 L 1 (-(1000000000-1)) 1=1:=by show L 1 + -(1000000000-1)=1;rw[m];decide
   refine⟨h,d',B,8,1,2,2,0,2,_,_,[],[mr],1,F, "mean",1,rfl,v,x,λ_ _=>?_,λ_ _ z=>absurd z ?_,λz=>absurd O z,λ_ z=>absurd o3 z,λ_ _ _=>k Z _ x.tb (λb o n1 n2 hb nt=>U.1.at (b2.1.at (e1.keep b o hb nt) n1) n2) (λz=>absurd rfl z) rfl⟩
   ·refine ya (zW (n:=40) ?_) (by decide)
    show(zj7 L 1 (-(1000000000-1)) 1-2).natAbs<_
    rw[N];decide
   ·show ¬2<=zj7 L 1 (-(1000000000-1)) 1;rw[N];decide
  ·exact absurd z (by show ¬L 1<_;rw[m];decide)
def zin(T:Txt K mg):T.d__law_called.Ok P w base 7 (zmg K T.c_House T.c_Book lP lQ (ds83 T)):=by
 refine T.d__law_called.F.okX zh2 (λvs H Q E h=>?_) (λJ A outer s H vs Q E f h=>?_)
 ·obtain⟨a,th,b,h,ns,B,g,s,r,rfl,_⟩:=h;rfl
 obtain⟨a,th,b,h,ns,B,g,l,r,rfl,V,G,v,N,d,y,C,w0,M,q,n,k⟩:=h;refine⟨_,(ze (zG (PW.pt (zbL (zm (qEq K f.units) (pv 1) zh (nomark _)) (zby (zm (qEq K f.units) (qD T.d__law_draw (zaQ (base:=base) T) f (za (pv 0) (za zh (za zh zd)))) zh (nomark _)))))
 (zi (zp (qE T.d_by_level (zgc (base:=base) T) f (za (zw (zaw K) zh (pv 3)) (za (zO (za zh (za zh (za zh zd)))) zd)))))
 zA)
 (ze (zG (zm (qEq K f.units) (pv 1) zh (nomark _))
 (zi (zp (qE T.d_by_shares (zdz (base:=base) T) f (za (zw (zaw K) zh (pv 3)) (za (zO (za zh (za zh (za zh zd)))) zd)))))
 zA)
 (ze (zG (zm (qEq K f.units) (pv 1) zh (nomark _))
 (zi (zp (qE T.d_layered (zha (base:=base) T) f (za (zO (za zH (za zH (za zH zd)))) (za (zO (za zh (za (pv 3) zd))) (za (zO (za zh (za zh zd))) (za (zO (za zh (za zh zd))) (za zh zd))))))))
 zA)
 (ze (zG (zm zba (pv 1) zh (nomark _))
 (zi (zp (qE T.d__law_by_book (zhq (base:=base) T) f (za (qIx K (pv 2) zh) (za (pv 1) (za (pv 3) zd))))))
 zA)
 (zi (zp (qE T.d__law_by_house (zgw (base:=base) T) f (za (qIx K (pv 2) zh) (za (pv 1) (za (pv 3) (za (qD T.d__law_draw (zaQ (base:=base) T) f (za (pv 0) (za zh (za zh zd)))) zd))))))))))),?_⟩
 refine zo (σ0:=[some (.ref a),some (.int g),some (.ref th),some (.int l)]) rfl ?_;walk_at "x"
 ·rename_i z _ _ _ m H1 o e1 h1;subst z;exact⟨4+l,m,[1,0,2],rfl,SqL.of h1,.inr ⟨by show 3<4+l;lia,k H1 _ (TbW.same e1 d) (KpT.of e1.t) (λ_=>e1.t) rfl⟩⟩
 ·rename_i z _ _ _ m H1 o e1 h1;subst z;refine⟨4+l,m,3,λi=>if i=0 then 1 else if i=1 then 0 else 2,rfl,SqL.of h1,by decide,λi hi=>?_,?_,.inr ⟨?_,k H1 _ (TbW.same e1 d) (KpT.of e1.t) (λ_=>e1.t) rfl⟩⟩
  ·dsimp only;split
   ·exact⟨by decide,by decide +kernel⟩
   split<;>exact⟨by decide,by decide +kernel⟩
  ·decide +kernel
  ·rw[show My.sumTo (λi=>if i=0 then 1 else if i=1 then 0 else 2) 3=3 by decide +kernel];lia
 ·rename_i z I H1 o e1 h1 g1 H2 S e2 h2 O Z R p X q1 Y W u U;subst z;have j:=e1.trans (e2.trans (p.trans u));refine⟨I,g1,O,q1,3,[("share" : Str), "none", "own"],rfl,SqL.of ((e2.trans (p.trans u)).at h1),by decide,.inr ⟨λz=>?_,λH' e=>k H' _ (TbW.same (j.trans e) d) (KpT.of (j.trans e).t) (λ_=>(j.trans e).t) rfl⟩⟩;exact absurd (z.1 "none" (by simp)) (by decide +kernel)
 ·rename_i x n1 z;exact⟨b,g,l,rfl,v,⋯,⋯,q,n,λH' c e D=>k H' c (TbW.same e d) (KpT.of e.t) (λ_=>e.t) D⟩
 ·rename_i x n1 z t0 L;exact⟨h,B,g,l,r,_,rfl,N,d,y,C,⋯,M,q,n,t0,L,k⟩
def zeq(T:Txt K mg):T.d__law_caught.Ok P w base 8 (zms K T.c_House T.c_Book lP lQ):=by
 refine T.d__law_caught.F.okN sc__law_caught (by walk_at "l") λJ A outer s H vs Q E v h=>?_;obtain⟨a,th,b,h,ns,B,d,u,r,rfl,C,g,y,R,e,D,G,L,N,O,x,k⟩:=h;refine⟨_,(ze (zu 4 sc__law_caught (zO zd))
 (ze (show PS _ _ (zmQ K _ _ _ _)from zq1 (i:=5) ⟨rfl,rfl⟩ (zoR (zpO (zpo (zin (base:=base) T) (v.mono (by decide)) rfl T.d__law_called.m T.d__law_called.F.kp T.d__law_called.b (za (pv 0) (za (pv 1) (za (pv 2) (za (pv 3) zd))))))) rfl T.m_QuitsError sc__law_caught.nd rfl rfl (λ_=>(zi (zu 4 sc__law_caught (show PE _ _ (zeI _ [] E0 _)from zpJ (zjs (base:=base) T) (Room.mark (v.mono (j:=1) (by decide)) _) (by rfl) T.d__law_kinds.m T.d__law_kinds.F.kp T.d__law_kinds.b (za (pv 5) zd))))))
 (zi (zp (pv 4))))),?_⟩
 refine zo (σ0:=[some (.ref a),some (.int d),some (.ref th),some (.int u),none,none]) rfl ?_;walk_at "x";rename_i Y H1 W e1 h1;refine⟨a,th,b,h,ns,B,d,u,r,rfl,e1.seq C,e1.at g,y.sameT e1.t,R.sameT e1.t (TbW.same e1 e),TbW.same e1 e,D,G,L,N,O,x,λH2 c z k2 V q=>⟨c,rfl,zlF (zgl T.kt q ⋯).1.2.1 λer X S f l=>?_⟩⟩;walk_at "x";refine⟨er,c,d.toNat,rfl,l,q,⋯,λp I fp n hp=>?_⟩;walk_at "x";exact k p I (TbW.same (f.trans n) z) (λb o n1 n2 U nt=>(f.trans n).at (k2 b o n1 n2 (e1.at U) nt)) (λM=>(e1.t.trans (V M)).trans (f.trans n).t) hp
noncomputable def zjz (K:Fg):Sp:=λvs H Q _=>∃(a:Addr) (ns:List Int),vs=[.ref a]/\SqL K H a (ns.map V.int)/\ns.length<=63/\zjB ns/\(∀pos qual,Tb H (zgo K "worst_days") pos qual)/\∀H',Q (.bl true) H'
def zsF(T:Txt K mg):T.d_law.Ok P w base 11 (zjz K):=by
 refine T.d_law.F.okN sc_law (by walk_at "l") λa7 A outer s H vs Q E e h=>?_;obtain⟨a,ns,rfl,hS,a6,hz,X,k⟩:=h;have a2:TbW K "worst_days" lP lQ H:=X lP lQ;refine⟨_,(ze (zu 1 sc_law (qD T.d__law_draw (zaQ (base:=base) T) e (za (pv 0) (za zh (za zh zd)))))
 (ze (zai PassesOwn.never rfl (zbc rfl T.z_range (za zh zd)) (zD (i:=2) sc_law.nd rfl (Or.inl rfl))
 (ze (zu 3 sc_law (zw zbV (zw (zaw K) (pv 1) (pv 2)) zh))
 (ze (zu 4 sc_law (qD T.d__law_draw (zaQ (base:=base) T) e (za (pv 0) (za (zw (zaw K) zh (pv 2)) (za zh zd)))))
 (ze (qS1 5 sc_law ["_law_one", "_law_way"] [none,some 3] (zbc rfl T.z_range (za zh zd)) (λ_ _ _ _ _=>(zbz (qEq K e.units) (pv 0) (pv 1) (nomark _))))
 (ze (zu 6 sc_law (zO (za (qD T.d__law_book (zkd (base:=base) T) e (za (pv 0) zd)) (za (qD T.d__law_house (zjl (base:=base) T) e (za (pv 0) (za (pv 3) (za (pv 4) zd)))) zd))))
 (ze (zG (zm (qNe K e.units) (qD T.d__law_caught (zeq (base:=base) T) e (za (pv 0) (za (pv 3) (za (pv 6) (za (pv 4) zd))))) (pv 5) (nomark _))
 (zi (zp zeu))
 zA)
 (zi (zG (PW.pt (zbL (zm (qNe K e.units) (pv 3) zh (nomark _)) (zby (zm (qNe K e.units) (qD T.d__law_caught (zeq (base:=base) T) e (za (pv 0) (za (pv 3) (za (pv 6) (za (pv 4) zd))))) (pv 5) (nomark _)))))
 (zi (zp zeu))
 zA))))))))
 (zi (zp zeu)))),?_⟩
 refine zo (σ0:=[some (.ref a),none,none,none,none,none,none]) rfl ?_;walk_at "x";rename_i f0 f1;refine zei (λi σ' H'=>∃(W M N f5 f6:Option V),σ'=[some (.ref a),some (.int (zbC ns 0 13)),W,M,N,f5,f6]/\SqL K H' a (ns.map V.int)/\TbW K "worst_days" lP lQ H') ⟨_,_,_,_,_,rfl,hS,a2⟩ ?_ ?_
 ·rintro i σ' H1 hi ⟨W,M,N,f5,f6,rfl,G,t1⟩;have a8:i<13:=hi;walk_at "x";rename_i I s1;obtain⟨c,C⟩:∃c,c=(zbC ns 0 13+(0+(i:Int)))%13:=⟨_,rfl⟩
  obtain⟨sm,g⟩:∃sm,sm=zbC ns (7+(0+(i:Int))) 30:=⟨_,rfl⟩
  rw[<- g]at I s1;rw[<- C,<- g];have w0:0<=c:=by lia
  have w1:c<=12:=by lia
  clear C g;refine zR zdP (λ_ _=>trivial) rfl (λi vs _=>vs=(List.range i).map λj=>V.bl (decide (j=c.toNat))) (λ_ _=>rfl) ?_ ?_
  ·rintro j x D vs o H2 O hj hD e2 hv r rfl m rfl;walk_at "x";rename_i H4 b4 h4;refine⟨⟨_,rfl⟩,∅,_,h4,by rw[ye];exact yb r,?_⟩;dsimp only;rw[List.range_succ,yj];congr 3;exact decide_eq_decide.mpr ⋯
  rintro du H2 vs a5 e2 a0 r rfl;have v:=e2.seq G;have t2:TbW K "worst_days" lP lQ H2:=TbW.same e2 t1;have d:H2 du=some (.lst (bls83 c.toNat)):=a0;walk_at "x";refine⟨a,ns,rfl,v,λb O m U=>?_⟩;have l:=m.seq v;have t3:TbW K "worst_days" lP lQ O:=TbW.same m t2;walk_at "x";refine⟨a,ns,c,sm,rfl,l,t3,I,⋯,λh B H4 J t4 R r0 r9 hf=>?_⟩;have y:=U.sameT J;have S:=J.seq l;have a3:=J.lst (m.at d);walk_at "x";rename_i th H5 a4 n q;have t5:TbW K "worst_days" lP lQ H5:=TbW.same n t4;have p:=R.sameT n.t t5;refine⟨a,th,b,h,ns,B,c,sm,_,rfl,n.seq S,q,y.sameT n.t,p,t5,r0,r9,w0,w1,I,⋯,λp6 H6 t6 k6 s6 Z=>?_⟩;have z:=J.trans n.t;have kp:∀x o,O x=some o->o.nt=true->H6 x=some o:=λx o L nt=>by
   by_cases C:c=11
   ·obtain⟨q1,q2⟩:=hf ⋯;exact k6 x o (zE L q1) (zE L q2) (z.keep x o L nt) nt
   ·exact(s6 C).keep x o (z.keep x o L nt) nt
  have f:=SqL.kept kp l;walk_at "x";refine zlv Z (kp _ _ (m.at d) rfl) ?_;walk_at "x"
  ·rename_i C;have u:c≠11:=by lia
   have Y:=s6 u;refine⟨a,th,b,h,ns,B,c,sm,_,rfl,f,Y.lst q,(y.sameT n.t).sameT Y,p.sameT Y t6,t6,r0,r9,w0,w1,I,⋯,λp7 H7 t7 k7 s7 a1=>?_⟩;have e7:=s7 u;walk_at "x";refine zlv a1 (e7.lst (kp _ _ (m.at d) rfl)) ?_;walk_at "x";exact⟨_,_,_,_,_,rfl,e7.seq f,t7⟩
  ·exact⟨_,_,_,_,_,rfl,f,t6⟩
 ·rintro σ' H1 ⟨W,M,N,f5,f6,rfl,G,t1⟩;walk_at "x";exact k H1
end
def mkK(D:DfnM K C "__init__" qual st ps)(h:PySem.W.makesIn K C=true)(k:PySem.W.keepIn K (.ref C)=true):Mk K C D.a:=⟨h,D.mt.1,D.mt.2,k⟩
def fin{P:Program}{w:World}{b:Addr}(T:Txt K mg)(a:mg "law" = some (.ref b)) :
  ∃fd:FuncData,(∀(s:Shared) (v:Value),BindsTo s fd ⟨[v],[]⟩ [("_law_script",v)])/\(∃p,PySem.W.tabIn K "worst_days" = some p)/\∀base:Heap,K.In base->base.Ns mainGlobals mg->TabX K mg base "worst_days" -> FnOk P w K mg base (CXF P w) 11 b fd ["_law_script"] (zjz K):=by
 have e:=a.symm.trans T.d_law.m;cases e;exact⟨_,T.bl_law,⟨_,T.tb_worst_days⟩,λbase _ _ _=>zsF T⟩
def walk{l:PySem.W.OpenLaw}{q:Program}{b:List Str}{r:(Str->Option Value)->Heap->Prop}{g:World->Heap->Prop}{d:DefRec}{K:Params->Fg}(j:l.most=some 63)(c:d.params.defaults=[])
  (hY:∀(w:World) (h:Heap),g w h->(K w.params).In h)
  (hrec:∃d',(PyProof.Rows.recsOf q).find? (λe=>e.name == ("worst_days" : Str))=some d') (hnt:∀w:World,PySem.W.noTabs (K w.params)=true)
  (F:∀(w:World) (mg:Str->Option Value) (fa:Addr) (h:Heap),(K w.params).In h->h.Ns mainGlobals mg->mg d.name=some (.ref fa) ->
   ∃fd:FuncData,(∀(s:Shared) (u:Value),BindsTo s fd ⟨[u],[]⟩ [("_law_script",u)])/\(∃p,PySem.W.tabIn (K w.params) "worst_days" = some p)/\∀base:Heap,(K w.params).In base->base.Ns mainGlobals mg->TabX (K w.params) mg base "worst_days" -> FnOk l.prog w (K w.params) mg base (CXF l.prog w) 11 fa fd ["_law_script"] (zjz (K w.params))) :
  PySem.W.WalkO q b r g l.row.toRowW d [] (λf vs=>PySem.call f vs):=
 let ⟨_,hrec'⟩:=hrec
 Internal.walk_ofT (n:=63) (k:=11) (x := "_law_script") (CX:=λw=>CXF l.prog w) (sp:=λw=>zjz (K w.params)) j (by decide) c ⟨rfl,by decide,by decide⟩ hY hrec' hnt F (λ_ _ a ns t i m o=>⟨a,ns,rfl,m,t,i,o,λ_=>rfl⟩) λ_ H s e s' z=>zaA _ H s e s' z
end Internal.K
open PySem PySem.W PyProof.Rows
set_option maxRecDepth 100000 in
set_option maxHeartbeats 0 in
theorem PySem.Challenge.cw_quits_k83_refusals_apart_holds : PySem.Challenge.rw_quits_k83_refusals_apart.Holds := by
 refine pre0 ?_
 k_fill
 refine Internal.K.walk (l:=PySem.Challenge.rw_quits_k83_refusals_apart) rfl rfl (λw h Y=>PySem.W.km_in_of Y) ?xRec ?xTab ?F
 case xRec=>exact⟨_,rfl⟩
 case xTab=>intro w;kernel_rfl
 case F=>
  intro w mg fa h KX G hmg;refine Internal.K.fin ?T hmg
  case T=>
   refine' (⟨_,PySem.W.mg_of KX G (by k_is),_,PySem.W.mg_of KX G (by k_is),_,PySem.W.mg_of KX G (by k_is),_,PySem.W.mg_of KX G (by k_is),_,PySem.W.mg_of KX G (by k_is),_,PySem.W.mg_of KX G (by k_is),_,PySem.W.mg_of KX G (by k_is),_,PySem.W.mg_of KX G (by k_is),_,PySem.W.mg_of KX G (by k_is),_,PySem.W.mg_of KX G (by k_is),_,PySem.W.mg_of KX G (by k_is),_,PySem.W.mg_of KX G (by k_is),_,PySem.W.mg_of KX G (by k_is),_,PySem.W.mg_of KX G (by k_is),_,PySem.W.mg_of KX G (by k_is),_,PySem.W.mg_of KX G (by k_is),_,PySem.W.mg_of KX G (by k_is),_,PySem.W.mg_of KX G (by k_is),?_,?_,?_,?_,?_,?_,?_,?_,?_,?_,?_,?_,?_,?_,?_,?_,?kt_,?kd_,_,PySem.W.mg_of KX G (by k_is),?_,?_,?_,?_,?_,_,PySem.W.mg_of KX G (by k_is),?_,?_,?_,?_,?_,?_,?_,?_,?_,?_,?_,?_,?_,?_,?_,?_,?_,?_,?_,?_,?_,?_,?_,_,PySem.W.mg_of KX G (by k_is),?_,?_,?_,?_,?_,?_,?_,?_,?_,?_,?_,?_,?_,?_,?_,?_,?_,?_,?_,?_,?_,?_,?_,?_,?_,?_,?_,?_,?_,?_,?_,?_,?_,?_,?_,?_,?_,?_,?_,?_,?_,?_,?_,?_,?_,?_,?_,?_,?_,?_,?_,?_,?_,?_,?_,?_,?_,?_,?_,?_,?_,?_,?_,?_,?_,?_,?_,?_,?_,?_,?_,?_,?_,?_,?_,?_,?_,?_,?_,?_,?_,?_,?_,?_,?_,?_,?_,?_,?_,?_,?_,?_,?_,?_,?_,?_,?_,?_,?_,?_,?_,?_,?_,?_,?_,_,_,?_,?_,?_,?_,?_,?_,?_,?_,?_,?_,?_,?_,?_,?_,?_,?_,?_⟩:Internal.K.Txt _ _)
   case kt_=>kernel_rfl
   case kd_=>decide +kernel
   all_goals first | k_is | exact PySem.W.mg_none_of KX G (by k_is) | exact Internal.K.mkD KX G (by k_is) (by k_is) (by k_is) (by k_is) (by intro _ _ _ _ _ _ us hl;first | (obtain⟨_,rfl⟩:=Internal.K.len1 hl;rfl) | (obtain⟨_,_,rfl⟩:=Internal.K.len2 hl;rfl) | (obtain⟨_,_,_,rfl⟩:=Internal.K.len3 hl;rfl) | (obtain⟨_,_,_,_,rfl⟩:=Internal.K.len4 hl;rfl) | (obtain⟨_,_,_,_,_,rfl⟩:=Internal.K.len5 hl;rfl) | (obtain⟨_,_,_,_,_,_,rfl⟩:=Internal.K.len6 hl;rfl) | (obtain⟨_,_,_,_,_,_,_,_,rfl⟩:=Internal.K.len8 hl;rfl)) | exact Internal.kit_self | exact Internal.kit_ne (by decide) (by k_is) (by k_is) (by k_is) | exact Internal.kit_V (by k_is) | exact Internal.exm_mk (by k_is) (by k_is) (by k_is) (by k_is) | exact Internal.errOk_mk (by k_exc) (by k_is) (by k_is) (by k_is) (by k_is) (by k_is) (by k_is) (by k_is) (by k_is) | exact Internal.K.mkK _ (by k_is) (by k_is) | exact Internal.K.mkM (by k_is) (by k_is) (by k_is) (by k_is) (by k_is) (by intro _ _ _ _ _ _ us hl;first | (obtain⟨_,rfl⟩:=Internal.K.len1 hl;rfl) | (obtain⟨_,_,rfl⟩:=Internal.K.len2 hl;rfl) | (obtain⟨_,_,_,rfl⟩:=Internal.K.len3 hl;rfl) | (obtain⟨_,_,_,_,rfl⟩:=Internal.K.len4 hl;rfl) | (obtain⟨_,_,_,_,_,rfl⟩:=Internal.K.len5 hl;rfl) | (obtain⟨_,_,_,_,_,_,rfl⟩:=Internal.K.len6 hl;rfl) | (obtain⟨_,_,_,_,_,_,_,_,rfl⟩:=Internal.K.len8 hl;rfl)) | exact⟨by k_is,by k_is,by k_is,by k_is⟩ | exact(show PySem.W.findIn _ (.ref _) _=some none by k_is) | exact Internal.K.mkQ_WORDS (by k_is) | exact Internal.K.mkI KX G (by k_is) | exact Internal.tab_mk (by k_is) (by k_is) rfl (by k_is) rfl | exact rfl | exact λs v=>.of_eq rfl | skip
