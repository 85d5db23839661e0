import PyProof.Rows.All
import KE.KTryMore
import KE.KSortTup
import KE.KLam
import KE.LcSums
import KE.KMinBuiltin
import KE.RegKLenAny
import KE.KFromBytes
import KE.KDictOf
import KE.KNestM
import OpenK.ZGo
import OpenK.KSplit
import OpenK.KApp
import Wide.FinOn
import PySem.Challenge.RW_quits_k76_a_house_made
set_option compiler.extract_closed false
set_option bootstrap.genMatcherCode false
set_option Elab.async false
set_option linter.all false
set_option maxRecDepth 100000
noncomputable section
local macro_rules|`(tactic|lia)=>`(tactic|first|lia -verbose|omega)
namespace PySem.W.Fast
theorem tw10003881272202596523:True:=⟨⟩
theorem tw1004541356524839324:True:=⟨⟩
theorem tw10052663755029868731:True:=⟨⟩
theorem tw10080319091328426942:True:=⟨⟩
theorem tw10101414927763820834:True:=⟨⟩
theorem tw10126694078340714779:True:=⟨⟩
theorem tw10197124460219443473:True:=⟨⟩
theorem tw1022000837318842949:True:=⟨⟩
theorem tw10225263888746403216:True:=⟨⟩
theorem tw10327132193543972841:True:=⟨⟩
theorem tw10357377293523482381:True:=⟨⟩
theorem tw10362247766395878922:True:=⟨⟩
theorem tw10377831027807571062:True:=⟨⟩
theorem tw10393601105529349264:True:=⟨⟩
theorem tw10477041703776085760:True:=⟨⟩
theorem tw10505343069687262443:True:=⟨⟩
theorem tw10533871838807224180:True:=⟨⟩
theorem tw10546161063159529545:True:=⟨⟩
theorem tw10557161593373856825:True:=⟨⟩
theorem tw1068737409964550197:True:=⟨⟩
theorem tw1068952915423358501:True:=⟨⟩
theorem tw10697223311501546216:True:=⟨⟩
theorem tw10729083146693244037:True:=⟨⟩
theorem tw10768075355704023162:True:=⟨⟩
theorem tw108217070758940330:True:=⟨⟩
theorem tw10839717341868378479:True:=⟨⟩
theorem tw10841791538346894879:True:=⟨⟩
theorem tw10871003818986427229:True:=⟨⟩
theorem tw10881306541906792131:True:=⟨⟩
theorem tw10913789844600590615:True:=⟨⟩
theorem tw10936844917396800122:True:=⟨⟩
theorem tw10937880990148632375:True:=⟨⟩
theorem tw10982240238819972041:True:=⟨⟩
theorem tw10997530848727437374:True:=⟨⟩
theorem tw10999788096802866496:True:=⟨⟩
theorem tw11016680530008172754:True:=⟨⟩
theorem tw11061578002312537003:True:=⟨⟩
theorem tw11114524078288812628:True:=⟨⟩
theorem tw11121964389625226151:True:=⟨⟩
theorem tw11150328055905634295:True:=⟨⟩
theorem tw1125480635911255997:True:=⟨⟩
theorem tw11357464411487741607:True:=⟨⟩
theorem tw11379538913811877571:True:=⟨⟩
theorem tw11382586242292254799:True:=⟨⟩
theorem tw11397637970221981063:True:=⟨⟩
theorem tw11476207161142598282:True:=⟨⟩
theorem tw11505457096247319699:True:=⟨⟩
theorem tw11545880657137308960:True:=⟨⟩
theorem tw11557914037125894209:True:=⟨⟩
theorem tw1156540450154814624:True:=⟨⟩
theorem tw11632639280203936269:True:=⟨⟩
theorem tw11642608513880221300:True:=⟨⟩
theorem tw11692893902078603984:True:=⟨⟩
theorem tw11779376934798356658:True:=⟨⟩
theorem tw11824973028937985597:True:=⟨⟩
theorem tw11849652342200133319:True:=⟨⟩
theorem tw11916026679051647627:True:=⟨⟩
theorem tw11943479690283242390:True:=⟨⟩
theorem tw11948889249861728726:True:=⟨⟩
theorem tw11976742192167811311:True:=⟨⟩
theorem tw11996716056523087512:True:=⟨⟩
theorem tw12052914863595415111:True:=⟨⟩
theorem tw12078983364574276484:True:=⟨⟩
theorem tw12114820216296760171:True:=⟨⟩
theorem tw12158312969821513990:True:=⟨⟩
theorem tw12164540354719249088:True:=⟨⟩
theorem tw12231800517537442522:True:=⟨⟩
theorem tw12255013153368591717:True:=⟨⟩
theorem tw12319745965918445433:True:=⟨⟩
theorem tw12326251817606489373:True:=⟨⟩
theorem tw12333704983648581966:True:=⟨⟩
theorem tw12352453725331223994:True:=⟨⟩
theorem tw12449878041891990640:True:=⟨⟩
theorem tw12534683932849878794:True:=⟨⟩
theorem tw12543261176468571241:True:=⟨⟩
theorem tw12603458518890411721:True:=⟨⟩
theorem tw1260886948561226310:True:=⟨⟩
theorem tw12612936822044678025:True:=⟨⟩
theorem tw12630514029283511947:True:=⟨⟩
theorem tw12682656399134173236:True:=⟨⟩
theorem tw12707512013171006725:True:=⟨⟩
theorem tw12749403292630883089:True:=⟨⟩
theorem tw12776099980683243880:True:=⟨⟩
theorem tw1278028594856593939:True:=⟨⟩
theorem tw12803986419194859302:True:=⟨⟩
theorem tw12809338228106521366:True:=⟨⟩
theorem tw12841294996061989427:True:=⟨⟩
theorem tw12872294399007369422:True:=⟨⟩
theorem tw12883011822537243508:True:=⟨⟩
theorem tw12896531144585703365:True:=⟨⟩
theorem tw1303005785081444530:True:=⟨⟩
theorem tw13050379318441805307:True:=⟨⟩
theorem tw13054956479803599008:True:=⟨⟩
theorem tw1305956674864802996:True:=⟨⟩
theorem tw13171953245944320231:True:=⟨⟩
theorem tw1321318670144483452:True:=⟨⟩
theorem tw13215781718669927604:True:=⟨⟩
theorem tw13246037913447587206:True:=⟨⟩
theorem tw13259313373251360598:True:=⟨⟩
theorem tw13309314213001425332:True:=⟨⟩
theorem tw1335866499855350960:True:=⟨⟩
theorem tw13383754569517239616:True:=⟨⟩
theorem tw13384995359511317360:True:=⟨⟩
theorem tw13511419161909204834:True:=⟨⟩
theorem tw13512783606007616177:True:=⟨⟩
theorem tw13539414806777019908:True:=⟨⟩
theorem tw13552889754629475058:True:=⟨⟩
theorem tw13629799922351228651:True:=⟨⟩
theorem tw1367378232044783462:True:=⟨⟩
theorem tw13707064199158937765:True:=⟨⟩
theorem tw13727261708468564016:True:=⟨⟩
theorem tw13739546523959171138:True:=⟨⟩
theorem tw13811076478719200852:True:=⟨⟩
theorem tw13861581273958887862:True:=⟨⟩
theorem tw13941077900119183828:True:=⟨⟩
theorem tw14005026166431365257:True:=⟨⟩
theorem tw14018307220247857524:True:=⟨⟩
theorem tw14038317906195348864:True:=⟨⟩
theorem tw14044314087513538891:True:=⟨⟩
theorem tw14146273409605377246:True:=⟨⟩
theorem tw14160349501109347876:True:=⟨⟩
theorem tw14200581233892255704:True:=⟨⟩
theorem tw14209903777709131713:True:=⟨⟩
theorem tw1424114909383982866:True:=⟨⟩
theorem tw14293193550999999043:True:=⟨⟩
theorem tw14299231325844987215:True:=⟨⟩
theorem tw14316813867258424580:True:=⟨⟩
theorem tw14322517766169360491:True:=⟨⟩
theorem tw14328754868002612028:True:=⟨⟩
theorem tw14378202013597848108:True:=⟨⟩
theorem tw1438217705335169927:True:=⟨⟩
theorem tw14394588170304674411:True:=⟨⟩
theorem tw14430693046684444986:True:=⟨⟩
theorem tw1455615559776869589:True:=⟨⟩
theorem tw14641827657394096570:True:=⟨⟩
theorem tw14669143954555149824:True:=⟨⟩
theorem tw14672120120753142922:True:=⟨⟩
theorem tw14676588712764694435:True:=⟨⟩
theorem tw14687804011387398090:True:=⟨⟩
theorem tw14705377317327033687:True:=⟨⟩
theorem tw14716526407623431611:True:=⟨⟩
theorem tw14765296100342787210:True:=⟨⟩
theorem tw1483245266315977881:True:=⟨⟩
theorem tw1485880078211217462:True:=⟨⟩
theorem tw14896932175210174935:True:=⟨⟩
theorem tw14905899647044621059:True:=⟨⟩
theorem tw14919463926490895749:True:=⟨⟩
theorem tw14923898083577118034:True:=⟨⟩
theorem tw15009925034481440501:True:=⟨⟩
theorem tw15021435716787190798:True:=⟨⟩
theorem tw15069865136357958426:True:=⟨⟩
theorem tw15085367385840709534:True:=⟨⟩
theorem tw1511320749439449353:True:=⟨⟩
theorem tw15175611495370772500:True:=⟨⟩
theorem tw15227822894530972912:True:=⟨⟩
theorem tw15251272756487031972:True:=⟨⟩
theorem tw15311385544148991171:True:=⟨⟩
theorem tw15313858743472341587:True:=⟨⟩
theorem tw15320099649865244897:True:=⟨⟩
theorem tw15332782385156977549:True:=⟨⟩
theorem tw15391438498948703721:True:=⟨⟩
theorem tw15404870060621464729:True:=⟨⟩
theorem tw1541920360431803531:True:=⟨⟩
theorem tw15494539837484399300:True:=⟨⟩
theorem tw15534629024174145805:True:=⟨⟩
theorem tw15613895431853704318:True:=⟨⟩
theorem tw15648862046927317285:True:=⟨⟩
theorem tw15652021642123508707:True:=⟨⟩
theorem tw15678011079313903915:True:=⟨⟩
theorem tw15685867949811202236:True:=⟨⟩
theorem tw1577557830129908612:True:=⟨⟩
theorem tw1578679925826145733:True:=⟨⟩
theorem tw15790398690657802610:True:=⟨⟩
theorem tw1582669696462148425:True:=⟨⟩
theorem tw15830045091273702105:True:=⟨⟩
theorem tw15843214880157634733:True:=⟨⟩
theorem tw15844842560737935799:True:=⟨⟩
theorem tw15873041155819677128:True:=⟨⟩
theorem tw15918845728506153270:True:=⟨⟩
theorem tw15924088494961765047:True:=⟨⟩
theorem tw15939340216859872952:True:=⟨⟩
theorem tw15949378567158013792:True:=⟨⟩
theorem tw15950348744918238762:True:=⟨⟩
theorem tw15982831151466266711:True:=⟨⟩
theorem tw16026124743354038633:True:=⟨⟩
theorem tw16039769904035097474:True:=⟨⟩
theorem tw1604262625589468252:True:=⟨⟩
theorem tw16047585101098861996:True:=⟨⟩
theorem tw16083336991876222323:True:=⟨⟩
theorem tw16134390810235148783:True:=⟨⟩
theorem tw16143713789915967714:True:=⟨⟩
theorem tw16147716050204050311:True:=⟨⟩
theorem tw16154854977527942779:True:=⟨⟩
theorem tw16181628776293533628:True:=⟨⟩
theorem tw16225270310321712100:True:=⟨⟩
theorem tw16342080493251432463:True:=⟨⟩
theorem tw1641710522942827774:True:=⟨⟩
theorem tw164226873670281224:True:=⟨⟩
theorem tw16476941610854519736:True:=⟨⟩
theorem tw16510944511053423305:True:=⟨⟩
theorem tw16560453085277780946:True:=⟨⟩
theorem tw16593682984346122827:True:=⟨⟩
theorem tw16609204514521383685:True:=⟨⟩
theorem tw16712412797042790127:True:=⟨⟩
theorem tw16742762472776578695:True:=⟨⟩
theorem tw16748871208667615961:True:=⟨⟩
theorem tw16819364597237349600:True:=⟨⟩
theorem tw16849012110450941597:True:=⟨⟩
theorem tw16851161370685613504:True:=⟨⟩
theorem tw16851787470929976085:True:=⟨⟩
theorem tw16976738255732894281:True:=⟨⟩
theorem tw17040893090836301516:True:=⟨⟩
theorem tw17070045026520517798:True:=⟨⟩
theorem tw1707564725628439106:True:=⟨⟩
theorem tw17078788717425236764:True:=⟨⟩
theorem tw17089936180874464135:True:=⟨⟩
theorem tw17176925244422322110:True:=⟨⟩
theorem tw1726912909927362723:True:=⟨⟩
theorem tw17289587561247906242:True:=⟨⟩
theorem tw17299975892970901915:True:=⟨⟩
theorem tw17308884162368466923:True:=⟨⟩
theorem tw17347272256541522442:True:=⟨⟩
theorem tw17363105363653116398:True:=⟨⟩
theorem tw17370009196713103832:True:=⟨⟩
theorem tw17439548624087027692:True:=⟨⟩
theorem tw17459082922819162628:True:=⟨⟩
theorem tw17464753293671811855:True:=⟨⟩
theorem tw17519597774653922057:True:=⟨⟩
theorem tw17576580625432358135:True:=⟨⟩
theorem tw17591888444028955348:True:=⟨⟩
theorem tw17647753774339975487:True:=⟨⟩
theorem tw17737285973745574900:True:=⟨⟩
theorem tw1774037239648586845:True:=⟨⟩
theorem tw17754067508169035278:True:=⟨⟩
theorem tw17759870059273026004:True:=⟨⟩
theorem tw17865051706640616369:True:=⟨⟩
theorem tw17934044664659540943:True:=⟨⟩
theorem tw1801668922238340740:True:=⟨⟩
theorem tw18064157906763247587:True:=⟨⟩
theorem tw1812311449953509630:True:=⟨⟩
theorem tw18171777356149273632:True:=⟨⟩
theorem tw18187263224636079801:True:=⟨⟩
theorem tw18272675195051634646:True:=⟨⟩
theorem tw18359068204300065782:True:=⟨⟩
theorem tw1854373144517464287:True:=⟨⟩
theorem tw1858665349222722512:True:=⟨⟩
theorem tw1862780628240761301:True:=⟨⟩
theorem tw1870194653602413910:True:=⟨⟩
theorem tw1940725745612044798:True:=⟨⟩
theorem tw1977740534653317252:True:=⟨⟩
theorem tw1984616890509993748:True:=⟨⟩
theorem tw1988638787793283149:True:=⟨⟩
theorem tw2023017614405616440:True:=⟨⟩
theorem tw2044605330970337847:True:=⟨⟩
theorem tw2080353277171283955:True:=⟨⟩
theorem tw2096043889502159746:True:=⟨⟩
theorem tw2119248878948457685:True:=⟨⟩
theorem tw2142221664721379683:True:=⟨⟩
theorem tw2232127796187337133:True:=⟨⟩
theorem tw2236626011103363034:True:=⟨⟩
theorem tw2278608613889698652:True:=⟨⟩
theorem tw2308374257761676998:True:=⟨⟩
theorem tw2310029038715799449:True:=⟨⟩
theorem tw2314859392528703977:True:=⟨⟩
theorem tw2351801722237986953:True:=⟨⟩
theorem tw2441200411661679277:True:=⟨⟩
theorem tw244785301046938329:True:=⟨⟩
theorem tw2495330684606686763:True:=⟨⟩
theorem tw2544654048700527258:True:=⟨⟩
theorem tw2552766504799515186:True:=⟨⟩
theorem tw2611530187078315906:True:=⟨⟩
theorem tw2614262513599417883:True:=⟨⟩
theorem tw2616270178564734235:True:=⟨⟩
theorem tw2635836820797173602:True:=⟨⟩
theorem tw265501769729134365:True:=⟨⟩
theorem tw2668672220630757981:True:=⟨⟩
theorem tw2718380917058665863:True:=⟨⟩
theorem tw2726398546243491444:True:=⟨⟩
theorem tw275282586096257837:True:=⟨⟩
theorem tw2813827778171711516:True:=⟨⟩
theorem tw2817968878597372277:True:=⟨⟩
theorem tw2829531771080502924:True:=⟨⟩
theorem tw2835020469503634593:True:=⟨⟩
theorem tw2899328683493860680:True:=⟨⟩
theorem tw2909978150511302242:True:=⟨⟩
theorem tw2933472766745857828:True:=⟨⟩
theorem tw2973031397074777666:True:=⟨⟩
theorem tw3084503471723188244:True:=⟨⟩
theorem tw3089221290175226570:True:=⟨⟩
theorem tw3138724144533072594:True:=⟨⟩
theorem tw3150005284396922933:True:=⟨⟩
theorem tw3179192992334995267:True:=⟨⟩
theorem tw3179722918003677102:True:=⟨⟩
theorem tw3232428167785089708:True:=⟨⟩
theorem tw3241933735711509668:True:=⟨⟩
theorem tw3306148228995249791:True:=⟨⟩
theorem tw3343317432766673524:True:=⟨⟩
theorem tw3382446529120142536:True:=⟨⟩
theorem tw3501726698967766228:True:=⟨⟩
theorem tw352277575871314030:True:=⟨⟩
theorem tw3536854640095229948:True:=⟨⟩
theorem tw3562433207083223736:True:=⟨⟩
theorem tw3617668042516317162:True:=⟨⟩
theorem tw3644424904317154819:True:=⟨⟩
theorem tw3665438215494471047:True:=⟨⟩
theorem tw3704750532038583619:True:=⟨⟩
theorem tw37219137019042731:True:=⟨⟩
theorem tw3725421457803827963:True:=⟨⟩
theorem tw374082702607552942:True:=⟨⟩
theorem tw374694537189371101:True:=⟨⟩
theorem tw3816300491117740045:True:=⟨⟩
theorem tw384144637905934902:True:=⟨⟩
theorem tw3880532561923674208:True:=⟨⟩
theorem tw3886528729958622572:True:=⟨⟩
theorem tw3916789386652509610:True:=⟨⟩
theorem tw3976018161309000412:True:=⟨⟩
theorem tw4006275819895228602:True:=⟨⟩
theorem tw4079006997822830417:True:=⟨⟩
theorem tw4085318021378500045:True:=⟨⟩
theorem tw4115862140664722881:True:=⟨⟩
theorem tw4138292115328948454:True:=⟨⟩
theorem tw4158480183393850629:True:=⟨⟩
theorem tw4168405261222992394:True:=⟨⟩
theorem tw4187015939747296705:True:=⟨⟩
theorem tw4230983530035466607:True:=⟨⟩
theorem tw4245329579766416294:True:=⟨⟩
theorem tw4250728340213938888:True:=⟨⟩
theorem tw4267960573204043157:True:=⟨⟩
theorem tw4275460459378747035:True:=⟨⟩
theorem tw4282871565492260669:True:=⟨⟩
theorem tw4330839709688184091:True:=⟨⟩
theorem tw4332835162347563210:True:=⟨⟩
theorem tw4334574962068247640:True:=⟨⟩
theorem tw4338581901137911018:True:=⟨⟩
theorem tw4374327003617080198:True:=⟨⟩
theorem tw439479935367205363:True:=⟨⟩
theorem tw4401986081609081218:True:=⟨⟩
theorem tw44551929199849032:True:=⟨⟩
theorem tw4475935611510113120:True:=⟨⟩
theorem tw4520792038377604623:True:=⟨⟩
theorem tw4533573135654341097:True:=⟨⟩
theorem tw4580717499706510733:True:=⟨⟩
theorem tw4595598126863403284:True:=⟨⟩
theorem tw4624938368939634134:True:=⟨⟩
theorem tw4673161789945367682:True:=⟨⟩
theorem tw4699047298589581519:True:=⟨⟩
theorem tw473131415956995602:True:=⟨⟩
theorem tw4804032438374535763:True:=⟨⟩
theorem tw4953372225481042245:True:=⟨⟩
theorem tw4994103938027955679:True:=⟨⟩
theorem tw5115774518680897119:True:=⟨⟩
theorem tw512067756890402541:True:=⟨⟩
theorem tw5140739181645745654:True:=⟨⟩
theorem tw5176948111159438807:True:=⟨⟩
theorem tw5190407602396165945:True:=⟨⟩
theorem tw5204612808467039543:True:=⟨⟩
theorem tw5369536216942170583:True:=⟨⟩
theorem tw5500536916744875358:True:=⟨⟩
theorem tw5522790370130573152:True:=⟨⟩
theorem tw557034914185646060:True:=⟨⟩
theorem tw5583095940432689394:True:=⟨⟩
theorem tw5626980959840078741:True:=⟨⟩
theorem tw5643177509201350528:True:=⟨⟩
theorem tw5647726030157553581:True:=⟨⟩
theorem tw5659979297893034102:True:=⟨⟩
theorem tw5765454529138792835:True:=⟨⟩
theorem tw5840384386347091767:True:=⟨⟩
theorem tw5860744881514749164:True:=⟨⟩
theorem tw5910428248205370849:True:=⟨⟩
theorem tw5918336630788307142:True:=⟨⟩
theorem tw6005027359099210899:True:=⟨⟩
theorem tw6015051979855857224:True:=⟨⟩
theorem tw6018645271844313371:True:=⟨⟩
theorem tw6096309280284660563:True:=⟨⟩
theorem tw6105206147326903431:True:=⟨⟩
theorem tw6129854144615721894:True:=⟨⟩
theorem tw6129871124618689094:True:=⟨⟩
theorem tw6219488406376987654:True:=⟨⟩
theorem tw6246226713283723177:True:=⟨⟩
theorem tw6266247562335061821:True:=⟨⟩
theorem tw6276154853229172221:True:=⟨⟩
theorem tw6276494868745498197:True:=⟨⟩
theorem tw6314886755594181270:True:=⟨⟩
theorem tw6318230752252425217:True:=⟨⟩
theorem tw6326531828444772345:True:=⟨⟩
theorem tw6350834225112212140:True:=⟨⟩
theorem tw6363266818905394118:True:=⟨⟩
theorem tw6384204056357562699:True:=⟨⟩
theorem tw6386471979805794701:True:=⟨⟩
theorem tw6399154393812509536:True:=⟨⟩
theorem tw6462094891005182735:True:=⟨⟩
theorem tw6474538122327674677:True:=⟨⟩
theorem tw6498243571361407091:True:=⟨⟩
theorem tw6548905622596637744:True:=⟨⟩
theorem tw660620905814804321:True:=⟨⟩
theorem tw6640283395800386152:True:=⟨⟩
theorem tw6678286177176935242:True:=⟨⟩
theorem tw6719464348919504628:True:=⟨⟩
theorem tw6829776480626916105:True:=⟨⟩
theorem tw6855031629566532278:True:=⟨⟩
theorem tw6857707408678583283:True:=⟨⟩
theorem tw6863289952772118347:True:=⟨⟩
theorem tw690512290647608949:True:=⟨⟩
theorem tw6969370189390660015:True:=⟨⟩
theorem tw7056098617187198724:True:=⟨⟩
theorem tw7086347641725695433:True:=⟨⟩
theorem tw720624529859938587:True:=⟨⟩
theorem tw7247856028208883876:True:=⟨⟩
theorem tw7276468624719728480:True:=⟨⟩
theorem tw728805925459723119:True:=⟨⟩
theorem tw7314465234390552956:True:=⟨⟩
theorem tw7438029376944941204:True:=⟨⟩
theorem tw7448112688744080774:True:=⟨⟩
theorem tw7498479767236795363:True:=⟨⟩
theorem tw7579905678436076997:True:=⟨⟩
theorem tw7603917274923370396:True:=⟨⟩
theorem tw7704923335521466143:True:=⟨⟩
theorem tw7749322815629217749:True:=⟨⟩
theorem tw7800689808132159353:True:=⟨⟩
theorem tw7806245121161375947:True:=⟨⟩
theorem tw7806303989397248541:True:=⟨⟩
theorem tw7898606579590969726:True:=⟨⟩
theorem tw7912830355439823572:True:=⟨⟩
theorem tw7961755121947872093:True:=⟨⟩
theorem tw8044232388417630137:True:=⟨⟩
theorem tw8063197347867858324:True:=⟨⟩
theorem tw8067062708112629469:True:=⟨⟩
theorem tw8076111275151450500:True:=⟨⟩
theorem tw8076210429132208727:True:=⟨⟩
theorem tw8083406567337537848:True:=⟨⟩
theorem tw8095696576644205637:True:=⟨⟩
theorem tw8110008435912886407:True:=⟨⟩
theorem tw8213074260156388357:True:=⟨⟩
theorem tw8308921714697446479:True:=⟨⟩
theorem tw8414288019561156311:True:=⟨⟩
theorem tw8424763052475730008:True:=⟨⟩
theorem tw8456331533512618831:True:=⟨⟩
theorem tw8512910396175028064:True:=⟨⟩
theorem tw8551524557309378784:True:=⟨⟩
theorem tw8616917791905566418:True:=⟨⟩
theorem tw8624106842313435876:True:=⟨⟩
theorem tw8644986483022808280:True:=⟨⟩
theorem tw8651956848222095183:True:=⟨⟩
theorem tw8670951596598422757:True:=⟨⟩
theorem tw8693592938861923469:True:=⟨⟩
theorem tw8722886427923492459:True:=⟨⟩
theorem tw8788929581937129093:True:=⟨⟩
theorem tw8836843642917830599:True:=⟨⟩
theorem tw8922042178170667592:True:=⟨⟩
theorem tw8932711422952035319:True:=⟨⟩
theorem tw8974514689612211942:True:=⟨⟩
theorem tw899506078230093670:True:=⟨⟩
theorem tw9028985922101446785:True:=⟨⟩
theorem tw9033189262997819594:True:=⟨⟩
theorem tw9042534707577420601:True:=⟨⟩
theorem tw9044987299815167749:True:=⟨⟩
theorem tw9068570241517296347:True:=⟨⟩
theorem tw9072594836522844287:True:=⟨⟩
theorem tw9095213999865409406:True:=⟨⟩
theorem tw914467828230485481:True:=⟨⟩
theorem tw9146956898611112743:True:=⟨⟩
theorem tw9182203480387741098:True:=⟨⟩
theorem tw9206279102392567793:True:=⟨⟩
theorem tw9212989022353971567:True:=⟨⟩
theorem tw9261792042655622083:True:=⟨⟩
theorem tw9267481758428075022:True:=⟨⟩
theorem tw9285644455182881572:True:=⟨⟩
theorem tw9397134855719479625:True:=⟨⟩
theorem tw943355188794598911:True:=⟨⟩
theorem tw9469013061006712911:True:=⟨⟩
theorem tw9497406251139965039:True:=⟨⟩
theorem tw9553165217424737606:True:=⟨⟩
theorem tw956241545871040181:True:=⟨⟩
theorem tw9582483537417118016:True:=⟨⟩
theorem tw9699339281901349706:True:=⟨⟩
theorem tw972466040929077135:True:=⟨⟩
theorem tw9726526208128802682:True:=⟨⟩
theorem tw9729148089746119012:True:=⟨⟩
theorem tw9742329757561050413:True:=⟨⟩
theorem tw9758213031926700221:True:=⟨⟩
theorem tw9819103738553569894:True:=⟨⟩
theorem tw9853483128972812115:True:=⟨⟩
theorem tw9883224412427628051:True:=⟨⟩
theorem tw9925341739822434552:True:=⟨⟩
theorem tw9981150789375219033:True:=⟨⟩
end PySem.W.Fast
open PySem PySem.W PyProof.Rows in
set_option maxRecDepth 100000 in
set_option maxHeartbeats 0 in
open_top pre0 for PySem.Challenge.rw_quits_k76_a_house_made
local macro_rules|`(⋯)=>`(by lia)
abbrev Fg:=PySem.W.Frag
abbrev yb:=@List.length_map
abbrev yc:=@Nat.le_trans
abbrev ye:=@Nat.succ_le_succ
abbrev yf:=@List.length_append
abbrev yg:=@List.getElem?_map
abbrev yh:=@Nat.le_refl
abbrev yi:=@List.getD_eq_getElem?_getD
abbrev yj:=@List.map_append
abbrev yk:=@List.getElem?_eq_some_iff
abbrev yl:=@List.size_toArray
abbrev ym:=@List.mem_of_getElem?
abbrev yn:=@Bool.false_ne_true
abbrev yo:=@Nat.ne_of_lt
abbrev yp:=@List.mem_singleton
abbrev yq:=@Option.some.inj
abbrev yr:=@List.getElem?_eq_getElem
abbrev yt:=@List.mem_cons
abbrev yu:=@Nat.lt_of_lt_of_le
abbrev yw:=@List.lookup_cons
abbrev yx:=@Int.toNat_natCast
abbrev yz:=@List.take_length
abbrev yA:=@List.mem_append
abbrev yB:=@Nat.not_lt_zero
abbrev yC:=@Nat.lt_of_le_of_lt
abbrev yD:=@Int.le_refl
abbrev yE:=@List.length_cons
abbrev yF:=@Bool.and_eq_true
abbrev yG:=@Classical.byContradiction
abbrev yH:=@List.map_cons
abbrev yI:=@Nat.zero_le
abbrev yJ:=@List.mem_cons_of_mem
abbrev yK:=@List.nodup_cons
abbrev yL:=@Int.mul_le_mul_of_nonneg_right
abbrev yM:=@List.length_range
abbrev yN:=@List.mem_append_right
abbrev yO:=@List.range_succ
abbrev yP:=@List.getElem_of_mem
abbrev yQ:=@Nat.lt_irrefl
abbrev yR:=@List.not_mem_nil
abbrev yS:=@List.nodup_append
abbrev yT:=@List.length_eq_zero_iff
abbrev yU:=@PySem.W.mg_of
abbrev yV:=@PySem.W.kia_one
abbrev yW:=@List.length_singleton
abbrev yX:=@Int.mul_ediv_cancel_left
abbrev yY:=@List.map_singleton
abbrev yZ:=@List.mem_range
abbrev y3:=@PySem.F.plain_min_loop
abbrev y4:=@Int.ediv_mul_cancel
abbrev y6:=@List.append_nil
abbrev y8:=@List.getElem?_append_left
abbrev y9:=@Nat.lt_succ_self
abbrev yaa:=@Int.ne_of_gt
abbrev yab:=@Int.emod_lt_of_pos
abbrev yac:=@List.nodup_nil
abbrev yad:=@Int.emod_nonneg
abbrev yae:=@List.replicate_succ
abbrev yaf:=@Int.mul_comm
abbrev yag:=@List.length_take
abbrev yah:=@List.take_succ_eq_append_getElem
abbrev yai:=@List.mem_cons_self
abbrev yaj:=@Nat.le_of_lt
abbrev yak:=@Int.le_of_lt
abbrev yal:=@List.getElem?_replicate
abbrev yam:=@PySem.F.plainAttrs_list
abbrev yan:=@PyProof.Rows.callWith_type1
abbrev yao:=@List.getElem?_eq_none
abbrev yap:=@Int.mul_nonpos_of_nonneg_of_nonpos
abbrev yaq:=@List.foldl_append
abbrev yar:=@List.ext_getElem?
abbrev yas:=@Nat.le_succ_of_le
abbrev yat:=@List.mem_append_left
abbrev yau:=@List.getElem?_eq_none_iff
abbrev yav:=@PySem.SeqAt.eqv_refl
abbrev yaw:=@List.mem_map
abbrev yax:=@PySem.mem_of_lookup
abbrev yay:=@List.getElem?_range
abbrev yaz:=@List.eraseIdx_eq_take_drop_succ
abbrev yaA:=@Ne.symm
abbrev yaB:=@PySem.W.callWith_K
abbrev yaC:=@Bool.false_eq_true
abbrev yaD:=@Int.mul_le_mul_of_nonneg_left
abbrev yaE:=@List.eq_nil_of_length_eq_zero
abbrev yaF:=@List.flatten_cons
abbrev yaG:=@List.append_assoc
abbrev yaH:=@Int.mul_left_comm
abbrev yaI:=@Nat.lt_succ_of_lt
abbrev yaJ:=@Int.mul_ediv_add_emod
abbrev yaK:=@Array.getD_eq_getD_getElem?
abbrev yaL:=@List.getElem?_append
abbrev yaM:=@Int.ediv_pos_of_pos_of_dvd
abbrev yaN:=@Int.mul_pos
abbrev yaO:=@Array.length_toList
abbrev yaP:=@List.mem_filter
abbrev yaQ:=@List.pairwise_iff_getElem
abbrev yaR:=@Int.le_trans
abbrev yaS:=@Rat.sub_eq_add_neg
abbrev yaT:=@List.take_zero
abbrev yaU:=@Int.not_lt
abbrev yaV:=@List.filter_cons_of_pos
abbrev yaW:=@List.filter_cons_of_neg
abbrev yaX:=@List.getElem?_set_self
abbrev yaY:=@List.range_succ_eq_map
abbrev yaZ:=@Int.add_mul
abbrev ya0:=@PySem.F.entry_min_loop
abbrev ya1:=@List.all_cons
abbrev ya2:=@Int.mul_assoc
abbrev ya3:=@List.map_take
abbrev ya4:=@List.length_drop
abbrev ya5:=@List.all_eq_true
abbrev ya6:=@PySem.W.methodCall_KW
abbrev ya7:=@List.take_append_drop
abbrev ya8:=@Nat.le_of_ble_eq_true
abbrev ya9:=@List.getElem?_set_ne
abbrev yba:=@Bool.eq_iff_iff
abbrev ybb:=@PySem.W.looks_findIn
abbrev ybc:=@Nat.not_lt
abbrev ybd:=@Nat.add_le_add_right
abbrev ybe:=@Nat.lt_trans
abbrev ybf:=@PySem.W.kia_tup
abbrev ybg:=@List.filterMap_cons
abbrev ybh:=@PySem.W.plainGet_of
abbrev ybi:=@Rat.divInt_mul_left
abbrev ybj:=@List.map_congr_left
abbrev ybk:=@Int.gcd_eq_natAbs_gcd_natAbs
abbrev ybl:=@List.take_succ
abbrev ybm:=@Int.mul_one
abbrev ybn:=@Nat.le_succ
abbrev ybo:=@Int.mul_add
abbrev ybp:=@List.mem_filterMap
abbrev ybq:=@Rat.neg_divInt_neg
abbrev ybr:=@List.filter_append
abbrev ybs:=@List.getElem?_concat_length
abbrev ybt:=@List.any_cons
abbrev ybu:=@PySem.W.kitx_list
abbrev ybv:=@Nat.le_of_succ_le
abbrev ybw:=@Nat.ne_of_gt
abbrev ybx:=@Nat.le_of_eq
abbrev yby:=@Int.lt_or_le
abbrev ybz:=@List.getElem_mem
abbrev ybA:=@List.map_map
abbrev ybB:=@List.of_mem_zip
abbrev ybC:=@List.forIn_cons
abbrev ybD:=@Int.one_mul
namespace Internal
variable {A:Around}{C a b dx:Addr}{K:Fg}{M:Model}{N ps:List Str}{P:Program}{base h:Heap}{e iter tg:Expr}{es:List Expr}{fd:FuncData}{fp:List Addr}{i j k n t':Nat}{its us:List Value}{lo:Int}{mg:Str->Option Value}{outer:List Env}{pins:List (Addr × Obj)}{s:Shared}{u:Value}{w:World}{x:Str}
theorem aut0(h:True:=by first | exact .inl rfl | exact .inr rfl | assumption):True:=h
theorem aut1(h:True:=by decide):True:=h
theorem aut2(h:True:=by rfl):True:=h
theorem aut3(h:True:=by intro _;rfl):True:=h
theorem aut4(h:True:=by intros;rfl):True:=h
theorem aut5(h:True:=by exact λ_ _ _ _ _=>rfl):True:=h
theorem aut6(h:True:=by exact λ_ _=>rfl):True:=h
theorem aut7(h:True:=by exact λ_=>rfl):True:=h
theorem aut8(h:True:=by first | exact Or.inl rfl | exact Or.inr rfl):True:=h
theorem aut9(h:True:=by first | exact .inl rfl | exact .inr rfl):True:=h
open PySem PySem.Spec PyProof.Rows
abbrev Key:=Sum Int Str
noncomputable def zrA:Key->Value->Bool
 | .inl k,v=>Value.isInt k v
 | .inr x,v=>Value.isStrOf x v
noncomputable def zvu (w:World):Key->Int
 | .inl k=>hashInt k
 | .inr x=>hashStr w x
def zaN:∀{k:Key} {v:Value},zrA k v=true->(∃i t,k=Sum.inl i/\v=Value.int i t)\/(∃x t,k=Sum.inr x/\v=Value.str x t)
 | .inl i,v,h=>by
  obtain⟨t,e⟩:=Value.isInt_shape (k:=i) (v:=v) h;exact .inl ⟨i,t,rfl,e⟩
 | .inr x,v,h=>by
  obtain⟨t,e⟩:=Value.isStrOf_shape (x:=x) (v:=v) h;exact .inr ⟨x,t,rfl,e⟩
def zt0(a b:Int):decide ((Sum.inl a:Key)=Sum.inl b)=(a == b):=by
 by_cases e:a=b
 ·subst e;simp
 ·have h:¬(Sum.inl a:Key)=Sum.inl b:=λq=>e (Sum.inl.inj q);rw[decide_eq_false h];exact(beq_eq_false_iff_ne.mpr e).symm
def zta(a b:Str):decide ((Sum.inr a:Key)=Sum.inr b)=decide (a=b):=by
 by_cases e:a=b
 ·subst e;simp
 ·have h:¬(Sum.inr a:Key)=Sum.inr b:=λq=>e (Sum.inr.inj q);rw[decide_eq_false h,decide_eq_false e]
def ztr(a:Int)(b:Str):decide ((Sum.inl a:Key)=Sum.inr b)=false:=decide_eq_false (λq=>nomatch q)
def ztY(a:Str)(b:Int):decide ((Sum.inr a:Key)=Sum.inl b)=false:=decide_eq_false (λq=>nomatch q)
noncomputable def zic (prog:Program) (w:World):PySem.KeyKind prog w Key where
 is:=zrA
 hash:=zvu w
 inj:=λv a b g d=>by
  rcases zaN g with⟨i,t,rfl,rfl⟩ | ⟨x,t,rfl,rfl⟩
  ·rcases zaN d with⟨j,u,rfl,e⟩ | ⟨y,u,rfl,e⟩
   ·injection e with e1 _;rw[e1]
   ·exact nomatch e
  ·rcases zaN d with⟨j,u,rfl,e⟩ | ⟨y,u,rfl,e⟩
   ·exact nomatch e
   ·injection e with e1 _;rw[e1]
 byValue:=λk v h=>by
  rcases zaN h with⟨i,t,rfl,rfl⟩ | ⟨x,t,rfl,rfl⟩<;>rfl
 pyHash:=λc h=>by
  rcases zaN c with⟨i,t,rfl,rfl⟩ | ⟨x,t,rfl,rfl⟩
  ·exact wpAny_pyHash_int h
  ·exact wpAny_pyHash_str h
 eqBool:=λf c h=>by
  rcases zaN f with⟨i,t,rfl,rfl⟩ | ⟨x,t,rfl,rfl⟩
  ·rcases zaN c with⟨j,u,rfl,rfl⟩ | ⟨y,u,rfl,rfl⟩
   ·rw[zt0]at h;exact wpAny_eqBool_int h
   ·rw[ztr]at h;exact SeqAt.EqAt.int_str i t y u _ _ _ _ h
  ·rcases zaN c with⟨j,u,rfl,rfl⟩ | ⟨y,u,rfl,rfl⟩
   ·rw[ztY]at h;exact SeqAt.EqAt.str_int x t j u _ _ _ _ h
   ·rw[zta]at h;exact wpAny_eqBool_str h
 «strs»:=λk x t v h=>by
  rcases zaN h with⟨i,u,rfl,e⟩ | ⟨y,u,rfl,e⟩
  ·exact nomatch e
  ·injection e with e1 _
   subst e1;cases v<;>rfl
inductive V where
 | non | bl (b:Bool) | int (i:Int) | str (x:Str) | byt (b:Array UInt8) | flt (b:UInt64) | ref (a:Addr) | ty (n:String)
 deriving DecidableEq
variable {v y:V}{xs:List V}
noncomputable def RelV:V->Value->Prop
 | .non,u=>u=Value.none
 | .bl b,u=>u=Value.bool b
 | .int i,u=>∃t,u=Value.int i t
 | .str x,u=>∃t,u=Value.str x t
 | .byt b,u=>∃t,u=Value.bytes b t
 | .flt b,u=>∃t,u=Value.float b t
 | .ref a,u=>u=Value.ref a
 | .ty n,u=>u=Value.type n
abbrev Vals:List V->List Value->Prop:=Paired RelV
theorem Vals.length{xs:List V}{us:List Value}(r:Vals xs us):xs.length=us.length:=Paired.length r
theorem Vals.get:∀{xs:List V} {us:List Value} {i:Nat} {x:V},Vals xs us->xs[i]?=some x->∃u,us[i]?=some u/\RelV x u
 | _,_,_,_,.nil,e=>by simp at e
 | _,_,0,_,.cons r _,e=>by simp at e;subst e;exact⟨_,rfl,r⟩
 | _,_,i+1,x,.cons _ t,e=>by
  obtain⟨u,h1,h2⟩:=Vals.get (i:=i) (x:=x) t (by simpa using e);exact⟨u,by simpa using h1,h2⟩
theorem Vals.set{x:V}{u:Value}(r:RelV x u):∀{xs:List V} {us:List Value} (i:Nat),Vals xs us->Vals (xs.set i x) (us.set i u)
 | _,_,_,.nil=>.nil
 | _,_,0,.cons _ t=>.cons r t
 | _,_,i+1,.cons q t=>.cons q (Vals.set r i t)
theorem Vals.append:∀{xs ys:List V} {us ws:List Value},Vals xs us->Vals ys ws->Vals (xs++ys) (us++ws)
 | _,_,_,_,.nil,s=>s
 | _,_,_,_,.cons r t,s=>.cons r (Vals.append t s)
theorem Vals.take:∀{xs:List V} {us:List Value} (n:Nat),Vals xs us->Vals (xs.take n) (us.take n)
 | _,_,0,_=>.nil
 | _,_,_+1,.nil=>.nil
 | _,_,n+1,.cons r t=>.cons r (Vals.take n t)
theorem Vals.drop:∀{xs:List V} {us:List Value} (n:Nat),Vals xs us->Vals (xs.drop n) (us.drop n)
 | _,_,0,r=>r
 | _,_,_+1,.nil=>.nil
 | _,_,n+1,.cons _ t=>Vals.drop n t
noncomputable def RelO:Option V->Option Value->Prop
 | some v,some u=>RelV v u
 | none,none=>True
 | _,_=>False
noncomputable def KV {κ:Type}:List (κ × V)->List (κ × Value)->Prop:=Paired fun(p:κ × V) (q:κ × Value)=>p.1=q.1/\RelV p.2 q.2
noncomputable def kV:Key->V
 | .inl i=>.int i
 | .inr x=>.str x
inductive HO where
 /-- a list -/
 | lst (xs:List V)
 /-- a tuple (never changes) -/
 | tup (xs:List V)
 /-- a dict whose keys are ints and texts;one whose keys are tuples of ints and texts (the empty one is both) -/
 | dK (kvs:List (Key × V)) | dT (kvs:List (List Key × V))
 /-- a set of ints: its members,its size -/
 | set (S:Int->Bool) (n:Nat)
 /-- an instance of the class at C,its dict at dx,its attributes -/
 | ins (C dx:Addr) (fs:List (Str × V))
 /-- the dict of the instance at x -/
 | own (x:Addr)
 /-- the dict of an exception -/
 | xd (fs:List (Str × V))
 /-- a bound method,f of x -/
 | met (f x:Addr)
 /-- a range object lo,lo+1,.. below hi -/
 | rng (lo hi:Int)
 /-- a thing that is known to the object (the script;a dict while a loop walks it): read,never written while it is so -/
 | frz (o:Obj) (u:HO)
 /-- a code object's table -/
 | tbl (ps:Array Value)
 /-- any other thing,by what is true of its one object (a def of one's own: SetO a S n:=HO.ext λh=>..) -/
 | ext (φ:Heap->Prop)
variable {o:HO}
abbrev Hp:=Addr->Option HO
variable {H H':Hp}
noncomputable def upd (H:Hp) (a:Addr) (o:HO):Hp:=λb=>if b=a then some o else H b
def zF:upd H a o a=some o:=by unfold upd;rw[if_pos rfl]
def zG(h:b≠a):upd H a o b=H b:=by unfold upd;rw[if_neg h]
def zag{u:HO}(h:H a=some o)(h':H b=some u)(d:o≠u):a≠b:=by
 intro e;subst e;rw[h]at h';exact d (yq h')
def zy(h:H a=some o)(h':H b=none):a≠b:=by
 intro e;subst e;rw[h]at h';cases h'
section
variable (P:Program)(w:World)
noncomputable def ObjOk (H:Hp) (h:Heap) (a:Addr):HO->Prop
 | .lst xs=>xs.length<=sizeLine/\∃(its:List Value) (n:Nat),Vals xs its/\h.get? a=some { cls:=.type "list",data:=.seq its.toArray n }
 | .tup xs=>xs.length<=sizeLine/\∃its:List Value,Vals xs its/\IsTup h a its.toArray
 | .dK kvs=>kvs.length<=sizeLine/\(a == sysModules)=false/\∃vs,KV kvs vs/\h.DictOf (zic P w) a vs
 | .dT kvs=>kvs.length<=sizeLine/\(a == sysModules)=false/\∃xs:List (List Key × Addr × Value),
   Paired (fun(p:List Key × V) (q:List Key × Addr × Value)=>p.1=q.1/\H q.2.1=some (.tup (p.1.map kV))/\RelV p.2 q.2.2) kvs xs /\
   ∃o es ep,h.get? a=some o/\o.ExactDict/\o.data=.dict es ep/\es.toList=xs.map (entryOfKey (tupleKind (zic P w)))/\(xs.map (·.1)).Nodup
 | .set S n=>h.SetOf (intKind P w) a S n
 | .ins C dx fs=>H dx=some (.own a)/\fs.length<=1000/\dx≠a/\h.get? a=some (PySem.W.instObj C dx) /\
   ∃mA,h.Ns1 dx mA/\(∀f,RelO (fs.lookup f) (mA f))/\PySem.Within mA (fs.map (·.1))
 | .own _=>∃o,h.get? a=some o
 | .xd fs=>∃mA,h.Ns1 a mA/\∀f,RelO (fs.lookup f) (mA f)
 | .rng lo hi=>∃t u v,h.get? a=some { cls:=.type "range",data:=.fields #[.int lo t,.int hi u,.int 1 v] }
 | .frz o u=>h.get? a=some o/\ObjOk H h a u
 | .tbl ps=>h.get? a=some { cls:=.none,data:=.fields ps }
 | .met f x=>h.get? a=some (PySem.W.methodObj (.ref f) (.ref x))
 | .ext φ=>φ h/\(∃o,h.get? a=some o)/\∀h1 h2:Heap,φ h1->(∀o,h1.get? a=some o->h2.get? a=some o)->φ h2
noncomputable def HOk (H:Hp) (h:Heap):Prop:=∀a o,H a=some o->ObjOk P w H h a o
end
section
variable {P:Program}{w:World}{H H':Hp}{h h':Heap}{a:Addr}{o:HO}
theorem ObjOk.lt(x:ObjOk P w H h a o):a<h.objs.size:=by
 cases o with
 | lst xs=>obtain⟨_,_,_,_,e⟩:=x;exact Heap.lt_size e
 | tup xs=>obtain⟨_,_,_,p⟩:=x;exact p.lt
 | dK kvs=>obtain⟨_,_,_,_,o,_,_,e,_⟩:=x;exact Heap.lt_size e
 | dT kvs=>obtain⟨_,_,_,_,o,_,_,e,_⟩:=x;exact Heap.lt_size e
 | set S n=>obtain⟨o,_,_,_,e,_⟩:=x;exact Heap.lt_size e
 | ins C dx fs=>obtain⟨_,_,_,e,_⟩:=x;exact Heap.lt_size e
 | own y=>obtain⟨_,e⟩:=x;exact Heap.lt_size e
 | xd fs=>obtain⟨_,⟨_,_,_,e,_⟩,_⟩:=x;exact Heap.lt_size e
 | rng lo hi=>obtain⟨_,_,_,e⟩:=x;exact Heap.lt_size e
 | frz ob u=>obtain⟨e,_⟩:=x;exact Heap.lt_size e
 | tbl ps=>exact Heap.lt_size (show h.get? a=some _ from x)
 | met f y=>exact Heap.lt_size (show h.get? a=some _ from x)
 | ext φ=>obtain⟨_,⟨_,e⟩,_⟩:=x;exact Heap.lt_size e
theorem Paired.mapP{α β:Type}{F G:α->β->Prop}:∀{l₁:List α} {l₂:List β},Paired F l₁ l₂->(∀a b,F a b->G a b)->Paired G l₁ l₂
 | _,_,.nil,_=>.nil
 | _,_,.cons r t,f=>.cons (f _ _ r) (Paired.mapP t f)
def ObjOk.stay(x:ObjOk P w H h a o)(k:∀b u,(b=a\/H b=some (.own a))->h.get? b=some u->h'.get? b=some u)
  (ho:∀b,H b=some (.own a)->H' b=some (.own a)) (ht:∀b xs,H b=some (.tup xs)->H' b=some (.tup xs)):ObjOk P w H' h' a o:=by
 induction o with
 | lst xs=>obtain⟨z,its,n,r,e⟩:=x;exact⟨z,its,n,r,k _ _ (.inl rfl) e⟩
 | tup xs=>obtain⟨z,its,r,ob,e,c⟩:=x;exact⟨z,its,r,ob,k _ _ (.inl rfl) e,c⟩
 | dK kvs=>obtain⟨z,y,vs,r,ob,es,g,e,c⟩:=x;exact⟨z,y,vs,r,ob,es,g,k _ _ (.inl rfl) e,c⟩
 | dT kvs=>
  obtain⟨z,y,xs,r,ob,es,g,e,c⟩:=x;exact⟨z,y,xs,Paired.mapP r λp q z=>⟨z.1,ht _ _ z.2.1,z.2.2⟩,ob,es,g,k _ _ (.inl rfl) e,c⟩
 | set S n=>obtain⟨ob,es,g,t,e,c⟩:=x;exact⟨ob,es,g,t,k _ _ (.inl rfl) e,c⟩
 | ins C dx fs=>
  obtain⟨d,z,ne,e,mA,⟨od,es,g,e2,c⟩,r⟩:=x;exact⟨ho _ d,z,ne,k _ _ (.inl rfl) e,mA,⟨od,es,g,k _ _ (.inr d) e2,c⟩,r⟩
 | own y=>obtain⟨ob,e⟩:=x;exact⟨ob,k _ _ (.inl rfl) e⟩
 | xd fs=>obtain⟨mA,⟨od,es,g,e,c⟩,r⟩:=x;exact⟨mA,⟨od,es,g,k _ _ (.inl rfl) e,c⟩,r⟩
 | rng lo hi=>obtain⟨t,u,v,e⟩:=x;exact⟨t,u,v,k _ _ (.inl rfl) e⟩
 | frz ob u ih=>obtain⟨e,q⟩:=x;exact⟨k _ _ (.inl rfl) e,ih q⟩
 | tbl ps=>
  have e:h.get? a=some { cls:=.none,data:=.fields ps }:=x;show h'.get? a=some { cls:=.none,data:=.fields ps };exact k a _ (.inl rfl) e
 | met f y=>
  have e:h.get? a=some (PySem.W.methodObj (.ref f) (.ref y)):=x;show h'.get? a=some (PySem.W.methodObj (.ref f) (.ref y));exact k a _ (.inl rfl) e
 | ext φ=>obtain⟨p,⟨o,e⟩,st⟩:=x;exact⟨st _ _ p λo q=>k _ _ (.inl rfl) q,⟨o,k _ _ (.inl rfl) e⟩,st⟩
theorem HOk.lt(x:HOk P w H h)(e:H a=some o):a<h.objs.size:=(x a o e).lt
def HOk.fresh(x:HOk P w H h)(e:h.objs.size<=a):H a=none:=by
 cases q:H a with
 | none=>rfl
 | some u=>exact absurd (yu (x.lt q) e) (yQ _)
def HOk.kept(x:HOk P w H h)(k:∀b u,h.get? b=some u->h'.get? b=some u):HOk P w H h':=λa o e=>
 (x a o e).stay (λb u _ q=>k b u q) (λ_ q=>q) λ_ _ q=>q
def HOk.laid(x:HOk P w H h)(k:∀b u,h.get? b=some u->h'.get? b=some u)(hp:h.objs.size<=a)(new:ObjOk P w (upd H a o) h' a o):HOk P w (upd H a o) h':=λb u e=>by
 have hn:=x.fresh hp;by_cases d:b=a
 ·subst d;rw[zF]at e;cases e;exact new
 ·rw[zG d]at e;exact(x b u e).stay (λc v _ q=>k c v q) (λc q=>by rw[zG (zy q hn)];exact q) λc xs q=>by rw[zG (zy q hn)];exact q
end
noncomputable def Rd (H:Hp) (a:Addr) (u:HO):Prop:=H a=some u\/∃o,H a=some (.frz o u)
def Rd.ok{u:HO}(r:Rd H a u)(x:HOk P w H h):ObjOk P w H h a u:=by
 rcases r with r | ⟨o,r⟩
 ·exact x a u r
 ·obtain⟨_,q⟩:=x a _ r;exact q
noncomputable def Mut:Option HO->Prop
 | some (.lst _)=>True
 | some (.dK _)=>True
 | some (.dT _)=>True
 | some (.set _ _)=>True
 | some (.ins _ _ _)=>True
 | some (.ext _)=>True
 | _=>False
section
variable {P:Program}{w:World}{H:Hp}{h h':Heap}{x e:Addr}{o':HO}
def HOk.write(ok:HOk P w H h)(g:Mut (H x))(m:e=x\/H e=some (.own x))(k:∀b u,b≠e->h.get? b=some u->h'.get? b=some u)(l:∃u,h'.get? e=some u)
  (new:ObjOk P w (upd H x o') h' x o'):HOk P w (upd H x o') h':=λb u q=>by
 have d:∀c y,H c=some (.own y)->c≠x:=λc y r z=>by subst z;rw[r]at g;exact g
 have f:∀c xs,H c=some (.tup xs)->c≠x:=λc xs r z=>by subst z;rw[r]at g;exact g
 by_cases i:b=x
 ·subst i;rw[zF]at q;cases q;exact new
 ·rw[zG i]at q;by_cases a:b=e
  ·have q':H b=some (.own x):=by
    rcases m with z | z
    ·exact absurd (a.trans z) i
    ·rw[a];exact z
   rw[q]at q';cases q';obtain⟨v,n⟩:=l;exact⟨v,by rw[a];exact n⟩
  ·refine(ok b u q).stay (λc v j r=>k c v ?_ r) (λc r=>by rw[zG (d c b r)];exact r) λc xs r=>by rw[zG (f c xs r)];exact r
   rcases j with rfl | j
   ·exact a
   ·rintro rfl;rcases m with z | z
    ·exact d c b j z
    ·rw[j]at z;cases z;exact i rfl
end
set_option genInjectivity false in
set_option genSizeOf false in
structure Un(fs ex:List Addr)(H H':Hp)(h h':Heap):Prop where
 keep:∀b o,h.get? b=some o->H b=none->b∉fs->b∉ex->h'.get? b=some o
 slot:∀b o,h.get? b=some o->H b=none->b∈fs->b∉ex->∃sl,h'.get? b=some { o with slots:=sl }
 free:∀b o,h.get? b=some o->H b=none->b∉ex->H' b=none
 there:∀b o,h.get? b=some o->b∉ex->∃o',h'.get? b=some o'
 tups:∀b xs,H b=some (.tup xs)->H' b=some (.tup xs)
 frzs:∀b o u,H b=some (.frz o u)->H' b=some (.frz o u)
 tbls:∀b ps,H b=some (.tbl ps)->∃more,H' b=some (.tbl (ps++more))
section
variable {fs fs' ex ex':List Addr}{H H1 H2:Hp}{h h1 h2 h':Heap}{a x e:Addr}{o:HO}
def Un.any(u:Un fs ex H H1 h h1){ob:Obj}(q:h.get? b=some ob)(n:H b=none)(c:b∉ex):∃sl,h1.get? b=some { ob with slots:=sl }:=by
 by_cases a:b∈fs
 ·exact u.slot b ob q n a c
 ·exact⟨ob.slots,u.keep b ob q n a c⟩
def Un.kept(k:∀b u,h.get? b=some u->h'.get? b=some u):Un fs ex H H h h':=
 ⟨λb ob q _ _ _=>k b ob q,λb ob q _ _ _=>⟨ob.slots,k b ob q⟩,λ_ _ _ n _=>n,λb ob q _=>⟨ob,k b ob q⟩,λ_ _ q=>q,λ_ _ _ q=>q,λ_ ps q=>⟨#[],by rw[q];simp⟩⟩
def Un.refl:Un fs ex H H h h:=Un.kept λ_ _ q=>q
def Un.laid(k:∀b u,h.get? b=some u->h'.get? b=some u)(hp:h.objs.size<=a)(hn:H a=none):Un fs ex H (upd H a o) h h' where
 keep:=λb u q _ _ _=>k b u q
 slot:=λb u q _ _ _=>⟨u.slots,k b u q⟩
 free:=λb u q n _=>by rw[zG (yo (yu (Heap.lt_size q) hp))];exact n
 there:=λb u q _=>⟨u,k b u q⟩
 tups:=λb xs q=>by rw[zG (zy q hn)];exact q
 frzs:=λb u xs q=>by rw[zG (zy q hn)];exact q
 tbls:=λb ps q=>⟨#[],by rw[zG (zy q hn),q];simp⟩
def Un.write(c:Mut (H x))(j:e=x\/H e=some (.own x))(k:∀b u,b≠e->h.get? b=some u->h'.get? b=some u)(f:∃u,h'.get? e=some u):Un fs ex H (upd H x o) h h':=by
 have g:∀b,H b=none->b≠x:=λb n z=>by subst z;rw[n]at c;exact c
 have i:∀b,H b=none->b≠e:=λb n z=>by
  subst z;rcases j with r | r
  ·exact g b n r
  ·rw[n]at r;cases r
 have d:∀b u,H b=some u->¬Mut (some u)->b≠x:=λb u q nm z=>by subst z;rw[q]at c;exact nm c
 refine⟨λb u q n _ _=>k b u (i b n) q,λb u q n _ _=>⟨u.slots,k b u (i b n) q⟩,λb u q n _=>by rw[zG (g b n)];exact n,λb u q _=>?_,
  λb xs q=>by rw[zG (d b _ q λz=>z)];exact q,λb u xs q=>by rw[zG (d b _ q λz=>z)];exact q,λb ps q=>⟨#[],by rw[zG (d b _ q λz=>z),q];simp⟩⟩
 by_cases a:b=e
 ·subst a;exact f
 ·exact⟨u,k b u a q⟩
end
noncomputable def trk (h:Heap) (H:Hp):List Addr:=(List.range h.objs.size).filter λa=>(H a).isSome
noncomputable def zc6 (h:Heap) (H:Hp):Heap:=PySem.W.hideAll h (trk h H)
def zn9(h:Heap)(H:Hp):(zc6 h H).objs.size=h.objs.size:=PySem.W.hideAll_size _ _
def zqy{o:Obj}(e:h.get? b=some o)(n:H b=none):(zc6 h H).get? b=some o:=
 PySem.W.hideAll_get _ e λa=>by
  have q:(H b).isSome=true:=(yaP.mp a).2;rw[n]at q;simp at q
def zsP{o:Obj}(e:(zc6 h H).get? b=some o):h.get? b=some o/\H b=none:=by
 have a:h.get? b=some o:=PySem.W.of_hideAll (trk h H) e;refine⟨a,?_⟩;cases q:H b with
 | none=>rfl
 | some x=>
  have c:b∈trk h H:=yaP.mpr ⟨yZ.mpr (Heap.lt_size a),by simp[q]⟩;have z:(zc6 h H).get? b=none:=PySem.W.hideAll_none (trk h H) c;rw[z]at e;cases e
noncomputable def zsF (g h:Heap) (L:Addr):List (Addr × Obj):=(List.range h.objs.size).filterMap λa=>if a=L\/(g.get? a).isSome=true then none else(h.get? a).map λo=>(a,o)
noncomputable def rest (g h:Heap) (L d:Addr):List (Addr × Obj):=(zsF g h L).filter λp=>decide (p.1≠d)
set_option genInjectivity false in
set_option genSizeOf false in
structure Mod(K:Fg)(mg:Str->Option Value)(base:Heap):Prop where
 kin:K.In base
 glob:base.Ns mainGlobals mg
 blt:∃mb,base.Ns builtinsNs mb/\∀x:Str,x ≠ "__name__" -> mb x=bootBuiltins x
 nolimit:base.NoLimit
set_option genSizeOf false in
structure Cx where
 prog:Program
 w:World
 K:Fg
 mg:Str->Option Value
 base:Heap
 A:Around
 N:List Str
 s₀:Shared
 H₀:Hp
 env:Env
 outer:List Env
 stack:List Env
 ex:List Addr
 fn:Str->Bool
 calm:Bool
 pn:List (Addr × Obj)
 xe:Value->Shared->Prop
variable {X:Cx}
noncomputable def frs (l:List Env):List Addr:=l.filterMap (·.frame)
abbrev Cx.fs(X:Cx):List Addr:=frs X.outer
noncomputable def Vis (a:Scope) (x:Str):Prop:=a.names.lookup x=some .local\/a.names.lookup x=some .cell\/a.names.lookup x=some .free
noncomputable def Loc (a:Scope) (x:Str):Prop:=a.names.lookup x=some .local\/a.names.lookup x=some .cell
noncomputable def zva (env:Env) (h:Heap) (m:Str->Option Value) (x:Str) (u:Value):Prop:=
 (env.kindOf x=some .local/\m x=some u)\/((env.kindOf x=some .cell\/env.kindOf x=some .free)/\∃c,env.cells.lookup x=some c/\h.IsCell c (some u))
set_option genSizeOf false in
structure Cx.Ok(X:Cx):Prop where
 mod:Mod X.K X.mg X.base
 kind:X.env.scope.kind=.function
 glob:X.env.globals=mainGlobals
 blt:X.env.builtins=builtinsNs
 above:X.s₀.heap.objs.size<=X.env.locals
 inj:∀x y c,X.env.cells.lookup x=some c->X.env.cells.lookup y=some c->x=y
 has:∀x,(X.env.kindOf x=some .cell\/X.env.kindOf x=some .free)->∃c,X.env.cells.lookup x=some c
 cab:∀x c,X.fn x=true->X.env.cells.lookup x=some c->X.s₀.heap.objs.size<=c
 hd:X.calm=true->X.A.handled=none
 frames:X.A.frames=some X.stack
 stk:X.stack=X.outer\/(X.stack=X.env :: X.outer/\X.env.frame=some X.env.locals)
 exf:∀b∈X.ex,b≠X.env.locals/\∀x c,X.env.cells.lookup x=some c->c≠b
 bs:∀b o,X.base.get? b=some o->X.s₀.heap.get? b=some o/\X.H₀ b=none
 bsz:X.base.objs.size<=X.s₀.heap.objs.size
 noex:∀b o,X.base.get? b=some o->b∉X.ex
 exfs:∀b∈X.ex,b∉X.fs
 funs:X.s₀.heap.FunFrames X.base X.outer
 frf:∀b∈X.fs,X.H₀ b=none
set_option genInjectivity false in
set_option genSizeOf false in
structure Inv(X:Cx)(pins:List (Addr × Obj))(σ:List (Option V))(H:Hp)(s:Shared):Prop where
 ok:X.Ok
 os:s.os=X.s₀.os
 bare:AllBare s.gens
 base:Un X.fs X.ex X.H₀ H X.s₀.heap s.heap
 loc:∃m,s.heap.Ns X.env.locals m/\∀(i:Nat) (x:Str) (v:V),X.N[i]?=some x->σ[i]?=some (some v)->Vis X.env.scope x->∃u,RelV v u/\zva X.env s.heap m x u
 cell:∀x c,X.env.cells.lookup x=some c->∃v,s.heap.IsCell c v
 free:H X.env.locals=none
 freeC:∀x c,X.env.cells.lookup x=some c->H c=none
 pin:∀p∈X.pn++pins,s.heap.get? p.1=some p.2/\H p.1=none/\p.1≠X.env.locals/\p.1∉X.fs/\∀v,p.2.data≠.cell v
 hok:HOk X.prog X.w H s.heap
 len:σ.length=X.N.length
section
variable {X:Cx}{pins:List (Addr × Obj)}{σ:List (Option V)}{H H':Hp}{s:Shared}{h':Heap}
def Cx.Ok.nofr(ok:X.Ok){o:Obj}(e:X.base.get? b=some o):b∉X.fs:=λa=>by
 have:=(ok.funs.mem a).1
 rw[e]at this;cases this
theorem Inv.bs(I:Inv X pins σ H s):∀b o,X.base.get? b=some o->s.heap.get? b=some o/\H b=none:=λb o e=>
 ⟨I.base.keep b o (I.ok.bs b o e).1 (I.ok.bs b o e).2 (I.ok.nofr e) (I.ok.noex b o e),I.base.free b o (I.ok.bs b o e).1 (I.ok.bs b o e).2 (I.ok.noex b o e)⟩
def Inv.bk(I:Inv X pins σ H s):∀b o,X.base.get? b=some o->s.heap.get? b=some o:=λb o e=>(I.bs b o e).1
theorem Inv.mod(I:Inv X pins σ H s):Mod X.K X.mg X.base:=I.ok.mod
def Inv.kIn(I:Inv X pins σ H s):X.K.In s.heap:=I.ok.mod.kin.keeps I.bk
theorem Inv.lt(I:Inv X pins σ H s):X.env.locals<s.heap.objs.size:=let ⟨_,hn,_⟩:=I.loc;hn.lt
def Inv.sz(I:Inv X pins σ H s):X.s₀.heap.objs.size<=s.heap.objs.size:=yc I.ok.above (yaj I.lt)
def Inv.nofs(I:Inv X pins σ H s)(h:s.heap.objs.size<=a):a∉X.fs:=λb=>by
 obtain⟨_,o,c,_⟩:=I.ok.funs.mem b;exact absurd (yu (Heap.lt_size c) (yc I.sz h)) (yQ _)
def Inv.cne(I:Inv X pins σ H s):∀x c,X.env.cells.lookup x=some c->c≠X.env.locals:=λx c e z=>by
 obtain⟨v,o,d,hd⟩:=I.cell x c e;obtain⟨m,⟨o',es,f,b,a,_⟩,_⟩:=I.loc;rw[z,b]at d;cases d;rw[a]at hd;cases hd
theorem Inv.funs(I:Inv X pins σ H s):s.heap.FunFrames X.base X.outer:=by
 have all:∀(l:List Env),(∀b∈frs l,b∈X.fs)->X.s₀.heap.FunFrames X.base l->s.heap.FunFrames X.base l:=by
  intro l
  induction l with
  | nil=>intro _ _;trivial
  | cons env r ih=>
   intro f j;obtain⟨g,⟨L,o,d,hn,i,hd⟩,h⟩:=j;have a:L∈X.fs:=f L (by unfold frs;rw[ybg,d];exact yai);obtain⟨k,e⟩:=I.base.slot L o i (I.ok.frf L a) a λz=>I.ok.exfs L z a;exact⟨g,⟨L,_,d,hn,e,hd⟩,ih (λb c=>f b (by unfold frs;rw[ybg,d];exact yJ _ c)) h⟩
 exact all X.outer (λ_ c=>c) I.ok.funs
theorem Inv.stack(I:Inv X pins σ H s):s.heap.FunFrames X.base X.stack:=by
 rcases I.ok.stk with e | ⟨e,a⟩
 ·rw[e];exact I.funs
 ·rw[e];obtain⟨m,hn,_⟩:=I.loc;refine .cons (by rw[I.ok.kind];decide) a hn ?_ I.funs;exact Heap.get?_none_of_le (yc I.ok.bsz I.ok.above)
def Inv.stkSub(I:Inv X pins σ H s):∀b∈frs X.stack,b∈X.env.locals :: X.fs:=λb a=>by
 rcases I.ok.stk with e | ⟨e,c⟩
 ·rw[e]at a;exact yJ _ a
 ·rw[e]at a;unfold frs at a;rw[ybg,c]at a;exact a
def Inv.stkFree(I:Inv X pins σ H s):∀b∈frs X.stack,H b=none:=λb a=>by
 rcases yt.mp (I.stkSub b a)with e | a
 ·rw[e];exact I.free
 ·obtain⟨_,o,c,_⟩:=I.ok.funs.mem a;exact I.base.free b o c (I.ok.frf b a) λz=>I.ok.exfs b z a
def Inv.step{g':Array GenState}{t':Nat}{d':Drawn}{ch:List Addr}(I:Inv X pins σ H s)
  (hch:∀b∈ch,(b∈X.ex\/X.s₀.heap.objs.size<=b)/\b≠X.env.locals/\(∀x c,X.env.cells.lookup x=some c->c≠b)/\∀p∈X.pn++pins,p.1≠b)
  (keep:∀b o,b≠X.env.locals->b∉X.fs->b∉ch->s.heap.get? b=some o->H b=none->h'.get? b=some o)
  (slot:∀b o,b≠X.env.locals->b∈X.fs->b∉ch->s.heap.get? b=some o->H b=none->∃A,h'.get? b=some { o with slots:=A }) (free:∀b o,b∉ch->s.heap.get? b=some o->H b=none->H' b=none)
  (there:∀b o,b∉ch->s.heap.get? b=some o->∃o',h'.get? b=some o')
  (tups:∀b xs,H b=some (.tup xs)->H' b=some (.tup xs)) (frzs:∀b o u,H b=some (.frz o u)->H' b=some (.frz o u)) (tbls:∀b ps,H b=some (.tbl ps)->∃more,H' b=some (.tbl (ps++more)))
  (ns:∀m,s.heap.Ns X.env.locals m->h'.Ns X.env.locals m) (hok:HOk X.prog X.w H' h') (hg:AllBare g') :
  Inv X pins σ H' { s with heap:=h',gens:=g',drawn:=d',toks:=t' }:=by
 have y:∀b o,X.s₀.heap.get? b=some o->b≠X.env.locals:=λb o e=>yo (yu (Heap.lt_size e) I.ok.above);have h:∀b o,X.s₀.heap.get? b=some o->b∉X.ex->b∉ch:=λb o e a j=>by
  rcases(hch b j).1 with z | z
  ·exact a z
  ·exact absurd (yu (Heap.lt_size e) z) (yQ _)
 have f:∀x c,X.env.cells.lookup x=some c->∀v,s.heap.IsCell c v->h'.IsCell c v:=λx c e v ⟨o,t,hd⟩=>by
  have g:c∉ch:=λz=>(hch c z).2.2.1 x c e rfl;by_cases D:c∈X.fs
  ·obtain⟨A,q⟩:=slot c o (I.cne x c e) D g t (I.freeC x c e);exact⟨_,q,hd⟩
  ·exact⟨o,keep c o (I.cne x c e) D g t (I.freeC x c e),hd⟩
 refine⟨I.ok,I.os,hg,⟨λb o e n j a=>?_,λb o e n j a=>?_,λb o e n a=>?_,λb o e a=>?_,λb xs e=>tups b xs (I.base.tups b xs e),λb o xs e=>frzs b o xs (I.base.frzs b o xs e),λb ps e=>?_⟩,?_,λx c e=>?_,?_,λx c e=>?_,λp hp=>?_,hok,I.len⟩
 ·exact keep b o (y b o e) j (h b o e a) (I.base.keep b o e n j a) (I.base.free b o e n a)
 ·obtain⟨A,e1⟩:=I.base.slot b o e n j a;obtain⟨B,e2⟩:=slot b _ (y b o e) j (h b o e a) e1 (I.base.free b o e n a);exact⟨B,e2⟩
 ·obtain⟨o',e1⟩:=I.base.there b o e a;exact free b o' (h b o e a) e1 (I.base.free b o e n a)
 ·obtain⟨o',e1⟩:=I.base.there b o e a;exact there b o' (h b o e a) e1
 ·obtain⟨E,e1⟩:=I.base.tbls b ps e;obtain⟨G,e2⟩:=tbls b _ e1;exact⟨E++G,by rw[e2,Array.append_assoc]⟩
 ·obtain⟨m,hn,J⟩:=I.loc;refine⟨m,ns m hn,λi x v e1 e2 F=>?_⟩;obtain⟨u,r,l⟩:=J i x v e1 e2 F;refine⟨u,r,?_⟩;rcases l with l | ⟨k,c,e,z⟩
  ·exact .inl l
  ·exact .inr ⟨k,c,e,f x c e _ z⟩
 ·obtain⟨v,z⟩:=I.cell x c e;exact⟨v,f x c e v z⟩
 ·obtain⟨m,⟨o,_,_,t,_⟩,_⟩:=I.loc;exact free _ o (λz=>(hch _ z).2.1 rfl) t I.free
 ·obtain⟨v,o,t,hd⟩:=I.cell x c e;exact free c o (λz=>(hch c z).2.2.1 x c e rfl) t (I.freeC x c e)
 ·obtain⟨e,n,ne,C,d⟩:=I.pin p hp;have g:p.1∉ch:=λz=>(hch p.1 z).2.2.2 p hp rfl;exact⟨keep p.1 p.2 ne C g e n,free p.1 p.2 g e n,ne,C,d⟩
def Inv.un(I:Inv X pins σ H s)(u:Un X.fs [] H H' s.heap h')(hok:HOk X.prog X.w H' h'):Inv X pins σ H' { s with heap:=h',toks:=t' }:=by
 obtain⟨m,⟨o,es,p,g,r⟩,_⟩:=id I.loc;obtain⟨k,h⟩:=u.any g I.free (by simp);exact I.step (g':=s.gens) (d':=s.drawn) (ch:=[]) (λ_ z=>nomatch z) (λb o _ c _ e n=>u.keep b o e n c (by simp)) (λb o _ c _ e n=>u.slot b o e n c (by simp)) (λb o _ e n=>u.free b o e n (by simp)) (λb o _ e=>u.there b o e (by simp)) u.tups u.frzs u.tbls (λl j=>by
  obtain⟨o',d,f,a,i⟩:=j;rw[g]at a;cases a;exact⟨_,d,f,h,i⟩) hok I.bare
def Inv.call{g':Array GenState}{t':Nat}{d':Drawn}{ch:List Addr}(I:Inv X pins σ H s)(u:Un (frs X.stack) ch H H' s.heap h')(hok:HOk X.prog X.w H' h')(l:AllBare g')
  (hch:∀b∈ch,(b∈X.ex\/X.s₀.heap.objs.size<=b)/\b≠X.env.locals/\(∀x c,X.env.cells.lookup x=some c->c≠b)/\∀p∈X.pn++pins,p.1≠b) :
  Inv X pins σ H' { s with heap:=h',gens:=g',drawn:=d',toks:=t' }:=by
 obtain⟨m,⟨o,es,y,i,r⟩,_⟩:=id I.loc;obtain⟨t,f⟩:=u.any i I.free λz=>(hch _ z).2.1 rfl;exact I.step (ch:=ch) hch (λb o f k a e n=>u.keep b o e n (λz=>(yt.mp (I.stkSub b z)).elim f k) a) (λb o _ _ a e n=>u.any e n a) (λb o a e n=>u.free b o e n a) (λb o a e=>u.there b o e a) u.tups u.frzs u.tbls (λv q=>by
  obtain⟨o',g,h,d,j⟩:=q;rw[i]at d;cases d;exact⟨_,g,h,f,j⟩) hok l
def Inv.turned{t':Nat}{it:Addr}(I:Inv X pins σ H s)(k:∀b o,b≠it->s.heap.get? b=some o->h'.get? b=some o)(hn:H it=none)(f:it≠X.env.locals)
  (h1:it∈X.ex\/X.s₀.heap.objs.size<=it) (h2:∀x c,X.env.cells.lookup x=some c->c≠it) (h3:∀p∈X.pn++pins,p.1≠it):Inv X pins σ H { s with heap:=h',toks:=t' }:=by
 have d:∀b u,H b=some u->b≠it:=λb u e z=>by rw[z,hn]at e;cases e
 refine I.step (g':=s.gens) (d':=s.drawn) (ch:=[it]) (λb g=>?_) (λb o _ _ a e _=>k b o (λz=>a (by simp[z])) e) (λb o _ _ a e _=>⟨o.slots,k b o (λz=>a (by simp[z])) e⟩) (λ_ _ _ _ n=>n)
  (λb o a e=>⟨o,k b o (λz=>a (by simp[z])) e⟩) (λ_ _ e=>e) (λ_ _ _ e=>e) (λb ps e=>⟨#[],by rw[e];simp⟩) (λm j=>?_) (λb u e=>?_) I.bare
 ·have e:b=it:=by simpa using g
  subst e;exact⟨h1,f,h2,h3⟩
 ·obtain⟨o,es,i,h,r⟩:=j;exact⟨o,es,i,k _ o (yaA f) h,r⟩
 ·refine(I.hok b u e).stay (λc v a q=>k c v ?_ q) (λ_ q=>q) λ_ _ q=>q;rcases a with z | z
  ·rw[z];exact d b u e
  ·exact d c _ z
def Inv.tok(I:Inv X pins σ H s)(t:Nat):Inv X pins σ H { s with toks:=t }:=I.un (h':=s.heap) (t':=t) Un.refl I.hok
theorem Inv.kept{t':Nat}(I:Inv X pins σ H s)(k:∀b u,s.heap.get? b=some u->h'.get? b=some u):Inv X pins σ H { s with heap:=h',toks:=t' }:=I.un (Un.kept k) (I.hok.kept k)
theorem Inv.laid{a:Addr}{o:HO}{t':Nat}(I:Inv X pins σ H s)(k:∀b u,s.heap.get? b=some u->h'.get? b=some u)(hp:s.heap.objs.size<=a)(new:ObjOk X.prog X.w (upd H a o) h' a o) :
  Inv X pins σ (upd H a o) { s with heap:=h',toks:=t' }:=I.un (Un.laid k hp (I.hok.fresh hp)) (I.hok.laid k hp new)
theorem Inv.write{x e:Addr}{o:HO}{t':Nat}(I:Inv X pins σ H s)(c:Mut (H x))(d:e=x\/H e=some (.own x))(k:∀b u,b≠e->s.heap.get? b=some u->h'.get? b=some u)(a:∃u,h'.get? e=some u)
  (new:ObjOk X.prog X.w (upd H x o) h' x o):Inv X pins σ (upd H x o) { s with heap:=h',toks:=t' }:=I.un (Un.write c d k a) (I.hok.write c d k a new)
def Inv.pins_of{a:List (Addr × Obj)}(I:Inv X pins σ H s)(h:∀p∈a,s.heap.get? p.1=some p.2/\H p.1=none/\p.1≠X.env.locals/\p.1∉X.fs/\∀v,p.2.data≠.cell v):Inv X a σ H s:=
 ⟨I.ok,I.os,I.bare,I.base,I.loc,I.cell,I.free,I.freeC,λp hp=>(yA.mp hp).elim (λz=>I.pin p (yat _ z)) (h p),I.hok,I.len⟩
def zgk(c:N.Nodup)(a:N[i]?=some x)(b:N[j]?=some x):i=j:=by
 obtain⟨h1,e1⟩:=yk.mp a;obtain⟨h2,e2⟩:=yk.mp b;exact(List.getElem_inj c).mp (e1.trans e2.symm)
def zja{M:Model}{A:Around}{E:Value->Shared->Prop}{Q:Unit->Shared->Prop}(I:Inv X pins σ H s)(hN:X.N.Nodup)(hi:X.N[i]?=some x)(t:Loc X.env.scope x)(r:RelV v u)
  (h:∀s',Inv X pins (σ.set i (some v)) H s'->(∃a,Heap.SameBut a s.heap s'.heap/\(a=X.env.locals\/X.env.cells.lookup x=some a))->Q () s') (hf:autoParam (X.fn x=true\/X.env.scope.names.lookup x=some .local) Internal.aut0._auto_1):wpAny M A (storeName X.env x u) Q E s:=by
 obtain⟨m,hn,hl⟩:=id I.loc;have P:(X.env.scope.kind == .class || (X.env.scope.kind == .module&&X.env.locals != X.env.globals))=false:=by rw[I.ok.kind];rfl
 have O:i < σ.length:=by rw[I.len];exact(yk.mp hi).1
 have cne:=I.cne;have g:∀{a:Addr} {h':Heap},(∃o,s.heap.get? a=some o/\H a=none)->Heap.SameBut a s.heap h'->HOk X.prog X.w H h':=λ{a h'} ha f b ob e=>by
  obtain⟨_,_,B⟩:=ha;refine(I.hok b ob e).stay (λc T l q=>(f.2 c ?_).trans q) (λ_ q=>q) λ_ _ q=>q;rintro rfl;rcases l with rfl | l
  ·rw[B]at e;cases e
  ·rw[B]at l;cases l
 rcases t with C | C
 ·refine wpAny_storeName_local C hn (λh' W f=>?_) P;obtain⟨oL,_,_,U,_⟩:=id hn;refine h _ ⟨I.ok,I.os,I.bare,⟨λb o e n G t=>?_,λb o e n G t=>?_,I.base.free,λb o e t=>?_,I.base.tups,I.base.frzs,I.base.tbls⟩,⟨_,W,λj y Y e1 e2 Z=>?_⟩,λy c e=>?_,I.free,I.freeC,λp hp=>?_,g ⟨oL,U,I.free⟩ f,by simpa using I.len⟩ ⟨_,f,.inl rfl⟩
  ·exact(f.2 b (yo (yu (Heap.lt_size e) I.ok.above))).trans (I.base.keep b o e n G t)
  ·obtain⟨sl,e1⟩:=I.base.slot b o e n G t;exact⟨sl,(f.2 b (yo (yu (Heap.lt_size e) I.ok.above))).trans e1⟩
  ·obtain⟨o',e1⟩:=I.base.there b o e t;exact⟨o',(f.2 b (yo (yu (Heap.lt_size e) I.ok.above))).trans e1⟩
  ·by_cases F:j=i
   ·subst F;rw[hi]at e1;cases e1;rw[yaX O]at e2;cases e2;exact⟨u,r,.inl ⟨C,by simp⟩⟩
   ·rw[ya9 (yaA F)]at e2;obtain⟨u',V,q⟩:=hl j y Y e1 e2 Z;refine⟨u',V,?_⟩;rcases q with⟨k,e⟩ | ⟨k,c,e,z⟩
    ·refine .inl ⟨k,?_⟩
     have:y≠x:=λe=>F (zgk hN e1 (e▸hi))
     simp[this,e]
    ·exact .inr ⟨k,c,e,z.sameBut f (cne y c e)⟩
  ·obtain⟨T,z⟩:=I.cell y c e;exact⟨T,z.sameBut f (cne y c e)⟩
  ·obtain⟨e,n,ne,nf,d⟩:=I.pin p hp;exact⟨(f.2 p.1 ne).trans e,n,ne,nf,d⟩
 ·have D:X.fn x=true:=by
   rcases hf with z | z
   ·exact z
   ·rw[z]at C;cases C
  obtain⟨c,l⟩:=I.ok.has x (.inl C);obtain⟨T,z⟩:=I.cell x c l;refine wpAny_storeName_cell I.ok.kind C l z (λh' J f=>?_);obtain⟨oc,K,L⟩:=id z;refine h { s with heap:=h' } ⟨I.ok,I.os,I.bare,⟨λb o e n G t=>?_,λb o e n G t=>?_,I.base.free,λb o e t=>?_,I.base.tups,I.base.frzs,I.base.tbls⟩,⟨m,hn.sameBut f (yaA (cne x c l)),λj y Y e1 e2 Z=>?_⟩,λy S e=>?_,I.free,I.freeC,λp hp=>?_,g ⟨oc,K,I.freeC x c l⟩ f,by simpa using I.len⟩ ⟨c,f,.inr l⟩
  ·exact(f.2 b (yo (yu (Heap.lt_size e) (I.ok.cab x c D l)))).trans (I.base.keep b o e n G t)
  ·obtain⟨sl,e1⟩:=I.base.slot b o e n G t;exact⟨sl,(f.2 b (yo (yu (Heap.lt_size e) (I.ok.cab x c D l)))).trans e1⟩
  ·obtain⟨o',e1⟩:=I.base.there b o e t;exact⟨o',(f.2 b (yo (yu (Heap.lt_size e) (I.ok.cab x c D l)))).trans e1⟩
  ·by_cases F:j=i
   ·subst F;rw[hi]at e1;cases e1;rw[yaX O]at e2;cases e2;exact⟨u,r,.inr ⟨.inl C,c,l,J⟩⟩
   ·rw[ya9 (yaA F)]at e2;obtain⟨u',V,q⟩:=hl j y Y e1 e2 Z;refine⟨u',V,?_⟩;rcases q with q | ⟨k,S,e,z'⟩
    ·exact .inl q
    ·refine .inr ⟨k,S,e,z'.sameBut f ?_⟩;rintro rfl;exact F (zgk hN e1 (I.ok.inj _ _ _ e l▸hi))
  ·by_cases R:S=c
   ·subst R;exact⟨_,J⟩
   ·obtain⟨w2,z2⟩:=I.cell y S e;exact⟨w2,z2.sameBut f R⟩
  ·obtain⟨e,n,ne,nf,d⟩:=I.pin p hp;refine⟨(f.2 p.1 ?_).trans e,n,ne,nf,d⟩;intro q;rw[q,K]at e;have q':oc=p.2:=yq e;exact d T (by rw[<- q'];exact L)
def zer{M:Model}{A:Around}{E:Value->Shared->Prop}{Q:Unit->Shared->Prop}(I:Inv X pins σ H s)(b:X.N.Nodup)(hi:X.N[i]?=some x)(a:Loc X.env.scope x)(r:RelV v u)
  (h:∀s',Inv X pins (σ.set i (some v)) H s'->Q () s') (hf:autoParam (X.fn x=true\/X.env.scope.names.lookup x=some .local) Internal.aut0._auto_1):wpAny M A (storeName X.env x u) Q E s:=
 zja I b hi a r (λs' c _=>h s' c) hf
def Inv.call'{s':Shared}{ch:List Addr}(I:Inv X pins σ H s)(d:s'.os=s.os)(u:Un (frs X.stack) ch H H' s.heap s'.heap)(hok:HOk X.prog X.w H' s'.heap)(a:AllBare s'.gens)
  (hch:∀b∈ch,(b∈X.ex\/X.s₀.heap.objs.size<=b)/\b≠X.env.locals/\(∀x c,X.env.cells.lookup x=some c->c≠b)/\∀p∈X.pn++pins,p.1≠b):Inv X pins σ H' s':=by
 obtain⟨h',g',d',t',o'⟩:=s';have e:o'=s.os:=d;subst e;exact I.call (g':=g') (t':=t') (d':=d') u hok a hch
end
abbrev XK:=Value->Option Addr->Hp->Prop
abbrev St:=List (Option V)
variable {σ:St}
abbrev VK:=V->Hp->Prop
variable {Q:VK}
abbrev TE:=St->Hp->VK->Prop
variable {tl:TE}
abbrev TT:=St->Hp->(Bool->Hp->Prop)->Prop
abbrev TA:=St->Hp->(List V->Hp->Prop)->Prop
set_option genInjectivity false in
set_option genSizeOf false in
structure Ends where
 nx:St->Hp->Prop
 rt:VK
 bk:St->Hp->Prop:=λ_ _=>False
 ct:St->Hp->Prop:=λ_ _=>False
abbrev TS:=Ends->St->Hp->Prop
noncomputable def EP (X:Cx) (pins:List (Addr × Obj)) (σ:St) (Q:VK) (u:Value) (s':Shared):Prop:=∃v H',Inv X pins σ H' s'/\RelV v u/\Q v H'
noncomputable def TP (X:Cx) (pins:List (Addr × Obj)) (σ:St) (Q:Bool->Hp->Prop) (b:Bool) (s':Shared):Prop:=∃H',Inv X pins σ H' s'/\Q b H'
noncomputable def AP (X:Cx) (pins:List (Addr × Obj)) (σ:St) (Q:List V->Hp->Prop) (us:List Value) (s':Shared):Prop:=∃vs H',Inv X pins σ H' s'/\Vals vs us/\Q vs H'
noncomputable def SP (X:Cx) (pins:List (Addr × Obj)) (D:Ends) (f:Flow) (s':Shared):Prop:=
 match f with
 | .next=>∃σ' H',Inv X pins σ' H' s'/\D.nx σ' H'
 | .brk=>∃σ' H',Inv X pins σ' H' s'/\D.bk σ' H'
 | .cont=>∃σ' H',Inv X pins σ' H' s'/\D.ct σ' H'
 | .ret u=>∃v σ' H',Inv X pins σ' H' s'/\RelV v u/\D.rt v H'
noncomputable def PE (X:Cx) (e:Expr) (t:TE):Prop:=
 ∀(pins:List (Addr × Obj)) (s:Shared) (σ:St) (H:Hp) (Q:VK),Inv X pins σ H s->t σ H Q->wpAny (model X.prog X.w) X.A (eval e X.env) (EP X pins σ Q) X.xe s
noncomputable def PT (X:Cx) (e:Expr) (t:TT):Prop:=
 ∀(pins:List (Addr × Obj)) (s:Shared) (σ:St) (H:Hp) (Q:Bool->Hp->Prop),Inv X pins σ H s->t σ H Q->wpAny (model X.prog X.w) X.A (isTrue e X.env (eval e X.env)) (TP X pins σ Q) X.xe s
noncomputable def PW (X:Cx) (e:Expr) (t:TT):Prop:=
 ∀(whole:Sem Value) (pins:List (Addr × Obj)) (s:Shared) (σ:St) (H:Hp) (Q:Bool->Hp->Prop),Inv X pins σ H s->t σ H Q->wpAny (model X.prog X.w) X.A (isTrue e X.env whole) (TP X pins σ Q) X.xe s
def PW.pt{t:TT}(h:PW X e t):PT X e t:=h _
noncomputable def PA (X:Cx) (es:List Expr) (t:TA):Prop:=
 ∀(pos:Pos) (pins:List (Addr × Obj)) (s:Shared) (σ:St) (H:Hp) (Q:List V->Hp->Prop),Inv X pins σ H s->t σ H Q->wpAny (model X.prog X.w) X.A (spliced (backTo pos (starEach es X.env))) (AP X pins σ Q) X.xe s
noncomputable def PS (X:Cx) (st:Stmt) (t:TS):Prop:=
 ∀(pins:List (Addr × Obj)) (s:Shared) (σ:St) (H:Hp) (D:Ends),Inv X pins σ H s->t D σ H->wpAny (model X.prog X.w) X.A (exec st X.env) (SP X pins D) X.xe s
noncomputable def PSs (X:Cx) (st:List Stmt) (t:TS):Prop:=
 ∀(pins:List (Addr × Obj)) (s:Shared) (σ:St) (H:Hp) (D:Ends),Inv X pins σ H s->t D σ H->wpAny (model X.prog X.w) X.A (execs st X.env) (SP X pins D) X.xe s
def thn{α:Type}{t:Sem α}{Q b:α->Shared->Prop}{E:Value->Shared->Prop}(h:wpAny M A t Q E s)(c:∀a s,Q a s->b a s):wpAny M A t b E s:=wpAny_mono h c λ_ _ x=>x
section
variable {X:Cx}
noncomputable def zk5 (i:Nat):TE:=λσ H Q=>∃v,σ[i]?=some (some v)/\Q v H
abbrev tC(v:V):TE:=λ_ H Q=>Q v H
def ztT{pos:Pos}(g:X.N[i]?=some x)(d:Vis X.env.scope x)(hd:autoParam ((x == ("__debug__" : Str))=false) Internal.aut1._auto_1)(b:autoParam ((x == ("__classdict__" : Str))=false) Internal.aut1._auto_1):PE X (.Name x pos) (zk5 i):=by
 intro pins s σ H Q I h;obtain⟨v,e,h⟩:=h;obtain⟨m,hn,f⟩:=I.loc;obtain⟨u,r,l⟩:=f i x v g e d;have fin:EP X pins σ Q u s:=⟨v,H,I,r,h⟩
 rcases l with⟨a,hm⟩ | ⟨a,c,hc,hcell⟩
 ·exact wpAny_Name (wpAny_loadName_local I.ok.kind a hn hm fin) hd
 ·rcases a with a | a
  ·exact wpAny_Name (wpAny_loadName_cell I.ok.kind a hc hcell fin) hd
  ·exact wpAny_Name (wpAny_loadName_free I.ok.kind a hc hcell fin b) hd
def zh{i j pos}:PE X (.Constant (.int i) j pos) (tC (.int i)):=λ_ _ _ H _ I h=>wpAny_Constant_int ⟨.int i,H,I.tok _,⟨_,rfl⟩,h⟩
def zbi{b j pos}:PE X (.Constant (.bool b) j pos) (tC (.bl b)):=λ_ _ _ H _ I h=>Constant_bool ⟨.bl b,H,I,rfl,h⟩
def zbj{j pos}:PE X (.Constant .none j pos) (tC .non):=λ_ _ _ H _ I h=>Constant_none ⟨.non,H,I,rfl,h⟩
def zJ{x j pos}:PE X (.Constant (.str x) j pos) (tC (.str x)):=λ_ _ _ H _ I h=>Calls.Constant_str ⟨.str x,H,I.tok _,⟨_,rfl⟩,h⟩
noncomputable def Gl (X:Cx) (x:Str):Prop:=X.env.kindOf x=some .globalImplicit
def zcX{E:Value->Shared->Prop}{pos:Pos}{Q:Value->Shared->Prop}(I:Inv X pins σ H s)(b:Gl X x)(a:X.mg x=some u)(h:Q u s)
  (hd:autoParam ((x == ("__debug__" : Str))=false) Internal.aut1._auto_1):wpAny (model X.prog X.w) X.A (eval (.Name x pos) X.env) Q E s:=
 Calls.Name_function_global I.ok.kind b (Calls.loadGlobal_global (by rw[I.ok.glob];exact I.mod.glob.keeps I.bk) a h) hd
def zbX{E:Value->Shared->Prop}{pos:Pos}{Q:Value->Shared->Prop}(I:Inv X pins σ H s)(c:Gl X x)(a:X.mg x=none)(b:bootBuiltins x=some u)(h:Q u s)
  (hn:autoParam (x ≠ "__name__") Internal.aut1._auto_1) (hd:autoParam ((x == ("__debug__" : Str))=false) Internal.aut1._auto_1):wpAny (model X.prog X.w) X.A (eval (.Name x pos) X.env) Q E s:=by
 obtain⟨d,h1,h2⟩:=I.mod.blt;exact Calls.Name_function_global I.ok.kind c (Calls.loadGlobal_builtin (by rw[I.ok.glob];exact I.mod.glob.keeps I.bk) a (by rw[I.ok.blt];exact h1.keeps I.bk) ((h2 x hn).trans b) h) hd
def zQ{pos:Pos}(a:Gl X x)(b:X.mg x=some u)(r:RelV v u)(hd:autoParam ((x == ("__debug__" : Str))=false) Internal.aut1._auto_1):PE X (.Name x pos) (tC v):=
 λ_ _ _ H _ I h=>zcX I a b ⟨v,H,I,r,h⟩ hd
def zcw{pos:Pos}(a:Gl X x)(c:X.mg x=none)(b:bootBuiltins x=some u)(r:RelV v u)(hn:autoParam (x ≠ "__name__") Internal.aut1._auto_1)(hd:autoParam ((x == ("__debug__" : Str))=false) Internal.aut1._auto_1):PE X (.Name x pos) (tC v):=
 λ_ _ _ H _ I h=>zbX I a c b ⟨v,H,I,r,h⟩ hn hd
noncomputable def t2I (ta tb:TE) (k:Int->Int->Hp->Prop):St->Hp->Prop:=λσ H=>ta σ H λx H1=>tb σ H1 λy H2=>∃i j,x=.int i/\y=.int j/\k i j H2
variable {a b:Expr}{ta tb:TE}{pos:Pos}
noncomputable def zix (p:Int->Int->Bool) (ta tb:TE):TE:=λσ H Q=>t2I ta tb (λi j H2=>Q (.bl (p i j)) H2) σ H
abbrev tLt:TE->TE->TE:=zix λi j=>decide (i<j)
abbrev tLe:TE->TE->TE:=zix λi j=>decide (i<=j)
abbrev tGt:TE->TE->TE:=zix λi j=>decide (j<i)
abbrev tGe:TE->TE->TE:=zix λi j=>decide (j<=i)
abbrev zvP:TE->TE->TE:=zix λi j=>decide (i=j)
abbrev zvR:TE->TE->TE:=zix λi j=>!decide (i=j)
variable {tA tB':TT}{rest:List Expr}
abbrev zvH(t u:TT):TT:=λσ H Q=>t σ H λc H1=>if c=true then u σ H1 Q else Q false H1
abbrev tOr(t u:TT):TT:=λσ H Q=>t σ H λc H1=>if c=true then Q true H1 else u σ H1 Q
abbrev zvE(t:TT):TT:=λσ H Q=>t σ H λc H1=>Q (!c) H1
def za3(b:PT X a tA):PW X (.BoolOp .And [a] pos) tA:=by
 intro d pins s σ H Q I h;refine isTrue_and (thn (b pins s σ H Q I h) λc f e=>?_);cases c with
 | true=>exact isTrue_and_nil e
 | false=>exact e
def zbu(b:PT X a tA):PW X (.BoolOp .Or [a] pos) tA:=by
 intro d pins s σ H Q I h;refine isTrue_or (thn (b pins s σ H Q I h) λc f e=>?_);cases c with
 | false=>exact isTrue_or_nil e
 | true=>exact e
def za0(i:PT X a tA)(g:PW X (.BoolOp .And (b :: rest) pos) tB'):PW X (.BoolOp .And (a :: b :: rest) pos) (zvH tA tB'):=by
 intro e pins s σ H Q I h;refine isTrue_and (thn (i pins s σ H _ I h) λc f ⟨H1,d,q1⟩=>?_);cases c with
 | true=>exact g e pins f σ H1 Q d q1
 | false=>exact⟨H1,d,q1⟩
def zbD(i:PT X a tA)(g:PW X (.BoolOp .Or (b :: rest) pos) tB'):PW X (.BoolOp .Or (a :: b :: rest) pos) (tOr tA tB'):=by
 intro e pins s σ H Q I h;refine isTrue_or (thn (i pins s σ H _ I h) λc f ⟨H1,d,q1⟩=>?_);cases c with
 | true=>exact⟨H1,d,q1⟩
 | false=>exact g e pins f σ H1 Q d q1
def zbt(b:PT X a tA):PT X (.UnaryOp .Not a pos) (zvE tA):=by
 intro pins s σ H Q I h;exact isTrue_not (b pins s σ H (λc H1=>Q (!c) H1) I h)
noncomputable def zqZ (ta tb:TE):TE:=λσ H Q=>ta σ H λx H1=>∃c,x=.bl c/\if c=true then tb σ H1 Q else Q (.bl false) H1
def zd8{op}{t:TE}(h:PE X a t):PE X (.BoolOp op [a] pos) t:=λpins s σ H Q I b=>BoolOp_one (h pins s σ H Q I b)
def zb1(g:PE X a ta)(f:PE X (.BoolOp .And (b :: rest) pos) tb):PE X (.BoolOp .And (a :: b :: rest) pos) (zqZ ta tb):=by
 intro pins s σ H Q I h;refine BoolOp_and (thn (g pins s σ H _ I h) λv j i=>?_);obtain⟨x,H1,d,e,q1⟩:=i;obtain⟨c,rfl,q1⟩:=q1;cases e;refine wpAny_truthy_bool ?_;cases c with
 | true=>exact f pins j σ H1 Q d q1
 | false=>exact⟨.bl false,H1,d,rfl,q1⟩
abbrev tIf(t:TT)(ta tb:TE):TE:=λσ H Q=>t σ H λc H1=>if c=true then ta σ H1 Q else tb σ H1 Q
def zbq{c:Expr}(g:PT X c tA)(j:PE X a ta)(i:PE X b tb):PE X (.IfExp c a b pos) (tIf tA ta tb):=by
 intro pins s σ H Q I h;refine wpAny_IfExp (thn (g pins s σ H _ I h) λd f ⟨H1,e,q1⟩=>?_);cases d with
 | true=>exact j pins f σ H1 Q e q1
 | false=>exact i pins f σ H1 Q e q1
end
noncomputable def SqL (K:Fg) (H:Hp) (a:Addr) (xs:List V):Prop:=
 Rd H a (.lst xs) \/
  ∃(o:Obj) (its:Array Value) (n:Nat),K.lookup a=some o/\o.cls=.type "list" /\ o.dict=none/\o.data=.seq its n/\its.size<=sizeLine/\Vals xs its.toList
noncomputable def SqT (K:Fg) (H:Hp) (a:Addr) (xs:List V):Prop:=
 Rd H a (.tup xs) \/
  ∃(o:Obj) (its:Array Value) (n:Nat),K.lookup a=some o/\o.cls=.type "tuple" /\ o.data=.seq its n/\its.size<=sizeLine/\Vals xs its.toList
noncomputable def zvG:Value->Option V
 | .none=>some .non
 | .bool b=>some (.bl b)
 | .int i _=>some (.int i)
 | .str x _=>some (.str x)
 | .bytes b _=>some (.byt b)
 | .float b _=>some (.flt b)
 | .ref a=>some (.ref a)
 | .type n=>some (.ty n)
 | _=>none
def RelV.abs{x:V}(r:RelV x u):zvG u=some x:=by
 cases x with
 | non=>cases r;rfl
 | bl _=>cases r;rfl
 | int _=>obtain⟨t,rfl⟩:=r;rfl
 | str _=>obtain⟨t,rfl⟩:=r;rfl
 | byt _=>obtain⟨t,rfl⟩:=r;rfl
 | flt _=>obtain⟨t,rfl⟩:=r;rfl
 | ref _=>cases r;rfl
 | ty _=>cases r;rfl
def RelV.inj{x:V}(r:RelV x u)(q:RelV y u):x=y:=yq (r.abs.symm.trans q.abs)
theorem Vals.inj:∀{xs ys:List V} {us:List Value},Vals xs us->Vals ys us->xs=ys
 | _,_,_,.nil,.nil=>rfl
 | _,_,_,.cons r t,.cons r' t'=>by rw[r.inj r',Vals.inj t t']
section
variable {X:Cx}{pins:List (Addr × Obj)}{σ:St}{H:Hp}{s:Shared}{a:Addr}{xs ys:List V}
def SqL.of(h:H a=some (.lst xs)):SqL K H a xs:=.inl (.inl h)
def SqT.of(h:H a=some (.tup xs)):SqT K H a xs:=.inl (.inl h)
def Inv.list(I:Inv X pins σ H s)(h:SqL X.K H a xs):∃its:List Value,Vals xs its/\PlainL s.heap a its.toArray/\xs.length<=sizeLine:=by
 rcases h with h | ⟨o,its,n,b,c,hd,d,f,r⟩
 ·obtain⟨z,its,n,r,e⟩:=h.ok I.hok;exact⟨its,r,⟨_,n,e,rfl,rfl,rfl⟩,z⟩
 ·refine⟨its.toList,r,⟨o,n,I.kIn a o b,c,hd,by simpa using d⟩,?_⟩;have e:=r.length;simp only[yaO]at e;lia
def Inv.tuple(I:Inv X pins σ H s)(h:SqT X.K H a xs):∃its:List Value,Vals xs its/\IsTup s.heap a its.toArray/\xs.length<=sizeLine:=by
 rcases h with h | ⟨o,its,n,b,c,d,f,r⟩
 ·obtain⟨z,its,r,p⟩:=h.ok I.hok;exact⟨its,r,p,z⟩
 ·refine⟨its.toList,r,⟨o,I.kIn a o b,c,n,by simpa using d⟩,?_⟩;have e:=r.length;simp only[yaO]at e;lia
def Inv.list_inj(I:Inv X pins σ H s)(h:SqL X.K H a xs)(h':SqL X.K H a ys):xs=ys:=by
 obtain⟨its,r,⟨o,n,e,_,_,d⟩,_⟩:=I.list h;obtain⟨its',f,⟨o',g,b,_,_,d'⟩,_⟩:=I.list h';rw[e]at b;cases b;rw[d]at d';injection d' with c _
 have:its=its':=by simpa using congrArg Array.toList c
 subst this;exact r.inj f
def Inv.tuple_inj(I:Inv X pins σ H s)(h:SqT X.K H a xs)(h':SqT X.K H a ys):xs=ys:=by
 obtain⟨its,r,⟨o,e,_,n,d⟩,_⟩:=I.tuple h;obtain⟨its',f,⟨o',b,_,g,d'⟩,_⟩:=I.tuple h';rw[e]at b;cases b;rw[d]at d';injection d' with c _
 have:its=its':=by simpa using congrArg Array.toList c
 subst this;exact r.inj f
end
abbrev Cx.wish(X:Cx)(E:Value->Shared->Prop):Cx:={ X with xe:=E }
abbrev Cx.nox(X:Cx):Cx:=X.wish λ_ _=>False
theorem Cx.Ok.wish{X:Cx}(ok:X.Ok)(E:Value->Shared->Prop):(X.wish E).Ok:=
 ⟨ok.mod,ok.kind,ok.glob,ok.blt,ok.above,ok.inj,ok.has,ok.cab,ok.hd,ok.frames,ok.stk,ok.exf,ok.bs,ok.bsz,ok.noex,ok.exfs,ok.funs,ok.frf⟩
def Cx.Ok.unwish{E:Value->Shared->Prop}(ok:(X.wish E).Ok):X.Ok:=
 ⟨ok.mod,ok.kind,ok.glob,ok.blt,ok.above,ok.inj,ok.has,ok.cab,ok.hd,ok.frames,ok.stk,ok.exf,ok.bs,ok.bsz,ok.noex,ok.exfs,ok.funs,ok.frf⟩
section
variable {X:Cx}{pins:List (Addr × Obj)}{σ:St}{H:Hp}{s:Shared}{E:Value->Shared->Prop}
theorem Inv.wish(I:Inv X pins σ H s)(E:Value->Shared->Prop):Inv (X.wish E) pins σ H s:=⟨I.ok.wish E,I.os,I.bare,I.base,I.loc,I.cell,I.free,I.freeC,I.pin,I.hok,I.len⟩
theorem Inv.unwish(I:Inv (X.wish E) pins σ H s):Inv X pins σ H s:=⟨I.ok.unwish,I.os,I.bare,I.base,I.loc,I.cell,I.free,I.freeC,I.pin,I.hok,I.len⟩
theorem SP.unwish{D:Ends}{f:Flow}{s':Shared}(h:SP (X.wish E) pins D f s'):SP X pins D f s':=by
 cases f with
 | next=>obtain⟨a,H',I,q⟩:=h;exact⟨a,H',I.unwish,q⟩
 | brk=>obtain⟨a,H',I,q⟩:=h;exact⟨a,H',I.unwish,q⟩
 | cont=>obtain⟨a,H',I,q⟩:=h;exact⟨a,H',I.unwish,q⟩
 | ret u=>obtain⟨v,a,H',I,r,q⟩:=h;exact⟨v,a,H',I.unwish,r,q⟩
theorem PSs.nox{st:List Stmt}{t:TS}(h:PSs X.nox st t):PSs X st t:=λpins s σ H D I a=>
 wpAny_mono (h pins s σ H D (I.wish _) a) (λ_ _ q=>q.unwish) λ_ _ z=>False.elim z
end
section
variable {X:Cx}{st:Stmt}{rest:List Stmt}{t u:TS}{e:Expr}{te:TE}{pos:Pos}
abbrev zuz:TS:=λD σ H=>D.nx σ H
abbrev zvF(t u:TS):TS:=λD σ H=>t { D with nx:=u D } σ H
def zD:PSs X [] zuz:=λ_ _ σ H _ I h=>wpAny_execs_nil ⟨σ,H,I,h⟩
def ze(h1:PS X st t)(h2:PSs X rest u):PSs X (st :: rest) (zvF t u):=by
 intro pins s σ H D I h;refine wpAny_execs_cons (thn (h1 pins s σ H { D with nx:=u D } I h) λf a q=>?_);cases f with
 | next=>
  obtain⟨b,H',c,q⟩:=q;exact h2 pins a b H' D c q
 | ret v=>exact q
 | brk=>exact q
 | cont=>exact q
def zi(h1:PS X st t):PSs X [st] t:=by
 intro pins s σ H D I h;refine wpAny_execs_cons (thn (h1 pins s σ H D I h) λf a q=>?_);cases f with
 | next=>exact wpAny_execs_nil q
 | ret v=>exact q
 | brk=>exact q
 | cont=>exact q
abbrev ztd:TS:=λD σ H=>D.bk σ H
abbrev zvM:TS:=λD σ H=>D.ct σ H
def zpz:PS X (.Break pos) ztd:=λ_ _ σ H _ I h=>wpAny_Break ⟨σ,H,I,h⟩
def Inv.quiet(I:Inv X pins σ H s):interactive X.env=false:=by simp[interactive,I.ok.kind]
abbrev zuH(te:TE):TS:=λD σ H=>te σ H λ_ H1=>D.nx σ H1
def zS(a:PE X e te)(c:autoParam (swapsWith e none pos.line X.env=pure false) Internal.aut2._auto_1):PS X (.Expr e pos) (zuH te):=by
 intro pins s σ H D I h;exact wpAny_Expr_any (thn (a pins s σ H _ I h) λv f ⟨x,H1,b,d,q1⟩=>⟨σ,H1,b,q1⟩) I.quiet c
abbrev zs3(te:TE):TS:=λD σ H=>te σ H D.rt
def zm(a:PE X e te):PS X (.Return (some e) pos) (zs3 te):=by
 intro pins s σ H D I h;exact wpAny_Return_some (thn (a pins s σ H _ I h) λv d ⟨x,H1,b,c,q1⟩=>⟨x,σ,H1,b,c,q1⟩)
abbrev zvN:TS:=λD _ H=>D.rt .non H
abbrev zvC(c:TT)(t u:TS):TS:=λD σ H=>c σ H λb H1=>if b=true then t D σ H1 else u D σ H1
def zI{c:Expr}{a b:List Stmt}{tc:TT}(j:PT X c tc)(i:PSs X a t)(g:PSs X b u):PS X (.If c a b pos) (zvC tc t u):=by
 intro pins s σ H D I h;refine wpAny_If (thn (j pins s σ H _ I h) λd f ⟨H1,e,q1⟩=>?_);cases d with
 | true=>exact i pins f σ H1 D e q1
 | false=>exact g pins f σ H1 D e q1
noncomputable def ztE:TS:=λ_ _ _=>False
def zqV:PS X st ztE:=λ_ _ _ _ _ _ h=>h.elim
end
abbrev TG:=V->St->Hp->(St->Hp->Prop)->Prop
variable {g:TG}
abbrev TGs:=List V->St->Hp->(St->Hp->Prop)->Prop
noncomputable def PG (X:Cx) (a:Expr) (t:TG):Prop:=
 ∀(pins:List (Addr × Obj)) (s:Shared) (σ:St) (H:Hp) (v:V) (u:Value) (Q:St->Hp->Prop),Inv X pins σ H s->RelV v u->t v σ H Q ->
  wpAny (model X.prog X.w) X.A (assign a X.env u) (λ_ s'=>∃σ' H',Inv X pins σ' H' s'/\Q σ' H') X.xe s
noncomputable def PGs (X:Cx) (ts:List Expr) (t:TGs):Prop:=
 ∀(pins:List (Addr × Obj)) (s:Shared) (σ:St) (H:Hp) (vs:List V) (us:List Value) (Q:St->Hp->Prop),Inv X pins σ H s->Vals vs us->t vs σ H Q ->
  wpAny (model X.prog X.w) X.A (assignInOrder ((assignEach ts X.env).map (·.2)) us) (λ_ s'=>∃σ' H',Inv X pins σ' H' s'/\Q σ' H') X.xe s
abbrev zh0:=V->V->V->Hp->(Hp->Prop)->Prop
noncomputable def zpy (X:Cx) (t:zh0):Prop:=
 ∀(pins:List (Addr × Obj)) (s:Shared) (σ:St) (H:Hp) (o i v:V) (ov iv u:Value) (Q:Hp->Prop),Inv X pins σ H s->RelV o ov->RelV i iv->RelV v u->t o i v H Q ->
  wpAny (model X.prog X.w) X.A (setItem ov iv u) (λ_ s'=>∃H',Inv X pins σ H' s'/\Q H') X.xe s
abbrev TIp:=V->V->Hp->VK->Prop
noncomputable def PIp (X:Cx) (a:Operator) (t:TIp):Prop:=
 ∀(pins:List (Addr × Obj)) (s:Shared) (σ:St) (H:Hp) (x y:V) (v u:Value) (Q:VK),Inv X pins σ H s->RelV x v->RelV y u->t x y H Q ->
  wpAny (model X.prog X.w) X.A (inplaceOp a v u) (EP X pins σ Q) X.xe s
section
variable {X:Cx}{pos:Pos}
abbrev zbn(i:Nat):TG:=λv σ H Q=>Q (σ.set i (some v)) H
def zC(c:X.N.Nodup)(hi:X.N[i]?=some x)(a:Loc X.env.scope x)(b:autoParam (X.fn x=true\/X.env.scope.names.lookup x=some .local) Internal.aut0._auto_1):PG X (.Name x pos) (zbn i):=by
 intro pins s σ H v u Q I r h;exact wpAny_assign_Name (zer I c hi a r (λs' d=>⟨_,H,d,h⟩) b)
noncomputable def zqS:TGs:=λvs σ H Q=>vs=[]/\Q σ H
noncomputable def zj6 (t:TG) (u:TGs):TGs:=λvs σ H Q=>∃v r,vs=v :: r/\t v σ H λa H'=>u r a H' Q
def zah:PGs X [] zqS:=by
 intro pins s σ H vs us Q I r h;obtain⟨e,h⟩:=h;subst e;cases r;exact assignInOrder_nil ⟨σ,H,I,h⟩
def zx{t:TG}{u:TGs}(h1:PG X e t)(h2:PGs X es u)
  (hs:autoParam ((assignEach (e :: es) X.env).map (·.2)=assign e X.env :: (assignEach es X.env).map (·.2)) Internal.aut2._auto_1):PGs X (e :: es) (zj6 t u):=by
 intro pins s σ H vs us Q I r h;obtain⟨v,f,e1,h⟩:=h;subst e1;cases r with
 | cons r rr=>
  rw[hs];refine assignInOrder_cons (thn (h1 pins s σ H _ _ _ I r h) λ_ d c=>?_);obtain⟨b,H1,a,q1⟩:=c;exact h2 pins d b H1 _ _ Q a rr q1
noncomputable def zaP (K:Fg) (n:Nat) (t:TGs):TG:=λv σ H Q=>∃a xs,v=.ref a/\SqT K H a xs/\xs.length=n/\t xs σ H Q
def zas{k:Nat}{t:TGs}{n:Nat}(l:X.calm=true)(h:PGs X es t)
  (hn:autoParam ((assignEach es X.env).length=n) Internal.aut2._auto_1) (hst:autoParam ((assignEach es X.env).findIdx? (·.1)=none) Internal.aut2._auto_1):PG X (.Tuple es k pos) (zaP X.K n t):=by
 intro pins s σ H v u Q I r c;obtain⟨a,xs,e1,f,m,c⟩:=c;subst e1;cases r;obtain⟨its,d,j,p⟩:=I.tuple f;refine assign_Tuple_tuple (I.ok.hd l) j (by simp[hn,<- m,d.length]) hst λh' i=>?_;have g:Inv X pins σ H { s with heap:=h' }:=I.kept (t':=s.toks) λb o e=>i b o (yo (Heap.lt_size e)) e;exact h pins _ σ H xs _ Q g (by simpa using d) c
abbrev zvx(to ti:TE)(t:zh0):TG:=λv σ H Q=>to σ H λo H1=>ti σ H1 λi H2=>t o i v H2 λH3=>Q σ H3
def zcZ{o i:Expr}{to ti:TE}{t:zh0}(f:PE X o to)(hi:PE X i ti)(q:zpy X t)
  (ha:autoParam (∀v,assign (.Subscript o i pos) X.env v=(do
   let a <- holding [v] (eval o X.env)
   let b <- holding [v,a] (eval i X.env)
   standAt pos
   holding [v,a,b] (setItem a b v)
   release [v,a,b] [])) Internal.aut3._auto_1):PG X (.Subscript o i pos) (zvx to ti t):=by
 intro pins s σ H v u Q I r h;rw[ha];refine wpAny_bind (wpAny_holding (thn (f pins s σ H _ I h) λa k c=>?_));obtain⟨x,H1,e,l,q1⟩:=c;refine wpAny_bind (wpAny_holding (thn (hi pins k σ H1 _ e q1) λb p c=>?_));obtain⟨y,H2,d,m,q2⟩:=c;refine wpAny_bind (wpAny_standAt (wpAny_bind (wpAny_holding (thn (q pins p σ H2 x y v a b u _ d l m r q2) λ_ w ⟨g,j,n⟩=>?_))));exact wpAny_release ⟨σ,g,j,n⟩
abbrev zlm(te:TE)(g:TG):TS:=λD σ H=>te σ H λx H1=>g x σ H1 D.nx
def zdj{te:TE}(f:PE X e te)(c:PG X tg g)(k:autoParam (swapsWithSole [tg] e pos.line X.env=pure false) Internal.aut2._auto_1)(d:autoParam (swappedStores [tg] e X.env=pure none) Internal.aut2._auto_1)
  (h1:autoParam ((assignEach [tg] X.env).map (·.2)=[assign tg X.env]) Internal.aut2._auto_1):PS X (.Assign [tg] e pos) (zlm te g):=by
 intro pins s σ H D I h;refine wpAny_Assign_stores (thn (f pins s σ H _ I h) λv j i=>?_) k d;obtain⟨x,H1,a,b,q1⟩:=i;rw[h1];exact thn (c pins j σ H1 x v _ a b q1) λ_ l q=>q
def ztW{te:TE}{pos':Pos}(l:X.N.Nodup)(hi:X.N[i]?=some x)(c:Loc X.env.scope x)(f:PE X e te)(k:autoParam (swapsWith e (some (.Name x pos')) pos.line X.env=pure false) Internal.aut2._auto_1)(j:autoParam (X.fn x=true\/X.env.scope.names.lookup x=some .local) Internal.aut0._auto_1) :
  PS X (.Assign [.Name x pos'] e pos) (zlm te (zbn i)):=by
 intro pins s σ H D I h;refine wpAny_Assign_Name (thn (f pins s σ H _ I h) λv m g=>?_) k;obtain⟨y,H1,b,d,q1⟩:=g;exact zer b l hi c d (λn a=>⟨_,H1,a,q1⟩) j
noncomputable def zqa (i:Nat) (te:TE) (ti:TIp):TS:=λD σ H=>∃x,σ[i]?=some (some x)/\te σ H λy H1=>ti x y H1 λz H2=>D.nx (σ.set i (some z)) H2
def zfn{te:TE}{b:Operator}{ti:TIp}{pos':Pos}(K:X.N.Nodup)(hi:X.N[i]?=some x)(g:Loc X.env.scope x)(q:PE X e te)(p:PIp X b ti)(C:autoParam (X.fn x=true\/X.env.scope.names.lookup x=some .local) Internal.aut0._auto_1) :
  PS X (.AugAssign (.Name x pos') b e pos) (zqa i te ti):=by
 intro pins s σ H D I h;obtain⟨v,e1,h⟩:=h;obtain⟨m,hn,J⟩:=I.loc;have d:Vis X.env.scope x:=by rcases g with k | k;exact .inl k;exact .inr (.inl k)
 obtain⟨u,r,l⟩:=J i x v hi e1 d;refine wpAny_AugAssign_Name ?_;have go:wpAny (model X.prog X.w) X.A (eval e X.env) (λw o=>wpAny (model X.prog X.w) X.A (inplaceOp b u w) (λr E=>wpAny (model X.prog X.w) X.A (storeName X.env x r) (λ_=>SP X pins D .next) X.xe E) X.xe o) X.xe s:=by
  refine thn (q pins s σ H _ I h) λw B f=>?_;obtain⟨y,H1,n,F,q1⟩:=f;refine thn (p pins B σ H1 v y u w _ n r F q1) λz O f=>?_;obtain⟨L,H2,j,G,q2⟩:=f;exact zer j K hi g G (λM t=>⟨_,H2,t,q2⟩) C
 rcases l with⟨a,hm⟩ | ⟨a,c,hc,hcell⟩
 ·exact wpAny_loadName_local I.ok.kind a hn hm go
 ·rcases a with a | a
  ·exact wpAny_loadName_cell I.ok.kind a hc hcell go
  ·rcases g with k | k
   ·have:X.env.scope.names.lookup x=some .free:=a
    rw[k]at this;cases this
   ·have:X.env.scope.names.lookup x=some .free:=a
    rw[k]at this;cases this
noncomputable def zrv (to ti te:TE) (b:V->V->Hp->VK->Prop) (c:TIp) (a:zh0):TS:=λD σ H=>to σ H λo H1=>ti σ H1 λi H2=>b o i H2 λx f=>te σ f λy g=>c x y g λz e=>a o i z e λd=>D.nx σ d
noncomputable def zdo (X:Cx) (t:V->V->Hp->VK->Prop):Prop:=
 ∀(pins:List (Addr × Obj)) (s:Shared) (σ:St) (H:Hp) (o i:V) (ov iv:Value) (Q:VK),Inv X pins σ H s->RelV o ov->RelV i iv->t o i H Q ->
  wpAny (model X.prog X.w) X.A (getItem ov iv) (EP X pins σ Q) X.xe s
def zbz{o i:Expr}{to ti te:TE}{b:V->V->Hp->VK->Prop}{g:TIp}{c:zh0}{j:Operator}{tpos:Pos}(w:PE X o to)(hi:PE X i ti)(Q:zdo X b)(B:PE X e te)(hp:PIp X j g)(Y:zpy X c)
  (ha:autoParam (∀d f new,augStore i d f new=(do holding [new,d,f] (setItem d f new);release [new,d,f] [];pure .next)) Internal.aut4._auto_1):PS X (.AugAssign (.Subscript o i tpos) j e pos) (zrv to ti te b g c):=by
 intro pins s σ H D I h;refine wpAny_AugAssign_SubscriptAny (thn (w pins s σ H _ I h) λd J a=>?_) ha;obtain⟨k,H1,r,m,q1⟩:=a;refine thn (hi pins J σ H1 _ r q1) λf U a=>?_;obtain⟨l,H2,q,n,q2⟩:=a;refine thn (Q pins U σ H2 k l d f _ q m n q2) λold A a=>?_;obtain⟨P,C,E,F,S⟩:=a;refine thn (B pins A σ C _ E S) λv L a=>?_;obtain⟨u,G,M,R,N⟩:=a;refine thn (hp pins L σ G P u old v _ M F R N) λnew t a=>?_;obtain⟨T,z,x,p,W⟩:=a;exact thn (Y pins t σ z k l T d f new _ x m n p W) λ_ Z ⟨y,K,O⟩=>⟨σ,y,K,O⟩
noncomputable def ipI (f:Int->Int->Int):TIp:=λx y H Q=>∃i j,x=.int i/\y=.int j/\Q (.int (f i j)) H
def zc2:PIp X .Add (ipI λi j=>i+j):=by
 intro pins s σ H x y v u Q I a b h;obtain⟨i,j,e1,e2,q⟩:=h;subst e1;subst e2;obtain⟨t,rfl⟩:=a;obtain⟨t',rfl⟩:=b;exact iadd_int ⟨.int _,H,I.tok _,⟨_,rfl⟩,q⟩
def zdd:PIp X .Sub (ipI λi j=>i-j):=by
 intro pins s σ H x y v u Q I a b h;obtain⟨i,j,e1,e2,q⟩:=h;subst e1;subst e2;obtain⟨t,rfl⟩:=a;obtain⟨t',rfl⟩:=b;exact isub_int ⟨.int _,H,I.tok _,⟨_,rfl⟩,q⟩
end
section
variable {X:Cx}{pos:Pos}
noncomputable def zuj (c:TT) (tb:TS):TS:=λD σ H=>∃W:Nat->St->Hp->Prop,(∃m,W m σ H)/\∀m σ H,W m σ H ->
 c σ H λb H1=>if b=true then ∃N:St->Hp->Prop,(∀σ' H',N σ' H'->∃m',m'<m/\W m' σ' H')/\tb { D with nx:=N,ct:=N,bk:=D.nx } σ H1 else D.nx σ H1
def zdl{c:Expr}{body:List Stmt}{tc:TT}{tb:TS}(hp:PassesOwn (model X.prog X.w) X.A X.env X.xe)(y:PT X c tc)(u:PSs X body tb):PS X (.While c body [] pos) (zuj tc tb):=by
 intro pins s σ H D I h;obtain⟨W,⟨x,z⟩,d⟩:=h;refine wpAny_While (codeAny_whileLoop (λn s'=>∃σ' H',Inv X pins σ' H' s'/\W n σ' H') ?_ x ⟨σ,H,I,z⟩);rintro n t ⟨g,H1,r,q⟩;refine wpAny_passesOwn hp (thn (y pins t g H1 _ r (d n g H1 q)) λb B ⟨H2,o,q2⟩=>?_);cases b with
 | true=>
  obtain⟨N,p,q2⟩:=q2;rw[if_pos rfl];refine wpAny_passesOwn hp (thn (u pins B g H2 _ o q2) λf C i=>?_);cases f with
  | next=>
   obtain⟨e,a,k,n3⟩:=i;obtain⟨j,l,m⟩:=p e a n3;exact⟨j,l,e,a,k,m⟩
  | cont=>
   obtain⟨e,a,k,n3⟩:=i;obtain⟨j,l,m⟩:=p e a n3;exact⟨j,l,e,a,k,m⟩
  | brk=>exact i
  | ret v=>exact i
 | false=>
  rw[if_neg yn];exact wpAny_execs_nil ⟨g,H2,o,q2⟩
end
set_option genInjectivity false in
set_option genSizeOf false in
structure It where
 go:Nat->Hp->Prop
 yld:Nat->Hp->V->Hp->Prop
 stop:Nat->Hp->Prop
noncomputable def zb5 (X:Cx) (pins:List (Addr × Obj)) (H:Hp) (b:Addr):Prop:=
 H b=none/\b≠X.env.locals/\b∉X.fs/\(b∈X.ex\/X.s₀.heap.objs.size<=b)/\(∀x c,X.env.cells.lookup x=some c->c≠b)/\∀p∈X.pn++pins,p.1≠b
def Inv.fpOk(I:Inv X pins σ H s)(a:s.heap.objs.size<=b)(hn:H' b=none):zb5 X pins H' b:=by
 refine⟨hn,ybw (yu I.lt a),I.nofs a,.inr (yc I.sz a),λx c e z=>?_,λp hp z=>?_⟩
 ·obtain⟨v,q⟩:=I.cell x c e;exact absurd (yu q.lt (by rw[z];exact a)) (yQ _)
 ·exact absurd (yu (Heap.lt_size (I.pin p hp).1) (by rw[z];exact a)) (yQ _)
set_option genInjectivity false in
set_option genSizeOf false in
structure Turn(P:Program)(w:World)(K:Fg)(tg:Expr)(J:It)(fp:List Addr)(it:Addr)(tn:Nat->Heap->Prop):Prop where
 mem:it∈fp
 obj:∀i h,tn i h->∀b∈fp,∃o,h.get? b=some o/\∀v,o.data≠.cell v
 keep:∀i h h',tn i h->(∀b∈fp,∀o,h.get? b=some o->h'.get? b=some o)->tn i h'
 item:∀(X:Cx),X.prog=P->X.w=w->X.K=K->X.calm=true->∀(i:Nat) (pins:List (Addr × Obj)) (s:Shared) (σ:St) (H:Hp) (E:Value->Shared->Prop),Inv X pins σ H s->(∀b∈fp,zb5 X pins H b)->tn i s.heap->J.go i H ->
  wpAny (model P w) X.A (pyNext (.ref it)) (λr s1=>∃u,r=some u /\
   wpAny (model P w) X.A (letOwnedTupleGo tg (.ref it) u) (λ_ s2=>∃x H',Inv X pins σ H' s2/\RelV x u/\J.yld i H x H'/\tn (i+1) s2.heap/\∀b∈fp,H' b=none) E s1) E s
 done:∀(X:Cx),X.prog=P->X.w=w->X.K=K->X.calm=true->∀(i:Nat) (pins:List (Addr × Obj)) (s:Shared) (σ:St) (H:Hp) (E:Value->Shared->Prop),Inv X pins σ H s->(∀b∈fp,zb5 X pins H b)->tn i s.heap->J.stop i H ->
  wpAny (model P w) X.A (pyNext (.ref it)) (λr s1=>r=none/\Inv X pins σ H s1) E s
 self:∀(A:Around) (i:Nat) (s:Shared) (Q:Value->Shared->Prop) (E:Value->Shared->Prop),tn i s.heap->Q (.ref it) s->wpAny (model P w) A (pyIter (.ref it)) Q E s
abbrev TI:=St->Hp->(It->Hp->Prop)->Prop
variable {wi:TI}
noncomputable def PIE (X:Cx) (pins:List (Addr × Obj)) (σ:St) (tg:Expr) (R:It->Hp->Prop) (a:Value) (c:Shared):Prop:=
 ∃(it:Addr) (fp:List Addr) (tn:Nat->Heap->Prop) (J:It) (H':Hp),a=.ref it/\Inv X pins σ H' c/\Turn X.prog X.w X.K tg J fp it tn/\tn 0 c.heap/\(∀b∈fp,zb5 X pins H' b)/\R J H'
noncomputable def PI (X:Cx) (tg iter:Expr) (wi:TI):Prop:=
 ∀(pins:List (Addr × Obj)) (s:Shared) (σ:St) (H:Hp) (R:It->Hp->Prop),Inv X pins σ H s->wi σ H R ->
  wpAny (model X.prog X.w) X.A (eval iter X.env) (λv a=>wpAny (model X.prog X.w) X.A (pyIter v) (PIE X pins σ tg R) X.xe a) X.xe s
def zmO{M:Model}{A:Around}{E:Value->Shared->Prop}{tg:Expr}{it:Addr}{u:Value}{o:Obj}{n:String}{vs:Array Value}{Q:Unit->Shared->Prop}(a:s.heap.get? it=some o)(b:o.cls=.type n)(hd:o.data=.fields vs)
  (hn:["enumerate", "zip", "dict_itemiterator", "dict_reverseitemiterator", "odict_iterator", "itertools.zip_longest", "itertools.pairwise"].contains n=false) (hQ:Q () s):wpAny M A (letOwnedTupleGo tg (.ref it) u) Q E s:=by
 unfold letOwnedTupleGo;cases tg<;>first
  | exact wpAny_pure hQ
  | (cases u<;>first
    | exact wpAny_pure hQ
    | (refine wpAny_bind (wpAny_load a ?_)
       rw[b,hd];show wpAny M A (if(["enumerate", "zip", "dict_itemiterator", "dict_reverseitemiterator", "odict_iterator", "itertools.zip_longest", "itertools.pairwise"].contains n&&vs[0]? == some (rawInt _))=true then _ else _) Q E s;rw[if_neg (by intro h;rw[hn,Bool.false_and]at h;cases h)];exact wpAny_pure hQ))
noncomputable def Itl (K:Fg) (a:Addr):It:=
 ⟨λi H=>∃xs x,SqL K H a xs/\xs[i]?=some x,λi H x H'=>H'=H/\∀xs,SqL K H a xs->xs[i]?=some x,λi H=>∃xs,SqL K H a xs/\xs.length<=i⟩
noncomputable def Itt (K:Fg) (a:Addr):It:=
 ⟨λi H=>∃xs x,SqT K H a xs/\xs[i]?=some x,λi H x H'=>H'=H/\∀xs,SqT K H a xs->xs[i]?=some x,λi H=>∃xs,SqT K H a xs/\xs.length<=i⟩
noncomputable def Itr (lo:Int) (n:Nat):It:=⟨λi _=>i<n,λi H x H'=>H'=H/\x=.int (lo+i),λi _=>n<=i⟩
def zjm(a it:Addr):Turn P w K tg (Itl K a) [it] it (λi h=>h.IsListIter it a i) where
 mem:=by simp
 obj:=λi h st b f=>by
  have e:b=it:=by simpa using f
  subst e;obtain⟨o,e,c,d⟩:=st;exact⟨o,e,λv z=>by rw[d]at z;cases z⟩
 keep:=λi h h' st k=>st.at λo e=>k it (by simp) o e
 item:=by
  intro X q C y G i pins s σ H E I j st B;subst q C y;obtain⟨xs,x,l,t⟩:=B;obtain⟨its,D,p,Q⟩:=I.list l;obtain⟨u,N,ru⟩:=D.get t;obtain⟨m,F,M,A,n,r⟩:=j it (by simp);refine wpAny_pyNext_list_item st p.isList (x:=u) (by simpa using N) λh' g O=>?_;have L:Inv X pins σ H { s with heap:=h' }:=I.turned (t':=s.toks) (λb o f e=>(O.2 b f).trans e) m F A n r;obtain⟨o,e,c,d⟩:=id g;exact⟨u,rfl,zmO (s:={ s with heap:=h' }) e c d (by decide) ⟨x,H,L,ru,⟨rfl,λys R=>by rw[I.list_inj R l];exact t⟩,g,λb f=>(j b f).1⟩⟩
 done:=by
  intro X q C y G i pins s σ H E I j st B;subst q C y;obtain⟨xs,l,t⟩:=B;obtain⟨its,D,p,Q⟩:=I.list l;obtain⟨m,F,M,A,n,r⟩:=j it (by simp);have S:=D.length;exact wpAny_pyNext_list_end (I.ok.hd G) st p.isList (by simp;lia) λh' J=>⟨rfl,I.turned (t':=s.toks) (λb o f e=>J b o f e) m F A n r⟩
 self:=λ_ _ _ _ _ st h=>wpAny_pyIter_listiter st h
def zha(a it:Addr):Turn P w K tg (Itt K a) [it] it (λi h=>h.IsTupleIter it a i) where
 mem:=by simp
 obj:=λi h st b f=>by
  have e:b=it:=by simpa using f
  subst e;obtain⟨o,e,c,d⟩:=st;exact⟨o,e,λv z=>by rw[d]at z;cases z⟩
 keep:=λi h h' st k=>st.at λo e=>k it (by simp) o e
 item:=by
  intro X q C y G i pins s σ H E I j st B;subst q C y;obtain⟨xs,x,l,t⟩:=B;obtain⟨its,D,p,Q⟩:=I.tuple l;obtain⟨u,N,ru⟩:=D.get t;obtain⟨m,F,M,A,n,r⟩:=j it (by simp);refine wpAny_pyNext_tuple_item st (show s.heap.IsTuple a its.toArray from p) (x:=u) (by simpa using N) λh' g O=>?_;have L:Inv X pins σ H { s with heap:=h' }:=I.turned (t':=s.toks) (λb o f e=>(O.2 b f).trans e) m F A n r;obtain⟨o,e,c,d⟩:=id g;exact⟨u,rfl,zmO (s:={ s with heap:=h' }) e c d (by decide) ⟨x,H,L,ru,⟨rfl,λys R=>by rw[I.tuple_inj R l];exact t⟩,g,λb f=>(j b f).1⟩⟩
 done:=by
  intro X q C y G i pins s σ H E I j st B;subst q C y;obtain⟨xs,l,t⟩:=B;obtain⟨its,D,p,Q⟩:=I.tuple l;obtain⟨m,F,M,A,n,r⟩:=j it (by simp);have S:=D.length;exact wpAny_pyNext_tuple_end (I.ok.hd G) st (show s.heap.IsTuple a its.toArray from p) (by simp;lia) λh' J=>⟨rfl,I.turned (t':=s.toks) (λb o f e=>J b o f e) m F A n r⟩
 self:=λ_ _ _ _ _ st h=>wpAny_pyIter_tupleiter st h
def znj(it:Addr)(lo:Int)(n:Nat):Turn P w K tg (Itr lo n) [it] it (λi h=>IsRangeIter h it (lo+(i:Nat)*1) ((n:Int)-(i:Nat)) 1) where
 mem:=by simp
 obj:=λi h st b a=>by
  have e:b=it:=by simpa using a
  subst e;exact⟨_,st,λv z=>by
   have B:Data.fields _=Data.cell v:=z;cases B⟩
 keep:=λi h h' st k=>k it (by simp) _ st
 item:=by
  intro X j r m u i pins s σ H E I d st q;subst j r m;obtain⟨f,x,C,p,g,l⟩:=d it (by simp);have W:=Walks.range (prog:=X.prog) (w:=X.w) (I.ok.hd u) it lo 1 n;refine W.item i s _ _ q st λv h' tk F c D=>?_;obtain⟨t,rfl⟩:=F;have A:Inv X pins σ H { s with heap:=h',toks:=tk }:=I.turned (λb o a e=>D b o (by simpa using a) e) f x p g l;refine⟨_,rfl,zmO (s:={ s with heap:=h',toks:=tk }) (n := "range_iterator") c rfl rfl (by decide) ⟨.int (lo+i),H,A,⟨t,?_⟩,⟨rfl,rfl⟩,c,λb a=>(d b a).1⟩⟩;rw[ybm]
 done:=by
  intro X j r m u i pins s σ H E I d st q;subst j r m;obtain⟨f,x,C,p,g,l⟩:=d it (by simp);exact wpAny_pyNext_range_end (I.ok.hd u) st (by have:n<=i:=q;lia) λh' y=>⟨rfl,I.turned (t':=s.toks) (λb o a e=>y b o a e) f x p g l⟩
 self:=λ_ _ _ _ _ st h=>wpAny_pyIter_rangeiter st h
section
variable {X:Cx}{tg:Expr}
noncomputable def zmN (K:Fg) (tl:TE):TI:=λσ H R=>tl σ H λx H1=>∃a,x=.ref a/\(∃xs,SqL K H1 a xs)/\R (Itl K a) H1
noncomputable def zp3 (K:Fg) (tl:TE):TI:=λσ H R=>tl σ H λx H1=>∃a,x=.ref a/\(∃xs,SqT K H1 a xs)/\R (Itt K a) H1
def zrF{l:Expr}(k:PE X l tl):PI X tg l (zmN X.K tl):=by
 intro pins s σ H R I h;refine thn (k pins s σ H _ I h) λv d j=>?_;obtain⟨x,H1,c,g,q1⟩:=j;obtain⟨a,e,⟨xs,f⟩,q⟩:=q1;subst e;cases g;obtain⟨its,n,p,m⟩:=c.list f;refine wpAny_pyIter_list p.isList ?_;refine⟨d.heap.objs.size,[d.heap.objs.size],_,_,H1,rfl,c.kept (t':=d.toks) λb o e=>Heap.get?_push_of_some _ e,zjm a _,⟨_,Heap.get?_push_size _ rfl,rfl,rfl⟩,λb i=>?_,q⟩;have e:b=d.heap.objs.size:=by simpa using i
 subst e;exact c.fpOk (yh _) (c.hok.fresh (yh _))
def zty{l:Expr}(k:PE X l tl):PI X tg l (zp3 X.K tl):=by
 intro pins s σ H R I h;refine thn (k pins s σ H _ I h) λv c j=>?_;obtain⟨x,H1,d,g,q1⟩:=j;obtain⟨a,e,⟨xs,f⟩,q⟩:=q1;subst e;cases g;obtain⟨its,n,p,m⟩:=d.tuple f;refine wpAny_pyIter_tuple (show c.heap.IsTuple a its.toArray from p) ?_;refine⟨c.heap.objs.size,[c.heap.objs.size],_,_,H1,rfl,d.kept (t':=c.toks) λb o e=>Heap.get?_push_of_some _ e,zha a _,⟨_,Heap.get?_push_size _ rfl,rfl,rfl⟩,λb i=>?_,q⟩;have e:b=c.heap.objs.size:=by simpa using i
 subst e;exact d.fpOk (yh _) (d.hok.fresh (yh _))
def zqB{R:It->Hp->Prop}{E:Value->Shared->Prop}{hi:Int}{t u v:Tok}{tk:Nat}(I:Inv X pins σ H s)(h1:-(2 ^ 62)<=lo)(h2:lo<2 ^ 62)(d:-(2 ^ 62)<=hi)(f:hi<2 ^ 62)
  (q:R (Itr lo (hi-lo).toNat) H):wpAny (model X.prog X.w) X.A (pyIter (.ref s.heap.objs.size)) (PIE X pins σ tg R) E { s with heap:=s.heap.push { cls:=.type "range",data:=.fields #[.int lo t,.int hi u,.int 1 v] },toks:=tk }:=by
 refine wpAny_pyIter_range (IsRange.new ..) (small_one h1 h2 d f) ?_;have a:Inv X pins σ H { s with heap:=s.heap.push { cls:=.type "range",data:=.fields #[.int lo t,.int hi u,.int 1 v] },toks:=tk }:=I.kept λb o e=>Heap.get?_push_of_some _ e;refine⟨(s.heap.push { cls:=.type "range",data:=.fields #[.int lo t,.int hi u,.int 1 v] }).objs.size,[(s.heap.push { cls:=.type "range",data:=.fields #[.int lo t,.int hi u,.int 1 v] }).objs.size],_,_,H,rfl,
  a.kept (t':=tk) λb o e=>Heap.get?_push_of_some _ e,znj _ lo (hi-lo).toNat,?_,λb c=>?_,q⟩
 ·have e1:lo+((0:Nat):Int)*1=lo:=by simp
  have e2:(((hi-lo).toNat:Nat):Int)-((0:Nat):Int)=Builtin.Range.rangeSize lo hi 1:=by rw[rangeSize_one];split<;>lia
  show IsRangeIter _ _ (lo+((0:Nat):Int)*1) ((((hi-lo).toNat:Nat):Int)-((0:Nat):Int)) 1;rw[e1,e2];exact Heap.get?_push_size _ rfl
 ·have e:b=(s.heap.push { cls:=.type "range",data:=.fields #[.int lo t,.int hi u,.int 1 v] }).objs.size:=by simpa using c
  subst e;exact a.fpOk (yh _) (a.hok.fresh (yh _))
noncomputable def zrc (ta:TA):TI:=λσ H R=>ta σ H λvs H1=>∃j:Int,vs=[.int j]/\-(2 ^ 62)<=j/\j<2 ^ 62/\R (Itr 0 j.toNat) H1
def zaz{a:Expr}{ta:TA}{p pos:Pos}(d:Gl X "range")(g:X.mg "range" = none)(f:PA X [a] ta)(i:autoParam (starEach [a] X.env=[(false,eval a X.env)]) Internal.aut2._auto_1):PI X tg (.Call (.Name "range" p) [a] [] pos) (zrc ta):=by
 intro pins s σ H R I h;refine Call_ (zbX I d g boot_range (yan (thn (f pos pins s σ H _ I h) λus k ⟨vs,H1,b,c,q1⟩=>?_) i rfl));obtain⟨j,e,q1,q2,q⟩:=q1;subst e;cases c with
 | cons r rr=>
  cases rr;obtain⟨t,rfl⟩:=r;exact call_range_1 (zqB b ⋯ ⋯ q1 q2 (by simpa using q))
noncomputable def zsS (wi:TI) (g:TG) (tb:TS):TS:=λD σ H=>wi σ H λJ H1=>∃W:Nat->Nat->St->Hp->Prop,(∃m,W 0 m σ H1)/\∀i m σ H,W i m σ H ->
 (J.stop i H/\D.nx σ H)\/(J.go i H/\∃N:St->Hp->Prop,(∀σ' H',N σ' H'->∃m',m'<m/\W (i+1) m' σ' H')/\∀x H',J.yld i H x H'->g x σ H' λa H2=>tb { D with nx:=N,ct:=N,bk:=D.nx } a H2)
noncomputable def zfj (fp:List Addr) (h:Heap):List (Addr × Obj):=fp.filterMap λb=>(h.get? b).map λo=>(b,o)
def zcQ{o:Obj}(a:b∈fp)(e:h.get? b=some o):(b,o)∈zfj fp h:=ybp.mpr ⟨b,a,by rw[e];rfl⟩
def zoE{p:Addr × Obj}(hp:p∈zfj fp h):p.1∈fp/\h.get? p.1=some p.2:=by
 obtain⟨b,c,e⟩:=ybp.mp hp;cases q:h.get? b with
 | none=>rw[q]at e;cases e
 | some o=>
  rw[q]at e;have a:(b,o)=p:=yq e;subst a;exact⟨c,q⟩
def Inv.pinned(I:Inv X pins σ H s)(g:∀b∈fp,zb5 X pins H b)(h:∀b∈fp,∃o,s.heap.get? b=some o/\∀v,o.data≠.cell v):Inv X (pins++zfj fp s.heap) σ H s:=
 I.pins_of λp hp=>(yA.mp hp).elim (λz=>I.pin p (yN _ z)) λz=>by
  obtain⟨c,e⟩:=zoE z;obtain⟨f,j,i,_⟩:=g p.1 c;obtain⟨o,a,d⟩:=h p.1 c;rw[e]at a;cases a;exact⟨e,f,j,i,d⟩
def Inv.unpinned{pl:List (Addr × Obj)}(I:Inv X (pins++pl) σ H s):Inv X pins σ H s:=I.pins_of λp hp=>I.pin p (yN _ (yat _ hp))
def z5{body:List Stmt}{tb:TS}{pos:Pos}(hp:PassesOwn (model X.prog X.w) X.A X.env X.xe)(Y:X.calm=true)(hi:PI X tg iter wi)(hg:PG X tg g)(k:PSs X body tb)
  (hs:autoParam (∀x,foldedSetIterable iter X.env x=pure x) Internal.aut3._auto_1):PS X (.For tg iter body [] pos) (zsS wi g tb):=by
 intro pins s σ H D I h;refine wpAny_For (thn (hi pins s σ H _ I h) λv s1 h1=>thn h1 λa0 s2 h2=>?_) hs;obtain⟨it,fp,Z,J,H2,e,I2,T,P,S,W,⟨m0,w0⟩,C⟩:=h2;subst e
 -- what stays true of the iterator's objects through the loop
 have c:∀{H':Hp},(∀b∈fp,H' b=none)->∀b∈fp,zb5 X pins H' b:=λhn b k=>⟨hn b k,(S b k).2⟩
 refine codeAny_forLoop_any (λn s'=>∃i σ' H',Inv X pins σ' H' s'/\Z i s'.heap/\(∀b∈fp,H' b=none)/\W i n σ' H') ?_ m0 ⟨0,σ,H2,I2,P,λb k=>(S b k).1,w0⟩;rintro n V ⟨i,z,F,R,B,E,w3⟩;rcases C i n z F w3 with⟨stop,qn⟩ | ⟨go,N,hN,step⟩
 ·refine wpAny_passesOwn hp (thn (T.done X rfl rfl rfl Y i pins V z F X.xe R (c E) B stop) λr s4 ⟨M,I4⟩=>?_);subst M;exact wpAny_execs_nil ⟨z,F,I4,qn⟩
 ·refine wpAny_passesOwn hp (thn (T.item X rfl rfl rfl Y i pins V z F X.xe R (c E) B go) λr s4 ⟨u,M,h4⟩=>?_);subst M;refine wpAny_passesOwn hp (thn h4 λ_ Q K=>?_);obtain⟨x,U,I5,r5,y5,t,O⟩:=K;have L:=I5.pinned (c O) (T.obj _ _ t);refine wpAny_passesOwn hp (thn (hg _ Q z U x u _ L r5 (step x U y5)) λ_ s6 K=>?_);obtain⟨σ6,H6,I6,q6⟩:=K;refine wpAny_passesOwn hp (thn (k _ s6 σ6 H6 _ I6 q6) λf G q=>?_);have l:∀{p:St} {j:Hp},Inv X (pins++zfj fp Q.heap) p j G->N p j->∃m,m<n/\∃i σ' H',Inv X pins σ' H' G/\Z i G.heap/\(∀b∈fp,H' b=none)/\W i m σ' H':=λ{p j} a y=>by
   obtain⟨m',hm,w7⟩:=hN p j y;refine⟨m',hm,i+1,p,j,a.unpinned,T.keep _ _ _ t λb k o e=>(a.pin (b,o) (yN _ (yN _ (zcQ k e)))).1,λb k=>?_,w7⟩;obtain⟨o,e,d⟩:=T.obj _ _ t b k;exact(a.pin (b,o) (yN _ (yN _ (zcQ k e)))).2.1
  cases f with
  | next=>obtain⟨p,j,a,y⟩:=q;exact l a y
  | cont=>obtain⟨p,j,a,y⟩:=q;exact l a y
  | brk=>obtain⟨p,j,a,q⟩:=q;exact⟨p,j,a.unpinned,q⟩
  | ret v=>obtain⟨x7,p,j,a,r7,q⟩:=q;exact⟨x7,p,j,a.unpinned,r7,q⟩
end
def zp6{g:TG}{tb:TS}{D:Ends}(b:Nat->St->Hp->Prop)(j:b 0 σ H)(k:∀i σ H,i<=xs.length->b i σ H->SqL K H a xs)
  (hs:∀i x σ H,xs[i]?=some x->b i σ H->g x σ H λd H2=>tb { D with nx:=b (i+1),ct:=b (i+1),bk:=D.nx } d H2) (hd:∀σ H,b xs.length σ H->D.nx σ H) :
  ∃W:Nat->Nat->St->Hp->Prop,(∃m,W 0 m σ H)/\∀i m σ H,W i m σ H ->
   ((Itl K a).stop i H/\D.nx σ H)\/((Itl K a).go i H/\∃N:St->Hp->Prop,(∀f H',N f H'->∃m',m'<m/\W (i+1) m' f H')/\∀x H',(Itl K a).yld i H x H'->g x σ H' λd H2=>tb { D with nx:=N,ct:=N,bk:=D.nx } d H2):=by
 refine⟨λi m σ H=>m=xs.length-i/\i<=xs.length/\b i σ H,⟨xs.length,by simp,yI _,j⟩,?_⟩;rintro i m σ H ⟨rfl,hi,p⟩;have q:=k i σ H hi p;by_cases c:i<xs.length
 ·refine .inr ⟨⟨xs,xs[i],q,by simp[c]⟩,b (i+1),λf H' h=>⟨xs.length-(i+1),⋯,rfl,c,h⟩,λx H' y=>?_⟩;obtain⟨e,y⟩:=y;subst e;exact hs i x σ _ (y xs q) p
 ·have e:i=xs.length:=by lia
  subst e;exact .inl ⟨⟨xs,q,yh _⟩,hd σ H p⟩
def zoQ{lo:Int}{n:Nat}{g:TG}{tb:TS}{D:Ends}(b:Nat->St->Hp->Prop)(h:b 0 σ H)
  (hs:∀i σ H,i<n->b i σ H->g (.int (lo+i)) σ H λc H2=>tb { D with nx:=b (i+1),ct:=b (i+1),bk:=D.nx } c H2) (hd:∀σ H,b n σ H->D.nx σ H) :
  ∃W:Nat->Nat->St->Hp->Prop,(∃m,W 0 m σ H)/\∀i m σ H,W i m σ H ->
   ((Itr lo n).stop i H/\D.nx σ H)\/((Itr lo n).go i H/\∃N:St->Hp->Prop,(∀d H',N d H'->∃m',m'<m/\W (i+1) m' d H')/\∀x H',(Itr lo n).yld i H x H'->g x σ H' λc H2=>tb { D with nx:=N,ct:=N,bk:=D.nx } c H2):=by
 refine⟨λi m σ H=>m=n-i/\i<=n/\b i σ H,⟨n,by simp,yI _,h⟩,?_⟩;rintro i m σ H ⟨rfl,hi,p⟩;by_cases a:i<n
 ·refine .inr ⟨a,b (i+1),λd H' f=>⟨n-(i+1),⋯,rfl,a,f⟩,λx H' y=>?_⟩;obtain⟨e,y⟩:=y;subst e y;exact hs i σ _ a p
 ·have e:i=n:=by lia
  subst e;exact .inl ⟨yh _,hd σ H p⟩
abbrev R2:=V->V->Hp->VK->Prop
noncomputable def OpR (X:Cx) (f:Value->Value->Sem Value) (r:R2):Prop:=
 ∀(pins:List (Addr × Obj)) (s:Shared) (σ:St) (H:Hp) (x y:V) (v u:Value) (Q:VK),Inv X pins σ H s->RelV x v->RelV y u->r x y H Q ->
  wpAny (model X.prog X.w) X.A (f v u) (EP X pins σ Q) X.xe s
noncomputable def UnR (X:Cx) (f:Value->Sem Value) (r:V->Hp->VK->Prop):Prop:=
 ∀(pins:List (Addr × Obj)) (s:Shared) (σ:St) (H:Hp) (x:V) (v:Value) (Q:VK),Inv X pins σ H s->RelV x v->r x H Q ->
  wpAny (model X.prog X.w) X.A (f v) (EP X pins σ Q) X.xe s
noncomputable def CallR (X:Cx) (f:Value) (r:List V->Hp->VK->Prop):Prop:=
 ∀(pins:List (Addr × Obj)) (s:Shared) (σ:St) (H:Hp) (xs:List V) (us:List Value) (Q:VK),Inv X pins σ H s->Vals xs us->r xs H Q ->
  wpAny (model X.prog X.w) X.A (call f us) (EP X pins σ Q) X.xe s
noncomputable def zvb (X:Cx) (r:V->Hp->(Bool->Hp->Prop)->Prop):Prop:=
 ∀(pins:List (Addr × Obj)) (s:Shared) (σ:St) (H:Hp) (x:V) (v:Value) (Q:Bool->Hp->Prop),Inv X pins σ H s->RelV x v->r x H Q ->
  wpAny (model X.prog X.w) X.A (truthy v) (TP X pins σ Q) X.xe s
abbrev tOp(r:R2)(ta tb:TE):TE:=λσ H Q=>ta σ H λx H1=>tb σ H1 λy H2=>r x y H2 Q
abbrev tUn(r:V->Hp->VK->Prop)(ta:TE):TE:=λσ H Q=>ta σ H λx H1=>r x H1 Q
noncomputable def rI (C:Int->Int->Prop) (g:Int->Int->V):R2:=λx y H Q=>∃i j,x=.int i/\y=.int j/\C i j/\Q (g i j) H
noncomputable def rI0 (g:Int->Int->V):R2:=λx y H Q=>∃i j,x=.int i/\y=.int j/\Q (g i j) H
noncomputable def rU (g:Int->V):V->Hp->VK->Prop:=λx H Q=>∃i,x=.int i/\Q (g i) H
section
variable {X:Cx}{a b c:Expr}{ta tb tc:TE}{pos:Pos}
def zqx(m:PE X a ta)(l:PE X b tb){R:V->V->Hp->Prop}(I:Inv X pins σ H s)
  (h:ta σ H λx H1=>tb σ H1 λy H2=>R x y H2) {Q:Value->Shared->Prop} {f:Value->Value->Sem Value}
  (hf:∀v u c x y H2,Inv X pins σ H2 c->RelV x v->RelV y u->R x y H2->wpAny (model X.prog X.w) X.A (f v u) Q X.xe c) :
  wpAny (model X.prog X.w) X.A (eval a X.env) (λv o=>wpAny (model X.prog X.w) X.A (eval b X.env) (λu k=>wpAny (model X.prog X.w) X.A (f v u) Q X.xe k) X.xe o) X.xe s:=by
 refine thn (m pins s σ H _ I h) λv n d=>?_;obtain⟨x,H1,g,i,q1⟩:=d;refine thn (l pins n σ H1 _ g q1) λu c d=>?_;obtain⟨y,H2,e,j,q2⟩:=d;exact hf v u c x y H2 e i j q2
def zt{c:Operator}{r:R2}(g:OpR X (binaryOp c) r)(i:PE X a ta)(f:PE X b tb):PE X (.BinOp a c b pos) (tOp r ta tb):=by
 intro pins s σ H Q I h;exact wpAny_BinOp (zqx i f I h λv u k x y H2 e j d q=>g pins k σ H2 x y v u Q e j d q)
def zbk{b:UnaryOp}{r:V->Hp->VK->Prop}(d:UnR X (unaryOp b) r)(g:PE X a ta):PE X (.UnaryOp b a pos) (tUn r ta):=by
 intro pins s σ H Q I h;exact UnaryOp_ (thn (g pins s σ H _ I h) λv f ⟨x,H1,c,e,q1⟩=>d pins f σ H1 x v Q c e q1)
def opI{f:Value->Value->Sem Value}{C:Int->Int->Prop}{g:Int->Int->Int}
  (rule:∀(i j:Int) (t u:Tok) (s:Shared) (Q:Value->Shared->Prop) (E:Value->Shared->Prop),C i j->Q (.int (g i j) s.toks) { s with toks:=s.toks+1 }->wpAny (model X.prog X.w) X.A (f (.int i t) (.int j u)) Q E s) :
  OpR X f (rI C λi j=>.int (g i j)):=by
 intro pins s σ H x y v u Q I c a h;obtain⟨i,j,rfl,rfl,b,q⟩:=h;obtain⟨t,rfl⟩:=c;obtain⟨t',rfl⟩:=a;exact rule i j t t' s _ _ b ⟨.int (g i j),H,I.tok _,⟨_,rfl⟩,q⟩
def ztn{f:Value->Value->Sem Value}{g:Int->Int->Int}
  (rule:∀(i j:Int) (t u:Tok) (s:Shared) (Q:Value->Shared->Prop) (E:Value->Shared->Prop),Q (.int (g i j) s.toks) { s with toks:=s.toks+1 }->wpAny (model X.prog X.w) X.A (f (.int i t) (.int j u)) Q E s) :
  OpR X f (rI0 λi j=>.int (g i j)):=by
 intro pins s σ H x y v u Q I b a h;obtain⟨i,j,rfl,rfl,q⟩:=h;obtain⟨t,rfl⟩:=b;obtain⟨t',rfl⟩:=a;exact rule i j t t' s _ _ ⟨.int (g i j),H,I.tok _,⟨_,rfl⟩,q⟩
def zps{f:Value->Value->Sem Value}{g:Int->Int->Bool}
  (rule:∀(i j:Int) (t u:Tok) (s:Shared) (Q:Value->Shared->Prop) (E:Value->Shared->Prop),Q (.bool (g i j)) s->wpAny (model X.prog X.w) X.A (f (.int i t) (.int j u)) Q E s) :
  OpR X f (rI0 λi j=>.bl (g i j)):=by
 intro pins s σ H x y v u Q I b a h;obtain⟨i,j,rfl,rfl,q⟩:=h;obtain⟨t,rfl⟩:=b;obtain⟨t',rfl⟩:=a;exact rule i j t t' s _ _ ⟨.bl (g i j),H,I,rfl,q⟩
noncomputable def zmK (i j:Int):Prop:=0<=j/\j<=1000000/\i.natAbs<2 ^ 64
def op_add:OpR X (binaryOp .Add) (rI0 λi j=>.int (i+j)):=ztn λ_ _ _ _ _ _ _ q=>add_int q
def zcb:OpR X (binaryOp .Sub) (rI0 λi j=>.int (i-j)):=ztn λ_ _ _ _ _ _ _ q=>sub_int q
def zrC:OpR X (binaryOp .Mod) (rI (λ_ j=>j≠0) λi j=>.int (i.fmod j)):=opI λ_ _ _ _ _ _ _ a q=>mod_int' a q
def zd4:OpR X (binaryOp .Pow) (rI zmK λi j=>.int (i ^ j.toNat)):=opI λ_ _ _ _ _ _ _ a q=>pow_int_small a.1 a.2.1 a.2.2 q
def unI{f:Value->Sem Value}{g:Int->Int}
  (rule:∀(i:Int) (t:Tok) (s:Shared) (Q:Value->Shared->Prop) (E:Value->Shared->Prop),Q (.int (g i) s.toks) { s with toks:=s.toks+1 }->wpAny (model X.prog X.w) X.A (f (.int i t)) Q E s) :
  UnR X f (rU λi=>.int (g i)):=by
 intro pins s σ H x v Q I a h;obtain⟨i,rfl,q⟩:=h;obtain⟨t,rfl⟩:=a;exact rule i t s _ _ ⟨.int (g i),H,I.tok _,⟨_,rfl⟩,q⟩
def za4:UnR X (unaryOp .USub) (rU λi=>.int (-i)):=unI λ_ _ _ _ _ q=>neg_int q
end
noncomputable def scal:V->V->Bool
 | .non,.non=>true | .non,.int _=>true | .int _,.non=>true | .non,.bl _=>true | .bl _,.non=>true | .non,.str _=>true | .str _,.non=>true
 | .int _,.int _=>true | .bl _,.bl _=>true | .str _,.str _=>true | .byt _,.byt _=>true
 | .int _,.str _=>true | .str _,.int _=>true | .bl _,.str _=>true | .str _,.bl _=>true
 | _,_=>false
noncomputable def rEq:R2:=λx y H Q=>scal x y=true/\Q (.bl (decide (x=y))) H
noncomputable def rNe:R2:=λx y H Q=>scal x y=true/\Q (.bl (!decide (x=y))) H
def zmk{i j:Int}:decide (V.int i=V.int j)=(i == j):=by
 rw[yba]
 simp
def znI{i j:Bool}:decide (V.bl i=V.bl j)=(i == j):=by
 rw[yba]
 simp
def zl1{i j:Str}:decide (V.str i=V.str j)=(i == j):=by
 rw[yba]
 simp
def zmb{i j:Array UInt8}:decide (V.byt i=V.byt j)=(i.toList == j.toList):=by
 rw[yba];cases i;cases j
 simp
section
variable {X:Cx}{a b c:Expr}{ta tb tc:TE}{pos:Pos}
def zZ{k a:Bool}(I:Inv X pins σ H s)(q:Q (.bl k) H)(e:k=a):EP X pins σ Q (.bool a) s:=by
 subst e;exact⟨.bl k,H,I,rfl,q⟩
def zuU:OpR X (compareOp .Eq) rEq:=by
 intro pins s σ H x y v u Q I c a h;obtain⟨b,q⟩:=h;cases x with
 | non=>
  cases c;cases y with
  | non=>cases a;exact PySem.EqNone.eq_none_none (zZ I q (by simp))
  | bl j=>cases a;exact PySem.EqNone.eq_none_bool (zZ I q (by simp))
  | int j=>obtain⟨t',rfl⟩:=a;exact PySem.EqNone.eq_none_int (zZ I q (by simp))
  | str j=>obtain⟨t',rfl⟩:=a;exact PySem.EqNone.eq_none_str (zZ I q (by simp))
  | _=>exact absurd (show false=true from b) yn
 | bl i=>
  cases c;cases y with
  | non=>cases a;exact PySem.EqNone.eq_bool_none (zZ I q (by simp))
  | bl j=>cases a;exact eq_bool (zZ I q znI)
  | str j=>obtain⟨t',rfl⟩:=a;exact PySem.EqMixed.eq_bool_str (zZ I q (by simp))
  | _=>exact absurd (show false=true from b) yn
 | int i=>
  obtain⟨t,rfl⟩:=c;cases y with
  | non=>cases a;exact PySem.EqNone.eq_int_none (zZ I q (by simp))
  | int j=>obtain⟨t',rfl⟩:=a;exact eq_int (zZ I q zmk)
  | str j=>obtain⟨t',rfl⟩:=a;exact PySem.EqMixed.eq_int_str (zZ I q (by simp))
  | _=>exact absurd (show false=true from b) yn
 | str i=>
  obtain⟨t,rfl⟩:=c;cases y with
  | non=>cases a;exact PySem.EqNone.eq_str_none (zZ I q (by simp))
  | bl j=>cases a;exact PySem.EqMixed.eq_str_bool (zZ I q (by simp))
  | int j=>obtain⟨t',rfl⟩:=a;exact PySem.EqMixed.eq_str_int (zZ I q (by simp))
  | str j=>obtain⟨t',rfl⟩:=a;exact eq_str (zZ I q zl1)
  | _=>exact absurd (show false=true from b) yn
 | byt i=>
  obtain⟨t,rfl⟩:=c;cases y with
  | byt j=>obtain⟨t',rfl⟩:=a;exact PySem.W.eq_bytes (zZ I q zmb)
  | _=>exact absurd (show false=true from b) yn
 | _=>cases y<;>exact absurd (show false=true from b) yn
def zuM:OpR X (compareOp .NotEq) rNe:=by
 intro pins s σ H x y v u Q I c a h;obtain⟨b,q⟩:=h;cases x with
 | non=>
  cases c;cases y with
  | non=>cases a;exact PySem.EqNone.ne_none_none (zZ I q (by simp))
  | bl j=>cases a;exact PySem.EqNone.ne_none_bool (zZ I q (by simp))
  | int j=>obtain⟨t',rfl⟩:=a;exact PySem.EqNone.ne_none_int (zZ I q (by simp))
  | str j=>obtain⟨t',rfl⟩:=a;exact PySem.EqNone.ne_none_str (zZ I q (by simp))
  | _=>exact absurd (show false=true from b) yn
 | bl i=>
  cases c;cases y with
  | non=>cases a;exact PySem.EqNone.ne_bool_none (zZ I q (by simp))
  | bl j=>cases a;exact ne_bool (zZ I q (congrArg not znI))
  | str j=>obtain⟨t',rfl⟩:=a;exact PySem.EqMixed.ne_bool_str (zZ I q (by simp))
  | _=>exact absurd (show false=true from b) yn
 | int i=>
  obtain⟨t,rfl⟩:=c;cases y with
  | non=>cases a;exact PySem.EqNone.ne_int_none (zZ I q (by simp))
  | int j=>obtain⟨t',rfl⟩:=a;exact ne_int (zZ I q (congrArg not zmk))
  | str j=>obtain⟨t',rfl⟩:=a;exact PySem.EqMixed.ne_int_str (zZ I q (by simp))
  | _=>exact absurd (show false=true from b) yn
 | str i=>
  obtain⟨t,rfl⟩:=c;cases y with
  | non=>cases a;exact PySem.EqNone.ne_str_none (zZ I q (by simp))
  | bl j=>cases a;exact PySem.EqMixed.ne_str_bool (zZ I q (by simp))
  | int j=>obtain⟨t',rfl⟩:=a;exact PySem.EqMixed.ne_str_int (zZ I q (by simp))
  | str j=>obtain⟨t',rfl⟩:=a;exact ne_str (zZ I q (congrArg not zl1))
  | _=>exact absurd (show false=true from b) yn
 | byt i=>
  obtain⟨t,rfl⟩:=c;cases y with
  | byt j=>obtain⟨t',rfl⟩:=a;exact PySem.W.ne_bytes (zZ I q (congrArg not zmb))
  | _=>exact absurd (show false=true from b) yn
 | _=>cases y<;>exact absurd (show false=true from b) yn
def zbY:OpR X (compareOp .Lt) (rI0 λi j=>.bl (decide (i<j))):=zps λ_ _ _ _ _ _ _ q=>lt_int q
def zbO:OpR X (compareOp .Gt) (rI0 λi j=>.bl (decide (j<i))):=zps λ_ _ _ _ _ _ _ q=>gt_int q
def zrz:OpR X (compareOp .GtE) (rI0 λi j=>.bl (decide (j<=i))):=zps λ_ _ _ _ _ _ _ q=>ge_int q
def zg7:OpR X (compareOp .Is) (λx y H Q=>y=.non/\Q (.bl (decide (x=.non))) H):=by
 intro pins s σ H x y v u Q I a b h;obtain⟨rfl,q⟩:=h;cases b;refine is_none_gen (zZ I q ?_);cases x<;>first
  | (cases a;rfl)
  | (obtain⟨t,rfl⟩:=a;rfl)
def zfR:OpR X (compareOp .IsNot) (λx y H Q=>y=.non/\Q (.bl (!decide (x=.non))) H):=by
 intro pins s σ H x y v u Q I a b h;obtain⟨rfl,q⟩:=h;cases b;refine isnot_none_gen (zZ I q ?_);cases x<;>first
  | (cases a;rfl)
  | (obtain⟨t,rfl⟩:=a;rfl)
def OpR.or{f:Value->Value->Sem Value}{r c:R2}(h:OpR X f r)(h':OpR X f c):OpR X f (λx y H Q=>r x y H Q\/c x y H Q):=by
 intro pins s σ H x y v u Q I b a q;rcases q with q | q
 ·exact h pins s σ H x y v u Q I b a q
 ·exact h' pins s σ H x y v u Q I b a q
def nomark(b:Expr){a:CmpOp}(h:autoParam (a≠.In) Internal.aut1._auto_1)(h2:autoParam (a≠.NotIn) Internal.aut1._auto_1):behindInMarks a b=false:=by
 have e1:(a == CmpOp.In)=false:=by cases a<;>first | rfl | exact absurd rfl h
 have e2:(a == CmpOp.NotIn)=false:=by cases a<;>first | rfl | exact absurd rfl h2
 cases b<;>simp[behindInMarks,e1,e2]
def zaJ{c:CmpOp}{r:R2}(g:OpR X (compareOp c) r)(i:PE X a ta)(f:PE X b tb)(j:behindInMarks c b=false):PE X (.Compare a [c] [b] pos) (tOp r ta tb):=by
 intro pins s σ H Q I h;exact wpAny_Compare1 (zqx i f I h λv u l x y H2 e k d q=>g pins l σ H2 x y v u Q e k d q) j
abbrev zuB(t:TE):TT:=λσ H Q=>t σ H λx H'=>∃k,x=.bl k/\Q k H'
def zw{d:CmpOp}{r:R2}(m:OpR X (compareOp d) r)(n:PE X a ta)(l:PE X b tb)(t:behindInMarks d b=false):PT X (.Compare a [d] [b] pos) (zuB (tOp r ta tb)):=by
 intro pins s σ H Q I h;refine wpAny_isTrue_Compare1 (thn (n pins s σ H _ I h) λv A ⟨x,H1,g,i,q1⟩=>thn (l pins A σ H1 _ g q1) λu B ⟨y,H2,f,j,q2⟩=>
  thn (m pins B σ H2 x y v u _ f i j q2) λc C ⟨z,p,q,w,k,e,o⟩=>?_) t
 subst e;cases w;exact wpAny_truthy_bool ⟨p,q,o⟩
noncomputable def zh2 (K:Fg) (x:V) (H:Hp) (k:Bool):Prop:=
 match x with
 | .non=>k=false
 | .bl b=>k=b
 | .int i=>k=(i != 0)
 | .str y=>y.length<=sizeLine/\k=((y.length:Int) != 0)
 | .byt y=>y.size<=sizeLine/\k=((y.size:Int) != 0)
 | .ref p=>(∃xs,SqL K H p xs/\k=!xs.isEmpty)\/(∃xs,SqT K H p xs/\k=!xs.isEmpty)\/∃kvs,H p=some (.dK kvs)/\k=!kvs.isEmpty
 | _=>False
def zm3{κ:Type}{kvs:List (κ × V)}{vs:List (κ × Value)}(r:KV kvs vs):(!vs.isEmpty)=!kvs.isEmpty:=by
 cases r<;>rfl
def zhG(r:Vals xs its):(!its.toArray.isEmpty)=!xs.isEmpty:=by
 cases r<;>simp
def line63:(sizeLine:Nat)<2 ^ 63:=by rw[sizeLine_eq];decide
def zpm:zvb X (λx H Q=>∃k,zh2 X.K x H k/\Q k H):=by
 intro pins s σ H x v Q I d h;obtain⟨k,e,q⟩:=h;have l:=line63;have n:sizeLine=16777216:=sizeLine_eq;cases x with
 | non=>
  cases d;have a:k=false:=e;subst a;exact truthy_none ⟨H,I,q⟩
 | bl b=>
  cases d;have a:k=b:=e;subst a;exact wpAny_truthy_bool ⟨H,I,q⟩
 | int i=>
  obtain⟨t,rfl⟩:=d;have a:k=(i != 0):=e;subst a;exact PySem.P.truthy_int ⟨H,I,q⟩
 | str y=>
  obtain⟨t,rfl⟩:=d;obtain⟨j,a⟩:y.length<=sizeLine/\k=((y.length:Int) != 0):=e;subst a;exact PySem.P.truthy_str ⋯ ⟨H,I.tok _,q⟩
 | byt y=>
  obtain⟨t,rfl⟩:=d;obtain⟨j,a⟩:y.size<=sizeLine/\k=((y.size:Int) != 0):=e;subst a;exact PySem.W.truthy_bytes ⋯ ⟨H,I.tok _,q⟩
 | ref p=>
  cases d;have a:(∃xs,SqL X.K H p xs/\k=!xs.isEmpty)\/(∃xs,SqT X.K H p xs/\k=!xs.isEmpty)\/∃kvs,H p=some (.dK kvs)/\k=!kvs.isEmpty:=e;rcases a with⟨xs,hx,a⟩ | ⟨xs,hx,a⟩ | ⟨kvs,hx,a⟩
  ·subst a;obtain⟨its,r,pl,f⟩:=I.list hx;have c:=r.length;exact wpAny_truthy_list pl.isList (by simp only[yl];lia) ⟨H,I.tok _,by rw[zhG r];exact q⟩
  ·subst a;obtain⟨its,r,pl,f⟩:=I.tuple hx;have c:=r.length;exact truthy_tuple pl (by simp only[yl];lia) ⟨H,I.tok _,by rw[zhG r];exact q⟩
  ·subst a;obtain⟨f,g,vs,r,m⟩:kvs.length<=sizeLine/\(p == sysModules)=false/\∃vs,KV kvs vs/\s.heap.DictOf (zic X.prog X.w) p vs:=I.hok p _ hx;have c:kvs.length=vs.length:=Paired.length r;exact wpAny_truthy_dict g m ⋯ ⟨H,I.tok _,by rw[zm3 r];exact q⟩
 | _=>exact(show False from e).elim
def zpV(f:PE X a ta)(b:∀whole,isTrue a X.env whole=(do let v <- whole;standAt a.pos;holding [v] (truthy v))) :
  PT X a (λσ H Q=>ta σ H λx H'=>∃k,zh2 X.K x H' k/\Q k H'):=by
 intro pins s σ H Q I h;exact isTrue_plain (thn (f pins s σ H _ I h) λv e ⟨x,H1,c,d,q1⟩=>zpm pins e σ H1 x v Q c d q1) (b _)
def vals1{x:V}(r:Vals [x] us):∃u,us=[u]/\RelV x u:=by
 cases r with
 | cons r1 r2=>cases r2;exact⟨_,rfl,r1⟩
def vals2{x:V}(r:Vals [x,y] us):∃u w',us=[u,w']/\RelV x u/\RelV y w':=by
 cases r with
 | cons r1 r2=>
  cases r2 with
  | cons r3 r4=>cases r4;exact⟨_,_,rfl,r1,r3⟩
def zqu:CallR X (.builtin "abs") (λxs H Q=>∃i,xs=[.int i]/\Q (.int (if i<0 then -i else i)) H):=by
 intro pins s σ H xs us Q I r h;obtain⟨i,rfl,q⟩:=h;obtain⟨u,rfl,t,rfl⟩:=vals1 r;exact call_abs_int λu tk=>⟨.int (if i<0 then -i else i),H,I.tok _,⟨_,rfl⟩,q⟩
def zon(b:X.calm=true):CallR X (.builtin "max") (λxs H Q=>∃i j,xs=[.int i,.int j]/\Q (.int (if j>i then j else i)) H):=by
 intro pins s σ H xs us Q I r h;obtain⟨i,j,rfl,q⟩:=h;obtain⟨u,c,rfl,⟨t,rfl⟩,⟨t',rfl⟩⟩:=vals2 r;refine max_two_ints (I.ok.hd b) λh' tk k=>⟨_,H,I.kept k,?_,q⟩
 by_cases a:j>i
 ·rw[if_pos a,if_pos a];exact⟨_,rfl⟩
 ·rw[if_neg a,if_neg a];exact⟨_,rfl⟩
def zoL(b:X.calm=true):CallR X (.builtin "min") (λxs H Q=>∃i j,xs=[.int i,.int j]/\Q (.int (if j<i then j else i)) H):=by
 intro pins s σ H xs us Q I r h;obtain⟨i,j,rfl,q⟩:=h;obtain⟨u,c,rfl,⟨t,rfl⟩,⟨t',rfl⟩⟩:=vals2 r;refine min_two_ints (I.ok.hd b) λh' tk k=>⟨_,H,I.kept k,?_,q⟩
 by_cases a:j<i
 ·rw[if_pos a,if_pos a];exact⟨_,rfl⟩
 ·rw[if_neg a,if_neg a];exact⟨_,rfl⟩
end
set_option genInjectivity false in
set_option genSizeOf false in
structure ObjM(h:Heap)(x dx C:Addr)(mA:Str->Option Value):Prop where
 obj:h.get? x=some (PySem.W.instObj C dx)
 ns:h.Ns1 dx mA
 ne:dx≠x
def zoC{mA:Str->Option Value}(n:h.Ns1 dx mA):∃od,h.get? dx=some od/\∀name,PySem.W.lookIn name od=some (mA name):=by
 obtain⟨o,es,j,d,hd,c,_,f⟩:=n;refine⟨o,d,λname=>?_⟩;have e:=f name;unfold nsFind findBy at e;rw[<- Array.find?_toList]at e;unfold PySem.W.lookIn;rw[hd];dsimp only;split
 ·rename_i y q;rw[q]at e;exact congrArg some e
 ·rename_i q;rw[q]at e;have a:es.toList.any (·.refKey)=false:=by
   rw[List.any_eq_false];intro y g;obtain⟨z,t,b⟩:=c y (Array.mem_toList_iff.mp g);simp[DictEntry.refKey,b]
  have i:¬es.toList.any (·.refKey)=true:=by rw[a];exact yn
  rw[if_neg i];exact congrArg some e
def ObjM.look{x:Addr}{mA:Str->Option Value}(I:ObjM h x dx C mA):∃od,PySem.W.InstAt h x (PySem.W.instObj C dx) C (some od)/\∀name,PySem.W.lookIn name od=some (mA name):=
 let ⟨od,ho,hl⟩:=zoC I.ns
 ⟨od,⟨I.obj,rfl,rfl,ho⟩,hl⟩
section
variable {prog:Program}{w:World}{A:Around}{E:Value->Shared->Prop}{s:Shared}{K:Fg}{x dx C f:Addr}{mA:Str->Option Value}{name:Str}{v:Value}
def zsQ{expr:Bool}{Q:Value->Shared->Prop}(X:K.In s.heap)(I:ObjM s.heap x dx C mA)(c:PySem.W.plainGet K C name=true)(b:PySem.W.hasDictIn K C=true)
  (ha:PySem.W.findIn K (.ref C) name=some none) (hv:mA name=some v) (hv':PySem.W.handedIn v=true) (h:Q v { s with toks:=s.toks+1 }) :
  wpAny (model prog w) A (getAttr (.ref x) name expr) Q E s:=by
 obtain⟨od,J,a⟩:=I.look;exact PySem.W.get_value X J (ybh c).1 (PySem.W.findObj_own b ha rfl (by rw[a,hv])) hv' h
def zpT{pl:Sem Bool}{Q:Value × List Value->Shared->Prop}(X:K.In s.heap)(I:ObjM s.heap x dx C mA)(a:PySem.W.plainGet K C name=true)
  (hf:PySem.W.findIn K (.ref C) name=some (some (.ref f))) (ht:PySem.W.isFn K (.ref f)=true) (hv:mA name=none) (h:Q (.ref f,[.ref x]) s) :
  wpAny (model prog w) A (getMethod (.ref x) name pl) Q E s:=by
 obtain⟨od,J,b⟩:=I.look;exact PySem.W.method_fn X J (ybh a).1 (ybh a).2 hf (beq_iff_eq.mp ht) (by show(PySem.W.lookIn name od).map (·.isSome)=some false;rw[b,hv];rfl) h
def zrZ{ns:List Str}{Q:Unit->Shared->Prop}(X:K.In s.heap)(I:ObjM s.heap x dx C mA)
  (hs:PySem.W.findIn K (.ref C) "__setattr__" = some (some (.builtin "object.__setattr__"))) (hp:PySem.W.plainOver K C=true) (ht:PySem.W.takerIn K C name=some none) (hh:PySem.W.hasDictIn K C=true)
  (hw:PySem.Within mA ns) (hsz:ns.length<=sizeLine)
  (h:∀h',ObjM h' x dx C (λy=>if y=name then some v else mA y)->Heap.SameBut dx s.heap h'->Q () { s with heap:=h',toks:=s.toks+2 }) :
  wpAny (model prog w) A (setAttr (.ref x) name v) Q E s:=by
 obtain⟨od,J,p⟩:=I.look;refine PySem.W.set_plain X J hs (PySem.W.osa_open (s:={ s with toks:=s.toks+1 }) (r:=none) X J hp ht λb=>?_);obtain⟨n,m,e⟩:=PySem.W.any_some hh;have j:s.heap.get? x=some ⟨.ref C,some dx,.plain,#[]⟩:=I.obj;refine wpAny_bind (wpAny_pure (wpAny_bind (wpAny_bind (wpAny_loadPart j (wpAny_bind (PySem.W.Looks.here (s:={ s with toks:=s.toks+1 }) (PySem.W.looks_clsIn X m) ?_))))));rw[e];refine wpAny_pure (a:=some dx) (wpAny_bind (wpAny_pure (wpAny_bind ?_)));refine wpAny_nsSet1 (s:={ s with toks:=s.toks+1 }) I.ns λh' d c=>?_;obtain⟨o,l,k,f,g,i⟩:=d.count (PySem.Within.cons name v hw);refine wpAny_bind (wpAny_lookBehind f (by rw[g];exact pastItsLine_dict (yc i (by rw[yE];lia))) ?_);exact wpAny_pure (h _ ⟨(c.2 _ (yaA I.ne)).trans I.obj,d,I.ne⟩ c)
def zlb{R:Result->Shared->Prop}{vs:List Value}{kw:List (Str × Value)}(X:K.In s.heap)(a:PySem.W.makesIn K C=true)
  (hi:PySem.W.findIn K (.ref C) "__init__" = some (some (.ref f))) (hf:PySem.W.typeIn K (.ref f)=some (.type "function"))
  (h:codeAny (model prog w) (A.under (.builtin "type.__call__" ⟨.ref C :: vs,kw⟩)) (.call (.ref f) ⟨.ref (s.heap.objs.size+1) :: vs,kw⟩) (PySem.W.InitBack (s.heap.objs.size+1) R)
   { s with heap:=(s.heap.push PySem.W.emptyDict).push (PySem.W.instObj C s.heap.objs.size) }) :
  codeAny (model prog w) A (.call (.ref C) ⟨vs,kw⟩) R s:=by
 obtain⟨b,g,d,t,os⟩:=s;exact PySem.W.make_core (PySem.W.makes_of X a) (ybb X hi) (λself=>PySem.W.bind_fn X self hf) (.inl rfl) h
end
noncomputable def zY (f:Str) (v:V):List (Str × V)->List (Str × V)
 | []=>[(f,v)]
 | (g,x) :: r=>if g=f then(g,v) :: r else(g,x) :: zY f v r
theorem zk(f g:Str)(v:V):∀fs:List (Str × V),(zY f v fs).lookup g=if g=f then some v else fs.lookup g
 | []=>by
  show List.lookup g [(f,v)]=_;by_cases h:g=f
  ·have a:(g == f)=true:=beq_iff_eq.mpr h;simp only[List.lookup,a,if_pos h]
  ·have a:(g == f)=false:=beq_eq_false_iff_ne.mpr h;simp only[List.lookup,a,if_neg h]
 | (k,x) :: r=>by
  have c:=zk f g v r;rw[show zY f v ((k,x) :: r)=(if k=f then(k,v) :: r else(k,x) :: zY f v r)from rfl];by_cases b:k=f
  ·rw[if_pos b];by_cases h:g=k
   ·have a:(g == k)=true:=beq_iff_eq.mpr h;simp only[List.lookup,a,if_pos (h.trans b)]
   ·have a:(g == k)=false:=beq_eq_false_iff_ne.mpr h;simp only[List.lookup,a,if_neg (λe:g=f=>h (e.trans b.symm))]
  ·rw[if_neg b];by_cases h:g=k
   ·have a:(g == k)=true:=beq_iff_eq.mpr h;simp only[List.lookup,a,if_neg (λe:g=f=>b (h.symm.trans e))]
   ·have a:(g == k)=false:=beq_eq_false_iff_ne.mpr h;simp only[List.lookup,a];exact c
theorem ze3(f:Str)(v:V):∀fs:List (Str × V),f∈(zY f v fs).map (·.1)/\∀g,g∈fs.map (·.1)->g∈(zY f v fs).map (·.1)
 | []=>⟨by simp[zY],λg h=>by simp at h⟩
 | (k,x) :: r=>by
  obtain⟨b,c⟩:=ze3 f v r;rw[show zY f v ((k,x) :: r)=(if k=f then(k,v) :: r else(k,x) :: zY f v r)from rfl];by_cases a:k=f
  ·rw[if_pos a];subst a;exact⟨by simp,λg h=>by simpa using h⟩
  ·rw[if_neg a];refine⟨?_,λg h=>?_⟩
   ·rw[yH];exact yJ _ b
   ·rw[yH]at h ⊢;rcases yt.mp h with e | e
    ·exact yt.mpr (.inl e)
    ·exact yJ _ (c g e)
theorem zo(f:Str)(v:V):∀fs:List (Str × V),(zY f v fs).length<=fs.length+1
 | []=>by simp[zY]
 | (k,x) :: r=>by
  have b:=zo f v r;rw[show zY f v ((k,x) :: r)=(if k=f then(k,v) :: r else(k,x) :: zY f v r)from rfl];by_cases a:k=f
  ·rw[if_pos a,yE,yE];lia
  ·rw[if_neg a,yE,yE];lia
def RelO.some_of{o:Option Value}(r:RelO (some v) o):∃u,o=some u/\RelV v u:=by
 cases o with
 | none=>exact(show False from r).elim
 | some u=>exact⟨u,rfl,r⟩
def RelO.none_of{o:Option Value}(r:RelO none o):o=none:=by
 cases o with
 | none=>rfl
 | some u=>exact(show False from r).elim
def zoo(r:RelV v u):PySem.W.handedIn u=true:=by
 cases v with
 | non=>cases(show u=Value.none from r);rfl
 | bl b=>cases(show u=Value.bool b from r);rfl
 | int i=>obtain⟨t,e⟩:=(show ∃t,u=Value.int i t from r);cases e;rfl
 | str x=>obtain⟨t,e⟩:=(show ∃t,u=Value.str x t from r);cases e;rfl
 | byt b=>obtain⟨t,e⟩:=(show ∃t,u=Value.bytes b t from r);cases e;rfl
 | flt b=>obtain⟨t,e⟩:=(show ∃t,u=Value.float b t from r);cases e;rfl
 | ref a=>cases(show u=Value.ref a from r);rfl
 | ty n=>cases(show u=Value.type n from r);rfl
section
variable {P:Program}{w:World}{H H':Hp}{h h':Heap}{a C dx:Addr}{fs fs':List (Str × V)}
def zfJ(hok:HOk P w H h)(e:H a=some (.ins C dx fs)):∃mA,ObjM h a dx C mA/\(∀f,RelO (fs.lookup f) (mA f))/\PySem.Within mA (fs.map (·.1))/\fs.length<=1000/\H dx=some (.own a):=by
 obtain⟨d,z,ne,ob,mA,n,r,q⟩:=(show ObjOk P w H h a (.ins C dx fs)from hok a _ e)
 exact⟨mA,⟨ob,n,ne⟩,r,q,z,d⟩
end
set_option genInjectivity false in
set_option genSizeOf false in
structure Cls(K:Fg)(C:Addr):Prop where
 pg:PySem.W.plainGet K C Str.empty=true
 hd:PySem.W.hasDictIn K C=true
 po:PySem.W.plainOver K C=true
 sa:PySem.W.findIn K (.ref C) "__setattr__" = some (some (.builtin "object.__setattr__"))
def Cls.get(c:Cls K C)(f:Str):PySem.W.plainGet K C f=true:=c.pg
noncomputable def NoAttr (K:Fg) (C:Addr) (f:Str):Prop:=PySem.W.findIn K (.ref C) f=some none
def NoAttr.taker{f:Str}(n:NoAttr K C f):PySem.W.takerIn K C f=some none:=by
 unfold PySem.W.takerIn;rw[show PySem.W.findIn K (.ref C) f=some none from n];rfl
set_option genInjectivity false in
set_option genSizeOf false in
structure Con(K:Fg)(C:Addr)(f:Str)(v:V)(u:Value):Prop where
 at_:PySem.W.findIn K (.ref C) f=some (some u)
 rel:RelV v u
 get:PySem.W.specialIn K u "__get__" = some none
 cp:PySem.W.copiedNames.contains f=false
set_option genInjectivity false in
set_option genSizeOf false in
structure Meth(K:Fg)(C:Addr)(m:Str)(f:Addr):Prop where
 at_:PySem.W.findIn K (.ref C) m=some (some (.ref f))
 fn:PySem.W.isFn K (.ref f)=true
 kp:PySem.W.keepIn K (.ref f)=true
section
variable {X:Cx}{pins:List (Addr × Obj)}{σ:St}{H:Hp}{s:Shared}{a C dx:Addr}{fs:List (Str × V)}{f:Str}{v:V}{A:Around}{E:Value->Shared->Prop}
def zhA{b:Bool}{Q:Value->Shared->Prop}(I:Inv X pins σ H s)(e:H a=some (.ins C dx fs))(c:Cls X.K C)(n:NoAttr X.K C f)(l:fs.lookup f=some v)
  (h:∀u s',Inv X pins σ H s'->RelV v u->Q u s'):wpAny (model X.prog X.w) A (getAttr (.ref a) f b) Q E s:=by
 obtain⟨mA,O,r,_,_,_⟩:=zfJ I.hok e;obtain⟨u,d,ru⟩:=RelO.some_of (v:=v) (o:=mA f) (by rw[<- l];exact r f);exact zsQ I.kIn O (c.get f) c.hd n d (zoo ru) (h u _ (I.tok _) ru)
def zeC{m:Str}{g:Addr}{pl:Sem Bool}{Q:Value × List Value->Shared->Prop}(I:Inv X pins σ H s)(e:H a=some (.ins C dx fs))(c:Cls X.K C)(k:Meth X.K C m g)(l:fs.lookup m=none)
  (h:Q (.ref g,[.ref a]) s):wpAny (model X.prog X.w) A (getMethod (.ref a) m pl) Q E s:=by
 obtain⟨mA,O,r,_,_,_⟩:=zfJ I.hok e;have hn:mA m=none:=RelO.none_of (by rw[<- l];exact r m);exact zpT I.kIn O (c.get m) k.at_ k.fn hn h
def zgU{Q:Unit->Shared->Prop}(I:Inv X pins σ H s)(e:H a=some (.ins C dx fs))(c:Cls X.K C)(n:NoAttr X.K C f)(t:fs.length<1000)(k:RelV y u)
  (h:∀s',Inv X pins σ (upd H a (.ins C dx (zY f y fs))) s'->Q () s'):wpAny (model X.prog X.w) A (setAttr (.ref a) f u) Q E s:=by
 obtain⟨mA,O,r,wi,_,i⟩:=zfJ I.hok e;have m:(fs.map (·.1)).length<=sizeLine:=by rw[yb,sizeLine_eq];lia
 refine zrZ I.kIn O c.sa c.po n.taker c.hd wi m λh' d j=>h _ ?_;have hd:∃o,h'.get? dx=some o:=let ⟨o,_,_,e',_⟩:=d.ns;⟨o,e'⟩;refine I.write (x:=a) (e:=dx) (by rw[e];exact True.intro) (.inr i) (λb q l z=>(j.2 b l).trans z) hd ?_;refine⟨by rw[zG O.ne];exact i,?_,O.ne,d.obj,_,d.ns,λg=>?_,λg p=>?_⟩
 ·have:=zo f y fs;lia
 ·show RelO ((zY f y fs).lookup g) (if g=f then some u else mA g);rw[zk];by_cases q:g=f
  ·rw[if_pos q,if_pos q];exact k
  ·rw[if_neg q,if_neg q];exact r g
 ·by_cases q:g=f
  ·rw[q];exact(ze3 f y fs).1
  ·refine(ze3 f y fs).2 g (wi g λz=>p ?_)
   show(if g=f then some u else mA g)=none
   rw[if_neg q];exact z
def Inv.made(I:Inv X pins σ H s):Inv X pins σ (upd (upd H s.heap.objs.size (.own (s.heap.objs.size+1))) (s.heap.objs.size+1) (.ins C s.heap.objs.size []))
  { s with heap:=(s.heap.push PySem.W.emptyDict).push (PySem.W.instObj C s.heap.objs.size) }:=by
 have e1:(s.heap.push PySem.W.emptyDict).get? s.heap.objs.size=some PySem.W.emptyDict:=Heap.get?_push_size s.heap rfl;have e2:((s.heap.push PySem.W.emptyDict).push (PySem.W.instObj C s.heap.objs.size)).get? (s.heap.objs.size+1)=some (PySem.W.instObj C s.heap.objs.size):=by
  have:=Heap.get?_push_size (s.heap.push PySem.W.emptyDict) (o:=PySem.W.instObj C s.heap.objs.size) rfl
  rwa [Heap.size_push]at this
 have g:(s.heap.push PySem.W.emptyDict).Ns s.heap.objs.size (λ_=>none):=⟨PySem.W.emptyDict,#[],_,e1,rfl,(λe c=>absurd c (by simp)),λ_=>rfl⟩
 have d:=I.laid (a:=s.heap.objs.size) (o:=.own (s.heap.objs.size+1)) (h':=s.heap.push PySem.W.emptyDict) (t':=s.toks) (λb u q=>Heap.get?_push_of_some _ q) (yh _) ⟨_,e1⟩;refine d.laid (a:=s.heap.objs.size+1) (o:=.ins C s.heap.objs.size []) (t':=s.toks) (λb u q=>Heap.get?_push_of_some _ q) (ybx (Heap.size_push _ _)) ?_;have ne:s.heap.objs.size≠s.heap.objs.size+1:=yo (y9 _);refine⟨by rw[zG ne,zF],yI _,ne,e2,λ_=>none,(Heap.Ns1.of_empty g).at λo q=>Heap.get?_push_of_some _ q,λ_=>True.intro,λy f=>absurd rfl f⟩
def zrO{prog:Program}{w:World}{env:Env}{f:Str}{pos:Pos}{s:Shared}{Q:Value->Shared->Prop}(a:attributeBase e f env (eval e env)=eval e env)
  (h:wpAny (model prog w) A (eval e env) (λo b=>wpAny (model prog w) A (getAttr o f true) Q E b) E s):wpAny (model prog w) A (eval (.Attribute e f pos) env) Q E s:=
 Attribute_any_ h (by rw[arm_eval_Attribute,a])
end
noncomputable def zae (K:Fg) (ta:TE) (f:Str):TE:=λσ H Q=>ta σ H λx H1=>∃a C dx fs v,x=.ref a/\H1 a=some (.ins C dx fs)/\Cls K C/\NoAttr K C f/\fs.lookup f=some v/\Q v H1
noncomputable def zbv (K:Fg) (ta tv:TE) (f:Str):TS:=λD σ H=>tv σ H λy H1=>ta σ H1 λx H2=>∃a C dx fs,x=.ref a/\H2 a=some (.ins C dx fs)/\Cls K C/\NoAttr K C f/\fs.length<1000 /\
 D.nx σ (upd H2 a (.ins C dx (zY f y fs)))
noncomputable def zp9 (X:Cx) (b:Operator) (a:V->V->Hp->VK->Prop):Prop:=
 ∀(pins:List (Addr × Obj)) (s:Shared) (σ:St) (H:Hp) (x y:V) (u v:Value) (Q:VK),Inv X pins σ H s->RelV x u->RelV y v->a x y H Q->wpAny (model X.prog X.w) X.A (inplaceOp b u v) (EP X pins σ Q) X.xe s
noncomputable def zdW (K:Fg) (ta tv:TE) (c:V->V->Hp->VK->Prop) (f:Str):TS:=λD σ H=>ta σ H λx H1=>∃a C dx fs v,x=.ref a/\H1 a=some (.ins C dx fs)/\Cls K C/\NoAttr K C f/\fs.lookup f=some v /\
 tv σ H1 λy H2=>c v y H2 λz b=>∃dx' fs',b a=some (.ins C dx' fs')/\fs'.length<1000/\D.nx σ (upd b a (.ins C dx' (zY f z fs')))
section
variable {X:Cx}{o e value:Expr}{f:Str}{pos pos' tpos:Pos}{ta tv:TE}
def zL(j:PE X e ta)(i:attributeBase e f X.env (eval e X.env)=eval e X.env):PE X (.Attribute e f pos) (zae X.K ta f):=by
 intro pins s σ H Q I h;refine zrO i (thn (j pins s σ H _ I h) λu p m=>?_);obtain⟨x,H1,b,k,a,C,dx,fs,v,ex,g,c,n,l,q⟩:=m;subst ex;obtain rfl:u=Value.ref a:=k;exact zhA b g c n l λo r d ru=>⟨v,H1,d,ru,q⟩
def zaZ(j:PE X o ta)(k:PE X value tv)(v:swapsWith value (some (.Attribute o f pos')) pos.line X.env=pure false):PS X (.Assign [.Attribute o f pos'] value pos) (zbv X.K ta tv f):=by
 intro pins s σ H D I h;refine plainObj_wpAny_Assign_Attribute (thn (k pins s σ H _ I h) λu r ⟨y,H1,g,b,q⟩=>thn (j pins r σ H1 _ g q) λd z t=>?_) v;obtain⟨x,H2,e,p,a,C,dx,fs,ex,i,c,n,l,q2⟩:=t;subst ex;obtain rfl:d=Value.ref a:=p;exact zgU e i c n l b λw m=>⟨σ,_,m,q2⟩
def zfg{g:Operator}{i:V->V->Hp->VK->Prop}(m:PE X o ta)(M:PE X value tv)(d:zp9 X g i):PS X (.AugAssign (.Attribute o f tpos) g value pos) (zdW X.K ta tv i f):=by
 intro pins s σ H D I h;refine wpAny_AugAssign_AttributeAny (thn (m pins s σ H _ I h) λA S b=>?_);obtain⟨x,H1,k,N,a,C,dx,fs,v,ex,J,c,n,l,q⟩:=b;subst ex;obtain rfl:A=Value.ref a:=N;refine zhA k J c n l λu O j ru=>thn (M pins O σ H1 _ j q) λP r ⟨y,H2,t,B,L⟩=>thn (d pins r σ H2 v y u P _ t ru B L) λT U b=>?_;obtain⟨z,R,E,w,G,fs',e,l',F⟩:=b;exact zgU E e c n l' w λQ p=>⟨σ,_,p,F⟩
noncomputable def zvk:V->V->Hp->VK->Prop:=λx y H Q=>∃i j,x=.int i/\y=.int j/\Q (.int (i+j)) H
noncomputable def zvs:V->V->Hp->VK->Prop:=λx y H Q=>∃i j,x=.int i/\y=.int j/\Q (.int (i-j)) H
def znJ:zp9 X .Add zvk:=by
 rintro pins s σ H x y u v Q I b a ⟨i,j,rfl,rfl,q⟩;obtain⟨t,rfl⟩:=(show ∃t,u=Value.int i t from b)
 obtain⟨t',rfl⟩:=(show ∃t',v=Value.int j t' from a)
 exact PyProof.Rows.iadd_int ⟨.int (i+j),H,I.tok _,⟨_,rfl⟩,q⟩
def zun:zp9 X .Sub zvs:=by
 rintro pins s σ H x y u v Q I b a ⟨i,j,rfl,rfl,q⟩;obtain⟨t,rfl⟩:=(show ∃t,u=Value.int i t from b)
 obtain⟨t',rfl⟩:=(show ∃t',v=Value.int j t' from a)
 exact PyProof.Rows.isub_int ⟨.int (i-j),H,I.tok _,⟨_,rfl⟩,q⟩
end
section
variable {X:Cx}{pins:List (Addr × Obj)}{σ:St}{H:Hp}{s:Shared}{A:Around}{E:Value->Shared->Prop}{Q:Value->Shared->Prop}{c:Value}{b:Bool}
inductive TyOf(K:Fg)(H:Hp):V->Value->Prop where
 | non:TyOf K H .non (.type "NoneType")
 | bl (x:Bool):TyOf K H (.bl x) (.type "bool")
 | int (i:Int):TyOf K H (.int i) (.type "int")
 | str (x:Str):TyOf K H (.str x) (.type "str")
 | flt (x:UInt64):TyOf K H (.flt x) (.type "float")
 | lst {a:Addr} {xs:List V} (e:H a=some (.lst xs)):TyOf K H (.ref a) (.type "list")
 | frz {a:Addr} {o:Obj} {xs:List V} (e:H a=some (.frz o (.lst xs))):TyOf K H (.ref a) (.type "list")
 | tup {a:Addr} {xs:List V} (e:H a=some (.tup xs)):TyOf K H (.ref a) (.type "tuple")
 | dK {a:Addr} {kvs:List (Key × V)} (e:H a=some (.dK kvs)):TyOf K H (.ref a) (.type "dict")
 | dT {a:Addr} {kvs:List (List Key × V)} (e:H a=some (.dT kvs)):TyOf K H (.ref a) (.type "dict")
 | ins {a C dx:Addr} {fs:List (Str × V)} (e:H a=some (.ins C dx fs)) (cl:Cls K C) (ha:PySem.W.findIn K (.ref C) "__class__" = some (some (.builtin "object.__class__")))
   (hn:PySem.W.specialIn K (.builtin "object.__class__") "__get__" = some (some (.builtin "getset_descriptor.__get__"))) (htk:PySem.W.takesIn K (.builtin "object.__class__")=some true)
   (hm:PySem.W.mroIn K C (.type "object")=some true):TyOf K H (.ref a) (.ref C)
def zoD{x:V}{t:Value}(I:Inv X pins σ H s)(d:RelV x u)(ty:TyOf X.K H x t)(e:PySem.W.kitOne X.K t c=some b)(h:∀tk,Q (.bool b) { s with toks:=tk }) :
  wpAny (model X.prog X.w) A (call (.builtin "isinstance") [u,c]) Q E s:=by
 cases ty with
 | non=>cases(show u=Value.none from d);exact yV PySem.W.kitx_none I.kIn True.intro e (λz=>nomatch z) h
 | bl y=>cases(show u=Value.bool y from d);exact yV PySem.W.kitx_bool I.kIn True.intro e (λz=>nomatch z) h
 | int i=>obtain⟨t,q⟩:=(show ∃t,u=Value.int i t from d);cases q;exact yV PySem.W.kitx_int I.kIn True.intro e (λz=>nomatch z) h
 | str y=>obtain⟨t,q⟩:=(show ∃t,u=Value.str y t from d);cases q;exact yV PySem.W.kitx_str I.kIn True.intro e (λz=>nomatch z) h
 | flt y=>obtain⟨t,q⟩:=(show ∃t,u=Value.float y t from d);cases q;exact yV PySem.W.kitx_float I.kIn True.intro e (λz=>nomatch z) h
 | @lst a xs ea=>
  cases(show u=Value.ref a from d)
  obtain⟨_,_,n,_,h1⟩:=(show ObjOk X.prog X.w H s.heap a (.lst xs)from I.hok a _ ea)
  exact yV ybu I.kIn ⟨_,h1,rfl⟩ e (λz=>nomatch z) h
 | @frz a ob xs ea=>
  cases(show u=Value.ref a from d)
  obtain⟨_,_,_,n,_,h1⟩:=(show ObjOk X.prog X.w H s.heap a (.frz ob (.lst xs))from I.hok a _ ea)
  exact yV ybu I.kIn ⟨_,h1,rfl⟩ e (λz=>nomatch z) h
 | @tup a xs ea=>
  cases(show u=Value.ref a from d)
  obtain⟨_,_,_,p⟩:=(show ObjOk X.prog X.w H s.heap a (.tup xs)from I.hok a _ ea)
  obtain⟨o,h1,h2,_⟩:=p;exact yV PySem.W.kitx_tuple I.kIn ⟨o,h1,h2⟩ e (λz=>nomatch z) h
 | @dK a kvs ea=>
  cases(show u=Value.ref a from d)
  obtain⟨_,_,vs,_,p⟩:=(show ObjOk X.prog X.w H s.heap a (.dK kvs)from I.hok a _ ea)
  obtain⟨o,es,f,h1,h2,_⟩:=p;exact yV PySem.W.kitx_dict I.kIn ⟨o,h1,h2.1⟩ e (λz=>nomatch z) h
 | @dT a kvs ea=>
  cases(show u=Value.ref a from d)
  obtain⟨_,_,xs,_,o,es,f,h1,h2,_⟩:=(show ObjOk X.prog X.w H s.heap a (.dT kvs)from I.hok a _ ea)
  exact yV PySem.W.kitx_dict I.kIn ⟨o,h1,h2.1⟩ e (λz=>nomatch z) h
 | @ins a C dx fs ea cl ha hn htk hm=>
  cases(show u=Value.ref a from d)
  obtain⟨mA,O,_⟩:=zfJ I.hok ea;obtain⟨od,J,_⟩:=O.look;exact yV (PySem.W.kitx_own (cl.get _) cl.hd ha hn htk hm) I.kIn J e (λz=>nomatch z) h
end
set_option genInjectivity false in
set_option genSizeOf false in
structure Room(k:Nat)(A:Around):Prop where
 hd:A.handled=none
 dp:A.depth+3*k+5<recursionLimit
 un:A.units+16*k+200<cLine
def Room.mono(r:Room k A)(h:j<=k):Room j A:=⟨r.hd,by have:=r.dp;lia,by have:=r.un;lia⟩
theorem Room.deeper{k:Nat}{A:Around}(r:Room (k+1) A)(env:Env):Room k (A.deeper env):=
 ⟨r.hd,by have:=r.dp;show A.depth+1+3*k+5<_;lia,by have:=r.un;show A.units+3+16*k+200<_;lia⟩
def znn{kw:List (Str × Value)}:(A.under (.builtin "type.__call__" ⟨.ref C :: us,kw⟩)).depth=A.depth+1:=by
 first | rfl | simp[Around.under,Code.weight,Code.isCreation,Code.isGuard,Code.isCaller,Code.frames,Code.isFrame,guardIds]
def zne{kw:List (Str × Value)}:(A.under (.builtin "type.__call__" ⟨.ref C :: us,kw⟩)).units=A.units+1:=by
 first | rfl | simp[Around.under,Code.cUnits,Code.frames,Code.isFrame]
def Room.make(r:Room (k+1) A)(C:Addr)(us:List Value)(kw:List (Str × Value)):Room k (A.under (.builtin "type.__call__" ⟨.ref C :: us,kw⟩)):=
 ⟨r.hd,by have:=r.dp;rw[znn];lia,by have:=r.un;rw[zne];lia⟩
theorem Room.depth{k:Nat}{A:Around}(r:Room k A):A.depth<recursionLimit:=by have:=r.dp;lia
theorem Room.units{k:Nat}{A:Around}(r:Room k A):A.units+64<cLine:=by have:=r.un;lia
abbrev zfE:TA:=λ_ H Q=>Q [] H
abbrev zj3(ta:TE)(tr:TA):TA:=λσ H Q=>ta σ H λx H1=>tr σ H1 λxs H2=>Q (x :: xs) H2
section
variable {X:Cx}{e:Expr}{es:List Expr}{te:TE}{t:TA}{pos:Pos}
def zd:PA X [] zfE:=λ_ _ _ _ H Q I h=>Calls.spliced_nil ⟨[],H,I,.nil,h⟩
def za(g:PE X e te)(f:PA X es t)(k:autoParam (starEach (e :: es) X.env=(false,eval e X.env) :: starEach es X.env) Internal.aut2._auto_1):PA X (e :: es) (zj3 te t):=by
 intro pos pins s σ H Q I h;rw[k];show wpAny _ _ (spliced ((false,eval e X.env) :: backTo pos (starEach es X.env))) _ _ s;refine Calls.spliced_cons (thn (g pins s σ H _ I h) λu j i=>?_);obtain⟨x,H1,b,c,q1⟩:=i;exact thn (f pos pins j σ H1 _ b q1) λus l ⟨xs,H2,a,d,q2⟩=>⟨x :: xs,H2,a,.cons c d,q2⟩
noncomputable def zur (t:TA):TE:=λσ H Q=>t σ H λxs H1=>xs.length<=sizeLine/\∀p,H1 p=none->Q (.ref p) (upd H1 p (.tup xs))
noncomputable def zsU (t:TA):TE:=λσ H Q=>t σ H λxs H1=>xs.length<=sizeLine/\∀p,H1 p=none->Q (.ref p) (upd H1 p (.lst xs))
def zE{x1}(h:PA X es t):PE X (.Tuple es x1 pos) (zur t):=by
 intro pins s σ H Q I d;refine wpAny_Tuple_spliced (thn (h pos pins s σ H _ I d) λus a ⟨xs,H1,c,r,z,q⟩=>⟨by rw[<- r.length];exact z,?_⟩);have f:H1 a.heap.objs.size=none:=c.hok.fresh (yh _);refine⟨.ref a.heap.objs.size,upd H1 a.heap.objs.size (.tup xs),c.laid (t':=a.toks) (λb u e=>Heap.get?_push_of_some _ e) (yh _) ?_,rfl,q _ f⟩;exact⟨z,us,r,⟨_,Heap.get?_push_size _ rfl,rfl,_,rfl⟩⟩
def zK(h:PA X es t):PE X (.List es pos) (zsU t):=by
 intro pins s σ H Q I d;refine wpAny_List_spliced (thn (h pos pins s σ H _ I d) λus a ⟨xs,H1,c,r,z,q⟩=>⟨by rw[<- r.length];exact z,?_⟩);have f:H1 a.heap.objs.size=none:=c.hok.fresh (yh _);refine⟨.ref a.heap.objs.size,upd H1 a.heap.objs.size (.lst xs),c.laid (t':=a.toks) (λb u e=>Heap.get?_push_of_some _ e) (yh _) ?_,rfl,q _ f⟩;exact⟨z,us,0,r,Heap.get?_push_size _ rfl⟩
end
abbrev Sp:=List V->Hp->VK->XK->Prop
abbrev CXT:=List Env->Hp->Shared->XK->Value->Shared->Prop
set_option genInjectivity false in
set_option genSizeOf false in
structure Env0(P:Program)(w:World)(K:Fg)(mg:Str->Option Value)(base:Heap)(A:Around)(outer:List Env)(s:Shared)(H:Hp):Prop where
 frames:A.frames=some outer
 mod:Mod K mg base
 bs:∀b o,base.get? b=some o->s.heap.get? b=some o/\H b=none
 bsz:base.objs.size<=s.heap.objs.size
 funs:s.heap.FunFrames base outer
 frf:∀b∈frs outer,H b=none
 hok:HOk P w H s.heap
 bare:AllBare s.gens
noncomputable def CE (outer:List Env) (P:Program) (w:World) (H:Hp) (s:Shared) (Q:VK) (u:Value) (s':Shared):Prop:=
 ∃v H',s'.os=s.os/\AllBare s'.gens/\Un (frs outer) [] H H' s.heap s'.heap/\HOk P w H' s'.heap/\RelV v u/\Q v H'
noncomputable def CR (CX:CXT) (outer:List Env) (P:Program) (w:World) (H:Hp) (s:Shared) (Q:VK) (E:XK) (r:Result) (s':Shared):Prop:=
 match r with
 | .ok (.ret u)=>CE outer P w H s Q u s'
 | .ok _=>False
 | .error e=>CX outer H s E e s'
set_option genInjectivity false in
set_option genSizeOf false in
structure FnOk(P:Program)(w:World)(K:Fg)(mg:Str->Option Value)(base:Heap)(CX:CXT)(k:Nat)(f:Addr)(fd:FuncData)(ps:List Str)(sp:Sp):Prop where
 len:∀vs H Q E,sp vs H Q E->vs.length=ps.length
 run:∀(A:Around) (outer:List Env) (s:Shared) (H:Hp) (args:Args) (us:List Value) (vs:List V) (Q:VK) (E:XK),Room k A->Env0 P w K mg base A outer s H->BindsTo s fd args (ps.zip us)->Vals vs us->sp vs H Q E ->
  codeAny (model P w) A (.call (.ref f) args) (CR CX outer P w H s Q E) s
def Env0.make(e:Env0 P w K mg base A outer s H)(C:Addr)(us:List Value)(kw:List (Str × Value)) :
  Env0 P w K mg base (A.under (.builtin "type.__call__" ⟨.ref C :: us,kw⟩)) outer s H:=⟨by first | exact e.frames | (simpa[Around.under,Code.envs,Code.isFrame,pushEnvs]using e.frames),e.mod,e.bs,e.bsz,e.funs,e.frf,e.hok,e.bare⟩
theorem Env0.in1{P:Program}{w:World}{K:Fg}{mg:Str->Option Value}{base:Heap}{A:Around}{outer:List Env}{s:Shared}{H:Hp}(e:Env0 P w K mg base A outer s H) :
  Env0 P w K mg base A.in1 outer s H:=⟨e.frames,e.mod,e.bs,e.bsz,e.funs,e.frf,e.hok,e.bare⟩
section
variable {X:Cx}{pins:List (Addr × Obj)}{σ:St}{H:Hp}{s s':Shared}
def Inv.env0(I:Inv X pins σ H s):Env0 X.prog X.w X.K X.mg X.base X.A X.stack s H:=
 ⟨I.ok.frames,I.ok.mod,I.bs,yc I.ok.bsz I.sz,I.stack,I.stkFree,I.hok,I.bare⟩
def Inv.after(I:Inv X pins σ H s)(h:CE X.stack X.prog X.w H s Q u s'):EP X pins σ Q u s':=by
 obtain⟨v,H',os,bare,un,hok,r,q⟩:=h;obtain⟨c,g,d,t,a⟩:=s';obtain rfl:a=s.os:=os;exact⟨v,H',I.call (h':=c) (g':=g) (d':=d) (t':=t) (ch:=[]) un hok bare (λb z=>absurd z (by simp)),r,q⟩
end
noncomputable def zhm (sp:Sp) (dvs:List V) (E:XK) (t:TA):TE:=λσ H Q=>t σ H λvs H1=>sp (vs++dvs) H1 Q E
noncomputable def znC (C:Addr) (m:Str) (sp:Sp) (dvs:List V) (E:XK) (ta:TE) (t:TA):TE:=λσ H Q=>ta σ H λx H1=>∃a dx fs,x=.ref a/\H1 a=some (.ins C dx fs)/\fs.lookup m=none /\
 t σ H1 λvs H2=>sp (x :: (vs++dvs)) H2 Q E
noncomputable def zq7 (C:Addr) (sp:Sp) (dvs:List V) (E:XK) (t:TA):TE:=λσ H Q=>t σ H λvs H1=>∀x dx,H1 x=none->H1 dx=none->dx≠x ->
 sp (.ref x :: (vs++dvs)) (upd (upd H1 dx (.own x)) x (.ins C dx [])) (λv H2=>v=.non/\Q (.ref x) H2) E
noncomputable def Binds (K:Fg) (fd:FuncData) (ps:List Str) (ds:List Value):Prop:=
 ∀(s:Shared) (us:List Value),K.In s.heap->(us++ds).length=ps.length->BindsTo s fd ⟨us,[]⟩ (ps.zip (us++ds))
def Binds.all(h:∀us:List Value,us.length=ps.length->bindArgs fd ⟨us,[]⟩=pure (ps.zip us)):Binds K fd ps []:=λs us _ a=>by
 rw[y6]at a ⊢;exact .of_eq (h us a)
noncomputable def zcH (CX:CXT) (X:Cx) (E:XK):Prop:=∀(pins:List (Addr × Obj)) (σ:St) (H:Hp) (s:Shared) (e:Value) (s':Shared),Inv X pins σ H s->CX X.stack H s E e s'->X.xe e s'
section
variable {X:Cx}{CX:CXT}{k:Nat}{f C:Addr}{fd:FuncData}{ps:List Str}{sp:Sp}{dvs:List V}{ds:List Value}{E:XK}{x m:Str}{p pos apos:Pos}{e o:Expr}{es:List Expr}{ta:TE}{t:TA}
def zkZ{pins:List (Addr × Obj)}{σ:St}{H:Hp}{s:Shared}{Q:VK}{us:List Value}{vs:List V}(F:FnOk X.prog X.w X.K X.mg X.base CX k f fd ps sp)(d:Room k X.A)(i:Binds X.K fd ps ds)(hd:Vals dvs ds)(c:zcH CX X E)
  (I:Inv X pins σ H s) (r:Vals vs us) (h:sp (vs++dvs) H Q E):wpAny (model X.prog X.w) X.A (call (.ref f) us) (EP X pins σ Q) X.xe s:=by
 have b:Vals (vs++dvs) (us++ds):=r.append hd;have g:(us++ds).length=ps.length:=by rw[<- b.length];exact F.len _ _ _ _ h
 refine wpAny_call (codeAny_mono (F.run X.A X.stack s H ⟨us,[]⟩ (us++ds) (vs++dvs) Q E d I.env0 (i s us I.kIn g) b h) λr s' a=>?_);cases r with
 | error e=>exact c pins σ H s e s' I a
 | ok fl=>
  cases fl with
  | ret u=>exact I.after a
  | next=>exact False.elim a
  | brk=>exact False.elim a
  | cont=>exact False.elim a
def zh5(F:FnOk X.prog X.w X.K X.mg X.base CX k f fd ps sp)(d:Room k X.A)(i:Gl X x)(j:X.mg x=some (.ref f))(b:PySem.W.keepIn X.K (.ref f)=true)(g:Binds X.K fd ps ds)(hd:Vals dvs ds)(c:zcH CX X E)
  (ha:PA X (e :: es) t) (hdb:autoParam ((x == ("__debug__" : Str))=false) Internal.aut1._auto_1) (he:autoParam (starEach (e :: es) X.env=(false,eval e X.env) :: starEach es X.env) Internal.aut2._auto_1) (hpl:autoParam ((backTo pos (starEach es X.env)).any (·.1)=false) Internal.aut2._auto_1) :
  PE X (.Call (.Name x p) (e :: es) [] pos) (zhm sp dvs E t):=by
 intro pins s σ H Q I h;refine wpAny_Call_Name_kw (zcX I i j ?_ hdb);refine yaB (h₀:=X.base) I.ok.mod.kin b (thn (ha pos pins s σ H _ I h) λus l ⟨vs,H1,a,r,q⟩=>⟨a.kIn,?_⟩) he hpl;exact zkZ F d g hd c a r q
def zaw{pl:Sem Bool}(j:PE X o ta)(c:Cls X.K C)(g:Meth X.K C m f)(F:FnOk X.prog X.w X.K X.mg X.base CX k f fd ps sp)(y:Room k X.A)(B:Binds X.K fd ps ds)(hd:Vals dvs ds)(v:zcH CX X E)(i:PA X (e :: es) t)
  (hst:autoParam (starEach (e :: es) X.env=(false,eval e X.env) :: starEach es X.env) Internal.aut2._auto_1) (hpl:autoParam ((backTo pos (starEach es X.env)).any (·.1)=false) Internal.aut2._auto_1)
  (ht:autoParam (eval (.Call (.Attribute o m apos) (e :: es) [] pos) X.env=(do
   let ov <- eval o X.env
   standAt apos.atName
   let (f,first) <- holding [ov] (getMethod ov m pl)
   callWith pos f first (backTo pos (starEach (e :: es) X.env)) (backToKw pos (keywordEach [] X.env)))) Internal.aut2._auto_1) :
  PE X (.Call (.Attribute o m apos) (e :: es) [] pos) (znC C m sp dvs E ta t):=by
 intro pins s σ H Q I h;refine ya6 (pl:=pl) (thn (j pins s σ H _ I h) λu p n=>?_) ht;obtain⟨x,H1,d,D,a,dx,fs,ex,z,l,q⟩:=n;subst ex;obtain rfl:u=Value.ref a:=D;refine zeC d z c g l ?_;refine yaB (first:=[.ref a]) (h₀:=X.base) I.ok.mod.kin g.kp (thn (i pos pins p σ H1 _ d q) λus G ⟨vs,H2,b,r,q2⟩=>⟨b.kIn,?_⟩) hst hpl;exact zkZ (us:=.ref a :: us) (vs:=.ref a :: vs) F y B hd v b (.cons rfl r) q2
def zbQ{pl:Sem Bool}(n:PE X o ta)(c:Cls X.K C)(d:Meth X.K C m f)(F:FnOk X.prog X.w X.K X.mg X.base CX k f fd ps sp)(g:Room k X.A)(j:Binds X.K fd ps ds)(hd:Vals dvs ds)(e:zcH CX X E)
  (ht:autoParam (eval (.Call (.Attribute o m apos) [] [] pos) X.env=(do
   let ov <- eval o X.env
   standAt apos.atName
   let (f,first) <- holding [ov] (getMethod ov m pl)
   callWith pos f first (backTo pos (starEach [] X.env)) (backToKw pos (keywordEach [] X.env)))) Internal.aut2._auto_1) :
  PE X (.Call (.Attribute o m apos) [] [] pos) (znC C m sp dvs E ta zfE):=by
 intro pins s σ H Q I h;refine ya6 (pl:=pl) (thn (n pins s σ H _ I h) λu t r=>?_) ht;obtain⟨x,H1,b,p,a,dx,fs,ex,i,l,q⟩:=r;subst ex;obtain rfl:u=Value.ref a:=p;refine zeC b i c d l ?_;exact PySem.W.callWith_K0 (first:=[.ref a]) b.kIn d.kp (zkZ (us:=[.ref a]) (vs:=[.ref a]) F g j hd e b (.cons rfl .nil) q)
set_option genInjectivity false in
set_option genSizeOf false in
structure Mk(K:Fg)(C f:Addr):Prop where
 makes:PySem.W.makesIn K C=true
 init:PySem.W.findIn K (.ref C) "__init__" = some (some (.ref f))
 fn:PySem.W.isFn K (.ref f)=true
 kp:PySem.W.keepIn K (.ref C)=true
def zql{pins:List (Addr × Obj)}{σ:St}{H:Hp}{s:Shared}{Q:VK}{us:List Value}{vs:List V}(M:Mk X.K C f)(F:FnOk X.prog X.w X.K X.mg X.base CX k f fd ps sp)(g:Room (k+1) X.A)(i:Binds X.K fd ps ds)(hd:Vals dvs ds)
  (hx:zcH CX X E) (I:Inv X pins σ H s) (r:Vals vs us)
  (h:∀x dx,H x=none->H dx=none->dx≠x->sp (.ref x :: (vs++dvs)) (upd (upd H dx (.own x)) x (.ins C dx [])) (λv H2=>v=.non/\Q (.ref x) H2) E) :
  wpAny (model X.prog X.w) X.A (call (.ref C) us) (EP X pins σ Q) X.xe s:=by
 have c:=h (s.heap.objs.size+1) s.heap.objs.size (I.hok.fresh (ybn _)) (I.hok.fresh (yh _)) (yo (y9 _));have b:=Inv.made (C:=C) I;have d:Vals (V.ref (s.heap.objs.size+1) :: (vs++dvs)) (Value.ref (s.heap.objs.size+1) :: (us++ds)):=.cons rfl (r.append hd);have o:(Value.ref (s.heap.objs.size+1) :: us++ds).length=ps.length:=by
  have e:=d.length;rw[F.len _ _ _ _ c]at e;exact e.symm
 refine wpAny_call (zlb (f:=f) I.kIn M.makes M.init (beq_iff_eq.mp M.fn) (codeAny_mono (F.run _ X.stack _ _ ⟨Value.ref (s.heap.objs.size+1) :: us,[]⟩ (Value.ref (s.heap.objs.size+1) :: (us++ds)) _ _ E (g.make C us [])
  (b.env0.make C us []) (i _ (Value.ref (s.heap.objs.size+1) :: us) b.kIn o) d c) λr s' a=>?_))
 cases r with
 | error e=>exact hx pins σ _ _ e s' b a
 | ok fl=>
  cases fl with
  | ret u=>
   obtain⟨v,H',l,m,n,j⟩:=b.after a;subst n;exact⟨m,⟨V.ref (s.heap.objs.size+1),H',l,rfl,j⟩⟩
  | next=>exact False.elim a
  | brk=>exact False.elim a
  | cont=>exact False.elim a
def zmE(M:Mk X.K C f)(F:FnOk X.prog X.w X.K X.mg X.base CX k f fd ps sp)(c:Room (k+1) X.A)(g:Gl X x)(i:X.mg x=some (.ref C))(d:Binds X.K fd ps ds)(hd:Vals dvs ds)(b:zcH CX X E)
  (ha:PA X (e :: es) t) (hdb:autoParam ((x == ("__debug__" : Str))=false) Internal.aut1._auto_1) (he:autoParam (starEach (e :: es) X.env=(false,eval e X.env) :: starEach es X.env) Internal.aut2._auto_1) (hpl:autoParam ((backTo pos (starEach es X.env)).any (·.1)=false) Internal.aut2._auto_1) :
  PE X (.Call (.Name x p) (e :: es) [] pos) (zq7 C sp dvs E t):=by
 intro pins s σ H Q I h;refine wpAny_Call_Name_kw (zcX I g i ?_ hdb);refine yaB (h₀:=X.base) I.ok.mod.kin M.kp (thn (ha pos pins s σ H _ I h) λus j ⟨vs,H1,a,r,q⟩=>⟨a.kIn,?_⟩) he hpl;exact zql M F c d hd b a r q
end
noncomputable def PK (X:Cx) (kws:List Keyword) (t:TA):Prop:=
 ∀(pos:Pos) (pins:List (Addr × Obj)) (s:Shared) (σ:St) (H:Hp) (Q:List V->Hp->Prop),Inv X pins σ H s->t σ H Q->wpAny (model X.prog X.w) X.A (evalAll ((backToKw pos (keywordEach kws X.env)).map (·.2))) (AP X pins σ Q) X.xe s
section
variable {X:Cx}{CX:CXT}{k:Nat}{f C:Addr}{fd:FuncData}{ps ks:List Str}{sp:Sp}{E:XK}{x m:Str}{p pos apos kpos:Pos}{e o:Expr}{es:List Expr}{kws:List Keyword}{te ta:TE}{t tk:TA}{nm:Option Str}
def zoy:PK X [] zfE:=λ_ _ _ _ H Q I h=>wpAny_evalAll_nil ⟨[],H,I,.nil,h⟩
def zmf(g:PE X e te)(f:PK X kws t):PK X (⟨nm,e,kpos⟩ :: kws) (zj3 te t):=by
 intro pos pins s σ H Q I h;show wpAny _ _ (evalAll ((do let v <- eval e X.env;standAt pos;pure v) :: (backToKw pos (keywordEach kws X.env)).map (·.2))) _ _ s;refine wpAny_evalAll_cons (wpAny_bind (thn (g pins s σ H _ I h) λu i ⟨x,H1,b,c,q1⟩=>wpAny_bind (wpAny_standAt (wpAny_pure ?_))));exact thn (f pos pins i σ H1 _ b q1) λus j ⟨xs,H2,a,d,q2⟩=>⟨x :: xs,H2,a,.cons c d,q2⟩
set_option genInjectivity false in
set_option genSizeOf false in
structure KBinds(K:Fg)(fd:FuncData)(ps ks:List Str)(g:List Value->List Value->List Value)(gV:List V->List V->List V):Prop where
 to:∀(s:Shared) (us ws:List Value),K.In s.heap->(g us ws).length=ps.length->BindsTo s fd ⟨us,ks.zip ws⟩ (ps.zip (g us ws))
 rel:∀{vs:List V} {us:List Value} {zs:List V} {ws:List Value},Vals vs us->Vals zs ws->Vals (gV vs zs) (g us ws)
variable {g:List Value->List Value->List Value}{gV:List V->List V->List V}
end
set_option genInjectivity false in
set_option genSizeOf false in
structure FnScope(N P:List Str)(sc:Scope):Prop where
 kind:sc.kind=.function
 co:sc.isCoroutine=false
 gen:sc.isGenerator=false
 nd:N.Nodup
 pre:N.take P.length=P
 par:∀x∈P,sc.names.lookup x=some .local\/sc.names.lookup x=some .cell
 nofree:∀y∈sc.names,y.2≠.free
theorem zi3{kindOf:Str->Option NameKind}{x:Str}:∀{binds:List (Str × Value)} {m:Str->Option Value},(∀v,(x,v)∉binds)->bindL kindOf binds m x=m x
 | [],_,_=>rfl
 | (n,v) :: r,m,h=>by
  unfold bindL;rw[zi3 λw a=>h w (yJ _ a)];split
  ·have:x≠n:=by rintro rfl;exact h v yai
   simp[this]
  ·rfl
theorem ziQ{kindOf:Str->Option NameKind}{x:Str}:∀{binds:List (Str × Value)} {m:Str->Option Value},(∀v,(x,v)∉binds)->bindC kindOf binds m x=m x
 | [],_,_=>rfl
 | (n,v) :: r,m,h=>by
  unfold bindC;rw[ziQ λw a=>h w (yJ _ a)];split
  ·rfl
  ·have:x≠n:=by rintro rfl;exact h v yai
   simp[this]
theorem zi7{kindOf:Str->Option NameKind}{x:Str}{v:Value}:∀{P:List Str} {vs:List Value} {i:Nat} {m:Str->Option Value},P.Nodup->P[i]?=some x->vs[i]?=some v->kindOf x=some .local ->
  bindL kindOf (P.zip vs) m x=some v
 | [],_,_,_,_,h,_,_=>by simp at h
 | _ :: _,[],_,_,_,_,h,_=>by simp at h
 | p :: P,w :: vs,0,m,nd,h1,h2,hk=>by
  simp at h1 h2;subst h1;subst h2;show bindL kindOf ((p,w) :: P.zip vs) m p=_;unfold bindL;rw[zi3 λv a=>(yK.mp nd).1 (ybB a).1,if_pos hk]
  simp
 | p :: P,w :: vs,i+1,m,nd,h1,h2,hk=>by
  show bindL kindOf ((p,w) :: P.zip vs) m x=_;unfold bindL;exact zi7 (i:=i) (yK.mp nd).2 (by simpa using h1) (by simpa using h2) hk
theorem zji{kindOf:Str->Option NameKind}{x:Str}{v:Value}:∀{P:List Str} {vs:List Value} {i:Nat} {m:Str->Option Value},P.Nodup->P[i]?=some x->vs[i]?=some v->kindOf x≠some .local ->
  bindC kindOf (P.zip vs) m x=some v
 | [],_,_,_,_,h,_,_=>by simp at h
 | _ :: _,[],_,_,_,_,h,_=>by simp at h
 | p :: P,w :: vs,0,m,nd,h1,h2,hk=>by
  simp at h1 h2;subst h1;subst h2;show bindC kindOf ((p,w) :: P.zip vs) m p=_;unfold bindC;rw[ziQ λv a=>(yK.mp nd).1 (ybB a).1,if_neg hk]
  simp
 | p :: P,w :: vs,i+1,m,nd,h1,h2,hk=>by
  show bindC kindOf ((p,w) :: P.zip vs) m x=_;unfold bindC;exact zji (i:=i) (yK.mp nd).2 (by simpa using h1) (by simpa using h2) hk
noncomputable def start (N:List Str) (vs:List V):St:=vs.map some++List.replicate (N.length-vs.length) none
noncomputable def zat (CX:CXT) (P:Program) (w:World) (K:Fg) (mg:Str->Option Value) (base:Heap) (N:List Str) (qual:Str) (scope:Scope) (f:Addr) (b:Value) (A:Around) (outer:List Env) (s:Shared) (H:Hp) (E:XK):Cx where
 prog:=P
 w:=w
 K:=K
 mg:=mg
 base:=base
 A:=A.deeper (envOfC qual scope s.heap.objs.size f b)
 N:=N
 s₀:=s
 H₀:=H
 env:=envOfC qual scope s.heap.objs.size f b
 outer:=outer
 stack:=envOfC qual scope s.heap.objs.size f b :: outer
 ex:=[]
 calm:=true
 fn:=λ_=>true
 pn:=[]
 xe:=λe s'=>wpAny (model P w) (A.deeper (envOfC qual scope s.heap.objs.size f b)) (leaving (envOfC qual scope s.heap.objs.size f b) e) (λ_ a=>CX outer H s E e a) (λc a=>CX outer H s E c a) s'
def zex{a:Scope}(h:a.names.lookup x=some .cell):∃c,(cellsFrom n a.names []).lookup x=some c:=by
 have q:=PySem.W.cellsFrom_some a.names n [] (.inl h);exact Option.isSome_iff_exists.mp q
def zoc{CX:CXT}{P:Program}{w:World}{K:Fg}{mg:Str->Option Value}{base:Heap}{N ps:List Str}{qual:Str}{scope:Scope}{f:Addr}{l:Value}{A:Around}{outer:List Env}{s o:Shared}{H:Hp}{E:XK}{us:List Value}{vs:List V}
  (S:FnScope N ps scope) (hd:A.handled=none) (e0:Env0 P w K mg base A outer s H) (hl:vs.length=ps.length) (r:Vals vs us)
  (x:InCallC s s.heap.objs.size (bindL (envOfC qual scope s.heap.objs.size f l).kindOf (ps.zip us) λ_=>none) (cellsFrom (s.heap.objs.size+1) scope.names []) (bindC (envOfC qual scope s.heap.objs.size f l).kindOf (ps.zip us) λ_=>none) o) :
  Inv (zat CX P w K mg base N qual scope f l A outer s H E) [] (start N vs) H o:=by
 have C:ps.length<=N.length:=by have:=congrArg List.length S.pre;rw[yag]at this;lia
 obtain⟨h1,tk,rfl,t⟩:=x.done;have d:∀b:Addr,b∉(zat CX P w K mg base N qual scope f l A outer s H E).ex:=λb z=>absurd (show b∈([]:List Addr)from z) (by simp);refine⟨⟨e0.mod,S.kind,rfl,rfl,yh _,λy z c h1 h2=>?_,λy g=>?_,λy c _ h=>?_,λ_=>hd,Around.frames_deeper e0.frames,.inr ⟨rfl,rfl⟩,λb z=>absurd z (d b),e0.bs,e0.bsz,λb _ _=>d b,λb z=>absurd z (d b),e0.funs,e0.frf⟩,
  rfl,e0.bare,Un.kept t,⟨_,x.toInCall.ns,λi y v h1 h2 F=>?_⟩,λy c h=>⟨_,x.cell y c h⟩,e0.hok.fresh (yh _),λy c h=>?_,λp hp=>absurd (show p∈([]:List (Addr × Obj))from hp) (by simp),e0.hok.kept t,?_⟩
 ·exact name_of_addr x.apart (yax h1) (yax h2)
 ·have g:scope.names.lookup y=some .cell\/scope.names.lookup y=some .free:=g;rcases g with g | g
  ·exact zex g
  ·exact absurd rfl (S.nofree _ (yax g))
 ·exact yaj (x.above y c (yax h))
 ·have hi:i<vs.length:=by
   unfold start at h2;by_cases hi:i<vs.length
   ·exact hi
   ·rw[List.getElem?_append_right (by simpa using hi)]at h2;rw[yal]at h2;split at h2<;>cases h2
  have B:vs[i]?=some v:=by
   unfold start at h2;rw[y8 (by simpa using hi),yg]at h2;cases e:vs[i]? with
   | none=>rw[e]at h2;cases h2
   | some a=>rw[e]at h2;cases h2;rfl
  obtain⟨u,m,D⟩:=r.get B;have hp:ps[i]?=some y:=by
   rw[<- S.pre,List.getElem?_take_of_lt ⋯];exact h1
  have j:ps.Nodup:=by rw[<- S.pre];exact S.nd.sublist (List.take_sublist _ _)
  refine⟨u,D,?_⟩;rcases S.par y (ym hp)with k | k
  ·exact .inl ⟨k,zi7 j hp m k⟩
  ·obtain⟨c,e⟩:=zex (n:=s.heap.objs.size+1) k;refine .inr ⟨.inl k,c,e,?_⟩;have q:=x.cell y c e;rw[zji j hp m (by show scope.names.lookup y≠_;rw[k];decide)]at q;exact q
 ·exact e0.hok.fresh (yaj (x.above y c (yax h)))
 ·unfold start;show _=N.length;rw[yf,yb,List.length_replicate];lia
def zmI{CX:CXT}{P:Program}{w:World}{K:Fg}{mg:Str->Option Value}{base:Heap}{k:Nat}{f:Addr}{name qual:Str}{params:Arguments}{body:List Stmt}{scope:Scope}{D kV i C a ct T:Value}{z od:Option Addr}
  {osl:Array (Option Value)} {N ps:List Str} {sp:Sp} (lk:K.lookup f=some ⟨T,od,.func (PySem.W.fnOf name qual params body scope D kV i C z a ct),osl⟩) (hcd:PySem.W.codeIn K a qual=true) (S:FnScope N ps scope)
  (len:∀vs H Q E,sp vs H Q E->vs.length=ps.length)
  (hbody:∀(A:Around) (outer:List Env) (s:Shared) (H:Hp) (vs:List V) (Q:VK) (E:XK),Room k (A.deeper (envOfC qual scope s.heap.objs.size f a))->sp vs H Q E ->
   ∃t,PSs (zat CX P w K mg base N qual scope f a A outer s H E) body t/\t { nx:=λ_ H'=>Q .non H',rt:=Q } (start N vs) H) :
  FnOk P w K mg base CX (k+1) f (PySem.W.fnOf name qual params body scope D kV i C z a ct) ps sp:=by
 refine⟨len,λA outer s H args us vs Q E l h R r g=>?_⟩;have U:=len _ _ _ _ g;have F:K.In s.heap:=h.mod.kin.keeps λb o e=>(h.bs b o e).1;have m:s.heap.NoLimit:=h.mod.nolimit.keeps λb o e=>(h.bs b o e).1;have c:∀y∈ps.zip us,scope.names.lookup y.1=some .local\/(scope.names.lookup y.1=some .cell/\((cellsFrom (s.heap.objs.size+1) scope.names []).lookup y.1).isSome=true):=fun⟨n,v⟩ hy=>by
  rcases S.par n (ybB hy).1 with q | q
  ·exact .inl q
  ·exact .inr ⟨q,PySem.W.cellsFrom_some _ _ _ (.inl q)⟩
 refine codeAny_call_function l.depth (F _ _ lk) rfl S.co S.gen rfl (PySem.W.codeRec_of F hcd) (R _ _ _ _ ?_);refine wpAny_newFunctionEnv_cells S.kind c λenv M B x=>?_;subst M;refine⟨m.keeps x.toInCall.keep,codeAny_func ?_⟩;obtain⟨t,G,O⟩:=hbody A outer s H vs Q E (l.deeper _) g;have I:Inv (zat CX P w K mg base N qual scope f a A outer s H E) [] (start N vs) H B:=zoc S l.hd h U r x;refine wpAny_mono (G [] B (start N vs) H _ I O) (λL s' d=>?_) λe s' d=>d;have fin:∀{j:St} {H':Hp} {v:V} {u:Value},Inv (zat CX P w K mg base N qual scope f a A outer s H E) [] j H' s'->RelV v u->Q v H'->CE outer P w H s Q u s':=
  λ{j H' v u} J p q=>⟨v,H',J.os,J.bare,J.base,J.hok,p,q⟩
 cases L with
 | ret u=>
  obtain⟨v,j,H',J,p,q⟩:=d;exact fin J p q
 | next=>
  obtain⟨j,H',J,q⟩:=d;exact fin (v:=V.non) (u:=Value.none) J rfl q
 | brk=>
  obtain⟨_,_,_,q⟩:=d;exact False.elim q
 | cont=>
  obtain⟨_,_,_,q⟩:=d;exact False.elim q
section
variable {X:Cx}{x:Str}{p pos:Pos}{e:Expr}{es:List Expr}{t:TA}{id T:String}{r:List V->Hp->VK->Prop}
abbrev tCB(r:List V->Hp->VK->Prop)(t:TA):TE:=λσ H Q=>t σ H λvs H1=>r vs H1 Q
def zax(g:CallR X (.builtin id) r)(f:Gl X x)(i:X.mg x=none)(j:bootBuiltins x=some (.builtin id))(d:PA X (e :: es) t)(hn:autoParam (x ≠ "__name__") Internal.aut1._auto_1)(a:autoParam ((x == ("__debug__" : Str))=false) Internal.aut1._auto_1)
  (he:autoParam (starEach (e :: es) X.env=(false,eval e X.env) :: starEach es X.env) Internal.aut2._auto_1) (hpl:autoParam ((backTo pos (starEach es X.env)).any (·.1)=false) Internal.aut2._auto_1):PE X (.Call (.Name x p) (e :: es) [] pos) (tCB r t):=by
 intro pins s σ H Q I h;refine wpAny_Call_Name_kw (zbX I f i j ?_ hn a);exact PyProof.Rows.callWith_builtin1 (thn (d pos pins s σ H _ I h) λus k ⟨vs,H1,b,c,q1⟩=>g pins k σ H1 vs us Q b c q1) he hpl
def zfl(g:CallR X (.type T) r)(f:Gl X x)(i:X.mg x=none)(j:bootBuiltins x=some (.type T))(d:PA X (e :: es) t)(hn:autoParam (x ≠ "__name__") Internal.aut1._auto_1)(a:autoParam ((x == ("__debug__" : Str))=false) Internal.aut1._auto_1)
  (he:autoParam (starEach (e :: es) X.env=(false,eval e X.env) :: starEach es X.env) Internal.aut2._auto_1) (hpl:autoParam ((backTo pos (starEach es X.env)).any (·.1)=false) Internal.aut2._auto_1):PE X (.Call (.Name x p) (e :: es) [] pos) (tCB r t):=by
 intro pins s σ H Q I h;refine wpAny_Call_Name_kw (zbX I f i j ?_ hn a);exact yan (thn (d pos pins s σ H _ I h) λus k ⟨vs,H1,b,c,q1⟩=>g pins k σ H1 vs us Q b c q1) he hpl
end
end Internal
namespace HT
variable {b:Addr}
open PySem PyProof.Rows
section
open PySem.SeqAt
open PySem.AutoSeq1 (wpAny_loadPart')
open PySem.MeetsSeq PySem.MeetsSeq2 PySem.MeetsSeq3
end
section
variable {prog:Program}{w:World}{A:Around}{E:Value->Shared->Prop}{s:Shared}
def cat_tup{t:Addr}{vs ws:List Value}{Q:Value->Shared->Prop}(p:IsTup s.heap t vs.toArray)(q:IsTup s.heap b ws.toArray)(m:vs≠[])
  (h1:ws=[]->Q (.ref t) s) (h2:ws≠[]->Q (.ref s.heap.objs.size) { s with heap:=s.heap.push { cls:=.type "tuple",data:=.seq (vs++ws).toArray } })
  (hsz:vs.length+ws.length<=sizeLine):wpAny (model prog w) A (binaryOp .Add (.ref t) (.ref b)) Q E s:=by
 obtain⟨⟨cls,dd,data,k⟩,h,l,n,hd⟩:=id p;obtain⟨⟨o,f,j,g⟩,a,d,n2,c⟩:=id q;simp only at l hd d c;subst l hd d c;have e:vs.toArray++ws.toArray=(vs++ws).toArray:=by simp
 by_cases i:ws=[]
 ·exact concat_meets ⟨_,h,rfl⟩ ⟨_,a,rfl⟩ noFill_tuple_add seq_tuple_add PySem.F.slot_tuple_add PySem.F.entry_tuple_add (PySem.F.args_tuple_add_2 _ _)
   (tuple_addW1 t b vs.toArray ws.toArray n n2 dd f k g (by simpa using m) (by simp[i])) ⟨h,a,h1 i⟩
 ·refine concat_meets ⟨_,h,rfl⟩ ⟨_,a,rfl⟩ noFill_tuple_add seq_tuple_add PySem.F.slot_tuple_add PySem.F.entry_tuple_add (PySem.F.args_tuple_add_2 _ _)
   (tuple_addW2 t b vs.toArray ws.toArray n n2 dd f k g (by simpa using m) (by simpa using i) (by rw[yl,yl];exact hsz)) ⟨h,a,?_⟩
  rw[e];exact h2 i
noncomputable def sIx (n d:Nat):Option Int->Nat
 | none=>d
 | some v=>if v<0 then(v+(n:Int)).toNat else min v.toNat n
def sIx_none(n d:Nat):sIx n d none=d:=rfl
end
end HT
namespace Internal
variable {A:Around}{H:Hp}{its us:List Value}{j n:Nat}{ns:List Int}{p:Addr}{pins:List (Addr × Obj)}{s:Shared}{u:Value}{xs:List V}{y:V}{σ:St}
open PySem PySem.Spec PyProof.Rows
abbrev TO:=St->Hp->(Option Int->Hp->Prop)->Prop
noncomputable def PO (X:Cx) (e:Option Expr) (t:TO):Prop:=
 ∀(pins:List (Addr × Obj)) (s:Shared) (σ:St) (H:Hp) (Q:Option Int->Hp->Prop),Inv X pins σ H s->t σ H Q ->
  wpAny (model X.prog X.w) X.A (evalPart e X.env) (λu s'=>∃o H',Inv X pins σ H' s'/\IsPart u o/\Q o H') X.xe s
abbrev zsu:TO:=λ_ H Q=>Q none H
noncomputable def zro (t:TE):TO:=λσ H Q=>t σ H λx H1=>∃i,x=.int i/\Q (some i) H1
def zmQ:∀{us:List Value},Vals (ns.map V.int) us->IntsAre us ns:=by
 induction ns with
 | nil=>intro us r;rw[List.map_nil]at r;cases r;exact .nil
 | cons n ns ih=>
  intro us r;rw[yH]at r;cases r with
  | cons r1 r2=>
   obtain⟨t,e⟩:=r1;subst e;exact .cons n t (ih r2)
section
variable {X:Cx}{e:Expr}{te:TE}{lo hi:Option Expr}{tl th:TO}{pos p2:Pos}
def zcr:PO X none zsu:=by
 intro pins s σ H Q I h;rw[evalPart_none];exact wpAny_pure ⟨none,H,I,.none,h⟩
def zcp(h:PE X e te):PO X (some e) (zro te):=by
 intro pins s σ H Q I c;rw[evalPart_some];refine thn (h pins s σ H _ I c) λu f d=>?_;obtain⟨x,H1,a,b,q1⟩:=d;obtain⟨i,rfl,q⟩:=q1;obtain⟨t,rfl⟩:=b;exact⟨some i,H1,a,.int i t,q⟩
noncomputable def SlR (X:Cx) (r:V->Option Int->Option Int->Hp->VK->Prop):Prop:=
 ∀(pins:List (Addr × Obj)) (s:Shared) (σ:St) (H:Hp) (x:V) (v vl vu:Value) (lo hi:Option Int) (sl:Addr) (Q:VK),Inv X pins σ H s->RelV x v->s.heap.IsSliceOf sl vl vu .none->IsPart vl lo->IsPart vu hi->r x lo hi H Q ->
  ∃T id,typeLookup (.type T) "__getitem__" = pure (some (.builtin id))/\s.TypeIs v T/\wpAny (model X.prog X.w) X.A (getItem v (.ref sl)) (EP X pins σ Q) X.xe s
abbrev tSl(r:V->Option Int->Option Int->Hp->VK->Prop)(te:TE)(tl th:TO):TE:=λσ H Q=>te σ H λx H1=>tl σ H1 λl H2=>th σ H2 λu H3=>r x l u H3 Q
def zbR{r:V->Option Int->Option Int->Hp->VK->Prop}(t:SlR X r)(m:PE X e te)(F:PO X lo tl)(o:PO X hi th):PE X (.Subscript e (.Slice lo hi none p2) pos) (tSl r te tl th):=by
 intro pins s σ H Q I h;refine Subscript_ (thn (m pins s σ H _ I h) λv p f=>?_);obtain⟨x,H1,j,y,q1⟩:=f;refine wpAny_Slice (thn (F pins p σ H1 _ j q1) λd E ⟨l,H2,i,pl,q2⟩=>thn (o pins E σ H2 _ i q2) λc a f=>?_);obtain⟨u,g,n,pu,D⟩:=f;rw[evalPart_none];refine wpAny_pure ?_;have z:Inv X pins σ g { a with heap:=a.heap.push { cls:=.type "slice",data:=.fields #[d,c,.none] } }:=n.kept (t':=a.toks) λb ob q=>Heap.get?_push_of_some _ q;obtain⟨T,id,B,k,C⟩:=t pins { a with heap:=a.heap.push { cls:=.type "slice",data:=.fields #[d,c,.none] } } σ g x v d c l u a.heap.objs.size Q z y (Heap.IsSliceOf.new ..) pl pu D;show wpAny (model X.prog X.w) X.A (subscriptTail e (.Slice lo hi none p2) v (.ref a.heap.objs.size)) (EP X pins σ Q) X.xe { a with heap:=a.heap.push { cls:=.type "slice",data:=.fields #[d,c,.none] } };exact tail_any (ops:=[.ref a.heap.objs.size,v]) k B C (by with_unfolding_all rfl)
noncomputable def zcu (xs:List V) (lo hi:Option Int):List V:=(xs.drop (HT.sIx xs.length 0 lo)).take (HT.sIx xs.length xs.length hi-HT.sIx xs.length 0 lo)
def zlQ(xs:List V)(lo hi:Option Int):(zcu xs lo hi).length<=xs.length:=by
 unfold zcu;rw[yag,ya4];lia
noncomputable def zrj (K:Fg):R2:=λx y H Q=>∃a b xs ys,x=.ref a/\y=.ref b/\SqT K H a xs/\SqT K H b ys/\xs≠[]/\xs.length+ys.length<=sizeLine /\
 (ys=[]->Q (.ref a) H)/\(ys≠[]->∀p,H p=none->Q (.ref p) (upd H p (.tup (xs++ys))))
def Vals.nil_iff(r:Vals xs us):us=[]↔xs=[]:=by
 cases r with
 | nil=>simp
 | cons _ _=>simp
def zrN:OpR X (binaryOp .Add) (zrj X.K):=by
 intro pins s σ H x y v u Q I m g h;obtain⟨a,b,xs,ys,rfl,rfl,l,k,j,f,q1,q2⟩:=h;cases m;cases g;obtain⟨its,d,i,_⟩:=I.tuple l;obtain⟨e,c,p2,_⟩:=I.tuple k;refine HT.cat_tup i p2 (λz=>j (d.nil_iff.mp z)) (λz=>⟨.ref a,H,I,rfl,q1 (c.nil_iff.mp z)⟩) (λz=>?_) (by rw[<- d.length,<- c.length];exact f);refine⟨.ref s.heap.objs.size,_,I.laid (t':=s.toks) (o:=.tup (xs++ys)) (λb ob q=>Heap.get?_push_of_some _ q) (yh _) ?_,rfl,q2 (λw=>z (c.nil_iff.mpr w)) _ (I.hok.fresh (yh _))⟩;exact⟨by rw[yf];exact f,_,d.append c,IsTup.new _ _⟩
end
noncomputable def ixN (n:Nat) (i:Int):Option Nat:=if 0<=i then(if i<n then some i.toNat else none)else if -(n:Int)<=i then some (i+n).toNat else none
noncomputable def atI {α:Type} (xs:List α) (i:Int):Option α:=(ixN xs.length i).bind λj=>xs[j]?
def zmA{i:Int}(h:ixN n i=some j):seqIndex? i n=some j/\j<n/\-(n:Int)<=i/\i<n:=by
 unfold ixN at h;by_cases a:0<=i
 ·rw[if_pos a]at h;by_cases h1:i<n
  ·rw[if_pos h1]at h;have e:i.toNat=j:=yq h;exact⟨by rw[seqIndex_of a h1,e],⋯,⋯,h1⟩
  ·rw[if_neg h1]at h;cases h
 ·rw[if_neg a]at h;by_cases h1:-(n:Int)<=i
  ·rw[if_pos h1]at h;have e:(i+n).toNat=j:=yq h;exact⟨by rw[seqIndex_neg ⋯ h1,e],⋯,h1,⋯⟩
  ·rw[if_neg h1]at h;cases h
def zfQ{α:Type}{xs:List α}{i:Int}{v:α}(h:atI xs i=some v):∃j,seqIndex? i xs.length=some j/\xs[j]?=some v/\j<xs.length/\-(xs.length:Int)<=i/\i<xs.length:=by
 unfold atI at h;cases e:ixN xs.length i with
 | none=>rw[e]at h;cases h
 | some j=>
  rw[e]at h;obtain⟨h1,h2,a,b⟩:=zmA e;exact⟨j,h1,h,h2,a,b⟩
def zap{α:Type}{xs:List α}{v:α}(h:xs[j]?=some v):atI xs (j:Int)=some v:=by
 have a:j<xs.length:=(yk.mp h).1;have e:ixN xs.length (j:Int)=some j:=by
  unfold ixN;rw[if_pos ⋯,if_pos ⋯];simp
 unfold atI;rw[e];exact h
def zk9{α:Type}(xs:List α)(v:α):atI (xs++[v]) (-1)=some v:=by
 have a:(xs++[v]).length=xs.length+1:=by simp
 have e:ixN (xs++[v]).length (-1)=some xs.length:=by
  unfold ixN;rw[a,if_neg (by decide),if_pos ⋯];congr 1;lia
 unfold atI;rw[e]
 show(xs++[v])[xs.length]?=some v
 simp
noncomputable def zlV (b:Expr):Prop:=∀o i,subscripted b false o i=operate [o,i] (getItem o i)
noncomputable def IxR (X:Cx) (r:R2):Prop:=
 ∀(value slice:Expr) (pins:List (Addr × Obj)) (s:Shared) (σ:St) (H:Hp) (x y:V) (v u:Value) (Q:VK),Inv X pins σ H s->RelV x v->RelV y u->r x y H Q ->
  subscripted slice false v u=operate [v,u] (getItem v u)->wpAny (model X.prog X.w) X.A (subscriptTail value slice v u) (EP X pins σ Q) X.xe s
noncomputable def MtR (X:Cx) (id:String) (r:V->List V->Hp->VK->Prop):Prop:=
 ∀(pins:List (Addr × Obj)) (s:Shared) (σ:St) (H:Hp) (x:V) (xs:List V) (v:Value) (us:List Value) (Q:VK),Inv X pins σ H s->RelV x v->Vals xs us->r x xs H Q ->
  wpAny (model X.prog X.w) X.A (call (.builtin id) (v :: us)) (EP X pins σ Q) X.xe s
section
variable {X:Cx}{a b:Expr}{ta tb:TE}{pos:Pos}
def IxR.or{r c:R2}(h:IxR X r)(h':IxR X c):IxR X (λx y H Q=>r x y H Q\/c x y H Q):=by
 intro value a pins s σ H x y v u Q I d b q e;rcases q with q | q
 ·exact h value a pins s σ H x y v u Q I d b q e
 ·exact h' value a pins s σ H x y v u Q I d b q e
def zuR{r:R2}(e:IxR X r)(g:PE X a ta)(f:PE X b tb)(k:zlV b):PE X (.Subscript a b pos) (tOp r ta tb):=by
 intro pins s σ H Q I h;exact Subscript_ (zqx g f I h λv u j x y H2 d i c q=>e a b pins j σ H2 x y v u Q d i c q (k _ _))
noncomputable def zbS (K:Fg):R2:=λx y H Q=>∃p xs i v,x=.ref p/\y=.int i/\SqL K H p xs/\atI xs i=some v/\Q v H
noncomputable def ztp (K:Fg):R2:=λx y H Q=>∃p xs i v,x=.ref p/\y=.int i/\SqT K H p xs/\atI xs i=some v/\Q v H
noncomputable def zti:R2:=λx y H Q=>∃z i c,x=.str z/\y=.int i/\z.length<=sizeLine/\atI z.cps.toList i=some c/\Q (.str ⟨#[c]⟩) H
def ix_list:IxR X (zbS X.K):=by
 intro value c pins s σ H x y v u Q I o m h e;obtain⟨p,xs,i,z,rfl,rfl,l,g,q⟩:=h;cases o;obtain⟨t,rfl⟩:=m;obtain⟨its,r,pl,C⟩:=I.list l;obtain⟨j,h1,h2,B,A,k⟩:=zfQ g;obtain⟨w,f,a⟩:=r.get h2;have n:=r.length;have hn:=line63;have fin:EP X pins σ Q w s:=⟨z,H,I,a,q⟩
 by_cases d:0<=i
 ·have b:i.toNat=j:=by
   rw[seqIndex_of d k]at h1;exact yq h1
  exact item_listR pl.isList d ⋯ (by rw[b];simpa using f) fin e
 ·have b:(i+(its.toArray.size:Int)).toNat=j:=by
   rw[seqIndex_neg ⋯ A]at h1;rw[yl,<- n];exact yq h1
  exact subscriptTail_builtinR (x:=w) pl.isList.typeIs slot_list_getitem.lookup
   (wpAny_getItem_list_neg (Q:=λr s'=>r=w/\EP X pins σ Q r s') pl.isList ⋯ (by rw[yl]<;>lia) ⋯ (by rw[b];simpa using f) ⟨rfl,fin⟩) e
def ix_tup:IxR X (ztp X.K):=by
 intro value b pins s σ H x y v u Q I g e h k;obtain⟨p,xs,i,z,rfl,rfl,d,c,q⟩:=h;cases g;obtain⟨t,rfl⟩:=e;obtain⟨its,r,pl,o⟩:=I.tuple d;obtain⟨j,h1,h2,m,A,n⟩:=zfQ c;obtain⟨w,l,a⟩:=r.get h2;have f:=r.length;have hn:=line63;have fin:EP X pins σ Q w s:=⟨z,H,I,a,q⟩
 exact subscriptTail_builtinR (x:=w) pl.typeIs slot_tuple_getitem.lookup
  (getItem_tuple (j:=j) (Q:=λr s'=>r=w/\EP X pins σ Q r s') pl ⋯ ⋯ (by rw[yl,<- f];exact h1) (by simpa using l) ⟨rfl,fin⟩) k
def ztU:IxR X zti:=by
 intro value a pins s σ H x y v u Q I g b h l;obtain⟨z,i,c,rfl,rfl,m,f,q⟩:=h;obtain⟨t,rfl⟩:=g;obtain⟨t',rfl⟩:=b;obtain⟨j,h1,h2,n,d,k⟩:=zfQ f;have e:z.cps.toList.length=z.length:=by simp[Str.length]
 rw[e]at h1 d k;have hn:=line63;exact tail_any (typeIs_str s z t) slot_str_getitem.lookup (getItem_str (c:=c) (by
  have e1:decide (i < -(2 ^ 63:Int))=false:=decide_eq_false ⋯;have e2:decide (i≥2 ^ 63)=false:=decide_eq_false ⋯;rw[e1,e2,Bool.or_false]) (by rw[h1];simpa using h2) ⟨.str ⟨#[c]⟩,H,I.tok _,⟨_,rfl⟩,q⟩) l
noncomputable def rIx (K:Fg):R2:=λx y H Q=>zbS K x y H Q\/ztp K x y H Q\/zti x y H Q
def ztJ:IxR X (rIx X.K):=ix_list.or (ix_tup.or ztU)
def zm9(its:List Value)(n j:Nat)(u:Value):Obj.mapSeq (·.setIfInBounds j u) { cls:=.type "list",data:=.seq its.toArray n }={ cls:=.type "list",data:=.seq (its.set j u).toArray n }:=by
 simp[Obj.mapSeq]
theorem Inv.lst{pins:List (Addr × Obj)}{σ:St}{H:Hp}{s:Shared}{p:Addr}{xs:List V}(I:Inv X pins σ H s)(h:H p=some (.lst xs)) :
  ∃(its:List Value) (n:Nat),Vals xs its/\s.heap.get? p=some { cls:=.type "list",data:=.seq its.toArray n }/\xs.length<=sizeLine:=by
 obtain⟨z,its,n,r,e⟩:=I.hok p _ h;exact⟨its,n,r,e,z⟩
def Inv.lstUpd{ys:List V}{its its':List Value}{n a:Nat}{f:Obj->Obj}(I:Inv X pins σ H s)(h:H p=some (.lst xs))
  (ho:s.heap.get? p=some { cls:=.type "list",data:=.seq its.toArray n }) (hf:f { cls:=.type "list",data:=.seq its.toArray n }={ cls:=.type "list",data:=.seq its'.toArray a }) (r:Vals ys its') (hz:ys.length<=sizeLine) (t:Nat) :
  Inv X pins σ (upd H p (.lst ys)) { s with heap:=s.heap.update p f,toks:=t }:=by
 have e:(s.heap.update p f).get? p=some { cls:=.type "list",data:=.seq its'.toArray a }:=by
  rw[Heap.get?_update_self f ho (by rw[hf]<;>rfl),hf]
 refine I.write (x:=p) (e:=p) (by rw[h];trivial) (.inl rfl) (λb u c q=>(Heap.get?_update_other _ _ (yaA c)).trans q) ⟨_,e⟩ ?_;exact⟨hz,its',a,r,e⟩
noncomputable def zhn:V->V->V->Hp->(Hp->Prop)->Prop:=λo i v H Q=>∃p xs k j,o=.ref p/\i=.int k/\H p=some (.lst xs)/\ixN xs.length k=some j/\Q (upd H p (.lst (xs.set j v)))
def zay:zpy X zhn:=by
 intro pins s σ H o i v y z u Q I ro m w h;obtain⟨p,xs,k,j,rfl,rfl,hp,l,q⟩:=h;cases ro;obtain⟨t,rfl⟩:=m;obtain⟨its,n,r,b,x⟩:=I.lst hp;obtain⟨h1,h2,e,f⟩:=zmA l;have a:=r.length;have hn:=line63;have g:Inv X pins σ (upd H p (.lst (xs.set j v))) { s with heap:=s.heap.update p (Obj.mapSeq (·.setIfInBounds j u)) }:=
  I.lstUpd hp b (zm9 its n j u) (r.set w j) (by rw[List.length_set];exact x) s.toks
 by_cases d:0<=k
 ·have c:k.toNat=j:=by
   rw[seqIndex_of d f]at h1;exact yq h1
  exact PySem.W.ki_setAt b d ⋯ (by rw[yl,<- a];exact f) (by rw[c];exact⟨_,g,q⟩)
 ·have c:(k+(its.toArray.size:Int)).toNat=j:=by
   rw[seqIndex_neg ⋯ e]at h1;rw[yl,<- a];exact yq h1
  exact PySem.W.ki_setBack b ⋯ (by rw[yl,<- a];exact e) ⋯ (by rw[c];exact⟨_,g,q⟩)
def zkn(lo hi:Option Int)(n:Nat):(sliceBounds lo hi none n).1=((HT.sIx n 0 lo:Nat):Int)/\(sliceBounds lo hi none n).2.1=((HT.sIx n n hi:Nat):Int)/\(sliceBounds lo hi none n).2.2=1:=by
 refine⟨?_,?_,rfl⟩
 ·cases lo with
  | none=>simp[sliceBounds,HT.sIx]
  | some i=>
   simp only[sliceBounds,HT.sIx,Option.getD_none,show(1:Int)>0 by decide,if_true];by_cases h:i<0
   ·simp only[h,if_true]<;>lia
   ·simp only[h,if_false]<;>lia
 ·cases hi with
  | none=>simp[sliceBounds,HT.sIx]
  | some i=>
   simp only[sliceBounds,HT.sIx,Option.getD_none,show(1:Int)>0 by decide,if_true];by_cases h:i<0
   ·simp only[h,if_true]<;>lia
   ·simp only[h,if_false]<;>lia
def zjz(its:List Value)(lo hi:Option Int):slicePick its.toArray lo hi none=((its.drop (HT.sIx its.length 0 lo)).take (HT.sIx its.length its.length hi-HT.sIx its.length 0 lo)).toArray:=by
 obtain⟨h1,h2,a⟩:=zkn lo hi its.toArray.size;unfold slicePick;rw[h1,h2,a];simp only[sliceRange_one,pick_run,yl]<;>rfl
noncomputable def zc5 (K:Fg):V->Option Int->Option Int->Hp->VK->Prop:=λx lo hi H Q=>∃a xs,x=.ref a/\SqL K H a xs/\∀p,H p=none->Q (.ref p) (upd H p (.lst (zcu xs lo hi)))
def zcq:SlR X (zc5 X.K):=by
 intro pins s σ H x v j l lo hi k Q I g i pl pu h;obtain⟨a,xs,rfl,e,q⟩:=h;cases g;obtain⟨its,r,d,f⟩:=I.list e;have c:=r.length;refine⟨"list",_,slot_list_getitem.lookup,d.isList.typeIs,?_⟩;refine wpAny_getItem_list_slice d.isList i pl pu .none (by simp) ?_ (by rw[yl]<;>lia);rw[zjz,<- c];refine⟨.ref s.heap.objs.size,_,I.laid (t':=s.toks) (o:=.lst (zcu xs lo hi)) (λb ob q=>Heap.get?_push_of_some _ q) (yh _) ?_,rfl,q _ (I.hok.fresh (yh _))⟩;exact⟨yc (zlQ xs lo hi) f,_,0,(r.drop (HT.sIx xs.length 0 lo)).take (HT.sIx xs.length xs.length hi-HT.sIx xs.length 0 lo),Heap.get?_push_size _ rfl⟩
noncomputable def zcB:V->Bool
 | .non=>true
 | .bl _=>true
 | .int _=>true
 | .str _=>true
 | _=>false
noncomputable def eqV:V->V->Bool
 | .non,.non=>true
 | .bl a,.bl b=>a == b
 | .bl a,.int b=>(if a then 1 else 0) == b
 | .int a,.bl b=>a == (if b then 1 else 0)
 | .int a,.int b=>a == b
 | .str a,.str b=>a == b
 | _,_=>false
def ztk{x:V}{v:Value}(e:RelV y u)(c:RelV x v)(f:zcB y=true)(d:zcB x=true):SeqAt.EqAt A s u v (eqV y x):=by
 cases y with
 | non=>
  cases e;cases x with
  | non=>cases c;exact SeqAt.EqAt.same _
  | bl b=>cases c;exact SeqAt.EqAt.none_bool b
  | int b=>obtain⟨t,rfl⟩:=c;exact SeqAt.EqAt.none_int b t
  | str b=>obtain⟨t,rfl⟩:=c;exact SeqAt.EqAt.none_str b t
  | _=>exact absurd (show false=true from d) yn
 | bl a=>
  cases e;cases x with
  | non=>cases c;exact SeqAt.EqAt.bool_none a
  | bl b=>cases c;exact SeqAt.EqAt.bool_bool a b
  | int b=>obtain⟨t,rfl⟩:=c;exact SeqAt.EqAt.bool_int a b t
  | str b=>obtain⟨t,rfl⟩:=c;exact SeqAt.EqAt.bool_str a b t
  | _=>exact absurd (show false=true from d) yn
 | int a=>
  obtain⟨t',rfl⟩:=e;cases x with
  | non=>cases c;exact SeqAt.EqAt.int_none a t'
  | bl b=>cases c;exact SeqAt.EqAt.int_bool a t' b
  | int b=>obtain⟨t,rfl⟩:=c;exact SeqAt.EqAt.int_int a t' b t
  | str b=>obtain⟨t,rfl⟩:=c;exact SeqAt.EqAt.int_str a t' b t
  | _=>exact absurd (show false=true from d) yn
 | str a=>
  obtain⟨t',rfl⟩:=e;cases x with
  | non=>cases c;exact SeqAt.EqAt.str_none a t'
  | bl b=>cases c;exact SeqAt.EqAt.str_bool a t' b
  | int b=>obtain⟨t,rfl⟩:=c;exact SeqAt.EqAt.str_int a t' b t
  | str b=>obtain⟨t,rfl⟩:=c;exact SeqAt.EqAt.str_str a t' b t
  | _=>exact absurd (show false=true from d) yn
 | _=>exact absurd (show false=true from f) yn
noncomputable def eqU (x:V) (u:Value):Bool:=match u with
 | .none=>eqV .non x
 | .bool b=>eqV (.bl b) x
 | .int i _=>eqV (.int i) x
 | .str z _=>eqV (.str z) x
 | _=>false
def zkE{x:V}(r:RelV y u)(f:zcB y=true):eqU x u=eqV y x:=by
 cases y with
 | non=>cases r;rfl
 | bl b=>cases r;rfl
 | int i=>obtain⟨t,rfl⟩:=r;rfl
 | str z=>obtain⟨t,rfl⟩:=r;rfl
 | _=>exact absurd (show false=true from f) yn
theorem zd7{x:V}:∀{xs:List V} {us:List Value},Vals xs us->xs.all zcB=true->us.any (eqU x)=xs.any λy=>eqV y x
 | _,_,.nil,_=>rfl
 | y :: xs,u :: us,.cons r t,f=>by
  rw[ya1,yF]at f;rw[ybt,ybt,zkE r f.1,zd7 t f.2]
theorem zcx{A:Around}{s:Shared}{x:V}{v:Value}(c:RelV x v)(b:zcB x=true):∀{xs:List V} {us:List Value},Vals xs us->xs.all zcB=true->∀u∈us,SeqAt.EqAt A s u v (eqU x u)
 | _,_,.nil,_=>λu a=>by cases a
 | y :: xs,u :: us,.cons r t,f=>λd a=>by
  rw[ya1,yF]at f;rcases yt.mp a with rfl | a
  ·rw[zkE r f.1];exact ztk r c f.1 b
  ·exact zcx c b t f.2 d a
noncomputable def inV (x:V) (xs:List V):Bool:=xs.any λy=>eqV y x
noncomputable def rIn (K:Fg) (neg:Bool):R2:=λx y H Q=>∃p xs,y=.ref p/\(SqL K H p xs\/SqT K H p xs)/\zcB x=true/\xs.all zcB=true/\Q (.bl (if neg then !inV x xs else inV x xs)) H
def ze9:OpR X (compareOp .In) (rIn X.K false):=by
 intro pins s σ H x y v u Q I d e h;obtain⟨p,xs,rfl,a,c,fs,q⟩:=h;cases e;rcases a with a | a
 ·obtain⟨its,r,pl,f⟩:=I.list a;refine SeqAt.in_listAt (eqU x) pl.isList (λw b=>zcx d c r fs w (by simpa using b)) ⟨.bl _,H,I,rfl,?_⟩;rw[show its.toArray.any (eqU x)=its.any (eqU x) by simp,zd7 r fs];exact q
 ·obtain⟨its,r,pl,f⟩:=I.tuple a;refine SeqAt.in_tupleAt (eqU x) pl (λw b=>zcx d c r fs w (by simpa using b)) ⟨.bl _,H,I,rfl,?_⟩;rw[show its.toArray.any (eqU x)=its.any (eqU x) by simp,zd7 r fs];exact q
def zb6:OpR X (compareOp .NotIn) (rIn X.K true):=by
 intro pins s σ H x y v u Q I d e h;obtain⟨p,xs,rfl,a,c,fs,q⟩:=h;cases e;rcases a with a | a
 ·obtain⟨its,r,pl,f⟩:=I.list a;refine SeqAt.notIn_listAt (eqU x) pl.isList (λw b=>zcx d c r fs w (by simpa using b)) ⟨.bl _,H,I,rfl,?_⟩;rw[show its.toArray.any (eqU x)=its.any (eqU x) by simp,zd7 r fs];exact q
 ·obtain⟨its,r,pl,f⟩:=I.tuple a;refine SeqAt.notIn_tupleAt (eqU x) pl (λw b=>zcx d c r fs w (by simpa using b)) ⟨.bl _,H,I,rfl,?_⟩;rw[show its.toArray.any (eqU x)=its.any (eqU x) by simp,zd7 r fs];exact q
def zks:CallR X (.builtin "len") (λxs H Q=>∃p ys,xs=[.ref p]/\(SqL X.K H p ys\/SqT X.K H p ys)/\Q (.int ys.length) H):=by
 intro pins s σ H xs us Q I r h;obtain⟨p,ys,rfl,b,q⟩:=h;obtain⟨u,rfl,e⟩:=vals1 r;cases e;have hn:=line63;rcases b with b | b
 ·obtain⟨its,c,pl,d⟩:=I.list b;have a:=c.length;exact Calls.call_len_list pl.isList (by simp only[yl]<;>lia) ⟨.int ys.length,H,I.tok _,⟨s.toks+1,by rw[yl,a]⟩,q⟩
 ·obtain⟨its,c,pl,d⟩:=I.tuple b;have a:=c.length;exact len_tuple pl (by simp only[yl]<;>lia) ⟨.int ys.length,H,I.tok _,⟨s.toks+1,by rw[yl,a]⟩,q⟩
def CallR.or{f:Value}{r a:List V->Hp->VK->Prop}(h:CallR X f r)(h':CallR X f a):CallR X f (λxs H Q=>r xs H Q\/a xs H Q):=by
 intro pins s σ H xs us Q I b q;rcases q with q | q
 ·exact h pins s σ H xs us Q I b q
 ·exact h' pins s σ H xs us Q I b q
def zkl:CallR X (.type "list") (λxs H Q=>∃p ys,xs=[.ref p]/\(SqL X.K H p ys\/SqT X.K H p ys)/\∀l,H l=none->Q (.ref l) (upd H l (.lst ys))):=by
 intro pins s σ H xs us Q I r h;obtain⟨p,ys,rfl,d,q⟩:=h;obtain⟨u,rfl,k⟩:=vals1 r;cases k;have fin:∀(its:List Value),Vals ys its->ys.length<=sizeLine->∀(h':Heap) (c:Nat),(∀b o',s.heap.get? b=some o'->h'.get? b=some o') ->
   h'.get? s.heap.objs.size=some { cls:=.type "list",dict:=none,data:=.seq its.toArray c,slots:=#[] }->EP X pins σ Q (.ref s.heap.objs.size) { s with heap:=h' }:=λits a g h' c kp e=>
  ⟨.ref s.heap.objs.size,_,I.laid (t':=s.toks) kp (yh _) (show ObjOk X.prog X.w _ h' _ (.lst ys) from⟨g,its,c,a,e⟩),rfl,q _ (I.hok.fresh (yh _))⟩
 rcases d with d | d
 ·obtain⟨its,a,pl,g⟩:=I.list d;have f:=a.length;obtain⟨o,i,j,n,hd⟩:=pl.isList;exact call_list_seq p (.inl rfl) i j hd (λh' c kp e=>fin its a g h' c kp e) (by simp only[yl]<;>lia)
 ·obtain⟨its,a,pl,g⟩:=I.tuple d;have f:=a.length;obtain⟨o,i,j,n,hd⟩:=pl;exact call_list_seq p (.inr rfl) i j hd (λh' c kp e=>fin its a g h' c kp e) (by simp only[yl]<;>lia)
def zjB:CallR X (.type "tuple") (λxs H Q=>∃p ys,xs=[.ref p]/\((SqL X.K H p ys/\∀l,H l=none->Q (.ref l) (upd H l (.tup ys)))\/(SqT X.K H p ys/\Q (.ref p) H))):=by
 intro pins s σ H xs us Q I r h;obtain⟨p,ys,rfl,h⟩:=h;obtain⟨u,rfl,i⟩:=vals1 r;cases i;rcases h with⟨hq,q⟩ | ⟨hq,q⟩
 ·obtain⟨its,a,pl,f⟩:=I.list hq;have d:=a.length;refine call_tuple_list pl.isList (λh' kp=>?_) (by simp only[yl]<;>lia);have c:Inv X pins σ H { s with heap:=h' }:=I.kept (t':=s.toks) kp;have g:Inv X pins σ (upd H h'.objs.size (.tup ys)) { s with heap:=h'.push { cls:=.type "tuple",data:=.seq its.toArray } }:=
   c.laid (t':=s.toks) (λb o e=>Heap.get?_push_of_some _ e) (yh _) (show ObjOk X.prog X.w _ _ _ (.tup ys) from⟨f,its,a,IsTup.new _ _⟩)
  exact⟨.ref h'.objs.size,_,g,rfl,q _ (c.hok.fresh (yh _))⟩
 ·obtain⟨its,a,pl,f⟩:=I.tuple hq;exact call_tuple_same pl ⟨.ref p,H,I,rfl,q⟩
noncomputable def tyV (K:Fg) (T:String) (x:V) (H:Hp):Prop:=match x with
 | .str _=>T = "str"
 | .int _=>T = "int"
 | .ref p=>(T = "list" /\ ∃xs,SqL K H p xs)\/(T = "tuple" /\ ∃o,K.lookup p=some o/\o.cls=.type "tuple" /\ o.dict=none) \/
   (T = "dict" /\ ((∃kvs,H p=some (.dK kvs))\/∃kvs,H p=some (.dT kvs)))\/(T = "set" /\ ∃S n,H p=some (.set S n))
 | _=>False
def zpj{T:String}{x:V}{v:Value}(I:Inv X pins σ H s)(r:RelV x v)(ty:tyV X.K T x H) :
  s.TypeIs v T/\∀a,v=.ref a->∃ob,s.heap.get? a=some ob/\ob.dict=none:=by
 cases x with
 | str z=>
  obtain⟨t,rfl⟩:=r
  cases(show T = "str" from ty)
  exact⟨typeIs_str s z t,λ_ e=>nomatch e⟩
 | int i=>
  obtain⟨t,rfl⟩:=r
  cases(show T = "int" from ty)
  exact⟨typeIs_int s i t,λ_ e=>nomatch e⟩
 | ref p=>
  cases r;rcases ty with⟨rfl,xs,hq⟩ | ⟨rfl,o,hk,hc,hd⟩ | ⟨rfl,hk⟩ | ⟨rfl,S,n,hk⟩
  ·obtain⟨its,_,pl,_⟩:=I.list hq;refine⟨pl.isList.typeIs,λa e=>?_⟩;cases e;obtain⟨o,n,e,c,hd,_⟩:=pl;exact⟨o,e,hd⟩
  ·refine⟨⟨o,I.kIn p o hk,hc⟩,λa e=>?_⟩;cases e;exact⟨o,I.kIn _ o hk,hd⟩
  ·have z:∃o,s.heap.get? p=some o/\o.ExactDict:=by
    rcases hk with⟨kvs,hk⟩ | ⟨kvs,hk⟩
    ·obtain⟨_,_,_,_,o,_,_,e,ex,_⟩:=I.hok p _ hk;exact⟨o,e,ex⟩
    ·obtain⟨_,_,_,_,o,_,_,e,ex,_⟩:=I.hok p _ hk;exact⟨o,e,ex⟩
   obtain⟨o,e,ex⟩:=z;refine⟨⟨o,e,ex.1⟩,λa e2=>?_⟩;cases e2;exact⟨o,e,ex.2.1⟩
  ·obtain⟨o,_,_,_,e,ex,_⟩:=I.hok p _ hk;refine⟨⟨o,e,ex.1⟩,λa e2=>?_⟩;cases e2;exact⟨o,e,ex.2.1⟩
 | _=>exact False.elim ty
noncomputable def zmH (K:Fg) (T:String) (r:V->List V->Hp->VK->Prop) (to:TE):TE:=λσ H Q=>to σ H λx H1=>tyV K T x H1/\r x [] H1 Q
noncomputable def tBM (K:Fg) (T:String) (r:V->List V->Hp->VK->Prop) (to:TE) (t:TA):TE:=λσ H Q=>to σ H λx H1=>tyV K T x H1/\t σ H1 λxs H2=>r x xs H2 Q
variable {o e:Expr}{es:List Expr}{to:TE}{t:TA}{name:Str}{apos cpos:Pos}{T id:String}{r:V->List V->Hp->VK->Prop}
def zpd(d:PlainAttrs T)(slot:Slot T name id)(a:typeOf (.builtin id)=pure (.type "method_descriptor"))(f:MtR X id r)(e:PE X o to)
  (hbase:autoParam (attributeBase o name X.env (eval o X.env)=eval o X.env) Internal.aut2._auto_1) (hline:autoParam ((apos.endLine == cpos.line)=true) Internal.aut2._auto_1):PE X (.Call (.Attribute o name apos) [] [] cpos) (zmH X.K T r to):=by
 intro pins s σ H Q I h;refine wpAny_Call_method0_late hbase hline (thn (e pins s σ H _ I h) λv i g=>?_);obtain⟨x,H1,b,c,ty,q1⟩:=g;obtain⟨h1,h2⟩:=zpj b c ty;exact⟨T,id,d,slot,a,h1,h2,Calls.callWith_builtin rfl (PySem.evalArgs_none (f pins i σ H1 x [] v [] Q b c .nil q1))⟩
def zjX(i:PlainAttrs T)(slot:Slot T name id)(a:typeOf (.builtin id)=pure (.type "method_descriptor"))(l:MtR X id r)(j:PE X o to)(k:PA X (e :: es) t)
  (hbase:autoParam (attributeBase o name X.env (eval o X.env)=eval o X.env) Internal.aut2._auto_1)
  (hfew:autoParam (((backTo cpos (starEach (e :: es) X.env)).all (λx=>!x.1)&&(backToKw cpos (keywordEach [] X.env)).all (λx=>x.1.isSome)
   && decide ((e :: es).length+([]:List Keyword).length+(if([]:List Keyword).isEmpty then 0 else 1)<30))=true) Internal.aut2._auto_1)
  (hline:autoParam ((apos.endLine == cpos.line)=true) Internal.aut2._auto_1) (hs:autoParam (starEach (e :: es) X.env=(false,eval e X.env) :: starEach es X.env) Internal.aut2._auto_1) (hplain:autoParam ((backTo cpos (starEach es X.env)).any (·.1)=false) Internal.aut2._auto_1) :
  PE X (.Call (.Attribute o name apos) (e :: es) [] cpos) (tBM X.K T r to t):=by
 intro pins s σ H Q I h;refine wpAny_Call_method_late hbase hfew hline rfl (thn (j pins s σ H _ I h) λv n m=>?_);obtain⟨x,H1,b,c,ty,q1⟩:=m;obtain⟨h1,h2⟩:=zpj b c ty;refine⟨T,id,i,slot,a,h1,h2,?_⟩;have d:=k cpos pins n σ H1 _ b q1;rw[hs]at d ⊢;refine Calls.callWith_builtin (by show(false || (backTo cpos (starEach es X.env)).any (·.1))=false;rw[hplain]<;>rfl) (Calls.evalArgs_plain ?_);exact thn d λus p ⟨vs,H2,f,g,q2⟩=>l pins p σ H2 x vs v us Q f c g q2
/- xs.append(e),list.index on a module's tuple .. are MtR facts of 06m -/
end
noncomputable def MtM (X:Cx) (id:String) (r:V->List V->Hp->VK->Prop):Prop:=
 ∀(pins:List (Addr × Obj)) (s:Shared) (σ:St) (H:Hp) (x:V) (xs:List V) (v:Value) (us:List Value) (Q:VK),Inv X pins σ H s->RelV x v->Vals xs us->r x xs H Q ->
  wpAny (model X.prog X.w) X.A (call (.builtin id) (v :: us)) (EP X pins σ Q) X.xe s
def Vals.one:∀{x:V} {us:List Value},Vals [x] us->∃u,us=[u]/\RelV x u
 | _,_,h=>by
  cases h with
  | cons r t=>cases t;exact⟨_,rfl,r⟩
def Vals.zero:∀{us:List Value},Vals [] us->us=[]
 | _,.nil=>rfl
theorem Vals.eraseIdx:∀{xs:List V} {us:List Value} (i:Nat),Vals xs us->Vals (xs.eraseIdx i) (us.eraseIdx i)
 | _,_,_,.nil=>.nil
 | _,_,0,.cons _ t=>t
 | _,_,i+1,.cons r t=>.cons r (Vals.eraseIdx i t)
theorem Vals.rep{xs:List V}{us:List Value}(h:Vals xs us):∀k:Nat,Vals (List.replicate k xs).flatten (List.replicate k us).flatten
 | 0=>.nil
 | k+1=>by
  rw[yae,yae,yaF,yaF];exact Vals.append h (Vals.rep h k)
theorem zjf{α:Type}:∀(l:List α) (i:Nat),(l.eraseIdx i).length<=l.length
 | [],_=>yh _
 | _ :: _,0=>ybn _
 | _ :: r,i+1=>ye (zjf r i)
theorem zjj(its:List Value):∀(k:Nat) (acc:List Value),
  List.foldl (λa b=>a++b) acc.toArray (List.replicate k its.toArray)=(acc++(List.replicate k its).flatten).toArray
 | 0,acc=>by simp
 | k+1,acc=>by
  have e:acc.toArray++its.toArray=(acc++its).toArray:=by simp
  have e2:(acc++its)++(List.replicate k its).flatten=acc++(List.replicate (k+1) its).flatten:=by
   rw[yae,yaF,yaG]
  rw[<- e2,<- zjj its k (acc++its),<- e,yae,List.foldl_cons]
section
variable {X:Cx}{pins:List (Addr × Obj)}{σ:St}{H:Hp}{s:Shared}{l b:Addr}{xs ys zs:List V}
def Inv.lset{its its':List Value}{n:Nat}{f:Array Value->Array Value}{t':Nat}(I:Inv X pins σ H s)(a:H l=some (.lst xs))
  (e:s.heap.get? l=some { cls:=.type "list",data:=.seq its.toArray n }) (hf:f its.toArray=its'.toArray) (hv:Vals ys its') (hz:ys.length<=sizeLine) :
  Inv X pins σ (upd H l (.lst ys)) { s with heap:=s.heap.update l (Obj.mapSeq f),toks:=t' }:=by
 have q:=PySem.IsL.update e f;rw[hf]at q;refine I.write (x:=l) (e:=l) (by rw[a];exact trivial) (.inl rfl) (λd u c b=>(Heap.get?_update_other s.heap (Obj.mapSeq f) (yaA c)).trans b) ⟨_,q⟩ ?_;exact⟨hz,its',_,hv,q⟩
def Inv.lnew{t':Nat}(I:Inv X pins σ H s)(a:Vals ys its)(b:ys.length<=sizeLine) :
  Inv X pins σ (upd H s.heap.objs.size (.lst ys)) { s with heap:=s.heap.push { cls:=.type "list",data:=.seq its.toArray },toks:=t' }:=
 I.laid (λ_ _ q=>Heap.get?_push_of_some _ q) (yh _) ⟨b,its,0,a,Heap.get?_push_size _ rfl⟩
theorem Inv.fresh(I:Inv X pins σ H s):H s.heap.objs.size=none:=I.hok.fresh (yh _)
def Inv.lstM(I:Inv X pins σ H s)(a:H l=some (.lst xs)):xs.length<=sizeLine/\∃(its:List Value) (n:Nat),Vals xs its/\xs.length=its.length/\s.heap.get? l=some { cls:=.type "list",data:=.seq its.toArray n }:=by
 obtain⟨z,its,n,r,e⟩:=I.hok l _ a;exact⟨z,its,n,r,r.length,e⟩
def zkC(h:n<=sizeLine):Builtin.List.listTooLong n=false:=by
 unfold Builtin.List.listTooLong;exact decide_eq_false ⋯
end
section
variable {X:Cx}
noncomputable def zbb:V->List V->Hp->VK->Prop:=λx vs H Q=>∃l xs y,x=.ref l/\vs=[y]/\H l=some (.lst xs)/\xs.length<sizeLine/\Q .non (upd H l (.lst (xs++[y])))
def zjw:MtM X "list.append" zbb:=by
 intro pins s σ H x vs v us Q I c b h;obtain⟨l,xs,y,rfl,rfl,a,d,q⟩:=h;cases c;obtain⟨u,rfl,ru⟩:=b.one;obtain⟨z,its,n,r,f,e⟩:=I.lstM a;refine call_meets F.slot_list_append ⟨_,e,rfl⟩ F.entry_list_append (F.args_list_append_2 _ _) (PySem.list_append l its.toArray n u (by rw[yl];lia)) ⟨e,?_⟩;refine⟨.non,_,I.lset (its':=its++[u]) a e (by simp) (r.append (.cons ru .nil)) ?_,rfl,q⟩;rw[yf,yW];lia
noncomputable def zmz:V->List V->Hp->VK->Prop:=λx vs H Q=>∃l b xs zs,x=.ref l/\vs=[.ref b]/\H l=some (.lst xs)/\H b=some (.lst zs)/\xs.length+zs.length<=sizeLine/\Q .non (upd H l (.lst (xs++zs)))
def zoi:MtM X "list.extend" zmz:=by
 intro pins s σ H x vs v us Q I k j h;obtain⟨l,b,xs,zs,rfl,rfl,f,m,t,q⟩:=h;cases k;obtain⟨u,rfl,ru⟩:=j.one;cases ru;obtain⟨z,its,n,r,p,e⟩:=I.lstM f;obtain⟨o,a,n2,i,g,e2⟩:=I.lstM m;have d:its.toArray.size+a.toArray.size<=sizeLine:=by rw[yl,yl];lia
 have c:¬(!its.toArray.isEmpty&&Builtin.List.listTooLong (its.toArray.size+a.toArray.size))=true:=by
  rw[zkC d,Bool.and_false];exact yn
 refine call_meets F.slot_list_extend ⟨_,e,rfl⟩ F.entry_list_extend (F.args_list_extend_2 _ _)
  (AutoSeq1.list_extend_list_list_0 l its.toArray n b a.toArray n2 c (by rw[yl];lia) ⋯) ⟨e,e2,?_⟩
 refine⟨.non,_,I.lset (its':=its++a) f e (by simp) (r.append i) ?_,rfl,q⟩;rw[yf];lia
noncomputable def znT:V->List V->Hp->VK->Prop:=λx vs H Q=>∃l xs i k y,x=.ref l/\vs=[.int i]/\H l=some (.lst xs)/\-(2 ^ 63)<=i/\i<2 ^ 63/\seqIndex? i xs.length=some k/\xs[k]?=some y/\Q y (upd H l (.lst (xs.eraseIdx k)))
def zqH:MtM X "list.pop" znT:=by
 intro pins s σ H x vs v us Q I j g h;obtain⟨l,xs,i,k,y,rfl,rfl,b,h1,h2,c,f,q⟩:=h;cases j;obtain⟨u,rfl,ru⟩:=g.one;obtain⟨t,rfl⟩:=ru;obtain⟨z,its,n,r,m,e⟩:=I.lstM b;obtain⟨w,d,a⟩:=r.get f;refine call_meets F.slot_list_pop ⟨_,e,rfl⟩ F.entry_list_pop (F.args_list_pop_2 _ _)
  (MeetsSeq.list_pop_at l its.toArray n i t k w (fitsIndex_both h1 h2) (by rw[yl,<- m];exact c) (by rw[<- Array.getElem?_toList];exact d) (by rw[yl];lia)) ⟨e,?_⟩
 refine⟨y,_,I.lset (its':=its.eraseIdx k) b e ?_ (r.eraseIdx k) ?_,a,q⟩
 ·show its.toArray.eraseIdxIfInBounds k=(its.eraseIdx k).toArray;rw[List.eraseIdxIfInBounds_toArray]
 ·have:=zjf xs k
  lia
noncomputable def zpi:V->List V->Hp->VK->Prop:=λx vs H Q=>∃l xs,x=.ref l/\vs=[]/\H l=some (.lst xs)/\Q .non (upd H l (.lst []))
def zqT:MtM X "list.clear" zpi:=by
 intro pins s σ H x vs v us Q I d c h;obtain⟨l,xs,rfl,rfl,b,q⟩:=h;cases d;have a:=c.zero;subst a;obtain⟨z,its,n,r,f,e⟩:=I.lstM b;refine call_meets F.slot_list_clear ⟨_,e,rfl⟩ F.entry_list_clear (F.args_list_clear_1 _) (AutoSeq1.list_clear_list_0 l its.toArray n (by rw[yl];lia)) ⟨e,?_⟩;exact⟨.non,_,I.lset (its':=[]) (ys:=[]) b e rfl .nil (yI _),rfl,q⟩
noncomputable def ztA:R2:=λx y H Q=>∃l b xs zs,x=.ref l/\y=.ref b/\H l=some (.lst xs)/\H b=some (.lst zs)/\xs.length+zs.length<=sizeLine/\∀p,H p=none->Q (.ref p) (upd H p (.lst (xs++zs)))
def op_cat:OpR X (binaryOp .Add) ztA:=by
 intro pins s σ H x y v u Q I k c h;obtain⟨l,b,xs,zs,rfl,rfl,d,j,o,q⟩:=h;cases k;cases c;obtain⟨z,its,n,r,p,e⟩:=I.lstM d;obtain⟨m,a,n2,f,g,e2⟩:=I.lstM j;refine PySem.P.add_list e e2 ?_ (by rw[yl,yl];lia);have i:its.toArray++a.toArray=(its++a).toArray:=by simp
 rw[i];exact⟨.ref _,_,I.lnew (t':=s.toks) (r.append f) (by rw[yf];lia),rfl,q _ I.fresh⟩
noncomputable def ztb:R2:=λx y H Q=>∃l k xs,x=.ref l/\y=.int k/\H l=some (.lst xs)/\-(2 ^ 63)<=k/\k<2 ^ 63/\xs.length*k.toNat<=sizeLine /\
 ∀p,H p=none->Q (.ref p) (upd H p (.lst (List.replicate k.toNat xs).flatten))
def zr5{α:Type}(xs:List α)(k:Nat):(List.replicate k xs).flatten.length=k*xs.length:=by
 induction k with
 | zero=>simp
 | succ k ih=>rw[yae,yaF,yf,ih,Nat.succ_mul,Nat.add_comm]
def zua:OpR X (binaryOp .Mult) ztb:=by
 intro pins s σ H x y v u Q I B A h;obtain⟨l,k,xs,rfl,rfl,p,h1,h2,o,q⟩:=h;cases B;obtain⟨t,rfl⟩:=A;obtain⟨z,its,n,r,C,e⟩:=I.lstM p;have f:its.toArray.size*k.toNat<=sizeLine:=by rw[yl,<- C];exact o
 have d:¬its.toArray.size*k.toNat>(2 ^ 63-1)/8:=by
  have:(sizeLine:Nat)<=(2 ^ 63-1)/8:=by decide
  lia
 have c:¬(!Builtin.List.listFitsIndex k)=true:=by
  rw[fitsIndex_both h1 h2];exact yn
 have b:¬Builtin.List.listTooLong (its.toArray.size*k.toNat)=true:=by
  rw[zkC f];exact yn
 have g:List.foldl (λi j=>i++j) #[] (List.replicate (if its.toArray.isEmpty=true then 0 else k.toNat) its.toArray)=(List.replicate k.toNat its).flatten.toArray:=by
  have w:∀m:Nat,List.foldl (λi j=>i++j) #[] (List.replicate m its.toArray)=(List.replicate m its).flatten.toArray:=λm=>by
   have:=zjj its m []
   rw[List.nil_append]at this;exact this
  rw[w];cases its with
  | nil=>simp
  | cons a r'=>rw[if_neg (by simp)]
 refine wpAny_binaryOp_repeat_ref (T := "list") (U := "int") (by decide) ⟨_,e,rfl⟩ (λs'=>typeIs_int s' k t) noFill_list_mul F.fills_int_mul F.slot_int_rmul repeat_list F.slot_int_index.lookup
  (call_meets F.slot_int_rmul (typeIs_int s k t) F.entry_int_rmul (F.args_int_rmul_2 _ _) (int___rmul___int_list k t l its.toArray n)
   ⟨e,rfl,⟨_,e,rfl⟩,call_meets F.slot_list_mul ⟨_,e,rfl⟩ F.entry_list_mul (F.args_list_mul_2 _ _) (AutoListH.list___mul___list_int_3 l its.toArray n k t c d b) ⟨e,?_⟩⟩)
 rw[g];exact⟨.ref _,_,I.lnew (t':=s.toks) (r.rep k.toNat) (by rw[zr5,Nat.mul_comm];exact o),rfl,q _ I.fresh⟩
end
section
variable {prog:Program}{w:World}{A:Around}{E:Value->Shared->Prop}{s:Shared}
end
section
variable {X:Cx}
end
end Internal
namespace Att
variable {h:Heap}{n:Nat}
open PySem PySem.W PySem.Calls PyProof.Rows
def zht{P:Params}:∀(ns:List Int) (vs:List Value),WellAll P h vs (ns.map WData.int)->IntsAre vs ns:=by
 intro ns
 induction ns with
 | nil=>
  intro vs w;rw[List.map_nil]at w;cases w;exact .nil
 | cons n ns ih=>
  intro vs w;rw[yH]at w;cases w with
  | cons a b=>
   cases a;exact .cons _ _ (ih _ b)
def script_of{l:OpenLaw}(hn:l.most=some n){P:Params}{h:Heap}{args:List WData}{b:List Value}
  (hpre:l.row.toRowW.claim.pre args=true) (hwl:WellAll P h b args) :
  ∃a vs ns,b=[Value.ref a]/\args=[WData.list (ns.map WData.int)]/\h.get? a=some { cls:=.type "list",data:=.seq vs.toArray }/\IntsAre vs ns/\ns.length<=n:=by
 have g:WShape.hasAll [] args [.list .int]=true:=(pre_splitW hpre).1;have i:l.pre.holds [] { args:=args }=true:=(pre_splitW hpre).2;obtain⟨d,r,rfl,h1,h2⟩:=hasAllW_cons g;obtain rfl:=hasAllW_nil h2;obtain⟨xs,rfl,j⟩:=hasW_list h1;obtain⟨ns,rfl⟩:=items_int j;have c:ns.length<=n:=by
  unfold OpenLaw.pre at i;have e:(WTm.not (.lt (.lit (.int (n:Int))) (.len (.arg 0)))).holds [] { args:=[.list (ns.map .int)] }=true:=by
   have e:=(holds_andW i).1;rw[hn]at e;exact e
  have f:=condW_of e (w_not (w_lt w_lit (w_len_list (w_arg rfl))));rw[yb]at f;refine Nat.le_of_not_lt λq=>?_;have q':(n:Int)<((ns.length:Nat):Int):=by lia
  first
   | (rw[decide_eq_true q']at f;exact absurd f (by decide))
   | (simp at f;lia)
 cases hwl with
 | cons w1 w2=>
  cases w2;cases w1 with
  | list ho hall=>exact⟨_,_,ns,rfl,rfl,ho,zht ns _ hall,c⟩
def post_true(l:OpenLaw)(args:List WData):l.row.toRowW.claim.post args (.bool true) args=true:=
 postW_of (r:=l.row.toRowW) (X:=(true == true))
  (show WShape.has [] (.bool true) .bool=true by first | rfl | decide | simp[WShape.has,WShape.arms,WShape.armsAll])
  (show(WTm.eq .res (.lit (.bool true))).value [] { args:=args,res:=some (.bool true),after:=args }=some (.bool (true == true))from w_eq_bool (w_res rfl) w_lit) rfl
section
variable {prog:Program}{w:World}{A:Around}{E:Value->Shared->Prop}{s:Shared}{K:Frag}
noncomputable def ledger (h:Heap) (L d:Addr):List (Addr × Obj):=(List.range h.objs.size).filterMap λa=>if a=L\/a=d then none else(h.get? a).map λo=>(a,o)
end
end Att
namespace Internal
variable {H H' H1 H2:Hp}{K:Fg}{a:Addr}{fd:FuncData}{h:Heap}{m n:Nat}{qual x:Str}{st:Stmt}{xs:List V}
open PySem PySem.Spec PyProof.Rows
theorem zfF:∀{vs:List Value} {ns:List Int},IntsAre vs ns->Vals (ns.map V.int) vs
 | _,_,.nil=>.nil
 | _,_,.cons n t h=>.cons ⟨t,rfl⟩ (zfF h)
noncomputable def zve (H:Hp):Prop:=∀b,H b=none\/∃o xs,H b=some (.frz o (.lst xs))
abbrev KOf(_:K.In h):Fg:=K
noncomputable def zaa (s:Stmt) (j:Nat):Stmt:=match s with
 | .ClassDef _ _ _ body _ _ _ _ _ _ _=>body.getD j (.Pass ⟨0,0,0,0⟩)
 | _=>.Pass ⟨0,0,0,0⟩
noncomputable def zbT (s:Stmt):Arguments:=match s with
 | .FunctionDef _ a _ _ _ _ _ _ _ _=>a
 | _=>{ posonlyargs:=[],args:=[],vararg:=none,kwonlyargs:=[],kw_defaults:=[],kwarg:=none,defaults:=[] }
noncomputable def zbe (s:Stmt):List Stmt:=match s with
 | .FunctionDef _ _ b _ _ _ _ _ _ _=>b
 | _=>[]
noncomputable def zj (s:Stmt):Scope:=match s with
 | .FunctionDef _ _ _ _ _ _ sc _ _ _=>sc
 | _=>{ kind:=.function,names:=[],isGenerator:=false,isCoroutine:=false }
abbrev CX0:CXT:=λ_ _ _ _ _ _=>False
abbrev E0:XK:=λ_ _ _=>False
set_option genInjectivity false in
set_option genSizeOf false in
structure Fun(K:Fg)(x qual:Str)(st:Stmt)(f:Addr)(fd:FuncData):Prop where
 ex:∃(oc:Value) (od:Option Addr) (kV doc pm:Value) (an:Option Addr) (cdv ct:Value) (osl:Array (Option Value)),
  fd=PySem.W.fnOf x qual (zbT st) (zbe st) (zj st) .none kV doc pm an cdv ct/\K.lookup f=some ⟨oc,od,.func fd,osl⟩/\PySem.W.codeIn K cdv qual=true
 kp:PySem.W.keepIn K (.ref f)=true
section
variable {P:Program}{w:World}{K:Fg}{mg:Str->Option Value}{base:Heap}
def Fun.binds{f:Addr}{ps:List Str}(F:Fun K x qual st f fd)
  (h:∀(kV a d:Value) (c:Option Addr) (b ct:Value) (us:List Value),us.length=ps.length->bindArgs (PySem.W.fnOf x qual (zbT st) (zbe st) (zj st) .none kV a d c b ct) ⟨us,[]⟩=pure (ps.zip us)):Binds K fd ps []:=by
 obtain⟨j,od,kV,a,d,c,b,ct,g,rfl,i,e⟩:=F.ex;exact .all (h kV a d c b ct)
def zhz{f:Addr}{h:Value}{od e:Option Addr}{d:Array (Option Value)}{kV b g a ct:Value}(l:K.lookup f=some ⟨h,od,.func (PySem.W.fnOf x qual (zbT st) (zbe st) (zj st) .none kV b g e a ct),d⟩)
  (c:PySem.W.codeIn K a qual=true) (k:PySem.W.keepIn K (.ref f)=true):Fun K x qual st f (PySem.W.fnOf x qual (zbT st) (zbe st) (zj st) .none kV b g e a ct):=⟨⟨h,od,kV,b,g,e,a,ct,d,rfl,l,c⟩,k⟩
end
section
variable {X:Cx}
def pv(i:Nat){pos:Pos}(b:autoParam (X.N[i]?=some x) Internal.aut2._auto_1)(a:Vis X.env.scope x:=by first | exact Or.inl rfl | exact Or.inr (Or.inl rfl) | exact Or.inr (Or.inr rfl))(hd:autoParam ((x == ("__debug__" : Str))=false) Internal.aut1._auto_1)
  (hcd:autoParam ((x == ("__classdict__" : Str))=false) Internal.aut1._auto_1):PE X (.Name x pos) (zk5 i):=ztT b a hd hcd
end
noncomputable def Same (H H':Hp):Prop:=∀b o,H b=some o->H' b=some o
def Same.refl(H:Hp):Same H H:=λ_ _ h=>h
def Same.trans(a:Same H H1)(b:Same H1 H2):Same H H2:=λc o h=>b c o (a c o h)
def Same.seq(e:Same H H')(h:SqL K H a xs):SqL K H' a xs:=by
 rcases h with(h | ⟨o,h⟩) | h
 ·exact .inl (.inl (e _ _ h))
 ·exact .inl (.inr ⟨o,e _ _ h⟩)
 ·exact .inr h
namespace BT
theorem abs:bootBuiltins "abs" = some (.builtin "abs"):=by decide +kernel
theorem len:bootBuiltins "len" = some (.builtin "len"):=by decide +kernel
theorem max:bootBuiltins "max" = some (.builtin "max"):=by decide +kernel
theorem min:bootBuiltins "min" = some (.builtin "min"):=by decide +kernel
theorem sum:bootBuiltins "sum" = some (.builtin "sum"):=by decide +kernel
theorem sorted:bootBuiltins "sorted" = some (.builtin "sorted"):=by decide +kernel
theorem isinstance:bootBuiltins "isinstance" = some (.builtin "isinstance"):=by decide +kernel
theorem int:bootBuiltins "int" = some (.type "int"):=by decide +kernel
theorem bool:bootBuiltins "bool" = some (.type "bool"):=by decide +kernel
theorem list:bootBuiltins "list" = some (.type "list"):=by decide +kernel
theorem tuple:bootBuiltins "tuple" = some (.type "tuple"):=by decide +kernel
theorem ValueError:bootBuiltins "ValueError" = some (.type "ValueError"):=by decide +kernel
end BT
noncomputable def sz (i:Int):Nat:=Builtin.Int.intBits i
def sz_le{i:Int}:sz i<=n↔i.natAbs<2 ^ n:=by
 unfold sz Builtin.Int.intBits;by_cases h:i=0
 ·subst h;simp;exact Nat.two_pow_pos n
 ·have h':(i == 0)=false:=by simp[h]
  rw[h',if_neg (by decide)];have hn:i.natAbs≠0:=by lia
  rw[<- Nat.log2_lt hn];lia
def zu0(i:Int):i.natAbs<2 ^ sz i:=sz_le.mp (yh _)
def zfP{i j:Int}(h:i.natAbs<=j.natAbs):sz i<=sz j:=sz_le.mpr (yC h (zu0 j))
def zhi(i:Int):sz (-i)<=sz i:=zfP ⋯
def zum{i j:Int}(h1:sz i<=n)(h2:sz j<=n):sz (i+j)<=n+1:=by
 rw[sz_le]at *;rw[Nat.pow_succ];lia
def zdY{i j:Int}(h1:sz i<=n)(h2:sz j<=m):sz (i*j)<=n+m:=by
 rw[sz_le]at *
 rw[Int.natAbs_mul,Nat.pow_add];exact Nat.mul_lt_mul'' h1 h2
def zig(i j:Int):(i/j).natAbs<=i.natAbs:=Int.natAbs_ediv_le_natAbs i j
def zbH(i j:Int):sz (i/j)<=sz i:=zfP (zig i j)
def zaO{i:Int}(h:i.natAbs<2 ^ n):sz i<=n:=sz_le.mpr h
def sz200{i:Int}(h1:-1606938044258990275541962092341162602522202993782792835301376<i)(h2:i<1606938044258990275541962092341162602522202993782792835301376):sz i<=200:=zaO (by
 have:(2:Nat) ^ 200=1606938044258990275541962092341162602522202993782792835301376:=by decide
 lia)
section
variable {X:Cx}
noncomputable def CMulS (i j:Int):Prop:=sz i+sz j<=134217728
def CMulS.ok{i j:Int}(h:CMulS i j):IntMulOk i j:=by
 unfold IntMulOk;have e:Builtin.Int.intTooBig (((Builtin.Int.intBits i:Nat):Int)+((Builtin.Int.intBits j:Nat):Int))=false:=by
  unfold Builtin.Int.intTooBig;have a:bitsLine=134217728:=by decide
  rw[decide_eq_false];rw[a];unfold CMulS sz at h;lia
 rw[e];simp
def CMulS.of{i j:Int}(h1:sz i<=n)(h2:sz j<=m)(h:n+m<=134217728):CMulS i j:=by unfold CMulS;lia
def op_mulS:OpR X (binaryOp .Mult) (rI CMulS λi j=>.int (i*j)):=opI λ_ _ _ _ _ _ _ a q=>mul_int q a.ok
noncomputable def zdJ:R2:=λx y H Q=>rI CMulS (λi j=>.int (i*j)) x y H Q\/ztb x y H Q
def zab:OpR X (binaryOp .Mult) zdJ:=op_mulS.or zua
noncomputable def zhp (K:Fg):R2:=λx y H Q=>rI0 (λi j=>.int (i+j)) x y H Q\/ztA x y H Q\/zrj K x y H Q
def zr9:OpR X (binaryOp .Add) (zhp X.K):=op_add.or (op_cat.or zrN)
noncomputable def zuW (i j:Int):Prop:=j≠0/\(sz j<=9000\/sz i<=sz j+4500)
noncomputable def zj2:R2:=rI zuW λi j=>.int (i.fdiv j)
def zow{j:Int}(h:j≠0):sz j=j.natAbs.log2+1:=by
 have a:j.natAbs≠0:=by lia
 have h1:sz j<=j.natAbs.log2+1:=sz_le.mpr (Nat.lt_log2_self);have h2:¬sz j<=j.natAbs.log2:=λz=>by
  have:=sz_le.mp z
  have:=Nat.log2_self_le a
  lia
 lia
def zjI{i j:Int}(b:j≠0)(h:sz i<=sz j+4500):Builtin.divisionGoesByPylong i j=false:=by
 have d:(j == 0)=false:=by simpa using b
 have a:(if i == 0 then 0 else i.natAbs.log2/30+1)<=(if j == 0 then 0 else j.natAbs.log2/30+1)+150:=by
  rw[d];by_cases hi:i=0
  ·have:(i == 0)=true:=by simpa using hi
   rw[this];exact yI _
  ·have c:(i == 0)=false:=by simpa using hi
   rw[c];rw[zow hi,zow b]at h;show i.natAbs.log2/30+1<=j.natAbs.log2/30+1+150;lia
 show(decide (_>300)&&decide ((if i == 0 then 0 else i.natAbs.log2/30+1)>(if j == 0 then 0 else j.natAbs.log2/30+1)+150))=false
 rw[decide_eq_false (ybc.mpr a),Bool.and_false]
def zaW:OpR X (binaryOp .FloorDiv) zj2:=opI λi j _ _ _ _ _ a q=>floordiv_int a.1 q (.inl (a.2.elim (λh=>PyProof.noPylong_of_log2 (by
 have h1:=sz_le.mp h;by_cases b:j.natAbs=0
 ·rw[b];decide
 ·exact(Nat.log2_lt b).mpr h1)) (zjI a.1)))
noncomputable def znf:R2:=rI (λ_ j=>j≠0) λi j=>.int (i.fmod j)
def zbV:OpR X (binaryOp .Mod) znf:=zrC
mutual
inductive RepD(K:Fg)(H:Hp):V->PyData->Prop
 | non:RepD K H .non .none
 | bl (b:Bool):RepD K H (.bl b) (.bool b)
 | int (i:Int):RepD K H (.int i) (.int i)
 | str (x:Str) (ok:PyData.canLay0 (.str x)=true):RepD K H (.str x) (.str x)
 | lst {a:Addr} {vs:List V} {ds:List PyData}:SqL K H a vs->RepAll K H vs ds->RepD K H (.ref a) (.list ds)
 | tup {a:Addr} {vs:List V} {ds:List PyData}:SqT K H a vs->RepAll K H vs ds->RepD K H (.ref a) (.tuple ds)
inductive RepAll(K:Fg)(H:Hp):List V->List PyData->Prop
 | nil:RepAll K H [] []
 | cons {v:V} {d:PyData} {vs:List V} {ds:List PyData}:RepD K H v d->RepAll K H vs ds->RepAll K H (v :: vs) (d :: ds)
end
mutual
theorem RepD.reads{pins:List (Addr × Obj)}{σ:St}{H:Hp}{s:Shared}(I:Inv X pins σ H s):∀{v:V} {d:PyData} {u:Value},RepD X.K H v d->RelV v u->∃as,Reads s.heap u d as
 | _,_,_,.non,r=>by cases(show _=Value.none from r);exact⟨_,.none⟩
 | _,_,_,.bl b,r=>by cases(show _=Value.bool b from r);exact⟨_,.bool b⟩
 | _,_,_,.int i,r=>by obtain⟨t,rfl⟩:=(show ∃t,_=Value.int i t from r);exact⟨_,.int i t⟩
 | _,_,_,.str x _,r=>by obtain⟨t,rfl⟩:=(show ∃t,_=Value.str x t from r);exact⟨_,.str x t⟩
 | _,_,_,.lst h k,r=>by
  cases(show _=Value.ref _ from r)
  obtain⟨its,c,⟨o,n,h1,h2,_,a⟩,_⟩:=I.list h;obtain⟨as,q⟩:=RepAll.reads I k c;exact⟨_,.list h1 h2 a (by simpa using q)⟩
 | _,_,_,.tup h k,r=>by
  cases(show _=Value.ref _ from r)
  obtain⟨its,c,⟨o,h1,h2,n,a⟩,_⟩:=I.tuple h;obtain⟨as,q⟩:=RepAll.reads I k c;exact⟨_,.tuple h1 h2 a (by simpa using q)⟩
theorem RepAll.reads{pins:List (Addr × Obj)}{σ:St}{H:Hp}{s:Shared}(I:Inv X pins σ H s):∀{vs:List V} {ds:List PyData} {us:List Value},RepAll X.K H vs ds->Vals vs us->∃as,ReadsAll s.heap us ds as
 | _,_,_,.nil,.nil=>⟨_,.nil⟩
 | _,_,_,.cons h k,.cons r t=>by
  obtain⟨as,q⟩:=RepD.reads I h r;obtain⟨bs,p⟩:=RepAll.reads I k t;exact⟨_,.cons q p⟩
end
mutual
theorem RepD.lay{K:Fg}{H:Hp}:∀{v:V} {d:PyData},RepD K H v d->d.canLay0=true
 | _,_,.non=>rfl
 | _,_,.bl _=>rfl
 | _,_,.int _=>rfl
 | _,_,.str _ ok=>ok
 | _,_,.lst _ k=>by rw[PyData.canLay0];exact RepAll.lay k
 | _,_,.tup _ k=>by rw[PyData.canLay0];exact RepAll.lay k
theorem RepAll.lay{K:Fg}{H:Hp}:∀{vs:List V} {ds:List PyData},RepAll K H vs ds->PyData.canLayAll0 ds=true
 | _,_,.nil=>rfl
 | _,_,.cons h k=>by rw[PyData.canLayAll0,RepD.lay h,RepAll.lay k];rfl
end
def Same.seqT{K:Fg}{H H':Hp}{a:Addr}{xs:List V}(e:Same H H')(h:SqT K H a xs):SqT K H' a xs:=by
 rcases h with(h | ⟨o,h⟩) | h
 ·exact .inl (.inl (e _ _ h))
 ·exact .inl (.inr ⟨o,e _ _ h⟩)
 ·exact .inr h
mutual
theorem Same.rep{K:Fg}{H H':Hp}(e:Same H H'):∀{v:V} {d:PyData},RepD K H v d->RepD K H' v d
 | _,_,.non=>.non
 | _,_,.bl b=>.bl b
 | _,_,.int i=>.int i
 | _,_,.str x ok=>.str x ok
 | _,_,.lst h k=>.lst (e.seq h) (e.repAll k)
 | _,_,.tup h k=>.tup (e.seqT h) (e.repAll k)
theorem Same.repAll{K:Fg}{H H':Hp}(e:Same H H'):∀{vs:List V} {ds:List PyData},RepAll K H vs ds->RepAll K H' vs ds
 | _,_,.nil=>.nil
 | _,_,.cons h k=>.cons (e.rep h) (e.repAll k)
end
noncomputable def zdh (K:Fg):R2:=λx y H Q=>(∃d e,RepD K H x d/\RepD K H y e/\min d.depth e.depth<=60/\Q (.bl (PyData.eqv d e)) H)\/rEq x y H Q
noncomputable def zen (K:Fg):R2:=λx y H Q=>(∃d e,RepD K H x d/\RepD K H y e/\min d.depth e.depth<=60/\Q (.bl (!PyData.eqv d e)) H)\/rNe x y H Q
def zs5(g:X.A.units+64<cLine):OpR X (compareOp .Eq) (zdh X.K):=by
 refine OpR.or ?_ zuU;intro pins s σ H x y v u Q I f a h;obtain⟨d,e,h1,h2,hd,q⟩:=h;obtain⟨as,b⟩:=h1.reads I f;obtain⟨bs,c⟩:=h2.reads I a;exact PySem.SeqAt.compareEq_reads b c h1.lay h2.lay ⋯ ⟨.bl _,H,I,rfl,q⟩
def ztz(g:X.A.units+64<cLine):OpR X (compareOp .NotEq) (zen X.K):=by
 refine OpR.or ?_ zuM;intro pins s σ H x y v u Q I f a h;obtain⟨d,e,h1,h2,hd,q⟩:=h;obtain⟨as,b⟩:=h1.reads I f;obtain⟨bs,c⟩:=h2.reads I a;exact PySem.SeqAt.compareNe_reads b c h1.lay h2.lay ⋯ ⟨.bl _,H,I,rfl,q⟩
noncomputable def zhT (K:Fg):List V->Hp->VK->Prop:=λxs H Q=>∃x c t b cv,xs=[x,c]/\RelV c cv/\TyOf K H x t/\PySem.W.kitOne K t cv=some b/\Q (.bl b) H
def zlG:CallR X (.builtin "isinstance") (zhT X.K):=by
 intro pins s σ H xs us Q I r h;obtain⟨x,c,t,b,cv,rfl,f,ty,e,q⟩:=h;obtain⟨u,d,rfl,i,g⟩:=vals2 r;have j:d=cv:=by
  cases c with
  | ty n=>exact(show d=_ from g).trans (show cv=_ from f).symm
  | ref a=>exact(show d=_ from g).trans (show cv=_ from f).symm
  | non=>exact(show d=_ from g).trans (show cv=_ from f).symm
  | bl b=>exact(show d=_ from g).trans (show cv=_ from f).symm
  | _=>obtain⟨_,rfl⟩:=f;simp[PySem.W.kitOne,PySem.W.kitCls]at e;cases ty<;>simp at e
 subst j;exact zoD I i ty e λtk=>⟨.bl b,H,I.tok tk,rfl,q⟩
noncomputable def znk (K:Fg) (ta:TE):TE:=λσ H Q=>ta σ H λx H1=>∃k,zh2 K x H1 k/\Q (.bl (!k)) H1
def zrR{a:Expr}{ta:TE}{pos:Pos}(g:PE X a ta):PE X (.UnaryOp .Not a pos) (znk X.K ta):=by
 intro pins s σ H Q I h;refine UnaryOp_ (thn (g pins s σ H _ I h) λv j i=>?_);obtain⟨x,H1,e,f,k,b,q1⟩:=i;exact not_of (thn (zpm pins j σ H1 x v (λc H2=>Q (.bl (!c)) H2) e f ⟨k,b,q1⟩) λc l ⟨H2,d,q2⟩=>⟨.bl (!c),H2,d,rfl,q2⟩)
end
noncomputable def zsZ:List V->Hp->VK->Prop:=λxs H Q=>∃i,xs=[.int i]/\Q (.int (if i<0 then -i else i)) H
noncomputable def zm0 (K:Fg):List V->Hp->VK->Prop:=λxs H Q=>∃p ys,xs=[.ref p]/\(SqL K H p ys\/SqT K H p ys)/\Q (.int ys.length) H
noncomputable def zqY:List V->Hp->VK->Prop:=λxs H Q=>∃i j,xs=[.int i,.int j]/\Q (.int (if j>i then j else i)) H
noncomputable def zre:List V->Hp->VK->Prop:=λxs H Q=>∃i j,xs=[.int i,.int j]/\Q (.int (if j<i then j else i)) H
noncomputable def zcY (K:Fg):List V->Hp->VK->Prop:=λxs H Q=>∃p ys,xs=[.ref p]/\(SqL K H p ys\/SqT K H p ys)/\∀l,H l=none->Q (.ref l) (upd H l (.lst ys))
noncomputable def zgB (K:Fg):List V->Hp->VK->Prop:=λxs H Q=>∃p ys,xs=[.ref p]/\((SqL K H p ys/\∀l,H l=none->Q (.ref l) (upd H l (.tup ys)))\/(SqT K H p ys/\Q (.ref p) H))
section
variable {X:Cx}
def zjs:CallR X (.builtin "abs") zsZ:=zqu
def zoX:CallR X (.builtin "len") (zm0 X.K):=zks
def znK(a:X.calm=true):CallR X (.builtin "max") zqY:=zon a
def zcF(a:X.calm=true):CallR X (.builtin "min") zre:=zoL a
def znF:CallR X (.type "list") (zcY X.K):=zkl
def zlS:CallR X (.type "tuple") (zgB X.K):=zjB
abbrev ztL(K:Fg)(ta:TE):TT:=λσ H Q=>ta σ H λx H'=>∃k,zh2 K x H' k/\Q k H'
def zok{a:Expr}{ta:TE}(b:PE X a ta)(c:∀whole,isTrue a X.env whole=(do let v <- whole;standAt a.pos;holding [v] (truthy v))):PT X a (ztL X.K ta):=zpV b c
end
noncomputable def zpB (t u:TS):TS:=λD σ H=>∃M:St->Hp->Prop,t { D with nx:=M } σ H/\∀σ' H',M σ' H'->u D σ' H'
def zbE{X:Cx}{st:Stmt}{rest:List Stmt}{t u:TS}(h1:PS X st t)(h2:PSs X rest u):PSs X (st :: rest) (zpB t u):=by
 intro pins s σ H D I h;obtain⟨M,b,c⟩:=h;refine wpAny_execs_cons (thn (h1 pins s σ H _ I b) λf d q=>?_);cases f with
 | next=>
  obtain⟨a,H',e,q'⟩:=q;exact h2 pins d a H' D e (c a H' q')
 | brk=>exact q
 | cont=>exact q
 | ret u=>exact q
noncomputable def NoX (CX:CXT):Prop:=∀(outer:List Env) (H:Hp) (s:Shared) (e:Value) (s':Shared),CX outer H s E0 e s'->False
def zao{CX:CXT}{X:Cx}(h:NoX CX):zcH CX X E0:=λ_ _ H s e s' _ q=>(h _ H s e s' q).elim
def Fun.okN{P:Program}{w:World}{K:Fg}{mg:Str->Option Value}{base:Heap}{CX:CXT}{x qual:Str}{st:Stmt}{f:Addr}{fd:FuncData}{N ps:List Str}{k:Nat}{sp:Sp}(F:Fun K x qual st f fd)(S:FnScope N ps (zj st))(len:∀vs H Q E,sp vs H Q E->vs.length=ps.length)
  (hbody:∀(a:Value) (A:Around) (outer:List Env) (s:Shared) (H:Hp) (vs:List V) (Q:VK) (E:XK),Room k (A.deeper (envOfC qual (zj st) s.heap.objs.size f a))->sp vs H Q E ->
   ∃t,PSs (zat CX P w K mg base N qual (zj st) f a A outer s H E).nox (zbe st) t/\t { nx:=λ_ H'=>Q .non H',rt:=Q } (start N vs) H):FnOk P w K mg base CX (k+1) f fd ps sp:=by
 obtain⟨m,od,kV,g,l,j,a,ct,d,rfl,i,c⟩:=F.ex;refine zmI i c S len λA outer s H vs Q E e b=>?_;obtain⟨t,h,q⟩:=hbody a A outer s H vs Q E e b;exact⟨t,h.nox,q⟩
section
variable {σ:St}{H:Hp}{Q:VK}{D:Ends}{ta tb tc te:TE}{t u:TS}{K:Fg}
def zuA{i:Nat}{v:V}(e:σ[i]?=some (some v))(q:Q v H):zk5 i σ H Q:=⟨v,e,q⟩
def x_c{v:V}(q:Q v H):tC v σ H Q:=q
def zvB{g:Int->Int->V}{i j:Int}(q:Q (g i j) H):rI0 g (.int i) (.int j) H Q:=⟨i,j,rfl,rfl,q⟩
def zux{i j:Int}(q:Q (.int (i+j)) H):zhp K (.int i) (.int j) H Q:=.inl ⟨i,j,rfl,rfl,q⟩
def zm1{i j:Int}(c:CMulS i j)(q:Q (.int (i*j)) H):zdJ (.int i) (.int j) H Q:=.inl ⟨i,j,rfl,rfl,c,q⟩
def zri{i j:Int}(b:0<j)(a:sz j<=9000)(q:Q (.int (i/j)) H):zj2 (.int i) (.int j) H Q:=
 ⟨i,j,rfl,rfl,⟨⋯,.inl a⟩,by show Q (.int (i.fdiv j)) H;rw[Int.fdiv_eq_ediv_of_nonneg _ (yak b)];exact q⟩
def zoY{i j:Int}(b:j≠0)(a:sz j<=9000)(q:Q (.int (i.fdiv j)) H):zj2 (.int i) (.int j) H Q:=⟨i,j,rfl,rfl,⟨b,.inl a⟩,q⟩
def zuL{i j:Int}(a:0<j)(q:Q (.int (i%j)) H):znf (.int i) (.int j) H Q:=
 ⟨i,j,rfl,rfl,⋯,by show Q (.int (i.fmod j)) H;rw[Int.fmod_eq_emod_of_nonneg _ (yak a)];exact q⟩
def zut{i j k:Int}(c:zmK i j)(e:i ^ j.toNat=k)(q:Q (.int k) H):rI zmK (λi j=>.int (i ^ j.toNat)) (.int i) (.int j) H Q:=⟨i,j,rfl,rfl,c,by show Q (.int (i ^ j.toNat)) H;rw[e];exact q⟩
def zuS{i:Int}(q:Q (.int (-i)) H):rU (λi=>.int (-i)) (.int i) H Q:=⟨i,rfl,q⟩
def dI{i j:Int}:decide (V.int i=V.int j)=decide (i=j):=by simp
def zrs{i j:Int}(q:Q (.bl (decide (i=j))) H):zdh K (.int i) (.int j) H Q:=.inr ⟨rfl,by rw[dI];exact q⟩
def zuT{i j:Int}(q:Q (.bl (!decide (i=j))) H):zen K (.int i) (.int j) H Q:=.inr ⟨rfl,by rw[dI];exact q⟩
def zjZ{x y:V}{d e:PyData}(h1:RepD K H x d)(h2:RepD K H y e)(hd:min d.depth e.depth<=60)(q:Q (.bl (PyData.eqv d e)) H):zdh K x y H Q:=.inl ⟨d,e,h1,h2,hd,q⟩
def zmT{x y:V}{d e:PyData}(h1:RepD K H x d)(h2:RepD K H y e)(hd:min d.depth e.depth<=60)(q:Q (.bl (!PyData.eqv d e)) H):zen K x y H Q:=.inl ⟨d,e,h1,h2,hd,q⟩
def zb7{a:Addr}{xs:List V}{i:Int}{v:V}(h:SqL K H a xs)(e:atI xs i=some v)(q:Q v H):rIx K (.ref a) (.int i) H Q:=.inl ⟨a,xs,i,v,rfl,rfl,h,e,q⟩
def zm4{a:Addr}{xs:List V}{i:Int}{v:V}(h:SqT K H a xs)(e:atI xs i=some v)(q:Q v H):rIx K (.ref a) (.int i) H Q:=.inr (.inl ⟨a,xs,i,v,rfl,rfl,h,e,q⟩)
def zvp{T:Bool->Prop}{b:Bool}(q:T b):∃k,V.bl b=.bl k/\T k:=⟨b,rfl,q⟩
def zt1{T:Bool->Prop}{b:Bool}(q:T b):∃k,zh2 K (.bl b) H k/\T k:=⟨b,rfl,q⟩
def ztK(q:ta σ H λx H1=>∃c,x=.bl c/\if c=true then tb σ H1 Q else Q (.bl false) H1):zqZ ta tb σ H Q:=q
def zsR(q:ta σ H λx H1=>∃k,zh2 K x H1 k/\Q (.bl (!k)) H1):znk K ta σ H Q:=q
def zuu{p:Prop}[Decidable p]{A B:Prop}(h1:p->A)(h2:¬p->B):if decide p=true then A else B:=by
 by_cases h:p
 ·rw[if_pos (decide_eq_true h)];exact h1 h
 ·rw[if_neg (by rw[decide_eq_false h];exact yn)];exact h2 h
def ztl{p:Prop}[Decidable p]{A B:Prop}(h1:¬p->A)(h2:p->B):if(!decide p)=true then A else B:=by
 by_cases h:p
 ·rw[if_neg (by rw[decide_eq_true h];exact yn)];exact h2 h
 ·rw[if_pos (by rw[decide_eq_false h];rfl)];exact h1 h
def ze7{A B:Prop}(h:A):if true=true then A else B:=by rw[if_pos rfl];exact h
def zle{A B:Prop}(h:B):if false=true then A else B:=by rw[if_neg yn];exact h
def zrY{A B:Prop}(h:B):if(!true)=true then A else B:=zle h
def zsB{A B:Prop}(h:A):if(!false)=true then A else B:=ze7 h
def zcS(M:St->Hp->Prop)(q:t { D with nx:=M } σ H)(r:∀σ' H',M σ' H'->u D σ' H'):zpB t u D σ H:=⟨M,q,r⟩
def zuK(q:te σ H D.rt):zs3 te D σ H:=q
def zT{R:List V->Hp->Prop}(q:R [] H):zfE σ H R:=q
def ztH{sp:Sp}{E:XK}{tr:TA}(q:tr σ H λvs H1=>sp vs H1 Q E):zhm sp [] E tr σ H Q:=by unfold zhm;simp only[y6];exact q
noncomputable def zfm (Q:VK) (xs:List V) (H:Hp):Prop:=xs.length<=sizeLine/\∀p,H p=none->Q (.ref p) (upd H p (.tup xs))
noncomputable def zqw (Q:VK) (xs:List V) (H:Hp):Prop:=xs.length<=sizeLine/\∀p,H p=none->Q (.ref p) (upd H p (.lst xs))
def zuE{tr:TA}(q:tr σ H (zfm Q)):zur tr σ H Q:=q
def zus{tr:TA}(q:tr σ H (zqw Q)):zsU tr σ H Q:=q
def zu5{i:Int}(q:Q (.int (if i<0 then -i else i)) H):zsZ [.int i] H Q:=⟨i,rfl,q⟩
def zt9{a:Addr}{xs:List V}(h:SqL K H a xs)(q:Q (.int xs.length) H):zm0 K [.ref a] H Q:=⟨a,xs,rfl,.inl h,q⟩
def zuC{i j:Int}(q:Q (.int (if j>i then j else i)) H):zqY [.int i,.int j] H Q:=⟨i,j,rfl,q⟩
def zu2{i j:Int}(q:Q (.int (if j<i then j else i)) H):zre [.int i,.int j] H Q:=⟨i,j,rfl,q⟩
def zp{N:List Str}{vs:List V}{σ0:St}(e:start N vs=σ0)(q:t D σ0 H):t D (start N vs) H:=by rw[e];exact q
def zrh{x c:V}{t' cv:Value}{b:Bool}(a:RelV c cv)(ty:TyOf K H x t')(e:PySem.W.kitOne K t' cv=some b)(q:Q (.bl b) H):zhT K [x,c] H Q:=⟨x,c,t',b,cv,rfl,a,ty,e,q⟩
end
def Same.new{H:Hp}{p:Addr}(h:H p=none)(o:HO):Same H (upd H p o):=λb u q=>by rw[zG (zy q h)];exact q
open PySem PySem.Spec PyProof.Rows
def ziA{env:Env}{scope:Scope}(h:∀y∈scope.names,y.2=.free->∃c,env.cells.lookup y.1=some c) :
  ∃cl,closureFor scope env=pure cl/\(∀x c,cl.lookup x=some c->env.cells.lookup x=some c)/\∀y∈scope.names,y.2=.free->cl.lookup y.1=env.cells.lookup y.1:=by
 unfold closureFor;have p:∀(names:List (Str × NameKind)) (b:List (Str × Addr)),(∀y∈names,y.2=.free->∃c,env.cells.lookup y.1=some c)->(∀x c,b.lookup x=some c->env.cells.lookup x=some c) ->
   ∃cl,(forIn (m:=Sem) names b fun(x:Str × NameKind) r=>if(x.2 == .free)=true then(do let a <- cellOf env x.1;pure (ForInStep.yield ((x.1,a) :: r)))else pure (ForInStep.yield r))=pure cl /\
    (∀x c,cl.lookup x=some c->env.cells.lookup x=some c)/\(∀y∈names,y.2=.free->cl.lookup y.1=env.cells.lookup y.1)/\(∀x,(∃c,b.lookup x=some c)->cl.lookup x=env.cells.lookup x):=by
  intro names
  induction names with
  | nil=>intro b _ i;exact⟨b,rfl,i,λ_ d=>(nomatch d),λx ⟨c,e⟩=>by rw[e,i x c e]⟩
  | cons y r ih=>
   intro b hn i;obtain⟨n,k⟩:=y;have t:∀y∈r,y.2=.free->∃c,env.cells.lookup y.1=some c:=λy d=>hn y (yJ _ d);by_cases q:k=.free
   ·subst q;obtain⟨c,u⟩:=hn (n,.free) yai rfl;have s:∀x g,List.lookup x ((n,c) :: b)=some g->env.cells.lookup x=some g:=λx g e=>by
     rw[yw]at e;cases f:x == n with
     | true=>rw[f]at e;cases e;rw[beq_iff_eq.mp f];exact u
     | false=>rw[f]at e;exact i x g e
    obtain⟨cl,e,h1,h2,j⟩:=ih ((n,c) :: b) t s;refine⟨cl,?_,h1,λy d l=>?_,λx v=>?_⟩
    ·rw[ybC];simp only[cellOf,u,beq_self_eq_true,if_true];exact e
    ·rcases yt.mp d with rfl | d
     ·exact j n ⟨c,by rw[yw];simp⟩
     ·exact h2 y d l
    ·refine j x ?_;obtain⟨g,o⟩:=v;rw[yw];cases f:x == n with
     | true=>exact⟨c,rfl⟩
     | false=>exact⟨g,o⟩
   ·obtain⟨cl,e,h1,h2,j⟩:=ih b t i;refine⟨cl,?_,h1,λy d l=>?_,j⟩
    ·rw[ybC];have f:(k == NameKind.free)=false:=by simpa using q
     simp only[f,yaC,if_false];exact e
    ·rcases yt.mp d with rfl | d
     ·exact absurd l q
     ·exact h2 y d l
 obtain⟨cl,e,h1,h2,_⟩:=p scope.names [] h (λ_ _ z=>by simp at z);refine⟨cl,?_,h1,h2⟩
 show(forIn scope.names [] _ >>= λr=>pure r)=pure cl
 have o:(forIn (m:=Sem) scope.names [] fun(x:Str × NameKind) (r:List (Str × Addr))=>match x with | (name,kind)=>if(kind == .free)=true then(do let a <- cellOf env name;pure (ForInStep.yield ((name,a) :: r)))else pure (ForInStep.yield r))=pure cl:=e
 first
  | (rw[o];rfl)
  | (simp only[o];rfl)
theorem zbL:∀(names:List (Str × NameKind)) (n:Nat) (acc:List (Str × Addr)),cellsFrom n names acc=cellsFrom n names []++acc
 | [],_,_=>rfl
 | (name,kind) :: r,n,acc=>by
  unfold cellsFrom;split
  ·rw[zbL r (n+1) ((name,n) :: acc),zbL r (n+1) [(name,n)],yaG];rfl
  ·exact zbL r n acc
theorem zcf{α:Type}{x:Str}:∀{l r:List (Str × α)},(l++r).lookup x=match l.lookup x with | some c=>some c | none=>r.lookup x
 | [],_=>rfl
 | (k,v) :: l,r=>by
  rw[List.cons_append,yw,yw];cases x == k with
  | true=>rfl
  | false=>exact zcf (l:=l)
noncomputable def zsJ (scope:Scope) (cs:List (Str × Addr)) (C:Addr) (env:Env):Env:=
 { scope:=relabel scope env,locals:=C,globals:=env.globals,cells:=cs,qual:=env.qual,func:=none,code:=env.code,frame:=env.frame,builtins:=env.builtins }
def zjU{M:Model}{A:Around}{E:Value->Shared->Prop}{s:Shared}{scope:Scope}{globals:Addr}{cl:List (Str × Addr)}{qual:Str}{env:Env}{Q:Env->Shared->Prop}
  (hQ:∀(own:List (Str × Addr)) (s':Shared),own=cellsFrom (s.heap.objs.size+1) scope.names []->s'={ s with heap:=s'.heap }->(∀b o,s.heap.get? b=some o->s'.heap.get? b=some o) ->
   s'.heap.Ns s.heap.objs.size (λ_=>none)->(∀n c,(n,c)∈own->s'.heap.IsCell c none/\s.heap.objs.size+1<=c)->(own.Pairwise λx y=>x.2≠y.2) ->
   Q { scope:=scope,locals:=s.heap.objs.size,globals:=globals,cells:=own++cl,qual:=qual,func:=none,code:=env.code,frame:=env.frame,builtins:=env.builtins } s') :
  wpAny M A (newFunctionEnv scope globals cl [] qual none .none (some env)) Q E s:=by
 simp only[newFunctionEnv,Option.isSome_some,if_true];refine wpAny_bind (wpAny_alloc ?_);refine wpAny_bind (wpAny_layCells _ (λname kind cells=>by cases hkc:kind == NameKind.cell<;>simp[hkc]) _ _ _ _ ?_);have ok:=cellsFrom_ok scope.names (s.heap.push { cls:=.type "dict",data:=.dict #[] }) (s.heap.objs.size+1) [] ⟨λ_ _ a=>(nomatch a),List.Pairwise.nil⟩ (by rw[Heap.size_push];exact yh _);rw[Heap.size_push]at ok;rw[show({ s with heap:=s.heap.push { cls:=.type "dict",data:=.dict #[] } }:Shared).heap.objs.size=s.heap.objs.size+1 from Heap.size_push ..];rw[zbL];have fin:=hQ _ { s with heap:=pushCells (s.heap.push { cls:=.type "dict",data:=.dict #[] }) scope.names } rfl rfl (λb o e=>pushCells_keeps _ _ b o (Heap.get?_push_of_some _ e))
  ((Heap.Ns.new s.heap (.type "dict")).keeps (pushCells_keeps _ _)) ok.empty ok.apart
 exact wpAny_bind (wpAny_pure (wpAny_pure fin))
theorem zci{env:Env}:∀{names:List (Str × NameKind)} {x:Str},names.lookup x=some .free ->
  (names.map fun(n,k)=>if(k == NameKind.free&&env.scope.kind == .function&&env.kindOf n == some .cell) then(n,NameKind.cell) else(n,k)).lookup x=some .cell \/
  (names.map fun(n,k)=>if(k == NameKind.free&&env.scope.kind == .function&&env.kindOf n == some .cell) then(n,NameKind.cell) else(n,k)).lookup x=some .free
 | [],_,h=>by simp at h
 | (n,k) :: r,x,h=>by
  have b:=@zci env r x;show List.lookup x ((if(k == NameKind.free&&env.scope.kind == .function&&env.kindOf n == some .cell)=true then(n,NameKind.cell) else(n,k)) :: _)=_\/List.lookup x ((if(k == NameKind.free&&env.scope.kind == .function&&env.kindOf n == some .cell)=true then(n,NameKind.cell) else(n,k)) :: _)=_;by_cases a:(k == NameKind.free&&env.scope.kind == .function&&env.kindOf n == some .cell)=true
  ·rw[if_pos a];cases hx:x == n with
   | true=>left;simp[yw,hx]
   | false=>simp only[yw,hx]at h ⊢;exact b h
  ·rw[if_neg a];cases hx:x == n with
   | true=>simp only[yw,hx]at h ⊢;exact .inr h
   | false=>simp only[yw,hx]at h ⊢;exact b h
theorem zck{env:Env}:∀{names:List (Str × NameKind)} {x:Str},(names.map fun(n,k)=>if(k == NameKind.free&&env.scope.kind == .function&&env.kindOf n == some .cell) then(n,NameKind.cell) else(n,k)).lookup x=some .cell \/
  (names.map fun(n,k)=>if(k == NameKind.free&&env.scope.kind == .function&&env.kindOf n == some .cell) then(n,NameKind.cell) else(n,k)).lookup x=some .free->names.lookup x=some .cell\/names.lookup x=some .free
 | [],_,h=>by simp at h
 | (n,k) :: r,x,h=>by
  have b:=@zck env r x;have h':List.lookup x ((if(k == NameKind.free&&env.scope.kind == .function&&env.kindOf n == some .cell)=true then(n,NameKind.cell) else(n,k)) :: (r.map fun(n,k)=>if(k == NameKind.free&&env.scope.kind == .function&&env.kindOf n == some .cell) then(n,NameKind.cell) else(n,k)))=some .cell \/
   List.lookup x ((if(k == NameKind.free&&env.scope.kind == .function&&env.kindOf n == some .cell)=true then(n,NameKind.cell) else(n,k)) :: (r.map fun(n,k)=>if(k == NameKind.free&&env.scope.kind == .function&&env.kindOf n == some .cell) then(n,NameKind.cell) else(n,k)))=some .free:=h
  clear h;by_cases a:(k == NameKind.free&&env.scope.kind == .function&&env.kindOf n == some .cell)=true
  ·have c:k=.free:=by
    rw[yF,yF]at a;exact beq_iff_eq.mp a.1.1
   subst c;rw[if_pos a]at h';cases hx:x == n with
   | true=>right;simp[yw,hx]
   | false=>simp only[yw,hx]at h' ⊢;exact b h'
  ·rw[if_neg a]at h';cases hx:x == n with
   | true=>simp only[yw,hx]at h' ⊢;exact h'
   | false=>simp only[yw,hx]at h' ⊢;exact b h'
theorem zcG{env:Env}:∀{names:List (Str × NameKind)} {x:Str},names.lookup x=some .cell ->
  (names.map fun(n,k)=>if(k == NameKind.free&&env.scope.kind == .function&&env.kindOf n == some .cell) then(n,NameKind.cell) else(n,k)).lookup x=some .cell
 | [],_,h=>by simp at h
 | (n,k) :: r,x,h=>by
  have b:=@zcG env r x;show List.lookup x ((if(k == NameKind.free&&env.scope.kind == .function&&env.kindOf n == some .cell)=true then(n,NameKind.cell) else(n,k)) :: _)=_;by_cases a:(k == NameKind.free&&env.scope.kind == .function&&env.kindOf n == some .cell)=true
  ·rw[if_pos a];cases hx:x == n with
   | true=>simp[yw,hx]
   | false=>simp only[yw,hx]at h ⊢;exact b h
  ·rw[if_neg a];cases hx:x == n with
   | true=>simp only[yw,hx]at h ⊢;exact h
   | false=>simp only[yw,hx]at h ⊢;exact b h
def zsj{names:List (Str × NameKind)}:∀{n:Nat} {a:List (Str × Addr)} {x:Str} {c:Addr},(x,c)∈cellsFrom n names a->(x,.cell)∈names\/(x,c)∈a:=by
 induction names with
 | nil=>intro n a x c h;exact .inr h
 | cons y r ih=>
  intro n a x c h;obtain⟨nm,k⟩:=y;unfold cellsFrom at h;split at h
  ·rename_i b;rcases ih h with h | h
   ·exact .inl (yJ _ h)
   ·rcases yt.mp h with e | h
    ·cases e;rw[beq_iff_eq.mp b];exact .inl yai
    ·exact .inr h
  ·rcases ih h with h | h
   ·exact .inl (yJ _ h)
   ·exact .inr h
def zfo{names:List (Str × NameKind)}(nd:(names.map (·.1)).Nodup){x:Str}{k:NameKind}(h:(x,k)∈names):names.lookup x=some k:=by
 induction names with
 | nil=>cases h
 | cons y r ih=>
  obtain⟨n,d⟩:=y;rw[yH,yK]at nd;rw[yw];rcases yt.mp h with e | b
  ·cases e;simp
  ·have a:x≠n:=λe=>nd.1 (yaw.mpr ⟨(x,k),b,e⟩);have c:(x == n)=false:=by simpa using a
   rw[c];exact ih nd.2 b
noncomputable def zaH (X:Cx) (scope:Scope) (Ni:List Str) (cs:List (Str × Addr)) (a:Shared) (b:Hp) (fp:List Addr) (pins:List (Addr × Obj)):Cx:=
 { X with N:=Ni,s₀:=a,H₀:=b,env:=zsJ scope cs a.heap.objs.size X.env,outer:=X.stack,stack:=X.stack,ex:=fp,fn:=λy=>decide (scope.names.lookup y=some .cell),pn:=X.pn++pins,xe:=λ_ _=>False }
set_option genInjectivity false in
set_option genSizeOf false in
structure CompScope(X:Cx)(scope:Scope)(Ni:List Str)(caps:List (Option Nat)):Prop where
 kind:scope.kind=.function
 ndn:(scope.names.map (·.1)).Nodup
 free:∀y∈scope.names,y.2=.free->X.env.kindOf y.1=some .cell\/X.env.kindOf y.1=some .free
 nd:Ni.Nodup
 len:caps.length=Ni.length
 cap:∀(i:Nat) (y:Str) (j:Nat),Ni[i]?=some y->caps[i]?=some (some j)->X.N[j]?=some y/\scope.names.lookup y=some .free
noncomputable def zeh (a:Scope) (b:List Str) (scope:Scope) (Ni:List Str) (caps:List (Option Nat)):Bool:=
 (scope.kind == .function)&&decide ((scope.names.map (·.1)).Nodup)&&(scope.names.all λy=>y.2 != .free || a.names.lookup y.1 == some .cell || a.names.lookup y.1 == some .free) &&
 decide Ni.Nodup&&(caps.length == Ni.length)&&((Ni.zip caps).all λp=>match p.2 with | none=>true | some j=>b[j]? == some p.1&&scope.names.lookup p.1 == some .free)
def zak{X:Cx}{scope:Scope}{Ni:List Str}{caps:List (Option Nat)}(h:zeh X.env.scope X.N scope Ni caps=true):CompScope X scope Ni caps:=by
 unfold zeh at h;simp only[yF]at h;obtain⟨⟨⟨⟨⟨h1,h2⟩,a⟩,g⟩,e⟩,b⟩:=h;refine⟨beq_iff_eq.mp h1,of_decide_eq_true h2,λy d f=>?_,of_decide_eq_true g,beq_iff_eq.mp e,λi y j e1 e2=>?_⟩
 ·have q:=ya5.mp a y d;rw[Bool.or_eq_true,Bool.or_eq_true]at q;rcases q with(q | q) | q
  ·rw[f]at q;simp at q
  ·exact .inl (beq_iff_eq.mp q)
  ·exact .inr (beq_iff_eq.mp q)
 ·have c:(y,some j)∈Ni.zip caps:=by
   refine ym (i:=i) ?_;rw[List.getElem?_zip_eq_some];exact⟨e1,e2⟩
  have q:=ya5.mp b _ c;simp only[yF]at q;exact⟨beq_iff_eq.mp q.1,beq_iff_eq.mp q.2⟩
noncomputable def zbx (caps:List (Option Nat)) (σ:St):St:=caps.map λo=>match o with | some j=>(σ[j]?).getD none | none=>none
section
variable {X:Cx}
set_option genInjectivity false in
set_option genSizeOf false in
structure CompAt(X:Cx)(scope:Scope)(own cl:List (Str × Addr))(s₃:Shared):Prop where
 oeq:own=cellsFrom (s₃.heap.objs.size+1) scope.names []
 apart:own.Pairwise λx y=>x.2≠y.2
 above:∀n c,(n,c)∈own->s₃.heap.objs.size+1<=c
 sub:∀x c,cl.lookup x=some c->X.env.cells.lookup x=some c
 all:∀y∈scope.names,y.2=.free->cl.lookup y.1=X.env.cells.lookup y.1
def CompAt.look{scope:Scope}{own cl:List (Str × Addr)}{a:Shared}(T:CompAt X scope own cl a){x:Str}{c:Addr}(h:(own++cl).lookup x=some c):(x,c)∈own\/X.env.cells.lookup x=some c:=by
 rw[zcf]at h;cases e:own.lookup x with
 | some c'=>rw[e]at h;cases h;exact .inl (mem_of_lookup e)
 | none=>rw[e]at h;exact .inr (T.sub x c h)
def zgu{pins:List (Addr × Obj)}{σ:St}{H:Hp}{s:Shared}(I:Inv X pins σ H s){x:Str}{c:Addr}(h:X.env.cells.lookup x=some c):c<s.heap.objs.size:=by
 obtain⟨v,o,a,_⟩:=I.cell x c h;exact Heap.lt_size a
def zrI{scope:Scope}{Ni:List Str}{caps:List (Option Nat)}{own cl:List (Str × Addr)}{pins:List (Addr × Obj)}{σ:St}{l:Hp}{i:Shared}{fp:List Addr}
  (S:CompScope X scope Ni caps) (T:CompAt X scope own cl i) (I:Inv X pins σ l i) (f:∀b∈fp,zb5 X pins l b) (hf:∀b∈fp,b<i.heap.objs.size):(zaH X scope Ni (own++cl) i l fp pins).Ok where
 mod:=I.ok.mod
 kind:=S.kind
 glob:=I.ok.glob
 blt:=I.ok.blt
 above:=yh _
 inj:=λx y c h1 h2=>by
  rcases T.look h1 with a | a
  ·rcases T.look h2 with b | b
   ·exact name_of_addr T.apart a b
   ·exact absurd (yu (zgu I b) (ybv (T.above x c a))) (yQ _)
  ·rcases T.look h2 with b | b
   ·exact absurd (yu (zgu I a) (ybv (T.above y c b))) (yQ _)
   ·exact I.ok.inj x y c a b
 has:=λx h=>by
  have h':=zck (env:=X.env) (names:=scope.names) (x:=x) h;show ∃c,(own++cl).lookup x=some c;rw[zcf];cases e:own.lookup x with
  | some c=>exact⟨c,rfl⟩
  | none=>
   rcases h' with h' | h'
   ·obtain⟨c,d⟩:=zex (n:=i.heap.objs.size+1) h';rw[<- T.oeq,e]at d;cases d
   ·have k:=mem_of_lookup h';obtain⟨c,d⟩:=I.ok.has x (S.free _ k rfl);exact⟨c,(T.all _ k rfl).trans d⟩
 cab:=λx c h1 h2=>by
  have m:scope.names.lookup x=some .cell:=of_decide_eq_true h1;obtain⟨p,d⟩:=zex (n:=i.heap.objs.size+1) m;rw[<- T.oeq]at d;have j:(own++cl).lookup x=some c:=h2;rw[zcf,d]at j;cases j
  have:=T.above x _ (mem_of_lookup d)
  show i.heap.objs.size<=_;lia
 hd:=I.ok.hd
 frames:=I.ok.frames
 stk:=.inl rfl
 exf:=λb g=>⟨yo (hf b g),λx c h=>by
  rcases T.look h with a | a
  ·exact λe=>absurd (yu (hf b g) (ybv (e▸T.above x c a))) (yQ _)
  ·exact(f b g).2.2.2.2.1 x c a⟩
 bs:=I.bs
 bsz:=yc I.ok.bsz I.sz
 noex:=λb o e g=>by
  rcases(f b g).2.2.2.1 with z | z
  ·exact I.ok.noex b o e z
  ·have h1:b<X.base.objs.size:=Heap.lt_size e;have h2:=I.ok.bsz;exact absurd (yu h1 (yc h2 z)) (yQ _)
 exfs:=λb g k=>by
  rcases yt.mp (I.stkSub b k)with z | z
  ·exact(f b g).2.1 z
  ·exact(f b g).2.2.1 z
 funs:=I.stack
 frf:=I.stkFree
def zm7{scope:Scope}{Ni:List Str}{caps:List (Option Nat)}{own cl:List (Str × Addr)}{pins:List (Addr × Obj)}{σ:St}{A:Hp}{t w:Shared}{fp:List Addr}
  (S:CompScope X scope Ni caps) (T:CompAt X scope own cl t) (I:Inv X pins σ A t) (f:∀b∈fp,zb5 X pins A b) (hf:∀b∈fp,b<t.heap.objs.size)
  (e4:w={ t with heap:=w.heap }) (k:∀b o,t.heap.get? b=some o->w.heap.get? b=some o) (ns:w.heap.Ns t.heap.objs.size λ_=>none) (oc:∀n c,(n,c)∈own->w.heap.IsCell c none) :
  Inv (zaH X scope Ni (own++cl) t A fp pins) [] (zbx caps σ) A w where
 ok:=zrI S T I f hf
 os:=by rw[e4];rfl
 bare:=by rw[e4];exact I.bare
 base:=Un.kept k
 loc:=by
  refine⟨_,ns,λi x v h1 h2 D=>?_⟩;have d:(zbx caps σ)[i]?=some (some v):=h2;unfold zbx at d;rw[yg]at d;cases ec:caps[i]? with
  | none=>rw[ec]at d;cases d
  | some o=>
   cases o with
   | none=>rw[ec]at d;cases d
   | some j=>
    rw[ec]at d;have g:(σ[j]?).getD none=some v:=yq d;have J:σ[j]?=some (some v):=by
     cases e:σ[j]? with
     | none=>rw[e]at g;cases g
     | some z=>rw[e]at g;exact congrArg some g
    obtain⟨M,s⟩:=S.cap i x j h1 ec;have F:=mem_of_lookup s;have E:=S.free _ F rfl;obtain⟨m,_,K⟩:=I.loc;obtain⟨u,r,l⟩:=K j x v M J (by rcases E with z | z;exact .inr (.inl z);exact .inr (.inr z));refine⟨u,r,.inr ⟨zci s,?_⟩⟩;rcases l with⟨z,_⟩ | ⟨_,c,hc,q⟩
    ·have G:X.env.kindOf x=some .local:=z;rcases E with y | y<;>(have C:X.env.kindOf x=_:=y;rw[G]at C;cases C)
    ·refine⟨c,?_,q.keeps k⟩
     show(own++cl).lookup x=some c
     rw[zcf];cases eo:own.lookup x with
     | some c'=>
      rw[T.oeq]at eo;rcases zsj (mem_of_lookup eo)with y | y
      ·have:=zfo S.ndn y
       rw[s]at this;cases this
      ·cases y
     | none=>exact(T.all _ F rfl).trans hc
 cell:=λx c h=>by
  rcases T.look h with a | a
  ·exact⟨_,oc x c a⟩
  ·obtain⟨v,q⟩:=I.cell x c a;exact⟨v,q.keeps k⟩
 free:=I.hok.fresh (yh _)
 freeC:=λx c h=>by
  rcases T.look h with a | a
  ·exact I.hok.fresh (by have:=T.above x c a;lia)
  ·exact I.freeC x c a
 pin:=λp hp=>by
  have B:p∈X.pn++pins:=by
   have:p∈(X.pn++pins)++[]:=hp
   simpa using this
  obtain⟨h1,h2,D,L,H⟩:=I.pin p B;refine⟨k _ _ h1,h2,yo (Heap.lt_size h1),λz=>?_,H⟩;rcases yt.mp (I.stkSub _ z)with y | y
  ·exact D y
  ·exact L y
 hok:=I.hok.kept k
 len:=by
  show(zbx caps σ).length=Ni.length
  unfold zbx;rw[yb];exact S.len
def zpD{scope:Scope}{Ni:List Str}{cs:List (Str × Addr)}{pins:List (Addr × Obj)}{σ g:St}{d H':Hp}{a s':Shared}{fp:List Addr}(I:Inv X pins σ d a)(f:∀b∈fp,zb5 X pins d b)
  (J:Inv (zaH X scope Ni cs a d fp pins) [] g H' s'):Inv X pins σ H' s':=by
 have u:Un (frs X.stack) fp d H' a.heap s'.heap:=J.base;have q:=I.call (g':=s'.gens) (t':=s'.toks) (d':=s'.drawn) (ch:=fp) u J.hok J.bare λb c=>⟨(f b c).2.2.2.1,(f b c).2.1,(f b c).2.2.2.2.1,(f b c).2.2.2.2.2⟩
 have e:({ a with heap:=s'.heap,gens:=s'.gens,drawn:=s'.drawn,toks:=s'.toks }:Shared)=s':=by
  have h1:s'.os=a.os:=J.os;cases s';cases a;simp only at h1;subst h1;rfl
 rw[e]at q;exact q
noncomputable def PF (Y:Cx) (a:List Expr) (t:TT):Prop:=∀(pins:List (Addr × Obj)) (s:Shared) (σ:St) (H:Hp) (Q:Bool->Hp->Prop),Inv Y pins σ H s->t σ H Q ->
 wpAny (model Y.prog Y.w) Y.A (forIn a true λc r=>if r=true then do let ok <- isTrue c Y.env (eval c Y.env);pure (ForInStep.yield ok)else pure (ForInStep.yield r)) (TP Y pins σ Q) Y.xe s
abbrev zdP:TT:=λ_ H T=>T true H
def zeb{Y:Cx}:PF Y [] zdP:=λpins s σ H Q I h=>wpAny_tests_nil ⟨H,I,h⟩
def zd5{Y:Cx}{c:Expr}{t:TT}(h:PT Y c t):PF Y [c] t:=λpins s σ H Q I q=>wpAny_tests_one (h pins s σ H Q I q)
noncomputable def zes (wi:TI) (caps:List (Option Nat)) (g:TG) (tf:TT) (te:TE):TE:=λσ H Q=>wi σ H λJ H1=>∀D,H1 D=none ->
 ∃W:Nat->Nat->St->Hp->Prop,(∃m,W 0 m (zbx caps σ) (upd H1 D (.lst [])))/\∀i m σ' H',W i m σ' H' ->
  (J.stop i H'/\Q (.ref D) H')\/(J.go i H'/\∃N:St->Hp->Prop,(∀σ2 H2,N σ2 H2->∃m',m'<m/\W (i+1) m' σ2 H2) /\
   ∀x H2,J.yld i H' x H2->g x σ' H2 λa f=>tf a f λb c=>if b=true then te a c λv e=>zbb (.ref D) [v] e λ_ d=>N a d else N a c)
def zku{P:Program}{w:World}{A:Around}{R:Result->Shared->Prop}{t:Shared}{elt tg iter:Expr}{a:List Expr}{o:Scope}{ps:Pos}{d f:Value}{b:Env}(J:Nat->Shared->Prop)
  (turn:∀n s,J n s->wpAny (model P w) A (pyNext d) (λr j=>match r with | none=>R (.ok .next) j | some v=>wpAny (model P w) A (letOwnedTupleGo tg d v) (λ_ g=>wpAny (model P w) A (assign tg b v) (λ_ q=>
   wpAny (model P w) A (forIn a true λc r=>if r=true then do let ok <- isTrue c b (eval c b);pure (ForInStep.yield ok)else pure (ForInStep.yield r)) (λok i=>if ok=true then wpAny (model P w) A (eval elt b) (λx p=>
    wpAny (model P w) A (call (.builtin "list.append") [f,x]) (λ_ k=>∃m,m<n/\J m k) (notedBy (model P w) A b λe s'=>R (.error e) s') p) (notedBy (model P w) A b λe s'=>R (.error e) s') i
     else ∃m,m<n/\J m i) (notedBy (model P w) A b λe s'=>R (.error e) s') q) (notedBy (model P w) A b λe s'=>R (.error e) s') g) (notedBy (model P w) A b λe s'=>R (.error e) s') j) (notedBy (model P w) A b λe s'=>R (.error e) s') s)
  (n0:Nat) (j0:J n0 t):codeAny (model P w) A (.compLoop (.ListComp elt [⟨tg,iter,a,0⟩] o ps) 0 d f b) R t:=by
 refine codeAny_loop rfl J (λn s B=>?_) n0 j0;show wpAny _ A ((compTurn (.ListComp elt [⟨tg,iter,a,0⟩] o ps) 0 d f b).onRaise (λx=>do noteFrame x b;theTreesLotGoes x)) _ _ s;refine wpAny_noted ?_;rw[compTurn_list];refine wpAny_bind (wpAny_standAt (wpAny_bind (wpAny_mono (turn n s B) (λr j h1=>?_) λ_ _ z=>z)));cases r with
 | none=>exact wpAny_pure h1
 | some v=>
  refine wpAny_bind (wpAny_mono h1 (λ_ g h=>wpAny_bind (wpAny_mono h (λ_ q h2=>wpAny_bind (wpAny_mono h2 (λok i l=>?_) λ_ _ z=>z)) λ_ _ z=>z)) λ_ _ z=>z);cases ok with
  | false=>exact wpAny_pure ⟨rfl,l⟩
  | true=>
   exact wpAny_bind (wpAny_bind (wpAny_mono l (λx p u=>wpAny_bind (wpAny_mono u (λ_ k y=>wpAny_pure (wpAny_pure ⟨rfl,y⟩)) λ_ _ z=>z)) λ_ _ z=>z))
def znH{Y:Cx}{elt iter:Expr}{tg:Expr}{E:List Expr}{scope:Scope}{pos:Pos}{it D:Addr}{fp:List Addr}{M:Nat->Heap->Prop}{J:It}{g:TG}{tf:TT}{te:TE}{Q:VK}{R:Result->Shared->Prop}
  (T:Turn Y.prog Y.w Y.K tg J fp it M) (hc:Y.calm=true) (gY:PG Y tg g) (hF:PF Y E tf) (hE:PE Y elt te) (fpY:∀{H':Hp},(∀b∈fp,H' b=none)->∀b∈fp,zb5 Y [] H' b) (hx:∀e s,¬Y.xe e s)
  {W:Nat->Nat->St->Hp->Prop} (turn:∀i m σ' H',W i m σ' H' ->
   (J.stop i H'/\Q (.ref D) H')\/(J.go i H'/\∃N:St->Hp->Prop,(∀σ2 H2,N σ2 H2->∃H,H<m/\W (i+1) H σ2 H2) /\
    ∀x H2,J.yld i H' x H2->g x σ' H2 λL H3=>tf L H3 λb H4=>if b=true then te L H4 λv l=>zbb (.ref D) [v] l λ_ H6=>N L H6 else N L H4))
  (fin:∀σ' H' s',Inv Y [] σ' H' s'->Q (.ref D) H'->R (.ok .next) s') {m0:Nat} {σ0:St} {H0:Hp} {s0:Shared} (I0:Inv Y [] σ0 H0 s0) (st0:M 0 s0.heap) (fr0:∀b∈fp,H0 b=none) (w0:W 0 m0 σ0 H0) :
  codeAny (model Y.prog Y.w) Y.A (.compLoop (.ListComp elt [⟨tg,iter,E,0⟩] scope pos) 0 (.ref it) (.ref D) Y.env) R s0:=by
 refine zku (λn s'=>∃i σ' H',Inv Y [] σ' H' s'/\M i s'.heap/\(∀b∈fp,H' b=none)/\W i n σ' H') ?_ m0 ⟨0,_,_,I0,st0,fr0,w0⟩;rintro n s5 ⟨i,F,l,I5,C,G,w5⟩;have c:∀{α:Type} {t:Sem α} {Q1:α->Shared->Prop} {E2:Value->Shared->Prop} {s1:Shared},wpAny (model Y.prog Y.w) Y.A t Q1 Y.xe s1->wpAny (model Y.prog Y.w) Y.A t Q1 E2 s1:=
  λh=>wpAny_mono h (λ_ _ q=>q) λe s z=>(hx e s z).elim
 rcases turn i n F l w5 with⟨stop,qn⟩ | ⟨go,N,hN,step⟩
 ·refine thn (T.done Y rfl rfl rfl hc i [] s5 F l _ I5 (fpY G) C stop) λr s6 ⟨hr,I6⟩=>?_;subst hr;exact fin F l s6 I6 qn
 ·refine thn (T.item Y rfl rfl rfl hc i [] s5 F l _ I5 (fpY G) C go) λr s6 ⟨u,hr,h6⟩=>?_;subst hr;refine thn h6 λ_ s7 j=>?_;obtain⟨x7,H7,I7,r7,y7,f,a0⟩:=j;have a1:=I7.pinned (fpY a0) (T.obj _ _ f);have a:∀{σ9:St} {k:Hp} {B:Shared},Inv Y ([]++zfj fp s7.heap) σ9 k B->N σ9 k->∃m,m<n/\∃i σ' H',Inv Y [] σ' H' B/\M i B.heap/\(∀b∈fp,H' b=none)/\W i m σ' H':=λ{σ9 k B} p n9=>by
   obtain⟨H,hm,w9⟩:=hN σ9 k n9;refine⟨H,hm,i+1,σ9,k,p.unpinned,T.keep _ _ _ f λb I o e=>(p.pin (b,o) (yN _ (yN _ (zcQ I e)))).1,λb I=>?_,w9⟩;obtain⟨o,e,d⟩:=T.obj _ _ f b I;exact(p.pin (b,o) (yN _ (yN _ (zcQ I e)))).2.1
  refine c (thn (gY _ s7 F H7 x7 u _ a1 r7 (step x7 _ y7)) λ_ s8 j=>?_);obtain⟨σ8,H8,I8,q8⟩:=j;refine c (thn (hF _ s8 _ _ _ I8 q8) λb B ⟨k,p,q9⟩=>?_);cases b with
  | false=>exact a p q9
  | true=>
   refine c (thn (hE _ B _ _ _ p q9) λy U j=>?_);obtain⟨V,a5,P,O,a2⟩:=j;refine c (thn (zjw (X:=Y) _ U _ _ (.ref D) [V] (.ref D) [y] _ P rfl (.cons O .nil) a2) λ_ a3 j=>?_);obtain⟨a4,a6,Z,_,S⟩:=j;exact a Z S
def zaf{scope:Scope}{Ni:List Str}{caps:List (Option Nat)}{x:Str}{c:Pos}{gi:Nat}{cs:List (Str × Addr)}{d:Shared}{b:Hp}{fp:List Addr}{pins:List (Addr × Obj)}
  (S:CompScope X scope Ni caps) (a:scope.names.lookup x=some .local\/scope.names.lookup x=some .cell) (hgi:Ni[gi]?=some x):PG (zaH X scope Ni cs d b fp pins) (.Name x c) (zbn gi):=by
 rcases a with a | a
 ·exact zC S.nd hgi (.inl (lookup_relabel_local a)) (.inr (lookup_relabel_local a))
 ·refine zC S.nd hgi ?_ (.inl (decide_eq_true a))
  have:(relabel scope X.env).names.lookup x=some .cell:=zcG a
  exact .inr this
def zjh{elt iter:Expr}{tg:Expr}{B:List Expr}{scope:Scope}{pos pos':Pos}{wi:TI}{Ni:List Str}{caps:List (Option Nat)}{g:TG}{tf:TT}{te:TE}
  (hc:X.calm=true) (hi:PI X tg iter wi) (S:CompScope X scope Ni caps) (hG:CompScope X scope Ni caps->∀cs s₃ H₃ fp pins,PG (zaH X scope Ni cs s₃ H₃ fp pins) tg g)
  (hF:∀cs s₃ H₃ fp pins,PF (zaH X scope Ni cs s₃ H₃ fp pins) B tf) (hE:∀cs s₃ H₃ fp pins,PE (zaH X scope Ni cs s₃ H₃ fp pins) elt te)
  (hs:∀x,foldedSetIterable iter X.env x=pure x)
  {pins:List (Addr × Obj)} {s:Shared} {σ:St} {H:Hp} {Q:VK} (I:Inv X pins σ H s) (h:zes wi caps g tf te σ H Q) {use:Option (Value->Sem Unit)} {R:Value->Shared->Prop}
  (fin:∀(D C:Addr) (H':Hp) (s':Shared) (m:Str->Option Value),Inv X pins σ H' s'->Q (.ref D) H'->s'.heap.Ns C m->H' C=none->X.s₀.heap.objs.size<=C->C≠X.env.locals->(∀y c,X.env.cells.lookup y=some c->c≠C)->(∀p∈X.pn++pins,p.1≠C) ->
   compPost (model X.prog X.w) X.A X.xe use R (.ref D) C (.ok .next) s') :
  wpAny (model X.prog X.w) X.A (comprehension (.ListComp elt [⟨tg,iter,B,0⟩] scope pos) scope X.env pos' (newList []) false (eval iter X.env) use) R X.xe s:=by
 obtain⟨cl,M,E,t⟩:=ziA (env:=X.env) (scope:=scope) λy hy hf=>I.ok.has y.1 (S.free y hy hf);refine wpAny_comprehension_free rfl hs M S.kind (λy hy hl=>by obtain⟨n,k⟩:=y;cases hl;exact zfo S.ndn hy) (thn (hi pins s σ H _ I h) λv s1 h1=>thn h1 λa0 a h2=>?_);obtain⟨it,fp,tn,J,H2,e,I2,T,G,f2,hW⟩:=h2;subst e;have i:Inv X pins σ (upd H2 a.heap.objs.size (.lst [])) { a with heap:=a.heap.push { cls:=.type "list",dict:=none,data:=.seq ([]:List Value).toArray },toks:=a.toks }:=
  I2.laid (λb u e=>Heap.get?_push_of_some _ e) (yh _) ⟨yI _,[],_,.nil,Heap.get?_push_size _ rfl⟩
 have hD:H2 a.heap.objs.size=none:=I2.hok.fresh (yh _);obtain⟨W,⟨m0,w0⟩,F⟩:=hW a.heap.objs.size hD;have j:tn 0 (a.heap.push { cls:=.type "list",dict:=none,data:=.seq ([]:List Value).toArray }):=T.keep _ _ _ G λb _ o e=>Heap.get?_push_of_some _ e;have K:∀b∈fp,zb5 X pins (upd H2 a.heap.objs.size (.lst [])) b:=λb d=>by
  obtain⟨o,e,_⟩:=T.obj _ _ G b d;exact⟨by rw[zG (yo (Heap.lt_size e))];exact(f2 b d).1,(f2 b d).2⟩
 refine wpAny_newObj_type ?_;generalize hs3:({ a with heap:=a.heap.push { cls:=.type "list",dict:=none,data:=.seq ([]:List Value).toArray },toks:=a.toks }:Shared)=s3 at i;have eh:a.heap.push { cls:=.type "list",dict:=none,data:=.seq ([]:List Value).toArray }=s3.heap:=by rw[<- hs3]
 rw[eh]at j;have l:∀b∈fp,b<s3.heap.objs.size:=λb d=>by
  obtain⟨o,e,_⟩:=T.obj _ _ j b d;exact Heap.lt_size e
 refine zjU λown s4 eo e4 k4 O q L=>?_;have T4:CompAt X scope own cl s3:=⟨eo,L,λn c hm=>(q n c hm).2,E,t⟩
 have I4:=zm7 (Ni:=Ni) (caps:=caps) S T4 i K l e4 k4 O λn c hm=>(q n c hm).1;have r:tn 0 s4.heap:=T.keep _ _ _ j λb _ o e=>k4 b o e;have N:∀{H':Hp},(∀b∈fp,H' b=none)->∀b∈fp,zb5 (zaH X scope Ni (own++cl) s3 (upd H2 a.heap.objs.size (.lst [])) fp pins) [] H' b:=λhn b d=>
  ⟨hn b d,yo (l b d),I4.ok.exfs b d,.inl d,(I4.ok.exf b d).2,λp hp=>by
   have P:p∈X.pn++pins:=by
    have:p∈(X.pn++pins)++[]:=hp
    simpa using this
   exact(K b d).2.2.2.2.2 p P⟩
 have f:=znH (Q:=Q) (elt:=elt) (iter:=iter) (scope:=scope) (pos:=pos) (R:=compPost (model X.prog X.w) X.A X.xe use R (.ref a.heap.objs.size) s3.heap.objs.size) (Y:=zaH X scope Ni (own++cl) s3 (upd H2 a.heap.objs.size (.lst [])) fp pins)
  T hc (hG S _ _ _ _ _) (hF _ _ _ _ _) (hE _ _ _ _ _) N (λ_ _ z=>z) F (λσ' H' s' I6 qn=>by
   have U:=zpD i K I6;obtain⟨m6,Z,_⟩:=I6.loc;exact fin _ _ H' s' m6 U qn Z I6.free i.sz (ybw i.lt) (λy c V=>yo (zgu i V)) λp hp=>yo (Heap.lt_size (i.pin p hp).1)) I4 r (λb d=>(K b d).1) w0
 exact codeAny_compStart_list f (T.self _ _ _ _ _ r f)
def zdR{elt iter:Expr}{tg:Expr}{a:List Expr}{scope:Scope}{pos:Pos}{wi:TI}{Ni:List Str}{caps:List (Option Nat)}{g:TG}{tf:TT}{te:TE}
  (hc:X.calm=true) (hi:PI X tg iter wi) (S:CompScope X scope Ni caps) (hG:CompScope X scope Ni caps->∀cs s₃ H₃ fp pins,PG (zaH X scope Ni cs s₃ H₃ fp pins) tg g)
  (hF:∀cs s₃ H₃ fp pins,PF (zaH X scope Ni cs s₃ H₃ fp pins) a tf) (hE:∀cs s₃ H₃ fp pins,PE (zaH X scope Ni cs s₃ H₃ fp pins) elt te)
  (hs:autoParam (∀x,foldedSetIterable iter X.env x=pure x) Internal.aut3._auto_1):PE X (.ListComp elt [⟨tg,iter,a,0⟩] scope pos) (zes wi caps g tf te):=by
 intro pins s σ H Q I h;rw[eval_ListComp];refine zjh hc hi S hG hF hE hs I h λD C H' s' m j q ns hn c h1 h2 d=>?_;refine⟨m,ns,λh' f=>?_⟩;exact⟨.ref D,H',j.turned (t':=s'.toks) (it:=C) (λb o i e=>(f.2 b i).trans e) hn h1 (.inr c) h2 d,rfl,q⟩
def zct{i:Nat}{y:Str}{f:Pos}{elt iter:Expr}{tg:Expr}{c:List Expr}{scope:Scope}{pos d:Pos}{wi:TI}{Ni:List Str}{caps:List (Option Nat)}{g:TG}{tf:TT}{te:TE}
  (hN:X.N.Nodup) (hyi:X.N[i]?=some y) (hy:X.env.scope.names.lookup y=some .local) (hc:X.calm=true) (hi:PI X tg iter wi) (S:CompScope X scope Ni caps) (hG:CompScope X scope Ni caps->∀cs s₃ H₃ fp pins,PG (zaH X scope Ni cs s₃ H₃ fp pins) tg g)
  (hF:∀cs s₃ H₃ fp pins,PF (zaH X scope Ni cs s₃ H₃ fp pins) c tf) (hE:∀cs s₃ H₃ fp pins,PE (zaH X scope Ni cs s₃ H₃ fp pins) elt te)
  (hsw:autoParam (swapsWith (.ListComp elt [⟨tg,iter,c,0⟩] scope pos) (some (.Name y f)) d.line X.env=pure true) Internal.aut2._auto_1)
  (hs:autoParam (∀x,foldedSetIterable iter X.env x=pure x) Internal.aut3._auto_1):PS X (.Assign [.Name y f] (.ListComp elt [⟨tg,iter,c,0⟩] scope pos) d) (zlm (zes wi caps g tf te) (zbn i)):=by
 intro pins s σ H D I h;rw[exec_Assign_Name_used _ _ _ _ hsw];refine wpAny_bind (wpAny_standAt (wpAny_bind ?_));show wpAny _ X.A (do let _ <- comprehension (.ListComp elt [⟨tg,iter,c,0⟩] scope pos) scope X.env _ (newList []) false (eval iter X.env) (some (assign (.Name y f) X.env))) _ _ s;refine wpAny_bind (wpAny_mono (zjh (R:=λ_ s'=>SP X pins D .next s') hc hi S hG hF hE hs I h λL C H' s' m G q ns hn p h1 h2 t=>?_) (λ_ s' u=>wpAny_pure (wpAny_pure u)) λ_ _ e=>e);show wpAny _ X.A (assign (.Name y f) X.env (.ref L)) _ _ _;refine wpAny_assign_Name (zja (v:=.ref L) G hN hyi (.inl hy) rfl (λE n k=>?_) (.inr hy));obtain⟨a,w,r⟩:=k;have l:C≠a:=by
  rcases r with z | z
  ·rw[z];exact h1
  ·exact λF=>h2 y a z F.symm
 refine⟨m,ns.sameBut w l,λh' j=>?_⟩;exact⟨_,H',n.turned (t':=E.toks) (it:=C) (λb o B e=>(j.2 b B).trans e) hn h1 (.inr p) h2 t,q⟩
end
end Internal
namespace My
variable {c:Int}{q:Rat}
noncomputable def gc (a b:Int):Int:=(Int.gcd a b:Int)
def zjv(a b:Int):0<=gc a b:=Int.natCast_nonneg _
def gc_comm(a b:Int):gc a b=gc b a:=by unfold gc;rw[Int.gcd_comm]
def zau(a b:Int):gc a b∣a:=Int.gcd_dvd_left a b
def gc_dvd_right(a b:Int):gc a b∣b:=Int.gcd_dvd_right a b
def zkx{k a b:Int}(h1:k∣a)(h2:k∣b):k∣gc a b:=Int.dvd_coe_gcd h1 h2
def gc_pos_right{a b:Int}(h:b≠0):0<gc a b:=by
 have:=Int.gcd_pos_of_ne_zero_right a h
 unfold gc;lia
def zlv{a b:Int}(h:a≠0):0<gc a b:=by rw[gc_comm];exact gc_pos_right h
def gc_zero_right{a:Int}(h:0<=a):gc a 0=a:=by unfold gc;rw[Int.gcd_zero_right];lia
def gc_abs(a b:Int):gc (if a<0 then -a else a) (if b<0 then -b else b)=gc a b:=by
 unfold gc;split<;>split<;>simp[Int.gcd]
def gc_step{a b:Int}:gc b (a%b)=gc a b:=by
 rw[gc_comm a b];refine Int.dvd_antisymm (zjv _ _) (zjv _ _) ?_ ?_
 ·refine zkx (zau b (a%b)) ?_;have e:a=b*(a/b)+a%b:=(yaJ a b).symm
  have:=Int.dvd_add (Int.dvd_mul_of_dvd_left (c:=a/b) (zau b (a%b))) (gc_dvd_right b (a%b))
  rwa [<- e]at this
 ·refine zkx (zau b a) ?_;rw[Int.emod_def];exact Int.dvd_sub (gc_dvd_right b a) (Int.dvd_mul_of_dvd_left (zau b a))
def ztS{a b:Int}(h:∀c,c∣a->c∣b->c∣1):gc a b=1:=by
 unfold gc;rw[Int.gcd_eq_one_iff.mpr h];rfl
def zr7{a b:Int}(h:gc a b=1)(h1:c∣a)(h2:c∣b):c∣1:=h▸zkx h1 h2
def zel{a b:Int}(h:gc a b=1):a.gcd b=1:=by unfold gc at h;lia
def zjr{a b:Int}(h:a.gcd b=1):gc a b=1:=by unfold gc;lia
def low_unique{x y:Int}(b:0<y)(c:gc x y=1)(e:Rat.divInt x y=q):x=q.num/\y=(q.den:Int):=by
 obtain⟨d,rfl⟩:=Int.eq_ofNat_of_zero_le (yak b);have a:x.natAbs.Coprime d:=by
  have:=zel c
  rw[ybk]at this;exact this
 have hd:d≠0:=by lia
 have:Rat.mk' x d hd a=q:=by rw[Rat.mk_eq_divInt];exact e
 subst this;exact⟨rfl,rfl⟩
def rat_low(q:Rat):gc q.num (q.den:Int)=1:=by
 refine zjr ?_;rw[ybk];exact q.reduced
def rat_den_pos(q:Rat):0<(q.den:Int):=by have:=q.den_nz;lia
def rat_self(q:Rat):Rat.divInt q.num (q.den:Int)=q:=Rat.num_divInt_den q
def ze8{a b:Int}(h:b≠0):gc (a/gc a b) (b/gc a b)=1:=by
 have hp:=gc_pos_right (a:=a) h;unfold gc
 have:=Int.gcd_ediv (a:=a) (b:=b) (c:=(a.gcd b:Int)) (zau a b) (gc_dvd_right a b)
 rw[this];have d:0<a.gcd b:=by unfold gc at hp;lia
 rw[Int.natAbs_natCast,Nat.div_self d];rfl
def zjK{a b:Int}(f:b≠0)(g:c∣a)(e:c∣b):Rat.divInt (a/c) (b/c)=Rat.divInt a b:=by
 obtain⟨x,rfl⟩:=g;obtain⟨y,rfl⟩:=e;have d:c≠0:=by rintro rfl;simp at f
 rw[yX _ d,yX _ d,ybi d]
def part_pos{t b:Int}(c:0<b):t/gc t b=(Rat.divInt t b).num/\b/gc t b=((Rat.divInt t b).den:Int):=by
 have hp:=gc_pos_right (a:=t) (b:=b) ⋯;refine low_unique ?_ (ze8 ⋯) (zjK ⋯ (zau _ _) (gc_dvd_right _ _));exact yaM c ⋯ (gc_dvd_right _ _)
def part_neg{t b:Int}(d:b<0):t.fdiv (-gc t b)=(Rat.divInt t b).num/\b.fdiv (-gc t b)=((Rat.divInt t b).den:Int):=by
 have a:-gc t b∣t:=Int.neg_dvd.mpr (zau _ _);have c:-gc t b∣b:=Int.neg_dvd.mpr (gc_dvd_right _ _);rw[Int.fdiv_eq_ediv_of_dvd a,Int.fdiv_eq_ediv_of_dvd c];have e:=part_pos (t:=-t) (b:=-b) ⋯;have g:gc (-t) (-b)=gc t b:=by unfold gc;simp[Int.gcd]
 rw[g,ybq]at e;rw[Int.ediv_neg,Int.ediv_neg];rw[Int.neg_ediv_of_dvd (zau _ _),Int.neg_ediv_of_dvd (gc_dvd_right _ _)]at e;exact e
def zcE{a b m:Int}(h1:gc a m=1)(h2:gc b m=1):gc (a*b) m=1:=by
 refine zjr ?_;rw[Int.gcd_mul_right_left_of_gcd_eq_one (zel h1)];exact zel h2
def zca{a b m:Int}(h1:gc m a=1)(h2:gc m b=1):gc m (a*b)=1:=by
 rw[gc_comm]at *;exact zcE h1 h2
def zbZ{a b m:Int}(h:gc b m=1)(d:a∣b):gc a m=1:=
 ztS λ_ h1 h2=>zr7 h (Int.dvd_trans h1 d) h2
def zbg{a b m:Int}(h:gc m b=1)(d:a∣b):gc m a=1:=by
 rw[gc_comm]at *;exact zbZ h d
def zhk(m n k:Int):gc (n+k*m) m=gc n m:=by
 rw[gc_comm,gc_comm n m];unfold gc;rw[Int.gcd_add_mul_right_right]
def plus_low{a1 b1 a2 b2:Int}(h1:0<b1)(h2:0<b2)(K:gc a1 b1=1)(G:gc a2 b2=1) :
  let s:=gc b1 b2
  let t:=a1*(b2/s)+a2*(b1/s)
  let c:=gc t s
  0<(b1/s)*(b2/c)/\gc (t/c) ((b1/s)*(b2/c))=1/\Rat.divInt (t/c) ((b1/s)*(b2/c))=Rat.divInt a1 b1+Rat.divInt a2 b2:=by
 intro s t c;have z:0<s:=zlv ⋯;obtain⟨u,B⟩:=zau b1 b2;obtain⟨v,C⟩:=gc_dvd_right b1 b2;have r:b1/s=u:=by rw[show b1=s*u from B];exact yX _ ⋯
 have E:b2/s=v:=by rw[show b2=s*v from C];exact yX _ ⋯
 have g:b1=s*u:=B;have e:b2=s*v:=C;have l:gc u v=1:=by
  have:=ze8 (a:=b1) (b:=b2) ⋯
  change gc (b1/s) (b2/s)=1 at this
  rwa [r,E]at this
 have m:0<u:=by
  rcases yby 0 u with h | h
  ·exact h
  ·have:=yap (yak z) h;lia
 have j:0<v:=by
  rcases yby 0 v with h | h
  ·exact h
  ·have:=yap (yak z) h;lia
 have q:t=a1*v+a2*u:=by show a1*(b2/s)+a2*(b1/s)=_;rw[r,E]
 have D:0<c:=gc_pos_right ⋯;obtain⟨x,I⟩:=zau t s;obtain⟨w,J⟩:=gc_dvd_right t s;have f:t=c*x:=I;have i:s=c*w:=J;have ex:t/c=x:=by rw[f];exact yX _ ⋯
 have k:0<w:=by
  rcases yby 0 w with h | h
  ·exact h
  ·have:=yap (yak D) h;lia
 have F:b2/c=w*v:=by rw[e,i,ya2];exact yX _ ⋯
 have p:gc x w=1:=by
  have:=ze8 (a:=t) (b:=s) ⋯
  change gc (t/c) (s/c)=1 at this;rw[ex,show s/c=w by rw[i];exact yX _ ⋯]at this;exact this
 have A:x∣t:=⟨c,by rw[f,yaf]⟩
 have y:gc t u=1:=by
  rw[q,zhk];exact zcE (zbg K ⟨s,by rw[g,yaf]⟩) (by rw[gc_comm];exact l)
 have o:gc t v=1:=by
  rw[q,Int.add_comm,zhk];exact zcE (zbg G ⟨s,by rw[e,yaf]⟩) l
 rw[ex,r,F];refine⟨yaN m (yaN k j),?_,?_⟩
 ·exact zca (zbZ y A) (zca p (zbZ o A))
 ·rw[Rat.divInt_add_divInt _ _ ⋯ ⋯];have H:s*c≠0:=yaa (yaN z D);rw[<- ybi (n:=x) (d:=u*(w*v)) H];have e1:s*c*x=a1*b2+a2*b1:=by
   have:s*c*x=s*(c*x):=by rw[ya2]
   rw[this,<- f,q,g,e,ybo];rw[yaH s a1 v,yaH s a2 u]
  have e2:s*c*(u*(w*v))=b1*b2:=by
   have:b1*b2=s*u*(c*w*v):=by rw[g,e,<- i]
   rw[this];simp only[ya2,yaH,yaf]
  rw[e1,e2]
def times_low{a1 b1 a2 b2:Int}(h1:0<b1)(h2:0<b2)(o:gc a1 b1=1)(h:gc a2 b2=1) :
  let d:=gc a1 b2
  let x:=gc a2 b1
  0<(b1/x)*(b2/d)/\gc ((a1/d)*(a2/x)) ((b1/x)*(b2/d))=1/\Rat.divInt ((a1/d)*(a2/x)) ((b1/x)*(b2/d))=Rat.divInt a1 b1*Rat.divInt a2 b2:=by
 intro d x;have hd:0<d:=gc_pos_right ⋯;have k:0<x:=gc_pos_right ⋯;have k1:gc (a1/d) (b2/d)=1:=ze8 ⋯;have k2:gc (a2/x) (b1/x)=1:=ze8 ⋯;have c:d∣a1:=zau _ _;have a:d∣b2:=gc_dvd_right _ _;have e:x∣a2:=zau _ _;have b:x∣b1:=gc_dvd_right _ _;have q1:a1/d∣a1:=⟨d,(y4 c).symm⟩
 have q2:b1/x∣b1:=⟨x,(y4 b).symm⟩
 have m:a2/x∣a2:=⟨x,(y4 e).symm⟩
 have l:b2/d∣b2:=⟨d,(y4 a).symm⟩
 have j:0<b1/x:=yaM h1 ⋯ b;have p2:0<b2/d:=yaM h2 ⋯ a;refine⟨yaN j p2,?_,?_⟩
 ·refine zcE (zca ?_ k1) (zca k2 ?_)
  ·exact zbg (zbZ o q1) q2
  ·exact zbg (zbZ h m) l
 ·rw[Rat.divInt_mul_divInt];have i:d*x≠0:=yaa (yaN hd k);rw[<- ybi (n:=(a1/d)*(a2/x)) (d:=(b1/x)*(b2/d)) i];have e1:d*x*((a1/d)*(a2/x))=a1*a2:=by
   have g:=y4 c;have f:=y4 e;generalize a1/d=z1 at *
   generalize a2/x=z2 at *
   rw[<- g,<- f];simp only[ya2,yaH,yaf]
  have e2:d*x*((b1/x)*(b2/d))=b1*b2:=by
   have g:=y4 b;have f:=y4 a;generalize b1/x=z1 at *
   generalize b2/d=z2 at *
   rw[<- g,<- f];simp only[ya2,yaH,yaf]
  rw[e1,e2]
end My
namespace Internal
variable {A:Around}{C a b er l p:Addr}{E:XK}{H H' H1 H2:Hp}{J:It}{K:Fg}{M:Model}{N ps:List Str}{P:Program}{Q:VK}{X:Cx}{c lo:Int}{caps:List (Option Nat)}{e:Expr}{es:List Expr}{f:Nat->Int}{fd:FuncData}{fp:List Addr}{g:TG}{h:Heap}{i j k m n t':Nat}{its:List Value}{ms ns:List Int}{o:HO}{pins:List (Addr × Obj)}{q r:Rat}{qual x:Str}{s:Shared}{sp:Sp}{st:Stmt}{tf:TT}{u:Value}{v y:V}{vs xs:List V}{w:World}{wi:TI}{σ:St}
open PySem PySem.Spec PyProof.Rows
def ztV{b:Bool}{A B:Prop}(h1:b=true->A)(h2:b=false->B):if b=true then A else B:=by
 cases b with
 | true=>rw[if_pos rfl];exact h1 rfl
 | false=>rw[if_neg yn];exact h2 rfl
section
variable {K:Fg}{H:Hp}{Q:VK}
def zup{i:Int}(q:Q (.bl true) H):zhT K [.int i,.ty "int"] H Q:=zrh (t':=.type "int") (cv:=.type "int") (b:=true) rfl (.int i) (by with_unfolding_all rfl) q
def zts{i:Int}(q:Q (.bl false) H):zhT K [.int i,.ty "bool"] H Q:=zrh (t':=.type "int") (cv:=.type "bool") (b:=false) rfl (.int i) (by with_unfolding_all rfl) q
end
noncomputable def zrl:Sp:=λvs H Q _=>∃a b:Int,vs=[.int a,.int b]/\Q (.int (My.gc a b)) H
def zso{a b:Int}(q:Q (.int (My.gc a b)) H):zrl [.int a,.int b] H Q E:=⟨a,b,rfl,q⟩
def zn4(a:Int):0<=if a<0 then -a else a:=by split<;>lia
def zbI{a b:Int}(h:b≠0)(f:sz b<=n):sz (My.gc a b)<=n:=by
 refine yc (zfP ?_) f;have h1:=My.gc_pos_right (a:=a) h;obtain⟨c,d⟩:=My.gc_dvd_right a b;have g:c≠0:=by rintro rfl;rw[Int.mul_zero]at d;exact h d
 have e:b.natAbs=(My.gc a b).natAbs*c.natAbs:=by rw[<- Int.natAbs_mul,<- d]
 rw[e];exact Nat.le_mul_of_pos_right _ ⋯
noncomputable def cell (ns:List Int) (k:Int):Int:=ns.getD k.toNat 0
noncomputable def IsQ (H:Hp) (a:Addr) (q:Rat):Prop:=H a=some (.tup [.int q.num,.int (q.den:Int)])
def IsQ.sq(h:IsQ H a q):SqT K H a [.int q.num,.int (q.den:Int)]:=SqT.of h
noncomputable def dQ (q:Rat):PyData:=.tuple [.int q.num,.int (q.den:Int)]
def IsQ.rep(h:IsQ H a q):RepD K H (.ref a) (dQ q):=.tup h.sq (.cons (.int _) (.cons (.int _) .nil))
def IsQ.same(h:IsQ H a q)(e:Same H H'):IsQ H' a q:=e _ _ h
def zaC(q:Rat):0<(q.den:Int):=My.rat_den_pos q
def zrH(h1:q.num=r.num)(h2:(q.den:Int)=(r.den:Int)):q=r:=by
 rw[<- My.rat_self q,<- My.rat_self r,h1,h2]
def zvl(q r:Rat):PyData.eqv (dQ q) (dQ r)=decide (q=r):=by
 have e:PyData.eqv (dQ q) (dQ r)=((q.num == r.num)&&((q.den:Int) == (r.den:Int))):=by simp[dQ,PyData.eqv,PyData.eqvAll]
 rw[e];by_cases h:q=r
 ·subst h;simp
 ·rw[decide_eq_false h];cases h1:(q.num == r.num) with
  | false=>rfl
  | true=>
   cases h2:((q.den:Int) == (r.den:Int)) with
   | false=>rfl
   | true=>exact absurd (zrH (eq_of_beq h1) (eq_of_beq h2)) h
noncomputable def NewQ (H:Hp) (Q:VK) (q:Rat):Prop:=∀p H',Same H H'->IsQ H' p q->Q (.ref p) H'
def NewQ.mk{x y:Int}(k:NewQ H Q q)(e:x=q.num/\y=(q.den:Int)):zfm Q [.int x,.int y] H:=by
 refine⟨by show 2<=sizeLine;decide,λp hp=>k p _ (Same.new hp _) ?_⟩;rw[e.1,e.2];exact zF
noncomputable def SzQ (q:Rat) (n m:Nat):Prop:=sz q.num<=n/\sz (q.den:Int)<=m
def SzQ.mono{b a:Nat}(h:SzQ q n m)(h1:n<=b)(h2:m<=a):SzQ q b a:=⟨yc h.1 h1,yc h.2 h2⟩
def zd6{t b:Int}(a:0<b)(h1:sz t<=n)(h2:sz b<=m):SzQ (Rat.divInt t b) n m:=by
 have e:=My.part_pos (t:=t) a;unfold SzQ;rw[<- e.1,<- e.2];exact⟨yc (zbH _ _) h1,yc (zbH _ _) h2⟩
def zqd{t b:Int}(a:b≠0)(h1:sz t<=n)(h2:sz b<=m):SzQ (Rat.divInt t b) n m:=by
 rcases yby 0 b with h | h
 ·exact zd6 h h1 h2
 ·rw[<- ybq];exact zd6 ⋯ (yc (zhi _) h1) (yc (zhi _) h2)
noncomputable def ziL (n:Nat):Sp:=λvs H Q _=>∃(a b:Addr) (q r:Rat),vs=[.ref a,.ref b]/\IsQ H a q/\IsQ H b r/\SzQ q n n/\SzQ r n n/\Q (.bl (decide (q<r))) H
def zi9:=λ{n:Nat} {a b:Addr} {q r:Rat} {H:Hp} {Q:VK} {E:XK} h1 h2 s1 s2 k=>@id (ziL n [.ref a,.ref b] H Q E) ⟨a,b,q,r,rfl,h1,h2,s1,s2,k⟩
noncomputable def zfU (n:Nat):Sp:=λvs H Q _=>∃(a b:Addr) (q r:Rat),vs=[.ref a,.ref b]/\IsQ H a q/\IsQ H b r/\SzQ q n n/\SzQ r n n/\(if r<q then Q (.ref b) H else Q (.ref a) H)
def ziU:=λ{n:Nat} {a b:Addr} {q r:Rat} {H:Hp} {Q:VK} {E:XK} h1 h2 s1 s2 k=>@id (zfU n [.ref a,.ref b] H Q E) ⟨a,b,q,r,rfl,h1,h2,s1,s2,k⟩
noncomputable def zo2:Sp:=λvs H Q _=>∃(a:Addr) (q:Rat),vs=[.ref a]/\IsQ H a q/\SzQ q 60000 8999/\Q (.int (q.num/(q.den:Int))) H
noncomputable def OkQ (q:Rat):Prop:=SzQ q 1000000 8999
def SzQ.ok(h:SzQ q n m)(h1:n<=1000000)(h2:m<=8999):OkQ q:=h.mono h1 h2
def zmU(q r:Rat):(q.num*((r.den:Int)/My.gc q.den r.den)+r.num*((q.den:Int)/My.gc q.den r.den))/My.gc (q.num*((r.den:Int)/My.gc q.den r.den)+r.num*((q.den:Int)/My.gc q.den r.den)) (My.gc q.den r.den)=(q+r).num /\
  ((q.den:Int)/My.gc q.den r.den)*((r.den:Int)/My.gc (q.num*((r.den:Int)/My.gc q.den r.den)+r.num*((q.den:Int)/My.gc q.den r.den)) (My.gc q.den r.den))=((q+r).den:Int):=by
 have h:=My.plus_low (a1:=q.num) (b1:=q.den) (a2:=r.num) (b2:=r.den) (zaC q) (zaC r) (My.rat_low q) (My.rat_low r);refine My.low_unique h.1 h.2.1 ?_;have e:=h.2.2;rw[My.rat_self,My.rat_self]at e;exact e
def zlr(q r:Rat):(q.num/My.gc q.num r.den)*(r.num/My.gc r.num q.den)=(q*r).num/\((q.den:Int)/My.gc r.num q.den)*((r.den:Int)/My.gc q.num r.den)=((q*r).den:Int):=by
 have h:=My.times_low (a1:=q.num) (b1:=q.den) (a2:=r.num) (b2:=r.den) (zaC q) (zaC r) (My.rat_low q) (My.rat_low r);refine My.low_unique h.1 h.2.1 ?_;have e:=h.2.2;rw[My.rat_self,My.rat_self]at e;exact e
def zsG(q r:Rat):q+r=Rat.divInt (q.num*r.den+r.num*q.den) ((q.den:Int)*r.den):=by
 have h:=Rat.divInt_add_divInt q.num r.num (d₁:=q.den) (d₂:=r.den) (yaa (zaC q)) (yaa (zaC r));rw[My.rat_self,My.rat_self]at h;exact h
def zsH(q r:Rat):q*r=Rat.divInt (q.num*r.num) ((q.den:Int)*r.den):=by
 have h:=Rat.divInt_mul_divInt q.num r.num (d₁:=q.den) (d₂:=r.den);rw[My.rat_self,My.rat_self]at h;exact h
def SzQ.add{c a l:Nat}(h:SzQ q n m)(h':SzQ r c a)(d:n+a<=k)(b:c+m<=k)(e:m+a<=l):SzQ (q+r) (k+1) l:=by
 rw[zsG];exact zd6 (yaN (zaC q) (zaC r)) (zum (yc (zdY h.1 h'.2) d) (yc (zdY h'.1 h.2) b)) (yc (zdY h.2 h'.2) e)
def SzQ.mul{b a l:Nat}(h:SzQ q n m)(h':SzQ r b a)(c:n+b<=k)(d:m+a<=l):SzQ (q*r) k l:=by
 rw[zsH];exact zd6 (yaN (zaC q) (zaC r)) (yc (zdY h.1 h'.1) c) (yc (zdY h.2 h'.2) d)
def SzQ.neg(h:SzQ q n m):SzQ (-q) n m:=⟨by rw[Rat.neg_num];exact yc (zhi _) h.1,by rw[Rat.neg_den];exact h.2⟩
def zez(a:1<=m):SzQ 0 n m:=⟨yc (zaO (n:=0) (by decide)) (yI _),yc (zaO (n:=1) (by decide)) a⟩
noncomputable def zlf:Sp:=λvs H Q _=>∃(a b:Addr) (q r:Rat),vs=[.ref a,.ref b]/\IsQ H a q/\IsQ H b r/\OkQ q/\OkQ r/\NewQ H Q (q+r)
def zqr:=λ{a b:Addr} {q r:Rat} {H:Hp} {Q:VK} {E:XK} h1 h2 s1 s2 k=>@id (zlf [.ref a,.ref b] H Q E) ⟨a,b,q,r,rfl,h1,h2,s1,s2,k⟩
noncomputable def zhW:Sp:=λvs H Q _=>∃(a b:Addr) (q r:Rat),vs=[.ref a,.ref b]/\IsQ H a q/\IsQ H b r/\OkQ q/\OkQ r/\NewQ H Q (q-r)
def zoB:=λ{a b:Addr} {q r:Rat} {H:Hp} {Q:VK} {E:XK} h1 h2 s1 s2 k=>@id (zhW [.ref a,.ref b] H Q E) ⟨a,b,q,r,rfl,h1,h2,s1,s2,k⟩
noncomputable def zii:Sp:=λvs H Q _=>∃(a b:Addr) (q r:Rat),vs=[.ref a,.ref b]/\IsQ H a q/\IsQ H b r/\OkQ q/\OkQ r/\NewQ H Q (q*r)
def zoq:=λ{a b:Addr} {q r:Rat} {H:Hp} {Q:VK} {E:XK} h1 h2 s1 s2 k=>@id (zii [.ref a,.ref b] H Q E) ⟨a,b,q,r,rfl,h1,h2,s1,s2,k⟩
def zlN(r:Rat):-r.num=(-r).num/\(r.den:Int)=((-r).den:Int):=⟨by rw[Rat.neg_num],by rw[Rat.neg_den]⟩
def zsg(h:0<r.num):(r.den:Int)=(r⁻¹).num/\r.num=((r⁻¹).den:Int):=
 My.low_unique h (by rw[My.gc_comm];exact My.rat_low r) (Rat.inv_def r).symm
def zsf(h:r.num<0):-(r.den:Int)=(r⁻¹).num/\-r.num=((r⁻¹).den:Int):=
 My.low_unique ⋯ (by
  have g:=My.rat_low r;have e:My.gc (-(r.den:Int)) (-r.num)=My.gc r.num r.den:=by
   rw[My.gc_comm];unfold My.gc;simp[Int.gcd]
  rw[e];exact g) (by rw[ybq];exact(Rat.inv_def r).symm)
def SzQ.inv(a:r.num≠0)(h:SzQ r n m):SzQ r⁻¹ m n:=by
 rw[Rat.inv_def];exact zqd a h.2 h.1
noncomputable def IsQs (H:Hp):List V->List Rat->Prop
 | [],[]=>True
 | v :: vs,q :: qs=>(∃a,v=.ref a/\IsQ H a q)/\IsQs H vs qs
 | _,_=>False
theorem IsQs.same{H H':Hp}(e:Same H H'):∀{vs:List V} {qs:List Rat},IsQs H vs qs->IsQs H' vs qs
 | [],[],_=>trivial
 | _ :: _,_ :: _,⟨⟨a,e1,h⟩,r⟩=>⟨⟨a,e1,h.same e⟩,r.same e⟩
theorem IsQs.length{H:Hp}:∀{vs:List V} {qs:List Rat},IsQs H vs qs->vs.length=qs.length
 | [],[],_=>rfl
 | _ :: _,_ :: _,⟨_,r⟩=>by rw[yE,yE,r.length]
theorem IsQs.app{H:Hp}{a:Addr}{q:Rat}(h:IsQ H a q):∀{vs:List V} {qs:List Rat},IsQs H vs qs->IsQs H (vs++[.ref a]) (qs++[q])
 | [],[],_=>⟨⟨a,rfl,h⟩,trivial⟩
 | _ :: _,_ :: _,⟨x,r⟩=>⟨x,IsQs.app h r⟩
theorem IsQs.get{H:Hp}:∀{vs:List V} {qs:List Rat} {i:Nat} {v:V},IsQs H vs qs->vs[i]?=some v->∃a q,v=.ref a/\qs[i]?=some q/\IsQ H a q
 | _ :: _,_ :: _,0,_,⟨⟨a,e,h⟩,_⟩,rfl=>⟨a,_,e,rfl,h⟩
 | _ :: _,_ :: _,i+1,_,⟨_,r⟩,e=>r.get (i:=i) (by simpa using e)
 | [],[],_,_,_,e=>by simp at e
noncomputable def zdQ (qs:List Rat):Rat:=qs.foldl (·+·) 0
def ze0(qs:List Rat)(q:Rat):zdQ (qs++[q])=zdQ qs+q:=by unfold zdQ;rw[yaq];rfl
theorem zl0{n m:Nat}(b:1<=m):∀{qs:List Rat},(∀q∈qs,SzQ q n m)->∀i,i<=qs.length->SzQ (zdQ (qs.take i)) ((m+1)*i+n) (m*i+1)
 | qs,_,0,_=>by rw[yaT];exact zez (Nat.le_add_left _ _)
 | qs,h,i+1,hi=>by
  rw[yah (show i<qs.length by lia),ze0];have h1:=zl0 b h i ⋯;have h2:=h _ (ybz (show i<qs.length by lia));have e:(m+1)*(i+1)+n=((m+1)*i+n+m)+1:=by rw[Nat.mul_add,Nat.mul_one];lia
  rw[e];have a:m*(i+1)+1=m*i+1+m:=by rw[Nat.mul_add,Nat.mul_one];lia
  rw[a];have es:(m+1)*i=m*i+i:=by rw[Nat.add_mul,Nat.one_mul]
  exact h1.add h2 (yh _) ⋯ (yh _)
def zpN(qs:List Rat)(i:Nat):qs.take i=qs.take (min i qs.length):=by
 rcases Nat.le_total i qs.length with h | h
 ·rw[Nat.min_eq_left h]
 ·rw[Nat.min_eq_right h,List.take_of_length_le h,yz]
def zlU{c:Nat}(a:1<=m){qs:List Rat}(h:∀q∈qs,SzQ q n m)(b:qs.length<=c)(h1:(m+1)*c+n<=1000000)(h2:m*c+1<=8999)(i:Nat):OkQ (zdQ (qs.take i)):=by
 rw[zpN];have hi:min i qs.length<=c:=yc (Nat.min_le_right _ _) b;exact(zl0 a h (min i qs.length) (Nat.min_le_right _ _)).ok (yc (ybd (Nat.mul_le_mul_left _ hi) _) h1) (yc (ybd (Nat.mul_le_mul_left _ hi) _) h2)
noncomputable def ziM (K:Fg):Sp:=λvs H Q _=>∃(a:Addr) (xs:List V) (qs:List Rat),vs=[.ref a]/\SqL K H a xs/\IsQs H xs qs/\(∀q∈qs,OkQ q)/\(∀i,OkQ (zdQ (qs.take i)))/\NewQ H Q (zdQ qs)
def zpk:=λ{K:Fg} {a:Addr} {xs:List V} {qs:List Rat} {H:Hp} {Q:VK} {E:XK} h hq h1 h2 k=>@id (ziM K [.ref a] H Q E) ⟨a,xs,qs,rfl,h,hq,h1,h2,k⟩
section
variable {σ:St}{H:Hp}{Q:VK}{D:Ends}{ta tb tc te to:TE}{t u:TS}{K:Fg}
noncomputable def zmP (J:It) (g:TG) (tb:TS):TS:=λD σ H=>∃W:Nat->Nat->St->Hp->Prop,(∃m,W 0 m σ H)/\∀i m σ H,W i m σ H ->
 (J.stop i H/\D.nx σ H)\/(J.go i H/\∃N:St->Hp->Prop,(∀σ' H',N σ' H'->∃m',m'<m/\W (i+1) m' σ' H')/\∀x H',J.yld i H x H'->g x σ H' λa H2=>tb { D with nx:=N,ct:=N,bk:=D.nx } a H2)
def zuv{tb:TS}(q:wi σ H λJ H1=>zmP J g tb D σ H1):zsS wi g tb D σ H:=q
noncomputable def zns (R:It->Hp->Prop) (vs:List V) (H:Hp):Prop:=∃j:Int,vs=[.int j]/\-(2 ^ 62)<=j/\j<2 ^ 62/\R (Itr 0 j.toNat) H
noncomputable def zqz (K:Fg) (R:It->Hp->Prop) (x:V) (H:Hp):Prop:=∃a,x=.ref a/\(∃xs,SqL K H a xs)/\R (Itl K a) H
def zt5{tr:TA}{R:It->Hp->Prop}(q:tr σ H (zns R)):zrc tr σ H R:=q
def zuw{R:It->Hp->Prop}(q:te σ H (zqz K R)):zmN K te σ H R:=q
def zsi{R:It->Hp->Prop}{j:Int}(h1:-4611686018427387904<=j)(h2:j<4611686018427387904)(q:R (Itr 0 j.toNat) H):zns R [.int j] H:=⟨j,rfl,h1,h2,q⟩
def zrt{R:It->Hp->Prop}(h:SqL K H a xs)(q:R (Itl K a) H):zqz K R (.ref a) H:=⟨a,rfl,⟨xs,h⟩,q⟩
def zl7{R:St->Hp->Prop}(q:R (σ.set i (some v)) H):zbn i v σ H R:=q
def zbG{lo:Int}{n:Nat}{g:TG}{tb:TS}(a:Nat->St->Hp->Prop)(c:a 0 σ H)
  (hs:∀i σ H,i<n->a i σ H->g (.int (lo+i)) σ H λb H2=>tb { D with nx:=a (i+1),ct:=a (i+1),bk:=D.nx } b H2) (hd:∀σ H,a n σ H->D.nx σ H):zmP (Itr lo n) g tb D σ H:=zoQ a c hs hd
def zbc{g:TG}{tb:TS}(b:Nat->St->Hp->Prop)(e:b 0 σ H)(c:∀i σ H,i<=xs.length->b i σ H->SqL K H a xs)
  (hs:∀i x σ H,xs[i]?=some x->b i σ H->g x σ H λd H2=>tb { D with nx:=b (i+1),ct:=b (i+1),bk:=D.nx } d H2) (hd:∀σ H,b xs.length σ H->D.nx σ H):zmP (Itl K a) g tb D σ H:=zp6 b e c hs hd
def zvy{T:String}{r:V->List V->Hp->VK->Prop}{tr:TA}(q:to σ H λx H1=>tyV K T x H1/\tr σ H1 λxs H2=>r x xs H2 Q):tBM K T r to tr σ H Q:=q
def zuD{T:String}{r:V->List V->Hp->VK->Prop}(q:to σ H λx H1=>tyV K T x H1/\r x [] H1 Q):zmH K T r to σ H Q:=q
def zuF{A:Prop}(h:H l=some (.lst xs))(q:A):tyV K "list" (.ref l) H/\A:=⟨.inl ⟨rfl,xs,SqL.of h⟩,q⟩
def zqE(h:H l=some (.lst xs))(a:xs.length<sizeLine)(q:Q .non (upd H l (.lst (xs++[y])))):zbb (.ref l) [y] H Q:=⟨l,xs,y,rfl,rfl,h,a,q⟩
def zt3{k:Int}{R:Hp->Prop}(h:H l=some (.lst xs))(e:ixN xs.length k=some j)(q:R (upd H l (.lst (xs.set j v)))):zhn (.ref l) (.int k) v H R:=⟨l,xs,k,j,rfl,rfl,h,e,q⟩
def zpA(h:SqL K H a xs)(q:∀l,H l=none->Q (.ref l) (upd H l (.lst xs))):zcY K [.ref a] H Q:=⟨a,xs,rfl,.inl h,q⟩
def zhE{i:Int}(h:H a=some (.lst xs))(e:atI xs i=some v)(q:Q v H):rIx K (.ref a) (.int i) H Q:=zb7 (.of h) e q
def zvr{r:V->Option Int->Option Int->Hp->VK->Prop}{tl th:TO}(q:te σ H λx H1=>tl σ H1 λl H2=>th σ H2 λu a=>r x l u a Q):tSl r te tl th σ H Q:=q
noncomputable def zq6 (R:Option Int->Hp->Prop) (x:V) (H:Hp):Prop:=∃i,x=.int i/\R (some i) H
def zto{R:Option Int->Hp->Prop}(q:te σ H (zq6 R)):zro te σ H R:=q
def zrJ{R:Option Int->Hp->Prop}{i:Int}(q:R (some i) H):zq6 R (.int i) H:=⟨i,rfl,q⟩
def zu7{lo hi:Option Int}(h:SqL K H a xs)(q:∀p,H p=none->Q (.ref p) (upd H p (.lst (zcu xs lo hi)))):zc5 K (.ref a) lo hi H Q:=⟨a,xs,rfl,h,q⟩
end
def Same.fresh(g:Same H H')(h:H' l=none):H l=none:=by
 cases e:H l with
 | none=>rfl
 | some o=>rw[g l o e]at h;cases h
def zkj(h:n<=100000):n<sizeLine:=yC h (by decide)
def zbf(h:n<=100000):n<=sizeLine:=yaj (zkj h)
noncomputable def But (l:Addr) (H H':Hp):Prop:=∀b,b≠l->H' b=H b
theorem But.upd{H:Hp}{l:Addr}{o:HO}:But l H (Internal.upd H l o):=λ_ h=>zG h
def But.at(g:But l H H')(h:H a=some o)(n:a≠l):H' a=some o:=by rw[g a n];exact h
def But.same{H0:Hp}(g:But l H H')(e:Same H0 H)(h:H0 l=none):Same H0 H':=λb o q=>by rw[g b (zy q h)];exact e b o q
noncomputable def LBut (l:Addr) (H H':Hp):Prop:=But l H H'/\∃xs,H l=some (.lst xs)
theorem LBut.tup{l:Addr}{H H':Hp}(g:LBut l H H'){a:Addr}{xs:List V}(h:H a=some (.tup xs)):H' a=some (.tup xs):=by
 obtain⟨ys,e⟩:=g.2;exact g.1.at h (zag h e (by intro z;cases z))
def LBut.isQ(g:LBut l H H')(h:IsQ H a q):IsQ H' a q:=g.tup h
theorem LBut.isQs{l:Addr}{H H':Hp}(g:LBut l H H'):∀{vs:List V} {qs:List Rat},IsQs H vs qs->IsQs H' vs qs
 | [],[],_=>trivial
 | _ :: _,_ :: _,⟨⟨a,e,h⟩,r⟩=>⟨⟨a,e,g.isQ h⟩,g.isQs r⟩
def LBut.lst{l:Addr}{H H':Hp}(g:LBut l H H'){a:Addr}{o:HO}(h:H a=some o)(n:a≠l):H' a=some o:=g.1.at h n
theorem LBut.same{l:Addr}{H0 H H':Hp}(g:LBut l H H')(e:Same H0 H)(h:H0 l=none):Same H0 H':=g.1.same e h
def Same.at(e:Same H H')(h:H a=some o):H' a=some o:=e a o h
def Same.isQ(e:Same H H')(h:IsQ H a q):IsQ H' a q:=h.same e
def SqL.keep(h:SqL K H a xs)(e:Same H H'):SqL K H' a xs:=e.seq h
def Same.after(b:Same H1 H2)(a:Same H H1):Same H H2:=a.trans b
theorem Same.none{H H':Hp}{l:Addr}(h:H' l=none)(g:Same H H'):H l=none:=g.fresh h
def zbw(h':H b=none)(h:H a=some o):b≠a:=(zy h h').symm
section
variable {σ:St}{H:Hp}{Q:VK}{D:Ends}{t u:TS}{K:Fg}
def zaA(a:xs.length<=100000)(q:∀p H',H p=none->Same H H'->H' p=some (.tup xs)->Q (.ref p) H'):zfm Q xs H:=⟨zbf a,λp hp=>q p _ hp (Same.new hp _) zF⟩
def zub(a:xs.length<=100000)(q:∀p H',H p=none->Same H H'->H' p=some (.lst xs)->Q (.ref p) H'):zqw Q xs H:=⟨zbf a,λp hp=>q p _ hp (Same.new hp _) zF⟩
def zaG{x y:Int}(e:x=q.num/\y=(q.den:Int))(k:NewQ H Q q):zfm Q [.int x,.int y] H:=NewQ.mk k e
def zdv(h:H l=some (.lst xs))(a:xs.length<=100000)(q:∀H',LBut l H H'->H' l=some (.lst (xs++[y]))->Q .non H'):zbb (.ref l) [y] H Q:=
 zqE h (zkj a) (q _ ⟨But.upd,xs,h⟩ zF)
def zg8{k:Int}{R:Hp->Prop}(h:H l=some (.lst xs))(e:ixN xs.length k=some j)(q:∀H',LBut l H H'->H' l=some (.lst (xs.set j v))->R H'):zhn (.ref l) (.int k) v H R:=
 zt3 h e (q _ ⟨But.upd,xs,h⟩ zF)
def zn8(h:SqL K H a xs)(q:∀p H',H p=none->Same H H'->H' p=some (.lst xs)->Q (.ref p) H'):zcY K [.ref a] H Q:=zpA h λp hp=>q p _ hp (Same.new hp _) zF
def zsX{lo hi:Option Int}(h:SqL K H a xs)(q:∀p H',H p=none->Same H H'->H' p=some (.lst (zcu xs lo hi))->Q (.ref p) H'):zc5 K (.ref a) lo hi H Q:=zu7 h λp hp=>q p _ hp (Same.new hp _) zF
def zod(i:Nat)(P:V->Hp->Prop)(q:t { D with nx:=λa H'=>∃v,a=σ.set i (some v)/\P v H' } σ H)(r:∀v H',P v H'->u D (σ.set i (some v)) H'):zpB t u D σ H:=
 ⟨_,q,λa H' ⟨v,e,p⟩=>by subst e;exact r v H' p⟩
end
def zo6{k:Int}(a:0<=k)(h:k<n):ixN n k=some k.toNat:=by unfold ixN;rw[if_pos a,if_pos h]
def zbd{α:Type}{xs:List α}{k:Int}{v:α}(a:0<=k)(h:xs[k.toNat]?=some v):atI xs k=some v:=by
 have e:k=(k.toNat:Int):=by lia
 rw[e];exact zap h
section
variable {X:Cx}{pins:List (Addr × Obj)}{σ:St}{H:Hp}{s:Shared}{h':Heap}
def Inv.turnedL(I:Inv X pins σ H s)(k:∀b o,b∉fp->s.heap.get? b=some o->h'.get? b=some o)(f:∀b∈fp,zb5 X pins H b):Inv X pins σ H { s with heap:=h',toks:=t' }:=by
 have d:∀b u,H b=some u->b∉fp:=λb u e z=>by rw[(f b z).1]at e;cases e
 refine I.step (g':=s.gens) (d':=s.drawn) (ch:=fp) (λb g=>⟨(f b g).2.2.2.1,(f b g).2.1,(f b g).2.2.2.2.1,(f b g).2.2.2.2.2⟩) (λb o _ _ a e _=>k b o a e) (λb o _ _ a e _=>⟨o.slots,k b o a e⟩) (λ_ _ _ _ n=>n)
  (λb o a e=>⟨o,k b o a e⟩) (λ_ _ e=>e) (λ_ _ _ e=>e) (λb ps e=>⟨#[],by rw[e];simp⟩) (λm j=>?_) (λb u e=>?_) I.bare
 ·obtain⟨o,es,i,h,r⟩:=j;exact⟨o,es,i,k _ o (λz=>(f _ z).2.1 rfl) h,r⟩
 ·refine(I.hok b u e).stay (λc v a q=>k c v ?_ q) (λ_ q=>q) λ_ _ q=>q;rcases a with z | z
  ·rw[z];exact d b u e
  ·exact d c _ z
def Inv.turnedNew{t':Nat}(I:Inv X pins σ H s)(k:∀b o,b∉fp->s.heap.get? b=some o->h'.get? b=some o)(f:∀b∈fp,zb5 X pins H b)(hp:s.heap.objs.size<=p)(new:ObjOk X.prog X.w (upd H p o) h' p o) :
  Inv X pins σ (upd H p o) { s with heap:=h',toks:=t' }:=by
 have g:∀b u,H b=some u->b∉fp:=λb u e z=>by rw[(f b z).1]at e;cases e
 have hn:H p=none:=I.hok.fresh hp;refine I.step (g':=s.gens) (d':=s.drawn) (ch:=fp) (λb a=>⟨(f b a).2.2.2.1,(f b a).2.1,(f b a).2.2.2.2.1,(f b a).2.2.2.2.2⟩) (λb o _ _ d e _=>k b o d e) (λb o _ _ d e _=>⟨o.slots,k b o d e⟩) (λb u _ e n=>?_)
  (λb o d e=>⟨o,k b o d e⟩) (λb xs e=>by rw[zG (zy e hn)];exact e) (λb u v e=>by rw[zG (zy e hn)];exact e) (λb ps e=>⟨#[],by rw[zG (zy e hn),e];simp⟩) (λm j=>?_) (λb u e=>?_) I.bare
 ·rw[zG (yo (yu (Heap.lt_size e) hp))];exact n
 ·obtain⟨o,es,i,h,r⟩:=j;exact⟨o,es,i,k _ o (λz=>(f _ z).2.1 rfl) h,r⟩
 ·by_cases a:b=p
  ·subst a;rw[zF]at e;cases e;exact new
  ·rw[zG a]at e;refine(I.hok b u e).stay (λc v d q=>k c v ?_ q) (λc q=>by rw[zG (zy q hn)];exact q) λc xs q=>by rw[zG (zy q hn)];exact q
   rcases d with z | z
   ·rw[z];exact g b u e
   ·exact g c _ z
end
def zba{o o':Obj}{m n:String}(e:h.get? a=some o)(c:o.cls=.type m)(g:h.get? b=some o')(f:o'.cls=.type n)(d:(m == n)=false):a≠b:=by
 rintro rfl;rw[e]at g;cases g;rw[c]at f;cases f;rw[beq_self_eq_true]at d;cases d
def tup2{x:V}{v:Value}(e:h.get? p=some { cls:=.type "tuple",data:=.seq #[u,v] })(b:RelV x u)(a:RelV y v):ObjOk P w H h p (.tup [x,y]):=
 ⟨zbf (by simp),[u,v],.cons b (.cons a .nil),_,e,rfl,_,rfl⟩
noncomputable def Itn (K:Fg) (a:Addr):It:=
 ⟨λi H=>∃xs x,SqL K H a xs/\xs[i]?=some x,λi H v H'=>∃p x,H p=none/\v=.ref p/\(∀xs,SqL K H a xs->xs[i]?=some x)/\H'=upd H p (.tup [.int i,x]),λi H=>∃xs,SqL K H a xs/\xs.length<=i⟩
def zo9{kx:Nat}{tp:Pos}(a e it:Addr)(n:e≠it):Turn P w K (.Tuple es kx tp) (Itn K a) [e,it] e (λi h=>(∃old,IsEnum h e it i old)/\h.IsListIter it a i) where
 mem:=by simp
 obj:=λi h st b j=>by
  obtain⟨⟨old,h1⟩,o,h2,c,d⟩:=st;rcases yt.mp j with z | z
  ·subst z;exact⟨_,h1,λv z=>by cases z⟩
  ·have e:b=it:=by simpa using z
   subst e;exact⟨o,h2,λv z=>by rw[d]at z;cases z⟩
 keep:=λi h h' st k=>by
  obtain⟨⟨old,h1⟩,h2⟩:=st;exact⟨⟨old,k e (by simp) _ h1⟩,h2.at λo q=>k it (by simp) o q⟩
 item:=by
  intro X y L G N i pins s σ H E I r st J;subst y L G;obtain⟨⟨old,l⟩,g⟩:=st;obtain⟨xs,x,t,C⟩:=J;obtain⟨its,M,p,T⟩:=I.list t;obtain⟨u,R,ru⟩:=M.get C;refine wpAny_pyNext_enum_item l g p.isList (x:=u) (by simpa using R) n λh1 V B F S k1=>?_;refine⟨_,rfl,wpAny_letOwnedTupleGo_enum V λh2 e2 D=>?_⟩;have m:e≠s.heap.objs.size:=yo (Heap.lt_size l);have f:Heap.SameBut e h1 h2:=D;have U:h2.get? s.heap.objs.size=some { cls:=.type "tuple",data:=.seq #[.int i s.toks,u] }:=(f.2 _ (yaA m)).trans F;have k2:∀b o,b∉[e,it]->s.heap.get? b=some o->h2.get? b=some o:=λb o j q=>by
   have n1:b≠e:=λz=>j (by simp[z]);have n2:b≠it:=λz=>j (by simp[z]);exact(f.2 b n1).trans (k1 b o n1 n2 q)
  have Q:Inv X pins σ (upd H s.heap.objs.size (.tup [.int i,x])) { s with heap:=h2,toks:=s.toks+1 }:=I.turnedNew k2 r (yh _) (tup2 U ⟨_,rfl⟩ ru);have hn:H s.heap.objs.size=none:=I.hok.fresh (yh _);refine⟨.ref s.heap.objs.size,_,Q,rfl,⟨_,x,hn,rfl,λys W=>by rw[I.list_inj W t];exact C,rfl⟩,⟨⟨_,e2⟩,B.at λo q=>(f.2 it (yaA n)).trans q⟩,λb j=>?_⟩;have A:b≠s.heap.objs.size:=by
   rcases yt.mp j with z | z
   ·rw[z];exact m
   ·have e:b=it:=by simpa using z
    subst e;obtain⟨o,q,_⟩:=g;exact yo (Heap.lt_size q)
  rw[zG A];exact(r b j).1
 done:=by
  intro X y L G N i pins s σ H E I r st J;subst y L G;obtain⟨⟨old,l⟩,g⟩:=st;obtain⟨xs,t,C⟩:=J;obtain⟨its,M,p,T⟩:=I.list t;have Y:=M.length;refine wpAny_pyNext_enum_end (I.ok.hd N) l g p.isList (by simp;lia) λh1 O=>⟨rfl,I.turnedL (t':=s.toks) (fp:=[e,it]) (λb o j q=>O b o (λz=>j (by simp[z])) q) r⟩
 self:=λ_ _ _ _ _ st h=>by
  obtain⟨⟨old,l⟩,_⟩:=st;exact wpAny_pyIter_enum l h
noncomputable def Itz (K:Fg) (a b:Addr):It:=
 ⟨λi H=>∃xs ys x y,SqL K H a xs/\SqL K H b ys/\xs[i]?=some x/\ys[i]?=some y,λi H v H'=>∃p x y,H p=none/\v=.ref p/\(∀xs,SqL K H a xs->xs[i]?=some x)/\(∀ys,SqL K H b ys->ys[i]?=some y)/\H'=upd H p (.tup [x,y]),
  λi H=>∃xs ys,SqL K H a xs/\SqL K H b ys/\(xs.length<=i\/ys.length<=i)⟩
def zkf{z TI TO m n:Addr}{s q p r o:Value}{k1 k2:Nat}{xs ys:Array Value}(e:IsZip h z TI TO s)(d:IsPair h TI q p)(c:IsPair h TO r o)(h1:h.IsListIter m a k1)(h2:h.IsListIter n b k2)
  (l1:h.IsList a xs) (l2:h.IsList b ys) (nT:TI≠TO) (ni:m≠n):ZipApart z TI TO m n a b:=by
 obtain⟨v,e1,f,_⟩:=h1;obtain⟨w,e2,g,_⟩:=h2;obtain⟨t,l,i,_⟩:=l1;obtain⟨u,j,k,_⟩:=l2;exact⟨zba d rfl e rfl (by decide),zba c rfl e rfl (by decide),zba e1 f e rfl (by decide),zba e2 g e rfl (by decide),nT,zba d rfl e1 f (by decide),zba d rfl e2 g (by decide),zba c rfl e1 f (by decide),zba c rfl e2 g (by decide),ni,zba l i e rfl (by decide),zba l i c rfl (by decide),zba l i e1 f (by decide),zba l i e2 g (by decide),zba j k e rfl (by decide),zba j k c rfl (by decide),zba j k e1 f (by decide),zba j k e2 g (by decide)⟩
def zpr{kx:Nat}{tp:Pos}(a b z TI TO n m:Addr)(nT:TI≠TO)(ni:n≠m):Turn P w K (.Tuple es kx tp) (Itz K a b) [z,TI,TO,n,m] z
  (λi h=>IsZip h z TI TO .none/\IsPair h TI (.ref n) (.ref m)/\(∃x y,IsPair h TO x y)/\h.IsListIter n a i/\h.IsListIter m b i) where
 mem:=by simp
 obj:=λi h st c g=>by
  obtain⟨j,d,⟨x,y,e⟩,⟨o1,e1,c1,d1⟩,⟨o2,e2,c2,d2⟩⟩:=st;simp only[yt,yR,or_false]at g;rcases g with rfl | rfl | rfl | rfl | rfl
  ·exact⟨_,j,λv q=>by cases q⟩
  ·exact⟨_,d,λv q=>by cases q⟩
  ·exact⟨_,e,λv q=>by cases q⟩
  ·exact⟨_,e1,λv q=>by rw[d1]at q;cases q⟩
  ·exact⟨_,e2,λv q=>by rw[d2]at q;cases q⟩
 keep:=λi h h' st k=>by
  obtain⟨j,d,⟨x,y,e⟩,h1,h2⟩:=st;exact⟨k z (by simp) _ j,k TI (by simp) _ d,⟨x,y,k TO (by simp) _ e⟩,h1.at λo q=>k n (by simp) o q,h2.at λo q=>k m (by simp) o q⟩
 item:=by
  intro X U Y V hc i pins s σ H E I F st W;subst U Y V;obtain⟨j,d,⟨x0,y0,e⟩,h1,h2⟩:=st;obtain⟨xs,ys,x,y,J,l,L,hy⟩:=W;obtain⟨its,Q,p,Z⟩:=I.list J;obtain⟨O,r,B,C⟩:=I.list l;obtain⟨u,hu,ru⟩:=Q.get L;obtain⟨u',M,S⟩:=r.get hy;have A:=zkf j d e h1 h2 p.isList B.isList nT ni;refine wpAny_pyNext_zip_item A j d e h1 h2 p.isList B.isList (x:=u) (y:=u') (by simpa using hu) (by simpa using M) λg1 z1 T j1 j2 t1 a1 k1=>?_;refine⟨_,rfl,wpAny_letOwnedTupleGo_zip z1 λG z2 R=>?_⟩;have f:Heap.SameBut z g1 G:=R;have D:z≠s.heap.objs.size:=yo (Heap.lt_size j);have t2:G.get? s.heap.objs.size=some { cls:=.type "tuple",data:=.seq #[u,u'] }:=(f.2 _ (yaA D)).trans t1;have k2:∀c o,c∉[z,TI,TO,n,m]->s.heap.get? c=some o->G.get? c=some o:=λc o g q=>by
   have n1:c≠z:=λz=>g (by simp[z]);exact(f.2 c n1).trans (k1 c o n1 (λz=>g (by simp[z])) (λz=>g (by simp[z])) (λz=>g (by simp[z])) q)
  have I2:Inv X pins σ (upd H s.heap.objs.size (.tup [x,y])) { s with heap:=G,toks:=s.toks }:=I.turnedNew k2 F (yh _) (tup2 t2 ru S);have hn:H s.heap.objs.size=none:=I.hok.fresh (yh _);refine⟨.ref s.heap.objs.size,_,I2,rfl,⟨_,x,y,hn,rfl,λys t=>by rw[I.list_inj t J];exact L,λys t=>by rw[I.list_inj t l];exact hy,rfl⟩,
   ⟨z2,(f.2 TI A.TIz).trans (k1 TI _ A.TIz A.TITO A.TIi1 A.TIi2 d),⟨_,_,(f.2 TO A.TOz).trans T⟩,j1.at λo q=>(f.2 n A.i1z).trans q,j2.at λo q=>(f.2 m A.i2z).trans q⟩,λc g=>?_⟩
  have N:c≠s.heap.objs.size:=by
   simp only[yt,yR,or_false]at g;obtain⟨o1,e1,_⟩:=h1;obtain⟨o2,e2,_⟩:=h2;rcases g with rfl | rfl | rfl | rfl | rfl
   ·exact D
   ·exact yo (Heap.lt_size d)
   ·exact yo (Heap.lt_size e)
   ·exact yo (Heap.lt_size e1)
   ·exact yo (Heap.lt_size e2)
  rw[zG N];exact(F c g).1
 done:=by
  intro X U Y V hc i pins s σ H E I F st W;subst U Y V;obtain⟨j,d,⟨x0,y0,e⟩,h1,h2⟩:=st;obtain⟨xs,ys,J,l,L⟩:=W;obtain⟨its,Q,p,Z⟩:=I.list J;obtain⟨O,r,B,C⟩:=I.list l;have hl:=Q.length;have a0:=r.length;have A:=zkf j d e h1 h2 p.isList B.isList nT ni;refine wpAny_pyNext_zip_end (I.ok.hd hc) A j d e h1 h2 p.isList B.isList ?_ λg1 k1=>⟨rfl,I.turnedL (t':=s.toks) (fp:=[z,TI,TO,n,m]) (λc o g q=>k1 c o (λz=>g (by simp[z])) (λz=>g (by simp[z])) (λz=>g (by simp[z])) (λz=>g (by simp[z])) q) F⟩
  rcases L with q | q
  ·exact .inl (by simp;lia)
  ·exact .inr (by simp;lia)
 self:=λ_ _ _ _ _ st h=>wpAny_pyIter_zip st.1 h
section
variable {X:Cx}{es:List Expr}{kx:Nat}{tp:Pos}
noncomputable def znu (K:Fg) (R:It->Hp->Prop) (vs:List V) (H:Hp):Prop:=∃a,vs=[.ref a]/\(∃xs,SqL K H a xs)/\R (Itn K a) H
noncomputable def zpX (K:Fg) (R:It->Hp->Prop) (vs:List V) (H:Hp):Prop:=∃a b,vs=[.ref a,.ref b]/\(∃xs,SqL K H a xs)/\(∃ys,SqL K H b ys)/\R (Itz K a b) H
abbrev zq0(K:Fg)(ta:TA):TI:=λσ H R=>ta σ H (znu K R)
abbrev zqh(K:Fg)(ta:TA):TI:=λσ H R=>ta σ H (zpX K R)
def zsq{a:Expr}{ta:TA}{p pos:Pos}(t:Gl X "enumerate")(v:X.mg "enumerate" = none)(j:PA X [a] ta)(w:autoParam (starEach [a] X.env=[(false,eval a X.env)]) Internal.aut2._auto_1):PI X (.Tuple es kx tp) (.Call (.Name "enumerate" p) [a] [] pos) (zq0 X.K ta):=by
 intro pins s σ H R I h;refine Call_ (zbX I t v boot_enumerate (yan (thn (j pos pins s σ H _ I h) λus c ⟨vs,H1,f,n,q1⟩=>?_) w rfl));obtain⟨l,e,⟨xs,k⟩,q⟩:=q1;subst e;obtain⟨u,rfl,r⟩:=vals1 n;cases r;obtain⟨its,y,pl,x⟩:=f.list k;refine call_enumerate_list pl.isList λh1 e1 o m k1=>?_;refine wpAny_pyIter_enum e1 ?_;have i:Inv X pins σ H1 { c with heap:=h1,toks:=c.toks }:=f.kept k1;refine⟨c.heap.objs.size+1,[c.heap.objs.size+1,c.heap.objs.size],_,_,H1,rfl,i,zo9 l _ _ (Nat.succ_ne_self _),⟨⟨_,e1⟩,o⟩,λb g=>?_,q⟩;have d:c.heap.objs.size<=b:=by
  simp only[yt,yR,or_false]at g;rcases g with rfl | rfl<;>lia
 exact f.fpOk d (f.hok.fresh d)
def zpo{a b:Expr}{ta:TA}{p pos:Pos}(E:Gl X "zip")(F:X.mg "zip" = none)(w:PA X [a,b] ta)(G:autoParam (starEach [a,b] X.env=[(false,eval a X.env),(false,eval b X.env)]) Internal.aut2._auto_1)(f:autoParam (starEach [b] X.env=[(false,eval b X.env)]) Internal.aut2._auto_1) :
  PI X (.Tuple es kx tp) (.Call (.Name "zip" p) [a,b] [] pos) (zqh X.K ta):=by
 intro pins s σ H R I h;refine Call_ (zbX I E F boot_zip (yan (thn (w pos pins s σ H _ I h) λus c ⟨vs,H1,d,A,q1⟩=>?_) (by rw[G,f]) (by rw[f];rfl)));obtain⟨l,m,e,⟨xs,y⟩,⟨ys,i⟩,q⟩:=q1;subst e;obtain⟨u,J,rfl,r,t⟩:=vals2 A;cases r;cases t;obtain⟨its,M,pl,L⟩:=d.list y;obtain⟨C,v,j,D⟩:=d.list i;refine call_zip_2 pl.isList j.isList λh1 k ti to B x z k1=>?_;refine wpAny_pyIter_zip k ?_;have o:Inv X pins σ H1 { c with heap:=h1,toks:=c.toks }:=d.kept k1;refine⟨c.heap.objs.size+4,[c.heap.objs.size+4,c.heap.objs.size+2,c.heap.objs.size+3,c.heap.objs.size,c.heap.objs.size+1],_,_,H1,rfl,o,zpr l m _ _ _ _ _ (yo (y9 _)) (yo (y9 _)),⟨k,ti,⟨_,_,to⟩,B,x⟩,λb n=>?_,q⟩;have g:c.heap.objs.size<=b:=by
  simp only[yt,yR,or_false]at n;rcases n with rfl | rfl | rfl | rfl | rfl<;>lia
 exact d.fpOk g (d.hok.fresh g)
end
section
variable {X:Cx}
def Inv.walk(I:Inv X pins σ H s)(c:SqL X.K H a xs):∃its:List Value,Vals xs its/\s.heap.IsList a its.toArray/\its.length=xs.length/\a<s.heap.objs.size:=by
 obtain⟨its,b,pl,d⟩:=I.list c;obtain⟨o,e,_⟩:=id pl.isList;exact⟨its,b,pl.isList,b.length.symm,Heap.lt_size e⟩
noncomputable def zaj (ns:List Int):Int:=ns.foldl (·+·) 0
def zaQ(ns:List Int)(n:Int):zaj (ns++[n])=zaj ns+n:=by unfold zaj;rw[yaq];rfl
theorem zgf(ns:List Int):∀j,j<=ns.length->preSum (λi=>ns.getD i 0) j=zaj (ns.take j)
 | 0,_=>rfl
 | j+1,h=>by
  have a:j<ns.length:=by lia
  rw[preSum,zgf ns j ⋯,yah a,zaQ];simp[List.getD,a]
noncomputable def znB (K:Fg):List V->Hp->VK->Prop:=λxs H Q=>∃a ns,xs=[.ref a]/\SqL K H a (List.map V.int ns)/\Q (.int (zaj ns)) H
def zkH{v:Value}(a:Vals (ns.map V.int) its)(h:its.toArray[i]?=some v):∃t,v=.int (ns.getD i 0) t:=by
 have c:=a.length;rw[yb]at c;have hi:i<ns.length:=by
  have:=(Array.getElem?_eq_some_iff.mp h).1
  simp at this;lia
 obtain⟨u,b,r⟩:=a.get (show(ns.map V.int)[i]?=some (.int (ns.getD i 0)) by simp[List.getD,hi])
 have:v=u:=by
  have h':its[i]?=some v:=by simpa using h
  rw[b]at h';exact(yq h').symm
 obtain⟨t,rfl⟩:=r;exact⟨t,this⟩
def zox(y:X.calm=true):CallR X (.builtin "sum") (znB X.K):=by
 intro pins s σ H xs us Q I r h;obtain⟨a,ns,rfl,n,q⟩:=h;obtain⟨u,rfl,p⟩:=vals1 r;cases p;obtain⟨its,x,pl,m,c⟩:=I.walk n;refine call_sum_walkAnyS (wpAny_pyIter_list pl ?_);have f:a≠s.heap.objs.size:=yo c;refine⟨_,_,_,_,_,_,_,λi=>ns.getD i 0,rfl,(Walks.list (prog:=X.prog) (w:=X.w) (A:=X.A.in1) (I.ok.hd y) s.heap.objs.size a f its.toArray).toS,⟨⟨_,Heap.get?_push_size _ rfl,rfl,rfl⟩,pl.at λo e=>Heap.get?_push_of_some _ e⟩,λb k=>?_,λi v t=>zkH x t,λs' t' d=>?_⟩
 ·rw[Heap.size_push];simp only[yt,yR,or_false]at k;rcases k with rfl | rfl
  ·exact y9 _
  ·exact yaI c
 ·have hn:(its.toArray).size=ns.length:=by rw[yb]at m;simpa using m
  rw[hn,zgf ns _ (yh _),yz];have l:s'.gens=s.gens:=by have:=d.gens;first | exact this | exact this.symm
  have hd:=d.drawn;have j:=d.os;have g:Inv X pins σ H { s with heap:=s'.heap,toks:=s'.toks }:=I.kept λb o e=>d.heap b o (λz=>by
   simp only[yt,yR,or_false]at z;subst z;exact absurd (Heap.lt_size e) (yQ _)) (Heap.get?_push_of_some _ e)
  have e:({ s with heap:=s'.heap,toks:=s'.toks }:Shared)=s':=by
   cases s';cases s;simp only at l hd j;subst l hd j;rfl
  rw[e]at g;exact⟨.int (zaj ns),H,g,⟨t',rfl⟩,q⟩
end
def ObjOk.obj(x:ObjOk P w H h a o):∃u,h.get? a=some u:=by
 cases o with
 | lst xs=>exact⟨_,x.2.choose_spec.choose_spec.2⟩
 | tup xs=>obtain⟨_,_,_,ob,e,_⟩:=x;exact⟨ob,e⟩
 | dK kvs=>obtain⟨_,_,_,_,ob,_,_,e,_⟩:=x;exact⟨ob,e⟩
 | dT kvs=>obtain⟨_,_,_,_,ob,_,_,e,_⟩:=x;exact⟨ob,e⟩
 | set S n=>obtain⟨ob,_,_,_,e,_⟩:=x;exact⟨ob,e⟩
 | ins C dx fs=>exact⟨_,x.2.2.2.1⟩
 | own y=>exact x
 | xd fs=>obtain⟨_,⟨ob,_,_,e,_⟩,_⟩:=x;exact⟨ob,e⟩
 | rng lo hi=>obtain⟨_,_,_,e⟩:=x;exact⟨_,e⟩
 | frz ob u=>exact⟨ob,x.1⟩
 | tbl ps=>exact⟨_,show h.get? a=some _ from x⟩
 | met f y=>exact⟨_,show h.get? a=some _ from x⟩
 | ext φ=>exact x.2.1
noncomputable def DK {α:Type}:Sem α->Prop
 | .pure _=>True
 | .raise _=>True
 | .unsupported _=>True
 | .finish _=>True
 | .rule _ k=>DK (k ())
 | .at _ k=>DK (k ())
 | .load _ _ k=>∀o,DK (k o)
 | .update _ _ f k=>(∀o,(f o).dict=o.dict)/\DK (k ())
 | .alloc _ k=>∀a,DK (k a)
 | .loadIfAlive _ k=>∀o,DK (k o)
 | .point _ k=>DK (k ())
 | .fresh k=>∀t,DK (k t)
 | .ask k=>∀t,DK (k t)
 | .handled _ k=>∀t,DK (k t)
 | .stack k=>∀t,DK (k t)
 | .thread k=>∀t,DK (k t)
 | _=>False
theorem DK.bind{α β:Type}{m:Sem α}{f:α->Sem β}(b:DK m)(c:∀a,DK (f a)):DK (m >>= f):=by
 show DK (Sem.bind m f)
 induction m with
 | pure a=>exact c a
 | raise e=>trivial
 | unsupported w=>trivial
 | finish e=>trivial
 | rule t k ih=>exact ih () b
 | «at» p k ih=>exact ih () b
 | load a p k ih=>exact λo=>ih o (b o)
 | update a p g k ih=>exact⟨b.1,ih () b.2⟩
 | alloc o k ih=>exact λa=>ih a (b a)
 | loadIfAlive a k ih=>exact λa=>ih a (b a)
 | point l k ih=>exact ih () b
 | fresh k ih=>exact λa=>ih a (b a)
 | ask k ih=>exact λa=>ih a (b a)
 | handled o k ih=>exact λa=>ih a (b a)
 | stack k ih=>exact λa=>ih a (b a)
 | thread k ih=>exact λa=>ih a (b a)
 | _=>exact b.elim
noncomputable def Bare (er:Addr) (s:Shared):Prop:=∃o,s.heap.objs[er]?=some o/\o.dict=none
theorem DK.wp{α:Type}{M:Model}{Γ:PySem.Ctx}{er:Addr}{t:Sem α}(h:DK t):∀{Q:α->Pos->Shared->Prop} {E:Value->Pos->Shared->Prop} {p:Pos} {s:Shared},Bare er s->Sem.wp M Γ t Q E p s ->
  Sem.wp M Γ t (λa p s'=>Q a p s'/\Bare er s') (λe p s'=>E e p s'/\Bare er s') p s:=by
 induction t with
 | pure a=>intro Q E p s b w;rw[Sem.wp]at *;exact⟨w,b⟩
 | raise e=>intro Q E p s b w;rw[Sem.wp]at *;exact⟨w,b⟩
 | unsupported _=>intro Q E p s b w;rw[Sem.wp]at *;exact w
 | finish _=>intro Q E p s b w;rw[Sem.wp]at *;exact w
 | rule t k ih=>intro Q E p s b w;rw[Sem.wp]at *;exact ih () h b w
 | «at» q k ih=>intro Q E p s b w;rw[Sem.wp]at *;exact ih () h b w
 | load a q k ih=>
  intro Q E p s b w;rw[Sem.wp]at *
  obtain⟨o,e,w⟩:=w;exact⟨o,e,ih o (h o) b w⟩
 | update a q g k ih=>
  intro Q E p s b w;rw[Sem.wp]at *
  refine⟨w.1,ih () h.2 ?_ w.2⟩;obtain⟨o,e,d⟩:=b;by_cases c:a=er
  ·subst c;exact⟨g o,by simp[Heap.update,Array.getElem?_modify,e],by rw[h.1];exact d⟩
  ·exact⟨o,by simp[Heap.update,Array.getElem?_modify,c,e],d⟩
 | alloc o k ih=>
  intro Q E p s b w;rw[Sem.wp]at *
  refine ih _ (h _) ?_ w;obtain⟨o',e,d⟩:=b;refine⟨o',?_,d⟩;have f:er<s.heap.objs.size:=(Array.getElem?_eq_some_iff.mp e).1
  show(s.heap.objs.push o)[er]?=some o'
  rw[Array.getElem?_push];rw[if_neg (yo f)];exact e
 | loadIfAlive a k ih=>intro Q E p s b w;rw[Sem.wp]at *;exact ih _ (h _) b w
 | point l k ih=>intro Q E p s b w;rw[Sem.wp]at *;exact ih () h b w
 | fresh k ih=>intro Q E p s b w;rw[Sem.wp]at *;exact ih _ (h _) b w
 | ask k ih=>intro Q E p s b w;rw[Sem.wp]at *;exact ih _ (h _) b w
 | handled o k ih=>intro Q E p s b w;rw[Sem.wp]at *;exact ih _ (h _) b w
 | stack k ih=>intro Q E p s b w;rw[Sem.wp]at *;exact ih _ (h _) b w
 | thread k ih=>intro Q E p s b w;rw[Sem.wp]at *;exact ih _ (h _) b w
 | _=>exact h.elim
def DK.any{α:Type}{t:Sem α}{Q:α->Shared->Prop}{E:Value->Shared->Prop}(h:DK t)(b:Bare er s)(w:wpAny M A t Q E s):wpAny M A t (λa s'=>Q a s'/\Bare er s') (λe s'=>E e s'/\Bare er s') s:=
 λΓ p hΓ=>h.wp b (w Γ p hΓ)
theorem Bare.get{er:Addr}{s:Shared}{o:Obj}(b:Bare er s)(e:s.heap.get? er=some o):o.dict=none:=by
 obtain⟨o',a,d⟩:=b;obtain⟨e1,_⟩:=Heap.get?_some_iff.mp e;rw[a]at e1;cases e1;exact d
def zh9(f:Array Value->Array Value)(o:Obj):(o.mapFields f).dict=o.dict:=by
 obtain⟨c,d,a,b⟩:=o;cases a<;>rfl
def ziz:DK (load a):=λ_=>trivial
def zem(v:Value)(i:Nat):DK (field v i):=by
 unfold field fieldsOf;refine DK.bind ?_ λx=>?_
 ·cases v<;>try trivial
  refine DK.bind ziz λo=>?_;split<;>trivial
 ·split<;>trivial
def zdM(v:Value)(i:Nat)(x:Value):DK (setField v i x):=by
 unfold setField updateField;cases v<;>try trivial
 refine DK.bind ziz λo=>?_;split
 ·split
  ·exact⟨λo=>zh9 _ o,trivial⟩
  ·trivial
 ·trivial
def zdm(e:Value)(f:Option Addr):DK (setFlight e f):=by
 unfold setFlight;refine DK.bind (zem _ _) λtb=>?_;split
 ·exact zdM _ _ _
 ·trivial
def zsC(env:Env)(i:Bool)(l:List Env):DK (keptBack env i l):=by
 unfold keptBack;cases l with
 | nil=>
  simp only;split
  ·trivial
  ·refine DK.bind ?_ λ_=>trivial;unfold underTheClaimsCaller;exact λ_=>trivial
 | cons c r=>trivial
def zoh(env:Env)(l:List Env):DK (behindIsImport env l):=by
 unfold behindIsImport;split
 ·trivial
 ·split
  ·trivial
  ·exact DK.bind (zem _ _) λ_=>trivial
theorem zkb:∀l:List Env,DK (readyFrames l)
 | []=>trivial
 | env :: outer=>by
  unfold readyFrames;split
  ·refine DK.bind ziz λo=>?_;split
   ·trivial
   ·refine DK.bind (zoh _ _) λ_=>DK.bind (zsC _ _ _) λ_=>DK.bind ⟨λ_=>rfl,trivial⟩ λ_=>zkb outer
  ·trivial
def zil(l:List Env):DK (frameObject l):=by
 cases l with
 | nil=>trivial
 | cons env outer=>exact DK.bind (zkb _) λ_=>trivial
def znr(env:Env):DK (PySem.frameOf env):=by
 unfold PySem.frameOf frameEnvs;refine DK.bind (DK.bind (λ_=>trivial) λ_=>trivial) λ_=>DK.bind (zil _) λo=>?_;split<;>trivial
def zpU(f:Addr)(b:Bool):DK (entryPlaceOf f b):=by
 unfold entryPlaceOf;refine DK.bind (λ_=>trivial) λa=>?_;split<;>trivial
def zmg(T:String)(d:Data):DK (newObjAsIs (.type T) d):=by
 unfold newObjAsIs;exact λ_=>trivial
def ztQ(T:String)(vs:Array Value):DK (newObj (.type T) (.fields vs)):=by
 unfold newObj;simp only;split
 ·exact DK.bind (m:=unsupported "record:memory") trivial λ_=>zmg _ _
 ·exact zmg _ _
def zqQ(a b c d e:Value)(pl:List Value):DK (EntryCells.newEntry a b c d e pl):=ztQ _ _
def zl8(e:Value)(env:Env):DK (noteFrame e env):=by
 unfold noteFrame;have fin:∀(head:Value) (f:Addr),DK (do setField e 1 (<- EntryCells.newEntry head (<- frameOf env) .none (rawInt f) .none (<- entryPlaceOf f (head != .none)))):=λhead f=>
  DK.bind (znr _) λ_=>DK.bind (zpU _ _) λ_=>DK.bind (zqQ _ _ _ _ _ _) λ_=>zdM _ _ _
 split
 ·refine DK.bind (zem _ _) λhead=>?_;split
  ·refine DK.bind (zem _ _) λx=>?_;split
   ·trivial
   ·exact DK.bind (zdM _ _ _) λ_=>fin _ _
  ·exact fin _ _
 ·trivial
def zhL(env:Env)(e:Value):DK (leaving env e):=DK.bind (zl8 _ _) λ_=>zdm _ _
set_option genInjectivity false in
set_option genSizeOf false in
structure Fly(P:Program)(w:World)(outer:List Env)(H:Hp)(s:Shared)(H':Hp)(er C t:Addr)(B:Heap)(s':Shared):Prop where
 os:s'.os=s.os
 bare:AllBare s'.gens
 un:Un (frs outer) [] H H' s.heap s'.heap
 hok:HOk P w H' s'.heap
 fly:Heap.FlyingW B outer er (.ref C) (.ref t) s'.heap
 old:∀b o,s.heap.get? b=some o->H b=none->b∉frs outer->B.get? b=some o
 has:∀b o,s.heap.get? b=some o->b∉frs outer->∃u,B.get? b=some u
 trk:∀b o u,H' b=some o->s'.heap.get? b=some u->B.get? b=some u
 nod:Bare er s'
noncomputable def CXF (P:Program) (w:World):CXT:=λouter H s E e s'=>∃er C t B H',e=.ref er/\Fly P w outer H s H' er C t B s'/\E (.ref C) none H'
def zal:NoX (CXF P w):=λ_ _ _ _ _ ⟨_,_,_,_,_,_,_,h⟩=>h
section
variable {P:Program}{w:World}{outer:List Env}{H H':Hp}{s s':Shared}{er C t:Addr}{B h:Heap}
def Fly.noTrk(F:Fly P w outer H s H' er C t B s'):H' er=none:=by
 cases e:H' er with
 | none=>rfl
 | some o=>
  obtain⟨ob,q,_⟩:=F.fly.there;have z:=F.trk er o ob e q;rw[F.fly.2.1]at z;cases z
def Fly.unAt(F:Fly P w outer H s H' er C t B s')(i:s.heap.FunFrames base outer)(st:B.StaysIn h)(up:s'.heap.UpToSlots h):Un (frs outer) [] H H' s.heap h where
 keep:=λb o q n a _=>st b o (F.old b o q n a)
 slot:=λb o q n a _=>by
  obtain⟨j,e1⟩:=F.un.slot b o q n a (by simp);obtain⟨_,o',d,g⟩:=i.mem a;rw[q]at d;cases d;obtain⟨c,e2⟩:=up b _ e1 g;exact⟨c,e2⟩
 free:=F.un.free
 there:=λb o q _=>by
  by_cases a:b∈frs outer
  ·obtain⟨_,o',d,g⟩:=i.mem a;rw[q]at d;cases d;cases hn:H b with
   | none=>
    obtain⟨j,e1⟩:=F.un.slot b o q hn a (by simp);obtain⟨c,e2⟩:=up b _ e1 g;exact⟨_,e2⟩
   | some x=>
    obtain⟨_,k,e1,f⟩:=F.fly.2.2.1.mem a;obtain⟨c,e2⟩:=up b _ e1 f;exact⟨_,e2⟩
  ·obtain⟨u,e⟩:=F.has b o q a;exact⟨u,st b u e⟩
 tups:=F.un.tups
 frzs:=F.un.frzs
 tbls:=F.un.tbls
def Fly.hokAt(F:Fly P w outer H s H' er C t B s')(st:B.StaysIn h):HOk P w H' h:=λa o e=>
 (F.hok a o e).stay (λb u c q=>st b u (by
  rcases c with rfl | c
  ·exact F.trk b o u e q
  ·exact F.trk b _ u c q)) (λ_ q=>q) λ_ _ q=>q
noncomputable def zhc (er C:Addr) (h:Heap):Prop:=∃oe:Obj,PySem.W.InstAt h er oe C none
noncomputable def zb8 (er C:Addr):HO:=.ext (zhc er C)
def zp2{l:List Env}{g:Value}{B:Heap}(f:Heap.FlyingW B l er (.ref C) g h)(b:Bare er { s with heap:=h }):zhc er C h:=by
 obtain⟨a,vs,e,c,d,_⟩:=f.first;have nd:a.dict=none:=b.get e;exact⟨a,e,c,by unfold PySem.W.notCls;rw[d],by rw[nd];trivial⟩
def Fly.unEr(F:Fly P w outer H s H' er C t B s')(u:Un (frs outer) [] H H' s.heap h):Un (frs outer) [] H (upd H' er (zb8 er C)) s.heap h:=by
 have ne:∀b o,s.heap.get? b=some o->b≠er:=λb o q z=>by
  subst z;by_cases c:b∈frs outer
  ·obtain⟨_,i,e1,a⟩:=F.fly.2.2.1.mem c;obtain⟨g,vs,e2,_,d,_⟩:=F.fly.first;rw[e1]at e2;cases e2;exact a vs d
  ·obtain⟨u,e⟩:=F.has b o q c;rw[F.fly.2.1]at e;cases e
 have nt:=F.noTrk;exact⟨u.keep,u.slot,λb o q n f=>by rw[zG (ne b o q)];exact u.free b o q n f,u.there,λb xs q=>by
   rw[zG (zy (u.tups b xs q) nt)];exact u.tups b xs q,λb o v q=>by
   rw[zG (zy (u.frzs b o v q) nt)];exact u.frzs b o v q,λb ps q=>by
   obtain⟨m,e⟩:=u.tbls b ps q;exact⟨m,by rw[zG (zy e nt)];exact e⟩⟩
def ztD(j:HOk P w H' h)(nt:H' er=none)(l:zhc er C h):HOk P w (upd H' er (zb8 er C)) h:=λa o e=>by
 by_cases g:a=er
 ·subst g;rw[zF]at e;cases e;obtain⟨f,i⟩:=l;refine⟨⟨f,i⟩,⟨f,i.at_⟩,λh1 h2 ⟨d,c⟩ k=>⟨d,k d c.at_,c.cls,c.no,?_⟩⟩;have z:=c.dict;cases hd:d.dict with
  | none=>trivial
  | some dx=>rw[hd]at z;exact z.elim
 ·rw[zG g]at e;exact(j a o e).stay (λ_ _ _ q=>q) (λb q=>by rw[zG (zy q nt)];exact q) λb xs q=>by rw[zG (zy q nt)];exact q
end
noncomputable def bmV:List Value:=[.type "ValueError",.type "Exception",.type "BaseException",.type "object"]
noncomputable def OwnErr (K:Fg) (C:Addr):Prop:=PySem.W.excIn K C bmV "ValueError.__new__" = true
def OwnErr.obj(q:OwnErr K C)(X:K.In h):∃a N nm e bs hd sn sub ab col dd k0 k1 k2 k3 k5 mN,
  h.get? C=some (excClassObj nm e C N bs a hd sn sub ab col dd k0 k1 k2 k3 k5 "ValueError.__new__")/\h.Ns N mN/\mN "__init__" = none/\OwnTail h bmV a:=by
 have q':PySem.W.excIn K C bmV "ValueError.__new__" = true:=q;unfold PySem.W.excIn at q';split at q'
 ·rename_i dd i r o;split at q'
  ·rename_i l a k0 k1 k2 k3 b k5 j es;rw[yF,yF,yF,yF,yF]at q';obtain⟨⟨⟨⟨⟨a1,a2⟩,t⟩,m⟩,d⟩,p⟩:=q';have b1:l=C:=eq_of_beq a1;have b2:b = "ValueError.__new__" := eq_of_beq a2;have f:i.hasDel=false:=by simpa using t
   have k:=eq_of_beq p;have g:=X C _ o;obtain⟨nm,bs,n,ns,e,hd,sn,sub,ab,col,s⟩:=i;simp only at j f d k;subst j f b1 b2;have c:r=#[k0,k1,k2,k3,some (.builtin "ValueError.__new__"),k5]:=by
    rw[<- Array.toList_inj];exact es
   subst c;exact⟨a,ns,nm,e,bs,hd,sn,sub,ab,col,dd,k0,k1,k2,k3,k5,_,g,Heap.Ns.of_isNs (PySem.W.isNs_of_in X d),PySem.W.nsMap_none_of_in X d k,PySem.W.tail_of_in X m⟩
  ·cases q'
 ·cases q'
def zor{prog:Program}{w:World}{A:Around}{E:Value->Shared->Prop}{s:Shared}{K:Fg}{er C:Addr}{h:Obj}{Q:Option Value->Shared->Prop}
  (ga:PySem.W.findIn K (.ref C) "__getattribute__" = some (some (.builtin "BaseException.__getattribute__"))) (gn:PySem.W.findIn K (.ref C) "__getattr__" = some none)
  (hf:PySem.W.findObj K C none "__class__" = some (.bind (.builtin "getset_descriptor.__get__") (.builtin "object.__class__"))) (mo:PySem.W.mroIn K C (.type "object")=some true) (be:PySem.W.mroIn K C (.type "BaseException")=some true)
  (X:K.In s.heap) (i:PySem.W.InstAt s.heap er h C none) (q:Q (some (.ref C)) { s with toks:=s.toks+1 }):wpAny (model prog w) A (getAttr? (.ref er) "__class__") Q E s:=by
 obtain⟨m,g,d,t,os⟩:=s;have c:=i.type (M:=model prog w);have L1:=ybb (M:=model prog w) X ga;have Internal':=ybb (M:=model prog w) X gn;have j:=PySem.W.looks_find (M:=model prog w) X i hf;have l:=PySem.W.looks_mroIn (M:=model prog w) X be;have k:=PySem.F.attr_ValueError.ga.bind (.ref er);unfold getAttr? getAttrBy? getAttrBy;refine wpAny_bind (wpAny_mkText (wpAny_bind (wpAny_attempt (wpAny_holding (wpAny_bind (c.at (wpAny_bind (L1.at ?_))))))));show wpAny _ _ (getAttrByItsOwn _ _ _ _ _ _) _ _ _;unfold getAttrByItsOwn hookBefore;refine wpAny_bind (Internal'.at ?_);refine wpAny_bind (wpAny_attempt (wpAny_holding ?_));show wpAny _ _ (boundAndCalled _ _ _) _ _ _;unfold boundAndCalled;rw[k];refine wpAny_bind (wpAny_pure ?_);refine wpAny_call (codeAny_call_builtin PySem.F.attr_ValueError.ga.plain PySem.F.entry_bexc_ga ?_);have f:builtinKind "BaseException.__getattribute__" = some .slot:=by decide +kernel
 have b:splitId "BaseException.__getattribute__" = some ("BaseException", "__getattribute__"):=by decide +kernel
 simp only[checkBuiltinCall,f,b];unfold isInstance;refine wpAny_bind (wpAny_bind (c.at (l.at ?_)));simp only[Bool.not_true,yaC,if_false];have e:=PySem.F.args_bexc_ga (.ref er) (.str "__class__" t);unfold argsOk at e;refine wpAny_of_eq (a:=()) e ?_;show wpAny _ _ (Builtin.«object.__getattribute__» _) _ _ _;unfold Builtin.«object.__getattribute__»;refine wpAny_bind (wpAny_pure ?_);refine wpAny_bind (wpAny_pure ?_);refine wpAny_bind (c.at ?_);refine wpAny_bind (j.at ?_);show wpAny _ _ (Builtin.ObjectAttr.bindTo _ _ _ _) _ _ _;unfold Builtin.ObjectAttr.bindTo;refine wpAny_bind (wpAny_holding (wpAny_call (PySem.W.class_get X i mo ?_)));exact wpAny_pure (PySem.W.handed_on rfl (wpAny_pure q))
noncomputable def errOk (K:Fg) (C:Addr):Bool:=PySem.W.excIn K C bmV "ValueError.__new__" && (PySem.W.findIn K (.ref C) "__getattribute__" == some (some (.builtin "BaseException.__getattribute__")))&&(PySem.W.findIn K (.ref C) "__getattr__" == some none)&&(PySem.W.mroIn K C (.type "BaseException") == some true)&&(PySem.W.clsIn K C).isSome&&(PySem.W.findIn K (.ref C) "__class__" == some (some (.builtin "object.__class__"))) &&
 (PySem.W.specialIn K (.builtin "object.__class__") "__get__" == some (some (.builtin "getset_descriptor.__get__")))&&(PySem.W.takesIn K (.builtin "object.__class__") == some true)&&(PySem.W.mroIn K C (.type "object") == some true)
def errOk.own(h:errOk K C=true):OwnErr K C:=by
 unfold errOk at h;simp only[yF]at h;exact h.1.1.1.1.1.1.1.1
def zqK(h:errOk K C=true):PySem.W.KitX K (.ref er) (.ref C) (zhc er C):=by
 unfold errOk at h;simp only[yF,beq_iff_eq]at h;obtain⟨⟨⟨⟨⟨⟨⟨⟨_,ga⟩,v⟩,t⟩,cl⟩,u⟩,sn⟩,tk⟩,p⟩:=h;obtain⟨d,a⟩:=Option.isSome_iff_exists.mp cl;have there:∃o:Obj,K.lookup C=some o/\o.data=.cls d:=by
  unfold PySem.W.clsIn at a;split at a
  ·rename_i b;cases a;exact⟨_,b,rfl⟩
  ·cases a
 obtain⟨o,b,c⟩:=there;refine⟨λM h _ ⟨j,i⟩=>i.type,λM h X _ A Q E s k q=>?_,λh tp dd its n x X e=>?_,λ{prog w A E Q s} X ⟨j,i⟩ q=>?_⟩
 ·have g:=k _ _ (X _ _ b);obtain⟨y,od,m,f⟩:=o;simp only at c;subst c;unfold isType loadHead;exact wpAny_bind (wpAny_loadPart g (wpAny_pure q))
 ·rw[Bool.eq_false_iff];intro z;have l:C=tp:=Value.ref.inj (beq_iff_eq.mp z);subst l;have g:=X _ _ b;rw[e]at g;cases g;cases c
 ·have r:PySem.W.findObj K C none "__class__" = some (.bind (.builtin "getset_descriptor.__get__") (.builtin "object.__class__")):=by
   unfold PySem.W.findObj;rw[a,Option.bind_some,u,Option.bind_some];simp[sn,tk]
  exact zor ga v r p t X i q
noncomputable def zoz (C:Addr) (a:XK) (ta:TA):TS:=λ_ σ H=>ta σ H λvs H1=>vs.length<=sizeLine/\a (.ref C) none H1
noncomputable def zs8 (X:Cx) (C:Addr) (a:XK):Prop:=∀(pins:List (Addr × Obj)) (σ:St) (H:Hp) (s:Shared) (h':Heap) (er:Addr) (args:List Value),Inv X pins σ H s->Heap.MadeExcOf s.heap h' er (.ref C) args->a (.ref C) none H->X.xe (.ref er) { s with heap:=h' }
def zbP{j cpos pos:Pos}{ta:TA}{b:XK}(n:X.calm=true)(l:Gl X x)(o:X.mg x=some (.ref C))(k:OwnErr X.K C)(g:PA X (e :: es) ta)(t:zs8 X C b)
  (hdb:autoParam ((x == ("__debug__" : Str))=false) Internal.aut1._auto_1) (he:autoParam (starEach (e :: es) X.env=(false,eval e X.env) :: starEach es X.env) Internal.aut2._auto_1) (hpl:autoParam ((backTo cpos (starEach es X.env)).any (·.1)=false) Internal.aut2._auto_1) :
  PS X (.Raise (some (.Call (.Name x j) (e :: es) [] cpos)) none pos) (zoz C b ta):=by
 intro pins s σ H D I h;obtain⟨v,N,nm,m,bs,hd,sn,sub,ab,col,dd,k0,k1,k2,k3,k5,u,p,f,d,c⟩:=k.obj I.ok.mod.kin;have pl:(backTo cpos (starEach (e :: es) X.env)).any (·.1)=false:=by rw[he];exact hpl
 refine wpAny_Raise_call_subT PySem.F.excBase_ValueError (C:=C) (nm:=nm) (q:=m) (N:=N) (bs:=bs) (hdct:=hd) (sn:=sn) (sub:=sub) (ab:=ab) (col:=col) (dd:=dd) (k0:=k0) (k1:=k1) (k2:=k2) (k3:=k3) (k5:=k5) (c.hasType (by decide)) (I.ok.hd n) pl d (zcX I l o ⟨rfl,?_⟩ hdb);have run:=g cpos pins s σ H _ I h;rw[he]at run ⊢;refine Calls.evalArgs_plain (wpAny_mono run (λus i q=>?_) λ_ _ z=>z);obtain⟨vs,H1,a,r,z,ex⟩:=q;exact⟨rfl,by rw[<- r.length];exact z,a.bk _ _ p,f.keeps a.bk,c.keeps a.bk,λh' er mk=>t pins σ H1 i h' er us a mk ex⟩
def zdp{P:Program}{w:World}{K:Fg}{mg:Str->Option Value}{base:Heap}{N:List Str}{qual:Str}{scope:Scope}{f:Addr}{g:Value}{A:Around}{outer:List Env}{s:Shared}{H:Hp}{E:XK}{C:Addr} :
  zs8 (zat (CXF P w) P w K mg base N qual scope f g A outer s H E) C E:=by
 intro pins σ H1 l h' er args I mk ex;have M:=I.stack;have p:∀env∈(envOfC qual scope s.heap.objs.size f g :: outer),∀b,env.frame=some b->b∈frs (envOfC qual scope s.heap.objs.size f g :: outer):=λenv D b c=>ybp.mpr ⟨env,D,c⟩;have G:∀b o,(PySem.W.hideAll l.heap (frs (envOfC qual scope s.heap.objs.size f g :: outer))).get? b=some o->l.heap.get? b=some o:=λb o q=>PySem.W.of_hideAll _ q;have i:∀b o,l.heap.get? b=some o->b∉frs (envOfC qual scope s.heap.objs.size f g :: outer)->(PySem.W.hideAll l.heap (frs (envOfC qual scope s.heap.objs.size f g :: outer))).get? b=some o:=λb o q n=>PySem.W.hideAll_get _ q n;have k:∀b o,s.heap.get? b=some o->b∉frs outer->b∉frs (envOfC qual scope s.heap.objs.size f g :: outer):=λb o q n z=>by
  rcases yt.mp (show b∈s.heap.objs.size :: frs outer from z)with z | z
  ·exact yo (Heap.lt_size q) z
  ·exact n z
 have d:∀b o u,H1 b=some o->l.heap.get? b=some u->(PySem.W.hideAll l.heap (frs (envOfC qual scope s.heap.objs.size f g :: outer))).get? b=some u:=λb o u q e=>i b u e λz=>by
  have:=I.stkFree b z
  rw[q]at this;cases this
 show wpAny (model P w) (A.deeper (envOfC qual scope s.heap.objs.size f g)) (leaving (envOfC qual scope s.heap.objs.size f g) (.ref er)) _ _ _;have J:Bare er { l with heap:=h' }:=by
  obtain⟨t,e,_⟩:=mk.there;exact⟨_,(Heap.get?_some_iff.mp e).1,rfl⟩
 refine wpAny_mono (DK.any (E:=λ_ _=>False) (Q:=λ_ m=>Bare er m->CXF P w outer H s E (.ref er) m) (zhL _ _) J ?_) (λ_ m q=>q.1 q.2) λ_ _ q=>q.1.elim;refine wpAny_leaves_madeW (L:=s.heap.objs.size) (base:=PySem.W.hideAll l.heap (frs (envOfC qual scope s.heap.objs.size f g :: outer))) (h:=l.heap) I.ok.frames rfl G (PySem.W.funFrames_hide M p) mk λr t fly _ _ up b1=>?_;refine⟨er,C,t,_,H1,rfl,⟨I.os,I.bare,⟨λb o q n c _=>?_,λb o q n c _=>?_,λb o q n _=>I.base.free b o q n (by simp[zat]),λb o q _=>?_,I.base.tups,I.base.frzs,I.base.tbls⟩,?_,fly,λb o q n c=>?_,λb o q c=>?_,?_,b1⟩,ex⟩
 ·exact fly.1 b o (i b o (I.base.keep b o q n c (by simp[zat])) (k b o q c))
 ·obtain⟨R,e1⟩:=I.base.slot b o q n c (by simp[zat]);obtain⟨_,j,e2,O⟩:=I.ok.funs.mem c;have y:s.heap.get? b=some j:=e2;rw[q]at y;cases y;obtain⟨v,F⟩:=up b _ (mk.keeps b _ e1) O;exact⟨v,F⟩
 ·by_cases c:b∈frs outer
  ·obtain⟨_,j,e1,_⟩:=fly.2.2.1.mem c;exact⟨j,e1⟩
  ·obtain⟨j,e1⟩:=I.base.there b o q (by simp[zat]);exact⟨j,fly.1 b j (i b j e1 (k b o q c))⟩
 ·intro a o e;exact(I.hok a o e).stay (λb u c q=>fly.1 b u (by
   rcases c with rfl | c
   ·exact d b o u e q
   ·exact d b _ u c q)) (λ_ q=>q) λ_ _ q=>q
 ·exact i b o (I.base.keep b o q n c (by simp[zat])) (k b o q c)
 ·obtain⟨j,e1⟩:=I.base.there b o q (by simp[zat]);exact⟨j,i b j e1 (k b o q c)⟩
 ·intro b o u q e;obtain⟨x,e1⟩:=(I.hok b o q).obj;have z:=fly.1 b x (d b o x q e1);have B:r.get? b=some u:=e;rw[z]at B;cases B;exact d b o _ q e1
abbrev Cx.inH(X:Cx)(er:Addr):Cx:={ X with A:=X.A.mark (some (.ref er)),calm:=false,xe:=λ_ _=>False }
theorem Cx.Ok.inH{X:Cx}(ok:X.Ok)(er:Addr):(X.inH er).Ok:=
 ⟨ok.mod,ok.kind,ok.glob,ok.blt,ok.above,ok.inj,ok.has,ok.cab,λz=>(by cases z),ok.frames,ok.stk,ok.exf,ok.bs,ok.bsz,ok.noex,ok.exfs,ok.funs,ok.frf⟩
section
variable {X:Cx}{pins:List (Addr × Obj)}{σ:St}{H H':Hp}{s s':Shared}
theorem Inv.inH(I:Inv X pins σ H s)(er:Addr):Inv (X.inH er) pins σ H s:=⟨I.ok.inH er,I.os,I.bare,I.base,I.loc,I.cell,I.free,I.freeC,I.pin,I.hok,I.len⟩
def Inv.outH(ok:X.Ok)(I:Inv (X.inH er) pins σ H s):Inv X pins σ H s:=⟨ok,I.os,I.bare,I.base,I.loc,I.cell,I.free,I.freeC,I.pin,I.hok,I.len⟩
def zo1{n:Str}{pos:Pos}{Q:Unit->Shared->Prop}{E:Value->Shared->Prop}(I:Inv X pins σ H s)(O:X.N.Nodup)(hi:X.N[i]?=some n)(M:X.env.kindOf n=some .local)(q:∀s2,Inv X pins (σ.set i none) H s2->Q () s2) :
  wpAny (model X.prog X.w) X.A (do bindName X.env n .none;unbindBehindTheSuite X.env n pos) Q E s:=by
 obtain⟨m,hn,J⟩:=id I.loc;obtain⟨P,_,_,C,_⟩:=id hn;refine wpAny_nameGoes_keeps M hn (by rw[I.ok.kind];rfl) λh' v h a=>q _ ?_;have l:∀b o,X.s₀.heap.get? b=some o->b≠X.env.locals:=λb o e=>yo (yu (Heap.lt_size e) I.ok.above);refine⟨I.ok,I.os,I.bare,⟨λb o e n x f=>(a.2 b (l b o e)).trans (I.base.keep b o e n x f),λb o e n x f=>?_,I.base.free,λb o e f=>?_,I.base.tups,I.base.frzs,I.base.tbls⟩,⟨_,h,λj y D e1 e2 F=>?_⟩,λy c e=>?_,I.free,I.freeC,λp hp=>?_,λb ob e=>?_,by rw[List.length_set];exact I.len⟩
 ·obtain⟨G,e1⟩:=I.base.slot b o e n x f;exact⟨G,(a.2 b (l b o e)).trans e1⟩
 ·obtain⟨o',e1⟩:=I.base.there b o e f;exact⟨o',(a.2 b (l b o e)).trans e1⟩
 ·by_cases t:j=i
  ·subst t;have g:j < σ.length:=by rw[I.len];exact(yk.mp hi).1
   rw[yaX g]at e2;cases e2
  ·rw[ya9 (yaA t)]at e2;obtain⟨u,r,z⟩:=J j y D e1 e2 F;refine⟨u,r,?_⟩;have L:y≠n:=λz=>t (zgk O e1 (z▸hi));rcases z with⟨k,e⟩ | ⟨k,c,e,z⟩
   ·exact .inl ⟨k,by show(if y=n then v else m y)=some u;rw[if_neg L];exact e⟩
   ·exact .inr ⟨k,c,e,z.sameBut a (I.cne y c e)⟩
 ·obtain⟨u,z⟩:=I.cell y c e;exact⟨u,z.sameBut a (I.cne y c e)⟩
 ·obtain⟨e,n,ne,K,d⟩:=I.pin p hp;exact⟨(a.2 p.1 ne).trans e,n,ne,K,d⟩
 ·refine(I.hok b ob e).stay (λc u B q=>(a.2 c ?_).trans q) (λ_ q=>q) λ_ _ q=>q;rintro rfl;rcases B with rfl | B
  ·have:=I.free;rw[e]at this;cases this
  ·have:=I.free;rw[B]at this;cases this
noncomputable def Ends.gone (D:Ends) (i:Nat):Ends:=⟨λσ H=>D.nx (σ.set i none) H,D.rt,λσ H=>D.bk (σ.set i none) H,λσ H=>D.ct (σ.set i none) H⟩
theorem SP.gone{i:Nat}{D:Ends}{f:Flow}{er:Addr}(ok:X.Ok)(h:SP (X.inH er) pins (D.gone i) f s):∃a H',Inv X pins a H' s/\∀b,Inv X pins (a.set i none) H' b->SP X pins D f b:=by
 cases f with
 | next=>obtain⟨a,H',I,q⟩:=h;exact⟨a,H',I.outH ok,λb J=>⟨_,_,J,q⟩⟩
 | brk=>obtain⟨a,H',I,q⟩:=h;exact⟨a,H',I.outH ok,λb J=>⟨_,_,J,q⟩⟩
 | cont=>obtain⟨a,H',I,q⟩:=h;exact⟨a,H',I.outH ok,λb J=>⟨_,_,J,q⟩⟩
 | ret u=>obtain⟨v,a,H',I,r,q⟩:=h;exact⟨a,H',I.outH ok,λb J=>⟨v,_,_,J,r,q⟩⟩
def taken{er C L t:Addr}{B:Heap}{m n:Str}{R hp:Pos}{P:Stmt}{b:List Stmt}{rest:List ExceptHandler}{i:Nat}{th:TS}{D:Ends}(f:X.stack=X.env :: X.outer/\X.env.frame=some X.env.locals)(I:Inv X pins σ H s)
  (F:Fly X.prog X.w X.stack H s H' er C t B s') (hg:Gl X m) (hm:X.mg m=some (.ref L)) (hx:PySem.W.exmOne X.K (.ref C) (.ref L)=some true) (hN:X.N.Nodup) (hi:X.N[i]?=some n) (hl:X.env.kindOf n=some .local)
  (hth:PSs (X.inH er) (P :: b) th) (q:th (D.gone i) (σ.set i (some (.ref er))) (upd H' er (zb8 er C))) (hdb:(m == ("__debug__" : Str))=false) :
  wpAny (model X.prog X.w) X.A (noteFrame (.ref er) X.env) (λ_ S=>wpAny (model X.prog X.w) X.A (setFlight (.ref er) none) (λ_ U=>
   wpAny (model X.prog X.w) X.A (handleBy (.ref er) X.env (.ExceptHandler (some (.Name m R)) (some n) (P :: b) hp :: rest)) (SP X pins D) X.xe U) X.xe S) X.xe s':=by
 have r:X.A.frames=some (X.env :: X.outer):=by rw[I.ok.frames,f.1]
 have k:Heap.FlyingW B (X.env :: X.outer) er (.ref C) (.ref t) s'.heap:=f.1▸F.fly;have j:∀{h:Heap},B.StaysIn h->s'.heap.UpToSlots h->∀tk,Inv X pins σ H' { s' with heap:=h,toks:=tk }:=λ{h} st up tk=>
  I.call' (s':={ s' with heap:=h,toks:=tk }) (ch:=[]) F.os (F.unAt I.stack st up) (F.hokAt st) F.bare λ_ z=>nomatch z
 refine wpAny_mono (DK.any (E:=λ_ _=>False) (Q:=λ_ d=>Bare er d->_) (zl8 _ _) F.nod (wpAny_looks_onW r f.2 k λh4 l o V=>?_)) (λ_ d q=>q.1 q.2) λ_ _ q=>q.1.elim;refine wpAny_mono (DK.any (E:=λ_ _=>False) (Q:=λ_ d=>Bare er d->_) (zdm _ _) V (wpAny_landsW l λM c G b5=>?_)) (λ_ d q=>q.1 q.2) λ_ _ q=>q.1.elim;have up:s'.heap.UpToSlots M:=o.trans G;have O:=(j c.1 up s'.toks).inH er;obtain⟨ob,x,p⟩:=c.there;refine wpAny_handleBy_cons (codeAny_handlers_test (zcX (X:=X.inH er) O hg hm ?_ hdb)) (by intro z;cases z);have LT:PySem.W.Looks (model X.prog X.w) M (typeOf (.ref er)) (.ref C):=p▸(PySem.W.Looks.ld x).andThen .now;refine(PySem.W.exm_one O.kIn LT hx) _ _ _ _ (λ_ _ e=>e) ?_;show codeAny _ _ _ _ _;refine codeAny_handlers_suite_as ?_;refine wpAny_mono (DK.any (E:=λ_ _=>False) (Q:=λ_ d=>Bare er d->_) (zdm _ _) b5 (lands_againW c λu a g b6=>?_)) (λ_ d q=>q.1 q.2) λ_ _ q=>q.1.elim;have J6:=j a.1 (up.trans g) s'.toks;have Y:Un (frs X.stack) [] H (upd H' er (zb8 er C)) s.heap u:=F.unEr (F.unAt I.stack a.1 (up.trans g));have K6:Inv X pins σ (upd H' er (zb8 er C)) { s' with heap:=u }:=
  I.call' (s':={ s' with heap:=u }) (ch:=[]) F.os Y (ztD (F.hokAt a.1) F.noTrk (zp2 a b6)) F.bare λ_ z=>nomatch z
 refine zer (X:=X.inH er) (i:=i) (v:=.ref er) (K6.inH er) hN hi (.inl hl) rfl (λs7 Z=>?_) (.inr hl);refine wpAny_mono (hth pins s7 _ _ _ Z q) (λfl s8 hs=>?_) λ_ _ z=>z.elim;obtain⟨σ9,H9,T,fin⟩:=SP.gone I.ok hs;exact zo1 T hN hi hl λJ y=>fin J y
end
def Fun.okX{P:Program}{w:World}{mg:Str->Option Value}{base:Heap}{CX:CXT}{f:Addr}{k:Nat}(F:Fun K x qual st f fd)(S:FnScope N ps (zj st))(len:∀vs H Q E,sp vs H Q E->vs.length=ps.length)
  (body:∀(a:Value) (A:Around) (outer:List Env) (s:Shared) (H:Hp) (vs:List V) (Q:VK) (E:XK),Room k (A.deeper (envOfC qual (zj st) s.heap.objs.size f a))->sp vs H Q E ->
   ∃t,PSs (zat CX P w K mg base N qual (zj st) f a A outer s H E) (zbe st) t/\t { nx:=λ_ H'=>Q .non H',rt:=Q } (start N vs) H):FnOk P w K mg base CX (k+1) f fd ps sp:=by
 obtain⟨l,od,kV,g,j,i,a,ct,d,rfl,h,c⟩:=F.ex;exact zmI h c S len λA outer s H vs Q E e b=>body a A outer s H vs Q E e b
noncomputable def zcC (K:Fg):List V->Hp->VK->Prop:=λxs H Q=>(∃er C c cv b,xs=[.ref er,c]/\RelV c cv/\H er=some (zb8 er C)/\errOk K C=true/\PySem.W.kitOne K (.ref C) cv=some b/\Q (.bl b) H)\/zhT K xs H Q
def zpe:CallR X (.builtin "isinstance") (zcC X.K):=by
 refine CallR.or ?_ zlG;intro pins s σ H xs us Q I r h;obtain⟨er,C,c,cv,b,rfl,e,k,ok,g,q⟩:=h;obtain⟨u,d,rfl,i,f⟩:=vals2 r;obtain rfl:u=Value.ref er:=i;have l:zhc er C s.heap:=(I.hok er _ k).1;have j:d=cv:=by
  cases c with
  | ty n=>exact(show d=_ from f).trans (show cv=_ from e).symm
  | ref a=>exact(show d=_ from f).trans (show cv=_ from e).symm
  | non=>exact(show d=_ from f).trans (show cv=_ from e).symm
  | bl b=>exact(show d=_ from f).trans (show cv=_ from e).symm
  | _=>obtain⟨_,rfl⟩:=e;simp[PySem.W.kitOne,PySem.W.kitCls]at g
 subst j;exact yV (zqK ok) I.kIn l g (by intro z;cases z) λtk=>⟨.bl b,H,I.tok tk,rfl,q⟩
def zjY(q:zhT K xs H Q):zcC K xs H Q:=.inr q
def zq3{c:V}{cv:Value}{b:Bool}(h:H er=some (zb8 er C))(ok:errOk K C=true)(a:RelV c cv)(e:PySem.W.kitOne K (.ref C) cv=some b)(q:Q (.bl b) H):zcC K [.ref er,c] H Q:=.inl ⟨er,C,c,cv,b,rfl,a,h,ok,e,q⟩
def zsy{a:XK}{ta:TA}{D:Ends}(q:ta σ H λvs H1=>vs.length<=sizeLine/\a (.ref C) none H1):zoz C a ta D σ H:=q
def zeg{a:Addr}{th:TS}{D:Ends}(b:PySem.W.exmOne K (.ref C) (.ref a)=some true)(q:∀er H',H er=none->Same H H'->H' er=some (zb8 er C)->th D (σ.set i (some (.ref er))) H') :
  ∃C',Value.ref C=Value.ref C'/\PySem.W.exmOne K (.ref C') (.ref a)=some true/\∀er,H er=none->th D (σ.set i (some (.ref er))) (upd H er (zb8 er C')):=⟨C,rfl,b,λer hn=>q er _ hn (Same.new hn _) zF⟩
def zkB{D:Addr}(h:PySem.W.hasDictIn K D=true):(PySem.W.clsIn K D).isSome=true:=by
 obtain⟨a,e,_⟩:=PySem.W.any_some h;rw[e];rfl
def errOk_mk(x:PySem.W.excIn K C [.type "ValueError",.type "Exception",.type "BaseException",.type "object"] "ValueError.__new__" = true)(ga:PySem.W.findIn K (.ref C) "__getattribute__" = some (some (.builtin "BaseException.__getattribute__")))(b:PySem.W.findIn K (.ref C) "__getattr__" = some none)(a:PySem.W.mroIn K C (.type "BaseException")=some true)(hd:PySem.W.hasDictIn K C=true)
  (fa:PySem.W.findIn K (.ref C) "__class__" = some (some (.builtin "object.__class__"))) (sn:PySem.W.specialIn K (.builtin "object.__class__") "__get__" = some (some (.builtin "getset_descriptor.__get__"))) (tk:PySem.W.takesIn K (.builtin "object.__class__")=some true)
  (mo:PySem.W.mroIn K C (.type "object")=some true):errOk K C=true:=by
 unfold errOk bmV;rw[x,ga,b,a,zkB hd,fa,sn,tk,mo];simp
def zg2{t:Value}{D:Addr}{b:Bool}(hd:PySem.W.hasDictIn K D=true)(a:PySem.W.typeIn K (.ref D)=some (.type "type"))(c:PySem.W.subIn K t (.ref D)=some b):PySem.W.kitCls K t (.ref D)=some b:=by
 unfold PySem.W.kitCls;simp only;rw[zkB hd,a,if_pos (by simp)];exact c
def kit_ne{D:Addr}{b:Bool}(h:C≠D)(hd:PySem.W.hasDictIn K D=true)(a:PySem.W.typeIn K (.ref D)=some (.type "type"))(c:PySem.W.subIn K (.ref C) (.ref D)=some b):PySem.W.kitOne K (.ref C) (.ref D)=some b:=by
 unfold PySem.W.kitOne;rw[if_neg (by intro z;exact h (Value.ref.inj (beq_iff_eq.mp z)))];exact zg2 hd a c
def kit_self:PySem.W.kitOne K (.ref C) (.ref C)=some true:=by
 unfold PySem.W.kitOne;rw[if_pos (by simp)]
def kit_V{b:Bool}(a:PySem.W.subIn K (.ref C) (.type "ValueError")=some b):PySem.W.kitOne K (.ref C) (.type "ValueError")=some b:=by
 unfold PySem.W.kitOne;rw[if_neg (by intro z;cases beq_iff_eq.mp z)];unfold PySem.W.kitCls;simp only;rw[if_pos (by decide +kernel)];exact a
def exm_mk{D:Addr}{b:Bool}(a:PySem.W.subIn K (.ref D) (.type "BaseException")=some true)(hd:PySem.W.hasDictIn K D=true)(c:PySem.W.typeIn K (.ref D)=some (.type "type"))(d:PySem.W.subIn K (.ref C) (.ref D)=some b):PySem.W.exmOne K (.ref C) (.ref D)=some b:=by
 unfold PySem.W.exmOne;rw[a,if_pos (by simp)];exact zg2 hd c d
section
variable {X:Cx}
def za6:zdo X (zbS X.K):=by
 intro pins s σ H x y v u Q I f e h;obtain⟨p,xs,i,z,rfl,rfl,m,k,q⟩:=h;cases f;obtain⟨t,rfl⟩:=e;obtain⟨its,r,pl,A⟩:=I.list m;obtain⟨j,h1,h2,o,n,l⟩:=zfQ k;obtain⟨w,d,a⟩:=r.get h2;have g:=r.length;have hn:=line63;have fin:EP X pins σ Q w s:=⟨z,H,I,a,q⟩
 by_cases c:0<=i
 ·have b:i.toNat=j:=by
   rw[seqIndex_of c l]at h1;exact yq h1
  exact wpAny_getItem_list pl.isList c ⋯ (by rw[b];simpa using d) fin
 ·have b:(i+(its.toArray.size:Int)).toNat=j:=by
   rw[seqIndex_neg ⋯ n]at h1;rw[yl,<- g];exact yq h1
  exact wpAny_getItem_list_neg pl.isList ⋯ (by rw[yl]<;>lia) ⋯ (by rw[b];simpa using d) fin
end
noncomputable def Src (J:It) (P:Hp->Prop) (n:Nat) (Y:Nat->V->Hp->Prop):Prop:=
 (∀i H,P H->i<n->J.go i H)/\(∀H,P H->J.stop n H)/\∀i H x H',P H->i<n->J.yld i H x H'->Same H H'/\Y i x H'
def zN{α:Type}{xs:List α}(h:i<xs.length):∃x,xs[i]?=some x:=⟨xs[i],by simp[h]⟩
def zO:Src (Itl K a) (λH=>SqL K H a xs) xs.length (λi x _=>xs[i]?=some x):=
 ⟨λi H h hi=>by obtain⟨x,b⟩:=zN hi;exact⟨xs,x,h,b⟩,λH h=>⟨xs,h,yh _⟩,λi H x H' h hi ⟨q,r⟩=>by subst q;exact⟨Same.refl _,r xs h⟩⟩
def zdB:Src (Itr lo n) (λ_=>True) n (λi x _=>x=.int (lo+i)):=
 ⟨λi H e hi=>hi,λH e=>yh _,λi H x H' e hi ⟨q,r⟩=>by subst q;exact⟨Same.refl _,r⟩⟩
def zU:Src (Itn K a) (λH=>SqL K H a xs) xs.length (λi x H=>∃p v,x=.ref p/\xs[i]?=some v/\H p=some (.tup [.int i,v])):=
 ⟨λi H h hi=>by obtain⟨x,b⟩:=zN hi;exact⟨xs,x,h,b⟩,λH h=>⟨xs,h,yh _⟩,λi H x H' h hi ⟨p,v,hp,q,r,z⟩=>by subst z;exact⟨Same.new hp _,p,v,q,r xs h,zF⟩⟩
def zlZ{ys:List V}:Src (Itz K a b) (λH=>SqL K H a xs/\SqL K H b ys) (min xs.length ys.length) (λi x H=>∃p v w,x=.ref p/\xs[i]?=some v/\ys[i]?=some w/\H p=some (.tup [v,w])):=
 ⟨λi H h hi=>by
  obtain⟨x,c⟩:=zN (show i<xs.length by lia);obtain⟨y,e⟩:=zN (show i<ys.length by lia);exact⟨xs,ys,x,y,h.1,h.2,c,e⟩,λH h=>⟨xs,ys,h.1,h.2,⋯⟩,λi H x H' h hi ⟨p,v,w,hp,q,r,d,z⟩=>by subst z;exact⟨Same.new hp _,p,v,w,q,r xs h.1,d ys h.2,zF⟩⟩
section
variable {σ:St}{H:Hp}{Q:VK}{D:Ends}{ta tb tc te to ti:TE}{t u:TS}{K:Fg}
def zb9{P:Hp->Prop}{Y:Nat->V->Hp->Prop}{g:TG}{tb:TS}(S:Src J P n Y)(b:Nat->St->Hp->Prop)(f:b 0 σ H)(c:∀i σ H,b i σ H->P H)
  (hs:∀i x σ H H',i<n->b i σ H->Same H H'->Y i x H'->g x σ H' λd H2=>tb { D with nx:=b (i+1),ct:=b (i+1),bk:=D.nx } d H2) (hd:∀σ H,b n σ H->D.nx σ H):zmP J g tb D σ H:=by
 refine⟨λi m σ H=>m=n-i/\i<=n/\b i σ H,⟨n,by simp,yI _,f⟩,?_⟩;rintro i m σ H ⟨rfl,hi,p⟩;by_cases a:i<n
 ·refine .inr ⟨S.1 i H (c i σ H p) a,b (i+1),λj H' q=>⟨n-(i+1),⋯,rfl,a,q⟩,λx H' y=>?_⟩;obtain⟨e,h⟩:=S.2.2 i H x H' (c i σ H p) a y;exact hs i x σ H H' a p e h
 ·have:i=n:=by lia
  subst this;exact .inl ⟨S.2.1 H (c i σ H p),hd σ H p⟩
noncomputable def zcT (J:It) (caps:List (Option Nat)) (g:TG) (tf:TT) (te:TE) (σ:St) (Q:VK) (H1:Hp):Prop:=∀D,H1 D=none ->
 ∃W:Nat->Nat->St->Hp->Prop,(∃m,W 0 m (zbx caps σ) (upd H1 D (.lst [])))/\∀i m σ' H',W i m σ' H' ->
  (J.stop i H'/\Q (.ref D) H')\/(J.go i H'/\∃N:St->Hp->Prop,(∀σ2 H2,N σ2 H2->∃m',m'<m/\W (i+1) m' σ2 H2) /\
   ∀x H2,J.yld i H' x H2->g x σ' H2 λa f=>tf a f λb c=>if b=true then te a c λv e=>zbb (.ref D) [v] e λ_ d=>N a d else N a c)
def zs7{te:TE}(q:wi σ H λJ H1=>zcT J caps g tf te σ Q H1):zes wi caps g tf te σ H Q:=q
def zrp{T:Bool->Hp->Prop}(q:T true H):zdP σ H T:=q
noncomputable def CompN (H:Hp) (a:St->Prop) (c:Nat->List V->Hp->Prop) (D:Addr) (i:Nat) (b:St) (H':Hp):Prop:=a b/\Same H H'/\∃vs,H' D=some (.lst vs)/\vs.length<=i/\c i vs H'
def zms{P:Hp->Prop}{Y:Nat->V->Hp->Prop}{g:TG}{tf:TT}{te:TE}(S:Src J P n Y)(k:∀H',Same H H'->P H')(d:St->Prop)(c:Nat->List V->Hp->Prop)(C:d (zbx caps σ))(s:∀H',Same H H'->c 0 [] H')
  (hs:∀i x D vs f H' H2,i<n->H D=none->d f->Same H H'->H' D=some (.lst vs)->vs.length<=i->c i vs H'->Same H' H2->Y i x H2->g x f H2 λj A=>tf j A λb l=>if b=true then te j l λv z=>zbb (.ref D) [v] z λ_ u=>CompN H d c D (i+1) j u else CompN H d c D (i+1) j l)
  (hq:∀D H' vs,H D=none->Same H H'->H' D=some (.lst vs)->vs.length<=n->c n vs H'->Q (.ref D) H'):zcT J caps g tf te σ Q H:=by
 intro D h;refine⟨λi m f H'=>m=n-i/\i<=n/\CompN H d c D i f H',⟨n,by simp,yI _,C,Same.new h _,[],zF,yh _,s _ (Same.new h _)⟩,?_⟩;rintro i m f H' ⟨rfl,hi,w,e,vs,o,r,p⟩;by_cases a:i<n
 ·refine .inr ⟨S.1 i H' (k _ e) a,CompN H d c D (i+1),λE H2 q=>⟨n-(i+1),⋯,rfl,a,q⟩,λx H2 y=>?_⟩;obtain⟨B,t⟩:=S.2.2 i H' x H2 (k _ e) a y;exact hs i x D vs f H' H2 a h w e o r p B t
 ·have:i=n:=by lia
  subst this;exact .inl ⟨S.2.1 H' (k _ e),hq D H' vs h e o r p⟩
def zH{P:Hp->Prop}{Y:Nat->V->Hp->Prop}{g:TG}{tf:TT}{te:TE}{rest:St}(S:Src J P n Y)(l:∀H',Same H H'->P H')(u:zbx caps σ=none :: rest)(c:Nat->List V->Hp->Prop)(j:∀H',Same H H'->c 0 [] H')
  (hs:∀i x D vs o H' H2,i<n->H D=none->Same H H'->H' D=some (.lst vs)->vs.length<=i->c i vs H'->Same H' H2->Y i x H2->g x (o :: rest) H2 λd t=>tf d t λb e=>if b=true then te d e λv q=>zbb (.ref D) [v] q λ_ p=>CompN H (λa=>∃o,a=o :: rest) c D (i+1) d p else CompN H (λa=>∃o,a=o :: rest) c D (i+1) d e)
  (hq:∀D H' vs,H D=none->Same H H'->H' D=some (.lst vs)->vs.length<=n->c n vs H'->Q (.ref D) H'):zcT J caps g tf te σ Q H:=
 zms S l (λa=>∃o,a=o :: rest) c ⟨_,u⟩ j (λi x D vs a H' H2 a1 a2 ⟨o,s⟩ f w m k h r=>by subst s;exact hs i x D vs o H' H2 a1 a2 f w m k h r) hq
def zai{P:Hp->Prop}{Y:Nat->V->Hp->Prop}{g:TG}{tf:TT}{te:TE}{rest:St}(S:Src J P n Y)(l:∀H',Same H H'->P H')(u:zbx caps σ=none :: none :: rest)(c:Nat->List V->Hp->Prop)(j:∀H',Same H H'->c 0 [] H')
  (hs:∀i x D vs o o' H' H2,i<n->H D=none->Same H H'->H' D=some (.lst vs)->vs.length<=i->c i vs H'->Same H' H2->Y i x H2->g x (o :: o' :: rest) H2 λd t=>tf d t λb e=>if b=true then te d e λv q=>zbb (.ref D) [v] q λ_ p=>CompN H (λa=>∃o o',a=o :: o' :: rest) c D (i+1) d p else CompN H (λa=>∃o o',a=o :: o' :: rest) c D (i+1) d e)
  (hq:∀D H' vs,H D=none->Same H H'->H' D=some (.lst vs)->vs.length<=n->c n vs H'->Q (.ref D) H'):zcT J caps g tf te σ Q H:=
 zms S l (λa=>∃o o',a=o :: o' :: rest) c ⟨_,_,u⟩ j (λi x D vs a H' H2 a1 a2 ⟨o,o',s⟩ f w m k h r=>by subst s;exact hs i x D vs o o' H' H2 a1 a2 f w m k h r) hq
def zrU{R:It->Hp->Prop}(h:SqL K H a xs)(q:R (Itn K a) H):znu K R [.ref a] H:=⟨a,rfl,⟨xs,h⟩,q⟩
def ztx{R:It->Hp->Prop}{ys:List V}(h:SqL K H a xs)(h':SqL K H b ys)(q:R (Itz K a b) H):zpX K R [.ref a,.ref b] H:=⟨a,b,rfl,⟨xs,h⟩,⟨ys,h'⟩,q⟩
def zs2{t:TGs}{R:St->Hp->Prop}(h:H a=some (.tup xs))(hn:xs.length=n)(q:t xs σ H R):zaP K n t (.ref a) σ H R:=⟨a,xs,rfl,SqT.of h,hn,q⟩
def zsK{r:List V}{t:TG}{u:TGs}{R:St->Hp->Prop}(q:t v σ H λa H'=>u r a H' R):zj6 t u (v :: r) σ H R:=⟨v,r,rfl,q⟩
def ztm{R:St->Hp->Prop}(q:R σ H):zqS [] σ H R:=⟨rfl,q⟩
def zuy{x:V}{a:TIp}(e:σ[i]?=some (some x))(q:te σ H λy H1=>a x y H1 λz H2=>D.nx (σ.set i (some z)) H2):zqa i te a D σ H:=⟨x,e,q⟩
def zvo{f:Int->Int->Int}{i j:Int}(q:Q (.int (f i j)) H):ipI f (.int i) (.int j) H Q:=⟨i,j,rfl,rfl,q⟩
def ztj{b:V->V->Hp->VK->Prop}{c:TIp}{a:zh0}(q:to σ H λo H1=>ti σ H1 λi H2=>b o i H2 λx f=>te σ f λy g=>c x y g λz e=>a o i z e λd=>D.nx σ d):zrv to ti te b c a D σ H:=q
def zov{i:Int}(h:SqL K H a xs)(e:atI xs i=some v)(q:Q v H):zbS K (.ref a) (.int i) H Q:=⟨a,xs,i,v,rfl,rfl,h,e,q⟩
def zlh{x:V}{k:Int}(h:H l=some (.lst [x]))(a:0<=k)(h1:k<=100000)(q:∀p H',H p=none->Same H H'->H' p=some (.lst (List.replicate k.toNat x))->Q (.ref p) H'):zdJ (.ref l) (.int k) H Q:=
 .inr ⟨l,k,[x],rfl,rfl,h,⋯,⋯,by have:=zbf (n:=k.toNat) ⋯;simpa using this,λp hp=>by
  have e:(List.replicate k.toNat [x]).flatten=List.replicate k.toNat x:=by
   generalize k.toNat=n
   induction n with
   | zero=>rfl
   | succ n ih=>rw[yae,yaF,ih,yae];rfl
  rw[e];exact q p _ hp (Same.new hp _) zF⟩
def zdu{zs:List V}(h:H l=some (.lst xs))(h':H b=some (.lst zs))(a:xs.length+zs.length<=100000)(q:∀p H',H p=none->Same H H'->H' p=some (.lst (xs++zs))->Q (.ref p) H'):zhp K (.ref l) (.ref b) H Q:=
 .inr (.inl ⟨l,b,xs,zs,rfl,rfl,h,h',zbf a,λp hp=>q p _ hp (Same.new hp _) zF⟩)
def zuN(h:SqL K H a (ns.map V.int))(q:Q (.int (zaj ns)) H):znB K [.ref a] H Q:=⟨a,ns,rfl,h,q⟩
end
def zui{p:Prop}[Decidable p]{A B:Prop}(h:p)(a:A):if decide p=true then A else B:=by rw[decide_eq_true h];exact ze7 a
def ztg{p:Prop}[Decidable p]{A B:Prop}(h:¬p)(b:B):if decide p=true then A else B:=by rw[decide_eq_false h];exact zle b
section
variable {α:Type}{f:α->List V}
noncomputable def IsTs (f:α->List V) (H:Hp):List V->List α->Prop
 | [],[]=>True
 | v :: vs,x :: xs=>(∃a,v=.ref a/\H a=some (.tup (f x)))/\IsTs f H vs xs
 | _,_=>False
noncomputable def zqt (H H':Hp):Prop:=∀a xs,H a=some (.tup xs)->H' a=some (.tup xs)
def Same.tups(e:Same H H'):zqt H H':=λa xs h=>e a _ h
def LBut.tups(e:LBut l H H'):zqt H H':=λa xs h=>e.tup h
theorem IsTs.keep{H H':Hp}(e:zqt H H'):∀{vs:List V} {xs:List α},IsTs f H vs xs->IsTs f H' vs xs
 | [],[],_=>trivial
 | _ :: _,_ :: _,⟨⟨a,q,h⟩,r⟩=>⟨⟨a,q,e a _ h⟩,r.keep e⟩
def IsTs.same{xs:List α}(h:IsTs f H vs xs)(e:Same H H'):IsTs f H' vs xs:=h.keep e.tups
def Same.isTs{xs:List α}(e:Same H H')(h:IsTs f H vs xs):IsTs f H' vs xs:=h.keep e.tups
def LBut.isTs{xs:List α}(e:LBut l H H')(h:IsTs f H vs xs):IsTs f H' vs xs:=h.keep e.tups
theorem IsTs.length{H:Hp}:∀{vs:List V} {xs:List α},IsTs f H vs xs->vs.length=xs.length
 | [],[],_=>rfl
 | _ :: _,_ :: _,⟨_,r⟩=>by rw[yE,yE,r.length]
theorem IsTs.app{H:Hp}{a:Addr}{x:α}(h:H a=some (.tup (f x))):∀{vs:List V} {xs:List α},IsTs f H vs xs->IsTs f H (vs++[.ref a]) (xs++[x])
 | [],[],_=>⟨⟨a,rfl,h⟩,trivial⟩
 | _ :: _,_ :: _,⟨q,r⟩=>⟨q,r.app h⟩
theorem IsTs.get{H:Hp}:∀{vs:List V} {xs:List α} {i:Nat} {v:V},IsTs f H vs xs->vs[i]?=some v->∃a x,v=.ref a/\xs[i]?=some x/\H a=some (.tup (f x))
 | _ :: _,x :: _,0,_,⟨⟨a,q,h⟩,_⟩,e=>by cases e;exact⟨a,x,q,rfl,h⟩
 | _ :: _,_ :: _,i+1,_,⟨_,r⟩,e=>by obtain⟨a,x,q,b,h⟩:=r.get (i:=i) e;exact⟨a,x,q,b,h⟩
def IsTs.getI{xs:List α}{x:α}(h:IsTs f H vs xs)(e:xs[i]?=some x):∃a,vs[i]?=some (.ref a)/\H a=some (.tup (f x)):=by
 have hi:i<vs.length:=by rw[h.length];exact(yk.mp e).1
 obtain⟨v,b⟩:=zN hi;obtain⟨a,y,q,c,h'⟩:=h.get b;rw[e]at c;cases c;exact⟨a,by rw[b,q],h'⟩
end
noncomputable def vec (n:Nat) (f:Nat->Int):List Int:=(List.range n).map f
def zA:(vec n f).length=n:=by simp[vec]
def zW(h:i<n):(vec n f)[i]?=some (f i):=by simp[vec,h]
def zbp{g:Nat->Int}(h:∀i,i<n->f i=g i):vec n f=vec n g:=by
 unfold vec;exact ybj λi hi=>h i (yZ.mp hi)
def zsL{v:Int}:(vec n f).set j v=vec n (λi=>if i=j then v else f i):=by
 refine yar λi=>?_;rw[List.getElem?_set];by_cases hi:i<n
 ·rw[zW hi,zW hi,zA];by_cases e:j=i
  ·subst e;simp[hi]
  ·rw[if_neg e,if_neg (yaA e)]
 ·have h1:(vec n f)[i]?=none:=by rw[yau,zA];lia
  have h2:∀g,(vec n g)[i]?=none:=λg=>by rw[yau,zA];lia
  rw[h1,h2,zA];by_cases e:j=i
  ·subst e;simp[hi]
  ·rw[if_neg e]
def zV:vec (n+1) f=vec n f++[f n]:=by unfold vec;rw[yO,yj];rfl
def zrE:List.replicate n (V.int c)=(vec n λ_=>c).map V.int:=by
 refine yar λi=>?_;rw[yal,yg];by_cases hi:i<n
 ·rw[zW hi,if_pos hi];rfl
 ·have h2:(vec n λ_=>c)[i]?=none:=by rw[yau,zA];lia
  rw[h2,if_neg hi];rfl
def ziw{k:Int}{v:Int}(a:0<=k)(h:ns[k.toNat]?=some v):atI (ns.map V.int) k=some (.int v):=zbd a (by rw[yg,h];rfl)
def zpf{k:Int}(a:0<=k)(h:k<n):atI ((vec n f).map V.int) k=some (.int (f k.toNat)):=ziw a (zW ⋯)
def zqG{v:Int}:(ns.map V.int).set j (.int v)=(ns.set j v).map V.int:=by rw[List.map_set]
def zsN{v:Int}:((vec n f).map V.int).set j (.int v)=(vec n (λi=>if i=j then v else f i)).map V.int:=by rw[zqG,zsL]
def zr6{k:Int}(a:0<=k)(h:k<n):ixN ((vec n f).map V.int).length k=some k.toNat:=by
 rw[yb,zA];exact zo6 a h
theorem zcz{K:Fg}{H:Hp}:∀ns:List Int,RepAll K H (ns.map V.int) (ns.map PyData.int)
 | []=>.nil
 | n :: ns=>.cons (.int n) (zcz ns)
theorem zcR:∀ns:List Int,PyData.depthAll (ns.map PyData.int)=0
 | []=>by simp[PyData.depthAll]
 | n :: ns=>by rw[yH,PyData.depthAll,zcR ns];simp[PyData.depth]
theorem zkh:∀ns:List Int,PyData.canLayAll0 (ns.map PyData.int)=true
 | []=>by simp[PyData.canLayAll0]
 | n :: ns=>by rw[yH,PyData.canLayAll0,zkh ns];simp[PyData.canLay0]
def zeD{ds:List PyData}:(PyData.list ds).depth=PyData.depthAll ds+1:=by simp[PyData.depth];try lia
section
variable {H:Hp}{Q:VK}{K:Fg}
def zjk(h:ns=ms):PyData.eqv (.list (ns.map PyData.int)) (.list (ms.map PyData.int))=true:=by
 subst h;exact yav _ (by rw[PyData.canLay0];exact zkh ns)
def zln(h1:SqL K H a (ns.map V.int))(h2:SqL K H b (ms.map V.int))(e:ns=ms)(q:Q (.bl true) H):zdh K (.ref a) (.ref b) H Q:=
 zjZ (.lst h1 (zcz ns)) (.lst h2 (zcz ms)) (by rw[zeD,zcR];lia) (by rw[zjk e];exact q)
def zgt(h1:SqL K H a (ns.map V.int))(h2:SqL K H b (ms.map V.int))(e:ns=ms)(q:Q (.bl false) H):zen K (.ref a) (.ref b) H Q:=
 zmT (.lst h1 (zcz ns)) (.lst h2 (zcz ms)) (by rw[zeD,zcR];lia) (by rw[zjk e];exact q)
end
section
variable {σ:St}{H:Hp}{Q:VK}{D:Ends}{K:Fg}
def zpS{k:Int}(h:H l=some (.lst ((vec n f).map V.int)))(a:0<=k)(h1:k<n)(q:Q (.int (f k.toNat)) H):zbS K (.ref l) (.int k) H Q:=zov (.of h) (zpf a h1) q
def zl4{k:Int}(h:H l=some (.lst ((vec n f).map V.int)))(a:0<=k)(h1:k<n)(q:Q (.int (f k.toNat)) H):rIx K (.ref l) (.int k) H Q:=zhE h (zpf a h1) q
def zpZ{k v:Int}{R:Hp->Prop}(h:H l=some (.lst ((vec n f).map V.int)))(a:0<=k)(h1:k<n)
  (q:∀H',LBut l H H'->H' l=some (.lst ((vec n λi=>if i=k.toNat then v else f i).map V.int))->R H'):zhn (.ref l) (.int k) (.int v) H R:=by
 refine zg8 h (zr6 a h1) λH' b e=>q H' b ?_;rw[e,zsN]
def zph{i:Int}(h:H a=some (.tup xs))(e:atI xs i=some v)(q:Q v H):rIx K (.ref a) (.int i) H Q:=zm4 (.of h) e q
def zpw{k:Int}(h:H l=some (.lst [.int c]))(d:0<=k)(h1:k<=100000)(q:∀p H',H p=none->Same H H'->H' p=some (.lst ((vec k.toNat λ_=>c).map V.int))->Q (.ref p) H'):zdJ (.ref l) (.int k) H Q:=
 zlh h d h1 λp H' a b c=>q p H' a b (by rw[c,zrE])
theorem CompN.int{b:St->Prop}{D:Addr}{i:Nat}{c:St}{a:Hp}{f:Nat->Int}{v:Int}(d:b c)(e:Same H a)(h:a D=some (.lst ((vec i f).map V.int++[.int v])))(g:v=f i):CompN H b (λi vs _=>vs=(vec i f).map V.int) D (i+1) c a:=
 ⟨d,e,_,h,by simp[zA],by show _++[V.int v]=List.map V.int (vec (i+1) f);rw[g,zV,yj];rfl⟩
end
def zrK{rest:St}(h:zbx caps σ=none :: rest)(hn:n<=100000)(q:∀p H',H p=none->Same H H'->H' p=some (.lst ((vec n λ_=>c).map V.int))->Q (.ref p) H'):zcT (Itr lo n) caps (zbn 0) zdP (tC (.int c)) σ Q H:=by
 refine zH zdB (λ_ _=>trivial) h (λi vs _=>vs=(vec i λ_=>c).map V.int) (λ_ _=>rfl) ?_ ?_
 ·rintro i x D vs o H' H2 hi d e f a rfl e2 rfl;refine zl7 (zrp (ze7 (x_c (zdv (e2.at f) ⋯ λj b g=>?_))));exact CompN.int ⟨_,rfl⟩ (b.same (e.trans e2) d) g rfl
 ·rintro D H' vs d e f a rfl;exact q D H' d e f
noncomputable def zb0 (H:Hp) (Q:VK) (ns:List Int):Prop:=∀p H',H p=none->Same H H'->H' p=some (.lst (ns.map V.int))->Q (.ref p) H'
set_option genInjectivity false in
set_option genSizeOf false in
structure Due where
 p:Int
 q:Int
 r:Int
 a:Int
variable {ds:List Due}
noncomputable def zid (d:Due):List V:=[.int d.p,.int d.q,.int d.r,.int d.a]
noncomputable def zaF (n:Int) (d:Due):Prop:=0<=d.p/\d.p<n/\0<=d.q/\d.q<n/\d.p≠d.q/\0<=d.r/\d.r<3/\0<=d.a/\d.a<=100000000000000
noncomputable def IsSh (K:Fg) (H:Hp) (a:Addr) (ds:List Due):Prop:=∃vs,SqL K H a vs/\IsTs zid H vs ds
theorem IsSh.same{K:Fg}{H H':Hp}{a:Addr}{ds:List Due}(h:IsSh K H a ds)(e:Same H H'):IsSh K H' a ds:=by
 obtain⟨vs,h1,h2⟩:=h;exact⟨vs,e.seq h1,h2.same e⟩
def Same.isSh(e:Same H H')(h:IsSh K H a ds):IsSh K H' a ds:=h.same e
noncomputable def zu9 (H:Hp) (Q:VK) (ds:List Due):Prop:=∀p H' vs,H p=none->Same H H'->H' p=some (.lst vs)->IsTs zid H' vs ds->Q (.ref p) H'
noncomputable def zdz (ds:List Due) (m:Nat):Int:=ds.foldl (fun(s:Int) (d:Due)=>if d.p=(m:Int)then s+d.a else s) 0
noncomputable def zef (ds:List Due) (m:Nat):Int:=ds.foldl (fun(s:Int) (d:Due)=>if d.q=(m:Int)then s+d.a else s) 0
noncomputable def zek (ds:List Due) (m:Nat):Int:=zef ds m-zdz ds m
def zg1(ds:List Due)(d:Due)(m:Nat):zdz (ds++[d]) m=if d.p=(m:Int)then zdz ds m+d.a else zdz ds m:=by unfold zdz;rw[yaq];rfl
def zkq(ds:List Due)(d:Due)(m:Nat):zef (ds++[d]) m=if d.q=(m:Int)then zef ds m+d.a else zef ds m:=by unfold zef;rw[yaq];rfl
def zar{α:Type}{xs:List α}{x:α}(h:xs[i]?=some x):xs.take (i+1)=xs.take i++[x]:=by
 obtain⟨hi,rfl⟩:=yk.mp h;exact yah hi
noncomputable def zlp (K:Fg):Sp:=λvs H Q _=>∃n a ds,vs=[.int n,.ref a]/\IsSh K H a ds/\0<=n/\n<=1000/\(∀d∈ds,zaF n d)/\zb0 H Q (vec n.toNat (zdz ds))
noncomputable def zkF (K:Fg):Sp:=λvs H Q _=>∃n a ds,vs=[.int n,.ref a]/\IsSh K H a ds/\0<=n/\n<=1000/\(∀d∈ds,zaF n d)/\zb0 H Q (vec n.toNat (zek ds))
section
variable {K:Fg}{H:Hp}{Q:VK}{E:XK}{n:Int}{a:Addr}{ds:List Due}
def zqJ:=λh b h1 hd q=>@id (zlp K [.int n,.ref a] H Q E) ⟨n,a,ds,rfl,h,b,h1,hd,q⟩
def zpu:=λh b h1 hd q=>@id (zkF K [.int n,.ref a] H Q E) ⟨n,a,ds,rfl,h,b,h1,hd,q⟩
end
noncomputable def zeq {α:Type} (xs:List α) (lo hi:Option Int):List α:=(xs.drop (HT.sIx xs.length 0 lo)).take (HT.sIx xs.length xs.length hi-HT.sIx xs.length 0 lo)
noncomputable def Rows (H:Hp) (as:List Addr) (k:Nat) (F:Nat->Nat->Int):Prop:=as.Nodup/\∀i a,as[i]?=some a->H a=some (.lst ((vec k (F i)).map V.int))
section
variable {H H':Hp}{as bs:List Addr}{k:Nat}{F G:Nat->Nat->Int}{K:Fg}{Q:VK}
def Rows.same(h:Rows H as k F)(e:Same H H'):Rows H' as k F:=⟨h.1,λi a q=>e _ _ (h.2 i a q)⟩
def Rows.mem(h:Rows H as k F)(m:a∈as):∃i,i<as.length/\as[i]?=some a/\H a=some (.lst ((vec k (F i)).map V.int)):=by
 obtain⟨i,hi,e⟩:=yP m
 have:as[i]?=some a:=by rw[yk];exact⟨hi,e⟩
 exact⟨i,hi,this,h.2 i a this⟩
def Rows.but(h:Rows H as k F)(g:LBut l H H')(n:l∉as):Rows H' as k F:=
 ⟨h.1,λi a q=>g.lst (h.2 i a q) λz=>n (z▸ym q)⟩
def Same.rows(e:Same H H')(h:Rows H as k F):Rows H' as k F:=h.same e
def zjx(n:as.Nodup)(h:as[i]?=some a)(h':as[j]?=some a):i=j:=by
 obtain⟨hi,e⟩:=yk.mp h;obtain⟨c,b⟩:=yk.mp h';exact(List.getElem_inj n).mp (e.trans b.symm)
def Rows.set(h:Rows H as k F)(g:LBut a H H')(d:as[j]?=some a)(q:H' a=some (.lst ((vec k f).map V.int))):Rows H' as k (λi=>if i=j then f else F i):=by
 refine⟨h.1,λi b c=>?_⟩;by_cases e:i=j
 ·subst e;rw[d]at c;cases c;show H' a=some (.lst ((vec k (if i=i then f else F i)).map V.int));rw[if_pos rfl];exact q
 ·show H' b=some (.lst ((vec k (if i=j then f else F i)).map V.int));rw[if_neg e];refine g.lst (h.2 i b c) λz=>e ?_;subst z;exact zjx h.1 c d
def Rows.congr(h:Rows H as k F)(e:∀i,i<as.length->∀j,j<k->F i j=G i j):Rows H as k G:=by
 refine⟨h.1,λi a q=>?_⟩;have hi:i<as.length:=(yk.mp q).1;rw[h.2 i a q,zbp λj b=>e i hi j b]
def Rows.app(h:Rows H as k F)(n:p∉as)(hp:H p=some (.lst ((vec k (F as.length)).map V.int))):Rows H (as++[p]) k F:=by
 refine⟨yS.mpr ⟨h.1,by simp,λa f b d e=>n (by rw[yp]at d;subst d;subst e;exact f)⟩,λi a q=>?_⟩;rw[yaL]at q;split at q
 ·exact h.2 i a q
 ·rename_i hi;have c:i-as.length=0:=by
   cases e:i-as.length with
   | zero=>rfl
   | succ m=>rw[e]at q;cases q
  rw[c]at q;cases q
  have:i=as.length:=by lia
  subst this;exact hp
def Rows.ne{D:Addr}(h:Rows H as k F)(c:0<k)(a:H D=some (.lst (as.map V.ref))):D∉as:=λm=>by
 obtain⟨i,hi,q,e⟩:=h.mem m;rw[a]at e;have b:as.map V.ref=(vec k (F i)).map V.int:=by simpa using e
 cases as with
 | nil=>cases m
 | cons x xs=>
  cases k with
  | zero=>lia
  | succ k=>
   have:=congrArg (·[0]?) b
   simp[vec]at this
def Rows.fresh(h:Rows H as k F)(hp:H p=none):p∉as:=λm=>by
 obtain⟨i,_,_,e⟩:=h.mem m;rw[hp]at e;cases e
noncomputable def zgD (k:Nat) (f:Nat->Int):PyData:=.list ((vec k f).map PyData.int)
def Rows.rep(h:Rows H as k F):RepAll K H (as.map V.ref) ((List.range as.length).map λi=>zgD k (F i)):=by
 have go:∀(xs:List Addr) (o:Nat),(∀i a,xs[i]?=some a->H a=some (.lst ((vec k (F (o+i))).map V.int)))->RepAll K H (xs.map V.ref) ((List.range xs.length).map λi=>zgD k (F (o+i))):=by
  intro xs
  induction xs with
  | nil=>intro o _;exact .nil
  | cons x xs ih=>
   intro o b;rw[yE,yaY,yH,yH,ybA];refine .cons (.lst (.of (b 0 x rfl)) (zcz _)) ?_
   have:=ih (o+1) λi a q=>by rw[b (i+1) a q];congr 5;lia
   refine cast ?_ this;congr 2;funext i;show zgD k (F (o+1+i))=zgD k (F (o+(i+1)));congr 2;lia
 have:=go as 0 λi a q=>by rw[Nat.zero_add];exact h.2 i a q
 simpa using this
theorem zhJ:∀(l:List Nat),PyData.depthAll (l.map λi=>zgD k (F i))<=1
 | []=>by simp[PyData.depthAll]
 | d :: ds=>by
  have:=zhJ ds
  rw[yH,PyData.depthAll,zgD,zeD,zcR];lia
def zsm{p:Int}(h:H l=some (.lst (as.map V.ref)))(b:0<=p)(e:as[p.toNat]?=some a)(q:Q (.ref a) H):rIx K (.ref l) (.int p) H Q:=zhE h (zbd b (by rw[yg,e];rfl)) q
end
noncomputable def zX (ds:List Due) (m r:Nat):Int:=ds.foldl (fun(s:Int) (d:Due)=>if d.p=(m:Int)/\d.r=(r:Int)then s+d.a else s) 0
def zhB(ds:List Due)(d:Due)(m r:Nat):zX (ds++[d]) m r=if d.p=(m:Int)/\d.r=(r:Int)then zX ds m r+d.a else zX ds m r:=by unfold zX;rw[yaq];rfl
def zn0{d:Due}(c:0<=d.p)(f:0<=d.r)(m r:Nat):(if m=d.p.toNat then λi=>if i=d.r.toNat then zX ds d.p.toNat d.r.toNat+d.a else zX ds d.p.toNat i else zX ds m) r=zX (ds++[d]) m r:=by
 rw[zhB];by_cases e:m=d.p.toNat
 ·rw[if_pos e];by_cases b:r=d.r.toNat
  ·rw[if_pos (show d.p=(m:Int)/\d.r=(r:Int) by lia)]
   show(if r=d.r.toNat then _ else _)=_
   rw[if_pos b,e,b]
  ·rw[if_neg (show ¬(d.p=(m:Int)/\d.r=(r:Int)) by lia)]
   show(if r=d.r.toNat then _ else _)=_
   rw[if_neg b,e]
 ·rw[if_neg e,if_neg (show ¬(d.p=(m:Int)/\d.r=(r:Int)) by lia)]
noncomputable def zgx (K:Fg):Sp:=λvs H Q _=>∃n a ds,vs=[.int n,.ref a]/\IsSh K H a ds/\0<=n/\n<=1000/\(∀d∈ds,zaF n d) /\
 ∀l H' as,H l=none->Same H H'->H' l=some (.lst (List.map V.ref as))->as.length=n.toNat->Rows H' as 3 (zX ds)->(∀b∈as,H b=none)->Q (.ref l) H'
def zm2:=λ{K:Fg} {n:Int} {a:Addr} {ds:List Due} {H:Hp} {Q:VK} {E:XK} h h0 h1 hd q=>@id (zgx K [.int n,.ref a] H Q E) ⟨n,a,ds,rfl,h,h0,h1,hd,q⟩
noncomputable def zdO (K:Fg):Sp:=λvs H Q _=>∃a ds,vs=[.ref a]/\IsSh K H a ds/\ds.length<=1000/\zb0 H Q (ds.map Due.a)
def zjR:=λ{K:Fg} {a:Addr} {ds:List Due} {H:Hp} {Q:VK} {E:XK} h h1 q=>@id (zdO K [.ref a] H Q E) ⟨a,ds,rfl,h,h1,q⟩
noncomputable def zbK (ds:List Due) (m:Nat->Int):List Due:=ds.mapIdx λi d=>⟨d.p,d.q,d.r,m i⟩
def zoM{m:Nat->Int}:(zbK ds m).length=ds.length:=by simp[zbK]
def znX{m:Nat->Int}{d:Due}(h:ds[i]?=some d):(zbK ds m)[i]?=some ⟨d.p,d.q,d.r,m i⟩:=by simp[zbK,h]
def zmX{m:Nat->Int}{d:Due}(h:ds[i]?=some d):(zbK ds m).take (i+1)=(zbK ds m).take i++[⟨d.p,d.q,d.r,m i⟩]:=zar (znX h)
noncomputable def zk2 (K:Fg):Sp:=λvs H Q _=>∃(a b:Addr) (ds:List Due) (ms:List Int),vs=[.ref a,.ref b]/\IsSh K H a ds/\SqL K H b (List.map V.int ms)/\ds.length<=ms.length/\ds.length<=1000/\zu9 H Q (zbK ds λi=>ms.getD i 0)
def zgG:=λ{K:Fg} {a b:Addr} {ds:List Due} {ms:List Int} {H:Hp} {Q:VK} {E:XK} h h' hl h1 q=>@id (zk2 K [.ref a,.ref b] H Q E) ⟨a,b,ds,ms,rfl,h,h',hl,h1,q⟩
def zkt(h:i<ms.length):ms[i]?=some (ms.getD i 0):=by rw[yi,yr h];rfl
end Internal
namespace My
variable {c:Int}{n:Nat}
noncomputable def sumTo (f:Nat->Int):Nat->Int
 | 0=>0
 | n+1=>sumTo f n+f n
theorem zdL{f g:Nat->Int}:∀{n:Nat},(∀i,i<n->f i=g i)->sumTo f n=sumTo g n
 | 0,_=>rfl
 | n+1,h=>by rw[sumTo,sumTo,zdL λi hi=>h i ⋯,h n ⋯]
theorem ziR(f g:Nat->Int):∀n,sumTo (λi=>f i+g i) n=sumTo f n+sumTo g n
 | 0=>rfl
 | n+1=>by rw[sumTo,sumTo,sumTo,ziR f g n];lia
theorem zfB(c:Int)(f:Nat->Int):∀n,sumTo (λi=>c*f i) n=c*sumTo f n
 | 0=>by simp[sumTo]
 | n+1=>by rw[sumTo,sumTo,zfB c f n,ybo]
theorem sumTo_nonneg{f:Nat->Int}:∀{n:Nat},(∀i,i<n->0<=f i)->0<=sumTo f n
 | 0,_=>yD _
 | n+1,h=>by have:=sumTo_nonneg (n:=n) λi hi=>h i ⋯;have:=h n ⋯;rw[sumTo];lia
theorem zkT{f g:Nat->Int}:∀{n:Nat},(∀i,i<n->f i<=g i)->sumTo f n<=sumTo g n
 | 0,_=>yD _
 | n+1,h=>by have:=zkT (n:=n) λi hi=>h i ⋯;have:=h n ⋯;rw[sumTo,sumTo];lia
section
variable (ch:Nat->Bool)(x:Nat->Int)(L:Int)
noncomputable def rest:Nat->Int
 | 0=>L
 | i+1=>if ch i=true/\rest i>0 then rest i-1 else rest i
noncomputable def more (i:Nat):Int:=if ch i=true/\rest ch L i>0 then x i+1 else x i
noncomputable def cnt:Nat->Int
 | 0=>0
 | i+1=>if ch i=true then cnt i+1 else cnt i
variable {ch x L}
theorem rest_nonneg(h:0<=L):∀n,0<=rest ch L n
 | 0=>h
 | n+1=>by have:=rest_nonneg h n;rw[rest];split<;>lia
theorem zjc:∀(d n:Nat),rest ch L (n+d)<=rest ch L n
 | 0,n=>yD _
 | d+1,n=>by
  have:=zjc d n
  show rest ch L ((n+d)+1)<=_;rw[rest];split<;>lia
theorem zgs:∀n,rest ch L n>0->L-rest ch L n=cnt ch n
 | 0,_=>by show L-L=0;lia
 | n+1,h=>by
  rw[rest]at h ⊢;rw[cnt];split at h
  ·rename_i q
   have:=zgs n ⋯
   rw[if_pos q,if_pos q.1];lia
  ·rename_i q;have a:=zgs n h
   have:¬ch n=true:=λz=>q ⟨z,h⟩
   rw[if_neg q,if_neg this];exact a
theorem sum_more:∀n,sumTo (more ch x L) n=sumTo x n+(L-rest ch L n)
 | 0=>by show(0:Int)=0+(L-L);lia
 | n+1=>by
  rw[sumTo,sumTo,sum_more n,more,rest];split<;>lia
def rest_end(h:0<=L)(a:L<=cnt ch n):rest ch L n=0:=by
 have b:=rest_nonneg (ch:=ch) h n;by_cases e:rest ch L n>0
 ·have:=zgs n e
  lia
 ·lia
end
def left_le{b:Nat->Int}{B:Int}(g:0<B)(d:sumTo b n=B):c-sumTo (λi=>c*b i/B) n<=cnt (λi=>decide (c*b i%B>0)) n/\0<=c-sumTo (λi=>c*b i/B) n:=by
 have h1:sumTo (λi=>c*b i%B) n=B*(c-sumTo (λi=>c*b i/B) n):=by
  have e:sumTo (λi=>c*b i) n=sumTo (λi=>B*(c*b i/B)+c*b i%B) n:=zdL λi _=>(yaJ _ _).symm;rw[ziR,zfB,zfB,d]at e;rw[Int.mul_sub,yaf B c];lia
 have h2:sumTo (λi=>c*b i%B) n<=(B-1)*cnt (λi=>decide (c*b i%B>0)) n:=by
  have:∀m,sumTo (λi=>c*b i%B) m<=(B-1)*cnt (λi=>decide (c*b i%B>0)) m:=by
   intro m
   induction m with
   | zero=>simp[sumTo,cnt]
   | succ m ih=>
    rw[sumTo,cnt];have h:=yad (c*b m) (b:=B) ⋯;have p2:=yab (c*b m) g;split
    ·rw[ybo];lia
    ·rename_i q
     have:¬c*b m%B>0:=λz=>q (decide_eq_true z)
     lia
  exact this n
 have f:0<=sumTo (λi=>c*b i%B) n:=sumTo_nonneg λi _=>yad _ ⋯;have a:0<=cnt (λi=>decide (c*b i%B>0)) n:=by
  have:∀m,0<=cnt (λi=>decide (c*b i%B>0)) m:=by
   intro m
   induction m with
   | zero=>exact yD _
   | succ m ih=>rw[cnt];split<;>lia
  exact this n
 generalize c-sumTo (λi=>c*b i/B) n=L at *
 generalize cnt (λi=>decide (c*b i%B>0)) n=k at *
 rw[h1]at h2 f;constructor
 ·refine yaU.mp λq=>?_;have a1:(B-1)*k<=B*k:=by rw[Int.sub_mul];lia
  have a2:B*(k+1)<=B*L:=yaD ⋯ ⋯;rw[ybo]at a2;lia
 ·refine yaU.mp λq=>?_;have a1:B*L<=B*(-1):=yaD ⋯ ⋯;lia
end My
namespace Internal
variable {C a b l:Addr}{E:XK}{H:Hp}{K:Fg}{Q:VK}{c:Int}{caps:List (Option Nat)}{ds:List Due}{e:Expr}{i j k m n:Nat}{ns:List Int}{st:Stmt}{xs:List V}{σ:St}
open PySem PySem.Spec PyProof.Rows
theorem za1(f:Nat->Int):∀n,zaj (vec n f)=My.sumTo f n
 | 0=>rfl
 | n+1=>by rw[zV,zaQ,za1 f n];rfl
def zrb{k m:Int}(a:0<=k)(h:k<=m):k*k<=m*m:=Int.mul_le_mul h h a ⋯
noncomputable def ziO (K:Fg):Sp:=λvs H Q _=>∃(a:Addr) (ns:List Int) (k:Int),vs=[.ref a,.int k]/\SqL K H a (ns.map V.int)/\0<=k/\∀i,Q (.int i) H
def zoW:=λ{K:Fg} {a:Addr} {ns:List Int} {k:Int} {H:Hp} {Q:VK} {E:XK} hS h0 q=>@id (ziO K [.ref a,.int k] H Q E) ⟨a,ns,k,rfl,hS,h0,q⟩
noncomputable def zh6 (K:Fg):Sp:=λvs H Q _=>∃(a:Addr) (ns:List Int) (k m:Int),vs=[.ref a,.int k,.int m]/\SqL K H a (ns.map V.int)/\0<=k/\k<=10000/\1<=m/\∀i,0<=i->i<m->Q (.int i) H
def zoA:=λ{K:Fg} {a:Addr} {ns:List Int} {k m:Int} {H:Hp} {Q:VK} {E:XK} hS h0 h1 hm q=>@id (zh6 K [.ref a,.int k,.int m] H Q E) ⟨a,ns,k,m,rfl,hS,h0,h1,hm,q⟩
noncomputable def big:Int:=1000000000000000000000000000000000000000000000000000000000000
noncomputable def zgH (K:Fg):Sp:=λvs H Q _=>∃(a:Addr) (ns:List Int) (k m:Int),vs=[.ref a,.int k,.int m]/\SqL K H a (ns.map V.int)/\0<=k/\k<=10000/\1<=m/\m<=1000000000000000000000000000000000000000000000000000000000000/\∀i,0<=i->i<m->Q (.int i) H
def zng:=λ{K:Fg} {a:Addr} {ns:List Int} {k m:Int} {H:Hp} {Q:VK} {E:XK} hS h0 h1 hm hm' q=>@id (zgH K [.ref a,.int k,.int m] H Q E) ⟨a,ns,k,m,rfl,hS,h0,h1,hm,hm',q⟩
noncomputable def zfh (K:Fg):Sp:=λvs H Q _=>∃(a:Addr) (ns:List Int) (k m:Int),vs=[.ref a,.int k,.int m]/\SqL K H a (ns.map V.int)/\0<=k/\k<=5000/\8<=m/\m<1000000000000000000000000000000000000000000000000000000000000/\∀i,0<=i->i<=m->Q (.int i) H
def zlT:=λ{K:Fg} {a:Addr} {ns:List Int} {k m:Int} {H:Hp} {Q:VK} {E:XK} hS h0 h1 hm hm' q=>@id (zfh K [.ref a,.int k,.int m] H Q E) ⟨a,ns,k,m,rfl,hS,h0,h1,hm,hm',q⟩
noncomputable def zgw (K:Fg) (C:Addr):Sp:=λvs H Q E=>∃(c:Int) (a:Addr) (ns:List Int),vs=[.int c,.ref a]/\SqL K H a (ns.map V.int)/\((c<=zaj ns/\Q .non H)\/(zaj ns<c/\E (.ref C) none H))
def zmR(h:SqL K H a (ns.map V.int))(b:c<=zaj ns)(q:Q .non H):zgw K C [.int c,.ref a] H Q E:=⟨c,a,ns,rfl,h,.inl ⟨b,q⟩⟩
noncomputable def bls (n:Nat) (ch:Nat->Bool):List V:=(List.range n).map λi=>V.bl (ch i)
def zey{ch:Nat->Bool}:bls (n+1) ch=bls n ch++[.bl (ch n)]:=by unfold bls;rw[yO,yj];rfl
def zmm{ch:Nat->Bool}:(bls n ch).length=n:=by simp[bls]
def zd3{ch:Nat->Bool}(h:i<n):(bls n ch)[i]?=some (.bl (ch i)):=by simp[bls,h]
noncomputable def zkD (K:Fg):Sp:=λvs H Q _=>∃(a b:Addr) (n:Nat) (x:Nat->Int) (ch:Nat->Bool) (L:Int),vs=[.ref a,.ref b,.int L]/\SqL K H a ((vec n x).map V.int)/\SqL K H b (bls n ch)/\n<=1000/\zb0 H Q (vec n (My.more ch x L))
def zpE:=λ{K:Fg} {a b:Addr} {n:Nat} {x:Nat->Int} {ch:Nat->Bool} {L:Int} {H:Hp} {Q:VK} {E:XK} h h' hn q=>@id (zkD K [.ref a,.ref b,.int L] H Q E) ⟨a,b,n,x,ch,L,rfl,h,h',hn,q⟩
noncomputable def zaI (c:Int) (n:Nat) (b:Nat->Int):Nat->Int:=if My.sumTo b n=0 then λ_=>0 else My.more (λi=>decide (c*b i%My.sumTo b n>0)) (λi=>c*b i/My.sumTo b n) (c-My.sumTo (λi=>c*b i/My.sumTo b n) n)
noncomputable def zqW (K:Fg) (C:Addr):Sp:=λvs H Q _=>∃(c:Int) (a:Addr) (n:Nat) (b:Nat->Int),vs=[.int c,.ref a]/\SqL K H a ((vec n b).map V.int)/\n<=1000/\(∀i,i<n->0<=b i/\sz (b i)<=300)/\(0<=c/\c<=My.sumTo b n)/\sz (My.sumTo b n)<=300/\zb0 H Q (vec n (zaI c n b))
def zdN{b:Nat->Int}(h:My.sumTo b n=0):zaI c n b=λ_=>0:=by unfold zaI;rw[if_pos h]
def zej{b:Nat->Int}(h:¬My.sumTo b n=0):zaI c n b=My.more (λi=>decide (c*b i%My.sumTo b n>0)) (λi=>c*b i/My.sumTo b n) (c-My.sumTo (λi=>c*b i/My.sumTo b n) n):=by unfold zaI;rw[if_neg h]
theorem zcg:∀n,My.sumTo (λ_=>0) n=0
 | 0=>rfl
 | n+1=>by rw[My.sumTo,zcg n];rfl
def zo5{b:Nat->Int}(a:∀i,i<n->0<=b i)(d:0<=c/\c<=My.sumTo b n):My.sumTo (zaI c n b) n=c:=by
 have e:=My.sumTo_nonneg a;by_cases h:My.sumTo b n=0
 ·rw[zdN h,zcg];lia
 ·obtain⟨h1,h2⟩:=My.left_le (c:=c) (show 0<My.sumTo b n by lia) rfl;rw[zej h,My.sum_more,My.rest_end h2 h1];lia
noncomputable def zce (c:Int) (n:Nat) (b:Nat->Int) (i:Nat):Int:=My.rest (λi=>decide (c*b i%My.sumTo b n>0)) (c-My.sumTo (λi=>c*b i/My.sumTo b n) n) i
def zlD{c:Int}{b:Nat->Int}(h:0<My.sumTo b n)(i:Nat) :
  -My.sumTo b n<zaI c n b i*My.sumTo b n-c*b i/\zaI c n b i*My.sumTo b n-c*b i<My.sumTo b n/\(0<zaI c n b i*My.sumTo b n-c*b i->0<zce c n b i)/\(zaI c n b i*My.sumTo b n-c*b i<0->zce c n b (i+1)=0)/\(zce c n b i=0->zce c n b (i+1)=0):=by
 have f:0<=c-My.sumTo (λi=>c*b i/My.sumTo b n) n:=(My.left_le (c:=c) h rfl).2;have g:=My.rest_nonneg (ch:=λi=>decide (c*b i%My.sumTo b n>0)) f i;have e:=zej (c:=c) (show ¬My.sumTo b n=0 by lia);have e1:zaI c n b i=if(decide (c*b i%My.sumTo b n>0))=true/\zce c n b i>0 then c*b i/My.sumTo b n+1 else c*b i/My.sumTo b n:=by rw[e];rfl
 have e2:zce c n b (i+1)=if(decide (c*b i%My.sumTo b n>0))=true/\zce c n b i>0 then zce c n b i-1 else zce c n b i:=rfl
 have d:0<=zce c n b i:=g;rw[e1,e2];generalize zce c n b i=r at *
 have l:=yad (c*b i) (b:=My.sumTo b n) ⋯;have k:=yab (c*b i) h;have a:=yaJ (c*b i) (My.sumTo b n);generalize My.sumTo b n=S at *
 generalize c*b i=x at *
 rw[yaf]at a;by_cases q:decide (x%S>0)=true/\r>0
 ·have q1:=of_decide_eq_true q.1;rw[if_pos q,if_pos q,yaZ];refine⟨⋯,⋯,⋯,⋯,⋯⟩
 ·rw[if_neg q,if_neg q];refine⟨⋯,⋯,⋯,λj=>?_,⋯⟩
  have:decide (x%S>0)=true:=decide_eq_true ⋯
  have:¬r>0:=λz=>q ⟨this,z⟩
  lia
def zqR{rest:St}(h:SqL K H a xs)(k:zbx caps σ=none :: rest)(hn:xs.length<=100000)(q:∀p H',H p=none->Same H H'->H' p=some (.lst ((vec xs.length λ_=>c).map V.int))->Q (.ref p) H'):zcT (Itl K a) caps (zbn 0) zdP (tC (.int c)) σ Q H:=by
 refine zH (zO (K:=K) (a:=a) (xs:=xs)) (λH' e=>e.seq h) k (λi vs _=>vs=(vec i λ_=>c).map V.int) (λ_ _=>rfl) ?_ ?_
 ·rintro i x D vs o H' H2 hi f e g d rfl e2 l;refine zl7 (zrp (ze7 (x_c (zdv (e2.at g) ⋯ λm b j=>?_))));exact CompN.int ⟨_,rfl⟩ (b.same (e.trans e2) f) j rfl
 ·rintro D H' vs f e g d rfl;exact q D H' f e g
theorem zgi{b:Nat->Int}{M:Int}:∀{n:Nat},(∀i,i<n->b i<=M)->My.sumTo b n<=n*M
 | 0,_=>by simp[My.sumTo]
 | n+1,h=>by
  have:=zgi (n:=n) λi hi=>h i ⋯
  have:=h n ⋯
  have e:((n+1:Nat):Int)*M=n*M+M:=by rw[Int.natCast_succ,yaZ,ybD]
  rw[My.sumTo,e];lia
def zbU:ns.map V.int++[.int c]=(ns++[c]).map V.int:=by rw[yj];rfl
def zn7{P:Program}{w:World}{K:Fg}{mg:Str->Option Value}{base:Heap}{N:List Str}{qual:Str}{scope:Scope}{f:Addr}{h:Value}{A:Around}{outer:List Env}{s:Shared}{H:Hp}{E:XK} :
  zcH (CXF P w) (zat (CXF P w) P w K mg base N qual scope f h A outer s H E) E:=by
 intro pins σ H1 D e J I x;obtain⟨er,C,t,B,H',rfl,F,ex⟩:=x;have y:=I.stack;have c:∀b o,s.heap.get? b=some o->b∉frs outer->b∉frs (envOfC qual scope s.heap.objs.size f h :: outer):=λb o q n z=>by
  rcases yt.mp (show b∈s.heap.objs.size :: frs outer from z)with z | z
  ·exact yo (Heap.lt_size q) z
  ·exact n z
 have sub:∀b∈frs outer,b∈frs (envOfC qual scope s.heap.objs.size f h :: outer):=λb a=>yJ _ a;show wpAny (model P w) (A.deeper (envOfC qual scope s.heap.objs.size f h)) (leaving (envOfC qual scope s.heap.objs.size f h) (.ref er)) _ _ _;refine wpAny_mono (DK.any (E:=λ_ _=>False) (Q:=λ_ d=>Bare er d->CXF P w outer H s E (.ref er) d) (zhL _ _) F.nod ?_) (λ_ d q=>q.1 q.2) λ_ _ q=>q.1.elim;refine wpAny_leaves_onW (L:=s.heap.objs.size) I.ok.frames rfl F.fly λj fly up b1=>?_;have g:=F.unAt y fly.1 up;refine⟨er,C,t,B,H',rfl,⟨F.os.trans I.os,F.bare,⟨λb o q n a _=>?_,λb o q n a _=>?_,λb o q n _=>?_,λb o q _=>?_,λb xs q=>g.tups b xs (I.base.tups b xs q),λb o xs q=>g.frzs b o xs (I.base.frzs b o xs q),λb ps q=>?_⟩,F.hokAt fly.1,fly,λb o q n a=>?_,λb o q a=>?_,λb o u q e=>?_,b1⟩,ex⟩
 ·exact g.keep b o (I.base.keep b o q n a (by simp[zat])) (I.base.free b o q n (by simp[zat])) (c b o q a) (by simp)
 ·obtain⟨G,e1⟩:=I.base.slot b o q n a (by simp[zat]);obtain⟨k,e2⟩:=g.slot b _ e1 (I.base.free b o q n (by simp[zat])) (sub b a) (by simp);exact⟨k,e2⟩
 ·obtain⟨i,e1⟩:=I.base.there b o q (by simp[zat]);exact g.free b i e1 (I.base.free b o q n (by simp[zat])) (by simp)
 ·obtain⟨i,e1⟩:=I.base.there b o q (by simp[zat]);exact g.there b i e1 (by simp)
 ·obtain⟨p,e1⟩:=I.base.tbls b ps q;obtain⟨v,e2⟩:=g.tbls b _ e1;exact⟨p++v,by rw[e2,Array.append_assoc]⟩
 ·exact F.old b o (I.base.keep b o q n a (by simp[zat])) (I.base.free b o q n (by simp[zat])) (c b o q a)
 ·obtain⟨i,e1⟩:=I.base.there b o q (by simp[zat]);exact F.has b i e1 (c b o q a)
 ·obtain⟨l,e1⟩:=(F.hok b o q).obj;have z:=F.trk b o l q e1;have r:=fly.1 b l z;have m:j.get? b=some u:=e;rw[r]at m;cases m;exact z
noncomputable def zkc (X:Cx) (pins:List (Addr × Obj)) (Eh:Addr->St->Hp->Prop):Value->Shared->Prop:=λe s'=>∃σ' H1 s1 er C t B H',Inv X pins σ' H1 s1/\e=.ref er/\Fly X.prog X.w X.stack H1 s1 H' er C t B s'/\Eh C σ' H'
abbrev TEr:=St->Hp->VK->(Addr->Hp->Prop)->Prop
abbrev TTr:=Ends->(Addr->St->Hp->Prop)->St->Hp->Prop
noncomputable def PEr (X:Cx) (e:Expr) (t:TEr):Prop:=∀(pins:List (Addr × Obj)) (s:Shared) (σ:St) (H:Hp) (Q:VK) (Eh:Addr->Hp->Prop),Inv X pins σ H s->t σ H Q Eh->wpAny (model X.prog X.w) X.A (eval e X.env) (EP X pins σ Q) (zkc X pins λC a H'=>a=σ/\Eh C H') s
noncomputable def PTr (X:Cx) (st:Stmt) (t:TTr):Prop:=∀(pins:List (Addr × Obj)) (s:Shared) (σ:St) (H:Hp) (D:Ends) (Eh:Addr->St->Hp->Prop),Inv X pins σ H s->t D Eh σ H->wpAny (model X.prog X.w) X.A (exec st X.env) (SP X pins D) (zkc X pins Eh) s
noncomputable def ztN (X:Cx) (a:List Stmt) (t:TTr):Prop:=∀(pins:List (Addr × Obj)) (s:Shared) (σ:St) (H:Hp) (D:Ends) (Eh:Addr->St->Hp->Prop),Inv X pins σ H s->t D Eh σ H->wpAny (model X.prog X.w) X.A (execs a X.env) (SP X pins D) (zkc X pins Eh) s
section
variable {X:Cx}{pos:Pos}
abbrev zud(te:TEr):TTr:=λD Eh σ H=>te σ H (λ_ H2=>D.nx σ H2) λC H2=>Eh C σ H2
def zgJ{te:TEr}(d:PEr X e te)(a:autoParam (swapsWith e none pos.line X.env=pure false) Internal.aut2._auto_1):PTr X (.Expr e pos) (zud te):=by
 intro pins s σ H D Eh I h;refine wpAny_Expr_any (wpAny_mono (d pins s σ H _ _ I h) (λ_ f ⟨v,H1,b,r,q⟩=>⟨σ,H1,b,q⟩) λe f ⟨i,H1,g,er,C,t,B,H',j,e1,c,e2,q⟩=>⟨i,H1,g,er,C,t,B,H',j,e1,c,e2▸q⟩) I.quiet a
abbrev zvQ(c:TT)(t u:TTr):TTr:=λD Eh σ H=>c σ H λb H1=>if b=true then t D Eh σ H1 else u D Eh σ H1
abbrev zvL:TTr:=λD _ σ H=>D.nx σ H
def zgQ{t:TTr}(h:PTr X st t):ztN X [st] t:=by
 intro pins s σ H D Eh I q;refine wpAny_execs_cons (wpAny_mono (h pins s σ H D Eh I q) (λf a z=>?_) λ_ _ z=>z);cases f with
 | next=>exact wpAny_execs_nil z
 | _=>exact z
noncomputable def zgZ (K:Fg) (a:Addr) (i:Nat) (tb:TTr) (th:TS):TS:=λD σ H=>tb D (λC b H2=>∃C',Value.ref C=.ref C'/\PySem.W.exmOne K (.ref C') (.ref a)=some true/\∀er,H2 er=none->th (D.gone i) (b.set i (some (.ref er))) (upd H2 er (zb8 er C'))) σ H
def ziu{j:Addr}{b n:Str}{l hp:Pos}{body:List Stmt}{tb:TTr}{k:Stmt}{a:List Stmt}{i:Nat}{th:TS}(d:X.stack=X.env :: X.outer/\X.env.frame=some X.env.locals)(c:ztN X body tb)
  (hg:Gl X b) (hm:X.mg b=some (.ref j)) (hN:X.N.Nodup) (hi:X.N[i]?=some n) (hl:X.env.kindOf n=some .local) (hth:∀er,PSs (X.inH er) (k :: a) th) (hdb:autoParam ((b == ("__debug__" : Str))=false) Internal.aut1._auto_1) :
  PS X (.Try body [.ExceptHandler (some (.Name b l)) (some n) (k :: a) hp] [] [] pos) (zgZ X.K j i tb th):=by
 intro pins s σ H D I h;refine wpAny_Try_except (wpAny_mono (c pins s σ H D _ I h) (λf o z=>?_) λe o z=>?_)
 ·cases f with
  | next=>exact wpAny_execs_nil z
  | _=>exact z
 ·obtain⟨v,H1,w,er,C,t,B,H',r,rfl,g,u,m,p,q⟩:=z;cases m;exact taken d r g hg hm p hN hi hl (hth er) (q er g.noTrk) hdb
end
section
variable {σ:St}{H:Hp}{Q:VK}{D:Ends}{K:Fg}{Eh:Addr->Hp->Prop}{Eg:Addr->St->Hp->Prop}
def zue{a:Addr}{tb:TTr}{th:TS}(q:tb D (λC b H2=>∃C',Value.ref C=.ref C'/\PySem.W.exmOne K (.ref C') (.ref a)=some true/\∀er,H2 er=none->th (D.gone i) (b.set i (some (.ref er))) (upd H2 er (zb8 er C'))) σ H):zgZ K a i tb th D σ H:=q
end
def ziZ{α:Type}(xs:List α){h:Int}(a:0<=h):zeq xs none (some h)++zeq xs (some h) none=xs:=by
 unfold zeq;have e:∀d,HT.sIx xs.length d (some h)=min h.toNat xs.length:=λd=>by
  show(if h<0 then(h+(xs.length:Int)).toNat else min h.toNat xs.length)=_
  rw[if_neg ⋯]
 rw[e,e,HT.sIx_none,HT.sIx_none,List.drop_zero,Nat.sub_zero,List.take_of_length_le (l:=List.drop _ _) (by rw[ya4];lia)];exact ya7 ..
noncomputable def zcA (ds:List Due) (pf:Nat->Int) (m:Nat):Int:=if -zek ds m-pf m>0 then -zek ds m-pf m else 0
noncomputable def zka (K:Fg):Sp:=λvs H Q _=>∃(a b:Addr) (ds:List Due) (n:Nat) (pf:Nat->Int),vs=[.ref a,.ref b]/\IsSh K H a ds/\SqL K H b ((vec n pf).map V.int)/\n<=100/\(∀d∈ds,zaF n d)/\zb0 H Q (vec n (zcA ds pf))
def zp5:=λ{K:Fg} {a b:Addr} {ds:List Due} {n:Nat} {pf:Nat->Int} {H:Hp} {Q:VK} {E:XK} h h' hn hd q=>@id (zka K [.ref a,.ref b] H Q E) ⟨a,b,ds,n,pf,rfl,h,h',hn,hd,q⟩
noncomputable def zcU:Sp:=λ_ _ _ _=>False
theorem BT.range:bootBuiltins "range" = some (.type "range"):=by decide +kernel
section
variable {X:Cx}
theorem zft:∀ns:List Int,(ns.map V.int).all zcB=true
 | []=>rfl
 | n :: ns=>by rw[yH,ya1,zft ns];rfl
noncomputable def zuq:V->List V->Hp->VK->Prop:=λx vs H Q=>∃(l:Addr) (ns:List Int) (k:Int) (j:Nat),x=.ref l/\vs=[.int k]/\H l=some (.lst (ns.map V.int))/\ns[j]?=some k/\(∀m,m<j->ns[m]?≠some k)/\ns.length<=100000/\Q (.int j) H
def zqs:MtM X "list.index" zuq:=by
 intro pins s σ H x vs v us Q I B A h;obtain⟨l,ns,k,j,rfl,rfl,C,g,hno,G,q⟩:=h;cases B;obtain⟨u,rfl,ru⟩:=A.one;obtain⟨z,its,n,r,E,e⟩:=I.lstM C;have i:j<ns.length:=(yk.mp g).1;have t:its.length=ns.length:=by have:=r.length;rw[yb]at this;exact this.symm
 have a:∀m (b:m<its.length),eqU (.int k) its[m]=(ns[m]'(by lia) == k):=λm b=>by
  obtain⟨w,o,c⟩:=r.get (show(ns.map V.int)[m]?=some (.int (ns[m]'(by lia))) by simp[show m<ns.length by lia])
  have:its[m]=w:=by
   rw[yr b]at o;exact yq o
  rw[this,zkE c rfl];rfl
 refine call_meets F.slot_list_index ⟨_,e,rfl⟩ F.entry_list_index (F.args_list_index_2 _ _) (SeqAt.list_indexAt l its.toArray n none #[] u (eqU (.int k)) j (by simp;lia) ⋯ ?_ (λm b d=>?_)) ⟨e,λy D=>zcx ru rfl r (zft ns) y (by simpa using D),⟨.int j,H,I.tok _,⟨_,rfl⟩,q⟩⟩
 ·have:=a j ⋯
  simp only[List.getElem_toArray];rw[this];have p:ns[j]=k:=by rw[yr i]at g;exact yq g
  rw[p];simp
 ·have f:m<its.length:=by simpa using b
  simp only[List.getElem_toArray];rw[a m f]
  have:ns[m]'(by lia)≠k:=λz=>hno m d (by rw[yr ⋯,z])
  simp[this]
noncomputable def zdT (K:Fg):List V->Hp->VK->Prop:=λvs H Q=>∃(a:Addr) (ns:List Int),vs=[.ref a]/\SqL K H a (ns.map V.int)/\ns.length<64/\∀l ms,H l=none->List.Perm ms ns->ms.Pairwise (·<=·)->Q (.ref l) (upd H l (.lst (ms.map V.int)))
def zfx:CallR X (.builtin "sorted") (zdT X.K):=by
 intro pins s σ H xs us Q I r h;obtain⟨a,ns,rfl,d,p,q⟩:=h;obtain⟨u,rfl,g⟩:=vals1 r;cases g;obtain⟨its,m,pl,c,i⟩:=I.walk d;rw[yb]at c;refine sorted_ints (vs:=its) pl (zmQ m) ⋯ λout ms f hp n=>?_;obtain⟨e,k⟩:=sortedAll_at s.heap its out;have l:=zfF f;have j:ms.length=ns.length:=hp.length_eq;have J:Inv X pins σ (upd H (s.heap.objs.size+1) (.lst (ms.map V.int))) { s with heap:=sortedAll s.heap its out,toks:=s.toks }:=I.laid (λb o z=>sortedAll_old z) (ybn _) ⟨by rw[yb];exact zbf ⋯,out.toList,e,l,k⟩;exact⟨.ref (s.heap.objs.size+1),_,J,rfl,q _ ms (I.hok.fresh (ybn _)) hp n⟩
noncomputable def zg6:List V->Hp->VK->Prop:=λvs H Q=>∃j:Int,vs=[.int j]/\∀p,H p=none->Q (.ref p) (upd H p (.rng 0 j))
def zlO:CallR X (.type "range") zg6:=by
 intro pins s σ H xs us Q I r h;obtain⟨j,rfl,q⟩:=h;obtain⟨u,rfl,t,rfl⟩:=vals1 r;refine call_range_1 ?_;have J:Inv X pins σ (upd H s.heap.objs.size (.rng 0 j)) { s with heap:=s.heap.push { cls:=.type "range",data:=.fields #[.int 0 s.toks,.int j t,.int 1 (s.toks+1)] },toks:=s.toks+1+1 }:=I.laid (λb o e=>Heap.get?_push_of_some _ e) (yh _) ⟨_,_,_,Heap.get?_push_size _ rfl⟩;exact⟨.ref s.heap.objs.size,_,J,rfl,q _ (I.hok.fresh (yh _))⟩
end
section
variable {H:Hp}{Q:VK}{K:Fg}
theorem zmy{i:Int}:∀ns:List Int,inV (.int i) (ns.map V.int)=decide (i∈ns)
 | []=>by simp[inV]
 | n :: ns=>by
  have a:=zmy (i:=i) ns;unfold inV at a ⊢;rw[yH,ybt,a]
  show((n == i) || _)=_
  by_cases h:n=i
  ·subst h;simp
  ·have:¬i=n:=λz=>h z.symm
   simp[h,this]
def zsd{i:Int}(h:SqL K H a (ns.map V.int))(q:Q (.bl (!decide (i∈ns))) H):rIn K true (.int i) (.ref a) H Q:=
 ⟨a,_,rfl,.inl h,rfl,zft ns,by rw[if_pos rfl,zmy];exact q⟩
def zs1{zs:List V}(h:H l=some (.lst xs))(h':H b=some (.lst zs))(a:xs.length+zs.length<=100000)(q:∀H',LBut l H H'->H' l=some (.lst (xs++zs))->Q .non H'):zmz (.ref l) [.ref b] H Q:=
 ⟨l,b,xs,zs,rfl,rfl,h,h',zbf a,q _ ⟨But.upd,xs,h⟩ zF⟩
def zma(h:SqL K H a (ns.map V.int))(b:ns.length<64)(q:∀l ms H',H l=none->Same H H'->List.Perm ms ns->ms.Pairwise (·<=·)->H' l=some (.lst (ms.map V.int))->Q (.ref l) H'):zdT K [.ref a] H Q:=
 ⟨a,ns,rfl,h,b,λl ms hn hp c=>q l ms _ hn (Same.new hn _) hp c zF⟩
def zpK{j:Int}(q:∀p H',H p=none->Same H H'->H' p=some (.rng 0 j)->Q (.ref p) H'):zg6 [.int j] H Q:=⟨j,rfl,λp hp=>q p _ hp (Same.new hp _) zF⟩
end
noncomputable def zcn:Option Nat->V
 | none=>.non
 | some i=>.int i
noncomputable def zan (n:Nat) (w:Nat->Option Nat):List V:=(List.range n).map λm=>zcn (w m)
def za8{w:Nat->Option Nat}:(zan n w).length=n:=by simp[zan]
def zbo{w:Nat->Option Nat}(h:i<n):(zan n w)[i]?=some (zcn (w i)):=by simp[zan,h]
def zhN{w v:Nat->Option Nat}(h:∀i,i<n->w i=v i):zan n w=zan n v:=by
 unfold zan;exact ybj λi hi=>by rw[h i (yZ.mp hi)]
def zpO{w:Nat->Option Nat}{o:Option Nat}:(zan n w).set j (zcn o)=zan n λm=>if m=j then o else w m:=by
 refine yar λi=>?_;rw[List.getElem?_set];by_cases hi:i<n
 ·rw[zbo hi,zbo hi,za8];by_cases e:j=i
  ·subst e;simp[hi]
  ·rw[if_neg e,if_neg (yaA e)]
 ·have h2:∀v,(zan n v)[i]?=none:=λv=>by rw[yau,za8];lia
  rw[h2,h2,za8];by_cases e:j=i
  ·subst e;simp[hi]
  ·rw[if_neg e]
def zp1:List.replicate n V.non=zan n λ_=>none:=by
 refine yar λi=>?_;rw[yal];by_cases hi:i<n
 ·rw[zbo hi,if_pos hi];rfl
 ·rw[if_neg hi,yao (by rw[za8];lia)]
def zr3{b:Bool}:List.replicate n (V.bl b)=bls n λ_=>b:=by
 refine yar λi=>?_;rw[yal];by_cases hi:i<n
 ·rw[zd3 hi,if_pos hi]
 ·rw[if_neg hi,yao (by rw[zmm];lia)]
noncomputable def useful (g:Nat->Bool) (m:Nat) (d:Due):Prop:=d.p=(m:Int)/\0<d.a/\g d.p.toNat=true/\g d.q.toNat=true
instance {g:Nat->Bool} {m:Nat} {d:Due}:Decidable (useful g m d):=by unfold useful;infer_instance
noncomputable def zcs (ds:List Due) (g:Nat->Bool):Nat->Nat->Option Nat
 | 0,_=>none
 | i+1,m=>match ds[i]? with
  | some d=>if useful g m d then some i else zcs ds g i m
  | none=>zcs ds g i m
def zoH{g:Nat->Bool}{d:Due}(h:ds[i]?=some d)(m:Nat):zcs ds g (i+1) m=if useful g m d then some i else zcs ds g i m:=by rw[zcs,h]
def zqL{k:Int}(h:H l=some (.lst [.non]))(d:0<=k)(h1:k<=100000)(q:∀p H',H p=none->Same H H'->H' p=some (.lst (zan k.toNat λ_=>none))->Q (.ref p) H'):zdJ (.ref l) (.int k) H Q:=
 zlh h d h1 λp H' a b c=>q p H' a b (by rw[c,zp1])
def zsc{k:Int}{c:Bool}(h:H l=some (.lst [.bl c]))(d:0<=k)(h1:k<=100000)(q:∀p H',H p=none->Same H H'->H' p=some (.lst (bls k.toNat λ_=>c))->Q (.ref p) H'):zdJ (.ref l) (.int k) H Q:=
 zlh h d h1 λp H' a b c=>q p H' a b (by rw[c,zr3])
noncomputable def ziE (K:Fg):Sp:=λvs H Q _=>∃(a b:Addr) (ds:List Due) (n:Nat) (g:Nat->Bool),vs=[.ref a,.ref b]/\IsSh K H a ds/\SqL K H b (bls n g)/\n<=100/\ds.length<=1000/\(∀d∈ds,zaF n d)/\∀p H',H p=none->Same H H'->H' p=some (.lst (zan n (zcs ds g ds.length)))->Q (.ref p) H'
def zpc:=λ{K:Fg} {a b:Addr} {ds:List Due} {n:Nat} {g:Nat->Bool} {H:Hp} {Q:VK} {E:XK} h h' hn hl hd q=>@id (ziE K [.ref a,.ref b] H Q E) ⟨a,b,ds,n,g,rfl,h,h',hn,hl,hd,q⟩
def zpP{A:Prop}(q:A):V.non=V.non/\A:=⟨rfl,q⟩
def zkK{o:Option Nat}:decide (zcn o=V.non)=o.isNone:=by cases o with | none=>rfl | some i=>simp[zcn]
noncomputable def goF (ds:List Due):Nat->Nat->Bool
 | 0,_=>true
 | t+1,m=>(zcs ds (goF ds t) ds.length m).isSome
noncomputable def zcv (ds:List Due):Nat->Nat->Option Nat
 | 0,_=>none
 | t+1,m=>zcs ds (goF ds t) ds.length m
noncomputable def zk3 (K:Fg):Sp:=λvs H Q _=>∃(n:Int) (a:Addr) (ds:List Due),vs=[.int n,.ref a]/\IsSh K H a ds/\1<=n/\n<=100/\ds.length<=1000/\(∀d∈ds,zaF n d)/\∀p H',H p=none->Same H H'->H' p=some (.lst (zan n.toNat (zcv ds n.toNat)))->Q (.ref p) H'
def zqv:=λ{K:Fg} {n:Int} {a:Addr} {ds:List Due} {H:Hp} {Q:VK} {E:XK} h h0 h1 hl hd q=>@id (zk3 K [.int n,.ref a] H Q E) ⟨n,a,ds,rfl,h,h0,h1,hl,hd,q⟩
set_option genInjectivity false in
set_option genSizeOf false in
structure Lined(n:Nat)(ds:List Due)(ls:List Int):Prop where
 nd:ls.Nodup
 lt:∀x∈ls,0<=x/\x<n
 up:∀d∈ds,0<d.a->∀j:Nat,ls[j]?=some d.q->∃i:Nat,i<j/\ls[i]?=some d.p
noncomputable def fwd (a:Int) (m:Nat):Int:=((m:Int)*5+a)%11
open PySem PySem.W PyProof.Rows
section
variable {n:Nat}{kf:Nat->Int}
noncomputable def TOk (n:Nat) (kf:Nat->Int) {α:Type}:KasT α->(α->Prop)->Prop
 | .ret a,Q=>Q a
 | .ask i j k,Q=>i<n/\j<n/\TOk n kf (k (decide (kf i<kf j))) Q
theorem TOk.bind{α β:Type}{f:α->KasT β}{Q:β->Prop}:∀{t:KasT α},TOk n kf t (λa=>TOk n kf (f a) Q)->TOk n kf (t.bind f) Q
 | .ret _,h=>h
 | .ask i j k,h=>⟨h.1,h.2.1,TOk.bind (t:=k (decide (kf i<kf j))) h.2.2⟩
theorem TOk.mono{α:Type}{Q c:α->Prop}(b:∀a,Q a->c a):∀{t:KasT α},TOk n kf t Q->TOk n kf t c
 | .ret a,h=>b a h
 | .ask i j k,h=>⟨h.1,h.2.1,TOk.mono b (t:=k (decide (kf i<kf j))) h.2.2⟩
theorem TOk.wp{α:Type}{b:Nat->Nat->(Bool->Shared->Prop)->Shared->Prop}{Q:α->Shared->Prop}{s:Shared}(c:∀i j (C:Bool->Shared->Prop),i<n->j<n->C (decide (kf i<kf j)) s->b i j C s):∀{t:KasT α},TOk n kf t (λa=>Q a s)->t.kasWp b Q s
 | .ret _,h=>h
 | .ask i j k,h=>c i j _ h.1 h.2.1 (TOk.wp c (t:=k (decide (kf i<kf j))) h.2.2)
noncomputable def KP (kf:Nat->Int) (p:Array Nat) (i:Nat):Int:=kf (p.getD i 0)
noncomputable def PermR (n:Nat) (p:Array Nat):Prop:=p.toList.Perm (List.range n)
theorem PermR.size{p:Array Nat}(h:PermR n p):p.size=n:=by
 have:=h.length_eq
 rwa [yaO,yM]at this
def PermR.lt{p:Array Nat}(h:PermR n p)(hn:0<n)(i:Nat):p.getD i 0<n:=by
 by_cases hi:i<p.size
 ·have:p.getD i 0=p[i]:=by simp[Array.getD,hi]
  rw[this];have a:p[i]∈p.toList:=by simp
  exact yZ.mp (h.mem_iff.mp a)
 ·have:p.getD i 0=0:=by simp[Array.getD,hi]
  rw[this];exact hn
def PermR.of{p q:Array Nat}(h:PermR n p)(a:q.Perm p):PermR n q:=(Array.perm_iff_toList_perm.mp a).trans h
def zb4{p q:Array Nat}(h:p[i]?=q[j]?):p.getD i 0=q.getD j 0:=by
 rw[yaK,yaK,h]
def zhs{p:Array Nat}(a:j<=p.size)(k:Nat):KP kf (kas_rev p i j) k=if i<=k/\k<j then KP kf p (i+j-1-k)else KP kf p k:=by
 have e:=getElem?_mirror_all (i:=i) a k;unfold kas_rev KP;by_cases h:i<=k/\k<j
 ·rw[if_pos h]at e ⊢;rw[zb4 e]
 ·rw[if_neg h]at e ⊢;rw[zb4 e]
def zdb{p:Array Nat}(h:PermR n p):PermR n (kas_rev p i j):=h.of (mirror_perm _ _ _ _)
def zjg{p:Array Nat}{a d:Nat}(b:a<p.size)(hd:d<=a)(k:Nat):KP kf (bubble p a d) k=if k=a-d then KP kf p a else if a-d<k/\k<=a then KP kf p (k-1)else KP kf p k:=by
 have e:=getElem?_bubble b d hd k;unfold KP;by_cases h1:k=a-d
 ·rw[if_pos h1]at e ⊢;rw[zb4 e]
 ·rw[if_neg h1]at e ⊢;by_cases h2:a-d<k/\k<=a
  ·rw[if_pos h2]at e ⊢;rw[zb4 e]
  ·rw[if_neg h2]at e ⊢;rw[zb4 e]
noncomputable def Up (kf:Nat->Int) (p:Array Nat) (k:Nat):Prop:=∀i j,i<=j->j<k->KP kf p i<=KP kf p j
noncomputable def Down (kf:Nat->Int) (p:Array Nat) (k:Nat):Prop:=∀i j,i<=j->j<k->KP kf p j<=KP kf p i
theorem Up.steps{p:Array Nat}{a:Nat}:∀(b:Nat),Up kf p a->(∀i,a<=i->i<b->1<=i->KP kf p (i-1)<=KP kf p i)->Up kf p b
 | 0,_,_=>λi j _ h=>by lia
 | b+1,hu,hs=>by
  by_cases f:b+1<=a
  ·exact λi j h1 h2=>hu i j h1 ⋯
  ·have c:=Up.steps b hu (λi h1 h2 e=>hs i h1 ⋯ e);intro i j h1 h2;by_cases d:j=b
   ·subst d;by_cases hi:i=j
    ·subst hi;exact yD _
    ·exact yaR (c i (j-1) ⋯ ⋯) (hs j ⋯ ⋯ ⋯)
   ·exact c i j h1 ⋯
theorem zk8{p:Array Nat}(hp:PermR n p)(a:0<n):∀(f m:Nat),1<=m->TOk n kf (kas_asc p f m) λr=>m<=r/\r<=m+f/\(∀i,m<=i->i<r->KP kf p (i-1)<=KP kf p i)/\(r<m+f->KP kf p r<KP kf p (r-1))
 | 0,m,_=>⟨yh _,⋯,λi h1 h2=>by lia,λh=>by lia⟩
 | f+1,m,hm=>by
  refine⟨hp.lt a _,hp.lt a _,?_⟩;by_cases h:KP kf p m<KP kf p (m-1)
  ·rw[show decide (kf (p.getD m 0)<kf (p.getD (m-1) 0))=true from decide_eq_true h];dsimp only;rw[if_pos rfl];exact⟨yh _,⋯,λi h1 h2=>by lia,λ_=>h⟩
  ·rw[show decide (kf (p.getD m 0)<kf (p.getD (m-1) 0))=false from decide_eq_false h];dsimp only;rw[if_neg yn];refine TOk.mono (λr c=>?_) (zk8 hp a f (m+1) ⋯);obtain⟨g,j,d,b⟩:=c;refine⟨⋯,⋯,λi h1 h2=>?_,λh=>b ⋯⟩;by_cases e:i=m
   ·subst e;exact yaU.mp h
   ·exact d i ⋯ h2
noncomputable def zqI (kf:Nat->Int) (p:Array Nat) (k q:Nat):Prop:=q+1<=k/\∀i,k-(q+1)<=i->i<k->KP kf p i=KP kf p (k-1)
def zkO{p:Array Nat}{q:Nat}(b:k<=p.size)(a:zqI kf p k q)(i:Nat):KP kf (kas_rev p (k-(q+1)) k) i=KP kf p i:=by
 rw[zhs b]
 have:=a.1
 split
 ·rw[a.2 _ ⋯ ⋯,a.2 i ⋯ ⋯]
 ·rfl
def Down.congr{p a:Array Nat}(h:Down kf p k)(e:∀i,KP kf a i=KP kf p i):Down kf a k:=λi j h1 h2=>by rw[e,e];exact h i j h1 h2
def Down.more{p:Array Nat}(h:Down kf p k)(c:1<=k)(b:KP kf p k<=KP kf p (k-1)):Down kf p (k+1):=λi j h1 h2=>by
 by_cases a:j=k
 ·subst a;by_cases hi:i=j
  ·subst hi;exact yD _
  ·exact yaR b (h i (j-1) ⋯ ⋯)
 ·exact h i j h1 ⋯
theorem zfN(b:0<n):∀(f:Nat) (p:Array Nat) (m q:Nat),PermR n p->1<=m->m+f<=n->Down kf p m->zqI kf p m q->TOk n kf (kas_desc f p m q) λr=>PermR n r.1/\m<=r.2.1/\r.2.1<=m+f/\Down kf r.1 r.2.1/\zqI kf r.1 r.2.1 r.2.2
 | 0,p,m,q,hp,_,_,hd,ht=>⟨hp,yh _,by show m<=m+0;lia,hd,ht⟩
 | f+1,p,m,q,hp,hm,hf,hd,ht=>by
  refine⟨hp.lt b _,hp.lt b _,?_⟩;have j:=hp.size;by_cases h:KP kf p m<KP kf p (m-1)
  ·rw[show decide (kf (p.getD m 0)<kf (p.getD (m-1) 0))=true from decide_eq_true h];dsimp only;rw[if_pos rfl];have c:=hd.more hm (yak h);split
   ·have e:=zkO ⋯ ht;have d:=c.congr e;refine TOk.mono (λr a=>⟨a.1,⋯,⋯,a.2.2.2.1,a.2.2.2.2⟩) (zfN b f _ (m+1) 0 (zdb hp) ⋯ ⋯ d ⟨⋯,λi h1 h2=>?_⟩)
    have:i=m:=by lia
    subst this;rfl
   ·refine TOk.mono (λr a=>⟨a.1,⋯,⋯,a.2.2.2.1,a.2.2.2.2⟩) (zfN b f p (m+1) 0 hp ⋯ ⋯ c ⟨⋯,λi h1 h2=>?_⟩)
    have:i=m:=by lia
    subst this;rfl
  ·rw[show decide (kf (p.getD m 0)<kf (p.getD (m-1) 0))=false from decide_eq_false h];dsimp only;rw[if_neg yn];refine⟨hp.lt b _,hp.lt b _,?_⟩;by_cases h':KP kf p (m-1)<KP kf p m
   ·rw[show decide (kf (p.getD (m-1) 0)<kf (p.getD m 0))=true from decide_eq_true h'];dsimp only;rw[if_pos rfl];exact⟨hp,yh _,by show m<=m+(f+1);lia,hd,ht⟩
   ·rw[show decide (kf (p.getD (m-1) 0)<kf (p.getD m 0))=false from decide_eq_false h'];dsimp only;rw[if_neg yn];have g:KP kf p m=KP kf p (m-1):=by
     have:=yaU.mp h
     have:=yaU.mp h'
     lia
    refine TOk.mono (λr a=>⟨a.1,⋯,⋯,a.2.2.2.1,a.2.2.2.2⟩) (zfN b f p (m+1) (q+1) hp ⋯ ⋯ (hd.more hm ⋯) ⟨by have:=ht.1;lia,λi h1 h2=>?_⟩)
    have:=ht.1
    show KP kf p i=KP kf p (m+1-1);rw[show m+1-1=m by lia];by_cases e:i=m
    ·subst e;rfl
    ·rw[g];exact ht.2 i ⋯ ⋯
def zkN(f:0<n){p:Array Nat}(hp:PermR n p)(b:1<=m)(hn:m<=n)(hd:Down kf p m):TOk n kf (kas_tail3 m n p) λr=>PermR n r.2/\1<=r.1/\r.1<=n/\Up kf r.2 r.1:=by
 have e:=hp.size;refine TOk.bind (TOk.mono (λr c=>?_) (zk8 (zdb hp) f (n-m) m b));obtain⟨h,g,d,_⟩:=c;refine⟨zdb hp,by show 1<=r;lia,by show r<=n;lia,Up.steps (a:=m) r (λi j h1 h2=>?_) λi h1 h2 _=>d i h1 h2⟩;rw[zhs ⋯,zhs ⋯,if_pos ⟨⋯,⋯⟩,if_pos ⟨⋯,h2⟩];exact hd _ _ ⋯ ⋯
def zf9(b:0<n){p:Array Nat}(hp:PermR n p)(g:1<=m)(hn:m+1<=n)(hd:Down kf p (m+1)):TOk n kf (kas_descPart m n p) λr=>PermR n r.2/\1<=r.1/\r.1<=n/\Up kf r.2 r.1:=by
 refine TOk.bind (TOk.mono (λr e=>?_) (zfN b (n-(m+1)) p (m+1) 0 hp ⋯ ⋯ hd ⟨⋯,λi h1 h2=>?_⟩))
 ·obtain⟨a,h,j,c,d⟩:=e;have f:=a.size;split
  ·exact zkN b (zdb a) ⋯ ⋯ (c.congr (zkO ⋯ d))
  ·exact zkN b a ⋯ ⋯ c
 ·have:i=m:=by lia
  subst this;rfl
def zqg(c:0<n){p:Array Nat}(hp:PermR n p):TOk n kf (kas_count n p) λr=>PermR n r.2/\1<=r.1/\r.1<=n/\Up kf r.2 r.1:=by
 have t:=hp.size;refine TOk.bind (TOk.mono (λr o=>?_) (zk8 hp c (n-1) 1 (yh _)));obtain⟨d,u,s,q⟩:=o;have f:Up kf p r:=Up.steps (a:=1) r (λi j h1 h2=>by
  have:i=j:=by lia
  subst this;exact yD _) λi h1 h2 _=>s i h1 h2
 by_cases l:r=n
 ·rw[if_pos (by rw[l];exact beq_self_eq_true n)];exact⟨hp,d,by show r<=n;lia,f⟩
 ·rw[if_neg (λz=>l (beq_iff_eq.mp z))];have k:=q ⋯;split
  ·rename_i h1;refine⟨hp.lt c _,hp.lt c _,?_⟩;by_cases h:KP kf p 0<KP kf p (r-1)
   ·rw[show decide (kf (p.getD 0 0)<kf (p.getD (r-1) 0))=true from decide_eq_true h];dsimp only;rw[if_pos rfl];exact⟨hp,d,by show r<=n;lia,f⟩
   ·rw[show decide (kf (p.getD 0 0)<kf (p.getD (r-1) 0))=false from decide_eq_false h];dsimp only;rw[if_neg yn];have b:∀i,i<r->KP kf p i=KP kf p (r-1):=λi hi=>by
     have a1:=f 0 i ⋯ hi;have a2:=f i (r-1) ⋯ ⋯;have v:=yaU.mp h;lia
    have e:∀i,KP kf (kas_rev p 0 r) i=KP kf p i:=λi=>by
     rw[zhs ⋯];split
     ·rw[b _ ⋯,b i ⋯]
     ·rfl
    refine zf9 c (zdb hp) d ⋯ (Down.congr (p:=p) (λi j h1 h2=>?_) e);by_cases m:j=r
    ·subst m;by_cases hi:i=j
     ·subst hi;exact yD _
     ·rw[b i ⋯];lia
    ·rw[b i ⋯,b j ⋯];exact yD _
  ·have g:r=1:=by lia
   subst g;refine zf9 c hp d ⋯ λi j h1 h2=>?_;by_cases hi:i=j
   ·subst hi;exact yD _
   ·have e1:i=0:=by lia
    have e2:j=1:=by lia
    subst e1;subst e2;exact yak k
theorem zgM(c:0<n){p:Array Nat}{k:Nat}(hp:PermR n p)(d:Up kf p k):∀(f l r:Nat),l<=r->r<=k->r-l<=f->(∀i,i<l->KP kf p i<=KP kf p k)->(∀i,r<=i->i<k->KP kf p k<KP kf p i)->TOk n kf (kas_place p k f l r) λm=>m<=k/\(∀i,i<m->KP kf p i<=KP kf p k)/\∀i,m<=i->i<k->KP kf p k<KP kf p i
 | 0,l,r,h1,h2,h3,h4,h5=>by
  have:l=r:=by lia
  subst this;exact⟨h2,h4,h5⟩
 | f+1,l,r,h1,h2,h3,h4,h5=>by
  unfold kas_place;split
  ·have:l=r:=by lia
   subst this;exact⟨h2,h4,h5⟩
  ·rename_i e;refine⟨hp.lt c _,hp.lt c _,?_⟩;by_cases h:KP kf p k<KP kf p ((l+r)/2)
   ·rw[show decide (kf (p.getD k 0)<kf (p.getD ((l+r)/2) 0))=true from decide_eq_true h];dsimp only;rw[if_pos rfl];exact zgM c hp d f l ((l+r)/2) ⋯ ⋯ ⋯ h4 λi a b=>Int.lt_of_lt_of_le h (d _ _ a b)
   ·rw[show decide (kf (p.getD k 0)<kf (p.getD ((l+r)/2) 0))=false from decide_eq_false h];dsimp only;rw[if_neg yn];exact zgM c hp d f ((l+r)/2+1) r ⋯ ⋯ ⋯ (λi a=>yaR (d i ((l+r)/2) ⋯ ⋯) (yaU.mp h)) h5
theorem zoJ(b:0<n):∀(f:Nat) (p:Array Nat) (k:Nat),PermR n p->k+f=n->Up kf p k->TOk n kf (kas_bin f p k) λr=>PermR n r/\Up kf r n
 | 0,p,k,hp,hk,hu=>by
  have:k=n:=by lia
  subst this;exact⟨hp,hu⟩
 | f+1,p,k,hp,hk,hu=>by
  refine TOk.bind (TOk.mono (λl e=>?_) (zgM b hp hu k 0 k ⋯ (yh _) ⋯ (λi h=>by lia) λi h1 h2=>by lia));obtain⟨o,d,c⟩:=e;have a:k<p.size:=by rw[hp.size];lia
  refine zoJ b f _ (k+1) (hp.of (bubble_perm _ _ _)) ⋯ λi j g m=>?_;rw[zjg a ⋯,zjg a ⋯,show k-(k-l)=l by lia]
  repeat' split
  all_goals first
   | (exfalso;lia)
   | exact yD _
   | exact d _ ⋯
   | exact yak (c _ ⋯ ⋯)
   | exact hu _ _ ⋯ ⋯
def zsp(c:0<n):TOk n kf (kas_sort n) λr=>PermR n r/\Up kf r n:=by
 refine TOk.bind (TOk.mono (λr d=>?_) (zqg c (p:=List.toArray (List.range n)) (by unfold PermR;rw[List.toList_toArray])));obtain⟨b,e,f,a⟩:=d;split
 ·exact zoJ c _ _ _ b ⋯ (by rw[show max r.1 1=r.1 by lia];exact a)
 ·have:r.1=n:=by lia
  rw[this]at a;exact⟨b,a⟩
end
end Internal
set_option maxHeartbeats 4000000
namespace Internal
variable {C T a b dx l p:Addr}{E:XK}{H H' H1 H2:Hp}{K:Fg}{N ps:List Str}{Q:VK}{X:Cx}{as:List Addr}{e:Expr}{f:Nat->Int}{fd:FuncData}{h:Heap}{i j k n:Nat}{ns:List Int}{o:HO}{qual x:Str}{s:Shared}{sp:Sp}{st:Stmt}{tl:TE}{v y:V}{vs xs:List V}{σ:St}
open PySem PySem.W PySem.Calls PyProof.Rows
section
variable {prog:Program}{w:World}{A:Around}{E:Value->Shared->Prop}
theorem zk0{vs:List Value}{J:List Value->Shared->Prop}{body:Value->PUnit->Sem (ForInStep PUnit)}
  (hb:∀x ks (s:Shared),vs[ks.length]?=some x->J ks s->wpAny (model prog w) A (body x ⟨⟩) (λr s'=>r=.yield ⟨⟩/\∃k,J (ks++[k]) s') E s) :
  ∀(r ks:List Value) (s:Shared),vs.drop ks.length=r->ks.length<=vs.length->J ks s->wpAny (model prog w) A (forIn r PUnit.unit body) (λ_ s'=>∃ks,ks.length=vs.length/\J ks s') E s
 | [],ks,s,hr,hl,h=>by
  rw[List.forIn_nil]
  have:vs.length<=ks.length:=List.drop_eq_nil_iff.mp hr
  exact wpAny_pure ⟨ks,⋯,h⟩
 | x :: r,ks,s,hr,hl,h=>by
  have a:vs[ks.length]?=some x:=by
   have:=congrArg (λl:List Value=>l[0]?) hr
   simpa[List.getElem?_drop]using this
  have d:ks.length<vs.length:=(yk.mp a).1;rw[ybC];refine wpAny_bind (wpAny_mono (hb x ks s a h) (λq s' b=>?_) λ_ _ x=>x);obtain⟨rfl,k,c⟩:=b;show wpAny (model prog w) A (forIn r PUnit.unit body) _ E s';refine zk0 hb r (ks++[k]) s' ?_ (by rw[yf,yW];lia) c;rw[yf,yW]
  have:=congrArg List.tail hr
  rwa [List.tail_drop]at this
def zkP{s:Shared}{a d:Addr}{st:SortSt}{e e1:Nat}{ks out:List Value}{P:PySem.Fin->Shared->Prop}(g:(arrOf st).map (·.2)=List.toArray out)(u:out.length<64)(r:ks.length<64)(t:failedOf st=none)
  (hk:s.heap.get? d=some (seqObj "list" (List.toArray ks) e)) (ha:s.heap.get? a=some (seqObj "list" #[] e1)) (hne:d≠a)
  (h:∀h',(∀b o,b≠d->b≠a->s.heap.get? b=some o->h'.get? b=some o)->(∃c,h'.get? a=some (seqObj "list" (List.toArray out) c))->(∃o,h'.get? d=some o)->P (.done (.ret .none)) { s with heap:=h' }) :
  wpAny (model prog w) A (ksk_tail a false e1 (.ref d) st) P E s:=by
 have n:=Heap.SameBut.update s.heap d (Obj.mapSeq λ_=>(#[]:Array Value));obtain⟨m,j⟩:∃m,(s.heap.update d (Obj.mapSeq λ_=>(#[]:Array Value))).get? d=some (seqObj "list" #[] m):=⟨_,get?_update_seq hk λ_=>#[]⟩
 have f:(s.heap.update d (Obj.mapSeq λ_=>(#[]:Array Value))).get? a=some (seqObj "list" #[] e1):=(n.2 a hne.symm).trans ha;have p:=Heap.SameBut.update (s.heap.update d (Obj.mapSeq λ_=>(#[]:Array Value))) a (Obj.mapSeq λ_=>List.toArray out);obtain⟨k,i⟩:∃k,((s.heap.update d (Obj.mapSeq λ_=>(#[]:Array Value))).update a (Obj.mapSeq λ_=>List.toArray out)).get? a=some (seqObj "list" (List.toArray out) k):=⟨_,get?_update_seq f λ_=>List.toArray out⟩
 have l:(List.toArray out).size=out.length:=by rw[yl]
 unfold ksk_tail
 try dsimp only
 rw[g,if_neg (by simp)];refine wpAny_bind (listUpdate_at hk rfl ?_ (by rw[yl,sizeLine_eq];lia) (yI _));refine wpAny_bind (wpAny_letGo ?_);refine wpAny_bind (seqEpoch_at f rfl ?_);refine wpAny_bind (listUpdate_at f rfl ?_ (yI _) (yc (ybx l) (by rw[sizeLine_eq];lia)));rw[t];simp only[bne_self_eq_false,yaC,if_false];refine wpAny_pure (h _ (λb o h1 h2 q=>(p.2 b h2).trans ((n.2 b h1).trans q)) ⟨k,i⟩ ⟨_,(p.2 d hne).trans j⟩)
def zr0{s:Shared}{a r:Addr}{e e1:Nat}{vs ks fs:List Value}{kf:Nat->Int}{P:PySem.Fin->Shared->Prop}(F:ks.length=vs.length)(h1:1<=vs.length)(g:vs.length<64)
  (hk:s.heap.get? r=some (seqObj "list" (List.toArray ks) e)) (ha:s.heap.get? a=some (seqObj "list" #[] e1)) (hne:r≠a)
  (ht:KatTups s.heap ks fs) (hfs:∀v∈fs,∃i t,v=Value.int i t) (hfl:fs.length=ks.length)
  (hask:∀i j (C:Bool->Shared->Prop),i<vs.length->j<vs.length->C (decide (kf i<kf j)) s->wpAny (model prog w) A (keyLt' (tuples' true) (ks.getD i Value.none) (ks.getD j Value.none)) C (λ_ _=>False) s)
  (h:∀(p:List Nat) h',p.Perm (List.range vs.length)->(∀i j,i<=j->j<vs.length->kf (p.getD i 0)<=kf (p.getD j 0))->(∀b o,b≠r->b≠a->s.heap.get? b=some o->h'.get? b=some o) ->
   (∃c,h'.get? a=some (seqObj "list" (List.toArray (p.map λi=>vs.getD i Value.none)) c))->(∃o,h'.get? r=some o)->P (.done (.ret .none)) { s with heap:=h' }) :
  wpAny (model prog w) A (ksk_end a false vs.toArray e1 (.ref r) (List.toArray ks)) P E s:=by
 unfold ksk_end
 try dsimp only
 rw[if_neg (by simp)];by_cases h2:2<=vs.length
 ·have d:¬vs.toArray.size<2:=by rw[yl];lia
  rw[if_neg d,if_neg d];refine wpAny_bind (kat_kind (T:=.type "int") ht ⋯ (λv K=>?_) (by rfl) ?_)
  ·obtain⟨i,t,rfl⟩:=hfs v K;exact .now
  rw[show(Value.type "int" != Value.type "tuple")=true from by rfl];have l:(kas_sort vs.length).kasWp (kas_ask prog w A (tuples' true) ks) (λp s'=>s'=s/\PermR vs.length p/\Up kf p vs.length) s:=
   TOk.wp (n:=vs.length) (kf:=kf) (λi j C hi m L=>hask i j C hi m L) (TOk.mono (λp hp=>⟨rfl,hp.1,hp.2⟩) (zsp ⋯))
  refine wpAny_bind (wpAny_mono (kat_run (Q:=λf s'=>∃p:Array Nat,p.size=vs.length/\arrOf f=p.map (kas_item ((List.toArray ks).zip vs.toArray))/\failedOf f=none/\s'=s/\PermR vs.length p/\Up kf p vs.length)
   F h2 g (λG f s' a1 a2 J I=>⟨G,a1,a2,J,I⟩) l) ?_ λ_ _ x=>x)
  rintro⟨⟨⟩,f⟩ s' ⟨p,hp,z,H,rfl,y,D⟩
  try dsimp only
  refine zkP (kat_snds F z) (by rw[yb,yaO,hp];exact g) ⋯ H hk ha hne λh' k1 k2 k3=>h p.toList h' y (λi j q m=>?_) k1 k2 k3
  have:=D i j q m
  unfold KP at this
  simpa[yaK,yi]using this
 ·have d:vs.toArray.size<2:=by rw[yl];lia
  rw[if_pos d,if_pos d];have B:vs.length=1:=by lia
  obtain⟨v,rfl⟩:∃v,vs=[v]:=List.length_eq_one_iff.mp B;obtain⟨k,rfl⟩:∃k,ks=[k]:=List.length_eq_one_iff.mp (by rw[F];rfl);refine wpAny_bind (wpAny_pure ?_);refine wpAny_bind (wpAny_pure ?_);refine zkP (ks:=[k]) (out:=[v]) (by simp only[yaC,if_false];show Array.map (λx:Value × Value=>x.2) (#[k].zip #[v])=#[v];simp) (by simp) (by simp) rfl hk ha hne λh' k1 k2 k3=>h [0] h' (by rw[show List.range [v].length=[0]from rfl]) (λi j q m=>?_) k1 k2 k3;have u:j=0:=by simp at m;lia
  subst u;obtain rfl:i=0:=by lia
  exact yD _
def zqP{s:Shared}{a:Addr}{f:Value}{vs:List Value}{S:Nat}{kf:Nat->Int}{P:PySem.Fin->Shared->Prop}(J:Addr->Nat->List Value->Shared->Prop)
  (ho:s.heap.get? a=some (seqObj "list" vs.toArray S)) (h1:1<=vs.length) (h64:vs.length<64)
  (start:∀h' kS e1,(∀b o,b≠a->s.heap.get? b=some o->h'.get? b=some o)->h'.get? a=some (seqObj "list" #[] e1)->s.heap.objs.size<kS->h'.get? kS=some (seqObj "list" #[] 0)->J kS e1 [] { s with heap:=h' })
  (key:∀kS e1 ks x (s':Shared),vs[ks.length]?=some x->J kS e1 ks s'->wpAny (model prog w) A (call f [x]) (λk d=>(∃e,d.heap.get? kS=some (seqObj "list" (List.toArray ks) e)) /\
   ∀h' c,Heap.SameBut kS d.heap h'->h'.get? kS=some (seqObj "list" (List.toArray (ks++[k])) c)->J kS e1 (ks++[k]) { d with heap:=h' }) (λ_ _=>False) s')
  (fin:∀kS e1 ks (s':Shared),ks.length=vs.length->J kS e1 ks s'->(∃e,s'.heap.get? kS=some (seqObj "list" (List.toArray ks) e))/\s'.heap.get? a=some (seqObj "list" #[] e1)/\kS≠a /\
   (∃fs,KatTups s'.heap ks fs/\(∀v∈fs,∃i t,v=Value.int i t)/\fs.length=ks.length) /\
   (∀i j (C:Bool->Shared->Prop),i<vs.length->j<vs.length->C (decide (kf i<kf j)) s'->wpAny (model prog w) A (keyLt' (tuples' true) (ks.getD i Value.none) (ks.getD j Value.none)) C (λ_ _=>False) s') /\
   ∀(p:List Nat) h',p.Perm (List.range vs.length)->(∀i j,i<=j->j<vs.length->kf (p.getD i 0)<=kf (p.getD j 0))->(∀b o,b≠kS->b≠a->s'.heap.get? b=some o->h'.get? b=some o) ->
   (∃c,h'.get? a=some (seqObj "list" (List.toArray (p.map λi=>vs.getD i Value.none)) c))->(∃o,h'.get? kS=some o)->P (.done (.ret .none)) { s' with heap:=h' }) :
  wpAny (model prog w) A (ksk_tree a f false) P E s:=by
 have T:a<s.heap.objs.size:=Heap.lt_size ho;have N:=Heap.SameBut.update s.heap a (Obj.mapSeq λ_=>(#[]:Array Value));obtain⟨e1,l⟩:∃e1,(s.heap.update a (Obj.mapSeq λ_=>(#[]:Array Value))).get? a=some (seqObj "list" #[] e1):=⟨_,get?_update_seq ho λ_=>#[]⟩
 have z:((s.heap.update a (Obj.mapSeq λ_=>(#[]:Array Value))).push (seqObj "tuple" vs.toArray 0)).objs.size=s.heap.objs.size+1:=by rw[size_push',Heap.size_update]
 unfold ksk_tree;refine wpAny_bind (listItems_at ho rfl ?_);refine wpAny_bind (listUpdate_at ho rfl ?_ (by rw[yl,sizeLine_eq];lia) (yI _));refine wpAny_bind (seqEpoch_at l rfl ?_);refine wpAny_bind (wpAny_newTuple ?_ (by show vs.length<=_;rw[sizeLine_eq];lia));refine wpAny_bind (wpAny_newList ?_ (yI _));refine wpAny_holding ?_;have G:=start (((s.heap.update a (Obj.mapSeq λ_=>(#[]:Array Value))).push (seqObj "tuple" vs.toArray 0)).push (seqObj "list" #[] 0)) ((s.heap.update a (Obj.mapSeq λ_=>(#[]:Array Value))).push (seqObj "tuple" vs.toArray 0)).objs.size e1
  (λb o Q q=>Heap.get?_push_of_some _ (Heap.get?_push_of_some _ ((N.2 b Q).trans q))) (Heap.get?_push_of_some _ (Heap.get?_push_of_some _ l)) (by rw[z];lia) (Heap.get?_push_size _ rfl)
 generalize ((s.heap.update a (Obj.mapSeq λ_=>(#[]:Array Value))).push (seqObj "tuple" vs.toArray 0)).objs.size=kS at G ⊢;generalize (((s.heap.update a (Obj.mapSeq λ_=>(#[]:Array Value))).push (seqObj "tuple" vs.toArray 0)).push (seqObj "list" #[] 0))=hh at G ⊢;show wpAny (model prog w) A (ksk_rest a f false vs.toArray e1 (.ref kS)) P E { s with heap:=hh };unfold ksk_rest;refine wpAny_bind (wpAny_rule ?_)
 first
  | rw[List.forIn_toArray]
  | (rw[<- Array.forIn_toList];simp only[List.toList_toArray])
  | rw[<- Array.forIn_toList]
 refine wpAny_bind (wpAny_mono (zk0 (J:=J kS e1) (λx ks s' H u=>?_) vs [] _ rfl (yI _) G) (λ_ s' hd=>?_) λ_ _ x=>x)
 ·have K:ks.length<vs.length:=(yk.mp H).1;refine wpAny_bind (wpAny_attempt (wpAny_mono (key kS e1 ks x s' H u) (λk d n=>?_) λ_ _ R=>R.elim));obtain⟨⟨e,m⟩,c⟩:=n;have M:=Heap.SameBut.update d.heap kS (Obj.mapSeq (·.push k));have O:(List.toArray ks).push k=List.toArray (ks++[k]):=by simp
  obtain⟨D,B⟩:∃D,(d.heap.update kS (Obj.mapSeq (·.push k))).get? kS=some (seqObj "list" (List.toArray (ks++[k])) D):=⟨_,by rw[<- O];exact get?_update_seq m (·.push k)⟩
  try dsimp only
  refine wpAny_bind (listUpdate_at m rfl ?_ (by rw[yl,sizeLine_eq];lia) (yc (ybx (Array.size_push ..)) (by rw[yl,sizeLine_eq];lia)));exact wpAny_pure ⟨rfl,k,c _ D M B⟩
 ·obtain⟨ks,I,u⟩:=hd;obtain⟨⟨e,n⟩,F,y,⟨fs,L,r,hfl⟩,g,h⟩:=fin kS e1 ks s' I u
  try dsimp only
  refine wpAny_bind (listItems_at n rfl ?_);exact zr0 I h1 h64 n F y L r hfl g h
def zjL{r:Addr}{t u v:Tok}{Q:List Value->Shared->Prop}(m:A.handled=none)(l:s.heap.get? r=some { cls:=.type "range",data:=.fields #[.int 0 t,.int (n:Int) u,.int 1 v] })(hn:n<=100000)
  (h:∀vs h' tk,vs.length=n->(∀(i:Nat) (x:Value),vs[i]?=some x->∃t,x=Value.int (i:Int) t)->(∀b o,s.heap.get? b=some o->h'.get? b=some o)->s.heap.objs.size<h'.objs.size->Q vs { s with heap:=h',toks:=tk }) :
  wpAny (model prog w) A (collect (.ref r)) Q E s:=by
 unfold collect;refine wpAny_bind (wpAny_runValue (codeAny_builtin entry_proto_collect' ?_));show wpAny _ _ (do again (.builtin "list.__iadd__" ⟨[<- newList [],.ref r],[]⟩)) _ _ s;refine wpAny_bind (wpAny_newList (wpAny_pure ⟨Code.quiet_builtin _ (by decide +kernel),codeAny_builtin entry_list_iadd' ?_⟩));show wpAny _ _ (Builtin.List.listExtendWith (.ref s.heap.objs.size) (.ref r) (.ref s.heap.objs.size)) _ _ { s with heap:=s.heap.push (seqObj "list" #[] 0) };refine wpAny_extend_range (prog:=prog) (w:=w) (A:=A) (R:=λr s'=>match r with
   | .ok (.ret v)=>wpAny (model prog w) A (match v with
    | .ref a=>(do match (<- load a).data with
     | .seq xs _=>pure xs.toList
     | _=>unsupported "internal:collect")
    | _=>unsupported "internal:collect") Q E s'
   | .ok _=>False
   | .error e=>E e s') (s:={ s with heap:=s.heap.push (seqObj "list" #[] 0) }) m (Heap.get?_push_of_some _ l) (a:=0) (b:=(n:Int)) (c:=1) (n:=n) (small_one ⋯ ⋯ ⋯ ⋯) (by rw[rangeSize_one];split<;>lia) ⋯ s.heap.objs.size (.ref s.heap.objs.size) _ (Heap.get?_push_size _ rfl) λh' tk g p j f d=>?_
 show wpAny (model prog w) A (do
   let o <- load s.heap.objs.size
   match o.data with
   | .seq xs _=>pure xs.toList
   | _=>unsupported "internal:collect") Q E { s with heap:=h',toks:=tk }
 refine wpAny_bind (wpAny_load f ?_);refine wpAny_pure (h g.toList h' tk (by simpa using d.1) (λi x k=>?_) (λb o q=>j b o (yo (Heap.lt_size q)) (Heap.get?_push_of_some _ q)) (Heap.lt_size f));obtain⟨t',e⟩:=d.2 i x (by simpa using k);exact⟨t',by rw[e];congr 1;lia⟩
def zpL{s:Shared}{r f:Addr}{n:Nat}{t u v:Tok}{kf:Nat->Int}{Q:Value->Shared->Prop}(J:Addr->Addr->Nat->List Value->Shared->Prop)(R:A.handled=none)
  (hr:s.heap.get? r=some { cls:=.type "range",data:=.fields #[.int 0 t,.int (n:Int) u,.int 1 v] }) (h1:1<=n) (h64:n<64)
  (start:∀h' tk D a e1,(∀b o,s.heap.get? b=some o->h'.get? b=some o)->s.heap.objs.size<D->(D:Nat)<(a:Nat)->h'.get? D=some (seqObj "list" #[] e1)->h'.get? a=some (seqObj "list" #[] 0)->J D a e1 [] { s with heap:=h',toks:=tk })
  (key:∀D a e1 ks tk (s':Shared),ks.length<n->J D a e1 ks s'->wpAny (model prog w) A.in1.in1 (call (.ref f) [.int (ks.length:Int) tk]) (λk h=>(∃e,h.heap.get? a=some (seqObj "list" (List.toArray ks) e)) /\
   ∀h' c,Heap.SameBut a h.heap h'->h'.get? a=some (seqObj "list" (List.toArray (ks++[k])) c)->J D a e1 (ks++[k]) { h with heap:=h' }) (λ_ _=>False) s')
  (fin:∀D a e1 ks (s':Shared),ks.length=n->J D a e1 ks s'->(∃e,s'.heap.get? a=some (seqObj "list" (List.toArray ks) e))/\s'.heap.get? D=some (seqObj "list" #[] e1)/\a≠D /\
   (∃fs,KatTups s'.heap ks fs/\(∀v∈fs,∃i t,v=Value.int i t)/\fs.length=ks.length) /\
   (∀i j (C:Bool->Shared->Prop),i<n->j<n->C (decide (kf i<kf j)) s'->wpAny (model prog w) A.in1.in1 (keyLt' (tuples' true) (ks.getD i Value.none) (ks.getD j Value.none)) C (λ_ _=>False) s') /\
   ∀(p:List Nat) (out:List Value) h' c,p.Perm (List.range n)->(∀i j,i<=j->j<n->kf (p.getD i 0)<=kf (p.getD j 0))->(∀b o,b≠a->b≠D->s'.heap.get? b=some o->h'.get? b=some o) ->
   Vals (p.map λi:Nat=>V.int (i:Int)) out->h'.get? D=some (seqObj "list" (List.toArray out) c)->(∃o,h'.get? a=some o)->Q (.ref D) { s' with heap:=h' }) :
  wpAny (model prog w) A (call (.builtin "sorted") [.ref r] [(Str.ofString "key",.ref f)]) Q E s:=by
 refine call_function_entry_kw kind_sorted plain_sorted entry_sorted (ksk_s1 _ _) ?_;unfold Builtin.«sorted»;refine wpAny_bind (m:=checkCount "sorted" 1 1 _) (wpAny_pure ?_);refine wpAny_bind (zjL (A:=A.in1) R hr ⋯ λvs d B l F H g=>?_);refine wpAny_bind (wpAny_newList ?_ (by rw[l,sizeLine_eq];lia));have y:(d.push (seqObj "list" vs.toArray 0)).get? d.objs.size=some (seqObj "list" vs.toArray 0):=Heap.get?_push_size _ rfl;show wpAny _ _ _ _ _ { s with heap:=d.push (seqObj "list" vs.toArray 0),toks:=B };refine wpAny_bind (wpAny_holding (wpAny_call_entry_kw slot_list_sort ⟨_,y,rfl⟩ entry_list_sort ?body (ksk_l1 _ _)))
 case body=>
  show wpAny (model prog w) A.in1.in1 (Builtin.«list.sort» ⟨[.ref d.objs.size],[(Str.ofString "key",.ref f)]⟩) _ _ _;rw[ksk_t1];refine zqP (kf:=kf) (J d.objs.size) y ⋯ ⋯ (λh' a e1 k1 k2 k3 P=>?_) (λa e1 ks x s' z G=>?_) λa e1 ks s' X G=>?_
  ·exact start h' B _ a e1 (λb o q=>k1 b o (yo (ybe (Heap.lt_size q) g)) (Heap.get?_push_of_some _ (H b o q))) g (by rw[size_push']at k3;lia) k2 P
  ·obtain⟨tx,rfl⟩:=F _ _ z;exact key _ a e1 ks tx s' (by have:=(yk.mp z).1;lia) G
  ·obtain⟨W,L,S,M,O,T⟩:=fin _ a e1 ks s' ⋯ G;refine⟨W,L,S,M,by rw[l];exact O,λp h' hp K k1 k2 k3=>?_⟩;obtain⟨c,U⟩:=k2;rw[l]at hp K;refine⟨_,rfl,wpAny_pure ⟨_,rfl,T p _ h' c hp K k1 ?_ U k3⟩⟩;have go:∀q:List Nat,(∀i∈q,i<n)->Vals (q.map λi:Nat=>V.int (i:Int)) (q.map λi=>vs.getD i Value.none):=by
    intro q
    induction q with
    | nil=>intro _;exact .nil
    | cons i q ih=>
     intro I;rw[yH,yH];have hi:=I i yai;obtain⟨x,z⟩:=zN (show i<vs.length by lia);obtain⟨tx,ex⟩:=F i x z;refine .cons ?_ (ih λj N=>I j (yJ _ N));rw[yi,z];exact⟨tx,ex⟩
   exact go p λi hi=>yZ.mp (hp.mem_iff.mp hi)
end
open PySem PySem.W PySem.Spec PySem.Calls PyProof.Rows
noncomputable def HO.nt:HO->Bool
 | .tbl _=>false
 | _=>true
set_option genInjectivity false in
set_option genSizeOf false in
structure SameT(H H':Hp):Prop where
 keep:∀b o,H b=some o->o.nt=true->H' b=some o
 tb:∀b ps,H b=some (.tbl ps)->∃ps',H' b=some (.tbl ps')
def SameT.at(e:SameT H H')(h:H a=some o)(n:autoParam (o.nt=true) Internal.aut2._auto_1):H' a=some o:=e.keep a o h n
def Same.t(e:Same H H'):SameT H H':=⟨λb o h _=>e b o h,λb ps h=>⟨ps,e b _ h⟩⟩
theorem SameT.refl(H:Hp):SameT H H:=(Same.refl H).t
def SameT.trans(a:SameT H H1)(b:SameT H1 H2):SameT H H2:=
 ⟨λc o h n=>b.keep c o (a.keep c o h n) n,λc ps h=>by obtain⟨d,h'⟩:=a.tb c ps h;exact b.tb c d h'⟩
theorem SameT.none{H H':Hp}{l:Addr}(h:H' l=none)(g:SameT H H'):H l=none:=by
 cases q:H l with
 | none=>rfl
 | some o=>
  cases hn:o.nt with
  | true=>rw[g.keep l o q hn]at h;cases h
  | false=>
   cases o with
   | tbl ps=>obtain⟨a,e⟩:=g.tb l ps q;rw[e]at h;cases h
   | _=>cases hn
noncomputable def zfI (c:Addr) (qual:Str):HO:=.ext λh=>h.CodeRec (.ref c) qual
noncomputable def zgR (f:Addr) (ob:Value->Obj):HO:=.ext λh=>∃ctv,h.get? f=some (ob ctv)
section
variable {P:Program}{w:World}{H:Hp}{h:Heap}
def zpx{c:Addr}(x:h.CodeRec (.ref c) qual):ObjOk P w H h c (zfI c qual):=by
 refine⟨x,?_,λh1 h2 y k=>?_⟩
 ·obtain⟨d,b,vs,t,e,a,_⟩:=x;cases e;exact⟨b,a⟩
 ·obtain⟨d,b,vs,t,e,a,r⟩:=y;cases e;exact⟨c,b,vs,t,rfl,k _ a,r⟩
def zlW{f:Addr}{ob:Value->Obj}{ctv:Value}(x:h.get? f=some (ob ctv)):ObjOk P w H h f (zgR f ob):=
 ⟨⟨ctv,x⟩,⟨_,x⟩,λh1 h2 y k=>by obtain⟨c,e⟩:=y;exact⟨c,k _ e⟩⟩
end
noncomputable def Tb (H:Hp) (T:Addr) (pos:Pos) (qual:Str):Prop:=∃ps:Array Value,H T=some (.tbl ps)/\TriplesOk ps.toList/\(codeAmong pos ps.toList=none\/∃c,codeAmong pos ps.toList=some (.ref c)/\H c=some (zfI c qual))
def Tb.same{pos:Pos}(h:Tb H T pos qual)(e:Same H H'):Tb H' T pos qual:=by
 obtain⟨ps,h1,h2,a⟩:=h;refine⟨ps,e _ _ h1,h2,?_⟩;rcases a with a | ⟨c,a,b⟩
 ·exact .inl a
 ·exact .inr ⟨c,a,e _ _ b⟩
def Tb.but{pos:Pos}(h:Tb H T pos qual)(e:LBut l H H'):Tb H' T pos qual:=by
 obtain⟨ps,h1,h2,a⟩:=h;obtain⟨e1,xs,e2⟩:=e;refine⟨ps,by rw[e1 _ (zag h1 e2 (by intro z;cases z))];exact h1,h2,?_⟩;rcases a with a | ⟨c,a,b⟩
 ·exact .inl a
 ·exact .inr ⟨c,a,by rw[e1 _ (zag b e2 (by intro z;cases z))];exact b⟩
section
variable {X:Cx}{params:Arguments}{body:Expr}{lsc:Scope}{lpos:Pos}{c T:Addr}{clos:List (Str × Addr)}
abbrev zcL(X:Cx)(params:Arguments)(body:Expr)(lsc:Scope)(clos:List (Str × Addr))(c':Addr)(ctv:Value):Obj:=kla_obj "<lambda>" (X.env.qual ++ "<lambda>") params body lsc clos ((X.mg "__name__").getD .none) c' ctv
noncomputable def zvg (X:Cx) (params:Arguments) (body:Expr) (lsc:Scope) (clos:List (Str × Addr)) (T:Addr) (lpos:Pos):TE:=λ_ H Q=>Tb H T lpos (X.env.qual ++ "<lambda>") /\
 ∀f c' H',H f=none->SameT H H'->Tb H' T lpos (X.env.qual ++ "<lambda>")->H' f=some (zgR f (zcL X params body lsc clos c'))->H' c'=some (zfI c' (X.env.qual ++ "<lambda>"))->Q (.ref f) H'
def ztB(x:defaultsOf params X.env=([],[]))(y:closureFor lsc X.env=pure clos)(j:X.env.code=.ref c)(C:CodeHd X.base c T)(B:X.base.BuiltinsAt X.mg T):PE X (.Lambda params body lsc lpos) (zvg X params body lsc clos T lpos):=by
 intro pins s σ H Q I h;obtain⟨⟨ps,p,v,hc⟩,k⟩:=h;refine kla_eval x ?_;have l:s.heap.get? T=some (tabObj ps):=I.hok T _ p;have V:s.heap.Ns mainGlobals X.mg:=I.mod.glob.keeps I.bk;have Cs:=C.keeps I.bk;have Bs:s.heap.BuiltinsAt X.mg T:=by
  obtain⟨bm,o,b1,b2,b3,b4,b5,b6⟩:=B;exact⟨bm,o,b1,b2,b3,b4,I.bk _ _ b5,b6⟩
 have P:mainGlobals≠T:=λz=>by
  obtain⟨o,es,ep,e,hd,_⟩:=V;rw[z,l]at e;cases e;cases hd
 rcases hc with hn | ⟨a,Z,E⟩
 ·refine kla_makeFunction (mg:=X.mg) y I.ok.glob V j Cs l v hn P Bs λa ctv h' tk hx f i A K=>?_;have G:T<s.heap.objs.size:=Heap.lt_size l;have S:T≠a:=yo (yu G f);have R:T≠h'.objs.size:=yo (yu G (yc f (yaj i)));have W:a≠h'.objs.size:=yo i;have old:∀b u,H b=some u->b≠a/\b≠h'.objs.size:=λb u e=>by
   have:=I.hok.lt e
   exact⟨yo (yu this f),yo (yu this (yc f (yaj i)))⟩
  have m:∀b (u:Obj),s.heap.get? b=some u->b≠a/\b≠h'.objs.size:=λb u e=>by
   have:=Heap.lt_size e
   exact⟨yo (yu this f),yo (yu this (yc f (yaj i)))⟩
  obtain⟨H',N⟩:∃H',H'=upd (upd (upd H T (.tbl (ps++#[rawInt lpos.line,rawInt lpos.col,.ref a]))) a (zfI a (X.env.qual ++ "<lambda>"))) h'.objs.size (zgR h'.objs.size (zcL X params body lsc clos a)):=⟨_,rfl⟩
  have Y:H' h'.objs.size=some (zgR h'.objs.size (zcL X params body lsc clos a)):=by rw[N];exact zF
  have O:H' a=some (zfI a (X.env.qual ++ "<lambda>")):=by rw[N,zG W];exact zF
  have M:H' T=some (.tbl (ps++#[rawInt lpos.line,rawInt lpos.col,.ref a])):=by rw[N,zG R,zG S];exact zF
  have D:∀b,b≠T->b≠a->b≠h'.objs.size->H' b=H b:=λb h1 h2 F=>by rw[N,zG F,zG h2,zG h1]
  have kp:∀b u,b≠T->s.heap.get? b=some u->(h'.push (zcL X params body lsc clos a ctv)).get? b=some u:=λb u g e=>Heap.get?_push_of_some _ (hx b u g e);have st:SameT H H':=⟨λb o e n=>by
    have g:b≠T:=λz=>by rw[z,p]at e;cases e;cases n
    rw[D b g (old b o e).1 (old b o e).2];exact e,λb qs e=>by
    by_cases g:b=T
    ·rw[g];exact⟨_,M⟩
    ·rw[D b g (old b _ e).1 (old b _ e).2];exact⟨_,e⟩⟩
  have un:Un X.fs [] H H' s.heap (h'.push (zcL X params body lsc clos a ctv)):=by
   have U:∀b,H b=none->b≠T:=λb n z=>by rw[z,p]at n;cases n
   have a0:∀b u,H b=some u->u.nt=true->b≠T:=λb u e n z=>by rw[z,p]at e;cases e;cases n
   refine⟨λb o e n _ _=>kp b o (U b n) e,λb o e n _ _=>⟨o.slots,kp b o (U b n) e⟩,λb o e n _=>?_,λb o e _=>?_,λb xs e=>?_,λb o u e=>?_,λb qs e=>?_⟩
   ·rw[D b (U b n) (m b o e).1 (m b o e).2];exact n
   ·by_cases g:b=T
    ·rw[g];exact⟨_,Heap.get?_push_of_some _ K⟩
    ·exact⟨o,kp b o g e⟩
   ·exact st.keep b _ e rfl
   ·exact st.keep b _ e rfl
   ·by_cases g:b=T
    ·subst g;rw[p]at e;cases e;exact⟨_,M⟩
    ·rw[D b g (old b _ e).1 (old b _ e).2];exact⟨#[],by rw[e];simp⟩
  have hok:HOk X.prog X.w H' (h'.push (zcL X params body lsc clos a ctv)):=λb o e=>by
   by_cases h1:b=h'.objs.size
   ·subst h1;rw[Y]at e;cases e;exact zlW (ctv:=ctv) (Heap.get?_push_size _ rfl)
   ·by_cases h2:b=a
    ·subst h2;rw[O]at e;cases e;obtain⟨c2,oc,vs,t,e2,ho,r⟩:=A;cases e2;exact zpx ⟨b,oc,vs,t,rfl,Heap.get?_push_of_some _ ho,r⟩
    ·by_cases F:b=T
     ·subst F;rw[M]at e;cases e;exact(Heap.get?_push_of_some _ K:(h'.push (zcL X params body lsc clos a ctv)).get? b=some _)
     ·rw[D b F h2 h1]at e;refine(I.hok b o e).stay (λd u hd q=>kp d u (λz=>?_) q) (λd q=>?_) λd xs q=>st.keep d _ q rfl
      ·rcases hd with hd | hd
       ·exact F (hd.symm.trans z)
       ·rw[z,p]at hd;cases hd
      ·exact st.keep d _ q rfl
  have J:Inv X pins σ H' { s with heap:=h'.push (zcL X params body lsc clos a ctv),toks:=tk }:=I.un un hok;refine⟨.ref h'.objs.size,H',J,rfl,k _ a H' ?_ st ⟨_,M,?_,.inr ⟨a,?_,O⟩⟩ Y O⟩
  ·exact I.hok.fresh (yc f (yaj i))
  ·rw[Array.toList_append];exact TriplesOk_snoc _ _ _ _ v
  ·rw[Array.toList_append];exact codeAmong_snoc _ v hn
 ·refine kla_makeFunctionHit (mg:=X.mg) y I.ok.glob V j Cs l v Z Bs λctv h' tk hk L=>?_;have fr:H h'.objs.size=none:=I.hok.fresh L;have J:Inv X pins σ (upd H h'.objs.size (zgR h'.objs.size (zcL X params body lsc clos a))) { s with heap:=h'.push (zcL X params body lsc clos a ctv),toks:=tk }:=
   I.laid (λb u q=>Heap.get?_push_of_some _ (hk b u q)) L (zlW (ctv:=ctv) (Heap.get?_push_size _ rfl))
  have sm:=Same.new fr (zgR h'.objs.size (zcL X params body lsc clos a));exact⟨.ref h'.objs.size,_,J,rfl,k _ a _ fr sm.t (Tb.same ⟨ps,p,v,.inr ⟨a,Z,E⟩⟩ sm) zF (sm _ _ E)⟩
end
noncomputable def zj7 (P:Program) (w:World) (K:Fg) (mg:Str->Option Value) (base:Heap) (x y qual:Str) (lsc:Scope) (f b a:Addr) (A:Around) (outer:List Env) (s:Shared) (H:Hp):Cx where
 prog:=P
 w:=w
 K:=K
 mg:=mg
 base:=base
 A:=A.deeper (envX qual lsc s.heap.objs.size f (.ref b) [(y,a)])
 N:=[x,y]
 s₀:=s
 H₀:=H
 env:=envX qual lsc s.heap.objs.size f (.ref b) [(y,a)]
 outer:=outer
 stack:=envX qual lsc s.heap.objs.size f (.ref b) [(y,a)] :: outer
 ex:=[]
 calm:=true
 fn:=λ_=>false
 pn:=[]
 xe:=λ_ _=>False
def zrS{P:Program}{w:World}{K:Fg}{mg:Str->Option Value}{base:Heap}{x y qual:Str}{lsc:Scope}{params:Arguments}{body:Expr}{f B c:Addr}{A:Around}{outer:List Env}{s:Shared}{H:Hp}{Q:VK}{tb:TE}{U ctv u O:Value}{v E:V}
  (hd:A.handled=none) (hdp:A.depth<recursionLimit) (e0:Env0 P w K mg base A outer s H) (ho:s.heap.get? f=some (kla_obj "<lambda>" qual params body lsc [(y,c)] U B ctv)) (hcd:s.heap.CodeRec (.ref B) qual)
  (hsn:lsc.names=[(x,.local),(y,.free)]) (hxy:(y == x)=false) (hk:lsc.kind=.function) (hco:lsc.isCoroutine=false) (hgen:lsc.isGenerator=false)
  (hb:∀u,bindArgs (kla_fn "<lambda>" qual params body lsc [(y,c)] U (.ref B) ctv) ⟨[u],[]⟩=pure [(x,u)])
  (hcc:s.heap.IsCell c (some O)) (hcn:H c=none) (rv:RelV v u) (ry:RelV E O)
  (hbody:PE (zj7 P w K mg base x y qual lsc f B c A outer s H) body tb) (hq:tb [some v,some E] H Q) :
  wpAny (model P w) A (call (.ref f) [u]) (λr s'=>CE outer P w H s Q r s') (λ_ _=>False) s:=by
 have S:s.heap.NoLimit:=e0.mod.nolimit.keeps λb o e=>(e0.bs b o e).1;have C:(x == x)=true:=beq_self_eq_true x;refine wpAny_call (codeAny_mono (R:=λr s'=>∃D,r=.ok (.ret D)/\CE outer P w H s Q D s') ?_ λr s' F=>?_)
 ·refine kla_callFunE hdp ho rfl hco hgen rfl hcd ?_;rw[hb];refine wpAny_pure (wpAny_newFunctionEnv (λz j=>?_) (λz j=>?_) (λW M G=>⟨S.fresh _ G,?_⟩) hk)
  ·rw[hsn]at j;rcases yt.mp j with rfl | j
   ·intro q;cases q
   ·rw[yp.mp j];intro q;cases q
  ·rw[yp.mp j,hsn,yw,C]
  ·show codeAny _ _ (.expr body (envX qual lsc s.heap.objs.size f (.ref B) [(y,c)])) _ _;have k:∀b o,s.heap.get? b=some o->W.get? b=some o:=λb o e=>G.extBut b o (yo (Heap.lt_size e)) (Heap.get?_push_of_some _ e);have L:∀z d,([(y,c)]:List (Str × Addr)).lookup z=some d->z=y/\d=c:=λz d e=>by
    rw[yw]at e;cases j:z == y with
    | true=>rw[j]at e;cases e;exact⟨eq_of_beq j,rfl⟩
    | false=>rw[j]at e;cases e
   have kx:lsc.names.lookup x=some .local:=by rw[hsn,yw,C]
   have Y:lsc.names.lookup y=some .free:=by rw[hsn,yw,hxy,yw,beq_self_eq_true]
   have m:∀b:Addr,b∉(zj7 P w K mg base x y qual lsc f B c A outer s H).ex:=λb z=>absurd (show b∈([]:List Addr)from z) (by simp);have I:Inv (zj7 P w K mg base x y qual lsc f B c A outer s H) [] [some v,some E] H { s with heap:=W,toks:=s.toks+[(x,u)].length }:=by
    refine⟨⟨e0.mod,hk,rfl,rfl,yh _,λa b d h1 h2=>?_,λz j=>?_,λz d h=>?_,λ_=>hd,Around.frames_deeper e0.frames,.inr ⟨rfl,rfl⟩,λb z=>absurd z (m b),e0.bs,e0.bsz,λb _ _=>m b,λb z=>absurd z (m b),e0.funs,e0.frf⟩,
     rfl,e0.bare,Un.kept k,⟨_,M,λi z T h1 h2 Z=>?_⟩,λz d h=>?_,e0.hok.fresh (yh _),λz d h=>?_,λp hp=>absurd (show p∈([]:List (Addr × Obj))from hp) (by simp),e0.hok.kept k,rfl⟩
    ·exact(L a d h1).1.trans (L b d h2).1.symm
    ·have g:lsc.names.lookup z=some .cell\/lsc.names.lookup z=some .free:=j;rw[hsn,yw,yw]at g;cases h1:z == x with
     | true=>rw[h1]at g;rcases g with q | q<;>cases q
     | false=>
      rw[h1]at g;cases h2:z == y with
      | true=>exact⟨c,by show([(y,c)]:List (Str × Addr)).lookup z=some c;rw[yw,h2]⟩
      | false=>rw[h2]at g;rcases g with q | q<;>cases q
    ·exact absurd (show false=true from h) yn
    ·match i,h1,h2 with
     | 0,h1,h2=>
      cases(show some x=some z from h1)
      cases(show some (some v)=some (some T)from h2)
      exact⟨u,rv,.inl ⟨kx,by show[(x,u)].reverse.lookup x=some u;rw[show[(x,u)].reverse=[(x,u)]from rfl,yw,C]⟩⟩
     | 1,h1,h2=>
      cases(show some y=some z from h1)
      cases(show some (some E)=some (some T)from h2)
      obtain⟨N,l,t⟩:=hcc;exact⟨O,ry,.inr ⟨.inr Y,c,by show([(y,c)]:List (Str × Addr)).lookup y=some c;rw[yw,beq_self_eq_true],⟨N,k _ _ l,t⟩⟩⟩
     | n+2,h1,h2=>exact absurd (show(none:Option (Option V))=some (some T)from h2) (by simp)
    ·obtain⟨N,l,t⟩:=hcc;rw[(L z d h).2];exact⟨_,N,k _ _ l,t⟩
    ·rw[(L z d h).2];exact hcn
   refine kla_codeExpr (wpAny_mono (hbody [] _ [some v,some E] H Q I hq) (λr s' F=>?_) λ_ _ z=>z.elim);obtain⟨D,H',J,X,q⟩:=F;exact⟨r,rfl,D,H',J.os,J.bare,J.base,J.hok,X,q⟩
 ·obtain⟨D,rfl,F⟩:=F;exact F
def zsE{lsc:Scope}{env:Env}{y:Str}{a:Addr}(hn:lsc.names=[(x,.local),(y,.free)])(b:env.cells.lookup y=some a):closureFor lsc env=pure [(y,a)]:=by
 unfold closureFor cellOf;rw[hn];simp[b]
def ztF{g:Nat->Int}(hi:i<64)(a:j<64):decide (g i*64+(i:Int)<g j*64+(j:Int))=if g i=g j then decide ((i:Int)<(j:Int))else decide (g i<g j):=by
 by_cases e:g i=g j
 ·rw[if_pos e,e];exact decide_eq_decide.mpr ⋯
 ·rw[if_neg e];exact decide_eq_decide.mpr ⋯
noncomputable def zm6 (h:Heap) (v:Value) (x y:Int):Prop:=∃(a:Addr) (ob:Obj) (t u:Tok) (n:Nat),v=.ref a/\h.get? a=some ob/\ob.cls=.type "tuple" /\ ob.data=.seq #[.int x t,.int y u] n
theorem zmq{h:Heap}:∀(ks:List Value),(∀(i:Nat) (v:Value),ks[i]?=some v->∃x y,zm6 h v x y)->∃fs,KatTups h ks fs/\(∀v∈fs,∃i t,v=Value.int i t)/\fs.length=ks.length
 | [],_=>⟨[],.nil,(λ_ z=>nomatch z),rfl⟩
 | v :: ks,hk=>by
  obtain⟨x,y,a,ob,t,u,n,rfl,h1,h2,d⟩:=hk 0 v rfl;obtain⟨fs,g,f,c⟩:=zmq ks λi v e=>hk (i+1) v e;refine⟨.int x t :: fs,.cons h1 h2 d rfl g,λv b=>?_,by rw[yE,yE,c]⟩;rcases yt.mp b with rfl | b
  ·exact⟨_,_,rfl⟩
  ·exact f v b
def ztw{prog:Program}{w:World}{A:Around}{v d:Value}{x c:Int}{C:Bool->Shared->Prop}(h1:zm6 s.heap v x i)(h2:zm6 s.heap d c j)
  (h:C (if x=c then decide ((i:Int)<(j:Int))else decide (x<c)) s):wpAny (model prog w) A (keyLt' (tuples' true) v d) C (λ_ _=>False) s:=by
 obtain⟨a,ob,t,u,n,rfl,a1,a2,k⟩:=h1;obtain⟨b,m,t',f,l,rfl,b1,b2,g⟩:=h2;refine kat_lt a1 k b1 g ?_;show KatLex prog w A true (decide (2<2)) C [(.int x t,.int c t'),(.int i u,.int j f)] 0 s;refine kat_cons (wpAny_eqBool_int ?_);by_cases e:x=c
 ·rw[if_pos e]at h;rw[show(x == c)=true from beq_iff_eq.mpr e];refine kat_yes (kat_cons (wpAny_eqBool_int ?_));by_cases e2:(i:Int)=(j:Int)
  ·rw[show((i:Int) == (j:Int))=true from beq_iff_eq.mpr e2];refine kat_yes (kat_nil ?_)
   have:decide ((i:Int)<(j:Int))=decide (2<2):=decide_eq_decide.mpr ⋯
   rw[this]at h;exact h
  ·rw[show((i:Int) == (j:Int))=false from beq_eq_false_iff_ne.mpr e2];refine kat_no ?_;show wpAny _ _ (oneLt' false _ _) _ _ _;exact kat_one _ _ (PyProof.Rows.lt_int h)
 ·rw[if_neg e]at h;rw[show(x == c)=false from beq_eq_false_iff_ne.mpr e];refine kat_no ?_;show wpAny _ _ (oneLt' true _ _) _ _ _;exact oneLt_int h
noncomputable def tSK (ta:TA) (tb:TE) (j:Nat) (T:Addr) (lpos:Pos) (q:Str):TE:=λσ H Q=>ta σ H λvs H1=>Tb H1 T lpos q/\∃(r:Addr) (n:Nat) (u:V) (g:Nat->Int),vs=[.ref r]/\H1 r=some (.rng 0 (n:Int))/\1<=n/\n<64/\σ[j]?=some (some u) /\
 (∀(i:Nat) H2,i<n->SameT H1 H2->tb [some (.int (i:Int)),some u] H2 (λv c=>∃t,v=.ref t/\Same H2 c/\c t=some (.tup [.int (g i),.int (i:Int)]))) /\
 ∀l (p:List Nat) c,H1 l=none->SameT H1 c->Tb c T lpos q->p.Perm (List.range n)->(∀a b,a<=b->b<n->g (p.getD a 0)*64+(p.getD a 0:Int)<=g (p.getD b 0)*64+(p.getD b 0:Int))->c l=some (.lst (p.map λi:Nat=>V.int (i:Int)))->Q (.ref l) c
def zmY{p pos kp lpos:Pos}{ta:TA}{tb:TE}{params:Arguments}{body:Expr}{lsc:Scope}{x y:Str}{c T:Addr}{j k:Nat}(hg:Gl X "sorted")(hm:X.mg "sorted" = none)(R:bootBuiltins "sorted" = some (.builtin "sorted"))(ha:PA X [e] ta)
  (hcode:X.env.code=.ref c) (C:CodeHd X.base c T) (B:X.base.BuiltinsAt X.mg T) (hN:X.N[j]?=some y) (hy:X.env.kindOf y=some .cell) (hr:Room (k+1) X.A)
  (hbody:∀f M Z A s H,PE (zj7 X.prog X.w X.K X.mg X.base x y (X.env.qual ++ "<lambda>") lsc f M Z A X.stack s H) body tb)
  (hdef:autoParam (defaultsOf params X.env=([],[])) Internal.aut2._auto_1) (hsn:autoParam (lsc.names=[(x,.local),(y,.free)]) Internal.aut2._auto_1) (hxy:autoParam ((y == x)=false) Internal.aut1._auto_1) (hk:autoParam (lsc.kind=.function) Internal.aut2._auto_1) (hco:autoParam (lsc.isCoroutine=false) Internal.aut2._auto_1) (hgen:autoParam (lsc.isGenerator=false) Internal.aut2._auto_1)
  (G:autoParam (∀Z pm M ctv u,bindArgs (kla_fn "<lambda>" (X.env.qual ++ "<lambda>") params body lsc [(y,Z)] pm (.ref M) ctv) ⟨[u],[]⟩=pure [(x,u)]) Internal.aut5._auto_1)
  (he:autoParam (backTo pos (starEach [e] X.env)=(false,eval e X.env) :: backTo pos (starEach [] X.env)) Internal.aut2._auto_1)
  (hplain:autoParam ((backTo pos (starEach [e] X.env)).any (·.1)=false) Internal.aut2._auto_1):PE X (.Call (.Name "sorted" p) [e] [⟨some "key",.Lambda params body lsc lpos,kp⟩] pos) (tSK ta tb j T lpos (X.env.qual ++ "<lambda>")):=by
 intro pins s σ H Q I h;refine wpAny_Call_Name_kw (zbX I hg hm R ?_ (by decide) (by decide));refine PyProof.Rows.callWith_kw ?_ he hplain;refine thn (ha pos pins s σ H _ I h) λus s1 zz=>?_;obtain⟨vs,H1,I1,rv,hT,r,n,u,g,rfl,ak,n1,n64,hu,a8,kk⟩:=zz;obtain⟨u1,rfl,r1⟩:=vals1 rv;cases r1;obtain⟨Z,a3⟩:=I1.ok.has y (.inl hy);have a4:∀{H':Hp} {s':Shared},Inv X pins σ H' s'->∃u',RelV u u'/\s'.heap.IsCell Z (some u'):=λ{H' s'} P=>by
  obtain⟨m,hn,hl⟩:=P.loc;obtain⟨u',ru,l⟩:=hl j y u hN hu (.inr (.inl hy));rcases l with⟨hk',_⟩ | ⟨_,c2,hc2,F⟩
  ·rw[hy]at hk';cases hk'
  ·rw[a3]at hc2;cases hc2;exact⟨u',ru,F⟩
 refine thn (zmf (t:=zfE) (nm:=some "key") (kpos:=kp) (ztB (lpos:=lpos) (params:=params) (body:=body) hdef (zsE hsn a3) hcode C B) zoy pos pins s1 σ H1 (λws H2=>∃f M,ws=[.ref f]/\H1 f=none/\SameT H1 H2/\Tb H2 T lpos (X.env.qual ++ "<lambda>")/\H2 f=some (zgR f (zcL X params body lsc [(y,Z)] M))/\H2 M=some (zfI M (X.env.qual ++ "<lambda>"))) I1 ⟨hT,λf M H' h1 h2 h3 h4 h5=>⟨f,M,rfl,h1,h2,h3,h4,h5⟩⟩) λkvs S zz=>?_;obtain⟨ws,H2,L,al,f,M,rfl,au,st,am,hF,hC⟩:=zz;obtain⟨u2,rfl,r3⟩:=vals1 al;cases r3;obtain⟨tr,ur,vr,er⟩:=L.hok r _ (st.at ak);show wpAny (model X.prog X.w) X.A (call (.builtin "sorted") [.ref r] [(Str.ofString "key",.ref f)]) (EP X pins σ Q) X.xe S;have hd:=hr.hd;have aa:X.A.in1.in1.depth<recursionLimit:=by have:=hr.dp;show X.A.depth<_;lia
 have nf:∀b,S.heap.objs.size<=b->b∉frs X.stack:=λb G z=>by
  rcases yt.mp (L.stkSub b z)with q | q
  ·exact absurd (show b<S.heap.objs.size from q▸L.lt) (ybc.mpr G)
  ·exact L.nofs G q
 have W:∀b,S.heap.objs.size<=b->∀z d,X.env.cells.lookup z=some d->d≠b:=λb G z d hz q=>by
  obtain⟨v,o,ho,_⟩:=L.cell z d hz;exact absurd (Heap.lt_size ho) (ybc.mpr (q▸G))
 have a2:∀b,S.heap.objs.size<=b->∀q∈X.pn++pins,q.1≠b:=λb G q hq z=>by
  exact absurd (Heap.lt_size (L.pin q hq).1) (ybc.mpr (z▸G))
 refine zpL (kf:=λi=>g i*64+(i:Int)) (λD E e1 ks s'=>∃H':Hp,Inv X pins σ H' s'/\Same H2 H'/\S.heap.objs.size<D/\(D:Nat)<(E:Nat)/\(∃e,s'.heap.get? E=some (seqObj "list" (List.toArray ks) e))/\s'.heap.get? D=some (seqObj "list" #[] e1)/\H' E=none/\H' D=none /\
   ∀(i:Nat) (v:Value),ks[i]?=some v->∃a,v=.ref a/\H' a=some (.tup [.int (g i),.int (i:Int)])) hd er n1 n64 (λh' tk D E e1 af hD aj O aq=>?_) (λD E e1 ks tk s' ab hJ=>?_) λD E e1 ks s' hl hJ=>?_
 ·exact⟨H2,L.kept af,Same.refl _,hD,aj,⟨0,aq⟩,O,L.hok.fresh ⋯,L.hok.fresh ⋯,λi v z=>by simp at z⟩
 ·obtain⟨H',P,sm,d1,d2,⟨e0,a1⟩,O,nk,nd,a5⟩:=hJ;have d3:S.heap.objs.size<E:=ybe d1 d2;obtain⟨⟨ctv,ap⟩,_⟩:=P.hok f _ (sm _ _ hF);obtain⟨ao,_⟩:=P.hok M _ (sm _ _ hC);obtain⟨uy,ry,F⟩:=a4 P;refine wpAny_mono (zrS (A:=X.A.in1.in1) (v:=.int (ks.length:Int)) hd aa P.env0.in1.in1 ap ao hsn hxy hk hco hgen (λu=>G Z _ M ctv u) F (P.freeC y Z a3) ⟨tk,rfl⟩ ry (hbody f M Z _ _ _) (a8 ks.length H' ab (st.trans sm.t))) (λkv ad as=>?_) λ_ _ z=>z;obtain⟨v',a6,os,bare,un,hok,an,t,rfl,a7,ht⟩:=as;cases an;have kK:=un.keep E _ a1 nk (nf E ⋯) (by simp);have kD:=un.keep D _ O nd (nf D ⋯) (by simp);have fK:=un.free E _ a1 nk (by simp);have fD:=un.free D _ O nd (by simp);obtain⟨hh,gg,dd,tt,ac⟩:=ad;obtain rfl:ac=s'.os:=os;have J1:Inv X pins σ a6 ⟨hh,gg,dd,tt,s'.os⟩:=P.call (h':=hh) (g':=gg) (d':=dd) (t':=tt) (ch:=[]) un hok bare (λb z=>absurd z (by simp));refine⟨⟨e0,kK⟩,λh' cN sb ar=>⟨a6,?_,sm.trans a7,d1,d2,⟨cN,ar⟩,(sb.2 D (yo d2)).trans kD,fK,fD,λi v R=>?_⟩⟩
  ·exact J1.turned (t':=tt) (λb o G q=>(sb.2 b G).trans q) fK (λz=>absurd (show E<S.heap.objs.size from z▸L.lt) (ybc.mpr ⋯)) (.inr (yc L.sz ⋯)) (W E ⋯) (a2 E ⋯)
  ·rw[yaL]at R;split at R
   ·obtain⟨a,e1,e2⟩:=a5 i v R;exact⟨a,e1,a7 _ _ e2⟩
   ·rename_i hi;have ah:i-ks.length=0:=by
     cases e:i-ks.length with
     | zero=>rfl
     | succ m=>rw[e]at R;cases R
    rw[ah]at R;cases R;obtain rfl:i=ks.length:=by lia
    exact⟨t,rfl,ht⟩
 ·obtain⟨H',P,sm,d1,d2,⟨e0,a1⟩,O,nk,nd,a5⟩:=hJ;have d3:S.heap.objs.size<E:=ybe d1 d2;have tup:∀(i:Nat) (v:Value),ks[i]?=some v->zm6 s'.heap v (g i) (i:Int):=λi v R=>by
   obtain⟨a,rfl,ha⟩:=a5 i v R;obtain⟨_,its,rI,ob,ho,J,m,Y⟩:=P.hok a _ ha;obtain⟨w1,w2,e1,⟨t1,rfl⟩,⟨t2,rfl⟩⟩:=vals2 rI;subst e1;exact⟨a,ob,t1,t2,m,rfl,ho,J,Y⟩
  refine⟨⟨e0,a1⟩,O,ybw d2,zmq ks λi v R=>⟨_,_,tup i v R⟩,λi j' Cc hi hj J=>?_,λq out h' cN hq hs kp ae ag av=>?_⟩
  ·obtain⟨v1,e1⟩:=zN (show i<ks.length by lia);obtain⟨v2,e2⟩:=zN (show j'<ks.length by lia);rw[yi,e1,yi,e2];refine ztw (tup i v1 e1) (tup j' v2 e2) ?_;rw[<- ztF ⋯ ⋯];exact J
  ·have aw:q.length=n:=by have:=hq.length_eq;rwa [yM]at this
   have U:∀b o,H' b=some o->b≠E/\b≠D:=λb o e=>⟨zy e nk,zy e nd⟩
   have oT:∀b o,H' b=some o->upd H' D (.lst (q.map λi:Nat=>V.int (i:Int))) b=some o:=λb o e=>by rw[zG (U b o e).2];exact e
   have J2:Inv X pins σ (upd H' D (.lst (q.map λi:Nat=>V.int (i:Int)))) { s' with heap:=h' }:=by
    refine P.step (g':=s'.gens) (d':=s'.drawn) (t':=s'.toks) (ch:=[E,D]) (λb G=>?_) (λb o _ _ J e _=>?_) (λb o _ _ J e _=>⟨o.slots,?_⟩) (λb o J _ nb=>?_) (λb o J e=>⟨o,?_⟩) (λb xs e=>oT b _ e) (λb o u e=>oT b _ e) (λb ps e=>⟨#[],by rw[oT b _ e];simp⟩) (λm hm=>?_) (λb o e=>?_) P.bare
    ·have ai:b=E\/b=D:=by simpa using G
     have a0:S.heap.objs.size<=b:=by
      rcases ai with z | z
      ·rw[z];lia
      ·rw[z];lia
     exact⟨.inr (yc L.sz a0),(λz=>absurd (show b<S.heap.objs.size from z▸L.lt) (ybc.mpr a0)),W b a0,a2 b a0⟩
    ·exact kp b o (λz=>J (by simp[z])) (λz=>J (by simp[z])) e
    ·exact kp b o (λz=>J (by simp[z])) (λz=>J (by simp[z])) e
    ·rw[zG (λz=>J (by simp[z]))];exact nb
    ·exact kp b o (λz=>J (by simp[z])) (λz=>J (by simp[z])) e
    ·obtain⟨o,es,ep,ho,rr⟩:=hm;have hL:X.env.locals<S.heap.objs.size:=L.lt;exact⟨o,es,ep,kp _ o (yo (ybe hL ⋯)) (yo (ybe hL ⋯)) ho,rr⟩
    ·by_cases G:b=D
     ·subst G;rw[zF]at e;cases e;exact⟨by rw[yb];exact zbf ⋯,out,cN,ae,ag⟩
     ·rw[zG G]at e;refine(P.hok b o e).stay (λd u' Y q'=>kp d u' ?_ ?_ q') (λd q'=>oT d _ q') λd xs q'=>oT d _ q'
      ·rcases Y with z | z
       ·rw[z];exact(U b o e).1
       ·exact(U d _ z).1
      ·rcases Y with z | z
       ·rw[z];exact(U b o e).2
       ·exact(U d _ z).2
   have a9:Same H' (upd H' D (.lst (q.map λi:Nat=>V.int (i:Int)))):=λb o e=>oT b o e;exact⟨.ref D,_,J2,rfl,kk D q _ (st.none (sm.none nd)) (st.trans (sm.trans a9).t) ((am.same sm).same a9) hq hs zF⟩
open PySem PySem.W PySem.Calls PyProof.Rows
theorem zho{n:Nat}:∀(ns:List Int),WData.weightAll (ns.map WData.int)<=n->∀i∈ns,sz i<=n
 | [],_,_,h=>nomatch h
 | j :: r,h,i,hi=>by
  rw[yH,WData.weightAll]at h;rcases yt.mp hi with rfl | hi
  ·have:WData.weight (.int i)=sz i:=by rw[WData.weight];rfl
   lia
  ·exact zho r ⋯ i hi
noncomputable def zj5 (ns:List Int):Prop:=∀i∈ns,sz i<=1048576
def zpR(h:WData.layableAll [WData.list (ns.map WData.int)]=true):zj5 ns:=by
 unfold WData.layableAll at h;rw[ya1,List.all_nil,Bool.and_true]at h;unfold WData.layable at h;rw[yF,decide_eq_true_eq]at h;have h2:=h.2;rw[WData.weight]at h2;exact zho ns (yc h2 (by decide))
def zkQ{l:OpenLaw}{n:Nat}{q:Program}{b:List Str}{t:(Str->Option Value)->Heap->Prop}{u:World->Heap->Prop}{d:DefRec}
  (hn:l.most=some n) (hdf:d.params.defaults=[])
  (call:∀(w:World) (s₀ c:Shared) (mg m:Str->Option Value) (k:Addr) (a:Addr) (vs:List Value) (ns:List Int),
   Ground q b [] t w s₀ mg m c.heap->u w c.heap->mg d.name=some (.ref k) ->
   c.heap.get? a=some { cls:=.type "list",data:=.seq vs.toArray }->IntsAre vs ns->ns.length<=n->zj5 ns->c.gens=#[] ->
   codeAny (model l.prog w) callerA (.call (.ref k) ⟨[.ref a],[]⟩) (λr s'=>r=.ok (.ret (.bool true))/\OldK c.heap s'.heap/\s'.os=c.os/\AllBare s'.gens) c) :
  WalkO q b t u l.row.toRowW d [] (λf vs=>PySem.call f vs):=by
 intro w s₀ c mg m G Y k o J F B K kV H hd y I p C args s as g h v hwl z;obtain⟨a,vs,ns,rfl,rfl,i,e,j⟩:=Att.script_of hn g hwl;refine enter_call (codeAny_mono (call w s₀ c mg m k a vs ns G Y p i e j (zpR h) C) λr s' A=>?_);obtain⟨rfl,h2,x,E⟩:=A;exact⟨.inl ⟨.bool true,.bool true,[],rfl,λ_=>rfl,.bool true,Att.post_true l _,λ_=>⟨List.Pairwise.nil,λ_ D=>(nomatch D)⟩⟩,h2,x,E⟩
open PySem PySem.Spec PyProof.Rows
noncomputable def Within (m:Int) (k:Nat) (f:Nat->Int):Prop:=∀j,j<k->-m<=f j/\f j<=m
noncomputable def WithinR (m:Int) (n k:Nat) (F:Nat->Nat->Int):Prop:=∀i,i<n->Within m k (F i)
def Rows.snoc{F:Nat->Nat->Int}(h:Rows H as k F)(n:p∉as)(hp:H p=some (.lst ((vec k f).map V.int))):Rows H (as++[p]) k (λi=>if i=as.length then f else F i):=by
 refine Rows.app (h.congr λi hi j _=>?_) n (by show H p=some (HO.lst ((vec k (if as.length=as.length then f else F as.length)).map V.int));rw[if_pos rfl];exact hp);show F i j=(if i=as.length then f else F i) j;rw[if_neg ⋯]
def WithinR.snoc{m:Int}{F:Nat->Nat->Int}(h:WithinR m n k F)(a:Within m k f):WithinR m (n+1) k (λi=>if i=n then f else F i):=by
 intro i hi;show Within m k (if i=n then f else F i);by_cases e:i=n
 ·rw[if_pos e];exact a
 ·rw[if_neg e];exact h i ⋯
noncomputable def zaT (k:Nat) (f g:Nat->Int):Int:=-zaj (vec k λj=>f j*g j)
def zqo(x:Int):(vec n f).map V.int++[.int x]=(vec (n+1) λi=>if i=n then x else f i).map V.int:=by
 rw[zV,yj];congr 1
 ·rw[zbp (g:=λi=>if i=n then x else f i) λi hi=>by show f i=if i=n then x else f i;rw[if_neg ⋯]]
 ·show[V.int x]=[V.int (if n=n then x else f n)];rw[if_pos rfl]
def Within.more{m:Int}{x:Int}(h:Within m n f)(a:-m<=x)(h1:x<=m):Within m (n+1) (λi=>if i=n then x else f i):=by
 intro j b;show -m<=(if j=n then x else f j)/\(if j=n then x else f j)<=m;by_cases e:j=n
 ·rw[if_pos e];exact⟨a,h1⟩
 ·rw[if_neg e];exact h j ⋯
def znm{g:Nat->Int}:zaT (k+1) f g=zaT k f g-f k*g k:=by
 unfold zaT;rw[zV,zaQ];lia
noncomputable def zgn (K:Fg):Sp:=λvs H Q _=>∃(p l:Addr) (as:List Addr) (k:Nat) (f:Nat->Int) (F:Nat->Nat->Int) (m:Int),vs=[.ref p,.ref l]/\H p=some (.lst ((vec k f).map V.int))/\H l=some (.lst (as.map V.ref))/\Rows H as k F/\Within m k f/\WithinR m as.length k F/\m<=999999999999/\k<=1000/\as.length<=1000 /\
 ∀r H',H r=none->Same H H'->H' r=some (.lst ((vec as.length λi=>zaT k f (F i)).map V.int))->Q (.ref r) H'
def znc:=λ{K:Fg} {p l:Addr} {as:List Addr} {k:Nat} {f:Nat->Int} {F:Nat->Nat->Int} {m:Int} {H:Hp} {Q:VK} {E:XK} h1 h2 h3 h4 h5 hm hk hl q=>@id (zgn K [.ref p,.ref l] H Q E) ⟨p,l,as,k,f,F,m,rfl,h1,h2,h3,h4,h5,hm,hk,hl,q⟩
open PySem PySem.W PySem.Spec PySem.Calls PyProof.Rows
def zot{P:Program}{w:World}{K:Fg}{mg Z:Str->Option Value}{CX:CXT}{k:Nat}{fa a c T:Addr}{fd:FuncData}{x:Str}{sp:Sp}{f:Shared}{vs:List Value}{ns:List Int}
  (KX:K.In f.heap) (hns:f.heap.Ns mainGlobals mg) (p:f.heap.Ns builtinsNs Z) (hbb:∀x:Str,x ≠ "__name__" -> Z x=bootBuiltins x) (hlim:f.heap.NoLimit) (hg:f.gens=#[])
  (ha:f.heap.get? a=some { cls:=.type "list",data:=.seq vs.toArray }) (hi:IntsAre vs ns) (hl:ns.length<=sizeLine) (hr:Room k callerA)
  (hC:CodeHd f.heap c T) (hT:f.heap.get? T=some (tabObj #[])) (hKT:K.lookup T=none) (hB:f.heap.BuiltinsAt mg T)
  (F:∀base:Heap,K.In base->base.Ns mainGlobals mg->CodeHd base c T->base.BuiltinsAt mg T->FnOk P w K mg base CX k fa fd [x] sp) (hbind:∀(s:Shared) (u:Value),BindsTo s fd ⟨[u],[]⟩ [(x,u)])
  (hsp:∀H:Hp,SqL K H a (ns.map V.int)->H T=some (.tbl #[])->sp [.ref a] H (λv _=>v=.bl true) λ_ _ _=>False)
  (hCX:∀H e s',CX [] H f (λ_ _ _=>False) e s'->False) :
  codeAny (model P w) callerA (.call (.ref fa) ⟨[.ref a],[]⟩) (λr s'=>r=.ok (.ret (.bool true))/\OldK f.heap s'.heap/\s'.os=f.os/\AllBare s'.gens) f:=by
 have rv:=zfF hi;have M:=hi.length;have t:T≠a:=λz=>by rw[z,ha]at hT;cases hT
 have B:∀l:Hp,zve l->SqL K l a (ns.map V.int)->HOk P w l f.heap->(∀b,l b≠none->b=a)->(l a≠none->K.lookup a=none) ->
   codeAny (model P w) callerA (.call (.ref fa) ⟨[.ref a],[]⟩) (λr s'=>r=.ok (.ret (.bool true))/\OldK f.heap s'.heap/\s'.os=f.os/\AllBare s'.gens) f:=by
  intro l hO hS E R hK;have J:l T=none:=by
   cases q:l T with
   | none=>rfl
   | some u=>exact absurd (R T (by rw[q];simp)) t
  obtain⟨H,eH⟩:∃H,H=upd l T (.tbl #[]):=⟨_,rfl⟩
  have S:H T=some (.tbl #[]):=by rw[eH];exact zF
  have y:∀b,b≠T->H b=l b:=λb h=>by rw[eH,zG h]
  have hok:HOk P w H f.heap:=λb o e=>by
   by_cases h:b=T
   ·subst h;rw[S]at e;cases e;exact hT
   ·rw[y b h]at e;exact(E b o e).stay (λd u _ q=>q) (λd q=>by rw[y d (zy q J)];exact q) λd xs q=>by rw[y d (zy q J)];exact q
  have W:SqL K H a (ns.map V.int):=by
   rcases hS with(h | ⟨o,h⟩) | h
   ·exact .inl (.inl (by rw[y a t.symm];exact h))
   ·exact .inl (.inr ⟨o,by rw[y a t.symm];exact h⟩)
   ·exact .inr h
  have g:∀{b:Addr} {o:Obj},f.heap.get? b=some o->H b=none->(zc6 f.heap H).get? b=some o:=λe n=>zqy e n;have N:∀{b:Addr} {o:Obj},f.heap.get? b=some o->o.cls≠.none->o.cls≠.type "list" -> H b=none:=λ{b o} e d1 d2=>by
   have i:b≠T:=λz=>by rw[z,hT]at e;cases e;exact d1 rfl
   rw[y b i];cases q:l b with
   | none=>rfl
   | some u=>
    have I:b=a:=R b (by rw[q];simp);subst I;rw[ha]at e;cases e;exact absurd rfl d2
  have U:∀{b:Addr} {o:Obj} {es:Array DictEntry} {ep:Nat},f.heap.get? b=some o->o.data=.dict es ep->H b=none:=λ{b o es ep} e d=>by
   have i:b≠T:=λz=>by rw[z,hT]at e;cases e;cases d
   rw[y b i];cases q:l b with
   | none=>rfl
   | some u=>
    have I:b=a:=R b (by rw[q];simp);subst I;rw[ha]at e;cases e;cases d
  have A:∀{b:Addr} {m:Str->Option Value},f.heap.Ns b m->(zc6 f.heap H).Ns b m:=λ{b m} ⟨o,es,ep,e,d,r⟩=>⟨o,es,ep,g e (U e d),d,r⟩
  have Q:K.In (zc6 f.heap H):=λb o e=>g (KX b o e) (by
   have i:b≠T:=λz=>by rw[z,hKT]at e;cases e
   rw[y b i];cases q:l b with
   | none=>rfl
   | some u=>
    have I:b=a:=R b (by rw[q];simp);subst I;rw[hK (by rw[q];simp)]at e;cases e)
  have hM:Mod K mg (zc6 f.heap H):=⟨Q,A hns,⟨Z,A p,hbb⟩,let ⟨mc,h1,h2⟩:=hlim;⟨mc,A h1,h2⟩⟩
  have a0:CodeHd (zc6 f.heap H) c T:=by
   obtain⟨o,us,L,tf,D,tg,X,O,tt,e1,e2,r⟩:=hC;exact⟨o,us,L,tf,D,tg,X,O,tt,g e1 (N e1 (by rw[e2];decide) (by rw[e2];decide)),e2,r⟩
  have Y:(zc6 f.heap H).BuiltinsAt mg T:=by
   obtain⟨bm,o,b1,b2,b3,b4,b5,b6,r⟩:=hB;exact⟨bm,o,b1,b2,b3,b4,g b5 (N b5 (by rw[b6];decide) (by rw[b6];decide)),b6,r⟩
  have e0:Env0 P w K mg (zc6 f.heap H) callerA [] f H:=⟨rfl,hM,λb o e=>zsP e,ybx (zn9 _ _),trivial,λb p=>absurd (show b∈([]:List Addr)from p) (by simp),hok,.of_eq hg⟩
  refine codeAny_mono ((F _ Q (A hns) a0 Y).run callerA [] f H ⟨[.ref a],[]⟩ [.ref a] [.ref a] _ _ hr e0 (hbind f (.ref a)) (.cons rfl .nil) (hsp H W S)) λr s' h=>?_;cases r with
  | error e=>exact(hCX H e s' h).elim
  | ok fl=>
   cases fl with
   | next=>exact False.elim h
   | brk=>exact False.elim h
   | cont=>exact False.elim h
   | ret u=>
    obtain⟨v,H',os,bare,un,C,r',q⟩:=h;have q':v=.bl true:=q;subst q';obtain rfl:u=Value.bool true:=r';have j:∃more,s'.heap.get? T=some (tabObj more):=by
     obtain⟨more,e⟩:=un.tbls T #[] S;exact⟨_,C T _ e⟩
    have keep:∀b o,b≠T->f.heap.get? b=some o->s'.heap.get? b=some o:=λb o i e=>by
     cases q:l b with
     | none=>exact un.keep b o e (by rw[y b i];exact q) (by intro z;exact absurd (show b∈([]:List Addr)from z) (by simp)) (by simp)
     | some u=>
      rcases hO b with z | ⟨ob,xs,z⟩
      ·rw[q]at z;cases z
      ·have z1:H b=some (.frz ob (.lst xs)):=by rw[y b i];exact z
       have z2:=un.frzs b ob _ z1;obtain⟨e1,_⟩:=hok b _ z1;obtain⟨e2,_⟩:=C b _ z2;rw[e]at e1;cases e1;exact e2
    refine⟨rfl,⟨λb o e=>?_,λb o e=>?_⟩,os,bare⟩
    ·by_cases i:b=T
     ·subst i;rw[hT]at e;cases e;obtain⟨more,hm⟩:=j;exact .inr (.inl ⟨(hC.tab hT).isCodeTable,rfl,#[],more,rfl,by rw[Array.empty_append];exact hm⟩)
     ·exact .inl (keep b o i e)
    ·by_cases i:b=T
     ·subst i;obtain⟨more,hm⟩:=j;exact⟨_,hm⟩
     ·exact⟨o,keep b o i e⟩
 cases hk:K.lookup a with
 | some o=>
  have e:=KX a o hk;rw[ha]at e;cases e;refine B (λ_=>none) (λ_=>.inl rfl) (.inr ⟨_,vs.toArray,_,hk,rfl,rfl,rfl,by rw[yl,M];exact hl,by simpa using rv⟩) (λb u z=>by have G:(none:Option HO)=some u:=z;cases G) (λb z=>absurd rfl z) λz=>absurd rfl z
 | none=>
  refine B (λb=>if b=a then some (.frz { cls:=.type "list",data:=.seq vs.toArray } (.lst (ns.map V.int)))else none) (λb=>?_) (.inl (.inr ⟨{ cls:=.type "list",data:=.seq vs.toArray },if_pos rfl⟩)) (λb u z=>?_) (λb z=>?_) λ_=>hk
  ·by_cases p:b=a
   ·exact .inr ⟨_,_,if_pos p⟩
   ·exact .inl (if_neg p)
  ·by_cases p:b=a
   ·have G:=(if_pos p).symm.trans z;cases G;subst p;exact⟨ha,by rw[yb];exact hl,vs,_,rv,ha⟩
   ·have G:=(if_neg p).symm.trans z;cases G
  ·by_cases p:b=a
   ·exact p
   ·exact absurd (if_neg p) z
noncomputable def zgr (K:Fg) (x:Str):Addr:=match tabIn K x with
 | some q=>q.2
 | none=>0
class TabX (K:Fg) (mg:Str->Option Value) (base:Heap) (x:outParam Str):Prop where
 ex:∀c T,tabIn K x=some (c,T)->CodeHd base c T/\base.BuiltinsAt mg T
def zjy(b:noTabs K=true)(X:K.In h)(a:h.get? T=some (tabObj #[])):K.lookup T=none:=by
 cases q:K.lookup T with
 | none=>rfl
 | some o=>
  have e:=X T o q;rw[a]at e;cases e;have h2:=ya5.mp b (T,tabObj #[]) (mem_of_lookupK q);exact absurd (show false=true from h2) yn
def walk_ofT{l:PySem.W.OpenLaw}{n k:Nat}{q:Program}{r:List Str}{XP:(Str->Option Value)->Heap->Prop}{N:World->Heap->Prop}{d d':DefRec}{K:Params->Fg}{CX:World->CXT}{sp:World->Sp}{x y:Str}
  (hn:l.most=some n) (hn2:n<=sizeLine) (hdf:d.params.defaults=[]) (hr:Room k callerA)
  (hY:∀(w:World) (h:Heap),N w h->(K w.params).In h)
  (hrec:(recsOf q).find? (λe=>e.name == y)=some d') (hnt:∀w:World,noTabs (K w.params)=true)
  (F:∀(w:World) (mg:Str->Option Value) (B:Addr) (h:Heap),(K w.params).In h->h.Ns mainGlobals mg->mg d.name=some (.ref B) ->
   ∃fd:FuncData,(∀(s:Shared) (u:Value),BindsTo s fd ⟨[u],[]⟩ [(x,u)])/\(∃p,tabIn (K w.params) y=some p) /\
    ∀base:Heap,(K w.params).In base->base.Ns mainGlobals mg->TabX (K w.params) mg base y->FnOk l.prog w (K w.params) mg base (CX w) k B fd [x] (sp w))
  (hsp:∀(w:World) (H:Hp) (a:Addr) (ns:List Int),ns.length<=n->zj5 ns->SqL (K w.params) H a (ns.map V.int)->(∀pos qual,Tb H (zgr (K w.params) y) pos qual)->sp w [.ref a] H (λv _=>v=.bl true) λ_ _ _=>False)
  (hCX:∀(w:World) (H:Hp) (s:Shared) (e:Value) (s':Shared),CX w [] H s (λ_ _ _=>False) e s'->False) :
  PySem.W.WalkO q r XP N l.row.toRowW d [] (λf vs=>PySem.call f vs):=by
 refine zkQ hn hdf λw s₀ L mg mb B a vs ns G Y D t m i Z hg=>?_;have C:=hY w _ Y;obtain⟨fd,X,⟨⟨c,T⟩,j⟩,hF⟩:=F w mg B _ C G.T.g D;obtain⟨O,E⟩:=tab_of G.T C hrec j;have P:L.heap.BuiltinsAt mg T:=by
  obtain⟨U,ob,b1,b2,A,M,b5,J⟩:=G.T.bmain;refine⟨U,ob,b1,b2,λz=>?_,λz=>?_,A,M,b5,J⟩
  ·obtain⟨o,es,ep,e,hd,_⟩:=G.T.g;rw[z,e]at A;cases A;rw[hd]at J;cases J
  ·rw[z,E]at A;cases A;cases M
 have Q:zgr (K w.params) y=T:=by unfold zgr;rw[j]
 refine zot C G.T.g G.T.b G.T.builtins G.T.nolimit hg t m (yc i hn2) hr O E (zjy (hnt w) C E) P
  (λbase kb nb R S=>hF base kb nb ⟨λc' T' e=>by rw[j]at e;cases e;exact⟨R,S⟩⟩) X (λH hS I=>hsp w H a ns i Z hS λpos qual=>?_) λH e s'=>hCX w H L e s'
 rw[Q];exact⟨#[],I,trivial,.inl rfl⟩
def Fun.okC{P:Program}{w:World}{mg:Str->Option Value}{base:Heap}{CX:CXT}{f c:Addr}{k:Nat}(F:Fun K x qual st f fd)(m:fd.code=.ref c)(S:FnScope N ps (zj st))(len:∀vs H Q E,sp vs H Q E->vs.length=ps.length)
  (hbody:∀(A:Around) (outer:List Env) (s:Shared) (H:Hp) (vs:List V) (Q:VK) (E:XK),Room k (A.deeper (envOfC qual (zj st) s.heap.objs.size f (.ref c)))->sp vs H Q E ->
   ∃t,PSs (zat CX P w K mg base N qual (zj st) f (.ref c) A outer s H E).nox (zbe st) t/\t { nx:=λ_ H'=>Q .non H',rt:=Q } (start N vs) H):FnOk P w K mg base CX (k+1) f fd ps sp:=by
 obtain⟨p,od,kV,j,o,n,b,ct,g,rfl,l,d⟩:=F.ex;have e:b=.ref c:=m;subst e;refine zmI l d S len λA outer s H vs Q E i a=>?_;obtain⟨t,h,q⟩:=hbody A outer s H vs Q E i a;exact⟨t,h.nox,q⟩
section
variable {H H':Hp}
theorem SameT.lst(e:SameT H H'){a:Addr}{xs:List V}(h:H a=some (.lst xs)):H' a=some (.lst xs):=e.keep _ _ h rfl
theorem SameT.tup(e:SameT H H'){a:Addr}{xs:List V}(h:H a=some (.tup xs)):H' a=some (.tup xs):=e.keep _ _ h rfl
theorem SameT.ins(e:SameT H H'){a C dx:Addr}{fs:List (Str × V)}(h:H a=some (.ins C dx fs)):H' a=some (.ins C dx fs):=e.keep _ _ h rfl
def SameT.rows(e:SameT H H'){F:Nat->Nat->Int}(h:Rows H as k F):Rows H' as k F:=⟨h.1,λi a q=>e.keep _ _ (h.2 i a q) rfl⟩
end
noncomputable def TbW (K:Fg) (x:Str) (pos:Pos) (qual:Str) (H:Hp):Prop:=Tb H (zgr K x) pos qual
section
variable {K:Fg}{x qual:Str}{pos:Pos}{H H':Hp}
theorem TbW.same(e:Same H H')(h:TbW K x pos qual H):TbW K x pos qual H':=Tb.same h e
theorem TbW.but{l:Addr}(e:LBut l H H')(h:TbW K x pos qual H):TbW K x pos qual H':=Tb.but h e
end
open PySem
noncomputable def zrk (ds:List Due) (n m:Nat):Nat:=match zcv ds n m with
 | some j=>match ds[j]? with
  | some d=>d.q.toNat
  | none=>0
 | none=>0
noncomputable def zu1 (ds:List Due) (n m:Nat):Int:=match zcv ds n m with
 | some j=>j
 | none=>0
set_option genInjectivity false in
set_option genSizeOf false in
structure Walked(ds:List Due)(n:Nat)(ms:List Nat)(x:Nat):Prop where
 nd:ms.Nodup
 ok:∀m∈ms,m<n/\zcv ds n m≠none
 at':x<n/\zcv ds n x≠none
 nx:∀(i m:Nat),ms[i]?=some m->zrk ds n m=(ms++[x])[i+1]?.getD 0
noncomputable def zcN (ms:List Nat):List Int:=ms.map λm:Nat=>(m:Int)
def zgK{ms:List Nat}:(zcN ms).length=ms.length:=by unfold zcN;rw[yb]
set_option genInjectivity false in
set_option genSizeOf false in
structure Round(ds:List Due)(n:Nat)(ms:List Nat):Prop where
 ne:ms≠[]
 nd:ms.Nodup
 ok:∀m∈ms,m<n/\zcv ds n m≠none
 nx:∀(i m:Nat),ms[i]?=some m->zrk ds n m=ms[(i+1)%ms.length]?.getD 0
open PySem PySem.Spec PyProof.Rows
section
variable {X:Cx}
noncomputable def zrq (K:Fg):List V->Hp->VK->Prop:=λxs H Q=>∃a ns,xs=[.ref a]/\SqL K H a (List.map V.int ns)/\ns≠[]/\∀x,x∈ns->(∀y∈ns,x<=y)->Q (.int x) H
def zof(J:X.calm=true):CallR X (.builtin "min") (zrq X.K):=by
 intro pins s σ H xs us Q I r h;obtain⟨a,ns,rfl,D,f,q⟩:=h;obtain⟨u,rfl,E⟩:=vals1 r;cases E;obtain⟨its,B,pl,C,c⟩:=I.walk D;refine call_min_walkS (wpAny_pyIter_list pl ?_);have k:a≠s.heap.objs.size:=yo c;have hn:(its.toArray).size=ns.length:=by rw[yb]at C;simpa using C
 have d:0<ns.length:=List.length_pos_iff.mpr f;refine⟨_,_,_,_,_,_,_,_,rfl,(Walks.list (prog:=X.prog) (w:=X.w) (A:=X.A.in1) (I.ok.hd J) s.heap.objs.size a k its.toArray).toS,⟨⟨_,Heap.get?_push_size _ rfl,rfl,rfl⟩,pl.at λo e=>Heap.get?_push_of_some _ e⟩,λb p=>?_,by rw[hn];exact d,CmpOf.ints_lt (λi=>ns.getD i 0) (λi v l=>zkH B l),λv s' l g=>?_⟩
 ·rw[Heap.size_push];simp only[yt,yR,or_false]at p;rcases p with rfl | rfl
  ·exact y9 _
  ·exact yaI c
 ·obtain⟨t,rfl⟩:=zkH B l;obtain⟨b1,b2⟩:=argBest_lt (λi=>ns.getD i 0) (its.toArray.size-1);rw[hn]at b1 b2 ⊢;have x:s'.gens=s.gens:=by have:=g.gens;first | exact this | exact this.symm
  have hd:=g.drawn;have n:=g.os;have m:Inv X pins σ H { s with heap:=s'.heap,toks:=s'.toks }:=I.kept λb o e=>g.heap b o (λz=>by
   simp only[yt,yR,or_false]at z;subst z;exact absurd (Heap.lt_size e) (yQ _)) (Heap.get?_push_of_some _ e)
  have e:({ s with heap:=s'.heap,toks:=s'.toks }:Shared)=s':=by
   cases s';cases s;simp only at x hd n;subst x hd n;rfl
  rw[e]at m;refine⟨.int (ns.getD (argBest (λi j=>decide (ns.getD i 0<ns.getD j 0)) (ns.length-1)) 0),H,m,⟨t,rfl⟩,q _ ?_ λy G=>?_⟩
  ·exact ym (zkt ⋯)
  ·obtain⟨i,hi,F⟩:=yP G
   have:=b2 i ⋯
   rwa [show ns.getD i 0=y by rw[yi,yr hi,F];rfl]at this
end
noncomputable def zp0 (ds:List Due) (n m:Nat):Nat:=(zu1 ds n m).toNat
noncomputable def zvm (g:Nat->Int) (a:List Nat) (f:Int) (i:Nat):Int:=if i∈a then g i-f else g i
set_option genInjectivity false in
set_option genSizeOf false in
structure CutAt(es:List Due)(n:Nat)(g:Nat->Int)(ms:List Nat)(f:Int)(g':Nat->Int):Prop where
 rd:Round (zbK es g) n ms
 le:∀m∈ms,f<=g (zp0 (zbK es g) n m)
 at':∃m∈ms,f=g (zp0 (zbK es g) n m)
 eq:∀i,g' i=zvm g (ms.map (zp0 (zbK es g) n)) f i
section
variable {es:List Due}{n:Nat}{g g':Nat->Int}{ms:List Nat}{f:Int}
end
section
variable {es:List Due}{n:Nat}{L:Nat->Nat->Int}{cs:List (List Nat × Int)}
end
section
variable {es:List Due}{n:Nat}{L L':Nat->Nat->Int}{cs:List (List Nat × Int)}{bad:List Addr}{H H':Hp}{vs:List V}
end
section
variable {K:Fg}{σ:St}{H:Hp}{Q:VK}{D:Ends}{a C dx:Addr}{fs:List (Str × V)}{f m:Str}
noncomputable def zny (K:Fg) (f:Str) (Q:VK) (x:V) (H:Hp):Prop:=∃a C dx fs v,x=.ref a/\H a=some (.ins C dx fs)/\Cls K C/\NoAttr K C f/\fs.lookup f=some v/\Q v H
def zuZ{ta:TE}(q:ta σ H (zny K f Q)):zae K ta f σ H Q:=q
def zoS(h:H a=some (.ins C dx fs))(c:Cls K C)(n:NoAttr K C f)(l:fs.lookup f=some v)(q:Q v H):zny K f Q (.ref a) H:=⟨a,C,dx,fs,v,rfl,h,c,n,l,q⟩
noncomputable def zrg (K:Fg) (f:Str) (R:Hp->Prop) (y x:V) (H:Hp):Prop:=∃a C dx fs,x=.ref a/\H a=some (.ins C dx fs)/\Cls K C/\NoAttr K C f/\fs.length<1000/\R (upd H a (.ins C dx (zY f y fs)))
def zth{ta tv:TE}(q:tv σ H λy H1=>ta σ H1 (zrg K f (D.nx σ) y)):zbv K ta tv f D σ H:=q
def zaM{R:Hp->Prop}(h:H a=some (.ins C dx fs))(c:Cls K C)(n:NoAttr K C f)(b:fs.length<1000)(q:∀H',But a H H'->H' a=some (.ins C dx (zY f y fs))->R H'):zrg K f R y (.ref a) H:=
 ⟨a,C,dx,fs,rfl,h,c,n,b,q _ But.upd zF⟩
noncomputable def zj8 (C:Addr) (m:Str) (sp:Sp) (E:XK) (t:TA) (σ:St) (Q:VK) (x:V) (H:Hp):Prop:=∃a dx fs,x=.ref a/\H a=some (.ins C dx fs)/\fs.lookup m=none/\t σ H λvs H2=>sp (x :: (vs++[])) H2 Q E
def zs9{ta:TE}{t:TA}(q:ta σ H (zj8 C m sp E t σ Q)):znC C m sp [] E ta t σ H Q:=q
def zl6{t:TA}(h:H a=some (.ins C dx fs))(l:fs.lookup m=none)(q:t σ H λvs H2=>sp (.ref a :: vs) H2 Q E):zj8 C m sp E t σ Q (.ref a) H:=by
 refine⟨a,dx,fs,rfl,h,l,?_⟩;simp only[y6];exact q
noncomputable def znt (C:Addr) (sp:Sp) (E:XK) (Q:VK) (vs:List V) (H1:Hp):Prop:=∀x dx,H1 x=none->H1 dx=none->dx≠x->sp (.ref x :: (vs++[])) (upd (upd H1 dx (.own x)) x (.ins C dx [])) (λv H2=>v=.non/\Q (.ref x) H2) E
def zsV{t:TA}(q:t σ H (znt C sp E Q)):zq7 C sp [] E t σ H Q:=q
def ziJ(q:∀x dx H',H x=none->Same H H'->H' x=some (.ins C dx [])->sp (.ref x :: vs) H' (λv H2=>v=.non/\Q (.ref x) H2) E):znt C sp E Q vs H:=λx dx a hd ne=>by
 rw[y6];exact q x dx _ a ((Same.new hd _).trans (Same.new (by rw[zG ne.symm];exact a) _)) zF
end
noncomputable def zhR (C:Addr) (m:Str) (sp:Sp) (t:TA) (σ:St) (Q:VK) (Eh:Addr->Hp->Prop) (x:V) (H:Hp):Prop:=∃a dx fs,x=.ref a/\H a=some (.ins C dx fs)/\fs.lookup m=none/\t σ H λvs H2=>sp (x :: vs) H2 Q λcls _ b=>∃C',cls=.ref C'/\Eh C' b
abbrev ztX(C:Addr)(m:Str)(sp:Sp)(ta:TE)(t:TA):TEr:=λσ H Q Eh=>ta σ H (zhR C m sp t σ Q Eh)
def zkW{Eh:Addr->Hp->Prop}{fs:List (Str × V)}{m:Str}{t:TA}(h:H a=some (.ins C dx fs))(l:fs.lookup m=none)(q:t σ H λvs H2=>sp (.ref a :: vs) H2 Q λcls _ b=>∃C',cls=.ref C'/\Eh C' b):zhR C m sp t σ Q Eh (.ref a) H:=⟨a,dx,fs,rfl,h,l,q⟩
def zla{pl:Sem Bool}{f:Addr}{m:Str}{apos pos:Pos}{o e:Expr}{es:List Expr}{ta:TE}{t:TA}(M:PE X.nox o ta)(c:Cls X.K C)(v:Meth X.K C m f)(F:FnOk X.prog X.w X.K X.mg X.base (CXF X.prog X.w) k f fd ps sp)(O:Room k X.A)(S:Binds X.K fd ps [])
  (ha:PA X.nox (e :: es) t) (hst:autoParam (starEach (e :: es) X.env=(false,eval e X.env) :: starEach es X.env) Internal.aut2._auto_1) (hpl:autoParam ((backTo pos (starEach es X.env)).any (·.1)=false) Internal.aut2._auto_1)
  (ht:autoParam (eval (.Call (.Attribute o m apos) (e :: es) [] pos) X.env=(do
   let ov <- eval o X.env
   standAt apos.atName
   let (f,first) <- holding [ov] (getMethod ov m pl)
   callWith pos f first (backTo pos (starEach (e :: es) X.env)) (backToKw pos (keywordEach [] X.env)))) Internal.aut2._auto_1):PEr X (.Call (.Attribute o m apos) (e :: es) [] pos) (ztX C m sp ta t):=by
 intro pins s σ H Q Eh I h;refine ya6 (pl:=pl) (wpAny_mono (M pins s σ H _ (I.wish _) h) (λu N q=>?_) λ_ _ z=>z.elim) ht;obtain⟨x,H1,G,E,a,dx,fs,ex,P,l,q⟩:=q;have n:=G.unwish;subst ex;obtain rfl:u=Value.ref a:=E;refine zeC n P c v l ?_;refine yaB (first:=[.ref a]) (h₀:=X.base) I.ok.mod.kin v.kp (wpAny_mono (ha pos pins N σ H1 _ (n.wish _) q) (λus j q2=>?_) λ_ _ z=>z.elim) hst hpl;obtain⟨vs,H2,y,r,q2⟩:=q2;have b:=y.unwish;refine⟨b.kIn,?_⟩;have p:Vals (V.ref a :: vs) (Value.ref a :: us):=.cons rfl r;have i:(Value.ref a :: us).length=ps.length:=by rw[<- p.length];exact F.len _ _ _ _ q2
 have g:=S j (.ref a :: us) b.kIn (by rw[y6];exact i);rw[y6]at g;refine wpAny_call (codeAny_mono (F.run X.A X.stack j H2 ⟨.ref a :: us,[]⟩ (.ref a :: us) (.ref a :: vs) _ _ O b.env0 g p q2) λres s' d=>?_);cases res with
 | error er0=>
  obtain⟨er,C,t,B,D,rfl,L,T,J,R⟩:=d;cases J;exact⟨σ,H2,j,er,C,t,B,D,b,rfl,L,rfl,R⟩
 | ok fw=>
  cases fw with
  | ret u=>exact b.after d
  | next=>exact d.elim
  | brk=>exact d.elim
  | cont=>exact d.elim
def zmF:Src (Itt K a) (λH=>SqT K H a xs) xs.length (λi x _=>xs[i]?=some x):=
 ⟨λi H h hi=>by obtain⟨x,b⟩:=zN hi;exact⟨xs,x,h,b⟩,λH h=>⟨xs,h,yh _⟩,λi H x H' h hi ⟨q,r⟩=>by subst q;exact⟨Same.refl _,r xs h⟩⟩
noncomputable def ztt (K:Fg) (R:It->Hp->Prop) (x:V) (H:Hp):Prop:=∃a,x=.ref a/\(∃xs,SqT K H a xs)/\R (Itt K a) H
def zuJ{R:It->Hp->Prop}(q:tl σ H (ztt K R)):zp3 K tl σ H R:=q
def zug{R:It->Hp->Prop}(h:SqT K H a xs)(q:R (Itt K a) H):ztt K R (.ref a) H:=⟨a,rfl,⟨xs,h⟩,q⟩
def zt8{ys:List V}(h:H a=some (.tup xs))(h':H b=some (.tup ys))(c:xs≠[])(d:ys≠[])(e:xs.length+ys.length<=100000)(q:∀p H',H p=none->Same H H'->H' p=some (.tup (xs++ys))->Q (.ref p) H'):zhp K (.ref a) (.ref b) H Q:=
 .inr (.inr ⟨a,b,xs,ys,rfl,rfl,.of h,.of h',c,zbf e,λz=>absurd z d,λ_ p hp=>q p _ hp (Same.new hp _) zF⟩)
def zuQ{y:Str}(q:Q (.bl (decide (x=y))) H):zdh K (.str x) (.str y) H Q:=.inr ⟨rfl,by rw[show decide (V.str x=V.str y)=decide (x=y) by simp];exact q⟩
def zuI{y:Str}(q:Q (.bl (!decide (x=y))) H):zen K (.str x) (.str y) H Q:=.inr ⟨rfl,by rw[show decide (V.str x=V.str y)=decide (x=y) by simp];exact q⟩
end Internal
namespace My
variable {c:Int}{i n:Nat}{ms:List Int}
noncomputable def mn (i j:Int):Int:=if j<i then j else i
def mn_le_l(i j:Int):mn i j<=i:=by unfold mn;split<;>lia
def mn_le_r(i j:Int):mn i j<=j:=by unfold mn;split<;>lia
def mn_nonneg{i j:Int}(hi:0<=i)(a:0<=j):0<=mn i j:=by unfold mn;split<;>lia
noncomputable def lvS (b:Nat->Int) (L:Int) (n:Nat):Int:=sumTo (λi=>mn (b i) L) n
set_option genInjectivity false in
set_option genSizeOf false in
structure IsLev(c:Int)(n:Nat)(b:Nat->Int)(L:Int):Prop where
 lo:lvS b L n<=c
 hi:c<lvS b (L+1) n
def zgF{b:Nat->Int}{L L':Int}(h:L<=L')(n:Nat):lvS b L n<=lvS b L' n:=zkT λi _=>by unfold mn;split<;>split<;>lia
def IsLev.uniq{b:Nat->Int}{L L':Int}(h:IsLev c n b L)(h':IsLev c n b L'):L=L':=by
 refine yG λne=>?_;rcases Int.lt_or_gt_of_ne ne with q | q
 ·have:=zgF (b:=b) (show L+1<=L' by lia) n
  have:=h.hi;have:=h'.lo;lia
 ·have:=zgF (b:=b) (show L'+1<=L by lia) n
  have:=h.lo;have:=h'.hi;lia
noncomputable def lev (c:Int) (n:Nat) (b:Nat->Int):Int:=Classical.epsilon λL=>IsLev c n b L
def zuk{b:Nat->Int}{L:Int}(h:IsLev c n b L):lev c n b=L:=(Classical.epsilon_spec (p:=λL=>IsLev c n b L) ⟨L,h⟩).uniq h
theorem zld(b:Nat->Int)(L:Int):∀n,lvS b (L+1) n=lvS b L n+cnt (λi=>decide (b i>L)) n
 | 0=>rfl
 | n+1=>by
  have a:=zld b L n;unfold lvS at a ⊢;rw[sumTo,sumTo,a,cnt];by_cases h:b n>L
  ·have e1:mn (b n) (L+1)=L+1:=by unfold mn;split<;>lia
   have e2:mn (b n) L=L:=by unfold mn;exact if_pos h
   rw[e1,e2,show(if decide (b n>L)=true then cnt (λi=>decide (b i>L)) n+1 else cnt (λi=>decide (b i>L)) n)=cnt (λi=>decide (b i>L)) n+1 from if_pos (decide_eq_true h)];lia
  ·have e1:mn (b n) (L+1)=b n:=by unfold mn;split<;>lia
   have e2:mn (b n) L=b n:=by unfold mn;exact if_neg h
   rw[e1,e2,show(if decide (b n>L)=true then cnt (λi=>decide (b i>L)) n+1 else cnt (λi=>decide (b i>L)) n)=cnt (λi=>decide (b i>L)) n from if_neg (λz=>h (of_decide_eq_true z))];lia
theorem zgP{b:Nat->Int}:∀{n:Nat},(∀i,i<n->0<=b i)->lvS b 0 n=0
 | 0,_=>rfl
 | n+1,h=>by
  have a:=zgP (n:=n) λi hi=>h i ⋯
  have:=h n ⋯
  unfold lvS at a ⊢;rw[sumTo,a];unfold mn;split<;>lia
theorem zkL{b:Nat->Int}:∀{n:Nat},(∀i,i<n->0<=b i)->∀i,i<n->b i<=sumTo b n
 | 0,_,i,hi=>by lia
 | n+1,h,i,hi=>by
  have a:=sumTo_nonneg (n:=n) λi hi=>h i ⋯
  have:=h n ⋯
  rw[sumTo];by_cases e:i=n
  ·subst e;lia
  ·have:=zkL (n:=n) (λi hi=>h i ⋯) i ⋯;lia
def ztM{b:Nat->Int}(a:∀i,i<n->0<=b i)(d:0<=c)(f:c<sumTo b n):∃L,IsLev c n b L:=by
 refine yG λno=>?_;have all:∀k:Nat,lvS b (k:Int) n<=c:=by
  intro k
  induction k with
  | zero=>rw[show((0:Nat):Int)=0 from rfl,zgP a];exact d
  | succ k ih=>
   refine yG λq=>no ⟨(k:Int),ih,?_⟩;rw[show((k:Nat):Int)+1=((k+1:Nat):Int) by lia];lia
 have h:=all (sumTo b n).toNat;have e:lvS b (((sumTo b n).toNat:Nat):Int) n=sumTo b n:=zdL λi hi=>by
  have:=zkL a i hi
  unfold mn;split<;>lia
 rw[e]at h;lia
noncomputable def levelF (c:Int) (n:Nat) (b:Nat->Int):Nat->Int:=
 if c=sumTo b n then b else more (λi=>decide (b i>lev c n b)) (λi=>mn (b i) (lev c n b)) (c-lvS b (lev c n b) n)
def levelF_all{b:Nat->Int}(h:c=sumTo b n):levelF c n b=b:=by unfold levelF;rw[if_pos h]
def levelF_lev{b:Nat->Int}{L:Int}(h:¬c=sumTo b n)(a:IsLev c n b L):levelF c n b=more (λi=>decide (b i>L)) (λi=>mn (b i) L) (c-lvS b L n):=by unfold levelF;rw[if_neg h,zuk a]
theorem zkY{ch:Nat->Bool}{L:Int}:∀m:Nat,(∀i,i<m->ch i=true->rest ch L i>0)->rest ch L m=L-cnt ch m
 | 0,_=>by show L=L-0;lia
 | m+1,h=>by
  have b:=zkY m λi hi=>h i ⋯;rw[rest,cnt];by_cases a:ch m=true
  ·rw[if_pos ⟨a,h m ⋯ a⟩,if_pos a];lia
  ·rw[if_neg λz=>a z.1,if_neg a];exact b
set_option genInjectivity false in
set_option genSizeOf false in
structure LevelOk(c:Int)(n:Nat)(b f:Nat->Int):Prop where
 sum:sumTo f n=c
 lo:∀i,i<n->0<=f i
 hi:∀i,i<n->f i<=b i
 lev:(∀i,i<n->f i=b i)\/∃L,(∃i,i<n/\f i=L/\L<b i)/\∀i,i<n->(b i<=L->f i=b i)/\(L<b i->f i=L\/f i=L+1)/\∀j,j<i->L<b j->f j=L->L<b i->f i=L
def level_ok{b:Nat->Int}(k:∀i,i<n->0<=b i)(s:0<=c)(w:c<=sumTo b n):LevelOk c n b (levelF c n b):=by
 by_cases h:c=sumTo b n
 ·rw[levelF_all h];exact⟨h.symm,k,λ_ _=>yD _,.inl λ_ _=>rfl⟩
 obtain⟨L,l⟩:=ztM k s ⋯;rw[levelF_lev h l];have y:=zld b L n;have h1:=l.lo;have h2:=l.hi;have g:0<=c-lvS b L n:=by lia
 have u:c-lvS b L n<cnt (λi=>decide (b i>L)) n:=by lia
 have m:0<=L:=by
  refine yG λq=>?_
  have:=zgF (b:=b) (show L+1<=0 by lia) n
  rw[zgP k]at this;lia
 have e:=rest_end (ch:=λi=>decide (b i>L)) (n:=n) g ⋯;have f:=rest_nonneg (ch:=λi=>decide (b i>L)) g;have a:∀i,more (λi=>decide (b i>L)) (λi=>mn (b i) L) (c-lvS b L n) i=if(decide (b i>L))=true/\rest (λi=>decide (b i>L)) (c-lvS b L n) i>0 then mn (b i) L+1 else mn (b i) L:=λi=>rfl
 have big:∀i,b i>L->mn (b i) L=L:=λi q=>by unfold mn;exact if_pos q
 have d:∀i,¬b i>L->mn (b i) L=b i:=λi q=>by unfold mn;exact if_neg q
 refine⟨?_,?_,?_,.inr ⟨L,?_,?_⟩⟩
 ·rw[sum_more,e];show lvS b L n+_=c;lia
 ·intro i hi
  have:=mn_nonneg (k i hi) m
  rw[a];split<;>lia
 ·intro i hi
  have:=mn_le_l (b i) L
  rw[a];split
  ·rename_i q;have q1:=of_decide_eq_true q.1;rw[big i q1];lia
  ·lia
 ·refine yG λno=>?_
  have:=zkY (ch:=λi=>decide (b i>L)) (L:=c-lvS b L n) n λi hi p=>by
   refine yG λq=>no ⟨i,hi,?_,of_decide_eq_true p⟩;rw[a,if_neg λz=>q z.2];exact big i (of_decide_eq_true p)
  have:=f n
  lia
 ·intro i hi;refine⟨λq=>?_,λq=>?_,λj v o t r=>?_⟩
  ·rw[a,if_neg λz=>by have:=of_decide_eq_true z.1;lia];exact d i ⋯
  ·rw[a];split
   ·rw[big i q];exact .inr rfl
   ·rw[big i q];exact .inl rfl
  ·have x:¬rest (λi=>decide (b i>L)) (c-lvS b L n) j>0:=λq=>by
    rw[a,if_pos ⟨decide_eq_true o,q⟩,big j o]at t;lia
   have:=zjc (ch:=λi=>decide (b i>L)) (L:=c-lvS b L n) (i-j) j
   rw[show j+(i-j)=i by lia]at this
   have:=f i
   rw[a,if_neg λz=>by have:=z.2;lia];exact big i r
noncomputable def sumL:List Int->Int
 | []=>0
 | x :: xs=>x+sumL xs
theorem zet:∀xs ys:List Int,sumL (xs++ys)=sumL xs+sumL ys
 | [],ys=>by show sumL ys=0+sumL ys;lia
 | x :: xs,ys=>by show x+sumL (xs++ys)=x+sumL xs+sumL ys;rw[zet xs ys];lia
def sumL_perm{xs ys:List Int}(h:List.Perm xs ys):sumL xs=sumL ys:=by
 induction h with
 | nil=>rfl
 | cons x _ ih=>show x+_=x+_;rw[ih]
 | swap x y l=>show y+(x+sumL l)=x+(y+sumL l);lia
 | trans _ _ h1 h2=>exact h1.trans h2
theorem sumL_range(f:Nat->Int):∀n,sumL ((List.range n).map f)=sumTo f n
 | 0=>rfl
 | n+1=>by
  rw[yO,yj,zet,sumL_range f n];show sumTo f n+(f n+0)=sumTo f n+f n;lia
theorem zh1{L:Int}:∀{xs:List Int},(∀x∈xs,x<=L)->sumL (xs.map λx=>mn x L)=sumL xs
 | [],_=>rfl
 | x :: xs,h=>by
  have:=h x (.head _)
  show mn x L+sumL (xs.map λx=>mn x L)=x+sumL xs;rw[zh1 λy a=>h y (.tail _ a)];unfold mn;split<;>lia
theorem zia{L:Int}:∀{xs:List Int},(∀x∈xs,L<=x)->sumL (xs.map λx=>mn x L)=xs.length*L
 | [],_=>by simp[sumL]
 | x :: xs,h=>by
  have:=h x (.head _)
  show mn x L+sumL (xs.map λx=>mn x L)=((xs.length+1:Nat):Int)*L;rw[zia λy a=>h y (.tail _ a),show((xs.length+1:Nat):Int)*L=xs.length*L+L by rw[Int.natCast_succ,yaZ,ybD]];unfold mn;split<;>lia
set_option genInjectivity false in
set_option genSizeOf false in
structure LvInv(c:Int)(ms:List Int)(i:Nat)(r:Int):Prop where
 rest:r=c-sumL (ms.take i)
 below:∀x∈ms.take i,x*((ms.length:Int)-(i:Int))<=r
def LvInv.step{r x:Int}(h:LvInv c ms i r)(l:ms.Pairwise (·<=·))(d:ms[i]?=some x)(hle:x*((ms.length:Int)-i)<=r):LvInv c ms (i+1) (r-x):=by
 obtain⟨hi,ex⟩:=yk.mp d;have f:ms.take (i+1)=ms.take i++[x]:=by rw[ybl,d];rfl
 have a:x*((ms.length:Int)-((i+1:Nat):Int))<=r-x:=by
  have:x*((ms.length:Int)-((i+1:Nat):Int))=x*((ms.length:Int)-i)-x:=by
   rw[show(ms.length:Int)-((i+1:Nat):Int)=(ms.length:Int)-i-1 by lia,Int.mul_sub,ybm]
  lia
 refine⟨?_,λy e=>?_⟩
 ·rw[f,zet,h.rest];show _=c-(sumL (ms.take i)+(x+0))
  lia
 ·rw[f]at e;rcases yA.mp e with q | q
  ·have b:y<=x:=by
    obtain⟨j,g,k⟩:=yP q;rw[List.getElem_take]at k;rw[yag]at g
    have:=yaQ.mp l j i ⋯ hi ⋯
    lia
   have hp:(0:Int)<=(ms.length:Int)-((i+1:Nat):Int):=by lia
   exact yaR (yL b hp) a
  ·rw[yp.mp q];exact a
def LvInv.done{r x:Int}(h:LvInv c ms i r)(t:ms.Pairwise (·<=·))(o:ms[i]?=some x)(s:x*((ms.length:Int)-i)>r){b:Nat->Int}(hp:List.Perm ms ((List.range n).map b)):IsLev c n b (r/((ms.length:Int)-i)):=by
 obtain⟨hi,ex⟩:=yk.mp o;have l:(0:Int)<(ms.length:Int)-i:=by lia
 generalize hkk:(ms.length:Int)-i=k at *
 have p:=yaJ r k;have w:=yad r (show k≠0 by lia);have d3:=yab r l;generalize hL:r/k=L at *
 have u:L<x:=by
  refine yG λq=>?_
  have:x*k<=L*k:=yL ⋯ ⋯
  rw[yaf]at p;lia
 have lo:∀y∈ms.take i,y<=L:=λy a=>by
  refine yG λq=>?_;have h1:=h.below y a;rw[hkk]at h1
  have:(L+1)*k<=y*k:=yL ⋯ ⋯
  rw[yaZ,ybD,yaf L k]at this;lia
 have f:∀y∈ms.drop i,L+1<=y:=λy a=>by
  obtain⟨j,m,g⟩:=yP a;rw[ya4]at m;rw[List.getElem_drop]at g;by_cases e:j=0
  ·subst e
   have:x=y:=by rw[<- ex,<- g];rfl
   lia
  ·have:=yaQ.mp t i (i+j) hi ⋯ ⋯
   lia
 have d:∀M,lvS b M n=sumL ((ms.take i).map λx=>mn x M)+sumL ((ms.drop i).map λx=>mn x M):=λM=>by
  have e1:lvS b M n=sumL (((List.range n).map b).map λx=>mn x M):=by rw[ybA];exact(sumL_range _ n).symm
  rw[e1,<- sumL_perm (hp.map λx=>mn x M),<- zet,<- yj,ya7]
 have ld:((ms.drop i).length:Int)=k:=by rw[ya4];lia
 have v:=h.rest;constructor
 ·rw[d,zh1 lo,zia λy a=>by have:=f y a;lia,ld];lia
 ·rw[d,zh1 λy a=>by have:=lo y a;lia,zia f,ld,ybo,ybm];lia
def LvInv.zero:LvInv c ms 0 c:=⟨by rw[yaT];show c=c-0;lia,λx h=>by rw[yaT]at h;cases h⟩
def lv_nn{x m r:Int}(a:0<=x)(b:1<=m)(h:x*m<=r):0<=r-x:=by
 have:=yaD b a
 rw[ybm]at this;lia
def LvInv.never{r:Int}(h:LvInv c ms ms.length r)(a:c<sumL ms)(b:0<=r):False:=by
 have:=h.rest
 rw[yz]at this;lia
end My
namespace Internal
variable {C T a b l p:Addr}{E:XK}{H H':Hp}{K:Fg}{Q:VK}{R S f:Nat->Int}{W:Nat->Bool}{X:Cx}{c:Int}{i j k m n:Nat}{ms:List Int}{o:HO}{q r:Rat}{tg:Expr}{tl:TE}{v y:V}{ws:List Str}{xs:List V}{σ:St}
open PySem PySem.Spec PyProof.Rows
section
variable {H:Hp}{Q:VK}{K:Fg}
theorem zfL{w:Str}:∀ws:List Str,inV (.str w) (ws.map V.str)=decide (w∈ws)
 | []=>by simp[inV]
 | n :: ns=>by
  have a:=zfL (w:=w) ns;unfold inV at a ⊢;rw[yH,ybt,a]
  show((n == w) || _)=_
  by_cases h:n=w
  ·subst h;simp
  ·have:¬w=n:=λz=>h z.symm
   simp[h,this]
theorem zdy:∀ws:List Str,(ws.map V.str).all zcB=true
 | []=>rfl
 | w :: ws=>by rw[yH,ya1,zdy ws];rfl
def zqX{w:Str}(h:SqT K H a (ws.map V.str))(q:Q (.bl (decide (w∈ws))) H):rIn K false (.str w) (.ref a) H Q:=
 ⟨a,_,rfl,.inr h,rfl,zdy ws,by rw[if_neg yn,zfL];exact q⟩
def zkg{w:Str}(h:SqT K H a (ws.map V.str))(q:Q (.bl (!decide (w∈ws))) H):rIn K true (.str w) (.ref a) H Q:=
 ⟨a,_,rfl,.inr h,rfl,zdy ws,by rw[if_pos rfl,zfL];exact q⟩
def ztu{w:Str}(h:SqL K H a (ws.map V.str))(q:Q (.bl (decide (w∈ws))) H):rIn K false (.str w) (.ref a) H Q:=
 ⟨a,_,rfl,.inl h,rfl,zdy ws,by rw[if_neg yn,zfL];exact q⟩
end
def zpM:zcu (xs++[y]) none (some (-1))=xs:=by
 unfold zcu;have e:HT.sIx (xs++[y]).length (xs++[y]).length (some (-1))=xs.length:=by
  show(if(-1:Int)<0 then(-1+(((xs++[y]).length:Nat):Int)).toNat else min (-1:Int).toNat (xs++[y]).length)=_
  rw[if_pos (by decide),yf]
  show(-1+((xs.length+1:Nat):Int)).toNat=_
  lia
 rw[e,HT.sIx_none,List.drop_zero,Nat.sub_zero,List.take_append_of_le_length (yh _),yz]
def zlq:zcu xs none (some (k:Int))=xs.take k:=by
 unfold zcu;have e:HT.sIx xs.length xs.length (some (k:Int))=min k xs.length:=by
  show(if(k:Int)<0 then((k:Int)+(xs.length:Int)).toNat else min (k:Int).toNat xs.length)=_
  rw[if_neg ⋯];rfl
 rw[e,HT.sIx_none,List.drop_zero,Nat.sub_zero];exact List.take_eq_take_min.symm
def zmv(h:(ws.map V.str)[i]?=some v):∃w,ws[i]?=some w/\v=.str w:=by
 rw[yg]at h;cases hw:ws[i]? with
 | none=>rw[hw]at h;cases h
 | some w=>rw[hw]at h;exact⟨w,rfl,(yq h).symm⟩
def zpQ{w:Str}(nd:ws.Nodup)(h:ws[i]?=some w):w∉ws.take i:=λc=>by
 obtain⟨hi,d⟩:=yk.mp h;obtain⟨j,b,a⟩:=yP c;rw[yag]at b;rw[List.getElem_take]at a;exact yaQ.mp nd j i ⋯ hi ⋯ (a.trans d.symm)
noncomputable def words5:List Str:=["pledge", "share", "own", "others", "level"]
def zpC{w:Str}(h:w∈words5):PyData.canLay0 (.str w)=true:=by
 unfold words5 at h;simp only[yt,yR,or_false]at h;rcases h with h | h | h | h | h<;>rw[h]<;>decide +kernel
noncomputable def Lit (n:Nat) (b:Nat->Int):Prop:=∀i,i<n->0<=b i/\b i<=100000000000000
def Lit.nn{b:Nat->Int}(h:Lit n b):∀i,i<n->0<=b i:=λi hi=>(h i hi).1
theorem Lit.sz{n:Nat}{b:Nat->Int}(h:Lit n b):∀i,i<n->0<=b i/\Internal.sz (b i)<=300:=λi hi=>⟨(h i hi).1,yc (sz200 (by have:=h i hi;lia) (by have:=h i hi;lia)) (by decide)⟩
def Lit.sum{b:Nat->Int}(h:Lit n b):0<=My.sumTo b n/\My.sumTo b n<=n*100000000000000:=⟨My.sumTo_nonneg h.nn,zgi λi hi=>(h i hi).2⟩
def Lit.szS{b:Nat->Int}(h:Lit n b)(hn:n<=9):Internal.sz (My.sumTo b n)<=300:=by
 have:=h.sum
 exact yc (sz200 ⋯ ⋯) (by decide)
noncomputable def zpa (K:Fg):Sp:=λvs H Q _=>∃(c:Int) (a:Addr) (n:Nat) (b:Nat->Int),vs=[.int c,.ref a]/\SqL K H a ((vec n b).map V.int)/\n<=9/\Lit n b/\0<=c/\c<My.sumTo b n/\∀L H',Same H H'->My.IsLev c n b L->Q (.int L) H'
noncomputable def zqq (K:Fg):Sp:=λvs H Q _=>∃(c:Int) (a:Addr) (n:Nat) (b:Nat->Int),vs=[.int c,.ref a]/\SqL K H a ((vec n b).map V.int)/\n<=9/\Lit n b/\0<=c/\c<=My.sumTo b n/\zb0 H Q (vec n (My.levelF c n b))
def zqF(n:Nat)(b:Nat->Int):My.sumL (vec n b)=My.sumTo b n:=My.sumL_range b n
def zmw{b:Nat->Int}{x:Int}(h:x∈vec n b):∃i,i<n/\x=b i:=by
 obtain⟨i,hi,e⟩:=yaw.mp h;exact⟨i,yZ.mp hi,e.symm⟩
noncomputable def zbr (S:Nat->Int) (W:Nat->Bool):Nat->Int:=λi=>if W i=true then S i else 0
def zfM(h:Lit n S):Lit n (zbr S W):=λi hi=>by
 have:=h i hi
 unfold zbr;split<;>lia
noncomputable def zdq (n:Nat) (R S:Nat->Int) (W:Nat->Bool):Int:=My.mn (My.sumTo (zbr S W) n) (My.sumTo R n)
noncomputable def zaB (w:Str) (n:Nat) (R P S:Nat->Int) (W:Nat->Bool):Nat->Int:=
 if w = "pledge" then λi=>My.mn (R i) (P i)else if w = "share" then λi=>My.mn (R i) (S i)else if w = "own" then λ_=>0
 else if w = "others" then zaI (zdq n R S W) n (zbr S W)else My.levelF (zdq n R S W) n (zbr S W)
noncomputable def zbh (w:Str) (n:Nat) (R:Nat->Int) (own:Int):Int:=if w = "own" then My.mn own (My.sumTo R n)else 0
noncomputable def zc3 (w:Str) (n:Nat) (R P S:Nat->Int) (own:Int) (W:Nat->Bool):Nat->Int:=
 if w = "pledge" \/ w = "share" then zaB w n R P S W else zaI (My.sumTo (zaB w n R P S W) n+zbh w n R own) n R
def zfD{b:Nat->Int}(e:∀i,i<n->0<=b i)(d:0<=c/\c<=My.sumTo b n)(hi:i<n):0<=zaI c n b i/\zaI c n b i<=b i:=by
 have f:=My.sumTo_nonneg e;have a:=e i hi;by_cases h:My.sumTo b n=0
 ·rw[zdN h];exact⟨yD _,a⟩
 have hp:0<My.sumTo b n:=by lia
 obtain⟨j,g,_⟩:=zlD (c:=c) hp i;generalize zaI c n b i=x at *
 generalize My.sumTo b n=B at *
 have h1:0<=c*b i:=Int.mul_nonneg d.1 a;have h2:c*b i<=B*b i:=yL d.2 a;constructor
 ·refine yG λq=>?_
  have:x*B<=-1*B:=yL ⋯ ⋯
  lia
 ·refine yG λq=>?_
  have:(b i+1)*B<=x*B:=yL ⋯ ⋯
  rw[yaZ,ybD,yaf (b i) B]at this;lia
def zfH(a:Lit n R)(b:Lit n S):0<=zdq n R S W/\zdq n R S W<=My.sumTo (zbr S W) n/\zdq n R S W<=My.sumTo R n:=
 ⟨My.mn_nonneg (zfM b).sum.1 a.sum.1,My.mn_le_l _ _,My.mn_le_r _ _⟩
def znv{w:Str}{P:Nat->Int}(h:¬w = "pledge")(c:Lit n R)(a:Lit n S)(hi:i<n):0<=zaB w n R P S W i/\zaB w n R P S W i<=S i:=by
 obtain⟨b,e,j⟩:=zfH (W:=W) c a;have g:=zfM (W:=W) a;have f:=(a i hi).1;have d:zbr S W i<=S i:=by unfold zbr;split<;>lia
 unfold zaB;rw[if_neg h];split
 ·exact⟨My.mn_nonneg (c i hi).1 f,My.mn_le_r _ _⟩
 ·split
  ·exact⟨yD _,f⟩
  ·split
   ·obtain⟨h1,h2⟩:=zfD g.nn ⟨b,e⟩ hi;exact⟨h1,yaR h2 d⟩
   ·have:=My.level_ok g.nn b e
    exact⟨this.lo i hi,yaR (this.hi i hi) d⟩
def zsw{w:Str}{P:Nat->Int}{own:Int}(h1:¬w = "pledge")(h2:¬w = "share")(f:Lit n R)(d:Lit n S):My.sumTo (zaB w n R P S W) n+zbh w n R own=if w = "own" then My.mn own (My.sumTo R n)else zdq n R S W:=by
 obtain⟨b,c,g⟩:=zfH (W:=W) f d;have e:=zfM (W:=W) d;unfold zaB zbh;rw[if_neg h1,if_neg h2];by_cases a:w = "own"
 ·rw[if_pos a,if_pos a,if_pos a,zcg];lia
 ·rw[if_neg a,if_neg a,if_neg a];split
  ·rw[zo5 e.nn ⟨b,c⟩];lia
  ·rw[(My.level_ok e.nn b c).sum];lia
def zhC{w:Str}{P:Nat->Int}{own:Int}(h1:¬w = "pledge")(h2:¬w = "share")(a:Lit n R)(b:Lit n S)(d:0<=own):0<=My.sumTo (zaB w n R P S W) n+zbh w n R own/\My.sumTo (zaB w n R P S W) n+zbh w n R own<=My.sumTo R n:=by
 obtain⟨c,f,e⟩:=zfH (W:=W) a b;rw[zsw h1 h2 a b];split
 ·exact⟨My.mn_nonneg d a.sum.1,My.mn_le_r _ _⟩
 ·exact⟨c,e⟩
def zeo{w:Str}{P:Nat->Int}{own:Int}(a:Lit n R)(d:Lit n P)(b:Lit n S)(c:0<=own)(hi:i<n):0<=zc3 w n R P S own W i/\zc3 w n R P S own W i<=R i:=by
 unfold zc3;by_cases h1:w = "pledge"
 ·rw[if_pos (.inl h1)];unfold zaB;rw[if_pos h1];exact⟨My.mn_nonneg (a i hi).1 (d i hi).1,My.mn_le_l _ _⟩
 by_cases h2:w = "share"
 ·rw[if_pos (.inr h2)];unfold zaB;rw[if_neg h1,if_pos h2];exact⟨My.mn_nonneg (a i hi).1 (b i hi).1,My.mn_le_l _ _⟩
 rw[if_neg (λz=>z.elim h1 h2)];exact zfD a.nn (zhC h1 h2 a b c) hi
noncomputable def zsz (K:Fg):Sp:=λvs H Q _=>∃(w:Str) (r p s wh:Addr) (own:Int) (n:Nat) (R P S:Nat->Int) (W:Nat->Bool),vs=[.str w,.ref r,.ref p,.ref s,.int own,.ref wh]/\SqL K H r ((vec n R).map V.int)/\SqL K H p ((vec n P).map V.int)/\SqL K H s ((vec n S).map V.int)/\SqL K H wh (bls n W)/\n<=9/\Lit n R/\Lit n S/\w∈words5/\zb0 H Q (vec n (zaB w n R P S W)++[zbh w n R own])
noncomputable def zrP (K:Fg):Sp:=λvs H Q _=>∃(w:Str) (r b:Addr) (own:Int) (n:Nat) (R P S:Nat->Int) (W:Nat->Bool),vs=[.str w,.ref r,.ref b]/\SqL K H r ((vec n R).map V.int)/\SqL K H b ((vec n (zaB w n R P S W)++[zbh w n R own]).map V.int)/\n<=9/\Lit n R/\Lit n S/\0<=own/\zb0 H Q (vec n (zc3 w n R P S own W))
noncomputable def zst (K:Fg):Sp:=λvs H Q _=>∃(a o:Addr) (n:Nat) (A B:Nat->Int) (ns:List Int),vs=[.ref a,.ref o]/\SqL K H a ((vec n A).map V.int)/\SqL K H o (ns.map V.int)/\n<=100/\(∀i,i<n->ns[i]?=some (B i))/\zb0 H Q (vec n λi=>A i-B i)
set_option genInjectivity false in
set_option genSizeOf false in
structure LRow where
 w:Str
 f:Nat->Int
 x:Int
 gv:Nat->Int
variable {row:Nat->LRow}
noncomputable def zm5 (n:Nat) (G P:Nat->Int) (own:Int) (w:Str) (R S:Nat->Int):LRow:=⟨w,zaB w n R P S (λi=>decide (G i=0)),zbh w n R own,zc3 w n R P S own (λi=>decide (G i=0))⟩
noncomputable def zhb (r:LRow) (R:Nat->Int):Nat->Int:=λi=>R i-r.gv i
noncomputable def zhP (r:LRow) (S:Nat->Int):Nat->Int:=if r.w∈(["share", "others", "level"]:List Str)then λi=>S i-r.f i else S
noncomputable def lays (n:Nat) (G P:Nat->Int) (own:Int) (ws:List Str) (a:Nat->Int):Nat->(Nat->Int) × (Nat->Int)
 | 0=>(G,a)
 | i+1=>(zhb (zm5 n G P own (ws.getD i "") (lays n G P own ws a i).1 (lays n G P own ws a i).2) (lays n G P own ws a i).1,zhP (zm5 n G P own (ws.getD i "") (lays n G P own ws a i).1 (lays n G P own ws a i).2) (lays n G P own ws a i).2)
noncomputable def zaU (n:Nat) (G P:Nat->Int) (own:Int) (ws:List Str) (a:Nat->Int) (i:Nat):LRow:=zm5 n G P own (ws.getD i "") (lays n G P own ws a i).1 (lays n G P own ws a i).2
def zdD{G P:Nat->Int}{own:Int}{a:Nat->Int}:lays n G P own ws a (i+1)=(zhb (zaU n G P own ws a i) (lays n G P own ws a i).1,zhP (zaU n G P own ws a i) (lays n G P own ws a i).2):=rfl
theorem zev{n:Nat}{G P:Nat->Int}{own:Int}{ws:List Str}{a:Nat->Int}(g:Lit n G)(k:Lit n P)(d:Lit n a)(h:0<=own):∀i,Lit n (lays n G P own ws a i).1/\Lit n (lays n G P own ws a i).2
 | 0=>⟨g,d⟩
 | i+1=>by
  obtain⟨h1,h2⟩:=zev (ws:=ws) g k d h i;rw[zdD];refine⟨λj b=>?_,λj b=>?_⟩
  ·have:=zeo (w:=ws.getD i "") (own:=own) (W:=λi=>decide (G i=0)) h1 k h2 h b
   have:=h1 j b
   have e:zhb (zaU n G P own ws a i) (lays n G P own ws a i).1 j=(lays n G P own ws a i).1 j-zc3 (ws.getD i "") n (lays n G P own ws a i).1 P (lays n G P own ws a i).2 own (λi=>decide (G i=0)) j:=rfl;show 0<=zhb (zaU n G P own ws a i) (lays n G P own ws a i).1 j/\zhb (zaU n G P own ws a i) (lays n G P own ws a i).1 j<=100000000000000;rw[e];lia
  ·show 0<=zhP (zaU n G P own ws a i) (lays n G P own ws a i).2 j/\zhP (zaU n G P own ws a i) (lays n G P own ws a i).2 j<=100000000000000;unfold zhP;split
   ·rename_i m;have l:¬ws.getD i "" = "pledge" := λe=>by
     have c:ws.getD i "" ∈ (["share", "others", "level"]:List Str):=m;rw[e]at c;revert c;decide +kernel
    have:=znv (P:=P) (W:=λi=>decide (G i=0)) l h1 h2 b
    have:=h2 j b
    have e:(zaU n G P own ws a i).f j=zaB (ws.getD i "") n (lays n G P own ws a i).1 P (lays n G P own ws a i).2 (λi=>decide (G i=0)) j:=rfl;show 0<=(lays n G P own ws a i).2 j-(zaU n G P own ws a i).f j/\(lays n G P own ws a i).2 j-(zaU n G P own ws a i).f j<=100000000000000;rw[e];lia
   ·exact h2 j b
noncomputable def LRs (H:Hp) (n:Nat) (row:Nat->LRow) (tr:List (Addr × Addr × Addr)):Prop:=∀(i:Nat) (t:Addr × Addr × Addr),tr[i]?=some t ->
 H t.1=some (.tup [.str (row i).w,.ref t.2.1,.ref t.2.2])/\H t.2.1=some (.lst ((vec n (row i).gv).map V.int))/\H t.2.2=some (.lst ((vec n (row i).f++[(row i).x]).map V.int))
def LRs.same{tr:List (Addr × Addr × Addr)}(h:LRs H n row tr)(e:Same H H'):LRs H' n row tr:=λi t a=>⟨e.at (h i t a).1,e.at (h i t a).2.1,e.at (h i t a).2.2⟩
noncomputable def zaV (tr:List (Addr × Addr × Addr)):List Addr:=tr.flatMap λt=>[t.2.1,t.2.2]
def mem_flatA{tr:List (Addr × Addr × Addr)}:a∈zaV tr↔∃t∈tr,a=t.2.1\/a=t.2.2:=by
 unfold zaV;rw[List.mem_flatMap];constructor
 ·rintro⟨t,b,h⟩
  refine⟨t,b,?_⟩
  simpa using h
 ·rintro⟨t,b,h⟩
  exact⟨t,b,by simpa using h⟩
def zeu{tr:List (Addr × Addr × Addr)}{t:Addr × Addr × Addr}:zaV (tr++[t])=zaV tr++[t.2.1,t.2.2]:=by unfold zaV;rw[List.flatMap_append];simp
def LRs.flat{tr:List (Addr × Addr × Addr)}(h:LRs H n row tr)(d:a∈zaV tr):∃ns:List Int,H a=some (.lst (ns.map V.int)):=by
 obtain⟨t,c,e⟩:=mem_flatA.mp d;obtain⟨i,hi,b⟩:=yP c
 have:=h i t (by rw[yr hi,b])
 rcases e with e | e<;>rw[e]
 ·exact⟨_,this.2.1⟩
 ·exact⟨_,this.2.2⟩
set_option genInjectivity false in
set_option genSizeOf false in
structure LTold(H H':Hp)(n:Nat)(row:Nat->LRow)(rests:Nat->Int)(m:Nat)(p rs re:Addr)(tr:List (Addr × Addr × Addr)):Prop where
 same:Same H H'
 hp:H' p=some (.tup [.ref rs,.ref re])
 hrs:H' rs=some (.lst (tr.map λt=>V.ref t.1))
 hre:H' re=some (.lst ((vec n rests).map V.int))
 len:tr.length=m
 rows:LRs H' n row tr
 fre:H re=none
 frs:H rs=none
 ffl:∀a∈zaV tr,H a=none
 nd:(zaV tr).Nodup
 nre:re∉zaV tr
 nrs:rs∉zaV tr
 ne:rs≠re
theorem zdf{K:Fg}{H:Hp}:∀{ws:List Str},(∀w∈ws,w∈words5)->RepAll K H (ws.map V.str) (ws.map PyData.str)
 | [],_=>.nil
 | w :: ws,h=>.cons (.str w (zpC (h w (.head _)))) (zdf λx a=>h x (.tail _ a))
theorem zeH:∀ws:List Str,PyData.depthAll (ws.map PyData.str)=0
 | []=>by simp[PyData.depthAll]
 | w :: ws=>by rw[yH,PyData.depthAll,zeH ws];simp[PyData.depth]
set_option genInjectivity false in
set_option genSizeOf false in
structure LT(H:Hp)(n:Nat)(row:Nat->LRow)(rests:Nat->Int)(m:Nat)(p rs re:Addr)(tr:List (Addr × Addr × Addr)):Prop where
 hp:H p=some (.tup [.ref rs,.ref re])
 hrs:H rs=some (.lst (tr.map λt=>V.ref t.1))
 hre:H re=some (.lst ((vec n rests).map V.int))
 len:tr.length=m
 rows:LRs H n row tr
def LTold.lt{a:Nat->Int}{b re:Addr}{tr:List (Addr × Addr × Addr)}(h:LTold H H' n row a m p b re tr):LT H' n row a m p b re tr:=⟨h.hp,h.hrs,h.hre,h.len,h.rows⟩
theorem LT.same{H H':Hp}{n:Nat}{row:Nat->LRow}{a:Nat->Int}{m:Nat}{p b re:Addr}{tr:List (Addr × Addr × Addr)}(h:LT H n row a m p b re tr)(e:Same H H'):LT H' n row a m p b re tr:=⟨e.at h.hp,e.at h.hrs,e.at h.hre,h.len,h.rows.same e⟩
noncomputable def zmB (K:Fg):Sp:=λvs H Q _=>∃(a:Addr) (ns:List Int) (k:Int),vs=[.ref a,.int k]/\SqL K H a (ns.map V.int)/\0<=k/\k<=1000/\∀p H' (ws:List Str),H p=none->Same H H'->H' p=some (.lst (ws.map V.str))->(∀w∈ws,w∈words5)->ws.Nodup->ws.length<=5->Q (.ref p) H'
def zkX:words5.Nodup:=by decide +kernel
def ztI{i:Int}(h:H l=some (.lst xs))(a:0<=i)(hi:xs[i.toNat]?=some y)(c:xs.length<=1000)(q:∀H',LBut l H H'->H' l=some (.lst (xs.eraseIdx i.toNat))->Q y H'):znT (.ref l) [.int i] H Q:=by
 have b:=(yk.mp hi).1;refine⟨l,xs,i,i.toNat,y,rfl,rfl,h,⋯,⋯,?_,hi,q _ ⟨But.upd,xs,h⟩ zF⟩;unfold seqIndex?;have h1:¬i<0:=by lia
 have h2:i<(xs.length:Int):=by lia
 simp[h1,a,h2]
def zpJ(h:H l=some (.lst xs))(q:∀H',LBut l H H'->H' l=some (.lst [])->Q .non H'):zpi (.ref l) [] H Q:=⟨l,xs,rfl,rfl,h,q _ ⟨But.upd,xs,h⟩ zF⟩
set_option genInjectivity false in
set_option genSizeOf false in
structure LMore(H H':Hp)(n:Nat)(row:Nat->LRow)(tr:List (Addr × Addr × Addr))(i:Nat):Prop where
 tup:∀c xs,H c=some (.tup xs)->H' c=some (.tup xs)
 keep:∀c o,c∉zaV tr->H c=some o->H' c=some o
 rows:∀(j:Nat) (t:Addr × Addr × Addr),tr[j]?=some t->H' t.2.1=some (.lst ((vec n (row j).gv++if j<i then[3] else[]).map V.int))/\H' t.2.2=some (.lst ((vec n (row j).f++[(row j).x]++if j<i then[3] else[]).map V.int))
def znS(l:List Str)(i:Nat):(l.map V.str).eraseIdx i=(l.eraseIdx i).map V.str:=by rw[yaz,yaz,yj,ya3,List.map_drop]
def znz{l:List Str}{v:Str}(h:l[i]?=some v):List.Perm (v :: l.eraseIdx i) l:=by
 obtain⟨hi,e⟩:=yk.mp h;have e2:l=l.take i++v :: l.drop (i+1):=by
  rw[<- e,<- List.drop_eq_getElem_cons hi];exact(ya7 i l).symm
 rw[yaz];exact(List.perm_middle (a:=v) (l₁:=l.take i) (l₂:=l.drop (i+1))).symm.trans (.of_eq e2.symm)
set_option genInjectivity false in
set_option genSizeOf false in
structure Line(L:Nat->Int)(n:Nat)(q:List Nat):Prop where
 perm:q.Perm (List.range n)
 up:∀a b,a<=b->b<n->-L (q.getD a 0)*64+(q.getD a 0:Int)<=-L (q.getD b 0)*64+(q.getD b 0:Int)
section
variable {L:Nat->Int}{n:Nat}{q:List Nat}
def Line.len(h:Line L n q):q.length=n:=by have:=h.perm.length_eq;rwa [yM]at this
def Line.lt(h:Line L n q)(hi:i∈q):i<n:=yZ.mp (h.perm.mem_iff.mp hi)
def Line.getLt(h:Line L n q)(hn:0<n)(a:Nat):q.getD a 0<n:=by
 rw[yi];cases e:q[a]? with
 | none=>exact hn
 | some i=>exact h.lt (ym e)
end
def zsl{q:List Nat}(h:i<q.length):(zcN q)[i]?=some ((q.getD i 0:Nat):Int):=by
 unfold zcN;rw[yg,yi,yr h];rfl
def znZ{q:List Nat}:(zcN q).take k=zcN (q.take k):=by unfold zcN;rw[ya3]
def zoa:zcu (ms.map V.int) none (some (k:Int))=(ms.take k).map V.int:=by rw[zlq,ya3]
def zvd{ta:TA}{tb:TE}{lpos:Pos}{d:Str}{Q:VK} (h:ta σ H λvs H1=>Tb H1 T lpos d/\∃(r:Addr) (n:Nat) (u:V) (g:Nat->Int),vs=[.ref r]/\H1 r=some (.rng 0 (n:Int))/\1<=n/\n<64/\σ[j]?=some (some u) /\
 (∀(i:Nat) H2,i<n->SameT H1 H2->tb [some (.int (i:Int)),some u] H2 (λv c=>∃t,v=.ref t/\Same H2 c/\c t=some (.tup [.int (g i),.int (i:Int)]))) /\
 ∀l (p:List Nat) c,H1 l=none->SameT H1 c->Tb c T lpos d->p.Perm (List.range n)->(∀a b,a<=b->b<n->g (p.getD a 0)*64+(p.getD a 0:Int)<=g (p.getD b 0)*64+(p.getD b 0:Int))->c l=some (.lst (p.map λi:Nat=>V.int (i:Int)))->Q (.ref l) c):tSK ta tb j T lpos d σ H Q:=h
noncomputable def zit (K:Fg) (lP:Pos) (lQ:Str):Sp:=λvs H Q _=>∃(p l:Addr) (as:List Addr) (k:Nat) (f:Nat->Int) (F:Nat->Nat->Int) (m n:Int),vs=[.ref p,.ref l,.int n]/\H p=some (.lst ((vec k f).map V.int))/\H l=some (.lst (as.map V.ref))/\Rows H as k F/\Within m k f/\WithinR m as.length k F/\m<=999999999999/\k<=1000/\1<=as.length/\as.length<64/\0<=n/\TbW K "worst_days" lP lQ H /\
 ∀r H' q,H r=none->SameT H H'->TbW K "worst_days" lP lQ H'->Line (λi=>zaT k f (F i)) as.length q->H' r=some (.lst ((zcN (q.take n.toNat)).map V.int))->Q (.ref r) H'
def zoj:=λ{K:Fg} {lP:Pos} {lQ:Str} {p l:Addr} {as:List Addr} {k:Nat} {f:Nat->Int} {F:Nat->Nat->Int} {m n:Int} {H:Hp} {Q:VK} {E:XK} h1 h2 h3 h4 h5 hm hk hl hl' hn hT q=>@id (zit K lP lQ [.ref p,.ref l,.int n] H Q E) ⟨p,l,as,k,f,F,m,n,rfl,h1,h2,h3,h4,h5,hm,hk,hl,hl',hn,hT,q⟩
noncomputable def lsum (g:Nat->Int):List Nat->Int
 | []=>0
 | d :: S=>g d+lsum g S
theorem zkR{g:Nat->Int}:∀{S M:List Nat},lsum g (S++M)=lsum g S+lsum g M
 | [],M=>by show lsum g M=0+_;lia
 | d :: S,M=>by show g d+lsum g (S++M)=g d+lsum g S+_;rw[zkR];lia
theorem ziB{f g:Nat->Int}:∀{S:List Nat},(∀d∈S,f d<=g d)->lsum f S<=lsum g S
 | [],_=>yD _
 | d :: S,h=>by
  have h1:=h d (.head _);have h2:=ziB (S:=S) λx a=>h x (.tail _ a);show f d+_<=g d+_;lia
theorem zhl{v:Int}:∀{S:List Nat},lsum (λ_=>v) S=(S.length:Int)*v
 | []=>by rw[List.length_nil];show(0:Int)=(0:Int)*v;rw[Int.zero_mul]
 | d :: S=>by
  show v+lsum _ S=((S.length+1:Nat):Int)*v;rw[zhl,Int.natCast_add,yaZ];show v+_=_+1*v;lia
section
variable {L:Nat->Int}{n:Nat}{q:List Nat}
theorem zi6(L:Nat->Int)(q:List Nat):∀k,k<=q.length->lsum L (q.take k)=My.sumTo (λi=>L (q.getD i 0)) k
 | 0,_=>by rw[yaT];rfl
 | k+1,h=>by
  rw[ybl,zkR,zi6 L q k ⋯,yr ⋯];show _+(L q[k]+0)=_+L (q.getD k 0);rw[yi,yr ⋯];show _+(L q[k]+0)=_+L q[k];lia
end
noncomputable def zcM (m:Bool) (L:Nat->Int) (q:List Nat) (k:Nat):Rat:=if m then Rat.divInt (lsum L (q.take k)) (k:Int) else((L (q.getD (k-1) 0):Int):Rat)
noncomputable def pos0 (r:Rat):Rat:=if 0<r then r else 0
section
variable {L L1 Internal':Nat->Int}{n k:Nat}{q q1 q2:List Nat}
def Line.ltT(h:Line L n q):∀d∈q.take k,d<n:=λd hd=>h.lt (List.mem_of_mem_take hd)
def Line.lenT(h:Line L n q)(a:k<=n):(q.take k).length=k:=by rw[yag,h.len];lia
end
section
variable {X:Cx}{tg:Expr}
end
def zgy{r:Nat}:∀(ds:List Due),(∀d∈ds,0<=d.a/\d.a<=1000000000000)->0<=zX ds m r/\zX ds m r<=1000000000000*(ds.length:Int):=by
 intro ds
 suffices h:∀t,t<=ds.length->(∀d∈ds,0<=d.a/\d.a<=1000000000000)->0<=zX (ds.take t) m r/\zX (ds.take t) m r<=1000000000000*(t:Int) by
  intro hd
  have:=h ds.length (yh _) hd
  rwa [yz]at this
 intro t
 induction t with
 | zero=>intro _ _;exact⟨yD 0,yD 0⟩
 | succ t ih=>
  intro c hd;obtain⟨d,b⟩:=zN (show t<ds.length by lia);have h1:=ih ⋯ hd;have h2:=hd d (ym b);rw[zar b,zhB];split<;>lia
noncomputable def zco (f:Nat->Int):Nat->Int
 | 0=>0
 | r+1=>zco f r+f r
noncomputable def zd9 (f:Nat->Int) (q:Rat) (r:Nat):Prop:=q.num<zco f (r+1)*(q.den:Int)
instance (f:Nat->Int) (q:Rat) (r:Nat):Decidable (zd9 f q r):=inferInstanceAs (Decidable (_<_))
noncomputable def zbA (f:Nat->Int) (q:Rat):Nat->Option Nat
 | 0=>none
 | k+1=>match zbA f q k with
  | some r=>some r
  | none=>if zd9 f q k then some k else none
theorem zgW{f:Nat->Int}{q:Rat}{k r:Nat}(h:zbA f q k=some r):∀j,zbA f q (k+j)=some r
 | 0=>h
 | j+1=>by show(match zbA f q (k+j)with | some r=>some r | none=>_)=_;rw[zgW h j]
theorem zmc{f:Nat->Int}(a:∀j,j<3->0<=f j/\f j<=100000000000000):∀i,i<=3->0<=zco f i/\zco f i<=100000000000000*(i:Int)
 | 0,_=>⟨yD 0,yD 0⟩
 | i+1,h=>by
  have h1:=zmc a i ⋯;have h2:=a i ⋯;show 0<=zco f i+f i/\zco f i+f i<=_;lia
def ziY{w:Nat->Option Nat}:zan (n+1) w=zan n w++[zcn (w n)]:=by unfold zan;rw[yO,yj];rfl
def zss{i:Int}(a:-1000000000000000<=i)(h1:i<=1000000000000000):SzQ ((i:Int):Rat) 60000 60000:=
 ⟨yc (sz200 (by show _<i;lia) (by show i<_;lia)) (by decide),yc (sz200 (i:=1) (by decide) (by decide)) (by decide)⟩
def under_int{r:Nat}:q<((zco f (r+1):Int):Rat)↔zd9 f q r:=by
 rw[Rat.lt_iff];show q.num*1<_↔_;rw[ybm];exact Iff.rfl
noncomputable def zgE (K:Fg):Sp:=λvs H Q _=>∃(l y:Addr) (f:Nat->Int) (q:Rat),vs=[.ref l,.ref y]/\H l=some (.lst ((vec 3 f).map V.int))/\(∀j,j<3->0<=f j/\f j<=100000000000000)/\IsQ H y q/\SzQ q 60000 60000/\∀H',Same H H'->Q (zcn (zbA f q 3)) H'
def zmV:=λ{K:Fg} {l y:Addr} {f:Nat->Int} {q:Rat} {H:Hp} {Q:VK} {E:XK} hl hf hy hs k=>@id (zgE K [.ref l,.ref y] H Q E) ⟨l,y,f,q,rfl,hl,hf,hy,hs,k⟩
abbrev ztZ(ds:List Due)(qs:List Rat):List V:=zan qs.length λm=>zbA (zX ds m) (qs.getD m 0) 3
noncomputable def zhV (K:Fg):Sp:=λvs H Q _=>∃(a y:Addr) (ds:List Due) (ws:List V) (qs:List Rat),vs=[.ref a,.ref y]/\IsSh K H a ds/\(∀d∈ds,zaF qs.length d/\d.a<=1000000000000)/\ds.length<=64/\H y=some (.lst ws)/\IsQs H ws qs/\qs.length<=9/\(∀q∈qs,SzQ q 60000 60000)/\∀p H',H p=none->Same H H'->H' p=some (.lst (ztZ ds qs))->Q (.ref p) H'
def zoe:=λ{K:Fg} {a y:Addr} {ds:List Due} {ws:List V} {qs:List Rat} {H:Hp} {Q:VK} {E:XK} h hy hq hd hl h9 hs k=>@id (zhV K [.ref a,.ref y] H Q E) ⟨a,y,ds,ws,qs,rfl,h,hd,hl,hy,hq,h9,hs,k⟩
noncomputable def zaS (f:Nat->Int) (q:Rat):Nat->Rat
 | 0=>q
 | r+1=>zaS f q r-(if((f r:Int):Rat)<zaS f q r then((f r:Int):Rat)else zaS f q r)
noncomputable def zbB (f:Nat->Int) (q:Rat) (r:Nat):Rat:=if((f r:Int):Rat)<zaS f q r then((f r:Int):Rat)else zaS f q r
noncomputable def zaY (f:Nat->Int) (q:Rat) (r:Nat):Rat:=if 0<f r then zbB f q r/((f r:Int):Rat)else 0
def zmZ(f:Nat->Int)(q:Rat)(r:Nat):zaS f q (r+1)=zaS f q r-zbB f q r:=rfl
section
variable {f:Nat->Int}{q:Rat}
end
noncomputable def za2 (ds:List Due) (qs:List Rat) (d:Due):Rat:=((d.a:Int):Rat)*zaY (zX ds d.p.toNat) (qs.getD d.p.toNat 0) d.r.toNat
def SzQ.sub{a b:Rat}(h1:SzQ a n n)(h2:SzQ b n n):SzQ (a-b) (n+n+1) (n+n):=by
 rw[yaS];exact h1.add h2.neg (yh _) (yh _) (yh _)
def zds{i:Int}(a:0<=i)(h1:i<=100000000000000):SzQ ((i:Int):Rat) 60 60:=by
 refine⟨zaO ?_,zaO ?_⟩
 ·show i.natAbs<2 ^ 60;lia
 ·show(1:Int).natAbs<2 ^ 60
  decide
def zfO{r:Nat}(h:SzQ (zaS f q r) n n)(hn:60<=n)(a:0<=f r)(h1:f r<=100000000000000):SzQ (zbB f q r) n n:=by
 unfold zbB;split
 ·exact(zds a h1).mono hn hn
 ·exact h
def zmt(d:SzQ q 200 200)(a:∀j,j<3->0<=f j/\f j<=100000000000000){r:Nat}(g:r<3):SzQ (zaS f q r) 803 803:=by
 have c:SzQ (zaS f q 0) 200 200:=d;have b:SzQ (zaS f q 1) 401 401:=(c.sub (zfO c (by decide) (a 0 ⋯).1 (a 0 ⋯).2)).mono (by decide) (by decide);have e:SzQ (zaS f q 2) 803 803:=(b.sub (zfO b (by decide) (a 1 ⋯).1 (a 1 ⋯).2)).mono (by decide) (by decide);obtain rfl | rfl | rfl:r=0\/r=1\/r=2:=by lia
 ·exact c.mono (by decide) (by decide)
 ·exact b.mono (by decide) (by decide)
 ·exact e
def znR(c:SzQ q 200 200)(a:∀j,j<3->0<=f j/\f j<=100000000000000){r:Nat}(b:r<3):SzQ (zaY f q r) 900 900:=by
 unfold zaY;split
 ·rename_i d;rw[Rat.div_def];have h1:=zds (a r b).1 (a r b).2;have h2:=h1.inv (by show f r≠0;lia);exact((zfO (zmt c a b) (by decide) (a r b).1 (a r b).2).mul h2 (yh _) (yh _)).mono (by decide) (by decide)
 ·exact zez (by decide)
def zpn(h1:IsQ H a q)(h2:IsQ H b r)(d:SzQ q n n)(e:SzQ r n n)(k:∀c,IsQ H c (if r<q then r else q)->Q (.ref c) H):zfU n [.ref a,.ref b] H Q E:=by
 refine ziU h1 h2 d e ?_;by_cases h:r<q
 ·rw[if_pos h];exact k b (by rw[if_pos h];exact h2)
 ·rw[if_neg h];exact k a (by rw[if_neg h];exact h1)
noncomputable def zir:Sp:=λvs H Q _=>∃(a b:Addr) (q r:Rat),vs=[.ref a,.ref b]/\IsQ H a q/\IsQ H b r/\OkQ q/\SzQ r 8999 8999/\r.num≠0/\NewQ H Q (q/r)
def ziX:=λ{a b:Addr} {q r:Rat} {H:Hp} {Q:VK} {E:XK} h1 h2 s1 s2 h0 k=>@id (zir [.ref a,.ref b] H Q E) ⟨a,b,q,r,rfl,h1,h2,s1,s2,h0,k⟩
noncomputable def ze4 (K:Fg):Sp:=λvs H Q _=>∃(l y:Addr) (f:Nat->Int) (q:Rat),vs=[.ref l,.ref y]/\H l=some (.lst ((vec 3 f).map V.int))/\(∀j,j<3->0<=f j/\f j<=100000000000000)/\IsQ H y q/\SzQ q 200 200/\∀p H' vs,H p=none->Same H H'->H' p=some (.lst vs)->IsQs H' vs ((List.range 3).map (zaY f q))->Q (.ref p) H'
def zlA:=λ{K:Fg} {l y:Addr} {f:Nat->Int} {q:Rat} {H:Hp} {Q:VK} {E:XK} hl hf hy hs k=>@id (ze4 K [.ref l,.ref y] H Q E) ⟨l,y,f,q,rfl,hl,hf,hy,hs,k⟩
noncomputable def zih (K:Fg):Sp:=λvs H Q _=>∃(a y:Addr) (ds:List Due) (ws:List V) (qs:List Rat),vs=[.ref a,.ref y]/\IsSh K H a ds/\H y=some (.lst ws)/\IsQs H ws qs/\(∀d∈ds,zaF qs.length d/\d.a<=1000000000000)/\ds.length<=64/\qs.length<=9/\(∀q∈qs,SzQ q 200 200)/\∀p H' vs,H p=none->Same H H'->H' p=some (.lst vs)->IsQs H' vs (ds.map (za2 ds qs))->Q (.ref p) H'
def zo0:=λ{K:Fg} {a y:Addr} {ds:List Due} {ws:List V} {qs:List Rat} {H:Hp} {Q:VK} {E:XK} h hy hq hd hl h9 hs k=>@id (zih K [.ref a,.ref y] H Q E) ⟨a,y,ds,ws,qs,rfl,h,hy,hq,hd,hl,h9,hs,k⟩
set_option genInjectivity false in
set_option genSizeOf false in
structure PayOk(ds:List Due)(g:Due->Rat):Prop where
 nn:∀d∈ds,0<=g d
 le:∀d∈ds,g d<=((d.a:Int):Rat)
 sz:∀d∈ds,SzQ (g d) 1000 1000
 am:∀d∈ds,0<=d.a/\d.a<=100000000000000
section
variable {ds:List Due}{qs:List Rat}
end
theorem zkI{m:Int}{f g:Nat->Int}(b:m<=999999999999):∀{k:Nat},Within m k f->Within m k g->-((k:Int)*1000000000000000000000000)<=zaT k f g/\zaT k f g<=(k:Int)*1000000000000000000000000
 | 0,_,_=>by
  show -((0:Int)*_)<=0/\(0:Int)<=(0:Int)*_;lia
 | k+1,h1,h2=>by
  have d:=zkI b (k:=k) (λj a=>h1 j ⋯) (λj a=>h2 j ⋯);obtain⟨a1,a2⟩:=h1 k ⋯;obtain⟨b1,b2⟩:=h2 k ⋯;have c:(f k*g k).natAbs<=1000000000000*1000000000000:=by
   rw[Int.natAbs_mul];exact Nat.mul_le_mul ⋯ ⋯
  rw[znm];generalize f k*g k=y at *
  lia
def zrV{L:Nat->Int}{B:Int}{S:List Nat}(h:∀d∈S,-B<=L d/\L d<=B):-((S.length:Int)*B)<=lsum L S/\lsum L S<=(S.length:Int)*B:=by
 have h1:=ziB (f:=L) (g:=λ_=>B) (S:=S) λd hd=>(h d hd).2;have h2:=ziB (f:=λ_=>-B) (g:=L) (S:=S) λd hd=>(h d hd).1;rw[zhl]at h1 h2;rw[Int.mul_neg]at h2;exact⟨h2,h1⟩
def ztP{mn:Bool}{L:Nat->Int}{q:List Nat}(h:Line L n q)(e:0<k)(a:k<=n)(hn:n<64)(b:∀d,d<n->-9000000000000000000000000<=L d/\L d<=9000000000000000000000000):SzQ (zcM mn L q k) 100 10:=by
 unfold zcM;cases mn
 ·rw[if_neg (by decide)]
  have:=b _ (h.getLt ⋯ (k-1))
  exact⟨zaO (by show(L (q.getD (k-1) 0)).natAbs<2 ^ 100;lia),zaO (by show(1:Int).natAbs<2 ^ 10;decide)⟩
 ·rw[if_pos rfl];have c:=zrV (S:=q.take k) λd hd=>b d (h.ltT d hd);rw[h.lenT a]at c;have h1:(k:Int)*9000000000000000000000000<=64*9000000000000000000000000:=yL ⋯ (by decide);exact zd6 ⋯ (zaO ⋯) (zaO ⋯)
def zlX{a b:Nat}(h:SzQ r a b)(c:1<=b):SzQ (pos0 r) a b:=by
 unfold pos0;split
 ·exact h
 ·exact⟨zaO (by show(0:Int).natAbs<_;exact Nat.two_pow_pos _),yc (zaO (n:=1) (by show(1:Int).natAbs<2 ^ 1;decide)) c⟩
def nump:0<q.num↔0<q:=by
 constructor
 ·intro h;have h1:0<=q:=Rat.num_nonneg.mp (yak h);have h2:q≠0:=λz=>by rw[z]at h;exact absurd h (by decide)
  grind
 ·intro h;have h1:0<=q.num:=Rat.num_nonneg.mpr (Rat.le_of_lt h);have h2:q.num≠0:=λz=>by rw[Rat.num_eq_zero.mp z]at h;exact absurd h (by decide)
  lia
noncomputable def za5 (w:Str) (c:Int) (n:Nat):Prop:=(w = "worst" \/ w = "mean")/\1<=c/\c<=n
noncomputable def zko (K:Fg) (C:Addr):Sp:=λvs H Q E=>∃(ru l:Addr) (w:Str) (c:Int) (xs:List V),vs=[.ref ru,.ref l]/\H ru=some (.tup [.str w,.int c])/\H l=some (.lst xs)/\(za5 w c xs.length->∀H',Same H H'->Q .non H')/\(¬za5 w c xs.length->∀H',Same H H'->E (.ref C) none H')
def zhD:=λ{K:Fg} {C ru l:Addr} {w:Str} {c:Int} {xs:List V} {H:Hp} {Q:VK} {E:XK} h1 h2 q1 q2=>@id (zko K C [.ref ru,.ref l] H Q E) ⟨ru,l,w,c,xs,rfl,h1,h2,q1,q2⟩
set_option genInjectivity false in
set_option genSizeOf false in
structure NeedIn(K:Fg)(lP:Pos)(lQ:Str)(H:Hp)(p l:Addr)(as:List Addr)(k:Nat)(f:Nat->Int)(F:Nat->Nat->Int)(m:Int):Prop where
 pos:H p=some (.lst ((vec k f).map V.int))
 mov:H l=some (.lst (as.map V.ref))
 rows:Rows H as k F
 w1:Within m k f
 w2:WithinR m as.length k F
 hm:m<=999999999999
 hk:k<=9
 n1:1<=as.length
 n2:as.length<64
 tb:TbW K "worst_days" lP lQ H
noncomputable def zdG (w:Str) (L:Nat->Int) (q:List Nat) (c:Int):Rat:=pos0 (zcM (decide (w = "mean")) L q c.toNat)
noncomputable def zou (K:Fg) (C:Addr) (lP:Pos) (lQ:Str):Sp:=λvs H Q E=>∃(ru p l:Addr) (w:Str) (c:Int) (as:List Addr) (k:Nat) (f:Nat->Int) (F:Nat->Nat->Int) (m:Int),vs=[.ref ru,.ref p,.ref l]/\H ru=some (.tup [.str w,.int c])/\NeedIn K lP lQ H p l as k f F m /\
 (za5 w c as.length->∀r H' q,SameT H H'->TbW K "worst_days" lP lQ H'->Line (λi=>zaT k f (F i)) as.length q->IsQ H' r (zdG w (λi=>zaT k f (F i)) q c)->SzQ (zdG w (λi=>zaT k f (F i)) q c) 100 10->Q (.ref r) H') /\
 (¬za5 w c as.length->∀H',Same H H'->E (.ref C) none H')
def zpW:=λ{K:Fg} {C:Addr} {lP:Pos} {lQ:Str} {ru p l:Addr} {w:Str} {c:Int} {as:List Addr} {k:Nat} {f:Nat->Int} {F:Nat->Nat->Int} {m:Int} {H:Hp} {Q:VK} {E:XK} h1 h2 h3 q=>@id (zou K C lP lQ [.ref ru,.ref p,.ref l] H Q E) ⟨ru,p,l,w,c,as,k,f,F,m,rfl,h1,h2,λ_=>q,λz=>absurd h3 z⟩
set_option genInjectivity false in
set_option genSizeOf false in
structure LawIn(K:Fg)(lP:Pos)(lQ:Str)(H:Hp)(p mv:Addr)(as:List Addr)(k:Nat)(f:Nat->Int)(F:Nat->Nat->Int)(m:Int):Prop where
 pos:H p=some (.lst ((vec k f).map V.int))
 mov:H mv=some (.lst (as.map V.ref))
 rows:Rows H as k F
 w1:Within m k f
 w2:WithinR m as.length k F
 hm:m<=99999999999
 k0:1<=k
 hk:k<=9
 n1:2<=as.length
 n2:as.length<60
 tb:TbW K "worst_days" lP lQ H
noncomputable def bfl (m w y:Int) (d:Addr):List (Str × V):=zY "deals" (.ref d) (zY "day" (.int y) (zY "wares" (.int w) (zY "many" (.int m) [])))
section
variable {m w y:Int}{d:Addr}
def znL:(bfl m w y d).lookup ("deals" : Str)=some (.ref d):=by unfold bfl;rw[zk,if_pos rfl]
def zl5:(bfl m w y d).lookup ("day" : Str)=some (.int y):=by unfold bfl;rw[zk,if_neg (by decide +kernel),zk,if_pos rfl]
def zop:(bfl m w y d).lookup ("wares" : Str)=some (.int w):=by unfold bfl;rw[zk,if_neg (by decide +kernel),zk,if_neg (by decide +kernel),zk,if_pos rfl]
def zpb{n:Str}(h1:¬n = "deals")(h2:¬n = "day")(b:¬n = "wares")(a:¬n = "many"):(bfl m w y d).lookup n=none:=by
 unfold bfl;rw[zk,if_neg h1,zk,if_neg h2,zk,if_neg b,zk,if_neg a];rfl
end
set_option genInjectivity false in
set_option genSizeOf false in
structure T7 where
 p:Int
 q:Int
 w:Int
 u:Int
 a:Int
 y:Int
 r:Int
noncomputable def zu6 (t:T7):List V:=[.int t.p,.int t.q,.int t.w,.int t.u,.int t.a,.int t.y,.int t.r]
noncomputable def zrx (x:T7 × Str):List V:=zu6 x.1++[.str x.2]
set_option genInjectivity false in
set_option genSizeOf false in
structure TermOk(m w y:Int)(t:T7):Prop where
 p0:0<=t.p
 p1:t.p<m
 q0:0<=t.q
 q1:t.q<m
 pq:t.p≠t.q
 w0:0<=t.w
 w1:t.w<w
 u0:1<=t.u
 u1:t.u<=1000000
 a0:1<=t.a
 a1:t.a<=1000000000
 y0:0<=t.y
 y1:t.y<=1000000
 r0:0<=t.r
 r1:t.r<=2
 yd:y<=t.y
set_option genInjectivity false in
set_option genSizeOf false in
structure Bk(C:Addr)(H:Hp)(b d:Addr)(m w y:Int)(ts:List (T7 × Str)):Prop where
 ob:∃dx,H b=some (.ins C dx (bfl m w y d))
 ds:∃xs,H d=some (.lst xs)/\IsTs zrx H xs ts
section
variable {C:Addr}{H H':Hp}{b d:Addr}{m w y:Int}{ts:List (T7 × Str)}
theorem Bk.same(h:Bk C H b d m w y ts)(e:Same H H'):Bk C H' b d m w y ts:=by
 obtain⟨⟨dx,h1⟩,xs,h2,a⟩:=h;exact⟨⟨dx,e.at h1⟩,xs,e.at h2,a.same e⟩
theorem LBut.ins{l:Addr}(g:LBut l H H'){a C dx:Addr}{fs:List (Str × V)}(h:H a=some (.ins C dx fs)):H' a=some (.ins C dx fs):=by
 obtain⟨ys,e⟩:=g.2;exact g.1.at h (zag h e (by intro z;cases z))
end
noncomputable def zsA (C:Addr):Sp:=λvs H Q _=>∃(p dx:Addr) (m w:Int),vs=[.ref p,.int m,.int w]/\H p=some (.ins C dx [])/\∀d H',H d=none->(∀b o,b≠p->H b=some o->H' b=some o)->H' p=some (.ins C dx (bfl m w 0 d))->H' d=some (.lst [])->Q .non H'
noncomputable def zr2 (C CE:Addr):Sp:=λvs H Q E=>∃(b dx d:Addr) (m w y n:Int) (xs:List V),vs=[.ref b,.int n]/\H b=some (.ins C dx (bfl m w y d))/\H d=some (.lst xs)/\((0<=n/\∃v,xs[n.toNat]?=some v/\Q v H)\/(¬(0<=n/\n<xs.length)/\E (.ref CE) none H))
noncomputable def zmi (C:Addr):Sp:=λvs H Q _=>∃(b dx d:Addr) (m w y:Int),vs=[.ref b]/\H b=some (.ins C dx (bfl m w y d))/\Q (.int y) H
noncomputable def stand (t:T7):T7 × Str:=(t,("standing" : Str))
abbrev TAr:=St->Hp->(List V->Hp->Prop)->(Addr->Hp->Prop)->Prop
section
variable {X:Cx}{pos:Pos}
abbrev zvI(te:TEr):TAr:=λσ H Q Eh=>te σ H (λy H2=>Q [y] H2) Eh
abbrev zvJ(tc:TE)(t:TAr):TAr:=λσ H Q Eh=>tc σ H λx H1=>t σ H1 (λxs H2=>Q (x :: xs) H2) Eh
abbrev zvK(t:TAr):TEr:=λσ H Q Eh=>t σ H (λxs H1=>zfm Q xs H1) Eh
abbrev zvO(i:Nat)(te:TEr):TTr:=λD Eh σ H=>te σ H (λy H2=>D.nx (σ.set i (some y)) H2) λC H2=>Eh C σ H2
end
section
variable {σ:St}{H:Hp}{D:Ends}{Eh:Addr->Hp->Prop}{Eg:Addr->St->Hp->Prop}
end
noncomputable def zuO (K:Fg) (f:Str) (tv:TE) (c:V->V->Hp->VK->Prop) (σ:St) (R:Hp->Prop) (x:V) (H1:Hp):Prop:=∃a C dx fs v,x=.ref a/\H1 a=some (.ins C dx fs)/\Cls K C/\NoAttr K C f/\fs.lookup f=some v /\
 tv σ H1 λy H2=>c v y H2 λz b=>∃dx' fs',b a=some (.ins C dx' fs')/\fs'.length<1000/\R (upd b a (.ins C dx' (zY f z fs')))
def zul{f:Str}{ta tv:TE}{a:V->V->Hp->VK->Prop}{D:Ends}(q:ta σ H (zuO K f tv a σ (D.nx σ))):zdW K ta tv a f D σ H:=q
section
variable {X:Cx}
noncomputable def zrm:R2:=λx y H Q=>∃a b,x=.str a/\y=.str b/\a.length+b.length<=1000/\Q (.str (a++b)) H
def zsv:OpR X (binaryOp .Add) zrm:=by
 intro pins s σ H x y v u Q I d c h;obtain⟨a,b,rfl,rfl,e,q⟩:=h;obtain⟨t,rfl⟩:=d;obtain⟨t',rfl⟩:=c;exact SB.add (λt' k=>⟨.str _,H,I.tok _,⟨_,rfl⟩,q⟩) (by rw[sizeLine_eq];lia)
noncomputable def zuc:V->List V->Hp->VK->Prop:=λx vs H Q=>∃z,x=.str z/\vs=[]/\Builtin.Str.tooLong (Txt.upper z).length=false/\Q (.str (Txt.upper z)) H
def zpY:MtM X "str.upper" zuc:=by
 intro pins s σ H x vs v us Q I c b h;obtain⟨z,rfl,rfl,a,q⟩:=h;obtain⟨t,rfl⟩:=c;cases b;exact call_gives F.slot_str_upper (typeIs_str _ _ _) F.entry_str_upper (F.args_str_upper_1 _) (gives_str_upper z t a) ⟨fit_le a,⟨.str _,H,I.tok _,⟨_,rfl⟩,q⟩⟩
end
noncomputable def OkO (ws:List Str):Prop:=(∀w∈ws,w∈words5)/\ws.Nodup
noncomputable def zpg (K:Fg) (C:Addr):Sp:=λvs H Q E=>∃(o:Addr) (ws:List Str),vs=[.ref o]/\SqL K H o (ws.map V.str)/\ws.length<=100/\((OkO ws/\∀H',Same H H'->Q .non H')\/(¬OkO ws/\∀H',Same H H'->E (.ref C) none H'))
noncomputable def zmW (K:Fg) (C:Addr):Sp:=λvs H Q E=>∃(o g p s:Addr) (own:Int) (ws:List Str) (n:Nat) (G P S:Nat->Int),vs=[.ref o,.ref g,.ref p,.ref s,.int own]/\SqL K H o (ws.map V.str)/\SqL K H g ((vec n G).map V.int)/\SqL K H p ((vec n P).map V.int)/\SqL K H s ((vec n S).map V.int)/\n<=9/\Lit n G/\Lit n P/\Lit n S/\0<=own/\ws.length<=100 /\
 ((OkO ws/\∀pt rs re tr H',LTold H H' n (zaU n G P own ws S) (lays n G P own ws S ws.length).1 ws.length pt rs re tr->Q (.ref pt) H')\/(¬OkO ws/\∀H',Same H H'->E (.ref C) none H'))
def zpI{w:Str}(h:OkO ws)(f:w∈words5)(c:w∉ws):OkO (ws++[w]):=⟨λu d=>by
 rcases yA.mp d with q | q
 ·exact h.1 u q
 ·rw[yp.mp q];exact f,yS.mpr ⟨h.2,by simp,λa i b g e=>by
 rw[yp.mp g]at e;exact c (e▸i)⟩⟩
def zmj{lo hi:Option Int}:zcu (ws.map V.str) lo hi=(zeq ws lo hi).map V.str:=by
 unfold zcu zeq;rw[yb,<- List.map_drop,<- ya3]
def zqf{h:Int}(a:0<=h):(zeq ws none (some h)).length+(zeq ws (some h) none).length=ws.length:=by
 have:=congrArg List.length (ziZ ws a)
 rw[yf]at this;exact this
noncomputable def zuG (m p q:Int):Prop:=(0<=p/\p<m)/\(0<=q/\q<m)/\p≠q
instance (m p q:Int):Decidable (zuG m p q):=inferInstanceAs (Decidable (_/\_))
noncomputable def zu3 (w:Int) (t:T7):Prop:=(0<=t.w/\t.w<w)/\(1<=t.u/\t.u<=1000000)/\(1<=t.a/\t.a<=1000000000)/\(0<=t.y/\t.y<=1000000)/\(0<=t.r/\t.r<=2)
instance (w:Int) (t:T7):Decidable (zu3 w t):=inferInstanceAs (Decidable (_/\_))
def ztR(m w y:Int)(d:Addr):bfl m w y d=[(("many" : Str),V.int m),(("wares" : Str),V.int w),(("day" : Str),V.int y),(("deals" : Str),V.ref d)]:=by
 have h1:¬(("many" : Str) = "wares"):=by decide +kernel
 have h2:¬(("many" : Str) = "day"):=by decide +kernel
 have e:¬(("wares" : Str) = "day"):=by decide +kernel
 have b:¬(("many" : Str) = "deals"):=by decide +kernel
 have c:¬(("wares" : Str) = "deals"):=by decide +kernel
 have a:¬(("day" : Str) = "deals"):=by decide +kernel
 unfold bfl;simp only[zY,if_neg h1,if_neg h2,if_neg e,if_neg b,if_neg c,if_neg a]
def zsO(m w y:Int)(d:Addr):(bfl m w y d).length<1000:=by rw[ztR];show 4<1000;decide
noncomputable def zq8 (H:Hp) (as:List Addr) (ts:List (T7 × Str)):Prop:=as.Nodup/\as.length=ts.length/\∀(i:Nat) (a:Addr) (t:T7 × Str),as[i]?=some a->ts[i]?=some t->H a=some (.lst (zrx t))
section
variable {H H':Hp}{as:List Addr}{ts:List (T7 × Str)}
end
def zkG(h:H a=some (.lst xs))(q:∀p H',H p=none->Same H H'->H' p=some (.tup xs)->Q (.ref p) H'):zgB K [.ref a] H Q:=⟨a,xs,rfl,.inl ⟨.of h,λl b=>q l _ b (Same.new b _) zF⟩⟩
set_option genInjectivity false in
set_option genSizeOf false in
structure RoomH(k:Nat)(A:Around):Prop where
 dp:A.depth+3*k+5<recursionLimit
 un:A.units+16*k+200<cLine
abbrev Cx.toH(X:Cx)(A:Around):Cx:={ X with A:=A,calm:=false,xe:=λ_ _=>False }
set_option genInjectivity false in
set_option genSizeOf false in
structure FnOkH(P:Program)(w:World)(K:Fg)(mg:Str->Option Value)(base:Heap)(k:Nat)(f:Addr)(fd:FuncData)(ps:List Str)(sp:Sp):Prop where
 len:∀vs H Q E,sp vs H Q E->vs.length=ps.length
 run:∀(A:Around) (outer:List Env) (s:Shared) (H:Hp) (args:Args) (us:List Value) (vs:List V) (Q:VK) (E:XK),RoomH k A->Env0 P w K mg base A outer s H->BindsTo s fd args (ps.zip us)->Vals vs us->sp vs H Q E ->
  codeAny (model P w) A (.call (.ref f) args) (CR (λ_ _ _ _ _ _=>False) outer P w H s Q E) s
abbrev cxH(P:Program)(w:World)(K:Fg)(mg:Str->Option Value)(base:Heap)(N:List Str)(qual:Str)(scope:Scope)(f:Addr)(cd:Value)(A:Around)(outer:List Env)(s:Shared)(H:Hp)(E:XK):Cx:=
 (zat (CXF P w) P w K mg base N qual scope f cd A outer s H E).toH (A.deeper (envOfC qual scope s.heap.objs.size f cd))
noncomputable def t0:T7 × Str:=(⟨0,0,0,0,0,0,0⟩, "")
noncomputable def St3 (ts:List (T7 × Str)):Prop:=∀t∈ts,t.2=("standing" : Str)\/t.2=("settled" : Str)\/t.2=("broken" : Str)
noncomputable def zuX (w:Int) (ts:List (T7 × Str)):Prop:=∀t∈ts,(0<=t.1.w/\t.1.w<w)/\(1<=t.1.u/\t.1.u<=1000000)/\(0<=t.1.r/\t.1.r<=2)
set_option genInjectivity false in
set_option genSizeOf false in
structure BR(C:Addr)(H:Hp)(b d ro:Addr)(m w y:Int)(ts:List (T7 × Str))(as:List Addr):Prop where
 B:Bk C H b d m w y ts
 ro:H ro=some (.lst (as.map V.ref))
 R:zq8 H as ts
 s:St3 ts
 g:zuX w ts
open PySem PySem.W PySem.Spec PySem.Calls PyProof.Rows
section
variable {prog:Program}{w:World}{A:Around}{E:Value->Shared->Prop}
end
open PySem PySem.Spec PyProof.Rows
noncomputable def zcd (t:T7 × Str) (m:Int) (j:Nat):Int:=if t.2=("standing" : Str)/\t.1.w=(j:Int) then(if t.1.p=m then t.1.u else if t.1.q=m then -t.1.u else 0)else 0
noncomputable def zaR:List (T7 × Str)->Int->Nat->Int
 | [],_,_=>0
 | t :: ts,m,j=>zcd t m j+zaR ts m j
def zpG(ts us:List (T7 × Str))(m:Int)(j:Nat):zaR (ts++us) m j=zaR ts m j+zaR us m j:=by
 induction ts with
 | nil=>show zaR us m j=0+zaR us m j;lia
 | cons t ts ih=>show zcd t m j+zaR (ts++us) m j=zcd t m j+zaR ts m j+zaR us m j;rw[ih];lia
def zn1{ts:List (T7 × Str)}{t:T7 × Str}(h:ts[i]?=some t)(m:Int)(j:Nat):zaR (ts.take (i+1)) m j=zaR (ts.take i) m j+zcd t m j:=by
 rw[ybl,h,zpG];show _+(zcd t m j+0)=_;lia
def zrT{t:T7 × Str}(b:1<=t.1.u)(a:t.1.u<=1000000)(m:Int)(j:Nat):-1000000<=zcd t m j/\zcd t m j<=1000000:=by
 unfold zcd;split
 ·split
  ·lia
  ·split<;>lia
 ·lia
theorem zmG:∀{ts:List (T7 × Str)},(∀t∈ts,1<=t.1.u/\t.1.u<=1000000)->∀(m:Int) (j:Nat),-((ts.length:Int)*1000000)<=zaR ts m j/\zaR ts m j<=(ts.length:Int)*1000000
 | [],_,m,j=>by show -(0*_)<=(0:Int)/\(0:Int)<=0*_;lia
 | t :: ts,h,m,j=>by
  have b:=zmG (ts:=ts) (λt a=>h t (yJ _ a)) m j;have h1:=h t yai;have h2:=zrT h1.1 h1.2 m j;show -(((ts.length+1:Nat):Int)*1000000)<=zcd t m j+zaR ts m j/\zcd t m j+zaR ts m j<=((ts.length+1:Nat):Int)*1000000;lia
noncomputable def zni (C:Addr):Sp:=λvs H Q _=>∃(b d:Addr) (m y n:Int) (w:Nat) (ts:List (T7 × Str)),vs=[.ref b,.int n]/\Bk C H b d m (w:Int) y ts/\(∀t∈ts,0<=t.1.w/\t.1.w<(w:Int))/\w<=1000/\∀p H',H p=none->Same H H'->H' p=some (.lst ((vec w (zaR ts n)).map V.int))->Q (.ref p) H'
section
variable {ts:List (T7 × Str)}{m:Int}{i:Nat}
end
abbrev FE:=Int ⊕ List Int
noncomputable def feV (H:Hp) (v:V):FE->Prop
 | .inl n=>v=.int n
 | .inr ns=>∃a,v=.ref a/\H a=some (.tup (ns.map V.int))
noncomputable def Fls (H:Hp):List V->List FE->Prop
 | [],[]=>True
 | v :: vs,e :: es=>feV H v e/\Fls H vs es
 | _,_=>False
section
variable {H H':Hp}
end
set_option genInjectivity false in
set_option genSizeOf false in
structure ZE where
 t:Addr
 u:Addr
 e1:List FE
 e2:List FE
noncomputable def zuY (z:ZE):List V:=[.ref z.t,.ref z.u]
noncomputable def HZ (H:Hp) (z:ZE):Prop:=(∃vs,H z.t=some (.lst vs)/\Fls H vs z.e1)/\∃ws,H z.u=some (.lst ws)/\Fls H ws z.e2
set_option genInjectivity false in
set_option genSizeOf false in
structure HeldAt(H:Hp)(hl:Addr)(zs:List ZE):Prop where
 ls:∃vs,H hl=some (.lst vs)/\IsTs zuY H vs zs
 hz:∀z∈zs,HZ H z
 nd:(zs.map (·.t)).Nodup
 tu:∀z∈zs,∀z'∈zs,z.t≠z'.u
 n:∀z∈zs,z.t≠hl/\z.u≠hl
noncomputable def e13:FE:=.inr [1,1,1]
noncomputable def zqA (K:Fg) (tl:TE):TI:=λσ H R=>tl σ H λx H1=>∃a,x=.ref a/\(((∃xs,SqL K H1 a xs)/\R (Itl K a) H1)\/((∃xs,SqT K H1 a xs)/\R (Itt K a) H1))
def zsY{l:Expr}(m:PE X l tl):PI X tg l (zqA X.K tl):=by
 intro pins s σ H R I h;refine thn (m pins s σ H _ I h) λv c k=>?_;obtain⟨x,H1,d,g,q1⟩:=k;obtain⟨a,e,q1⟩:=q1;subst e;cases g;rcases q1 with⟨⟨xs,hq⟩,q⟩ | ⟨⟨xs,hq⟩,q⟩
 ·obtain⟨its,j,p,i⟩:=d.list hq;refine wpAny_pyIter_list p.isList ?_;refine⟨c.heap.objs.size,[c.heap.objs.size],_,_,H1,rfl,d.kept (t':=c.toks) λb o e=>Heap.get?_push_of_some _ e,zjm a _,⟨_,Heap.get?_push_size _ rfl,rfl,rfl⟩,λb f=>?_,q⟩;have e:b=c.heap.objs.size:=by simpa using f
  subst e;exact d.fpOk (yh _) (d.hok.fresh (yh _))
 ·obtain⟨its,j,p,i⟩:=d.tuple hq;refine wpAny_pyIter_tuple (show c.heap.IsTuple a its.toArray from p) ?_;refine⟨c.heap.objs.size,[c.heap.objs.size],_,_,H1,rfl,d.kept (t':=c.toks) λb o e=>Heap.get?_push_of_some _ e,zha a _,⟨_,Heap.get?_push_size _ rfl,rfl,rfl⟩,λb f=>?_,q⟩;have e:b=c.heap.objs.size:=by simpa using f
  subst e;exact d.fpOk (yh _) (d.hok.fresh (yh _))
def zrf{R:It->Hp->Prop}(q:tl σ H λx H1=>∃a,x=.ref a/\(((∃xs,SqL K H1 a xs)/\R (Itl K a) H1)\/((∃xs,SqT K H1 a xs)/\R (Itt K a) H1))):zqA K tl σ H R:=q
set_option genInjectivity false in
set_option genSizeOf false in
structure HA where
 pu:Addr
 pl:Addr
 sh:Addr
 mv:Addr
 ru:Addr
 od:Addr
 bk:Addr
 ou:Addr
 re:Addr
noncomputable def hfl3 (pu pl sh:Addr):List (Str × V):=zY "shares" (.ref sh) (zY "pledges" (.ref pl) (zY "purses" (.ref pu) []))
noncomputable def hfl (A:HA) (own:Int):List (Str × V):=zY "reports" (.ref A.re) (zY "outs" (.ref A.ou) (zY "book" (.ref A.bk) (zY "order" (.ref A.od) (zY "rule" (.ref A.ru) (zY "moves" (.ref A.mv) (zY "kept" (.int own) (hfl3 A.pu A.pl A.sh)))))))
section
variable {A:HA}{own:Int}
def zlH:(hfl A own).lookup ("reports" : Str)=some (.ref A.re):=by unfold hfl hfl3;rw[zk,if_pos rfl]
def zpt:(hfl A own).lookup ("outs" : Str)=some (.ref A.ou):=by unfold hfl hfl3;rw[zk,if_neg (by decide +kernel),zk,if_pos rfl]
def zqm:(hfl A own).lookup ("book" : Str)=some (.ref A.bk):=by unfold hfl hfl3;rw[zk,if_neg (by decide +kernel),zk,if_neg (by decide +kernel),zk,if_pos rfl]
def zn6:(hfl A own).lookup ("order" : Str)=some (.ref A.od):=by unfold hfl hfl3;rw[zk,if_neg (by decide +kernel),zk,if_neg (by decide +kernel),zk,if_neg (by decide +kernel),zk,if_pos rfl]
def zpH:(hfl A own).lookup ("rule" : Str)=some (.ref A.ru):=by unfold hfl hfl3;rw[zk,if_neg (by decide +kernel),zk,if_neg (by decide +kernel),zk,if_neg (by decide +kernel),zk,if_neg (by decide +kernel),zk,if_pos rfl]
def zpl:(hfl A own).lookup ("moves" : Str)=some (.ref A.mv):=by unfold hfl hfl3;rw[zk,if_neg (by decide +kernel),zk,if_neg (by decide +kernel),zk,if_neg (by decide +kernel),zk,if_neg (by decide +kernel),zk,if_neg (by decide +kernel),zk,if_pos rfl]
def zeA:(hfl A own).lookup ("kept" : Str)=some (.int own):=by unfold hfl hfl3;rw[zk,if_neg (by decide +kernel),zk,if_neg (by decide +kernel),zk,if_neg (by decide +kernel),zk,if_neg (by decide +kernel),zk,if_neg (by decide +kernel),zk,if_neg (by decide +kernel),zk,if_pos rfl]
def znl:(hfl A own).lookup ("shares" : Str)=some (.ref A.sh):=by unfold hfl hfl3;rw[zk,if_neg (by decide +kernel),zk,if_neg (by decide +kernel),zk,if_neg (by decide +kernel),zk,if_neg (by decide +kernel),zk,if_neg (by decide +kernel),zk,if_neg (by decide +kernel),zk,if_neg (by decide +kernel),zk,if_pos rfl]
def zlB:(hfl A own).lookup ("pledges" : Str)=some (.ref A.pl):=by unfold hfl hfl3;rw[zk,if_neg (by decide +kernel),zk,if_neg (by decide +kernel),zk,if_neg (by decide +kernel),zk,if_neg (by decide +kernel),zk,if_neg (by decide +kernel),zk,if_neg (by decide +kernel),zk,if_neg (by decide +kernel),zk,if_neg (by decide +kernel),zk,if_pos rfl]
def zmJ:(hfl A own).lookup ("purses" : Str)=some (.ref A.pu):=by unfold hfl hfl3;rw[zk,if_neg (by decide +kernel),zk,if_neg (by decide +kernel),zk,if_neg (by decide +kernel),zk,if_neg (by decide +kernel),zk,if_neg (by decide +kernel),zk,if_neg (by decide +kernel),zk,if_neg (by decide +kernel),zk,if_neg (by decide +kernel),zk,if_neg (by decide +kernel),zk,if_pos rfl]
noncomputable def hno (n:Str):Bool:=!decide (n = "reports")&&!decide (n = "outs")&&!decide (n = "book")&&!decide (n = "order")&&!decide (n = "rule")&&!decide (n = "moves")&&!decide (n = "kept")&&!decide (n = "shares")&&!decide (n = "pledges")&&!decide (n = "purses")
def znG{n:Str}(h:hno n=true):(hfl A own).lookup n=none:=by
 unfold hno at h;simp only[yF,Bool.not_eq_true',decide_eq_false_iff_not]at h;obtain⟨⟨⟨⟨⟨⟨⟨⟨⟨h1,h2⟩,i⟩,f⟩,g⟩,c⟩,b⟩,d⟩,e⟩,a⟩:=h;unfold hfl hfl3;rw[zk,if_neg h1,zk,if_neg h2,zk,if_neg i,zk,if_neg f,zk,if_neg g,zk,if_neg c,zk,if_neg b,zk,if_neg d,zk,if_neg e,zk,if_neg a];rfl
def zse:(hfl A own).length<=10:=by
 unfold hfl hfl3;exact yc (zo _ _ _) (ye (yc (zo _ _ _) (ye (yc (zo _ _ _) (ye (yc (zo _ _ _) (ye (yc (zo _ _ _) (ye (yc (zo _ _ _) (ye (yc (zo _ _ _) (ye (yc (zo _ _ _) (ye (yc (zo _ _ _) (ye (zo _ _ _))))))))))))))))))
end
noncomputable def NB (p:Addr) (H H':Hp):Prop:=∀b o,b≠p->H b=some o->H' b=some o
section
variable {p:Addr}{H H1 H2:Hp}
def NB.at(e:NB p H H1)(h:H a=some o)(n:a≠p):H1 a=some o:=e a o n h
def NB.trans(e:NB p H H1)(f:NB p H1 H2):NB p H H2:=λb o n h=>f b o n (e b o n h)
def Same.nb(e:Same H H1):NB p H H1:=λb o _ h=>e b o h
def But.nb(e:But p H H1):NB p H H1:=λb o n h=>e.at h n
def NB.no(e:NB p H H1){x:Addr}(h:H1 x=none)(n:x≠p):H x=none:=by
 cases z:H x with
 | none=>rfl
 | some o=>rw[e x o n z]at h;cases h
def NB.same{H0:Hp}(g:NB p H H1)(e:Same H0 H)(h:H0 p=none):Same H0 H1:=λb o q=>g b o (zy q h) (e b o q)
end
def Bk.sameT{d:Addr}{m w y:Int}{ts:List (T7 × Str)}(h:Bk C H b d m w y ts)(e:SameT H H'):Bk C H' b d m w y ts:=by
 obtain⟨⟨dx,h1⟩,xs,h2,c⟩:=h;exact⟨⟨dx,e.ins h1⟩,xs,e.lst h2,IsTs.keep (λa ys z=>e.tup z) c⟩
set_option genInjectivity false in
set_option genSizeOf false in
structure HN(K:Fg)(CB:Addr)(lP:Pos)(lQ:Str)(H:Hp)(A:HA)(d:Addr)(m y:Int)(ts:List (T7 × Str))(bs:List Addr)(k:Nat)(F:Nat->Nat->Int)(w:Str)(c:Int):Prop where
 bk:Bk CB H A.bk d m (k:Int) y ts
 tok:∀t∈ts,0<=t.1.w/\t.1.w<(k:Int)
 tu:∀t∈ts,1<=t.1.u/\t.1.u<=1000000
 tl:ts.length<=1000
 ru:H A.ru=some (.tup [.str w,.int c])
 mv:H A.mv=some (.lst (bs.map V.ref))
 rows:Rows H bs k F
 fw:WithinR 1000000 bs.length k F
 ok:za5 w c bs.length
 k9:k<=9
 n64:bs.length<64
 tb:TbW K "worst_days" lP lQ H
section
variable {K:Fg}{CB:Addr}{lP:Pos}{lQ:Str}{H H':Hp}{A:HA}{d:Addr}{m y:Int}{ts:List (T7 × Str)}{bs:List Addr}{k:Nat}{F:Nat->Nat->Int}{w:Str}{c:Int}
theorem HN.sameT(h:HN K CB lP lQ H A d m y ts bs k F w c)(e:SameT H H')(t:TbW K "worst_days" lP lQ H'):HN K CB lP lQ H' A d m y ts bs k F w c:=
 ⟨h.bk.sameT e,h.tok,h.tu,h.tl,e.tup h.ru,e.lst h.mv,e.rows h.rows,h.fw,h.ok,h.k9,h.n64,t⟩
theorem HN.same(h:HN K CB lP lQ H A d m y ts bs k F w c)(e:Same H H'):HN K CB lP lQ H' A d m y ts bs k F w c:=h.sameT e.t (TbW.same e h.tb)
end
noncomputable def zfV (ts:List (T7 × Str)) (m:Int) (k:Nat) (F:Nat->Nat->Int) (i:Nat):Int:=zaT k (zaR ts m) (F i)
noncomputable def zr8 (K:Fg) (C CB:Addr) (lP:Pos) (lQ:Str):Sp:=λvs H Q _=>∃(h dx d:Addr) (A:HA) (own m y n:Int) (ts:List (T7 × Str)) (bs:List Addr) (k:Nat) (F:Nat->Nat->Int) (w:Str) (c:Int),vs=[.ref h,.int n]/\H h=some (.ins C dx (hfl A own))/\HN K CB lP lQ H A d m y ts bs k F w c /\
 ∀r H' q,SameT H H'->TbW K "worst_days" lP lQ H'->Line (zfV ts n k F) bs.length q->IsQ H' r (zdG w (zfV ts n k F) q c)->SzQ (zdG w (zfV ts n k F) q c) 100 10->Q (.ref r) H'
noncomputable def zkw (C:Addr):Sp:=λvs H Q _=>∃(h dx:Addr) (A:HA) (own k:Int) (n:Nat) (f:Nat->Int),vs=[.ref h,.int k]/\H h=some (.ins C dx (hfl A own))/\H A.pu=some (.lst ((vec n f).map V.int))/\0<=k/\k<(n:Int)/\Q (.int (f k.toNat)) H
noncomputable def zjb (C:Addr):Sp:=λvs H Q _=>∃(h dx:Addr) (A:HA) (own k:Int) (n:Nat) (f:Nat->Int),vs=[.ref h,.int k]/\H h=some (.ins C dx (hfl A own))/\H A.pl=some (.lst ((vec n f).map V.int))/\0<=k/\k<(n:Int)/\Q (.int (f k.toNat)) H
noncomputable def zkS (C:Addr):Sp:=λvs H Q _=>∃(h dx:Addr) (A:HA) (own k:Int) (n:Nat) (f:Nat->Int),vs=[.ref h,.int k]/\H h=some (.ins C dx (hfl A own))/\H A.sh=some (.lst ((vec n f).map V.int))/\0<=k/\k<(n:Int)/\Q (.int (f k.toNat)) H
noncomputable def znO (C:Addr):Sp:=λvs H Q _=>∃(h dx:Addr) (A:HA) (own:Int),vs=[.ref h]/\H h=some (.ins C dx (hfl A own))/\Q (.int own) H
noncomputable def zlk (C:Addr):Sp:=λvs H Q _=>∃(h dx:Addr) (A:HA) (own:Int) (p l s:List Int),vs=[.ref h]/\H h=some (.ins C dx (hfl A own))/\H A.pu=some (.lst (p.map V.int))/\H A.pl=some (.lst (l.map V.int))/\H A.sh=some (.lst (s.map V.int))/\Q (.int (zaj p+zaj l+zaj s+own)) H
noncomputable def zqO (C CB:Addr):Sp:=λvs H Q _=>∃(h dx d:Addr) (A:HA) (own m w y:Int) (ts:List (T7 × Str)),vs=[.ref h]/\H h=some (.ins C dx (hfl A own))/\Bk CB H A.bk d m w y ts/\Q (.int y) H
set_option genInjectivity false in
set_option genSizeOf false in
structure Stk(p:Addr)(H0 H:Hp)(l:List Addr):Prop where
 nb:NB p H0 H
 hp:H p≠none
 nd:l.Nodup
 ex:∀y∈l,H y≠none/\y≠p/\H0 y=none
section
variable {p:Addr}{H0 H H':Hp}{l:List Addr}
def NB.some(e:NB p H H'){y:Addr}(h:H y≠none)(n:y≠p):H' y≠none:=λz=>h (e.no z n)
def Stk.nil(h:H p≠none):Stk p H H []:=⟨λ_ _ _ h=>h,h,yac,λy a=>nomatch a⟩
def Stk.keep(s:Stk p H0 H l)(e:NB p H H')(hp:H' p≠none):Stk p H0 H' l:=⟨s.nb.trans e,hp,s.nd,λy a=>⟨e.some (s.ex y a).1 (s.ex y a).2.1,(s.ex y a).2⟩⟩
def Stk.same(s:Stk p H0 H l)(e:Same H H'):Stk p H0 H' l:=s.keep e.nb λz=>s.hp (Same.none z e)
def Stk.fresh(s:Stk p H0 H l){x:Addr}(h:H x=none):x≠p/\x∉l/\H0 x=none:=
 have hp:x≠p:=λz=>s.hp (z▸h)
 ⟨hp,λa=>(s.ex x a).1 h,s.nb.no h hp⟩
def Stk.new(s:Stk p H0 H l){x:Addr}(h:H x=none)(e:Same H H')(b:H' x≠none):Stk p H0 H' (x :: l):=by
 obtain⟨n1,n2,n3⟩:=s.fresh h;have s':=s.same e;refine⟨s'.nb,s'.hp,yK.mpr ⟨n2,s.nd⟩,λy a=>?_⟩;rcases yt.mp a with rfl | a
 ·exact⟨b,n1,n3⟩
 ·exact s'.ex y a
def Stk.more(s:Stk p H0 H l){bs:List Addr}(h:∀b∈bs,H b=none)(nd:bs.Nodup)(e:Same H H')(d:∀b∈bs,H' b≠none):Stk p H0 H' (bs++l):=by
 have s':=s.same e;refine⟨s'.nb,s'.hp,yS.mpr ⟨nd,s.nd,λa g b f z=>(s.fresh (h a g)).2.1 (z▸f)⟩,λy c=>?_⟩;rcases yA.mp c with c | c
 ·obtain⟨n1,n2,n3⟩:=s.fresh (h y c);exact⟨d y c,n1,n3⟩
 ·exact s'.ex y c
def zac(h:H a=some o):H a≠none:=λz=>by rw[h]at z;cases z
end
noncomputable def m3V (x:Int × Int × Int):List V:=[.int x.1,.int x.2.1,.int x.2.2]
set_option genInjectivity false in
set_option genSizeOf false in
structure HNew(CB p:Addr)(H H':Hp)(A:HA)(d:Addr)(bs:List Addr)(xs:List (Int × Int × Int))(k:Nat)(F:Nat->Nat->Int)(w:Str)(c:Int)(ws:List Str):Prop where
 pu:H' A.pu=some (.lst ((vec xs.length λi=>(xs.getD i (0,0,0)).1).map V.int))
 pl:H' A.pl=some (.lst ((vec xs.length λi=>(xs.getD i (0,0,0)).2.1).map V.int))
 sh:H' A.sh=some (.lst ((vec xs.length λi=>(xs.getD i (0,0,0)).2.2).map V.int))
 mv:H' A.mv=some (.lst (bs.map V.ref))
 rows:Rows H' bs k F
 ru:H' A.ru=some (.tup [.str w,.int c])
 od:H' A.od=some (.lst (ws.map V.str))
 bk:Bk CB H' A.bk d xs.length k 0 []
 ou:H' A.ou=some (.lst ((List.replicate xs.length false).map V.bl))
 re:H' A.re=some (.lst [])
 st:Stk p H H' (A.re :: A.ou :: d :: A.bk :: A.od :: A.ru :: (bs++[A.mv,A.sh,A.pl,A.pu]))
noncomputable def zr4 (K:Fg) (C CB CR a:Addr):Sp:=λvs H Q E=>∃(p dx ms mo ru od:Addr) (us:List V) (xs:List (Int × Int × Int)) (as:List Addr) (k:Nat) (F:Nat->Nat->Int) (w:Str) (c:Int) (ws:List Str) (own:Int),
 vs=[.ref p,.ref ms,.ref mo,.ref ru,.ref od,.int own]/\H p=some (.ins C dx [])/\H ms=some (.lst us)/\IsTs m3V H us xs/\xs.length<=1000/\H mo=some (.lst (as.map V.ref))/\Rows H as k F/\1<=as.length/\as.length<=1000/\0<k/\k<=1000/\H ru=some (.tup [.str w,.int c])/\H od=some (.lst (ws.map V.str))/\ws.length<=100 /\
 (za5 w c as.length->OkO ws->∀A d bs H',NB p H H'->H' p=some (.ins C dx (hfl A own))->bs.length=as.length->HNew CB p H H' A d bs xs k F w c ws->Q .non H')/\(¬za5 w c as.length->∀H',Same H H'->E (.ref CR) none H')/\(za5 w c as.length->¬OkO ws->∀H',Same H H'->E (.ref a) none H')
noncomputable def mOk (n:Nat) (m:Int):Prop:=0<=m/\m<(n:Int)
noncomputable def tOk (c:Int):Prop:=0<=c/\c<=1000000000
set_option genInjectivity false in
set_option genSizeOf false in
structure HC(C:Addr)(H:Hp)(h:Addr)(A:HA)(own:Int)(n:Nat)(P L:Nat->Int):Prop where
 ob:∃dx,H h=some (.ins C dx (hfl A own))
 pu:H A.pu=some (.lst ((vec n P).map V.int))
 pl:H A.pl=some (.lst ((vec n L).map V.int))
 ne:A.pu≠A.pl
section
variable {κ:Type}[DecidableEq κ]
end
abbrev KT(H:Hp):List (List Key × V)->List (List Key × Addr × Value)->Prop:=Paired λp q=>p.1=q.1/\H q.2.1=some (.tup (p.1.map kV))/\RelV p.2 q.2.2
section
variable {P:Program}{w:World}{H:Hp}{h:Heap}{a:Addr}
end
section
variable {X:Cx}{pins:List (Addr × Obj)}{σ:St}{H:Hp}{s:Shared}{a:Addr}{y v:V}{u r:Value}{o:Option V}{A:Around}{E:Value->Shared->Prop}
end
section
variable {X:Cx}{pins:List (Addr × Obj)}{σ:St}{H:Hp}{s:Shared}{a:Addr}{kvs:List (Key × V)}{k:Key}{u:Value}{A:Around}{E:Value->Shared->Prop}
end
section
variable {X:Cx}{o i e value:Expr}{pos pos' tpos:Pos}{td ty tv:TE}
end
section
variable {X:Cx}{pos:Pos}
end
abbrev VV:List (V × V)->List (Value × Value)->Prop:=Paired λp q=>RelV p.1 q.1/\RelV p.2 q.2
set_option genInjectivity false in
set_option genSizeOf false in
structure M1(X:Cx)(o:Expr)(m:Str)(apos:Pos)(e:Expr)(cpos:Pos):Prop where
 base:attributeBase o m X.env (eval o X.env)=eval o X.env
 few:((backTo cpos (starEach [e] X.env)).all (λx=>!x.1)&&(backToKw cpos (keywordEach [] X.env)).all (λx=>x.1.isSome)
  && decide (([e]:List Expr).length+([]:List Keyword).length+(if([]:List Keyword).isEmpty then 0 else 1)<30))=true
 line:(apos.endLine == cpos.line)=true
 trees:backTo cpos (starEach [e] X.env)=[(false,eval e X.env)]
set_option genInjectivity false in
set_option genSizeOf false in
structure M2(X:Cx)(o:Expr)(m:Str)(apos:Pos)(e f:Expr)(cpos:Pos):Prop where
 base:attributeBase o m X.env (eval o X.env)=eval o X.env
 few:((backTo cpos (starEach [e,f] X.env)).all (λx=>!x.1)&&(backToKw cpos (keywordEach [] X.env)).all (λx=>x.1.isSome)
  && decide (([e,f]:List Expr).length+([]:List Keyword).length+(if([]:List Keyword).isEmpty then 0 else 1)<30))=true
 line:(apos.endLine == cpos.line)=true
 trees:backTo cpos (starEach [e,f] X.env)=[(false,eval e X.env),(false,eval f X.env)]
section
variable {X:Cx}{pins:List (Addr × Obj)}{σ:St}{H:Hp}{s:Shared}{a:Addr}{y d:V}{u r:Value}{o:Option V}{A:Around}{E:Value->Shared->Prop}
end
section
variable {X:Cx}{o e f:Expr}{apos cpos:Pos}{td ty tx:TE}
end
section
variable {X:Cx}{pins:List (Addr × Obj)}{σ:St}{H:Hp}{s:Shared}{a:Addr}{kvs:List (Key × V)}{A:Around}{E:Value->Shared->Prop}
end
section
variable {X:Cx}{pins:List (Addr × Obj)}{σ:St}{H:Hp}{s:Shared}{a:Addr}{y:V}{u:Value}{A:Around}{E:Value->Shared->Prop}
end
instance (n:Nat) (m:Int):Decidable (mOk n m):=inferInstanceAs (Decidable (_/\_))
instance (c:Int):Decidable (tOk c):=inferInstanceAs (Decidable (_/\_))
noncomputable def dK (wd:Str) (n:Nat) (P L:Nat->Int) (m c:Int):Nat:=if ¬mOk n m then 1 else if ¬tOk c then 2 else if(wd = "free" /\ L m.toNat<c)\/((wd = "take" \/ wd = "lay")/\P m.toNat<c)then 3 else 0
section
variable {wd:Str}{n:Nat}{P L:Nat->Int}{m c:Int}
end
set_option genInjectivity false in
set_option genSizeOf false in
structure HX where
 h:Addr
 ro:Addr
 d:Addr
 mr:Addr
 A:HA
 as:List Addr
 own:Int
 n:Nat
 S:Nat->Int
 zs:List (Addr × List V)
noncomputable def mvF:Nat->Nat->Int:=λ_ j=>if j=0 then 1 else -1
set_option genInjectivity false in
set_option genSizeOf false in
structure HD(H0:Hp)(X:HX):Prop where
 n1:X.A.pu≠X.A.pl
 n2:∀x∈[X.A.sh,X.d,X.A.mv,X.mr,X.ro],x≠X.A.pu/\x≠X.A.pl
 n3:∀c∈X.as,c≠X.A.pu/\c≠X.A.pl/\c∉[X.A.sh,X.d,X.A.mv,X.mr,X.ro]
 f1:H0 X.A.pu=none
 f2:H0 X.A.pl=none
 f3:∀c∈X.as,H0 c=none
 n4:∀z∈X.zs,z.1≠X.A.pu/\z.1≠X.A.pl/\z.1∉X.as
set_option genInjectivity false in
set_option genSizeOf false in
structure HW(K:Fg)(C CB:Addr)(lP:Pos)(lQ:Str)(H0:Hp)(X:HX)(H:Hp)(P L:Nat->Int)(R:Nat->Nat->Int):Prop where
 hd:HD H0 X
 e0:SameT H0 H
 hc:HC C H X.h X.A X.own X.n P L
 sh:H X.A.sh=some (.lst ((vec X.n X.S).map V.int))
 hn:HN K CB lP lQ H X.A X.d X.n 0 [] [X.mr] 2 mvF "mean" 1
 ro:H X.ro=some (.lst (X.as.map V.ref))
 rw:Rows H X.as 3 R
 al:X.as.length=X.n
 zl:∀z∈X.zs,H z.1=some (.lst z.2)
section
variable {K:Fg}{C CB:Addr}{lP:Pos}{lQ:Str}{H0:Hp}{X:HX}{H H':Hp}{P L P' L':Nat->Int}{R:Nat->Nat->Int}
end
noncomputable def HX.on (X:HX) (z:Addr) (xs:List V):HX:={ X with zs:=[(z,xs)] }
section
variable (K:Fg)(C CB:Addr)(lP:Pos)(lQ:Str)
end
noncomputable def zu8 (m w:Int) (ts:List (T7 × Str)):Prop:=∀t∈ts,TermOk m w 0 t.1
noncomputable def swp (t:T7 × Str) (z:Int):T7:=⟨t.1.q,t.1.p,t.1.w,t.1.u,t.1.a,z,t.1.r⟩
set_option genInjectivity false in
set_option genSizeOf false in
structure BQ(C:Addr)(H:Hp)(b d ro:Addr)(m w y:Int)(ts:List (T7 × Str))(as:List Addr):Prop where
 B:Bk C H b d m w y ts
 ro:H ro=some (.lst (as.map V.ref))
 R:zq8 H as ts
 s:St3 ts
 g:zu8 m w ts
noncomputable def zuo (C CB:Addr):Sp:=λvs H Q _=>∃(h dx d:Addr) (A:HA) (own m y n:Int) (w:Nat) (ts:List (T7 × Str)),vs=[.ref h,.int n]/\H h=some (.ins C dx (hfl A own))/\Bk CB H A.bk d m (w:Int) y ts/\(∀t∈ts,0<=t.1.w/\t.1.w<(w:Int))/\w<=1000/\∀p H',H p=none->Same H H'->H' p=some (.lst ((vec w (zaR ts n)).map V.int))->Q (.ref p) H'
noncomputable def zsb (C CB CE:Addr):Sp:=λvs H Q E=>∃(h dx dxb d:Addr) (A:HA) (own m w y n:Int) (xs:List V),vs=[.ref h,.int n]/\H h=some (.ins C dx (hfl A own))/\H A.bk=some (.ins CB dxb (bfl m w y d))/\H d=some (.lst xs)/\((0<=n/\∃v,xs[n.toNat]?=some v/\Q v H)\/(¬(0<=n/\n<xs.length)/\E (.ref CE) none H))
noncomputable def zos (K:Fg):Sp:=λvs H Q _=>∃(a:Addr) (ns:List Int) (st n k:Int),vs=[.ref a,.int st,.int n,.int k]/\SqL K H a (ns.map V.int)/\0<=st/\st<=1000/\1<=n/\n<=60/\1<=k/\k<=9 /\
 ∀l H' as F,H l=none->Same H H'->H' l=some (.lst (as.map V.ref))->as.length=n.toNat->Rows H' as k.toNat F->WithinR 1000000 n.toNat k.toNat F->(∀b∈as,H b=none)->Q (.ref l) H'
noncomputable def zvj (H:Hp) (x:V) (b:Bool):Prop:=match x with
 | .int _=>b=false
 | .str _=>b=false
 | .ref a=>b=true/\∃xs,H a=some (.lst xs)\/H a=some (.tup xs)
 | _=>False
noncomputable def zq4 (K:Fg):List V->Hp->VK->Prop:=λxs H Q=>∃x tp b,xs=[x,.ref tp]/\H tp=some (.tup [.ty "list",.ty "tuple"])/\zvj H x b /\
 PySem.W.kitAny K (.type "int") [.type "list",.type "tuple"]=some false/\PySem.W.kitAny K (.type "str") [.type "list",.type "tuple"]=some false /\
 PySem.W.kitAny K (.type "list") [.type "list",.type "tuple"]=some true/\PySem.W.kitAny K (.type "tuple") [.type "list",.type "tuple"]=some true/\Q (.bl b) H
def zoP:CallR X (.builtin "isinstance") (zq4 X.K):=by
 intro pins s σ H xs us Q I r h;obtain⟨x,tp,b,rfl,m,e,k1,k2,k3,D,q⟩:=h;obtain⟨u,F,rfl,f,C⟩:=vals2 r;obtain rfl:F=Value.ref tp:=C;obtain⟨_,us,E,p⟩:=(show ObjOk X.prog X.w H s.heap tp (.tup [.ty "list",.ty "tuple"])from I.hok tp _ m)
 obtain⟨o,h1,h2,n,A⟩:=p;obtain⟨k,B,rfl,e1,e2⟩:=vals2 E;obtain rfl:k=Value.type "list" := e1;obtain rfl:B=Value.type "tuple" := e2;obtain⟨c,dd,d,G⟩:=o;obtain rfl:c=Value.type "tuple" := h2;obtain rfl:d=.seq [Value.type "list",Value.type "tuple"].toArray n:=A;have fin:∀tk,∃v H',Inv X pins σ H' { s with toks:=tk }/\RelV v (.bool b)/\Q v H':=λtk=>⟨.bl b,H,I.tok tk,rfl,q⟩
 cases x with
 | int i=>
  obtain⟨t,rfl⟩:=(show ∃t,u=Value.int i t from f)
  obtain rfl:b=false:=e;exact ybf PySem.W.kitx_int I.kIn True.intro h1 k1 (λz=>nomatch z) fin
 | str y=>
  obtain⟨t,rfl⟩:=(show ∃t,u=Value.str y t from f)
  obtain rfl:b=false:=e;exact ybf PySem.W.kitx_str I.kIn True.intro h1 k2 (λz=>nomatch z) fin
 | ref a=>
  obtain rfl:u=Value.ref a:=f;obtain⟨rfl,xs,g | g⟩:=(show b=true/\∃xs,H a=some (.lst xs)\/H a=some (.tup xs)from e)
  ·obtain⟨_,_,n,_,j⟩:=(show ObjOk X.prog X.w H s.heap a (.lst xs)from I.hok a _ g)
   exact ybf ybu I.kIn ⟨_,j,rfl⟩ h1 k3 (λz=>nomatch z) fin
  ·obtain⟨_,_,_,p⟩:=(show ObjOk X.prog X.w H s.heap a (.tup xs)from I.hok a _ g)
   obtain⟨o,j,l,_⟩:=p;exact ybf PySem.W.kitx_tuple I.kIn ⟨o,j,l⟩ h1 D (λz=>nomatch z) fin
 | _=>exact e.elim
inductive Tr where
 | int (i:Int)
 | str (s:Str)
 | nod (l:Bool) (ts:List Tr)
mutual
inductive IsTr(H:Hp):V->Tr->Prop
 | int (i:Int):IsTr H (.int i) (.int i)
 | str (s:Str):IsTr H (.str s) (.str s)
 | lst {a:Addr} {xs:List V} {ts:List Tr} (e:H a=some (.lst xs)) (h:IsTrs H xs ts):IsTr H (.ref a) (.nod true ts)
 | tup {a:Addr} {xs:List V} {ts:List Tr} (e:H a=some (.tup xs)) (h:IsTrs H xs ts):IsTr H (.ref a) (.nod false ts)
inductive IsTrs(H:Hp):List V->List Tr->Prop
 | nil:IsTrs H [] []
 | cons {x:V} {xs:List V} {t:Tr} {ts:List Tr} (h:IsTr H x t) (r:IsTrs H xs ts):IsTrs H (x :: xs) (t :: ts)
end
mutual
inductive IsTp(H:Hp):V->Tr->Prop
 | int (i:Int):IsTp H (.int i) (.int i)
 | str (s:Str):IsTp H (.str s) (.str s)
 | nod {a:Addr} {l:Bool} {xs:List V} {ts:List Tr} (e:H a=some (.tup xs)) (h:IsTps H xs ts):IsTp H (.ref a) (.nod l ts)
inductive IsTps(H:Hp):List V->List Tr->Prop
 | nil:IsTps H [] []
 | cons {x:V} {xs:List V} {t:Tr} {ts:List Tr} (h:IsTp H x t) (r:IsTps H xs ts):IsTps H (x :: xs) (t :: ts)
end
mutual
theorem IsTp.keep{H H':Hp}(e:∀a xs,H a=some (.tup xs)->H' a=some (.tup xs)):∀{x:V} {t:Tr},IsTp H x t->IsTp H' x t
 | _,_,.int i=>.int i
 | _,_,.str s=>.str s
 | _,_,.nod a h=>.nod (e _ _ a) (IsTps.keep e h)
theorem IsTps.keep{H H':Hp}(e:∀a xs,H a=some (.tup xs)->H' a=some (.tup xs)):∀{xs:List V} {ts:List Tr},IsTps H xs ts->IsTps H' xs ts
 | _,_,.nil=>.nil
 | _,_,.cons h r=>.cons (IsTp.keep e h) (IsTps.keep e r)
end
theorem IsTps.snoc{H:Hp}{z:V}{u:Tr}(k:IsTp H z u):∀{xs:List V} {ts:List Tr},IsTps H xs ts->IsTps H (xs++[z]) (ts++[u])
 | _,_,.nil=>.cons k .nil
 | _,_,.cons h r=>.cons h (r.snoc k)
mutual
noncomputable def Tr.ok (d:Nat):Tr->Prop
 | .int _=>True
 | .str _=>True
 | .nod _ ts=>1<=d/\ts.length<=1000/\Tr.oks (d-1) ts
noncomputable def Tr.oks (d:Nat):List Tr->Prop
 | []=>True
 | t :: ts=>t.ok d/\Tr.oks d ts
end
mutual
theorem IsTr.same{H H':Hp}(e:Same H H'):∀{x:V} {t:Tr},IsTr H x t->IsTr H' x t
 | _,_,.int i=>.int i
 | _,_,.str s=>.str s
 | _,_,.lst a h=>.lst (e.at a) (IsTrs.same e h)
 | _,_,.tup a h=>.tup (e.at a) (IsTrs.same e h)
theorem IsTrs.same{H H':Hp}(e:Same H H'):∀{xs:List V} {ts:List Tr},IsTrs H xs ts->IsTrs H' xs ts
 | _,_,.nil=>.nil
 | _,_,.cons h r=>.cons (IsTr.same e h) (IsTrs.same e r)
end
section
variable {H:Hp}{xs ys:List V}{ts us:List Tr}
theorem IsTrs.len:∀{xs:List V} {ts:List Tr},IsTrs H xs ts->xs.length=ts.length
 | _,_,.nil=>rfl
 | _,_,.cons _ r=>by rw[yE,yE,r.len]
theorem IsTrs.app:∀{xs:List V} {ts:List Tr},IsTrs H xs ts->IsTrs H ys us->IsTrs H (xs++ys) (ts++us)
 | _,_,.nil,k=>k
 | _,_,.cons h r,k=>.cons h (r.app k)
theorem IsTrs.get:∀{xs:List V} {ts:List Tr},IsTrs H xs ts->∀{i:Nat} {x:V},xs[i]?=some x->∃t,ts[i]?=some t/\IsTr H x t
 | _,_,.nil,i,x,h=>by simp at h
 | _,_,.cons h r,0,x,e=>by cases e;exact⟨_,rfl,h⟩
 | _,_,.cons h r,i+1,x,e=>r.get (i:=i) e
theorem ziv{d:Nat}:∀{ts:List Tr},Tr.oks d ts->∀{i:Nat} {t:Tr},ts[i]?=some t->t.ok d
 | [],_,i,t,e=>by simp at e
 | u :: ts,h,0,t,e=>by cases e;exact h.1
 | u :: ts,h,i+1,t,e=>ziv h.2 (i:=i) e
end
noncomputable def zq1 (K:Fg) (l:Nat):Sp:=λvs H Q _=>∃(x:V) (t:Tr) (d:Nat),vs=[x]/\d<l/\IsTr H x t/\t.ok d /\
 PySem.W.kitAny K (.type "int") [.type "list",.type "tuple"]=some false/\PySem.W.kitAny K (.type "str") [.type "list",.type "tuple"]=some false /\
 PySem.W.kitAny K (.type "list") [.type "list",.type "tuple"]=some true/\PySem.W.kitAny K (.type "tuple") [.type "list",.type "tuple"]=some true /\
 ∀y H',Same H H'->IsTp H' y t->Q y H'
def zt7{i:Int}{n:Nat}(a:0<=i)(h1:i<2 ^ n):sz i<=n:=zaO (by
 have:(i.natAbs:Int)<((2 ^ n:Nat):Int):=by
  rw[Int.natAbs_of_nonneg a]
  push_cast
  exact h1
 exact_mod_cast this)
noncomputable def zjW (q:Rat):Prop:=0<=q/\SzQ q 100 31
section
variable {f:Nat->Int}{q:Rat}
def znh{i:Int}(a:0<=i)(h1:i<=100000000000000):SzQ ((i:Int):Rat) 47 1:=
 ⟨zt7 a (Int.lt_of_le_of_lt h1 (by decide)),zaO (by show(1:Int).natAbs<2 ^ 1;decide)⟩
theorem zrn(b:SzQ q 100 31)(a:∀j,j<3->0<=f j/\f j<=100000000000000):∀r,r<=3->SzQ (zaS f q r) (100+40*r) (31+r)
 | 0,_=>b
 | r+1,hr=>by
  have c:=zrn b a r ⋯;have z:=znh (a r ⋯).1 (a r ⋯).2;rw[zmZ];unfold zbB;split
  ·rw[yaS];exact(c.add z.neg (k:=100+40*r+20) ⋯ ⋯ (yh _)).mono ⋯ ⋯
  ·rw[show zaS f q r-zaS f q r=0 by grind];exact zez ⋯
def ztC(c:SzQ q 100 31)(a:∀j,j<3->0<=f j/\f j<=100000000000000){r:Nat}(b:r<3):SzQ (zaY f q r) 190 81:=by
 unfold zaY;split
 ·rename_i e;rw[Rat.div_def];have z:=znh (a r b).1 (a r b).2;have h2:=z.inv (by show f r≠0;lia);have d:SzQ (zbB f q r) 180 34:=by
   unfold zbB;split
   ·exact z.mono (by decide) (by decide)
   ·exact(zrn c a r ⋯).mono ⋯ ⋯
  exact(d.mul h2 (yh _) (yh _)).mono (by decide) (by decide)
 ·exact zez (by decide)
end
noncomputable def zbl (ds:List Due) (g:Due->Rat) (m:Nat):List Rat:=(ds.filter λd=>decide (d.q=(m:Int))).map g
def zmS(ds:List Due)(d:Due)(g:Due->Rat)(m:Nat):zbl (ds++[d]) g m=zbl ds g m++if d.q=(m:Int) then[g d] else[]:=by
 unfold zbl;rw[ybr,yj];congr 1;by_cases e:d.q=(m:Int)
 ·rw[if_pos e,yaV (p:=λd:Due=>decide (d.q=(m:Int))) (by simpa using e)];rfl
 ·rw[if_neg e,yaW (p:=λd:Due=>decide (d.q=(m:Int))) (by simpa using e)];rfl
def zi8{ds:List Due}{g:Due->Rat}{m:Nat}:(zbl ds g m).length<=ds.length:=by
 unfold zbl;rw[yb];exact List.length_filter_le _ _
def zoR{ds:List Due}{g:Due->Rat}{m:Nat}{x:Rat}(h:x∈zbl ds g m):∃d∈ds,x=g d:=by
 obtain⟨d,hd,e⟩:=yaw.mp h;exact⟨d,(yaP.mp hd).1,e.symm⟩
noncomputable def ze1 (ds:List Due) (g:Due->Rat) (m:Nat):Rat:=zdQ (zbl ds g m)
noncomputable def PRows (H:Hp) (as:List Addr) (F:Nat->List Rat):Prop:=as.Nodup/\∀(m:Nat) (a:Addr),as[m]?=some a->∃vs,H a=some (.lst vs)/\IsQs H vs (F m)
section
variable {H H':Hp}{as:List Addr}{F:Nat->List Rat}
theorem PRows.same(h:PRows H as F)(e:Same H H'):PRows H' as F:=⟨h.1,λm a q=>by obtain⟨vs,h1,h2⟩:=h.2 m a q;exact⟨vs,e.at h1,h2.same e⟩⟩
def PRows.but{l:Addr}(h:PRows H as F)(g:LBut l H H')(n:l∉as):PRows H' as F:=
 ⟨h.1,λm a q=>by
  obtain⟨vs,h1,h2⟩:=h.2 m a q;exact⟨vs,g.lst h1 λz=>n (z▸ym q),LBut.isQs g h2⟩⟩
def PRows.fresh{p:Addr}(h:PRows H as F)(hp:H p=none):p∉as:=λm=>by
 obtain⟨i,hi,e⟩:=yP m;obtain⟨vs,h1,_⟩:=h.2 i p (by rw[yr hi,e]);rw[hp]at h1;cases h1
def PRows.app{p:Addr}(h:PRows H as F)(n:p∉as)(hp:H p=some (.lst []))(f:F as.length=[]):PRows H (as++[p]) F:=by
 refine⟨yS.mpr ⟨h.1,by simp,λa g b d e=>n (by rw[yp]at d;subst d;subst e;exact g)⟩,λi a q=>?_⟩;rw[yaL]at q;split at q
 ·exact h.2 i a q
 ·rename_i hi;have c:i-as.length=0:=by
   cases e:i-as.length with
   | zero=>rfl
   | succ m=>rw[e]at q;cases q
  rw[c]at q;cases q
  have:i=as.length:=by lia
  subst this;exact⟨[],hp,by rw[f];trivial⟩
def PRows.set{j:Nat}{a p:Addr}{vs:List V}{q:Rat}(h:PRows H as F)(g:LBut a H H')(f:as[j]?=some a)(k:H a=some (.lst vs))(hp:IsQ H p q)(h':H' a=some (.lst (vs++[.ref p]))):PRows H' as (λm=>if m=j then F m++[q]else F m):=by
 refine⟨h.1,λm b d=>?_⟩;by_cases e:m=j
 ·subst e;rw[f]at d;cases d;obtain⟨us,c,i⟩:=h.2 m a f;rw[k]at c;cases c;show ∃vs,H' a=some (.lst vs)/\IsQs H' vs (if m=m then F m++[q]else F m);rw[if_pos rfl];exact⟨_,h',IsQs.app (LBut.isQ g hp) (LBut.isQs g i)⟩
 ·obtain⟨us,c,i⟩:=h.2 m b d;show ∃vs,H' b=some (.lst vs)/\IsQs H' vs (if m=j then F m++[q]else F m);rw[if_neg e];exact⟨us,g.lst c λz=>e (zjx h.1 d (z▸f)),LBut.isQs g i⟩
end
def zvq{ds:List Due}{qs:List Rat}(hd:∀d∈ds,zaF qs.length d/\d.a<=1000000000000)(u:ds.length<=64)(e:∀q∈qs,zjW q):∀d∈ds,SzQ (za2 ds qs d) 240 82:=by
 intro d h;have g:∀i j,j<3->0<=zX ds i j/\zX ds i j<=100000000000000:=λi j _=>by
  have:=zgy (m:=i) (r:=j) ds λd h=>⟨(hd d h).1.2.2.2.2.2.2.2.1,(hd d h).2⟩
  lia
 obtain⟨⟨k,l,s,q1,o,t,n,f,a1⟩,a2⟩:=hd d h;obtain⟨q,b⟩:=zN (show d.p.toNat<qs.length by lia);have c:qs.getD d.p.toNat 0=q:=by rw[yi,b];rfl
 unfold za2;rw[c];exact((znh f a1).mul (ztC (e q (ym b)).2 (g _) (show d.r.toNat<3 by lia)) (yh _) (yh _)).mono (by decide) (by decide)
noncomputable def zlj (K:Fg):Sp:=λvs H Q _=>∃(a y:Addr) (ds:List Due) (ws:List V) (qs:List Rat),vs=[.ref a,.ref y]/\IsSh K H a ds/\H y=some (.lst ws)/\IsQs H ws qs/\(∀d∈ds,zaF qs.length d/\d.a<=1000000000000)/\ds.length<=64/\qs.length<=9/\(∀q∈qs,zjW q)/\∀p H' vs,H p=none->Same H H'->H' p=some (.lst vs)->IsQs H' vs ((List.range qs.length).map (ze1 ds (za2 ds qs)))->Q (.ref p) H'
def zqM:=λ{K:Fg} {a y:Addr} {ds:List Due} {ws:List V} {qs:List Rat} {H:Hp} {Q:VK} {E:XK} h hy hq hd hl h9 hs k=>@id (zlj K [.ref a,.ref y] H Q E) ⟨a,y,ds,ws,qs,rfl,h,hy,hq,hd,hl,h9,hs,k⟩
noncomputable def Dv (D:Nat) (x:Rat):Prop:=∃t:Int,x*((D:Int):Rat)=(t:Rat)
section
variable {D E:Nat}{x y:Rat}
end
noncomputable def DvB (D:Nat) (x:Rat):Prop:=0<=x/\x<=((100000000000000000:Int):Rat)/\Dv D x
section
variable {f:Nat->Int}{q q':Rat}{D:Nat}
noncomputable def rkN (t:Int):Nat:=if 0<t then t.toNat else 1
end
noncomputable def zrB (F:Due->Int):List Due->Nat
 | []=>1
 | d :: ds=>rkN (F d)*zrB F ds
noncomputable def rkD (ds:List Due) (d:Due):Int:=zX ds d.p.toNat d.r.toNat
noncomputable def zvn (ds:List Due):Nat:=zrB (rkD ds) ds
set_option genInjectivity false
set_option genSizeOf false
structure Deep(ds:List Due)(qs:List Rat)(D:Nat):Prop where
 pos:0<D
 lay:∀q∈qs,DvB D q
 zs:sz ((D*zvn ds:Nat):Int)<=3000
noncomputable def Drawn (ds:List Due) (c m:Int):Prop:=(m=0->∀d∈ds,d.a<=12)/\(m≠0->c<17)/\ds.length=c.toNat
end Internal
namespace Dt
set_option genInjectivity false
set_option genSizeOf false
noncomputable def sm (n:Nat) (f:Nat->Rat):Rat:=match n with
 | 0=>0
 | n+1=>sm n f+f n
noncomputable def skip (i:Nat) (f:Nat->Rat):Nat->Rat:=λr=>if r<i then f r else f (r+1)
noncomputable def up (i k:Nat):Nat:=if k<i then k else k+1
noncomputable def sgn:Nat->Rat
 | 0=>1
 | n+1=>-sgn n
noncomputable def det:Nat->(Nat->Nat->Rat)->Rat
 | 0,_=>1
 | n+1,c=>sm (n+1) λi=>sgn (n+i)*c n i*det n (λj=>skip i (c j))
end Dt
namespace Dt
set_option genInjectivity false
set_option genSizeOf false
noncomputable def cl (A:Nat->Nat->Rat):Nat->Nat->Rat:=λj r=>A r j
structure Bar(n k:Nat)(A T:Nat->Nat->Rat)(d:Rat):Prop where
 d0:d≠0
 dd:d=det k (cl A)
 id1:∀i m,i<k->m<k->T i m=if i=m then d else 0
 id2:∀i m,k<=i->i<n->m<k->T i m=0
 rel:∀l j,l<n->j<=n->d*A l j=sm k (λm=>A l m*T m j)+(if k<=l then T l j else 0)
section
variable {n k:Nat}{A T:Nat->Nat->Rat}{d:Rat}
noncomputable def swp {α:Type} (T:Nat->α) (a b:Nat):Nat->α:=λi=>if i=a then T b else if i=b then T a else T i
end
end Dt
namespace Dt
set_option genInjectivity false
set_option genSizeOf false
noncomputable def Bd (b x:Rat):Prop:=-b<=x/\x<=b
structure Eqv(n:Nat)(A B:Nat->Nat->Rat):Prop where
 dt:det n (cl A)=0↔det n (cl B)=0
 an:∀x:Nat->Rat,(∀l,l<n->sm n (λm=>A l m*x m)=A l n)↔∀l,l<n->sm n (λm=>B l m*x m)=B l n
end Dt
namespace Dt
set_option genInjectivity false
set_option genSizeOf false
structure Leak(n:Nat)(f:Nat->Nat->Rat)(r:Nat->Rat):Prop where
 nn:∀j i,j<n->i<n->0<=f j i
 own:∀i,i<n->f i i=0
 le:∀j,j<n->sm n (f j)<=r j
 leak:∀S:Nat->Bool,(∃j,j<n/\S j=true)->∃j,j<n/\S j=true/\sm n (λi=>if S i then f j i else 0)<r j
noncomputable def bal (f:Nat->Nat->Rat) (r:Nat->Rat):Nat->Nat->Rat:=λi j=>if i=j then r i else -f j i
end Dt
namespace Dt
set_option genInjectivity false
set_option genSizeOf false
noncomputable def zep (B:Nat->Rat):Nat->Rat
 | 0=>1
 | n+1=>zep B n*B n
end Dt
namespace Internal
set_option genInjectivity false
set_option genSizeOf false
open PySem PySem.Spec PyProof.Rows
section
variable {f:Nat->Int}{q q':Rat}
noncomputable def zmL (f:Nat->Int) (r:Nat):Rat:=((zco f r:Int):Rat)
end
noncomputable def zbM (ρ:Nat->Option Nat) (ds:List Due) (i j:Nat):Int:=ds.foldl (fun(s:Int) (d:Due)=>if d.p=(i:Int)/\d.q=(j:Int)/\ρ i=some d.r.toNat then s+d.a else s) 0
def zhw(ρ:Nat->Option Nat)(ds:List Due)(d:Due)(i j:Nat):zbM ρ (ds++[d]) i j=zbM ρ ds i j+if d.p=(i:Int)/\d.q=(j:Int)/\ρ i=some d.r.toNat then d.a else 0:=by
 have e:zbM ρ (ds++[d]) i j=if d.p=(i:Int)/\d.q=(j:Int)/\ρ i=some d.r.toNat then zbM ρ ds i j+d.a else zbM ρ ds i j:=by
  unfold zbM;rw[yaq];rfl
 rw[e];split
 ·rfl
 ·exact(Int.add_zero _).symm
end Internal
namespace Rc
set_option genInjectivity false
set_option genSizeOf false
variable {j k:Nat}
section
variable {n:Nat}{g:Nat->Nat->Bool}{i:Nat}
noncomputable def zg9 (n:Nat) (g:Nat->Nat->Bool) (j:Nat) (l:List Nat):List Nat:=(List.range n).filter λk=>g j k&&!decide (k∈l)
def mem_next{l:List Nat}:k∈zg9 n g j l↔k<n/\g j k=true/\k∉l:=by
 unfold zg9;rw[yaP,yZ,yF,Bool.not_eq_true',decide_eq_false_iff_not]
def znw{l:List Nat}:(zg9 n g j l).Nodup:=List.nodup_range.filter _
noncomputable def seqL (n:Nat) (g:Nat->Nat->Bool) (i:Nat):Nat->List Nat
 | 0=>[i]
 | k+1=>if k<(seqL n g i k).length then seqL n g i k++zg9 n g ((seqL n g i k).getD k 0) (seqL n g i k)else seqL n g i k
def seq_succ(h:k<(seqL n g i k).length):seqL n g i (k+1)=seqL n g i k++zg9 n g ((seqL n g i k).getD k 0) (seqL n g i k):=if_pos h
def zeF(h:¬k<(seqL n g i k).length):seqL n g i (k+1)=seqL n g i k:=if_neg h
theorem ziS:∀k,(seqL n g i k).Nodup
 | 0=>by show[i].Nodup;simp
 | k+1=>by
  have c:=ziS k;by_cases h:k<(seqL n g i k).length
  ·rw[seq_succ h];exact yS.mpr ⟨c,znw,λa f b d e=>(mem_next.mp d).2.2 (e▸f)⟩
  ·rw[zeF h];exact c
theorem seq_lt(hi:i<n):∀k x,x∈seqL n g i k->x<n
 | 0,x,h=>by rw[yp.mp h];exact hi
 | k+1,x,a=>by
  have b:=seq_lt hi k;by_cases h:k<(seqL n g i k).length
  ·rw[seq_succ h]at a;rcases yA.mp a with a | a
   ·exact b x a
   ·exact(mem_next.mp a).1
  ·rw[zeF h]at a;exact b x a
theorem zfp:∀k,i∈seqL n g i k
 | 0=>yp.mpr rfl
 | k+1=>by
  by_cases h:k<(seqL n g i k).length
  ·rw[seq_succ h];exact yat _ (zfp k)
  ·rw[zeF h];exact zfp k
def ztq{l:List Nat}(nd:l.Nodup)(h:∀x∈l,x<n):l.length<=n:=by
 have h2:l.length<=(List.range n).length:=List.Nodup.length_le_of_subset nd λx a=>yZ.mpr (h x a)
 rwa [yM]at h2
noncomputable def reach (n:Nat) (g:Nat->Nat->Bool) (i:Nat):List Nat:=seqL n g i n
def reach_lt(hi:i<n){x:Nat}(a:x∈reach n g i):x<n:=seq_lt hi n x a
def reach_start:i∈reach n g i:=zfp n
def seq_len(hi:i<n)(k:Nat):(seqL n g i k).length<=n:=ztq (ziS k) (seq_lt hi k)
theorem zi2{k:Nat}(h:¬k<(seqL n g i k).length):∀m,seqL n g i (k+m)=seqL n g i k
 | 0=>rfl
 | m+1=>by
  have a:=zi2 h m;show seqL n g i (k+m+1)=_;rw[zeF (by rw[a];lia),a]
def seq_end(hi:i<n)(a:k<=(seqL n g i k).length)(h:¬k<(seqL n g i k).length):seqL n g i k=reach n g i:=by
 have hn:=seq_len (g:=g) hi k
 have:=zi2 h (n-k)
 rw[show k+(n-k)=n by lia]at this;exact this.symm
noncomputable def minL:List (List Nat)->List Nat
 | []=>[]
 | l :: ls=>ls.foldl (λb c=>if c.length<b.length then c else b) l
noncomputable def circles (n:Nat) (g:Nat->Nat->Bool) (sh:Nat->Bool):List (List Nat):=((List.range n).map (reach n g)).filter λl=>l.all sh
noncomputable def circle (n:Nat) (g:Nat->Nat->Bool) (sh:Nat->Bool):List Nat:=minL (circles n g sh)
variable {sh:Nat->Bool}
def mem_circles{c:List Nat}:c∈circles n g sh↔∃i,i<n/\c=reach n g i/\∀x∈c,sh x=true:=by
 unfold circles;rw[yaP,yaw,ya5];constructor
 ·rintro⟨⟨i,hi,e⟩,h⟩;exact⟨i,yZ.mp hi,e.symm,h⟩
 ·rintro⟨i,hi,e,h⟩;exact⟨⟨i,yZ.mpr hi,e.symm⟩,h⟩
structure Cir(n:Nat)(g:Nat->Nat->Bool)(sh:Nat->Bool)(c:List Nat):Prop where
 nd:c.Nodup
 lt:∀x∈c,x<n
 sh:∀x∈c,sh x=true
 cl:∀x y,x∈c->y<n->g x y=true->y∈c
 ne:c≠[]
 small:∀S:Nat->Prop,(∀x,S x->x∈c)->(∀j k,S j->k<n->g j k=true->S k)->(∃j,S j)->∀x∈c,S x
end
end Rc
namespace Dt
set_option genInjectivity false
set_option genSizeOf false
end Dt
namespace Internal
set_option genInjectivity false
set_option genSizeOf false
open PySem PySem.Spec PyProof.Rows
noncomputable def zuh (ds:List Due) (l:Nat->Rat) (d:Due):Rat:=((d.a:Int):Rat)*zaY (zX ds d.p.toNat) (l d.p.toNat) d.r.toNat
noncomputable def stp (ds:List Due) (l:Nat->Rat) (i:Nat):Option Nat:=zbA (zX ds i) (l i) 3
noncomputable def flR (ds:List Due) (l:Nat->Rat) (i j:Nat):Rat:=((zbM (stp ds l) ds i j:Int):Rat)
noncomputable def zqj (n:Nat) (ds:List Due) (l:Nat->Rat) (i:Nat):Rat:=Dt.sm n (flR ds l i)
structure CInv(n:Nat)(ds:List Due)(p:Nat->Rat)(l:Nat->Rat)(t:Rat):Prop where
 lo:∀i,i<n->0<=l i
 hi:∀i,i<n->l i<=zmL (zX ds i) 3
 sh:∀i,i<n->stp ds l i≠none->l i=t*p i+ze1 ds (zuh ds l) i
 fu:∀i,i<n->stp ds l i=none->zmL (zX ds i) 3<=t*p i+ze1 ds (zuh ds l) i
section
variable {n:Nat}{ds:List Due}{p l s:Nat->Rat}{t x e:Rat}
end
open Dt (sm Leak bal)
noncomputable def sF (m:Nat) (s:Nat->Nat) (x:Nat->Rat) (i:Nat):Rat:=sm m (λa=>if s a=i then x a else 0)
section
variable {n m:Nat}{s:Nat->Nat}{x:Nat->Rat}
end
section
variable {n:Nat}{ds:List Due}{p l:Nat->Rat}
noncomputable def gB (ds:List Due) (l:Nat->Rat) (i j:Nat):Bool:=decide (0<zbM (stp ds l) ds i j)
noncomputable def shB (ds:List Due) (l:Nat->Rat) (i:Nat):Bool:=(stp ds l i).isSome
end
end Internal
namespace Dt
set_option genInjectivity false
set_option genSizeOf false
end Dt
namespace Internal
set_option genInjectivity false
set_option genSizeOf false
open PySem PySem.Spec PyProof.Rows
open Dt (sm Leak bal)
noncomputable def zvh (f:Nat->Nat->Rat) (r:Nat->Rat) (a b:Nat):Rat:=if a=0 then(if b=0 then 1 else 0)else bal f r a b
section
variable {n:Nat}{ds:List Due}{l:Nat->Rat}{c:List Nat}{m:Nat}
abbrev cF(ds:List Due)(l:Nat->Rat)(c:List Nat):Nat->Nat->Rat:=λa b=>flR ds l (c.getD a 0) (c.getD b 0)
abbrev cR(n:Nat)(ds:List Due)(l:Nat->Rat)(c:List Nat):Nat->Rat:=λa=>zqj n ds l (c.getD a 0)
end
open PySem PySem.Spec PyProof.Rows
open Dt (sm)
noncomputable def rkL (ds:List Due) (l:Nat->Rat) (i:Nat):Nat:=(stp ds l i).getD 3
section
variable {ds:List Due}{l l':Nat->Rat}{i:Nat}
end
noncomputable def nsum (f:Nat->Nat):Nat->Nat
 | 0=>0
 | n+1=>nsum f n+f n
noncomputable def zvc (ds:List Due) (l:Nat->Rat) (i:Nat):Nat:=nsum (λr=>if 0<zX ds i r/\zmL (zX ds i) (r+1)<=l i then 1 else 0) 3
noncomputable def zvv (n:Nat) (ds:List Due) (l:Nat->Rat):Nat:=nsum (zvc ds l) n
noncomputable def zvD (ds:List Due) (i:Nat):Nat:=nsum (λr=>if 0<zX ds i r then 1 else 0) 3
noncomputable def zvA (n:Nat) (ds:List Due):Nat:=nsum (zvD ds) n
noncomputable def zvz (ds:List Due) (l:Nat->Rat) (i:Nat):Rat:=zmL (zX ds i) (rkL ds l i+1)
noncomputable def znd (ds:List Due) (l r:Nat->Rat) (i:Nat):Rat:=(zvz ds l i-l i)/r i
noncomputable def zj1 (ds:List Due) (l r:Nat->Rat):Nat->Option Rat
 | 0=>none
 | k+1=>if 0<r k then(match zj1 ds l r k with | none=>some (znd ds l r k) | some q=>some (if znd ds l r k<q then znd ds l r k else q))else zj1 ds l r k
section
variable {ds:List Due}{l r:Nat->Rat}
end
section
variable {n:Nat}{ds:List Due}{l s:Nat->Rat}{x:Rat}
abbrev rtR(n:Nat)(ds:List Due)(l s:Nat->Rat)(i:Nat):Rat:=s i*zqj n ds l i
end
end Internal
namespace Dt
set_option genInjectivity false
set_option genSizeOf false
end Dt
namespace Internal
set_option genInjectivity false
set_option genSizeOf false
open PySem PySem.Spec PyProof.Rows
open Dt (sm Leak bal)
noncomputable def slL (n:Nat) (ds:List Due) (l:Nat->Rat):List Nat:=(List.range n).filter (shB ds l)
abbrev crL(n:Nat)(ds:List Due)(l:Nat->Rat):List Nat:=Rc.circle n (gB ds l) (shB ds l)
noncomputable def zu4 (n:Nat) (ds:List Due) (l:Nat->Rat) (c:List Nat) (x:Nat->Rat):Prop:=∀a,a<c.length->sm c.length (λb=>zvh (cF ds l c) (cR n ds l c) a b*x b)=if a=0 then 1 else 0
noncomputable def zuP (n:Nat) (ds:List Due) (p l:Nat->Rat) (c:List Nat) (x:Nat->Rat):Prop:=∀a,a<c.length->sm c.length (λb=>bal (cF ds l c) (cR n ds l c) a b*x b)=p (c.getD a 0)
noncomputable def zvt (n:Nat) (ds:List Due) (l:Nat->Rat) (c:List Nat):Nat->Rat:=Classical.epsilon (zu4 n ds l c)
noncomputable def zvf (n:Nat) (ds:List Due) (p l:Nat->Rat) (c:List Nat):Nat->Rat:=Classical.epsilon (zuP n ds p l c)
section
variable {n:Nat}{ds:List Due}{p l:Nat->Rat}{t:Rat}
end
noncomputable def shF (n:Nat) (ds:List Due) (p l:Nat->Rat):Nat->Rat:=
 if crL n ds l=[]then sF (slL n ds l).length (λa=>(slL n ds l).getD a 0) (zvf n ds p l (slL n ds l))else sF (crL n ds l).length (λa=>(crL n ds l).getD a 0) (zvt n ds l (crL n ds l))
noncomputable def rtF (n:Nat) (ds:List Due) (p l:Nat->Rat):Nat->Rat:=rtR n ds l (shF n ds p l)
noncomputable def stF (n:Nat) (ds:List Due) (p l:Nat->Rat) (t:Rat):Rat:=
 if crL n ds l=[] then(match zj1 ds l (rtF n ds p l) n with | none=>1-t | some q=>if 1-t<q then 1-t else q) else(zj1 ds l (rtF n ds p l) n).getD 0
noncomputable def nxL (n:Nat) (ds:List Due) (p l:Nat->Rat) (t:Rat):Nat->Rat:=λi=>l i+stF n ds p l t*rtF n ds p l i
noncomputable def nxT (n:Nat) (ds:List Due) (p l:Nat->Rat) (t:Rat):Rat:=if crL n ds l=[]then t+stF n ds p l t else t
section
variable {n:Nat}{ds:List Due}{p l:Nat->Rat}{t:Rat}
end
end Internal
namespace Dt
set_option genInjectivity false
set_option genSizeOf false
noncomputable def Wh (q:Rat):Prop:=∃k:Int,q=(k:Rat)
end Dt
namespace Internal
set_option genInjectivity false
set_option genSizeOf false
open PySem PySem.Spec PyProof.Rows
open Dt (sm Leak bal Wh Bd zep)
section
variable {n:Nat}{ds:List Due}{p l:Nat->Rat}{t W P:Rat}
structure ShW(n:Nat)(ds:List Due)(p l:Nat->Rat)(M:Rat)(Δ:Rat):Prop where
 w:Wh Δ
 ne:Δ≠0
 bd:Bd M Δ
 ws:∀i,i<n->Wh (shF n ds p l i*Δ)
 bs:∀i,i<n->Bd M (shF n ds p l i*Δ)
end
open PySem PySem.Spec PyProof.Rows
open Dt (sm Leak bal Wh Bd zep)
section
variable {n:Nat}{ds:List Due}{p l:Nat->Rat}{t W M Δ:Rat}{D:Nat}
end
open PySem PySem.Spec PyProof.Rows
open Dt (sm Leak bal Wh Bd zep)
noncomputable def cst (n:Nat) (ds:List Due) (p:Nat->Rat):Nat->(Nat->Rat) × Rat
 | 0=>(λ_=>0,0)
 | k+1=>(nxL n ds p (cst n ds p k).1 (cst n ds p k).2,nxT n ds p (cst n ds p k).1 (cst n ds p k).2)
section
variable {n:Nat}{ds:List Due}{p l:Nat->Rat}{t W P:Rat}
structure COk(n:Nat)(ds:List Due)(p:Nat->Rat)(B:Rat)(k:Nat)(l:Nat->Rat)(t:Rat):Prop where
 inv:CInv n ds p l t
 t0:0<=t
 t1:t<=1
 kk:k<=zvv n ds l+(if t=1 then 1 else 0)
 dv:∃D:Nat,0<D/\((D:Int):Rat)<=zep (λ_=>B) k/\(∀i,i<n->Dv D (l i))/\Dv D t
end
end Internal
namespace Internal.BT
set_option genInjectivity false
set_option genSizeOf false
open PySem
theorem all:bootBuiltins "all" = some (.builtin "all"):=by decide +kernel
end Internal.BT
namespace Internal
set_option genInjectivity false
set_option genSizeOf false
variable {C a b dx p:Addr}{E:XK}{H H' H1 H2:Hp}{K:Fg}{N ps ws:List Str}{Q:VK}{S pf:Nat->Int}{X:Cx}{as:List Addr}{c:Int}{e elt iter tg:Expr}{es:List Expr}{fd:FuncData}{i j k m n:Nat}{ns:List Int}{o:HO}{q r:Rat}{row:Nat->LRow}{scope:Scope}{sp:Sp}{tl:TE}{v:V}{wi:TI}{x:Str}{xs:List V}
open PySem PySem.Spec PyProof.Rows
section
variable {X:Cx}
noncomputable def zj0 (K:Fg):List V->Hp->VK->Prop:=λvs H Q=>∃(a:Addr) (bs:List Bool),vs=[.ref a]/\SqL K H a (bs.map V.bl)/\Q (.bl (bs.all id)) H
theorem zke:∀{bs:List Bool} {its:List Value},Vals (bs.map V.bl) its->its=bs.map Value.bool
 | [],_,r=>by cases r;rfl
 | b :: bs,_,r=>by
  cases r with
  | cons h t=>rw[zke t,show _=Value.bool b from h];rfl
def zn5(w:X.calm=true):CallR X (.builtin "all") (zj0 X.K):=by
 intro pins s σ H xs us Q I r h;obtain⟨a,bs,rfl,l,q⟩:=h;obtain⟨u,rfl,n⟩:=vals1 r;cases n;obtain⟨its,t,pl,B,d⟩:=I.walk l;have g:=zke t;subst g;refine call_all_walk (wpAny_pyIter_list pl ?_);refine⟨s.heap.objs.size,[s.heap.objs.size,a],[s.heap.objs.size],(bs.map Value.bool).toArray.size,_,_,λi=>(bs[i]?).getD true,rfl,Walks.list (A:=X.A.in1) (I.ok.hd w) _ a (yo d) (bs.map Value.bool).toArray,
  ⟨⟨_,Heap.get?_push_size _ rfl,rfl,rfl⟩,pl.push _⟩,λi v s' x y k f=>?_,λh' tk m=>?_⟩
 ·have c:(bs.map Value.bool)[i]?=some v:=by simpa using k
  rw[yg]at c;cases e:bs[i]? with
  | none=>rw[e]at c;cases c
  | some b=>
   dsimp only at f;rw[e]at c f;cases c;exact wpAny_truthy_bool f
 ·have e:((List.range (bs.map Value.bool).toArray.size).all λi=>(bs[i]?).getD true)=bs.all id:=by
   rw[yl,yb];exact LSm.range_all bs
  rw[e];have j:Inv X pins σ H { s with heap:=h',toks:=tk }:=I.kept λb o z=>m b o (λp=>by rw[yp.mp p]at z;exact yQ _ (Heap.lt_size z)) (Heap.get?_push_of_some _ z);exact⟨.bl _,H,j,rfl,q⟩
end
def zsT{bs:List Bool}(h:H a=some (.lst (bs.map V.bl)))(q:Q (.bl (bs.all id)) H):zj0 K [.ref a] H Q:=⟨a,bs,rfl,.of h,q⟩
open PySem PySem.W PySem.Spec PySem.Calls PyProof.Rows
section
variable {prog:Program}{w:World}{A:Around}{E:Value->Shared->Prop}{s:Shared}{l I S:Addr}{kid:String}{vs:List Value}{kw:List (Str × Value)}{R:Result->Shared->Prop}{Q:Value->Shared->Prop}
noncomputable def zed (I S:Addr) (a h:Heap):Prop:=∀b o,b≠I->b≠S->a.get? b=some o->h.get? b=some o
def zsr(kf:Nat->Int)(hh:A.handled=none)(hl:s.heap.IsList l vs.toArray)(M:l≠I)(u:S≠I)(Z:l≠S)
  (turn:∀(i:Nat) (v:Value),vs[i]?=some v->∀(h:Heap) (tk:Nat),zed I S s.heap h ->
   wpAny (model prog w) A.in1 (call (.builtin kid) [v]) (λx G=>∃d t,x=.int (kf i) t/\G={ s with heap:=h,toks:=d }) (λ_ _=>False) { s with heap:=h,toks:=tk })
  (hR:∀i v h' d,vs[i]?=some v->(∀j,j<vs.length->kf i<=kf j/\(j<i->kf i<kf j))->zed I S s.heap h'->R (.ok (.ret v)) { s with heap:=h',toks:=d }) :
  ∀(r j i:Nat) (h:Heap) (tk:Nat) (C:Value) (tb:Tok) (c:Nat),vs.length-(j+1)=r->j+1<=vs.length->zed I S s.heap h ->
   h.get? S=some (seqObj "list" #[C,.int (kf i) tb] c)->h.IsListIter I l (j+1)->vs[i]?=some C->i<=j->(∀f,f<=j->kf i<=kf f/\(f<i->kf i<kf f)) ->
   codeAny (model prog w) A (.builtin "min.loop" ⟨[.ref I,.builtin kid,.ref S],kw⟩) R { s with heap:=h,toks:=tk }:=by
 have m:(toString "min" ++ toString ".loop" : String) = "min.loop" := by decide
 have W:=Walks.list (prog:=prog) (w:=w) (A:=A.in1) hh I l M vs.toArray;have Q:vs.toArray.size=vs.length:=yl ..;have L:∀h,zed I S s.heap h->h.IsList l vs.toArray:=λh k=>by
  obtain⟨o,e,r⟩:=hl;exact⟨o,k l o M Z e,r⟩
 intro r
 induction r with
 | zero=>
  intro j i h tk C tb c hr hj K J B y Y a;have a0:j+1=vs.length:=by lia
  refine codeAny_builtin ya0 ?_;rw[Around.under_plainId y3 _];show wpAny _ A.in1 (seqItems? (.ref S) >>= _) _ _ _;refine wpAny_bind (wpAny_seqItems J rfl ?_);show wpAny _ A.in1 (tryCatch (pyNext (.ref I)) _ >>= _) _ _ _;refine wpAny_bind (wpAny_tryCatch (W.done _ _ _ ⟨by rw[Q,<- a0];exact B,L h K⟩ λh' d g=>?_));have V:=g S _ (by simpa using u) J;have U:=Heap.SameBut.update h' S (Obj.mapSeq λ_=>(#[]:Array Value));show wpAny _ A.in1 (updateSeq S (λ_=>#[]) >>= _) _ _ _;refine wpAny_bind ?_;refine wpAny_updateSeq V rfl (wpAny_bind (wpAny_letGo (wpAny_pure ?_)));exact hR i C _ _ y (λf E=>a f ⋯) λb o n1 n2 e=>(U.2 b n2).trans (g b o (by simpa using n1) (K b o n1 n2 e))
 | succ r ih=>
  intro j i h tk C tb c hr hj K J B y Y a;have q:j+1<vs.length:=by lia
  refine codeAny_builtin ya0 ?_;rw[Around.under_plainId y3 _];show wpAny _ A.in1 (seqItems? (.ref S) >>= _) _ _ _;refine wpAny_bind (wpAny_seqItems J rfl ?_);show wpAny _ A.in1 (tryCatch (pyNext (.ref I)) _ >>= _) _ _ _;refine wpAny_bind (wpAny_tryCatch (W.item (j+1) _ _ _ (by rw[Q];exact q) ⟨B,L h K⟩ λv h' d hP D g=>?_));have hv:vs[j+1]?=some v:=by simpa using hP
  obtain⟨O,n,F,H⟩:=id D.1;have K1:zed I S s.heap h':=λb o n1 n2 e=>g b o (by simpa using n1) (K b o n1 n2 e);have z:=g S _ (by simpa using u) J;show wpAny _ A.in1 (tryCatch (holding [v] (call (.builtin kid) [v])) _ >>= _) _ _ _;refine wpAny_bind (wpAny_tryCatch (wpAny_holding (wpAny_mono (turn (j+1) v hv h' d K1) (λx G he=>?_) λ_ _ hF=>hF.elim)));obtain⟨a2,p,rfl,rfl⟩:=he;have T:h'.IsListIter I l (j+1+1):=⟨O,n,F,H⟩
  show wpAny _ A.in1 (tryCatch (holding [v,.int (kf (j+1)) p] (richCompare .Lt (.int (kf (j+1)) p) (.int (kf i) tb) >>= _)) _ >>= _) _ _ _;refine wpAny_bind (wpAny_tryCatch (wpAny_holding (wpAny_bind (CmpOf.ints_lt (prog:=prog) (w:=w) (A:=A.in1) (P:=λi v=>∃t,v=.int (kf i) t) kf (λi v h=>h) (j+1) i _ _ _ _ _ ⟨p,rfl⟩ ⟨tb,rfl⟩ ?_))));refine wpAny_bind (wpAny_holding (wpAny_truthy_bool ?_));refine wpAny_bind (wpAny_letGo (wpAny_pure ?_));by_cases N:kf (j+1)<kf i
  ·have U:=Heap.SameBut.update h' S (Obj.mapSeq λ_=>#[v,.int (kf (j+1)) p]);obtain⟨c2,a1⟩:∃c2,(h'.update S (Obj.mapSeq λ_=>#[v,.int (kf (j+1)) p])).get? S=some (seqObj "list" #[v,.int (kf (j+1)) p] c2):=⟨_,get?_update_seq z λ_=>#[v,.int (kf (j+1)) p]⟩
   simp only[N,decide_true,if_true];refine wpAny_bind ?_;refine wpAny_updateSeq z rfl (wpAny_bind (wpAny_letGo ?_));rw[m];refine wpAny_pure ⟨plainId_quiet y3 _,ih (j+1) (j+1) _ _ v p c2 ⋯ q (λb o n1 n2 e=>(U.2 b n2).trans (K1 b o n1 n2 e)) a1 ⟨O,(U.2 I u.symm).trans n,F,H⟩ hv (yh _) λf E=>?_⟩;by_cases e:f=j+1
   ·subst e;exact⟨⋯,λ_=>by lia⟩
   ·have X:=a f ⋯;have a3:=X.1;exact⟨⋯,λ_=>by lia⟩
  ·simp only[N,decide_false,yaC,if_false];refine wpAny_bind (wpAny_letGo ?_);rw[m];refine wpAny_pure ⟨plainId_quiet y3 _,ih (j+1) i _ _ C tb c ⋯ q K1 z T y ⋯ λf E=>?_⟩;by_cases e:f=j+1
   ·subst e;exact⟨⋯,λ_=>by lia⟩
   ·exact a f ⋯
def zlx(a v d:Value):argsOk "min" ⟨[a],[(Str.ofString "key",v),(Str.ofString "default",d)]⟩:=by unfold argsOk;kernel_rfl
def zrM(kf:Nat->Int){d:Value}(Z:A.handled=none)(G:s.heap.IsList l vs.toArray)
  (turn:∀(i:Nat) (v:Value),vs[i]?=some v->∀(h:Heap) (tk:Nat),(∀b o,s.heap.get? b=some o->h.get? b=some o) ->
   wpAny (model prog w) A.in1 (call (.builtin kid) [v]) (λx q=>∃a t,x=.int (kf i) t/\q={ s with heap:=h,toks:=a }) (λ_ _=>False) { s with heap:=h,toks:=tk })
  (hQ:∀i v h' a,vs[i]?=some v->(∀j,j<vs.length->kf i<=kf j/\(j<i->kf i<kf j))->(∀b o,s.heap.get? b=some o->h'.get? b=some o)->Q v { s with heap:=h',toks:=a })
  (hD:vs=[]->∀h' a,(∀b o,s.heap.get? b=some o->h'.get? b=some o)->Q d { s with heap:=h',toks:=a }) :
  wpAny (model prog w) A (call (.builtin "min") [.ref l] [(Str.ofString "key",.builtin kid),(Str.ofString "default",d)]) Q E s:=by
 have c:(toString "min" ++ toString ".loop" : String) = "min.loop" := by decide
 obtain⟨ol,H,_⟩:=id G;have D:l<s.heap.objs.size:=Heap.lt_size H;refine kmb_tree PySem.F.kind_min PySem.F.plain_min PySem.F.entry_min (zlx _ _ _) ?_;show wpAny _ A.in1 (Builtin.Builtins.bindParams "min" ["key", "default"] 0 ⟨[],[(Str.ofString "key",.builtin kid),(Str.ofString "default",d)]⟩ >>= _) _ _ s;refine wpAny_bind (wpAny_of_eq (show Builtin.Builtins.bindParams "min" ["key", "default"] 0 ⟨[],[(Str.ofString "key",.builtin kid),(Str.ofString "default",d)]⟩=pure [some (.builtin kid),some d]from rfl) ?_);refine wpAny_bind (wpAny_pure ?_);refine wpAny_bind (wpAny_pyIter_list G ?_);refine wpAny_bind (wpAny_newList ?_ (yI _));rw[c];have M:(s.heap.push { cls:=.type "list_iterator",data:=.fields #[.ref l,.int 0 0] }).objs.size=s.heap.objs.size+1:=size_push' ..;have z:l≠s.heap.objs.size:=yo D;have m:(s.heap.push { cls:=.type "list_iterator",data:=.fields #[.ref l,.int 0 0] }).objs.size≠s.heap.objs.size:=by rw[M];exact ybw (y9 _)
 have J:l≠(s.heap.push { cls:=.type "list_iterator",data:=.fields #[.ref l,.int 0 0] }).objs.size:=by rw[M];exact yo (yaI D)
 refine wpAny_pure ⟨plainId_quiet y3 _,?_⟩;have U:((s.heap.push { cls:=.type "list_iterator",data:=.fields #[.ref l,.int 0 0] }).push (seqObj "list" #[] 0)).get? s.heap.objs.size=some { cls:=.type "list_iterator",data:=.fields #[.ref l,.int 0 0] }:=
  Heap.get?_push_of_some _ (Heap.get?_push_size _ rfl)
 have V:((s.heap.push { cls:=.type "list_iterator",data:=.fields #[.ref l,.int 0 0] }).push (seqObj "list" #[] 0)).get? (s.heap.push { cls:=.type "list_iterator",data:=.fields #[.ref l,.int 0 0] }).objs.size=some (seqObj "list" #[] 0):=Heap.get?_push_size _ rfl;have R:∀b o,s.heap.get? b=some o->((s.heap.push { cls:=.type "list_iterator",data:=.fields #[.ref l,.int 0 0] }).push (seqObj "list" #[] 0)).get? b=some o:=λb o e=>Heap.get?_push_of_some _ (Heap.get?_push_of_some _ e);have p:((s.heap.push { cls:=.type "list_iterator",data:=.fields #[.ref l,.int 0 0] }).push (seqObj "list" #[] 0)).IsList l vs.toArray:=by
  obtain⟨o,e,r⟩:=G;exact⟨o,R l o e,r⟩
 have old:∀b o,s.heap.get? b=some o->b≠s.heap.objs.size/\b≠(s.heap.push { cls:=.type "list_iterator",data:=.fields #[.ref l,.int 0 0] }).objs.size:=λb o e=>by
  have h1:=Heap.lt_size e;exact⟨yo h1,by rw[M];exact yo (yaI h1)⟩
 have W:=Walks.list (prog:=prog) (w:=w) (A:=A.in1) Z s.heap.objs.size l z vs.toArray;have S:vs.toArray.size=vs.length:=yl ..;generalize hSa:(s.heap.push { cls:=.type "list_iterator",data:=.fields #[.ref l,.int 0 0] }).objs.size=Sa at *
 generalize hH2:(s.heap.push { cls:=.type "list_iterator",data:=.fields #[.ref l,.int 0 0] }).push (seqObj "list" #[] 0)=H2 at *
 refine codeAny_builtin ya0 ?_;rw[Around.under_plainId y3 _];show wpAny _ A.in1 (seqItems? (.ref Sa) >>= _) _ _ _;refine wpAny_bind (wpAny_seqItems V rfl ?_);show wpAny _ A.in1 (tryCatch (pyNext (.ref s.heap.objs.size)) _ >>= _) _ _ _;by_cases C:vs=[]
 ·subst C;refine wpAny_bind (wpAny_tryCatch (W.done _ _ _ ⟨⟨_,U,rfl,rfl⟩,p⟩ λh' a f=>?_));refine wpAny_bind (wpAny_rule (wpAny_pure ?_));exact hD rfl h' a λb o e=>f b o (by simpa using(old b o e).1) (R b o e)
 have g:0<vs.length:=List.length_pos_iff.mpr C;refine wpAny_bind (wpAny_tryCatch (W.item 0 _ _ _ (by rw[S];exact g) ⟨⟨_,U,rfl,rfl⟩,p⟩ λv h' a hP n f=>?_));have hv:vs[0]?=some v:=by simpa using hP
 obtain⟨T,y,I,L⟩:=id n.1;have Y:∀b o,s.heap.get? b=some o->h'.get? b=some o:=λb o e=>f b o (by simpa using(old b o e).1) (R b o e);have u:=f Sa _ (by simpa using m) V;show wpAny _ A.in1 (tryCatch (holding [v] (call (.builtin kid) [v])) _ >>= _) _ _ _;refine wpAny_bind (wpAny_tryCatch (wpAny_holding (wpAny_mono (turn 0 v hv h' a Y) (λx q he=>?_) λ_ _ hF=>hF.elim)));obtain⟨a1,k,rfl,rfl⟩:=he;have X:=Heap.SameBut.update h' Sa (Obj.mapSeq λ_=>#[v,.int (kf 0) k]);obtain⟨O,N⟩:∃O,(h'.update Sa (Obj.mapSeq λ_=>#[v,.int (kf 0) k])).get? Sa=some (seqObj "list" #[v,.int (kf 0) k] O):=⟨_,get?_update_seq u λ_=>#[v,.int (kf 0) k]⟩
 show wpAny _ A.in1 (updateSeq Sa (λ_=>#[v,.int (kf 0) k]) >>= _) _ _ _;refine wpAny_bind ?_;refine wpAny_updateSeq u rfl ?_;rw[c];have K2:zed s.heap.objs.size Sa s.heap (h'.update Sa (Obj.mapSeq λ_=>#[v,.int (kf 0) k])):=λb o n1 n2 e=>(X.2 b n2).trans (Y b o e);refine wpAny_pure ⟨plainId_quiet y3 _,zsr (s:=s) kf Z G z m J (λi v hi h tk K=>turn i v hi h tk λb o e=>K b o (old b o e).1 (old b o e).2 e) (λi v P B hi hb K=>hQ i v P B hi hb λb o e=>K b o (old b o e).1 (old b o e).2 e) _ 0 0 _ _ v k O rfl g K2 N ⟨T,(X.2 _ m.symm).trans y,I,L⟩ hv (yh _) λj' a0=>?_⟩;have e:j'=0:=by lia
 subst e;exact⟨⋯,λh=>absurd h (yQ _)⟩
end
noncomputable def zmu (K:Fg) (Q:VK) (vs:List V) (H1:Hp):Prop:=∃(a:Addr) (ls:List Addr) (n:Nat->Nat),vs=[.ref a]/\SqL K H1 a (ls.map V.ref)/\(∀i b,ls[i]?=some b->∃xs,H1 b=some (.lst xs)/\xs.length=n i/\n i<=16000) /\
 ∀p H2,H1 p=none->Same H1 H2->H2 p=some (.lst [])->(ls=[]->Q (.ref p) H2)/\∀i b,ls[i]?=some b->(∀j,j<ls.length->n i<=n j/\(j<i->n i<n j))->Q (.ref b) H2
noncomputable def zme (K:Fg) (ta:TA):TE:=λσ H Q=>ta σ H (zmu K Q)
def znM{p pos kp T dp B:Pos}{ta:TA}(hc:X.calm=true)(hg:Gl X "min")(hm:X.mg "min" = none)(hv:bootBuiltins "min" = some (.builtin "min"))(N:Gl X "len")(E:X.mg "len" = none)(D:bootBuiltins "len" = some (.builtin "len"))(ha:PA X [e] ta)
  (he:autoParam (backTo pos (starEach [e] X.env)=(false,eval e X.env) :: backTo pos (starEach [] X.env)) Internal.aut2._auto_1)
  (hplain:autoParam ((backTo pos (starEach [e] X.env)).any (·.1)=false) Internal.aut2._auto_1):PE X (.Call (.Name "min" p) [e] [⟨some "key",.Name "len" T,kp⟩,⟨some "default",Expr.List [] dp,B⟩] pos) (zme X.K ta):=by
 intro pins s σ H Q I h;refine wpAny_Call_Name_kw (zbX I hg hm hv ?_ (by decide) (by decide));refine PyProof.Rows.callWith_kw ?_ he hplain;refine thn (ha pos pins s σ H _ I h) λus U G=>?_;obtain⟨vs,H1,P,rv,a,l,n,rfl,hq,hn,kk⟩:=G;obtain⟨u1,rfl,r1⟩:=vals1 rv;cases r1;show wpAny (model X.prog X.w) X.A (evalAll ((do let v <- eval (.Name "len" T) X.env;standAt pos;pure v) :: (backToKw pos (keywordEach [⟨some "default",Expr.List [] dp,B⟩] X.env)).map (·.2))) _ _ U;refine wpAny_evalAll_cons (wpAny_bind (zbX P N E D (wpAny_bind (wpAny_standAt (wpAny_pure ?_))) (by decide) (by decide)));refine thn (zmf (t:=zfE) (nm:=some "default") (kpos:=B) (zK (zd (X:=X))) zoy pos pins U σ H1 (λws H2=>∃p,ws=[.ref p]/\H1 p=none/\Same H1 H2/\H2 p=some (.lst [])) P ?_) λkvs y G=>?_
 ·exact⟨yI _,λp hp=>⟨p,rfl,hp,Same.new hp _,zF⟩⟩
 obtain⟨ws,H2,f,L,p2,rfl,fp,e2,hp⟩:=G;obtain⟨u2,rfl,r3⟩:=vals1 L;cases r3;show wpAny (model X.prog X.w) X.A (call (.builtin "min") [.ref a] [(Str.ofString "key",.builtin "len"),(Str.ofString "default",.ref p2)]) (EP X pins σ Q) X.xe y;obtain⟨its,M,pl,C,Y⟩:=f.walk (hq.keep e2);have x:its.length=l.length:=by rw[C,yb]
 have get:∀{i:Nat} {v:Value},its[i]?=some v->∃b,l[i]?=some b/\v=.ref b:=λ{i v} hi=>by
  have a0:=(yk.mp hi).1;obtain⟨b,d⟩:=zN (show i<l.length by lia);obtain⟨u,R,ru⟩:=M.get (show(l.map V.ref)[i]?=some (.ref b) by rw[yg,d];rfl);rw[hi]at R;cases R;exact⟨b,d,ru⟩
 obtain⟨kd,kl⟩:=kk p2 H2 fp e2 hp;refine zrM (kf:=λi=>(n i:Int)) (f.ok.hd hc) pl (λi v hi h tk K=>?_) (λi v h' c hi d K=>?_) λg h' c K=>?_
 ·obtain⟨b,d,rfl⟩:=get hi;obtain⟨xs,hx,Z,S⟩:=hn i b d;obtain⟨m,rb,pb,a1,_⟩:=f.walk (SqL.of (e2.at hx));have O:h.IsList b m.toArray:=by
   obtain⟨o,q,r⟩:=pb;exact⟨o,K b o q,r⟩
  refine PySem.W.kun_lenL (s:={ y with heap:=h,toks:=tk }) O (k:=(n i:Int)) (by rw[yl];lia) ⋯ ⟨_,_,rfl,rfl⟩
 ·obtain⟨b,F,rfl⟩:=get hi;have J:Inv X pins σ H2 { y with heap:=h',toks:=c }:=f.kept λb o z=>K b o z;refine⟨.ref b,H2,J,rfl,kl i b F λj hj=>?_⟩;have h3:=d j ⋯;exact⟨⋯,λz=>by have:=h3.2 z;lia⟩
 ·have J:Inv X pins σ H2 { y with heap:=h',toks:=c }:=f.kept λb o z=>K b o z;exact⟨.ref p2,H2,J,rfl,kd (by
   have:l.length=0:=by rw[<- x,g];rfl
   exact yaE this)⟩
open PySem PySem.Spec PyProof.Rows
structure Sys(H:Hp)(a b:Addr)(n:Nat)(R:Nat->Nat->Rat):Prop where
 rows:∃as:List Addr,H a=some (.lst (as.map V.ref))/\as.length=n/\∀(l:Nat) (c:Addr),as[l]?=some c->∃ws,H c=some (.lst ws)/\IsQs H ws ((List.range n).map (R l))
 side:∃ws,H b=some (.lst ws)/\IsQs H ws ((List.range n).map λl=>R l n)
section
variable {X:Cx}{pins:List (Addr × Obj)}{s s':Shared}{σ:St}{H H':Hp}{pos:Pos}
end
def zsn{r:Int}{o:Option Nat}(h:0<=r)(q:Q (.bl (decide (o=some r.toNat))) H):zdh K (.int r) (zcn o) H Q:=by
 cases o with
 | none=>
  refine .inr ⟨rfl,?_⟩;have e:decide ((none:Option Nat)=some r.toNat)=false:=by simp
  rw[e]at q;have e2:decide (V.int r=zcn none)=false:=by simp[zcn]
  rw[e2];exact q
 | some m=>
  refine zrs ?_;have e:decide (r=((m:Nat):Int))=decide (some m=some r.toNat):=by
   rw[decide_eq_decide];constructor
   ·intro h;congr 1;lia
   ·intro h;have:=yq h;lia
  rw[e];exact q
noncomputable def ziH (K:Fg):Sp:=λvs H Q _=>∃(a b:Addr) (ds:List Due) (n:Nat) (ρ:Nat->Option Nat),vs=[.ref a,.ref b]/\IsSh K H a ds/\H b=some (.lst (zan n ρ))/\n<=9/\(∀d∈ds,zaF n d) /\
 ∀l H' as,H l=none->Same H H'->H' l=some (.lst (List.map V.ref as))->as.length=n->Rows H' as n (zbM ρ ds)->(∀b∈as,H b=none)->Q (.ref l) H'
def zoZ:=λ{K:Fg} {a b:Addr} {ds:List Due} {n:Nat} {ρ:Nat->Option Nat} {H:Hp} {Q:VK} {E:XK} h hb n1 hd q=>@id (ziH K [.ref a,.ref b] H Q E) ⟨a,b,ds,n,ρ,rfl,h,hb,n1,hd,q⟩
abbrev zry(l:List Nat):List Int:=l.map fun(x:Nat)=>(x:Int)
abbrev zbm(l:List Nat):List V:=(zry l).map V.int
def intsN_mem{l:List Nat}{x:Nat}:((x:Int)∈zry l)↔x∈l:=by
 rw[yaw];constructor
 ·rintro⟨y,h,e⟩;rw[<- Int.ofNat.inj e];exact h
 ·exact λh=>⟨x,h,rfl⟩
def zcK{l:List Nat}:(zbm l).length=l.length:=by simp
def zjp{l l':List Nat}:zbm (l++l')=zbm l++zbm l':=by simp
def ziV{l:List Nat}(h:k<l.length):(zbm l)[k]?=some (.int ((l.getD k 0:Nat):Int)):=by
 rw[yg,yg,yr h,yi,yr h];rfl
def zgI{P:Nat->Bool}:(List.range (j+1)).filter P=(List.range j).filter P++if P j=true then[j] else[]:=by
 rw[yO,ybr];by_cases h:P j=true
 ·rw[if_pos h,yaV h];rfl
 ·rw[if_neg h,yaW h];rfl
def zrD{α:Type}{P:α->Bool}{x:α}:[x].filter P=if P x=true then[x] else[]:=by
 by_cases h:P x=true
 ·rw[if_pos h,yaV h];rfl
 ·rw[if_neg h,yaW h];rfl
theorem zfS:∀(ls:List (List Nat)) (l0 l:List Nat) (i:Nat),(l0 :: ls)[i]?=some l->(∀(j:Nat) (m:List Nat),(l0 :: ls)[j]?=some m->l.length<=m.length/\(j<i->l.length<m.length))->ls.foldl (λb c=>if c.length<b.length then c else b) l0=l
 | [],l0,l,0,h,_=>yq h
 | [],l0,l,i+1,h,_=>by cases h
 | d :: ls,l0,l,0,h,c=>by
  have e:l0=l:=yq h;subst e;have h1:=(c 1 d rfl).1;show ls.foldl _ (if d.length<l0.length then d else l0)=l0;rw[if_neg ⋯];refine zfS ls l0 l0 0 rfl λj m a=>?_;cases j with
  | zero=>cases a;exact⟨yh _,λz=>absurd z (yQ _)⟩
  | succ j=>exact⟨(c (j+2) m a).1,λz=>absurd z (yB _)⟩
 | d :: ls,l0,l,1,h,c=>by
  have e:d=l:=yq h;subst e;have h1:=(c 0 l0 rfl).2 ⋯;show ls.foldl _ (if d.length<l0.length then d else l0)=d;rw[if_pos h1];refine zfS ls d d 0 rfl λj m a=>?_;cases j with
  | zero=>cases a;exact⟨yh _,λz=>absurd z (yQ _)⟩
  | succ j=>exact⟨(c (j+2) m a).1,λz=>absurd z (yB _)⟩
 | d :: ls,l0,l,i+2,h,c=>by
  have f:=(c 0 l0 rfl).2 ⋯;have h1:=(c 1 d rfl).2 ⋯;show ls.foldl _ (if d.length<l0.length then d else l0)=l;refine zfS ls _ l (i+1) h λj m a=>?_;cases j with
  | zero=>
   have e:=yq a;have h2:l.length<m.length:=by
    rw[<- e];by_cases z:d.length<l0.length
    ·rw[if_pos z];exact h1
    ·rw[if_neg z];exact f
   exact⟨yaj h2,λ_=>h2⟩
  | succ j=>exact⟨(c (j+2) m a).1,λz=>(c (j+2) m a).2 ⋯⟩
def zr1{a:List (List Nat)}{l:List Nat}(h:a[i]?=some l)(c:∀(j:Nat) (m:List Nat),a[j]?=some m->l.length<=m.length/\(j<i->l.length<m.length)):Rc.minL a=l:=by
 cases a with
 | nil=>cases h
 | cons l0 a=>exact zfS a l0 l i h c
def zlY{l:List Nat}(h:k<l.length)(a:∀x∈l,x<n):l.getD k 0<n:=by
 rw[yi,yr h];exact a _ (ybz h)
noncomputable def LsOf (H:Hp) (as:List Addr) (b:List (List Nat)):Prop:=as.length=b.length/\∀(i:Nat) (a:Addr),as[i]?=some a->∃l,b[i]?=some l/\H a=some (.lst (zbm l))
def LsOf.nil:LsOf H [] []:=⟨rfl,λ_ _ h=>nomatch h⟩
def LsOf.same{b:List (List Nat)}(h:LsOf H as b)(e:Same H H'):LsOf H' as b:=⟨h.1,λi a q=>by obtain⟨l,h1,h2⟩:=h.2 i a q;exact⟨l,h1,e.at h2⟩⟩
def LsOf.but{b:List (List Nat)}{D:Addr}(h:LsOf H as b)(e:LBut D H H')(n:D∉as):LsOf H' as b:=
 ⟨h.1,λi a q=>by obtain⟨l,h1,h2⟩:=h.2 i a q;exact⟨l,h1,e.lst h2 λz=>n (z▸ym q)⟩⟩
def LsOf.snoc{c:List (List Nat)}{l:List Nat}(h:LsOf H as c)(d:H a=some (.lst (zbm l))):LsOf H (as++[a]) (c++[l]):=
 ⟨by rw[yf,yf,h.1];rfl,λi b q=>by
  rcases Nat.lt_trichotomy i as.length with hi | hi | hi
  ·rw[y8 hi]at q;rw[y8 (by rw[<- h.1];exact hi)];exact h.2 i b q
  ·rw[hi,ybs]at q;cases q;exact⟨l,by rw[hi,h.1,ybs],d⟩
  ·rw[yao (by rw[yf];simp only[yW];lia)]at q;cases q⟩
noncomputable def zim (K:Fg):Sp:=λvs H Q _=>∃(a:Addr) (i n:Nat) (as:List Addr) (F:Nat->Nat->Int),vs=[.ref a,.int i]/\H a=some (.lst (as.map V.ref))/\as.length=n/\Rows H as n F/\n<=9/\i<n /\
 ∀p H',H p=none->Same H H'->H' p=some (.lst (zbm (Rc.reach n (λi j=>decide (0<F i j)) i)))->Q (.ref p) H'
def zoT:=λ{K:Fg} {a:Addr} {i n:Nat} {as:List Addr} {F:Nat->Nat->Int} {H:Hp} {Q:VK} {E:XK} h hl hR h9 hi q=>@id (zim K [.ref a,.int i] H Q E) ⟨a,i,n,as,F,rfl,h,hl,hR,h9,hi,q⟩
noncomputable def zgm (K:Fg):Sp:=λvs H Q _=>∃(a b:Addr) (n:Nat) (as:List Addr) (F:Nat->Nat->Int) (ρ:Nat->Option Nat),vs=[.ref a,.ref b]/\H a=some (.lst (as.map V.ref))/\as.length=n/\Rows H as n F/\H b=some (.lst (zan n ρ))/\n<=9 /\
 ∀p H',H p=none->Same H H'->H' p=some (.lst (zbm (Rc.circle n (λi j=>decide (0<F i j)) λi=>(ρ i).isSome)))->Q (.ref p) H'
def zno:=λ{K:Fg} {a b:Addr} {n:Nat} {as:List Addr} {F:Nat->Nat->Int} {ρ:Nat->Option Nat} {H:Hp} {Q:VK} {E:XK} h hl hR hb h9 q=>@id (zgm K [.ref a,.ref b] H Q E) ⟨a,b,n,as,F,ρ,rfl,h,hl,hR,hb,h9,q⟩
def zbJ:sz (1:Int)<=1:=zaO (by decide)
def zra{x:Int}{z:Nat}(h:sz x<=z):SzQ ((x:Int):Rat) z 1:=⟨h,zbJ⟩
noncomputable def zmx (K:Fg):Sp:=λvs H Q _=>∃(d e s:Addr) (n:Nat) (l r:Nat->Rat) (t:Rat) (us ws:List V),vs=[.ref d,.ref e,.ref s]/\H d=some (.lst us)/\IsQs H us ((List.range n).map l)/\H e=some (.lst ws)/\IsQs H ws ((List.range n).map r)/\IsQ H s t/\n<=9/\OkQ t/\(∀i,i<n->OkQ (l i)/\OkQ (r i)/\OkQ (r i*t)) /\
 ∀p H' vs,H p=none->Same H H'->H' p=some (.lst vs)->IsQs H' vs ((List.range n).map λi=>l i+r i*t)->Q (.ref p) H'
def zoI:=λ{K:Fg} {d e s:Addr} {n:Nat} {l r:Nat->Rat} {t:Rat} {us ws:List V} {H:Hp} {Q:VK} {E:XK} hd hu he hw hs h9 z0 z q=>@id (zmx K [.ref d,.ref e,.ref s] H Q E) ⟨d,e,s,n,l,r,t,us,ws,rfl,hd,hu,he,hw,hs,h9,z0,z,q⟩
noncomputable def zfw (K:Fg):Sp:=λvs H Q _=>∃a b:Addr,vs=[.ref a,.ref b]/\H a=some (.lst [])/\H b=some (.lst [])/\∀p H',H p=none->Same H H'->H' p=some (.lst [])->Q (.ref p) H'
def zlJ:=λ{K:Fg} {a b:Addr} {H:Hp} {Q:VK} {E:XK} h1 h2 q=>@id (zfw K [.ref a,.ref b] H Q E) ⟨a,b,rfl,h1,h2,q⟩
noncomputable def zQs (n:Nat):List Rat:=(List.range n).map λ_=>0
noncomputable def zkr (K:Fg):Sp:=λvs H Q _=>∃a c:Addr,vs=[.ref a,.ref c]/\H c=some (.lst [])/\∀p H',H p=none->Same H H'->H' p=some (.lst [])->Q (.ref p) H'
def zpp:=λ{K:Fg} {a c:Addr} {H:Hp} {Q:VK} {E:XK} h q=>@id (zkr K [.ref a,.ref c] H Q E) ⟨a,c,rfl,h,q⟩
noncomputable def zgO (K:Fg):Sp:=λvs H Q _=>∃(a c s:Addr) (xs:List V),vs=[.ref a,.ref c,.ref s]/\H a=some (.lst xs)/\xs.length<=9/\H c=some (.lst [])/\∀p H' ws,H p=none->Same H H'->H' p=some (.lst ws)->IsQs H' ws (zQs xs.length)->Q (.ref p) H'
def znq:=λ{K:Fg} {a c s:Addr} {xs:List V} {H:Hp} {Q:VK} {E:XK} ha hl h q=>@id (zgO K [.ref a,.ref c,.ref s] H Q E) ⟨a,c,s,xs,rfl,ha,hl,h,q⟩
noncomputable def zhU (K:Fg):Sp:=λvs H Q _=>∃(a b d e:Addr) (n:Nat) (ws:List V),vs=[.ref a,.ref b,.ref d,.ref e]/\H e=some (.lst ws)/\IsQs H ws (zQs n)/\n<=9/\∀H',Same H H'->Q .non H'
def zog:=λ{K:Fg} {a b d e:Addr} {n:Nat} {ws:List V} {H:Hp} {Q:VK} {E:XK} h hw h9 q=>@id (zhU K [.ref a,.ref b,.ref d,.ref e] H Q E) ⟨a,b,d,e,n,ws,rfl,h,hw,h9,q⟩
def zcV:(zQs n).length=n:=by unfold zQs;rw[yb,yM]
def zfK(h:i<n):(zQs n)[i]?=some 0:=by unfold zQs;rw[yg,yay h];rfl
noncomputable def ziP (K:Fg):Sp:=λvs H Q _=>∃(a b d:Addr) (xs ys:List V) (n:Nat),vs=[.ref a,.ref b,.ref d]/\H a=some (.lst xs)/\xs.length=n/\n<=9/\H b=some (.lst (zan n λ_=>none))/\H d=some (.lst ys)/\∀p H' ws,H p=none->Same H H'->H' p=some (.lst ws)->IsQs H' ws (zQs n)->Q (.ref p) H'
def zoO:=λ{K:Fg} {a b d:Addr} {xs ys:List V} {n:Nat} {H:Hp} {Q:VK} {E:XK} ha hl h9 hb hd q=>@id (ziP K [.ref a,.ref b,.ref d] H Q E) ⟨a,b,d,xs,ys,n,rfl,ha,hl,h9,hb,hd,q⟩
def zgY:SzQ (0:Rat) 60000 60000:=⟨yc (zaO (i:=0) (n:=0) (by decide)) (by decide),yc zbJ (by decide)⟩
def zru:OkQ (0:Rat):=⟨yc (zaO (i:=0) (n:=0) (by decide)) (by decide),yc zbJ (by decide)⟩
def zn2:zbA (zX [] j) (0:Rat) 3=none:=by
 have h:∀k,zco (zX [] j) k=0:=λk=>by
  induction k with
  | zero=>rfl
  | succ k ih=>rw[zco,ih];rfl
 simp[zbA,zd9,h]
def zlI{g:Nat->Nat->Bool}{sh:Nat->Bool}(h:∀x,sh x=false):Rc.circle n g sh=[]:=by
 have e:Rc.circles n g sh=[]:=by
  cases e:Rc.circles n g sh with
  | nil=>rfl
  | cons c cs=>
   obtain⟨i,hi,rfl,a⟩:=Rc.mem_circles.mp (show c∈Rc.circles n g sh by rw[e];exact .head _)
   have:=a i Rc.reach_start
   rw[h]at this;cases this
 unfold Rc.circle;rw[e];rfl
noncomputable def zeE (K:Fg):Sp:=λvs H Q _=>∃(a u:Addr) (ps:List Int) (n:Nat),vs=[.ref a,.ref u]/\IsSh K H a []/\H u=some (.lst (ps.map V.int))/\ps.length=n/\n<=9/\∀p H' ws,H p=none->Same H H'->H' p=some (.lst ws)->IsQs H' ws (zQs n)->Q (.ref p) H'
def zfd:=λ{K:Fg} {a u:Addr} {ps:List Int} {n:Nat} {H:Hp} {Q:VK} {E:XK} h hu hl h9 q=>@id (zeE K [.ref a,.ref u] H Q E) ⟨a,u,ps,n,rfl,h,hu,hl,h9,q⟩
def zvi{t:Nat}:zcv [] t m=none:=by cases t<;>rfl
noncomputable def zhZ (K:Fg):Sp:=λvs H Q _=>∃(n:Int) (a:Addr),vs=[.int n,.ref a]/\IsSh K H a []/\1<=n/\n<=100/\∀p H',H p=none->Same H H'->H' p=some (.lst [])->Q (.ref p) H'
def zo4:=λ{K:Fg} {n:Int} {a:Addr} {H:Hp} {Q:VK} {E:XK} h h1 h2 q=>@id (zhZ K [.int n,.ref a] H Q E) ⟨n,a,rfl,h,h1,h2,q⟩
noncomputable def zlg (K:Fg):Sp:=λvs H Q _=>∃(n:Int) (a:Addr),vs=[.int n,.ref a]/\IsSh K H a []/\1<=n/\n<=100/\∀p l c H',H p=none->Same H H'->H' p=some (.tup [.ref l,.ref c])->H' l=some (.lst [])->Q (.ref p) H'
def zk1:=λ{K:Fg} {n:Int} {a:Addr} {H:Hp} {Q:VK} {E:XK} h h1 h2 q=>@id (zlg K [.int n,.ref a] H Q E) ⟨n,a,rfl,h,h1,h2,q⟩
section
variable {X:Cx}{a b e:Expr}{es:List Expr}{ta tb te:TE}{t:TA}{p pos:Pos}
def qIx(K:Fg)(f:PE X a ta)(d:PE X b tb)(e:autoParam (X.K=K) Internal.aut2._auto_1)(c:autoParam (zlV b) Internal.aut6._auto_1):PE X (.Subscript a b pos) (tOp (rIx K) ta tb):=by
 subst e;exact zuR ztJ f d c
def zad(K:Fg)(a:autoParam (X.K=K) Internal.aut2._auto_1):OpR X (binaryOp .Add) (zhp K):=by subst a;exact zr9
def qEq(K:Fg)(b:X.A.units+64<cLine)(a:autoParam (X.K=K) Internal.aut2._auto_1):OpR X (compareOp .Eq) (zdh K):=by subst a;exact zs5 b
def qNe(K:Fg)(b:X.A.units+64<cLine)(a:autoParam (X.K=K) Internal.aut2._auto_1):OpR X (compareOp .NotEq) (zen K):=by subst a;exact ztz b
def zaq(K:Fg)(c:PE X a ta)(b:autoParam (X.K=K) Internal.aut2._auto_1)(d:autoParam (∀whole,isTrue a X.env whole=(do let v <- whole;standAt a.pos;holding [v] (truthy v))) Internal.aut7._auto_1):PT X a (ztL K ta):=by
 subst b;exact zok c d
def zpq(K:Fg)(c:PE X a ta)(b:autoParam (X.K=K) Internal.aut2._auto_1):PE X (.UnaryOp .Not a pos) (znk K ta):=by subst b;exact zrR c
def zP(K:Fg){l:Expr}(b:PE X l tl)(a:autoParam (X.K=K) Internal.aut2._auto_1):PI X tg l (zmN K tl):=by subst a;exact zrF b
def zav(K:Fg){kx:Nat}{tp:Pos}{ta:TA}(b:X.mg "enumerate" = none)(e:PA X [a] ta)(f:autoParam (Gl X "enumerate") Internal.aut2._auto_1)(c:autoParam (starEach [a] X.env=[(false,eval a X.env)]) Internal.aut2._auto_1)(d:autoParam (X.K=K) Internal.aut2._auto_1):PI X (.Tuple es kx tp) (.Call (.Name "enumerate" p) [a] [] pos) (zq0 K ta):=by
 subst d;exact zsq f b e c
def zaL(K:Fg)(d:X.mg "len" = none)(f:PA X (e :: es) t)(g:autoParam (Gl X "len") Internal.aut2._auto_1)(c:autoParam (starEach (e :: es) X.env=(false,eval e X.env) :: starEach es X.env) Internal.aut2._auto_1)(a:autoParam ((backTo pos (starEach es X.env)).any (·.1)=false) Internal.aut2._auto_1)(b:autoParam (X.K=K) Internal.aut2._auto_1):PE X (.Call (.Name "len" p) (e :: es) [] pos) (tCB (zm0 K) t):=by
 subst b;exact zax zoX g d BT.len f (by decide) (by decide) c a
def za9(K:Fg)(f:X.mg "sum" = none)(g:PA X (e :: es) t)(h:autoParam (Gl X "sum") Internal.aut2._auto_1)(b:autoParam (X.calm=true) Internal.aut2._auto_1)(d:autoParam (starEach (e :: es) X.env=(false,eval e X.env) :: starEach es X.env) Internal.aut2._auto_1)(a:autoParam ((backTo pos (starEach es X.env)).any (·.1)=false) Internal.aut2._auto_1)(c:autoParam (X.K=K) Internal.aut2._auto_1):PE X (.Call (.Name "sum" p) (e :: es) [] pos) (tCB (znB K) t):=by
 subst c;exact zax (zox b) h f BT.sum g (by decide) (by decide) d a
def zbF(K:Fg)(d:X.mg "isinstance" = none)(f:PA X (e :: es) t)(g:autoParam (Gl X "isinstance") Internal.aut2._auto_1)(c:autoParam (starEach (e :: es) X.env=(false,eval e X.env) :: starEach es X.env) Internal.aut2._auto_1)(a:autoParam ((backTo pos (starEach es X.env)).any (·.1)=false) Internal.aut2._auto_1)(b:autoParam (X.K=K) Internal.aut2._auto_1):PE X (.Call (.Name "isinstance" p) (e :: es) [] pos) (tCB (zcC K) t):=by
 subst b;exact zax zpe g d BT.isinstance f (by decide) (by decide) c a
def zcy(K:Fg)(d:X.mg "list" = none)(f:PA X (e :: es) t)(g:autoParam (Gl X "list") Internal.aut2._auto_1)(c:autoParam (starEach (e :: es) X.env=(false,eval e X.env) :: starEach es X.env) Internal.aut2._auto_1)(a:autoParam ((backTo pos (starEach es X.env)).any (·.1)=false) Internal.aut2._auto_1)(b:autoParam (X.K=K) Internal.aut2._auto_1):PE X (.Call (.Name "list" p) (e :: es) [] pos) (tCB (zcY K) t):=by
 subst b;exact zfl znF g d BT.list f (by decide) (by decide) c a
def zu{P:List Str}{b:Scope}{pos':Pos}(i:Nat)(S:FnScope N P b)(c:PE X e te)(hi:autoParam (X.N[i]?=some x) Internal.aut2._auto_1)(d:autoParam (Loc X.env.scope x) Internal.aut8._auto_1)(a:autoParam (X.N=N) Internal.aut2._auto_1)(g:autoParam (swapsWith e (some (.Name x pos')) pos.line X.env=pure false) Internal.aut2._auto_1)(f:autoParam (X.fn x=true\/X.env.scope.names.lookup x=some .local) Internal.aut9._auto_1) :
  PS X (.Assign [.Name x pos'] e pos) (zlm te (zbn i)):=ztW (a▸S.nd) hi d c g f
def qAp(K:Fg){o:Expr}{to:TE}{t:TA}{apos cpos:Pos}(b:PE X o to)(c:PA X [e] t)(a:autoParam (X.K=K) Internal.aut2._auto_1)
  (hbase:autoParam (attributeBase o "append" X.env (eval o X.env)=eval o X.env) Internal.aut2._auto_1)
  (hfew:autoParam (((backTo cpos (starEach [e] X.env)).all (λx=>!x.1)&&(backToKw cpos (keywordEach [] X.env)).all (λx=>x.1.isSome)
   && decide (([e]:List Expr).length+([]:List Keyword).length+(if([]:List Keyword).isEmpty then 0 else 1)<30))=true) Internal.aut2._auto_1)
  (hline:autoParam ((apos.endLine == cpos.line)=true) Internal.aut2._auto_1) (hs:autoParam (starEach [e] X.env=(false,eval e X.env) :: starEach [] X.env) Internal.aut2._auto_1) (hplain:autoParam ((backTo cpos (starEach [] X.env)).any (·.1)=false) Internal.aut2._auto_1) :
  PE X (.Call (.Attribute o "append" apos) [e] [] cpos) (tBM K "list" zbb to t):=by
 subst a;exact zjX yam PySem.F.slot_list_append PySem.F.type_list_append zjw b c hbase hfew hline hs hplain
def qC1(Ni:List Str)(caps:List (Option Nat)){b:Pos}(hi:PI X (.Name x b) iter wi)(e:∀cs s₃ H₃ fp pins,PE (zaH X scope Ni cs s₃ H₃ fp pins) elt te)(f:autoParam (zeh X.env.scope X.N scope Ni caps=true) Internal.aut2._auto_1)(c:autoParam (X.calm=true) Internal.aut2._auto_1)(d:autoParam (scope.names.lookup x=some .local\/scope.names.lookup x=some .cell) Internal.aut8._auto_1)(a:autoParam (Ni[0]?=some x) Internal.aut2._auto_1)(g:autoParam (∀x,foldedSetIterable iter X.env x=pure x) Internal.aut3._auto_1):PE X (.ListComp elt [⟨.Name x b,iter,[],0⟩] scope pos) (zes wi caps (zbn 0) zdP te):=
 zdR c hi (zak f) (λS _ _ _ _ _=>zaf S d a) (λ_ _ _ _ _=>zeb) e g
def qS1(i:Nat){P:List Str}{h:Scope}{y:Str}{g a:Pos}(F:FnScope N P h)(Ni:List Str)(caps:List (Option Nat)){e:Pos}(hi:PI X (.Name x e) iter wi)(k:∀cs s₃ H₃ fp pins,PE (zaH X scope Ni cs s₃ H₃ fp pins) elt te)(b:autoParam (X.N[i]?=some y) Internal.aut2._auto_1)(n:autoParam (X.env.scope.names.lookup y=some .local) Internal.aut2._auto_1)(c:autoParam (X.N=N) Internal.aut2._auto_1)(l:autoParam (zeh X.env.scope X.N scope Ni caps=true) Internal.aut2._auto_1)(m:autoParam (X.calm=true) Internal.aut2._auto_1)(j:autoParam (scope.names.lookup x=some .local\/scope.names.lookup x=some .cell) Internal.aut8._auto_1)(d:autoParam (Ni[0]?=some x) Internal.aut2._auto_1)(f:autoParam (swapsWith (.ListComp elt [⟨.Name x e,iter,[],0⟩] scope pos) (some (.Name y g)) a.line X.env=pure true) Internal.aut2._auto_1)(o:autoParam (∀x,foldedSetIterable iter X.env x=pure x) Internal.aut3._auto_1):PS X (.Assign [.Name y g] (.ListComp elt [⟨.Name x e,iter,[],0⟩] scope pos) a) (zlm (zes wi caps (zbn 0) zdP te) (zbn i)):=
 zct (c▸F.nd) b n m hi (zak l) (λS _ _ _ _ _=>zaf S j d) (λ_ _ _ _ _=>zeb) k f o
def qC2(K:Fg)(Ni:List Str)(caps:List (Option Nat)){y:Str}{e c tp:Pos}{kx:Nat}(hi:PI X (.Tuple [.Name x e,.Name y c] kx tp) iter wi)(g:∀cs s₃ H₃ fp pins,PE (zaH X scope Ni cs s₃ H₃ fp pins) elt te)(h:autoParam (zeh X.env.scope X.N scope Ni caps=true) Internal.aut2._auto_1)(d:autoParam (X.calm=true) Internal.aut2._auto_1)(f:autoParam (scope.names.lookup x=some .local\/scope.names.lookup x=some .cell) Internal.aut8._auto_1)(j:autoParam (scope.names.lookup y=some .local\/scope.names.lookup y=some .cell) Internal.aut8._auto_1)(b:autoParam (Ni[0]?=some x) Internal.aut2._auto_1)(a:autoParam (Ni[1]?=some y) Internal.aut2._auto_1)(i:autoParam (X.K=K) Internal.aut2._auto_1)(k:autoParam (∀x,foldedSetIterable iter X.env x=pure x) Internal.aut3._auto_1):PE X (.ListComp elt [⟨.Tuple [.Name x e,.Name y c] kx tp,iter,[],0⟩] scope pos) (zes wi caps (zaP K 2 (zj6 (zbn 0) (zj6 (zbn 1) zqS))) zdP te):=by
 subst i;exact zdR d hi (zak h) (λS _ _ _ _ _=>zas (n:=2) d (zx (zaf S f b) (zx (zaf S j a) zah))) (λ_ _ _ _ _=>zeb) g k
end
open PySem PySem.Spec PyProof.Rows Dt
section
variable {n:Nat}{ds:List Due}{l p:Nat->Rat}{c:List Nat}{x:Nat->Rat}{t:Rat}
abbrev flI(ds:List Due)(l:Nat->Rat):Nat->Nat->Int:=zbM (stp ds l) ds
end
abbrev pQ(ps:List Int)(i:Nat):Rat:=((ps.getD i 0:Int):Rat)
structure Clr(n:Nat)(ds:List Due)(ps:List Int)(W P:Rat):Prop where
 n9:n<=9
 hd:∀d∈ds,zaF n d
 ha:∀d∈ds,d.a<=1000000000000
 hl:ds.length<=64
 pl:ps.length=n
 pz:∀p∈ps,0<=p/\p<=100000000000000
 hW:∀l i,i<n->2*zqj n ds l i<=W
 W1:1<=W
 hP:sm n (pQ ps)<=P
 P1:1<=P
 big:zep (λ_=>zep (λ_=>W) n*P*W) (zvA n ds+1)<=(((2 ^ 7000:Nat):Int):Rat)
section
variable {n:Nat}{ds:List Due}{ps:List Int}{W P:Rat}{l:Nat->Rat}{t:Rat}{k:Nat}
end
section
variable {n:Nat}{ds:List Due}{ps:List Int}{W P:Rat}{l:Nat->Rat}{t:Rat}{k:Nat}
end
def zuV(h1:IsQ H a q)(h2:IsQ H b r)(k:Q (.bl (decide (q=r))) H):zdh K (.ref a) (.ref b) H Q:=by
 have c:(dQ q).depth<=1:=by simp[dQ,PyData.depth,PyData.depthAll]
 refine zjZ h1.rep h2.rep ⋯ ?_;rw[zvl];exact k
open PySem PySem.Spec PyProof.Rows
noncomputable def zio (K:Fg):Sp:=λvs H Q _=>∃(a u:Addr) (ps:List Int) (n:Nat),vs=[.ref a,.ref u]/\IsSh K H a []/\H u=some (.lst (ps.map V.int))/\ps.length=n/\1<=n/\n<=9/\∀p H',H p=none->Same H H'->H' p=some (.lst [])->Q (.ref p) H'
def znU:=λ{K:Fg} {a u:Addr} {ps:List Int} {n:Nat} {H:Hp} {Q:VK} {E:XK} h hu hl h1 h9 q=>@id (zio K [.ref a,.ref u] H Q E) ⟨a,u,ps,n,rfl,h,hu,hl,h1,h9,q⟩
def zsW:∀q∈zQs n,zjW q:=λq a=>by
 obtain⟨_,_,rfl⟩:=yaw.mp a;exact⟨Rat.le_refl,yc (zaO (i:=0) (n:=0) (by decide)) (by decide),yc zbJ (by decide)⟩
noncomputable def zbs (ps:List Int):List Rat:=ps.map λp=>((p:Int):Rat)
def znA{ps:List Int}:(List.range ps.length).map (λm=>((ps.getD m 0:Int):Rat))=zbs ps:=by
 refine yar λi=>?_;unfold zbs;rw[yg,yg];by_cases h:i<ps.length
 ·rw[yay h,yr h];show some ((ps.getD i 0:Int):Rat)=some ((ps[i]:Int):Rat);rw[yi,yr h];rfl
 ·rw[yao (by rw[yM];lia),yao ⋯];rfl
noncomputable def zh7 (K:Fg):Sp:=λvs H Q _=>∃(a u y:Addr) (ps:List Int) (ws:List V),vs=[.ref a,.ref u,.ref y]/\IsSh K H a []/\H u=some (.lst (ps.map V.int))/\H y=some (.lst ws)/\IsQs H ws (zQs ps.length)/\ps.length<=9/\(∀p∈ps,0<=p/\p<=1000000000000)/\∀p H' vs,H p=none->Same H H'->H' p=some (.lst vs)->IsQs H' vs (zbs ps)->Q (.ref p) H'
def zjt:=λ{K:Fg} {a u y:Addr} {ps:List Int} {ws:List V} {H:Hp} {Q:VK} {E:XK} h hu hy hq h9 hp q=>@id (zh7 K [.ref a,.ref u,.ref y] H Q E) ⟨a,u,y,ps,ws,rfl,h,hu,hy,hq,h9,hp,q⟩
def zqi{f:Internal.Due->Rat}:ze1 [] f i=0:=rfl
noncomputable def gvS (row:Nat->LRow) (m i:Nat):Int:=My.sumTo (λj=>(row j).gv i) m
noncomputable def zqb (K:Fg):Sp:=λvs H Q _=>∃(u r:Addr) (n:Nat) (pf:Nat->Int) (row:Nat->LRow) (tr:List (Addr × Addr × Addr)),vs=[.ref u,.ref r]/\H u=some (.lst ((vec n pf).map V.int))/\H r=some (.lst (tr.map λt=>V.ref t.1))/\LRs H n row tr/\n<=9/\tr.length<=100/\zb0 H Q (vec n λi=>pf i+gvS row tr.length i)
noncomputable def ziy (K:Fg):Sp:=λvs H Q _=>∃(a y:Addr) (wl:List V) (n:Nat),vs=[.ref a,.ref y]/\IsSh K H a []/\H y=some (.lst wl)/\IsQs H wl (zQs n)/\n<=9/\zb0 H Q []
def zo8:=λ{K:Fg} {a y:Addr} {wl:List V} {n:Nat} {H:Hp} {Q:VK} {E:XK} h hy hq n9 k=>@id (ziy K [.ref a,.ref y] H Q E) ⟨a,y,wl,n,rfl,h,hy,hq,n9,k⟩
def zvw(h:0<=pf m):zcA [] pf m=0:=by
 have e:zek [] m=0:=rfl;unfold zcA;rw[e];exact if_neg ⋯
theorem zi5{n:Nat}{G P:Nat->Int}{own:Int}{ws:List Str}{a:Nat->Int}(h:Lit n G)(c:Lit n P)(f:Lit n a)(d:0<=own)(g:∀j,j<n->G j=0):∀i j,j<n->(lays n G P own ws a i).1 j=0
 | 0,j,hj=>g j hj
 | i+1,j,hj=>by
  obtain⟨h1,h2⟩:=zev (ws:=ws) h c f d i;have z:=zi5 (ws:=ws) h c f d g i j hj;have b:=zeo (w:=ws.getD i "") (own:=own) (W:=λi=>decide (G i=0)) h1 c h2 d hj;have e:(lays n G P own ws a (i+1)).1 j=(lays n G P own ws a i).1 j-zc3 (ws.getD i "") n (lays n G P own ws a i).1 P (lays n G P own ws a i).2 own (λi=>decide (G i=0)) j:=rfl;rw[e];lia
def zli{G P:Nat->Int}{own:Int}{a:Nat->Int}(h:Lit n G)(c:Lit n P)(g:Lit n a)(d:0<=own)(k:∀j,j<n->G j=0)(f:j<n):(zaU n G P own ws a i).gv j=0:=by
 obtain⟨h1,h2⟩:=zev (ws:=ws) h c g d i;have z:=zi5 (ws:=ws) h c g d k i j f;have b:=zeo (w:=ws.getD i "") (own:=own) (W:=λi=>decide (G i=0)) h1 c h2 d f;have e:(zaU n G P own ws a i).gv j=zc3 (ws.getD i "") n (lays n G P own ws a i).1 P (lays n G P own ws a i).2 own (λi=>decide (G i=0)) j:=rfl;rw[e];lia
def zqk(h:∀j,(row j).gv i=0)(m:Nat):gvS row m i=0:=by
 unfold gvS;rw[show(λj=>(row j).gv i)=λ_=>0 from funext h];exact zcg ..
structure SetE(H:Hp)(n:Nat)(pf P S:Nat->Int)(own:Int)(ws:List Str)(pt ga p0 rs re le la en ou:Addr)(tr:List (Addr × Addr × Addr))(wl we:List V):Prop where
 hpt:H pt=some (.tup [.ref ga,.ref rs,.ref re,.ref le,.ref la,.ref en,.ref ou])
 hga:H ga=some (.lst ((vec n (zcA [] pf)).map V.int))
 lt:LT H n (zaU n (zcA [] pf) P own ws S) (lays n (zcA [] pf) P own ws S ws.length).1 ws.length p0 rs re tr
 hle:H le=some (.lst [])
 hla:H la=some (.lst wl)
 hwl:IsQs H wl (zQs n)
 hen:H en=some (.lst we)
 hwe:IsQs H we (zbs (vec n pf))
 hou:H ou=some (.lst [])
noncomputable def znp (K:Fg):Sp:=λvs H Q _=>∃(a u p s o:Addr) (own:Int) (ws:List Str) (n:Nat) (pf P S:Nat->Int),vs=[.ref a,.ref u,.ref p,.ref s,.int own,.ref o]/\IsSh K H a []/\H u=some (.lst ((vec n pf).map V.int))/\H p=some (.lst ((vec n P).map V.int))/\H s=some (.lst ((vec n S).map V.int))/\H o=some (.lst (ws.map V.str))/\1<=n/\n<=9/\(∀i,i<n->0<=pf i/\pf i<=1000000000000)/\Lit n P/\Lit n S/\0<=own/\ws.length<=100/\OkO ws /\
 ∀pt ga p0 rs re le la en ou tr wl we H',Same H H'->SetE H' n pf P S own ws pt ga p0 rs re le la en ou tr wl we->Q (.ref pt) H'
def zm8{G P:Nat->Int}{own:Int}(e:Lit n G)(d:Lit n P)(b:Lit n S)(a:0<=own)(c:∀j,j<n->G j=0):(vec n λi=>pf i+gvS (zaU n G P own ws S) m i)=vec n pf:=
 zbp λi hi=>by rw[zqk (λj=>zli e d b a c hi)];lia
abbrev zob(C:Addr)(sp:Sp)(ta:TA):TEr:=λσ H Q Eh=>ta σ H (znt C sp (λcls _ H2=>∃C',cls=.ref C'/\Eh C' H2) Q)
def zqc{f:Addr}{p j:Pos}{e:Expr}{es:List Expr}{ta:TA}(M:Mk X.K C f)(F:FnOk X.prog X.w X.K X.mg X.base (CXF X.prog X.w) k f fd ps sp)(E:Room (k+1) X.A)(L:Gl X x)(O:X.mg x=some (.ref C))(J:Binds X.K fd ps [])
  (ha:PA X.nox (e :: es) ta) (hdf:autoParam ((x == ("__debug__" : Str))=false) Internal.aut1._auto_1) (he:autoParam (starEach (e :: es) X.env=(false,eval e X.env) :: starEach es X.env) Internal.aut2._auto_1) (hpl:autoParam ((backTo j (starEach es X.env)).any (·.1)=false) Internal.aut2._auto_1):PEr X (.Call (.Name x p) (e :: es) [] j) (zob C sp ta):=by
 intro pins s σ H Q Eh I h;refine wpAny_Call_Name_kw (zcX I L O ?_ hdf);refine yaB (h₀:=X.base) I.ok.mod.kin M.kp (wpAny_mono (ha j pins s σ H _ (I.wish _) h) (λus b q=>?_) λ_ _ z=>z.elim) he hpl;obtain⟨vs,H1,T,r,q⟩:=q;have c:=T.unwish;refine⟨c.kIn,?_⟩;show wpAny _ _ (call (.ref C) us) _ _ _;have l:=q (b.heap.objs.size+1) b.heap.objs.size (c.hok.fresh (ybn _)) (c.hok.fresh (yh _)) (yo (y9 _));have g:=Inv.made (C:=C) c;have m:Vals (V.ref (b.heap.objs.size+1) :: (vs++[])) (Value.ref (b.heap.objs.size+1) :: (us++[])):=.cons rfl (r.append .nil);have S:(Value.ref (b.heap.objs.size+1) :: us++[]).length=ps.length:=by
  have e:=m.length;rw[F.len _ _ _ _ l]at e;exact e.symm
 have d:=J _ (Value.ref (b.heap.objs.size+1) :: us) g.kIn S;rw[List.cons_append]at d;refine wpAny_call (zlb (f:=f) c.kIn M.makes M.init (beq_iff_eq.mp M.fn) (codeAny_mono (F.run _ X.stack _ _ ⟨Value.ref (b.heap.objs.size+1) :: us,[]⟩ (Value.ref (b.heap.objs.size+1) :: (us++[])) _ _ _ (E.make C us [])
  (g.env0.make C us []) d m l) λres s' a=>?_))
 cases res with
 | error er0=>
  obtain⟨er,o,t,B,y,rfl,i,U,n,G⟩:=a;cases n;exact⟨σ,_,_,er,o,t,B,y,g,rfl,i,rfl,G⟩
 | ok i=>
  cases i with
  | ret u=>
   obtain⟨v,H',D,P,R,N⟩:=g.after a;subst R;exact⟨P,⟨V.ref (b.heap.objs.size+1),H',D,rfl,N⟩⟩
  | next=>exact False.elim a
  | brk=>exact False.elim a
  | cont=>exact False.elim a
def zi0{f:Str}{u:V}{fs:List (Str × V)}:zY f v (zY f u fs)=zY f v fs:=by
 induction fs with
 | nil=>simp[zY]
 | cons p r ih=>
  obtain⟨g,x⟩:=p;by_cases h:g=f
  ·simp[zY,h]
  ·simp[zY,h,ih]
theorem zam{f g:Str}{u v:V}(n:¬f=g):∀{fs:List (Str × V)},(fs.lookup f).isSome=true->zY f v (zY g u fs)=zY g u (zY f v fs)
 | [],h=>by simp at h
 | (k,x) :: r,h=>by
  by_cases h1:k=f
  ·subst h1;simp[zY,n]
  ·have h2:(r.lookup f).isSome=true:=by
    rw[yw]at h
    rwa [show(f == k)=false from by simpa using λz=>h1 z.symm]at h
   by_cases a:k=g
   ·subst a;simp[zY,h1]
   ·simp[zY,h1,a,zam n h2]
def zkk{f:Str}{fs:List (Str × V)}:((zY f v fs).lookup f).isSome=true:=by rw[zk,if_pos rfl];rfl
def zaE{f g:Str}{fs:List (Str × V)}(h:(fs.lookup f).isSome=true):((zY g v fs).lookup f).isSome=true:=by
 rw[zk];split
 ·rfl
 ·exact h
def zc9(A:HA)(own c:Int):zY "kept" (.int c) (hfl A own)=hfl A c:=by
 unfold hfl;have a:=zkk (f := "kept") (v:=.int own) (fs:=hfl3 A.pu A.pl A.sh);have p2:=zaE (g := "moves") (v:=.ref A.mv) a;have e:=zaE (g := "rule") (v:=.ref A.ru) p2;have b:=zaE (g := "order") (v:=.ref A.od) e;have d:=zaE (g := "book") (v:=.ref A.bk) b;have h:=zaE (g := "outs") (v:=.ref A.ou) d;rw[zam (by decide +kernel) h,zam (by decide +kernel) d,zam (by decide +kernel) b,zam (by decide +kernel) e,zam (by decide +kernel) p2,zam (by decide +kernel) a,zi0]
def zhY(A:HA)(own:Int)(a:Addr):zY "purses" (.ref a) (hfl A own)=hfl { A with pu:=a } own:=by
 unfold hfl hfl3;have b:=zkk (f := "purses") (v:=.ref A.pu) (fs:=[]);have p2:=zaE (g := "pledges") (v:=.ref A.pl) b;have j:=zaE (g := "shares") (v:=.ref A.sh) p2;have c:=zaE (g := "kept") (v:=.int own) j;have i:=zaE (g := "moves") (v:=.ref A.mv) c;have e:=zaE (g := "rule") (v:=.ref A.ru) i;have h:=zaE (g := "order") (v:=.ref A.od) e;have d:=zaE (g := "book") (v:=.ref A.bk) h;have k:=zaE (g := "outs") (v:=.ref A.ou) d;rw[zam (by decide +kernel) k,zam (by decide +kernel) d,zam (by decide +kernel) h,zam (by decide +kernel) e,zam (by decide +kernel) i,zam (by decide +kernel) c,zam (by decide +kernel) j,zam (by decide +kernel) p2,zam (by decide +kernel) b,zi0]
def zhh{A:HA}{own:Int}:(hfl A own).length<1000:=yC zse (by decide)
noncomputable def KB (S:List Addr) (H H':Hp):Prop:=∀b o,b∉S->H b=some o->H' b=some o
section
variable {S:List Addr}{H H1 H2:Hp}
def KB.refl:KB S H H:=λ_ _ _ h=>h
def KB.at(e:KB S H H1)(h:H a=some o)(n:a∉S):H1 a=some o:=e a o n h
def KB.trans(e:KB S H H1)(f:KB S H1 H2):KB S H H2:=λb o n h=>f b o n (e b o n h)
def Same.kb(e:Same H H1):KB S H H1:=λb o _ h=>e b o h
def But.kb(e:But p H H1)(m:p∈S):KB S H H1:=λb o n h=>e.at h λz=>n (z▸m)
def KB.more{c:List Addr}(e:KB S H H1)(m:∀a∈S,a∈c):KB c H H1:=λb o n h=>e b o (λz=>n (m b z)) h
end
noncomputable def ziK (C:Addr):Sp:=λvs H Q _=>∃(b d:Addr) (m w y z:Int),vs=[.ref b,.int z]/\Bk C H b d m w y []/\zb0 H Q []
noncomputable def zqN (C:Addr):Sp:=λvs H Q _=>∃(b d:Addr) (m w y:Int),vs=[.ref b]/\Bk C H b d m w y []/\∀p H',KB [b] H H'->Q (.ref p) H'
noncomputable def zj9 (C CB:Addr):Sp:=λvs H Q _=>∃(h dx d:Addr) (A:HA) (own m w y z:Int),vs=[.ref h,.int z]/\H h=some (.ins C dx (hfl A own))/\Bk CB H A.bk d m w y []/\zb0 H Q []
noncomputable def ztv (C:Addr):Sp:=λvs H Q _=>∃(h dx:Addr) (A:HA) (own k:Int) (n:Nat),vs=[.ref h,.int k]/\H h=some (.ins C dx (hfl A own))/\H A.ou=some (.lst ((List.replicate n false).map V.bl))/\0<=k/\k<(n:Int)/\Q (.bl false) H
noncomputable def zo3 (C CE:Addr):Sp:=λvs H Q E=>∃(h dx:Addr) (A:HA) (own k:Int),vs=[.ref h,.int k]/\H h=some (.ins C dx (hfl A own))/\H A.re=some (.lst [])/\E (.ref CE) none H
structure HE(C:Addr)(H:Hp)(h dx:Addr)(A:HA)(own:Int)(n:Nat)(pf P S:Nat->Int):Prop where
 ob:H h=some (.ins C dx (hfl A own))
 pu:H A.pu=some (.lst ((vec n pf).map V.int))
 pl:H A.pl=some (.lst ((vec n P).map V.int))
 sh:H A.sh=some (.lst ((vec n S).map V.int))
 n1:A.pl≠A.pu
 n2:A.sh≠A.pu
 n3:A.pl≠A.sh
noncomputable def zrW (C:Addr):Sp:=λvs H Q _=>∃(h dx rs:Addr) (A:HA) (own:Int) (n:Nat) (pf P S:Nat->Int) (row:Nat->LRow) (tr:List (Addr × Addr × Addr)),vs=[.ref h,.ref rs]/\HE C H h dx A own n pf P S/\1<=n/\n<=9/\H rs=some (.lst (tr.map λt=>V.ref t.1))/\LRs H n row tr /\
 ∀own' H',KB [h,A.pl,A.sh] H H'->H' h=some (.ins C dx (hfl A own'))->Q .non H'
noncomputable def zs0 (C:Addr):Sp:=λvs H Q _=>∃(h dx en:Addr) (A:HA) (own:Int) (we:List V) (n:Nat) (pf:Nat->Int),vs=[.ref h,.ref en]/\H h=some (.ins C dx (hfl A own))/\H en=some (.lst we)/\IsQs H we (zbs (vec n pf))/\n<=9/\(∀i,i<n->0<=pf i/\pf i<=1000000000000) /\
 ∀pu own' H',KB [h] H H'->H' h=some (.ins C dx (hfl { A with pu:=pu } own'))->Q .non H'
def not3{h s:Addr}(n1:a≠h)(n2:a≠p)(n3:a≠s):a∉[h,p,s]:=λz=>by
 rcases yt.mp z with z | z
 ·exact n1 z
 rcases yt.mp z with z | z
 ·exact n2 z
 ·exact n3 (yp.mp z)
section
variable {C:Addr}{H H':Hp}{h dx:Addr}{A:HA}{own:Int}{n:Nat}{pf P S:Nat->Int}
def HE.not(e:HE C H h dx A own n pf P S)(b:H a=some o)(n1:∀fs,o≠.ins C dx fs)(n2:∀f,o≠.lst ((vec n f).map V.int)):a∉[h,A.pl,A.sh]:=
 not3 (zag b e.ob (n1 _)) (zag b e.pl (n2 _)) (zag b e.sh (n2 _))
theorem HE.tup(e:HE C H h dx A own n pf P S)(k:KB [h,A.pl,A.sh] H H'){a:Addr}{xs:List V}(b:H a=some (.tup xs)):H' a=some (.tup xs):=
 k.at b (e.not b (λ_ z=>by cases z) λ_ z=>by cases z)
def HE.refs(e:HE C H h dx A own n pf P S)(k:KB [h,A.pl,A.sh] H H')(n1:1<=n){bs:List Addr}(c:H a=some (.lst (bs.map V.ref))):H' a=some (.lst (bs.map V.ref)):=by
 refine k.at c (e.not c (λ_ z=>by cases z) λf z=>?_);have z:=congrArg List.head? (HO.lst.inj z);rw[List.head?_map,List.head?_map]at z;cases bs with
 | nil=>
  have l:(vec n f).head?=none:=by
   cases h:(vec n f).head? with
   | none=>rfl
   | some x=>rw[h]at z;cases z
  have:=congrArg List.length (List.head?_eq_none_iff.mp l)
  rw[zA]at this;exact absurd this (by simp;lia)
 | cons b r=>
  cases h:(vec n f).head? with
  | none=>rw[h]at z;cases z
  | some x=>rw[h]at z;cases z
def HE.ints(e:HE C H h dx A own n pf P S)(k:KB [h,A.pl,A.sh] H H')(b:H a=some (.lst xs))(c:xs.length≠n):H' a=some (.lst xs):=
 k.at b (e.not b (λ_ z=>by cases z) λf z=>c (by rw[HO.lst.inj z,yb,zA]))
def HE.purses(e:HE C H h dx A own n pf P S)(k:KB [h,A.pl,A.sh] H H'):H' A.pu=some (.lst ((vec n pf).map V.int)):=
 k.at e.pu (not3 (zag e.pu e.ob (by intro z;cases z)) e.n1.symm e.n2.symm)
end
def KB.but{S:List Addr}(k:KB S H H1)(e:But p H1 H2)(m:p∈S):KB S H H2:=k.trans (e.kb m)
def KB.lbut{S:List Addr}(k:KB S H H1)(e:LBut p H1 H2)(m:p∈S):KB S H H2:=k.trans (e.1.kb m)
theorem IsQs.keepT{H H':Hp}(e:∀a xs,H a=some (.tup xs)->H' a=some (.tup xs)):∀{vs:List V} {qs:List Rat},IsQs H vs qs->IsQs H' vs qs
 | [],[],_=>trivial
 | v :: vs,q :: qs,⟨⟨a,z,h⟩,r⟩=>⟨⟨a,z,e _ _ h⟩,IsQs.keepT e r⟩
theorem zkM(pf:Nat->Int):∀n,zdQ (zbs (vec n pf))=((zaj (vec n pf):Int):Rat)
 | 0=>rfl
 | n+1=>by
  have e:zbs (vec n pf++[pf n])=zbs (vec n pf)++[((pf n:Int):Rat)]:=by unfold zbs;rw[yj];rfl
  rw[zV,e,ze0,zaQ,zkM pf n];exact(Rat.intCast_add _ _).symm
theorem zoV{pf:Nat->Int}:∀n,(∀i,i<n->0<=pf i/\pf i<=1000000000000)->0<=zaj (vec n pf)/\zaj (vec n pf)<=1000000000000*n
 | 0,_=>⟨yD _,yD _⟩
 | n+1,h=>by
  have a:=zoV n λi hi=>h i (yaI hi);have b:=h n (y9 n);rw[zV,zaQ];lia
section
variable {H H':Hp}
theorem IsTrs.ints:∀ns:List Int,IsTrs H (ns.map V.int) (ns.map Tr.int)
 | []=>.nil
 | n :: ns=>.cons (.int n) (IsTrs.ints ns)
theorem zdV{α:Type}{d:Nat}{f:α->Tr}:∀{l:List α},(∀x∈l,(f x).ok d)->Tr.oks d (l.map f)
 | [],_=>trivial
 | a :: l,h=>⟨h a (.head _),zdV λx b=>h x (.tail _ b)⟩
def zeG{d:Nat}:Tr.oks d (ns.map Tr.int):=zdV λ_ _=>trivial
noncomputable def qT (q:Rat):Tr:=.nod false [.int q.num,.int q.den]
def zq5{d:Nat}(q:Rat):(qT q).ok (d+1):=⟨ye (yI _),ya8 rfl,trivial,trivial,trivial⟩
theorem IsQs.trs:∀{vs:List V} {qs:List Rat},IsQs H vs qs->IsTrs H vs (qs.map qT)
 | [],[],_=>.nil
 | v :: vs,q :: qs,⟨⟨a,z,h⟩,r⟩=>by
  subst z;exact .cons (.tup h (.cons (.int _) (.cons (.int _) .nil))) (IsQs.trs r)
theorem IsQs.refs:∀{vs:List V} {qs:List Rat},IsQs H vs qs->∃bs:List Addr,vs=bs.map V.ref
 | [],[],_=>⟨[],rfl⟩
 | v :: vs,q :: qs,⟨⟨a,z,h⟩,r⟩=>by
  obtain⟨bs,e⟩:=IsQs.refs r;exact⟨a :: bs,by rw[z,e];rfl⟩
noncomputable def zp4 (n:Nat) (r:LRow):Tr:=.nod false [.str r.w,.nod true ((vec n r.gv).map Tr.int),.nod true ((vec n r.f++[r.x]).map Tr.int)]
def zrQ(h:n<=9)(r:LRow):(zp4 n r).ok 2:=
 ⟨by decide,ya8 rfl,trivial,⟨by decide,by rw[yb,zA];lia,zeG⟩,⟨by decide,by rw[yb,yf,zA];simp;lia,zeG⟩,trivial⟩
theorem LRs.trs{n:Nat}{row:Nat->LRow}{tr:List (Addr × Addr × Addr)}(h:LRs H n row tr):∀k,k<=tr.length->IsTrs H ((tr.take k).map λt=>V.ref t.1) ((List.range k).map λj=>zp4 n (row j))
 | 0,_=>.nil
 | k+1,hk=>by
  obtain⟨t,a⟩:=zN hk;obtain⟨h1,h2,b⟩:=h k t a;rw[zar a,yO,yj,yj];exact(LRs.trs h k (yaj hk)).app (.cons (.tup h1 (.cons (.str _) (.cons (.lst h2 (IsTrs.ints _)) (.cons (.lst b (IsTrs.ints _)) .nil)))) .nil)
noncomputable def TpRow (H:Hp) (y:Addr) (ws:List Str):Prop:=∃(v0 v1 v2:V) (vl:List V) (r:Addr) (us:List Addr),H y=some (.tup (v0 :: v1 :: v2 :: .ref r :: vl))/\H r=some (.tup (us.map V.ref))/\us.length=ws.length/\∀i a,us[i]?=some a->∃xs,H a=some (.tup (.str (ws.getD i "") :: xs))
def TpRow.keep{y:Addr}(h:TpRow H y ws)(e:∀a xs,H a=some (.tup xs)->H' a=some (.tup xs)):TpRow H' y ws:=by
 obtain⟨g,b,j,c,r,us,h1,h2,d,f⟩:=h;exact⟨g,b,j,c,r,us,e _ _ h1,e _ _ h2,d,λi a k=>let ⟨xs,q⟩:=f i a k;⟨xs,e _ _ q⟩⟩
def zqC{f:Nat->Tr}{g:Nat->Str}(l:∀j,∃ts,f j=.nod false (.str (g j) :: ts)):∀{m:Nat} {xs:List V},IsTps H xs ((List.range m).map f)->∃us:List Addr,xs=us.map V.ref/\us.length=m/\∀i a,us[i]?=some a->∃ys,H a=some (.tup (.str (g i) :: ys)):=by
 intro m;rw[List.range_eq_range']
 suffices ∀(m s:Nat) (xs:List V),IsTps H xs ((List.range' s m).map f)->∃us:List Addr,xs=us.map V.ref/\us.length=m/\∀i a,us[i]?=some a->∃ys,H a=some (.tup (.str (g (s+i)) :: ys)) by
  intro xs h;obtain⟨us,a,b,c⟩:=this m 0 xs h;exact⟨us,a,b,λi x d=>by have:=c i x d;rwa [Nat.zero_add]at this⟩
 intro m
 induction m with
 | zero=>intro s xs h;cases h;exact⟨[],rfl,rfl,λi a n=>by simp at n⟩
 | succ m ih=>
  intro s xs h;rw[List.range'_succ,yH]at h;cases h with
  | cons h r=>
   obtain⟨us,a,b,c⟩:=ih (s+1) _ r;obtain⟨ts,e⟩:=l s;rw[e]at h;cases h with
   | nod q k=>
    cases k with
    | cons k1 k2=>
     cases k1;refine⟨_ :: us,by rw[a];rfl,by rw[yE,b],λi x d=>?_⟩;cases i with
     | zero=>cases d;exact⟨_,q⟩
     | succ i=>
      have:=c i x d
      rwa [show s+1+i=s+(i+1) by lia]at this
def zuf{y:Addr}{t0 d b:Tr}{tl:List Tr}{f:Nat->Tr}(a:∀j,∃ts,f j=.nod false (.str (ws.getD j "") :: ts))(h:IsTp H (.ref y) (.nod false (t0 :: d :: b :: .nod true ((List.range ws.length).map f) :: tl))):TpRow H y ws:=by
 cases h with
 | nod q k=>
  cases k with
  | cons k0 k=>
   cases k with
   | cons k1 k=>
    cases k with
    | cons k2 k=>
     cases k with
     | cons k3 k=>
      cases k3 with
      | nod q3 k3=>
       obtain⟨us,e,l,c⟩:=zqC a k3;rw[e]at q3;exact⟨_,_,_,_,_,us,q,q3,l,c⟩
noncomputable def ztc (y:Int) (n:Nat) (pf:Nat->Int) (row:Nat->LRow) (a:Nat->Int) (m:Nat):Tr:=
 .nod false (.int y :: .nod true [] :: .nod true ((vec n (zcA [] pf)).map Tr.int) :: .nod true ((List.range m).map λj=>zp4 n (row j)) :: [.nod true ((vec n a).map Tr.int),.nod true [],.nod true ((zQs n).map qT),.nod true ((zbs (vec n pf)).map qT),.nod true []])
def zsD{y:Int}{a:Nat->Int}(b:n<=9)(c:m<=100):(ztc y n pf row a m).ok 4:=by
 have e1:(zQs n).length=n:=zcV;have e2:(zbs (vec n pf)).length=n:=by unfold zbs;rw[yb,zA]
 refine⟨by decide,ya8 rfl,trivial,⟨by decide,by decide,trivial⟩,⟨by decide,by rw[yb,zA];lia,zeG⟩,⟨by decide,by rw[yb,yM];lia,zdV λ_ _=>zrQ b _⟩,⟨by decide,by rw[yb,zA];lia,zeG⟩,⟨by decide,by decide,trivial⟩,⟨by decide,by rw[yb,e1];lia,zdV λ_ _=>zq5 _⟩,⟨by decide,by rw[yb,e2];lia,zdV λ_ _=>zq5 _⟩,⟨by decide,by decide,trivial⟩,trivial⟩
theorem SetE.tr{n:Nat}{pf P S:Nat->Int}{own y:Int}{ws:List Str}{pt ga h f re d g e ou sh b:Addr}{tr:List (Addr × Addr × Addr)}{i j:List V}(s:SetE H n pf P S own ws pt ga h f re d g e ou tr i j)(a:H sh=some (.lst []))
  (hp:H b=some (.tup [.int y,.ref sh,.ref ga,.ref f,.ref re,.ref d,.ref g,.ref e,.ref ou])):IsTr H (.ref b) (ztc y n pf (zaU n (zcA [] pf) P own ws S) (lays n (zcA [] pf) P own ws S ws.length).1 ws.length):=by
 have c:=LRs.trs s.lt.rows tr.length (yh _);rw[yz,s.lt.len]at c;exact .tup hp (.cons (.int _) (.cons (.lst a .nil) (.cons (.lst s.hga (IsTrs.ints _)) (.cons (.lst s.lt.hrs c) (.cons (.lst s.lt.hre (IsTrs.ints _)) (.cons (.lst s.hle .nil) (.cons (.lst s.hla s.hwl.trs) (.cons (.lst s.hen s.hwe.trs) (.cons (.lst s.hou .nil) .nil)))))))))
theorem SetE.same{n:Nat}{pf P S:Nat->Int}{own:Int}{ws:List Str}{pt ga a g re c h d ou:Addr}{tr:List (Addr × Addr × Addr)}{b f:List V}(s:SetE H n pf P S own ws pt ga a g re c h d ou tr b f)(e:Same H H'):SetE H' n pf P S own ws pt ga a g re c h d ou tr b f:=
 ⟨e.at s.hpt,e.at s.hga,s.lt.same e,e.at s.hle,e.at s.hla,s.hwl.same e,e.at s.hen,s.hwe.same e,e.at s.hou⟩
def HE.same{h:Addr}{A:HA}{own:Int}{P:Nat->Int}(s:HE C H h dx A own n pf P S)(e:Same H H'):HE C H' h dx A own n pf P S:=⟨e.at s.ob,e.at s.pu,e.at s.pl,e.at s.sh,s.n1,s.n2,s.n3⟩
def HE.nil{h:Addr}{A:HA}{own:Int}{P:Nat->Int}(s:HE C H h dx A own n pf P S)(k:KB [h,A.pl,A.sh] H H')(n1:1<=n)(b:H a=some (.lst [])):H' a=some (.lst []):=s.refs k n1 (bs:=[]) b
end
noncomputable def zoN (C CB:Addr):Sp:=λvs H Q _=>∃(h dx d:Addr) (A:HA) (own m w y:Int) (n:Nat) (pf P S:Nat->Int) (ws:List Str),vs=[.ref h]/\HE C H h dx A own n pf P S/\Bk CB H A.bk d m w y []/\H A.od=some (.lst (ws.map V.str))/\H A.re=some (.lst [])/\A.bk≠h/\1<=n/\n<=9/\(∀i,i<n->0<=pf i/\pf i<=1000000000000)/\Lit n P/\Lit n S/\0<=own/\ws.length<=100/\OkO ws /\
 ∀y H',TpRow H' y ws->KB [h,A.pl,A.sh,A.bk,A.re] H H'->Q (.ref y) H'
theorem zi1:∀n,zaj (vec n λ_=>0)=0
 | 0=>rfl
 | n+1=>by rw[zV,zaQ,zi1 n];rfl
def znN{m:Int}{F:Nat->Nat->Int}:zfV [] m k F=λ_=>0:=by
 funext i;unfold zfV zaT;rw[show(λj=>zaR [] m j*F i j)=λ_=>0 from funext λj=>by rw[show zaR [] m j=0 from rfl,Int.zero_mul],zi1];rfl
theorem zjn:∀q:List Nat,lsum (λ_=>0) q=0
 | []=>rfl
 | d :: q=>by show 0+lsum (λ_=>0) q=0;rw[zjn q];rfl
def zp8{w:Str}{m:Int}{F:Nat->Nat->Int}{q:List Nat}:zdG w (zfV [] m k F) q c=0:=by
 rw[znN];have e:zcM (decide (w = "mean")) (λ_=>0) q c.toNat=0:=by
  unfold zcM;rw[zjn,Rat.zero_divInt];split<;>rfl
 unfold zdG;rw[e];exact if_neg (by decide)
theorem zg0(f g h:Nat->Int):∀n,zaj (vec n λi=>f i+g i+h i)=zaj (vec n f)+zaj (vec n g)+zaj (vec n h)
 | 0=>rfl
 | n+1=>by
  rw[zV,zV,zV,zV,zaQ,zaQ,zaQ,zaQ,zg0 f g h n];lia
def ztf(a b c:Int):zaj [a,b,c]=a+b+c:=by show 0+a+b+c=a+b+c;lia
structure HQ where
 h:Addr
 d:Addr
 A:HA
 own:Int
 n:Nat
 pf:Nat->Int
 P:Nat->Int
 S:Nat->Int
 bs:List Addr
 k:Nat
 F:Nat->Nat->Int
 w:Str
 c:Int
 ws:List Str
structure HM(K:Fg)(C CB:Addr)(lP:Pos)(lQ:Str)(H:Hp)(X:HQ):Prop where
 ob:∃dx,H X.h=some (.ins C dx (hfl X.A X.own))
 pu:H X.A.pu=some (.lst ((vec X.n X.pf).map V.int))
 pl:H X.A.pl=some (.lst ((vec X.n X.P).map V.int))
 sh:H X.A.sh=some (.lst ((vec X.n X.S).map V.int))
 od:H X.A.od=some (.lst (X.ws.map V.str))
 ou:H X.A.ou=some (.lst ((List.replicate X.n false).map V.bl))
 re:H X.A.re=some (.lst [])
 hn:HN K CB lP lQ H X.A X.d (X.n:Int) 0 [] X.bs X.k X.F X.w X.c
section
variable {K:Fg}{C CB:Addr}{lP:Pos}{lQ:Str}{H H':Hp}{X:HQ}
theorem HM.sameT(m:HM K C CB lP lQ H X)(e:SameT H H')(t:TbW K "worst_days" lP lQ H'):HM K C CB lP lQ H' X:=by
 obtain⟨dx,a⟩:=m.ob;exact⟨⟨dx,e.ins a⟩,e.lst m.pu,e.lst m.pl,e.lst m.sh,e.lst m.od,e.lst m.ou,e.lst m.re,m.hn.sameT e t⟩
theorem HM.same(m:HM K C CB lP lQ H X)(e:Same H H'):HM K C CB lP lQ H' X:=m.sameT e.t (TbW.same e m.hn.tb)
end
noncomputable def zrr:Sp:=λvs H Q _=>∃a b:Int,vs=[.int a,.int b]/\a=b/\Q (.bl true) H
def zcW{a b:Int}(h:a=b)(q:Q (.bl true) H):zrr [.int a,.int b] H Q E:=⟨a,b,rfl,h,q⟩
noncomputable def ztG (K:Fg) (C CB:Addr) (lP:Pos) (lQ:Str):Sp:=λvs H Q _=>∃(X:HQ) (i:Nat) (mb:Addr),vs=[.ref X.h,.int i,.ref mb,.int X.k]/\HM K C CB lP lQ H X/\i<X.n/\H mb=some (.tup [.int (X.pf i),.int (X.P i),.int (X.S i)])/\∀H',SameT H H'->TbW K "worst_days" lP lQ H'->Q (.bl true) H'
noncomputable def ziC (K:Fg) (C CB:Addr) (lP:Pos) (lQ:Str):Sp:=λvs H Q _=>∃(X:HQ) (z:Int),vs=[.ref X.h,.int z]/\HM K C CB lP lQ H X/\∀H',Same H H'->Q (.bl true) H'
noncomputable def zpF (K:Fg) (C CB:Addr) (lP:Pos) (lQ:Str):Sp:=λvs H Q _=>∃(X:HQ) (ms:Addr) (us:List V) (xs:List (Int × Int × Int)),vs=[.ref X.h,.ref ms,.int X.own,.int X.k]/\HM K C CB lP lQ H X/\H ms=some (.lst us)/\IsTs m3V H us xs/\xs.length=X.n/\X.n<=9/\(∀i,i<X.n->xs.getD i (0,0,0)=(X.pf i,X.P i,X.S i))/\∀H',SameT H H'->TbW K "worst_days" lP lQ H'->Q (.bl true) H'
noncomputable def zn3 (K:Fg):Sp:=λvs H Q _=>∃(a:Addr) (ns:List Int) (st:Int) (ru:Addr) (w:Str) (c n:Int),vs=[.ref a,.int st,.ref ru,.int n]/\SqL K H a (ns.map V.int)/\0<=st/\st<=1000/\H ru=some (.tup [.str w,.int c])/\(w = "worst" \/ w = "mean")/\1<=n/\n<=100/\∀p H' w' c',Same H H'->H' p=some (.tup [.str w',.int c'])->¬za5 w' c' n.toNat->Q (.ref p) H'
noncomputable def zo7 (K:Fg):Sp:=λvs H Q _=>∃(a:Addr) (ns:List Int) (st:Int) (o:Addr) (ws:List Str),vs=[.ref a,.int st,.ref o]/\SqL K H a (ns.map V.int)/\0<=st/\st<=1000/\H o=some (.lst (ws.map V.str))/\ws.length<=5/\∀p H' ws',Same H H'->H' p=some (.lst (ws'.map V.str))->ws'.length<=6->¬OkO ws'->Q (.ref p) H'
def zrL{w:Str}(h:w = "worst" \/ w = "mean"):Builtin.Str.tooLong (Txt.upper w).length=false/\¬Txt.upper w = "worst" /\ ¬Txt.upper w = "mean" := by rcases h with rfl | rfl<;>decide +kernel
def zte{w:Str}(h:w = "worst" \/ w = "mean"):w.length<=5/\¬w ++ "s" = "worst" /\ ¬w ++ "s" = "mean" := by rcases h with rfl | rfl<;>decide +kernel
noncomputable def bad5:List Str:=["none", "Pledge", "", "owns", "shar"]
def zrG:∀w∈bad5,w∉words5:=by decide +kernel
def zmM{u v:List Str}{w:Str}(e:u++v=ws)(h:w∉words5\/w∈ws):¬OkO (u++[w]++v):=fun⟨h1,h2⟩=>by
 rcases h with h | h
 ·exact h (h1 w (by simp))
 ·rw[yaG]at h2;have n1:=yS.mp h2;have n2:=yS.mp n1.2.1;rw[<- e]at h;rcases yA.mp h with h | h
  ·exact n1.2.2 w h w (by simp) rfl
  ·exact n2.2.2 w (by simp) w h rfl
section
variable {X:Cx}
noncomputable def zrd:R2:=λx y H Q=>∃b c,x=.bl b/\y=.bl c/\Q (.bl (!decide (b=c))) H
def zsa:OpR X (compareOp .IsNot) zrd:=by
 intro pins s σ H x y v u Q I d a h;obtain⟨b,c,rfl,rfl,q⟩:=h;cases d;cases a;cases b<;>cases c<;>exact wpAny_pure (zZ I q rfl)
end
def ztO(h1:IsQ H a q)(h2:IsQ H b q)(k:Q (.bl false) H):zen K (.ref a) (.ref b) H Q:=by
 have rep:RepAll K H [.int q.num,.int q.den] [.int q.num,.int q.den]:=.cons (.int _) (.cons (.int _) .nil);refine zmT (.tup (.of h1) rep) (.tup (.of h2) rep) (by simp[PyData.depth,PyData.depthAll]) ?_;rw[yav _ (by rw[PyData.canLay0];exact rep.lay)];exact k
def zt2(h1:H a=some (.lst [.bl true,.bl true]))(h2:H b=some (.lst [.bl true,.bl true]))(q:Q (.bl true) H):zdh K (.ref a) (.ref b) H Q:=by
 have rep:RepAll K H [.bl true,.bl true] [.bool true,.bool true]:=.cons (.bl _) (.cons (.bl _) .nil);refine zjZ (.lst (.of h1) rep) (.lst (.of h2) rep) (by simp[PyData.depth,PyData.depthAll]) ?_;rw[yav _ (by rw[PyData.canLay0];exact rep.lay)];exact q
noncomputable def zs6 (CR a:Addr):Sp:=λvs H Q _=>∃(ms mo ru od:Addr) (us:List V) (xs:List (Int × Int × Int)) (as:List Addr) (k:Nat) (F:Nat->Nat->Int) (w:Str) (c:Int) (ws:List Str) (own:Int),
 vs=[.ref ms,.ref mo,.ref ru,.ref od,.int own]/\H ms=some (.lst us)/\IsTs m3V H us xs/\xs.length<=1000/\H mo=some (.lst (as.map V.ref))/\Rows H as k F/\1<=as.length/\as.length<=1000/\0<k/\k<=1000/\H ru=some (.tup [.str w,.int c])/\H od=some (.lst (ws.map V.str))/\ws.length<=100 /\
 ((¬za5 w c as.length/\∀H',Same H H'->Q (.str "rule") H')\/(za5 w c as.length/\¬OkO ws/\∀H',Same H H'->Q (.str "order") H'))
noncomputable def d3 (x:Int × Int × Int):PyData:=.tuple [.int x.1,.int x.2.1,.int x.2.2]
section
variable {K:Fg}{H H':Hp}{Q:VK}
theorem rep3:∀{us:List V} {xs:List (Int × Int × Int)},IsTs m3V H us xs->RepAll K H us (xs.map d3)
 | [],[],_=>.nil
 | v :: vs,x :: xs,⟨⟨a,z,h⟩,r⟩=>by
  subst z;exact .cons (.tup (.of h) (.cons (.int _) (.cons (.int _) (.cons (.int _) .nil)))) (rep3 r)
theorem depth3:∀xs:List (Int × Int × Int),PyData.depthAll (xs.map d3)<=1
 | []=>by simp[PyData.depthAll]
 | x :: xs=>by have:=depth3 xs;simp[d3,PyData.depthAll,PyData.depth];lia
def znV{h r g p s j:Addr}{e d:List V}{xs:List (Int × Int × Int)}{as bs:List Addr}{k:Nat}{F:Nat->Nat->Int}(h1:H a=some (.lst [.ref h,.ref r,.ref g]))(h2:H b=some (.lst [.ref p,.ref s,.ref j]))(v:∀w∈ws,w∈words5)
  (hm1:H h=some (.lst e)) (hi1:IsTs m3V H e xs) (ho1:H r=some (.lst (as.map V.ref))) (hr1:Rows H as k F) (hw1:H g=some (.lst (ws.map V.str)))
  (hm2:H p=some (.lst d)) (hi2:IsTs m3V H d xs) (ho2:H s=some (.lst (bs.map V.ref))) (hr2:Rows H bs k F) (hw2:H j=some (.lst (ws.map V.str))) (hl:as.length=bs.length) (q:Q (.bl false) H):zen K (.ref a) (.ref b) H Q:=by
 have c:∀{m o w:Addr} {us:List V} {as:List Addr},H m=some (.lst us)->IsTs m3V H us xs->H o=some (.lst (as.map V.ref))->Rows H as k F->H w=some (.lst (ws.map V.str))->RepAll K H [.ref m,.ref o,.ref w] [.list (xs.map d3),.list ((List.range as.length).map λi=>zgD k (F i)),.list (ws.map PyData.str)]:=λx hi u t f=>.cons (.lst (.of x) (rep3 hi)) (.cons (.lst (.of u) t.rep) (.cons (.lst (.of f) (zdf v)) .nil));have l:=c hm1 hi1 ho1 hr1 hw1;have n:=c hm2 hi2 ho2 hr2 hw2;rw[<- hl]at n;have y:=depth3 xs;have z:=zhJ (k:=k) (F:=F) (List.range as.length);refine zmT (.lst (.of h1) l) (.lst (.of h2) n) (by simp only[PyData.depth,PyData.depthAll,zeH];lia) ?_;rw[yav _ (by rw[PyData.canLay0];exact l.lay)];exact q
def zoK(h1:H a=some (.lst (ws.map V.str)))(h2:H b=some (.lst (ws.map V.str)))(c:∀w∈ws,w∈words5)(q:Q (.bl true) H):zdh K (.ref a) (.ref b) H Q:=by
 refine zjZ (.lst (.of h1) (zdf c)) (.lst (.of h2) (zdf c)) (by simp only[PyData.depth,zeH];lia) ?_;rw[yav _ (by rw[PyData.canLay0];exact(zdf (K:=K) (H:=H) c).lay)];exact q
end
noncomputable def HQ.all (X:HQ):List Addr:=X.h :: X.A.re :: X.A.ou :: X.d :: X.A.bk :: X.A.od :: X.A.ru :: (X.bs++[X.A.mv,X.A.sh,X.A.pl,X.A.pu])
def HM.kb{CB:Addr}{lP:Pos}{lQ:Str}{X:HQ}{S:List Addr}(m:HM K C CB lP lQ H X)(e:KB S H H')(n:∀a∈X.all,a∉S)(t:TbW K "worst_days" lP lQ H'):HM K C CB lP lQ H' X:=by
 obtain⟨dx,d⟩:=m.ob;obtain⟨⟨b,c⟩,ys,hd,hi⟩:=m.hn.bk;obtain rfl:ys=[]:=yT.mp hi.length;have q:∀{a:Addr} {o:HO},H a=some o->a∈X.all->H' a=some o:=λh z=>e.at h (n _ z);have hn:=m.hn;refine⟨⟨dx,q d (by simp[HQ.all])⟩,q m.pu (by simp[HQ.all]),q m.pl (by simp[HQ.all]),q m.sh (by simp[HQ.all]),q m.od (by simp[HQ.all]),q m.ou (by simp[HQ.all]),q m.re (by simp[HQ.all]),⟨⟨⟨b,q c (by simp[HQ.all])⟩,[],q hd (by simp[HQ.all]),trivial⟩,hn.tok,hn.tu,hn.tl,q hn.ru (by simp[HQ.all]),q hn.mv (by simp[HQ.all]),⟨hn.rows.1,λi a z=>q (hn.rows.2 i a z) ?_⟩,hn.fw,hn.ok,hn.k9,hn.n64,t⟩⟩
 have:=ym z
 simp[HQ.all,this]
end Internal
namespace Internal.K
set_option genInjectivity false
set_option genSizeOf false
variable {A:Around}{C:Addr}{E:XK}{H:Hp}{K:Fg}{N ps:List Str}{P:Program}{Q:VK}{X:Cx}{base:Heap}{e:Expr}{es:List Expr}{j k n:Nat}{mg:Str->Option Value}{outer:List Env}{qual x:Str}{s:Shared}{scope:Scope}{sp:Sp}{st:Stmt}{w:World}{σ:St}
open PySem Internal
local macro_rules | `(tactic| walk_at "s")=>`(tactic| exact ⟨rfl,rfl,rfl,by decide +kernel,rfl,by decide +kernel,by decide +kernel⟩)
local macro_rules | `(tactic| walk_at "l1")=>`(tactic| (rename_i h; first | (obtain ⟨h,_⟩:=h; subst h; rfl) | (obtain ⟨_,h⟩:=h; walk_at "l1")))
local macro_rules | `(tactic| walk_at "l")=>`(tactic| (intro _ _ _ _ h; first | (obtain ⟨h,_⟩:=h; subst h; rfl) | (obtain ⟨_,h⟩:=h; walk_at "l1")))
local macro_rules | `(tactic| walk_at "z")=>`(tactic| first
 | assumption
 | exact sz200 (by lia) (by lia)
 | ((with_reducible apply zdY);(focus walk_at "z");walk_at "z")
 | exact szL (by decide) (by lia) (by lia)
 | ((with_reducible apply yc (m:=_));(focus assumption);lia))
local macro_rules | `(tactic| walk_at "h")=>`(tactic| first
 | assumption
 | (with_reducible exact Same.refl _)
 | ((with_reducible apply Same.isQ);(focus assumption);walk_at "h")
 | ((with_reducible apply LBut.isQ);(focus assumption);walk_at "h")
 | ((with_reducible apply IsQs.same);(focus assumption);walk_at "h")
 | ((with_reducible apply LBut.isQs);(focus assumption);walk_at "h")
 | ((with_reducible apply Same.at);(focus assumption);walk_at "h")
 | ((with_reducible apply LBut.tup);(focus assumption);walk_at "h")
 | ((with_reducible apply LBut.lst);(focus assumption);(focus walk_at "h");walk_at "h")
 | ((with_reducible apply SqL.keep);(focus (show SqL _ _ _ _;assumption));walk_at "h")
 | ((with_reducible apply SqL.of);walk_at "h")
 | ((with_reducible apply Same.after);(focus assumption);walk_at "h")
 | ((with_reducible apply LBut.same);(focus assumption);(focus walk_at "h");walk_at "h")
 | ((with_reducible apply Same.none);(focus assumption);walk_at "h")
 | ((with_reducible apply TbW.same);(focus assumption);walk_at "h")
 | ((with_reducible apply TbW.but);(focus assumption);walk_at "h")
 | ((with_reducible apply SameT.lst);(focus assumption);walk_at "h")
 | ((with_reducible apply SameT.tup);(focus assumption);walk_at "h")
 | ((with_reducible apply SameT.ins);(focus assumption);walk_at "h")
 | ((with_reducible apply SameT.rows);(focus assumption);walk_at "h")
 | ((with_reducible apply Same.isTs);(focus assumption);walk_at "h")
 | ((with_reducible apply LBut.isTs);(focus assumption);walk_at "h")
 | ((with_reducible apply Same.isSh);(focus assumption);walk_at "h")
 | ((with_reducible apply Same.rows);(focus assumption);walk_at "h")
 | ((with_reducible apply LBut.ins);(focus assumption);walk_at "h")
 | ((with_reducible apply Bk.same);(focus walk_at "h");(focus assumption))
 | ((with_reducible apply zbw);(focus assumption);walk_at "h"))
local macro_rules | `(tactic| walk_at "x1")=>`(tactic| first
 | ((with_reducible apply zuA);(focus (exact rfl)))
 | (with_reducible (first
   | apply zvp
   | apply zt1
   | apply zrs
   | apply zuT
   | apply zux
   | apply zvB
   | apply zuS
   | apply ztH
   | apply zu5
   | apply zuC
   | apply zu2
   | apply ztK
   | apply zsR
   | apply ze7
   | apply zle
   | apply zrY
   | apply zsB))
 | (with_reducible refine zui (by assumption) ?_)
 | (with_reducible refine ztg (by assumption) ?_)
 | (with_reducible refine zuu (λ_=>?_) (λ_=>?_))
 | (with_reducible refine ztl (λ_=>?_) (λ_=>?_))
 | (with_reducible refine ztV (λ_=>?_) (λ_=>?_))
 | (with_reducible (first
   | apply zuE
   | apply zus))
 | ((with_reducible show rIx _ (V.ref _) (V.int _) _ _);first
   | refine zph (by assumption) (by rfl) ?_
   | refine zl4 (by assumption) (by lia) (by lia) ?_
   | refine zsm (by assumption) (by lia) (by assumption) ?_
   | refine zph (by walk_at "h") (by rfl) ?_
   | refine zl4 (by walk_at "h") (by lia) (by lia) ?_
   | refine zhE (by walk_at "h") (by assumption) ?_
   | refine zb7 (by walk_at "h") (by assumption) ?_
   | refine zhE (by walk_at "h") (by rfl) ?_)
 | ((with_reducible show zcC _ [V.int _,_] _ _);refine zjY ?_)
 | ((with_reducible show zcC _ [V.bl _,_] _ _);refine zjY ?_)
 | (with_reducible (first
   | apply zup
   | apply zts))
 | ((with_reducible show zcC _ [V.ref _,V.ty "tuple"] _ _);refine zjY ?_;first | refine IsQ.isT (by walk_at "h") ?_ | refine x_isTT (by walk_at "h") ?_ | refine x_isLT (by walk_at "h") ?_)
 | ((with_reducible show zcC _ [V.ref _,V.ty "list"] _ _);refine zjY ?_;first | refine x_isLL (by walk_at "h") ?_ | refine x_isTL (by walk_at "h") ?_)
 | ((with_reducible show zcC _ [V.ref _,V.ref _] _ _);refine zq3 (by walk_at "h") (by assumption) rfl (by assumption) ?_)
 | ((with_reducible show zcC _ [V.ref _,V.ty "ValueError"] _ _);refine zq3 (by walk_at "h") (by assumption) rfl (by assumption) ?_)
 | (with_reducible refine zeg (by assumption) (λ_ _ _ _ _=>?_))
 | ((with_reducible show zfm _ [] _);refine zaA (by first | decide | simp) (λ_ _ _ _ _=>?_))
 | ((with_reducible show zfm _ [_] _);refine zaA (by first | decide | simp) (λ_ _ _ _ _=>?_))
 | ((with_reducible show zfm _ (_ :: _ :: _ :: _) _);refine zaA (by first | decide | simp) (λ_ _ _ _ _=>?_))
 | (with_reducible (first
   | apply zsy
   | apply zue))
 | ((with_reducible show zm0 _ [V.ref _] _ _);first | refine IsQ.len (by walk_at "h") ?_ | refine zt9 (by walk_at "h") ?_ | refine x_lenT' (by walk_at "h") ?_)
 | (with_reducible refine zso ?_)
 | ((with_reducible show zlf _ _ _ _);refine zqr (by walk_at "h") (by walk_at "h") (by walk_at "h") (by walk_at "h") ?_)
 | ((with_reducible show zhW _ _ _ _);refine zoB (by walk_at "h") (by walk_at "h") (by walk_at "h") (by walk_at "h") ?_)
 | ((with_reducible show zii _ _ _ _);refine zoq (by walk_at "h") (by walk_at "h") (by walk_at "h") (by walk_at "h") ?_)
 | (with_reducible (first
   | apply zuv
   | apply zs7
   | apply zpP
   | apply ztj
   | apply zvo))
 | ((with_reducible show zqa _ _ _ _ _ _);refine zuy rfl ?_)
 | (with_reducible (first
   | apply ztm
   | apply zsK))
 | ((with_reducible show zaP _ _ _ (V.ref _) _ _ _);refine zs2 (by assumption) rfl ?_)
 | ((with_reducible show zbS _ (V.ref _) (V.int _) _ _);first
   | refine zpS (by walk_at "h") (by lia) (by lia) ?_
   | refine zov (by walk_at "h") (by assumption) ?_)
 | ((with_reducible show zhn (V.ref _) (V.int _) (V.int _) _ _);refine zpZ (by walk_at "h") (by lia) (by lia) (λ_ _ _=>?_))
 | ((with_reducible show zdJ (V.ref _) (V.int _) _ _);first | refine zpw (by walk_at "h") (by lia) (by lia) (λ_ _ _ _ _=>?_) | refine zqL (by walk_at "h") (by lia) (by lia) (λ_ _ _ _ _=>?_) | refine zsc (by walk_at "h") (by lia) (by lia) (λ_ _ _ _ _=>?_))
 | ((with_reducible show rIn _ true (V.int _) (V.ref _) _ _);refine zsd (by walk_at "h") ?_)
 | ((with_reducible show zdT _ [V.ref _] _ _);refine zma (by walk_at "h") (by lia) (λ_ _ _ _ _ _ _ _=>?_))
 | ((with_reducible show zg6 [V.int _] _ _);refine zpK (λ_ _ _ _ _=>?_))
 | ((with_reducible show zk3 _ _ _ _ _);refine zqv (by walk_at "h") (by lia) (by lia) (by lia) (by assumption) (λ_ _ _ _ _=>?_))
 | ((with_reducible show zgn _ _ _ _ _);refine znc (by walk_at "h") (by walk_at "h") (by walk_at "h") (by assumption) (by assumption) (by assumption) (by lia) (by lia) (λ_ _ _ _ _=>?_))
 | ((with_reducible show zgE _ _ _ _ _);refine zmV (by walk_at "h") (by assumption) (by walk_at "h") (by assumption) (λ_ _=>?_))
 | ((with_reducible show ziH _ _ _ _ _);refine zoZ (by walk_at "h") (by walk_at "h") (by lia) (by assumption) (λ_ _ _ _ _ _ _ _ _=>?_))
 | ((with_reducible show zim _ _ _ _ _);refine zoT (by walk_at "h") (by assumption) (by walk_at "h") (by lia) (by lia) (λ_ _ _ _ _=>?_))
 | ((with_reducible show zgm _ _ _ _ _);refine zno (by walk_at "h") (by assumption) (by walk_at "h") (by walk_at "h") (by lia) (λ_ _ _ _ _=>?_))
 | ((with_reducible show zj0 _ _ _ _);refine zsT (by walk_at "h") ?_)
 | ((with_reducible show zhV _ _ _ _ _);refine zoe (by walk_at "h") (by walk_at "h") (by walk_at "h") (by assumption) (by lia) (by lia) (by assumption) (λ_ _ _ _ _=>?_))
 | ((with_reducible show zir _ _ _ _);refine ziX (by walk_at "h") (by walk_at "h") (by assumption) (by assumption) (by assumption) ?_)
 | ((with_reducible show zit _ _ _ _ _ _ _);refine zoj (by walk_at "h") (by walk_at "h") (by walk_at "h") (by assumption) (by assumption) (by assumption) (by lia) (by lia) (by lia) (by lia) (by walk_at "h") (λ_ _ _ _ _ _ _ _=>?_))
 | ((with_reducible show ze4 _ _ _ _ _);refine zlA (by walk_at "h") (by assumption) (by walk_at "h") (by assumption) (λ_ _ _ _ _ _ _=>?_))
 | ((with_reducible show zih _ _ _ _ _);refine zo0 (by walk_at "h") (by walk_at "h") (by walk_at "h") (by assumption) (by lia) (by lia) (by assumption) (λ_ _ _ _ _ _ _=>?_))
 | ((with_reducible show zlj _ _ _ _ _);refine zqM (by walk_at "h") (by walk_at "h") (by walk_at "h") (by assumption) (by lia) (by lia) (by assumption) (λ_ _ _ _ _ _ _=>?_))
 | (with_reducible (first
   | apply zuZ
   | apply zth
   | apply zs9
   | apply zsV
   | apply zul
   | apply zuJ
   | apply zuQ
   | apply zuI))
 | ((with_reducible show zny _ _ _ (V.ref _) _);refine zoS (by walk_at "h") (by assumption) (by assumption) (by with_reducible first | exact bfl_many | exact zop | exact zl5 | exact znL) ?_)
 | ((with_reducible show zj8 _ _ _ _ _ _ _ (V.ref _) _);refine zl6 (by walk_at "h") (zpb (by decide +kernel) (by decide +kernel) (by decide +kernel) (by decide +kernel)) ?_)
 | ((with_reducible show zhR _ _ _ _ _ _ _ (V.ref _) _);refine zkW (by walk_at "h") (zpb (by decide +kernel) (by decide +kernel) (by decide +kernel) (by decide +kernel)) ?_)
 | ((with_reducible show zny _ _ _ (V.ref _) _);refine zoS (by walk_at "h") (by assumption) (by assumption) (by with_reducible first | exact zmJ | exact zlB | exact znl | exact zeA | exact zpl | exact zpH | exact zn6 | exact zqm | exact zpt | exact zlH) ?_)
 | ((with_reducible show zj8 _ _ _ _ _ _ _ (V.ref _) _);refine zl6 (by walk_at "h") (znG (by decide +kernel)) ?_)
 | ((with_reducible show zhR _ _ _ _ _ _ _ (V.ref _) _);refine zkW (by walk_at "h") (znG (by decide +kernel)) ?_)
 | ((with_reducible show zmi _ _ _ _ _);refine⟨_,_,_,_,_,_,rfl,(by walk_at "h"),?_⟩)
 | ((with_reducible show zkw _ _ _ _ _);refine⟨_,_,_,_,_,_,_,rfl,(by walk_at "h"),(by walk_at "h"),(by lia),(by lia),?_⟩)
 | ((with_reducible show zjb _ _ _ _ _);refine⟨_,_,_,_,_,_,_,rfl,(by walk_at "h"),(by walk_at "h"),(by lia),(by lia),?_⟩)
 | ((with_reducible show zkS _ _ _ _ _);refine⟨_,_,_,_,_,_,_,rfl,(by walk_at "h"),(by walk_at "h"),(by lia),(by lia),?_⟩)
 | ((with_reducible show znO _ _ _ _ _);refine⟨_,_,_,_,rfl,(by walk_at "h"),?_⟩)
 | ((with_reducible show zlk _ _ _ _ _);refine⟨_,_,_,_,_,_,_,rfl,(by walk_at "h"),(by walk_at "h"),(by walk_at "h"),(by walk_at "h"),?_⟩)
 | ((with_reducible show ziM _ _ _ _ _);refine zpk (by walk_at "h") (by walk_at "h") (by assumption) (by assumption) ?_)
 | ((with_reducible show ziE _ _ _ _ _);refine zpc (by walk_at "h") (by walk_at "h") (by lia) (by lia) (by assumption) (λ_ _ _ _ _=>?_))
 | ((with_reducible show znB _ [V.ref _] _ _);refine zuN (by walk_at "h") ?_)
 | ((with_reducible show zns _ [V.int _] _);refine zsi (by lia) (by lia) ?_)
 | ((with_reducible show zqz _ _ (V.ref _) _);refine zrt (by walk_at "h") ?_)
 | ((with_reducible show znu _ _ [V.ref _] _);refine zrU (by walk_at "h") ?_)
 | ((with_reducible show zpX _ _ [V.ref _,V.ref _] _);refine ztx (by walk_at "h") (by walk_at "h") ?_)
 | ((with_reducible show zlp _ _ _ _ _);refine zqJ (by walk_at "h") (by lia) (by lia) (by assumption) (λ_ _ _ _ _=>?_))
 | ((with_reducible show zkF _ _ _ _ _);refine zpu (by walk_at "h") (by lia) (by lia) (by assumption) (λ_ _ _ _ _=>?_))
 | ((with_reducible show zgx _ _ _ _ _);refine zm2 (by walk_at "h") (by lia) (by lia) (by assumption) (λ_ _ _ _ _ _ _ _ _=>?_))
 | ((with_reducible show zdO _ _ _ _ _);refine zjR (by walk_at "h") (by lia) (λ_ _ _ _ _=>?_))
 | ((with_reducible show zk2 _ _ _ _ _);refine zgG (by walk_at "h") (by walk_at "h") (by lia) (by lia) (λ_ _ _ _ _ _ _=>?_))
 | ((with_reducible show zfw _ _ _ _ _);refine zlJ (by walk_at "h") (by walk_at "h") (λ_ _ _ _ _=>?_))
 | ((with_reducible show zhU _ _ _ _ _);refine zog (by walk_at "h") (by assumption) (by lia) (λ_ _=>?_))
 | ((with_reducible show zhZ _ _ _ _ _);refine zo4 (by walk_at "h") (by lia) (by lia) (λ_ _ _ _ _=>?_))
 | ((with_reducible show zlg _ _ _ _ _);refine zk1 (by walk_at "h") (by lia) (by lia) (λ_ _ _ _ _ _ _ _=>?_))
 | ((with_reducible show zio _ _ _ _ _);refine znU (by walk_at "h") (by walk_at "h") (by assumption) (by lia) (by lia) (λ_ _ _ _ _=>?_))
 | ((with_reducible show zh7 _ _ _ _ _);refine zjt (by walk_at "h") (by walk_at "h") (by walk_at "h") (by walk_at "h") (by lia) (by assumption) (λ_ _ _ _ _ _ _=>?_))
 | ((with_reducible show ziy _ _ _ _ _);refine zo8 (by walk_at "h") (by walk_at "h") (by walk_at "h") (by lia) (λ_ _ _ _ _=>?_))
 | ((with_reducible show zeE _ _ _ _ _);refine zfd (by walk_at "h") (by walk_at "h") (by assumption) (by lia) (λ_ _ _ _ _ _ _=>?_))
 | ((with_reducible show zkr _ _ _ _ _);refine zpp (by walk_at "h") (λ_ _ _ _ _=>?_))
 | ((with_reducible show zgO _ _ _ _ _);refine znq (by walk_at "h") (by lia) (by walk_at "h") (λ_ _ _ _ _ _ _=>?_))
 | ((with_reducible show ziP _ _ _ _ _);refine zoO (by walk_at "h") (by assumption) (by lia) (by walk_at "h") (by walk_at "h") (λ_ _ _ _ _ _ _=>?_))
 | ((with_reducible show zgw _ _ _ _ _ _);refine zmR (by walk_at "h") (by assumption) ?_)
 | ((with_reducible show zkD _ _ _ _ _);refine zpE (by walk_at "h") (by walk_at "h") (by lia) (λ_ _ _ _ _=>?_))
 | ((with_reducible show zka _ _ _ _ _);refine zp5 (by walk_at "h") (by walk_at "h") (by lia) (by assumption) (λ_ _ _ _ _=>?_))
 | ((with_reducible show ziO _ _ _ _ _);refine zoW (by walk_at "h") (by lia) (λ_=>?_))
 | ((with_reducible show zh6 _ _ _ _ _);refine zoA (by walk_at "h") (by lia) (by lia) (by lia) (λ_ _ _=>?_))
 | ((with_reducible show zgH _ _ _ _ _);refine zng (by walk_at "h") (by lia) (by lia) (by lia) (by lia) (λ_ _ _=>?_))
 | ((with_reducible show zfh _ _ _ _ _);refine zlT (by walk_at "h") (by lia) (by lia) (by lia) (by lia) (λ_ _ _=>?_))
 | ((with_reducible show zcT (Itr _ _) _ _ zdP (tC (V.int _)) _ _ _);refine zrK rfl (by lia) (λ_ _ _ _ _=>?_))
 | ((with_reducible show zcT (Itl _ _) _ _ zdP (tC (V.int _)) _ _ _);refine zqR (by walk_at "h") rfl (by first | lia | (simp only[yb,zA];lia)) (λ_ _ _ _ _=>?_))
 | ((with_reducible show zdh _ (V.ref _) (V.ref _) _ _);first | refine zln (by walk_at "h") (by walk_at "h") rfl ?_ | refine x_eqSh (by walk_at "h") (by walk_at "h") rfl ?_ | refine x_eqQs (by walk_at "h") (by walk_at "h") (by walk_at "h") (by walk_at "h") ?_)
 | ((with_reducible show zen _ (V.ref _) (V.ref _) _ _);first | refine zgt (by walk_at "h") (by walk_at "h") rfl ?_ | refine x_neRows (by walk_at "h") (by walk_at "h") (by walk_at "h") (by walk_at "h") (by lia) (λ_ _ _ _=>rfl) ?_ | refine x_neSh (by walk_at "h") (by walk_at "h") rfl ?_ | refine x_neQs (by walk_at "h") (by walk_at "h") (by walk_at "h") (by walk_at "h") ?_)
 | (with_reducible (first
   | apply zt5
   | apply zuw
   | apply zvy
   | apply zuD
   | apply zto
   | apply zrJ))
 | ((with_reducible show tyV _ "list" (V.ref _) _/\_);refine zuF (by walk_at "h") ?_)
 | ((with_reducible show zbb (V.ref _) [_] _ _);refine zdv (by walk_at "h") (by lia) (λ_ _ _=>?_))
 | ((with_reducible show NewQ _ _ _);intro _ _ _ _)
 | ((with_reducible show zqw _ _ _);refine zub (by first | decide | simp) (λ_ _ _ _ _=>?_))
 | ((with_reducible show zcY _ _ _ _);refine zn8 (by walk_at "h") (λ_ _ _ _ _=>?_))
 | ((with_reducible show zc5 _ _ _ _ _ _);refine zsX (by walk_at "h") (λ_ _ _ _ _=>?_))
 | ((with_reducible show ziL _ _ _ _ _);refine zi9 (by walk_at "h") (by walk_at "h") (by walk_at "h") (by walk_at "h") ?_)
 | ((with_reducible show zfU _ _ _ _ _);refine ziU (by walk_at "h") (by walk_at "h") (by walk_at "h") (by walk_at "h") ?_)
 | ((with_reducible show znf _ _ _ _);refine zuL (by first | decide | lia) ?_)
 | ((with_reducible show zdJ _ _ _ _);refine zm1 (by first | assumption | (apply CMulS.of;(focus walk_at "z");(focus walk_at "z");first | decide | lia)) ?_)
 | ((with_reducible show zj2 _ _ _ _);refine zri (by first | walk_at "h" | decide) (by first | walk_at "h" | exact szL (by decide) (by decide) (by decide)) ?_)
 | ((with_reducible show rI zmK _ _ _ _ _);refine zut ⟨by decide,by decide,by decide⟩ rfl ?_;(try simp only[Int.reduceToNat,Int.reducePow]))
 | ((with_reducible show Ends.nx _ _ _);dsimp only[List.set,Ends.gone]))
local macro_rules | `(tactic| walk_at "x")=>`(tactic| repeat' (walk_at "x1"))
local macro_rules|`(∅)=>`(by walk_at "h")
noncomputable def top (i:Nat):Stmt:=PySem.Challenge.pw_quits_k76_a_house_made.main.body.getD i (.Pass ⟨0,0,0,0⟩)
abbrev zdx:Stmt:=zaa (top 23) 0
abbrev zde:Stmt:=zaa (top 23) 7
abbrev zdg:Stmt:=zaa (top 23) 8
abbrev zfi:Stmt:=zaa (top 23) 11
abbrev zfa:Stmt:=zaa (top 23) 12
abbrev zgh:Stmt:=zaa (top 23) 14
abbrev zcP:Stmt:=zaa (top 23) 15
abbrev zdA:Stmt:=zaa (top 23) 16
abbrev zdZ:Stmt:=zaa (top 23) 17
abbrev zdF:Stmt:=zaa (top 23) 18
abbrev zc4:Stmt:=zaa (top 101) 0
abbrev zeQ:Stmt:=zaa (top 101) 10
abbrev ze5:Stmt:=zaa (top 101) 11
abbrev zdI:Stmt:=zaa (top 101) 12
abbrev zea:Stmt:=zaa (top 101) 13
abbrev zeL:Stmt:=zaa (top 101) 14
abbrev zd1:Stmt:=zaa (top 101) 15
abbrev zeR:Stmt:=zaa (top 101) 16
abbrev zgc:Stmt:=zaa (top 101) 17
abbrev zeM:Stmt:=zaa (top 101) 18
abbrev zfA:Stmt:=zaa (top 101) 19
abbrev zec:Stmt:=zaa (top 101) 21
abbrev zeY:Stmt:=zaa (top 101) 22
abbrev zfr:Stmt:=zaa (top 101) 23
abbrev zdr:Stmt:=zaa (top 101) 24
abbrev zdH:Stmt:=zaa (top 101) 25
abbrev zc8:Stmt:=zaa (top 101) 26
abbrev zf7:Stmt:=top 25
abbrev zhQ:Stmt:=top 26
abbrev zeI:Stmt:=top 27
abbrev zhe:Stmt:=top 28
abbrev zdw:Stmt:=top 29
abbrev zol:Stmt:=top 31
abbrev zoU:Stmt:=top 32
abbrev zk7:Stmt:=top 33
abbrev zfe:Stmt:=top 34
abbrev zdX:Stmt:=top 35
abbrev ziT:Stmt:=top 38
abbrev zjl:Stmt:=top 39
abbrev zeK:Stmt:=top 40
abbrev zg3:Stmt:=top 41
abbrev zhj:Stmt:=top 42
abbrev znW:Stmt:=top 43
abbrev zje:Stmt:=top 45
abbrev znQ:Stmt:=top 47
abbrev znY:Stmt:=top 48
abbrev zmo:Stmt:=top 49
abbrev zl3:Stmt:=top 50
abbrev zoG:Stmt:=top 51
abbrev zmn:Stmt:=top 52
abbrev zmd:Stmt:=top 53
abbrev zmC:Stmt:=top 54
abbrev zhv:Stmt:=top 55
abbrev zgd:Stmt:=top 57
abbrev zfC:Stmt:=top 58
abbrev zjq:Stmt:=top 60
abbrev zfb:Stmt:=top 61
abbrev zoF:Stmt:=top 63
abbrev zeP:Stmt:=top 64
abbrev zi4:Stmt:=top 65
abbrev zrw:Stmt:=top 66
abbrev zkp:Stmt:=top 68
abbrev zgj:Stmt:=top 69
abbrev zfs:Stmt:=top 70
abbrev zl2:Stmt:=top 71
abbrev zlC:Stmt:=top 72
abbrev zjd:Stmt:=top 74
abbrev zhK:Stmt:=top 75
abbrev zdE:Stmt:=top 76
abbrev zhf:Stmt:=top 77
abbrev zhH:Stmt:=top 78
abbrev zdt:Stmt:=top 79
abbrev zdK:Stmt:=top 80
abbrev zgX:Stmt:=top 81
abbrev zfv:Stmt:=top 82
abbrev zmp:Stmt:=top 83
abbrev ziW:Stmt:=top 84
abbrev zkz:Stmt:=top 86
abbrev zeX:Stmt:=top 87
abbrev zfk:Stmt:=top 88
abbrev zq9:Stmt:=top 90
abbrev zl9:Stmt:=top 92
abbrev zhq:Stmt:=top 94
abbrev zeS:Stmt:=top 96
abbrev zhS:Stmt:=top 97
abbrev zju:Stmt:=top 98
abbrev zf8:Stmt:=top 104
abbrev zga:Stmt:=top 106
abbrev zgg:Stmt:=top 107
abbrev zfy:Stmt:=top 108
abbrev zeO:Stmt:=top 109
abbrev zfu:Stmt:=top 110
abbrev zfG:Stmt:=top 111
abbrev zcI:Stmt:=top 112
abbrev zch:Stmt:=top 113
abbrev zdS:Stmt:=top 114
abbrev zdC:Stmt:=top 115
abbrev zcj:Stmt:=top 116
abbrev zgb:Stmt:=top 117
abbrev zcJ:Stmt:=top 118
abbrev zq2:Stmt:=top 119
def zgz:FnScope ["self", "many", "wares"] ["self", "many", "wares"] (zj zdx):=by walk_at "s"
def zf5:FnScope ["self", "number", "state"] ["self", "number", "state"] (zj zde):=by walk_at "s"
def zf3:FnScope ["self", "member", "numbers", "number"] ["self", "member"] (zj zdg):=by walk_at "s"
def sc_Book_close:FnScope ["self", "numbers", "number"] ["self"] (zj zfi):=by walk_at "s"
def zjP:FnScope ["self"] ["self"] (zj zfa):=by walk_at "s"
def zkm:FnScope ["self", "number"] ["self", "number"] (zj zgh):=by walk_at "s"
def ze6:FnScope ["self", "day"] ["self", "day"] (zj zcP):=by walk_at "s"
def zdi:FnScope ["self", "day", "some"] ["self", "day"] (zj zdA):=by walk_at "s"
def sc_Book_entries:FnScope ["self", "member", "made", "number", "one"] ["self", "member"] (zj zdZ):=by walk_at "s"
def sc_Book_position:FnScope ["self", "member", "made", "one"] ["self", "member"] (zj zdF):=by walk_at "s"
def zfY:FnScope ["self", "members", "moves", "rule", "order", "own"] ["self", "members", "moves", "rule", "order", "own"] (zj zc4):=by walk_at "s"
def sc_House_close:FnScope ["self", "day", "sheet", "told", "made", "member"] ["self"] (zj zeQ):=by walk_at "s"
def sc_House_bear:FnScope ["self", "rows", "word", "given", "borne", "there", "member"] ["self", "rows"] (zj ze5):=by walk_at "s"
def zgA:FnScope ["self", "ends"] ["self", "ends"] (zj zdI):=by walk_at "s"
def zg5:FnScope ["self", "day"] ["self", "day"] (zj zea):=by walk_at "s"
def ziq:FnScope ["self", "member"] ["self", "member"] (zj zeL):=by walk_at "s"
def zhr:FnScope ["self", "member"] ["self", "member"] (zj zd1):=by walk_at "s"
def zh8:FnScope ["self", "member"] ["self", "member"] (zj zeR):=by walk_at "s"
def zkV:FnScope ["self"] ["self"] (zj zgc):=by walk_at "s"
def zh3:FnScope ["self"] ["self"] (zj zeM):=by walk_at "s"
def zjJ:FnScope ["self", "member"] ["self", "member"] (zj zfA):=by walk_at "s"
def zhO:FnScope ["self", "member"] ["self", "member"] (zj zec):=by walk_at "s"
def zib:FnScope ["self"] ["self"] (zj zeY):=by walk_at "s"
def zjV:FnScope ["self", "number"] ["self", "number"] (zj zfr):=by walk_at "s"
def zf6:FnScope ["self", "day"] ["self", "day"] (zj zdr):=by walk_at "s"
def zgv:FnScope ["self", "member"] ["self", "member"] (zj zdH):=by walk_at "s"
def zf4:FnScope ["self", "member"] ["self", "member"] (zj zc8):=by walk_at "s"
def zb3:FnScope ["coins", "bounds", "together", "borne", "broken"] ["coins", "bounds"] (zj zf7):=by walk_at "s"
def zcD:FnScope ["coins", "bounds", "level", "borne", "above"] ["coins", "bounds"] (zj zhQ):=by walk_at "s"
def ziD:FnScope ["coins", "bounds"] ["coins", "bounds"] (zj zeI):=by walk_at "s"
def sc_level_of:FnScope ["coins", "bounds", "rest", "bearers", "bound"] ["coins", "bounds"] (zj zhe):=by walk_at "s"
def sc_with_one_more:FnScope ["borne", "chosen", "left_over", "made", "rest", "number", "coins"] ["borne", "chosen", "left_over"] (zj zdw):=by walk_at "s"
def sc_owes:FnScope ["many", "sheet", "sums", "payer", "payee", "rank", "amount"] ["many", "sheet"] (zj zol):=by walk_at "s"
def sc_nets:FnScope ["many", "sheet", "sums", "payer", "payee", "rank", "amount"] ["many", "sheet"] (zj zoU):=by walk_at "s"
def sc_ranked:FnScope ["many", "sheet", "sums", "payer", "payee", "rank", "amount"] ["many", "sheet"] (zj zk7):=by walk_at "s"
def zjQ:FnScope ["sheet"] ["sheet"] (zj zfe):=by walk_at "s"
def zhd:FnScope ["sheet", "amounts"] ["sheet", "amounts"] (zj zdX):=by walk_at "s"
def zhM:FnScope ["sheet", "purses", "sums"] ["sheet", "purses"] (zj ziT):=by walk_at "s"
def sc_layered:FnScope ["order", "gaps", "pledges", "shares", "own", "rests", "shares_left", "rows", "word", "borne", "given"] ["order", "gaps", "pledges", "shares", "own"] (zj zjl):=by walk_at "s"
def sc_check_order:FnScope ["order", "place", "word"] ["order"] (zj zeK):=by walk_at "s"
def sc_borne_in:FnScope ["word", "rests", "pledges", "shares", "own", "whole", "bounds", "coins"] ["word", "rests", "pledges", "shares", "own", "whole"] (zj zg3):=by walk_at "s"
def zlR:FnScope ["word", "rests", "borne"] ["word", "rests", "borne"] (zj zhj):=by walk_at "s"
def zsI:FnScope ["some", "off"] ["some", "off"] (zj znW):=by walk_at "s"
def zby:FnScope ["one", "other", "kept", "rest", "further"] ["one", "other"] (zj zje):=by walk_at "s"
def zie:FnScope ["top", "bottom", "common"] ["top", "bottom"] (zj znQ):=by walk_at "s"
def zfT:FnScope ["one", "other", "shared", "top", "common"] ["one", "other"] (zj znY):=by walk_at "s"
def zqe:FnScope ["one", "other"] ["one", "other"] (zj zmo):=by walk_at "s"
def zc1:FnScope ["one", "other", "down", "across", "top", "bottom"] ["one", "other"] (zj zl3):=by walk_at "s"
def zsM:FnScope ["one", "other"] ["one", "other"] (zj zoG):=by walk_at "s"
def zpv:FnScope ["one", "other"] ["one", "other"] (zj zmn):=by walk_at "s"
def zqU:FnScope ["one", "other"] ["one", "other"] (zj zmd):=by walk_at "s"
def sc_total:FnScope ["some", "added", "each"] ["some"] (zj zmC):=by walk_at "s"
def zly:FnScope ["one"] ["one"] (zj zhv):=by walk_at "s"
def zki:FnScope ["position", "moves"] ["position", "moves"] (zj zgd):=by walk_at "s"
def zeN:FnScope ["position", "moves", "k", "losses"] ["position", "moves", "k"] (zj zfC):=by walk_at "s"
def zb2:FnScope ["rule", "position", "moves", "losses", "worst", "need"] ["rule", "position", "moves"] (zj zjq):=by walk_at "s"
def zjF:FnScope ["rule", "moves"] ["rule", "moves"] (zj zfb):=by walk_at "s"
def zik:FnScope ["sheet", "lays", "owed", "shares"] ["sheet", "lays"] (zj zoF):=by walk_at "s"
def sc_shares_paid:FnScope ["owed", "lay", "shares", "rest", "here", "laid"] ["owed", "lay"] (zj zeP):=by walk_at "s"
def sc_stop_of:FnScope ["owed", "lay", "end", "rank", "here"] ["owed", "lay"] (zj zi4):=by walk_at "s"
def sc_got:FnScope ["sheet", "lays", "gains", "number", "gain"] ["sheet", "lays"] (zj zrw):=by walk_at "s"
def sc_solved:FnScope ["rows", "right", "count", "table", "before", "place"] ["rows", "right"] (zj zkp):=by walk_at "s"
def zk4:FnScope ["row", "common", "top", "bottom"] ["row"] (zj zgj):=by walk_at "s"
def zjG:FnScope ["table", "place", "found", "swapped"] ["table", "place"] (zj zfs):=by walk_at "s"
def zqn:FnScope ["table", "place", "before", "sweeper", "made", "number", "row"] ["table", "place", "before"] (zj zl2):=by walk_at "s"
def sc_cleared:FnScope ["sheet", "purses", "owed", "lays", "opened", "ranks", "flows", "circle", "rates", "step", "shut"] ["sheet", "purses"] (zj zjd):=by walk_at "s"
def sc_flows_of:FnScope ["sheet", "ranks", "flows", "payer", "payee", "rank", "amount"] ["sheet", "ranks"] (zj zhK):=by walk_at "s"
def sc_closed_circle:FnScope ["flows", "ranks", "circles", "member", "reached"] ["flows", "ranks"] (zj zdE):=by walk_at "s"
def sc_reach_of:FnScope ["flows", "member", "reached", "place", "here"] ["flows", "member"] (zj zhf):=by walk_at "s"
def sc_balances:FnScope ["flows", "members", "rows", "place", "member"] ["flows", "members"] (zj zhH):=by walk_at "s"
def zf0:FnScope ["flows", "circle", "rows", "right"] ["flows", "circle"] (zj zdt):=by walk_at "s"
def sc_opening_rates:FnScope ["flows", "ranks", "purses", "short", "right"] ["flows", "ranks", "purses"] (zj zdK):=by walk_at "s"
def sc_rates_of:FnScope ["flows", "members", "shares", "rates", "place", "member"] ["flows", "members", "shares"] (zj zgX):=by walk_at "s"
def sc_least_room:FnScope ["owed", "ranks", "lays", "rates", "room", "member", "rate", "end", "here"] ["owed", "ranks", "lays", "rates"] (zj zfv):=by walk_at "s"
def zp7:FnScope ["lays", "rates", "step"] ["lays", "rates", "step"] (zj zmp):=by walk_at "s"
def zhI:FnScope ["sheet", "purses", "lays", "gains"] ["sheet", "purses", "lays"] (zj ziW):=by walk_at "s"
def sc_a_ring:FnScope ["many", "sheet", "onward", "going", "payers", "member"] ["many", "sheet"] (zj zkz):=by walk_at "s"
def sc_ways_onward:FnScope ["many", "sheet", "going", "onward", "turn"] ["many", "sheet"] (zj zeX):=by walk_at "s"
def sc_dues_among:FnScope ["sheet", "going", "onward", "number", "due"] ["sheet", "going"] (zj zfk):=by walk_at "s"
def sc_cut:FnScope ["many", "sheet", "left", "cuts", "ring", "fewest", "number"] ["many", "sheet"] (zj zq9):=by walk_at "s"
def zlc:FnScope ["sheet", "lays", "owed"] ["sheet", "lays"] (zj zl9):=by walk_at "s"
def sc_safe_cut:FnScope ["sheet", "purses", "ranks", "free", "amounts", "within", "left"] ["sheet", "purses"] (zj zhq):=by walk_at "s"
def zaD:FnScope ["sheet", "purses", "pledges", "shares", "own", "order", "gaps", "told", "means", "left", "after", "lays", "ends"] ["sheet", "purses", "pledges", "shares", "own", "order"] (zj zeS):=by walk_at "s"
def zlM:FnScope ["purses", "rows"] ["purses", "rows"] (zj zhS):=by walk_at "s"
def zhx:FnScope ["sheet", "lays", "owed"] ["sheet", "lays"] (zj zju):=by walk_at "s"
def zll:FnScope ["told"] ["told"] (zj zf8):=by walk_at "s"
def zkd:FnScope ["_law_script", "_law_k"] ["_law_script", "_law_k"] (zj zga):=by walk_at "s"
def zlo:FnScope ["_law_script", "_law_k", "_law_many"] ["_law_script", "_law_k", "_law_many"] (zj zgg):=by walk_at "s"
def zjS:FnScope ["_law_script", "_law_k", "_law_many"] ["_law_script", "_law_k", "_law_many"] (zj zfy):=by walk_at "s"
def zdU:FnScope ["_law_script", "_law_k", "_law_most", "_law_way"] ["_law_script", "_law_k", "_law_most"] (zj zeO):=by walk_at "s"
def sc__law_order:FnScope ["_law_script", "_law_start", "_law_words", "_law_order_here", "_law_k"] ["_law_script", "_law_start"] (zj zfu):=by walk_at "s"
def sc__law_moves:FnScope ["_law_script", "_law_start", "_law_days", "_law_wares", "_law_moves_here", "_law_day", "_law_row", "_law_ware", "_law_at"] ["_law_script", "_law_start", "_law_days", "_law_wares"] (zj zfG):=by walk_at "s"
def zcl:FnScope ["_law_script", "_law_at", "_law_rule", "_law_days", "_law_way"] ["_law_script", "_law_at", "_law_rule", "_law_days"] (zj zcI):=by walk_at "s"
def zaX:FnScope ["_law_script", "_law_at", "_law_order_here", "_law_word", "_law_here"] ["_law_script", "_law_at", "_law_order_here"] (zj zch):=by walk_at "s"
def sc__law_refused:FnScope ["_law_members", "_law_moves_here", "_law_rule", "_law_order_here", "_law_own", "_law_found", "e"] ["_law_members", "_law_moves_here", "_law_rule", "_law_order_here", "_law_own"] (zj zdS):=by walk_at "s"
def zgL:FnScope ["_law_told", "_law_due"] ["_law_told", "_law_due"] (zj zdC):=by walk_at "s"
def zeB:FnScope ["_law_house", "_law_k", "_law_member", "_law_wares"] ["_law_house", "_law_k", "_law_member", "_law_wares"] (zj zcj):=by walk_at "s"
def sc__law_none:FnScope ["_law_house", "_law_number", "_law_found", "e"] ["_law_house", "_law_number"] (zj zgb):=by walk_at "s"
def sc__law_house_right:FnScope ["_law_house", "_law_members", "_law_own", "_law_wares", "_law_k", "_law_coins"] ["_law_house", "_law_members", "_law_own", "_law_wares"] (zj zcJ):=by walk_at "s"
def sc_law:FnScope ["_law_script", "_law_members", "_law_k", "_law_purse", "_law_pledge", "_law_wares", "_law_days", "_law_moves_here", "_law_rule", "_law_order_here", "_law_own", "_law_bad_rule", "_law_bad_order", "_law_asked", "_law_due", "_law_handed", "_law_house", "_law_row"] ["_law_script"] (zj zq2):=by walk_at "s"
def ziI{α:Type}{us:List α}(h:us.length=0):us=[]:=yaE h
def za7{α:Type}{us:List α}(h:us.length=n+1):∃a vs,us=a :: vs/\vs.length=n:=by
 cases us with
 | nil=>cases h
 | cons a vs=>exact⟨a,vs,rfl,Nat.succ.inj h⟩
def len1{α:Type}{us:List α}(h:us.length=1):∃a,us=[a]:=by
 obtain⟨a,c,rfl,b⟩:=za7 h;obtain rfl:=ziI b;exact⟨a,rfl⟩
def len2{α:Type}{us:List α}(h:us.length=2):∃a a1,us=[a,a1]:=by
 obtain⟨a,c,rfl,b⟩:=za7 h;obtain⟨a1,d,rfl,h1⟩:=za7 b;obtain rfl:=ziI h1;exact⟨a,a1,rfl⟩
def len3{α:Type}{us:List α}(h:us.length=3):∃a a1 a2,us=[a,a1,a2]:=by
 obtain⟨a,d,rfl,c⟩:=za7 h;obtain⟨a1,e,rfl,h1⟩:=za7 c;obtain⟨a2,b,rfl,h2⟩:=za7 h1;obtain rfl:=ziI h2;exact⟨a,a1,a2,rfl⟩
def len4{α:Type}{us:List α}(h:us.length=4):∃a a1 a2 b,us=[a,a1,a2,b]:=by
 obtain⟨a,e,rfl,d⟩:=za7 h;obtain⟨a1,i,rfl,h1⟩:=za7 d;obtain⟨a2,c,rfl,h2⟩:=za7 h1;obtain⟨b,f,rfl,g⟩:=za7 h2;obtain rfl:=ziI g;exact⟨a,a1,a2,b,rfl⟩
def len5{α:Type}{us:List α}(h:us.length=5):∃b a1 a2 c a,us=[b,a1,a2,c,a]:=by
 obtain⟨b,j,rfl,d⟩:=za7 h;obtain⟨a1,k,rfl,h1⟩:=za7 d;obtain⟨a2,i,rfl,h2⟩:=za7 h1;obtain⟨c,e,rfl,g⟩:=za7 h2;obtain⟨a,f,rfl,l⟩:=za7 g;obtain rfl:=ziI l;exact⟨b,a1,a2,c,a,rfl⟩
def len6{α:Type}{us:List α}(h:us.length=6):∃b a1 a2 c a d,us=[b,a1,a2,c,a,d]:=by
 obtain⟨b,k,rfl,e⟩:=za7 h;obtain⟨a1,m,rfl,h1⟩:=za7 e;obtain⟨a2,j,rfl,h2⟩:=za7 h1;obtain⟨c,f,rfl,i⟩:=za7 h2;obtain⟨a,g,rfl,n⟩:=za7 i;obtain⟨d,o,rfl,l⟩:=za7 n;obtain rfl:=ziI l;exact⟨b,a1,a2,c,a,d,rfl⟩
structure Dfn(K:Fg)(mg:Str->Option Value)(x qual:Str)(st:Stmt)(ps:List Str) where
 a:Addr
 fd:FuncData
 F:Fun K x qual st a fd
 b:Binds K fd ps []
 m:mg x=some (.ref a)
abbrev Dfn.Ok(D:Dfn K mg x qual st ps)(P:Program)(w:World)(base:Heap)(k:Nat)(sp:Sp):Prop:=FnOk P w K mg base (CXF P w) k D.a D.fd ps sp
structure DfnM(K:Fg)(C:Addr)(x qual:Str)(st:Stmt)(ps:List Str) where
 a:Addr
 fd:FuncData
 F:Fun K x qual st a fd
 b:Binds K fd ps []
 mt:Meth K C x a
abbrev DfnM.Ok(D:DfnM K C x qual st ps)(P:Program)(w:World)(mg:Str->Option Value)(base:Heap)(k:Nat)(sp:Sp):Prop:=FnOk P w K mg base (CXF P w) k D.a D.fd ps sp
def qD{t:TA}{p pos:Pos}(D:Dfn X.K X.mg x qual st ps)(F:FnOk X.prog X.w X.K X.mg X.base (CXF X.prog X.w) k D.a D.fd ps sp)(g:Room j X.A)(h:PA X (e :: es) t)(hle:autoParam (k<=j) Internal.aut1._auto_1)(i:autoParam (Gl X x) Internal.aut2._auto_1)(d:autoParam ((x == ("__debug__" : Str))=false) Internal.aut1._auto_1)(f:autoParam (starEach (e :: es) X.env=(false,eval e X.env) :: starEach es X.env) Internal.aut2._auto_1)(c:autoParam ((backTo pos (starEach es X.env)).any (·.1)=false) Internal.aut2._auto_1):PE X (.Call (.Name x p) (e :: es) [] pos) (zhm sp [] E0 t):=zh5 F (g.mono hle) i D.m D.F.kp D.b .nil (zao zal) h d f c
def qE{d:Fg}{c:Str}{f:Addr}{g:Value}{t:TA}{p pos:Pos}(D:Dfn d mg x qual st ps)(F:FnOk P w d mg base (CXF P w) k D.a D.fd ps sp)(n:Room j (zat (CXF P w) P w d mg base N c scope f g A outer s H E).A)(o:PA (zat (CXF P w) P w d mg base N c scope f g A outer s H E) (e :: es) t)(hle:autoParam (k<=j) Internal.aut1._auto_1)(q:autoParam (Gl (zat (CXF P w) P w d mg base N c scope f g A outer s H E) x) Internal.aut2._auto_1)(i:autoParam ((x == ("__debug__" : Str))=false) Internal.aut1._auto_1)(l:autoParam (starEach (e :: es) (zat (CXF P w) P w d mg base N c scope f g A outer s H E).env=(false,eval e (zat (CXF P w) P w d mg base N c scope f g A outer s H E).env) :: starEach es (zat (CXF P w) P w d mg base N c scope f g A outer s H E).env) Internal.aut2._auto_1)(h:autoParam ((backTo pos (starEach es (zat (CXF P w) P w d mg base N c scope f g A outer s H E).env)).any (·.1)=false) Internal.aut2._auto_1):PE (zat (CXF P w) P w d mg base N c scope f g A outer s H E) (.Call (.Name x p) (e :: es) [] pos) (zhm sp [] E t):=zh5 F (n.mono hle) q D.m D.F.kp D.b .nil zn7 o i l h
structure GI(mg:Str->Option Value)(x:Str)(c:Int) where
 t:Tok
 h:mg x=some (.int c t)
structure Txt(K:Fg)(mg:Str->Option Value) where
 c_Bare:Addr
 m_Bare:mg "Bare" = some (.ref c_Bare)
 c_NoAnswer:Addr
 m_NoAnswer:mg "NoAnswer" = some (.ref c_NoAnswer)
 c_NoDeal:Addr
 m_NoDeal:mg "NoDeal" = some (.ref c_NoDeal)
 c_NoLayer:Addr
 m_NoLayer:mg "NoLayer" = some (.ref c_NoLayer)
 c_NoPart:Addr
 m_NoPart:mg "NoPart" = some (.ref c_NoPart)
 c_NoRule:Addr
 m_NoRule:mg "NoRule" = some (.ref c_NoRule)
 c_QuitsError:Addr
 m_QuitsError:mg "QuitsError" = some (.ref c_QuitsError)
 c_TooMuch:Addr
 m_TooMuch:mg "TooMuch" = some (.ref c_TooMuch)
 c_Unclosed:Addr
 m_Unclosed:mg "Unclosed" = some (.ref c_Unclosed)
 e_NoAnswer:errOk K c_NoAnswer=true
 i_NoAnswer_Bare:PySem.W.kitOne K (.ref c_NoAnswer) (.ref c_Bare)=some false
 i_NoAnswer_NoAnswer:PySem.W.kitOne K (.ref c_NoAnswer) (.ref c_NoAnswer)=some true
 i_NoAnswer_NoDeal:PySem.W.kitOne K (.ref c_NoAnswer) (.ref c_NoDeal)=some false
 i_NoAnswer_NoLayer:PySem.W.kitOne K (.ref c_NoAnswer) (.ref c_NoLayer)=some false
 i_NoAnswer_NoPart:PySem.W.kitOne K (.ref c_NoAnswer) (.ref c_NoPart)=some false
 i_NoAnswer_NoRule:PySem.W.kitOne K (.ref c_NoAnswer) (.ref c_NoRule)=some false
 i_NoAnswer_QuitsError:PySem.W.kitOne K (.ref c_NoAnswer) (.ref c_QuitsError)=some true
 i_NoAnswer_TooMuch:PySem.W.kitOne K (.ref c_NoAnswer) (.ref c_TooMuch)=some false
 i_NoAnswer_Unclosed:PySem.W.kitOne K (.ref c_NoAnswer) (.ref c_Unclosed)=some false
 i_NoAnswer_ValueError:PySem.W.kitOne K (.ref c_NoAnswer) (.type "ValueError")=some true
 q_NoAnswer_QuitsError:PySem.W.exmOne K (.ref c_NoAnswer) (.ref c_QuitsError)=some true
 e_NoDeal:errOk K c_NoDeal=true
 i_NoDeal_Bare:PySem.W.kitOne K (.ref c_NoDeal) (.ref c_Bare)=some false
 i_NoDeal_NoAnswer:PySem.W.kitOne K (.ref c_NoDeal) (.ref c_NoAnswer)=some false
 i_NoDeal_NoDeal:PySem.W.kitOne K (.ref c_NoDeal) (.ref c_NoDeal)=some true
 i_NoDeal_NoLayer:PySem.W.kitOne K (.ref c_NoDeal) (.ref c_NoLayer)=some false
 i_NoDeal_NoPart:PySem.W.kitOne K (.ref c_NoDeal) (.ref c_NoPart)=some false
 i_NoDeal_NoRule:PySem.W.kitOne K (.ref c_NoDeal) (.ref c_NoRule)=some false
 i_NoDeal_QuitsError:PySem.W.kitOne K (.ref c_NoDeal) (.ref c_QuitsError)=some true
 i_NoDeal_TooMuch:PySem.W.kitOne K (.ref c_NoDeal) (.ref c_TooMuch)=some false
 i_NoDeal_Unclosed:PySem.W.kitOne K (.ref c_NoDeal) (.ref c_Unclosed)=some false
 i_NoDeal_ValueError:PySem.W.kitOne K (.ref c_NoDeal) (.type "ValueError")=some true
 q_NoDeal_QuitsError:PySem.W.exmOne K (.ref c_NoDeal) (.ref c_QuitsError)=some true
 e_NoLayer:errOk K c_NoLayer=true
 i_NoLayer_Bare:PySem.W.kitOne K (.ref c_NoLayer) (.ref c_Bare)=some false
 i_NoLayer_NoAnswer:PySem.W.kitOne K (.ref c_NoLayer) (.ref c_NoAnswer)=some false
 i_NoLayer_NoDeal:PySem.W.kitOne K (.ref c_NoLayer) (.ref c_NoDeal)=some false
 i_NoLayer_NoLayer:PySem.W.kitOne K (.ref c_NoLayer) (.ref c_NoLayer)=some true
 i_NoLayer_NoPart:PySem.W.kitOne K (.ref c_NoLayer) (.ref c_NoPart)=some false
 i_NoLayer_NoRule:PySem.W.kitOne K (.ref c_NoLayer) (.ref c_NoRule)=some false
 i_NoLayer_QuitsError:PySem.W.kitOne K (.ref c_NoLayer) (.ref c_QuitsError)=some true
 i_NoLayer_TooMuch:PySem.W.kitOne K (.ref c_NoLayer) (.ref c_TooMuch)=some false
 i_NoLayer_Unclosed:PySem.W.kitOne K (.ref c_NoLayer) (.ref c_Unclosed)=some false
 i_NoLayer_ValueError:PySem.W.kitOne K (.ref c_NoLayer) (.type "ValueError")=some true
 q_NoLayer_QuitsError:PySem.W.exmOne K (.ref c_NoLayer) (.ref c_QuitsError)=some true
 e_NoPart:errOk K c_NoPart=true
 i_NoPart_Bare:PySem.W.kitOne K (.ref c_NoPart) (.ref c_Bare)=some false
 i_NoPart_NoAnswer:PySem.W.kitOne K (.ref c_NoPart) (.ref c_NoAnswer)=some false
 i_NoPart_NoDeal:PySem.W.kitOne K (.ref c_NoPart) (.ref c_NoDeal)=some false
 i_NoPart_NoLayer:PySem.W.kitOne K (.ref c_NoPart) (.ref c_NoLayer)=some false
 i_NoPart_NoPart:PySem.W.kitOne K (.ref c_NoPart) (.ref c_NoPart)=some true
 i_NoPart_NoRule:PySem.W.kitOne K (.ref c_NoPart) (.ref c_NoRule)=some false
 i_NoPart_QuitsError:PySem.W.kitOne K (.ref c_NoPart) (.ref c_QuitsError)=some true
 i_NoPart_TooMuch:PySem.W.kitOne K (.ref c_NoPart) (.ref c_TooMuch)=some false
 i_NoPart_Unclosed:PySem.W.kitOne K (.ref c_NoPart) (.ref c_Unclosed)=some false
 i_NoPart_ValueError:PySem.W.kitOne K (.ref c_NoPart) (.type "ValueError")=some true
 q_NoPart_QuitsError:PySem.W.exmOne K (.ref c_NoPart) (.ref c_QuitsError)=some true
 e_NoRule:errOk K c_NoRule=true
 i_NoRule_Bare:PySem.W.kitOne K (.ref c_NoRule) (.ref c_Bare)=some false
 i_NoRule_NoAnswer:PySem.W.kitOne K (.ref c_NoRule) (.ref c_NoAnswer)=some false
 i_NoRule_NoDeal:PySem.W.kitOne K (.ref c_NoRule) (.ref c_NoDeal)=some false
 i_NoRule_NoLayer:PySem.W.kitOne K (.ref c_NoRule) (.ref c_NoLayer)=some false
 i_NoRule_NoPart:PySem.W.kitOne K (.ref c_NoRule) (.ref c_NoPart)=some false
 i_NoRule_NoRule:PySem.W.kitOne K (.ref c_NoRule) (.ref c_NoRule)=some true
 i_NoRule_QuitsError:PySem.W.kitOne K (.ref c_NoRule) (.ref c_QuitsError)=some true
 i_NoRule_TooMuch:PySem.W.kitOne K (.ref c_NoRule) (.ref c_TooMuch)=some false
 i_NoRule_Unclosed:PySem.W.kitOne K (.ref c_NoRule) (.ref c_Unclosed)=some false
 i_NoRule_ValueError:PySem.W.kitOne K (.ref c_NoRule) (.type "ValueError")=some true
 q_NoRule_QuitsError:PySem.W.exmOne K (.ref c_NoRule) (.ref c_QuitsError)=some true
 e_TooMuch:errOk K c_TooMuch=true
 i_TooMuch_Bare:PySem.W.kitOne K (.ref c_TooMuch) (.ref c_Bare)=some false
 i_TooMuch_NoAnswer:PySem.W.kitOne K (.ref c_TooMuch) (.ref c_NoAnswer)=some false
 i_TooMuch_NoDeal:PySem.W.kitOne K (.ref c_TooMuch) (.ref c_NoDeal)=some false
 i_TooMuch_NoLayer:PySem.W.kitOne K (.ref c_TooMuch) (.ref c_NoLayer)=some false
 i_TooMuch_NoPart:PySem.W.kitOne K (.ref c_TooMuch) (.ref c_NoPart)=some false
 i_TooMuch_NoRule:PySem.W.kitOne K (.ref c_TooMuch) (.ref c_NoRule)=some false
 i_TooMuch_QuitsError:PySem.W.kitOne K (.ref c_TooMuch) (.ref c_QuitsError)=some true
 i_TooMuch_TooMuch:PySem.W.kitOne K (.ref c_TooMuch) (.ref c_TooMuch)=some true
 i_TooMuch_Unclosed:PySem.W.kitOne K (.ref c_TooMuch) (.ref c_Unclosed)=some false
 i_TooMuch_ValueError:PySem.W.kitOne K (.ref c_TooMuch) (.type "ValueError")=some true
 q_TooMuch_QuitsError:PySem.W.exmOne K (.ref c_TooMuch) (.ref c_QuitsError)=some true
 e_Unclosed:errOk K c_Unclosed=true
 i_Unclosed_Bare:PySem.W.kitOne K (.ref c_Unclosed) (.ref c_Bare)=some false
 i_Unclosed_NoAnswer:PySem.W.kitOne K (.ref c_Unclosed) (.ref c_NoAnswer)=some false
 i_Unclosed_NoDeal:PySem.W.kitOne K (.ref c_Unclosed) (.ref c_NoDeal)=some false
 i_Unclosed_NoLayer:PySem.W.kitOne K (.ref c_Unclosed) (.ref c_NoLayer)=some false
 i_Unclosed_NoPart:PySem.W.kitOne K (.ref c_Unclosed) (.ref c_NoPart)=some false
 i_Unclosed_NoRule:PySem.W.kitOne K (.ref c_Unclosed) (.ref c_NoRule)=some false
 i_Unclosed_QuitsError:PySem.W.kitOne K (.ref c_Unclosed) (.ref c_QuitsError)=some true
 i_Unclosed_TooMuch:PySem.W.kitOne K (.ref c_Unclosed) (.ref c_TooMuch)=some false
 i_Unclosed_Unclosed:PySem.W.kitOne K (.ref c_Unclosed) (.ref c_Unclosed)=some true
 i_Unclosed_ValueError:PySem.W.kitOne K (.ref c_Unclosed) (.type "ValueError")=some true
 q_Unclosed_QuitsError:PySem.W.exmOne K (.ref c_Unclosed) (.ref c_QuitsError)=some true
 c_Book:Addr
 m_Book:mg "Book" = some (.ref c_Book)
 cl_Book:Cls K c_Book
 na_Book_day:NoAttr K c_Book "day"
 na_Book_deals:NoAttr K c_Book "deals"
 na_Book_many:NoAttr K c_Book "many"
 na_Book_wares:NoAttr K c_Book "wares"
 c_House:Addr
 m_House:mg "House" = some (.ref c_House)
 cl_House:Cls K c_House
 na_House_book:NoAttr K c_House "book"
 na_House_kept:NoAttr K c_House "kept"
 na_House_moves:NoAttr K c_House "moves"
 na_House_order:NoAttr K c_House "order"
 na_House_outs:NoAttr K c_House "outs"
 na_House_pledges:NoAttr K c_House "pledges"
 na_House_purses:NoAttr K c_House "purses"
 na_House_reports:NoAttr K c_House "reports"
 na_House_rule:NoAttr K c_House "rule"
 na_House_shares:NoAttr K c_House "shares"
 g_AMOUNT:GI mg "AMOUNT" 4
 g_DAY:GI mg "DAY" 5
 g_PAYEE:GI mg "PAYEE" 1
 g_PAYER:GI mg "PAYER" 0
 g_RANK:GI mg "RANK" 6
 g_STATE:GI mg "STATE" 7
 g_UNITS:GI mg "UNITS" 3
 g_WARE:GI mg "WARE" 2
 a_WORDS:Addr
 g_WORDS:mg "WORDS" = some (.ref a_WORDS)
 q_WORDS:∀H:Hp,SqT K H a_WORDS [.str "pledge",.str "share",.str "own",.str "others",.str "level"]
 d_Book___init__:DfnM K c_Book "__init__" "Book.__init__" zdx ["self", "many", "wares"]
 mk_Book:Mk K c_Book d_Book___init__.a
 d_Book_put_state:DfnM K c_Book "put_state" "Book.put_state" zde ["self", "number", "state"]
 d_Book_break_all:DfnM K c_Book "break_all" "Book.break_all" zdg ["self", "member"]
 d_Book_close:DfnM K c_Book "close" "Book.close" zfi ["self"]
 d_Book_today:DfnM K c_Book "today" "Book.today" zfa ["self"]
 d_Book_deal:DfnM K c_Book "deal" "Book.deal" zgh ["self", "number"]
 d_Book_numbers_on:DfnM K c_Book "numbers_on" "Book.numbers_on" zcP ["self", "day"]
 d_Book_sheet_on:DfnM K c_Book "sheet_on" "Book.sheet_on" zdA ["self", "day"]
 d_Book_entries:DfnM K c_Book "entries" "Book.entries" zdZ ["self", "member"]
 d_Book_position:DfnM K c_Book "position" "Book.position" zdF ["self", "member"]
 d_House___init__:DfnM K c_House "__init__" "House.__init__" zc4 ["self", "members", "moves", "rule", "order", "own"]
 mk_House:Mk K c_House d_House___init__.a
 d_House_close:DfnM K c_House "close" "House.close" zeQ ["self"]
 d_House_bear:DfnM K c_House "bear" "House.bear" ze5 ["self", "rows"]
 d_House_pay_out:DfnM K c_House "pay_out" "House.pay_out" zdI ["self", "ends"]
 d_House_report:DfnM K c_House "report" "House.report" zea ["self", "day"]
 d_House_purse:DfnM K c_House "purse" "House.purse" zeL ["self", "member"]
 d_House_pledge:DfnM K c_House "pledge" "House.pledge" zd1 ["self", "member"]
 d_House_share:DfnM K c_House "share" "House.share" zeR ["self", "member"]
 d_House_own:DfnM K c_House "own" "House.own" zgc ["self"]
 d_House_coins:DfnM K c_House "coins" "House.coins" zeM ["self"]
 d_House_need:DfnM K c_House "need" "House.need" zfA ["self", "member"]
 d_House_is_out:DfnM K c_House "is_out" "House.is_out" zec ["self", "member"]
 d_House_today:DfnM K c_House "today" "House.today" zeY ["self"]
 d_House_deal:DfnM K c_House "deal" "House.deal" zfr ["self", "number"]
 d_House_sheet_on:DfnM K c_House "sheet_on" "House.sheet_on" zdr ["self", "day"]
 d_House_entries:DfnM K c_House "entries" "House.entries" zdH ["self", "member"]
 d_House_position:DfnM K c_House "position" "House.position" zc8 ["self", "member"]
 d_by_shares:Dfn K mg "by_shares" "by_shares" zf7 ["coins", "bounds"]
 d_by_level:Dfn K mg "by_level" "by_level" zhQ ["coins", "bounds"]
 d_check_coins:Dfn K mg "check_coins" "check_coins" zeI ["coins", "bounds"]
 d_level_of:Dfn K mg "level_of" "level_of" zhe ["coins", "bounds"]
 d_with_one_more:Dfn K mg "with_one_more" "with_one_more" zdw ["borne", "chosen", "left_over"]
 d_owes:Dfn K mg "owes" "owes" zol ["many", "sheet"]
 d_nets:Dfn K mg "nets" "nets" zoU ["many", "sheet"]
 d_ranked:Dfn K mg "ranked" "ranked" zk7 ["many", "sheet"]
 d_amounts_of:Dfn K mg "amounts_of" "amounts_of" zfe ["sheet"]
 d_with_amounts:Dfn K mg "with_amounts" "with_amounts" zdX ["sheet", "amounts"]
 d_gaps_of:Dfn K mg "gaps_of" "gaps_of" ziT ["sheet", "purses"]
 d_layered:Dfn K mg "layered" "layered" zjl ["order", "gaps", "pledges", "shares", "own"]
 d_check_order:Dfn K mg "check_order" "check_order" zeK ["order"]
 d_borne_in:Dfn K mg "borne_in" "borne_in" zg3 ["word", "rests", "pledges", "shares", "own", "whole"]
 d_given_in:Dfn K mg "given_in" "given_in" zhj ["word", "rests", "borne"]
 d_less:Dfn K mg "less" "less" znW ["some", "off"]
 d_divisor:Dfn K mg "divisor" "divisor" zje ["one", "other"]
 d_part:Dfn K mg "part" "part" znQ ["top", "bottom"]
 d_plus:Dfn K mg "plus" "plus" znY ["one", "other"]
 d_minus:Dfn K mg "minus" "minus" zmo ["one", "other"]
 d_times:Dfn K mg "times" "times" zl3 ["one", "other"]
 d_over:Dfn K mg "over" "over" zoG ["one", "other"]
 d_under:Dfn K mg "under" "under" zmn ["one", "other"]
 d_least:Dfn K mg "least" "least" zmd ["one", "other"]
 d_total:Dfn K mg "total" "total" zmC ["some"]
 d_whole_of:Dfn K mg "whole_of" "whole_of" zhv ["one"]
 d_losses_of:Dfn K mg "losses_of" "losses_of" zgd ["position", "moves"]
 d_worst_days:Dfn K mg "worst_days" "worst_days" zfC ["position", "moves", "k"]
 d_need_of:Dfn K mg "need_of" "need_of" zjq ["rule", "position", "moves"]
 d_check_rule:Dfn K mg "check_rule" "check_rule" zfb ["rule", "moves"]
 d_paid:Dfn K mg "paid" "paid" zoF ["sheet", "lays"]
 d_shares_paid:Dfn K mg "shares_paid" "shares_paid" zeP ["owed", "lay"]
 d_stop_of:Dfn K mg "stop_of" "stop_of" zi4 ["owed", "lay"]
 d_got:Dfn K mg "got" "got" zrw ["sheet", "lays"]
 d_solved:Dfn K mg "solved" "solved" zkp ["rows", "right"]
 d_whole_row:Dfn K mg "whole_row" "whole_row" zgj ["row"]
 d_with_first:Dfn K mg "with_first" "with_first" zfs ["table", "place"]
 d_swept:Dfn K mg "swept" "swept" zl2 ["table", "place", "before"]
 d_swept_row:Dfn K mg "swept_row" "swept_row" zlC ["row", "sweeper", "place", "before"]
 d_cleared:Dfn K mg "cleared" "cleared" zjd ["sheet", "purses"]
 d_flows_of:Dfn K mg "flows_of" "flows_of" zhK ["sheet", "ranks"]
 d_closed_circle:Dfn K mg "closed_circle" "closed_circle" zdE ["flows", "ranks"]
 d_reach_of:Dfn K mg "reach_of" "reach_of" zhf ["flows", "member"]
 d_balances:Dfn K mg "balances" "balances" zhH ["flows", "members"]
 d_circling_rates:Dfn K mg "circling_rates" "circling_rates" zdt ["flows", "circle"]
 d_opening_rates:Dfn K mg "opening_rates" "opening_rates" zdK ["flows", "ranks", "purses"]
 d_rates_of:Dfn K mg "rates_of" "rates_of" zgX ["flows", "members", "shares"]
 d_least_room:Dfn K mg "least_room" "least_room" zfv ["owed", "ranks", "lays", "rates"]
 d_grown:Dfn K mg "grown" "grown" zmp ["lays", "rates", "step"]
 d_ends_by:Dfn K mg "ends_by" "ends_by" ziW ["sheet", "purses", "lays"]
 d_a_ring:Dfn K mg "a_ring" "a_ring" zkz ["many", "sheet"]
 d_ways_onward:Dfn K mg "ways_onward" "ways_onward" zeX ["many", "sheet"]
 d_dues_among:Dfn K mg "dues_among" "dues_among" zfk ["sheet", "going"]
 d_cut:Dfn K mg "cut" "cut" zq9 ["many", "sheet"]
 d_stops:Dfn K mg "stops" "stops" zl9 ["sheet", "lays"]
 d_safe_cut:Dfn K mg "safe_cut" "safe_cut" zhq ["sheet", "purses"]
 d_settled_day:Dfn K mg "settled_day" "settled_day" zeS ["sheet", "purses", "pledges", "shares", "own", "order"]
 d_means_of:Dfn K mg "means_of" "means_of" zhS ["purses", "rows"]
 d_outs_of:Dfn K mg "outs_of" "outs_of" zju ["sheet", "lays"]
 d_as_tuples:Dfn K mg "as_tuples" "as_tuples" zf8 ["told"]
 d__law_cell:Dfn K mg "_law_cell" "_law_cell" zga ["_law_script", "_law_k"]
 d__law_draw:Dfn K mg "_law_draw" "_law_draw" zgg ["_law_script", "_law_k", "_law_many"]
 d__law_great:Dfn K mg "_law_great" "_law_great" zfy ["_law_script", "_law_k", "_law_many"]
 d__law_amount:Dfn K mg "_law_amount" "_law_amount" zeO ["_law_script", "_law_k", "_law_most"]
 d__law_order:Dfn K mg "_law_order" "_law_order" zfu ["_law_script", "_law_start"]
 d__law_moves:Dfn K mg "_law_moves" "_law_moves" zfG ["_law_script", "_law_start", "_law_days", "_law_wares"]
 d__law_spoilt_rule:Dfn K mg "_law_spoilt_rule" "_law_spoilt_rule" zcI ["_law_script", "_law_at", "_law_rule", "_law_days"]
 d__law_spoilt_order:Dfn K mg "_law_spoilt_order" "_law_spoilt_order" zch ["_law_script", "_law_at", "_law_order_here"]
 d__law_refused:Dfn K mg "_law_refused" "_law_refused" zdS ["_law_members", "_law_moves_here", "_law_rule", "_law_order_here", "_law_own"]
 d__law_whole_is:Dfn K mg "_law_whole_is" "_law_whole_is" zdC ["_law_told", "_law_due"]
 d__law_member_right:Dfn K mg "_law_member_right" "_law_member_right" zcj ["_law_house", "_law_k", "_law_member", "_law_wares"]
 d__law_none:Dfn K mg "_law_none" "_law_none" zgb ["_law_house", "_law_number"]
 d__law_house_right:Dfn K mg "_law_house_right" "_law_house_right" zcJ ["_law_house", "_law_members", "_law_own", "_law_wares"]
 d_law:Dfn K mg "law" "law" zq2 ["_law_script"]
 cw_worst_days:Addr
 tw_worst_days:Addr
 tb_worst_days:PySem.W.tabIn K "worst_days" = some (cw_worst_days,tw_worst_days)
 cc_worst_days:d_worst_days.fd.code=.ref cw_worst_days
 bl_law:∀(s:Shared) (v:Value),BindsTo s d_law.fd ⟨[v],[]⟩ [("_law_script",v)]
 z_ValueError:mg "ValueError" = none
 z_abs:mg "abs" = none
 z_all:mg "all" = none
 z_bool:mg "bool" = none
 z_enumerate:mg "enumerate" = none
 z_int:mg "int" = none
 z_isinstance:mg "isinstance" = none
 z_len:mg "len" = none
 z_list:mg "list" = none
 z_max:mg "max" = none
 z_min:mg "min" = none
 z_range:mg "range" = none
 z_sorted:mg "sorted" = none
 z_sum:mg "sum" = none
 z_tuple:mg "tuple" = none
 z_zip:mg "zip" = none
noncomputable def mkD {K:Fg} {h:Heap} {mg:Str->Option Value} (X:K.In h) (G:h.Ns mainGlobals mg) {x qual:Str} {st:Stmt} {ps:List Str} {f:Addr} {n kV j e g ct:Value} {od d:Option Addr} {i:Array (Option Value)} (a:PySem.W.nsIn K mainGlobals x=some (some (.ref f))) (l:K.lookup f=some ⟨n,od,.func (PySem.W.fnOf x qual (zbT st) (zbe st) (zj st) .none kV j e d g ct),i⟩) (c:PySem.W.codeIn K g qual=true) (k:PySem.W.keepIn K (.ref f)=true) (b:∀(kV doc e:Value) (d:Option Addr) (cdv ct:Value) (us:List Value),us.length=ps.length->bindArgs (PySem.W.fnOf x qual (zbT st) (zbe st) (zj st) .none kV doc e d cdv ct) ⟨us,[]⟩=pure (ps.zip us)):Dfn K mg x qual st ps:={ a:=f,fd:=_,F:=zhz (st:=st) l c k,b:=(zhz (st:=st) l c k).binds b,m:=yU X G a }
noncomputable def mkM {K:Fg} {C:Addr} {x qual:Str} {st:Stmt} {ps:List Str} {f:Addr} {m kV j e g ct:Value} {od d:Option Addr} {h:Array (Option Value)} (a:PySem.W.findIn K (.ref C) x=some (some (.ref f))) (i:PySem.W.isFn K (.ref f)=true) (l:K.lookup f=some ⟨m,od,.func (PySem.W.fnOf x qual (zbT st) (zbe st) (zj st) .none kV j e d g ct),h⟩) (c:PySem.W.codeIn K g qual=true) (k:PySem.W.keepIn K (.ref f)=true) (b:∀(kV doc e:Value) (d:Option Addr) (cdv ct:Value) (us:List Value),us.length=ps.length->bindArgs (PySem.W.fnOf x qual (zbT st) (zbe st) (zj st) .none kV doc e d cdv ct) ⟨us,[]⟩=pure (ps.zip us)):DfnM K C x qual st ps:={ a:=f,fd:=_,F:=zhz (st:=st) l c k,b:=(zhz (st:=st) l c k).binds b,mt:=⟨a,i,k⟩ }
def mkQ_WORDS{w:Addr}{od:Option Addr}{a:Array (Option Value)}{k0 k1 k2 k3 b:Tok}(o:K.lookup w=some ⟨.type "tuple",od,.seq #[.str "pledge" k0,.str "share" k1,.str "own" k2,.str "others" k3,.str "level" b] n,a⟩)(H:Hp):SqT K H w [.str "pledge",.str "share",.str "own",.str "others",.str "level"]:=.inr ⟨_,_,_,o,rfl,rfl,(by show 5<=_;rw[sizeLine_eq];decide),(.cons ⟨_,rfl⟩ (.cons ⟨_,rfl⟩ (.cons ⟨_,rfl⟩ (.cons ⟨_,rfl⟩ (.cons ⟨_,rfl⟩ .nil)))))⟩
noncomputable def mkI {K:Fg} {h:Heap} {mg:Str->Option Value} (X:K.In h) (G:h.Ns mainGlobals mg) {x:Str} {c:Int} {t:Tok} (g:PySem.W.nsIn K mainGlobals x=some (some (.int c t))):GI mg x c:=⟨t,yU X G g⟩
section
variable {P:Program}{w:World}{K:Fg}{mg:Str->Option Value}{base:Heap}[TabX K mg base "worst_days"]
abbrev lP:Pos:=⟨275,42,275,73⟩
abbrev lQ:Str:=("worst_days" : Str) ++ ".<locals>." ++ "<lambda>"
theorem zeW(T:Txt K mg):∀l:Nat,FnOk P w K mg base (CXF P w) l T.d_as_tuples.a T.d_as_tuples.fd ["told"] (zq1 K l)
 | 0=>⟨λvs H Q E h=>(by obtain⟨_,_,_,_,h,_⟩:=h;exact absurd h (yB _)),λA outer s H args us vs Q E _ _ _ _ h=>(by obtain⟨_,_,_,_,h,_⟩:=h;exact absurd h (yB _))⟩
 | l+1=>by
  have O:=zeW T l;refine T.d_as_tuples.F.okN zll (by walk_at "l") λa0 A outer s H vs Q E hr h=>?_;obtain⟨x,t,d,rfl,hd,ht,hok,k1,k2,k3,G,k⟩:=h;have Z:=hr;refine⟨_,(ze (zI (zaq K (zax (show CallR _ _ (zq4 K)from zoP) rfl T.z_isinstance BT.isinstance (za (pv 0) (za (zE (za (zcw (v:=.ty "list") rfl T.z_list BT.list rfl) (za (zcw (v:=.ty "tuple") rfl T.z_tuple BT.tuple rfl) zd))) zd))))
 (zi (zm (zfl (show CallR _ _ (zgB K)from zlS) rfl T.z_tuple BT.tuple (za (qC1 ["each"] [none] (show PI _ _ _ (zqA K _)from zsY (pv 0)) (λ_ _ _ _ _=>(zh5 O Z rfl T.d_as_tuples.m T.d_as_tuples.F.kp T.d_as_tuples.b .nil (zao zal) (za (pv 0) zd)))) zd))))
 zD)
 (zi (zm (pv 0)))),?_⟩
  refine zp (σ0:=[some (x)]) rfl ?_;walk_at "x";refine zaA (by first | decide | simp) λtp H1 a1 e1 n=>?_;have a2:=ht.same e1;cases ht with
  | int i=>
   refine⟨_,tp,false,rfl,n,rfl,k1,k2,k3,G,?_⟩;walk_at "x";exact k _ _ e1 (.int i)
  | str s=>
   refine⟨_,tp,false,rfl,n,rfl,k1,k2,k3,G,?_⟩;walk_at "x";exact k _ _ e1 (.str s)
  | @lst a xs ts ea hxs=>
   obtain⟨d1,L,c⟩:=hok;have B:=hxs.len;refine⟨_,tp,true,rfl,n,⟨rfl,xs,.inl (e1.at ea)⟩,k1,k2,k3,G,?_⟩;walk_at "x";refine zrf ?_;walk_at "x";refine⟨a,rfl,.inl ⟨⟨xs,SqL.of (e1.at ea)⟩,?_⟩⟩;refine zH (zO (K:=K) (a:=a) (xs:=xs)) (λH' e=>SqL.of (e.at (e1.at ea))) rfl (λi vs H'=>IsTps H' vs (ts.take i)) (λH' _=>.nil) ?_ ?_
   ·rintro i y D vs o S U hi N r M f j g X;obtain⟨u,J,C⟩:=hxs.get X;walk_at "x";refine⟨y,u,d-1,rfl,⋯,C.same (e1.trans (r.trans g)),ziv c J,k1,k2,k3,G,λz H5 W V=>?_⟩;have I:vs.length<=1000:=by lia
    walk_at "x";rename_i H6 Y R;refine⟨⟨_,rfl⟩,∅,_,R,by rw[yf];exact ye f,?_⟩;dsimp only;rw[zar J];exact(((j.keep λ_ _ q=>(g.trans W).at q).snoc V).keep λ_ _ q=>Y.tup q)
   rintro D S vs N r M f j;rw[B,yz]at j;refine zkG M λp U fp g hp=>?_;exact k _ _ ((e1.trans r).trans g) (.nod hp (j.keep λ_ _ q=>g.at q))
  | @tup a xs ts ea hxs=>
   obtain⟨d1,L,c⟩:=hok;have B:=hxs.len;refine⟨_,tp,true,rfl,n,⟨rfl,xs,.inr (e1.at ea)⟩,k1,k2,k3,G,?_⟩;walk_at "x";refine zrf ?_;walk_at "x";refine⟨a,rfl,.inr ⟨⟨xs,SqT.of (e1.at ea)⟩,?_⟩⟩;refine zH (zmF (K:=K) (a:=a) (xs:=xs)) (λH' e=>SqT.of (e.at (e1.at ea))) rfl (λi vs H'=>IsTps H' vs (ts.take i)) (λH' _=>.nil) ?_ ?_
   ·rintro i y D vs o S U hi N r M f j g X;obtain⟨u,J,C⟩:=hxs.get X;walk_at "x";refine⟨y,u,d-1,rfl,⋯,C.same (e1.trans (r.trans g)),ziv c J,k1,k2,k3,G,λz H5 W V=>?_⟩;have I:vs.length<=1000:=by lia
    walk_at "x";rename_i H6 Y R;refine⟨⟨_,rfl⟩,∅,_,R,by rw[yf];exact ye f,?_⟩;dsimp only;rw[zar J];exact(((j.keep λ_ _ q=>(g.trans W).at q).snoc V).keep λ_ _ q=>Y.tup q)
   rintro D S vs N r M f j;rw[B,yz]at j;refine zkG M λp U fp g hp=>?_;exact k _ _ ((e1.trans r).trans g) (.nod hp (j.keep λ_ _ q=>g.at q))
def zbW(T:Txt K mg):T.d_divisor.Ok P w base 1 zrl:=by
 refine T.d_divisor.F.okN zby (by walk_at "l") λi A outer s H vs Q E o h=>?_;obtain⟨a,b,rfl,q⟩:=h;refine⟨_,(ze (zu 2 zby (zax zjs rfl T.z_abs BT.abs (za (pv 0) zd)))
 (ze (zu 3 zby (zax zjs rfl T.z_abs BT.abs (za (pv 1) zd)))
 (ze (zdl PassesOwn.never (zw (qNe K o.units) (pv 3) zh (nomark _))
 (ze (zu 4 zby (zt zbV (pv 2) (pv 3)))
 (ze (zu 2 zby (pv 3))
 (zi (zu 3 zby (pv 4))))))
 (zi (zm (pv 2)))))),?_⟩
 refine zp (σ0:=[some (.int a),some (.int b),none,none,none]) rfl ?_;walk_at "x";refine⟨λm σ H'=>∃k r f,σ=[some (.int a),some (.int b),some (.int k),some (.int r),f]/\H'=H/\0<=k/\0<=r/\My.gc k r=My.gc a b/\m=r.toNat,⟨_,_,_,_,rfl,rfl,zn4 a,zn4 b,My.gc_abs a b,rfl⟩,?_⟩;rintro m σ H' ⟨k,r,f,rfl,rfl,l,d,e,rfl⟩;walk_at "x"
 ·rename_i n;refine⟨λg c=>g=[some (.int a),some (.int b),some (.int r),some (.int (k%r)),some (.int (k%r))]/\c=H',?_,?_⟩
  ·rintro g c ⟨rfl,rfl⟩;have h1:=yad k (b:=r) ⋯;have h2:=yab k (b:=r) ⋯;exact⟨_,⋯,_,_,_,rfl,rfl,d,h1,by rw[My.gc_step];exact e,rfl⟩
  ·walk_at "x";exact⟨rfl,rfl⟩
 ·rename_i j;rw[j,My.gc_zero_right l]at e;rw[e];exact q
noncomputable def zmh (C:Addr):Sp:=λvs H Q E=>∃t b:Int,vs=[.int t,.int b]/\sz b<=8999/\((b=0/\E (.ref C) none H)\/(b≠0/\NewQ H Q (Rat.divInt t b)))
def znP{t b:Int}(c:b≠0)(a:sz b<=8999)(q:NewQ H Q (Rat.divInt t b)):zmh C [.int t,.int b] H Q E:=⟨t,b,rfl,a,.inr ⟨c,q⟩⟩
def zml(T:Txt K mg):T.d_part.Ok P w base 2 (zmh T.c_NoPart):=by
 refine T.d_part.F.okX zie (λvs H Q E h=>?_) (λe A outer s H vs Q E c h=>?_)
 ·obtain⟨t,b,rfl,_⟩:=h;rfl
 obtain⟨t,b,rfl,g,k⟩:=h;refine⟨_,(ze (zI (zw (qEq K c.units) (pv 1) zh (nomark _))
 (zi (zbP rfl rfl T.m_NoPart (errOk.own T.e_NoPart) (za zJ zd) zdp))
 zD)
 (ze (zu 2 zie (qD T.d_divisor (zbW (base:=base) T) c (za (pv 0) (za (pv 1) zd))))
 (zbE (zI (zw zbY (pv 1) zh (nomark _))
 (zi (zu 2 zie (zbk za4 (pv 2))))
 zD)
 (zi (zm (zE (za (zt zaW (pv 0) (pv 2)) (za (zt zaW (pv 1) (pv 2)) zd)))))))),?_⟩
 refine zp (σ0:=[some (.int t),some (.int b),none]) rfl ?_;walk_at "x"
 ·rename_i a;rcases k with⟨_,k⟩ | ⟨h1,_⟩
  ·exact⟨by decide,k⟩
  ·exact absurd a h1
 ·rename_i a;rcases k with⟨h1,_⟩ | ⟨_,k⟩
  ·exact absurd h1 a
  have i:0<My.gc t b:=My.gc_pos_right a;have f:sz (My.gc t b)<=9000:=yc (zbI a g) (by decide);refine zod 2 (λv H'=>H'=H/\((b<0/\v=.int (-My.gc t b))\/(0<b/\v=.int (My.gc t b)))) ?_ ?_
  ·walk_at "x"
   ·rename_i h2;exact⟨_,rfl,rfl,.inl ⟨h2,rfl⟩⟩
   ·rename_i h2;exact⟨_,rfl,rfl,.inr ⟨⋯,rfl⟩⟩
  rintro v H' ⟨rfl,h2⟩;rcases h2 with⟨hn,rfl⟩ | ⟨hp,rfl⟩
  ·have d:sz (-My.gc t b)<=9000:=yc (zhi _) f;walk_at "x";refine zoY ⋯ d ?_;walk_at "x";refine zoY ⋯ d ?_;walk_at "x";exact NewQ.mk k (My.part_neg hn)
  ·walk_at "x";exact NewQ.mk k (My.part_pos hp)
def zd2(T:Txt K mg):T.d_plus.Ok P w base 2 zlf:=by
 refine T.d_plus.F.okN zfT (by walk_at "l") λg A outer s H vs Q E e h=>?_;obtain⟨a,b,q,r,rfl,h1,h2,d,c,k⟩:=h;refine⟨_,(ze (zu 2 zfT (qD T.d_divisor (zbW (base:=base) T) e (za (qIx K (pv 0) zh) (za (qIx K (pv 1) zh) zd))))
 (ze (zu 3 zfT (zt (zad K) (zt zab (qIx K (pv 0) zh) (zt zaW (qIx K (pv 1) zh) (pv 2))) (zt zab (qIx K (pv 1) zh) (zt zaW (qIx K (pv 0) zh) (pv 2)))))
 (ze (zu 4 zfT (qD T.d_divisor (zbW (base:=base) T) e (za (pv 3) (za (pv 2) zd))))
 (zi (zm (zE (za (zt zaW (pv 3) (pv 4)) (za (zt zab (zt zaW (qIx K (pv 0) zh) (pv 2)) (zt zaW (qIx K (pv 1) zh) (pv 4))) zd)))))))),?_⟩
 refine zp (σ0:=[some (.ref a),some (.ref b),none,none,none]) rfl ?_;have f:0<My.gc (q.den:Int) (r.den:Int):=My.gc_pos_right (yaa (zaC r));have i:sz (My.gc (q.den:Int) (r.den:Int))<=9000:=yc (zbI (yaa (zaC r)) c.2) (by decide);have j:CMulS q.num ((r.den:Int)/My.gc (q.den:Int) (r.den:Int)):=CMulS.of d.1 (yc (zbH _ _) c.2) (by decide);have n:CMulS r.num ((q.den:Int)/My.gc (q.den:Int) (r.den:Int)):=CMulS.of c.1 (yc (zbH _ _) d.2) (by decide);have o:0<My.gc (q.num*((r.den:Int)/My.gc (q.den:Int) (r.den:Int))+r.num*((q.den:Int)/My.gc (q.den:Int) (r.den:Int))) (My.gc (q.den:Int) (r.den:Int)):=My.gc_pos_right (yaa f);have m:sz (My.gc (q.num*((r.den:Int)/My.gc (q.den:Int) (r.den:Int))+r.num*((q.den:Int)/My.gc (q.den:Int) (r.den:Int))) (My.gc (q.den:Int) (r.den:Int)))<=9000:=zbI (yaa f) i;have l:CMulS ((q.den:Int)/My.gc (q.den:Int) (r.den:Int)) ((r.den:Int)/My.gc (q.num*((r.den:Int)/My.gc (q.den:Int) (r.den:Int))+r.num*((q.den:Int)/My.gc (q.den:Int) (r.den:Int))) (My.gc (q.den:Int) (r.den:Int))):=CMulS.of (yc (zbH _ _) d.2) (yc (zbH _ _) c.2) (by decide);walk_at "x";exact NewQ.mk k (zmU q r)
def zdc(T:Txt K mg):T.d_times.Ok P w base 2 zii:=by
 refine T.d_times.F.okN zc1 (by walk_at "l") λf A outer s H vs Q E e h=>?_;obtain⟨a,b,q,r,rfl,h1,h2,c,d,k⟩:=h;refine⟨_,(ze (zu 2 zc1 (qD T.d_divisor (zbW (base:=base) T) e (za (qIx K (pv 0) zh) (za (qIx K (pv 1) zh) zd))))
 (ze (zu 3 zc1 (qD T.d_divisor (zbW (base:=base) T) e (za (qIx K (pv 1) zh) (za (qIx K (pv 0) zh) zd))))
 (ze (zu 4 zc1 (zt zab (zt zaW (qIx K (pv 0) zh) (pv 2)) (zt zaW (qIx K (pv 1) zh) (pv 3))))
 (ze (zu 5 zc1 (zt zab (zt zaW (qIx K (pv 0) zh) (pv 3)) (zt zaW (qIx K (pv 1) zh) (pv 2))))
 (zi (zm (zE (za (pv 4) (za (pv 5) zd))))))))),?_⟩
 refine zp (σ0:=[some (.ref a),some (.ref b),none,none,none,none]) rfl ?_;have i:0<My.gc q.num (r.den:Int):=My.gc_pos_right (yaa (zaC r));have n:sz (My.gc q.num (r.den:Int))<=9000:=yc (zbI (yaa (zaC r)) d.2) (by decide);have m:0<My.gc r.num (q.den:Int):=My.gc_pos_right (yaa (zaC q));have j:sz (My.gc r.num (q.den:Int))<=9000:=yc (zbI (yaa (zaC q)) c.2) (by decide);have g:CMulS (q.num/My.gc q.num (r.den:Int)) (r.num/My.gc r.num (q.den:Int)):=CMulS.of (yc (zbH _ _) c.1) (yc (zbH _ _) d.1) (by decide);have l:CMulS ((q.den:Int)/My.gc r.num (q.den:Int)) ((r.den:Int)/My.gc q.num (r.den:Int)):=CMulS.of (yc (zbH _ _) c.2) (yc (zbH _ _) d.2) (by decide);walk_at "x";exact NewQ.mk k (zlr q r)
def zda(T:Txt K mg):T.d_minus.Ok P w base 3 zhW:=by
 refine T.d_minus.F.okN zqe (by walk_at "l") λe A outer s H vs Q E d h=>?_;obtain⟨a,b,q,r,rfl,h1,h2,j,f,k⟩:=h;refine⟨_,(zi (zm (qD T.d_plus (zd2 (base:=base) T) d (za (pv 0) (za (zE (za (zbk za4 (qIx K (pv 1) zh)) (za (qIx K (pv 1) zh) zd))) zd))))),?_⟩;refine zp (σ0:=[some (.ref a),some (.ref b)]) rfl ?_;have i:OkQ (-r):=SzQ.neg f;walk_at "x";refine zaG (q:=-r) (zlN r) ?_;walk_at "x";rename_i g H1 e1 c;rw[<- yaS]at c;exact k _ _ ∅ c
def zgS(T:Txt K mg):T.d_under.Ok P w base 1 (ziL 60000):=by
 refine T.d_under.F.okN zpv (by walk_at "l") λf A outer s H vs Q E g h=>?_;obtain⟨a,b,q,r,rfl,h1,h2,c,d,k⟩:=h;refine⟨_,(zi (zm (zaJ zbY (zt zab (qIx K (pv 0) zh) (qIx K (pv 1) zh)) (zt zab (qIx K (pv 1) zh) (qIx K (pv 0) zh)) (nomark _)))),?_⟩;refine zp (σ0:=[some (.ref a),some (.ref b)]) rfl ?_;have e:decide (q<r)=decide (q.num*(r.den:Int)<r.num*(q.den:Int)):=decide_eq_decide.mpr (Rat.lt_iff q r);rw[e]at k;walk_at "x";refine zm1 (CMulS.of c.1 d.2 (by decide)) ?_;walk_at "x";refine zm1 (CMulS.of d.1 c.2 (by decide)) ?_;walk_at "x";exact k
def zky(T:Txt K mg):T.d_whole_row.Ok P w base 2 zcU:=by
 refine T.d_whole_row.F.okN zk4 (λvs H Q E h=>h.elim) (λa A outer s H vs Q E b h=>h.elim)
def zjE(T:Txt K mg):T.d_with_first.Ok P w base 1 zcU:=by
 refine T.d_with_first.F.okN zjG (λvs H Q E h=>h.elim) (λa A outer s H vs Q E b h=>h.elim)
def zqp(T:Txt K mg):T.d_swept.Ok P w base 2 zcU:=by
 refine T.d_swept.F.okN zqn (λvs H Q E h=>h.elim) (λa A outer s H vs Q E b h=>h.elim)
def zom(T:Txt K mg):T.d_solved.Ok P w base 3 (zfw K):=by
 refine T.d_solved.F.okN sc_solved (by walk_at "l") λg A outer s H vs Q E c h=>?_;obtain⟨a,b,rfl,r,v,k⟩:=h;have q:(([]:List V).length:Int)=0:=rfl;refine⟨_,(ze (zu 2 sc_solved (zaL K T.z_len (za (pv 0) zd)))
 (ze (qS1 3 sc_solved ["place", "rows", "right"] [none,some 0,some 1] (zaz rfl T.z_range (za (pv 2) zd)) (λ_ _ _ _ _=>(qD T.d_whole_row (zky (base:=base) T) c (za (zt (zad K) (zcy K T.z_list (za (qIx K (pv 1) (pv 0)) zd)) (zK (za (qIx K (pv 2) (pv 0)) zd))) zd))))
 (ze (zu 4 sc_solved zh)
 (ze (z5 PassesOwn.never rfl (zaz rfl T.z_range (za (pv 2) zd)) (zC (i:=5) sc_solved.nd rfl (Or.inl rfl))
 (ze (zu 3 sc_solved (qD T.d_with_first (zjE (base:=base) T) c (za (pv 3) (za (pv 5) zd))))
 (ze (zu 3 sc_solved (qD T.d_swept (zqp (base:=base) T) c (za (pv 3) (za (pv 5) (za (pv 4) zd)))))
 (zi (zu 4 sc_solved (qIx K (qIx K (pv 3) (pv 5)) (pv 5)))))))
 (zi (zm (qC1 ["row", "count", "before"] [none,some 2,some 4] (zP K (pv 3)) (λ_ _ _ _ _=>(qD T.d_part (zml (base:=base) T) c (za (qIx K (pv 0) (pv 1)) (za (pv 2) zd))))))))))),?_⟩
 refine zp (σ0:=[some (.ref a),some (.ref b),none,none,none,none]) rfl ?_;walk_at "x";refine zH (zdB (lo:=0) (n:=(([]:List V).length:Int).toNat)) (λ_ _=>trivial) rfl (λi vs _=>vs=[]) (λ_ _=>rfl) ?_ ?_
 ·rintro i x D vs o l m hi;exact absurd hi (yB _)
 rintro t H1 vs u e1 j d rfl;walk_at "x";refine zbG (λi f H'=>i=0/\H'=H1/\f=[some (.ref a),some (.ref b),some (.int ([]:List V).length),some (.ref t),some (.int 1),none]) ⟨rfl,rfl,rfl⟩ ?_ ?_
 ·rintro i f H' hi;exact absurd hi (yB _)
 rintro f H' ⟨_,rfl,rfl⟩;walk_at "x";refine zH (zO (K:=K) (a:=t) (xs:=[])) (λH' e=>SqL.of (e.at j)) rfl (λi vs _=>vs=[]) (λ_ _=>rfl) ?_ ?_
 ·rintro i x D vs o l m hi;exact absurd hi (yB _)
 rintro p H2 vs fp e2 hp d rfl;exact k p H2 (Same.none fp e1) (e1.trans e2) hp
def zlL(T:Txt K mg):T.d_balances.Ok P w base 1 (zkr K):=by
 refine T.d_balances.F.okN sc_balances (by walk_at "l") λf A outer s H vs Q E m h=>?_;obtain⟨a,c,rfl,d,k⟩:=h;refine⟨_,(ze (qS1 2 sc_balances ["member", "members", "flows"] [none,some 1,some 0] (zP K (pv 1)) (λ_ _ _ _ _=>(qC1 ["other", "flows", "member"] [none,some 2,some 0] (zP K (pv 1)) (λ_ _ _ _ _=>(zE (za (zbk za4 (qIx K (qIx K (pv 1) (pv 0)) (pv 2))) (za zh zd)))))))
 (ze (z5 PassesOwn.never rfl (zav K T.z_enumerate (za (pv 1) zd)) (show PG _ _ (zaP K 2 _)from zas (n:=2) rfl (zx (zC (i:=3) sc_balances.nd rfl (Or.inl rfl)) (zx (zC (i:=4) sc_balances.nd rfl (Or.inl rfl)) zah)))
 (zi (zdj (zE (za (za9 K T.z_sum (za (qIx K (pv 0) (pv 4)) zd)) (za zh zd))) (zcZ (qIx K (pv 2) (pv 3)) (pv 3) zay))))
 (zi (zm (pv 2))))),?_⟩
 refine zp (σ0:=[some (.ref a),some (.ref c),none,none,none]) rfl ?_;walk_at "x";refine zH (zO (K:=K) (a:=c) (xs:=[])) (λH' e=>SqL.of (e.at d)) rfl (λi vs _=>vs=[]) (λ_ _=>rfl) ?_ ?_
 ·rintro i x D vs o j l hi;exact absurd hi (yB _)
 rintro p H1 vs fp e1 hp g rfl;walk_at "x";refine zb9 (zU (K:=K) (a:=c) (xs:=[])) (λi b H'=>i=0/\H'=H1/\b=[some (.ref a),some (.ref c),some (.ref p),none,none]) ⟨rfl,rfl,rfl⟩ ?_ ?_ ?_
 ·rintro i b H' ⟨_,rfl,_⟩;exact SqL.of (e1.at d)
 ·rintro i y b j l hi;exact absurd hi (yB _)
 rintro b H' ⟨_,rfl,rfl⟩;walk_at "x";exact k p _ fp e1 hp
def zlt(T:Txt K mg):T.d_rates_of.Ok P w base 3 (zgO K):=by
 refine T.d_rates_of.F.okN sc_rates_of (by walk_at "l") λu A outer s H vs Q E L h=>?_;obtain⟨a,c,d,xs,rfl,z,R,N,k⟩:=h;refine⟨_,(ze (qS1 3 sc_rates_of ["flow"] [none] (zP K (pv 0)) (λ_ _ _ _ _=>(zE (za zh (za zh zd)))))
 (ze (z5 PassesOwn.never rfl (zav K T.z_enumerate (za (pv 1) zd)) (show PG _ _ (zaP K 2 _)from zas (n:=2) rfl (zx (zC (i:=4) sc_rates_of.nd rfl (Or.inl rfl)) (zx (zC (i:=5) sc_rates_of.nd rfl (Or.inl rfl)) zah)))
 (zi (zdj (qD T.d_times (zdc (base:=base) T) L (za (qIx K (pv 2) (pv 4)) (za (zE (za (za9 K T.z_sum (za (qIx K (pv 0) (pv 5)) zd)) (za zh zd))) zd))) (zcZ (pv 3) (pv 5) zay))))
 (zi (zm (pv 3))))),?_⟩
 refine zp (σ0:=[some (.ref a),some (.ref c),some (.ref d),none,none,none]) rfl ?_;walk_at "x";refine zH (zO (K:=K) (a:=a) (xs:=xs)) (λH' e=>SqL.of (e.at z)) rfl (λi vs H'=>IsQs H' vs (zQs i)) (λH' _=>trivial) ?_ ?_
 ·rintro i x D vs o H2 G hi B e2 M b m g S;walk_at "x";refine zaG (q:=(0:Rat)) ⟨rfl,rfl⟩ ?_;intro p I j hp;have t:=(g.trans j).at M;walk_at "x";rename_i C r J;refine⟨⟨_,rfl⟩,r.same ((e2.trans g).trans j) B,_,J,by rw[yf];exact ye b,?_⟩;show IsQs C _ ((List.range (i+1)).map _);rw[yO,yj,yY];exact IsQs.app (LBut.isQ r hp) (LBut.isQs r (m.same (g.trans j)))
 rintro l H2 vs v e2 O b m;walk_at "x";refine zb9 (zU (K:=K) (a:=c) (xs:=[])) (λi f H'=>i=0/\H'=H2/\f=[some (.ref a),some (.ref c),some (.ref d),some (.ref l),none,none]) ⟨rfl,rfl,rfl⟩ ?_ ?_ ?_
 ·rintro i f H' ⟨_,rfl,_⟩;exact SqL.of (e2.at N)
 ·rintro i y f G I hi;exact absurd hi (yB _)
 rintro f H' ⟨_,rfl,rfl⟩;walk_at "x";exact k l _ vs v e2 O m
def zgC(T:Txt K mg):T.d_opening_rates.Ok P w base 4 (ziP K):=by
 refine T.d_opening_rates.F.okN sc_opening_rates (by walk_at "l") λG A outer s H vs Q E r h=>?_;obtain⟨a,b,d,xs,ys,n,rfl,ha,l,h9,Y,hd,k⟩:=h;have m:(zan n λ_=>none).length=n:=za8;refine⟨_,(ze (zct (i:=3) sc_opening_rates.nd rfl rfl rfl (zav K T.z_enumerate (za (pv 1) zd)) (zak (Ni:=["member", "rank"]) (caps:=[none,none]) (by rfl)) (λS _ _ _ _ _=>(show PG _ _ (zaP K 2 _)from zas (n:=2) rfl (zx (zaf (gi:=0) S (Or.inl rfl) rfl) (zx (zaf (gi:=1) S (Or.inl rfl) rfl) zah)))) (λ_ _ _ _ _=>(zd5 (zw zfR (pv 1) zbj (nomark _)))) (λ_ _ _ _ _=>(pv 0)))
 (ze (qS1 4 sc_opening_rates ["member", "purses"] [none,some 2] (zP K (pv 3)) (λ_ _ _ _ _=>(zE (za (qIx K (pv 1) (pv 0)) (za zh zd)))))
 (zi (zm (qD T.d_rates_of (zlt (base:=base) T) r (za (pv 0) (za (pv 3) (za (qD T.d_solved (zom (base:=base) T) r (za (qD T.d_balances (zlL (base:=base) T) r (za (pv 0) (za (pv 3) zd))) (za (pv 4) zd))) zd)))))))),?_⟩
 refine zp (σ0:=[some (.ref a),some (.ref b),some (.ref d),none,none]) rfl ?_;walk_at "x";refine zai (zU (K:=K) (a:=b) (xs:=zan n λ_=>none)) (λH' e=>SqL.of (e.at Y)) rfl (λj vs _=>vs=[]) (λH' _=>rfl) ?_ ?_
 ·rintro j x D vs o o' u p y hD I hv c rfl J ⟨M,v,rfl,B,q⟩;rw[m]at y;rw[zbo y]at B;cases B;have V:p M=some (.tup [.int (j:Int),.non]):=q;walk_at "x"
  ·rename_i h1 z b5 h5;exact absurd rfl h1
  ·exact⟨⟨_,_,rfl⟩,∅,_,∅,yas c,rfl⟩
 rintro sh H1 vs a0 e1 t c rfl;walk_at "x";refine zH (zO (K:=K) (a:=sh) (xs:=[])) (λH' e=>SqL.of (e.at t)) rfl (λi vs _=>vs=[]) (λ_ _=>rfl) ?_ ?_
 ·rintro i x D vs o u p hi;exact absurd hi (yB _)
 rintro ri H2 vs U e2 R c rfl;have W:xs.length<=9:=by lia
 walk_at "x";rename_i ba u L I O so p X J N Z z ws C e5 g f;rw[l]at f;exact k Z z ws ∅ ∅ g f
def zmD(T:Txt K mg):T.d_over.Ok P w base 3 zir:=by
 refine T.d_over.F.okN zsM (by walk_at "l") λd A outer s H vs Q E c h=>?_;obtain⟨a,b,q,r,rfl,h1,h2,i,f,e,k⟩:=h;refine⟨_,(ze (zI (zw (qEq K c.units) (qIx K (pv 1) zh) zh (nomark _))
 (zi zqV)
 zD)
 (ze (zI (zw zbY (qIx K (pv 1) zh) zh (nomark _))
 (zi (zm (qD T.d_times (zdc (base:=base) T) c (za (pv 0) (za (zE (za (zbk za4 (qIx K (pv 1) zh)) (za (zbk za4 (qIx K (pv 1) zh)) zd))) zd)))))
 zD)
 (zi (zm (qD T.d_times (zdc (base:=base) T) c (za (pv 0) (za (zE (za (qIx K (pv 1) zh) (za (qIx K (pv 1) zh) zd))) zd))))))),?_⟩
 refine zp (σ0:=[some (.ref a),some (.ref b)]) rfl ?_;rw[Rat.div_def]at k;have g:OkQ r⁻¹:=(f.inv e).mono (by decide) (by decide);walk_at "x"
 all_goals first | (exfalso;contradiction) | skip
 ·rename_i hn;refine zaG (q:=r⁻¹) (zsf hn) ?_;walk_at "x";exact k _ _ ∅ ∅
 ·rename_i hn;refine zaG (q:=r⁻¹) (zsg ⋯) ?_;walk_at "x";exact k _ _ ∅ ∅
def zgo(T:Txt K mg):T.d_least.Ok P w base 2 (zfU 60000):=by
 refine T.d_least.F.okN zqU (by walk_at "l") λd A outer s H vs Q E c h=>?_;obtain⟨a,b,q,r,rfl,h1,h2,e,f,k⟩:=h;refine⟨_,(ze (zI (zaq K (qD T.d_under (zgS (base:=base) T) c (za (pv 1) (za (pv 0) zd))))
 (zi (zm (pv 1)))
 zD)
 (zi (zm (pv 0)))),?_⟩
 refine zp (σ0:=[some (.ref a),some (.ref b)]) rfl ?_;walk_at "x"
 ·rename_i h;rw[if_pos h]at k;exact k
 ·rename_i h;rw[if_neg h]at k;exact k
def zeT(T:Txt K mg):T.d_least_room.Ok P w base 4 (zhU K):=by
 refine T.d_least_room.F.okN sc_least_room (by walk_at "l") λC A outer s H vs Q E o h=>?_;obtain⟨a,b,d,e,n,ws,rfl,G,z,M,k⟩:=h;have hwl:=z.length;rw[zcV]at hwl;refine⟨_,(ze (zu 4 sc_least_room zbj)
 (ze (z5 PassesOwn.never rfl (zav K T.z_enumerate (za (pv 3) zd)) (show PG _ _ (zaP K 2 _)from zas (n:=2) rfl (zx (zC (i:=5) sc_least_room.nd rfl (Or.inl rfl)) (zx (zC (i:=6) sc_least_room.nd rfl (Or.inl rfl)) zah)))
 (zi (zI (zw zbO (qIx K (pv 6) zh) zh (nomark _))
 (ze (zu 7 sc_least_room (za9 K T.z_sum (za (zbR (show SlR _ (zc5 K)from zcq) (qIx K (pv 0) (pv 5)) zcr (zcp (zt (zad K) (qIx K (pv 1) (pv 5)) zh))) zd)))
 (ze (zu 8 sc_least_room (qD T.d_over (zmD (base:=base) T) o (za (qD T.d_minus (zda (base:=base) T) o (za (zE (za (pv 7) (za zh zd))) (za (qIx K (pv 2) (pv 5)) zd))) (za (pv 6) zd))))
 (zi (zu 4 sc_least_room (zbq (zw zg7 (pv 4) zbj (nomark _)) (pv 8) (qD T.d_least (zgo (base:=base) T) o (za (pv 4) (za (pv 8) zd))))))))
 zD)))
 (zi (zm (pv 4))))),?_⟩
 refine zp (σ0:=[some (.ref a),some (.ref b),some (.ref d),some (.ref e),none,none,none,none,none]) rfl ?_;walk_at "x";refine zb9 (zU (K:=K) (a:=e) (xs:=ws)) (λi l H'=>∃(v x r B:Option V),l=[some (.ref a),some (.ref b),some (.ref d),some (.ref e),some .non,v,x,r,B]/\Same H H') ⟨_,_,_,_,rfl,Same.refl _⟩ ?_ ?_ ?_
 ·rintro i l H' ⟨_,_,_,_,_,e⟩;exact SqL.of (e.at G)
 ·rintro i y l O I hi ⟨v,x,r,B,rfl,j⟩ u ⟨t,N,rfl,L,m⟩;obtain⟨g,q,rfl,c,p⟩:=z.get L;rw[zfK ⋯]at c;cases c;have D:I t=some (.tup [.int (i:Int),.ref g]):=m;have J:=(j.trans u).isQ p;walk_at "x"
  ·rename_i f;exact absurd f (by decide)
  ·exact⟨_,_,_,_,rfl,j.trans u⟩
 rintro l H' ⟨_,_,_,_,rfl,j⟩;walk_at "x";exact k _ j
def zfc(T:Txt K mg):T.d_ranked.Ok P w base 1 (zgx K):=by
 refine T.d_ranked.F.okN sc_ranked (by walk_at "l") λa2 A outer s H vs Q E hr h=>?_;obtain⟨n,a,ds,rfl,⟨xs,hS,hT⟩,n0,n1,hd,k⟩:=h;refine⟨_,(ze (qS1 2 sc_ranked ["member"] [none] (zaz rfl T.z_range (za (pv 0) zd)) (λ_ _ _ _ _=>(zK (za zh (za zh (za zh zd))))))
 (ze (z5 PassesOwn.never rfl (zP K (pv 1)) (show PG _ _ (zaP K 4 _)from zas (n:=4) rfl (zx (zC (i:=3) sc_ranked.nd rfl (Or.inl rfl)) (zx (zC (i:=4) sc_ranked.nd rfl (Or.inl rfl)) (zx (zC (i:=5) sc_ranked.nd rfl (Or.inl rfl)) (zx (zC (i:=6) sc_ranked.nd rfl (Or.inl rfl)) zah)))))
 (zi (zbz (qIx K (pv 2) (pv 3)) (pv 5) (show zdo _ (zbS K)from za6) (pv 6) zc2 zay)))
 (zi (zm (pv 2))))),?_⟩
 refine zp (σ0:=[some (.int n),some (.ref a),none,none,none,none,none]) rfl ?_;walk_at "x";refine zH zdB (λ_ _=>trivial) rfl (λi vs H'=>∃as,vs=as.map V.ref/\as.length=i/\Rows H' as 3 (λ_ _=>0)/\∀b∈as,H b=none) (λH' _=>⟨[],rfl,rfl,⟨yac,λi a h=>nomatch h⟩,λ_ h=>nomatch h⟩) ?_ ?_
 ·rintro i x D vs o H2 I hi hD e2 hv v ⟨as,rfl,u,t,G⟩ g rfl;walk_at "x";rename_i p H4 fp e4 hp H5 b5 h5;have O:D∉as:=t.ne (by decide) hv;have S:p≠D:=zbw fp (g.at hv);have N:H5 p=some (.lst ((vec 3 λ_=>0).map V.int)):=b5.lst hp S;refine⟨⟨_,rfl⟩,∅,_,h5,by rw[yf];exact ye v,as++[p],by rw[yj];rfl,by rw[yf,u];rfl,Rows.app ((t.same (g.trans e4)).but b5 O) ((t.same g).fresh fp) N,λb U=>?_⟩;rcases yA.mp U with h | h
  ·exact G b h
  ·rw[yp.mp h];exact Same.none fp (e2.trans g)
 ·rintro l H2 vs fl e2 Z v ⟨as,rfl,u,t,G⟩;walk_at "x";have hla:l∉as:=t.ne (by decide) Z;refine zbc (xs:=xs) (λi C H'=>∃W R L M,C=[some (.int n),some (.ref a),some (.ref l),W,R,L,M]/\H' l=some (.lst (as.map V.ref))/\Rows H' as 3 (zX (ds.take i))/\Same H H') ?_ ?_ ?_ ?_
  ·exact⟨_,_,_,_,rfl,Z,t,e2⟩
  ·rintro i C H' _ ⟨_,_,_,_,_,_,_,e⟩;exact e.seq hS
  ·rintro i x C I hx ⟨W,R,L,M,rfl,j,f,g⟩;obtain⟨b,d,rfl,B,U⟩:=(hT.same g).get hx;have a3:I b=some (.tup [.int d.p,.int d.q,.int d.r,.int d.a]):=U;obtain⟨p0,p1,q0,q1,pq,r0,r1,a0,a1⟩:=hd d (ym B);obtain⟨c,X⟩:=zN (show d.p.toNat<as.length by lia);have Y:=f.2 _ _ X;have y:=ym X;have J:l≠c:=λz=>hla (z▸y);have fc:=G c y;walk_at "x";rename_i H4 b4 h4;refine⟨_,_,_,_,rfl,b4.lst j J,(f.set b4 X h4).congr λm hm r hr=>?_,∅⟩;rw[zar B];exact zn0 p0 r0 m r
  ·rintro C I ⟨W,R,L,M,rfl,j,f,g⟩;rw[hT.length,yz]at f;walk_at "x";exact k _ _ _ fl g j ⋯ f G
def zhF(T:Txt K mg):T.d_stop_of.Ok P w base 2 (zgE K):=by
 refine T.d_stop_of.F.okN sc_stop_of (by walk_at "l") λG A outer s H vs Q E O h=>?_;obtain⟨l,y,f,q,rfl,S,N,R,U,k⟩:=h;refine⟨_,(ze (zu 2 sc_stop_of zh)
 (ze (z5 PassesOwn.never rfl (zav K T.z_enumerate (za (pv 0) zd)) (show PG _ _ (zaP K 2 _)from zas (n:=2) rfl (zx (zC (i:=3) sc_stop_of.nd rfl (Or.inl rfl)) (zx (zC (i:=4) sc_stop_of.nd rfl (Or.inl rfl)) zah)))
 (ze (zfn (i:=2) sc_stop_of.nd rfl (Or.inl rfl) (pv 4) zc2)
 (zi (zI (zaq K (qD T.d_under (zgS (base:=base) T) O (za (pv 1) (za (zE (za (pv 2) (za zh zd))) zd))))
 (zi (zm (pv 3)))
 zD))))
 (zi (zm zbj)))),?_⟩
 refine zp (σ0:=[some (.ref l),some (.ref y),none,none,none]) rfl ?_;walk_at "x";refine zb9 (zU (K:=K) (a:=l) (xs:=(vec 3 f).map V.int)) (λi d H'=>∃u o:Option V,d=[some (.ref l),some (.ref y),some (.int (zco f i)),u,o]/\zbA f q i=none/\Same H H') ⟨_,_,rfl,rfl,Same.refl _⟩ ?_ ?_ ?_
 ·rintro i d H' ⟨_,_,_,_,e⟩;exact SqL.of (e.at S)
 ·rintro i x d H1 H2 hi ⟨u,o,rfl,hno,e1⟩ e2 ⟨t,v,rfl,D,I⟩;rw[yb,zA]at hi;rw[yg,zW hi]at D;cases D;have L:H2 t=some (.tup [.int (i:Int),.int (f i)]):=I;have W:=zmc N (i+1) ⋯;have j:SzQ ((zco f (i+1):Int):Rat) 60000 60000:=zss ⋯ ⋯;walk_at "x";refine zaA (by first | decide | simp) λtp m M J g=>?_;have B:IsQ m tp ((zco f (i+1):Int):Rat):=g;have e13:Same H m:=e1.trans (e2.trans J);have p:IsQ m y q:=e13.at R;refine zT ?_;refine zi9 p B U j ?_;have b:zbA f q (i+1)=if zd9 f q i then some i else none:=by show(match zbA f q i with | some r=>some r | none=>_)=_;rw[hno]
  by_cases c:zd9 f q i
  ·rw[decide_eq_true (under_int.mpr c)];rw[if_pos c]at b;have C:=zgW b (3-(i+1));rw[show i+1+(3-(i+1))=3 by lia]at C;rw[C]at k;walk_at "x";exact k _ e13
  ·rw[decide_eq_false λz=>c (under_int.mp z)];rw[if_neg c]at b;walk_at "x";exact⟨_,_,rfl,b,e13⟩
 ·rintro d H1 ⟨u,o,rfl,hno,e1⟩;rw[yb,zA]at hno;rw[hno]at k;walk_at "x";exact k _ e1
def zlF(T:Txt K mg):T.d_flows_of.Ok P w base 1 (ziH K):=by
 refine T.d_flows_of.F.okN sc_flows_of (by walk_at "l") λa9 A outer s H vs Q E hr h=>?_;obtain⟨a,b,ds,n,ρ,rfl,⟨xs,hS,hT⟩,O,n1,hd,k⟩:=h;have L:(zan n ρ).length=n:=za8;refine⟨_,(ze (qS1 2 sc_flows_of ["rank", "ranks"] [none,some 1] (zP K (pv 1)) (λ_ _ _ _ _=>(zt zab (zK (za zh zd)) (zaL K T.z_len (za (pv 1) zd)))))
 (ze (z5 PassesOwn.never rfl (zP K (pv 0)) (show PG _ _ (zaP K 4 _)from zas (n:=4) rfl (zx (zC (i:=3) sc_flows_of.nd rfl (Or.inl rfl)) (zx (zC (i:=4) sc_flows_of.nd rfl (Or.inl rfl)) (zx (zC (i:=5) sc_flows_of.nd rfl (Or.inl rfl)) (zx (zC (i:=6) sc_flows_of.nd rfl (Or.inl rfl)) zah)))))
 (zi (zI (zw (qEq K hr.units) (pv 5) (qIx K (pv 1) (pv 3)) (nomark _))
 (zi (zbz (qIx K (pv 2) (pv 3)) (pv 4) (show zdo _ (zbS K)from za6) (pv 6) zc2 zay))
 zD)))
 (zi (zm (pv 2))))),?_⟩
 refine zp (σ0:=[some (.ref a),some (.ref b),none,none,none,none,none]) rfl ?_;walk_at "x";refine zH (zO (K:=K) (a:=b) (xs:=zan n ρ)) (λH' e=>SqL.of (e.at O)) rfl (λi vs H'=>∃as,vs=as.map V.ref/\as.length=i/\Rows H' as n (λ_ _=>0)/\∀b∈as,H b=none) (λH' _=>⟨[],rfl,rfl,⟨yac,λi a h=>nomatch h⟩,λ_ h=>nomatch h⟩) ?_ ?_
 ·rintro i x D vs o H2 J hi hD e2 hv I ⟨as,rfl,u,C,U⟩ t hx;have a6:=(e2.trans t).at O;walk_at "x";rename_i z1 aa ad R a8 p H4 fp Y N H5 b5 h5;have e4:Same J H4:=R.trans Y;rw[yx,L]at N;have y:J p=none:=Same.none fp R;have a5:p≠D:=zbw y (t.at hv);have a2:H5 p=some (.lst ((vec n λ_=>0).map V.int)):=b5.lst N a5;have a3:D∉as:=λz=>by
   obtain⟨m,hm,W,f⟩:=C.mem z;rw[hv]at f;have hn:n≠0:=by lia
   cases as with
   | nil=>cases z
   | cons z0 zs=>
    obtain⟨G,rfl⟩:∃G,n=G+1:=⟨n-1,⋯⟩
    unfold vec at f;rw[yaY]at f;cases f
  refine⟨⟨_,rfl⟩,∅,_,h5,by rw[yf];exact ye I,as++[p],by rw[yj];rfl,by rw[yf,u];rfl,Rows.app ((C.same (t.trans e4)).but b5 a3) ((C.same t).fresh y) a2,λb O=>?_⟩;rcases yA.mp O with h | h
  ·exact U b h
  ·rw[yp.mp h];exact Same.none y (e2.trans t)
 ·rintro l H2 vs fl e2 hl I ⟨as,rfl,u,C,U⟩;rw[L]at u;walk_at "x";have hla:l∉as:=λz=>by
   obtain⟨m,hm,W,f⟩:=C.mem z;rw[hl]at f;cases as with
   | nil=>cases z
   | cons z0 zs=>
    obtain⟨G,rfl⟩:∃G,n=G+1:=⟨n-1,by simp only[yE]at u;lia⟩
    unfold vec at f;rw[yaY]at f;cases f
  refine zbc (xs:=xs) (λi S H'=>∃f3 f4 f5 f6,S=[some (.ref a),some (.ref b),some (.ref l),f3,f4,f5,f6]/\H' l=some (.lst (as.map V.ref))/\Rows H' as n (zbM ρ (ds.take i))/\Same H H') ?_ ?_ ?_ ?_
  ·exact⟨_,_,_,_,rfl,hl,C,e2⟩
  ·rintro i S H' _ ⟨_,_,_,_,_,_,_,e⟩;exact e.seq hS
  ·rintro i x S J hx ⟨f3,f4,f5,f6,rfl,v,g,t⟩;obtain⟨b',d,rfl,B,a4⟩:=(hT.same t).get hx;have ac:J b'=some (.tup [.int d.p,.int d.q,.int d.r,.int d.a]):=a4;obtain⟨p0,p1,q0,q1,pq,r0,r1,a0,a1⟩:=hd d (ym B);obtain⟨c,hc⟩:=zN (show d.p.toNat<as.length by lia);have a7:=g.2 _ _ hc;have M:=ym hc;have X:l≠c:=λz=>hla (z▸M);have fc:=U c M;have a6:=t.at O;have ab:atI (zan n ρ) d.p=some (zcn (ρ d.p.toNat)):=zbd ⋯ (zbo ⋯);walk_at "x";refine zsn r0 ?_;walk_at "x"
   ·rename_i Z H4 b4 h4;refine⟨_,_,_,_,rfl,b4.lst v X,(g.set b4 hc h4).congr λm hm j hj=>?_,∅⟩;rw[zar B,zhw];by_cases e1:m=d.p.toNat
    ·rw[if_pos e1];by_cases e2:j=d.q.toNat
     ·rw[if_pos e2,if_pos ⟨⋯,⋯,by rw[e1];exact Z⟩,e1,e2]
     ·rw[if_neg e2,if_neg (λz=>e2 ⋯),e1];lia
    ·rw[if_neg e1,if_neg (λz=>e1 ⋯)];lia
   ·rename_i Z;refine⟨_,_,_,_,rfl,v,g.congr λm hm j hj=>?_,t⟩;rw[zar B,zhw,if_neg (λz=>Z (by rw[show d.p.toNat=m by lia];exact z.2.2))];lia
  ·rintro S J ⟨f3,f4,f5,f6,rfl,v,g,t⟩;rw[hT.length,yz]at g;walk_at "x";exact k _ _ _ fl t v u g U
def zlw(T:Txt K mg):T.d_reach_of.Ok P w base 1 (zim K):=by
 refine T.d_reach_of.F.okN sc_reach_of (by walk_at "l") λW A outer s H vs Q E hr h=>?_;obtain⟨a,i,n,as,F,rfl,Z,Y,hR,h9,hi,k⟩:=h;refine⟨_,(ze (zu 2 sc_reach_of (zK (za (pv 1) zd)))
 (ze (zu 3 sc_reach_of zh)
 (ze (zdl PassesOwn.never (zw zbY (pv 3) (zaL K T.z_len (za (pv 2) zd)) (nomark _))
 (ze (zu 4 sc_reach_of (qIx K (pv 0) (qIx K (pv 2) (pv 3))))
 (ze (zS (show PE _ _ (tBM K _ _ _ _)from zjX yam PySem.F.slot_list_extend PySem.F.type_list_extend zoi (pv 2) (za (zdR rfl (zav K T.z_enumerate (za (pv 4) zd)) (zak (Ni:=["other", "flow", "reached"]) (caps:=[none,none,some 2]) (by rfl)) (λS _ _ _ _ _=>(show PG _ _ (zaP K 2 _)from zas (n:=2) rfl (zx (zaf (gi:=0) S (Or.inl rfl) rfl) (zx (zaf (gi:=1) S (Or.inl rfl) rfl) zah)))) (λ_ _ _ _ _=>(zd5 (PW.pt (za0 (zw zbO (pv 1) zh (nomark _)) (za3 (zw (show OpR _ (compareOp .NotIn) (rIn K true)from zb6) (pv 0) (pv 2) (by with_unfolding_all rfl))))))) (λ_ _ _ _ _=>(pv 0))) zd)))
 (zi (zfn (i:=3) sc_reach_of.nd rfl (Or.inl rfl) zh zc2)))))
 (zi (zm (pv 2)))))),?_⟩
 refine zp (σ0:=[some (.ref a),some (.int (i:Int)),none,none,none]) rfl ?_;walk_at "x";rename_i p H1 fp e1 hp;generalize hg:(λi j=>decide (0<F i j))=g at k;have u:∀i j,g i j=decide (0<F i j):=λi j=>by rw[<- hg]
 refine⟨λm σ H'=>∃(t:Nat) (y:Option V),σ=[some (.ref a),some (.int (i:Int)),some (.ref p),some (.int (t:Int)),y]/\t<=(Rc.seqL n g i t).length/\H' p=some (.lst (zbm (Rc.seqL n g i t)))/\Same H H'/\m=n-t,⟨_,0,_,rfl,yI _,hp,e1,rfl⟩,?_⟩;rintro m σ H2 ⟨t,y,rfl,X,f,e2,rfl⟩;have a1:=zcK (l:=Rc.seqL n g i t);have a3:=Rc.seq_len (g:=g) hi t;walk_at "x"
 ·rename_i C;have b:t<(Rc.seqL n g i t).length:=by lia
  refine⟨λO H'=>∃y:Option V,O=[some (.ref a),some (.int (i:Int)),some (.ref p),some (.int ((t+1:Nat):Int)),y]/\H' p=some (.lst (zbm (Rc.seqL n g i (t+1))))/\Same H H',?_,?_⟩
  ·rintro O H' ⟨f5,rfl,q,r⟩;refine⟨n-(t+1),⋯,t+1,f5,rfl,?_,q,r,rfl⟩;rw[Rc.seq_succ b,yf];lia
  ·generalize hs:Rc.seqL n g i t=sl at *
   have U:sl.getD t 0<n:=zlY b (by rw[<- hs];exact λx B=>Rc.seq_lt hi t x B);obtain⟨c,R⟩:=zN (show sl.getD t 0<as.length by lia);have a6:atI (zbm sl) (t:Int)=some (.int ((sl.getD t 0:Nat):Int)):=zap (ziV b);have M:atI (as.map V.ref) ((sl.getD t 0:Nat):Int)=some (.ref c):=zap (by rw[yg,R];rfl);have a0:=e2.at Z;have I:=(hR.same e2).2 _ _ R;walk_at "x";refine zai (zU (K:=K) (a:=c) (xs:=(vec n (F (sl.getD t 0))).map V.int)) (λH' e=>SqL.of (e.at I)) rfl (λj vs _=>vs=zbm ((List.range j).filter λk=>g (sl.getD t 0) k&&!decide (k∈sl))) (λH' _=>rfl) ?_ ?_
   ·rintro j x D vs o o' H3 N L hD r J d rfl e4 ⟨tt,v,rfl,B,G⟩;rw[yb,zA]at L;rw[yg,zW L]at B;cases B;have a4:N tt=some (.tup [.int (j:Int),.int (F (sl.getD t 0) j)]):=G;have a2:=(r.trans e4).at f;walk_at "x"
    ·rename_i h1 h2 H5 b5 h5;refine⟨⟨_,_,rfl⟩,∅,_,h5,by rw[yf];exact ye d,?_⟩;dsimp only;rw[zgI,if_pos (by rw[u,decide_eq_true h1,decide_eq_false (λz=>h2 (intsN_mem.mpr z))];rfl),zjp];rfl
    ·rename_i h1 h2;refine⟨⟨_,_,rfl⟩,∅,_,∅,yas d,?_⟩;dsimp only;rw[zgI,if_neg (by rw[decide_eq_true (intsN_mem.mp h2)];simp),y6]
    ·rename_i h1;refine⟨⟨_,_,rfl⟩,∅,_,∅,yas d,?_⟩;dsimp only;rw[zgI,if_neg (by rw[u,decide_eq_false h1];simp),y6]
   ·rintro D H3 vs hD r J d rfl;rw[yb,zA]at J;have q:=r.at f;have hfl:=List.length_filter_le (λk=>g (sl.getD t 0) k&&!decide (k∈sl)) (List.range n);rw[yM]at hfl;have a5:=zcK (l:=(List.range n).filter λk=>g (sl.getD t 0) k&&!decide (k∈sl));walk_at "x";refine zs1 q J ⋯ λN b4 h4=>?_;walk_at "x";refine⟨_,rfl,?_,∅⟩;rw[Rc.seq_succ (by rw[hs];exact b),hs,zjp];exact h4
 ·rename_i C
  have:=Rc.seq_end (g:=g) hi X ⋯
  rw[this]at f;walk_at "x";exact k p _ fp e2 f
def zgp(T:Txt K mg):T.d_closed_circle.Ok P w base 2 (zgm K):=by
 refine T.d_closed_circle.F.okN sc_closed_circle (by walk_at "l") λab A outer s H vs Q E hr h=>?_;obtain⟨a,b,n,as,F,ρ,rfl,ha,a7,hR,hb,h9,k⟩:=h;have U:(zan n ρ).length=n:=za8;refine⟨_,(ze (zu 2 sc_closed_circle (zK zd))
 (ze (z5 PassesOwn.never rfl (zaz rfl T.z_range (za (zaL K T.z_len (za (pv 1) zd)) zd)) (zC (i:=3) sc_closed_circle.nd rfl (Or.inl rfl))
 (ze (zu 4 sc_closed_circle (qD T.d_reach_of (zlw (base:=base) T) hr (za (pv 0) (za (pv 3) zd))))
 (zi (zI (zaq K (zax (show CallR _ _ (zj0 K)from zn5 rfl) rfl T.z_all BT.all (za (qC1 ["other", "ranks"] [none,some 1] (zP K (pv 4)) (λ_ _ _ _ _=>(zaJ zfR (qIx K (pv 1) (pv 0)) zbj (nomark _)))) zd)))
 (zi (zS (qAp K (pv 2) (za (pv 4) zd))))
 zD))))
 (zi (zm (show PE _ _ (zme K _)from znM rfl (by rfl) T.z_min BT.min (by rfl) T.z_len BT.len (za (pv 2) zd)))))),?_⟩
 refine zp (σ0:=[some (.ref a),some (.ref b),none,none,none]) rfl ?_;walk_at "x";rename_i cs H1 ad e1 a5;generalize hg:(λi j=>decide (0<F i j))=g at k;have aa:∀i j,g i j=decide (0<F i j):=λi j=>by rw[<- hg]
 refine zbG (n:=((zan n ρ).length:Int).toNat) (λi Y H'=>∃(f3 X:Option V) (f:List Addr),Y=[some (.ref a),some (.ref b),some (.ref cs),f3,X]/\H' cs=some (.lst (f.map V.ref))/\cs∉f/\(∀c∈f,H c=none)/\f.length<=i/\LsOf H' f (((List.range i).map (Rc.reach n g)).filter λl=>l.all λi=>(ρ i).isSome)/\Same H H') ⟨_,_,[],rfl,a5,(λz=>nomatch z),(λ_ z=>nomatch z),yh _,LsOf.nil,e1⟩ ?_ ?_
 ·rintro i Y H2 hi ⟨f3,X,f,rfl,d,q,r,S,v,e2⟩;have ei:(0:Int)+(i:Int)=i:=by lia
  rw[yx,U]at hi;have ae:=e2.at ha;have af:=hR.same e2;have Z:=e2.at hb;rw[ei];walk_at "x";rename_i p1 H3 N y B;rw[hg]at B;have er:((List.range (i+1)).map (Rc.reach n g)).filter (λl=>l.all λi=>(ρ i).isSome)=((List.range i).map (Rc.reach n g)).filter (λl=>l.all λi=>(ρ i).isSome)++if((Rc.reach n g i).all λi=>(ρ i).isSome)=true then[Rc.reach n g i] else[]:=by
   rw[yO,yj,ybr,yY,zrD]
  rw[er];have a6:∀x∈Rc.reach n g i,x<n:=λx W=>Rc.reach_lt hi W;have ac:(Rc.reach n g i).length<=n:=Rc.seq_len (g:=g) hi n;generalize Rc.reach n g i=rl at *
  have a0:=y.at Z;refine zH (zO (K:=K) (a:=p1) (xs:=zbm rl)) (λH' e=>SqL.of (e.at B)) rfl (λj vs _=>vs=((rl.take j).map λx=>(ρ x).isSome).map V.bl) (λH' _=>rfl) ?_ ?_
  ·rintro j x D vs o H4 H5 I hD L hv O rfl e5 W;rw[zcK]at I;rw[ziV I]at W;cases W;have a2:=zlY I a6;have ag:=(L.trans e5).at a0;have a9:atI (zan n ρ) ((rl.getD j 0:Nat):Int)=some (zcn (ρ (rl.getD j 0))):=zap (zbo a2);walk_at "x";rename_i H6 b6 h6;rw[zkK,show(!(ρ (rl.getD j 0)).isNone)=(ρ (rl.getD j 0)).isSome by cases ρ (rl.getD j 0)<;>rfl]at h6;refine⟨⟨_,rfl⟩,∅,_,h6,by rw[yf];exact ye O,?_⟩;dsimp only;have a1:rl[j]?=some (rl.getD j 0):=by rw[yi,yr I];rfl
   rw[zar a1,yj,yj];rfl
  ·rintro D H4 vs hD L hv O rfl;rw[zcK,yz]at hv;have a8:(f.map V.ref).length<=100000:=by rw[yb];lia
   have ea:((rl.map λx=>(ρ x).isSome).all id)=rl.all λi=>(ρ i).isSome:=by rw[List.all_map];rfl
   have R:H4 cs=some (.lst (f.map V.ref)):=(y.trans L).at d;have G:=y.trans L;walk_at "x"
   ·rename_i t H5 b5 h5;rw[ea]at t;have J:p1≠cs:=zbw N d;refine⟨_,_,f++[p1],rfl,by rw[h5,yj];rfl,λz=>?_,λc u=>?_,by rw[yf];simp only[yW];lia,?_,∅⟩
    ·rcases yA.mp z with h | h
     ·exact q h
     ·exact J (yp.mp h).symm
    ·rcases yA.mp u with h | h
     ·exact r c h
     ·rw[yp.mp h];exact Same.none N e2
    ·rw[if_pos t];exact((v.same G).but b5 q).snoc (b5.lst (L.at B) J)
   ·rename_i hno;rw[ea]at hno;rw[if_neg (by rw[hno];decide),y6];exact⟨_,_,f,rfl,R,q,r,yas S,v.same G,e2.trans G⟩
 ·rintro Y H2 ⟨f3,X,f,rfl,d,q,r,S,v,e2⟩;rw[yx,U]at v;have a4:∀c∈((List.range n).map (Rc.reach n g)).filter (λl=>l.all λi=>(ρ i).isSome),c.length<=n:=λc u=>by
   obtain⟨i,hi,rfl,_⟩:=Rc.mem_circles.mp u;exact Rc.seq_len (g:=g) hi n
  have a3:Rc.circle n g (λi=>(ρ i).isSome)=Rc.minL (((List.range n).map (Rc.reach n g)).filter λl=>l.all λi=>(ρ i).isSome):=rfl;rw[a3]at k;generalize (((List.range n).map (Rc.reach n g)).filter λl=>l.all λi=>(ρ i).isSome)=C at *
  show(zj3 (zk5 2) zfE) _ _ (zmu K _)
  walk_at "x";refine⟨cs,f,λi=>(C.getD i []).length,rfl,SqL.of d,λi c u=>?_,λp H3 fp y hp=>⟨λhn=>?_,λi c u M=>?_⟩⟩
  ·obtain⟨l,h1,h2⟩:=v.2 i c u;have e:C.getD i []=l:=by rw[yi,h1];rfl
   have:=a4 l (ym h1)
   exact⟨_,h2,by rw[zcK];exact(congrArg List.length e).symm,by show(C.getD i []).length<=16000;rw[e];lia⟩
  ·have hC:C=[]:=yaE (by rw[<- v.1,hn];rfl);rw[hC]at k;exact k p H3 (Same.none fp e2) (e2.trans y) hp
  ·obtain⟨l,h1,h2⟩:=v.2 i c u;have e:C.getD i []=l:=by rw[yi,h1];rfl
   have em:=zr1 h1 λj m hm=>by
    have I:j<f.length:=by rw[v.1];exact(yk.mp hm).1
    have:=M j I
    dsimp only at this;rw[e,show C.getD j []=m by rw[yi,hm];rfl]at this;exact this
   rw[em]at k;exact k c H3 (r c (ym u)) (e2.trans y) (y.at h2)
def zfZ(T:Txt K mg):T.d_circling_rates.Ok P w base 4 zcU:=by
 refine T.d_circling_rates.F.okN zf0 (λvs H Q E h=>h.elim) (λa A outer s H vs Q E b h=>h.elim)
def zkv(T:Txt K mg):T.d_grown.Ok P w base 3 (zmx K):=by
 refine T.d_grown.F.okN zp7 (by walk_at "l") λO A outer s H vs Q E J h=>?_;obtain⟨d,e,s,n,l,r,t,us,ws,rfl,hd,C,W,M,V,h9,z0,hz,k⟩:=h;have hwl:=M.length;rw[yb,yM]at hwl;have z:=C.length;rw[yb,yM]at z;refine⟨_,(zi (zm (qC2 K ["lay", "rate", "step"] [none,none,some 2] (show PI _ _ _ (zqh K _)from zpo rfl T.z_zip (za (pv 0) (za (pv 1) zd))) (λ_ _ _ _ _=>(qD T.d_plus (zd2 (base:=base) T) J (za (pv 0) (za (qD T.d_times (zdc (base:=base) T) J (za (pv 1) (za (pv 2) zd))) zd))))))),?_⟩;refine zp (σ0:=[some (.ref d),some (.ref e),some (.ref s)]) rfl ?_;walk_at "x";refine zai (zlZ (K:=K) (a:=d) (b:=e) (xs:=us) (ys:=ws)) (λH' e=>⟨SqL.of (e.at hd),SqL.of (e.at W)⟩) rfl (λi vs H'=>IsQs H' vs ((List.range i).map λi=>l i+r i*t)) (λH' _=>trivial) ?_ ?_
 ·rintro i x D vs o o' B H4 hi q c N f m j ⟨p,v,w',rfl,Z,hy,Y⟩;have g:i<n:=by lia
  obtain⟨g1,y1,rfl,h1,h2⟩:=(C.same (c.trans j)).get Z;obtain⟨g2,y2,rfl,G,h4⟩:=(M.same (c.trans j)).get hy;rw[yg,yay g]at h1 G;cases h1;cases G;have R:=(c.trans j).isQ V;obtain⟨o1,o2,o3⟩:=hz i g;walk_at "x";rename_i p1 H5 L U p2 H6 I y X u S;refine⟨⟨_,_,rfl⟩,u.same (((c.trans j).trans L).trans I) q,_,S,by rw[yf];exact ye f,?_⟩;show IsQs X _ ((List.range (i+1)).map _);rw[yO,yj,yY];exact IsQs.app (LBut.isQ u y) (LBut.isQs u (m.same ((j.trans L).trans I)))
 ·rintro D B vs q c N f m;rw[show min us.length ws.length=n by lia]at m;exact k D B vs q c N m
def zgV(T:Txt K mg):T.d_cleared.Ok P w base 5 (zeE K):=by
 refine T.d_cleared.F.okN sc_cleared (by walk_at "l") λbw A outer s H vs Q E f h=>?_;obtain⟨a,u,ps,n,rfl,hS,hu,hl,h9,k⟩:=h;have a1:(ps.map V.int).length=n:=by rw[yb];exact hl
 have ba:∀d∈([]:List Internal.Due),zaF ((ps.map V.int).length:Int) d:=λ_ h=>nomatch h;have b9:∀d∈([]:List Internal.Due),zaF (n:Int) d:=λ_ h=>nomatch h;refine⟨_,(ze (zu 2 sc_cleared (qD T.d_ranked (zfc (base:=base) T) f (za (zaL K T.z_len (za (pv 1) zd)) (za (pv 0) zd))))
 (ze (qS1 3 sc_cleared ["purse"] [none] (zP K (pv 1)) (λ_ _ _ _ _=>(zE (za zh (za zh zd)))))
 (ze (zu 4 sc_cleared (zE (za zh (za zh zd))))
 (zi (zdl PassesOwn.never (zaq K zbi)
 (ze (zct (i:=5) sc_cleared.nd rfl rfl rfl (zav K T.z_enumerate (za (pv 3) zd)) (zak (Ni:=["member", "lay", "owed"]) (caps:=[none,none,some 2]) (by rfl)) (λS _ _ _ _ _=>(show PG _ _ (zaP K 2 _)from zas (n:=2) rfl (zx (zaf (gi:=0) S (Or.inl rfl) rfl) (zx (zaf (gi:=1) S (Or.inl rfl) rfl) zah)))) (λ_ _ _ _ _=>zeb) (λ_ _ _ _ _=>(qD T.d_stop_of (zhF (base:=base) T) f (za (qIx K (pv 2) (pv 0)) (za (pv 1) zd)))))
 (ze (zu 6 sc_cleared (qD T.d_flows_of (zlF (base:=base) T) f (za (pv 0) (za (pv 5) zd))))
 (ze (zu 7 sc_cleared (qD T.d_closed_circle (zgp (base:=base) T) f (za (pv 6) (za (pv 5) zd))))
 (zi (zI (zw (qNe K f.units) (pv 7) (zK zd) (nomark _))
 (ze (zu 8 sc_cleared (qD T.d_circling_rates (zfZ (base:=base) T) f (za (pv 6) (za (pv 7) zd))))
 (zi (zu 3 sc_cleared (qD T.d_grown (zkv (base:=base) T) f (za (pv 3) (za (pv 8) (za (qD T.d_least_room (zeT (base:=base) T) f (za (pv 2) (za (pv 5) (za (pv 3) (za (pv 8) zd))))) zd)))))))
 (zi (zI (zw (qEq K f.units) (pv 4) (zE (za zh (za zh zd))) (nomark _))
 (zi (zm (pv 3)))
 (ze (zu 8 sc_cleared (qD T.d_opening_rates (zgC (base:=base) T) f (za (pv 6) (za (pv 5) (za (pv 1) zd)))))
 (ze (zu 9 sc_cleared (qD T.d_least_room (zeT (base:=base) T) f (za (pv 2) (za (pv 5) (za (pv 3) (za (pv 8) zd))))))
 (ze (zu 10 sc_cleared (qD T.d_minus (zda (base:=base) T) f (za (zE (za zh (za zh zd))) (za (pv 4) zd))))
 (ze (zu 9 sc_cleared (zbq (zw zg7 (pv 9) zbj (nomark _)) (pv 10) (qD T.d_least (zgo (base:=base) T) f (za (pv 9) (za (pv 10) zd)))))
 (ze (zu 3 sc_cleared (qD T.d_grown (zkv (base:=base) T) f (za (pv 3) (za (pv 8) (za (pv 9) zd)))))
 (zi (zu 4 sc_cleared (qD T.d_plus (zd2 (base:=base) T) f (za (pv 4) (za (pv 9) zd)))))))))))))))))))))),?_⟩
 refine zp (σ0:=[some (.ref a),some (.ref u),none,none,none,none,none,none,none,none,none]) rfl ?_;walk_at "x";rename_i ow H1 as bl e1 ao aj hR hF;have ah:=e1.at hu;rw[yx,a1]at aj;refine zH (zO (K:=K) (a:=u) (xs:=ps.map V.int)) (λH' e=>SqL.of (e.at ah)) rfl (λi vs H'=>IsQs H' vs (zQs i)) (λH' _=>trivial) ?_ ?_
 ·rintro i x D vs o H2 H3 hi hD e2 hv I W C hx;rw[a1]at hi;walk_at "x";refine zaG (q:=(0:Rat)) ⟨rfl,rfl⟩ ?_;intro p H4 O hp;have bc:=(C.trans O).at hv;walk_at "x";rename_i H5 b5 h5;refine⟨⟨_,rfl⟩,b5.same ((e2.trans C).trans O) hD,_,h5,by rw[yf];exact ye I,?_⟩;show IsQs H5 _ ((List.range (i+1)).map _);rw[yO,yj,yY];exact IsQs.app (LBut.isQ b5 hp) (LBut.isQs b5 (W.same (C.trans O)))
 rintro y H2 vs R e2 hla I W;rw[a1]at W;walk_at "x";refine zaG (q:=(0:Rat)) ⟨rfl,rfl⟩ ?_;intro J H3 C U;walk_at "x";refine⟨λm σ H'=>∃(t:Rat) (y J:Addr) (ws:List V) (f5 f6 f7 f8 f9 G:Option V),σ=[some (.ref a),some (.ref u),some (.ref ow),some (.ref y),some (.ref J),f5,f6,f7,f8,f9,G]/\H' y=some (.lst ws)/\IsQs H' ws (zQs n)/\IsQ H' J t/\H y=none/\Same H1 H'/\(t=0/\m=1\/t=1/\m=0),⟨1,0,y,J,vs,_,_,_,_,_,_,rfl,C.at hla,W.same C,U,Same.none R e1,e2.trans C,.inl ⟨rfl,rfl⟩⟩,?_⟩;clear U hla W I C e2 R y J vs H2 H3;rintro m σ H2 ⟨t,y,J,ws,f5,f6,f7,f8,f9,G,rfl,hla,W,U,R,e2,ht⟩;have hwl:=W.length;rw[zcV]at hwl;have ay:=hR.same e2;have ac:=e2.at ao;walk_at "x";refine⟨λσ' H'=>∃(y J:Addr) (ws:List V) (f5 f6 f7 f8 f9 G:Option V),t=0/\σ'=[some (.ref a),some (.ref u),some (.ref ow),some (.ref y),some (.ref J),f5,f6,f7,f8,f9,G]/\H' y=some (.lst ws)/\IsQs H' ws (zQs n)/\IsQ H' J 1/\H y=none/\Same H1 H',?_,?_⟩
 ·rintro σ' H' ⟨y,J,ws,f5,f6,f7,f8,f9,G,rfl,rfl,i1,i2,i3,i4,i5⟩;rcases ht with⟨_,rfl⟩ | ⟨z,_⟩
  ·exact⟨0,Nat.zero_lt_one,1,y,J,ws,f5,f6,f7,f8,f9,G,rfl,i1,i2,i3,i4,i5,.inr ⟨rfl,rfl⟩⟩
  ·exact absurd z (by decide)
 walk_at "x";refine zai (zU (K:=K) (a:=y) (xs:=ws)) (λH' e=>SqL.of (e.at hla)) rfl (λj vs _=>vs=zan j λ_=>none) (λH' _=>rfl) ?_ ?_
 ·rintro j x D vs o o' H3 H4 hj hD C hv I rfl O ⟨tt,v,rfl,hx,aw⟩;obtain⟨g,q,rfl,a8,bq⟩:=(W.same (C.trans O)).get hx;rw[zfK ⋯]at a8;cases a8;have br:H4 tt=some (.tup [.int (j:Int),.ref g]):=aw;obtain⟨c,hc⟩:=zN (show j<as.length by lia);have bi:atI (as.map V.ref) (j:Int)=some (.ref c):=zap (by rw[yg,hc];rfl);have b8:=(C.trans O).at ac;have bt:=(ay.same (C.trans O)).2 _ _ hc;have bh:∀r,r<3->0<=zX [] j r/\zX [] j r<=100000000000000:=λr _=>⟨yD 0,by show(0:Int)<=_;decide⟩
  have zq:SzQ (0:Rat) 60000 60000:=zgY;walk_at "x";rename_i H5 e5 H6 b6 h6;refine⟨⟨_,_,rfl⟩,∅,_,h6,by rw[yf];exact ye I,?_⟩;dsimp only;rw[ziY,zn2]
 rintro ra H3 vs bn C ab I rfl;rw[hwl]at ab;have be:IsSh K H3 a []:=by walk_at "h"
 walk_at "x";rename_i fl H4 bs bp O hfl ax bm bo ci H5 bd e5 ak em H6 bv e6 an;have b0:Rc.circle n (λi j=>decide (0<zbM (λ_=>none) [] i j)) (λ_=>(none:Option Nat).isSome)=[]:=zlI λ_=>rfl;have ag:H5 ci=some (.lst []):=by
  have:=ak
  rw[b0]at this;exact this
 refine zgt (ns:=[]) (ms:=[]) (SqL.of (e6.at ag)) (SqL.of an) rfl ?_;have L:=C.trans ((O.trans e5).trans e6);have Y:=L.isQ U;have Z:=L.at hla;have aa:=W.same L;have ad:=(e5.trans e6).at hfl;have ae:=((O.trans e5).trans e6).at ab;have av:=(e2.trans L).at ah;walk_at "x";refine zaG (q:=(1:Rat)) ⟨rfl,rfl⟩ ?_;intro t1 H7 N az;refine zuV (N.isQ Y) az ?_;have a5:=(e2.trans L).trans N;walk_at "x"
 ·rename_i h1;exact k y H7 ws R (e1.trans a5) (N.at Z) (aa.same N)
 ·rename_i h1;have t0:t=0:=by
   rcases ht with⟨z,_⟩ | ⟨z,_⟩
   ·exact z
   ·exact absurd z h1
  subst t0;have b2:(bs.map V.ref).length=n:=by rw[yb];exact ax
  have b3:=N.at ad;have b7:=N.at ae;have bb:=N.at av;have am:OkQ (1:Rat):=(zra (x:=1) zbJ).ok (by decide) (by decide);have a2:OkQ (0:Rat):=zru;have X:(1:Rat)-0=1:=by grind
  have bf:SzQ ((1:Rat)-0) 60000 60000:=by rw[X];exact(zra (x:=1) zbJ).mono (by decide) (by decide)
  have oks:OkQ ((1:Rat)-0):=by rw[X];exact am
  walk_at "x";rename_i rt H8 rs bg e8 al hrs H9 e9;refine zaG (q:=(1:Rat)) ⟨rfl,rfl⟩ ?_;intro t2 bu M bj;have b:=(e8.trans e9).trans M;have a3:=(N.trans b).isQ Y;have a4:=(N.trans b).at Z;have af:=aa.same (N.trans b);have a0:=(e9.trans M).at al;have a6:=hrs.same (e9.trans M);walk_at "x"
  ·rename_i sh ar B a9 _;refine zoI (l:=λ_=>0) (r:=λ_=>0) (B.at a4) (af.same B) (B.at a0) (a6.same B) a9 h9 oks (λi hi=>⟨a2,a2,by rw[Rat.zero_mul];exact a2⟩) ?_;intro gr Ha gs aq ea a7 ai;have b4:=(B.trans ea).isQ a3;have b1:=ea.isQ a9;walk_at "x";rename_i np Hb eb ap;have au:Same H ar:=(e1.trans a5).trans (b.trans B);refine⟨gr,np,gs,_,_,_,_,_,_,rfl,rfl,eb.at a7,?_,?_,Same.none aq au,(a5.trans (b.trans B)).trans (ea.trans eb)⟩
   ·have:zQs n=(List.range n).map λ_=>(0:Rat)+0*(1-0):=ybj λ_ _=>by grind
    rw[this];exact ai.same eb
   ·have:(1:Rat)=0+(1-0):=by grind
    rw[this];exact ap
  ·contradiction
def zeV(T:Txt K mg):T.d_amounts_of.Ok P w base 1 (zdO K):=by
 refine T.d_amounts_of.F.okN zjQ (by walk_at "l") λu A outer s H vs Q E L h=>?_;obtain⟨a,ds,rfl,⟨xs,G,t⟩,h1,k⟩:=h;have j:=t.length;refine⟨_,(zi (zm (qC1 ["due"] [none] (zP K (pv 0)) (λ_ _ _ _ _=>(qIx K (pv 0) zh))))),?_⟩;refine zp (σ0:=[some (.ref a)]) rfl ?_;walk_at "x";refine zH (zO (K:=K) (a:=a) (xs:=xs)) (λH' e=>e.seq G) rfl (λi vs _=>vs=((ds.take i).map Due.a).map V.int) (λH' _=>rfl) ?_ ?_
 ·rintro i x D vs o n z hi m f l c rfl y C;obtain⟨b,d,rfl,g,I⟩:=(t.same (f.trans y)).get C;have B:z b=some (.tup [.int d.p,.int d.q,.int d.r,.int d.a]):=I;walk_at "x";rename_i J M v;exact⟨⟨_,rfl⟩,∅,_,v,by rw[yf];exact ye c,by show _=((ds.take (i+1)).map Due.a).map V.int;rw[zar g,yj,yj];rfl⟩
 ·rintro D n vs m f l c rfl;rw[j,yz]at l;exact k D n m f l
def zcc(T:Txt K mg):T.d_with_amounts.Ok P w base 1 (zk2 K):=by
 refine T.d_with_amounts.F.okN zhd (by walk_at "l") λL A outer s H vs Q E hr h=>?_;obtain⟨a,b,ds,ms,rfl,⟨xs,Z,G⟩,hM,hl,h1,k⟩:=h;have z:=G.length;refine⟨_,(zi (zm (qC2 K ["number", "due", "amounts"] [none,none,some 1] (zav K T.z_enumerate (za (pv 0) zd)) (λ_ _ _ _ _=>(zE (za (qIx K (pv 1) zh) (za (qIx K (pv 1) zh) (za (qIx K (pv 1) zh) (za (qIx K (pv 2) (pv 0)) zd))))))))),?_⟩;refine zp (σ0:=[some (.ref a),some (.ref b)]) rfl ?_;walk_at "x";refine zai (zU (K:=K) (a:=a) (xs:=xs)) (λH' e=>e.seq Z) rfl (λi vs H'=>IsTs zid H' vs ((zbK ds λi=>ms.getD i 0).take i)) (λH' _=>trivial) ?_ ?_
 ·rintro i x D vs o o' C S hi B j I g l R ⟨t,v,rfl,W,X⟩;obtain⟨c,d,rfl,y,hc⟩:=(G.same (j.trans R)).get W;have J:S c=some (.tup [.int d.p,.int d.q,.int d.r,.int d.a]):=hc;have n:i<ms.length:=by lia
  have Y:atI (ms.map V.int) (i:Int)=some (.int (ms.getD i 0)):=ziw ⋯ (by rw[yx];exact zkt n);walk_at "x";rename_i t N ft e5 U M b6 O;have u:N t=some (.tup (zid ⟨d.p,d.q,d.r,ms.getD i 0⟩)):=U;refine⟨⟨_,_,rfl⟩,∅,_,O,by rw[yf];exact ye g,?_⟩;show IsTs zid M _ (List.take (i+1) _);rw[zmX y];exact IsTs.app (f:=zid) (b6.tup u) ∅
 ·rintro D C vs B j I g l;rw[z,<- zoM (m:=λi=>ms.getD i 0),yz]at l;exact k D C vs B j I l
def zjM(T:Txt K mg):T.d_dues_among.Ok P w base 1 (ziE K):=by
 refine T.d_dues_among.F.okN sc_dues_among (by walk_at "l") λO A outer s H vs Q E hr h=>?_;obtain⟨a,b,ds,n,g,rfl,⟨xs,hS,N⟩,X,hn,hl,hd,k⟩:=h;have D:=N.length;have G:(bls n g).length=n:=zmm;refine⟨_,(ze (zu 2 sc_dues_among (zt zab (zK (za zbj zd)) (zaL K T.z_len (za (pv 1) zd))))
 (ze (z5 PassesOwn.never rfl (zav K T.z_enumerate (za (pv 0) zd)) (show PG _ _ (zaP K 2 _)from zas (n:=2) rfl (zx (zC (i:=3) sc_dues_among.nd rfl (Or.inl rfl)) (zx (zC (i:=4) sc_dues_among.nd rfl (Or.inl rfl)) zah)))
 (zi (zI (PW.pt (za0 (zw zbO (qIx K (pv 4) zh) zh (nomark _)) (za0 (zaq K (qIx K (pv 1) (qIx K (pv 4) zh))) (za3 (zaq K (qIx K (pv 1) (qIx K (pv 4) zh)))))))
 (zi (zdj (pv 3) (zcZ (pv 2) (qIx K (pv 4) zh) zay)))
 zD)))
 (zi (zm (pv 2))))),?_⟩
 refine zp (σ0:=[some (.ref a),some (.ref b),none,none,none]) rfl ?_;walk_at "x";rename_i l0 H0 Y e0 a2 l H1 fl e1 j;rw[yx,G]at j;refine zb9 (zU (K:=K) (a:=a) (xs:=xs)) (λi x H'=>∃I C,x=[some (.ref a),some (.ref b),some (.ref l),I,C]/\H' l=some (.lst (zan n (zcs ds g i)))/\Same H H') ?_ ?_ ?_ ?_
 ·exact⟨_,_,rfl,j,∅⟩
 ·rintro i x H' ⟨_,_,_,_,e⟩;exact e.seq hS
 ·rintro i y x R Z hi ⟨I,C,rfl,f,u⟩ B ⟨t,v,rfl,hv,ht⟩;obtain⟨c,d,rfl,o,hc⟩:=(N.same (u.trans B)).get hv;have V:Z c=some (.tup [.int d.p,.int d.q,.int d.r,.int d.a]):=hc;obtain⟨J,p1,U,q1,pq,r0,r1,a0,a1⟩:=hd d (ym o);have M:atI (bls n g) d.p=some (.bl (g d.p.toNat)):=zbd J (zd3 ⋯);have L:atI (bls n g) d.q=some (.bl (g d.q.toNat)):=zbd U (zd3 ⋯);have S:=(u.trans B).seq X;have es:∀m,zcs ds g (i+1) m=if useful g m d then some i else zcs ds g i m:=zoH o
  walk_at "x"
  ·rename_i h1 h2 W;refine zg8 ∅ (show ixN (zan n (zcs ds g i)).length d.p=some d.p.toNat by rw[za8];exact zo6 J ⋯) λH5 b5 h5=>?_;refine⟨_,_,rfl,?_,∅⟩;rw[h5];show some (HO.lst ((zan n (zcs ds g i)).set d.p.toNat (zcn (some i))))=_;rw[zpO];congr 2;refine zhN λm hm=>?_;rw[es m];by_cases e:m=d.p.toNat
   ·rw[if_pos e,if_pos ⟨⋯,h1,h2,W⟩]
   ·rw[if_neg e,if_neg (λz=>e (by have:=z.1;lia))]
  all_goals
   refine⟨_,_,rfl,?_,∅⟩;rw[B.at f];congr 2;refine zhN λm hm=>?_;rw[es m,if_neg]
   rintro⟨z1,z2,z3,z4⟩
   simp_all
 ·rintro x R ⟨I,C,rfl,f,u⟩;rw[D]at f;walk_at "x";exact k _ _ ∅ u f
def zhX(T:Txt K mg):T.d_ways_onward.Ok P w base 2 (zk3 K):=by
 refine T.d_ways_onward.F.okN sc_ways_onward (by walk_at "l") λB A outer s H vs Q E W h=>?_;obtain⟨n,a,ds,rfl,hS,n0,n1,hl,hd,k⟩:=h;have J:∀d∈ds,zaF (n.toNat:Int) d:=by rw[show(n.toNat:Int)=n by lia];exact hd
 refine⟨_,(ze (zu 2 sc_ways_onward (zt zab (zK (za zbi zd)) (pv 0)))
 (ze (zu 3 sc_ways_onward (zt zab (zK (za zbj zd)) (pv 0)))
 (ze (z5 PassesOwn.never rfl (zaz rfl T.z_range (za (pv 0) zd)) (zC (i:=4) sc_ways_onward.nd rfl (Or.inl rfl))
 (ze (zu 3 sc_ways_onward (qD T.d_dues_among (zjM (base:=base) T) W (za (pv 1) (za (pv 2) zd))))
 (zi (qS1 2 sc_ways_onward ["number"] [none] (zP K (pv 3)) (λ_ _ _ _ _=>(zaJ zfR (pv 0) zbj (nomark _)))))))
 (zi (zm (pv 3)))))),?_⟩
 refine zp (σ0:=[some (.int n),some (.ref a),none,none,none]) rfl ?_;walk_at "x";rename_i l0 H0 R e0 Y go H1 O e1 L l1 H2 N e2 M on H3 I e3 m;refine zbG (λi l H'=>∃(g o:Addr) (f:Option V),l=[some (.int n),some (.ref a),some (.ref g),some (.ref o),f]/\H' g=some (.lst (bls n.toNat (goF ds i)))/\H' o=some (.lst (zan n.toNat (zcv ds i)))/\Same H H'/\H o=none) ?_ ?_ ?_
 ·exact⟨_,_,_,rfl,∅,m,∅,∅⟩
 ·rintro i l S hi ⟨g,o,f,rfl,X,v,r,u⟩;walk_at "x";rename_i p H5 fp e5 hp;refine zH (zO (K:=K) (a:=p) (xs:=zan n.toNat (zcv ds (i+1)))) (λH' e=>SqL.of (e.at hp)) rfl (λj vs _=>vs=bls j (goF ds (i+1))) (λH' _=>rfl) ?_ ?_
  ·rintro j x D vs o2 G H7 t C U q b rfl Z y;have c:j<n.toNat:=by rw[za8]at t;exact t
   rw[zbo c]at y;cases y;walk_at "x";rename_i H8 b8 z;refine⟨⟨_,rfl⟩,∅,_,z,by rw[yf];exact ye b,?_⟩;show _=bls (j+1) _;rw[zey,zkK];congr 2;show V.bl (!(zcv ds (i+1) j).isNone)=V.bl ((zcv ds (i+1) j).isSome);cases zcv ds (i+1) j<;>rfl
  ·rintro D G vs C U q b rfl;rw[za8]at q;exact⟨_,_,_,rfl,q,∅,∅,∅⟩
 ·rintro l S ⟨g,o,f,rfl,X,v,r,u⟩;walk_at "x";exact k _ _ u r v
def zjo(T:Txt K mg):T.d_a_ring.Ok P w base 3 (zhZ K):=by
 refine T.d_a_ring.F.okN sc_a_ring (by walk_at "l") λe A outer s H vs Q E c h=>?_;obtain⟨n,a,rfl,R,X,n1,k⟩:=h;have Y:([]:List Internal.Due).length<=1000:=yI _;have hd:∀d∈([]:List Internal.Due),zaF n d:=λ_ h=>nomatch h;refine⟨_,(ze (zu 2 sc_a_ring (qD T.d_ways_onward (zhX (base:=base) T) c (za (pv 0) (za (pv 1) zd))))
 (ze (zct (i:=3) sc_a_ring.nd rfl rfl rfl (zaz rfl T.z_range (za (pv 0) zd)) (zak (Ni:=["member", "onward"]) (caps:=[none,some 2]) (by rfl)) (λS _ _ _ _ _=>(zaf (gi:=0) S (Or.inl rfl) rfl)) (λ_ _ _ _ _=>(zd5 (zw zfR (qIx K (pv 1) (pv 0)) zbj (nomark _)))) (λ_ _ _ _ _=>(pv 0)))
 (ze (zI (zw (qEq K c.units) (pv 3) (zK zd) (nomark _))
 (zi (zm (zK zd)))
 zD)
 (ze (zu 4 sc_a_ring (zK zd))
 (ze (zu 5 sc_a_ring (qIx K (pv 3) zh))
 (ze (zdl PassesOwn.never (zw (show OpR _ (compareOp .NotIn) (rIn K true)from zb6) (pv 5) (pv 4) (by with_unfolding_all rfl))
 (ze (zS (qAp K (pv 4) (za (pv 5) zd)))
 (zi (zu 5 sc_a_ring (qIx K (qIx K (pv 1) (qIx K (pv 2) (pv 5))) zh)))))
 (zi (zm (qC1 ["payer", "onward"] [none,some 2] (zP K (zbR (show SlR _ (zc5 K)from zcq) (pv 4) (zcp (show PE _ _ (tBM K _ _ _ _)from zjX yam PySem.F.slot_list_index PySem.F.type_list_index zqs (pv 4) (za (pv 5) zd))) zcr)) (λ_ _ _ _ _=>(qIx K (pv 1) (pv 0)))))))))))),?_⟩
 refine zp (σ0:=[some (.int n),some (.ref a),none,none,none,none]) rfl ?_;walk_at "x";rename_i on H1 f e1 m;refine zH zdB (λ_ _=>trivial) rfl (λj vs _=>vs=[]) (λH' _=>rfl) ?_ ?_
 ·rintro j x D vs V G M o C O W b rfl z rfl;have q:atI (zan n.toNat (zcv [] n.toNat)) ((0:Int)+(j:Int))=some .non:=zbd ⋯ (by rw[show((0:Int)+(j:Int)).toNat=j by lia,zbo o,zvi];rfl);walk_at "x"
  ·rename_i h L U y;exact absurd rfl h
  ·exact⟨⟨_,rfl⟩,∅,_,∅,yas b,rfl⟩
 rintro N H2 vs u e2 r b rfl;walk_at "x";rename_i v I l B t;refine zln (ns:=[]) (ms:=[]) ∅ ∅ rfl ?_;walk_at "x";rename_i p g fp J hp;exact k p g ∅ ∅ hp
def zt6(T:Txt K mg):T.d_cut.Ok P w base 4 (zlg K):=by
 refine T.d_cut.F.okN sc_cut (by walk_at "l") λg A outer s H vs Q E b h=>?_;obtain⟨n,a,rfl,M,O,n1,k⟩:=h;have v:([]:List Internal.Due).length<=1000:=yI _;refine⟨_,(ze (zu 2 sc_cut (qD T.d_amounts_of (zeV (base:=base) T) b (za (pv 1) zd)))
 (ze (zu 3 sc_cut (zK zd))
 (ze (zu 4 sc_cut (qD T.d_a_ring (zjo (base:=base) T) b (za (pv 0) (za (pv 1) zd))))
 (ze (zdl PassesOwn.never (zw (qNe K b.units) (pv 4) (zK zd) (nomark _))
 (ze (zu 5 sc_cut (zax (show CallR _ _ (zrq K)from zof rfl) rfl T.z_min BT.min (za (qC1 ["number", "left"] [none,some 2] (zP K (pv 4)) (λ_ _ _ _ _=>(qIx K (pv 1) (pv 0)))) zd)))
 (ze (z5 PassesOwn.never rfl (zP K (pv 4)) (zC (i:=6) sc_cut.nd rfl (Or.inl rfl))
 (zi (zbz (pv 2) (pv 6) (show zdo _ (zbS K)from za6) (pv 5) zdd zay)))
 (ze (zS (qAp K (pv 3) (za (zE (za (pv 4) (za (pv 5) zd))) zd)))
 (zi (zu 4 sc_cut (qD T.d_a_ring (zjo (base:=base) T) b (za (pv 0) (za (qD T.d_with_amounts (zcc (base:=base) T) b (za (pv 1) (za (pv 2) zd))) zd)))))))))
 (zi (zm (zE (za (pv 2) (za (pv 3) zd))))))))),?_⟩
 refine zp (σ0:=[some (.int n),some (.ref a),none,none,none,none,none]) rfl ?_;walk_at "x";rename_i l H1 B e1 x c H2 J e2 o r D N y f;refine⟨λ_ σ H'=>σ=[some (.int n),some (.ref a),some (.ref l),some (.ref c),some (.ref r),none,none]/\H' l=some (.lst [])/\H' r=some (.lst [])/\Same H H',⟨0,rfl,∅,f,∅⟩,?_⟩;rintro m σ I ⟨rfl,t,d,G⟩;walk_at "x";rename_i z C R u q;refine zgt (ns:=[]) (ms:=[]) (SqL.of (u.at d)) (SqL.of q) rfl ?_;walk_at "x";refine zaA (by first | decide | simp) λp j fp L e=>?_;walk_at "x";exact k p l c j ∅ ∅ e ∅
def zqD(T:Txt K mg):T.d_stops.Ok P w base 3 (zhV K):=by
 refine T.d_stops.F.okN zlc (by walk_at "l") λO A outer s H vs Q E N h=>?_;obtain⟨a,y,ds,ws,qs,rfl,h,hd,hl,hy,M,h9,W,k⟩:=h;have hwl:=M.length;have a0:∀d∈ds,zaF (ws.length:Int) d:=by rw[hwl];exact λd h=>(hd d h).1
 refine⟨_,(ze (zu 2 zlc (qD T.d_ranked (zfc (base:=base) T) N (za (zaL K T.z_len (za (pv 1) zd)) (za (pv 0) zd))))
 (zi (zm (qC2 K ["member", "lay", "owed"] [none,none,some 2] (zav K T.z_enumerate (za (pv 1) zd)) (λ_ _ _ _ _=>(qD T.d_stop_of (zhF (base:=base) T) N (za (qIx K (pv 2) (pv 0)) (za (pv 1) zd)))))))),?_⟩
 refine zp (σ0:=[some (.ref a),some (.ref y),none]) rfl ?_;walk_at "x";rename_i U H1 as a1 e1 z u S hF;rw[yx]at u;have B:=M.same e1;have C:=e1.at hy;refine zai (zU (K:=K) (a:=y) (xs:=ws)) (λH' e=>SqL.of (e.at C)) rfl (λi vs _=>vs=zan i λm=>zbA (zX ds m) (qs.getD m 0) 3) (λH' _=>rfl) ?_ ?_
 ·rintro i x D vs o o' H2 J hi I e2 G f rfl p ⟨t,v,rfl,hx,R⟩;obtain⟨b,q,rfl,l,hb⟩:=(B.same (e2.trans p)).get hx;have Y:J t=some (.tup [.int (i:Int),.ref b]):=R;obtain⟨c,hc⟩:=zN (show((i:Int)).toNat<as.length by lia);have g:=(S.same (e2.trans p)).2 _ _ hc;rw[yx]at g;have hf:∀j,j<3->0<=zX ds i j/\zX ds i j<=100000000000000:=λj _=>by
   have:=zgy (m:=i) (r:=j) ds λd h=>⟨(hd d h).1.2.2.2.2.2.2.2.1,(hd d h).2⟩
   lia
  have X:=W q (ym l);have L:J U=some (.lst (as.map V.ref)):=(e2.trans p).at z;have n:qs.getD i 0=q:=by rw[yi,l];rfl
  walk_at "x";rename_i H4 e4 H5 b5 Z;refine⟨⟨_,_,rfl⟩,∅,_,Z,by rw[yf];exact ye f,?_⟩;dsimp only;rw[ziY,n]
 ·rintro D H2 vs I e2 G f rfl;rw[hwl]at G;exact k D H2 (Same.none I e1) (e1.trans e2) G
def zlP(T:Txt K mg):T.d_safe_cut.Ok P w base 6 (zio K):=by
 refine T.d_safe_cut.F.okN sc_safe_cut (by walk_at "l") λR A outer s H vs Q E j h=>?_;obtain⟨a,u,ps,n,rfl,⟨xs,L,J⟩,hu,p,n1,n9,k⟩:=h;have z:xs.length=0:=J.length;obtain rfl:xs=[]:=yT.mp z;have r:IsSh K H a []:=⟨[],L,J⟩
 have ab:∀d∈([]:List Internal.Due),zaF ((zQs n).length:Int) d/\d.a<=1000000000000:=λ_ h=>nomatch h;have a4:∀q∈zQs n,SzQ q 60000 60000:=λq hq=>by
  obtain⟨_,_,rfl⟩:=yaw.mp hq;exact zgY
 have a0:(zQs n).length=n:=zcV;refine⟨_,(ze (zu 2 sc_safe_cut (qD T.d_stops (zqD (base:=base) T) j (za (pv 0) (za (qD T.d_cleared (zgV (base:=base) T) j (za (pv 0) (za (pv 1) zd))) zd))))
 (ze (zu 3 sc_safe_cut (qC1 ["due", "ranks"] [none,some 2] (zP K (pv 0)) (λ_ _ _ _ _=>(zb1 (zaJ zg7 (qIx K (pv 1) (qIx K (pv 0) zh)) zbj (nomark _)) (zd8 (zaJ zg7 (qIx K (pv 1) (qIx K (pv 0) zh)) zbj (nomark _)))))))
 (ze (zu 4 sc_safe_cut (qD T.d_amounts_of (zeV (base:=base) T) j (za (pv 0) zd)))
 (ze (zct (i:=5) sc_safe_cut.nd rfl rfl rfl (zav K T.z_enumerate (za (pv 4) zd)) (zak (Ni:=["number", "amount", "free"]) (caps:=[none,none,some 3]) (by rfl)) (λS _ _ _ _ _=>(show PG _ _ (zaP K 2 _)from zas (n:=2) rfl (zx (zaf (gi:=0) S (Or.inl rfl) rfl) (zx (zaf (gi:=1) S (Or.inl rfl) rfl) zah)))) (λ_ _ _ _ _=>zeb) (λ_ _ _ _ _=>(zbq (zaq K (qIx K (pv 2) (pv 0))) (pv 1) zh)))
 (ze (zu 6 sc_safe_cut (qIx K (qD T.d_cut (zt6 (base:=base) T) j (za (zaL K T.z_len (za (pv 1) zd)) (za (qD T.d_with_amounts (zcc (base:=base) T) j (za (pv 0) (za (pv 5) zd))) zd))) zh))
 (zi (zm (qC2 K ["number", "amount", "free", "left"] [none,none,some 3,some 6] (zav K T.z_enumerate (za (pv 4) zd)) (λ_ _ _ _ _=>(zbq (zaq K (qIx K (pv 2) (pv 0))) (qIx K (pv 3) (pv 0)) (pv 1))))))))))),?_⟩
 refine zp (σ0:=[some (.ref a),some (.ref u),none,none,none,none,none]) rfl ?_;walk_at "x";rename_i la H1 ws N e1 hla X st H2 a2 e2 aa;have y:=L.keep (e1.trans e2);walk_at "x";refine zH (zO (K:=K) (a:=a) (xs:=[])) (λH' e=>y.keep e) rfl (λi vs _=>vs=[]) (λH' _=>rfl) (λi x D vs o I H4 hi=>absurd hi (yB _)) ?_;rintro fr I vs a8 U a6 c rfl;have l:IsSh K I a []:=(r.same (e1.trans e2)).same U;walk_at "x";rename_i C H4 a1 Y b;refine zai (zU (K:=K) (a:=C) (xs:=[])) (λH' e=>SqL.of (e.at b)) rfl (λi vs _=>vs=[]) (λH' _=>rfl) (λi x D vs o o' m G hi=>absurd hi (yB _)) ?_;rintro wi m vs Z M t c rfl;have a9:m u=some (.lst (ps.map V.int)):=by walk_at "h"
 have f:IsSh K m a []:=(l.same Y).same M;have ac:((ps.map V.int).length:Int)=n:=by rw[yb,p]
 walk_at "x";refine zT ?_;refine zgG (ms:=[]) f (SqL.of t) (by decide) (by decide) ?_;intro wa G us a3 e6 v B;refine zT ?_;refine zk1 ⟨us,SqL.of v,B⟩ ⋯ ⋯ ?_;intro tp le cu H7 a7 O a5 hle;have g:=((M.trans e6).trans O).at b;walk_at "x";refine zai (zU (K:=K) (a:=C) (xs:=[])) (λH' e=>SqL.of (e.at g)) rfl (λi vs _=>vs=[]) (λH' _=>rfl) (λi x D vs o o' m G hi=>absurd hi (yB _)) ?_;rintro D H8 vs fD e8 W c rfl;exact k D H8 ∅ ∅ W
def zkU(T:Txt K mg):T.d_total.Ok P w base 3 (ziM K):=by
 refine T.d_total.F.okN sc_total (by walk_at "l") λm A outer s H vs Q E r h=>?_;obtain⟨a,xs,qs,rfl,j,l,hok,c,k⟩:=h;refine⟨_,(ze (zu 1 sc_total (zE (za zh (za zh zd))))
 (ze (z5 PassesOwn.never rfl (zP K (pv 0)) (zC (i:=2) sc_total.nd rfl (Or.inl rfl))
 (zi (zu 1 sc_total (qD T.d_plus (zd2 (base:=base) T) r (za (pv 1) (za (pv 2) zd))))))
 (zi (zm (pv 1))))),?_⟩
 refine zp (σ0:=[some (.ref a),none,none]) rfl ?_;walk_at "x";refine zaG (q:=0) ⟨rfl,rfl⟩ ?_;intro p H1 e1 t;walk_at "x"
 try refine zrt (e1.seq j) ?_
 refine zbc (xs:=xs) (λi d H'=>∃p f,d=[some (.ref a),some (.ref p),f]/\IsQ H' p (zdQ (qs.take i))/\Same H H') ⟨p,_,rfl,t,e1⟩ ?_ ?_ ?_
 ·rintro i d H' _ ⟨p,f,rfl,_,e⟩;exact e.seq j
 ·rintro i x d H' o ⟨p,f,rfl,hp,e⟩;obtain⟨b,q,rfl,g,u⟩:=(l.same e).get o;have v:OkQ q:=hok q (ym g);have y:=c i;walk_at "x";rename_i p2 H2 e2 n;refine⟨p2,_,rfl,?_,e.trans e2⟩
  have:qs.take (i+1)=qs.take i++[q]:=by
   obtain⟨hi,rfl⟩:=yk.mp g;exact yah hi
  rw[this,ze0];exact n
 ·rintro d H' ⟨p,f,rfl,hp,e⟩;rw[l.length,yz]at hp;walk_at "x";exact k _ _ e hp
def zif(T:Txt K mg):T.d_shares_paid.Ok P w base 4 (ze4 K):=by
 refine T.d_shares_paid.F.okN sc_shares_paid (by walk_at "l") λa0 A outer s H vs Q E M h=>?_;obtain⟨l,y,f,q,rfl,hl,X,hy,hs,k⟩:=h;refine⟨_,(ze (zu 2 sc_shares_paid (zK zd))
 (ze (zu 3 sc_shares_paid (pv 1))
 (ze (z5 PassesOwn.never rfl (zP K (pv 0)) (zC (i:=4) sc_shares_paid.nd rfl (Or.inl rfl))
 (ze (zu 5 sc_shares_paid (qD T.d_least (zgo (base:=base) T) M (za (pv 3) (za (zE (za (pv 4) (za zh zd))) zd))))
 (ze (zu 3 sc_shares_paid (qD T.d_minus (zda (base:=base) T) M (za (pv 3) (za (pv 5) zd))))
 (zi (zS (qAp K (pv 2) (za (zbq (zw zbO (pv 4) zh (nomark _)) (qD T.d_over (zmD (base:=base) T) M (za (pv 5) (za (zE (za (pv 4) (za zh zd))) zd))) (zE (za zh (za zh zd)))) zd)))))))
 (zi (zm (pv 2)))))),?_⟩
 refine zp (σ0:=[some (.ref l),some (.ref y),none,none,none,none]) rfl ?_;walk_at "x";rename_i sh H0 R Z O;refine zbc (xs:=(vec 3 f).map V.int) (λi j H'=>∃(p:Addr) (vs:List V) (I B:Option V),j=[some (.ref l),some (.ref y),some (.ref sh),some (.ref p),I,B]/\IsQ H' p (zaS f q i)/\H' sh=some (.lst vs)/\IsQs H' vs ((List.range i).map (zaY f q))/\Same H H') ⟨y,[],_,_,rfl,Z.at hy,O,trivial,Z⟩ ?_ ?_ ?_
 ·rintro i j H' _ ⟨_,_,_,_,_,_,_,_,e⟩;exact SqL.of (e.at hl)
 ·rintro i x j H1 J ⟨p,vs,I,B,rfl,hp,a,b,e1⟩;have hi:i<3:=by
   have:=(yk.mp J).1
   rwa [yb,zA]at this
  have ex:x=.int (f i):=by rw[yg,zW hi]at J;exact(yq J).symm
  subst ex;obtain⟨S,Y⟩:=X i hi;have L:=zmt hs X hi;have zl:=zfO L (by decide) S Y;have U:=zds S Y;have o1:OkQ (zaS f q i):=L.ok (by decide) (by decide);have o2:OkQ (zbB f q i):=zl.ok (by decide) (by decide);have z8:SzQ ((f i:Int):Rat) 8999 8999:=U.mono (by decide) (by decide);have a1:vs.length<=3:=by have:=b.length;rw[yb,yM]at this;lia
  walk_at "x";refine zaG (q:=((f i:Int):Rat)) ⟨rfl,rfl⟩ ?_;intro t H2 e2 ht;refine zT ?_;refine zpn (e2.at hp) ht (L.mono (by decide) (by decide)) (U.mono (by decide) (by decide)) λc hc=>?_;have C:IsQ H2 c (zbB f q i):=hc;have a2:IsQ H2 p (zaS f q i):=e2.at hp;walk_at "x"
  ·rename_i d H3 g r n;refine zaG (q:=((f i:Int):Rat)) ⟨rfl,rfl⟩ ?_;intro t2 H4 W m;have N:((f i:Int):Rat).num≠0:=by show f i≠0;lia
   have D:IsQ H4 c (zbB f q i):=W.at (g.at C);have z:H4 sh=some (.lst vs):=W.at (g.at (e2.at a));refine zT ?_;refine ziX D m o2 z8 N ?_;intro v H5 e5 u;walk_at "x";rename_i o b6 G;refine⟨d,vs++[.ref v],_,_,rfl,?_,G,?_,∅⟩
   ·show IsQ o d (zaS f q i-zbB f q i);walk_at "h"
   ·rw[yO,yj,yY,show zaY f q i=zbB f q i/((f i:Int):Rat)from if_pos n];exact IsQs.app ∅ ∅
  ·rename_i d H3 g r n;refine zaG (q:=(0:Rat)) ⟨rfl,rfl⟩ ?_;intro v H5 e5 u;have z:H5 sh=some (.lst vs):=e5.at (g.at (e2.at a));walk_at "x";rename_i o b6 G;refine⟨d,vs++[.ref v],_,_,rfl,?_,G,?_,∅⟩
   ·show IsQ o d (zaS f q i-zbB f q i);walk_at "h"
   ·rw[yO,yj,yY,show zaY f q i=0 from if_neg n];exact IsQs.app ∅ ∅
 ·rintro j H1 ⟨p,vs,I,B,rfl,hp,a,b,e1⟩;rw[yb,zA]at b;walk_at "x";exact k _ _ _ R e1 a b
def zrX(T:Txt K mg):T.d_paid.Ok P w base 5 (zih K):=by
 refine T.d_paid.F.okN zik (by walk_at "l") λav A outer s H vs Q E hr h=>?_;obtain⟨a,y,ds,ws,qs,rfl,⟨xs,hS,hT⟩,hy,hq,hd,hl,h9,hs,k⟩:=h;have hwl:=hq.length;have au:∀d∈ds,zaF (ws.length:Int) d:=by rw[hwl];exact λd h=>(hd d h).1
 have aw:IsSh K H a ds:=⟨xs,hS,hT⟩
 refine⟨_,(ze (zu 2 zik (qD T.d_ranked (zfc (base:=base) T) hr (za (zaL K T.z_len (za (pv 1) zd)) (za (pv 0) zd))))
 (ze (zu 3 zik (qC2 K ["member", "lay", "owed"] [none,none,some 2] (zav K T.z_enumerate (za (pv 1) zd)) (λ_ _ _ _ _=>(qD T.d_shares_paid (zif (base:=base) T) hr (za (qIx K (pv 2) (pv 0)) (za (pv 1) zd))))))
 (zi (zm (qC1 ["due", "shares"] [none,some 3] (zP K (pv 0)) (λ_ _ _ _ _=>(qD T.d_times (zdc (base:=base) T) hr (za (zE (za (qIx K (pv 0) zh) (za zh zd))) (za (qIx K (qIx K (pv 1) (qIx K (pv 0) zh)) (qIx K (pv 0) zh)) zd))))))))),?_⟩
 refine zp (σ0:=[some (.ref a),some (.ref y),none,none]) rfl ?_;walk_at "x";rename_i su H1 as b0 e1 af a6 hR hF;rw[yx]at a6;have a9:=hq.same e1;have ab:=e1.at hy;have B:∀i j,j<3->0<=zX ds i j/\zX ds i j<=100000000000000:=λi j _=>by
  have:=zgy (m:=i) (r:=j) ds λd h=>⟨(hd d h).1.2.2.2.2.2.2.2.1,(hd d h).2⟩
  lia
 refine zai (zU (K:=K) (a:=y) (xs:=ws)) (λH' e=>SqL.of (e.at ab)) rfl (λi vs H'=>∃as:List Addr,vs=as.map V.ref/\as.length=i/\∀(m:Nat) (b:Addr),as[m]?=some b->∃us,H' b=some (.lst us)/\H1 b=none/\IsQs H' us ((List.range 3).map (zaY (zX ds m) (qs.getD m 0)))) (λH' _=>⟨[],rfl,rfl,λm b h=>nomatch h⟩) ?_ ?_
 ·rintro i x D vs o o' H2 H3 hi hD e2 hv n ⟨bs,rfl,W,u⟩ l ⟨t,v,rfl,hx,ht⟩;obtain⟨b,q,rfl,X,hb⟩:=(a9.same (e2.trans l)).get hx;have ap:H3 t=some (.tup [.int (i:Int),.ref b]):=ht;obtain⟨c,hc⟩:=zN (show((i:Int)).toNat<as.length by lia);have Y:=(hR.same (e2.trans l)).2 _ _ hc;rw[yx]at Y;have hf:=B i;have ao:=hs q (ym X);have al:H3 su=some (.lst (as.map V.ref)):=(e2.trans l).at af;have C:qs.getD i 0=q:=by rw[yi,X];rfl
  walk_at "x";rename_i sp H4 us O G a5 ad H5 b5 h5;have L:sp≠D:=zbw O (l.at hv);refine⟨⟨_,_,rfl⟩,∅,_,h5,by rw[yf];exact ye n,bs++[sp],by rw[yj];rfl,by rw[yf,W];rfl,λm b' g=>?_⟩;rw[yaL]at g;split at g
  ·obtain⟨ae,M,u2,u3⟩:=u m b' g;have a8:b'≠D:=λz=>by
    subst z;rw[hv]at M;cases M;cases bs with
    | nil=>cases g
    | cons z0 zs=>
     obtain⟨ar,w1,_,_⟩:=u 0 z0 rfl;have ah:IsQs H2 (V.ref z0 :: zs.map V.ref) (zaY (zX ds m) (qs.getD m 0) 0 :: [zaY (zX ds m) (qs.getD m 0) 1,zaY (zX ds m) (qs.getD m 0) 2]):=u3;obtain⟨⟨a0,w2,w3⟩,_⟩:=ah;cases w2;have R:H2 z0=some (.tup _):=w3;rw[w1]at R;cases R
   exact⟨ae,b5.lst (G.at (l.at M)) a8,u2,LBut.isQs b5 (u3.same (l.trans G))⟩
  ·rename_i hm;have e0:m-bs.length=0:=by
    cases e:m-bs.length with
    | zero=>rfl
    | succ k=>rw[e]at g;cases g
   rw[e0]at g;cases g;obtain rfl:m=i:=by lia
   rw[C];exact⟨us,b5.lst a5 L,Same.none (Same.none O l) e2,LBut.isQs b5 ad⟩
 rintro a7 H2 vs am e2 N n ⟨bs,rfl,W,u⟩;walk_at "x";have ac:=hT.same (e1.trans e2);have aa:SqL K H2 a xs:=(e1.trans e2).seq hS;have aj:=hT.length;refine zH (zO (K:=K) (a:=a) (xs:=xs)) (λH' e=>e.seq aa) rfl (λi vs H'=>IsQs H' vs ((ds.take i).map (za2 ds qs))) (λH' _=>trivial) ?_ ?_
 ·rintro i x D vs o H3 H4 hi hD l hv n I G hx;obtain⟨b,d,rfl,S,hb⟩:=(ac.same (l.trans G)).get hx;have g:H4 b=some (.tup [.int d.p,.int d.q,.int d.r,.int d.a]):=hb;obtain⟨⟨p0,p1,q0,q1,pq,r0,r1,a0,a1⟩,a2⟩:=hd d (ym S);obtain⟨c,hc⟩:=zN (show d.p.toNat<bs.length by lia);obtain⟨us,M,u2,u3⟩:=u _ _ hc;have ul:=u3.length;rw[yb,yM]at ul;obtain⟨v,a4⟩:=zN (show d.r.toNat<us.length by lia);obtain⟨e,s,rfl,a3,ai⟩:=(u3.same (l.trans G)).get a4;have J:d.r.toNat<3:=by lia
  have es:s=zaY (zX ds d.p.toNat) (qs.getD d.p.toNat 0) d.r.toNat:=by
   rw[yg,yay J]at a3;exact(yq a3).symm
  have aq:atI us d.r=some (.ref e):=zbd r0 a4;have ag:H4 c=some (.lst us):=(l.trans G).at M;have U:H4 a7=some (.lst (bs.map V.ref)):=(l.trans G).at N;obtain⟨lq,Z⟩:=zN (show d.p.toNat<qs.length by lia);have C:qs.getD d.p.toNat 0=lq:=by rw[yi,Z];rfl
  have zs:=znR (f:=zX ds d.p.toNat) (hs lq (ym Z)) (B d.p.toNat) J;rw[<- C,<- es]at zs;have o1:OkQ ((d.a:Int):Rat):=(zds a0 a1).ok (by decide) (by decide);have o2:OkQ s:=zs.ok (by decide) (by decide);walk_at "x";refine zaG (q:=((d.a:Int):Rat)) ⟨rfl,rfl⟩ ?_;intro t H5 e5 ht;have az:IsQ H5 e s:=e5.at ai;have an:=e5.at ag;have ak:=e5.at U;have ax:=e5.at g;walk_at "x";rename_i p H6 e6 ay H7 b7 h7;refine⟨⟨_,rfl⟩,∅,_,h7,by rw[yf];exact ye n,?_⟩;show IsQs H7 _ ((ds.take (i+1)).map (za2 ds qs));rw[zar S,yj,yY,show za2 ds qs d=((d.a:Int):Rat)*s by rw[es];rfl];exact IsQs.app ∅ ∅
 ·rintro D H3 vs hD l hv n I;rw[aj,yz]at I;exact k _ _ _ (Same.none (Same.none hD e2) e1) (e1.trans (e2.trans l)) hv I
def zt4(T:Txt K mg):T.d_got.Ok P w base 6 (zlj K):=by
 refine T.d_got.F.okN sc_got (by walk_at "l") λal A outer s H vs Q E hr h=>?_;obtain⟨a,y,ds,ws,qs,rfl,⟨xs,hS,hT⟩,hy,hq,hd,hl,h9,hs,k⟩:=h;have hwl:=hq.length;have av:=hT.length;have am:IsSh K H a ds:=⟨xs,hS,hT⟩
 have aq:∀q∈qs,SzQ q 200 200:=λq h=>(hs q h).2.mono (by decide) (by decide);have ah:=zvq hd hl hs;refine⟨_,(ze (qS1 2 sc_got ["lay"] [none] (zP K (pv 1)) (λ_ _ _ _ _=>(zK zd)))
 (ze (z5 PassesOwn.never rfl (zav K T.z_enumerate (za (qD T.d_paid (zrX (base:=base) T) hr (za (pv 0) (za (pv 1) zd))) zd)) (show PG _ _ (zaP K 2 _)from zas (n:=2) rfl (zx (zC (i:=3) sc_got.nd rfl (Or.inl rfl)) (zx (zC (i:=4) sc_got.nd rfl (Or.inl rfl)) zah)))
 (zi (zS (qAp K (qIx K (pv 2) (qIx K (qIx K (pv 0) (pv 3)) zh)) (za (pv 4) zd)))))
 (zi (zm (qC1 ["some"] [none] (zP K (pv 2)) (λ_ _ _ _ _=>(qD T.d_total (zkU (base:=base) T) hr (za (pv 0) zd)))))))),?_⟩
 refine zp (σ0:=[some (.ref a),some (.ref y),none,none,none]) rfl ?_;walk_at "x";refine zH (zO (K:=K) (a:=y) (xs:=ws)) (λH' e=>SqL.of (e.at hy)) rfl (λi vs H'=>∃as:List Addr,vs=as.map V.ref/\as.length=i/\PRows H' as (λ_=>[])/\(∀b∈as,H b=none)/\∀b∈as,H' b=some (.lst [])) (λH' _=>⟨[],rfl,rfl,⟨yac,λi a h=>nomatch h⟩,(λ_ h=>nomatch h),λ_ h=>nomatch h⟩) ?_ ?_
 ·rintro i x D vs o H2 H3 hi hD e2 hv B ⟨as,rfl,O,Y,hF,hE⟩ u hx;walk_at "x";rename_i p U fp f hp H5 M h5;have a3:D∉as:=λz=>by
   have:=hE D z
   rw[hv]at this;cases as with
   | nil=>cases z
   | cons z0 zs=>cases this
  have a6:p≠D:=zbw fp (u.at hv);refine⟨⟨_,rfl⟩,∅,_,h5,by rw[yf];exact ye B,as++[p],by rw[yj];rfl,by rw[yf,O];rfl,PRows.app ((Y.same (u.trans f)).but M a3) ((Y.same u).fresh fp) (M.lst hp a6) rfl,λb hb=>?_,λb hb=>?_⟩
  ·rcases yA.mp hb with h | h
   ·exact hF b h
   ·rw[yp.mp h];exact Same.none fp (e2.trans u)
  ·rcases yA.mp hb with h | h
   ·exact M.lst ((u.trans f).at (hE b h)) λz=>a3 (z▸h)
   ·rw[yp.mp h];exact M.lst hp a6
 rintro ga H1 vs au e1 hga B ⟨as,rfl,O,Y,hF,hE⟩;walk_at "x";rename_i pl H2 us ad e2 a9 a7;have a5:=a7.length;rw[yb]at a5;have af:pl∉as:=Y.fresh ad;have ae:ga∉as:=λz=>by
  have:=hE ga z
  rw[hga]at this;cases as with
  | nil=>cases z
  | cons z0 zs=>cases this
 refine zb9 (zU (K:=K) (a:=pl) (xs:=us)) (λi σ' H'=>∃f3 f4:Option V,σ'=[some (.ref a),some (.ref y),some (.ref ga),f3,f4]/\H' pl=some (.lst us)/\IsQs H' us (ds.map (za2 ds qs))/\H' ga=some (.lst (as.map V.ref))/\PRows H' as (zbl (ds.take i) (za2 ds qs))/\Same H H') ⟨_,_,rfl,a9,a7,e2.at hga,Y.same e2,e1.trans e2⟩ ?_ ?_ ?_
 ·rintro i σ' H' ⟨_,_,_,h,_⟩;exact SqL.of h
 ·rintro i x σ' H3 U hi ⟨f3,f4,rfl,N,C,G,J,u⟩ f ⟨t,v,rfl,hx,ai⟩;obtain⟨d,L⟩:=zN (show i<ds.length by lia);obtain⟨⟨p0,p1,q0,q1,pq,r0,r1,a0,a1⟩,a2⟩:=hd d (ym L);obtain⟨b,r,rfl,Z,hb⟩:=(C.same f).get hx;have er:r=za2 ds qs d:=by rw[yg,L]at Z;exact(yq Z).symm
  subst er;have ar:U t=some (.tup [.int (i:Int),.ref b]):=ai;obtain⟨c,a8,ak⟩:=(hT.same (u.trans f)).getI L;have ap:U c=some (.tup [.int d.p,.int d.q,.int d.r,.int d.a]):=ak;have aw:atI xs (i:Int)=some (.ref c):=zap a8;obtain⟨l,j⟩:=zN (show d.q.toNat<as.length by lia);obtain⟨zs,z1,z2⟩:=(J.same f).2 _ _ j;have ao:=z2.length;have a4:=zi8 (ds:=ds.take i) (g:=za2 ds qs) (m:=d.q.toNat);rw[yag]at a4;have S:=ym j;have fl:=hF l S;have X:=f.at G;have an:SqL K U a xs:=(u.trans f).seq hS;walk_at "x";rename_i H5 M h5;have ab:pl≠l:=λz=>af (z▸S);have ac:ga≠l:=λz=>ae (z▸S);have R5:=(J.same f).set M j z1 hb h5;refine⟨_,_,rfl,M.lst (f.at N) ab,LBut.isQs M (C.same f),M.lst X ac,?_,∅⟩;refine⟨R5.1,λm bb aa=>?_⟩;obtain⟨R,w1,w2⟩:=R5.2 m bb aa;refine⟨R,w1,?_⟩;rw[zar L,zmS];by_cases e:d.q=(m:Int)
  ·rw[if_pos e];have I:IsQs H5 R (if m=d.q.toNat then zbl (ds.take i) (za2 ds qs) m++[za2 ds qs d]else zbl (ds.take i) (za2 ds qs) m):=w2;rw[if_pos ⋯]at I;exact I
  ·rw[if_neg e,y6];have I:IsQs H5 R (if m=d.q.toNat then zbl (ds.take i) (za2 ds qs) m++[za2 ds qs d]else zbl (ds.take i) (za2 ds qs) m):=w2;rw[if_neg ⋯]at I;exact I
 ·rintro σ' H3 ⟨f3,f4,rfl,N,C,G,J,u⟩;rw[a5,yz]at J;walk_at "x";refine zH (zO (K:=K) (a:=ga) (xs:=as.map V.ref)) (λH' e=>SqL.of (e.at G)) rfl (λi vs H'=>IsQs H' vs ((List.range i).map (ze1 ds (za2 ds qs)))) (λH' _=>trivial) ?_ ?_
  ·rintro i x D vs o U H5 hi hD f hv B W e5 hx;rw[yb]at hi;obtain⟨l,j⟩:=zN hi;have ex:x=.ref l:=by rw[yg,j]at hx;exact(yq hx).symm
   subst ex;obtain⟨zs,z1,z2⟩:=(J.same (f.trans e5)).2 _ _ j;have hz:∀q∈zbl ds (za2 ds qs) i,SzQ q 240 82:=λq h=>by
    obtain⟨d,aj,e⟩:=zoR h;rw[e];exact ah d aj
   have o1:∀q∈zbl ds (za2 ds qs) i,OkQ q:=λq h=>(hz q h).ok (by decide) (by decide);have o2:=zlU (c:=64) (by decide) hz (yc zi8 hl) (by decide) (by decide);walk_at "x";rename_i p H6 e6 ag H7 b7 h7;refine⟨⟨_,rfl⟩,∅,_,h7,by rw[yf];exact ye B,?_⟩;show IsQs H7 _ ((List.range (i+1)).map (ze1 ds (za2 ds qs)));rw[yO,yj,yY];exact IsQs.app (LBut.isQ b7 ag) ∅
  ·rintro D U vs hD f hv B W;rw[yb,O,hwl]at W;exact k D U vs (Same.none hD u) (u.trans f) hv W
def znE(T:Txt K mg):T.d_ends_by.Ok P w base 7 (zh7 K):=by
 refine T.d_ends_by.F.okN zhI (by walk_at "l") λae A outer s H vs Q E U h=>?_;obtain⟨a,u,y,ps,ws,rfl,af,hu,hy,hq,h9,hp,k⟩:=h;obtain⟨qs,eq⟩:∃qs,qs=zQs ps.length:=⟨_,rfl⟩
 rw[<- eq]at hq;have a6:ps.length=qs.length:=by rw[eq,zcV]
 have hwl:=hq.length;have hd:∀d∈([]:List Internal.Due),zaF (qs.length:Int) d/\d.a<=1000000000000:=λ_ h=>nomatch h;have hl:([]:List Internal.Due).length<=64:=yI _;have hs:∀q∈qs,zjW q:=by rw[eq];exact zsW
 have a8:qs.length<=9:=by lia
 refine⟨_,(ze (zu 3 zhI (qD T.d_got (zt4 (base:=base) T) U (za (pv 0) (za (pv 2) zd))))
 (zi (zm (qC2 K ["member", "purse", "gains", "lays"] [none,none,some 3,some 2] (zav K T.z_enumerate (za (pv 1) zd)) (λ_ _ _ _ _=>(qD T.d_minus (zda (base:=base) T) U (za (qD T.d_plus (zd2 (base:=base) T) U (za (zE (za (pv 1) (za zh zd))) (za (qIx K (pv 2) (pv 0)) zd))) (za (qIx K (pv 3) (pv 0)) zd)))))))),?_⟩
 refine zp (σ0:=[some (.ref a),some (.ref u),some (.ref y),none]) rfl ?_;walk_at "x";rename_i ga H2 us ab e2 hga C;have S:=C.length;rw[yb,yM]at S;have X:=e2.at hu;refine zai (zU (K:=K) (a:=u) (xs:=ps.map V.int)) (λH' e=>SqL.of (e.at X)) rfl (λi vs H'=>IsQs H' vs ((List.range i).map (λm=>((ps.getD m 0:Int):Rat)))) (λH' _=>trivial) ?_ ?_
 ·rintro i x D vs o o' H3 H4 hi Y l hv I W L ⟨t,v,rfl,hx,ht⟩;rw[yb]at hi;obtain⟨p,f⟩:=zN hi;have ex:v=.int p:=by rw[yg,f]at hx;exact(yq hx).symm
  subst ex;have R:H4 t=some (.tup [.int (i:Int),.int p]):=ht;obtain⟨p0,p1⟩:=hp p (ym f);have N:ps.getD i 0=p:=by rw[yi,f];rfl
  obtain⟨v,G⟩:=zN (show i<us.length by lia);obtain⟨g,r,rfl,z,hg⟩:=(C.same (l.trans L)).get G;have a2:atI us (i:Int)=some (.ref g):=zap G;have er:r=ze1 [] (za2 [] qs) i:=by rw[yg,yay ⋯]at z;exact(yq z).symm
  subst er;have b:=l.trans L;have n:H4 ga=some (.lst us):=b.at hga;obtain⟨v,J⟩:=zN (show i<ws.length by lia);obtain⟨gl,ql,rfl,c,a0⟩:=(hq.same (e2.trans b)).get J;have a1:atI ws (i:Int)=some (.ref gl):=zap J;have a5:qs.getD i 0=ql:=by rw[yi,c];rfl
  have M:=(e2.trans b).at hy;have O:ql=0:=by
   rw[eq,zfK ⋯]at c;exact(yq c).symm
  subst O;rw[show ze1 [] (za2 [] qs) i=0 from zqi]at hg;have o1:OkQ ((p:Int):Rat):=(zds p0 ⋯).ok (by decide) (by decide);have o2:OkQ (0:Rat):=zru;have o3:OkQ (((p:Int):Rat)+0):=by rw[Rat.add_zero];exact o1
  clear b;walk_at "x";refine zaG (q:=((p:Int):Rat)) ⟨rfl,rfl⟩ ?_;intro t2 H6 j ad;have a3:=j.at n;have a9:=j.at R;have ac:IsQ H6 g 0:=j.at hg;have a4:IsQ H6 gl 0:=j.at a0;have a7:=j.at M;walk_at "x";rename_i p1 H7 e7 aa p2 H8 e8 B H9 b9 Z;refine⟨⟨_,_,rfl⟩,b9.same ((((l.trans L).trans j).trans e7).trans e8) Y,_,Z,by rw[yf];exact ye I,?_⟩;show IsQs H9 _ ((List.range (i+1)).map (λm=>((ps.getD m 0:Int):Rat)));rw[yO,yj,yY,N];rw[show((p:Int):Rat)+0-0=((p:Int):Rat) by rw[Rat.add_zero,yaS,Rat.neg_zero,Rat.add_zero]]at B;exact IsQs.app (LBut.isQ b9 B) (LBut.isQs b9 (W.same (((L.trans j).trans e7).trans e8)))
 ·rintro D H3 vs Y l hv I hQ;rw[yb,show(List.range ps.length).map (λm=>((ps.getD m 0:Int):Rat))=zbs ps from znA]at hQ;exact k D H3 vs (Same.none Y e2) (e2.trans l) hv hQ
def zee(T:Txt K mg):T.d_check_coins.Ok P w base 1 (zgw K T.c_TooMuch):=by
 refine T.d_check_coins.F.okX ziD (λvs H Q E h=>?_) (λb A outer s H vs Q E d h=>?_)
 ·obtain⟨c,a,ns,rfl,_⟩:=h;rfl
 obtain⟨c,a,ns,rfl,e,k⟩:=h;refine⟨_,(zi (zI (zw zbO (pv 0) (za9 K T.z_sum (za (pv 1) zd)) (nomark _))
 (zi (zbP rfl rfl T.m_TooMuch (errOk.own T.e_TooMuch) (za zJ zd) zdp))
 zD)),?_⟩
 refine zp (σ0:=[some (.int c),some (.ref a)]) rfl ?_;walk_at "x"
 ·rename_i h;rcases k with⟨h1,_⟩ | ⟨_,k⟩
  ·lia
  ·exact⟨by decide,k⟩
 ·rename_i h;rcases k with⟨_,k⟩ | ⟨h1,_⟩
  ·exact k
  ·lia
def zc0(T:Txt K mg):T.d_with_one_more.Ok P w base 1 (zkD K):=by
 refine T.d_with_one_more.F.okN sc_with_one_more (by walk_at "l") λB A outer s H vs Q E W h=>?_;obtain⟨a,b,n,x,ch,L,rfl,M,C,hn,k⟩:=h;refine⟨_,(ze (zu 3 sc_with_one_more (zK zd))
 (ze (zu 4 sc_with_one_more (pv 2))
 (ze (z5 PassesOwn.never rfl (zav K T.z_enumerate (za (pv 0) zd)) (show PG _ _ (zaP K 2 _)from zas (n:=2) rfl (zx (zC (i:=5) sc_with_one_more.nd rfl (Or.inl rfl)) (zx (zC (i:=6) sc_with_one_more.nd rfl (Or.inl rfl)) zah)))
 (zi (zI (PW.pt (za0 (zaq K (qIx K (pv 1) (pv 5))) (za3 (zw zbO (pv 4) zh (nomark _)))))
 (ze (zS (qAp K (pv 3) (za (zt (zad K) (pv 6) zh) zd)))
 (zi (zfn (i:=4) sc_with_one_more.nd rfl (Or.inl rfl) zh zdd)))
 (zi (zS (qAp K (pv 3) (za (pv 6) zd)))))))
 (zi (zm (pv 3)))))),?_⟩
 refine zp (σ0:=[some (.ref a),some (.ref b),some (.int L),none,none,none,none]) rfl ?_;walk_at "x";rename_i l H1 S e1 O;refine zb9 (zU (K:=K) (a:=a) (xs:=(vec n x).map V.int)) (λi j H'=>∃o p,j=[some (.ref a),some (.ref b),some (.int L),some (.ref l),some (.int (My.rest ch L i)),o,p]/\H' l=some (.lst ((vec i (My.more ch x L)).map V.int))/\Same H H') ?_ ?_ ?_ ?_
 ·exact⟨_,_,rfl,O,e1⟩
 ·rintro i j H' ⟨_,_,_,_,e⟩;exact e.seq M
 ·rintro i y j G U hi ⟨o,p,rfl,c,m⟩ J ⟨t,v,rfl,r,R⟩;have f:i<n:=by simpa[zA]using hi
  have D:((vec i (My.more ch x L)).map V.int).length<=100000:=by rw[yb,zA];lia
  rw[yg,zW f]at r;cases r;have N:atI (bls n ch) (i:Int)=some (.bl (ch i)):=zap (zd3 f);have I:=(m.trans J).seq C;have er:My.rest ch L (i+1)=if ch i=true/\My.rest ch L i>0 then My.rest ch L i-1 else My.rest ch L i:=rfl
  have d:My.more ch x L i=if ch i=true/\My.rest ch L i>0 then x i+1 else x i:=rfl
  walk_at "x"
  ·rename_i h1 h2 q u g;rw[if_pos ⟨h1,h2⟩]at er d;rw[er];refine⟨_,_,rfl,?_,∅⟩;rw[g,zV,yj,d];rfl
  ·rename_i h1 h2 q u g;rw[if_neg (λz=>h2 z.2)]at er d;rw[er];refine⟨_,_,rfl,?_,∅⟩;rw[g,zV,yj,d];rfl
  ·rename_i h1 q u g;rw[if_neg (λz=>by rw[h1]at z;cases z.1)]at er d;rw[er];refine⟨_,_,rfl,?_,∅⟩;rw[g,zV,yj,d];rfl
 ·rintro j G ⟨o,p,rfl,c,m⟩;rw[yb,zA]at c;walk_at "x";exact k _ _ ∅ m c
def zff(T:Txt K mg):T.d_by_shares.Ok P w base 2 (zqW K T.c_TooMuch):=by
 refine T.d_by_shares.F.okN zb3 (by walk_at "l") λM A outer s H vs Q E r h=>?_;obtain⟨c,a,n,b,rfl,I,hn,v,Y,O,k⟩:=h;have h0:=My.sumTo_nonneg λi hi=>(v i hi).1;have j:=za1 b n;have J:c<=zaj (vec n b):=by rw[j];exact Y.2
 have g:((vec n b).map V.int).length=n:=by rw[yb,zA]
 have zc:sz c<=300:=yc (zfP ⋯) O;have zB:sz (zaj (vec n b))<=9000:=by rw[j];lia
 refine⟨_,(ze (zS (qD T.d_check_coins (zee (base:=base) T) r (za (pv 0) (za (pv 1) zd))))
 (ze (zu 2 zb3 (za9 K T.z_sum (za (pv 1) zd)))
 (ze (zI (zw (qEq K r.units) (pv 2) zh (nomark _))
 (zi (zm (qC1 ["bound"] [none] (zP K (pv 1)) (λ_ _ _ _ _=>zh))))
 zD)
 (ze (qS1 3 zb3 ["bound", "coins", "together"] [none,some 0,some 2] (zP K (pv 1)) (λ_ _ _ _ _=>(zt zaW (zt zab (pv 1) (pv 0)) (pv 2))))
 (ze (qS1 4 zb3 ["bound", "coins", "together"] [none,some 0,some 2] (zP K (pv 1)) (λ_ _ _ _ _=>(zaJ zbO (zt zbV (zt zab (pv 1) (pv 0)) (pv 2)) zh (nomark _))))
 (zi (zm (qD T.d_with_one_more (zc0 (base:=base) T) r (za (pv 3) (za (pv 4) (za (zt zcb (pv 0) (za9 K T.z_sum (za (pv 3) zd))) zd))))))))))),?_⟩
 refine zp (σ0:=[some (.int c),some (.ref a),none,none,none]) rfl ?_;walk_at "x"
 ·rename_i t p H1 fp e1 hp;rw[g]at hp;refine k p H1 fp e1 ?_;rw[zdN (by rw[<- j];exact t)];exact hp
 ·rename_i t;have B:0<zaj (vec n b):=by lia
  have N:=zej (c:=c) (n:=n) (b:=b) (by rw[<- j];exact t);refine zH (zO (K:=K) (a:=a) (xs:=(vec n b).map V.int)) (λH' e=>e.seq I) rfl (λi vs _=>vs=(vec i λi=>c*b i/zaj (vec n b)).map V.int) (λH' _=>rfl) ?_ ?_
  ·rintro i x D vs o C q hi R z X f rfl G l;have d:i<n:=by lia
   rw[yg,zW d]at l;cases l;have U:=(v i d).2;walk_at "x";rename_i S Z m;exact CompN.int ⟨_,rfl⟩ ∅ m rfl
  rintro bo H2 vs L e2 u f rfl;rw[g]at u;walk_at "x";refine zH (zO (K:=K) (a:=a) (xs:=(vec n b).map V.int)) (λH' e=>e.seq (e2.seq I)) rfl (λi vs _=>vs=bls i λi=>decide (c*b i%zaj (vec n b)>0)) (λH' _=>rfl) ?_ ?_
  ·rintro i x D vs o C q hi R z X f rfl G l;have d:i<n:=by lia
   rw[yg,zW d]at l;cases l;have U:=(v i d).2;walk_at "x";rename_i S Z m;exact⟨⟨_,rfl⟩,∅,_,m,by rw[yf];exact ye f,by show _=bls (i+1) _;rw[zey]⟩
  rintro br C vs W z y f rfl;rw[g]at y;walk_at "x";rename_i p q fp G hp;refine k p q ∅ ∅ ?_;rw[N,hp,j,za1]
def zls(T:Txt K mg):T.d_level_of.Ok P w base 1 (zpa K):=by
 refine T.d_level_of.F.okN sc_level_of (by walk_at "l") λC A outer s H vs Q E Z h=>?_;obtain⟨c,a,n,b,rfl,hS,hn,u,I,D,k⟩:=h;have G:(vec n b).length=n:=zA;have R:((vec n b).map V.int).length=n:=by rw[yb,zA]
 have O:=u.sum;refine⟨_,(ze (zu 2 sc_level_of (pv 0))
 (ze (zu 3 sc_level_of (zaL K T.z_len (za (pv 1) zd)))
 (ze (z5 PassesOwn.never rfl (zP K (zax (show CallR _ _ (zdT K)from zfx) rfl T.z_sorted BT.sorted (za (pv 1) zd))) (zC (i:=4) sc_level_of.nd rfl (Or.inl rfl))
 (ze (zI (zw zbO (zt zab (pv 4) (pv 3)) (pv 2) (nomark _))
 (zi zpz)
 zD)
 (ze (zfn (i:=2) sc_level_of.nd rfl (Or.inl rfl) (pv 4) zdd)
 (zi (zfn (i:=3) sc_level_of.nd rfl (Or.inl rfl) zh zdd)))))
 (zi (zm (zt zaW (pv 2) (pv 3))))))),?_⟩
 refine zp (σ0:=[some (.int c),some (.ref a),none,none,none]) rfl ?_;walk_at "x";rename_i l ms H1 W e1 hp y S;have M:ms.length=n:=by rw[hp.length_eq,zA]
 have q:∀x∈ms,0<=x/\x<=100000000000000:=λx d=>by
  obtain⟨i,hi,e⟩:=zmw (hp.mem_iff.mp d);rw[e];exact u i hi
 refine zbc (xs:=ms.map V.int) (λi j H'=>∃(r m:Int) (t:Option V),j=[some (.int c),some (.ref a),some (.int r),some (.int m),t]/\H'=H1/\My.LvInv c ms i r/\m=(ms.length:Int)-(i:Int)/\0<=r/\r<=c) ⟨c,_,_,rfl,rfl,My.LvInv.zero,⋯,I,yD _⟩ ?_ ?_ ?_
 ·rintro i j H' _ ⟨_,_,_,_,rfl,_⟩;exact SqL.of S
 ·rintro i x j H' d ⟨r,m,t,rfl,rfl,f,p,v,L⟩;obtain⟨z,o,ex⟩:∃z,ms[i]?=some z/\x=.int z:=by
   rw[yg]at d;cases h:ms[i]? with
   | none=>rw[h]at d;cases d
   | some n=>rw[h]at d;exact⟨n,rfl,(yq d).symm⟩
  subst ex;obtain⟨J,U⟩:=q z (ym o);have N:i<ms.length:=(yk.mp o).1;have B:1<=m:=by lia
  have X:m<=9:=by lia
  have m0:0<m:=by lia
  have Y:sz m<=9000:=yc (sz200 ⋯ ⋯) (by decide);walk_at "x"
  ·rename_i g
   have:=f.done y o (by rw[<- p];exact g) hp
   rw[<- p]at this;exact k _ _ e1 this
  ·rename_i g;have hle:z*m<=r:=by lia
   exact⟨r-z,m-1,_,rfl,rfl,f.step y o (by rw[<- p];exact hle),⋯,My.lv_nn J B hle,⋯⟩
 ·rintro j H' ⟨r,m,t,rfl,rfl,f,p,v,L⟩;rw[yb]at f;exact(f.never (by rw[My.sumL_perm hp,zqF];exact D) v).elim
def zlu(T:Txt K mg):T.d_by_level.Ok P w base 2 (zqq K):=by
 refine T.d_by_level.F.okN zcD (by walk_at "l") λN A outer s H vs Q E l h=>?_;obtain⟨c,a,n,b,rfl,t,hn,Y,U,O,k⟩:=h;have m:=za1 b n;have I:c<=zaj (vec n b):=by rw[m];exact O
 have j:((vec n b).map V.int).length=n:=by rw[yb,zA]
 refine⟨_,(ze (zS (qD T.d_check_coins (zee (base:=base) T) l (za (pv 0) (za (pv 1) zd))))
 (ze (zI (zw (qEq K l.units) (pv 0) (za9 K T.z_sum (za (pv 1) zd)) (nomark _))
 (zi (zm (zcy K T.z_list (za (pv 1) zd))))
 zD)
 (ze (zu 2 zcD (qD T.d_level_of (zls (base:=base) T) l (za (pv 0) (za (pv 1) zd))))
 (ze (qS1 3 zcD ["bound", "level"] [none,some 2] (zP K (pv 1)) (λ_ _ _ _ _=>(zax (zcF rfl) rfl T.z_min BT.min (za (pv 0) (za (pv 1) zd)))))
 (ze (qS1 4 zcD ["bound", "level"] [none,some 2] (zP K (pv 1)) (λ_ _ _ _ _=>(zaJ zbO (pv 0) (pv 1) (nomark _))))
 (zi (zm (qD T.d_with_one_more (zc0 (base:=base) T) l (za (pv 3) (za (pv 4) (za (zt zcb (pv 0) (za9 K T.z_sum (za (pv 3) zd))) zd))))))))))),?_⟩
 refine zp (σ0:=[some (.int c),some (.ref a),none,none,none]) rfl ?_;walk_at "x"
 ·rename_i u p H1 fp e1 h1;refine k p H1 fp e1 ?_;rw[My.levelF_all (by rw[<- m];exact u)];exact h1
 ·rename_i u;have y:¬c=My.sumTo b n:=by rw[<- m];exact u
  refine⟨c,a,n,b,rfl,t,hn,Y,U,⋯,λL H1 e1 M=>?_⟩;have R:=My.levelF_lev y M;walk_at "x";refine zH (zO (K:=K) (a:=a) (xs:=(vec n b).map V.int)) (λH' e=>e.seq (e1.seq t)) rfl (λi vs _=>vs=(vec i λi=>My.mn (b i) L).map V.int) (λH' _=>rfl) ?_ ?_
  ·rintro i x D vs o C r hi S B Z d rfl G g;have f:i<n:=by lia
   rw[yg,zW f]at g;cases g;walk_at "x";rename_i W b6 q;exact CompN.int ⟨_,rfl⟩ ∅ q rfl
  rintro bo H2 vs J e2 v d rfl;rw[j]at v;walk_at "x";refine zH (zO (K:=K) (a:=a) (xs:=(vec n b).map V.int)) (λH' e=>e.seq (e2.seq (e1.seq t))) rfl (λi vs _=>vs=bls i λi=>decide (b i>L)) (λH' _=>rfl) ?_ ?_
  ·rintro i x D vs o C r hi S B Z d rfl G g;have f:i<n:=by lia
   rw[yg,zW f]at g;cases g;walk_at "x";rename_i W b6 q;exact⟨⟨_,rfl⟩,∅,_,q,by rw[yf];exact ye d,by show _=bls (i+1) _;rw[zey]⟩
  rintro br C vs X B z d rfl;rw[j]at z;walk_at "x";rename_i p r fp G hp;refine k p r ∅ ∅ ?_;rw[R,hp,za1];rfl
def zd0(T:Txt K mg):T.d_check_order.Ok P w base 1 (zpg K T.c_NoLayer):=by
 refine T.d_check_order.F.okX sc_check_order (λvs H Q E h=>?_) (λB A outer s H vs Q E S h=>?_)
 ·obtain⟨o,ws,rfl,_⟩:=h;rfl
 obtain⟨o,ws,rfl,u,O,k⟩:=h;have M:=T.q_WORDS;refine⟨_,(zi (z5 PassesOwn.leaving rfl (zav K T.z_enumerate (za (pv 0) zd)) (show PG _ _ (zaP K 2 _)from zas (n:=2) rfl (zx (zC (i:=1) sc_check_order.nd rfl (Or.inl rfl)) (zx (zC (i:=2) sc_check_order.nd rfl (Or.inl rfl)) zah)))
 (zi (zI (PW.pt (zbD (zw (show OpR _ (compareOp .NotIn) (rIn K true)from zb6) (pv 2) (zQ (v:=.ref T.a_WORDS) rfl T.g_WORDS rfl) (by with_unfolding_all rfl)) (zbu (zw (show OpR _ (compareOp .In) (rIn K false)from ze9) (pv 2) (zbR (show SlR _ (zc5 K)from zcq) (pv 0) zcr (zcp (pv 1))) (by with_unfolding_all rfl)))))
 (zi (zbP rfl rfl T.m_NoLayer (errOk.own T.e_NoLayer) (za zJ zd) zdp))
 zD)))),?_⟩
 refine zp (σ0:=[some (.ref o),none,none]) rfl ?_;walk_at "x";refine zb9 (zU (K:=K) (a:=o) (xs:=ws.map V.str)) (λi g H'=>∃p q:Option V,g=[some (.ref o),p,q]/\Same H H'/\OkO (ws.take i)) ⟨_,_,rfl,Same.refl _,by rw[yaT];exact⟨(λ_ z=>nomatch z),yac⟩⟩ ?_ ?_ ?_
 ·rintro i g H' ⟨_,_,_,e,_⟩;exact e.seq u
 ·rintro i y g N r hi ⟨p,q,rfl,C,l⟩ G ⟨t,v,rfl,b,D⟩;obtain⟨w,d,rfl⟩:=zmv b;have c:Same H r:=C.trans G;have J:=c.seq u;have L:r t=some (.tup [.int (i:Int),.str w]):=D;have bad:¬(w∈words5/\w∉ws.take i)->¬OkO ws:=λz b=>z ⟨b.1 w (ym d),zpQ b.2 d⟩;walk_at "x";refine zkg (ws:=words5) (M _) ?_;by_cases j:w∈words5
  ·rw[decide_eq_true j];walk_at "x";rename_i U R I x f;rw[zlq,<- ya3]at f;refine ztu (ws:=ws.take i) (SqL.of f) ?_;by_cases m:w∈ws.take i
   ·rw[decide_eq_true m];walk_at "x";rcases k with⟨b,_⟩ | ⟨_,k⟩
    ·exact absurd b (bad λz=>z.2 m)
    ·exact⟨by decide,k _ (c.trans x)⟩
   ·rw[decide_eq_false m];walk_at "x";refine⟨_,_,rfl,c.trans x,?_⟩;rw[ybl,d];exact zpI l j m
  ·rw[decide_eq_false j];walk_at "x";rcases k with⟨b,_⟩ | ⟨_,k⟩
   ·exact absurd b (bad λz=>j z.1)
   ·exact⟨by decide,k _ c⟩
 ·rintro g H1 ⟨p,q,rfl,e1,l⟩;rw[yb,yz]at l;walk_at "x";rcases k with⟨_,k⟩ | ⟨b,_⟩
  ·exact k _ e1
  ·exact absurd l b
def zlK(T:Txt K mg):T.d_borne_in.Ok P w base 3 (zsz K):=by
 refine T.d_borne_in.F.okN sc_borne_in (by walk_at "l") λa3 A outer s H vs Q E J h=>?_;obtain⟨w,r,p,sh,wh,own,n,R,P,S,W,rfl,hR,hP,hS,hW,hn,lR,lS,hw,k⟩:=h;have I:((vec n R).map V.int).length=n:=by rw[yb,zA]
 have a2:((vec n S).map V.int).length=n:=by rw[yb,zA]
 refine⟨_,(ze (zI (zw (qEq K J.units) (pv 0) zJ (nomark _))
 (zi (zm (zt (zad K) (qC2 K ["member", "rest", "pledges"] [none,none,some 2] (zav K T.z_enumerate (za (pv 1) zd)) (λ_ _ _ _ _=>(zax (zcF rfl) rfl T.z_min BT.min (za (pv 1) (za (qIx K (pv 2) (pv 0)) zd))))) (zK (za zh zd)))))
 zD)
 (ze (zI (zw (qEq K J.units) (pv 0) zJ (nomark _))
 (zi (zm (zt (zad K) (qC2 K ["member", "rest", "shares"] [none,none,some 3] (zav K T.z_enumerate (za (pv 1) zd)) (λ_ _ _ _ _=>(zax (zcF rfl) rfl T.z_min BT.min (za (pv 1) (za (qIx K (pv 2) (pv 0)) zd))))) (zK (za zh zd)))))
 zD)
 (ze (zI (zw (qEq K J.units) (pv 0) zJ (nomark _))
 (zi (zm (zt (zad K) (qC1 ["rest"] [none] (zP K (pv 1)) (λ_ _ _ _ _=>zh)) (zK (za (zax (zcF rfl) rfl T.z_min BT.min (za (pv 4) (za (za9 K T.z_sum (za (pv 1) zd)) zd))) zd)))))
 zD)
 (ze (zct (i:=6) sc_borne_in.nd rfl rfl rfl (zav K T.z_enumerate (za (pv 3) zd)) (zak (Ni:=["member", "share", "whole"]) (caps:=[none,none,some 5]) (by rfl)) (λS _ _ _ _ _=>(show PG _ _ (zaP K 2 _)from zas (n:=2) rfl (zx (zaf (gi:=0) S (Or.inl rfl) rfl) (zx (zaf (gi:=1) S (Or.inl rfl) rfl) zah)))) (λ_ _ _ _ _=>zeb) (λ_ _ _ _ _=>(zbq (zaq K (qIx K (pv 2) (pv 0))) (pv 1) zh)))
 (ze (zu 7 sc_borne_in (zax (zcF rfl) rfl T.z_min BT.min (za (za9 K T.z_sum (za (pv 6) zd)) (za (za9 K T.z_sum (za (pv 1) zd)) zd))))
 (ze (zI (zw (qEq K J.units) (pv 0) zJ (nomark _))
 (zi (zm (zt (zad K) (qD T.d_by_shares (zff (base:=base) T) J (za (pv 7) (za (pv 6) zd))) (zK (za zh zd)))))
 zD)
 (zi (zm (zt (zad K) (qD T.d_by_level (zlu (base:=base) T) J (za (pv 7) (za (pv 6) zd))) (zK (za zh zd))))))))))),?_⟩
 refine zp (σ0:=[some (.str w),some (.ref r),some (.ref p),some (.ref sh),some (.int own),some (.ref wh),none,none]) rfl ?_;by_cases h1:w = "pledge"
 ·have y:zaB w n R P S W=λi=>My.mn (R i) (P i):=by unfold zaB;rw[if_pos h1]
  have ex:zbh w n R own=0:=by unfold zbh;rw[h1];exact if_neg (by decide +kernel)
  rw[y,ex]at k;walk_at "x";refine zai (zU (K:=K) (a:=r) (xs:=(vec n R).map V.int)) (λH' e=>e.seq hR) rfl (λi vs _=>vs=(vec i λi=>My.mn (R i) (P i)).map V.int) (λH' _=>rfl) ?_ ?_
  ·rintro i x D vs o o' H2 d hi hD e2 hv b rfl l ⟨t,v,rfl,B,j⟩;have c:i<n:=by lia
   rw[yg,zW c]at B;cases B;have L:d t=some (.tup [.int (i:Int),.int (R i)]):=j;have a1:=(e2.trans l).seq hP;have N:atI ((vec n P).map V.int) (i:Int)=some (.int (P i)):=zap (by rw[yg,zW c];rfl);walk_at "x";rename_i Z b6 C;refine⟨⟨_,_,rfl⟩,∅,_,C,by rw[yf];exact ye b,?_⟩;show _=(vec (i+1) _).map V.int;rw[zV,yj];rfl
  rintro X H1 vs m e1 f b rfl;rw[I]at f;walk_at "x";rename_i z H2 O e2 u;refine zdu ∅ u (by rw[yb,zA];show n+1<=_;lia) λq d U l g=>?_;rw[zbU]at g;exact k q d ∅ ∅ g
 by_cases h2:w = "share"
 ·have y:zaB w n R P S W=λi=>My.mn (R i) (S i):=by unfold zaB;rw[if_neg h1,if_pos h2]
  have ex:zbh w n R own=0:=by unfold zbh;rw[h2];exact if_neg (by decide +kernel)
  rw[y,ex]at k;walk_at "x";refine zai (zU (K:=K) (a:=r) (xs:=(vec n R).map V.int)) (λH' e=>e.seq hR) rfl (λi vs _=>vs=(vec i λi=>My.mn (R i) (S i)).map V.int) (λH' _=>rfl) ?_ ?_
  ·rintro i x D vs o o' H2 d hi hD e2 hv b rfl l ⟨t,v,rfl,B,j⟩;have c:i<n:=by lia
   rw[yg,zW c]at B;cases B;have L:d t=some (.tup [.int (i:Int),.int (R i)]):=j;have a1:=(e2.trans l).seq hS;have N:atI ((vec n S).map V.int) (i:Int)=some (.int (S i)):=zap (by rw[yg,zW c];rfl);walk_at "x";rename_i Z b6 C;refine⟨⟨_,_,rfl⟩,∅,_,C,by rw[yf];exact ye b,?_⟩;show _=(vec (i+1) _).map V.int;rw[zV,yj];rfl
  rintro X H1 vs m e1 f b rfl;rw[I]at f;walk_at "x";rename_i z H2 O e2 u;refine zdu ∅ u (by rw[yb,zA];show n+1<=_;lia) λq d U l g=>?_;rw[zbU]at g;exact k q d ∅ ∅ g
 by_cases M:w = "own"
 ·have y:zaB w n R P S W=λ_=>0:=by unfold zaB;rw[if_neg h1,if_neg h2,if_pos M]
  have ex:zbh w n R own=My.mn own (zaj (vec n R)):=by unfold zbh;rw[if_pos M,za1]
  rw[y,ex]at k;walk_at "x";rename_i X H1 m e1 f z H2 O e2 u;rw[I]at f;refine zdu ∅ u (by rw[yb,zA];show n+1<=_;lia) λq d U l g=>?_;rw[zbU]at g;exact k q d ∅ ∅ g
 have ex:zbh w n R own=0:=by unfold zbh;exact if_neg M
 rw[ex]at k;obtain⟨c0,c1,c2⟩:=zfH (W:=W) lR lS;have lB:=zfM (W:=W) lS;walk_at "x";refine zai (zU (K:=K) (a:=sh) (xs:=(vec n S).map V.int)) (λH' e=>e.seq hS) rfl (λi vs _=>vs=(vec i (zbr S W)).map V.int) (λH' _=>rfl) ?_ ?_
 ·rintro i x D vs o o' H2 d hi hD e2 hv b rfl l ⟨t,v,rfl,B,j⟩;have c:i<n:=by lia
  rw[yg,zW c]at B;cases B;have L:d t=some (.tup [.int (i:Int),.int (S i)]):=j;have N:atI (bls n W) (i:Int)=some (.bl (W i)):=zap (zd3 c);have a6:=(e2.trans l).seq hW;walk_at "x"
  ·rename_i hc Z b6 C;refine⟨⟨_,_,rfl⟩,∅,_,C,by rw[yf];exact ye b,?_⟩;show _=(vec (i+1) _).map V.int;rw[zV,yj,show zbr S W i=S i from if_pos hc];rfl
  ·rename_i hc Z b6 C;refine⟨⟨_,_,rfl⟩,∅,_,C,by rw[yf];exact ye b,?_⟩;show _=(vec (i+1) _).map V.int;rw[zV,yj,show zbr S W i=0 from if_neg (by rw[hc];exact yn)];rfl
 rintro bd H1 vs a5 e1 G b rfl;rw[a2]at G;have a4:=e1.seq hR;have eC:(if zaj (vec n R)<zaj (vec n (zbr S W))then zaj (vec n R)else zaj (vec n (zbr S W)))=zdq n R S W:=by rw[za1,za1];rfl
 by_cases h4:w = "others"
 ·have y:zaB w n R P S W=zaI (zdq n R S W) n (zbr S W):=by unfold zaB;rw[if_neg h1,if_neg h2,if_neg M,if_pos h4]
  rw[y]at k;walk_at "x";rw[eC];refine⟨zdq n R S W,bd,n,zbr S W,rfl,SqL.of G,⋯,lB.sz,⟨c0,c1⟩,lB.szS hn,λX Y m a0 f=>?_⟩;walk_at "x";rename_i z H2 O e2 u;refine zdu ∅ u (by rw[yb,zA];show n+1<=_;lia) λq d U l g=>?_;rw[zbU]at g;exact k q d ∅ ∅ g
 ·have y:zaB w n R P S W=My.levelF (zdq n R S W) n (zbr S W):=by unfold zaB;rw[if_neg h1,if_neg h2,if_neg M,if_neg h4]
  rw[y]at k;walk_at "x";rw[eC];refine⟨zdq n R S W,bd,n,zbr S W,rfl,SqL.of G,hn,lB,c0,c1,λX Y m a0 f=>?_⟩;walk_at "x";rename_i z H2 O e2 u;refine zdu ∅ u (by rw[yb,zA];show n+1<=_;lia) λq d U l g=>?_;rw[zbU]at g;exact k q d ∅ ∅ g
def zlE(T:Txt K mg):T.d_given_in.Ok P w base 3 (zrP K):=by
 refine T.d_given_in.F.okN zlR (by walk_at "l") λi A outer s H vs Q E u h=>?_;obtain⟨w,r,b,own,n,R,P,S,W,rfl,l,y,hn,e,B,m,k⟩:=h;refine⟨_,(ze (zI (zw (show OpR _ (compareOp .In) (rIn K false)from ze9) (pv 0) (zE (za zJ (za zJ zd))) (by with_unfolding_all rfl))
 (zi (zm (zbR (show SlR _ (zc5 K)from zcq) (pv 2) zcr (zcp (zbk za4 zh)))))
 zD)
 (zi (zm (qD T.d_by_shares (zff (base:=base) T) u (za (za9 K T.z_sum (za (pv 2) zd)) (za (pv 1) zd)))))),?_⟩
 refine zp (σ0:=[some (.str w),some (.ref r),some (.ref b)]) rfl ?_;walk_at "x";refine zaA (by first | decide | simp) λt H1 C e1 j=>?_;refine zqX (ws:=["pledge", "share"]) (.of j) ?_;have a:w∈(["pledge", "share"]:List Str)↔(w = "pledge" \/ w = "share"):=by simp
 have x:=e1.seq y;have f:=e1.seq l;by_cases c:w = "pledge" \/ w = "share"
 ·rw[decide_eq_true (a.mpr c)];have g:zc3 w n R P S own W=zaB w n R P S W:=if_pos c;rw[g]at k;walk_at "x";rename_i v H2 p e2 d;rw[<- zbU,zpM]at d;exact k v H2 ∅ ∅ d
 ·rw[decide_eq_false λz=>c (a.mp z)];have h1:¬w = "pledge" := λz=>c (.inl z);have h2:¬w = "share" := λz=>c (.inr z);have g:zc3 w n R P S own W=zaI (My.sumTo (zaB w n R P S W) n+zbh w n R own) n R:=if_neg c;rw[g]at k;have es:zaj (vec n (zaB w n R P S W)++[zbh w n R own])=My.sumTo (zaB w n R P S W) n+zbh w n R own:=by rw[zaQ,za1]
  walk_at "x";rw[es];refine⟨_,r,n,R,rfl,f,⋯,e.sz,zhC h1 h2 e B m,e.szS hn,λq H2 D e2 o=>?_⟩;exact k q H2 ∅ ∅ o
def zmr(T:Txt K mg):T.d_less.Ok P w base 1 (zst K):=by
 refine T.d_less.F.okN zsI (by walk_at "l") λm A outer s H vs Q E O h=>?_;obtain⟨a,of,n,d,B,ns,rfl,I,J,hn,r,k⟩:=h;have f:((vec n d).map V.int).length=n:=by rw[yb,zA]
 refine⟨_,(zi (zm (qC2 K ["place", "number", "off"] [none,none,some 1] (zav K T.z_enumerate (za (pv 0) zd)) (λ_ _ _ _ _=>(zt zcb (pv 1) (qIx K (pv 2) (pv 0))))))),?_⟩;refine zp (σ0:=[some (.ref a),some (.ref of)]) rfl ?_;walk_at "x";refine zai (zU (K:=K) (a:=a) (xs:=(vec n d).map V.int)) (λH' e=>e.seq I) rfl (λi vs _=>vs=(vec i λi=>d i-B i).map V.int) (λH' _=>rfl) ?_ ?_
 ·rintro i x D vs o o' H2 C hi M e2 R b rfl p ⟨t,v,rfl,l,g⟩;have c:i<n:=by lia
  rw[yg,zW c]at l;cases l;have u:C t=some (.tup [.int (i:Int),.int (d i)]):=g;have L:atI (ns.map V.int) (i:Int)=some (.int (B i)):=zap (by rw[yg,r i c];rfl);have y:=(e2.trans p).seq J;walk_at "x";rename_i N S z;refine⟨⟨_,_,rfl⟩,∅,_,z,by rw[yf];exact ye b,?_⟩;show _=(vec (i+1) _).map V.int;rw[zV,yj];rfl
 rintro q H1 vs G e1 j b rfl;rw[f]at j;exact k q H1 G e1 j
def znx(T:Txt K mg):T.d_layered.Ok P w base 4 (zmW K T.c_NoLayer):=by
 refine T.d_layered.F.okX sc_layered (λvs H Q E h=>?_) (λcm A outer s H vs Q E hr h=>?_)
 ·obtain⟨o,g,p,sh,own,ws,n,G,P,S,rfl,_⟩:=h;rfl
 obtain⟨o,g,p,sh,own,ws,n,G,P,S,rfl,hO,hG,hP,hS,hn,lG,lP,lS,o0,hwl,k⟩:=h;have bl:((vec n G).map V.int).length=n:=by rw[yb,zA]
 have c7:=zev (own:=own) (ws:=ws) lG lP lS o0;refine⟨_,(ze (zS (qE T.d_check_order (zd0 (base:=base) T) hr (za (pv 0) zd)))
 (ze (zu 5 sc_layered (zcy K T.z_list (za (pv 1) zd)))
 (ze (zu 6 sc_layered (zcy K T.z_list (za (pv 3) zd)))
 (ze (zu 7 sc_layered (zK zd))
 (ze (z5 PassesOwn.leaving rfl (zP K (pv 0)) (zC (i:=8) sc_layered.nd rfl (Or.inl rfl))
 (ze (zu 9 sc_layered (qE T.d_borne_in (zlK (base:=base) T) hr (za (pv 8) (za (pv 5) (za (pv 2) (za (pv 6) (za (pv 4) (za (qC1 ["gap"] [none] (zP K (pv 1)) (λ_ _ _ _ _=>(zaJ (qEq K hr.units) (pv 0) zh (nomark _)))) zd))))))))
 (ze (zu 10 sc_layered (qE T.d_given_in (zlE (base:=base) T) hr (za (pv 8) (za (pv 5) (za (pv 9) zd)))))
 (ze (zS (qAp K (pv 7) (za (zE (za (pv 8) (za (pv 10) (za (pv 9) zd)))) zd)))
 (ze (zu 5 sc_layered (qD T.d_less (zmr (base:=base) T) hr (za (pv 5) (za (pv 10) zd))))
 (zi (zI (zw (show OpR _ (compareOp .In) (rIn K false)from ze9) (pv 8) (zE (za zJ (za zJ (za zJ zd)))) (by with_unfolding_all rfl))
 (zi (zu 6 sc_layered (qD T.d_less (zmr (base:=base) T) hr (za (pv 6) (za (pv 9) zd)))))
 zD)))))))
 (zi (zm (zE (za (pv 7) (za (pv 5) zd)))))))))),?_⟩
 refine zp (σ0:=[some (.ref o),some (.ref g),some (.ref p),some (.ref sh),some (.int own),none,none,none,none,none,none]) rfl ?_;rcases k with⟨⟨hw5,nd⟩,k⟩ | ⟨hv,k⟩
 case inr=>
  walk_at "x";exact⟨o,ws,rfl,hO,hwl,.inr ⟨hv,k⟩⟩
 walk_at "x";refine⟨o,ws,rfl,hO,hwl,.inl ⟨⟨hw5,nd⟩,λH1 e1=>?_⟩⟩;have ce:=e1.seq hG;have cg:=e1.seq hS;walk_at "x";rename_i re H2 c5 e2 hre sl H3 cc e3 bf B H4 frs e4 hrs;have c8:Same H H4:=e1.trans (e2.trans (e3.trans e4));have be:H re=none:=Same.none c5 e1;have ar:H B=none:=Same.none frs (e1.trans (e2.trans e3));have c3:re≠B:=zy (e3.at hre) frs;have c9:sl≠B:=zy bf frs;refine zbc (xs:=ws.map V.str) (λi σ' H'=>∃(re sl:Addr) (tr:List (Addr × Addr × Addr)) (f8 f9 as:Option V),σ'=[some (.ref o),some (.ref g),some (.ref p),some (.ref sh),some (.int own),some (.ref re),some (.ref sl),some (.ref B),f8,f9,as] /\
  Same H H'/\H' B=some (.lst (tr.map λt=>V.ref t.1))/\H' re=some (.lst ((vec n (lays n G P own ws S i).1).map V.int))/\H' sl=some (.lst ((vec n (lays n G P own ws S i).2).map V.int))/\tr.length=i/\LRs H' n (zaU n G P own ws S) tr/\H re=none/\(∀a∈zaV tr,H a=none)/\(zaV tr).Nodup/\re∉zaV tr/\B∉zaV tr/\B≠re/\B≠sl)
  ⟨re,sl,[],_,_,_,rfl,c8,hrs,e4.at (e3.at hre),e4.at bf,rfl,(λi t z=>nomatch z),be,(λa z=>nomatch z),yac,(λz=>nomatch z),(λz=>nomatch z),c3.symm,c9.symm⟩ ?_ ?_ ?_
 ·rintro i σ' H' _ ⟨_,_,_,_,_,_,_,e,_⟩;exact e.seq hO
 ·rintro i x σ' H5 hx ⟨Y,af,tr,f8,f9,as,rfl,e5,v,d,a8,I,ag,ah,az,aw,aj,u,av,Z⟩;obtain⟨w,au,rfl⟩:=zmv hx;have cd:i<ws.length:=(yk.mp au).1;have c2:=hw5 w (ym au);have br:ws.getD i "" = w:=by rw[yi,au];rfl
  obtain⟨lR,lT⟩:=c7 i;have L:zaU n G P own ws S i=zm5 n G P own w (lays n G P own ws S i).1 (lays n G P own ws S i).2:=by unfold zaU;rw[br]
  have bp:=e5.seq hG;have bv:=e5.seq hP;walk_at "x";refine zH (zO (K:=K) (a:=g) (xs:=(vec n G).map V.int)) (λH' e=>e.seq bp) rfl (λi vs _=>vs=bls i λi=>decide (G i=0)) (λH' _=>rfl) ?_ ?_
  ·rintro j x D vs o' H3 H4 R hD e3 hv bh rfl e4 hx;have bt:j<n:=by lia
   rw[yg,zW bt]at hx;cases hx;walk_at "x";rename_i H6 b6 h6;exact⟨⟨_,rfl⟩,∅,_,h6,by rw[yf];exact ye bh,by show _=bls (j+1) _;rw[zey]⟩
  rintro wh H6 vs cb O bd bh rfl;rw[bl]at bd;refine⟨w,Y,p,af,wh,own,n,_,P,_,_,rfl,SqL.of (O.at d),O.seq bv,SqL.of (O.at a8),SqL.of bd,hn,lR,lT,c2,λr H7 bu e7 ay=>?_⟩;walk_at "x";refine⟨w,Y,r,own,n,_,P,_,_,rfl,SqL.of (e7.at (O.at d)),SqL.of ay,hn,lR,lT,o0,λgi H8 b0 e8 c0=>?_⟩;have U:Same H5 H8:=O.trans (e7.trans e8);have b7:=U.at v;have b8:=U.at d;have bg:=U.at a8;have b9:=e8.at ay;have bj:=ag.same U;have N:H5 r=none:=Same.none bu O;have J:H5 gi=none:=Same.none b0 (O.trans e7);have c1:gi≠r:=λz=>by rw[z,ay]at b0;cases b0
  have ci:(tr.map λt=>V.ref t.1).length<=1000:=by rw[yb];lia
  have bb:H r=none:=Same.none N e5;have bi:H gi=none:=Same.none J e5;have am:r≠B:=λz=>by rw[z,v]at N;cases N
  have al:gi≠B:=λz=>by rw[z,v]at J;cases J
  have bm:Same H H8:=e5.trans U;clear O e7 e8 U;walk_at "x";rename_i tp H9 bc e9 c6 b1 m bx;have ca:tp≠B:=λz=>by rw[z,b7]at bc;cases bc
  have b4:=m.lst (e9.at b8) av.symm;have b3:=m.lst (e9.at bg) Z.symm;have a5:=m.lst (e9.at c0) al;have a6:=m.lst (e9.at b9) am;have b2:=m.tup c6;have ak:Same H b1:=λc oo q=>m.lst (e9.at (bm c oo q)) (zy q ar);have a7:LRs b1 n (zaU n G P own ws S) (tr++[(tp,gi,r)]):=λj t R=>by
   by_cases bz:j<tr.length
   ·rw[y8 bz]at R;obtain⟨a1,a2,a3⟩:=bj j t R;have M:=ym R;exact⟨m.tup (e9.at a1),m.lst (e9.at a2) (λz=>u (mem_flatA.mpr ⟨t,M,.inl z.symm⟩)),m.lst (e9.at a3) (λz=>u (mem_flatA.mpr ⟨t,M,.inr z.symm⟩))⟩
   ·rw[List.getElem?_append_right ⋯]at R;have bq:j-tr.length=0:=by
     have:=(yk.mp R).1
     have e:([(tp,gi,r)]:List (Addr × Addr × Addr)).length=1:=rfl;lia
    rw[bq]at R;cases R;obtain rfl:j=i:=by lia
    rw[L];exact⟨b2,a5,a6⟩
  have ae:∀a∈zaV (tr++[(tp,gi,r)]),H a=none:=λa ha=>by
   rw[zeu]at ha;rcases yA.mp ha with z | z
   ·exact az a z
   ·rcases yt.mp z with z | z
    ·rw[z];exact bi
    ·rw[yp.mp z];exact bb
  have ba:∀c,H5 c=none->c∉zaV tr:=λc hc M=>by
   obtain⟨ns,q⟩:=ag.flat M;rw[hc]at q;cases q
  have a4:(zaV (tr++[(tp,gi,r)])).Nodup:=by
   rw[zeu];refine yS.mpr ⟨aw,by simp[c1],λa ha b hb e=>?_⟩;subst e;rcases yt.mp hb with z | z
   ·have z':a=gi:=z;exact ba gi J (z'▸ha)
   ·have z':a=r:=yp.mp z;exact ba r N (z'▸ha)
  have a0:B∉zaV (tr++[(tp,gi,r)]):=λM=>by
   rw[zeu]at M;rcases yA.mp M with z | z
   ·exact u z
   ·rcases yt.mp z with z | z
    ·exact al z.symm
    ·exact am (yp.mp z).symm
  have aq:b1 B=some (.lst ((tr++[(tp,gi,r)]).map λt=>V.ref t.1)):=by rw[yj];exact bx
  refine⟨Y,gi,n,_,_,_,rfl,SqL.of b4,SqL.of a5,⋯,λj R=>zW R,λaa bw ad ac a9=>?_⟩;have C:=ac.at aq;have y:=ac.at b3;have ax:=ac.at a6;have X:=a7.same ac;have an:Same H bw:=ak.trans ac;have ai:H aa=none:=Same.none ad ak;have ab:aa∉zaV (tr++[(tp,gi,r)]):=λM=>by
   obtain⟨ns,q⟩:=a7.flat M;rw[ad]at q;cases q
  have ap:B≠aa:=zy aq ad;have eR:(lays n G P own ws S (i+1)).1=λj=>(lays n G P own ws S i).1 j-zc3 w n (lays n G P own ws S i).1 P (lays n G P own ws S i).2 own (λi=>decide (G i=0)) j:=by rw[zdD,L];rfl
  have W:(tr++[(tp,gi,r)]).length=i+1:=by rw[yf,I];rfl
  rw[<- eR]at a9;walk_at "x";rename_i t3 cj cf l bn;refine zqX (ws:=["share", "others", "level"]) (.of bn) ?_;by_cases M:w∈(["share", "others", "level"]:List Str)
  ·rw[decide_eq_true M];walk_at "x";refine⟨af,r,n,_,zaB w n (lays n G P own ws S i).1 P (lays n G P own ws S i).2 (λi=>decide (G i=0)),_,rfl,SqL.of (l.at y),SqL.of (l.at ax),⋯,λj R=>by rw[y8 (by rw[zA];exact R)];exact zW R,λc4 ch b5 e13 ao=>?_⟩;have eS:(lays n G P own ws S (i+1)).2=λj=>(lays n G P own ws S i).2 j-zaB w n (lays n G P own ws S i).1 P (lays n G P own ws S i).2 (λi=>decide (G i=0)) j:=by
    rw[zdD,L];exact if_pos M
   rw[<- eS]at ao;walk_at "x";have f:=l.trans e13;exact⟨aa,c4,tr++[(tp,gi,r)],_,_,_,rfl,an.trans f,f.at C,f.at a9,ao,W,X.same f,ai,ae,a4,ab,a0,ap,zy (l.at C) b5⟩
  ·rw[decide_eq_false M];have eS:(lays n G P own ws S (i+1)).2=(lays n G P own ws S i).2:=by
    rw[zdD,L];exact if_neg M
   rw[<- eS]at y;walk_at "x";exact⟨aa,af,tr++[(tp,gi,r)],_,_,_,rfl,an.trans l,l.at C,l.at a9,l.at y,W,X.same l,ai,ae,a4,ab,a0,ap,Z⟩
 ·rintro σ' H5 ⟨Y,af,tr,f8,f9,as,rfl,e5,v,d,a8,I,ag,ah,az,aw,aj,u,av,Z⟩;rw[yb]at d I;walk_at "x";refine zaA (by first | decide | simp) λpt H6 ck O hpt=>?_;exact k pt B Y tr H6 ⟨e5.trans O,hpt,O.at v,O.at d,I,ag.same O,ah,ar,az,aw,aj,u,av⟩
def zsk(T:Txt K mg):T.d_nets.Ok P w base 1 (zkF K):=by
 refine T.d_nets.F.okN sc_nets (by walk_at "l") λC A outer s H vs Q E hr h=>?_;obtain⟨n,a,ds,rfl,⟨xs,L,B⟩,n0,n1,hd,k⟩:=h;refine⟨_,(ze (zu 2 sc_nets (zt zab (zK (za zh zd)) (pv 0)))
 (ze (z5 PassesOwn.never rfl (zP K (pv 1)) (show PG _ _ (zaP K 4 _)from zas (n:=4) rfl (zx (zC (i:=3) sc_nets.nd rfl (Or.inl rfl)) (zx (zC (i:=4) sc_nets.nd rfl (Or.inl rfl)) (zx (zC (i:=5) sc_nets.nd rfl (Or.inl rfl)) (zx (zC (i:=6) sc_nets.nd rfl (Or.inl rfl)) zah)))))
 (ze (zbz (pv 2) (pv 3) (show zdo _ (zbS K)from za6) (pv 6) zdd zay)
 (zi (zbz (pv 2) (pv 4) (show zdo _ (zbS K)from za6) (pv 6) zc2 zay))))
 (zi (zm (pv 2))))),?_⟩
 refine zp (σ0:=[some (.int n),some (.ref a),none,none,none,none,none]) rfl ?_;walk_at "x";rename_i l H2 R e2 N;refine zbc (xs:=xs) (λi j H'=>∃y u v z,j=[some (.int n),some (.ref a),some (.ref l),y,u,v,z]/\H' l=some (.lst ((vec n.toNat (zek (ds.take i))).map V.int))/\Same H H') ?_ ?_ ?_ ?_
 ·exact⟨_,_,_,_,rfl,N,∅⟩
 ·rintro i j H' _ ⟨_,_,_,_,_,_,e⟩;exact e.seq L
 ·rintro i x j I J ⟨y,u,v,z,rfl,c,t⟩;obtain⟨b,d,rfl,f,M⟩:=(B.same t).get J;have G:I b=some (.tup [.int d.p,.int d.q,.int d.r,.int d.a]):=M;obtain⟨O,Z,q0,q1,U,r0,r1,a0,a1⟩:=hd d (ym f);walk_at "x";rename_i W b5 Y S b6 D;refine⟨_,_,_,_,rfl,?_,∅⟩;rw[D,zar f];congr 3;refine zbp λm hm=>?_;unfold zek;rw[zg1,zkq];by_cases e:d.p=m
  ·have:¬d.q=m:=by lia
   rw[if_pos e,if_neg this,if_neg ⋯,if_pos ⋯];have g:d.p.toNat=m:=by lia
   rw[g];lia
  ·by_cases g:d.q=m
   ·rw[if_neg e,if_pos g,if_pos ⋯,if_neg ⋯];have o:d.q.toNat=m:=by lia
    rw[o];lia
   ·rw[if_neg e,if_neg g,if_neg ⋯,if_neg ⋯]
 ·rintro j X ⟨y,u,v,z,rfl,c,t⟩;rw[B.length,yz]at c;walk_at "x";exact k _ _ ∅ t c
def znD(T:Txt K mg):T.d_gaps_of.Ok P w base 2 (zka K):=by
 refine T.d_gaps_of.F.okN zhM (by walk_at "l") λr A outer s H vs Q E J h=>?_;obtain⟨a,b,ds,n,pf,rfl,S,y,hn,hd,k⟩:=h;have c:((vec n pf).map V.int).length=n:=by rw[yb,zA]
 have I:∀d∈ds,zaF (((vec n pf).map V.int).length:Int) d:=by rw[c];exact hd
 refine⟨_,(ze (zu 2 zhM (qD T.d_nets (zsk (base:=base) T) J (za (zaL K T.z_len (za (pv 1) zd)) (za (pv 0) zd))))
 (zi (zm (qC2 K ["member", "purse", "sums"] [none,none,some 2] (zav K T.z_enumerate (za (pv 1) zd)) (λ_ _ _ _ _=>(zax (znK rfl) rfl T.z_max BT.max (za zh (za (zt zcb (zbk za4 (qIx K (pv 2) (pv 0))) (pv 1)) zd)))))))),?_⟩
 refine zp (σ0:=[some (.ref a),some (.ref b),none]) rfl ?_;walk_at "x";rename_i l H1 N e1 M;rw[yx,c]at M;have j:=e1.seq y;refine zai (zU (K:=K) (a:=b) (xs:=(vec n pf).map V.int)) (λH' e=>e.seq j) rfl (λi vs _=>vs=(vec i (zcA ds pf)).map V.int) (λH' _=>rfl) ?_ ?_
 ·rintro i x D vs o o' p C hi z u m f rfl R ⟨t,v,rfl,q,G⟩;have g:i<n:=by lia
  rw[yg,zW g]at q;cases q;have L:C l=some (.lst ((vec n (zek ds)).map V.int)):=by walk_at "h"
  walk_at "x";rename_i O U B;exact CompN.int ⟨_,_,rfl⟩ ∅ B (by rw[yx];rfl)
 ·rintro D p vs z u m f rfl;rw[c]at m;exact k D p ∅ ∅ m
def zsx(T:Txt K mg):T.d_owes.Ok P w base 1 (zlp K):=by
 refine T.d_owes.F.okN sc_owes (by walk_at "l") λz A outer s H vs Q E Y h=>?_;obtain⟨n,a,ds,rfl,⟨xs,I,y⟩,n0,n1,hd,k⟩:=h;refine⟨_,(ze (zu 2 sc_owes (zt zab (zK (za zh zd)) (pv 0)))
 (ze (z5 PassesOwn.never rfl (zP K (pv 1)) (show PG _ _ (zaP K 4 _)from zas (n:=4) rfl (zx (zC (i:=3) sc_owes.nd rfl (Or.inl rfl)) (zx (zC (i:=4) sc_owes.nd rfl (Or.inl rfl)) (zx (zC (i:=5) sc_owes.nd rfl (Or.inl rfl)) (zx (zC (i:=6) sc_owes.nd rfl (Or.inl rfl)) zah)))))
 (zi (zbz (pv 2) (pv 3) (show zdo _ (zbS K)from za6) (pv 6) zc2 zay)))
 (zi (zm (pv 2))))),?_⟩
 refine zp (σ0:=[some (.int n),some (.ref a),none,none,none,none,none]) rfl ?_;walk_at "x";rename_i l H2 N e2 L;refine zbc (xs:=xs) (λi g H'=>∃u o t v,g=[some (.int n),some (.ref a),some (.ref l),u,o,t,v]/\H' l=some (.lst ((vec n.toNat (zdz (ds.take i))).map V.int))/\Same H H') ?_ ?_ ?_ ?_
 ·exact⟨_,_,_,_,rfl,L,∅⟩
 ·rintro i g H' _ ⟨_,_,_,_,_,_,e⟩;exact e.seq I
 ·rintro i x g C G ⟨u,o,t,v,rfl,c,j⟩;obtain⟨b,d,rfl,f,J⟩:=(y.same j).get G;have B:C b=some (.tup [.int d.p,.int d.q,.int d.r,.int d.a]):=J;obtain⟨M,U,Z,q1,O,r0,X,W,a1⟩:=hd d (ym f);walk_at "x";rename_i R b5 D;refine⟨_,_,_,_,rfl,?_,∅⟩;rw[D,zar f];congr 3;refine zbp λm hm=>?_;rw[zg1];by_cases e:d.p=m
  ·rw[if_pos e,if_pos ⋯];congr 2;lia
  ·rw[if_neg e,if_neg ⋯]
 ·rintro g S ⟨u,o,t,v,rfl,c,j⟩;rw[y.length,yz]at c;walk_at "x";exact k _ _ ∅ j c
def zlz(T:Txt K mg):T.d_means_of.Ok P w base 1 (zqb K):=by
 refine T.d_means_of.F.okN zlM (by walk_at "l") λU A outer s H vs Q E hr h=>?_;obtain⟨u,r,n,pf,row,tr,rfl,hu,B,S,n9,t9,k⟩:=h;refine⟨_,(zi (zm (qC2 K ["member", "purse", "rows"] [none,none,some 1] (zav K T.z_enumerate (za (pv 0) zd)) (λ_ _ _ _ _=>(zt (zad K) (pv 1) (za9 K T.z_sum (za (qC1 ["row", "member"] [none,some 0] (zP K (pv 2)) (λ_ _ _ _ _=>(qIx K (qIx K (pv 0) zh) (pv 1)))) zd))))))),?_⟩;refine zp (σ0:=[some (.ref u),some (.ref r)]) rfl ?_;walk_at "x";refine zai (zU (K:=K) (a:=u) (xs:=(vec n pf).map V.int)) (λH' e=>SqL.of (e.at hu)) rfl (λi vs _=>vs=(vec i λi=>pf i+gvS row tr.length i).map V.int) (λH' _=>rfl) ?_ ?_
 ·rintro i x D vs o o' N H4 hi M C l G rfl p ⟨t,v,rfl,d,J⟩;rw[yb,zA]at hi;rw[yg,zW hi]at d;cases d;have c:=C.trans p;have y:=c.at B;have I:=S.same c;have W:H4 t=some (.tup [.int (i:Int),.int (pf i)]):=J;clear c;walk_at "x";refine zH (zO (K:=K) (a:=r) (xs:=tr.map λt=>V.ref t.1)) (λH' e=>SqL.of (e.at y)) rfl (λj vs _=>vs=(vec j λj=>(row j).gv i).map V.int) (λH' _=>rfl) ?_ ?_
  ·rintro j x L vs o2 Y X O b q m g rfl e6 d;rw[yb]at O;obtain⟨R,f⟩:=zN O;rw[yg,f]at d;cases d;obtain⟨h1,h2,h3⟩:=(I.same (q.trans e6)) j R f;have a0:atI ((vec n (row j).gv).map V.int) (i:Int)=some (.int ((row j).gv i)):=zap (by rw[yg,zW hi];rfl);walk_at "x";rename_i H7 b7 h7;exact CompN.int ⟨_,rfl⟩ ∅ h7 rfl
  ·rintro L Y vs b q m g rfl;rw[yb]at m;have a2:=(p.trans q).at l;have a1:L≠D:=λz=>by rw[z,p.at l]at b;cases b
   walk_at "x";rename_i X b6 Z;exact CompN.int ⟨_,_,rfl⟩ (b6.same ((C.trans p).trans q) M) Z (by rw[za1];rfl)
 ·rintro D N vs M C l G rfl;rw[yb,zA]at l;exact k D N ∅ ∅ l
def znb(T:Txt K mg):T.d_outs_of.Ok P w base 2 (ziy K):=by
 refine T.d_outs_of.F.okN zhx (by walk_at "l") λO A outer s H vs Q E M h=>?_;obtain⟨a,y,r,n,rfl,hS,hy,J,n9,k⟩:=h;have hwl:r.length=n:=by rw[J.length,zcV]
 have a2:∀d∈([]:List Internal.Due),zaF (r.length:Int) d:=λ_ h=>nomatch h;refine⟨_,(ze (zu 2 zhx (qD T.d_owes (zsx (base:=base) T) M (za (zaL K T.z_len (za (pv 1) zd)) (za (pv 0) zd))))
 (zi (zm (zdR rfl (zav K T.z_enumerate (za (pv 1) zd)) (zak (Ni:=["member", "lay", "owed"]) (caps:=[none,none,some 2]) (by rfl)) (λS _ _ _ _ _=>(show PG _ _ (zaP K 2 _)from zas (n:=2) rfl (zx (zaf (gi:=0) S (Or.inl rfl) rfl) (zx (zaf (gi:=1) S (Or.inl rfl) rfl) zah)))) (λ_ _ _ _ _=>(zd5 (zaq K (qD T.d_under (zgS (base:=base) T) M (za (pv 1) (za (zE (za (qIx K (pv 2) (pv 0)) (za zh zd))) zd)))))) (λ_ _ _ _ _=>(pv 0)))))),?_⟩
 refine zp (σ0:=[some (.ref a),some (.ref y),none]) rfl ?_;walk_at "x";rename_i ow H1 Y e1 f;rw[yx,hwl]at f;have B:=e1.at hy;refine zai (zU (K:=K) (a:=y) (xs:=r)) (λH' e=>SqL.of (e.at B)) rfl (λi vs _=>vs=[]) (λH' _=>rfl) ?_ ?_
 ·rintro i x D vs o o' I X hi R l G b rfl m ⟨t,v,rfl,Z,C⟩;have c:i<n:=by lia
  obtain⟨g,q,rfl,j,hg⟩:=(J.same (e1.trans (l.trans m))).get Z;rw[zfK c]at j;obtain rfl:=yq j;have z:X t=some (.tup [.int (i:Int),.ref g]):=C;have L:=(l.trans m).at f;have s1:=zgY;have s2:SzQ (((0:Int)):Rat) 60000 60000:=zgY;have a0:atI ((vec n (zdz [])).map V.int) (i:Int)=some (.int 0):=zap (by rw[yg,zW c];rfl);walk_at "x";refine zaG (q:=((0:Int):Rat)) ⟨rfl,rfl⟩ ?_;intro t2 U p N;have W:IsQ U g 0:=p.at hg;have a1:=p.at z;walk_at "x"
  ·rename_i u H7 b7 h7;exact absurd u (by decide)
  ·exact⟨⟨_,_,rfl⟩,(l.trans m).trans p,_,(m.trans p).at G,yas b,rfl⟩
 ·rintro D I vs R l G b rfl;exact k D I ∅ ∅ G
def zin(T:Txt K mg):T.d_settled_day.Ok P w base 8 (znp K):=by
 refine T.d_settled_day.F.okX zaD (λvs H Q E h=>?_) (λa8 A outer s H vs Q E m h=>?_)
 ·obtain⟨a,u,p,s,o,own,ws,n,pf,P,S,rfl,_⟩:=h;rfl
 obtain⟨a,u,p,sh,o,own,ws,n,pf,P,S,rfl,W,hu,hp,hs,ho,n1,N,z,lP,lS,o0,hw,hv,k⟩:=h;have hz:∀j,j<n->zcA [] pf j=0:=λj hj=>zvw (z j hj).1;have lG:Lit n (zcA [] pf):=λi hi=>by rw[hz i hi];lia
 have ad:∀d∈([]:List Internal.Due),zaF (n:Int) d:=λ_ h=>nomatch h;have r:(vec n pf).length=n:=zA;have U:∀p∈vec n pf,0<=p/\p<=1000000000000:=λp h=>by
  obtain⟨i,hi⟩:=List.mem_iff_getElem?.mp h;have il:i<n:=by have:=(yk.mp hi).1;rwa [zA]at this
  rw[zW il]at hi;obtain rfl:=yq hi;exact z i il
 refine⟨_,(ze (zu 6 zaD (qD T.d_gaps_of (znD (base:=base) T) m (za (pv 0) (za (pv 1) zd))))
 (ze (zu 7 zaD (qE T.d_layered (znx (base:=base) T) m (za (pv 5) (za (pv 6) (za (pv 2) (za (pv 3) (za (pv 4) zd)))))))
 (ze (zu 8 zaD (qD T.d_means_of (zlz (base:=base) T) m (za (pv 1) (za (qIx K (pv 7) zh) zd))))
 (ze (zu 9 zaD (qE T.d_safe_cut (zlP (base:=base) T) m (za (pv 0) (za (pv 8) zd))))
 (ze (zu 10 zaD (qD T.d_with_amounts (zcc (base:=base) T) m (za (pv 0) (za (pv 9) zd))))
 (ze (zu 11 zaD (qE T.d_cleared (zgV (base:=base) T) m (za (pv 10) (za (pv 8) zd))))
 (ze (zu 12 zaD (qE T.d_ends_by (znE (base:=base) T) m (za (pv 10) (za (pv 8) (za (pv 11) zd)))))
 (zi (zm (zE (za (pv 6) (za (qIx K (pv 7) zh) (za (qIx K (pv 7) zh) (za (pv 9) (za (pv 11) (za (pv 12) (za (qD T.d_outs_of (znb (base:=base) T) m (za (pv 10) (za (pv 11) zd))) zd))))))))))))))))),?_⟩
 refine zp (σ0:=[some (.ref a),some (.ref u),some (.ref p),some (.ref sh),some (.int own),some (.ref o),none,none,none,none,none,none,none]) rfl ?_;walk_at "x";rename_i ga H1 ab e1 hga;have X:=e1.at ho;have Y:=e1.at hp;have a3:=e1.at hs;refine zT ?_;refine⟨o,ga,p,sh,own,ws,n,zcA [] pf,P,S,rfl,SqL.of X,SqL.of hga,SqL.of Y,SqL.of a3,N,lG,lP,lS,o0,hw,?_⟩;refine .inl ⟨hv,λp0 rs re tr H2 x=>?_⟩;have e2:=x.same;have a0:=x.lt;have a2:=x.hp;have hrs:=x.hrs;have R:=(e1.trans e2).at hu;walk_at "x";refine⟨u,rs,n,pf,_,tr,rfl,R,hrs,x.rows,N,by rw[x.len];exact hw,λme H3 aa v B=>?_⟩;rw[zm8 lG lP lS o0 hz]at B;have L:=W.same ((e1.trans e2).trans v);walk_at "x";rename_i le H4 a9 q hle;have I:=L.same q;have D:=q.at B;refine zT ?_;refine zgG (ms:=[]) I (SqL.of hle) (by decide) (by decide) ?_;intro af H5 us ag t a1 a4;have g:=t.at D;have f:IsSh K H5 af []:=⟨us,SqL.of a1,a4⟩
 walk_at "x"
 first | (refine zfd f g r N ?_;intro la H6 wl O e hla hwl) | rename_i la H6 wl O e hla hwl
 have l:=f.same e;have G:=e.at g
 try refine zT ?_
 refine zjt l G hla (by rw[r];exact hwl) (by rw[r];exact N) U ?_;intro en H7 we ae c hen hwe;have J:=(((((e2.trans v).trans q).trans t).trans e).trans c).at hga;have Z:=a0.same ((((v.trans q).trans t).trans e).trans c);have a6:=((((v.trans q).trans t).trans e).trans c).at a2;have M:=((t.trans e).trans c).at hle;have C:=c.at hla;have y:=hwl.same c;have a5:=l.same c;have V:Same H H7:=(((((e1.trans e2).trans v).trans q).trans t).trans e).trans c;clear e1 e2 v q t e c;walk_at "x";rename_i ou H8 ac e8 hou pt H9 a7 e9 hpt;have b:=e8.trans e9;exact k pt ga p0 rs re le la en ou tr wl we H9 (V.trans b) ⟨hpt,b.at J,Z.same b,b.at M,b.at C,y.same b,b.at hen,hwe.same b,e9.at hou⟩
def ze2(T:Txt K mg):T.d_losses_of.Ok P w base 1 (zgn K):=by
 refine T.d_losses_of.F.okN zki (by walk_at "l") λN A outer s H vs Q E hr h=>?_;obtain⟨p,l,as,k,f,F,m,rfl,hp,Z,S,W,hF,hm,hk,R,q⟩:=h;refine⟨_,(zi (zm (qC1 ["day", "position"] [none,some 0] (zP K (pv 1)) (λ_ _ _ _ _=>(zbk za4 (za9 K T.z_sum (za (qC2 K ["units", "move"] [none,none] (show PI _ _ _ (zqh K _)from zpo rfl T.z_zip (za (pv 1) (za (pv 0) zd))) (λ_ _ _ _ _=>(zt zab (pv 0) (pv 1)))) zd))))))),?_⟩;refine zp (σ0:=[some (.ref p),some (.ref l)]) rfl ?_;walk_at "x";refine zH (zO (K:=K) (a:=l) (xs:=as.map V.ref)) (λH' e=>SqL.of (e.at Z)) rfl (λi vs _=>vs=(vec i λi=>zaT k f (F i)).map V.int) (λH' _=>rfl) ?_ ?_
 ·rintro i x D vs o U H4 hi C B z n rfl e4 J;rw[yb]at hi;obtain⟨c,L⟩:=zN hi;have ex:x=.ref c:=by rw[yg,L]at J;exact(yq J).symm
  subst ex;have I:=S.2 _ _ L;have Y:=hF i hi;walk_at "x";refine zai (zlZ (K:=K) (a:=p) (b:=c) (xs:=(vec k f).map V.int) (ys:=(vec k (F i)).map V.int)) (λH' e=>⟨SqL.of ∅,SqL.of ∅⟩) rfl (λj vs _=>vs=(vec j λj=>f j*F i j).map V.int) (λH' _=>rfl) ?_ ?_
  ·rintro j x D2 vs o o' H5 G X a2 e5 r d rfl e6 ⟨t,v,w',rfl,y,u,O⟩;have g:j<k:=by
    rw[yb,yb,zA,zA]at X;lia
   rw[yg,zW g]at y u;cases y;cases u;obtain⟨f0,f1⟩:=W j g;obtain⟨g0,g1⟩:=Y j g;have a0:G t=some (.tup [.int (f j),.int (F i j)]):=O;have sf:sz (f j)<=200:=sz200 ⋯ ⋯;have sg:sz (F i j)<=200:=sz200 ⋯ ⋯;walk_at "x";rename_i H8 b8 M;refine⟨⟨_,_,rfl⟩,∅,_,M,by rw[yf];exact ye d,?_⟩;dsimp only;rw[zV,yj];rfl
  ·rintro D2 H5 vs a1 e5 r d rfl;rw[yb,yb,zA,zA,Nat.min_self]at r;walk_at "x";rename_i G b6 h6;refine⟨⟨_,rfl⟩,∅,_,h6,by rw[yf];exact ye n,?_⟩;dsimp only;rw[zV,yj];rfl
 ·rintro D U vs C B z n rfl;rw[yb]at z;exact q _ _ C B z
def zjO(T:Txt K mg):T.d_worst_days.Ok P w base 2 (zit K lP lQ):=by
 have tx:=TabX.ex (K:=K) (mg:=mg) (base:=base) (x := "worst_days") T.cw_worst_days T.tw_worst_days T.tb_worst_days;have I:zgr K "worst_days" = T.tw_worst_days:=by unfold zgr;rw[T.tb_worst_days]
 refine T.d_worst_days.F.okC T.cc_worst_days zeN (λvs H Q E h=>?_) (λA outer s H vs Q E G h=>?_)
 ·obtain⟨p,l,as,k,f,F,m,n,rfl,_⟩:=h;rfl
 obtain⟨p,l,as,k,f,F,m,n,rfl,hp,hl,hR,hf,hF,hm,hk,h1,u,n0,Y,W⟩:=h;have al:as.length<=1000:=by lia
 refine⟨_,(ze (zu 3 zeN (qD T.d_losses_of (ze2 (base:=base) T) G (za (pv 0) (za (pv 1) zd))))
 (zi (zm (zbR (show SlR _ (zc5 K)from zcq) (show PE _ _ (tSK _ _ _ _ _ _)from zmY (k:=0) (j:=3) (x := "day") (y := "losses") (by rfl) T.z_sorted BT.sorted (za (zfl (show CallR _ _ zg6 from zlO) rfl T.z_range BT.range (za (zaL K T.z_len (za (pv 3) zd)) zd)) zd) rfl tx.1 tx.2 rfl rfl (G.mono (by decide)) (λ_ _ _ _ _ _=>(zE (za (zbk za4 (qIx K (pv 1) (pv 0))) (za (pv 0) zd))))) zcr (zcp (pv 2)))))),?_⟩
 refine zp (σ0:=[some (.ref p),some (.ref l),some (.int n),none]) rfl ?_;walk_at "x";rename_i lo H1 Z e1 v;have B:TbW K "worst_days" lP lQ H1:=TbW.same e1 Y;have b:Tb H1 T.tw_worst_days lP lQ:=by rw[<- I];exact B
 have d:((vec as.length λi=>zaT k f (F i)).map V.int).length=as.length:=by rw[yb,zA]
 refine zuK (zvr (zvd ?_));walk_at "x";rename_i r O fr e2 g;rw[d]at g;refine zT ?_;refine⟨Tb.same b e2,r,as.length,.ref lo,λi=>-zaT k f (F i),rfl,g,h1,u,rfl,λi H2 hi st=>?_,λl q N a0 st e a hs R=>?_⟩
 ·have D:H2 lo=some (.lst ((vec as.length λi=>zaT k f (F i)).map V.int)):=st.at (e2.at v);have S:atI ((vec as.length λi=>zaT k f (F i)).map V.int) (i:Int)=some (.int (zaT k f (F i))):=zap (by rw[yg,zW hi];rfl);walk_at "x";refine zaA (by first | decide | simp) λt C ft o J=>?_;exact⟨t,rfl,o,J⟩
 ·have L:N l=some (.lst ((zcN q).map V.int)):=by rw[R];unfold zcN;rw[ybA];rfl
  have X:(zcN q).length=as.length:=by rw[zgK];exact a.length_eq.trans yM
  have M:n=((n.toNat:Nat):Int):=by lia
  walk_at "x";rename_i U C z o c;rw[M,zoa,znZ]at c;exact W U C q (Same.none (Same.none (st.none z) e2) e1) ((e1.trans e2).t.trans (st.trans o.t)) (TbW.same o (by unfold TbW;rw[I];exact e)) ⟨a,hs⟩ c
def zeU(T:Txt K mg):T.d_check_rule.Ok P w base 1 (zko K T.c_NoRule):=by
 refine T.d_check_rule.F.okX zjF (λvs H Q E h=>?_) (λg A outer s H vs Q E k h=>?_)
 ·obtain⟨ru,l,w,c,xs,rfl,_⟩:=h;rfl
 obtain⟨ru,l,w,c,xs,rfl,h1,h2,q1,q2⟩:=h;refine⟨_,(ze (zI (zw (show OpR _ (compareOp .NotIn) (rIn K true)from zb6) (qIx K (pv 0) zh) (zE (za zJ (za zJ zd))) (by with_unfolding_all rfl))
 (zi (zbP rfl rfl T.m_NoRule (errOk.own T.e_NoRule) (za zJ zd) zdp))
 zD)
 (zi (zI (PW.pt (zbD (zw zbY (qIx K (pv 0) zh) zh (nomark _)) (zbu (zw zbO (qIx K (pv 0) zh) (zaL K T.z_len (za (pv 1) zd)) (nomark _)))))
 (zi (zbP rfl rfl T.m_NoRule (errOk.own T.e_NoRule) (za zJ zd) zdp))
 zD))),?_⟩
 refine zp (σ0:=[some (.ref ru),some (.ref l)]) rfl ?_;walk_at "x";refine zaA (by first | decide | simp) λt H1 m e1 i=>?_;refine zkg (ws:=["worst", "mean"]) (SqT.of i) ?_;have e:=e1.at h1;have j:=e1.at h2;have a:w∈(["worst", "mean"]:List Str)↔(w = "worst" \/ w = "mean"):=by
  rw[yt,yp]
 by_cases b:w∈(["worst", "mean"]:List Str)
 ·rw[decide_eq_true b];walk_at "x"
  ·rename_i f;exact⟨by decide,q2 (λz=>by have:=z.2.1;lia) _ e1⟩
  ·rename_i f d;exact⟨by decide,q2 (λz=>by have:=z.2.2;lia) _ e1⟩
  ·rename_i f d;exact q1 ⟨a.mp b,⋯,⋯⟩ _ e1
 ·rw[decide_eq_false b];walk_at "x";exact⟨by decide,q2 (λz=>b (a.mpr z.1)) _ e1⟩
def zgN(T:Txt K mg):T.d_Book___init__.Ok P w mg base 1 (zsA T.c_Book):=by
 refine T.d_Book___init__.F.okN zgz (by walk_at "l") λi A outer s H vs Q E x h=>?_;obtain⟨p,dx,m,w,rfl,hp,k⟩:=h;refine⟨_,(ze (show PS _ _ (zbv K _ _ _)from zaZ (pv 0) (pv 1) rfl)
 (ze (show PS _ _ (zbv K _ _ _)from zaZ (pv 0) (pv 2) rfl)
 (ze (show PS _ _ (zbv K _ _ _)from zaZ (pv 0) zh rfl)
 (zi (show PS _ _ (zbv K _ _ _)from zaZ (pv 0) (zK zd) rfl))))),?_⟩
 refine zp (σ0:=[some (.ref p),some (.int m),some (.int w)]) rfl ?_;walk_at "x";refine zaM hp T.cl_Book T.na_Book_many (by show 0<1000;decide) λH1 b1 h1=>?_;walk_at "x";refine zaM h1 T.cl_Book T.na_Book_wares (by show 1<1000;decide) λH2 b2 h2=>?_;walk_at "x";refine zaM h2 T.cl_Book T.na_Book_day (yC (zo _ _ _) (by show 2<1000;decide)) λu f c=>?_;walk_at "x";rename_i d v fd e hd;refine zaM (e.at c) T.cl_Book T.na_Book_deals (yC (zo _ _ _) (yC (ybd (zo _ _ _) 1) (by show 3<1000;decide))) λl g r=>?_;have a:d≠p:=zbw fd c;refine k d l ?_ (λb o n q=>g.at (e.at (f.at (b2.at (b1.at q n) n) n)) n) r (g.at hd a);have t:H2 d=none:=by rw[<- f d a];exact fd
 have j:H1 d=none:=by rw[<- b2 d a];exact t
 rw[<- b1 d a];exact j
def zeJ(T:Txt K mg):T.d_Book_today.Ok P w mg base 1 (zmi T.c_Book):=by
 refine T.d_Book_today.F.okN zjP (by walk_at "l") λa A outer s H vs Q E c h=>?_;obtain⟨b,dx,d,m,w,y,rfl,e,k⟩:=h;have cl_Book:=T.cl_Book;have na_Book_day:=T.na_Book_day;refine⟨_,(zi (zm (show PE _ _ (zae K _ _)from zL (pv 0) rfl))),?_⟩;refine zp (σ0:=[some (.ref b)]) rfl ?_;walk_at "x";exact k
def zdk(T:Txt K mg):T.d_Book_position.Ok P w mg base 1 (zni T.c_Book):=by
 refine T.d_Book_position.F.okN sc_Book_position (by walk_at "l") λU A outer s H vs Q E G h=>?_;obtain⟨b,d,m,y,n,w,ts,rfl,W,hw,w1,k⟩:=h;obtain⟨⟨dx,hb⟩,xs,hd,O⟩:=id W;have cl_Book:=T.cl_Book;have na_Book_deals:=T.na_Book_deals;have na_Book_wares:=T.na_Book_wares;refine⟨_,(ze (zu 2 sc_Book_position (zt zab (zK (za zh zd)) (show PE _ _ (zae K _ _)from zL (pv 0) rfl)))
 (ze (z5 PassesOwn.never rfl (zP K (show PE _ _ (zae K _ _)from zL (pv 0) rfl)) (zC (i:=3) sc_Book_position.nd rfl (Or.inl rfl))
 (zi (zI (PW.pt (za0 (zw (qEq K G.units) (qIx K (pv 3) (zQ (v:=.int 7) rfl T.g_STATE.h ⟨_,rfl⟩)) zJ (nomark _)) (za3 (zw (qEq K G.units) (qIx K (pv 3) (zQ (v:=.int 0) rfl T.g_PAYER.h ⟨_,rfl⟩)) (pv 1) (nomark _)))))
 (zi (zbz (pv 2) (qIx K (pv 3) (zQ (v:=.int 2) rfl T.g_WARE.h ⟨_,rfl⟩)) (show zdo _ (zbS K)from za6) (qIx K (pv 3) (zQ (v:=.int 3) rfl T.g_UNITS.h ⟨_,rfl⟩)) zc2 zay))
 (zi (zI (PW.pt (za0 (zw (qEq K G.units) (qIx K (pv 3) (zQ (v:=.int 7) rfl T.g_STATE.h ⟨_,rfl⟩)) zJ (nomark _)) (za3 (zw (qEq K G.units) (qIx K (pv 3) (zQ (v:=.int 1) rfl T.g_PAYEE.h ⟨_,rfl⟩)) (pv 1) (nomark _)))))
 (zi (zbz (pv 2) (qIx K (pv 3) (zQ (v:=.int 2) rfl T.g_WARE.h ⟨_,rfl⟩)) (show zdo _ (zbS K)from za6) (qIx K (pv 3) (zQ (v:=.int 3) rfl T.g_UNITS.h ⟨_,rfl⟩)) zdd zay))
 zD)))))
 (zi (zm (pv 2))))),?_⟩
 refine zp (σ0:=[some (.ref b),some (.int n),none,none]) rfl ?_;walk_at "x";rename_i z0 H1 a2 e1 a0 t H2 I e2 B;rw[yx]at B;have g:H t=none:=Same.none I e1;refine zbc (xs:=xs) (λi D H'=>∃M:Option V,D=[some (.ref b),some (.int n),some (.ref t),M]/\Same H H'/\H' t=some (.lst ((vec w (zaR (ts.take i) n)).map V.int))) ⟨_,rfl,e1.trans e2,B⟩ ?_ ?_ ?_
 ·rintro i D H' _ ⟨_,_,e,_⟩;exact SqL.of (e.at hd)
 ·rintro i x D C hx ⟨M,rfl,l,c⟩;obtain⟨a,u,rfl,R,X⟩:=(O.same l).get hx;have S:C a=some (.tup [.int u.1.p,.int u.1.q,.int u.1.w,.int u.1.u,.int u.1.a,.int u.1.y,.int u.1.r,.str u.2]):=X;obtain⟨a1,Y⟩:=hw u (ym R);have hpt:=zn1 R n;have same:zaR (ts.take (i+1)) n=zaR (ts.take i) n->C t=some (.lst ((vec w (zaR (ts.take (i+1)) n)).map V.int)):=λe=>by rw[e];exact c
  walk_at "x"
  ·rename_i h1 h2 Z L N;refine⟨_,rfl,L.same l g,?_⟩;rw[N];congr 3;refine zbp λj hj=>?_;rw[hpt];unfold zcd;by_cases f:u.1.w=(j:Int)
   ·have o:u.1.w.toNat=j:=by lia
    rw[o,if_pos rfl,if_pos ⟨h1,f⟩,if_pos h2]
   ·rw[if_neg (show ¬j=u.1.w.toNat by lia),if_neg (λz=>f z.2)];lia
  ·rename_i h1 h2 J Z L N;refine⟨_,rfl,L.same l g,?_⟩;rw[N];congr 3;refine zbp λj hj=>?_;rw[hpt];unfold zcd;by_cases f:u.1.w=(j:Int)
   ·have o:u.1.w.toNat=j:=by lia
    rw[o,if_pos rfl,if_pos ⟨h1,f⟩,if_neg h2,if_pos J];lia
   ·rw[if_neg (show ¬j=u.1.w.toNat by lia),if_neg (λz=>f z.2)];lia
  ·rename_i h1 h2 J;refine⟨_,rfl,l,same (funext λj=>?_)⟩;rw[hpt];unfold zcd;rw[if_neg h2,if_neg J];split<;>lia
  ·rename_i h1;refine⟨_,rfl,l,same (funext λj=>?_)⟩;rw[hpt];unfold zcd;rw[if_neg λz=>h1 z.1];lia
 ·rintro D C ⟨M,rfl,l,c⟩;rw[O.length,yz]at c;walk_at "x";exact k t C g l c
def zna(T:Txt K mg):T.d_need_of.Ok P w base 3 (zou K T.c_NoRule lP lQ):=by
 refine T.d_need_of.F.okX zb2 (λvs H Q E h=>?_) (λaj A outer s H vs Q E W h=>?_)
 ·obtain⟨ru,p,l,w,c,as,k,f,F,m,rfl,_⟩:=h;rfl
 obtain⟨ru,p,l,w,c,as,k,f,F,m,rfl,S,⟨hp,hl,hR,w1,w2,hm,hk,n1,n2,hT⟩,q1,q2⟩:=h;have a4:(as.map V.ref).length=as.length:=yb ..;refine⟨_,(ze (zS (qE T.d_check_rule (zeU (base:=base) T) W (za (pv 0) (za (pv 2) zd))))
 (ze (zu 3 zb2 (qD T.d_losses_of (ze2 (base:=base) T) W (za (pv 1) (za (pv 2) zd))))
 (ze (qS1 4 zb2 ["day", "losses"] [none,some 3] (zP K (qD T.d_worst_days (zjO (base:=base) T) W (za (pv 1) (za (pv 2) (za (qIx K (pv 0) zh) zd))))) (λ_ _ _ _ _=>(qIx K (pv 1) (pv 0))))
 (zbE (zI (zw (qEq K W.units) (qIx K (pv 0) zh) zJ (nomark _))
 (zi (zu 5 zb2 (zE (za (qIx K (pv 4) (zbk za4 zh)) (za zh zd)))))
 (zi (zu 5 zb2 (qE T.d_part (zml (base:=base) T) W (za (za9 K T.z_sum (za (pv 4) zd)) (za (zaL K T.z_len (za (pv 4) zd)) zd))))))
 (zi (zm (zbq (zw zbO (qIx K (pv 5) zh) zh (nomark _)) (pv 5) (zE (za zh (za zh zd)))))))))),?_⟩
 refine zp (σ0:=[some (.ref ru),some (.ref p),some (.ref l),none,none,none]) rfl ?_;walk_at "x";refine zhD S hl (λok H1 e1=>?_) (λa1 H1 e1=>q2 (by rw[a4]at a1;exact a1) H1 e1);rw[a4]at ok;obtain⟨hw,c0,c1⟩:=ok;have U:=e1.at S;have ai:=e1.at hp;have al:=e1.at hl;have ah:=hR.same e1;have ak:TbW K "worst_days" lP lQ H1:=TbW.same e1 hT;walk_at "x";rename_i lo H2 an e2 a2 wd H3 q fwd I a8 G ab;obtain⟨L,B⟩:∃L:Nat->Int,L=λi=>zaT k f (F i):=⟨_,rfl⟩
 rw[<- B]at G q1;have ad:(vec as.length λi=>zaT k f (F i))=vec as.length L:=by rw[B]
 rw[ad]at a2;have ae:as.length<=64:=by lia
 have Z:(q.take c.toNat).length=c.toNat:=by rw[yag,G.len];lia
 have a0:H3 lo=some (.lst ((vec as.length L).map V.int)):=I.lst a2;have X:H3 ru=some (.tup [.str w,.int c]):=I.tup (e2.at U);have O:SameT H H3:=(e1.trans e2).t.trans I;refine zH (zO (K:=K) (a:=wd) (xs:=(zcN (q.take c.toNat)).map V.int)) (λH' e=>SqL.of (e.at ab)) rfl (λi vs _=>vs=(vec i λi=>L (q.getD i 0)).map V.int) (λH' _=>rfl) ?_ ?_
 ·rintro i x D vs o H4 N hi hD M hv Y rfl u hx;rw[yb,zgK,Z]at hi;have ex:x=.int ((q.getD i 0:Nat):Int):=by
   rw[yg,zsl ⋯,yi,List.getElem?_take,if_pos hi,<- yi]at hx;exact(yq hx).symm
  subst ex;have hq:=G.getLt ⋯ i;have ag:=(M.trans u).at a0;have a9:atI ((vec as.length L).map V.int) ((q.getD i 0:Nat):Int)=some (.int (L (q.getD i 0))):=zap (by rw[yg,zW hq];rfl);walk_at "x";rename_i H6 b6 h6;refine⟨⟨_,rfl⟩,b6.same (M.trans u) hD,_,h6,by rw[yf];exact ye Y,?_⟩;dsimp only;rw[zV,yj];rfl
 rintro wl H4 vs am M hwl Y rfl;rw[yb,zgK,Z]at hwl;have af:=M.at X;have hB:∀d,d<as.length->-9000000000000000000000000<=L d/\L d<=9000000000000000000000000:=λd hd=>by
  have:=zkI (k:=k) (f:=f) (g:=F d) hm w1 (w2 d hd)
  have h1:(k:Int)*1000000000000000000000000<=9*1000000000000000000000000:=yL ⋯ (by decide);rw[B];dsimp only;lia
 have a3:SzQ (zcM (decide (w = "mean")) L q c.toNat) 100 10:=ztP G ⋯ ⋯ n2 hB;have a6:("worst" : Str) ≠ "mean" := by decide
 have a9:atI ((vec c.toNat λi=>L (q.getD i 0)).map V.int) (-1)=some (.int (L (q.getD (c.toNat-1) 0))):=by
  obtain⟨c',a7⟩:∃c',c.toNat=c'+1:=⟨c.toNat-1,⋯⟩
  rw[a7,zV,yj];exact zk9 _ _
 have aa:((vec c.toNat λi=>L (q.getD i 0)).map V.int).length=c.toNat:=by rw[yb,zA]
 walk_at "x";refine zod 5 (λv H'=>∃r:Addr,v=.ref r/\Same H4 H'/\IsQ H' r (zcM (decide (w = "mean")) L q c.toNat)) ?_ ?_
 ·walk_at "x"
  ·rename_i C;refine zaG (q:=((L (q.getD (c.toNat-1) 0):Int):Rat)) ⟨rfl,rfl⟩ ?_;intro r N u b;refine⟨_,rfl,r,rfl,u,?_⟩;unfold zcM;rw[C,decide_eq_false a6,if_neg (by decide)];exact b
  ·rename_i C;have ac:w = "mean" := hw.resolve_left C;refine znP ⋯ (yc (zaO (n:=10) ⋯) (by decide)) ?_;intro r N u b;refine⟨_,rfl,r,rfl,u,?_⟩;unfold zcM;rw[ac,decide_eq_true rfl,if_pos rfl,zi6 _ _ _ (by rw[G.len];lia)];rw[za1,aa]at b;exact b
 rintro _ N ⟨r,rfl,u,b⟩;have R:TbW K "worst_days" lP lQ N:=TbW.same (M.trans u) a8;have y:SameT H N:=O.trans (M.trans u).t;walk_at "x"
 ·rename_i j;have J:pos0 (zcM (decide (w = "mean")) L q c.toNat)=zcM (decide (w = "mean")) L q c.toNat:=if_pos (nump.mp j);refine q1 ⟨hw,c0,c1⟩ r N q y R G ?_ (zlX a3 (by decide));unfold zdG;rw[J];exact b
 ·rename_i j;refine zaG (q:=(0:Rat)) ⟨rfl,rfl⟩ ?_;intro r' H6 e6 a5;have J:pos0 (zcM (decide (w = "mean")) L q c.toNat)=0:=if_neg (λz=>j (nump.mpr z));refine q1 ⟨hw,c0,c1⟩ r' H6 q (y.trans e6.t) (TbW.same e6 R) G ?_ (zlX a3 (by decide));unfold zdG;rw[J];exact a5
def zjN(T:Txt K mg):T.d_House_need.Ok P w mg base 4 (zr8 K T.c_House T.c_Book lP lQ):=by
 refine T.d_House_need.F.okX zjJ (λvs H Q E h=>?_) (λo A outer s H vs Q E g h=>?_)
 ·obtain⟨h,dx,d,B,own,m,y,n,ts,bs,k,F,w,c,rfl,_⟩:=h;rfl
 obtain⟨h,dx,d,B,own,m,y,n,ts,bs,k,F,w,c,rfl,C,a,q⟩:=h;obtain⟨⟨J,u⟩,_⟩:=id a.bk;have cl_House:=T.cl_House;have na_House_rule:=T.na_House_rule;have na_House_book:=T.na_House_book;have na_House_moves:=T.na_House_moves;refine⟨_,(zi (zm (qE T.d_need_of (zna (base:=base) T) g (za (show PE _ _ (zae K _ _)from zL (pv 0) rfl) (za (zaw (show PE _ _ (zae K _ _)from zL (pv 0) rfl) T.cl_Book T.d_Book_position.mt (zdk (base:=base) T) (g.mono (by decide)) T.d_Book_position.b .nil (zao zal) (za (pv 1) zd)) (za (show PE _ _ (zae K _ _)from zL (pv 0) rfl) zd)))))),?_⟩;refine zp (σ0:=[some (.ref h),some (.int n)]) rfl ?_;walk_at "x";refine⟨_,d,_,_,n,k,ts,rfl,a.bk,a.tok,by have:=a.k9;lia,λp H1 fp e1 hp=>?_⟩;have x:=e1.at C;walk_at "x";have e:=a.same e1;have D:∀j,-1000000000<=zaR ts n j/\zaR ts n j<=1000000000:=λj=>by
  have h1:=zmG a.tu n j;have h2:=a.tl;lia
 refine zpW (m:=1000000000) e.ru ⟨hp,e.mv,e.rows,λj _=>D j,λi hi j z=>by have:=a.fw i hi j z;lia,by decide,a.k9,by have:=a.ok.2;lia,a.n64,e.tb⟩ a.ok λr H2 v L I l f G=>?_;exact q r H2 v (e1.t.trans L) I l f G
def ziG(T:Txt K mg):T.d_House_purse.Ok P w mg base 1 (zkw T.c_House):=by
 refine T.d_House_purse.F.okN ziq (by walk_at "l") λa A outer s H vs Q E b h=>?_;obtain⟨h,dx,B,own,k,n,f,rfl,c,hp,k0,k1,q⟩:=h;have cl_House:=T.cl_House;have na_House_purses:=T.na_House_purses;refine⟨_,(zi (zm (qIx K (show PE _ _ (zae K _ _)from zL (pv 0) rfl) (pv 1)))),?_⟩;refine zp (σ0:=[some (.ref h),some (.int k)]) rfl ?_;walk_at "x";exact q
def zhu(T:Txt K mg):T.d_House_pledge.Ok P w mg base 1 (zjb T.c_House):=by
 refine T.d_House_pledge.F.okN zhr (by walk_at "l") λa A outer s H vs Q E b h=>?_;obtain⟨h,dx,B,own,k,n,f,rfl,c,hp,k0,k1,q⟩:=h;have cl_House:=T.cl_House;have na_House_pledges:=T.na_House_pledges;refine⟨_,(zi (zm (qIx K (show PE _ _ (zae K _ _)from zL (pv 0) rfl) (pv 1)))),?_⟩;refine zp (σ0:=[some (.ref h),some (.int k)]) rfl ?_;walk_at "x";exact q
def ziN(T:Txt K mg):T.d_House_share.Ok P w mg base 1 (zkS T.c_House):=by
 refine T.d_House_share.F.okN zh8 (by walk_at "l") λa A outer s H vs Q E b h=>?_;obtain⟨h,dx,B,own,k,n,f,rfl,c,hp,k0,k1,q⟩:=h;have cl_House:=T.cl_House;have na_House_shares:=T.na_House_shares;refine⟨_,(zi (zm (qIx K (show PE _ _ (zae K _ _)from zL (pv 0) rfl) (pv 1)))),?_⟩;refine zp (σ0:=[some (.ref h),some (.int k)]) rfl ?_;walk_at "x";exact q
def zkA(T:Txt K mg):T.d_House_own.Ok P w mg base 1 (znO T.c_House):=by
 refine T.d_House_own.F.okN zkV (by walk_at "l") λa A outer s H vs Q E b h=>?_;obtain⟨h,dx,B,own,rfl,c,q⟩:=h;have cl_House:=T.cl_House;have na_House_kept:=T.na_House_kept;refine⟨_,(zi (zm (show PE _ _ (zae K _ _)from zL (pv 0) rfl))),?_⟩;refine zp (σ0:=[some (.ref h)]) rfl ?_;walk_at "x";exact q
def ziF(T:Txt K mg):T.d_House_coins.Ok P w mg base 1 (zlk T.c_House):=by
 refine T.d_House_coins.F.okN zh3 (by walk_at "l") λa A outer s H vs Q E b h=>?_;obtain⟨h,dx,B,own,p,l,s,rfl,d,hp,c,e,q⟩:=h;have cl_House:=T.cl_House;have na_House_kept:=T.na_House_kept;have na_House_purses:=T.na_House_purses;have na_House_pledges:=T.na_House_pledges;have na_House_shares:=T.na_House_shares;refine⟨_,(zi (zm (zt (zad K) (zt (zad K) (zt (zad K) (za9 K T.z_sum (za (show PE _ _ (zae K _ _)from zL (pv 0) rfl) zd)) (za9 K T.z_sum (za (show PE _ _ (zae K _ _)from zL (pv 0) rfl) zd))) (za9 K T.z_sum (za (show PE _ _ (zae K _ _)from zL (pv 0) rfl) zd))) (show PE _ _ (zae K _ _)from zL (pv 0) rfl)))),?_⟩;refine zp (σ0:=[some (.ref h)]) rfl ?_;walk_at "x";exact q
def zis(T:Txt K mg):T.d_House_today.Ok P w mg base 2 (zqO T.c_House T.c_Book):=by
 refine T.d_House_today.F.okN zib (by walk_at "l") λc A outer s H vs Q E a h=>?_;obtain⟨h,dx,d,B,own,m,w,y,ts,rfl,i,e,q⟩:=h;obtain⟨⟨f,g⟩,_⟩:=id e;have cl_House:=T.cl_House;have na_House_book:=T.na_House_book;refine⟨_,(zi (zm (zbQ (show PE _ _ (zae K _ _)from zL (pv 0) rfl) T.cl_Book T.d_Book_today.mt (zeJ (base:=base) T) (a.mono (by decide)) T.d_Book_today.b .nil (zao zal)))),?_⟩;refine zp (σ0:=[some (.ref h)]) rfl ?_;walk_at "x";exact q
def zfX(T:Txt K mg):T.d_House_position.Ok P w mg base 2 (zuo T.c_House T.c_Book):=by
 refine T.d_House_position.F.okN zf4 (by walk_at "l") λf A outer s H vs Q E e h=>?_;obtain⟨h,dx,d,B,own,m,y,n,w,ts,rfl,k,a,i,c,q⟩:=h;obtain⟨⟨g,j⟩,_⟩:=id a;have cl_House:=T.cl_House;have na_House_book:=T.na_House_book;refine⟨_,(zi (zm (zaw (show PE _ _ (zae K _ _)from zL (pv 0) rfl) T.cl_Book T.d_Book_position.mt (zdk (base:=base) T) (e.mono (by decide)) T.d_Book_position.b .nil (zao zal) (za (pv 1) zd)))),?_⟩;refine zp (σ0:=[some (.ref h),some (.int n)]) rfl ?_;walk_at "x";exact⟨_,d,_,_,n,w,ts,rfl,a,i,c,q⟩
def zk6(T:Txt K mg):T.d_Book_deal.Ok P w mg base 1 (zr2 T.c_Book T.c_NoDeal):=by
 refine T.d_Book_deal.F.okX zkm (λvs H Q E h=>?_) (λe A outer s H vs Q E f h=>?_)
 ·obtain⟨b,dx,d,m,w,y,n,xs,rfl,_⟩:=h;rfl
 obtain⟨b,dx,d,m,w,y,n,xs,rfl,g,hd,h⟩:=h;have cl_Book:=T.cl_Book;have na_Book_deals:=T.na_Book_deals;refine⟨_,(ze (zI (PW.pt (zbD (zw zbY (pv 1) zh (nomark _)) (zbu (zw zrz (pv 1) (zaL K T.z_len (za (show PE _ _ (zae K _ _)from zL (pv 0) rfl) zd)) (nomark _)))))
 (zi (zbP rfl rfl T.m_NoDeal (errOk.own T.e_NoDeal) (za zJ zd) zdp))
 zD)
 (zi (zm (qIx K (show PE _ _ (zae K _ _)from zL (pv 0) rfl) (pv 1))))),?_⟩
 refine zp (σ0:=[some (.ref b),some (.int n)]) rfl ?_;rcases h with⟨n0,v,hv,k⟩ | ⟨hn,k⟩
 ·have c:=(yk.mp hv).1;have a:atI xs n=some v:=zbd n0 hv;walk_at "x"
  all_goals first | exact k | (exfalso;lia)
 ·walk_at "x"
  all_goals first | exact⟨by decide,k⟩ | (exfalso;lia)
def zjD(T:Txt K mg):T.d_House_deal.Ok P w mg base 2 (zsb T.c_House T.c_Book T.c_NoDeal):=by
 refine T.d_House_deal.F.okX zjV (λvs H Q E h=>?_) (λf A outer s H vs Q E e h=>?_)
 ·obtain⟨h,dx,a,d,B,own,m,w,y,n,xs,rfl,_⟩:=h;rfl
 obtain⟨h,dx,a,d,B,own,m,w,y,n,xs,rfl,g,c,hd,q⟩:=h;have cl_House:=T.cl_House;have na_House_book:=T.na_House_book;refine⟨_,(zi (zm (zaw (show PE _ _ (zae K _ _)from zL (pv 0) rfl) T.cl_Book T.d_Book_deal.mt (zk6 (base:=base) T) (e.mono (by decide)) T.d_Book_deal.b .nil zn7 (za (pv 1) zd)))),?_⟩;refine zp (σ0:=[some (.ref h),some (.int n)]) rfl ?_;walk_at "x";exact⟨_,a,d,m,w,y,n,xs,rfl,c,hd,q⟩
def zij{r:Addr}{rows:List Addr}{F:Nat->Nat->Int}(N:H r=some (.lst (rows.map V.ref)))(I:Rows H rows k F)(z:0<k)(U:rows.length<=1000)(L:k<=1000)(P:zbx [none] σ=[none])(q:∀D H' (bs:List Addr),H D=none->Same H H'->H' D=some (.lst (bs.map V.ref))->bs.length=rows.length->Rows H' bs k F->(∀b∈bs,H b=none)->D∉bs->Q (.ref D) H'):zcT (Itl K r) [none] (zbn 0) zdP (tCB (zcY K) (zj3 (zk5 0) zfE)) σ Q H:=by
 refine zH (zO (K:=K) (a:=r) (xs:=rows.map V.ref)) (λH' e=>SqL.of (e.at N)) P (λi vs H'=>∃bs:List Addr,vs=bs.map V.ref/\bs.length=i/\Rows H' bs k F/\∀b∈bs,H b=none) (λH' _=>⟨[],rfl,rfl,⟨yac,λi a h=>nomatch h⟩,λb j=>nomatch j⟩) ?_ ?_
 ·rintro i x D vs o S w hi s G B n ⟨bs,rfl,f,d,g⟩ l A;rw[yb]at hi;obtain⟨c,C⟩:=zN hi;have ex:x=.ref c:=by rw[yg,C]at A;exact(yq A).symm
  subst ex;have v:=I.2 _ _ C;have E:(bs.map V.ref).length<=1000:=by rw[yb];lia
  walk_at "x";rename_i p R fp M hp T y J;have m:D∉bs:=d.ne z B;have u:p≠D:=zbw fp (l.at B);have t:H p=none:=Same.none fp (G.trans l);subst f;refine⟨⟨_,rfl⟩,∅,_,J,by rw[yf];exact ye n,bs++[p],by rw[yj];rfl,by rw[yf];rfl,Rows.app ((d.same (l.trans M)).but y m) ((d.same l).fresh fp) (y.lst hp u),λb j=>?_⟩;rcases yA.mp j with j | j
  ·exact g b j
  ·rw[yp.mp j];exact t
 ·rintro D w us O l s _ ⟨bs,rfl,f,d,g⟩;rw[yb]at f;exact q D w bs O l s f d g (d.ne z s)
def zcO(T:Txt K mg):T.d_House___init__.Ok P w mg base 3 (zr4 K T.c_House T.c_Book T.c_NoRule T.c_NoLayer):=by
 refine T.d_House___init__.F.okX zfY (λvs H Q E h=>?_) (λdn A outer s H vs Q E hr h=>?_)
 ·obtain⟨p,dx,ms,mo,ru,od,us,xs,as,k,F,w,c,ws,own,rfl,_⟩:=h;rfl
 obtain⟨p,dx,ms,mo,ru,od,us,xs,as,k,F,w,c,ws,own,rfl,hp,m,hI,dp,L,hR,dm,cx,k0,k1,aj,ag,hwl,q0,q1,q2⟩:=h;have ar:(as.map V.ref).length=as.length:=yb ..;have r:=hI.length;have d6:Stk p H H []:=Stk.nil (zac hp);have y:ms≠p:=zag m hp (by intro z;cases z);have b2:mo≠p:=zag L hp (by intro z;cases z);have cv:ru≠p:=zag aj hp (by intro z;cases z);have nod:od≠p:=zag ag hp (by intro z;cases z);refine⟨_,(ze (zS (qE T.d_check_rule (zeU (base:=base) T) hr (za (pv 3) (za (pv 2) zd))))
 (ze (zS (qE T.d_check_order (zd0 (base:=base) T) hr (za (pv 4) zd)))
 (ze (show PS _ _ (zbv K _ _ _)from zaZ (pv 0) (qC1 ["coins"] [none] (zP K (pv 1)) (λ_ _ _ _ _=>(qIx K (pv 0) zh))) rfl)
 (ze (show PS _ _ (zbv K _ _ _)from zaZ (pv 0) (qC1 ["coins"] [none] (zP K (pv 1)) (λ_ _ _ _ _=>(qIx K (pv 0) zh))) rfl)
 (ze (show PS _ _ (zbv K _ _ _)from zaZ (pv 0) (qC1 ["coins"] [none] (zP K (pv 1)) (λ_ _ _ _ _=>(qIx K (pv 0) zh))) rfl)
 (ze (show PS _ _ (zbv K _ _ _)from zaZ (pv 0) (pv 5) rfl)
 (ze (show PS _ _ (zbv K _ _ _)from zaZ (pv 0) (qC1 ["moved"] [none] (zP K (pv 2)) (λ_ _ _ _ _=>(zcy K T.z_list (za (pv 0) zd)))) rfl)
 (ze (show PS _ _ (zbv K _ _ _)from zaZ (pv 0) (zE (za (qIx K (pv 3) zh) (za (qIx K (pv 3) zh) zd))) rfl)
 (ze (show PS _ _ (zbv K _ _ _)from zaZ (pv 0) (zcy K T.z_list (za (pv 4) zd)) rfl)
 (ze (show PS _ _ (zbv K _ _ _)from zaZ (pv 0) (zmE T.mk_Book (zgN (base:=base) T) (hr.mono (by decide)) rfl T.m_Book T.d_Book___init__.b .nil (zao zal) (za (zaL K T.z_len (za (pv 1) zd)) (za (zaL K T.z_len (za (qIx K (pv 2) zh) zd)) zd))) rfl)
 (ze (show PS _ _ (zbv K _ _ _)from zaZ (pv 0) (qC1 ["coins"] [none] (zP K (pv 1)) (λ_ _ _ _ _=>zbi)) rfl)
 (zi (show PS _ _ (zbv K _ _ _)from zaZ (pv 0) (zK zd) rfl))))))))))))),?_⟩
 refine zp (σ0:=[some (.ref p),some (.ref ms),some (.ref mo),some (.ref ru),some (.ref od),some (.int own)]) rfl ?_;walk_at "x";refine zhD aj L (λok H1 e1=>?_) (λc2 H1 e1=>q1 (by rw[ar]at c2;exact c2) H1 e1);rw[ar]at ok;walk_at "x";refine⟨od,ws,rfl,SqL.of (e1.at ag),hwl,?_⟩;by_cases hO:OkO ws
 case neg=>exact .inr ⟨hO,λH2 e2=>q2 ok hO _ (e1.trans e2)⟩
 refine .inl ⟨hO,λH2 e2=>?_⟩;have ab:=(d6.same e1).same e2;have d2:=(e1.trans e2).at hp;walk_at "x";have bf:=ab.nb.at m y;refine zH (zO (K:=K) (a:=ms) (xs:=us)) (λH' e=>SqL.of (e.at bf)) rfl (λi vs _=>vs=(vec i λi=>(xs.getD i (0,0,0)).1).map V.int) (λH' _=>rfl) ?_ ?_
 ·rintro i x D vs o G G' hi hD J hv j rfl g U;obtain⟨a,u,rfl,hu,I⟩:=hI.get U;have t:a≠p:=zag I hp (by intro z;cases z);have b7:G' a=some (.tup [.int u.1,.int u.2.1,.int u.2.2]):=(J.trans g).at (ab.nb.at I t);have ac:=g.at hv;walk_at "x";rename_i G6 C h6;refine⟨⟨_,rfl⟩,C.same (J.trans g) hD,_,h6,by rw[yf];exact ye j,?_⟩;dsimp only;rw[zV,yj,yi,hu];rfl
 rintro pu H3 vs d0 e3 a4 _ rfl;rw[r]at a4;have d7:=ab.new d0 e3 (zac a4);have ca:=e3.at d2;walk_at "x";refine zaM ca T.cl_House T.na_House_purses (by show 0<1000;decide) λH4 b4 bi=>?_;have ah:=d7.keep b4.nb (zac bi);have c4:NB p H3 H4:=b4.nb;have bg:=ah.nb.at m y;walk_at "x";refine zH (zO (K:=K) (a:=ms) (xs:=us)) (λH' e=>SqL.of (e.at bg)) rfl (λi vs _=>vs=(vec i λi=>(xs.getD i (0,0,0)).2.1).map V.int) (λH' _=>rfl) ?_ ?_
 ·rintro i x D vs o G G' hi hD J hv j rfl g U;obtain⟨a,u,rfl,hu,I⟩:=hI.get U;have t:a≠p:=zag I hp (by intro z;cases z);have b7:G' a=some (.tup [.int u.1,.int u.2.1,.int u.2.2]):=(J.trans g).at (ah.nb.at I t);have ac:=g.at hv;walk_at "x";rename_i G6 C h6;refine⟨⟨_,rfl⟩,C.same (J.trans g) hD,_,h6,by rw[yf];exact ye j,?_⟩;dsimp only;rw[zV,yj,yi,hu];rfl
 rintro pl H5 vs cz g a3 _ rfl;rw[r]at a3;have dd:=ah.new cz g (zac a3);have dc:=g.at bi;walk_at "x";refine zaM dc T.cl_House T.na_House_pledges (by exact yC (zo _ _ []) (by decide:1<1000)) λH6 C b5=>?_;have am:=dd.keep C.nb (zac b5);have c6:NB p H5 H6:=C.nb;have bp:=am.nb.at m y;walk_at "x";refine zH (zO (K:=K) (a:=ms) (xs:=us)) (λH' e=>SqL.of (e.at bp)) rfl (λi vs _=>vs=(vec i λi=>(xs.getD i (0,0,0)).2.2).map V.int) (λH' _=>rfl) ?_ ?_
 ·rintro i x D vs o G G' hi hD J hv j rfl g U;obtain⟨a,u,rfl,hu,I⟩:=hI.get U;have t:a≠p:=zag I hp (by intro z;cases z);have b7:G' a=some (.tup [.int u.1,.int u.2.1,.int u.2.2]):=(J.trans g).at (am.nb.at I t);have ac:=g.at hv;walk_at "x";rename_i G6 C h6;refine⟨⟨_,rfl⟩,C.same (J.trans g) hD,_,h6,by rw[yf];exact ye j,?_⟩;dsimp only;rw[zV,yj,yi,hu];rfl
 rintro sh H7 vs dj e7 a7 _ rfl;rw[r]at a7;have cy:=am.new dj e7 (zac a7);have ck:=e7.at b5;walk_at "x";refine zaM ck T.cl_House T.na_House_shares (by exact yC (yc (zo _ _ _) (ye (zo _ _ []))) (by decide:2<1000)) λH8 b8 au=>?_;have ch:=cy.keep b8.nb (zac au);have c8:NB p H7 H8:=b8.nb;walk_at "x";refine zaM au T.cl_House T.na_House_kept (by exact yC (yc (zo _ _ _) (ye (yc (zo _ _ _) (ye (zo _ _ []))))) (by decide:3<1000)) λH9 b9 c5=>?_;have ae:=ch.keep b9.nb (zac c5);have b3:=ae.nb.at L b2;walk_at "x";have d5:Rows H9 as k F:=⟨hR.1,λi a e=>ae.nb.at (hR.2 i a e) (zag (hR.2 i a e) hp (by intro z;cases z))⟩
 refine zij b3 d5 k0 cx k1 rfl λmv bo bs cr a5 b1 d9 B d1 ci=>?_;have be:Stk p H bo (bs++[mv,sh,pl,pu]):=by
  have s1:=ae.more (bs:=bs++[mv]) (λb n=>(yA.mp n).elim (d1 b) λh=>by rw[yp.mp h];exact cr) (yS.mpr ⟨B.1,yK.mpr ⟨by simp,yac⟩,λa I b n z=>ci (by rw[<- yp.mp n,<- z];exact I)⟩) a5 (λb n=>(yA.mp n).elim (λh=>by
   obtain⟨i,hi,e⟩:=yP h;exact zac (B.2 i b (by rw[yr hi,e]))) λh=>by rw[yp.mp h];exact zac b1)
  rw[yaG]at s1;exact s1
 have Z:=a5.at c5;walk_at "x";refine zaM Z T.cl_House T.na_House_moves (by exact yC (yc (zo _ _ _) (ye (yc (zo _ _ _) (ye (yc (zo _ _ _) (ye (zo _ _ []))))))) (by decide:4<1000)) λct bb a1=>?_;have X:=be.keep bb.nb (zac a1);have de:=X.nb.at aj cv;walk_at "x";refine zaA (by first | decide | simp) λrr da cp a6 c7=>?_;have bw:=X.new cp a6 (zac c7);have ao:=a6.at a1;walk_at "x";refine zaM ao T.cl_House T.na_House_rule (by exact yC (yc (zo _ _ _) (ye (yc (zo _ _ _) (ye (yc (zo _ _ _) (ye (yc (zo _ _ _) (ye (zo _ _ []))))))))) (by decide:5<1000)) λcn ax S=>?_;have a0:=bw.keep ax.nb (zac S);have cb:=a0.nb.at ag nod;walk_at "x";rename_i oo ce cj ai bn;have bt:=a0.new cj ai (zac bn);have aq:=ai.at S;refine zaM aq T.cl_House T.na_House_order (by exact yC (yc (zo _ _ _) (ye (yc (zo _ _ _) (ye (yc (zo _ _ _) (ye (yc (zo _ _ _) (ye (yc (zo _ _ _) (ye (zo _ _ []))))))))))) (by decide:6<1000)) λM bx W=>?_;have l:=bt.keep bx.nb (zac W);have cf:=l.nb.at m y;have cu:=l.nb.at L b2;obtain⟨c0,an⟩:=zN (show 0<as.length by lia);have dk:atI (as.map V.ref) 0=some (.ref c0):=zbd (by decide) (by rw[yg,show(0:Int).toNat=0 from rfl,an];rfl);have c9:M c0=some (.lst ((vec k (F 0)).map V.int)):=l.nb.at (hR.2 _ _ an) (zag (hR.2 _ _ an) hp (by intro z;cases z));have cw:(((vec k (F 0)).map V.int).length:Int)=k:=by rw[yb,zA]
 walk_at "x";refine ziJ λbk bj dl c1 bc bm=>?_;refine⟨bk,bj,_,_,rfl,bm,λd al fd di a9 hd=>⟨rfl,?_⟩⟩;have ak:Same M al:=λc o q=>di c o (zy q c1) (bc c o q);have d8:M d=none:=Same.none fd bc;have ap:d≠bk:=λz=>by rw[z,bm]at fd;cases fd
 rw[r,cw]at a9;have av:Stk p H al (d :: bk :: oo :: rr :: (bs++[mv,sh,pl,pu])):=by
  refine l.more (bs:=[d,bk]) (λb n=>?_) (yK.mpr ⟨by rw[yp];exact ap,yK.mpr ⟨by simp,yac⟩⟩) ak λb n=>?_
  ·rcases yt.mp n with rfl | n
   ·exact d8
   ·rw[yp.mp n];exact c1
  ·rcases yt.mp n with rfl | n
   ·exact zac hd
   ·rw[yp.mp n];exact zac a9
 have b0:=ak.at W;walk_at "x";refine zaM b0 T.cl_House T.na_House_book (by exact yC (yc (zo _ _ _) (ye (yc (zo _ _ _) (ye (yc (zo _ _ _) (ye (yc (zo _ _ _) (ye (yc (zo _ _ _) (ye (yc (zo _ _ _) (ye (zo _ _ []))))))))))))) (by decide:7<1000)) λcs bz O=>?_;have R:=av.keep bz.nb (zac O);have aa:=R.nb.at m y;walk_at "x";refine zH (zO (K:=K) (a:=ms) (xs:=us)) (λH' e=>SqL.of (e.at aa)) rfl (λi vs _=>vs=(List.replicate i false).map V.bl) (λH' _=>rfl) ?_ ?_
 ·rintro i x D vs o G G' hi hD J hv j rfl g U;have ac:=g.at hv;walk_at "x";rename_i G6 C h6;refine⟨⟨_,rfl⟩,C.same (J.trans g) hD,_,h6,by rw[yf];exact ye j,?_⟩;dsimp only;rw[List.replicate_succ',yj];rfl
 rintro ou cm vs df af hou _ rfl;rw[r]at hou;have bd:=R.new df af (zac hou);have bh:=af.at O;walk_at "x";refine zaM bh T.cl_House T.na_House_outs (by exact yC (yc (zo _ _ _) (ye (yc (zo _ _ _) (ye (yc (zo _ _ _) (ye (yc (zo _ _ _) (ye (yc (zo _ _ _) (ye (yc (zo _ _ _) (ye (yc (zo _ _ _) (ye (zo _ _ []))))))))))))))) (by decide:8<1000)) λco bq N=>?_;have az:=bd.keep bq.nb (zac N);walk_at "x";rename_i re dg d4 a2 hre;have bu:=az.new d4 a2 (zac hre);have aw:=a2.at N;refine zaM aw T.cl_House T.na_House_reports (by exact yC (yc (zo _ _ _) (ye (yc (zo _ _ _) (ye (yc (zo _ _ _) (ye (yc (zo _ _ _) (ye (yc (zo _ _ _) (ye (yc (zo _ _ _) (ye (yc (zo _ _ _) (ye (yc (zo _ _ _) (ye (zo _ _ []))))))))))))))))) (by decide:9<1000)) λf bv Y=>?_;have v:=bu.keep bv.nb (zac Y);walk_at "x";have br:NB p dg f:=bv.nb;have cg:NB p co f:=a2.nb.trans br;have c3:NB p cm f:=bq.nb.trans cg;have cd:NB p cs f:=af.nb.trans c3;have a8:NB p al f:=bz.nb.trans cd;have cc:NB p M f:=ak.nb.trans a8;have ba:NB p ce f:=bx.nb.trans cc;have dh:NB p cn f:=ai.nb.trans ba;have ay:NB p da f:=ax.nb.trans dh;have cq:NB p ct f:=a6.nb.trans ay;have ad:NB p bo f:=bb.nb.trans cq;have db:NB p H9 f:=a5.nb.trans ad;have n9:NB p H8 f:=b9.nb.trans db;have n8:NB p H7 f:=b8.nb.trans n9;have n7:NB p H6 f:=e7.nb.trans n8;have n6:NB p H5 f:=C.nb.trans n7;have n5:NB p H4 f:=g.nb.trans n6;have n4:NB p H3 f:=b4.nb.trans n5;have mp:∀x,x∈(re :: ou :: d :: bk :: oo :: rr :: (bs++[mv,sh,pl,pu]))->x≠p:=λx U=>(v.ex x U).2.1;refine q0 ok hO ⟨pu,pl,sh,mv,rr,oo,bk,ou,re⟩ d bs f v.nb Y d9 ⟨?_,?_,?_,?_,?_,?_,?_,?_,?_,?_,v⟩
 ·exact n4.at a4 (mp _ (by simp))
 ·exact n6.at a3 (mp _ (by simp))
 ·exact n8.at a7 (mp _ (by simp))
 ·exact ad.at b1 (mp _ (by simp))
 ·exact⟨B.1,λi a e=>ad.at (B.2 i a e) (zag (B.2 i a e) Z (by intro z;cases z))⟩
 ·exact ay.at c7 (mp _ (by simp))
 ·exact ba.at bn (mp _ (by simp))
 ·exact⟨⟨bj,a8.at a9 (mp _ (by simp))⟩,[],a8.at hd (mp _ (by simp)),trivial⟩
 ·exact c3.at hou (mp _ (by simp))
 ·exact br.at hre (mp _ (by simp))
def zf1(T:Txt K mg):T.d_Book_put_state.Ok P w mg base 1 zcU:=by
 refine T.d_Book_put_state.F.okN zf5 (λvs H Q E h=>h.elim) (λa A outer s H vs Q E b h=>h.elim)
def zfW(T:Txt K mg):T.d_Book_break_all.Ok P w mg base 2 zcU:=by
 refine T.d_Book_break_all.F.okN zf3 (λvs H Q E h=>h.elim) (λa A outer s H vs Q E b h=>h.elim)
def zge(T:Txt K mg):T.d_whole_of.Ok P w base 1 zo2:=by
 refine T.d_whole_of.F.okN zly (by walk_at "l") λb A outer s H vs Q E d h=>?_;obtain⟨a,q,rfl,h1,c,k⟩:=h;refine⟨_,(zi (zm (zt zaW (qIx K (pv 0) zh) (qIx K (pv 0) zh)))),?_⟩;refine zp (σ0:=[some (.ref a)]) rfl ?_;walk_at "x";refine zri (zaC q) (yc c.2 (by decide)) ?_;exact k
def zfq(T:Txt K mg):T.d_Book_numbers_on.Ok P w mg base 1 (ziK T.c_Book):=by
 refine T.d_Book_numbers_on.F.okN ze6 (by walk_at "l") λl A outer s H vs Q E g h=>?_;obtain⟨b,d,m,w,y,z,rfl,p,k⟩:=h;obtain⟨⟨dx,u⟩,xs,hd,j⟩:=id p;obtain rfl:xs=[]:=yT.mp j.length;have cl_Book:=T.cl_Book;have na_Book_deals:=T.na_Book_deals;refine⟨_,(zi (zm (zdR rfl (zav K T.z_enumerate (za (show PE _ _ (zae K _ _)from zL (pv 0) rfl) zd)) (zak (Ni:=["number", "one", "day"]) (caps:=[none,none,some 1]) (by rfl)) (λS _ _ _ _ _=>(show PG _ _ (zaP K 2 _)from zas (n:=2) rfl (zx (zaf (gi:=0) S (Or.inl rfl) rfl) (zx (zaf (gi:=1) S (Or.inl rfl) rfl) zah)))) (λ_ _ _ _ _=>(zd5 (PW.pt (za0 (zw (qEq K g.units) (qIx K (pv 1) (zQ (v:=.int 5) rfl T.g_DAY.h ⟨_,rfl⟩)) (pv 2) (nomark _)) (za3 (zw (qNe K g.units) (qIx K (pv 1) (zQ (v:=.int 7) rfl T.g_STATE.h ⟨_,rfl⟩)) zJ (nomark _))))))) (λ_ _ _ _ _=>(pv 0))))),?_⟩;refine zp (σ0:=[some (.ref b),some (.int z)]) rfl ?_;walk_at "x";refine zai (zU (K:=K) (a:=d) (xs:=[])) (λH' e=>SqL.of (e.at hd)) rfl (λi vs _=>vs=[]) (λH' _=>rfl) ?_ ?_
 ·rintro i x D vs o o' H2 t hi;exact absurd hi (yB _)
 rintro r H1 vs f e1 c q rfl;exact k r H1 f e1 c
def zdn(T:Txt K mg):T.d_Book_sheet_on.Ok P w mg base 2 (ziK T.c_Book):=by
 refine T.d_Book_sheet_on.F.okN zdi (by walk_at "l") λt A outer s H vs Q E G h=>?_;obtain⟨b,d,m,w,y,z,rfl,p,k⟩:=h;obtain⟨⟨dx,J⟩,xs,hd,q⟩:=id p;obtain rfl:xs=[]:=yT.mp q.length;have cl_Book:=T.cl_Book;have na_Book_deals:=T.na_Book_deals;refine⟨_,(ze (qS1 2 zdi ["number", "self"] [none,some 0] (zP K (zaw (pv 0) T.cl_Book T.d_Book_numbers_on.mt (zfq (base:=base) T) (G.mono (by decide)) T.d_Book_numbers_on.b .nil (zao zal) (za (pv 1) zd))) (λ_ _ _ _ _=>(qIx K (show PE _ _ (zae K _ _)from zL (pv 1) rfl) (pv 0))))
 (zi (zm (qC1 ["one"] [none] (zP K (pv 2)) (λ_ _ _ _ _=>(zE (za (qIx K (pv 0) (zQ (v:=.int 0) rfl T.g_PAYER.h ⟨_,rfl⟩)) (za (qIx K (pv 0) (zQ (v:=.int 1) rfl T.g_PAYEE.h ⟨_,rfl⟩)) (za (qIx K (pv 0) (zQ (v:=.int 6) rfl T.g_RANK.h ⟨_,rfl⟩)) (za (qIx K (pv 0) (zQ (v:=.int 4) rfl T.g_AMOUNT.h ⟨_,rfl⟩)) zd)))))))))),?_⟩
 refine zp (σ0:=[some (.ref b),some (.int z),none]) rfl ?_;walk_at "x";refine⟨b,d,m,w,y,z,rfl,p,λB H1 I e1 c=>?_⟩;walk_at "x";refine zH (zO (K:=K) (a:=B) (xs:=[])) (λH' e=>SqL.of (e.at c)) rfl (λi vs _=>vs=[]) (λH' _=>rfl) ?_ ?_
 ·rintro i x D vs o H2 g hi;exact absurd hi (yB _)
 rintro r H2 vs C e2 j f rfl;walk_at "x";refine zH (zO (K:=K) (a:=r) (xs:=[])) (λH' e=>SqL.of (e.at j)) rfl (λi vs _=>vs=[]) (λH' _=>rfl) ?_ ?_
 ·rintro i x D vs o H2 g hi;exact absurd hi (yB _)
 rintro sh g vs n u l f rfl;exact k sh g (Same.none n (e1.trans e2)) (e1.trans (e2.trans u)) l
def zhy(T:Txt K mg):T.d_Book_entries.Ok P w mg base 1 (ziK T.c_Book):=by
 refine T.d_Book_entries.F.okN sc_Book_entries (by walk_at "l") λr A outer s H vs Q E e h=>?_;obtain⟨b,d,m,w,y,n,rfl,z,k⟩:=h;obtain⟨⟨dx,C⟩,xs,hd,q⟩:=id z;obtain rfl:xs=[]:=yT.mp q.length;have cl_Book:=T.cl_Book;have na_Book_deals:=T.na_Book_deals;refine⟨_,(ze (zu 2 sc_Book_entries (zK zd))
 (ze (z5 PassesOwn.never rfl (zav K T.z_enumerate (za (show PE _ _ (zae K _ _)from zL (pv 0) rfl) zd)) (show PG _ _ (zaP K 2 _)from zas (n:=2) rfl (zx (zC (i:=3) sc_Book_entries.nd rfl (Or.inl rfl)) (zx (zC (i:=4) sc_Book_entries.nd rfl (Or.inl rfl)) zah)))
 (zi (zI (PW.pt (za0 (zw (qNe K e.units) (qIx K (pv 4) (zQ (v:=.int 7) rfl T.g_STATE.h ⟨_,rfl⟩)) zJ (nomark _)) (za3 (zw (qEq K e.units) (qIx K (pv 4) (zQ (v:=.int 0) rfl T.g_PAYER.h ⟨_,rfl⟩)) (pv 1) (nomark _)))))
 (zi (zS (qAp K (pv 2) (za (zE (za (qIx K (pv 4) (zQ (v:=.int 5) rfl T.g_DAY.h ⟨_,rfl⟩)) (za (pv 3) (za (zbk za4 (qIx K (pv 4) (zQ (v:=.int 4) rfl T.g_AMOUNT.h ⟨_,rfl⟩))) zd)))) zd))))
 (zi (zI (PW.pt (za0 (zw (qNe K e.units) (qIx K (pv 4) (zQ (v:=.int 7) rfl T.g_STATE.h ⟨_,rfl⟩)) zJ (nomark _)) (za3 (zw (qEq K e.units) (qIx K (pv 4) (zQ (v:=.int 1) rfl T.g_PAYEE.h ⟨_,rfl⟩)) (pv 1) (nomark _)))))
 (zi (zS (qAp K (pv 2) (za (zE (za (qIx K (pv 4) (zQ (v:=.int 5) rfl T.g_DAY.h ⟨_,rfl⟩)) (za (pv 3) (za (qIx K (pv 4) (zQ (v:=.int 4) rfl T.g_AMOUNT.h ⟨_,rfl⟩)) zd)))) zd))))
 zD)))))
 (zi (zm (zax (show CallR _ _ (zdT K)from zfx) rfl T.z_sorted BT.sorted (za (pv 2) zd)))))),?_⟩
 refine zp (σ0:=[some (.ref b),some (.int n),none,none,none]) rfl ?_;walk_at "x";rename_i B H1 u e1 g;refine zb9 (zU (K:=K) (a:=d) (xs:=[])) (λi c H'=>∃(p o:Option V),c=[some (.ref b),some (.int n),some (.ref B),p,o]/\H'=H1) ⟨_,_,rfl,rfl⟩ ?_ ?_ ?_
 ·rintro i c H' ⟨_,_,_,rfl⟩;exact e1.seq (SqL.of hd)
 ·rintro i D c H2 j hi;exact absurd hi (yB _)
 ·rintro c H2 ⟨p,o,rfl,rfl⟩;walk_at "x";refine zma (ns:=[]) (SqL.of g) (by decide) λl ms j x t hp G f=>?_;obtain rfl:ms=[]:=hp.eq_nil;exact k l j (Same.none x e1) (e1.trans t) f
def zjH(T:Txt K mg):T.d_Book_close.Ok P w mg base 2 (zqN T.c_Book):=by
 refine T.d_Book_close.F.okN sc_Book_close (by walk_at "l") λt A outer s H vs Q E l h=>?_;obtain⟨b,d,m,w,y,rfl,B,k⟩:=h;obtain⟨⟨dx,G⟩,xs,hd,r⟩:=id B;obtain rfl:xs=[]:=yT.mp r.length;have cl_Book:=T.cl_Book;have na_Book_deals:=T.na_Book_deals;have na_Book_day:=T.na_Book_day;refine⟨_,(ze (zct (i:=1) sc_Book_close.nd rfl rfl rfl (zav K T.z_enumerate (za (show PE _ _ (zae K _ _)from zL (pv 0) rfl) zd)) (zak (Ni:=["number", "one", "self"]) (caps:=[none,none,some 0]) (by rfl)) (λS _ _ _ _ _=>(show PG _ _ (zaP K 2 _)from zas (n:=2) rfl (zx (zaf (gi:=0) S (Or.inl rfl) rfl) (zx (zaf (gi:=1) S (Or.inl rfl) rfl) zah)))) (λ_ _ _ _ _=>(zd5 (PW.pt (za0 (zw (qEq K l.units) (qIx K (pv 1) (zQ (v:=.int 7) rfl T.g_STATE.h ⟨_,rfl⟩)) zJ (nomark _)) (za3 (zw (qEq K l.units) (qIx K (pv 1) (zQ (v:=.int 5) rfl T.g_DAY.h ⟨_,rfl⟩)) (show PE _ _ (zae K _ _)from zL (pv 2) rfl) (nomark _))))))) (λ_ _ _ _ _=>(pv 0)))
 (ze (z5 PassesOwn.never rfl (zP K (pv 1)) (zC (i:=2) sc_Book_close.nd rfl (Or.inl rfl))
 (zi (zS (zaw (pv 0) T.cl_Book T.d_Book_put_state.mt (zf1 (base:=base) T) (l.mono (by decide)) T.d_Book_put_state.b .nil (zao zal) (za (pv 2) (za zJ zd))))))
 (ze (show PS _ _ (zdW K _ _ _ _)from zfg (pv 0) zh znJ)
 (zi (zm (pv 1)))))),?_⟩
 refine zp (σ0:=[some (.ref b),none,none]) rfl ?_;walk_at "x";refine zai (zU (K:=K) (a:=d) (xs:=[])) (λH' e=>SqL.of (e.at hd)) rfl (λi vs _=>vs=[]) (λH' _=>rfl) ?_ ?_
 ·rintro i x D vs o o' H2 J hi;exact absurd hi (yB _)
 rintro q H1 vs I e1 j u rfl;walk_at "x";refine zbc (xs:=[]) (λi g H'=>∃p:Option V,g=[some (.ref b),some (.ref q),p]/\H'=H1) ⟨_,rfl,rfl⟩ ?_ ?_ ?_
 ·rintro i g H' _ ⟨_,_,rfl⟩;exact SqL.of j
 ·rintro i x g H' C;simp at C
 ·rintro g H' ⟨p,rfl,rfl⟩;have f:=e1.at G;walk_at "x";refine⟨b,T.c_Book,dx,_,_,rfl,f,cl_Book,na_Book_day,zl5,?_⟩;walk_at "x";refine⟨y,1,rfl,rfl,dx,_,f,zsO _ _ _ _,?_⟩;walk_at "x";exact k q _ λc o n h=>by rw[zG (λz=>n (by rw[z];exact yp.mpr rfl))];exact e1 c o h
def zf2(T:Txt K mg):T.d_House_sheet_on.Ok P w mg base 3 (zj9 T.c_House T.c_Book):=by
 refine T.d_House_sheet_on.F.okN zf6 (by walk_at "l") λe A outer s H vs Q E c h=>?_;obtain⟨h,dx,d,B,own,m,w,y,z,rfl,i,a,q⟩:=h;obtain⟨⟨f,g⟩,_⟩:=id a;have cl_House:=T.cl_House;have na_House_book:=T.na_House_book;refine⟨_,(zi (zm (zaw (show PE _ _ (zae K _ _)from zL (pv 0) rfl) T.cl_Book T.d_Book_sheet_on.mt (zdn (base:=base) T) (c.mono (by decide)) T.d_Book_sheet_on.b .nil (zao zal) (za (pv 1) zd)))),?_⟩;refine zp (σ0:=[some (.ref h),some (.int z)]) rfl ?_;walk_at "x";exact⟨_,d,m,w,y,z,rfl,a,q⟩
def zgl(T:Txt K mg):T.d_House_entries.Ok P w mg base 2 (zj9 T.c_House T.c_Book):=by
 refine T.d_House_entries.F.okN zgv (by walk_at "l") λe A outer s H vs Q E c h=>?_;obtain⟨h,dx,d,B,own,m,w,y,z,rfl,i,a,q⟩:=h;obtain⟨⟨f,g⟩,_⟩:=id a;have cl_House:=T.cl_House;have na_House_book:=T.na_House_book;refine⟨_,(zi (zm (zaw (show PE _ _ (zae K _ _)from zL (pv 0) rfl) T.cl_Book T.d_Book_entries.mt (zhy (base:=base) T) (c.mono (by decide)) T.d_Book_entries.b .nil (zao zal) (za (pv 1) zd)))),?_⟩;refine zp (σ0:=[some (.ref h),some (.int z)]) rfl ?_;walk_at "x";exact⟨_,d,m,w,y,z,rfl,a,q⟩
def zgT(T:Txt K mg):T.d_House_is_out.Ok P w mg base 1 (ztv T.c_House):=by
 refine T.d_House_is_out.F.okN zhO (by walk_at "l") λb A outer s H vs Q E c h=>?_;obtain⟨h,dx,B,own,k,n,rfl,d,e,k0,k1,q⟩:=h;have cl_House:=T.cl_House;have na_House_outs:=T.na_House_outs;have a:atI ((List.replicate n false).map V.bl) k=some (.bl false):=zbd k0 (by rw[yg,yal,if_pos ⋯];rfl);refine⟨_,(zi (zm (qIx K (show PE _ _ (zae K _ _)from zL (pv 0) rfl) (pv 1)))),?_⟩;refine zp (σ0:=[some (.ref h),some (.int k)]) rfl ?_;walk_at "x";exact q
def zg4(T:Txt K mg):T.d_House_report.Ok P w mg base 1 (zo3 T.c_House T.c_Unclosed):=by
 refine T.d_House_report.F.okX zg5 (λvs H Q E h=>?_) (λa A outer s H vs Q E c h=>?_)
 ·obtain⟨h,dx,B,own,k,rfl,_⟩:=h;rfl
 obtain⟨h,dx,B,own,k,rfl,d,b,q⟩:=h;have cl_House:=T.cl_House;have na_House_reports:=T.na_House_reports;refine⟨_,(ze (zI (PW.pt (zbD (zw zbY (pv 1) zh (nomark _)) (zbu (zw zrz (pv 1) (zaL K T.z_len (za (show PE _ _ (zae K _ _)from zL (pv 0) rfl) zd)) (nomark _)))))
 (zi (zbP rfl rfl T.m_Unclosed (errOk.own T.e_Unclosed) (za zJ zd) zdp))
 zD)
 (zi (zm (qIx K (show PE _ _ (zae K _ _)from zL (pv 0) rfl) (pv 1))))),?_⟩
 refine zp (σ0:=[some (.ref h),some (.int k)]) rfl ?_;walk_at "x"
 all_goals first | exact⟨by decide,q⟩ | (exfalso;simp at *;lia)
def zjA(T:Txt K mg):T.d_House_bear.Ok P w mg base 1 (zrW T.c_House):=by
 refine T.d_House_bear.F.okN sc_House_bear (by walk_at "l") λa2 A outer s H vs Q E hr h=>?_;obtain⟨h,dx,G,B,own,n,pf,P,S,row,tr,rfl,p,n1,n9,hrs,hL,k⟩:=h;obtain⟨hh,a3,L,Y,a1,a5,v⟩:=id p;have cl_House:=T.cl_House;have na_House_purses:=T.na_House_purses;have na_House_pledges:=T.na_House_pledges;have na_House_shares:=T.na_House_shares;have na_House_kept:=T.na_House_kept;refine⟨_,(zi (z5 PassesOwn.never rfl (zP K (pv 1)) (show PG _ _ (zaP K 3 _)from zas (n:=3) rfl (zx (zC (i:=2) sc_House_bear.nd rfl (Or.inl rfl)) (zx (zC (i:=3) sc_House_bear.nd rfl (Or.inl rfl)) (zx (zC (i:=4) sc_House_bear.nd rfl (Or.inl rfl)) zah))))
 (ze (zu 5 sc_House_bear (zbq (zw (qEq K hr.units) (pv 2) zJ (nomark _)) (show PE _ _ (zae K _ _)from zL (pv 0) rfl) (show PE _ _ (zae K _ _)from zL (pv 0) rfl)))
 (ze (z5 PassesOwn.never rfl (zaz rfl T.z_range (za (zaL K T.z_len (za (show PE _ _ (zae K _ _)from zL (pv 0) rfl) zd)) zd)) (zC (i:=6) sc_House_bear.nd rfl (Or.inl rfl))
 (zi (zbz (pv 5) (pv 6) (show zdo _ (zbS K)from za6) (qIx K (pv 4) (pv 6)) zdd zay)))
 (zi (show PS _ _ (zdW K _ _ _ _)from zfg (pv 0) (qIx K (pv 4) (zbk za4 zh)) zun)))))),?_⟩
 refine zp (σ0:=[some (.ref h),some (.ref G),none,none,none,none,none]) rfl ?_;walk_at "x";have y:H G=some (.lst ((tr.map λt=>t.1).map V.ref)):=by rw[ybA];exact hrs
 refine zbc (xs:=(tr.map λt=>t.1).map V.ref) (λi g H'=>∃(N X R M m:Option V) (b:Int) (P' D:Nat->Int),g=[some (.ref h),some (.ref G),N,X,R,M,m]/\KB [h,B.pl,B.sh] H H'/\H' h=some (.ins T.c_House dx (hfl B b))/\H' B.pl=some (.lst ((vec n P').map V.int))/\H' B.sh=some (.lst ((vec n D).map V.int))) ⟨_,_,_,_,_,own,P,S,rfl,KB.refl,hh,L,Y⟩ ?_ ?_ ?_
 ·rintro i g H' _ ⟨_,_,_,_,_,_,_,_,_,e,_⟩;exact SqL.of (p.refs e n1 y)
 ·rintro i x g H1 C ⟨N,X,R,M,m,b,P',D,rfl,e1,q,o,l⟩;rw[yg,yg]at C;obtain⟨t,ht⟩:∃t,tr[i]?=some t:=by
   cases h:tr[i]? with
   | none=>rw[h]at C;cases C
   | some t=>exact⟨t,rfl⟩
  rw[ht]at C;cases C;obtain⟨r1,_,u⟩:=hL i t ht;have q1:=p.tup e1 r1;have q3:=p.ints e1 u (by rw[yb,yf,zA];simp);have a0:=p.purses e1;have a4:(((vec n pf).map V.int).length:Int)=n:=by rw[yb,zA]
  have J:((vec n (row i).f++[(row i).x]).map V.int).length≠n:=by rw[yb,yf,zA];simp
  have Z:∀j,j<n->atI ((vec n (row i).f++[(row i).x]).map V.int) ((0:Int)+(j:Int))=some (.int ((row i).f j)):=λj I=>zbd ⋯ (by rw[show((0:Int)+(j:Int)).toNat=j by lia,yg,y8 (by rw[zA];exact I),zW I];rfl);have r6:atI ((vec n (row i).f++[(row i).x]).map V.int) (-1)=some (.int (row i).x):=by rw[yj];exact zk9 _ _
  walk_at "x"
  ·try (refine zT ?_;walk_at "x")
   refine zbG (λj g H'=>∃(m:Option V) (W:Nat->Int),g=[some (.ref h),some (.ref G),some (.str (row i).w),some (.ref t.2.1),some (.ref t.2.2),some (.ref B.pl),m]/\KB [h,B.pl,B.sh] H H'/\H' h=some (.ins T.c_House dx (hfl B b))/\H' B.pl=some (.lst ((vec n W).map V.int))/\H' B.sh=some (.lst ((vec n D).map V.int))) ⟨_,P',rfl,e1,q,o,l⟩ ?_ ?_
   ·rintro j g H2 I ⟨m,W,rfl,e2,a,c,d⟩;have q2:=p.ints e2 u J;have U:=Z j ⋯;walk_at "x";rename_i H3 r O;exact⟨_,_,rfl,e2.lbut r (by simp),r.ins a,O,r.lst d v.symm⟩
   ·rintro g H2 ⟨m,W,rfl,e2,a,c,d⟩;have q2:=p.ints e2 u J;walk_at "x";refine⟨h,T.c_House,dx,_,_,rfl,a,cl_House,na_House_kept,zeA,?_⟩;walk_at "x";refine⟨b,_,rfl,rfl,dx,_,a,zhh,?_⟩;rw[zc9];walk_at "x";exact⟨_,_,_,_,_,_,_,_,rfl,e2.but But.upd (by simp),zF,by rw[zG (zag c a (by intro z;cases z))];exact c,by rw[zG (zag d a (by intro z;cases z))];exact d⟩
  ·try (refine zT ?_;walk_at "x")
   refine zbG (λj g H'=>∃(m:Option V) (W:Nat->Int),g=[some (.ref h),some (.ref G),some (.str (row i).w),some (.ref t.2.1),some (.ref t.2.2),some (.ref B.sh),m]/\KB [h,B.pl,B.sh] H H'/\H' h=some (.ins T.c_House dx (hfl B b))/\H' B.pl=some (.lst ((vec n P').map V.int))/\H' B.sh=some (.lst ((vec n W).map V.int))) ⟨_,D,rfl,e1,q,o,l⟩ ?_ ?_
   ·rintro j g H2 I ⟨m,W,rfl,e2,a,c,d⟩;have q2:=p.ints e2 u J;have U:=Z j ⋯;walk_at "x";rename_i H3 r O;exact⟨_,_,rfl,e2.lbut r (by simp),r.ins a,r.lst c v,O⟩
   ·rintro g H2 ⟨m,W,rfl,e2,a,c,d⟩;have q2:=p.ints e2 u J;walk_at "x";refine⟨h,T.c_House,dx,_,_,rfl,a,cl_House,na_House_kept,zeA,?_⟩;walk_at "x";refine⟨b,_,rfl,rfl,dx,_,a,zhh,?_⟩;rw[zc9];walk_at "x";exact⟨_,_,_,_,_,_,_,_,rfl,e2.but But.upd (by simp),zF,by rw[zG (zag c a (by intro z;cases z))];exact c,by rw[zG (zag d a (by intro z;cases z))];exact d⟩
 ·rintro g H1 ⟨N,X,R,M,m,b,P',D,rfl,e1,q,o,l⟩;walk_at "x";exact k b H1 e1 q
def zgq(T:Txt K mg):T.d_House_pay_out.Ok P w mg base 4 (zs0 T.c_House):=by
 refine T.d_House_pay_out.F.okN zgA (by walk_at "l") λa0 A outer s H vs Q E I h=>?_;obtain⟨h,dx,C,B,own,r,n,pf,rfl,W,hen,hwe,n9,b,k⟩:=h;have cl_House:=T.cl_House;have na_House_purses:=T.na_House_purses;have na_House_kept:=T.na_House_kept;refine⟨_,(ze (show PS _ _ (zbv K _ _ _)from zaZ (pv 0) (qC1 ["end"] [none] (zP K (pv 1)) (λ_ _ _ _ _=>(qD T.d_whole_of (zge (base:=base) T) I (za (pv 0) zd)))) rfl)
 (zi (show PS _ _ (zdW K _ _ _ _)from zfg (pv 0) (qD T.d_whole_of (zge (base:=base) T) I (za (qD T.d_minus (zda (base:=base) T) I (za (qD T.d_total (zkU (base:=base) T) I (za (pv 1) zd)) (za (zE (za (za9 K T.z_sum (za (show PE _ _ (zae K _ _)from zL (pv 0) rfl) zd)) (za zh zd))) zd))) zd)) znJ))),?_⟩
 refine zp (σ0:=[some (.ref h),some (.ref C)]) rfl ?_;have hwl:r.length=n:=by rw[hwe.length];unfold zbs;rw[yb,zA]
 have X:∀q∈zbs (vec n pf),SzQ q 100 1:=λq d=>by
  obtain⟨p,hp,rfl⟩:=yaw.mp d;obtain⟨i,hi,rfl⟩:=zmw hp;exact⟨zaO (i:=pf i) (n:=100) (by have:=b i hi;lia),zbJ⟩
 walk_at "x";refine zH (zO (K:=K) (a:=C) (xs:=r)) (λH' e=>SqL.of (e.at hen)) rfl (λi vs _=>vs=(vec i pf).map V.int) (λH' _=>rfl) ?_ ?_
 ·rintro i x D vs o H2 H3 hi hD e2 hv l rfl f hx;obtain⟨g,q,rfl,d,hg⟩:=(hwe.same (e2.trans f)).get hx;have t:i<n:=by lia
  unfold zbs at d;rw[yg,zW t]at d;obtain rfl:=yq d;have a4:=f.at hv;have N:SzQ ((pf i:Int):Rat) 60000 8999:=⟨yc (zaO (i:=pf i) (n:=50) (by have:=b i t;lia)) (by decide),yc zbJ (by decide)⟩
  walk_at "x";refine zT ?_;refine⟨g,_,rfl,hg,N,?_⟩;walk_at "x";rename_i H5 b5 G;refine⟨⟨_,rfl⟩,b5.same (e2.trans f) hD,_,G,by rw[yf];exact ye l,?_⟩;dsimp only;rw[zV,yj];congr 3;exact Int.ediv_one (pf i)
 rintro pu H1 vs a1 e1 v l rfl;rw[hwl]at v;walk_at "x";refine zaM (e1.at W) cl_House na_House_purses zhh λH2 b2 h2=>?_;rw[zhY]at h2;walk_at "x";refine⟨h,T.c_House,dx,_,_,rfl,h2,cl_House,na_House_kept,zeA,?_⟩;have e2:∀{a:Addr} {o:HO},H1 a=some o->(∀fs,o≠.ins T.c_House dx fs)->H2 a=some o:=λO hn=>b2.at O (zag O (e1.at W) (hn _));have u:H2 C=some (.lst r):=e2 (e1.at hen) (λ_ z=>by cases z);have S:H2 pu=some (.lst ((vec n pf).map V.int)):=e2 v (λ_ z=>by cases z);have y:IsQs H2 r (zbs (vec n pf)):=IsQs.keepT (λa xs z=>e2 z (λ_ z=>by cases z)) (hwe.same e1);walk_at "x";refine zT ?_;refine⟨C,r,_,rfl,SqL.of u,y,λq d=>(X q d).mono (by decide) (by decide),zlU (n:=100) (m:=1) (c:=9) (by decide) X (by rw[hwe.length]at hwl;lia) (by decide) (by decide),λtq H3 f j=>?_⟩;rw[zkM]at j;have a3:=zoV n b;have M:SzQ ((zaj (vec n pf):Int):Rat) 100 1:=⟨zaO (i:=zaj (vec n pf)) (n:=100) ⋯,zbJ⟩
 have a2:OkQ ((zaj (vec n pf):Int):Rat):=M.mono (by decide) (by decide);walk_at "x";refine zaG (q:=((zaj (vec n pf):Int):Rat)) ⟨rfl,rfl⟩ ?_;intro t2 H4 J Z;have U:IsQ H4 tq _:=J.at j;walk_at "x";rename_i p5 H5 Y G;rw[Rat.sub_self]at G;refine zT ?_;refine⟨p5,_,rfl,G,⟨zgY.1,yc zbJ (by decide)⟩,?_⟩;have L:=(f.trans (J.trans Y)).at h2;walk_at "x";refine⟨own,_,rfl,rfl,dx,_,L,zhh,?_⟩;rw[zc9];walk_at "x";refine k pu _ _ (λc o n q=>?_) zF;have R:c≠h:=λz=>n (by rw[z];exact yp.mpr rfl);rw[zG R];exact(f.trans (J.trans Y)).at (b2.at (e1.at q) R)
def zkJ(T:Txt K mg):T.d_as_tuples.Ok P w base 5 (zq1 K 5):=zeW T 5
def zh4(T:Txt K mg):T.d_House_close.Ok P w mg base 9 (zoN T.c_House T.c_Book):=by
 refine T.d_House_close.F.okX sc_House_close (λvs H Q E h=>?_) (λan A outer s H vs Q E r h=>?_)
 ·obtain⟨h,dx,d,B,own,m,w,y,n,pf,P,S,ws,rfl,_⟩:=h;rfl
 obtain⟨h,dx,d,B,own,m,w,y,n,pf,P,S,ws,rfl,hE,hB,a8,hre,v,n1,n9,a2,lP,lS,o0,hwl,hO,k⟩:=h;obtain⟨hh,a9,a7,ab,_,_,_⟩:=id hE;obtain⟨⟨O,C⟩,xs,hd,hI⟩:=id hB;obtain rfl:xs=[]:=yT.mp hI.length;have cl_House:=T.cl_House;have na_House_book:=T.na_House_book;have na_House_purses:=T.na_House_purses;have na_House_pledges:=T.na_House_pledges;have na_House_shares:=T.na_House_shares;have na_House_kept:=T.na_House_kept;have na_House_order:=T.na_House_order;have na_House_reports:=T.na_House_reports;refine⟨_,(ze (zu 1 sc_House_close (zbQ (show PE _ _ (zae K _ _)from zL (pv 0) rfl) T.cl_Book T.d_Book_today.mt (zeJ (base:=base) T) (r.mono (by decide)) T.d_Book_today.b .nil (zao zal)))
 (ze (zu 2 sc_House_close (zaw (show PE _ _ (zae K _ _)from zL (pv 0) rfl) T.cl_Book T.d_Book_sheet_on.mt (zdn (base:=base) T) (r.mono (by decide)) T.d_Book_sheet_on.b .nil (zao zal) (za (pv 1) zd)))
 (ze (zu 3 sc_House_close (qE T.d_settled_day (zin (base:=base) T) r (za (pv 2) (za (show PE _ _ (zae K _ _)from zL (pv 0) rfl) (za (show PE _ _ (zae K _ _)from zL (pv 0) rfl) (za (show PE _ _ (zae K _ _)from zL (pv 0) rfl) (za (show PE _ _ (zae K _ _)from zL (pv 0) rfl) (za (show PE _ _ (zae K _ _)from zL (pv 0) rfl) zd))))))))
 (ze (zu 4 sc_House_close (qD T.d_as_tuples (zkJ (base:=base) T) r (za (zt (zad K) (zE (za (pv 1) (za (pv 2) zd))) (pv 3)) zd)))
 (ze (zS (zaw (pv 0) T.cl_House T.d_House_bear.mt (zjA (base:=base) T) (r.mono (by decide)) T.d_House_bear.b .nil (zao zal) (za (qIx K (pv 3) zh) zd)))
 (ze (zS (zaw (pv 0) T.cl_House T.d_House_pay_out.mt (zgq (base:=base) T) (r.mono (by decide)) T.d_House_pay_out.b .nil (zao zal) (za (qIx K (pv 3) zh) zd)))
 (ze (zS (zbQ (show PE _ _ (zae K _ _)from zL (pv 0) rfl) T.cl_Book T.d_Book_close.mt (zjH (base:=base) T) (r.mono (by decide)) T.d_Book_close.b .nil (zao zal)))
 (ze (z5 PassesOwn.leaving rfl (zP K (qIx K (pv 3) zh)) (zC (i:=5) sc_House_close.nd rfl (Or.inl rfl))
 (ze (zdj zbi (zcZ (show PE _ _ (zae K _ _)from zL (pv 0) rfl) (pv 5) zay))
 (zi (zS (zaw (show PE _ _ (zae K _ _)from zL (pv 0) rfl) T.cl_Book T.d_Book_break_all.mt (zfW (base:=base) T) (r.mono (by decide)) T.d_Book_break_all.b .nil (zao zal) (za (pv 5) zd))))))
 (ze (zS (qAp K (show PE _ _ (zae K _ _)from zL (pv 0) rfl) (za (pv 4) zd)))
 (zi (zm (pv 4)))))))))))),?_⟩
 refine zp (σ0:=[some (.ref h),none,none,none,none,none]) rfl ?_;walk_at "x";refine⟨_,d,m,w,y,y,rfl,hB,λst H1 am e1 Z=>?_⟩;have R:IsSh K H1 st []:=⟨[],SqL.of Z,trivial⟩
 walk_at "x";refine zT ?_;refine⟨st,B.pu,B.pl,B.sh,B.od,own,ws,n,pf,P,S,rfl,R,e1.at a9,e1.at a7,e1.at ab,e1.at a8,n1,n9,a2,lP,lS,o0,hwl,hO,?_⟩;intro pt ga p0 rs re le la en ou tr wl we H2 e2 U;have a3:=U.hpt;have a5:=e2.at Z;walk_at "x";refine zaA (by first | decide | simp) λtp H3 ao e3 aa=>?_;walk_at "x";refine zt8 aa (e3.at a3) (by simp) (by simp) (by simp) λp9 H4 al e4 ad=>?_;have N:=(U.same e3).same e4;have ae:=N.tr (e4.at (e3.at a5)) ad;refine⟨_,_,4,rfl,by decide,ae,zsD n9 hwl,by with_unfolding_all rfl,by with_unfolding_all rfl,by with_unfolding_all rfl,by with_unfolding_all rfl,λyv H5 e5 Y=>?_⟩;have f:=N.same e5;obtain⟨ya,rfl,ag⟩:∃a,yv=.ref a/\TpRow H5 a ws:=by
  obtain⟨a,rfl⟩:∃a,yv=.ref a:=by cases Y;exact⟨_,rfl⟩
  exact⟨a,rfl,zuf (λj=>⟨_,rfl⟩) Y⟩
 have g:Same H H5:=e1.trans (e2.trans (e3.trans (e4.trans e5)));have c:=hE.same g;have a0:=f.hpt;walk_at "x";refine zT ?_;refine⟨h,dx,rs,B,own,n,pf,P,S,_,tr,rfl,c,n1,n9,f.lt.hrs,f.lt.rows,λW H6 D G=>?_⟩;have u:=c.tup D a0;obtain⟨bs,M⟩:=f.hwe.refs;have J:H6 en=some (.lst we):=by rw[M];exact c.refs D n1 (by rw[<- M];exact f.hen)
 have a6:=IsQs.keepT (λa xs z=>c.tup D z) f.hwe;walk_at "x";refine zT ?_;refine⟨h,dx,en,B,W,we,n,pf,rfl,G,J,a6,n9,a2,λaj ah X k7 ac=>?_⟩;have L:∀{a:Addr} {o:HO},H6 a=some o->a≠h->X a=some o:=λz nz=>k7.at z (λm=>nz (yp.mp m));have p:=L u (zag u G (by intro z;cases z));have e:X B.bk=some (.ins T.c_Book O (bfl m w y d)):=L (D.at (g.at C) (not3 v (zag (g.at C) c.pl (by intro z;cases z)) (zag (g.at C) c.sh (by intro z;cases z)))) v;have nl:∀{a:Addr},H5 a=some (.lst [])->X a=some (.lst []):=λz=>L (c.nil D n1 z) (zag z c.ob (by intro z;cases z));have t:=nl f.hou;have q:=nl (g.at hre);have af:Bk T.c_Book X B.bk d m w y []:=⟨⟨O,e⟩,[],nl (g.at hd),trivial⟩
 walk_at "x";refine⟨_,d,m,w,y,rfl,af,λp8 H8 k8=>?_⟩;have I:∀{a:Addr} {o:HO},X a=some o->a≠B.bk->H8 a=some o:=λz nz=>k8.at z (λm=>nz (yp.mp m));have ak:=I ac v.symm;have ai:=I p (zag p e (by intro z;cases z));have a4:=I t (zag t e (by intro z;cases z));have a1:=I q (zag q e (by intro z;cases z));walk_at "x";refine zbc (xs:=[]) (λi σ' H'=>∃f5:Option V,σ'=[some (.ref h),some (.int y),some (.ref st),some (.ref pt),some (.ref ya),f5]/\H'=H8) ⟨_,rfl,rfl⟩ ?_ ?_ ?_
 ·rintro i σ' H' _ ⟨_,_,rfl⟩;exact SqL.of a4
 ·rintro i x σ' H' hx;simp at hx
 ·rintro σ' H' ⟨f5,rfl,rfl⟩;walk_at "x";refine zT ?_;refine zdv (l:=B.re) (y:=.ref ya) a1 (by decide) λH9 b9 h9=>?_;walk_at "x";refine k ya H9 (ag.keep λa xs z=>?_) (λa o na z=>?_)
  ·have z6:=c.tup D z;have z7:=L z6 (zag z6 G (by intro z;cases z));exact b9.tup (I z7 (zag z7 e (by intro z;cases z)))
  ·simp only[yt,yR,or_false,not_or]at na;obtain⟨m1,m2,m3,m4,m5⟩:=na;exact b9.1.at (I (L (D.at (g.at z) (not3 m1 m2 m3)) m1) m4) m5
def zfz(T:Txt K mg):T.d__law_cell.Ok P w base 1 (ziO K):=by
 refine T.d__law_cell.F.okN zkd (by walk_at "l") λd A outer s H vs Q E c h=>?_;obtain⟨a,ns,k,rfl,e,j,q⟩:=h;have l:(ns.map V.int).length=ns.length:=yb ..;refine⟨_,(ze (zI (zw (qEq K c.units) (zaL K T.z_len (za (pv 0) zd)) zh (nomark _))
 (zi (zm zh))
 zD)
 (zi (zm (qIx K (pv 0) (zt zbV (pv 1) (zaL K T.z_len (za (pv 0) zd))))))),?_⟩
 refine zp (σ0:=[some (.ref a),some (.int k)]) rfl ?_;walk_at "x"
 ·exact q _
 ·rename_i h;have g:(0:Int)<((ns.map V.int).length:Int):=by lia
  have f:=yad k (b:=((ns.map V.int).length:Int)) ⋯;have i:=yab k g;exact zb7 e (ziw f (v:=ns.getD (k%((ns.map V.int).length:Int)).toNat 0) (by rw[yi];rw[yr ⋯];rfl)) (q _)
def zR(T:Txt K mg):T.d__law_draw.Ok P w base 2 (zh6 K):=by
 refine T.d__law_draw.F.okN zlo (by walk_at "l") λe A outer s H vs Q E d h=>?_;obtain⟨a,ns,k,m,rfl,g,b,h1,i,q⟩:=h;have f:=zrb b h1;have c:=Int.mul_nonneg b b;refine⟨_,(zi (zm (zt zbV (zt zbV (zt zab (zt (zad K) (zt (zad K) (zt zbV (qD T.d__law_cell (zfz (base:=base) T) d (za (pv 0) (za (pv 1) zd))) zh) (zt zab (pv 1) (pv 1))) zh) zh) zh) (pv 2)))),?_⟩;refine zp (σ0:=[some (.ref a),some (.int k),some (.int m)]) rfl ?_;walk_at "x";exact q _ (yad _ ⋯) (yab _ ⋯)
def zbN(T:Txt K mg):T.d__law_great.Ok P w base 2 (zgH K):=by
 refine T.d__law_great.F.okN zjS (by walk_at "l") λg A outer s H vs Q E e h=>?_;obtain⟨a,ns,k,m,rfl,p,b,h1,r,f,q⟩:=h;have l:=zrb b h1;have d:=Int.mul_nonneg b b;have c:∀i:Int,0<=i%m/\i%m<m:=λi=>⟨yad _ ⋯,yab _ ⋯⟩
 have j:∀i:Int,sz (i%m)<=200:=λi=>sz200 (by have:=c i;lia) (by have:=c i;lia);refine⟨_,(zi (zm (zt zbV (zt (zad K) (zt (zad K) (zt zab (zt zbV (qD T.d__law_cell (zfz (base:=base) T) e (za (pv 0) (za (pv 1) zd))) (pv 2)) zh) (zt zab (zt zab (pv 1) (pv 1)) zh)) zh) (pv 2)))),?_⟩;refine zp (σ0:=[some (.ref a),some (.int k),some (.int m)]) rfl ?_;walk_at "x";rename_i x;have o:=j x;have n:sz k<=200:=sz200 ⋯ ⋯;walk_at "x";exact q _ (yad _ ⋯) (yab _ ⋯)
def zbC(T:Txt K mg):T.d__law_amount.Ok P w base 3 (zfh K):=by
 refine T.d__law_amount.F.okN zdU (by walk_at "l") λd A outer s H vs Q E b h=>?_;obtain⟨a,ns,k,m,rfl,f,e,h1,g,c,q⟩:=h;refine⟨_,(ze (zu 3 zdU (qD T.d__law_draw (zR (base:=base) T) b (za (pv 0) (za (pv 1) (za zh zd)))))
 (ze (zI (zw zbY (pv 3) zh (nomark _))
 (zi (zm (pv 3)))
 zD)
 (ze (zI (zw zbY (pv 3) zh (nomark _))
 (zi (zm (qD T.d__law_draw (zR (base:=base) T) b (za (pv 0) (za (zt (zad K) (pv 1) zh) (za zh zd))))))
 zD)
 (ze (zI (zw (qEq K b.units) (pv 3) zh (nomark _))
 (zi (zm (zt zcb (pv 2) (qD T.d__law_draw (zR (base:=base) T) b (za (pv 0) (za (zt (zad K) (pv 1) zh) (za zh zd)))))))
 zD)
 (zi (zm (qD T.d__law_great (zbN (base:=base) T) b (za (pv 0) (za (zt (zad K) (pv 1) zh) (za (zt (zad K) (pv 2) zh) zd)))))))))),?_⟩
 refine zp (σ0:=[some (.ref a),some (.int k),some (.int m),none]) rfl ?_;walk_at "x"
 all_goals exact q _ ⋯ ⋯
def zjT(T:Txt K mg):T.d__law_order.Ok P w base 3 (zmB K):=by
 refine T.d__law_order.F.okN sc__law_order (by walk_at "l") λJ A outer s H vs Q E u h=>?_;obtain⟨a,ns,st,rfl,S,s0,s1,k⟩:=h;refine⟨_,(ze (zu 2 sc__law_order (zK (za zJ (za zJ (za zJ (za zJ (za zJ zd)))))))
 (ze (zu 3 sc__law_order (zK zd))
 (ze (z5 PassesOwn.never rfl (zaz rfl T.z_range (za (qD T.d__law_draw (zR (base:=base) T) u (za (pv 0) (za (pv 1) (za zh zd)))) zd)) (zC (i:=4) sc__law_order.nd rfl (Or.inl rfl))
 (zi (zS (qAp K (pv 3) (za (show PE _ _ (tBM K _ _ _ _)from zjX yam PySem.F.slot_list_pop PySem.F.type_list_pop zqH (pv 2) (za (qD T.d__law_draw (zR (base:=base) T) u (za (pv 0) (za (zt (zad K) (zt (zad K) (pv 1) zh) (pv 4)) (za (zaL K T.z_len (za (pv 2) zd)) zd)))) zd)) zd)))))
 (zi (zm (pv 3)))))),?_⟩
 refine zp (σ0:=[some (.ref a),some (.int st),none,none,none]) rfl ?_;walk_at "x";rename_i m H1 o e1 hwl f H2 d e2 n x x0 X;have l:H2 m=some (.lst (words5.map V.str)):=e2.at hwl;have g:m≠f:=zy hwl d;have b:H f=none:=Same.none d e1;refine zbG (λi r H'=>∃(us vs:List Str) (p:Option V),r=[some (.ref a),some (.int st),some (.ref m),some (.ref f),p]/\H' m=some (.lst (vs.map V.str))/\H' f=some (.lst (us.map V.str))/\List.Perm (us++vs) words5/\us.length=i/\Same H H') ⟨[],words5,_,rfl,l,n,.refl _,rfl,e1.trans e2⟩ ?_ ?_
 ·rintro i r H' hi ⟨us,vs,p,rfl,C,q,hp,z,e⟩;have j:us.length+vs.length=5:=by have:=hp.length_eq;rw[yf]at this;exact this
  have L:(vs.map V.str).length=vs.length:=yb ..;have N:(us.map V.str).length=us.length:=yb ..;have R:=e.seq S;walk_at "x";rename_i y D y1;obtain⟨v,c⟩:=zN (show y.toNat<vs.length by lia);obtain⟨O,I⟩:=yk.mp c;refine ztI C D (y:=.str v) (by rw[yg,c];rfl) ⋯ λY B M=>?_;have G:=B.lst q g.symm;walk_at "x";rename_i Z t W;refine⟨us++[v],vs.eraseIdx y.toNat,_,rfl,?_,by rw[yj];exact W,?_,by rw[yf,z];rfl,t.same (B.same e o) b⟩
  ·rw[<- znS];exact t.lst M g
  ·refine List.Perm.trans ?_ hp;rw[yaG];refine List.Perm.append_left us ?_;exact znz c
 ·rintro r H' ⟨us,vs,p,rfl,C,q,hp,z,e⟩;have j:us.length+vs.length=5:=by have:=hp.length_eq;rw[yf]at this;exact this
  walk_at "x";exact k f H' us b e q (λw U=>hp.mem_iff.mp (yat _ U)) (yS.mp (hp.nodup_iff.mpr zkX)).1 ⋯
def zjC(T:Txt K mg):T.d__law_moves.Ok P w base 3 (zos K):=by
 refine T.d__law_moves.F.okN sc__law_moves (by walk_at "l") λa1 A outer s H vs Q E I h=>?_;obtain⟨a,ns,st,n,k,rfl,hS,s0,s1,n0,n1,k0,k1,q⟩:=h;refine⟨_,(ze (zu 4 sc__law_moves (zK zd))
 (ze (z5 PassesOwn.never rfl (zaz rfl T.z_range (za (pv 2) zd)) (zC (i:=5) sc__law_moves.nd rfl (Or.inl rfl))
 (ze (zu 6 sc__law_moves (zK zd))
 (ze (z5 PassesOwn.never rfl (zaz rfl T.z_range (za (pv 3) zd)) (zC (i:=7) sc__law_moves.nd rfl (Or.inl rfl))
 (ze (zu 8 sc__law_moves (zt (zad K) (zt (zad K) (pv 1) (zt zab zh (pv 5))) (pv 7)))
 (ze (zS (qAp K (pv 6) (za (zt zcb (qD T.d__law_draw (zR (base:=base) T) I (za (pv 0) (za (pv 8) (za zh zd)))) zh) zd)))
 (zi (zI (zw (qEq K I.units) (qD T.d__law_draw (zR (base:=base) T) I (za (pv 0) (za (zt (zad K) (pv 8) zh) (za zh zd)))) zh (nomark _))
 (zi (zdj (zt zcb (qD T.d__law_great (zbN (base:=base) T) I (za (pv 0) (za (pv 8) (za zh zd)))) zh) (zcZ (pv 6) (pv 7) zay)))
 zD)))))
 (zi (zS (qAp K (pv 4) (za (pv 6) zd)))))))
 (zi (zm (pv 4))))),?_⟩
 refine zp (σ0:=[some (.ref a),some (.int st),some (.int n),some (.int k),none,none,none,none,none]) rfl ?_;walk_at "x";rename_i l H1 Z e1 hl;refine zbG (λi m H'=>∃(N O z y:Option V) (as:List Addr) (F:Nat->Nat->Int),m=[some (.ref a),some (.int st),some (.int n),some (.int k),some (.ref l),N,O,z,y]/\H' l=some (.lst (as.map V.ref))/\as.length=i/\Rows H' as k.toNat F/\WithinR 1000000 i k.toNat F/\(∀b∈as,H b=none)/\Same H H') ⟨_,_,_,_,[],λ_ _=>0,rfl,hl,rfl,⟨yac,λi a h=>nomatch h⟩,(λi h=>absurd h ⋯),(λ_ h=>nomatch h),e1⟩ ?_ ?_
 ·rintro i m H2 hi ⟨N,O,z,y,as,F,rfl,c,e,u,M,U,e2⟩;have a3:(i:Int)<n:=by lia
  rw[show((0:Int)+(i:Int))=(i:Int) by lia];have hla:l∉as:=u.ne ⋯ c;subst e;walk_at "x";rename_i r H3 C e3 J;have d:SqL K H2 a (ns.map V.int):=hS.keep e2;refine zbG (λj m H'=>∃(z y:Option V) (f:Nat->Int),m=[some (.ref a),some (.int st),some (.int n),some (.int k),some (.ref l),some (.int (as.length:Int)),some (.ref r),z,y]/\H' r=some (.lst ((vec j f).map V.int))/\Internal.Within 1000000 j f/\Same H2 H') ⟨_,_,λ_=>0,rfl,J,(λj h=>absurd h ⋯),e3⟩ ?_ ?_
  ·rintro j m H4 hj ⟨g7,g8,f,rfl,B,L,o⟩;rw[show((0:Int)+(j:Int))=(j:Int) by lia];have a5:(j:Int)<k:=by lia
   have Y:SqL K H4 a (ns.map V.int):=d.keep o;have a2:((vec j f).map V.int).length<=1000:=by rw[yb,zA];lia
   walk_at "x";rename_i x x0 x1 H5 D G;have W:=D.same o C;have a0:SqL K H5 a (ns.map V.int):=d.keep W;rw[zqo]at G;have p:Internal.Within 1000000 (j+1) (λi=>if i=j then x-9 else f i):=L.more ⋯ ⋯;walk_at "x"
   ·rename_i H6 b6 h6;refine⟨_,_,_,rfl,h6,λt ht=>?_,b6.same W C⟩;have v:=p t ht;dsimp only at v ⊢;by_cases g:t=(j:Int).toNat
    ·rw[if_pos g];lia
    ·rw[if_neg g];exact v
   ·exact⟨_,_,_,rfl,G,p,W⟩
  ·rintro m H4 ⟨g7,g8,f,rfl,B,L,o⟩;have a4:=o.at c;have S:=u.same o;have R:r≠l:=zbw C c;have X:(as.map V.ref).length<=1000:=by rw[yb];lia
   walk_at "x";rename_i H5 D G;refine⟨_,_,_,_,as++[r],λt=>if t=as.length then f else F t,rfl,by rw[yj];exact G,by rw[yf];rfl,Rows.snoc (S.but D hla) (u.fresh C) (D.lst B R),M.snoc L,λb hb=>?_,D.same (e2.trans o) Z⟩;rcases yA.mp hb with h | h
   ·exact U b h
   ·rw[yp.mp h];exact Same.none C e2
 ·rintro m H2 ⟨N,O,z,y,as,F,rfl,c,e,u,M,U,e2⟩;walk_at "x";exact q _ _ _ _ Z e2 c e u M U
def zaK(T:Txt K mg):T.d__law_whole_is.Ok P w base 1 (zrr):=by
 refine T.d__law_whole_is.F.okN zgL (by walk_at "l") λd A outer s H vs Q E c h=>?_;obtain⟨a,b,rfl,rfl,q⟩:=h;refine⟨_,(zi (zm (zb1 (zbF K T.z_isinstance (za (pv 0) (za (zcw (v:=.ty "int") rfl T.z_int BT.int rfl) zd))) (zb1 (zpq K (zbF K T.z_isinstance (za (pv 0) (za (zcw (v:=.ty "bool") rfl T.z_bool BT.bool rfl) zd)))) (zd8 (zaJ (qEq K c.units) (pv 0) (pv 1) (nomark _))))))),?_⟩;refine zp (σ0:=[some (.int a),some (.int a)]) rfl ?_;walk_at "x";show Q (.bl (decide (a=a))) H;rw[decide_eq_true rfl];exact q
def zeZ(T:Txt K mg):T.d__law_spoilt_rule.Ok P w base 3 (zn3 K):=by
 refine T.d__law_spoilt_rule.F.okN zcl (by walk_at "l") λt A outer s H vs Q E e h=>?_;obtain⟨a,ns,st,ru,w,c,n,rfl,I,L,D,g,r,J,n1,q⟩:=h;refine⟨_,(ze (zu 4 zcl (qD T.d__law_draw (zR (base:=base) T) e (za (pv 0) (za (pv 1) (za zh zd)))))
 (ze (zI (zw zbY (pv 4) zh (nomark _))
 (zi (zm (qIx K (zK (za (zE (za zJ (za (qIx K (pv 2) zh) zd))) (za (zE (za (show PE _ _ (zmH K _ _ _)from zpd PySem.F.plainAttrs_str PySem.F.slot_str_upper PySem.F.type_str_upper zpY (qIx K (pv 2) zh)) (za (qIx K (pv 2) zh) zd))) zd))) (pv 4))))
 zD)
 (ze (zI (zw zbY (pv 4) zh (nomark _))
 (zi (zm (qIx K (zK (za (zE (za zJ (za (qIx K (pv 2) zh) zd))) (za (zE (za (zt (show OpR _ (binaryOp .Add) zrm from zsv) (qIx K (pv 2) zh) zJ) (za (qIx K (pv 2) zh) zd))) zd))) (zt zcb (pv 4) zh))))
 zD)
 (ze (zI (zw (qEq K e.units) (pv 4) zh (nomark _))
 (zi (zm (zE (za (qIx K (pv 2) zh) (za zh zd)))))
 zD)
 (ze (zI (zw (qEq K e.units) (pv 4) zh (nomark _))
 (zi (zm (zE (za (qIx K (pv 2) zh) (za (zt (zad K) (pv 3) zh) zd)))))
 zD)
 (ze (zI (zw (qEq K e.units) (pv 4) zh (nomark _))
 (zi (zm (zE (za (qIx K (pv 2) zh) (za (zt zcb (zbk za4 zh) (qD T.d__law_great (zbN (base:=base) T) e (za (pv 0) (za (zt (zad K) (pv 1) zh) (za (zt zd4 zh zh) zd))))) zd)))))
 zD)
 (zi (zm (zE (za (qIx K (pv 2) zh) (za (zt (zad K) (zt (zad K) (pv 3) zh) (qD T.d__law_great (zbN (base:=base) T) e (za (pv 0) (za (zt (zad K) (pv 1) zh) (za (zt zd4 zh zh) zd))))) zd))))))))))),?_⟩
 refine zp (σ0:=[some (.ref a),some (.int st),some (.ref ru),some (.int n),none]) rfl ?_;walk_at "x"
 ·rename_i x C v y;refine zaA (by first | decide | simp) λb H1 k e1 h1=>?_;have i:=e1.at g;walk_at "x";obtain⟨p,m,o⟩:=zrL r;refine⟨rfl,w,rfl,rfl,p,?_⟩;walk_at "x";refine zaA (by first | decide | simp) λp2 H2 B e2 h2=>?_;walk_at "x";rename_i l f u d j
  rcases(show x=0\/x=1 by lia)with rfl | rfl
  ·exact zb7 (SqL.of j) (show atI [V.ref b,V.ref p2] 0=some (.ref b)from rfl) (q b f _ _ (e1.trans (e2.trans d)) ((e2.trans d).at h1) λz=>z.1.elim (by decide) (by decide))
  ·exact zb7 (SqL.of j) (show atI [V.ref b,V.ref p2] 1=some (.ref p2)from rfl) (q p2 f _ _ (e1.trans (e2.trans d)) (d.at h2) λz=>z.1.elim m o)
 ·rename_i x C v y G;refine zaA (by first | decide | simp) λb H1 k e1 h1=>?_;have i:=e1.at g;walk_at "x";obtain⟨p,m,o⟩:=zte r;refine⟨_,_,rfl,rfl,by show _+1<=_;lia,?_⟩;walk_at "x";refine zaA (by first | decide | simp) λp2 H2 B e2 h2=>?_;walk_at "x";rename_i l f u d j
  rcases(show x=2\/x=3 by lia)with rfl | rfl
  ·exact zb7 (SqL.of j) (show atI [V.ref b,V.ref p2] (2-2)=some (.ref b)from rfl) (q b f _ _ (e1.trans (e2.trans d)) ((e2.trans d).at h1) λz=>z.1.elim (by decide) (by decide))
  ·exact zb7 (SqL.of j) (show atI [V.ref b,V.ref p2] (3-2)=some (.ref p2)from rfl) (q p2 f _ _ (e1.trans (e2.trans d)) (d.at h2) λz=>z.1.elim m o)
 ·refine zaA (by first | decide | simp) λb H1 k e1 h1=>?_;exact q b H1 _ _ e1 h1 λz=>by have:=z.2.1;lia
 ·refine zaA (by first | decide | simp) λb H1 k e1 h1=>?_;exact q b H1 _ _ e1 h1 λz=>by have:=z.2.2;lia
 ·refine zaA (by first | decide | simp) λb H1 k e1 h1=>?_;exact q b H1 _ _ e1 h1 λz=>by have:=z.2.1;lia
 ·refine zaA (by first | decide | simp) λb H1 k e1 h1=>?_;exact q b H1 _ _ e1 h1 λz=>by have:=z.2.2;lia
def zei(T:Txt K mg):T.d__law_spoilt_order.Ok P w base 3 (zo7 K):=by
 refine T.d__law_spoilt_order.F.okN zaX (by walk_at "l") λL A outer s H vs Q E i h=>?_;obtain⟨a,ns,st,o,ws,rfl,hS,s0,s1,Z,hwl,q⟩:=h;refine⟨_,(ze (zu 3 zaX (qIx K (zK (za zJ (za zJ (za zJ (za zJ (za zJ zd)))))) (qD T.d__law_draw (zR (base:=base) T) i (za (pv 0) (za (pv 1) (za zh zd))))))
 (zbE (zI (PW.pt (za0 (zw zbO (zaL K T.z_len (za (pv 2) zd)) zh (nomark _)) (za3 (zw (qEq K i.units) (qD T.d__law_draw (zR (base:=base) T) i (za (pv 0) (za (zt (zad K) (pv 1) zh) (za zh zd)))) zh (nomark _)))))
 (zi (zu 3 zaX (qIx K (pv 2) (qD T.d__law_draw (zR (base:=base) T) i (za (pv 0) (za (zt (zad K) (pv 1) zh) (za (zaL K T.z_len (za (pv 2) zd)) zd)))))))
 zD)
 (ze (zu 4 zaX (qD T.d__law_draw (zR (base:=base) T) i (za (pv 0) (za (zt (zad K) (pv 1) zh) (za (zt (zad K) (zaL K T.z_len (za (pv 2) zd)) zh) zd)))))
 (zi (zm (zt (zad K) (zt (zad K) (zbR (show SlR _ (zc5 K)from zcq) (pv 2) zcr (zcp (pv 4))) (zK (za (pv 3) zd))) (zbR (show SlR _ (zc5 K)from zcq) (pv 2) (zcp (pv 4)) zcr))))))),?_⟩
 refine zp (σ0:=[some (.ref a),some (.int st),some (.ref o),none,none]) rfl ?_;walk_at "x";rename_i l H1 fl e1 S x R x1;have t:H1 l=some (.lst (bad5.map V.str)):=S;obtain⟨m,e⟩:=zN (show x.toNat<bad5.length by show x.toNat<5;lia);have k:=zrG m (ym e);refine zb7 (SqL.of t) (zbd R (v:=.str m) (by rw[yg,e];rfl)) ?_;have c:=e1.at Z;have J:=e1.seq hS;have U:((ws.map V.str).length:Int)=ws.length:=by rw[yb]
 walk_at "x";refine zcS (λG H'=>∃d,G=[some (.ref a),some (.int st),some (.ref o),some (.str d),none]/\H'=H1/\(d∉words5\/d∈ws)) ?_ ?_
 ·walk_at "x"
  ·rename_i h0 y y0 y1 y2 v Y v1;obtain⟨B,g⟩:=zN (show v.toNat<ws.length by lia);refine zb7 (SqL.of c) (zbd Y (v:=.str B) (by rw[yg,g];rfl)) ?_;exact⟨B,rfl,rfl,.inr (ym g)⟩
  ·exact⟨m,rfl,rfl,.inl k⟩
  ·exact⟨m,rfl,rfl,.inl k⟩
 rintro G H' ⟨d,rfl,rfl,u⟩;walk_at "x";rename_i j D j1 c1 H2 N e2 b c2 H3 a1 p z;have cl:=zqf (ws:=ws) D;rw[zmj]at b;refine zdu (p.at b) z (by rw[yb];simp only[yW];lia) ?_;intro c3 H4 a2 C n;have a0:=(e2.trans (p.trans C)).at c;walk_at "x";rename_i c4 H5 O I f;rw[zmj]at f;refine zdu (I.at n) f (by rw[yf,yb,yb];simp only[yW];lia) ?_;intro W M X e6 r;refine q W M (zeq ws none (some j)++[d]++zeq ws (some j) none) ((e1.trans (e2.trans p)).trans (C.trans (I.trans e6))) (by rw[yj,yj];exact r) (by rw[yf,yf];simp only[yW];lia) (zmM (ziZ ws D) u)
def zhg(T:Txt K mg):T.d__law_refused.Ok P w base 5 (zs6 T.c_NoRule T.c_NoLayer):=by
 refine T.d__law_refused.F.okN sc__law_refused (by walk_at "l") λB A outer s H vs Q E y h=>?_;obtain⟨ms,d,ru,od,us,xs,as,k,F,w,c,ws,own,rfl,m,t,o,n,u,l,g,k0,k1,j,f,hwl,q⟩:=h;have cl_House:=T.cl_House;have e_NoAnswer:=T.e_NoAnswer;have i_NoAnswer_Bare:=T.i_NoAnswer_Bare;have i_NoAnswer_NoAnswer:=T.i_NoAnswer_NoAnswer;have i_NoAnswer_NoDeal:=T.i_NoAnswer_NoDeal;have i_NoAnswer_NoLayer:=T.i_NoAnswer_NoLayer;have i_NoAnswer_NoPart:=T.i_NoAnswer_NoPart;have i_NoAnswer_NoRule:=T.i_NoAnswer_NoRule;have i_NoAnswer_QuitsError:=T.i_NoAnswer_QuitsError;have i_NoAnswer_TooMuch:=T.i_NoAnswer_TooMuch;have i_NoAnswer_Unclosed:=T.i_NoAnswer_Unclosed;have i_NoAnswer_ValueError:=T.i_NoAnswer_ValueError;have q_NoAnswer_QuitsError:=T.q_NoAnswer_QuitsError;have e_NoDeal:=T.e_NoDeal;have i_NoDeal_Bare:=T.i_NoDeal_Bare;have i_NoDeal_NoAnswer:=T.i_NoDeal_NoAnswer;have i_NoDeal_NoDeal:=T.i_NoDeal_NoDeal;have i_NoDeal_NoLayer:=T.i_NoDeal_NoLayer;have i_NoDeal_NoPart:=T.i_NoDeal_NoPart;have i_NoDeal_NoRule:=T.i_NoDeal_NoRule;have i_NoDeal_QuitsError:=T.i_NoDeal_QuitsError;have i_NoDeal_TooMuch:=T.i_NoDeal_TooMuch;have i_NoDeal_Unclosed:=T.i_NoDeal_Unclosed;have i_NoDeal_ValueError:=T.i_NoDeal_ValueError;have q_NoDeal_QuitsError:=T.q_NoDeal_QuitsError;have e_NoLayer:=T.e_NoLayer;have i_NoLayer_Bare:=T.i_NoLayer_Bare;have i_NoLayer_NoAnswer:=T.i_NoLayer_NoAnswer;have i_NoLayer_NoDeal:=T.i_NoLayer_NoDeal;have i_NoLayer_NoLayer:=T.i_NoLayer_NoLayer;have i_NoLayer_NoPart:=T.i_NoLayer_NoPart;have i_NoLayer_NoRule:=T.i_NoLayer_NoRule;have i_NoLayer_QuitsError:=T.i_NoLayer_QuitsError;have i_NoLayer_TooMuch:=T.i_NoLayer_TooMuch;have i_NoLayer_Unclosed:=T.i_NoLayer_Unclosed;have i_NoLayer_ValueError:=T.i_NoLayer_ValueError;have q_NoLayer_QuitsError:=T.q_NoLayer_QuitsError;have e_NoPart:=T.e_NoPart;have i_NoPart_Bare:=T.i_NoPart_Bare;have i_NoPart_NoAnswer:=T.i_NoPart_NoAnswer;have i_NoPart_NoDeal:=T.i_NoPart_NoDeal;have i_NoPart_NoLayer:=T.i_NoPart_NoLayer;have i_NoPart_NoPart:=T.i_NoPart_NoPart;have i_NoPart_NoRule:=T.i_NoPart_NoRule;have i_NoPart_QuitsError:=T.i_NoPart_QuitsError;have i_NoPart_TooMuch:=T.i_NoPart_TooMuch;have i_NoPart_Unclosed:=T.i_NoPart_Unclosed;have i_NoPart_ValueError:=T.i_NoPart_ValueError;have q_NoPart_QuitsError:=T.q_NoPart_QuitsError;have e_NoRule:=T.e_NoRule;have i_NoRule_Bare:=T.i_NoRule_Bare;have i_NoRule_NoAnswer:=T.i_NoRule_NoAnswer;have i_NoRule_NoDeal:=T.i_NoRule_NoDeal;have i_NoRule_NoLayer:=T.i_NoRule_NoLayer;have i_NoRule_NoPart:=T.i_NoRule_NoPart;have i_NoRule_NoRule:=T.i_NoRule_NoRule;have i_NoRule_QuitsError:=T.i_NoRule_QuitsError;have i_NoRule_TooMuch:=T.i_NoRule_TooMuch;have i_NoRule_Unclosed:=T.i_NoRule_Unclosed;have i_NoRule_ValueError:=T.i_NoRule_ValueError;have q_NoRule_QuitsError:=T.q_NoRule_QuitsError;have e_TooMuch:=T.e_TooMuch;have i_TooMuch_Bare:=T.i_TooMuch_Bare;have i_TooMuch_NoAnswer:=T.i_TooMuch_NoAnswer;have i_TooMuch_NoDeal:=T.i_TooMuch_NoDeal;have i_TooMuch_NoLayer:=T.i_TooMuch_NoLayer;have i_TooMuch_NoPart:=T.i_TooMuch_NoPart;have i_TooMuch_NoRule:=T.i_TooMuch_NoRule;have i_TooMuch_QuitsError:=T.i_TooMuch_QuitsError;have i_TooMuch_TooMuch:=T.i_TooMuch_TooMuch;have i_TooMuch_Unclosed:=T.i_TooMuch_Unclosed;have i_TooMuch_ValueError:=T.i_TooMuch_ValueError;have q_TooMuch_QuitsError:=T.q_TooMuch_QuitsError;have e_Unclosed:=T.e_Unclosed;have i_Unclosed_Bare:=T.i_Unclosed_Bare;have i_Unclosed_NoAnswer:=T.i_Unclosed_NoAnswer;have i_Unclosed_NoDeal:=T.i_Unclosed_NoDeal;have i_Unclosed_NoLayer:=T.i_Unclosed_NoLayer;have i_Unclosed_NoPart:=T.i_Unclosed_NoPart;have i_Unclosed_NoRule:=T.i_Unclosed_NoRule;have i_Unclosed_QuitsError:=T.i_Unclosed_QuitsError;have i_Unclosed_TooMuch:=T.i_Unclosed_TooMuch;have i_Unclosed_Unclosed:=T.i_Unclosed_Unclosed;have i_Unclosed_ValueError:=T.i_Unclosed_ValueError;have q_Unclosed_QuitsError:=T.q_Unclosed_QuitsError;have cl_Book:=T.cl_Book;have na_Book_day:=T.na_Book_day;have na_Book_deals:=T.na_Book_deals;have na_Book_many:=T.na_Book_many;have na_Book_wares:=T.na_Book_wares;have cl_House:=T.cl_House;have na_House_book:=T.na_House_book;have na_House_kept:=T.na_House_kept;have na_House_moves:=T.na_House_moves;have na_House_order:=T.na_House_order;have na_House_outs:=T.na_House_outs;have na_House_pledges:=T.na_House_pledges;have na_House_purses:=T.na_House_purses;have na_House_reports:=T.na_House_reports;have na_House_rule:=T.na_House_rule;have na_House_shares:=T.na_House_shares;refine⟨_,(ze (zu 5 sc__law_refused zJ)
 (ze (show PS _ _ (zgZ K _ _ _ _)from ziu (i:=6) ⟨rfl,rfl⟩ (zgQ (zgJ (show PEr _ _ (zob _ _ _)from zqc T.mk_House (zcO (base:=base) T) (y.mono (by decide)) rfl T.m_House T.d_House___init__.b (za (pv 0) (za (pv 1) (za (pv 2) (za (pv 3) (za (pv 4) zd)))))))) rfl T.m_QuitsError sc__law_refused.nd rfl rfl (λ_=>(zbE (zI (PW.pt (za0 (zaq K (zbF K T.z_isinstance (za (pv 6) (za (zQ (v:=.ref T.c_NoRule) rfl T.m_NoRule rfl) zd)))) (za0 (zaq K (zbF K T.z_isinstance (za (pv 6) (za (zcw (v:=.ty "ValueError") rfl T.z_ValueError BT.ValueError rfl) zd)))) (za3 (zbt (zaq K (zbF K T.z_isinstance (za (pv 6) (za (zQ (v:=.ref T.c_NoLayer) rfl T.m_NoLayer rfl) zd)))))))))
 (zi (zu 5 sc__law_refused zJ))
 zD)
 (zbE (zI (PW.pt (za0 (zaq K (zbF K T.z_isinstance (za (pv 6) (za (zQ (v:=.ref T.c_NoLayer) rfl T.m_NoLayer rfl) zd)))) (za0 (zaq K (zbF K T.z_isinstance (za (pv 6) (za (zcw (v:=.ty "ValueError") rfl T.z_ValueError BT.ValueError rfl) zd)))) (za3 (zbt (zaq K (zbF K T.z_isinstance (za (pv 6) (za (zQ (v:=.ref T.c_NoRule) rfl T.m_NoRule rfl) zd)))))))))
 (zi (zu 5 sc__law_refused zJ))
 zD)
 (zi (zI (PW.pt (zbD (zaq K (zbF K T.z_isinstance (za (pv 6) (za (zQ (v:=.ref T.c_Bare) rfl T.m_Bare rfl) zd)))) (zbD (zaq K (zbF K T.z_isinstance (za (pv 6) (za (zQ (v:=.ref T.c_Unclosed) rfl T.m_Unclosed rfl) zd)))) (zbu (zaq K (zbF K T.z_isinstance (za (pv 6) (za (zQ (v:=.ref T.c_NoDeal) rfl T.m_NoDeal rfl) zd))))))))
 (zi (zu 5 sc__law_refused zJ))
 zD))))))
 (zi (zm (pv 5))))),?_⟩
 refine zp (σ0:=[some (.ref ms),some (.ref d),some (.ref ru),some (.ref od),some (.int own),none,none]) rfl ?_;walk_at "x";refine zT ?_;refine ziJ λp dx H1 fp e1 h1=>?_;rcases q with⟨hno,q⟩ | ⟨hok,hno,q⟩
 ·refine⟨p,dx,ms,d,ru,od,us,xs,as,k,F,w,c,ws,own,rfl,h1,e1.at m,t.same e1,o,e1.at n,u.same e1,l,g,k0,k1,e1.at j,e1.at f,hwl,(λz=>absurd z hno),(λ_ H2 e2=>?_),(λz=>absurd z hno)⟩;refine⟨_,rfl,?_⟩;refine zeg q_NoRule_QuitsError λer e C r x=>?_;refine zcS (λa H'=>a=[some (.ref ms),some (.ref d),some (.ref ru),some (.ref od),some (.int own),some (.str "rule"),some (.ref er)]/\e=H') ?_ ?_
  ·walk_at "x"
   all_goals exact⟨rfl,rfl⟩
  rintro a _ ⟨rfl,rfl⟩;refine zcS (λa H'=>a=[some (.ref ms),some (.ref d),some (.ref ru),some (.ref od),some (.int own),some (.str "rule"),some (.ref er)]/\e=H') ?_ ?_
  ·walk_at "x"
   all_goals exact⟨rfl,rfl⟩
  rintro a _ ⟨rfl,rfl⟩;walk_at "x";exact q e (e1.trans (e2.trans r))
 ·refine⟨p,dx,ms,d,ru,od,us,xs,as,k,F,w,c,ws,own,rfl,h1,e1.at m,t.same e1,o,e1.at n,u.same e1,l,g,k0,k1,e1.at j,e1.at f,hwl,(λ_ z=>absurd z hno),(λz=>absurd hok z),(λ_ _ H2 e2=>?_)⟩;refine⟨_,rfl,?_⟩;refine zeg q_NoLayer_QuitsError λer e C r x=>?_;refine zcS (λa H'=>a=[some (.ref ms),some (.ref d),some (.ref ru),some (.ref od),some (.int own),some (.str ""),some (.ref er)]/\e=H') ?_ ?_
  ·walk_at "x"
   all_goals exact⟨rfl,rfl⟩
  rintro a _ ⟨rfl,rfl⟩;refine zcS (λa H'=>a=[some (.ref ms),some (.ref d),some (.ref ru),some (.ref od),some (.int own),some (.str "order"),some (.ref er)]/\e=H') ?_ ?_
  ·walk_at "x"
   all_goals exact⟨rfl,rfl⟩
  rintro a _ ⟨rfl,rfl⟩;walk_at "x";exact q e (e1.trans (e2.trans r))
def zc7(T:Txt K mg):T.d__law_none.Ok P w base 3 (ziC K T.c_House T.c_Book lP lQ):=by
 refine T.d__law_none.F.okN sc__law_none (by walk_at "l") λI A outer s H vs Q E m h=>?_;obtain⟨X,z,rfl,n,q⟩:=h;obtain⟨dx,y⟩:=n.ob;have hre:=n.re;obtain⟨⟨l,o⟩,xs,hd,B⟩:=id n.hn.bk;obtain rfl:xs=[]:=yT.mp B.length;have cl_House:=T.cl_House;have e_NoAnswer:=T.e_NoAnswer;have i_NoAnswer_Bare:=T.i_NoAnswer_Bare;have i_NoAnswer_NoAnswer:=T.i_NoAnswer_NoAnswer;have i_NoAnswer_NoDeal:=T.i_NoAnswer_NoDeal;have i_NoAnswer_NoLayer:=T.i_NoAnswer_NoLayer;have i_NoAnswer_NoPart:=T.i_NoAnswer_NoPart;have i_NoAnswer_NoRule:=T.i_NoAnswer_NoRule;have i_NoAnswer_QuitsError:=T.i_NoAnswer_QuitsError;have i_NoAnswer_TooMuch:=T.i_NoAnswer_TooMuch;have i_NoAnswer_Unclosed:=T.i_NoAnswer_Unclosed;have i_NoAnswer_ValueError:=T.i_NoAnswer_ValueError;have q_NoAnswer_QuitsError:=T.q_NoAnswer_QuitsError;have e_NoDeal:=T.e_NoDeal;have i_NoDeal_Bare:=T.i_NoDeal_Bare;have i_NoDeal_NoAnswer:=T.i_NoDeal_NoAnswer;have i_NoDeal_NoDeal:=T.i_NoDeal_NoDeal;have i_NoDeal_NoLayer:=T.i_NoDeal_NoLayer;have i_NoDeal_NoPart:=T.i_NoDeal_NoPart;have i_NoDeal_NoRule:=T.i_NoDeal_NoRule;have i_NoDeal_QuitsError:=T.i_NoDeal_QuitsError;have i_NoDeal_TooMuch:=T.i_NoDeal_TooMuch;have i_NoDeal_Unclosed:=T.i_NoDeal_Unclosed;have i_NoDeal_ValueError:=T.i_NoDeal_ValueError;have q_NoDeal_QuitsError:=T.q_NoDeal_QuitsError;have e_NoLayer:=T.e_NoLayer;have i_NoLayer_Bare:=T.i_NoLayer_Bare;have i_NoLayer_NoAnswer:=T.i_NoLayer_NoAnswer;have i_NoLayer_NoDeal:=T.i_NoLayer_NoDeal;have i_NoLayer_NoLayer:=T.i_NoLayer_NoLayer;have i_NoLayer_NoPart:=T.i_NoLayer_NoPart;have i_NoLayer_NoRule:=T.i_NoLayer_NoRule;have i_NoLayer_QuitsError:=T.i_NoLayer_QuitsError;have i_NoLayer_TooMuch:=T.i_NoLayer_TooMuch;have i_NoLayer_Unclosed:=T.i_NoLayer_Unclosed;have i_NoLayer_ValueError:=T.i_NoLayer_ValueError;have q_NoLayer_QuitsError:=T.q_NoLayer_QuitsError;have e_NoPart:=T.e_NoPart;have i_NoPart_Bare:=T.i_NoPart_Bare;have i_NoPart_NoAnswer:=T.i_NoPart_NoAnswer;have i_NoPart_NoDeal:=T.i_NoPart_NoDeal;have i_NoPart_NoLayer:=T.i_NoPart_NoLayer;have i_NoPart_NoPart:=T.i_NoPart_NoPart;have i_NoPart_NoRule:=T.i_NoPart_NoRule;have i_NoPart_QuitsError:=T.i_NoPart_QuitsError;have i_NoPart_TooMuch:=T.i_NoPart_TooMuch;have i_NoPart_Unclosed:=T.i_NoPart_Unclosed;have i_NoPart_ValueError:=T.i_NoPart_ValueError;have q_NoPart_QuitsError:=T.q_NoPart_QuitsError;have e_NoRule:=T.e_NoRule;have i_NoRule_Bare:=T.i_NoRule_Bare;have i_NoRule_NoAnswer:=T.i_NoRule_NoAnswer;have i_NoRule_NoDeal:=T.i_NoRule_NoDeal;have i_NoRule_NoLayer:=T.i_NoRule_NoLayer;have i_NoRule_NoPart:=T.i_NoRule_NoPart;have i_NoRule_NoRule:=T.i_NoRule_NoRule;have i_NoRule_QuitsError:=T.i_NoRule_QuitsError;have i_NoRule_TooMuch:=T.i_NoRule_TooMuch;have i_NoRule_Unclosed:=T.i_NoRule_Unclosed;have i_NoRule_ValueError:=T.i_NoRule_ValueError;have q_NoRule_QuitsError:=T.q_NoRule_QuitsError;have e_TooMuch:=T.e_TooMuch;have i_TooMuch_Bare:=T.i_TooMuch_Bare;have i_TooMuch_NoAnswer:=T.i_TooMuch_NoAnswer;have i_TooMuch_NoDeal:=T.i_TooMuch_NoDeal;have i_TooMuch_NoLayer:=T.i_TooMuch_NoLayer;have i_TooMuch_NoPart:=T.i_TooMuch_NoPart;have i_TooMuch_NoRule:=T.i_TooMuch_NoRule;have i_TooMuch_QuitsError:=T.i_TooMuch_QuitsError;have i_TooMuch_TooMuch:=T.i_TooMuch_TooMuch;have i_TooMuch_Unclosed:=T.i_TooMuch_Unclosed;have i_TooMuch_ValueError:=T.i_TooMuch_ValueError;have q_TooMuch_QuitsError:=T.q_TooMuch_QuitsError;have e_Unclosed:=T.e_Unclosed;have i_Unclosed_Bare:=T.i_Unclosed_Bare;have i_Unclosed_NoAnswer:=T.i_Unclosed_NoAnswer;have i_Unclosed_NoDeal:=T.i_Unclosed_NoDeal;have i_Unclosed_NoLayer:=T.i_Unclosed_NoLayer;have i_Unclosed_NoPart:=T.i_Unclosed_NoPart;have i_Unclosed_NoRule:=T.i_Unclosed_NoRule;have i_Unclosed_QuitsError:=T.i_Unclosed_QuitsError;have i_Unclosed_TooMuch:=T.i_Unclosed_TooMuch;have i_Unclosed_Unclosed:=T.i_Unclosed_Unclosed;have i_Unclosed_ValueError:=T.i_Unclosed_ValueError;have q_Unclosed_QuitsError:=T.q_Unclosed_QuitsError;have cl_Book:=T.cl_Book;have na_Book_day:=T.na_Book_day;have na_Book_deals:=T.na_Book_deals;have na_Book_many:=T.na_Book_many;have na_Book_wares:=T.na_Book_wares;have cl_House:=T.cl_House;have na_House_book:=T.na_House_book;have na_House_kept:=T.na_House_kept;have na_House_moves:=T.na_House_moves;have na_House_order:=T.na_House_order;have na_House_outs:=T.na_House_outs;have na_House_pledges:=T.na_House_pledges;have na_House_purses:=T.na_House_purses;have na_House_reports:=T.na_House_reports;have na_House_rule:=T.na_House_rule;have na_House_shares:=T.na_House_shares;refine⟨_,(ze (zu 2 sc__law_none (zK zd))
 (ze (show PS _ _ (zgZ K _ _ _ _)from ziu (i:=3) ⟨rfl,rfl⟩ (zgQ (zgJ (zla (pv 0) T.cl_House T.d_House_deal.mt (zjD (base:=base) T) (m.mono (j:=2) (by decide)) T.d_House_deal.b (za (pv 1) zd)))) rfl T.m_QuitsError sc__law_none.nd rfl rfl (λ_=>(zi (zS (qAp K (pv 2) (za (zb1 (zbF K T.z_isinstance (za (pv 3) (za (zQ (v:=.ref T.c_NoDeal) rfl T.m_NoDeal rfl) zd))) (zd8 (zpq K (zbF K T.z_isinstance (za (pv 3) (za (zQ (v:=.ref T.c_Unclosed) rfl T.m_Unclosed rfl) zd)))))) zd))))))
 (ze (show PS _ _ (zgZ K _ _ _ _)from ziu (i:=3) ⟨rfl,rfl⟩ (zgQ (zgJ (zla (pv 0) T.cl_House T.d_House_report.mt (zg4 (base:=base) T) (m.mono (j:=1) (by decide)) T.d_House_report.b (za (pv 1) zd)))) rfl T.m_QuitsError sc__law_none.nd rfl rfl (λ_=>(zi (zS (qAp K (pv 2) (za (zb1 (zbF K T.z_isinstance (za (pv 3) (za (zQ (v:=.ref T.c_Unclosed) rfl T.m_Unclosed rfl) zd))) (zb1 (zbF K T.z_isinstance (za (pv 3) (za (zcw (v:=.ty "ValueError") rfl T.z_ValueError BT.ValueError rfl) zd))) (zd8 (zpq K (zbF K T.z_isinstance (za (pv 3) (za (zQ (v:=.ref T.c_NoDeal) rfl T.m_NoDeal rfl) zd))))))) zd))))))
 (zi (zm (zaJ (qEq K m.units) (pv 2) (zK (za zbi (za zbi zd))) (nomark _))))))),?_⟩
 refine zp (σ0:=[some (.ref X.h),some (.int z),none,none]) rfl ?_;walk_at "x";rename_i u H1 a e1 r;refine zT ?_;refine⟨X.h,dx,l,X.d,X.A,X.own,_,_,_,z,[],rfl,e1.at y,e1.at o,e1.at hd,.inr ⟨(λq=>by have:=q.2;simp at this;lia),?_⟩⟩;refine⟨_,rfl,?_⟩;refine zeg q_NoDeal_QuitsError λer H2 R e2 h2=>?_;have c:=e2.at r;walk_at "x";refine zT ?_;refine zdv c (by decide) λU p C=>?_;have k:=p.ins ((e1.trans e2).at y);have g:X.A.re≠u:=zy hre a;have e:=p.lst ((e1.trans e2).at hre) g;walk_at "x"
 try refine zT ?_
 refine⟨X.h,dx,X.A,X.own,z,rfl,k,e,?_⟩;refine⟨_,rfl,?_⟩;refine zeg q_Unclosed_QuitsError λL D S t Y=>?_;have f:D u=some (.lst [.bl true]):=t.at C;walk_at "x";refine zT ?_;refine zdv f (by decide) λW G N=>?_;walk_at "x";rename_i O J V x M;refine zt2 (x.at N) M ?_;exact q J ((G.same (((p.same (e1.trans e2)) a).trans t) a).trans x)
def zew(T:Txt K mg):T.d__law_member_right.Ok P w base 5 (ztG K T.c_House T.c_Book lP lQ):=by
 refine T.d__law_member_right.F.okN zeB (by walk_at "l") λL A outer s H vs Q E a h=>?_;obtain⟨X,i,U,rfl,e,hi,S,q⟩:=h;obtain⟨dx,J⟩:=e.ob;have R:=e.pu;have M:=e.pl;have Z:=e.sh;have hou:=e.ou;have hB:=e.hn.bk;have cl_House:=T.cl_House;refine⟨_,(ze (zI (PW.pt (zbD (zbt (zaq K (qD T.d__law_whole_is (zaK (base:=base) T) a (za (zaw (pv 0) T.cl_House T.d_House_purse.mt (ziG (base:=base) T) (a.mono (by decide)) T.d_House_purse.b .nil (zao zal) (za (pv 1) zd)) (za (qIx K (pv 2) zh) zd))))) (zbu (zbt (zaq K (qD T.d__law_whole_is (zaK (base:=base) T) a (za (zaw (pv 0) T.cl_House T.d_House_pledge.mt (zhu (base:=base) T) (a.mono (by decide)) T.d_House_pledge.b .nil (zao zal) (za (pv 1) zd)) (za (qIx K (pv 2) zh) zd))))))))
 (zi (zm zbi))
 zD)
 (ze (zI (PW.pt (zbD (zbt (zaq K (qD T.d__law_whole_is (zaK (base:=base) T) a (za (zaw (pv 0) T.cl_House T.d_House_share.mt (ziN (base:=base) T) (a.mono (by decide)) T.d_House_share.b .nil (zao zal) (za (pv 1) zd)) (za (qIx K (pv 2) zh) zd))))) (zbD (zw (qNe K a.units) (zaw (pv 0) T.cl_House T.d_House_need.mt (zjN (base:=base) T) (a.mono (by decide)) T.d_House_need.b .nil (zao zal) (za (pv 1) zd)) (zE (za zh (za zh zd))) (nomark _)) (zbu (zw (show OpR _ (compareOp .IsNot) zrd from zsa) (zaw (pv 0) T.cl_House T.d_House_is_out.mt (zgT (base:=base) T) (a.mono (by decide)) T.d_House_is_out.b .nil (zao zal) (za (pv 1) zd)) zbi (nomark _))))))
 (zi (zm zbi))
 zD)
 (zi (zm (zb1 (zaJ (qEq K a.units) (zaw (pv 0) T.cl_House T.d_House_entries.mt (zgl (base:=base) T) (a.mono (by decide)) T.d_House_entries.b .nil (zao zal) (za (pv 1) zd)) (zK zd) (nomark _)) (zd8 (zaJ (qEq K a.units) (zaw (pv 0) T.cl_House T.d_House_position.mt (zfX (base:=base) T) (a.mono (by decide)) T.d_House_position.b .nil (zao zal) (za (pv 1) zd)) (qC1 ["_law_ware"] [none] (zaz rfl T.z_range (za (pv 3) zd)) (λ_ _ _ _ _=>zh)) (nomark _)))))))),?_⟩
 refine zp (σ0:=[some (.ref X.h),some (.int i),some (.ref U),some (.int X.k)]) rfl ?_;walk_at "x";have B:(i:Int).toNat=i:=yx i;refine zT ?_;refine zcW (by rw[B]) ?_;walk_at "x";refine zT ?_;refine zcW (by rw[B]) ?_;walk_at "x";refine zT ?_;refine zcW (by rw[B]) ?_;walk_at "x";refine zT ?_;refine⟨X.h,dx,X.d,X.A,X.own,X.n,0,i,[],X.bs,X.k,X.F,X.w,X.c,rfl,J,e.hn,λr H1 qs e1 G _ p _=>?_⟩;rw[zp8]at p;have g:=e.sameT e1 G;have z:=e1.ins J;have I:=g.ou;have V:=g.hn.bk;walk_at "x";refine zaG (q:=0) ⟨rfl,rfl⟩ ?_;intro p2 H2 e2 y;have D:IsQ H2 r 0:=e2.at p;have o:=g.same e2;have f:=e2.at z;have l:=o.ou;have j:=o.hn.bk;refine ztO D y ?_;walk_at "x";refine zT ?_;refine⟨X.h,dx,X.A,X.own,i,X.n,rfl,f,l,⋯,⋯,?_⟩;refine⟨false,false,rfl,rfl,false,rfl,?_⟩;walk_at "x"
 try refine zT ?_
 refine⟨X.h,dx,X.d,X.A,X.own,_,_,_,i,rfl,f,j,λl3 H3 f3 u h3=>?_⟩;have v:=u.at f;have C:=j.same u;walk_at "x";rename_i l4 H4 f4 x h4;have O:=e.hn.k9;refine zT ?_;refine⟨X.h,dx,X.d,X.A,X.own,_,_,i,X.k,[],rfl,x.at v,C.same x,(λ_ h=>nomatch h),⋯,λp5 H5 f5 Y h5=>?_⟩;walk_at "x";rename_i l6 N f6 W h6;have m:=(e2.trans (u.trans x)).trans (Y.trans W);exact q N (e1.trans m.t) (TbW.same m G)
def zcm(T:Txt K mg):T.d__law_house_right.Ok P w base 6 (zpF K T.c_House T.c_Book lP lQ):=by
 refine T.d__law_house_right.F.okN sc__law_house_right (by walk_at "l") λae A outer s H vs Q E f h=>?_;obtain⟨X,ms,us,xs,rfl,N,B,W,a6,n9,hx,q⟩:=h;obtain⟨dx,hh⟩:=N.ob;have a4:=W.length;have cl_House:=T.cl_House;have t0:=N.hn.tb;refine⟨_,(ze (z5 PassesOwn.never rfl (zaz rfl T.z_range (za (zaL K T.z_len (za (pv 1) zd)) zd)) (zC (i:=4) sc__law_house_right.nd rfl (Or.inl rfl))
 (zi (zI (zbt (zaq K (qD T.d__law_member_right (zew (base:=base) T) f (za (pv 0) (za (pv 4) (za (qIx K (pv 1) (pv 4)) (za (pv 3) zd)))))))
 (zi (zm zbi))
 zD)))
 (ze (zu 5 sc__law_house_right (zt (zad K) (pv 2) (za9 K T.z_sum (za (qC1 ["_law_member"] [none] (zP K (pv 1)) (λ_ _ _ _ _=>(za9 K T.z_sum (za (zcy K T.z_list (za (pv 0) zd)) zd)))) zd))))
 (ze (zI (PW.pt (zbD (zbt (zaq K (qD T.d__law_whole_is (zaK (base:=base) T) f (za (zbQ (pv 0) T.cl_House T.d_House_own.mt (zkA (base:=base) T) (f.mono (by decide)) T.d_House_own.b .nil (zao zal)) (za (pv 2) zd))))) (zbu (zbt (zaq K (qD T.d__law_whole_is (zaK (base:=base) T) f (za (zbQ (pv 0) T.cl_House T.d_House_coins.mt (ziF (base:=base) T) (f.mono (by decide)) T.d_House_coins.b .nil (zao zal)) (za (pv 5) zd))))))))
 (zi (zm zbi))
 zD)
 (ze (zI (PW.pt (zbD (zbt (zaq K (qD T.d__law_whole_is (zaK (base:=base) T) f (za (zbQ (pv 0) T.cl_House T.d_House_today.mt (zis (base:=base) T) (f.mono (by decide)) T.d_House_today.b .nil (zao zal)) (za zh zd))))) (zbu (zw (qNe K f.units) (zaw (pv 0) T.cl_House T.d_House_sheet_on.mt (zf2 (base:=base) T) (f.mono (by decide)) T.d_House_sheet_on.b .nil (zao zal) (za zh zd)) (zK zd) (nomark _)))))
 (zi (zm zbi))
 zD)
 (zi (zm (zb1 (qD T.d__law_none (zc7 (base:=base) T) f (za (pv 0) (za zh zd))) (zb1 (qD T.d__law_none (zc7 (base:=base) T) f (za (pv 0) (za (zbk za4 zh) zd))) (zd8 (qD T.d__law_none (zc7 (base:=base) T) f (za (pv 0) (za zh zd)))))))))))),?_⟩
 refine zp (σ0:=[some (.ref X.h),some (.ref ms),some (.int X.own),some (.int X.k),none,none]) rfl ?_;walk_at "x";refine zbG (λi σ' H'=>∃f4:Option V,σ'=[some (.ref X.h),some (.ref ms),some (.int X.own),some (.int X.k),f4,none]/\SameT H H'/\TbW K "worst_days" lP lQ H') ⟨_,rfl,SameT.refl _,t0⟩ ?_ ?_
 ·rintro i σ' H1 hi ⟨f4,rfl,e1,O⟩;have a0:i<us.length:=by lia
  have ez:(0:Int)+(i:Int)=i:=by lia
  obtain⟨v,U⟩:=zN a0;obtain⟨p,u,rfl,Z,g⟩:=W.get U;have l:u=(X.pf i,X.P i,X.S i):=by rw[<- hx i ⋯,yi,Z];rfl
  have ah:atI us ((0:Int)+(i:Int))=some (.ref p):=by rw[ez];exact zap U
  have j:=e1.lst B;walk_at "x";refine zT ?_;refine⟨X,i,p,congrArg (λz:Int=>[V.ref X.h,V.int z,V.ref p,V.int X.k]) ez,N.sameT e1 O,⋯,(by have:=e1.tup g;rw[l]at this;exact this),λH2 e2 t2=>?_⟩;walk_at "x";exact⟨_,rfl,e1.trans e2,t2⟩
 rintro σ' H1 ⟨f4,rfl,e1,O⟩;have a7:=N.sameT e1 O;have j:=e1.lst B;have a2:IsTs m3V H1 us xs:=IsTs.keep (λa ys z=>e1.tup z) W;walk_at "x";refine zH (zO (K:=K) (a:=ms) (xs:=us)) (λH' e=>SqL.of (e.at j)) rfl (λi vs _=>vs=(vec i λi=>X.pf i+X.P i+X.S i).map V.int) (λH' _=>rfl) ?_ ?_
 ·rintro i x D vs o H3 r hi hD M U Y rfl C a5;obtain⟨p,u,rfl,Z,g⟩:=(a2.same (M.trans C)).get a5;have l:u=(X.pf i,X.P i,X.S i):=by rw[<- hx i ⋯,yi,Z];rfl
  rw[l]at g;have L:r p=some (.tup [.int (X.pf i),.int (X.P i),.int (X.S i)]):=g;have a3:=C.at U;have ab:((vec i λi=>X.pf i+X.P i+X.S i).map V.int).length<=1000:=by lia
  walk_at "x";refine zT ?_;refine⟨p,_,rfl,.inr (SqT.of L),λR f5=>?_⟩;have n:Same r (upd r R (.lst [.int (X.pf i),.int (X.P i),.int (X.S i)])):=Same.new f5 _;have h5:upd r R (.lst [.int (X.pf i),.int (X.P i),.int (X.S i)]) R=some (.lst ([X.pf i,X.P i,X.S i].map V.int)):=zF;revert n h5;generalize upd r R (.lst [.int (X.pf i),.int (X.P i),.int (X.S i)])=H5;intro n h5;have af:=n.at a3;walk_at "x";rename_i H6 b6 h6;rw[ztf]at h6;exact CompN.int ⟨_,rfl⟩ ∅ h6 rfl
 rintro ls H2 vs ag e2 a1 Y rfl;rw[a4,a6]at a1;have c:=a7.same e2;obtain⟨I,G⟩:=c.ob;have aa:=c.pu;have ac:=c.pl;have a8:=c.sh;have a9:=c.re;have y:=c.hn.bk;walk_at "x";refine zT ?_;refine zcW rfl ?_;walk_at "x"
 try refine zT ?_
 refine zcW (by rw[zg0];lia) ?_;walk_at "x"
 try refine zT ?_
 refine⟨X.h,I,X.d,X.A,X.own,_,_,_,[],rfl,G,y,?_⟩;walk_at "x"
 try refine zT ?_
 refine zcW rfl ?_;walk_at "x"
 try refine zT ?_
 refine⟨X.h,I,X.d,X.A,X.own,_,_,_,0,rfl,G,y,λl3 H3 f3 M h3=>?_⟩;walk_at "x";rename_i l4 r ad C h4;have m:=c.same (M.trans C);show ziC K T.c_House T.c_Book lP lQ [V.ref X.h,V.int 0] _ _ _;refine⟨X,0,rfl,m,λH5 n=>?_⟩;refine⟨true,rfl,?_⟩;rw[if_pos rfl];walk_at "x"
 try refine zT ?_
 refine⟨X,-1,rfl,m.same n,λH6 e6=>?_⟩;refine⟨true,rfl,?_⟩;rw[if_pos rfl];walk_at "x"
 try refine zT ?_
 show ziC K T.c_House T.c_Book lP lQ [V.ref X.h,V.int 1] _ _ _;refine⟨X,1,rfl,m.same (n.trans e6),λH7 e7=>?_⟩;have J:=(e2.trans (M.trans C)).trans (n.trans (e6.trans e7));exact q H7 (e1.trans J.t) (TbW.same J O)
noncomputable def zj4 (K:Fg):Sp:=λvs H Q _=>∃(a:Addr) (ns:List Int),vs=[.ref a]/\SqL K H a (ns.map V.int)/\ns.length<=63/\zj5 ns/\(∀pos qual,Tb H (zgr K "worst_days") pos qual)/\∀H',Q (.bl true) H'
def zs4(T:Txt K mg):T.d_law.Ok P w base 10 (zj4 K):=by
 refine T.d_law.F.okN sc_law (by walk_at "l") λgx A outer s H vs Q E O h=>?_;obtain⟨a,ns,rfl,hS,h0,hz,fj,k⟩:=h;have f7:TbW K "worst_days" lP lQ H:=fj lP lQ;have cl_House:=T.cl_House;refine⟨_,(ze (zu 1 sc_law (zK zd))
 (ze (z5 PassesOwn.never rfl (zaz rfl T.z_range (za (zt (zad K) zh (qD T.d__law_draw (zR (base:=base) T) O (za (pv 0) (za zh (za zh zd))))) zd)) (zC (i:=2) sc_law.nd rfl (Or.inl rfl))
 (ze (zu 3 sc_law (qD T.d__law_amount (zbC (base:=base) T) O (za (pv 0) (za (zt (zad K) zh (zt zab zh (pv 2))) (za (zt zd4 zh zh) zd)))))
 (ze (zu 4 sc_law (qD T.d__law_amount (zbC (base:=base) T) O (za (pv 0) (za (zt (zad K) zh (zt zab zh (pv 2))) (za (zt zd4 zh zh) zd)))))
 (zi (zS (qAp K (pv 1) (za (zE (za (pv 3) (za (pv 4) (za (qD T.d__law_amount (zbC (base:=base) T) O (za (pv 0) (za (zt (zad K) zh (zt zab zh (pv 2))) (za (zt zd4 zh zh) zd)))) zd)))) zd)))))))
 (ze (zu 5 sc_law (zt (zad K) zh (qD T.d__law_draw (zR (base:=base) T) O (za (pv 0) (za zh (za zh zd))))))
 (ze (zu 6 sc_law (zt (zad K) zh (qD T.d__law_draw (zR (base:=base) T) O (za (pv 0) (za zh (za (qIx K (zK (za zh (za zh zd))) (qD T.d__law_draw (zR (base:=base) T) O (za (pv 0) (za zh (za zh zd))))) zd))))))
 (ze (zu 7 sc_law (qD T.d__law_moves (zjC (base:=base) T) O (za (pv 0) (za zh (za (pv 6) (za (pv 5) zd))))))
 (ze (zu 8 sc_law (zE (za (qIx K (zK (za zJ (za zJ zd))) (qD T.d__law_draw (zR (base:=base) T) O (za (pv 0) (za zh (za zh zd))))) (za (zt (zad K) zh (qD T.d__law_draw (zR (base:=base) T) O (za (pv 0) (za zh (za (pv 6) zd))))) zd))))
 (ze (zu 9 sc_law (qD T.d__law_order (zjT (base:=base) T) O (za (pv 0) (za zh zd))))
 (ze (zu 10 sc_law (qD T.d__law_amount (zbC (base:=base) T) O (za (pv 0) (za zh (za (zt zd4 zh zh) zd)))))
 (ze (zu 11 sc_law (zaJ (qEq K O.units) (qD T.d__law_draw (zR (base:=base) T) O (za (pv 0) (za zh (za zh zd)))) zh (nomark _)))
 (ze (zu 12 sc_law (zaJ (qEq K O.units) (qD T.d__law_draw (zR (base:=base) T) O (za (pv 0) (za zh (za zh zd)))) zh (nomark _)))
 (zbE (zI (PW.pt (zbD (zaq K (pv 11)) (zbu (zaq K (pv 12)))))
 (ze (zu 13 sc_law (zK (za (pv 8) (za (zcy K T.z_list (za (pv 9) zd)) zd))))
 (zbE (zI (zaq K (pv 11))
 (zi (zdj (qD T.d__law_spoilt_rule (zeZ (base:=base) T) O (za (pv 0) (za zh (za (pv 8) (za (pv 6) zd))))) (zcZ (pv 13) zh zay)))
 zD)
 (zbE (zI (zaq K (pv 12))
 (zi (zdj (qD T.d__law_spoilt_order (zei (base:=base) T) O (za (pv 0) (za zh (za (pv 9) zd)))) (zcZ (pv 13) zh zay)))
 zD)
 (ze (zu 14 sc_law zJ)
 (zbE (zI (zaq K (pv 11))
 (zi (zu 14 sc_law zJ))
 zD)
 (zi (zI (zw (qNe K O.units) (qD T.d__law_refused (zhg (base:=base) T) O (za (zcy K T.z_list (za (pv 1) zd)) (za (qC1 ["_law_row"] [none] (zP K (pv 7)) (λ_ _ _ _ _=>(zcy K T.z_list (za (pv 0) zd)))) (za (qIx K (pv 13) zh) (za (qIx K (pv 13) zh) (za (pv 10) zd)))))) (pv 14) (nomark _))
 (zi (zm zbi))
 zD)))))))
 zD)
 (ze (zu 15 sc_law (zK (za (zcy K T.z_list (za (pv 1) zd)) (za (qC1 ["_law_row"] [none] (zP K (pv 7)) (λ_ _ _ _ _=>(zcy K T.z_list (za (pv 0) zd)))) (za (zcy K T.z_list (za (pv 9) zd)) zd)))))
 (ze (zu 16 sc_law (zmE T.mk_House (zcO (base:=base) T) (O.mono (by decide)) rfl T.m_House T.d_House___init__.b .nil (zao zal) (za (qIx K (pv 15) zh) (za (qIx K (pv 15) zh) (za (pv 8) (za (qIx K (pv 15) zh) (za (pv 10) zd)))))))
 (ze (zI (PW.pt (zbD (zw (qNe K O.units) (pv 15) (zK (za (pv 1) (za (pv 7) (za (pv 9) zd)))) (nomark _)) (zbu (zbt (zaq K (qD T.d__law_house_right (zcm (base:=base) T) O (za (pv 16) (za (pv 1) (za (pv 10) (za (pv 5) zd))))))))))
 (zi (zm zbi))
 zD)
 (ze (z5 PassesOwn.never rfl (zP K (qIx K (pv 15) zh)) (zC (i:=17) sc_law.nd rfl (Or.inl rfl))
 (zi (zS (qAp K (pv 17) (za zh zd)))))
 (ze (zS (show PE _ _ (zmH K _ _ _)from zpd yam PySem.F.slot_list_clear PySem.F.type_list_clear zqT (qIx K (pv 15) zh)))
 (ze (zS (qAp K (qIx K (pv 15) zh) (za (qC1 ["_law_ware"] [none] (zaz rfl T.z_range (za (pv 5) zd)) (λ_ _ _ _ _=>zh)) zd)))
 (ze (zS (qAp K (qIx K (pv 15) zh) (za zJ zd)))
 (ze (zI (zbt (zaq K (qD T.d__law_house_right (zcm (base:=base) T) O (za (pv 16) (za (pv 1) (za (pv 10) (za (pv 5) zd)))))))
 (zi (zm zbi))
 zD)
 (zi (zm (zaJ (qEq K O.units) (qC1 ["_law_row"] [none] (show PI _ _ _ (zp3 K _)from zty (qIx K (zbQ (pv 16) T.cl_House T.d_House_close.mt (zh4 (base:=base) T) (O.mono (by decide)) T.d_House_close.b .nil (zao zal)) zh)) (λ_ _ _ _ _=>(qIx K (pv 0) zh))) (pv 9) (nomark _))))))))))))))))))))))),?_⟩
 refine zp (σ0:=[some (.ref a),none,none,none,none,none,none,none,none,none,none,none,none,none,none,none,none,none]) rfl ?_;walk_at "x";rename_i ms H1 fl e1 d8 x x0 x1;obtain⟨N,eN,N0,N1⟩:∃N:Nat,1+x=(N:Int)/\1<=N/\N<=8:=⟨(1+x).toNat,⋯,⋯,⋯⟩
 rw[eN,yx];refine zbG (λi Y H'=>∃(f2 f3 f4:Option V) (us:List V) (xs:List (Int × Int × Int)),Y=[some (.ref a),some (.ref ms),f2,f3,f4,none,none,none,none,none,none,none,none,none,none,none,none,none]/\H' ms=some (.lst us)/\IsTs m3V H' us xs/\xs.length=i/\(∀x∈xs,(0<=x.1/\x.1<=1000000000)/\(0<=x.2.1/\x.2.1<=1000000000)/\(0<=x.2.2/\x.2.2<=1000000000))/\Same H H') ⟨_,_,_,[],[],rfl,d8,trivial,rfl,(λ_ h=>nomatch h),e1⟩ ?_ ?_
 ·rintro i Y H2 hi ⟨f2,f3,f4,us,xs,rfl,au,b3,b7,C,e2⟩;have cu:=e2.seq hS;have go:us.length<=1000:=by rw[b3.length];lia
  walk_at "x";rename_i p p0 p1 l l0 l1 s s0 s1 t H3 ft e3 ht H4 b4 h4;refine⟨_,_,_,us++[.ref t],xs++[(p,l,s)],rfl,h4,IsTs.app (f:=m3V) (x:=(p,l,s)) (b4.tup ht) (LBut.isTs b4 (b3.same e3)),by rw[yf,b7];rfl,λy hy=>?_,b4.same (e2.trans e3) fl⟩;rcases yA.mp hy with hy | hy
  ·exact C y hy
  ·rw[yp.mp hy];exact⟨⟨p0,⋯⟩,⟨l0,⋯⟩,⟨s0,⋯⟩⟩
 rintro Y H2 ⟨f2,f3,f4,us,xs,rfl,au,b3,b7,C,e2⟩;have cu:=e2.seq hS;walk_at "x";rename_i kv gn gi l5 H3 gw e3 d6 y y0 y1;obtain⟨W,ek,k0,k1⟩:∃W:Nat,1+kv=(W:Int)/\1<=W/\W<=4:=⟨(1+kv).toNat,⋯,⋯,⋯⟩
 rw[ek];obtain⟨dm,dk,ge,gp⟩:∃dm:Int,atI [V.int 5,V.int 30] y=some (.int dm)/\5<=dm/\dm<=30:=by
  rcases(show y=0\/y=1 by lia)with rfl | rfl
  ·exact⟨5,rfl,by decide,by decide⟩
  ·exact⟨30,rfl,by decide,by decide⟩
 refine zb7 (SqL.of d6) dk ?_;have co:=e3.seq cu;walk_at "x";rename_i dv g7 gg;obtain⟨D,eD,D0,D1⟩:∃D:Nat,1+dv=(D:Int)/\1<=D/\D<=30:=⟨(1+dv).toNat,⋯,⋯,⋯⟩
 rw[eD];refine zT ?_;refine⟨a,ns,80,D,W,rfl,co,by decide,by decide,⋯,⋯,⋯,⋯,λmo H4 as F gm e4 d9 b8 hR hW _=>?_⟩;rw[yx]at b8 hR;rw[yx,yx]at hW;have ed:=e4.seq co;walk_at "x";rename_i lw H5 g6 e5 de z z0 z1;obtain⟨w,hw,ds⟩:∃w:Str,atI [V.str "worst",V.str "mean"] z=some (.str w)/\(w = "worst" \/ w = "mean"):=by
  rcases(show z=0\/z=1 by lia)with rfl | rfl
  ·exact⟨_,rfl,.inl rfl⟩
  ·exact⟨_,rfl,.inr rfl⟩
 refine zb7 (SqL.of de) hw ?_;have dt:=e5.seq ed;walk_at "x";rename_i c c0 c1;refine zaA (by first | decide | simp) λru H6 gy e6 dj=>?_;have cg:=e6.seq dt;walk_at "x";show zmB K [V.ref a,V.int 70] _ _ _;refine⟨a,ns,70,rfl,cg,by decide,by decide,λod H7 ws gz e7 b5 cn fm hwl=>?_⟩;have gb:=e7.seq cg;walk_at "x";rename_i own o0 o1 b1 g8 be b2 cb cj;have ch:=(e3.trans (e4.trans e5)).trans (e6.trans e7);have ax:=ch.at au;have ct:=b3.same ch;have bg:=e2.trans ch;have ay:=(e5.trans (e6.trans e7)).at d9;have bb:=hR.same (e5.trans (e6.trans e7));have ap:=e7.at dj;have c7:za5 w (1+c) as.length:=⟨ds,⋯,by rw[b8];lia⟩
 have dw:OkO ws:=⟨cn,fm⟩
 have br:xs.length<=1000:=by lia
 have gh:1<=as.length:=by lia
 have dg:as.length<=1000:=by lia
 clear e1 d8 cu co ed dt cg d6 de dk hw;clear au b3 d9 hR dj;refine zcS (λY H'=>∃ce ci:Option V,Y=[some (.ref a),some (.ref ms),f2,f3,f4,some (.int W),some (.int D),some (.ref mo),some (.ref ru),some (.ref od),some (.int own),some (.bl (decide (b1=0))),some (.bl (decide (b2=0))),ce,ci,none,none,none]/\Same H7 H') ?_ ?_
 ·walk_at "x"
  rotate_right 1
  ·exact⟨_,_,rfl,Same.refl _⟩
  all_goals
   have en:b1=0\/b2=0:=by first | exact .inl (by assumption) | exact .inr (by assumption)
   first
    | (rename_i hn C o2 H8 al e8 a8 ak H9 c2 e9 bx;have hq:¬b1=0:=hn;clear hq hn C)
    | (rename_i C o2 H8 al e8 a8 ak H9 c2 e9 bx;clear C)
   have a1:=e8.trans e9;have bp:=Same.none c2 e8;have fd:o2≠ak:=zy a8 c2;refine zcS (λY H'=>∃(am:Addr) (w1:Str) (c1:Int),Y=[some (.ref a),some (.ref ms),f2,f3,f4,some (.int W),some (.int D),some (.ref mo),some (.ref ru),some (.ref od),some (.int own),some (.bl (decide (b1=0))),some (.bl (decide (b2=0))),some (.ref ak),none,none,none,none]/\H' ak=some (.lst [.ref am,.ref o2])/\H' am=some (.tup [.str w1,.int c1])/\(b1=0->¬za5 w1 c1 as.length)/\(¬b1=0->za5 w1 c1 as.length)/\H' o2=some (.lst (ws.map V.str))/\Same H7 H') ?_ ?_
   ·walk_at "x"
    ·rename_i C;refine zT ?_;refine⟨a,ns,10,ru,w,_,D,rfl,(bg.trans a1).seq hS,by decide,by decide,a1.at ap,ds,⋯,⋯,λp1 ca w1 c1 G ez hno=>?_⟩;rw[yx,<- b8]at hno;have a5:=G.at bx;walk_at "x";refine zg8 a5 (show ixN 2 0=some 0 from rfl) λbf be ar=>?_;exact⟨p1,w1,c1,rfl,ar,be.tup ez,(λ_=>hno),(λz=>absurd C z),be.lst ((e9.trans G).at a8) fd,be.same (a1.trans G) bp⟩
    ·rename_i C;exact⟨ru,w,_,rfl,bx,a1.at ap,(λz=>absurd z C),(λ_=>c7),e9.at a8,a1⟩
   rintro Y ca ⟨am,w1,c1,rfl,a5,bn,f9,eu,db,G⟩;refine zcS (λY H'=>∃(bh:Addr) (a9:List Str),Y=[some (.ref a),some (.ref ms),f2,f3,f4,some (.int W),some (.int D),some (.ref mo),some (.ref ru),some (.ref od),some (.int own),some (.bl (decide (b1=0))),some (.bl (decide (b2=0))),some (.ref ak),none,none,none,none]/\H' ak=some (.lst [.ref am,.ref bh])/\H' am=some (.tup [.str w1,.int c1])/\H' bh=some (.lst (a9.map V.str))/\a9.length<=100/\(b2=0->¬OkO a9)/\Same H7 H') ?_ ?_
   ·walk_at "x"
    ·rename_i C;refine zT ?_;refine⟨a,ns,12,od,ws,rfl,(bg.trans G).seq hS,by decide,by decide,G.at b5,hwl,λp1 bf a9 u ar dd hno=>?_⟩;have a3:=u.at a5;have fe:p1≠ak:=λz=>by
      rw[z,a3]at ar;have z:=congrArg List.head? (HO.lst.inj (yq ar));rw[List.head?_map]at z;cases h:a9.head? with
      | none=>rw[h]at z;cases z
      | some x=>rw[h]at z;cases z
     walk_at "x";refine zg8 a3 (show ixN 2 1=some 1 from rfl) λaw cp fk=>?_;exact⟨p1,a9,rfl,fk,cp.tup (u.at bn),cp.lst ar fe,yc dd (by decide),(λ_=>hno),cp.same (G.trans u) bp⟩
    ·rename_i C;exact⟨o2,ws,rfl,a5,bn,db,⋯,(λz=>absurd z C),G⟩
   rintro Y bf ⟨bh,a9,rfl,a3,cx,dq,du,f1,u⟩;walk_at "x";refine zcS (λY H'=>Y=[some (.ref a),some (.ref ms),f2,f3,f4,some (.int W),some (.int D),some (.ref mo),some (.ref ru),some (.ref od),some (.int own),some (.bl (decide (b1=0))),some (.bl (decide (b2=0))),some (.ref ak),some (.str (if b1=0 then "rule" else "order")),none,none,none]/\bf=H') ?_ ?_
   ·walk_at "x"
    ·rename_i C;exact⟨by rw[if_pos C],rfl⟩
    ·rename_i C;exact⟨by rw[if_neg C],rfl⟩
   rintro Y _ ⟨rfl,rfl⟩;have ew:=u.at ax;walk_at "x";rename_i m2 aw di J a7;have a6:=u.trans J;refine zij (a6.at ay) (bb.same a6) ⋯ dg ⋯ rfl λR cq bs av e13 Z bi an _ _=>?_;have f0:=(J.trans e13).at a3;walk_at "x";refine zT ?_;refine⟨m2,R,am,bh,us,xs,bs,W,F,w1,c1,a9,own,rfl,e13.at a7,(ct.same a6).same e13,br,Z,an,⋯,⋯,⋯,⋯,(J.trans e13).at cx,(J.trans e13).at dq,du,?_⟩;rw[bi];by_cases C:b1=0
   ·refine .inl ⟨f9 C,λU c8=>?_⟩;rw[if_pos C];walk_at "x"
    ·rename_i hx;exact absurd rfl hx
    ·exact⟨_,_,rfl,(a6.trans e13).trans c8⟩
   ·refine .inr ⟨eu C,f1 (en.resolve_left C),λU c8=>?_⟩;rw[if_neg C];walk_at "x"
    ·rename_i hx;exact absurd rfl hx
    ·exact⟨_,_,rfl,(a6.trans e13).trans c8⟩
 rintro Y H8 ⟨ce,ci,rfl,e8⟩;have d5:=e8.at ax;walk_at "x";rename_i m2 H9 di e9 a7;have a1:=e8.trans e9;refine zij (a1.at ay) (bb.same a1) ⋯ dg ⋯ rfl λR ca g av G Z bi an f6 bo=>?_;have aj:=a1.trans G;have ff:=aj.at b5;walk_at "x";rename_i o2 bf al u a8 hd aw ba J eo;refine ziJ λh dx cq fh e13 cw=>?_;have a4:=u.trans (J.trans e13);have L:=aj.trans a4;have b6:=(G.trans a4).at a7;have ai:=a4.at Z;have ab:=an.same a4;have aq:=(J.trans e13).at a8;refine⟨h,dx,m2,R,ru,o2,us,xs,g,W,F,w,1+c,ws,own,rfl,cw,b6,ct.same L,br,ai,ab,⋯,⋯,⋯,⋯,L.at ap,aq,⋯,?_,(λz=>absurd (bi▸c7) z),(λ_ z=>absurd dw z)⟩;intro _ _ B d bs U b0 fn fw hN;refine⟨rfl,?_⟩;have d4:=bg.trans L;have cz:Same H U:=b0.same d4 (Same.none fh (bg.trans (aj.trans (u.trans J))));have I:∀{a:Addr} {ys:List V},cq a=some (.lst ys)->U a=some (.lst ys):=λz=>b0.at z (zag z cw (by intro q;cases q));have dc:∀(a:Addr) (ys:List V),cq a=some (.tup ys)->U a=some (.tup ys):=λa ys z=>b0.at z (zag z cw (by intro q;cases q));have ad:=I (L.at ax);have ag:IsTs m3V U us xs:=IsTs.keep dc (ct.same L);have ae:=I b6;have cv:=I (L.at ay);have ah:=I ai;have ac:=I aq;have az:=I (L.at b5);have ao:=I (e13.at eo);have dr:Rows U as W F:=⟨bb.1,λi a z=>I (L.at (bb.2 i a z))⟩
 have af:Rows U g W F:=⟨ab.1,λi a z=>I (ab.2 i a z)⟩
 have df:bs.length=D:=by lia
 obtain⟨X,hX⟩:∃X:HQ,X=⟨h,d,B,own,N,λi=>(xs.getD i (0,0,0)).1,λi=>(xs.getD i (0,0,0)).2.1,λi=>(xs.getD i (0,0,0)).2.2,bs,W,F,w,1+c,ws⟩:=⟨_,rfl⟩
 have es:X.h=h:=by rw[hX]
 have fa:X.own=own:=by rw[hX]
 have fy:X.k=W:=by rw[hX]
 have b9:X.n=N:=by rw[hX]
 have d0:∀i,i<X.n->xs.getD i (0,0,0)=(X.pf i,X.P i,X.S i):=λi _=>by rw[hX]
 have bt:HM K T.c_House T.c_Book lP lQ U X:=by
  rw[hX];have q1:=hN.pu;have q2:=hN.pl;have q3:=hN.sh;have q4:=hN.bk;have q5:=hN.ou;rw[b7]at q1 q2 q3 q4 q5;exact⟨⟨dx,fn⟩,q1,q2,q3,hN.od,q5,hN.re,⟨q4,(λ_ h=>nomatch h),(λ_ h=>nomatch h),yI _,hN.ru,hN.mv,hN.rows,(by rw[df];exact hW),(by rw[df,<- b8];exact c7),by show W<=9;lia,by show bs.length<64;lia,TbW.same cz f7⟩⟩
 have fX:∀a∈X.all,aw a=none:=λa ha=>by
  rw[hX]at ha;rcases yt.mp ha with rfl | ha
  ·exact fh
  ·exact Same.none (hN.st.ex a ha).2.2 e13
 have nd:=hN.st.nd;have ev:B.bk≠h:=(hN.st.ex B.bk (by simp)).2.1;walk_at "x";rename_i gl gv g3 m eb;refine znV (m.at ao) eb cn (m.at ae) (ag.same m) (m.at ah) (af.same m) (m.at ac) (m.at ad) (ag.same m) (m.at cv) (dr.same m) (m.at az) bi ?_;walk_at "x";refine zT ?_;have d2:[V.ref h,V.ref ms,V.int own,V.int W]=[V.ref X.h,V.ref ms,V.int X.own,V.int X.k]:=by rw[es,fa,fy]
 refine⟨X,ms,us,xs,d2,bt.same m,m.at ad,ag.same m,by rw[b9];exact b7,by rw[b9];lia,d0,λbc c6 dp=>?_⟩;have v:∀{a:Addr} {ys:List V},U a=some (.lst ys)->bc a=some (.lst ys):=λz=>c6.lst (m.at z);have cf:=v ao;have a0:=v ah;have eg:=(bt.same m).sameT c6 dp;have ee:∀b∈g,aw b≠none:=λb C=>by
  obtain⟨i,hi,e⟩:=yP C;exact zac ((u.trans J).at (an.2 i b (by rw[yr hi,e])))
 have d7:∀{a:Addr} {o:HO},H9 a=some o->a∉g:=λz hm=>by rw[f6 _ hm]at z;cases z
 have ej:∀{a:Addr},ca a=none->a∉g:=λ{a} z hm=>by
  obtain⟨i,hi,e⟩:=yP hm
  have:=an.2 i a (by rw[yr hi,e])
  rw[z]at this;cases this
 walk_at "x";refine zbc (xs:=g.map V.ref) (λi Y H'=>∃c5:Option V,Y=[some (.ref a),some (.ref ms),f2,f3,f4,some (.int W),some (.int D),some (.ref mo),some (.ref ru),some (.ref od),some (.int own),some (.bl (decide (b1=0))),some (.bl (decide (b2=0))),ce,ci,some (.ref hd),some (.ref h),c5]/\KB g bc H'/\(∀j b,i<=j->g[j]?=some b->H' b=some (.lst ((vec W (F j)).map V.int)))/\TbW K "worst_days" lP lQ H') ⟨_,rfl,KB.refl,(λj b _ z=>v (af.2 j b z)),dp⟩ ?_ ?_ ?_
 ·rintro i Y H' _ ⟨_,_,e,_⟩;exact SqL.of (e.at a0 bo)
 ·rintro i x Y fv hx ⟨c5,rfl,aa,bq,cy⟩;rw[yg]at hx;obtain⟨b,C⟩:∃b,g[i]?=some b:=by
   cases h:g[i]? with
   | none=>rw[h]at hx;cases hx
   | some t=>exact⟨t,rfl⟩
  rw[C]at hx;cases hx;have g1:=bq i b (yh _) C;have eh:((vec W (F i)).map V.int).length<=1000:=by rw[yb,zA];lia
  walk_at "x";rename_i ey a2 fo;refine⟨_,rfl,aa.lbut a2 (ym C),λj c hj hc=>a2.lst (bq j c ⋯ hc) λz=>?_,TbW.but a2 cy⟩;rw[z]at hc;have i1:=(yk.mp C).1
  have:=(List.getElem?_inj i1 an.1).mp (C.trans hc.symm)
  lia
 rintro Y fv ⟨c5,rfl,aa,_,cy⟩;have cr:=aa.at cf (ej (Same.none ba u));have cd:=aa.at (v ae) (d7 a7);have bd:=aa.at a0 bo;have bz:=aa.at (v ac) (ej al);walk_at "x";have n1:R≠m2:=(zy a7 av).symm;have n2:o2≠m2:=(zy (G.at a7) al).symm;have n3:o2≠R:=(zy Z al).symm;have n4:hd≠m2:=(zy ((G.trans u).at a7) ba).symm;have n5:hd≠R:=(zy (u.at Z) ba).symm;have n6:hd≠o2:=(zy a8 ba).symm;have gk:(g.map V.ref).length<=1000:=by rw[yb];lia
 have gf:(ws.map V.str).length<=1000:=by rw[yb];lia
 refine zpJ cd λey a2 fo=>?_;have fx:=a2.lst cr n4;have em:=a2.lst bd n1;have fq:=a2.lst bz n2;walk_at "x";rename_i gr gq g4 ec fz g9 cb ga el cj gt;have kS:KB (g++[m2,R,o2]) bc el:=(((((aa.more λa h=>yat _ h).lbut a2 (by simp)).trans ec.kb).lbut cb (by simp)).lbut cj (by simp))
 have ck:∀{s:Addr},s∈g++[m2,R,o2]->s∈g\/s=m2\/s=R\/s=o2:=λhs=>(yA.mp hs).imp id λq=>by simpa using q
 have nX:∀a∈X.all,a∉g++[m2,R,o2]:=λa ha hs=>by
  have z:=fX a ha;rcases ck hs with q | rfl | rfl | rfl
  ·exact ee a q z
  ·exact zac ((G.trans (u.trans J)).at a7) z
  ·exact zac ((u.trans J).at Z) z
  ·exact zac (J.at a8) z
 have fp:=TbW.but cj (TbW.but cb (TbW.same ec (TbW.but a2 cy)));have bv:=eg.kb kS nX fp;have lS:∀s,s∈g++[m2,R,o2]->∃ys,bc s=some (.lst ys):=λs hs=>by
  rcases ck hs with q | rfl | rfl | rfl
  ·obtain⟨i,hi,e⟩:=yP q;exact⟨_,v (af.2 i s (by rw[yr hi,e]))⟩
  ·exact⟨_,v ae⟩
  ·exact⟨_,a0⟩
  ·exact⟨_,v ac⟩
 have d1:IsTs m3V el us xs:=IsTs.keep (λa ys z=>kS.at z λhs=>by obtain⟨zs,q⟩:=lS a hs;rw[q]at z;cases z) (IsTs.keep (λa ys z=>c6.tup (m.at z)) ag);have nS:∀{a:Addr} {o:HO},H8 a=some o->a∉g++[m2,R,o2]:=λz hs=>by
  have z9:=e9.at z;rcases ck hs with q | q | q | q
  ·exact d7 z9 q
  ·exact zy z di q
  ·exact zy z9 av q
  ·exact zy (G.at z9) al q
 have cc:=kS.at (v ad) (nS d5);have cm:=kS.at (v az) (nS (e8.at b5));refine zT ?_;refine⟨X,ms,us,xs,d2,bv,cc,d1,by rw[b9];exact b7,by rw[b9];lia,d0,λgd ea ep=>?_⟩;have M:=bv.sameT ea ep;have bw:=ea.lst cm;have c9:∀i,i<N->(0<=(xs.getD i (0,0,0)).1/\(xs.getD i (0,0,0)).1<=1000000000)/\(0<=(xs.getD i (0,0,0)).2.1/\(xs.getD i (0,0,0)).2.1<=1000000000)/\(0<=(xs.getD i (0,0,0)).2.2/\(xs.getD i (0,0,0)).2.2<=1000000000):=λi hi=>by
  have da:i<xs.length:=by lia
  rw[yi,yr da];exact C _ (ybz da)
 rw[hX]at M;obtain⟨e0,dh⟩:=M.ob;have bm:=(yS.mp (yK.mp (yK.mp (yK.mp (yK.mp (yK.mp (yK.mp nd).2).2).2).2).2).2).2.1;simp only[yK,yt,yR,or_false,not_or]at bm;have fi:∀i,i<N->0<=(xs.getD i (0,0,0)).1/\(xs.getD i (0,0,0)).1<=1000000000000:=λi hi=>by have:=c9 i hi;lia
 have fr:Lit N (λi=>(xs.getD i (0,0,0)).2.1):=λi hi=>by have:=c9 i hi;dsimp only;lia
 have fg:Lit N (λi=>(xs.getD i (0,0,0)).2.2):=λi hi=>by have:=c9 i hi;dsimp only;lia
 walk_at "x";refine zT ?_;refine⟨h,e0,d,B,own,_,_,_,N,_,_,_,ws,rfl,⟨dh,M.pu,M.pl,M.sh,bm.2.2.1,bm.2.1.2,(λz=>bm.2.1.1 z.symm)⟩,M.hn.bk,M.od,M.re,ev,N0,⋯,fi,fr,fg,o0,⋯,dw,λy g5 hy fc=>?_⟩;obtain⟨v0,v1,v2,vl,r,rows,f8,dy,et,f5⟩:=hy;have dn:atI (v0 :: v1 :: v2 :: V.ref r :: vl) 3=some (.ref r):=zap (j:=3) rfl;have nod:od∉[h,B.pl,B.sh,B.bk,B.re]:=λhm=>by
  have z:aw od=none:=fX od (by rw[hX];simp only[HQ.all,yt,yA,yR,or_false]at hm ⊢;rcases hm with q | q | q | q | q<;>simp[q]);exact zac ((aj.trans (u.trans J)).at b5) z
 have cs:=fc.at bw nod;refine zm4 (SqT.of f8) dn ?_;refine zug (SqT.of dy) ?_;refine zH (zmF (K:=K) (a:=r) (xs:=rows.map V.ref)) (λH' e=>SqT.of (e.at dy)) rfl (λi vs _=>vs=(ws.take i).map V.str) (λH' _=>rfl) ?_ ?_
 ·rintro i x D2 vs o dz gu hi hD bj hv eh rfl c4 hx;rw[yb]at hi;obtain⟨b,dl⟩:=zN hi;rw[yg,dl]at hx;cases hx;obtain⟨ys,fu⟩:=f5 i b dl;have c3:=(bj.trans c4).at fu;have er:ws[i]?=some (ws.getD i ""):=by rw[yi,yr ⋯];rfl
  have ei:=c4.at hv;have g0:((ws.take i).map V.str).length<=1000:=by rw[yb,yag];lia
  have ef:atI (V.str (ws.getD i "") :: ys) 0=some (.str (ws.getD i "")):=zap (j:=0) rfl;walk_at "x";refine zm4 (SqT.of c3) ef ?_;refine zdv ei ⋯ λgs eq fb=>?_;refine⟨⟨_,rfl⟩,eq.same (bj.trans c4) hD,_,fb,by rw[yf];exact ye eh,?_⟩;dsimp only;rw[zar er,yj];rfl
 rintro gj dz vs g2 bj bu _ rfl;rw[yb,et,yz]at bu;walk_at "x";refine zoK bu (bj.at cs) cn ?_;exact k dz
end
def mkK(D:DfnM K C "__init__" qual st ps)(h:PySem.W.makesIn K C=true)(k:PySem.W.keepIn K (.ref C)=true):Mk K C D.a:=⟨h,D.mt.1,D.mt.2,k⟩
def fin{P:Program}{w:World}{b:Addr}(T:Txt K mg)(a:mg "law" = some (.ref b)) :
  ∃fd:FuncData,(∀(s:Shared) (v:Value),BindsTo s fd ⟨[v],[]⟩ [("_law_script",v)])/\(∃p,PySem.W.tabIn K "worst_days" = some p)/\∀base:Heap,K.In base->base.Ns mainGlobals mg->TabX K mg base "worst_days" -> FnOk P w K mg base (CXF P w) 10 b fd ["_law_script"] (zj4 K):=by
 have e:=a.symm.trans T.d_law.m;cases e;exact⟨_,T.bl_law,⟨_,T.tb_worst_days⟩,λbase _ _ _=>zs4 T⟩
def walk{l:PySem.W.OpenLaw}{q:Program}{b:List Str}{o:(Str->Option Value)->Heap->Prop}{g:World->Heap->Prop}{d:DefRec}{K:Params->Fg}(hn:l.most=some 63)(c:d.params.defaults=[])
  (hY:∀(w:World) (h:Heap),g w h->(K w.params).In h)
  (hrec:∃d',(PyProof.Rows.recsOf q).find? (λe=>e.name == ("worst_days" : Str))=some d') (hnt:∀w:World,PySem.W.noTabs (K w.params)=true)
  (F:∀(w:World) (mg:Str->Option Value) (fa:Addr) (h:Heap),(K w.params).In h->h.Ns mainGlobals mg->mg d.name=some (.ref fa) ->
   ∃fd:FuncData,(∀(s:Shared) (u:Value),BindsTo s fd ⟨[u],[]⟩ [("_law_script",u)])/\(∃p,PySem.W.tabIn (K w.params) "worst_days" = some p)/\∀base:Heap,(K w.params).In base->base.Ns mainGlobals mg->TabX (K w.params) mg base "worst_days" -> FnOk l.prog w (K w.params) mg base (CXF l.prog w) 10 fa fd ["_law_script"] (zj4 (K w.params))) :
  PySem.W.WalkO q b o g l.row.toRowW d [] (λf vs=>PySem.call f vs):=
 let ⟨_,hrec'⟩:=hrec
 Internal.walk_ofT (n:=63) (k:=10) (x := "_law_script") (CX:=λw=>CXF l.prog w) (sp:=λw=>zj4 (K w.params)) hn (by decide) c ⟨rfl,by decide,by decide⟩ hY hrec' hnt F (λ_ _ a ns r m j i=>⟨a,ns,rfl,j,r,m,i,λ_=>rfl⟩) λ_ H s e s' z=>zal _ H s e s' z
end Internal.K
open PySem PySem.W PyProof.Rows
set_option maxRecDepth 100000 in
set_option maxHeartbeats 0 in
theorem PySem.Challenge.cw_quits_k76_a_house_made_holds : PySem.Challenge.rw_quits_k76_a_house_made.Holds := by
 refine pre0 ?_
 k_fill
 refine Internal.K.walk (l:=PySem.Challenge.rw_quits_k76_a_house_made) rfl rfl (λw h Y=>PySem.W.km_in_of Y) ?xRec ?xTab ?F
 case xRec=>exact⟨_,rfl⟩
 case xTab=>intro w;kernel_rfl
 case F=>
  intro w mg fa h KX G hmg;refine Internal.K.fin ?T hmg
  case T=>
   refine' (⟨_,yU KX G (by k_is),_,yU KX G (by k_is),_,yU KX G (by k_is),_,yU KX G (by k_is),_,yU KX G (by k_is),_,yU KX G (by k_is),_,yU KX G (by k_is),_,yU KX G (by k_is),_,yU KX G (by k_is),?_,?_,?_,?_,?_,?_,?_,?_,?_,?_,?_,?_,?_,?_,?_,?_,?_,?_,?_,?_,?_,?_,?_,?_,?_,?_,?_,?_,?_,?_,?_,?_,?_,?_,?_,?_,?_,?_,?_,?_,?_,?_,?_,?_,?_,?_,?_,?_,?_,?_,?_,?_,?_,?_,?_,?_,?_,?_,?_,?_,?_,?_,?_,?_,?_,?_,?_,?_,?_,?_,?_,?_,?_,?_,?_,?_,?_,?_,?_,?_,?_,?_,?_,?_,_,yU KX G (by k_is),?_,?_,?_,?_,?_,_,yU KX G (by k_is),?_,?_,?_,?_,?_,?_,?_,?_,?_,?_,?_,?_,?_,?_,?_,?_,?_,?_,?_,_,yU KX G (by k_is),?_,?_,?_,?_,?_,?_,?_,?_,?_,?_,?_,?_,?_,?_,?_,?_,?_,?_,?_,?_,?_,?_,?_,?_,?_,?_,?_,?_,?_,?_,?_,?_,?_,?_,?_,?_,?_,?_,?_,?_,?_,?_,?_,?_,?_,?_,?_,?_,?_,?_,?_,?_,?_,?_,?_,?_,?_,?_,?_,?_,?_,?_,?_,?_,?_,?_,?_,?_,?_,?_,?_,?_,?_,?_,?_,?_,?_,?_,?_,?_,?_,?_,?_,?_,?_,?_,?_,?_,?_,?_,?_,?_,?_,?_,?_,?_,?_,?_,?_,?_,?_,?_,?_,?_,_,_,?_,?_,?_,?_,?_,?_,?_,?_,?_,?_,?_,?_,?_,?_,?_,?_,?_,?_,?_⟩:Internal.K.Txt _ _)
   all_goals first | k_is | exact PySem.W.mg_none_of KX G (by k_is) | exact Internal.K.mkD KX G (by k_is) (by k_is) (by k_is) (by k_is) (by intro _ _ _ _ _ _ us hl;first | (obtain⟨_,rfl⟩:=Internal.K.len1 hl;rfl) | (obtain⟨_,_,rfl⟩:=Internal.K.len2 hl;rfl) | (obtain⟨_,_,_,rfl⟩:=Internal.K.len3 hl;rfl) | (obtain⟨_,_,_,_,rfl⟩:=Internal.K.len4 hl;rfl) | (obtain⟨_,_,_,_,_,rfl⟩:=Internal.K.len5 hl;rfl) | (obtain⟨_,_,_,_,_,_,rfl⟩:=Internal.K.len6 hl;rfl)) | exact Internal.kit_self | exact Internal.kit_ne (by decide) (by k_is) (by k_is) (by k_is) | exact Internal.kit_V (by k_is) | exact Internal.exm_mk (by k_is) (by k_is) (by k_is) (by k_is) | exact Internal.errOk_mk (by k_exc) (by k_is) (by k_is) (by k_is) (by k_is) (by k_is) (by k_is) (by k_is) (by k_is) | exact Internal.K.mkK _ (by k_is) (by k_is) | exact Internal.K.mkM (by k_is) (by k_is) (by k_is) (by k_is) (by k_is) (by intro _ _ _ _ _ _ us hl;first | (obtain⟨_,rfl⟩:=Internal.K.len1 hl;rfl) | (obtain⟨_,_,rfl⟩:=Internal.K.len2 hl;rfl) | (obtain⟨_,_,_,rfl⟩:=Internal.K.len3 hl;rfl) | (obtain⟨_,_,_,_,rfl⟩:=Internal.K.len4 hl;rfl) | (obtain⟨_,_,_,_,_,rfl⟩:=Internal.K.len5 hl;rfl) | (obtain⟨_,_,_,_,_,_,rfl⟩:=Internal.K.len6 hl;rfl)) | exact⟨by k_is,by k_is,by k_is,by k_is⟩ | exact(show PySem.W.findIn _ (.ref _) _=some none by k_is) | exact Internal.K.mkQ_WORDS (by k_is) | exact Internal.K.mkI KX G (by k_is) | exact Internal.tab_mk (by k_is) (by k_is) rfl (by k_is) rfl | exact rfl | exact λs v=>.of_eq rfl | skip
