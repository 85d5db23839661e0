import PyProof.Rows.All
import KE.KTryMore
import KE.KSortTup
import KE.KLam
import KE.KFromBytes
import KE.KDictOf
import KE.KNestM
import OpenK.ZGo
import OpenK.KSplit
import OpenK.KApp
import Wide.FinOn
import PySem.Challenge.RW_quits_k78_needs_and_pledges
set_option compiler.extract_closed false
set_option bootstrap.genMatcherCode false
set_option Elab.async false
set_option linter.all false
set_option maxRecDepth 100000
noncomputable section
theorem PySem.W.Fast.tw10173433061542462383:True:=trivial
theorem PySem.W.Fast.tw10282334172726136792:True:=trivial
theorem PySem.W.Fast.tw10323034344068323538:True:=trivial
theorem PySem.W.Fast.tw10341200131628347025:True:=trivial
theorem PySem.W.Fast.tw10363591315626602850:True:=trivial
theorem PySem.W.Fast.tw10370703122727519029:True:=trivial
theorem PySem.W.Fast.tw10384342962185813795:True:=trivial
theorem PySem.W.Fast.tw10585699981842462817:True:=trivial
theorem PySem.W.Fast.tw10820891356006510330:True:=trivial
theorem PySem.W.Fast.tw10928888718353652007:True:=trivial
theorem PySem.W.Fast.tw10939137383240582394:True:=trivial
theorem PySem.W.Fast.tw11024962177773402348:True:=trivial
theorem PySem.W.Fast.tw11048459747190900317:True:=trivial
theorem PySem.W.Fast.tw11120719852706631377:True:=trivial
theorem PySem.W.Fast.tw11187843451448113502:True:=trivial
theorem PySem.W.Fast.tw11433283301002670856:True:=trivial
theorem PySem.W.Fast.tw11470440205265123599:True:=trivial
theorem PySem.W.Fast.tw11489046201866626460:True:=trivial
theorem PySem.W.Fast.tw11617674245834290458:True:=trivial
theorem PySem.W.Fast.tw11635260936633047857:True:=trivial
theorem PySem.W.Fast.tw1183255019393045486:True:=trivial
theorem PySem.W.Fast.tw11921639076129040273:True:=trivial
theorem PySem.W.Fast.tw11934064893983430104:True:=trivial
theorem PySem.W.Fast.tw12102401735285041855:True:=trivial
theorem PySem.W.Fast.tw12339713985047424614:True:=trivial
theorem PySem.W.Fast.tw12372123748791330340:True:=trivial
theorem PySem.W.Fast.tw12793302955098704863:True:=trivial
theorem PySem.W.Fast.tw1298575040168029539:True:=trivial
theorem PySem.W.Fast.tw12997535745390684269:True:=trivial
theorem PySem.W.Fast.tw13033013636703100164:True:=trivial
theorem PySem.W.Fast.tw13250438958496412336:True:=trivial
theorem PySem.W.Fast.tw13258386705307168156:True:=trivial
theorem PySem.W.Fast.tw13308601569554610823:True:=trivial
theorem PySem.W.Fast.tw13328386639986785246:True:=trivial
theorem PySem.W.Fast.tw13564227442481994104:True:=trivial
theorem PySem.W.Fast.tw13651888230164629464:True:=trivial
theorem PySem.W.Fast.tw13888661320407228227:True:=trivial
theorem PySem.W.Fast.tw13891936180246361632:True:=trivial
theorem PySem.W.Fast.tw13987051793447016981:True:=trivial
theorem PySem.W.Fast.tw14015255042874347113:True:=trivial
theorem PySem.W.Fast.tw14023327745925169830:True:=trivial
theorem PySem.W.Fast.tw14132153686788061451:True:=trivial
theorem PySem.W.Fast.tw14280626426989266824:True:=trivial
theorem PySem.W.Fast.tw14314216761631471179:True:=trivial
theorem PySem.W.Fast.tw14522764474353479984:True:=trivial
theorem PySem.W.Fast.tw14672051648036507714:True:=trivial
theorem PySem.W.Fast.tw14778656301996256565:True:=trivial
theorem PySem.W.Fast.tw14793821829875108276:True:=trivial
theorem PySem.W.Fast.tw14968436413421982919:True:=trivial
theorem PySem.W.Fast.tw15048893109711209694:True:=trivial
theorem PySem.W.Fast.tw15073758371158501203:True:=trivial
theorem PySem.W.Fast.tw15123844155744079633:True:=trivial
theorem PySem.W.Fast.tw15205270933232281062:True:=trivial
theorem PySem.W.Fast.tw15233613335420870247:True:=trivial
theorem PySem.W.Fast.tw15361738718141977303:True:=trivial
theorem PySem.W.Fast.tw15379948339651760426:True:=trivial
theorem PySem.W.Fast.tw15393455820219758057:True:=trivial
theorem PySem.W.Fast.tw15660326857461092197:True:=trivial
theorem PySem.W.Fast.tw15677918377246020791:True:=trivial
theorem PySem.W.Fast.tw15819316965109186573:True:=trivial
theorem PySem.W.Fast.tw15967959069656097120:True:=trivial
theorem PySem.W.Fast.tw16110257385710727972:True:=trivial
theorem PySem.W.Fast.tw16186143870892013994:True:=trivial
theorem PySem.W.Fast.tw16426854830745244700:True:=trivial
theorem PySem.W.Fast.tw1646469518971170761:True:=trivial
theorem PySem.W.Fast.tw16573474039614021755:True:=trivial
theorem PySem.W.Fast.tw16769220292513865549:True:=trivial
theorem PySem.W.Fast.tw16977294590966763363:True:=trivial
theorem PySem.W.Fast.tw17059659413695941751:True:=trivial
theorem PySem.W.Fast.tw170997002338172899:True:=trivial
theorem PySem.W.Fast.tw17134708102548130464:True:=trivial
theorem PySem.W.Fast.tw17328988027533612688:True:=trivial
theorem PySem.W.Fast.tw17479722255604758474:True:=trivial
theorem PySem.W.Fast.tw17534547850745440076:True:=trivial
theorem PySem.W.Fast.tw17590086433661965954:True:=trivial
theorem PySem.W.Fast.tw17627190160630279690:True:=trivial
theorem PySem.W.Fast.tw17750927256925420676:True:=trivial
theorem PySem.W.Fast.tw17775257098320399065:True:=trivial
theorem PySem.W.Fast.tw17826607590376131376:True:=trivial
theorem PySem.W.Fast.tw18124799324851314254:True:=trivial
theorem PySem.W.Fast.tw18373743801397723287:True:=trivial
theorem PySem.W.Fast.tw2074139951951321096:True:=trivial
theorem PySem.W.Fast.tw2491184950882783081:True:=trivial
theorem PySem.W.Fast.tw253029581961635583:True:=trivial
theorem PySem.W.Fast.tw2594546601158090638:True:=trivial
theorem PySem.W.Fast.tw262730707230289059:True:=trivial
theorem PySem.W.Fast.tw2659507987855057299:True:=trivial
theorem PySem.W.Fast.tw2962390026586306569:True:=trivial
theorem PySem.W.Fast.tw3118063973305469237:True:=trivial
theorem PySem.W.Fast.tw3267907690818353706:True:=trivial
theorem PySem.W.Fast.tw3497163103531381374:True:=trivial
theorem PySem.W.Fast.tw3660425020306558999:True:=trivial
theorem PySem.W.Fast.tw3956036175732750953:True:=trivial
theorem PySem.W.Fast.tw3979087701611237167:True:=trivial
theorem PySem.W.Fast.tw4023553152953264428:True:=trivial
theorem PySem.W.Fast.tw4180869185772565756:True:=trivial
theorem PySem.W.Fast.tw4290936969316299344:True:=trivial
theorem PySem.W.Fast.tw4323125085122940831:True:=trivial
theorem PySem.W.Fast.tw4524269509609931734:True:=trivial
theorem PySem.W.Fast.tw4652637786821284164:True:=trivial
theorem PySem.W.Fast.tw465702673823020411:True:=trivial
theorem PySem.W.Fast.tw4691231137554358478:True:=trivial
theorem PySem.W.Fast.tw4915601400313632839:True:=trivial
theorem PySem.W.Fast.tw5041374068347130719:True:=trivial
theorem PySem.W.Fast.tw5086709755684934753:True:=trivial
theorem PySem.W.Fast.tw5273147086593535252:True:=trivial
theorem PySem.W.Fast.tw5530227052539615235:True:=trivial
theorem PySem.W.Fast.tw580328652030867039:True:=trivial
theorem PySem.W.Fast.tw5817178154268422464:True:=trivial
theorem PySem.W.Fast.tw5860574259462710681:True:=trivial
theorem PySem.W.Fast.tw6015303852634423085:True:=trivial
theorem PySem.W.Fast.tw616093735677949755:True:=trivial
theorem PySem.W.Fast.tw6635398241135405431:True:=trivial
theorem PySem.W.Fast.tw6796247449114019072:True:=trivial
theorem PySem.W.Fast.tw7043319727568378479:True:=trivial
theorem PySem.W.Fast.tw7072634828529556970:True:=trivial
theorem PySem.W.Fast.tw7158830652817699014:True:=trivial
theorem PySem.W.Fast.tw7198999723289126857:True:=trivial
theorem PySem.W.Fast.tw7230705076122221807:True:=trivial
theorem PySem.W.Fast.tw7384698191373806310:True:=trivial
theorem PySem.W.Fast.tw7442279036310004645:True:=trivial
theorem PySem.W.Fast.tw7458065550233291845:True:=trivial
theorem PySem.W.Fast.tw7497103478097795278:True:=trivial
theorem PySem.W.Fast.tw7505750272237563789:True:=trivial
theorem PySem.W.Fast.tw7535049350227573551:True:=trivial
theorem PySem.W.Fast.tw7578075452054667228:True:=trivial
theorem PySem.W.Fast.tw7661783270849947414:True:=trivial
theorem PySem.W.Fast.tw775803069826697807:True:=trivial
theorem PySem.W.Fast.tw7884432973953724034:True:=trivial
theorem PySem.W.Fast.tw7897393803327414206:True:=trivial
theorem PySem.W.Fast.tw8031165807286734574:True:=trivial
theorem PySem.W.Fast.tw8068367094438889040:True:=trivial
theorem PySem.W.Fast.tw8374011272164226959:True:=trivial
theorem PySem.W.Fast.tw847384209236650251:True:=trivial
theorem PySem.W.Fast.tw8483461793817119470:True:=trivial
theorem PySem.W.Fast.tw8593367291577758019:True:=trivial
theorem PySem.W.Fast.tw8619459022412295453:True:=trivial
theorem PySem.W.Fast.tw8629272526601061338:True:=trivial
theorem PySem.W.Fast.tw8797929271408489331:True:=trivial
theorem PySem.W.Fast.tw8901048311331180954:True:=trivial
theorem PySem.W.Fast.tw894142191404617791:True:=trivial
theorem PySem.W.Fast.tw914944211712028978:True:=trivial
theorem PySem.W.Fast.tw9239809511510025658:True:=trivial
theorem PySem.W.Fast.tw929952826888861020:True:=trivial
theorem PySem.W.Fast.tw9313612294885097173:True:=trivial
theorem PySem.W.Fast.tw9401173466539785455:True:=trivial
theorem PySem.W.Fast.tw940586378218465786:True:=trivial
theorem PySem.W.Fast.tw9416925400477970195:True:=trivial
theorem PySem.W.Fast.tw9552448029443397733:True:=trivial
theorem PySem.W.Fast.tw9570966221133538510:True:=trivial
theorem PySem.W.Fast.tw9610488561474225783:True:=trivial
theorem PySem.W.Fast.tw9848909319960231652:True:=trivial
theorem PySem.W.Fast.tw10225263888746403216:True:=trivial
theorem PySem.W.Fast.tw1030645521861310242:True:=trivial
theorem PySem.W.Fast.tw10327132193543972841:True:=trivial
theorem PySem.W.Fast.tw10416936895776260062:True:=trivial
theorem PySem.W.Fast.tw1044480081283756090:True:=trivial
theorem PySem.W.Fast.tw10841791538346894879:True:=trivial
theorem PySem.W.Fast.tw108696506937134376:True:=trivial
theorem PySem.W.Fast.tw10873341191213704488:True:=trivial
theorem PySem.W.Fast.tw10900696755174861349:True:=trivial
theorem PySem.W.Fast.tw10982240238819972041:True:=trivial
theorem PySem.W.Fast.tw11061578002312537003:True:=trivial
theorem PySem.W.Fast.tw11135901010111970496:True:=trivial
theorem PySem.W.Fast.tw11357464411487741607:True:=trivial
theorem PySem.W.Fast.tw11379538913811877571:True:=trivial
theorem PySem.W.Fast.tw11557914037125894209:True:=trivial
theorem PySem.W.Fast.tw11643629463788332391:True:=trivial
theorem PySem.W.Fast.tw11968882997152892117:True:=trivial
theorem PySem.W.Fast.tw12052914863595415111:True:=trivial
theorem PySem.W.Fast.tw12078983364574276484:True:=trivial
theorem PySem.W.Fast.tw12326251817606489373:True:=trivial
theorem PySem.W.Fast.tw12333704983648581966:True:=trivial
theorem PySem.W.Fast.tw12383888022417699065:True:=trivial
theorem PySem.W.Fast.tw12447170687651786778:True:=trivial
theorem PySem.W.Fast.tw12449878041891990640:True:=trivial
theorem PySem.W.Fast.tw12736803863110515761:True:=trivial
theorem PySem.W.Fast.tw13041076164400898365:True:=trivial
theorem PySem.W.Fast.tw13045375810281422034:True:=trivial
theorem PySem.W.Fast.tw13050379318441805307:True:=trivial
theorem PySem.W.Fast.tw13172881419190750370:True:=trivial
theorem PySem.W.Fast.tw13215781718669927604:True:=trivial
theorem PySem.W.Fast.tw1335866499855350960:True:=trivial
theorem PySem.W.Fast.tw13463388480058046506:True:=trivial
theorem PySem.W.Fast.tw13521506172197526376:True:=trivial
theorem PySem.W.Fast.tw13550269665827175949:True:=trivial
theorem PySem.W.Fast.tw13629799922351228651:True:=trivial
theorem PySem.W.Fast.tw13807147291414929172:True:=trivial
theorem PySem.W.Fast.tw13810400111115908404:True:=trivial
theorem PySem.W.Fast.tw14146273409605377246:True:=trivial
theorem PySem.W.Fast.tw14299231325844987215:True:=trivial
theorem PySem.W.Fast.tw14322517766169360491:True:=trivial
theorem PySem.W.Fast.tw14581732869513819609:True:=trivial
theorem PySem.W.Fast.tw1463819630160991954:True:=trivial
theorem PySem.W.Fast.tw1466665450971221085:True:=trivial
theorem PySem.W.Fast.tw1483245266315977881:True:=trivial
theorem PySem.W.Fast.tw1485880078211217462:True:=trivial
theorem PySem.W.Fast.tw14919463926490895749:True:=trivial
theorem PySem.W.Fast.tw14934966186128104684:True:=trivial
theorem PySem.W.Fast.tw15097526911655119892:True:=trivial
theorem PySem.W.Fast.tw15406859409396223862:True:=trivial
theorem PySem.W.Fast.tw15546424499483774721:True:=trivial
theorem PySem.W.Fast.tw15595578810078082759:True:=trivial
theorem PySem.W.Fast.tw15778633460104015546:True:=trivial
theorem PySem.W.Fast.tw1578679925826145733:True:=trivial
theorem PySem.W.Fast.tw15949378567158013792:True:=trivial
theorem PySem.W.Fast.tw15965693499365359023:True:=trivial
theorem PySem.W.Fast.tw15990459429192318453:True:=trivial
theorem PySem.W.Fast.tw16047585101098861996:True:=trivial
theorem PySem.W.Fast.tw16074299042731365168:True:=trivial
theorem PySem.W.Fast.tw16120104720788127563:True:=trivial
theorem PySem.W.Fast.tw16148204329044038772:True:=trivial
theorem PySem.W.Fast.tw1617082796038910506:True:=trivial
theorem PySem.W.Fast.tw16705254388122937250:True:=trivial
theorem PySem.W.Fast.tw16851787470929976085:True:=trivial
theorem PySem.W.Fast.tw16988911848189425893:True:=trivial
theorem PySem.W.Fast.tw17023901418019830124:True:=trivial
theorem PySem.W.Fast.tw17089936180874464135:True:=trivial
theorem PySem.W.Fast.tw17349340482633946109:True:=trivial
theorem PySem.W.Fast.tw17363105363653116398:True:=trivial
theorem PySem.W.Fast.tw17370009196713103832:True:=trivial
theorem PySem.W.Fast.tw17382546482681432859:True:=trivial
theorem PySem.W.Fast.tw17519597774653922057:True:=trivial
theorem PySem.W.Fast.tw17531521049167335732:True:=trivial
theorem PySem.W.Fast.tw17647753774339975487:True:=trivial
theorem PySem.W.Fast.tw17692817978301938871:True:=trivial
theorem PySem.W.Fast.tw17741860487293450609:True:=trivial
theorem PySem.W.Fast.tw17905745446704872064:True:=trivial
theorem PySem.W.Fast.tw18222869524597991537:True:=trivial
theorem PySem.W.Fast.tw2072238339630086334:True:=trivial
theorem PySem.W.Fast.tw2127177967495344042:True:=trivial
theorem PySem.W.Fast.tw2142221664721379683:True:=trivial
theorem PySem.W.Fast.tw2232127796187337133:True:=trivial
theorem PySem.W.Fast.tw2351801722237986953:True:=trivial
theorem PySem.W.Fast.tw2443272047338794532:True:=trivial
theorem PySem.W.Fast.tw2508840483436800928:True:=trivial
theorem PySem.W.Fast.tw2551260069900597187:True:=trivial
theorem PySem.W.Fast.tw2618102079619409446:True:=trivial
theorem PySem.W.Fast.tw2668672220630757981:True:=trivial
theorem PySem.W.Fast.tw2756137090598089734:True:=trivial
theorem PySem.W.Fast.tw2771082280535255409:True:=trivial
theorem PySem.W.Fast.tw2829531771080502924:True:=trivial
theorem PySem.W.Fast.tw2933472766745857828:True:=trivial
theorem PySem.W.Fast.tw3089221290175226570:True:=trivial
theorem PySem.W.Fast.tw3179192992334995267:True:=trivial
theorem PySem.W.Fast.tw3241933735711509668:True:=trivial
theorem PySem.W.Fast.tw3462535808147696037:True:=trivial
theorem PySem.W.Fast.tw3536854640095229948:True:=trivial
theorem PySem.W.Fast.tw3766856588056875925:True:=trivial
theorem PySem.W.Fast.tw3952648679864886211:True:=trivial
theorem PySem.W.Fast.tw4250728340213938888:True:=trivial
theorem PySem.W.Fast.tw4310829511806958165:True:=trivial
theorem PySem.W.Fast.tw4427447686339609887:True:=trivial
theorem PySem.W.Fast.tw4538130766018238443:True:=trivial
theorem PySem.W.Fast.tw4624938368939634134:True:=trivial
theorem PySem.W.Fast.tw4804032438374535763:True:=trivial
theorem PySem.W.Fast.tw4897316603939259977:True:=trivial
theorem PySem.W.Fast.tw4948865309722404541:True:=trivial
theorem PySem.W.Fast.tw4953372225481042245:True:=trivial
theorem PySem.W.Fast.tw4994103938027955679:True:=trivial
theorem PySem.W.Fast.tw5121691808209706762:True:=trivial
theorem PySem.W.Fast.tw5204612808467039543:True:=trivial
theorem PySem.W.Fast.tw524799078401163125:True:=trivial
theorem PySem.W.Fast.tw5267825594716710237:True:=trivial
theorem PySem.W.Fast.tw588851624315972198:True:=trivial
theorem PySem.W.Fast.tw5946489803316852064:True:=trivial
theorem PySem.W.Fast.tw6005027359099210899:True:=trivial
theorem PySem.W.Fast.tw604279020893212228:True:=trivial
theorem PySem.W.Fast.tw6175981137926832975:True:=trivial
theorem PySem.W.Fast.tw6386471979805794701:True:=trivial
theorem PySem.W.Fast.tw6548905622596637744:True:=trivial
theorem PySem.W.Fast.tw672496066014089753:True:=trivial
theorem PySem.W.Fast.tw6725689436901187703:True:=trivial
theorem PySem.W.Fast.tw6801609790180192506:True:=trivial
theorem PySem.W.Fast.tw6906157380557293109:True:=trivial
theorem PySem.W.Fast.tw7032033263124664613:True:=trivial
theorem PySem.W.Fast.tw7068792294974414804:True:=trivial
theorem PySem.W.Fast.tw7160488316480792884:True:=trivial
theorem PySem.W.Fast.tw728805925459723119:True:=trivial
theorem PySem.W.Fast.tw7368391439812548685:True:=trivial
theorem PySem.W.Fast.tw7704017047482529616:True:=trivial
theorem PySem.W.Fast.tw7729202726613007958:True:=trivial
theorem PySem.W.Fast.tw7843616090698403329:True:=trivial
theorem PySem.W.Fast.tw7909429259960108156:True:=trivial
theorem PySem.W.Fast.tw8011910943959157534:True:=trivial
theorem PySem.W.Fast.tw8086268845298692874:True:=trivial
theorem PySem.W.Fast.tw8249460627897286252:True:=trivial
theorem PySem.W.Fast.tw8305545352542334710:True:=trivial
theorem PySem.W.Fast.tw8522941052528436921:True:=trivial
theorem PySem.W.Fast.tw8616917791905566418:True:=trivial
theorem PySem.W.Fast.tw8651956848222095183:True:=trivial
theorem PySem.W.Fast.tw8777506132136780890:True:=trivial
theorem PySem.W.Fast.tw9112588157877924387:True:=trivial
theorem PySem.W.Fast.tw914467828230485481:True:=trivial
theorem PySem.W.Fast.tw961551448584824405:True:=trivial
theorem PySem.W.Fast.tw9664162210192112248:True:=trivial
theorem PySem.W.Fast.tw10197124460219443473:True:=trivial
theorem PySem.W.Fast.tw10328330511846505332:True:=trivial
theorem PySem.W.Fast.tw10373874303227236571:True:=trivial
theorem PySem.W.Fast.tw10474732603856610820:True:=trivial
theorem PySem.W.Fast.tw10756778588640242599:True:=trivial
theorem PySem.W.Fast.tw11513295136465162011:True:=trivial
theorem PySem.W.Fast.tw1156540450154814624:True:=trivial
theorem PySem.W.Fast.tw11609803782090766213:True:=trivial
theorem PySem.W.Fast.tw11687825305871831957:True:=trivial
theorem PySem.W.Fast.tw11818585757997785240:True:=trivial
theorem PySem.W.Fast.tw11857686771708894810:True:=trivial
theorem PySem.W.Fast.tw12352453725331223994:True:=trivial
theorem PySem.W.Fast.tw1257078144079163720:True:=trivial
theorem PySem.W.Fast.tw12698831699883053280:True:=trivial
theorem PySem.W.Fast.tw13246037913447587206:True:=trivial
theorem PySem.W.Fast.tw1367378232044783462:True:=trivial
theorem PySem.W.Fast.tw13861581273958887862:True:=trivial
theorem PySem.W.Fast.tw14052743264482247258:True:=trivial
theorem PySem.W.Fast.tw146076485685544663:True:=trivial
theorem PySem.W.Fast.tw14621482227368186587:True:=trivial
theorem PySem.W.Fast.tw14765296100342787210:True:=trivial
theorem PySem.W.Fast.tw15484678538201589298:True:=trivial
theorem PySem.W.Fast.tw15552648650638267484:True:=trivial
theorem PySem.W.Fast.tw15678011079313903915:True:=trivial
theorem PySem.W.Fast.tw1582669696462148425:True:=trivial
theorem PySem.W.Fast.tw15924088494961765047:True:=trivial
theorem PySem.W.Fast.tw16017063774237557902:True:=trivial
theorem PySem.W.Fast.tw16284851747489671523:True:=trivial
theorem PySem.W.Fast.tw16305833185619958057:True:=trivial
theorem PySem.W.Fast.tw16560453085277780946:True:=trivial
theorem PySem.W.Fast.tw17268734300086333825:True:=trivial
theorem PySem.W.Fast.tw18004354635796166164:True:=trivial
theorem PySem.W.Fast.tw18247435280776752642:True:=trivial
theorem PySem.W.Fast.tw1940725745612044798:True:=trivial
theorem PySem.W.Fast.tw1977740534653317252:True:=trivial
theorem PySem.W.Fast.tw214379616090577659:True:=trivial
theorem PySem.W.Fast.tw2186542937030131776:True:=trivial
theorem PySem.W.Fast.tw2245644028792731501:True:=trivial
theorem PySem.W.Fast.tw2308374257761676998:True:=trivial
theorem PySem.W.Fast.tw2314859392528703977:True:=trivial
theorem PySem.W.Fast.tw2392772110088769402:True:=trivial
theorem PySem.W.Fast.tw2726398546243491444:True:=trivial
theorem PySem.W.Fast.tw2817968878597372277:True:=trivial
theorem PySem.W.Fast.tw2899328683493860680:True:=trivial
theorem PySem.W.Fast.tw3084503471723188244:True:=trivial
theorem PySem.W.Fast.tw3246753546245537924:True:=trivial
theorem PySem.W.Fast.tw3488652388597819830:True:=trivial
theorem PySem.W.Fast.tw3847455202579661002:True:=trivial
theorem PySem.W.Fast.tw3880532561923674208:True:=trivial
theorem PySem.W.Fast.tw3957723953892674015:True:=trivial
theorem PySem.W.Fast.tw4135324076918639944:True:=trivial
theorem PySem.W.Fast.tw4340575238866080379:True:=trivial
theorem PySem.W.Fast.tw437206586534365091:True:=trivial
theorem PySem.W.Fast.tw4374327003617080198:True:=trivial
theorem PySem.W.Fast.tw44551929199849032:True:=trivial
theorem PySem.W.Fast.tw4508061304199760114:True:=trivial
theorem PySem.W.Fast.tw5067932486851746922:True:=trivial
theorem PySem.W.Fast.tw5440290989658591507:True:=trivial
theorem PySem.W.Fast.tw5626980959840078741:True:=trivial
theorem PySem.W.Fast.tw5659979297893034102:True:=trivial
theorem PySem.W.Fast.tw5936340640376262486:True:=trivial
theorem PySem.W.Fast.tw6068304984928176719:True:=trivial
theorem PySem.W.Fast.tw6106935343230060561:True:=trivial
theorem PySem.W.Fast.tw6115111620402816280:True:=trivial
theorem PySem.W.Fast.tw7086347641725695433:True:=trivial
theorem PySem.W.Fast.tw7551694209920410908:True:=trivial
theorem PySem.W.Fast.tw7800689808132159353:True:=trivial
theorem PySem.W.Fast.tw7806245121161375947:True:=trivial
theorem PySem.W.Fast.tw7889123256572640243:True:=trivial
theorem PySem.W.Fast.tw7898606579590969726:True:=trivial
theorem PySem.W.Fast.tw7920527377859073481:True:=trivial
theorem PySem.W.Fast.tw813126647477097886:True:=trivial
theorem PySem.W.Fast.tw8586578728579559857:True:=trivial
theorem PySem.W.Fast.tw8644986483022808280:True:=trivial
theorem PySem.W.Fast.tw8836843642917830599:True:=trivial
theorem PySem.W.Fast.tw8974514689612211942:True:=trivial
theorem PySem.W.Fast.tw9042534707577420601:True:=trivial
theorem PySem.W.Fast.tw9072594836522844287:True:=trivial
theorem PySem.W.Fast.tw9146956898611112743:True:=trivial
theorem PySem.W.Fast.tw9153826949023377894:True:=trivial
theorem PySem.W.Fast.tw9742329757561050413:True:=trivial
theorem PySem.W.Fast.tw9821405296812855840:True:=trivial
theorem PySem.W.Fast.tw9968664657258487603:True:=trivial
open PySem PySem.W PyProof.Rows in
set_option maxHeartbeats 0 in
open_top pre0 for PySem.Challenge.rw_quits_k78_needs_and_pledges
abbrev Fg:=PySem.W.Frag
abbrev ya:=@List.length_map
abbrev yb:=@Nat.le_trans
abbrev yc:=@Nat.succ_le_succ
abbrev ye:=@List.mem_cons
abbrev yf:=@Nat.le_refl
abbrev yg:=@List.getElem?_map
abbrev yh:=@List.getD_eq_getElem?_getD
abbrev yi:=@List.size_toArray
abbrev yj:=@Bool.false_ne_true
abbrev yk:=@List.length_append
abbrev yl:=@List.getElem?_eq_some_iff
abbrev ym:=@Nat.ne_of_lt
abbrev yn:=@Option.some.inj
abbrev yo:=@Nat.lt_of_lt_of_le
abbrev yp:=@List.mem_of_getElem?
abbrev yq:=@List.getElem?_eq_getElem
abbrev yr:=@List.lookup_cons
abbrev yt:=@List.mem_singleton
abbrev yu:=@List.mem_append
abbrev yv:=@List.mem_append_right
abbrev yw:=@List.map_append
abbrev yx:=@Int.toNat_natCast
abbrev yy:=@List.not_mem_nil
abbrev yz:=@Bool.and_eq_true
abbrev yA:=@PySem.W.mg_none_of
abbrev yB:=@PySem.F.plainAttrs_list
abbrev yC:=@Nat.lt_of_le_of_lt
abbrev yD:=@List.mem_cons_of_mem
abbrev yE:=@PySem.F.slot_list_append
abbrev yF:=@PySem.F.type_list_append
abbrev yG:=@PySem.W.mg_of
abbrev yH:=@List.map_cons
abbrev yI:=@PySem.W.kia_one
abbrev yJ:=@List.nodup_cons
abbrev yK:=@Int.mul_le_mul_of_nonneg_right
abbrev yL:=@Int.emod_lt_of_pos
abbrev yM:=@List.length_cons
abbrev yN:=@Nat.lt_irrefl
abbrev yO:=@List.mem_append_left
abbrev yP:=@List.nodup_nil
abbrev yQ:=@List.append_nil
abbrev yR:=@Int.emod_nonneg
abbrev yS:=@List.replicate_succ
abbrev yT:=@Nat.zero_le
abbrev yU:=@List.length_take
abbrev yV:=@List.mem_cons_self
abbrev yW:=@Int.le_refl
abbrev yX:=@PySem.SeqAt.eqv_refl
abbrev yY:=@List.nodup_append
abbrev yZ:=@List.getElem_of_mem
abbrev y3:=@Nat.lt_succ_self
abbrev y4:=@PyProof.Rows.callWith_type1
abbrev y6:=@List.length_range
abbrev y8:=@List.mem_range
abbrev y9:=@Nat.le_of_lt
abbrev yaa:=@Array.length_toList
abbrev yab:=@PySem.mem_of_lookup
abbrev yac:=@PyProof.Rows.slot_tuple_getitem
abbrev yad:=@List.getElem?_replicate
abbrev yae:=@PySem.W.callWith_K
abbrev yaf:=@List.getElem?_set_self
abbrev yag:=@List.flatten_cons
abbrev yah:=@Rat.divInt_eq_div
abbrev yai:=@Classical.not_not
abbrev yaj:=@Ne.symm
abbrev yak:=@Int.le_of_lt
abbrev yal:=@Int.mul_ediv_add_emod
abbrev yam:=@Array.getD_eq_getD_getElem?
abbrev yan:=@List.getElem?_set_ne
abbrev yao:=@List.getElem?_append
abbrev yap:=@List.length_set
abbrev yaq:=@List.getElem?_eq_none_iff
abbrev yar:=@Bool.false_eq_true
abbrev yas:=@List.mem_map
abbrev yat:=@Rat.div_mul_cancel
abbrev yau:=@PySem.W.cellsFrom_some
abbrev yav:=@List.all_cons
abbrev yaw:=@List.take_length
abbrev yax:=@List.length_singleton
abbrev yay:=@Bool.eq_iff_iff
abbrev yaz:=@PySem.W.looks_findIn
abbrev yaA:=@List.of_mem_zip
abbrev yaB:=@List.foldl_cons
abbrev yaC:=@Nat.not_lt
abbrev yaD:=@Nat.lt_trans
abbrev yaE:=@Rat.mul_le_mul_of_nonneg_right
abbrev yaF:=@Int.mul_le_mul_of_nonneg_left
abbrev yaG:=@List.filterMap_cons
abbrev yaH:=@PySem.W.plainGet_of
abbrev yaI:=@List.mem_filterMap
abbrev yaJ:=@Rat.mul_lt_mul_of_pos_right
abbrev yaK:=@List.append_assoc
abbrev yaL:=@Nat.le_of_succ_le
abbrev yaM:=@Nat.lt_succ_of_lt
abbrev yaN:=@List.ext_getElem?
abbrev yaO:=@Int.not_lt
abbrev yaP:=@Nat.le_of_eq
abbrev yaQ:=@List.all_eq_true
abbrev yaR:=@List.forIn_cons
namespace Internal
theorem aut0(h:True:=by first | exact .inl rfl | exact .inr rfl | assumption):True:=h
theorem aut1(h:True:=by decide):True:=h
theorem aut2(h:True:=by rfl):True:=h
theorem aut3(h:True:=by intro _;rfl):True:=h
theorem aut4(h:True:=by intros;rfl):True:=h
theorem aut5(h:True:=by exact fun _ _ _ _ _=>rfl):True:=h
open PySem PySem.Spec PyProof.Rows
abbrev Key:=Sum Int Str
noncomputable def zk3:Key->Value->Bool
 | .inl k,v=>Value.isInt k v
 | .inr x,v=>Value.isStrOf x v
noncomputable def zog (w:World):Key->Int
 | .inl k=>hashInt k
 | .inr x=>hashStr w x
theorem zax:∀{k:Key} {v:Value},zk3 k v=true->(∃i t,k=Sum.inl i/\v=Value.int i t)\/(∃x t,k=Sum.inr x/\v=Value.str x t)
 | .inl i,v,h=>by
  obtain⟨t,e⟩:=Value.isInt_shape (k:=i) (v:=v) h
  exact .inl ⟨i,t,rfl,e⟩
 | .inr x,v,h=>by
  obtain⟨t,e⟩:=Value.isStrOf_shape (x:=x) (v:=v) h
  exact .inr ⟨x,t,rfl,e⟩
theorem znl(a b:Int):decide ((Sum.inl a:Key)=Sum.inl b)=(a == b):=by
 by_cases e:a=b
 ·subst e;simp
 ·have h:¬(Sum.inl a:Key)=Sum.inl b:=fun q=>e (Sum.inl.inj q)
  rw[decide_eq_false h]
  exact(beq_eq_false_iff_ne.mpr e).symm
theorem zmp(a b:Str):decide ((Sum.inr a:Key)=Sum.inr b)=decide (a=b):=by
 by_cases e:a=b
 ·subst e;simp
 ·have h:¬(Sum.inr a:Key)=Sum.inr b:=fun q=>e (Sum.inr.inj q)
  rw[decide_eq_false h,decide_eq_false e]
theorem zng(a:Int)(b:Str):decide ((Sum.inl a:Key)=Sum.inr b)=false:=decide_eq_false (fun q=>nomatch q)
theorem zmT(a:Str)(b:Int):decide ((Sum.inr a:Key)=Sum.inl b)=false:=decide_eq_false (fun q=>nomatch q)
noncomputable def ze2 (prog:Program) (w:World):PySem.KeyKind prog w Key where
 is:=zk3
 hash:=zog w
 inj:=fun v a b ha hb=>by
  rcases zax ha with⟨i,t,rfl,rfl⟩ | ⟨x,t,rfl,rfl⟩
  ·rcases zax hb with⟨j,u,rfl,e⟩ | ⟨y,u,rfl,e⟩
   ·injection e with e1 _;rw[e1]
   ·exact nomatch e
  ·rcases zax hb with⟨j,u,rfl,e⟩ | ⟨y,u,rfl,e⟩
   ·exact nomatch e
   ·injection e with e1 _;rw[e1]
 byValue:=fun k v h=>by
  rcases zax h with⟨i,t,rfl,rfl⟩ | ⟨x,t,rfl,rfl⟩<;>rfl
 pyHash:=fun hv h=>by
  rcases zax hv with⟨i,t,rfl,rfl⟩ | ⟨x,t,rfl,rfl⟩
  ·exact wpAny_pyHash_int h
  ·exact wpAny_pyHash_str h
 eqBool:=fun hu hv h=>by
  rcases zax hu with⟨i,t,rfl,rfl⟩ | ⟨x,t,rfl,rfl⟩
  ·rcases zax hv with⟨j,u,rfl,rfl⟩ | ⟨y,u,rfl,rfl⟩
   ·rw[znl]at h;exact wpAny_eqBool_int h
   ·rw[zng]at h;exact SeqAt.EqAt.int_str i t y u _ _ _ _ h
  ·rcases zax hv with⟨j,u,rfl,rfl⟩ | ⟨y,u,rfl,rfl⟩
   ·rw[zmT]at h;exact SeqAt.EqAt.str_int x t j u _ _ _ _ h
   ·rw[zmp]at h;exact wpAny_eqBool_str h
 «strs»:=fun k x t v h=>by
  rcases zax h with⟨i,u,rfl,e⟩ | ⟨y,u,rfl,e⟩
  ·exact nomatch e
  ·injection e with e1 _
   subst e1
   cases v<;>rfl
inductive V where
 | non | bl (b:Bool) | int (i:Int) | str (x:Str) | byt (b:Array UInt8) | flt (b:UInt64) | ref (a:Addr) | ty (n:String)
 deriving DecidableEq
noncomputable def RelV:V->Value->Prop
 | .non,u=>u=Value.none
 | .bl b,u=>u=Value.bool b
 | .int i,u=>∃t,u=Value.int i t
 | .str x,u=>∃t,u=Value.str x t
 | .byt b,u=>∃t,u=Value.bytes b t
 | .flt b,u=>∃t,u=Value.float b t
 | .ref a,u=>u=Value.ref a
 | .ty n,u=>u=Value.type n
abbrev Vals:List V->List Value->Prop:=Paired RelV
theorem Vals.length{xs:List V}{us:List Value}(r:Vals xs us):xs.length=us.length:=Paired.length r
theorem Vals.get:∀{xs:List V} {us:List Value} {i:Nat} {x:V},Vals xs us->xs[i]?=some x->∃u,us[i]?=some u/\RelV x u
 | _,_,_,_,.nil,e=>by simp at e
 | _,_,0,_,.cons r _,e=>by simp at e;subst e;exact⟨_,rfl,r⟩
 | _,_,i+1,x,.cons _ t,e=>by
  obtain⟨u,h1,h2⟩:=Vals.get (i:=i) (x:=x) t (by simpa using e)
  exact⟨u,by simpa using h1,h2⟩
theorem Vals.set{x:V}{u:Value}(r:RelV x u):∀{xs:List V} {us:List Value} (i:Nat),Vals xs us->Vals (xs.set i x) (us.set i u)
 | _,_,_,.nil=>.nil
 | _,_,0,.cons _ t=>.cons r t
 | _,_,i+1,.cons q t=>.cons q (Vals.set r i t)
theorem Vals.append:∀{xs ys:List V} {us ws:List Value},Vals xs us->Vals ys ws->Vals (xs++ys) (us++ws)
 | _,_,_,_,.nil,s=>s
 | _,_,_,_,.cons r t,s=>.cons r (Vals.append t s)
theorem Vals.take:∀{xs:List V} {us:List Value} (n:Nat),Vals xs us->Vals (xs.take n) (us.take n)
 | _,_,0,_=>.nil
 | _,_,_+1,.nil=>.nil
 | _,_,n+1,.cons r t=>.cons r (Vals.take n t)
theorem Vals.drop:∀{xs:List V} {us:List Value} (n:Nat),Vals xs us->Vals (xs.drop n) (us.drop n)
 | _,_,0,r=>r
 | _,_,_+1,.nil=>.nil
 | _,_,n+1,.cons _ t=>Vals.drop n t
noncomputable def RelO:Option V->Option Value->Prop
 | some v,some u=>RelV v u
 | none,none=>True
 | _,_=>False
noncomputable def KV {κ:Type}:List (κ × V)->List (κ × Value)->Prop:=Paired fun(p:κ × V) (q:κ × Value)=>p.1=q.1/\RelV p.2 q.2
noncomputable def kV:Key->V
 | .inl i=>.int i
 | .inr x=>.str x
inductive HO where
 /-- a list -/
 | lst (xs:List V)
 /-- a tuple (never changes) -/
 | tup (xs:List V)
 /-- a dict whose keys are ints and texts;one whose keys are tuples of ints and texts (the empty one is both) -/
 | dK (kvs:List (Key × V)) | dT (kvs:List (List Key × V))
 /-- a set of ints: its members,its size -/
 | set (S:Int->Bool) (n:Nat)
 /-- an instance of the class at C,its dict at dx,its attributes -/
 | ins (C dx:Addr) (fs:List (Str × V))
 /-- the dict of the instance at x -/
 | own (x:Addr)
 /-- the dict of an exception -/
 | xd (fs:List (Str × V))
 /-- a bound method,f of x -/
 | met (f x:Addr)
 /-- a range object lo,lo+1,.. below hi -/
 | rng (lo hi:Int)
 /-- a thing that is known to the object (the script;a dict while a loop walks it): read,never written while it is so -/
 | frz (o:Obj) (u:HO)
 /-- a code object's table -/
 | tbl (ps:Array Value)
 /-- any other thing,by what is true of its one object (a def of one's own: SetO a S n:=HO.ext fun h=>..) -/
 | ext (φ:Heap->Prop)
abbrev Hp:=Addr->Option HO
noncomputable def upd (H:Hp) (a:Addr) (o:HO):Hp:=fun b=>if b=a then some o else H b
theorem zH{H:Hp}{a:Addr}{o:HO}:upd H a o a=some o:=by unfold upd;rw[if_pos rfl]
theorem zG{H:Hp}{a b:Addr}{o:HO}(h:b≠a):upd H a o b=H b:=by unfold upd;rw[if_neg h]
theorem zaF{H:Hp}{a b:Addr}{o u:HO}(h:H a=some o)(h':H b=some u)(d:o≠u):a≠b:=by
 intro e;subst e;rw[h]at h';exact d (yn h')
theorem zC{H:Hp}{a b:Addr}{o:HO}(h:H a=some o)(h':H b=none):a≠b:=by
 intro e;subst e;rw[h]at h';cases h'
section
variable (P:Program)(w:World)
noncomputable def ObjOk (H:Hp) (h:Heap) (a:Addr):HO->Prop
 | .lst xs=>xs.length<=sizeLine/\∃(its:List Value) (n:Nat),Vals xs its/\h.get? a=some { cls:=.type "list",data:=.seq its.toArray n }
 | .tup xs=>xs.length<=sizeLine/\∃its:List Value,Vals xs its/\IsTup h a its.toArray
 | .dK kvs=>kvs.length<=sizeLine/\(a == sysModules)=false/\∃vs,KV kvs vs/\h.DictOf (ze2 P w) a vs
 | .dT kvs=>kvs.length<=sizeLine/\(a == sysModules)=false/\∃xs:List (List Key × Addr × Value),
   Paired (fun(p:List Key × V) (q:List Key × Addr × Value)=>p.1=q.1/\H q.2.1=some (.tup (p.1.map kV))/\RelV p.2 q.2.2) kvs xs /\
   ∃o es ep,h.get? a=some o/\o.ExactDict/\o.data=.dict es ep/\es.toList=xs.map (entryOfKey (tupleKind (ze2 P w)))/\(xs.map (·.1)).Nodup
 | .set S n=>h.SetOf (intKind P w) a S n
 | .ins C dx fs=>H dx=some (.own a)/\fs.length<=1000/\dx≠a/\h.get? a=some (PySem.W.instObj C dx) /\
   ∃mA,h.Ns1 dx mA/\(∀f,RelO (fs.lookup f) (mA f))/\PySem.Within mA (fs.map (·.1))
 | .own _=>∃o,h.get? a=some o
 | .xd fs=>∃mA,h.Ns1 a mA/\∀f,RelO (fs.lookup f) (mA f)
 | .rng lo hi=>∃t u v,h.get? a=some { cls:=.type "range",data:=.fields #[.int lo t,.int hi u,.int 1 v] }
 | .frz o u=>h.get? a=some o/\ObjOk H h a u
 | .tbl ps=>h.get? a=some { cls:=.none,data:=.fields ps }
 | .met f x=>h.get? a=some (PySem.W.methodObj (.ref f) (.ref x))
 | .ext φ=>φ h/\(∃o,h.get? a=some o)/\∀h1 h2:Heap,φ h1->(∀o,h1.get? a=some o->h2.get? a=some o)->φ h2
noncomputable def HOk (H:Hp) (h:Heap):Prop:=∀a o,H a=some o->ObjOk P w H h a o
end
section
variable {P:Program}{w:World}{H H':Hp}{h h':Heap}{a:Addr}{o:HO}
theorem ObjOk.lt(x:ObjOk P w H h a o):a<h.objs.size:=by
 cases o with
 | lst xs=>obtain⟨_,_,_,_,e⟩:=x;exact Heap.lt_size e
 | tup xs=>obtain⟨_,_,_,p⟩:=x;exact p.lt
 | dK kvs=>obtain⟨_,_,_,_,o,_,_,e,_⟩:=x;exact Heap.lt_size e
 | dT kvs=>obtain⟨_,_,_,_,o,_,_,e,_⟩:=x;exact Heap.lt_size e
 | set S n=>obtain⟨o,_,_,_,e,_⟩:=x;exact Heap.lt_size e
 | ins C dx fs=>obtain⟨_,_,_,e,_⟩:=x;exact Heap.lt_size e
 | own y=>obtain⟨_,e⟩:=x;exact Heap.lt_size e
 | xd fs=>obtain⟨_,⟨_,_,_,e,_⟩,_⟩:=x;exact Heap.lt_size e
 | rng lo hi=>obtain⟨_,_,_,e⟩:=x;exact Heap.lt_size e
 | frz ob u=>obtain⟨e,_⟩:=x;exact Heap.lt_size e
 | tbl ps=>exact Heap.lt_size (show h.get? a=some _ from x)
 | met f y=>exact Heap.lt_size (show h.get? a=some _ from x)
 | ext φ=>obtain⟨_,⟨_,e⟩,_⟩:=x;exact Heap.lt_size e
theorem Paired.mapP{α β:Type}{F G:α->β->Prop}:∀{l₁:List α} {l₂:List β},Paired F l₁ l₂->(∀a b,F a b->G a b)->Paired G l₁ l₂
 | _,_,.nil,_=>.nil
 | _,_,.cons r t,f=>.cons (f _ _ r) (Paired.mapP t f)
theorem ObjOk.stay(x:ObjOk P w H h a o)(k:∀b u,(b=a\/H b=some (.own a))->h.get? b=some u->h'.get? b=some u)
  (ho:∀b,H b=some (.own a)->H' b=some (.own a)) (ht:∀b xs,H b=some (.tup xs)->H' b=some (.tup xs)):ObjOk P w H' h' a o:=by
 induction o with
 | lst xs=>obtain⟨z,its,n,r,e⟩:=x;exact⟨z,its,n,r,k _ _ (.inl rfl) e⟩
 | tup xs=>obtain⟨z,its,r,ob,e,c⟩:=x;exact⟨z,its,r,ob,k _ _ (.inl rfl) e,c⟩
 | dK kvs=>obtain⟨z,y,vs,r,ob,es,ep,e,c⟩:=x;exact⟨z,y,vs,r,ob,es,ep,k _ _ (.inl rfl) e,c⟩
 | dT kvs=>
  obtain⟨z,y,xs,r,ob,es,ep,e,c⟩:=x
  exact⟨z,y,xs,Paired.mapP r fun p q z=>⟨z.1,ht _ _ z.2.1,z.2.2⟩,ob,es,ep,k _ _ (.inl rfl) e,c⟩
 | set S n=>obtain⟨ob,es,ep,t,e,c⟩:=x;exact⟨ob,es,ep,t,k _ _ (.inl rfl) e,c⟩
 | ins C dx fs=>
  obtain⟨d,z,ne,e,mA,⟨od,es,ep,e2,c⟩,r⟩:=x
  exact⟨ho _ d,z,ne,k _ _ (.inl rfl) e,mA,⟨od,es,ep,k _ _ (.inr d) e2,c⟩,r⟩
 | own y=>obtain⟨ob,e⟩:=x;exact⟨ob,k _ _ (.inl rfl) e⟩
 | xd fs=>obtain⟨mA,⟨od,es,ep,e,c⟩,r⟩:=x;exact⟨mA,⟨od,es,ep,k _ _ (.inl rfl) e,c⟩,r⟩
 | rng lo hi=>obtain⟨t,u,v,e⟩:=x;exact⟨t,u,v,k _ _ (.inl rfl) e⟩
 | frz ob u ih=>obtain⟨e,q⟩:=x;exact⟨k _ _ (.inl rfl) e,ih q⟩
 | tbl ps=>
  have e:h.get? a=some { cls:=.none,data:=.fields ps }:=x
  show h'.get? a=some { cls:=.none,data:=.fields ps }
  exact k a _ (.inl rfl) e
 | met f y=>
  have e:h.get? a=some (PySem.W.methodObj (.ref f) (.ref y)):=x
  show h'.get? a=some (PySem.W.methodObj (.ref f) (.ref y))
  exact k a _ (.inl rfl) e
 | ext φ=>obtain⟨p,⟨o,e⟩,st⟩:=x;exact⟨st _ _ p fun o q=>k _ _ (.inl rfl) q,⟨o,k _ _ (.inl rfl) e⟩,st⟩
theorem HOk.lt(x:HOk P w H h)(e:H a=some o):a<h.objs.size:=(x a o e).lt
theorem HOk.fresh(x:HOk P w H h)(e:h.objs.size<=a):H a=none:=by
 cases q:H a with
 | none=>rfl
 | some u=>exact absurd (yo (x.lt q) e) (yN _)
theorem HOk.kept(x:HOk P w H h)(k:∀b u,h.get? b=some u->h'.get? b=some u):HOk P w H h':=fun a o e=>
 (x a o e).stay (fun b u _ q=>k b u q) (fun _ q=>q) fun _ _ q=>q
theorem HOk.laid(x:HOk P w H h)(k:∀b u,h.get? b=some u->h'.get? b=some u)(hp:h.objs.size<=a)(new:ObjOk P w (upd H a o) h' a o):HOk P w (upd H a o) h':=fun b u e=>by
 have hn:=x.fresh hp
 by_cases hb:b=a
 ·subst hb;rw[zH]at e;cases e;exact new
 ·rw[zG hb]at e
  exact(x b u e).stay (fun c v _ q=>k c v q) (fun c q=>by rw[zG (zC q hn)];exact q) fun c xs q=>by rw[zG (zC q hn)];exact q
end
noncomputable def Rd (H:Hp) (a:Addr) (u:HO):Prop:=H a=some u\/∃o,H a=some (.frz o u)
theorem Rd.ok{P:Program}{w:World}{H:Hp}{h:Heap}{a:Addr}{u:HO}(r:Rd H a u)(x:HOk P w H h):ObjOk P w H h a u:=by
 rcases r with r | ⟨o,r⟩
 ·exact x a u r
 ·obtain⟨_,q⟩:=x a _ r
  exact q
noncomputable def Mut:Option HO->Prop
 | some (.lst _)=>True
 | some (.dK _)=>True
 | some (.dT _)=>True
 | some (.set _ _)=>True
 | some (.ins _ _ _)=>True
 | some (.ext _)=>True
 | _=>False
section
variable {P:Program}{w:World}{H:Hp}{h h':Heap}{x e:Addr}{o':HO}
theorem HOk.write(ok:HOk P w H h)(mu:Mut (H x))(he:e=x\/H e=some (.own x))(k:∀b u,b≠e->h.get? b=some u->h'.get? b=some u)(heo:∃u,h'.get? e=some u)
  (new:ObjOk P w (upd H x o') h' x o'):HOk P w (upd H x o') h':=fun b u q=>by
 have nown:∀c y,H c=some (.own y)->c≠x:=fun c y r z=>by subst z;rw[r]at mu;exact mu
 have ntup:∀c xs,H c=some (.tup xs)->c≠x:=fun c xs r z=>by subst z;rw[r]at mu;exact mu
 by_cases hb:b=x
 ·subst hb;rw[zH]at q;cases q;exact new
 ·rw[zG hb]at q
  by_cases hbe:b=e
  ·have q':H b=some (.own x):=by
    rcases he with z | z
    ·exact absurd (hbe.trans z) hb
    ·rw[hbe];exact z
   rw[q]at q';cases q'
   obtain⟨v,hv⟩:=heo
   exact⟨v,by rw[hbe];exact hv⟩
  ·refine(ok b u q).stay (fun c v hc r=>k c v ?_ r) (fun c r=>by rw[zG (nown c b r)];exact r) fun c xs r=>by rw[zG (ntup c xs r)];exact r
   rcases hc with rfl | hc
   ·exact hbe
   ·rintro rfl
    rcases he with z | z
    ·exact nown c b hc z
    ·rw[hc]at z;cases z;exact hb rfl
end
set_option genInjectivity false in
set_option genSizeOf false in
structure Un(fs ex:List Addr)(H H':Hp)(h h':Heap):Prop where
 keep:∀b o,h.get? b=some o->H b=none->b∉fs->b∉ex->h'.get? b=some o
 slot:∀b o,h.get? b=some o->H b=none->b∈fs->b∉ex->∃sl,h'.get? b=some { o with slots:=sl }
 free:∀b o,h.get? b=some o->H b=none->b∉ex->H' b=none
 there:∀b o,h.get? b=some o->b∉ex->∃o',h'.get? b=some o'
 tups:∀b xs,H b=some (.tup xs)->H' b=some (.tup xs)
 frzs:∀b o u,H b=some (.frz o u)->H' b=some (.frz o u)
 tbls:∀b ps,H b=some (.tbl ps)->∃more,H' b=some (.tbl (ps++more))
section
variable {fs fs' ex ex':List Addr}{H H1 H2:Hp}{h h1 h2 h':Heap}{a x e:Addr}{o:HO}
theorem Un.any(u:Un fs ex H H1 h h1){b:Addr}{ob:Obj}(q:h.get? b=some ob)(n:H b=none)(hx:b∉ex):∃sl,h1.get? b=some { ob with slots:=sl }:=by
 by_cases hb:b∈fs
 ·exact u.slot b ob q n hb hx
 ·exact⟨ob.slots,u.keep b ob q n hb hx⟩
theorem Un.kept(k:∀b u,h.get? b=some u->h'.get? b=some u):Un fs ex H H h h':=
 ⟨fun b ob q _ _ _=>k b ob q,fun b ob q _ _ _=>⟨ob.slots,k b ob q⟩,fun _ _ _ n _=>n,fun b ob q _=>⟨ob,k b ob q⟩,fun _ _ q=>q,fun _ _ _ q=>q,fun _ ps q=>⟨#[],by rw[q];simp⟩⟩
theorem Un.refl:Un fs ex H H h h:=Un.kept fun _ _ q=>q
theorem Un.laid(k:∀b u,h.get? b=some u->h'.get? b=some u)(hp:h.objs.size<=a)(hn:H a=none):Un fs ex H (upd H a o) h h' where
 keep:=fun b u q _ _ _=>k b u q
 slot:=fun b u q _ _ _=>⟨u.slots,k b u q⟩
 free:=fun b u q n _=>by rw[zG (ym (yo (Heap.lt_size q) hp))];exact n
 there:=fun b u q _=>⟨u,k b u q⟩
 tups:=fun b xs q=>by rw[zG (zC q hn)];exact q
 frzs:=fun b u xs q=>by rw[zG (zC q hn)];exact q
 tbls:=fun b ps q=>⟨#[],by rw[zG (zC q hn),q];simp⟩
theorem Un.write(mu:Mut (H x))(he:e=x\/H e=some (.own x))(k:∀b u,b≠e->h.get? b=some u->h'.get? b=some u)(heo:∃u,h'.get? e=some u):Un fs ex H (upd H x o) h h':=by
 have hx:∀b,H b=none->b≠x:=fun b n z=>by subst z;rw[n]at mu;exact mu
 have hb:∀b,H b=none->b≠e:=fun b n z=>by
  subst z
  rcases he with r | r
  ·exact hx b n r
  ·rw[n]at r;cases r
 have hm:∀b u,H b=some u->¬Mut (some u)->b≠x:=fun b u q nm z=>by subst z;rw[q]at mu;exact nm mu
 refine⟨fun b u q n _ _=>k b u (hb b n) q,fun b u q n _ _=>⟨u.slots,k b u (hb b n) q⟩,fun b u q n _=>by rw[zG (hx b n)];exact n,fun b u q _=>?_,
  fun b xs q=>by rw[zG (hm b _ q fun z=>z)];exact q,fun b u xs q=>by rw[zG (hm b _ q fun z=>z)];exact q,fun b ps q=>⟨#[],by rw[zG (hm b _ q fun z=>z),q];simp⟩⟩
 by_cases hbe:b=e
 ·subst hbe;exact heo
 ·exact⟨u,k b u hbe q⟩
end
noncomputable def trk (h:Heap) (H:Hp):List Addr:=(List.range h.objs.size).filter fun a=>(H a).isSome
noncomputable def zb7 (h:Heap) (H:Hp):Heap:=PySem.W.hideAll h (trk h H)
theorem ziL(h:Heap)(H:Hp):(zb7 h H).objs.size=h.objs.size:=PySem.W.hideAll_size _ _
theorem zj6{h:Heap}{H:Hp}{b:Addr}{o:Obj}(e:h.get? b=some o)(n:H b=none):(zb7 h H).get? b=some o:=
 PySem.W.hideAll_get _ e fun hm=>by
  have q:(H b).isSome=true:=(List.mem_filter.mp hm).2
  rw[n]at q;simp at q
theorem zlV{h:Heap}{H:Hp}{b:Addr}{o:Obj}(e:(zb7 h H).get? b=some o):h.get? b=some o/\H b=none:=by
 have e':h.get? b=some o:=PySem.W.of_hideAll (trk h H) e
 refine⟨e',?_⟩
 cases q:H b with
 | none=>rfl
 | some x=>
  have hm:b∈trk h H:=List.mem_filter.mpr ⟨y8.mpr (Heap.lt_size e'),by simp[q]⟩
  have z:(zb7 h H).get? b=none:=PySem.W.hideAll_none (trk h H) hm
  rw[z]at e;cases e
noncomputable def zlX (g h:Heap) (L:Addr):List (Addr × Obj):=(List.range h.objs.size).filterMap fun a=>if a=L\/(g.get? a).isSome=true then none else(h.get? a).map fun o=>(a,o)
noncomputable def rest (g h:Heap) (L d:Addr):List (Addr × Obj):=(zlX g h L).filter fun p=>decide (p.1≠d)
set_option genInjectivity false in
set_option genSizeOf false in
structure Mod(K:Fg)(mg:Str->Option Value)(base:Heap):Prop where
 kin:K.In base
 glob:base.Ns mainGlobals mg
 blt:∃mb,base.Ns builtinsNs mb/\∀x:Str,x ≠ "__name__" -> mb x=bootBuiltins x
 nolimit:base.NoLimit
set_option genSizeOf false in
structure Cx where
 prog:Program
 w:World
 K:Fg
 mg:Str->Option Value
 base:Heap
 A:Around
 N:List Str
 s₀:Shared
 H₀:Hp
 env:Env
 outer:List Env
 stack:List Env
 ex:List Addr
 fn:Str->Bool
 calm:Bool
 pn:List (Addr × Obj)
 xe:Value->Shared->Prop
noncomputable def frs (l:List Env):List Addr:=l.filterMap (·.frame)
abbrev Cx.fs(X:Cx):List Addr:=frs X.outer
noncomputable def Vis (sc:Scope) (x:Str):Prop:=sc.names.lookup x=some .local\/sc.names.lookup x=some .cell\/sc.names.lookup x=some .free
noncomputable def Loc (sc:Scope) (x:Str):Prop:=sc.names.lookup x=some .local\/sc.names.lookup x=some .cell
noncomputable def zou (env:Env) (h:Heap) (m:Str->Option Value) (x:Str) (u:Value):Prop:=
 (env.kindOf x=some .local/\m x=some u)\/((env.kindOf x=some .cell\/env.kindOf x=some .free)/\∃c,env.cells.lookup x=some c/\h.IsCell c (some u))
set_option genSizeOf false in
structure Cx.Ok(X:Cx):Prop where
 mod:Mod X.K X.mg X.base
 kind:X.env.scope.kind=.function
 glob:X.env.globals=mainGlobals
 blt:X.env.builtins=builtinsNs
 above:X.s₀.heap.objs.size<=X.env.locals
 inj:∀x y c,X.env.cells.lookup x=some c->X.env.cells.lookup y=some c->x=y
 has:∀x,(X.env.kindOf x=some .cell\/X.env.kindOf x=some .free)->∃c,X.env.cells.lookup x=some c
 cab:∀x c,X.fn x=true->X.env.cells.lookup x=some c->X.s₀.heap.objs.size<=c
 hd:X.calm=true->X.A.handled=none
 frames:X.A.frames=some X.stack
 stk:X.stack=X.outer\/(X.stack=X.env :: X.outer/\X.env.frame=some X.env.locals)
 exf:∀b∈X.ex,b≠X.env.locals/\∀x c,X.env.cells.lookup x=some c->c≠b
 bs:∀b o,X.base.get? b=some o->X.s₀.heap.get? b=some o/\X.H₀ b=none
 bsz:X.base.objs.size<=X.s₀.heap.objs.size
 noex:∀b o,X.base.get? b=some o->b∉X.ex
 exfs:∀b∈X.ex,b∉X.fs
 funs:X.s₀.heap.FunFrames X.base X.outer
 frf:∀b∈X.fs,X.H₀ b=none
set_option genInjectivity false in
set_option genSizeOf false in
structure Inv(X:Cx)(pins:List (Addr × Obj))(σ:List (Option V))(H:Hp)(s:Shared):Prop where
 ok:X.Ok
 os:s.os=X.s₀.os
 bare:AllBare s.gens
 base:Un X.fs X.ex X.H₀ H X.s₀.heap s.heap
 loc:∃m,s.heap.Ns X.env.locals m/\∀(i:Nat) (x:Str) (v:V),X.N[i]?=some x->σ[i]?=some (some v)->Vis X.env.scope x->∃u,RelV v u/\zou X.env s.heap m x u
 cell:∀x c,X.env.cells.lookup x=some c->∃v,s.heap.IsCell c v
 free:H X.env.locals=none
 freeC:∀x c,X.env.cells.lookup x=some c->H c=none
 pin:∀p∈X.pn++pins,s.heap.get? p.1=some p.2/\H p.1=none/\p.1≠X.env.locals/\p.1∉X.fs/\∀v,p.2.data≠.cell v
 hok:HOk X.prog X.w H s.heap
 len:σ.length=X.N.length
section
variable {X:Cx}{pins:List (Addr × Obj)}{σ:List (Option V)}{H H':Hp}{s:Shared}{h':Heap}
theorem Cx.Ok.nofr(ok:X.Ok){b:Addr}{o:Obj}(e:X.base.get? b=some o):b∉X.fs:=fun hb=>by
 have:=(ok.funs.mem hb).1
 rw[e]at this;cases this
theorem Inv.bs(I:Inv X pins σ H s):∀b o,X.base.get? b=some o->s.heap.get? b=some o/\H b=none:=fun b o e=>
 ⟨I.base.keep b o (I.ok.bs b o e).1 (I.ok.bs b o e).2 (I.ok.nofr e) (I.ok.noex b o e),I.base.free b o (I.ok.bs b o e).1 (I.ok.bs b o e).2 (I.ok.noex b o e)⟩
theorem Inv.bk(I:Inv X pins σ H s):∀b o,X.base.get? b=some o->s.heap.get? b=some o:=fun b o e=>(I.bs b o e).1
theorem Inv.mod(I:Inv X pins σ H s):Mod X.K X.mg X.base:=I.ok.mod
theorem Inv.kIn(I:Inv X pins σ H s):X.K.In s.heap:=I.ok.mod.kin.keeps I.bk
theorem Inv.lt(I:Inv X pins σ H s):X.env.locals<s.heap.objs.size:=let ⟨_,hn,_⟩:=I.loc;hn.lt
theorem Inv.sz(I:Inv X pins σ H s):X.s₀.heap.objs.size<=s.heap.objs.size:=yb I.ok.above (y9 I.lt)
theorem Inv.nofs(I:Inv X pins σ H s){a:Addr}(h:s.heap.objs.size<=a):a∉X.fs:=fun hb=>by
 obtain⟨_,o,ho,_⟩:=I.ok.funs.mem hb
 exact absurd (yo (Heap.lt_size ho) (yb I.sz h)) (yN _)
theorem Inv.cne(I:Inv X pins σ H s):∀x c,X.env.cells.lookup x=some c->c≠X.env.locals:=fun x c e z=>by
 obtain⟨v,o,ho,hd⟩:=I.cell x c e
 obtain⟨m,⟨o',es,ep,ho',hd',_⟩,_⟩:=I.loc
 rw[z,ho']at ho;cases ho;rw[hd']at hd;cases hd
theorem Inv.funs(I:Inv X pins σ H s):s.heap.FunFrames X.base X.outer:=by
 have all:∀(l:List Env),(∀b∈frs l,b∈X.fs)->X.s₀.heap.FunFrames X.base l->s.heap.FunFrames X.base l:=by
  intro l
  induction l with
  | nil=>intro _ _;trivial
  | cons env r ih=>
   intro hs hl
   obtain⟨hk,⟨L,o,hf,hn,ho,hd⟩,hr⟩:=hl
   have hL:L∈X.fs:=hs L (by unfold frs;rw[yaG,hf];exact yV)
   obtain⟨sl,e⟩:=I.base.slot L o ho (I.ok.frf L hL) hL fun z=>I.ok.exfs L z hL
   exact⟨hk,⟨L,_,hf,hn,e,hd⟩,ih (fun b hb=>hs b (by unfold frs;rw[yaG,hf];exact yD _ hb)) hr⟩
 exact all X.outer (fun _ hb=>hb) I.ok.funs
theorem Inv.stack(I:Inv X pins σ H s):s.heap.FunFrames X.base X.stack:=by
 rcases I.ok.stk with e | ⟨e,hf⟩
 ·rw[e];exact I.funs
 ·rw[e]
  obtain⟨m,hn,_⟩:=I.loc
  refine .cons (by rw[I.ok.kind];decide) hf hn ?_ I.funs
  exact Heap.get?_none_of_le (yb I.ok.bsz I.ok.above)
theorem Inv.stkSub(I:Inv X pins σ H s):∀b∈frs X.stack,b∈X.env.locals :: X.fs:=fun b hb=>by
 rcases I.ok.stk with e | ⟨e,hf⟩
 ·rw[e]at hb;exact yD _ hb
 ·rw[e]at hb
  unfold frs at hb
  rw[yaG,hf]at hb
  exact hb
theorem Inv.stkFree(I:Inv X pins σ H s):∀b∈frs X.stack,H b=none:=fun b hb=>by
 rcases ye.mp (I.stkSub b hb)with e | hb
 ·rw[e];exact I.free
 ·obtain⟨_,o,ho,_⟩:=I.ok.funs.mem hb
  exact I.base.free b o ho (I.ok.frf b hb) fun z=>I.ok.exfs b z hb
theorem Inv.step{g':Array GenState}{t':Nat}{d':Drawn}{ch:List Addr}(I:Inv X pins σ H s)
  (hch:∀b∈ch,(b∈X.ex\/X.s₀.heap.objs.size<=b)/\b≠X.env.locals/\(∀x c,X.env.cells.lookup x=some c->c≠b)/\∀p∈X.pn++pins,p.1≠b)
  (keep:∀b o,b≠X.env.locals->b∉X.fs->b∉ch->s.heap.get? b=some o->H b=none->h'.get? b=some o)
  (slot:∀b o,b≠X.env.locals->b∈X.fs->b∉ch->s.heap.get? b=some o->H b=none->∃sl,h'.get? b=some { o with slots:=sl }) (free:∀b o,b∉ch->s.heap.get? b=some o->H b=none->H' b=none)
  (there:∀b o,b∉ch->s.heap.get? b=some o->∃o',h'.get? b=some o')
  (tups:∀b xs,H b=some (.tup xs)->H' b=some (.tup xs)) (frzs:∀b o u,H b=some (.frz o u)->H' b=some (.frz o u)) (tbls:∀b ps,H b=some (.tbl ps)->∃more,H' b=some (.tbl (ps++more)))
  (ns:∀m,s.heap.Ns X.env.locals m->h'.Ns X.env.locals m) (hok:HOk X.prog X.w H' h') (hg:AllBare g') :
  Inv X pins σ H' { s with heap:=h',gens:=g',drawn:=d',toks:=t' }:=by
 have neL:∀b o,X.s₀.heap.get? b=some o->b≠X.env.locals:=fun b o e=>ym (yo (Heap.lt_size e) I.ok.above)
 have neC:∀b o,X.s₀.heap.get? b=some o->b∉X.ex->b∉ch:=fun b o e hx hb=>by
  rcases(hch b hb).1 with z | z
  ·exact hx z
  ·exact absurd (yo (Heap.lt_size e) z) (yN _)
 have cellK:∀x c,X.env.cells.lookup x=some c->∀v,s.heap.IsCell c v->h'.IsCell c v:=fun x c e v ⟨o,ho,hd⟩=>by
  have nch:c∉ch:=fun z=>(hch c z).2.2.1 x c e rfl
  by_cases hc:c∈X.fs
  ·obtain⟨sl,q⟩:=slot c o (I.cne x c e) hc nch ho (I.freeC x c e)
   exact⟨_,q,hd⟩
  ·exact⟨o,keep c o (I.cne x c e) hc nch ho (I.freeC x c e),hd⟩
 refine⟨I.ok,I.os,hg,⟨fun b o e n hb hx=>?_,fun b o e n hb hx=>?_,fun b o e n hx=>?_,fun b o e hx=>?_,fun b xs e=>tups b xs (I.base.tups b xs e),fun b o xs e=>frzs b o xs (I.base.frzs b o xs e),fun b ps e=>?_⟩,?_,fun x c e=>?_,?_,fun x c e=>?_,fun p hp=>?_,hok,I.len⟩
 ·exact keep b o (neL b o e) hb (neC b o e hx) (I.base.keep b o e n hb hx) (I.base.free b o e n hx)
 ·obtain⟨sl,e1⟩:=I.base.slot b o e n hb hx
  obtain⟨sl',e2⟩:=slot b _ (neL b o e) hb (neC b o e hx) e1 (I.base.free b o e n hx)
  exact⟨sl',e2⟩
 ·obtain⟨o',e1⟩:=I.base.there b o e hx
  exact free b o' (neC b o e hx) e1 (I.base.free b o e n hx)
 ·obtain⟨o',e1⟩:=I.base.there b o e hx
  exact there b o' (neC b o e hx) e1
 ·obtain⟨m1,e1⟩:=I.base.tbls b ps e
  obtain⟨m2,e2⟩:=tbls b _ e1
  exact⟨m1++m2,by rw[e2,Array.append_assoc]⟩
 ·obtain⟨m,hn,hl⟩:=I.loc
  refine⟨m,ns m hn,fun i x v e1 e2 e3=>?_⟩
  obtain⟨u,r,l⟩:=hl i x v e1 e2 e3
  refine⟨u,r,?_⟩
  rcases l with l | ⟨k,c,e,z⟩
  ·exact .inl l
  ·exact .inr ⟨k,c,e,cellK x c e _ z⟩
 ·obtain⟨v,z⟩:=I.cell x c e
  exact⟨v,cellK x c e v z⟩
 ·obtain⟨m,⟨o,_,_,ho,_⟩,_⟩:=I.loc
  exact free _ o (fun z=>(hch _ z).2.1 rfl) ho I.free
 ·obtain⟨v,o,ho,hd⟩:=I.cell x c e
  exact free c o (fun z=>(hch c z).2.2.1 x c e rfl) ho (I.freeC x c e)
 ·obtain⟨e,n,ne,nf,d⟩:=I.pin p hp
  have nch:p.1∉ch:=fun z=>(hch p.1 z).2.2.2 p hp rfl
  exact⟨keep p.1 p.2 ne nf nch e n,free p.1 p.2 nch e n,ne,nf,d⟩
theorem Inv.un{t':Nat}(I:Inv X pins σ H s)(u:Un X.fs [] H H' s.heap h')(hok:HOk X.prog X.w H' h'):Inv X pins σ H' { s with heap:=h',toks:=t' }:=by
 obtain⟨m,⟨o,es,ep,ho,r⟩,_⟩:=id I.loc
 obtain⟨sl,hL⟩:=u.any ho I.free (by simp)
 exact I.step (g':=s.gens) (d':=s.drawn) (ch:=[]) (fun _ z=>nomatch z) (fun b o _ hb _ e n=>u.keep b o e n hb (by simp)) (fun b o _ hb _ e n=>u.slot b o e n hb (by simp)) (fun b o _ e n=>u.free b o e n (by simp)) (fun b o _ e=>u.there b o e (by simp)) u.tups u.frzs u.tbls (fun m' hm=>by
  obtain⟨o',es',ep',ho',r'⟩:=hm
  rw[ho]at ho';cases ho'
  exact⟨_,es',ep',hL,r'⟩) hok I.bare
theorem Inv.call{g':Array GenState}{t':Nat}{d':Drawn}{ch:List Addr}(I:Inv X pins σ H s)(u:Un (frs X.stack) ch H H' s.heap h')(hok:HOk X.prog X.w H' h')(hg:AllBare g')
  (hch:∀b∈ch,(b∈X.ex\/X.s₀.heap.objs.size<=b)/\b≠X.env.locals/\(∀x c,X.env.cells.lookup x=some c->c≠b)/\∀p∈X.pn++pins,p.1≠b) :
  Inv X pins σ H' { s with heap:=h',gens:=g',drawn:=d',toks:=t' }:=by
 obtain⟨m,⟨o,es,ep,ho,r⟩,_⟩:=id I.loc
 obtain⟨sl,hL⟩:=u.any ho I.free fun z=>(hch _ z).2.1 rfl
 exact I.step (ch:=ch) hch (fun b o hL hb hc e n=>u.keep b o e n (fun z=>(ye.mp (I.stkSub b z)).elim hL hb) hc) (fun b o _ _ hc e n=>u.any e n hc) (fun b o hc e n=>u.free b o e n hc) (fun b o hc e=>u.there b o e hc) u.tups u.frzs u.tbls (fun m' hm=>by
  obtain⟨o',es',ep',ho',r'⟩:=hm
  rw[ho]at ho';cases ho'
  exact⟨_,es',ep',hL,r'⟩) hok hg
theorem Inv.turned{t':Nat}{it:Addr}(I:Inv X pins σ H s)(k:∀b o,b≠it->s.heap.get? b=some o->h'.get? b=some o)(hn:H it=none)(hL:it≠X.env.locals)
  (h1:it∈X.ex\/X.s₀.heap.objs.size<=it) (h2:∀x c,X.env.cells.lookup x=some c->c≠it) (h3:∀p∈X.pn++pins,p.1≠it):Inv X pins σ H { s with heap:=h',toks:=t' }:=by
 have nit:∀b u,H b=some u->b≠it:=fun b u e z=>by rw[z,hn]at e;cases e
 refine I.step (g':=s.gens) (d':=s.drawn) (ch:=[it]) (fun b hb=>?_) (fun b o _ _ hc e _=>k b o (fun z=>hc (by simp[z])) e) (fun b o _ _ hc e _=>⟨o.slots,k b o (fun z=>hc (by simp[z])) e⟩) (fun _ _ _ _ n=>n)
  (fun b o hc e=>⟨o,k b o (fun z=>hc (by simp[z])) e⟩) (fun _ _ e=>e) (fun _ _ _ e=>e) (fun b ps e=>⟨#[],by rw[e];simp⟩) (fun m hm=>?_) (fun b u e=>?_) I.bare
 ·have e:b=it:=by simpa using hb
  subst e
  exact⟨h1,hL,h2,h3⟩
 ·obtain⟨o,es,ep,ho,r⟩:=hm
  exact⟨o,es,ep,k _ o (yaj hL) ho,r⟩
 ·refine(I.hok b u e).stay (fun c v hc q=>k c v ?_ q) (fun _ q=>q) fun _ _ q=>q
  rcases hc with z | z
  ·rw[z];exact nit b u e
  ·exact nit c _ z
theorem Inv.tok(I:Inv X pins σ H s)(t:Nat):Inv X pins σ H { s with toks:=t }:=I.un (h':=s.heap) (t':=t) Un.refl I.hok
theorem Inv.kept{t':Nat}(I:Inv X pins σ H s)(k:∀b u,s.heap.get? b=some u->h'.get? b=some u):Inv X pins σ H { s with heap:=h',toks:=t' }:=I.un (Un.kept k) (I.hok.kept k)
theorem Inv.laid{a:Addr}{o:HO}{t':Nat}(I:Inv X pins σ H s)(k:∀b u,s.heap.get? b=some u->h'.get? b=some u)(hp:s.heap.objs.size<=a)(new:ObjOk X.prog X.w (upd H a o) h' a o) :
  Inv X pins σ (upd H a o) { s with heap:=h',toks:=t' }:=I.un (Un.laid k hp (I.hok.fresh hp)) (I.hok.laid k hp new)
theorem Inv.write{x e:Addr}{o:HO}{t':Nat}(I:Inv X pins σ H s)(mu:Mut (H x))(he:e=x\/H e=some (.own x))(k:∀b u,b≠e->s.heap.get? b=some u->h'.get? b=some u)(heo:∃u,h'.get? e=some u)
  (new:ObjOk X.prog X.w (upd H x o) h' x o):Inv X pins σ (upd H x o) { s with heap:=h',toks:=t' }:=I.un (Un.write mu he k heo) (I.hok.write mu he k heo new)
theorem Inv.pins_of{pins':List (Addr × Obj)}(I:Inv X pins σ H s)(h:∀p∈pins',s.heap.get? p.1=some p.2/\H p.1=none/\p.1≠X.env.locals/\p.1∉X.fs/\∀v,p.2.data≠.cell v):Inv X pins' σ H s:=
 ⟨I.ok,I.os,I.bare,I.base,I.loc,I.cell,I.free,I.freeC,fun p hp=>(yu.mp hp).elim (fun z=>I.pin p (yO _ z)) (h p),I.hok,I.len⟩
theorem zeb{N:List Str}(hN:N.Nodup){i j:Nat}{x:Str}(a:N[i]?=some x)(b:N[j]?=some x):i=j:=by
 obtain⟨h1,e1⟩:=yl.mp a
 obtain⟨h2,e2⟩:=yl.mp b
 exact(List.getElem_inj hN).mp (e1.trans e2.symm)
theorem zfx{M:Model}{A:Around}{E:Value->Shared->Prop}{i:Nat}{x:Str}{v:V}{u:Value}{Q:Unit->Shared->Prop}(I:Inv X pins σ H s)(hN:X.N.Nodup)(hi:X.N[i]?=some x)(hx:Loc X.env.scope x)(r:RelV v u)
  (h:∀s',Inv X pins (σ.set i (some v)) H s'->(∃a,Heap.SameBut a s.heap s'.heap/\(a=X.env.locals\/X.env.cells.lookup x=some a))->Q () s') (hf:autoParam (X.fn x=true\/X.env.scope.names.lookup x=some .local) Internal.aut0._auto_1):wpAny M A (storeName X.env x u) Q E s:=by
 obtain⟨m,hn,hl⟩:=id I.loc
 have hcls:(X.env.scope.kind == .class || (X.env.scope.kind == .module&&X.env.locals != X.env.globals))=false:=by rw[I.ok.kind];rfl
 have hiσ:i < σ.length:=by rw[I.len];exact(yl.mp hi).1
 have cne:=I.cne
 have tracked:∀{a:Addr} {h':Heap},(∃o,s.heap.get? a=some o/\H a=none)->Heap.SameBut a s.heap h'->HOk X.prog X.w H h':=fun {a h'} ha hs b ob e=>by
  obtain⟨_,_,hfree⟩:=ha
  refine(I.hok b ob e).stay (fun c w' hc q=>(hs.2 c ?_).trans q) (fun _ q=>q) fun _ _ q=>q
  rintro rfl
  rcases hc with rfl | hc
  ·rw[hfree]at e;cases e
  ·rw[hfree]at hc;cases hc
 rcases hx with hk | hk
 ·refine wpAny_storeName_local hk hn (fun h' hn' hs=>?_) hcls
  obtain⟨oL,_,_,hoL,_⟩:=id hn
  refine h _ ⟨I.ok,I.os,I.bare,⟨fun b o e n hb hx=>?_,fun b o e n hb hx=>?_,I.base.free,fun b o e hx=>?_,I.base.tups,I.base.frzs,I.base.tbls⟩,⟨_,hn',fun j y v' e1 e2 e3=>?_⟩,fun y c e=>?_,I.free,I.freeC,fun p hp=>?_,tracked ⟨oL,hoL,I.free⟩ hs,by simpa using I.len⟩ ⟨_,hs,.inl rfl⟩
  ·exact(hs.2 b (ym (yo (Heap.lt_size e) I.ok.above))).trans (I.base.keep b o e n hb hx)
  ·obtain⟨sl,e1⟩:=I.base.slot b o e n hb hx
   exact⟨sl,(hs.2 b (ym (yo (Heap.lt_size e) I.ok.above))).trans e1⟩
  ·obtain⟨o',e1⟩:=I.base.there b o e hx
   exact⟨o',(hs.2 b (ym (yo (Heap.lt_size e) I.ok.above))).trans e1⟩
  ·by_cases hj:j=i
   ·subst hj
    rw[hi]at e1;cases e1
    rw[yaf hiσ]at e2
    cases e2
    exact⟨u,r,.inl ⟨hk,by simp⟩⟩
   ·rw[yan (yaj hj)]at e2
    obtain⟨u',r',q⟩:=hl j y v' e1 e2 e3
    refine⟨u',r',?_⟩
    rcases q with⟨k,e⟩ | ⟨k,c,e,z⟩
    ·refine .inl ⟨k,?_⟩
     have:y≠x:=fun e=>hj (zeb hN e1 (e▸hi))
     simp[this,e]
    ·exact .inr ⟨k,c,e,z.sameBut hs (cne y c e)⟩
  ·obtain⟨w',z⟩:=I.cell y c e
   exact⟨w',z.sameBut hs (cne y c e)⟩
  ·obtain⟨e,n,ne,nf,d⟩:=I.pin p hp
   exact⟨(hs.2 p.1 ne).trans e,n,ne,nf,d⟩
 ·have hfn:X.fn x=true:=by
   rcases hf with z | z
   ·exact z
   ·rw[z]at hk;cases hk
  obtain⟨c,hc⟩:=I.ok.has x (.inl hk)
  obtain⟨w',z⟩:=I.cell x c hc
  refine wpAny_storeName_cell I.ok.kind hk hc z (fun h' hc' hs=>?_)
  obtain⟨oc,hoc,hocd⟩:=id z
  refine h { s with heap:=h' } ⟨I.ok,I.os,I.bare,⟨fun b o e n hb hx=>?_,fun b o e n hb hx=>?_,I.base.free,fun b o e hx=>?_,I.base.tups,I.base.frzs,I.base.tbls⟩,⟨m,hn.sameBut hs (yaj (cne x c hc)),fun j y v' e1 e2 e3=>?_⟩,fun y c' e=>?_,I.free,I.freeC,fun p hp=>?_,tracked ⟨oc,hoc,I.freeC x c hc⟩ hs,by simpa using I.len⟩ ⟨c,hs,.inr hc⟩
  ·exact(hs.2 b (ym (yo (Heap.lt_size e) (I.ok.cab x c hfn hc)))).trans (I.base.keep b o e n hb hx)
  ·obtain⟨sl,e1⟩:=I.base.slot b o e n hb hx
   exact⟨sl,(hs.2 b (ym (yo (Heap.lt_size e) (I.ok.cab x c hfn hc)))).trans e1⟩
  ·obtain⟨o',e1⟩:=I.base.there b o e hx
   exact⟨o',(hs.2 b (ym (yo (Heap.lt_size e) (I.ok.cab x c hfn hc)))).trans e1⟩
  ·by_cases hj:j=i
   ·subst hj
    rw[hi]at e1;cases e1
    rw[yaf hiσ]at e2
    cases e2
    exact⟨u,r,.inr ⟨.inl hk,c,hc,hc'⟩⟩
   ·rw[yan (yaj hj)]at e2
    obtain⟨u',r',q⟩:=hl j y v' e1 e2 e3
    refine⟨u',r',?_⟩
    rcases q with q | ⟨k,c',e,z'⟩
    ·exact .inl q
    ·refine .inr ⟨k,c',e,z'.sameBut hs ?_⟩
     rintro rfl
     exact hj (zeb hN e1 (I.ok.inj _ _ _ e hc▸hi))
  ·by_cases hcc:c'=c
   ·subst hcc;exact⟨_,hc'⟩
   ·obtain⟨w2,z2⟩:=I.cell y c' e
    exact⟨w2,z2.sameBut hs hcc⟩
  ·obtain⟨e,n,ne,nf,d⟩:=I.pin p hp
   refine⟨(hs.2 p.1 ?_).trans e,n,ne,nf,d⟩
   intro q
   rw[q,hoc]at e
   have q':oc=p.2:=yn e
   exact d w' (by rw[<- q'];exact hocd)
theorem zcJ{M:Model}{A:Around}{E:Value->Shared->Prop}{i:Nat}{x:Str}{v:V}{u:Value}{Q:Unit->Shared->Prop}(I:Inv X pins σ H s)(hN:X.N.Nodup)(hi:X.N[i]?=some x)(hx:Loc X.env.scope x)(r:RelV v u)
  (h:∀s',Inv X pins (σ.set i (some v)) H s'->Q () s') (hf:autoParam (X.fn x=true\/X.env.scope.names.lookup x=some .local) Internal.aut0._auto_1):wpAny M A (storeName X.env x u) Q E s:=
 zfx I hN hi hx r (fun s' I' _=>h s' I') hf
theorem Inv.call'{s':Shared}{ch:List Addr}(I:Inv X pins σ H s)(ho:s'.os=s.os)(u:Un (frs X.stack) ch H H' s.heap s'.heap)(hok:HOk X.prog X.w H' s'.heap)(hg:AllBare s'.gens)
  (hch:∀b∈ch,(b∈X.ex\/X.s₀.heap.objs.size<=b)/\b≠X.env.locals/\(∀x c,X.env.cells.lookup x=some c->c≠b)/\∀p∈X.pn++pins,p.1≠b):Inv X pins σ H' s':=by
 obtain⟨h',g',d',t',o'⟩:=s'
 have e:o'=s.os:=ho
 subst e
 exact I.call (g':=g') (t':=t') (d':=d') u hok hg hch
end
abbrev XK:=Value->Option Addr->Hp->Prop
abbrev St:=List (Option V)
abbrev VK:=V->Hp->Prop
abbrev TE:=St->Hp->VK->Prop
abbrev TT:=St->Hp->(Bool->Hp->Prop)->Prop
abbrev TA:=St->Hp->(List V->Hp->Prop)->Prop
set_option genInjectivity false in
set_option genSizeOf false in
structure Ends where
 nx:St->Hp->Prop
 rt:VK
 bk:St->Hp->Prop:=fun _ _=>False
 ct:St->Hp->Prop:=fun _ _=>False
abbrev TS:=Ends->St->Hp->Prop
noncomputable def EP (X:Cx) (pins:List (Addr × Obj)) (σ:St) (Q:VK) (u:Value) (s':Shared):Prop:=∃v H',Inv X pins σ H' s'/\RelV v u/\Q v H'
noncomputable def TP (X:Cx) (pins:List (Addr × Obj)) (σ:St) (Q:Bool->Hp->Prop) (b:Bool) (s':Shared):Prop:=∃H',Inv X pins σ H' s'/\Q b H'
noncomputable def AP (X:Cx) (pins:List (Addr × Obj)) (σ:St) (Q:List V->Hp->Prop) (us:List Value) (s':Shared):Prop:=∃vs H',Inv X pins σ H' s'/\Vals vs us/\Q vs H'
noncomputable def SP (X:Cx) (pins:List (Addr × Obj)) (D:Ends) (f:Flow) (s':Shared):Prop:=
 match f with
 | .next=>∃σ' H',Inv X pins σ' H' s'/\D.nx σ' H'
 | .brk=>∃σ' H',Inv X pins σ' H' s'/\D.bk σ' H'
 | .cont=>∃σ' H',Inv X pins σ' H' s'/\D.ct σ' H'
 | .ret u=>∃v σ' H',Inv X pins σ' H' s'/\RelV v u/\D.rt v H'
noncomputable def PE (X:Cx) (e:Expr) (t:TE):Prop:=
 ∀(pins:List (Addr × Obj)) (s:Shared) (σ:St) (H:Hp) (Q:VK),Inv X pins σ H s->t σ H Q->wpAny (model X.prog X.w) X.A (eval e X.env) (EP X pins σ Q) X.xe s
noncomputable def PT (X:Cx) (e:Expr) (t:TT):Prop:=
 ∀(pins:List (Addr × Obj)) (s:Shared) (σ:St) (H:Hp) (Q:Bool->Hp->Prop),Inv X pins σ H s->t σ H Q->wpAny (model X.prog X.w) X.A (isTrue e X.env (eval e X.env)) (TP X pins σ Q) X.xe s
noncomputable def PW (X:Cx) (e:Expr) (t:TT):Prop:=
 ∀(whole:Sem Value) (pins:List (Addr × Obj)) (s:Shared) (σ:St) (H:Hp) (Q:Bool->Hp->Prop),Inv X pins σ H s->t σ H Q->wpAny (model X.prog X.w) X.A (isTrue e X.env whole) (TP X pins σ Q) X.xe s
theorem PW.pt{X:Cx}{e:Expr}{t:TT}(h:PW X e t):PT X e t:=h _
noncomputable def PA (X:Cx) (es:List Expr) (t:TA):Prop:=
 ∀(pos:Pos) (pins:List (Addr × Obj)) (s:Shared) (σ:St) (H:Hp) (Q:List V->Hp->Prop),Inv X pins σ H s->t σ H Q->wpAny (model X.prog X.w) X.A (spliced (backTo pos (starEach es X.env))) (AP X pins σ Q) X.xe s
noncomputable def PS (X:Cx) (st:Stmt) (t:TS):Prop:=
 ∀(pins:List (Addr × Obj)) (s:Shared) (σ:St) (H:Hp) (D:Ends),Inv X pins σ H s->t D σ H->wpAny (model X.prog X.w) X.A (exec st X.env) (SP X pins D) X.xe s
noncomputable def PSs (X:Cx) (st:List Stmt) (t:TS):Prop:=
 ∀(pins:List (Addr × Obj)) (s:Shared) (σ:St) (H:Hp) (D:Ends),Inv X pins σ H s->t D σ H->wpAny (model X.prog X.w) X.A (execs st X.env) (SP X pins D) X.xe s
theorem thn{α:Type}{t:Sem α}{Q Q':α->Shared->Prop}{M:Model}{A:Around}{E:Value->Shared->Prop}{s:Shared}(h:wpAny M A t Q E s)(hQ:∀a s,Q a s->Q' a s):wpAny M A t Q' E s:=wpAny_mono h hQ fun _ _ x=>x
section
variable {X:Cx}
noncomputable def zhO (i:Nat):TE:=fun σ H Q=>∃v,σ[i]?=some (some v)/\Q v H
abbrev tC(v:V):TE:=fun _ H Q=>Q v H
theorem zmW{i:Nat}{x:Str}{pos:Pos}(hN:X.N[i]?=some x)(hv:Vis X.env.scope x)(hd:autoParam ((x == ("__debug__" : Str))=false) Internal.aut1._auto_1)(hcd:autoParam ((x == ("__classdict__" : Str))=false) Internal.aut1._auto_1):PE X (.Name x pos) (zhO i):=by
 intro pins s σ H Q I h
 obtain⟨v,e,h⟩:=h
 obtain⟨m,hn,hl⟩:=I.loc
 obtain⟨u,r,l⟩:=hl i x v hN e hv
 have fin:EP X pins σ Q u s:=⟨v,H,I,r,h⟩
 rcases l with⟨hk,hm⟩ | ⟨hk,c,hc,hcell⟩
 ·exact wpAny_Name (wpAny_loadName_local I.ok.kind hk hn hm fin) hd
 ·rcases hk with hk | hk
  ·exact wpAny_Name (wpAny_loadName_cell I.ok.kind hk hc hcell fin) hd
  ·exact wpAny_Name (wpAny_loadName_free I.ok.kind hk hc hcell fin hcd) hd
theorem zc{i j pos}:PE X (.Constant (.int i) j pos) (tC (.int i)):=fun _ _ _ H _ I h=>wpAny_Constant_int ⟨.int i,H,I.tok _,⟨_,rfl⟩,h⟩
theorem za4{b j pos}:PE X (.Constant (.bool b) j pos) (tC (.bl b)):=fun _ _ _ H _ I h=>Constant_bool ⟨.bl b,H,I,rfl,h⟩
theorem znr{j pos}:PE X (.Constant .none j pos) (tC .non):=fun _ _ _ H _ I h=>Constant_none ⟨.non,H,I,rfl,h⟩
theorem zv{x j pos}:PE X (.Constant (.str x) j pos) (tC (.str x)):=fun _ _ _ H _ I h=>Calls.Constant_str ⟨.str x,H,I.tok _,⟨_,rfl⟩,h⟩
noncomputable def Gl (X:Cx) (x:Str):Prop:=X.env.kindOf x=some .globalImplicit
theorem zbN{E:Value->Shared->Prop}{pins:List (Addr × Obj)}{s:Shared}{σ:St}{H:Hp}{x:Str}{u:Value}{pos:Pos}{Q:Value->Shared->Prop}(I:Inv X pins σ H s)(hg:Gl X x)(hm:X.mg x=some u)(h:Q u s)
  (hd:autoParam ((x == ("__debug__" : Str))=false) Internal.aut1._auto_1):wpAny (model X.prog X.w) X.A (eval (.Name x pos) X.env) Q E s:=
 Calls.Name_function_global I.ok.kind hg (Calls.loadGlobal_global (by rw[I.ok.glob];exact I.mod.glob.keeps I.bk) hm h) hd
theorem zbT{E:Value->Shared->Prop}{pins:List (Addr × Obj)}{s:Shared}{σ:St}{H:Hp}{x:Str}{u:Value}{pos:Pos}{Q:Value->Shared->Prop}(I:Inv X pins σ H s)(hg:Gl X x)(hm:X.mg x=none)(hv:bootBuiltins x=some u)(h:Q u s)
  (hn:autoParam (x ≠ "__name__") Internal.aut1._auto_1) (hd:autoParam ((x == ("__debug__" : Str))=false) Internal.aut1._auto_1):wpAny (model X.prog X.w) X.A (eval (.Name x pos) X.env) Q E s:=by
 obtain⟨mb,h1,h2⟩:=I.mod.blt
 exact Calls.Name_function_global I.ok.kind hg (Calls.loadGlobal_builtin (by rw[I.ok.glob];exact I.mod.glob.keeps I.bk) hm (by rw[I.ok.blt];exact h1.keeps I.bk) ((h2 x hn).trans hv) h) hd
theorem zW{x:Str}{v:V}{u:Value}{pos:Pos}(hg:Gl X x)(hm:X.mg x=some u)(r:RelV v u)(hd:autoParam ((x == ("__debug__" : Str))=false) Internal.aut1._auto_1):PE X (.Name x pos) (tC v):=
 fun _ _ _ H _ I h=>zbN I hg hm ⟨v,H,I,r,h⟩ hd
theorem zcF{x:Str}{v:V}{u:Value}{pos:Pos}(hg:Gl X x)(hm:X.mg x=none)(hv:bootBuiltins x=some u)(r:RelV v u)(hn:autoParam (x ≠ "__name__") Internal.aut1._auto_1)(hd:autoParam ((x == ("__debug__" : Str))=false) Internal.aut1._auto_1):PE X (.Name x pos) (tC v):=
 fun _ _ _ H _ I h=>zbT I hg hm hv ⟨v,H,I,r,h⟩ hn hd
noncomputable def t2I (ta tb:TE) (k:Int->Int->Hp->Prop):St->Hp->Prop:=fun σ H=>ta σ H fun x H1=>tb σ H1 fun y H2=>∃i j,x=.int i/\y=.int j/\k i j H2
variable {a b:Expr}{ta tb:TE}{pos:Pos}
noncomputable def zfg (p:Int->Int->Bool) (ta tb:TE):TE:=fun σ H Q=>t2I ta tb (fun i j H2=>Q (.bl (p i j)) H2) σ H
abbrev tLt:TE->TE->TE:=zfg fun i j=>decide (i<j)
abbrev tLe:TE->TE->TE:=zfg fun i j=>decide (i<=j)
abbrev tGt:TE->TE->TE:=zfg fun i j=>decide (j<i)
abbrev tGe:TE->TE->TE:=zfg fun i j=>decide (j<=i)
abbrev zoI:TE->TE->TE:=zfg fun i j=>decide (i=j)
abbrev zoH:TE->TE->TE:=zfg fun i j=>!decide (i=j)
variable {tA tB':TT}{rest:List Expr}
abbrev zop(t u:TT):TT:=fun σ H Q=>t σ H fun c H1=>if c=true then u σ H1 Q else Q false H1
abbrev tOr(t u:TT):TT:=fun σ H Q=>t σ H fun c H1=>if c=true then Q true H1 else u σ H1 Q
abbrev zow(t:TT):TT:=fun σ H Q=>t σ H fun c H1=>Q (!c) H1
theorem zeW(ha:PT X a tA):PW X (.BoolOp .And [a] pos) tA:=by
 intro wh pins s σ H Q I h
 refine isTrue_and (thn (ha pins s σ H Q I h) fun c s1 e=>?_)
 cases c with
 | true=>exact isTrue_and_nil e
 | false=>exact e
theorem zab(ha:PT X a tA):PW X (.BoolOp .Or [a] pos) tA:=by
 intro wh pins s σ H Q I h
 refine isTrue_or (thn (ha pins s σ H Q I h) fun c s1 e=>?_)
 cases c with
 | false=>exact isTrue_or_nil e
 | true=>exact e
theorem zgH(ha:PT X a tA)(hb:PW X (.BoolOp .And (b :: rest) pos) tB'):PW X (.BoolOp .And (a :: b :: rest) pos) (zop tA tB'):=by
 intro wh pins s σ H Q I h
 refine isTrue_and (thn (ha pins s σ H _ I h) fun c s1 ⟨H1,I1,q1⟩=>?_)
 cases c with
 | true=>exact hb wh pins s1 σ H1 Q I1 q1
 | false=>exact⟨H1,I1,q1⟩
theorem zaf(ha:PT X a tA)(hb:PW X (.BoolOp .Or (b :: rest) pos) tB'):PW X (.BoolOp .Or (a :: b :: rest) pos) (tOr tA tB'):=by
 intro wh pins s σ H Q I h
 refine isTrue_or (thn (ha pins s σ H _ I h) fun c s1 ⟨H1,I1,q1⟩=>?_)
 cases c with
 | true=>exact⟨H1,I1,q1⟩
 | false=>exact hb wh pins s1 σ H1 Q I1 q1
theorem zce(ha:PT X a tA):PT X (.UnaryOp .Not a pos) (zow tA):=by
 intro pins s σ H Q I h
 exact isTrue_not (ha pins s σ H (fun c H1=>Q (!c) H1) I h)
noncomputable def zk0 (ta tb:TE):TE:=fun σ H Q=>ta σ H fun x H1=>∃c,x=.bl c/\if c=true then tb σ H1 Q else Q (.bl false) H1
theorem zmR{op}{t:TE}(h:PE X a t):PE X (.BoolOp op [a] pos) t:=fun pins s σ H Q I hw=>BoolOp_one (h pins s σ H Q I hw)
theorem zmG(ha:PE X a ta)(hb:PE X (.BoolOp .And (b :: rest) pos) tb):PE X (.BoolOp .And (a :: b :: rest) pos) (zk0 ta tb):=by
 intro pins s σ H Q I h
 refine BoolOp_and (thn (ha pins s σ H _ I h) fun v s1 zz=>?_)
 obtain⟨x,H1,I1,r1,q1⟩:=zz
 obtain⟨c,rfl,q1⟩:=q1
 cases r1
 refine wpAny_truthy_bool ?_
 cases c with
 | true=>exact hb pins s1 σ H1 Q I1 q1
 | false=>exact⟨.bl false,H1,I1,rfl,q1⟩
abbrev tIf(t:TT)(ta tb:TE):TE:=fun σ H Q=>t σ H fun c H1=>if c=true then ta σ H1 Q else tb σ H1 Q
theorem zj2{c:Expr}(hc:PT X c tA)(ha:PE X a ta)(hb:PE X b tb):PE X (.IfExp c a b pos) (tIf tA ta tb):=by
 intro pins s σ H Q I h
 refine wpAny_IfExp (thn (hc pins s σ H _ I h) fun d s1 ⟨H1,I1,q1⟩=>?_)
 cases d with
 | true=>exact ha pins s1 σ H1 Q I1 q1
 | false=>exact hb pins s1 σ H1 Q I1 q1
end
noncomputable def SqL (K:Fg) (H:Hp) (a:Addr) (xs:List V):Prop:=
 Rd H a (.lst xs) \/
  ∃(o:Obj) (its:Array Value) (n:Nat),K.lookup a=some o/\o.cls=.type "list" /\ o.dict=none/\o.data=.seq its n/\its.size<=sizeLine/\Vals xs its.toList
noncomputable def SqT (K:Fg) (H:Hp) (a:Addr) (xs:List V):Prop:=
 Rd H a (.tup xs) \/
  ∃(o:Obj) (its:Array Value) (n:Nat),K.lookup a=some o/\o.cls=.type "tuple" /\ o.data=.seq its n/\its.size<=sizeLine/\Vals xs its.toList
noncomputable def zod:Value->Option V
 | .none=>some .non
 | .bool b=>some (.bl b)
 | .int i _=>some (.int i)
 | .str x _=>some (.str x)
 | .bytes b _=>some (.byt b)
 | .float b _=>some (.flt b)
 | .ref a=>some (.ref a)
 | .type n=>some (.ty n)
 | _=>none
theorem RelV.abs{x:V}{u:Value}(r:RelV x u):zod u=some x:=by
 cases x with
 | non=>cases r;rfl
 | bl _=>cases r;rfl
 | int _=>obtain⟨t,rfl⟩:=r;rfl
 | str _=>obtain⟨t,rfl⟩:=r;rfl
 | byt _=>obtain⟨t,rfl⟩:=r;rfl
 | flt _=>obtain⟨t,rfl⟩:=r;rfl
 | ref _=>cases r;rfl
 | ty _=>cases r;rfl
theorem RelV.inj{x y:V}{u:Value}(r:RelV x u)(q:RelV y u):x=y:=yn (r.abs.symm.trans q.abs)
theorem Vals.inj:∀{xs ys:List V} {us:List Value},Vals xs us->Vals ys us->xs=ys
 | _,_,_,.nil,.nil=>rfl
 | _,_,_,.cons r t,.cons r' t'=>by rw[r.inj r',Vals.inj t t']
section
variable {X:Cx}{pins:List (Addr × Obj)}{σ:St}{H:Hp}{s:Shared}{a:Addr}{xs ys:List V}
theorem SqL.of{K:Fg}(h:H a=some (.lst xs)):SqL K H a xs:=.inl (.inl h)
theorem SqT.of{K:Fg}(h:H a=some (.tup xs)):SqT K H a xs:=.inl (.inl h)
theorem Inv.list(I:Inv X pins σ H s)(h:SqL X.K H a xs):∃its:List Value,Vals xs its/\PlainL s.heap a its.toArray/\xs.length<=sizeLine:=by
 rcases h with h | ⟨o,its,n,hk,hc,hd,hs,hz,r⟩
 ·obtain⟨z,its,n,r,e⟩:=h.ok I.hok
  exact⟨its,r,⟨_,n,e,rfl,rfl,rfl⟩,z⟩
 ·refine⟨its.toList,r,⟨o,n,I.kIn a o hk,hc,hd,by simpa using hs⟩,?_⟩
  have e:=r.length
  simp only[yaa]at e
  omega
theorem Inv.tuple(I:Inv X pins σ H s)(h:SqT X.K H a xs):∃its:List Value,Vals xs its/\IsTup s.heap a its.toArray/\xs.length<=sizeLine:=by
 rcases h with h | ⟨o,its,n,hk,hc,hs,hz,r⟩
 ·obtain⟨z,its,r,p⟩:=h.ok I.hok
  exact⟨its,r,p,z⟩
 ·refine⟨its.toList,r,⟨o,I.kIn a o hk,hc,n,by simpa using hs⟩,?_⟩
  have e:=r.length
  simp only[yaa]at e
  omega
theorem Inv.list_inj(I:Inv X pins σ H s)(h:SqL X.K H a xs)(h':SqL X.K H a ys):xs=ys:=by
 obtain⟨its,r,⟨o,n,e,_,_,d⟩,_⟩:=I.list h
 obtain⟨its',r',⟨o',n',e',_,_,d'⟩,_⟩:=I.list h'
 rw[e]at e';cases e'
 rw[d]at d'
 injection d' with d1 _
 have:its=its':=by simpa using congrArg Array.toList d1
 subst this
 exact r.inj r'
theorem Inv.tuple_inj(I:Inv X pins σ H s)(h:SqT X.K H a xs)(h':SqT X.K H a ys):xs=ys:=by
 obtain⟨its,r,⟨o,e,_,n,d⟩,_⟩:=I.tuple h
 obtain⟨its',r',⟨o',e',_,n',d'⟩,_⟩:=I.tuple h'
 rw[e]at e';cases e'
 rw[d]at d'
 injection d' with d1 _
 have:its=its':=by simpa using congrArg Array.toList d1
 subst this
 exact r.inj r'
end
abbrev Cx.wish(X:Cx)(E:Value->Shared->Prop):Cx:={ X with xe:=E }
abbrev Cx.nox(X:Cx):Cx:=X.wish fun _ _=>False
theorem Cx.Ok.wish{X:Cx}(ok:X.Ok)(E:Value->Shared->Prop):(X.wish E).Ok:=
 ⟨ok.mod,ok.kind,ok.glob,ok.blt,ok.above,ok.inj,ok.has,ok.cab,ok.hd,ok.frames,ok.stk,ok.exf,ok.bs,ok.bsz,ok.noex,ok.exfs,ok.funs,ok.frf⟩
theorem Cx.Ok.unwish{X:Cx}{E:Value->Shared->Prop}(ok:(X.wish E).Ok):X.Ok:=
 ⟨ok.mod,ok.kind,ok.glob,ok.blt,ok.above,ok.inj,ok.has,ok.cab,ok.hd,ok.frames,ok.stk,ok.exf,ok.bs,ok.bsz,ok.noex,ok.exfs,ok.funs,ok.frf⟩
section
variable {X:Cx}{pins:List (Addr × Obj)}{σ:St}{H:Hp}{s:Shared}{E:Value->Shared->Prop}
theorem Inv.wish(I:Inv X pins σ H s)(E:Value->Shared->Prop):Inv (X.wish E) pins σ H s:=⟨I.ok.wish E,I.os,I.bare,I.base,I.loc,I.cell,I.free,I.freeC,I.pin,I.hok,I.len⟩
theorem Inv.unwish(I:Inv (X.wish E) pins σ H s):Inv X pins σ H s:=⟨I.ok.unwish,I.os,I.bare,I.base,I.loc,I.cell,I.free,I.freeC,I.pin,I.hok,I.len⟩
theorem SP.unwish{D:Ends}{f:Flow}{s':Shared}(h:SP (X.wish E) pins D f s'):SP X pins D f s':=by
 cases f with
 | next=>obtain⟨σ',H',I,q⟩:=h;exact⟨σ',H',I.unwish,q⟩
 | brk=>obtain⟨σ',H',I,q⟩:=h;exact⟨σ',H',I.unwish,q⟩
 | cont=>obtain⟨σ',H',I,q⟩:=h;exact⟨σ',H',I.unwish,q⟩
 | ret u=>obtain⟨v,σ',H',I,r,q⟩:=h;exact⟨v,σ',H',I.unwish,r,q⟩
theorem PSs.nox{st:List Stmt}{t:TS}(h:PSs X.nox st t):PSs X st t:=fun pins s σ H D I hw=>
 wpAny_mono (h pins s σ H D (I.wish _) hw) (fun _ _ q=>q.unwish) fun _ _ z=>False.elim z
end
section
variable {X:Cx}{st:Stmt}{rest:List Stmt}{t u:TS}{e:Expr}{te:TE}{pos:Pos}
abbrev znV:TS:=fun D σ H=>D.nx σ H
abbrev zoc(t u:TS):TS:=fun D σ H=>t { D with nx:=u D } σ H
theorem zr:PSs X [] znV:=fun _ _ σ H _ I h=>wpAny_execs_nil ⟨σ,H,I,h⟩
theorem zd(h1:PS X st t)(h2:PSs X rest u):PSs X (st :: rest) (zoc t u):=by
 intro pins s σ H D I h
 refine wpAny_execs_cons (thn (h1 pins s σ H { D with nx:=u D } I h) fun f s1 q=>?_)
 cases f with
 | next=>
  obtain⟨σ',H',I',q⟩:=q
  exact h2 pins s1 σ' H' D I' q
 | ret v=>exact q
 | brk=>exact q
 | cont=>exact q
theorem ze(h1:PS X st t):PSs X [st] t:=by
 intro pins s σ H D I h
 refine wpAny_execs_cons (thn (h1 pins s σ H D I h) fun f s1 q=>?_)
 cases f with
 | next=>exact wpAny_execs_nil q
 | ret v=>exact q
 | brk=>exact q
 | cont=>exact q
abbrev zoy:TS:=fun D σ H=>D.bk σ H
abbrev zoF:TS:=fun D σ H=>D.ct σ H
theorem Inv.quiet{pins:List (Addr × Obj)}{σ:St}{H:Hp}{s:Shared}(I:Inv X pins σ H s):interactive X.env=false:=by simp[interactive,I.ok.kind]
abbrev znI(te:TE):TS:=fun D σ H=>te σ H fun _ H1=>D.nx σ H1
theorem zL(he:PE X e te)(hs:autoParam (swapsWith e none pos.line X.env=pure false) Internal.aut2._auto_1):PS X (.Expr e pos) (znI te):=by
 intro pins s σ H D I h
 exact wpAny_Expr_any (thn (he pins s σ H _ I h) fun v s1 ⟨x,H1,I1,r1,q1⟩=>⟨σ,H1,I1,q1⟩) I.quiet hs
abbrev zmH(te:TE):TS:=fun D σ H=>te σ H D.rt
theorem zD(he:PE X e te):PS X (.Return (some e) pos) (zmH te):=by
 intro pins s σ H D I h
 exact wpAny_Return_some (thn (he pins s σ H _ I h) fun v s1 ⟨x,H1,I1,r1,q1⟩=>⟨x,σ,H1,I1,r1,q1⟩)
abbrev zoC:TS:=fun D _ H=>D.rt .non H
abbrev zoj(c:TT)(t u:TS):TS:=fun D σ H=>c σ H fun b H1=>if b=true then t D σ H1 else u D σ H1
theorem zE{c:Expr}{a b:List Stmt}{tc:TT}(hc:PT X c tc)(ha:PSs X a t)(hb:PSs X b u):PS X (.If c a b pos) (zoj tc t u):=by
 intro pins s σ H D I h
 refine wpAny_If (thn (hc pins s σ H _ I h) fun d s1 ⟨H1,I1,q1⟩=>?_)
 cases d with
 | true=>exact ha pins s1 σ H1 D I1 q1
 | false=>exact hb pins s1 σ H1 D I1 q1
end
abbrev TG:=V->St->Hp->(St->Hp->Prop)->Prop
abbrev TGs:=List V->St->Hp->(St->Hp->Prop)->Prop
noncomputable def PG (X:Cx) (target:Expr) (t:TG):Prop:=
 ∀(pins:List (Addr × Obj)) (s:Shared) (σ:St) (H:Hp) (v:V) (u:Value) (Q:St->Hp->Prop),Inv X pins σ H s->RelV v u->t v σ H Q ->
  wpAny (model X.prog X.w) X.A (assign target X.env u) (fun _ s'=>∃σ' H',Inv X pins σ' H' s'/\Q σ' H') X.xe s
noncomputable def PGs (X:Cx) (ts:List Expr) (t:TGs):Prop:=
 ∀(pins:List (Addr × Obj)) (s:Shared) (σ:St) (H:Hp) (vs:List V) (us:List Value) (Q:St->Hp->Prop),Inv X pins σ H s->Vals vs us->t vs σ H Q ->
  wpAny (model X.prog X.w) X.A (assignInOrder ((assignEach ts X.env).map (·.2)) us) (fun _ s'=>∃σ' H',Inv X pins σ' H' s'/\Q σ' H') X.xe s
abbrev zeV:=V->V->V->Hp->(Hp->Prop)->Prop
noncomputable def zjS (X:Cx) (t:zeV):Prop:=
 ∀(pins:List (Addr × Obj)) (s:Shared) (σ:St) (H:Hp) (o i v:V) (ov iv u:Value) (Q:Hp->Prop),Inv X pins σ H s->RelV o ov->RelV i iv->RelV v u->t o i v H Q ->
  wpAny (model X.prog X.w) X.A (setItem ov iv u) (fun _ s'=>∃H',Inv X pins σ H' s'/\Q H') X.xe s
abbrev TIp:=V->V->Hp->VK->Prop
noncomputable def PIp (X:Cx) (op:Operator) (t:TIp):Prop:=
 ∀(pins:List (Addr × Obj)) (s:Shared) (σ:St) (H:Hp) (x y:V) (v u:Value) (Q:VK),Inv X pins σ H s->RelV x v->RelV y u->t x y H Q ->
  wpAny (model X.prog X.w) X.A (inplaceOp op v u) (EP X pins σ Q) X.xe s
section
variable {X:Cx}{pos:Pos}
abbrev zco(i:Nat):TG:=fun v σ H Q=>Q (σ.set i (some v)) H
theorem zal{i:Nat}{x:Str}(hN:X.N.Nodup)(hi:X.N[i]?=some x)(hx:Loc X.env.scope x)(hf:autoParam (X.fn x=true\/X.env.scope.names.lookup x=some .local) Internal.aut0._auto_1):PG X (.Name x pos) (zco i):=by
 intro pins s σ H v u Q I r h
 exact wpAny_assign_Name (zcJ I hN hi hx r (fun s' I'=>⟨_,H,I',h⟩) hf)
noncomputable def znv:TGs:=fun vs σ H Q=>vs=[]/\Q σ H
noncomputable def zkW (t:TG) (u:TGs):TGs:=fun vs σ H Q=>∃v r,vs=v :: r/\t v σ H fun σ' H'=>u r σ' H' Q
theorem zg8:PGs X [] znv:=by
 intro pins s σ H vs us Q I r h
 obtain⟨e,h⟩:=h
 subst e
 cases r
 exact assignInOrder_nil ⟨σ,H,I,h⟩
theorem zcK{e:Expr}{es:List Expr}{t:TG}{u:TGs}(h1:PG X e t)(h2:PGs X es u)
  (hs:autoParam ((assignEach (e :: es) X.env).map (·.2)=assign e X.env :: (assignEach es X.env).map (·.2)) Internal.aut2._auto_1):PGs X (e :: es) (zkW t u):=by
 intro pins s σ H vs us Q I r h
 obtain⟨v,vr,e1,h⟩:=h
 subst e1
 cases r with
 | cons r rr=>
  rw[hs]
  refine assignInOrder_cons (thn (h1 pins s σ H _ _ _ I r h) fun _ s1 zz=>?_)
  obtain⟨σ1,H1,I1,q1⟩:=zz
  exact h2 pins s1 σ1 H1 _ _ Q I1 rr q1
noncomputable def zgn (K:Fg) (n:Nat) (t:TGs):TG:=fun v σ H Q=>∃a xs,v=.ref a/\SqT K H a xs/\xs.length=n/\t xs σ H Q
theorem zjf{es:List Expr}{k:Nat}{t:TGs}{n:Nat}(hc:X.calm=true)(h:PGs X es t)
  (hn:autoParam ((assignEach es X.env).length=n) Internal.aut2._auto_1) (hst:autoParam ((assignEach es X.env).findIdx? (·.1)=none) Internal.aut2._auto_1):PG X (.Tuple es k pos) (zgn X.K n t):=by
 intro pins s σ H v u Q I r hw
 obtain⟨a,xs,e1,hq,hl,hw⟩:=hw
 subst e1
 cases r
 obtain⟨its,rv,ht,hz⟩:=I.tuple hq
 refine assign_Tuple_tuple (I.ok.hd hc) ht (by simp[hn,<- hl,rv.length]) hst fun h' hx=>?_
 have I1:Inv X pins σ H { s with heap:=h' }:=I.kept (t':=s.toks) fun b o e=>hx b o (ym (Heap.lt_size e)) e
 exact h pins _ σ H xs _ Q I1 (by simpa using rv) hw
abbrev zoe(to ti:TE)(t:zeV):TG:=fun v σ H Q=>to σ H fun o H1=>ti σ H1 fun i H2=>t o i v H2 fun H3=>Q σ H3
theorem zaW{o i:Expr}{to ti:TE}{t:zeV}(ho:PE X o to)(hi:PE X i ti)(hs:zjS X t)
  (ha:autoParam (∀v,assign (.Subscript o i pos) X.env v=(do
   let ov <- holding [v] (eval o X.env)
   let iv <- holding [v,ov] (eval i X.env)
   standAt pos
   holding [v,ov,iv] (setItem ov iv v)
   release [v,ov,iv] [])) Internal.aut3._auto_1):PG X (.Subscript o i pos) (zoe to ti t):=by
 intro pins s σ H v u Q I r h
 rw[ha]
 refine wpAny_bind (wpAny_holding (thn (ho pins s σ H _ I h) fun ov s1 zz=>?_))
 obtain⟨x,H1,I1,r1,q1⟩:=zz
 refine wpAny_bind (wpAny_holding (thn (hi pins s1 σ H1 _ I1 q1) fun iv s2 zz=>?_))
 obtain⟨y,H2,I2,r2,q2⟩:=zz
 refine wpAny_bind (wpAny_standAt (wpAny_bind (wpAny_holding (thn (hs pins s2 σ H2 x y v ov iv u _ I2 r1 r2 r q2) fun _ s3 ⟨H3,I3,q3⟩=>?_))))
 exact wpAny_release ⟨σ,H3,I3,q3⟩
abbrev zjy(te:TE)(g:TG):TS:=fun D σ H=>te σ H fun x H1=>g x σ H1 D.nx
theorem zaX{tg e:Expr}{te:TE}{g:TG}(he:PE X e te)(hg:PG X tg g)(hs:autoParam (swapsWithSole [tg] e pos.line X.env=pure false) Internal.aut2._auto_1)(hw:autoParam (swappedStores [tg] e X.env=pure none) Internal.aut2._auto_1)
  (h1:autoParam ((assignEach [tg] X.env).map (·.2)=[assign tg X.env]) Internal.aut2._auto_1):PS X (.Assign [tg] e pos) (zjy te g):=by
 intro pins s σ H D I h
 refine wpAny_Assign_stores (thn (he pins s σ H _ I h) fun v s1 zz=>?_) hs hw
 obtain⟨x,H1,I1,r1,q1⟩:=zz
 rw[h1]
 exact thn (hg pins s1 σ H1 x v _ I1 r1 q1) fun _ s2 q=>q
theorem zw{i:Nat}{x:Str}{e:Expr}{te:TE}{pos':Pos}(hN:X.N.Nodup)(hi:X.N[i]?=some x)(hx:Loc X.env.scope x)(he:PE X e te)(hs:autoParam (swapsWith e (some (.Name x pos')) pos.line X.env=pure false) Internal.aut2._auto_1)(hf:autoParam (X.fn x=true\/X.env.scope.names.lookup x=some .local) Internal.aut0._auto_1) :
  PS X (.Assign [.Name x pos'] e pos) (zjy te (zco i)):=by
 intro pins s σ H D I h
 refine wpAny_Assign_Name (thn (he pins s σ H _ I h) fun v s1 zz=>?_) hs
 obtain⟨y,H1,I1,r1,q1⟩:=zz
 exact zcJ I1 hN hi hx r1 (fun s2 I2=>⟨_,H1,I2,q1⟩) hf
noncomputable def zkK (to ti te:TE) (tget:V->V->Hp->VK->Prop) (tip:TIp) (tset:zeV):TS:=fun D σ H=>to σ H fun o H1=>ti σ H1 fun i H2=>tget o i H2 fun x H3=>te σ H3 fun y H4=>tip x y H4 fun z H5=>tset o i z H5 fun H6=>D.nx σ H6
noncomputable def zcu (X:Cx) (t:V->V->Hp->VK->Prop):Prop:=
 ∀(pins:List (Addr × Obj)) (s:Shared) (σ:St) (H:Hp) (o i:V) (ov iv:Value) (Q:VK),Inv X pins σ H s->RelV o ov->RelV i iv->t o i H Q ->
  wpAny (model X.prog X.w) X.A (getItem ov iv) (EP X pins σ Q) X.xe s
theorem zbv{o i e:Expr}{to ti te:TE}{tget:V->V->Hp->VK->Prop}{tip:TIp}{tset:zeV}{op:Operator}{tpos:Pos}(ho:PE X o to)(hi:PE X i ti)(hg:zcu X tget)(he:PE X e te)(hp:PIp X op tip)(hs:zjS X tset)
  (ha:autoParam (∀ov iv new,augStore i ov iv new=(do holding [new,ov,iv] (setItem ov iv new);release [new,ov,iv] [];pure .next)) Internal.aut4._auto_1):PS X (.AugAssign (.Subscript o i tpos) op e pos) (zkK to ti te tget tip tset):=by
 intro pins s σ H D I h
 refine wpAny_AugAssign_SubscriptAny (thn (ho pins s σ H _ I h) fun ov s1 zz=>?_) ha
 obtain⟨x1,H1,I1,r1,q1⟩:=zz
 refine thn (hi pins s1 σ H1 _ I1 q1) fun iv s2 zz=>?_
 obtain⟨x2,H2,I2,r2,q2⟩:=zz
 refine thn (hg pins s2 σ H2 x1 x2 ov iv _ I2 r1 r2 q2) fun old s3 zz=>?_
 obtain⟨x3,H3,I3,r3,q3⟩:=zz
 refine thn (he pins s3 σ H3 _ I3 q3) fun v s4 zz=>?_
 obtain⟨x4,H4,I4,r4,q4⟩:=zz
 refine thn (hp pins s4 σ H4 x3 x4 old v _ I4 r3 r4 q4) fun new s5 zz=>?_
 obtain⟨x5,H5,I5,r5,q5⟩:=zz
 exact thn (hs pins s5 σ H5 x1 x2 x5 ov iv new _ I5 r1 r2 r5 q5) fun _ s6 ⟨H6,I6,q6⟩=>⟨σ,H6,I6,q6⟩
noncomputable def ipI (f:Int->Int->Int):TIp:=fun x y H Q=>∃i j,x=.int i/\y=.int j/\Q (.int (f i j)) H
theorem zdn:PIp X .Add (ipI fun i j=>i+j):=by
 intro pins s σ H x y v u Q I r1 r2 h
 obtain⟨i,j,e1,e2,q⟩:=h
 subst e1;subst e2
 obtain⟨t,rfl⟩:=r1
 obtain⟨t',rfl⟩:=r2
 exact iadd_int ⟨.int _,H,I.tok _,⟨_,rfl⟩,q⟩
theorem zgG:PIp X .Sub (ipI fun i j=>i-j):=by
 intro pins s σ H x y v u Q I r1 r2 h
 obtain⟨i,j,e1,e2,q⟩:=h
 subst e1;subst e2
 obtain⟨t,rfl⟩:=r1
 obtain⟨t',rfl⟩:=r2
 exact isub_int ⟨.int _,H,I.tok _,⟨_,rfl⟩,q⟩
end
section
variable {X:Cx}{pos:Pos}
noncomputable def zmg (c:TT) (tb:TS):TS:=fun D σ H=>∃W:Nat->St->Hp->Prop,(∃m,W m σ H)/\∀m σ H,W m σ H ->
 c σ H fun b H1=>if b=true then ∃N:St->Hp->Prop,(∀σ' H',N σ' H'->∃m',m'<m/\W m' σ' H')/\tb { D with nx:=N,ct:=N,bk:=D.nx } σ H1 else D.nx σ H1
theorem zgt{c:Expr}{body:List Stmt}{tc:TT}{tb:TS}(hp:PassesOwn (model X.prog X.w) X.A X.env X.xe)(hc:PT X c tc)(hb:PSs X body tb):PS X (.While c body [] pos) (zmg tc tb):=by
 intro pins s σ H D I h
 obtain⟨W,⟨m0,w0⟩,turn⟩:=h
 refine wpAny_While (codeAny_whileLoop (fun n s'=>∃σ' H',Inv X pins σ' H' s'/\W n σ' H') ?_ m0 ⟨σ,H,I,w0⟩)
 rintro n s1 ⟨σ1,H1,I1,w1⟩
 refine wpAny_passesOwn hp (thn (hc pins s1 σ1 H1 _ I1 (turn n σ1 H1 w1)) fun b s2 ⟨H2,I2,q2⟩=>?_)
 cases b with
 | true=>
  obtain⟨N,hN,q2⟩:=q2
  rw[if_pos rfl]
  refine wpAny_passesOwn hp (thn (hb pins s2 σ1 H2 _ I2 q2) fun f s3 q3=>?_)
  cases f with
  | next=>
   obtain⟨σ3,H3,I3,n3⟩:=q3
   obtain⟨m',hm,w3⟩:=hN σ3 H3 n3
   exact⟨m',hm,σ3,H3,I3,w3⟩
  | cont=>
   obtain⟨σ3,H3,I3,n3⟩:=q3
   obtain⟨m',hm,w3⟩:=hN σ3 H3 n3
   exact⟨m',hm,σ3,H3,I3,w3⟩
  | brk=>exact q3
  | ret v=>exact q3
 | false=>
  rw[if_neg yj]
  exact wpAny_execs_nil ⟨σ1,H2,I2,q2⟩
end
set_option genInjectivity false in
set_option genSizeOf false in
structure It where
 go:Nat->Hp->Prop
 yld:Nat->Hp->V->Hp->Prop
 stop:Nat->Hp->Prop
noncomputable def zbD (X:Cx) (pins:List (Addr × Obj)) (H:Hp) (b:Addr):Prop:=
 H b=none/\b≠X.env.locals/\b∉X.fs/\(b∈X.ex\/X.s₀.heap.objs.size<=b)/\(∀x c,X.env.cells.lookup x=some c->c≠b)/\∀p∈X.pn++pins,p.1≠b
theorem Inv.fpOk{X:Cx}{pins:List (Addr × Obj)}{σ:St}{H H':Hp}{s:Shared}{b:Addr}(I:Inv X pins σ H s)(hb:s.heap.objs.size<=b)(hn:H' b=none):zbD X pins H' b:=by
 refine⟨hn,Nat.ne_of_gt (yo I.lt hb),I.nofs hb,.inr (yb I.sz hb),fun x c e z=>?_,fun p hp z=>?_⟩
 ·obtain⟨v,q⟩:=I.cell x c e
  exact absurd (yo q.lt (by rw[z];exact hb)) (yN _)
 ·exact absurd (yo (Heap.lt_size (I.pin p hp).1) (by rw[z];exact hb)) (yN _)
set_option genInjectivity false in
set_option genSizeOf false in
structure Turn(P:Program)(w:World)(K:Fg)(tg:Expr)(J:It)(fp:List Addr)(it:Addr)(tn:Nat->Heap->Prop):Prop where
 mem:it∈fp
 obj:∀i h,tn i h->∀b∈fp,∃o,h.get? b=some o/\∀v,o.data≠.cell v
 keep:∀i h h',tn i h->(∀b∈fp,∀o,h.get? b=some o->h'.get? b=some o)->tn i h'
 item:∀(X:Cx),X.prog=P->X.w=w->X.K=K->X.calm=true->∀(i:Nat) (pins:List (Addr × Obj)) (s:Shared) (σ:St) (H:Hp) (E:Value->Shared->Prop),Inv X pins σ H s->(∀b∈fp,zbD X pins H b)->tn i s.heap->J.go i H ->
  wpAny (model P w) X.A (pyNext (.ref it)) (fun r s1=>∃u,r=some u /\
   wpAny (model P w) X.A (letOwnedTupleGo tg (.ref it) u) (fun _ s2=>∃x H',Inv X pins σ H' s2/\RelV x u/\J.yld i H x H'/\tn (i+1) s2.heap/\∀b∈fp,H' b=none) E s1) E s
 done:∀(X:Cx),X.prog=P->X.w=w->X.K=K->X.calm=true->∀(i:Nat) (pins:List (Addr × Obj)) (s:Shared) (σ:St) (H:Hp) (E:Value->Shared->Prop),Inv X pins σ H s->(∀b∈fp,zbD X pins H b)->tn i s.heap->J.stop i H ->
  wpAny (model P w) X.A (pyNext (.ref it)) (fun r s1=>r=none/\Inv X pins σ H s1) E s
 self:∀(A:Around) (i:Nat) (s:Shared) (Q:Value->Shared->Prop) (E:Value->Shared->Prop),tn i s.heap->Q (.ref it) s->wpAny (model P w) A (pyIter (.ref it)) Q E s
abbrev TI:=St->Hp->(It->Hp->Prop)->Prop
noncomputable def PIE (X:Cx) (pins:List (Addr × Obj)) (σ:St) (tg:Expr) (R:It->Hp->Prop) (itv:Value) (s2:Shared):Prop:=
 ∃(it:Addr) (fp:List Addr) (tn:Nat->Heap->Prop) (J:It) (H':Hp),itv=.ref it/\Inv X pins σ H' s2/\Turn X.prog X.w X.K tg J fp it tn/\tn 0 s2.heap/\(∀b∈fp,zbD X pins H' b)/\R J H'
noncomputable def PI (X:Cx) (tg iter:Expr) (wi:TI):Prop:=
 ∀(pins:List (Addr × Obj)) (s:Shared) (σ:St) (H:Hp) (R:It->Hp->Prop),Inv X pins σ H s->wi σ H R ->
  wpAny (model X.prog X.w) X.A (eval iter X.env) (fun v s1=>wpAny (model X.prog X.w) X.A (pyIter v) (PIE X pins σ tg R) X.xe s1) X.xe s
theorem zhG{M:Model}{A:Around}{E:Value->Shared->Prop}{s:Shared}{tg:Expr}{it:Addr}{u:Value}{o:Obj}{n:String}{vs:Array Value}{Q:Unit->Shared->Prop}(ho:s.heap.get? it=some o)(hc:o.cls=.type n)(hd:o.data=.fields vs)
  (hn:["enumerate", "zip", "dict_itemiterator", "dict_reverseitemiterator", "odict_iterator", "itertools.zip_longest", "itertools.pairwise"].contains n=false) (hQ:Q () s):wpAny M A (letOwnedTupleGo tg (.ref it) u) Q E s:=by
 unfold letOwnedTupleGo
 cases tg<;>first
  | exact wpAny_pure hQ
  | (cases u<;>first
    | exact wpAny_pure hQ
    | (refine wpAny_bind (wpAny_load ho ?_)
       rw[hc,hd]
       show wpAny M A (if(["enumerate", "zip", "dict_itemiterator", "dict_reverseitemiterator", "odict_iterator", "itertools.zip_longest", "itertools.pairwise"].contains n&&vs[0]? == some (rawInt _))=true then _ else _) Q E s
       rw[if_neg (by intro h;rw[hn,Bool.false_and]at h;cases h)]
       exact wpAny_pure hQ))
noncomputable def Itl (K:Fg) (a:Addr):It:=
 ⟨fun i H=>∃xs x,SqL K H a xs/\xs[i]?=some x,fun i H x H'=>H'=H/\∀xs,SqL K H a xs->xs[i]?=some x,fun i H=>∃xs,SqL K H a xs/\xs.length<=i⟩
noncomputable def Itt (K:Fg) (a:Addr):It:=
 ⟨fun i H=>∃xs x,SqT K H a xs/\xs[i]?=some x,fun i H x H'=>H'=H/\∀xs,SqT K H a xs->xs[i]?=some x,fun i H=>∃xs,SqT K H a xs/\xs.length<=i⟩
noncomputable def Itr (lo:Int) (n:Nat):It:=⟨fun i _=>i<n,fun i H x H'=>H'=H/\x=.int (lo+i),fun i _=>n<=i⟩
theorem zil{P:Program}{w:World}{K:Fg}{tg:Expr}(a it:Addr):Turn P w K tg (Itl K a) [it] it (fun i h=>h.IsListIter it a i) where
 mem:=by simp
 obj:=fun i h st b hb=>by
  have e:b=it:=by simpa using hb
  subst e
  obtain⟨o,e,c,d⟩:=st
  exact⟨o,e,fun v z=>by rw[d]at z;cases z⟩
 keep:=fun i h h' st k=>st.at fun o e=>k it (by simp) o e
 item:=by
  intro X hP hw hK hc i pins s σ H E I hf st hg
  subst hP hw hK
  obtain⟨xs,x,hq,hx⟩:=hg
  obtain⟨its,rv,p,hz⟩:=I.list hq
  obtain⟨u,hu,ru⟩:=rv.get hx
  obtain⟨f0,f1,f2,f3,f4,f5⟩:=hf it (by simp)
  refine wpAny_pyNext_list_item st p.isList (x:=u) (by simpa using hu) fun h' st' sb=>?_
  have I1:Inv X pins σ H { s with heap:=h' }:=I.turned (t':=s.toks) (fun b o hb e=>(sb.2 b hb).trans e) f0 f1 f3 f4 f5
  obtain⟨o,e,c,d⟩:=id st'
  exact⟨u,rfl,zhG (s:={ s with heap:=h' }) e c d (by decide) ⟨x,H,I1,ru,⟨rfl,fun ys hy=>by rw[I.list_inj hy hq];exact hx⟩,st',fun b hb=>(hf b hb).1⟩⟩
 done:=by
  intro X hP hw hK hc i pins s σ H E I hf st hg
  subst hP hw hK
  obtain⟨xs,hq,hx⟩:=hg
  obtain⟨its,rv,p,hz⟩:=I.list hq
  obtain⟨f0,f1,f2,f3,f4,f5⟩:=hf it (by simp)
  have hl:=rv.length
  exact wpAny_pyNext_list_end (I.ok.hd hc) st p.isList (by simp;omega) fun h' eb=>⟨rfl,I.turned (t':=s.toks) (fun b o hb e=>eb b o hb e) f0 f1 f3 f4 f5⟩
 self:=fun _ _ _ _ _ st h=>wpAny_pyIter_listiter st h
theorem zhS{P:Program}{w:World}{K:Fg}{tg:Expr}(a it:Addr):Turn P w K tg (Itt K a) [it] it (fun i h=>h.IsTupleIter it a i) where
 mem:=by simp
 obj:=fun i h st b hb=>by
  have e:b=it:=by simpa using hb
  subst e
  obtain⟨o,e,c,d⟩:=st
  exact⟨o,e,fun v z=>by rw[d]at z;cases z⟩
 keep:=fun i h h' st k=>st.at fun o e=>k it (by simp) o e
 item:=by
  intro X hP hw hK hc i pins s σ H E I hf st hg
  subst hP hw hK
  obtain⟨xs,x,hq,hx⟩:=hg
  obtain⟨its,rv,p,hz⟩:=I.tuple hq
  obtain⟨u,hu,ru⟩:=rv.get hx
  obtain⟨f0,f1,f2,f3,f4,f5⟩:=hf it (by simp)
  refine wpAny_pyNext_tuple_item st (show s.heap.IsTuple a its.toArray from p) (x:=u) (by simpa using hu) fun h' st' sb=>?_
  have I1:Inv X pins σ H { s with heap:=h' }:=I.turned (t':=s.toks) (fun b o hb e=>(sb.2 b hb).trans e) f0 f1 f3 f4 f5
  obtain⟨o,e,c,d⟩:=id st'
  exact⟨u,rfl,zhG (s:={ s with heap:=h' }) e c d (by decide) ⟨x,H,I1,ru,⟨rfl,fun ys hy=>by rw[I.tuple_inj hy hq];exact hx⟩,st',fun b hb=>(hf b hb).1⟩⟩
 done:=by
  intro X hP hw hK hc i pins s σ H E I hf st hg
  subst hP hw hK
  obtain⟨xs,hq,hx⟩:=hg
  obtain⟨its,rv,p,hz⟩:=I.tuple hq
  obtain⟨f0,f1,f2,f3,f4,f5⟩:=hf it (by simp)
  have hl:=rv.length
  exact wpAny_pyNext_tuple_end (I.ok.hd hc) st (show s.heap.IsTuple a its.toArray from p) (by simp;omega) fun h' eb=>⟨rfl,I.turned (t':=s.toks) (fun b o hb e=>eb b o hb e) f0 f1 f3 f4 f5⟩
 self:=fun _ _ _ _ _ st h=>wpAny_pyIter_tupleiter st h
theorem zhq{P:Program}{w:World}{K:Fg}{tg:Expr}(it:Addr)(lo:Int)(n:Nat):Turn P w K tg (Itr lo n) [it] it (fun i h=>IsRangeIter h it (lo+(i:Nat)*1) ((n:Int)-(i:Nat)) 1) where
 mem:=by simp
 obj:=fun i h st b hb=>by
  have e:b=it:=by simpa using hb
  subst e
  exact⟨_,st,fun v z=>by
   have z':Data.fields _=Data.cell v:=z
   cases z'⟩
 keep:=fun i h h' st k=>k it (by simp) _ st
 item:=by
  intro X hP hw hK hc i pins s σ H E I hf st hg
  subst hP hw hK
  obtain⟨f0,f1,f2,f3,f4,f5⟩:=hf it (by simp)
  have W:=Walks.range (prog:=X.prog) (w:=X.w) (I.ok.hd hc) it lo 1 n
  refine W.item i s _ _ hg st fun v h' tk hv st' kk=>?_
  obtain⟨t,rfl⟩:=hv
  have I1:Inv X pins σ H { s with heap:=h',toks:=tk }:=I.turned (fun b o hb e=>kk b o (by simpa using hb) e) f0 f1 f3 f4 f5
  refine⟨_,rfl,zhG (s:={ s with heap:=h',toks:=tk }) (n := "range_iterator") st' rfl rfl (by decide) ⟨.int (lo+i),H,I1,⟨t,?_⟩,⟨rfl,rfl⟩,st',fun b hb=>(hf b hb).1⟩⟩
  rw[Int.mul_one]
 done:=by
  intro X hP hw hK hc i pins s σ H E I hf st hg
  subst hP hw hK
  obtain⟨f0,f1,f2,f3,f4,f5⟩:=hf it (by simp)
  exact wpAny_pyNext_range_end (I.ok.hd hc) st (by have:n<=i:=hg;omega) fun h' eb=>⟨rfl,I.turned (t':=s.toks) (fun b o hb e=>eb b o hb e) f0 f1 f3 f4 f5⟩
 self:=fun _ _ _ _ _ st h=>wpAny_pyIter_rangeiter st h
section
variable {X:Cx}{tg:Expr}
noncomputable def zaJ (K:Fg) (tl:TE):TI:=fun σ H R=>tl σ H fun x H1=>∃a,x=.ref a/\(∃xs,SqL K H1 a xs)/\R (Itl K a) H1
noncomputable def zhF (K:Fg) (tl:TE):TI:=fun σ H R=>tl σ H fun x H1=>∃a,x=.ref a/\(∃xs,SqT K H1 a xs)/\R (Itt K a) H1
theorem zaj{l:Expr}{tl:TE}(hl:PE X l tl):PI X tg l (zaJ X.K tl):=by
 intro pins s σ H R I h
 refine thn (hl pins s σ H _ I h) fun v s1 zz=>?_
 obtain⟨x,H1,I1,r1,q1⟩:=zz
 obtain⟨a,e,⟨xs,hq⟩,q⟩:=q1
 subst e
 cases r1
 obtain⟨its,rv,p,hz⟩:=I1.list hq
 refine wpAny_pyIter_list p.isList ?_
 refine⟨s1.heap.objs.size,[s1.heap.objs.size],_,_,H1,rfl,I1.kept (t':=s1.toks) fun b o e=>Heap.get?_push_of_some _ e,zil a _,⟨_,Heap.get?_push_size _ rfl,rfl,rfl⟩,fun b hb=>?_,q⟩
 have e:b=s1.heap.objs.size:=by simpa using hb
 subst e
 exact I1.fpOk (yf _) (I1.hok.fresh (yf _))
theorem zjj{l:Expr}{tl:TE}(hl:PE X l tl):PI X tg l (zhF X.K tl):=by
 intro pins s σ H R I h
 refine thn (hl pins s σ H _ I h) fun v s1 zz=>?_
 obtain⟨x,H1,I1,r1,q1⟩:=zz
 obtain⟨a,e,⟨xs,hq⟩,q⟩:=q1
 subst e
 cases r1
 obtain⟨its,rv,p,hz⟩:=I1.tuple hq
 refine wpAny_pyIter_tuple (show s1.heap.IsTuple a its.toArray from p) ?_
 refine⟨s1.heap.objs.size,[s1.heap.objs.size],_,_,H1,rfl,I1.kept (t':=s1.toks) fun b o e=>Heap.get?_push_of_some _ e,zhS a _,⟨_,Heap.get?_push_size _ rfl,rfl,rfl⟩,fun b hb=>?_,q⟩
 have e:b=s1.heap.objs.size:=by simpa using hb
 subst e
 exact I1.fpOk (yf _) (I1.hok.fresh (yf _))
theorem zjX{pins:List (Addr × Obj)}{σ:St}{H:Hp}{s:Shared}{R:It->Hp->Prop}{E:Value->Shared->Prop}{lo hi:Int}{t u v:Tok}{tk:Nat}(I:Inv X pins σ H s)(h1:-(2 ^ 62)<=lo)(h2:lo<2 ^ 62)(h3:-(2 ^ 62)<=hi)(h4:hi<2 ^ 62)
  (q:R (Itr lo (hi-lo).toNat) H):wpAny (model X.prog X.w) X.A (pyIter (.ref s.heap.objs.size)) (PIE X pins σ tg R) E { s with heap:=s.heap.push { cls:=.type "range",data:=.fields #[.int lo t,.int hi u,.int 1 v] },toks:=tk }:=by
 refine wpAny_pyIter_range (IsRange.new ..) (small_one h1 h2 h3 h4) ?_
 have I1:Inv X pins σ H { s with heap:=s.heap.push { cls:=.type "range",data:=.fields #[.int lo t,.int hi u,.int 1 v] },toks:=tk }:=I.kept fun b o e=>Heap.get?_push_of_some _ e
 refine⟨(s.heap.push { cls:=.type "range",data:=.fields #[.int lo t,.int hi u,.int 1 v] }).objs.size,[(s.heap.push { cls:=.type "range",data:=.fields #[.int lo t,.int hi u,.int 1 v] }).objs.size],_,_,H,rfl,
  I1.kept (t':=tk) fun b o e=>Heap.get?_push_of_some _ e,zhq _ lo (hi-lo).toNat,?_,fun b hb=>?_,q⟩
 ·have e1:lo+((0:Nat):Int)*1=lo:=by simp
  have e2:(((hi-lo).toNat:Nat):Int)-((0:Nat):Int)=Builtin.Range.rangeSize lo hi 1:=by rw[rangeSize_one];split<;>omega
  show IsRangeIter _ _ (lo+((0:Nat):Int)*1) ((((hi-lo).toNat:Nat):Int)-((0:Nat):Int)) 1
  rw[e1,e2]
  exact Heap.get?_push_size _ rfl
 ·have e:b=(s.heap.push { cls:=.type "range",data:=.fields #[.int lo t,.int hi u,.int 1 v] }).objs.size:=by simpa using hb
  subst e
  exact I1.fpOk (yf _) (I1.hok.fresh (yf _))
noncomputable def zkP (ta:TA):TI:=fun σ H R=>ta σ H fun vs H1=>∃j:Int,vs=[.int j]/\-(2 ^ 62)<=j/\j<2 ^ 62/\R (Itr 0 j.toNat) H1
theorem zaB{a:Expr}{ta:TA}{p pos:Pos}(hg:Gl X "range")(hm:X.mg "range" = none)(ha:PA X [a] ta)(hs:autoParam (starEach [a] X.env=[(false,eval a X.env)]) Internal.aut2._auto_1):PI X tg (.Call (.Name "range" p) [a] [] pos) (zkP ta):=by
 intro pins s σ H R I h
 refine Call_ (zbT I hg hm boot_range (y4 (thn (ha pos pins s σ H _ I h) fun us s1 ⟨vs,H1,I1,r1,q1⟩=>?_) hs rfl))
 obtain⟨j,e,q1,q2,q⟩:=q1
 subst e
 cases r1 with
 | cons r rr=>
  cases rr
  obtain⟨t,rfl⟩:=r
  exact call_range_1 (zjX I1 (by omega) (by omega) q1 q2 (by simpa using q))
noncomputable def zmq (wi:TI) (g:TG) (tb:TS):TS:=fun D σ H=>wi σ H fun J H1=>∃W:Nat->Nat->St->Hp->Prop,(∃m,W 0 m σ H1)/\∀i m σ H,W i m σ H ->
 (J.stop i H/\D.nx σ H)\/(J.go i H/\∃N:St->Hp->Prop,(∀σ' H',N σ' H'->∃m',m'<m/\W (i+1) m' σ' H')/\∀x H',J.yld i H x H'->g x σ H' fun σ2 H2=>tb { D with nx:=N,ct:=N,bk:=D.nx } σ2 H2)
noncomputable def zdf (fp:List Addr) (h:Heap):List (Addr × Obj):=fp.filterMap fun b=>(h.get? b).map fun o=>(b,o)
theorem zb3{fp:List Addr}{h:Heap}{b:Addr}{o:Obj}(hb:b∈fp)(e:h.get? b=some o):(b,o)∈zdf fp h:=yaI.mpr ⟨b,hb,by rw[e];rfl⟩
theorem zi0{fp:List Addr}{h:Heap}{p:Addr × Obj}(hp:p∈zdf fp h):p.1∈fp/\h.get? p.1=some p.2:=by
 obtain⟨b,hb,e⟩:=yaI.mp hp
 cases q:h.get? b with
 | none=>rw[q]at e;cases e
 | some o=>
  rw[q]at e
  have e':(b,o)=p:=yn e
  subst e'
  exact⟨hb,q⟩
theorem Inv.pinned{pins:List (Addr × Obj)}{σ:St}{H:Hp}{s:Shared}{fp:List Addr}(I:Inv X pins σ H s)(hf:∀b∈fp,zbD X pins H b)(ho:∀b∈fp,∃o,s.heap.get? b=some o/\∀v,o.data≠.cell v):Inv X (pins++zdf fp s.heap) σ H s:=
 I.pins_of fun p hp=>(yu.mp hp).elim (fun z=>I.pin p (yv _ z)) fun z=>by
  obtain⟨hb,e⟩:=zi0 z
  obtain⟨f0,f1,f2,_⟩:=hf p.1 hb
  obtain⟨o,e',d⟩:=ho p.1 hb
  rw[e]at e';cases e'
  exact⟨e,f0,f1,f2,d⟩
theorem Inv.unpinned{pins pl:List (Addr × Obj)}{σ:St}{H:Hp}{s:Shared}(I:Inv X (pins++pl) σ H s):Inv X pins σ H s:=I.pins_of fun p hp=>I.pin p (yv _ (yO _ hp))
theorem zaS{iter:Expr}{body:List Stmt}{wi:TI}{g:TG}{tb:TS}{pos:Pos}(hp:PassesOwn (model X.prog X.w) X.A X.env X.xe)(hc:X.calm=true)(hi:PI X tg iter wi)(hg:PG X tg g)(hb:PSs X body tb)
  (hs:autoParam (∀x,foldedSetIterable iter X.env x=pure x) Internal.aut3._auto_1):PS X (.For tg iter body [] pos) (zmq wi g tb):=by
 intro pins s σ H D I h
 refine wpAny_For (thn (hi pins s σ H _ I h) fun v s1 h1=>thn h1 fun itv s2 h2=>?_) hs
 obtain⟨it,fp,tn,J,H2,e,I2,T,st2,f2,W,⟨m0,w0⟩,turn⟩:=h2
 subst e
 -- what stays true of the iterator's objects through the loop
 have stat:∀{H':Hp},(∀b∈fp,H' b=none)->∀b∈fp,zbD X pins H' b:=fun hn b hb=>⟨hn b hb,(f2 b hb).2⟩
 refine codeAny_forLoop_any (fun n s'=>∃i σ' H',Inv X pins σ' H' s'/\tn i s'.heap/\(∀b∈fp,H' b=none)/\W i n σ' H') ?_ m0 ⟨0,σ,H2,I2,st2,fun b hb=>(f2 b hb).1,w0⟩
 rintro n s3 ⟨i,σ3,H3,I3,st3,fr3,w3⟩
 rcases turn i n σ3 H3 w3 with⟨stop,qn⟩ | ⟨go,N,hN,step⟩
 ·refine wpAny_passesOwn hp (thn (T.done X rfl rfl rfl hc i pins s3 σ3 H3 X.xe I3 (stat fr3) st3 stop) fun r s4 ⟨hr,I4⟩=>?_)
  subst hr
  exact wpAny_execs_nil ⟨σ3,H3,I4,qn⟩
 ·refine wpAny_passesOwn hp (thn (T.item X rfl rfl rfl hc i pins s3 σ3 H3 X.xe I3 (stat fr3) st3 go) fun r s4 ⟨u,hr,h4⟩=>?_)
  subst hr
  refine wpAny_passesOwn hp (thn h4 fun _ s5 zz=>?_)
  obtain⟨x,H5,I5,r5,y5,st5,fr5⟩:=zz
  have I5':=I5.pinned (stat fr5) (T.obj _ _ st5)
  refine wpAny_passesOwn hp (thn (hg _ s5 σ3 H5 x u _ I5' r5 (step x H5 y5)) fun _ s6 zz=>?_)
  obtain⟨σ6,H6,I6,q6⟩:=zz
  refine wpAny_passesOwn hp (thn (hb _ s6 σ6 H6 _ I6 q6) fun f s7 q7=>?_)
  have again:∀{σ7:St} {H7:Hp},Inv X (pins++zdf fp s5.heap) σ7 H7 s7->N σ7 H7->∃m,m<n/\∃i σ' H',Inv X pins σ' H' s7/\tn i s7.heap/\(∀b∈fp,H' b=none)/\W i m σ' H':=fun {σ7 H7} I7 n7=>by
   obtain⟨m',hm,w7⟩:=hN σ7 H7 n7
   refine⟨m',hm,i+1,σ7,H7,I7.unpinned,T.keep _ _ _ st5 fun b hb o e=>(I7.pin (b,o) (yv _ (yv _ (zb3 hb e)))).1,fun b hb=>?_,w7⟩
   obtain⟨o,e,d⟩:=T.obj _ _ st5 b hb
   exact(I7.pin (b,o) (yv _ (yv _ (zb3 hb e)))).2.1
  cases f with
  | next=>obtain⟨σ7,H7,I7,n7⟩:=q7;exact again I7 n7
  | cont=>obtain⟨σ7,H7,I7,n7⟩:=q7;exact again I7 n7
  | brk=>obtain⟨σ7,H7,I7,q7⟩:=q7;exact⟨σ7,H7,I7.unpinned,q7⟩
  | ret v=>obtain⟨x7,σ7,H7,I7,r7,q7⟩:=q7;exact⟨x7,σ7,H7,I7.unpinned,r7,q7⟩
end
theorem zjx{K:Fg}{a:Addr}{xs:List V}{g:TG}{tb:TS}{D:Ends}{σ:St}{H:Hp}(Pv:Nat->St->Hp->Prop)(h0:Pv 0 σ H)(hl:∀i σ H,i<=xs.length->Pv i σ H->SqL K H a xs)
  (hs:∀i x σ H,xs[i]?=some x->Pv i σ H->g x σ H fun σ2 H2=>tb { D with nx:=Pv (i+1),ct:=Pv (i+1),bk:=D.nx } σ2 H2) (hd:∀σ H,Pv xs.length σ H->D.nx σ H) :
  ∃W:Nat->Nat->St->Hp->Prop,(∃m,W 0 m σ H)/\∀i m σ H,W i m σ H ->
   ((Itl K a).stop i H/\D.nx σ H)\/((Itl K a).go i H/\∃N:St->Hp->Prop,(∀σ' H',N σ' H'->∃m',m'<m/\W (i+1) m' σ' H')/\∀x H',(Itl K a).yld i H x H'->g x σ H' fun σ2 H2=>tb { D with nx:=N,ct:=N,bk:=D.nx } σ2 H2):=by
 refine⟨fun i m σ H=>m=xs.length-i/\i<=xs.length/\Pv i σ H,⟨xs.length,by simp,yT _,h0⟩,?_⟩
 rintro i m σ H ⟨rfl,hi,p⟩
 have q:=hl i σ H hi p
 by_cases hlt:i<xs.length
 ·refine .inr ⟨⟨xs,xs[i],q,by simp[hlt]⟩,Pv (i+1),fun σ' H' p'=>⟨xs.length-(i+1),by omega,rfl,hlt,p'⟩,fun x H' y=>?_⟩
  obtain⟨e,y⟩:=y
  subst e
  exact hs i x σ _ (y xs q) p
 ·have e:i=xs.length:=by omega
  subst e
  exact .inl ⟨⟨xs,q,yf _⟩,hd σ H p⟩
theorem zif{lo:Int}{n:Nat}{g:TG}{tb:TS}{D:Ends}{σ:St}{H:Hp}(Pv:Nat->St->Hp->Prop)(h0:Pv 0 σ H)
  (hs:∀i σ H,i<n->Pv i σ H->g (.int (lo+i)) σ H fun σ2 H2=>tb { D with nx:=Pv (i+1),ct:=Pv (i+1),bk:=D.nx } σ2 H2) (hd:∀σ H,Pv n σ H->D.nx σ H) :
  ∃W:Nat->Nat->St->Hp->Prop,(∃m,W 0 m σ H)/\∀i m σ H,W i m σ H ->
   ((Itr lo n).stop i H/\D.nx σ H)\/((Itr lo n).go i H/\∃N:St->Hp->Prop,(∀σ' H',N σ' H'->∃m',m'<m/\W (i+1) m' σ' H')/\∀x H',(Itr lo n).yld i H x H'->g x σ H' fun σ2 H2=>tb { D with nx:=N,ct:=N,bk:=D.nx } σ2 H2):=by
 refine⟨fun i m σ H=>m=n-i/\i<=n/\Pv i σ H,⟨n,by simp,yT _,h0⟩,?_⟩
 rintro i m σ H ⟨rfl,hi,p⟩
 by_cases hlt:i<n
 ·refine .inr ⟨hlt,Pv (i+1),fun σ' H' p'=>⟨n-(i+1),by omega,rfl,hlt,p'⟩,fun x H' y=>?_⟩
  obtain⟨e,y⟩:=y
  subst e y
  exact hs i σ _ hlt p
 ·have e:i=n:=by omega
  subst e
  exact .inl ⟨yf _,hd σ H p⟩
abbrev R2:=V->V->Hp->VK->Prop
noncomputable def OpR (X:Cx) (f:Value->Value->Sem Value) (r:R2):Prop:=
 ∀(pins:List (Addr × Obj)) (s:Shared) (σ:St) (H:Hp) (x y:V) (v u:Value) (Q:VK),Inv X pins σ H s->RelV x v->RelV y u->r x y H Q ->
  wpAny (model X.prog X.w) X.A (f v u) (EP X pins σ Q) X.xe s
noncomputable def UnR (X:Cx) (f:Value->Sem Value) (r:V->Hp->VK->Prop):Prop:=
 ∀(pins:List (Addr × Obj)) (s:Shared) (σ:St) (H:Hp) (x:V) (v:Value) (Q:VK),Inv X pins σ H s->RelV x v->r x H Q ->
  wpAny (model X.prog X.w) X.A (f v) (EP X pins σ Q) X.xe s
noncomputable def CallR (X:Cx) (f:Value) (r:List V->Hp->VK->Prop):Prop:=
 ∀(pins:List (Addr × Obj)) (s:Shared) (σ:St) (H:Hp) (xs:List V) (us:List Value) (Q:VK),Inv X pins σ H s->Vals xs us->r xs H Q ->
  wpAny (model X.prog X.w) X.A (call f us) (EP X pins σ Q) X.xe s
noncomputable def zot (X:Cx) (r:V->Hp->(Bool->Hp->Prop)->Prop):Prop:=
 ∀(pins:List (Addr × Obj)) (s:Shared) (σ:St) (H:Hp) (x:V) (v:Value) (Q:Bool->Hp->Prop),Inv X pins σ H s->RelV x v->r x H Q ->
  wpAny (model X.prog X.w) X.A (truthy v) (TP X pins σ Q) X.xe s
abbrev tOp(r:R2)(ta tb:TE):TE:=fun σ H Q=>ta σ H fun x H1=>tb σ H1 fun y H2=>r x y H2 Q
abbrev tUn(r:V->Hp->VK->Prop)(ta:TE):TE:=fun σ H Q=>ta σ H fun x H1=>r x H1 Q
noncomputable def rI (C:Int->Int->Prop) (g:Int->Int->V):R2:=fun x y H Q=>∃i j,x=.int i/\y=.int j/\C i j/\Q (g i j) H
noncomputable def rI0 (g:Int->Int->V):R2:=fun x y H Q=>∃i j,x=.int i/\y=.int j/\Q (g i j) H
noncomputable def rU (g:Int->V):V->Hp->VK->Prop:=fun x H Q=>∃i,x=.int i/\Q (g i) H
section
variable {X:Cx}{a b c:Expr}{ta tb tc:TE}{pos:Pos}
theorem zj4(ha:PE X a ta)(hb:PE X b tb){pins:List (Addr × Obj)}{s:Shared}{σ:St}{H:Hp}{R:V->V->Hp->Prop}(I:Inv X pins σ H s)
  (h:ta σ H fun x H1=>tb σ H1 fun y H2=>R x y H2) {Q:Value->Shared->Prop} {f:Value->Value->Sem Value}
  (hf:∀v u s2 x y H2,Inv X pins σ H2 s2->RelV x v->RelV y u->R x y H2->wpAny (model X.prog X.w) X.A (f v u) Q X.xe s2) :
  wpAny (model X.prog X.w) X.A (eval a X.env) (fun v s₁=>wpAny (model X.prog X.w) X.A (eval b X.env) (fun u s₂=>wpAny (model X.prog X.w) X.A (f v u) Q X.xe s₂) X.xe s₁) X.xe s:=by
 refine thn (ha pins s σ H _ I h) fun v s1 zz=>?_
 obtain⟨x,H1,I1,r1,q1⟩:=zz
 refine thn (hb pins s1 σ H1 _ I1 q1) fun u s2 zz=>?_
 obtain⟨y,H2,I2,r2,q2⟩:=zz
 exact hf v u s2 x y H2 I2 r1 r2 q2
theorem zo{op:Operator}{r:R2}(ho:OpR X (binaryOp op) r)(ha:PE X a ta)(hb:PE X b tb):PE X (.BinOp a op b pos) (tOp r ta tb):=by
 intro pins s σ H Q I h
 exact wpAny_BinOp (zj4 ha hb I h fun v u s2 x y H2 I2 rx ry q=>ho pins s2 σ H2 x y v u Q I2 rx ry q)
theorem zcL{op:UnaryOp}{r:V->Hp->VK->Prop}(ho:UnR X (unaryOp op) r)(ha:PE X a ta):PE X (.UnaryOp op a pos) (tUn r ta):=by
 intro pins s σ H Q I h
 exact UnaryOp_ (thn (ha pins s σ H _ I h) fun v s1 ⟨x,H1,I1,r1,q1⟩=>ho pins s1 σ H1 x v Q I1 r1 q1)
theorem opI{f:Value->Value->Sem Value}{C:Int->Int->Prop}{g:Int->Int->Int}
  (rule:∀(i j:Int) (t u:Tok) (s:Shared) (Q:Value->Shared->Prop) (E:Value->Shared->Prop),C i j->Q (.int (g i j) s.toks) { s with toks:=s.toks+1 }->wpAny (model X.prog X.w) X.A (f (.int i t) (.int j u)) Q E s) :
  OpR X f (rI C fun i j=>.int (g i j)):=by
 intro pins s σ H x y v u Q I rx ry h
 obtain⟨i,j,rfl,rfl,hc,q⟩:=h
 obtain⟨t,rfl⟩:=rx
 obtain⟨t',rfl⟩:=ry
 exact rule i j t t' s _ _ hc ⟨.int (g i j),H,I.tok _,⟨_,rfl⟩,q⟩
theorem zms{f:Value->Value->Sem Value}{g:Int->Int->Int}
  (rule:∀(i j:Int) (t u:Tok) (s:Shared) (Q:Value->Shared->Prop) (E:Value->Shared->Prop),Q (.int (g i j) s.toks) { s with toks:=s.toks+1 }->wpAny (model X.prog X.w) X.A (f (.int i t) (.int j u)) Q E s) :
  OpR X f (rI0 fun i j=>.int (g i j)):=by
 intro pins s σ H x y v u Q I rx ry h
 obtain⟨i,j,rfl,rfl,q⟩:=h
 obtain⟨t,rfl⟩:=rx
 obtain⟨t',rfl⟩:=ry
 exact rule i j t t' s _ _ ⟨.int (g i j),H,I.tok _,⟨_,rfl⟩,q⟩
theorem zjA{f:Value->Value->Sem Value}{g:Int->Int->Bool}
  (rule:∀(i j:Int) (t u:Tok) (s:Shared) (Q:Value->Shared->Prop) (E:Value->Shared->Prop),Q (.bool (g i j)) s->wpAny (model X.prog X.w) X.A (f (.int i t) (.int j u)) Q E s) :
  OpR X f (rI0 fun i j=>.bl (g i j)):=by
 intro pins s σ H x y v u Q I rx ry h
 obtain⟨i,j,rfl,rfl,q⟩:=h
 obtain⟨t,rfl⟩:=rx
 obtain⟨t',rfl⟩:=ry
 exact rule i j t t' s _ _ ⟨.bl (g i j),H,I,rfl,q⟩
noncomputable def zhH (i j:Int):Prop:=0<=j/\j<=1000000/\i.natAbs<2 ^ 64
theorem op_add:OpR X (binaryOp .Add) (rI0 fun i j=>.int (i+j)):=zms fun _ _ _ _ _ _ _ q=>add_int q
theorem zaC:OpR X (binaryOp .Sub) (rI0 fun i j=>.int (i-j)):=zms fun _ _ _ _ _ _ _ q=>sub_int q
theorem zlh:OpR X (binaryOp .Mod) (rI (fun _ j=>j≠0) fun i j=>.int (i.fmod j)):=opI fun _ _ _ _ _ _ _ hc q=>mod_int' hc q
theorem zdg:OpR X (binaryOp .Pow) (rI zhH fun i j=>.int (i ^ j.toNat)):=opI fun _ _ _ _ _ _ _ hc q=>pow_int_small hc.1 hc.2.1 hc.2.2 q
theorem unI{f:Value->Sem Value}{g:Int->Int}
  (rule:∀(i:Int) (t:Tok) (s:Shared) (Q:Value->Shared->Prop) (E:Value->Shared->Prop),Q (.int (g i) s.toks) { s with toks:=s.toks+1 }->wpAny (model X.prog X.w) X.A (f (.int i t)) Q E s) :
  UnR X f (rU fun i=>.int (g i)):=by
 intro pins s σ H x v Q I rx h
 obtain⟨i,rfl,q⟩:=h
 obtain⟨t,rfl⟩:=rx
 exact rule i t s _ _ ⟨.int (g i),H,I.tok _,⟨_,rfl⟩,q⟩
theorem zca:UnR X (unaryOp .USub) (rU fun i=>.int (-i)):=unI fun _ _ _ _ _ q=>neg_int q
end
noncomputable def scal:V->V->Bool
 | .non,.non=>true | .non,.int _=>true | .int _,.non=>true | .non,.bl _=>true | .bl _,.non=>true | .non,.str _=>true | .str _,.non=>true
 | .int _,.int _=>true | .bl _,.bl _=>true | .str _,.str _=>true | .byt _,.byt _=>true
 | .int _,.str _=>true | .str _,.int _=>true | .bl _,.str _=>true | .str _,.bl _=>true
 | _,_=>false
noncomputable def rEq:R2:=fun x y H Q=>scal x y=true/\Q (.bl (decide (x=y))) H
noncomputable def rNe:R2:=fun x y H Q=>scal x y=true/\Q (.bl (!decide (x=y))) H
theorem zg2{i j:Int}:decide (V.int i=V.int j)=(i == j):=by
 rw[yay]
 simp
theorem zjh{i j:Bool}:decide (V.bl i=V.bl j)=(i == j):=by
 rw[yay]
 simp
theorem zhc{i j:Str}:decide (V.str i=V.str j)=(i == j):=by
 rw[yay]
 simp
theorem zgZ{i j:Array UInt8}:decide (V.byt i=V.byt j)=(i.toList == j.toList):=by
 rw[yay]
 cases i
 cases j
 simp
section
variable {X:Cx}{a b c:Expr}{ta tb tc:TE}{pos:Pos}
theorem zS{pins:List (Addr × Obj)}{σ:St}{H:Hp}{s:Shared}{Q:VK}{k k':Bool}(I:Inv X pins σ H s)(q:Q (.bl k) H)(e:k=k'):EP X pins σ Q (.bool k') s:=by
 subst e
 exact⟨.bl k,H,I,rfl,q⟩
theorem znE:OpR X (compareOp .Eq) rEq:=by
 intro pins s σ H x y v u Q I rx ry h
 obtain⟨hs,q⟩:=h
 cases x with
 | non=>
  cases rx
  cases y with
  | non=>cases ry;exact PySem.EqNone.eq_none_none (zS I q (by simp))
  | bl j=>cases ry;exact PySem.EqNone.eq_none_bool (zS I q (by simp))
  | int j=>obtain⟨t',rfl⟩:=ry;exact PySem.EqNone.eq_none_int (zS I q (by simp))
  | str j=>obtain⟨t',rfl⟩:=ry;exact PySem.EqNone.eq_none_str (zS I q (by simp))
  | _=>exact absurd (show false=true from hs) yj
 | bl i=>
  cases rx
  cases y with
  | non=>cases ry;exact PySem.EqNone.eq_bool_none (zS I q (by simp))
  | bl j=>cases ry;exact eq_bool (zS I q zjh)
  | str j=>obtain⟨t',rfl⟩:=ry;exact PySem.EqMixed.eq_bool_str (zS I q (by simp))
  | _=>exact absurd (show false=true from hs) yj
 | int i=>
  obtain⟨t,rfl⟩:=rx
  cases y with
  | non=>cases ry;exact PySem.EqNone.eq_int_none (zS I q (by simp))
  | int j=>obtain⟨t',rfl⟩:=ry;exact eq_int (zS I q zg2)
  | str j=>obtain⟨t',rfl⟩:=ry;exact PySem.EqMixed.eq_int_str (zS I q (by simp))
  | _=>exact absurd (show false=true from hs) yj
 | str i=>
  obtain⟨t,rfl⟩:=rx
  cases y with
  | non=>cases ry;exact PySem.EqNone.eq_str_none (zS I q (by simp))
  | bl j=>cases ry;exact PySem.EqMixed.eq_str_bool (zS I q (by simp))
  | int j=>obtain⟨t',rfl⟩:=ry;exact PySem.EqMixed.eq_str_int (zS I q (by simp))
  | str j=>obtain⟨t',rfl⟩:=ry;exact eq_str (zS I q zhc)
  | _=>exact absurd (show false=true from hs) yj
 | byt i=>
  obtain⟨t,rfl⟩:=rx
  cases y with
  | byt j=>obtain⟨t',rfl⟩:=ry;exact PySem.W.eq_bytes (zS I q zgZ)
  | _=>exact absurd (show false=true from hs) yj
 | _=>cases y<;>exact absurd (show false=true from hs) yj
theorem zn2:OpR X (compareOp .NotEq) rNe:=by
 intro pins s σ H x y v u Q I rx ry h
 obtain⟨hs,q⟩:=h
 cases x with
 | non=>
  cases rx
  cases y with
  | non=>cases ry;exact PySem.EqNone.ne_none_none (zS I q (by simp))
  | bl j=>cases ry;exact PySem.EqNone.ne_none_bool (zS I q (by simp))
  | int j=>obtain⟨t',rfl⟩:=ry;exact PySem.EqNone.ne_none_int (zS I q (by simp))
  | str j=>obtain⟨t',rfl⟩:=ry;exact PySem.EqNone.ne_none_str (zS I q (by simp))
  | _=>exact absurd (show false=true from hs) yj
 | bl i=>
  cases rx
  cases y with
  | non=>cases ry;exact PySem.EqNone.ne_bool_none (zS I q (by simp))
  | bl j=>cases ry;exact ne_bool (zS I q (congrArg not zjh))
  | str j=>obtain⟨t',rfl⟩:=ry;exact PySem.EqMixed.ne_bool_str (zS I q (by simp))
  | _=>exact absurd (show false=true from hs) yj
 | int i=>
  obtain⟨t,rfl⟩:=rx
  cases y with
  | non=>cases ry;exact PySem.EqNone.ne_int_none (zS I q (by simp))
  | int j=>obtain⟨t',rfl⟩:=ry;exact ne_int (zS I q (congrArg not zg2))
  | str j=>obtain⟨t',rfl⟩:=ry;exact PySem.EqMixed.ne_int_str (zS I q (by simp))
  | _=>exact absurd (show false=true from hs) yj
 | str i=>
  obtain⟨t,rfl⟩:=rx
  cases y with
  | non=>cases ry;exact PySem.EqNone.ne_str_none (zS I q (by simp))
  | bl j=>cases ry;exact PySem.EqMixed.ne_str_bool (zS I q (by simp))
  | int j=>obtain⟨t',rfl⟩:=ry;exact PySem.EqMixed.ne_str_int (zS I q (by simp))
  | str j=>obtain⟨t',rfl⟩:=ry;exact ne_str (zS I q (congrArg not zhc))
  | _=>exact absurd (show false=true from hs) yj
 | byt i=>
  obtain⟨t,rfl⟩:=rx
  cases y with
  | byt j=>obtain⟨t',rfl⟩:=ry;exact PySem.W.ne_bytes (zS I q (congrArg not zgZ))
  | _=>exact absurd (show false=true from hs) yj
 | _=>cases y<;>exact absurd (show false=true from hs) yj
theorem zas:OpR X (compareOp .Lt) (rI0 fun i j=>.bl (decide (i<j))):=zjA fun _ _ _ _ _ _ _ q=>lt_int q
theorem zbi:OpR X (compareOp .Gt) (rI0 fun i j=>.bl (decide (j<i))):=zjA fun _ _ _ _ _ _ _ q=>gt_int q
theorem zeH:OpR X (compareOp .GtE) (rI0 fun i j=>.bl (decide (j<=i))):=zjA fun _ _ _ _ _ _ _ q=>ge_int q
theorem OpR.or{f:Value->Value->Sem Value}{r r':R2}(h:OpR X f r)(h':OpR X f r'):OpR X f (fun x y H Q=>r x y H Q\/r' x y H Q):=by
 intro pins s σ H x y v u Q I rx ry q
 rcases q with q | q
 ·exact h pins s σ H x y v u Q I rx ry q
 ·exact h' pins s σ H x y v u Q I rx ry q
theorem nomark(b:Expr){op:CmpOp}(h:autoParam (op≠.In) Internal.aut1._auto_1)(h2:autoParam (op≠.NotIn) Internal.aut1._auto_1):behindInMarks op b=false:=by
 have e1:(op == CmpOp.In)=false:=by cases op<;>first | rfl | exact absurd rfl h
 have e2:(op == CmpOp.NotIn)=false:=by cases op<;>first | rfl | exact absurd rfl h2
 cases b<;>simp[behindInMarks,e1,e2]
theorem zbd{op:CmpOp}{r:R2}(ho:OpR X (compareOp op) r)(ha:PE X a ta)(hb:PE X b tb)(hm:behindInMarks op b=false):PE X (.Compare a [op] [b] pos) (tOp r ta tb):=by
 intro pins s σ H Q I h
 exact wpAny_Compare1 (zj4 ha hb I h fun v u s2 x y H2 I2 rx ry q=>ho pins s2 σ H2 x y v u Q I2 rx ry q) hm
abbrev zn7(t:TE):TT:=fun σ H Q=>t σ H fun x H'=>∃k,x=.bl k/\Q k H'
theorem zk{op:CmpOp}{r:R2}(ho:OpR X (compareOp op) r)(ha:PE X a ta)(hb:PE X b tb)(hm:behindInMarks op b=false):PT X (.Compare a [op] [b] pos) (zn7 (tOp r ta tb)):=by
 intro pins s σ H Q I h
 refine wpAny_isTrue_Compare1 (thn (ha pins s σ H _ I h) fun v s1 ⟨x,H1,I1,r1,q1⟩=>thn (hb pins s1 σ H1 _ I1 q1) fun u s2 ⟨y,H2,I2,r2,q2⟩=>
  thn (ho pins s2 σ H2 x y v u _ I2 r1 r2 q2) fun c s3 ⟨z,H3,I3,r3,k,e,q3⟩=>?_) hm
 subst e
 cases r3
 exact wpAny_truthy_bool ⟨H3,I3,q3⟩
noncomputable def ze4 (K:Fg) (x:V) (H:Hp) (k:Bool):Prop:=
 match x with
 | .non=>k=false
 | .bl b=>k=b
 | .int i=>k=(i != 0)
 | .str y=>y.length<=sizeLine/\k=((y.length:Int) != 0)
 | .byt y=>y.size<=sizeLine/\k=((y.size:Int) != 0)
 | .ref p=>(∃xs,SqL K H p xs/\k=!xs.isEmpty)\/(∃xs,SqT K H p xs/\k=!xs.isEmpty)\/∃kvs,H p=some (.dK kvs)/\k=!kvs.isEmpty
 | _=>False
theorem zh6{κ:Type}{kvs:List (κ × V)}{vs:List (κ × Value)}(r:KV kvs vs):(!vs.isEmpty)=!kvs.isEmpty:=by
 cases r<;>rfl
theorem zeQ{xs:List V}{its:List Value}(r:Vals xs its):(!its.toArray.isEmpty)=!xs.isEmpty:=by
 cases r<;>simp
theorem line63:(sizeLine:Nat)<2 ^ 63:=by rw[sizeLine_eq];decide
theorem ziE:zot X (fun x H Q=>∃k,ze4 X.K x H k/\Q k H):=by
 intro pins s σ H x v Q I rx h
 obtain⟨k,e,q⟩:=h
 have hl:=line63
 have hs:sizeLine=16777216:=sizeLine_eq
 cases x with
 | non=>
  cases rx
  have e':k=false:=e
  subst e'
  exact truthy_none ⟨H,I,q⟩
 | bl b=>
  cases rx
  have e':k=b:=e
  subst e'
  exact wpAny_truthy_bool ⟨H,I,q⟩
 | int i=>
  obtain⟨t,rfl⟩:=rx
  have e':k=(i != 0):=e
  subst e'
  exact PySem.P.truthy_int ⟨H,I,q⟩
 | str y=>
  obtain⟨t,rfl⟩:=rx
  obtain⟨hy,e'⟩:y.length<=sizeLine/\k=((y.length:Int) != 0):=e
  subst e'
  exact PySem.P.truthy_str (by omega) ⟨H,I.tok _,q⟩
 | byt y=>
  obtain⟨t,rfl⟩:=rx
  obtain⟨hy,e'⟩:y.size<=sizeLine/\k=((y.size:Int) != 0):=e
  subst e'
  exact PySem.W.truthy_bytes (by omega) ⟨H,I.tok _,q⟩
 | ref p=>
  cases rx
  have e':(∃xs,SqL X.K H p xs/\k=!xs.isEmpty)\/(∃xs,SqT X.K H p xs/\k=!xs.isEmpty)\/∃kvs,H p=some (.dK kvs)/\k=!kvs.isEmpty:=e
  rcases e' with⟨xs,hx,e'⟩ | ⟨xs,hx,e'⟩ | ⟨kvs,hx,e'⟩
  ·subst e'
   obtain⟨its,r,pl,hz⟩:=I.list hx
   have hlen:=r.length
   exact wpAny_truthy_list pl.isList (by simp only[yi];omega) ⟨H,I.tok _,by rw[zeQ r];exact q⟩
  ·subst e'
   obtain⟨its,r,pl,hz⟩:=I.tuple hx
   have hlen:=r.length
   exact truthy_tuple pl (by simp only[yi];omega) ⟨H,I.tok _,by rw[zeQ r];exact q⟩
  ·subst e'
   obtain⟨hz,hS,vs,r,m⟩:kvs.length<=sizeLine/\(p == sysModules)=false/\∃vs,KV kvs vs/\s.heap.DictOf (ze2 X.prog X.w) p vs:=I.hok p _ hx
   have hlen:kvs.length=vs.length:=Paired.length r
   exact wpAny_truthy_dict hS m (by omega) ⟨H,I.tok _,by rw[zh6 r];exact q⟩
 | _=>exact(show False from e).elim
theorem zjw(ha:PE X a ta)(he:∀whole,isTrue a X.env whole=(do let v <- whole;standAt a.pos;holding [v] (truthy v))) :
  PT X a (fun σ H Q=>ta σ H fun x H'=>∃k,ze4 X.K x H' k/\Q k H'):=by
 intro pins s σ H Q I h
 exact isTrue_plain (thn (ha pins s σ H _ I h) fun v s1 ⟨x,H1,I1,r1,q1⟩=>ziE pins s1 σ H1 x v Q I1 r1 q1) (he _)
theorem vals1{x:V}{us:List Value}(r:Vals [x] us):∃u,us=[u]/\RelV x u:=by
 cases r with
 | cons r1 r2=>cases r2;exact⟨_,rfl,r1⟩
theorem vals2{x y:V}{us:List Value}(r:Vals [x,y] us):∃u w',us=[u,w']/\RelV x u/\RelV y w':=by
 cases r with
 | cons r1 r2=>
  cases r2 with
  | cons r3 r4=>cases r4;exact⟨_,_,rfl,r1,r3⟩
theorem zke:CallR X (.builtin "abs") (fun xs H Q=>∃i,xs=[.int i]/\Q (.int (if i<0 then -i else i)) H):=by
 intro pins s σ H xs us Q I r h
 obtain⟨i,rfl,q⟩:=h
 obtain⟨u,rfl,t,rfl⟩:=vals1 r
 exact call_abs_int fun u tk=>⟨.int (if i<0 then -i else i),H,I.tok _,⟨_,rfl⟩,q⟩
theorem zir(hc:X.calm=true):CallR X (.builtin "max") (fun xs H Q=>∃i j,xs=[.int i,.int j]/\Q (.int (if j>i then j else i)) H):=by
 intro pins s σ H xs us Q I r h
 obtain⟨i,j,rfl,q⟩:=h
 obtain⟨u,w',rfl,⟨t,rfl⟩,⟨t',rfl⟩⟩:=vals2 r
 refine max_two_ints (I.ok.hd hc) fun h' tk k=>⟨_,H,I.kept k,?_,q⟩
 by_cases hj:j>i
 ·rw[if_pos hj,if_pos hj];exact⟨_,rfl⟩
 ·rw[if_neg hj,if_neg hj];exact⟨_,rfl⟩
theorem ziZ(hc:X.calm=true):CallR X (.builtin "min") (fun xs H Q=>∃i j,xs=[.int i,.int j]/\Q (.int (if j<i then j else i)) H):=by
 intro pins s σ H xs us Q I r h
 obtain⟨i,j,rfl,q⟩:=h
 obtain⟨u,w',rfl,⟨t,rfl⟩,⟨t',rfl⟩⟩:=vals2 r
 refine min_two_ints (I.ok.hd hc) fun h' tk k=>⟨_,H,I.kept k,?_,q⟩
 by_cases hj:j<i
 ·rw[if_pos hj,if_pos hj];exact⟨_,rfl⟩
 ·rw[if_neg hj,if_neg hj];exact⟨_,rfl⟩
theorem zja:CallR X (.type "int") (fun xs H Q=>(∃i,xs=[.int i]/\Q (.int i) H)\/∃k,xs=[.bl k]/\Q (.int (if k then 1 else 0)) H):=by
 intro pins s σ H xs us Q I r h
 rcases h with⟨i,rfl,q⟩ | ⟨k,rfl,q⟩
 ·obtain⟨u,rfl,t,rfl⟩:=vals1 r
  exact call_int_int ⟨.int i,H,I,⟨_,rfl⟩,q⟩
 ·obtain⟨u,rfl,r1⟩:=vals1 r
  cases r1
  exact call_int_bool ⟨.int (if k then 1 else 0),H,I.tok _,⟨_,rfl⟩,q⟩
end
set_option genInjectivity false in
set_option genSizeOf false in
structure ObjM(h:Heap)(x dx C:Addr)(mA:Str->Option Value):Prop where
 obj:h.get? x=some (PySem.W.instObj C dx)
 ns:h.Ns1 dx mA
 ne:dx≠x
theorem zi3{h:Heap}{dx:Addr}{mA:Str->Option Value}(n:h.Ns1 dx mA):∃od,h.get? dx=some od/\∀name,PySem.W.lookIn name od=some (mA name):=by
 obtain⟨o,es,ep,ho,hd,hk,_,hm⟩:=n
 refine⟨o,ho,fun name=>?_⟩
 have e:=hm name
 unfold nsFind findBy at e
 rw[<- Array.find?_toList]at e
 unfold PySem.W.lookIn
 rw[hd]
 dsimp only
 split
 ·rename_i y q
  rw[q]at e
  exact congrArg some e
 ·rename_i q
  rw[q]at e
  have a:es.toList.any (·.refKey)=false:=by
   rw[List.any_eq_false]
   intro y hy
   obtain⟨z,t,hkey⟩:=hk y (Array.mem_toList_iff.mp hy)
   simp[DictEntry.refKey,hkey]
  have a':¬es.toList.any (·.refKey)=true:=by rw[a];exact yj
  rw[if_neg a']
  exact congrArg some e
theorem ObjM.look{h:Heap}{x dx C:Addr}{mA:Str->Option Value}(I:ObjM h x dx C mA):∃od,PySem.W.InstAt h x (PySem.W.instObj C dx) C (some od)/\∀name,PySem.W.lookIn name od=some (mA name):=
 let ⟨od,ho,hl⟩:=zi3 I.ns
 ⟨od,⟨I.obj,rfl,rfl,ho⟩,hl⟩
section
variable {prog:Program}{w:World}{A:Around}{E:Value->Shared->Prop}{s:Shared}{K:Fg}{x dx C f:Addr}{mA:Str->Option Value}{name:Str}{v:Value}
theorem zla{expr:Bool}{Q:Value->Shared->Prop}(X:K.In s.heap)(I:ObjM s.heap x dx C mA)(hg:PySem.W.plainGet K C name=true)(hh:PySem.W.hasDictIn K C=true)
  (ha:PySem.W.findIn K (.ref C) name=some none) (hv:mA name=some v) (hv':PySem.W.handedIn v=true) (h:Q v { s with toks:=s.toks+1 }) :
  wpAny (model prog w) A (getAttr (.ref x) name expr) Q E s:=by
 obtain⟨od,J,hl⟩:=I.look
 exact PySem.W.get_value X J (yaH hg).1 (PySem.W.findObj_own hh ha rfl (by rw[hl,hv])) hv' h
theorem zjG{pl:Sem Bool}{Q:Value × List Value->Shared->Prop}(X:K.In s.heap)(I:ObjM s.heap x dx C mA)(hg:PySem.W.plainGet K C name=true)
  (hf:PySem.W.findIn K (.ref C) name=some (some (.ref f))) (ht:PySem.W.isFn K (.ref f)=true) (hv:mA name=none) (h:Q (.ref f,[.ref x]) s) :
  wpAny (model prog w) A (getMethod (.ref x) name pl) Q E s:=by
 obtain⟨od,J,hl⟩:=I.look
 exact PySem.W.method_fn X J (yaH hg).1 (yaH hg).2 hf (beq_iff_eq.mp ht) (by show(PySem.W.lookIn name od).map (·.isSome)=some false;rw[hl,hv];rfl) h
theorem zk7{ns:List Str}{Q:Unit->Shared->Prop}(X:K.In s.heap)(I:ObjM s.heap x dx C mA)
  (hs:PySem.W.findIn K (.ref C) "__setattr__" = some (some (.builtin "object.__setattr__"))) (hp:PySem.W.plainOver K C=true) (ht:PySem.W.takerIn K C name=some none) (hh:PySem.W.hasDictIn K C=true)
  (hw:PySem.Within mA ns) (hsz:ns.length<=sizeLine)
  (h:∀h',ObjM h' x dx C (fun y=>if y=name then some v else mA y)->Heap.SameBut dx s.heap h'->Q () { s with heap:=h',toks:=s.toks+2 }) :
  wpAny (model prog w) A (setAttr (.ref x) name v) Q E s:=by
 obtain⟨od,J,hl⟩:=I.look
 refine PySem.W.set_plain X J hs (PySem.W.osa_open (s:={ s with toks:=s.toks+1 }) (r:=none) X J hp ht fun b=>?_)
 obtain⟨cd,hc,hd'⟩:=PySem.W.any_some hh
 have hx:s.heap.get? x=some ⟨.ref C,some dx,.plain,#[]⟩:=I.obj
 refine wpAny_bind (wpAny_pure (wpAny_bind (wpAny_bind (wpAny_loadPart hx (wpAny_bind (PySem.W.Looks.here (s:={ s with toks:=s.toks+1 }) (PySem.W.looks_clsIn X hc) ?_))))))
 rw[hd']
 refine wpAny_pure (a:=some dx) (wpAny_bind (wpAny_pure (wpAny_bind ?_)))
 refine wpAny_nsSet1 (s:={ s with toks:=s.toks+1 }) I.ns fun h' hn2 hs2=>?_
 obtain⟨oD,esD,epD,hoD,hdD,hcD⟩:=hn2.count (PySem.Within.cons name v hw)
 refine wpAny_bind (wpAny_lookBehind hoD (by rw[hdD];exact pastItsLine_dict (yb hcD (by rw[yM];omega))) ?_)
 exact wpAny_pure (h _ ⟨(hs2.2 _ (yaj I.ne)).trans I.obj,hn2,I.ne⟩ hs2)
theorem zjO{R:Result->Shared->Prop}{vs:List Value}{kw:List (Str × Value)}(X:K.In s.heap)(hm:PySem.W.makesIn K C=true)
  (hi:PySem.W.findIn K (.ref C) "__init__" = some (some (.ref f))) (hf:PySem.W.typeIn K (.ref f)=some (.type "function"))
  (h:codeAny (model prog w) (A.under (.builtin "type.__call__" ⟨.ref C :: vs,kw⟩)) (.call (.ref f) ⟨.ref (s.heap.objs.size+1) :: vs,kw⟩) (PySem.W.InitBack (s.heap.objs.size+1) R)
   { s with heap:=(s.heap.push PySem.W.emptyDict).push (PySem.W.instObj C s.heap.objs.size) }) :
  codeAny (model prog w) A (.call (.ref C) ⟨vs,kw⟩) R s:=by
 obtain⟨hh,g,d,t,os⟩:=s
 exact PySem.W.make_core (PySem.W.makes_of X hm) (yaz X hi) (fun self=>PySem.W.bind_fn X self hf) (.inl rfl) h
end
noncomputable def zae (f:Str) (v:V):List (Str × V)->List (Str × V)
 | []=>[(f,v)]
 | (g,x) :: r=>if g=f then(g,v) :: r else(g,x) :: zae f v r
theorem zg(f g:Str)(v:V):∀fs:List (Str × V),(zae f v fs).lookup g=if g=f then some v else fs.lookup g
 | []=>by
  show List.lookup g [(f,v)]=_
  by_cases h:g=f
  ·have hb:(g == f)=true:=beq_iff_eq.mpr h
   simp only[List.lookup,hb,if_pos h]
  ·have hb:(g == f)=false:=beq_eq_false_iff_ne.mpr h
   simp only[List.lookup,hb,if_neg h]
 | (k,x) :: r=>by
  have ih:=zg f g v r
  rw[show zae f v ((k,x) :: r)=(if k=f then(k,v) :: r else(k,x) :: zae f v r)from rfl]
  by_cases hk:k=f
  ·rw[if_pos hk]
   by_cases h:g=k
   ·have hb:(g == k)=true:=beq_iff_eq.mpr h
    simp only[List.lookup,hb,if_pos (h.trans hk)]
   ·have hb:(g == k)=false:=beq_eq_false_iff_ne.mpr h
    simp only[List.lookup,hb,if_neg (fun e:g=f=>h (e.trans hk.symm))]
  ·rw[if_neg hk]
   by_cases h:g=k
   ·have hb:(g == k)=true:=beq_iff_eq.mpr h
    simp only[List.lookup,hb,if_neg (fun e:g=f=>hk (h.symm.trans e))]
   ·have hb:(g == k)=false:=beq_eq_false_iff_ne.mpr h
    simp only[List.lookup,hb]
    exact ih
theorem zdr(f:Str)(v:V):∀fs:List (Str × V),f∈(zae f v fs).map (·.1)/\∀g,g∈fs.map (·.1)->g∈(zae f v fs).map (·.1)
 | []=>⟨by simp[zae],fun g h=>by simp at h⟩
 | (k,x) :: r=>by
  obtain⟨i1,i2⟩:=zdr f v r
  rw[show zae f v ((k,x) :: r)=(if k=f then(k,v) :: r else(k,x) :: zae f v r)from rfl]
  by_cases hk:k=f
  ·rw[if_pos hk]
   subst hk
   exact⟨by simp,fun g h=>by simpa using h⟩
  ·rw[if_neg hk]
   refine⟨?_,fun g h=>?_⟩
   ·rw[yH]
    exact yD _ i1
   ·rw[yH]at h ⊢
    rcases ye.mp h with e | e
    ·exact ye.mpr (.inl e)
    ·exact yD _ (i2 g e)
theorem zj(f:Str)(v:V):∀fs:List (Str × V),(zae f v fs).length<=fs.length+1
 | []=>by simp[zae]
 | (k,x) :: r=>by
  have ih:=zj f v r
  rw[show zae f v ((k,x) :: r)=(if k=f then(k,v) :: r else(k,x) :: zae f v r)from rfl]
  by_cases hk:k=f
  ·rw[if_pos hk,yM,yM];omega
  ·rw[if_neg hk,yM,yM];omega
theorem RelO.some_of{v:V}{o:Option Value}(r:RelO (some v) o):∃u,o=some u/\RelV v u:=by
 cases o with
 | none=>exact(show False from r).elim
 | some u=>exact⟨u,rfl,r⟩
theorem RelO.none_of{o:Option Value}(r:RelO none o):o=none:=by
 cases o with
 | none=>rfl
 | some u=>exact(show False from r).elim
theorem ziN{v:V}{u:Value}(r:RelV v u):PySem.W.handedIn u=true:=by
 cases v with
 | non=>cases(show u=Value.none from r);rfl
 | bl b=>cases(show u=Value.bool b from r);rfl
 | int i=>obtain⟨t,e⟩:=(show ∃t,u=Value.int i t from r);cases e;rfl
 | str x=>obtain⟨t,e⟩:=(show ∃t,u=Value.str x t from r);cases e;rfl
 | byt b=>obtain⟨t,e⟩:=(show ∃t,u=Value.bytes b t from r);cases e;rfl
 | flt b=>obtain⟨t,e⟩:=(show ∃t,u=Value.float b t from r);cases e;rfl
 | ref a=>cases(show u=Value.ref a from r);rfl
 | ty n=>cases(show u=Value.type n from r);rfl
section
variable {P:Program}{w:World}{H H':Hp}{h h':Heap}{a C dx:Addr}{fs fs':List (Str × V)}
theorem zdz(hok:HOk P w H h)(e:H a=some (.ins C dx fs)):∃mA,ObjM h a dx C mA/\(∀f,RelO (fs.lookup f) (mA f))/\PySem.Within mA (fs.map (·.1))/\fs.length<=1000/\H dx=some (.own a):=by
 obtain⟨d,z,ne,ob,mA,n,r,q⟩:=(show ObjOk P w H h a (.ins C dx fs)from hok a _ e)
 exact⟨mA,⟨ob,n,ne⟩,r,q,z,d⟩
end
set_option genInjectivity false in
set_option genSizeOf false in
structure Cls(K:Fg)(C:Addr):Prop where
 pg:PySem.W.plainGet K C Str.empty=true
 hd:PySem.W.hasDictIn K C=true
 po:PySem.W.plainOver K C=true
 sa:PySem.W.findIn K (.ref C) "__setattr__" = some (some (.builtin "object.__setattr__"))
theorem Cls.get{K:Fg}{C:Addr}(c:Cls K C)(f:Str):PySem.W.plainGet K C f=true:=c.pg
noncomputable def NoAttr (K:Fg) (C:Addr) (f:Str):Prop:=PySem.W.findIn K (.ref C) f=some none
theorem NoAttr.taker{K:Fg}{C:Addr}{f:Str}(n:NoAttr K C f):PySem.W.takerIn K C f=some none:=by
 unfold PySem.W.takerIn
 rw[show PySem.W.findIn K (.ref C) f=some none from n]
 rfl
set_option genInjectivity false in
set_option genSizeOf false in
structure Con(K:Fg)(C:Addr)(f:Str)(v:V)(u:Value):Prop where
 at_:PySem.W.findIn K (.ref C) f=some (some u)
 rel:RelV v u
 get:PySem.W.specialIn K u "__get__" = some none
 cp:PySem.W.copiedNames.contains f=false
set_option genInjectivity false in
set_option genSizeOf false in
structure Meth(K:Fg)(C:Addr)(m:Str)(f:Addr):Prop where
 at_:PySem.W.findIn K (.ref C) m=some (some (.ref f))
 fn:PySem.W.isFn K (.ref f)=true
 kp:PySem.W.keepIn K (.ref f)=true
section
variable {X:Cx}{pins:List (Addr × Obj)}{σ:St}{H:Hp}{s:Shared}{a C dx:Addr}{fs:List (Str × V)}{f:Str}{v:V}{A:Around}{E:Value->Shared->Prop}
theorem zhz{b:Bool}{Q:Value->Shared->Prop}(I:Inv X pins σ H s)(e:H a=some (.ins C dx fs))(c:Cls X.K C)(n:NoAttr X.K C f)(l:fs.lookup f=some v)
  (h:∀u s',Inv X pins σ H s'->RelV v u->Q u s'):wpAny (model X.prog X.w) A (getAttr (.ref a) f b) Q E s:=by
 obtain⟨mA,O,r,_,_,_⟩:=zdz I.hok e
 obtain⟨u,hu,ru⟩:=RelO.some_of (v:=v) (o:=mA f) (by rw[<- l];exact r f)
 exact zla I.kIn O (c.get f) c.hd n hu (ziN ru) (h u _ (I.tok _) ru)
theorem zhv{m:Str}{g:Addr}{pl:Sem Bool}{Q:Value × List Value->Shared->Prop}(I:Inv X pins σ H s)(e:H a=some (.ins C dx fs))(c:Cls X.K C)(k:Meth X.K C m g)(l:fs.lookup m=none)
  (h:Q (.ref g,[.ref a]) s):wpAny (model X.prog X.w) A (getMethod (.ref a) m pl) Q E s:=by
 obtain⟨mA,O,r,_,_,_⟩:=zdz I.hok e
 have hn:mA m=none:=RelO.none_of (by rw[<- l];exact r m)
 exact zjG I.kIn O (c.get m) k.at_ k.fn hn h
theorem zib{y:V}{u:Value}{Q:Unit->Shared->Prop}(I:Inv X pins σ H s)(e:H a=some (.ins C dx fs))(c:Cls X.K C)(n:NoAttr X.K C f)(hl:fs.length<1000)(ry:RelV y u)
  (h:∀s',Inv X pins σ (upd H a (.ins C dx (zae f y fs))) s'->Q () s'):wpAny (model X.prog X.w) A (setAttr (.ref a) f u) Q E s:=by
 obtain⟨mA,O,r,wi,_,ho⟩:=zdz I.hok e
 have hz:(fs.map (·.1)).length<=sizeLine:=by rw[ya,sizeLine_eq];omega
 refine zk7 I.kIn O c.sa c.po n.taker c.hd wi hz fun h' O' sb=>h _ ?_
 have hd:∃o,h'.get? dx=some o:=let ⟨o,_,_,e',_⟩:=O'.ns;⟨o,e'⟩
 refine I.write (x:=a) (e:=dx) (by rw[e];exact True.intro) (.inr ho) (fun b q hb z=>(sb.2 b hb).trans z) hd ?_
 refine⟨by rw[zG O.ne];exact ho,?_,O.ne,O'.obj,_,O'.ns,fun g=>?_,fun g hg=>?_⟩
 ·have:=zj f y fs;omega
 ·show RelO ((zae f y fs).lookup g) (if g=f then some u else mA g)
  rw[zg]
  by_cases q:g=f
  ·rw[if_pos q,if_pos q];exact ry
  ·rw[if_neg q,if_neg q];exact r g
 ·by_cases q:g=f
  ·rw[q];exact(zdr f y fs).1
  ·refine(zdr f y fs).2 g (wi g fun z=>hg ?_)
   show(if g=f then some u else mA g)=none
   rw[if_neg q];exact z
theorem Inv.made(I:Inv X pins σ H s):Inv X pins σ (upd (upd H s.heap.objs.size (.own (s.heap.objs.size+1))) (s.heap.objs.size+1) (.ins C s.heap.objs.size []))
  { s with heap:=(s.heap.push PySem.W.emptyDict).push (PySem.W.instObj C s.heap.objs.size) }:=by
 have e1:(s.heap.push PySem.W.emptyDict).get? s.heap.objs.size=some PySem.W.emptyDict:=Heap.get?_push_size s.heap rfl
 have e2:((s.heap.push PySem.W.emptyDict).push (PySem.W.instObj C s.heap.objs.size)).get? (s.heap.objs.size+1)=some (PySem.W.instObj C s.heap.objs.size):=by
  have:=Heap.get?_push_size (s.heap.push PySem.W.emptyDict) (o:=PySem.W.instObj C s.heap.objs.size) rfl
  rwa [Heap.size_push]at this
 have e3:(s.heap.push PySem.W.emptyDict).Ns s.heap.objs.size (fun _=>none):=⟨PySem.W.emptyDict,#[],_,e1,rfl,(fun e he=>absurd he (by simp)),fun _=>rfl⟩
 have I1:=I.laid (a:=s.heap.objs.size) (o:=.own (s.heap.objs.size+1)) (h':=s.heap.push PySem.W.emptyDict) (t':=s.toks) (fun b u q=>Heap.get?_push_of_some _ q) (yf _) ⟨_,e1⟩
 refine I1.laid (a:=s.heap.objs.size+1) (o:=.ins C s.heap.objs.size []) (t':=s.toks) (fun b u q=>Heap.get?_push_of_some _ q) (yaP (Heap.size_push _ _)) ?_
 have ne:s.heap.objs.size≠s.heap.objs.size+1:=ym (y3 _)
 refine⟨by rw[zG ne,zH],yT _,ne,e2,fun _=>none,(Heap.Ns1.of_empty e3).at fun o q=>Heap.get?_push_of_some _ q,fun _=>True.intro,fun y hy=>absurd rfl hy⟩
theorem zly{prog:Program}{w:World}{env:Env}{e:Expr}{f:Str}{pos:Pos}{s:Shared}{Q:Value->Shared->Prop}(hb:attributeBase e f env (eval e env)=eval e env)
  (h:wpAny (model prog w) A (eval e env) (fun o s₁=>wpAny (model prog w) A (getAttr o f true) Q E s₁) E s):wpAny (model prog w) A (eval (.Attribute e f pos) env) Q E s:=
 Attribute_any_ h (by rw[arm_eval_Attribute,hb])
end
noncomputable def z3 (K:Fg) (ta:TE) (f:Str):TE:=fun σ H Q=>ta σ H fun x H1=>∃a C dx fs v,x=.ref a/\H1 a=some (.ins C dx fs)/\Cls K C/\NoAttr K C f/\fs.lookup f=some v/\Q v H1
noncomputable def zbe (K:Fg) (ta tv:TE) (f:Str):TS:=fun D σ H=>tv σ H fun y H1=>ta σ H1 fun x H2=>∃a C dx fs,x=.ref a/\H2 a=some (.ins C dx fs)/\Cls K C/\NoAttr K C f/\fs.length<1000 /\
 D.nx σ (upd H2 a (.ins C dx (zae f y fs)))
section
variable {X:Cx}{o e value:Expr}{f:Str}{pos pos' tpos:Pos}{ta tv:TE}
theorem zO(he:PE X e ta)(hb:attributeBase e f X.env (eval e X.env)=eval e X.env):PE X (.Attribute e f pos) (z3 X.K ta f):=by
 intro pins s σ H Q I h
 refine zly hb (thn (he pins s σ H _ I h) fun u s1 zz=>?_)
 obtain⟨x,H1,I1,rx,a,C,dx,fs,v,ex,ea,c,n,l,q⟩:=zz
 subst ex
 obtain rfl:u=Value.ref a:=rx
 exact zhz I1 ea c n l fun u' s2 I2 ru=>⟨v,H1,I2,ru,q⟩
theorem zaT(ha:PE X o ta)(hv:PE X value tv)(hs:swapsWith value (some (.Attribute o f pos')) pos.line X.env=pure false):PS X (.Assign [.Attribute o f pos'] value pos) (zbe X.K ta tv f):=by
 intro pins s σ H D I h
 refine plainObj_wpAny_Assign_Attribute (thn (hv pins s σ H _ I h) fun u s1 ⟨y,H1,I1,ry,q⟩=>thn (ha pins s1 σ H1 _ I1 q) fun ov s2 zz=>?_) hs
 obtain⟨x,H2,I2,rx,a,C,dx,fs,ex,ea,c,n,l,q2⟩:=zz
 subst ex
 obtain rfl:ov=Value.ref a:=rx
 exact zib I2 ea c n l ry fun s3 I3=>⟨σ,_,I3,q2⟩
end
section
variable {X:Cx}{pins:List (Addr × Obj)}{σ:St}{H:Hp}{s:Shared}{A:Around}{E:Value->Shared->Prop}{Q:Value->Shared->Prop}{c:Value}{b:Bool}
inductive TyOf(K:Fg)(H:Hp):V->Value->Prop where
 | non:TyOf K H .non (.type "NoneType")
 | bl (x:Bool):TyOf K H (.bl x) (.type "bool")
 | int (i:Int):TyOf K H (.int i) (.type "int")
 | str (x:Str):TyOf K H (.str x) (.type "str")
 | flt (x:UInt64):TyOf K H (.flt x) (.type "float")
 | lst {a:Addr} {xs:List V} (e:H a=some (.lst xs)):TyOf K H (.ref a) (.type "list")
 | frz {a:Addr} {o:Obj} {xs:List V} (e:H a=some (.frz o (.lst xs))):TyOf K H (.ref a) (.type "list")
 | tup {a:Addr} {xs:List V} (e:H a=some (.tup xs)):TyOf K H (.ref a) (.type "tuple")
 | dK {a:Addr} {kvs:List (Key × V)} (e:H a=some (.dK kvs)):TyOf K H (.ref a) (.type "dict")
 | dT {a:Addr} {kvs:List (List Key × V)} (e:H a=some (.dT kvs)):TyOf K H (.ref a) (.type "dict")
 | ins {a C dx:Addr} {fs:List (Str × V)} (e:H a=some (.ins C dx fs)) (cl:Cls K C) (ha:PySem.W.findIn K (.ref C) "__class__" = some (some (.builtin "object.__class__")))
   (hn:PySem.W.specialIn K (.builtin "object.__class__") "__get__" = some (some (.builtin "getset_descriptor.__get__"))) (htk:PySem.W.takesIn K (.builtin "object.__class__")=some true)
   (hm:PySem.W.mroIn K C (.type "object")=some true):TyOf K H (.ref a) (.ref C)
theorem ziR{x:V}{u t:Value}(I:Inv X pins σ H s)(rx:RelV x u)(ty:TyOf X.K H x t)(e:PySem.W.kitOne X.K t c=some b)(h:∀tk,Q (.bool b) { s with toks:=tk }) :
  wpAny (model X.prog X.w) A (call (.builtin "isinstance") [u,c]) Q E s:=by
 cases ty with
 | non=>cases(show u=Value.none from rx);exact yI PySem.W.kitx_none I.kIn True.intro e (fun z=>nomatch z) h
 | bl y=>cases(show u=Value.bool y from rx);exact yI PySem.W.kitx_bool I.kIn True.intro e (fun z=>nomatch z) h
 | int i=>obtain⟨t,q⟩:=(show ∃t,u=Value.int i t from rx);cases q;exact yI PySem.W.kitx_int I.kIn True.intro e (fun z=>nomatch z) h
 | str y=>obtain⟨t,q⟩:=(show ∃t,u=Value.str y t from rx);cases q;exact yI PySem.W.kitx_str I.kIn True.intro e (fun z=>nomatch z) h
 | flt y=>obtain⟨t,q⟩:=(show ∃t,u=Value.float y t from rx);cases q;exact yI PySem.W.kitx_float I.kIn True.intro e (fun z=>nomatch z) h
 | @lst a xs ea=>
  cases(show u=Value.ref a from rx)
  obtain⟨_,_,n,_,h1⟩:=(show ObjOk X.prog X.w H s.heap a (.lst xs)from I.hok a _ ea)
  exact yI PySem.W.kitx_list I.kIn ⟨_,h1,rfl⟩ e (fun z=>nomatch z) h
 | @frz a ob xs ea=>
  cases(show u=Value.ref a from rx)
  obtain⟨_,_,_,n,_,h1⟩:=(show ObjOk X.prog X.w H s.heap a (.frz ob (.lst xs))from I.hok a _ ea)
  exact yI PySem.W.kitx_list I.kIn ⟨_,h1,rfl⟩ e (fun z=>nomatch z) h
 | @tup a xs ea=>
  cases(show u=Value.ref a from rx)
  obtain⟨_,_,_,p⟩:=(show ObjOk X.prog X.w H s.heap a (.tup xs)from I.hok a _ ea)
  obtain⟨o,h1,h2,_⟩:=p
  exact yI PySem.W.kitx_tuple I.kIn ⟨o,h1,h2⟩ e (fun z=>nomatch z) h
 | @dK a kvs ea=>
  cases(show u=Value.ref a from rx)
  obtain⟨_,_,vs,_,p⟩:=(show ObjOk X.prog X.w H s.heap a (.dK kvs)from I.hok a _ ea)
  obtain⟨o,es,ep,h1,h2,_⟩:=p
  exact yI PySem.W.kitx_dict I.kIn ⟨o,h1,h2.1⟩ e (fun z=>nomatch z) h
 | @dT a kvs ea=>
  cases(show u=Value.ref a from rx)
  obtain⟨_,_,xs,_,o,es,ep,h1,h2,_⟩:=(show ObjOk X.prog X.w H s.heap a (.dT kvs)from I.hok a _ ea)
  exact yI PySem.W.kitx_dict I.kIn ⟨o,h1,h2.1⟩ e (fun z=>nomatch z) h
 | @ins a C dx fs ea cl ha hn htk hm=>
  cases(show u=Value.ref a from rx)
  obtain⟨mA,O,_⟩:=zdz I.hok ea
  obtain⟨od,J,_⟩:=O.look
  exact yI (PySem.W.kitx_own (cl.get _) cl.hd ha hn htk hm) I.kIn J e (fun z=>nomatch z) h
end
set_option genInjectivity false in
set_option genSizeOf false in
structure Room(k:Nat)(A:Around):Prop where
 hd:A.handled=none
 dp:A.depth+3*k+5<recursionLimit
 un:A.units+16*k+200<cLine
theorem Room.mono{j k:Nat}{A:Around}(r:Room k A)(h:j<=k):Room j A:=⟨r.hd,by have:=r.dp;omega,by have:=r.un;omega⟩
theorem Room.deeper{k:Nat}{A:Around}(r:Room (k+1) A)(env:Env):Room k (A.deeper env):=
 ⟨r.hd,by have:=r.dp;show A.depth+1+3*k+5<_;omega,by have:=r.un;show A.units+3+16*k+200<_;omega⟩
theorem zhs{A:Around}{C:Addr}{us:List Value}{kw:List (Str × Value)}:(A.under (.builtin "type.__call__" ⟨.ref C :: us,kw⟩)).depth=A.depth+1:=by
 first | rfl | simp[Around.under,Code.weight,Code.isCreation,Code.isGuard,Code.isCaller,Code.frames,Code.isFrame,guardIds]
theorem zhT{A:Around}{C:Addr}{us:List Value}{kw:List (Str × Value)}:(A.under (.builtin "type.__call__" ⟨.ref C :: us,kw⟩)).units=A.units+1:=by
 first | rfl | simp[Around.under,Code.cUnits,Code.frames,Code.isFrame]
theorem Room.make{k:Nat}{A:Around}(r:Room (k+1) A)(C:Addr)(us:List Value)(kw:List (Str × Value)):Room k (A.under (.builtin "type.__call__" ⟨.ref C :: us,kw⟩)):=
 ⟨r.hd,by have:=r.dp;rw[zhs];omega,by have:=r.un;rw[zhT];omega⟩
theorem Room.depth{k:Nat}{A:Around}(r:Room k A):A.depth<recursionLimit:=by have:=r.dp;omega
theorem Room.units{k:Nat}{A:Around}(r:Room k A):A.units+64<cLine:=by have:=r.un;omega
abbrev ze0:TA:=fun _ H Q=>Q [] H
abbrev zh9(ta:TE)(tr:TA):TA:=fun σ H Q=>ta σ H fun x H1=>tr σ H1 fun xs H2=>Q (x :: xs) H2
section
variable {X:Cx}{e:Expr}{es:List Expr}{te:TE}{t:TA}{pos:Pos}
theorem zb:PA X [] ze0:=fun _ _ _ _ H Q I h=>Calls.spliced_nil ⟨[],H,I,.nil,h⟩
theorem za(ha:PE X e te)(hr:PA X es t)(hs:autoParam (starEach (e :: es) X.env=(false,eval e X.env) :: starEach es X.env) Internal.aut2._auto_1):PA X (e :: es) (zh9 te t):=by
 intro pos pins s σ H Q I h
 rw[hs]
 show wpAny _ _ (spliced ((false,eval e X.env) :: backTo pos (starEach es X.env))) _ _ s
 refine Calls.spliced_cons (thn (ha pins s σ H _ I h) fun u s1 zz=>?_)
 obtain⟨x,H1,I1,r1,q1⟩:=zz
 exact thn (hr pos pins s1 σ H1 _ I1 q1) fun us s2 ⟨xs,H2,I2,r2,q2⟩=>⟨x :: xs,H2,I2,.cons r1 r2,q2⟩
noncomputable def zl6 (t:TA):TE:=fun σ H Q=>t σ H fun xs H1=>xs.length<=sizeLine/\∀p,H1 p=none->Q (.ref p) (upd H1 p (.tup xs))
noncomputable def zmX (t:TA):TE:=fun σ H Q=>t σ H fun xs H1=>xs.length<=sizeLine/\∀p,H1 p=none->Q (.ref p) (upd H1 p (.lst xs))
theorem z6{x1}(h:PA X es t):PE X (.Tuple es x1 pos) (zl6 t):=by
 intro pins s σ H Q I hq
 refine wpAny_Tuple_spliced (thn (h pos pins s σ H _ I hq) fun us s1 ⟨xs,H1,I1,r,z,q⟩=>⟨by rw[<- r.length];exact z,?_⟩)
 have hf:H1 s1.heap.objs.size=none:=I1.hok.fresh (yf _)
 refine⟨.ref s1.heap.objs.size,upd H1 s1.heap.objs.size (.tup xs),I1.laid (t':=s1.toks) (fun b u e=>Heap.get?_push_of_some _ e) (yf _) ?_,rfl,q _ hf⟩
 exact⟨z,us,r,⟨_,Heap.get?_push_size _ rfl,rfl,_,rfl⟩⟩
theorem zai(h:PA X es t):PE X (.List es pos) (zmX t):=by
 intro pins s σ H Q I hq
 refine wpAny_List_spliced (thn (h pos pins s σ H _ I hq) fun us s1 ⟨xs,H1,I1,r,z,q⟩=>⟨by rw[<- r.length];exact z,?_⟩)
 have hf:H1 s1.heap.objs.size=none:=I1.hok.fresh (yf _)
 refine⟨.ref s1.heap.objs.size,upd H1 s1.heap.objs.size (.lst xs),I1.laid (t':=s1.toks) (fun b u e=>Heap.get?_push_of_some _ e) (yf _) ?_,rfl,q _ hf⟩
 exact⟨z,us,0,r,Heap.get?_push_size _ rfl⟩
end
abbrev Sp:=List V->Hp->VK->XK->Prop
abbrev CXT:=List Env->Hp->Shared->XK->Value->Shared->Prop
set_option genInjectivity false in
set_option genSizeOf false in
structure Env0(P:Program)(w:World)(K:Fg)(mg:Str->Option Value)(base:Heap)(A:Around)(outer:List Env)(s:Shared)(H:Hp):Prop where
 frames:A.frames=some outer
 mod:Mod K mg base
 bs:∀b o,base.get? b=some o->s.heap.get? b=some o/\H b=none
 bsz:base.objs.size<=s.heap.objs.size
 funs:s.heap.FunFrames base outer
 frf:∀b∈frs outer,H b=none
 hok:HOk P w H s.heap
 bare:AllBare s.gens
noncomputable def CE (outer:List Env) (P:Program) (w:World) (H:Hp) (s:Shared) (Q:VK) (u:Value) (s':Shared):Prop:=
 ∃v H',s'.os=s.os/\AllBare s'.gens/\Un (frs outer) [] H H' s.heap s'.heap/\HOk P w H' s'.heap/\RelV v u/\Q v H'
noncomputable def CR (CX:CXT) (outer:List Env) (P:Program) (w:World) (H:Hp) (s:Shared) (Q:VK) (E:XK) (r:Result) (s':Shared):Prop:=
 match r with
 | .ok (.ret u)=>CE outer P w H s Q u s'
 | .ok _=>False
 | .error e=>CX outer H s E e s'
set_option genInjectivity false in
set_option genSizeOf false in
structure FnOk(P:Program)(w:World)(K:Fg)(mg:Str->Option Value)(base:Heap)(CX:CXT)(k:Nat)(f:Addr)(fd:FuncData)(ps:List Str)(sp:Sp):Prop where
 len:∀vs H Q E,sp vs H Q E->vs.length=ps.length
 run:∀(A:Around) (outer:List Env) (s:Shared) (H:Hp) (args:Args) (us:List Value) (vs:List V) (Q:VK) (E:XK),Room k A->Env0 P w K mg base A outer s H->BindsTo s fd args (ps.zip us)->Vals vs us->sp vs H Q E ->
  codeAny (model P w) A (.call (.ref f) args) (CR CX outer P w H s Q E) s
theorem Env0.make{P:Program}{w:World}{K:Fg}{mg:Str->Option Value}{base:Heap}{A:Around}{outer:List Env}{s:Shared}{H:Hp}(e:Env0 P w K mg base A outer s H)(C:Addr)(us:List Value)(kw:List (Str × Value)) :
  Env0 P w K mg base (A.under (.builtin "type.__call__" ⟨.ref C :: us,kw⟩)) outer s H:=⟨by first | exact e.frames | (simpa[Around.under,Code.envs,Code.isFrame,pushEnvs]using e.frames),e.mod,e.bs,e.bsz,e.funs,e.frf,e.hok,e.bare⟩
theorem Env0.in1{P:Program}{w:World}{K:Fg}{mg:Str->Option Value}{base:Heap}{A:Around}{outer:List Env}{s:Shared}{H:Hp}(e:Env0 P w K mg base A outer s H) :
  Env0 P w K mg base A.in1 outer s H:=⟨e.frames,e.mod,e.bs,e.bsz,e.funs,e.frf,e.hok,e.bare⟩
section
variable {X:Cx}{pins:List (Addr × Obj)}{σ:St}{H:Hp}{s s':Shared}
theorem Inv.env0(I:Inv X pins σ H s):Env0 X.prog X.w X.K X.mg X.base X.A X.stack s H:=
 ⟨I.ok.frames,I.ok.mod,I.bs,yb I.ok.bsz I.sz,I.stack,I.stkFree,I.hok,I.bare⟩
theorem Inv.after{Q:VK}{u:Value}(I:Inv X pins σ H s)(h:CE X.stack X.prog X.w H s Q u s'):EP X pins σ Q u s':=by
 obtain⟨v,H',os,bare,un,hok,r,q⟩:=h
 obtain⟨hh,g,d,t,os'⟩:=s'
 obtain rfl:os'=s.os:=os
 exact⟨v,H',I.call (h':=hh) (g':=g) (d':=d) (t':=t) (ch:=[]) un hok bare (fun b z=>absurd z (by simp)),r,q⟩
end
noncomputable def zep (sp:Sp) (dvs:List V) (E:XK) (t:TA):TE:=fun σ H Q=>t σ H fun vs H1=>sp (vs++dvs) H1 Q E
noncomputable def zkS (C:Addr) (m:Str) (sp:Sp) (dvs:List V) (E:XK) (ta:TE) (t:TA):TE:=fun σ H Q=>ta σ H fun x H1=>∃a dx fs,x=.ref a/\H1 a=some (.ins C dx fs)/\fs.lookup m=none /\
 t σ H1 fun vs H2=>sp (x :: (vs++dvs)) H2 Q E
noncomputable def zkV (C:Addr) (sp:Sp) (dvs:List V) (E:XK) (t:TA):TE:=fun σ H Q=>t σ H fun vs H1=>∀x dx,H1 x=none->H1 dx=none->dx≠x ->
 sp (.ref x :: (vs++dvs)) (upd (upd H1 dx (.own x)) x (.ins C dx [])) (fun v H2=>v=.non/\Q (.ref x) H2) E
noncomputable def Binds (K:Fg) (fd:FuncData) (ps:List Str) (ds:List Value):Prop:=
 ∀(s:Shared) (us:List Value),K.In s.heap->(us++ds).length=ps.length->BindsTo s fd ⟨us,[]⟩ (ps.zip (us++ds))
theorem Binds.all{K:Fg}{fd:FuncData}{ps:List Str}(h:∀us:List Value,us.length=ps.length->bindArgs fd ⟨us,[]⟩=pure (ps.zip us)):Binds K fd ps []:=fun s us _ hl=>by
 rw[yQ]at hl ⊢
 exact .of_eq (h us hl)
noncomputable def zb8 (CX:CXT) (X:Cx) (E:XK):Prop:=∀(pins:List (Addr × Obj)) (σ:St) (H:Hp) (s:Shared) (e:Value) (s':Shared),Inv X pins σ H s->CX X.stack H s E e s'->X.xe e s'
section
variable {X:Cx}{CX:CXT}{k:Nat}{f C:Addr}{fd:FuncData}{ps:List Str}{sp:Sp}{dvs:List V}{ds:List Value}{E:XK}{x m:Str}{p pos apos:Pos}{e o:Expr}{es:List Expr}{ta:TE}{t:TA}
theorem zin{pins:List (Addr × Obj)}{σ:St}{H:Hp}{s:Shared}{Q:VK}{us:List Value}{vs:List V}(F:FnOk X.prog X.w X.K X.mg X.base CX k f fd ps sp)(hr:Room k X.A)(hb:Binds X.K fd ps ds)(hd:Vals dvs ds)(hx:zb8 CX X E)
  (I:Inv X pins σ H s) (r:Vals vs us) (h:sp (vs++dvs) H Q E):wpAny (model X.prog X.w) X.A (call (.ref f) us) (EP X pins σ Q) X.xe s:=by
 have r2:Vals (vs++dvs) (us++ds):=r.append hd
 have hl:(us++ds).length=ps.length:=by rw[<- r2.length];exact F.len _ _ _ _ h
 refine wpAny_call (codeAny_mono (F.run X.A X.stack s H ⟨us,[]⟩ (us++ds) (vs++dvs) Q E hr I.env0 (hb s us I.kIn hl) r2 h) fun r s' hq=>?_)
 cases r with
 | error e=>exact hx pins σ H s e s' I hq
 | ok fl=>
  cases fl with
  | ret u=>exact I.after hq
  | next=>exact False.elim hq
  | brk=>exact False.elim hq
  | cont=>exact False.elim hq
theorem zm(F:FnOk X.prog X.w X.K X.mg X.base CX k f fd ps sp)(hr:Room k X.A)(hg:Gl X x)(hm:X.mg x=some (.ref f))(hk:PySem.W.keepIn X.K (.ref f)=true)(hb:Binds X.K fd ps ds)(hd:Vals dvs ds)(hx:zb8 CX X E)
  (ha:PA X (e :: es) t) (hdb:autoParam ((x == ("__debug__" : Str))=false) Internal.aut1._auto_1) (he:autoParam (starEach (e :: es) X.env=(false,eval e X.env) :: starEach es X.env) Internal.aut2._auto_1) (hpl:autoParam ((backTo pos (starEach es X.env)).any (·.1)=false) Internal.aut2._auto_1) :
  PE X (.Call (.Name x p) (e :: es) [] pos) (zep sp dvs E t):=by
 intro pins s σ H Q I h
 refine wpAny_Call_Name_kw (zbN I hg hm ?_ hdb)
 refine yae (h₀:=X.base) I.ok.mod.kin hk (thn (ha pos pins s σ H _ I h) fun us s1 ⟨vs,H1,I1,r,q⟩=>⟨I1.kIn,?_⟩) he hpl
 exact zin F hr hb hd hx I1 r q
theorem zQ{pl:Sem Bool}(he:PE X o ta)(c:Cls X.K C)(hm:Meth X.K C m f)(F:FnOk X.prog X.w X.K X.mg X.base CX k f fd ps sp)(hr:Room k X.A)(hb:Binds X.K fd ps ds)(hd:Vals dvs ds)(hx:zb8 CX X E)(ha:PA X (e :: es) t)
  (hst:autoParam (starEach (e :: es) X.env=(false,eval e X.env) :: starEach es X.env) Internal.aut2._auto_1) (hpl:autoParam ((backTo pos (starEach es X.env)).any (·.1)=false) Internal.aut2._auto_1)
  (ht:autoParam (eval (.Call (.Attribute o m apos) (e :: es) [] pos) X.env=(do
   let ov <- eval o X.env
   standAt apos.atName
   let (f,first) <- holding [ov] (getMethod ov m pl)
   callWith pos f first (backTo pos (starEach (e :: es) X.env)) (backToKw pos (keywordEach [] X.env)))) Internal.aut2._auto_1) :
  PE X (.Call (.Attribute o m apos) (e :: es) [] pos) (zkS C m sp dvs E ta t):=by
 intro pins s σ H Q I h
 refine PySem.W.methodCall_KW (pl:=pl) (thn (he pins s σ H _ I h) fun u s1 zz=>?_) ht
 obtain⟨x,H1,I1,rx,a,dx,fs,ex,ea,l,q⟩:=zz
 subst ex
 obtain rfl:u=Value.ref a:=rx
 refine zhv I1 ea c hm l ?_
 refine yae (first:=[.ref a]) (h₀:=X.base) I.ok.mod.kin hm.kp (thn (ha pos pins s1 σ H1 _ I1 q) fun us s2 ⟨vs,H2,I2,r,q2⟩=>⟨I2.kIn,?_⟩) hst hpl
 exact zin (us:=.ref a :: us) (vs:=.ref a :: vs) F hr hb hd hx I2 (.cons rfl r) q2
set_option genInjectivity false in
set_option genSizeOf false in
structure Mk(K:Fg)(C f:Addr):Prop where
 makes:PySem.W.makesIn K C=true
 init:PySem.W.findIn K (.ref C) "__init__" = some (some (.ref f))
 fn:PySem.W.isFn K (.ref f)=true
 kp:PySem.W.keepIn K (.ref C)=true
theorem zkD{pins:List (Addr × Obj)}{σ:St}{H:Hp}{s:Shared}{Q:VK}{us:List Value}{vs:List V}(M:Mk X.K C f)(F:FnOk X.prog X.w X.K X.mg X.base CX k f fd ps sp)(hr:Room (k+1) X.A)(hb:Binds X.K fd ps ds)(hd:Vals dvs ds)
  (hx:zb8 CX X E) (I:Inv X pins σ H s) (r:Vals vs us)
  (h:∀x dx,H x=none->H dx=none->dx≠x->sp (.ref x :: (vs++dvs)) (upd (upd H dx (.own x)) x (.ins C dx [])) (fun v H2=>v=.non/\Q (.ref x) H2) E) :
  wpAny (model X.prog X.w) X.A (call (.ref C) us) (EP X pins σ Q) X.xe s:=by
 have hq:=h (s.heap.objs.size+1) s.heap.objs.size (I.hok.fresh (Nat.le_succ _)) (I.hok.fresh (yf _)) (ym (y3 _))
 have I2:=Inv.made (C:=C) I
 have r2:Vals (V.ref (s.heap.objs.size+1) :: (vs++dvs)) (Value.ref (s.heap.objs.size+1) :: (us++ds)):=.cons rfl (r.append hd)
 have hl:(Value.ref (s.heap.objs.size+1) :: us++ds).length=ps.length:=by
  have e:=r2.length
  rw[F.len _ _ _ _ hq]at e
  exact e.symm
 refine wpAny_call (zjO (f:=f) I.kIn M.makes M.init (beq_iff_eq.mp M.fn) (codeAny_mono (F.run _ X.stack _ _ ⟨Value.ref (s.heap.objs.size+1) :: us,[]⟩ (Value.ref (s.heap.objs.size+1) :: (us++ds)) _ _ E (hr.make C us [])
  (I2.env0.make C us []) (hb _ (Value.ref (s.heap.objs.size+1) :: us) I2.kIn hl) r2 hq) fun r s' hq'=>?_))
 cases r with
 | error e=>exact hx pins σ _ _ e s' I2 hq'
 | ok fl=>
  cases fl with
  | ret u=>
   obtain⟨v,H',I3,rv,ev,q3⟩:=I2.after hq'
   subst ev
   exact⟨rv,⟨V.ref (s.heap.objs.size+1),H',I3,rfl,q3⟩⟩
  | next=>exact False.elim hq'
  | brk=>exact False.elim hq'
  | cont=>exact False.elim hq'
theorem zg5(M:Mk X.K C f)(F:FnOk X.prog X.w X.K X.mg X.base CX k f fd ps sp)(hr:Room (k+1) X.A)(hg:Gl X x)(hm:X.mg x=some (.ref C))(hb:Binds X.K fd ps ds)(hd:Vals dvs ds)(hx:zb8 CX X E)
  (ha:PA X (e :: es) t) (hdb:autoParam ((x == ("__debug__" : Str))=false) Internal.aut1._auto_1) (he:autoParam (starEach (e :: es) X.env=(false,eval e X.env) :: starEach es X.env) Internal.aut2._auto_1) (hpl:autoParam ((backTo pos (starEach es X.env)).any (·.1)=false) Internal.aut2._auto_1) :
  PE X (.Call (.Name x p) (e :: es) [] pos) (zkV C sp dvs E t):=by
 intro pins s σ H Q I h
 refine wpAny_Call_Name_kw (zbN I hg hm ?_ hdb)
 refine yae (h₀:=X.base) I.ok.mod.kin M.kp (thn (ha pos pins s σ H _ I h) fun us s1 ⟨vs,H1,I1,r,q⟩=>⟨I1.kIn,?_⟩) he hpl
 exact zkD M F hr hb hd hx I1 r q
end
noncomputable def PK (X:Cx) (kws:List Keyword) (t:TA):Prop:=
 ∀(pos:Pos) (pins:List (Addr × Obj)) (s:Shared) (σ:St) (H:Hp) (Q:List V->Hp->Prop),Inv X pins σ H s->t σ H Q->wpAny (model X.prog X.w) X.A (evalAll ((backToKw pos (keywordEach kws X.env)).map (·.2))) (AP X pins σ Q) X.xe s
section
variable {X:Cx}{CX:CXT}{k:Nat}{f C:Addr}{fd:FuncData}{ps ks:List Str}{sp:Sp}{E:XK}{x m:Str}{p pos apos kpos:Pos}{e o:Expr}{es:List Expr}{kws:List Keyword}{te ta:TE}{t tk:TA}{nm:Option Str}
theorem ziq:PK X [] ze0:=fun _ _ _ _ H Q I h=>wpAny_evalAll_nil ⟨[],H,I,.nil,h⟩
theorem zhf(ha:PE X e te)(hr:PK X kws t):PK X (⟨nm,e,kpos⟩ :: kws) (zh9 te t):=by
 intro pos pins s σ H Q I h
 show wpAny _ _ (evalAll ((do let v <- eval e X.env;standAt pos;pure v) :: (backToKw pos (keywordEach kws X.env)).map (·.2))) _ _ s
 refine wpAny_evalAll_cons (wpAny_bind (thn (ha pins s σ H _ I h) fun u s1 ⟨x,H1,I1,r1,q1⟩=>wpAny_bind (wpAny_standAt (wpAny_pure ?_))))
 exact thn (hr pos pins s1 σ H1 _ I1 q1) fun us s2 ⟨xs,H2,I2,r2,q2⟩=>⟨x :: xs,H2,I2,.cons r1 r2,q2⟩
set_option genInjectivity false in
set_option genSizeOf false in
structure KBinds(K:Fg)(fd:FuncData)(ps ks:List Str)(g:List Value->List Value->List Value)(gV:List V->List V->List V):Prop where
 to:∀(s:Shared) (us ws:List Value),K.In s.heap->(g us ws).length=ps.length->BindsTo s fd ⟨us,ks.zip ws⟩ (ps.zip (g us ws))
 rel:∀{vs:List V} {us:List Value} {zs:List V} {ws:List Value},Vals vs us->Vals zs ws->Vals (gV vs zs) (g us ws)
variable {g:List Value->List Value->List Value}{gV:List V->List V->List V}
end
set_option genInjectivity false in
set_option genSizeOf false in
structure FnScope(N P:List Str)(sc:Scope):Prop where
 kind:sc.kind=.function
 co:sc.isCoroutine=false
 gen:sc.isGenerator=false
 nd:N.Nodup
 pre:N.take P.length=P
 par:∀x∈P,sc.names.lookup x=some .local\/sc.names.lookup x=some .cell
 nofree:∀y∈sc.names,y.2≠.free
theorem zfk{kindOf:Str->Option NameKind}{x:Str}:∀{binds:List (Str × Value)} {m:Str->Option Value},(∀v,(x,v)∉binds)->bindL kindOf binds m x=m x
 | [],_,_=>rfl
 | (n,v) :: r,m,h=>by
  unfold bindL
  rw[zfk fun w hw=>h w (yD _ hw)]
  split
  ·have:x≠n:=by rintro rfl;exact h v yV
   simp[this]
  ·rfl
theorem zft{kindOf:Str->Option NameKind}{x:Str}:∀{binds:List (Str × Value)} {m:Str->Option Value},(∀v,(x,v)∉binds)->bindC kindOf binds m x=m x
 | [],_,_=>rfl
 | (n,v) :: r,m,h=>by
  unfold bindC
  rw[zft fun w hw=>h w (yD _ hw)]
  split
  ·rfl
  ·have:x≠n:=by rintro rfl;exact h v yV
   simp[this]
theorem zfp{kindOf:Str->Option NameKind}{x:Str}{v:Value}:∀{P:List Str} {vs:List Value} {i:Nat} {m:Str->Option Value},P.Nodup->P[i]?=some x->vs[i]?=some v->kindOf x=some .local ->
  bindL kindOf (P.zip vs) m x=some v
 | [],_,_,_,_,h,_,_=>by simp at h
 | _ :: _,[],_,_,_,_,h,_=>by simp at h
 | p :: P,w :: vs,0,m,nd,h1,h2,hk=>by
  simp at h1 h2;subst h1;subst h2
  show bindL kindOf ((p,w) :: P.zip vs) m p=_
  unfold bindL
  rw[zfk fun v hv=>(yJ.mp nd).1 (yaA hv).1,if_pos hk]
  simp
 | p :: P,w :: vs,i+1,m,nd,h1,h2,hk=>by
  show bindL kindOf ((p,w) :: P.zip vs) m x=_
  unfold bindL
  exact zfp (i:=i) (yJ.mp nd).2 (by simpa using h1) (by simpa using h2) hk
theorem zfm{kindOf:Str->Option NameKind}{x:Str}{v:Value}:∀{P:List Str} {vs:List Value} {i:Nat} {m:Str->Option Value},P.Nodup->P[i]?=some x->vs[i]?=some v->kindOf x≠some .local ->
  bindC kindOf (P.zip vs) m x=some v
 | [],_,_,_,_,h,_,_=>by simp at h
 | _ :: _,[],_,_,_,_,h,_=>by simp at h
 | p :: P,w :: vs,0,m,nd,h1,h2,hk=>by
  simp at h1 h2;subst h1;subst h2
  show bindC kindOf ((p,w) :: P.zip vs) m p=_
  unfold bindC
  rw[zft fun v hv=>(yJ.mp nd).1 (yaA hv).1,if_neg hk]
  simp
 | p :: P,w :: vs,i+1,m,nd,h1,h2,hk=>by
  show bindC kindOf ((p,w) :: P.zip vs) m x=_
  unfold bindC
  exact zfm (i:=i) (yJ.mp nd).2 (by simpa using h1) (by simpa using h2) hk
noncomputable def start (N:List Str) (vs:List V):St:=vs.map some++List.replicate (N.length-vs.length) none
noncomputable def zaq (CX:CXT) (P:Program) (w:World) (K:Fg) (mg:Str->Option Value) (base:Heap) (N:List Str) (qual:Str) (scope:Scope) (f:Addr) (cd:Value) (A:Around) (outer:List Env) (s:Shared) (H:Hp) (E:XK):Cx where
 prog:=P
 w:=w
 K:=K
 mg:=mg
 base:=base
 A:=A.deeper (envOfC qual scope s.heap.objs.size f cd)
 N:=N
 s₀:=s
 H₀:=H
 env:=envOfC qual scope s.heap.objs.size f cd
 outer:=outer
 stack:=envOfC qual scope s.heap.objs.size f cd :: outer
 ex:=[]
 calm:=true
 fn:=fun _=>true
 pn:=[]
 xe:=fun e s'=>wpAny (model P w) (A.deeper (envOfC qual scope s.heap.objs.size f cd)) (leaving (envOfC qual scope s.heap.objs.size f cd) e) (fun _ s''=>CX outer H s E e s'') (fun e' s''=>CX outer H s E e' s'') s'
theorem zcI{sc:Scope}{n:Nat}{x:Str}(h:sc.names.lookup x=some .cell):∃c,(cellsFrom n sc.names []).lookup x=some c:=by
 have q:=yau sc.names n [] (.inl h)
 exact Option.isSome_iff_exists.mp q
theorem zfi{CX:CXT}{P:Program}{w:World}{K:Fg}{mg:Str->Option Value}{base:Heap}{N ps:List Str}{qual:Str}{scope:Scope}{f:Addr}{cd:Value}{A:Around}{outer:List Env}{s s1:Shared}{H:Hp}{E:XK}{us:List Value}{vs:List V}
  (S:FnScope N ps scope) (hd:A.handled=none) (e0:Env0 P w K mg base A outer s H) (hl:vs.length=ps.length) (r:Vals vs us)
  (x:InCallC s s.heap.objs.size (bindL (envOfC qual scope s.heap.objs.size f cd).kindOf (ps.zip us) fun _=>none) (cellsFrom (s.heap.objs.size+1) scope.names []) (bindC (envOfC qual scope s.heap.objs.size f cd).kindOf (ps.zip us) fun _=>none) s1) :
  Inv (zaq CX P w K mg base N qual scope f cd A outer s H E) [] (start N vs) H s1:=by
 have hpl:ps.length<=N.length:=by have:=congrArg List.length S.pre;rw[yU]at this;omega
 obtain⟨h1,tk,rfl,hk⟩:=x.done
 have noA:∀b:Addr,b∉(zaq CX P w K mg base N qual scope f cd A outer s H E).ex:=fun b z=>absurd (show b∈([]:List Addr)from z) (by simp)
 refine⟨⟨e0.mod,S.kind,rfl,rfl,yf _,fun y z c h1 h2=>?_,fun y hy=>?_,fun y c _ h=>?_,fun _=>hd,Around.frames_deeper e0.frames,.inr ⟨rfl,rfl⟩,fun b z=>absurd z (noA b),e0.bs,e0.bsz,fun b _ _=>noA b,fun b z=>absurd z (noA b),e0.funs,e0.frf⟩,
  rfl,e0.bare,Un.kept hk,⟨_,x.toInCall.ns,fun i y v h1 h2 h3=>?_⟩,fun y c h=>⟨_,x.cell y c h⟩,e0.hok.fresh (yf _),fun y c h=>?_,fun p hp=>absurd (show p∈([]:List (Addr × Obj))from hp) (by simp),e0.hok.kept hk,?_⟩
 ·exact name_of_addr x.apart (yab h1) (yab h2)
 ·have hy:scope.names.lookup y=some .cell\/scope.names.lookup y=some .free:=hy
  rcases hy with hy | hy
  ·exact zcI hy
  ·exact absurd rfl (S.nofree _ (yab hy))
 ·exact y9 (x.above y c (yab h))
 ·have hi:i<vs.length:=by
   unfold start at h2
   by_cases hi:i<vs.length
   ·exact hi
   ·rw[List.getElem?_append_right (by simpa using hi)]at h2
    rw[yad]at h2
    split at h2<;>cases h2
  have ha:vs[i]?=some v:=by
   unfold start at h2
   rw[List.getElem?_append_left (by simpa using hi),yg]at h2
   cases e:vs[i]? with
   | none=>rw[e]at h2;cases h2
   | some a=>rw[e]at h2;cases h2;rfl
  obtain⟨u,hu,rv⟩:=r.get ha
  have hp:ps[i]?=some y:=by
   rw[<- S.pre,List.getElem?_take_of_lt (by omega)];exact h1
  have ndP:ps.Nodup:=by rw[<- S.pre];exact S.nd.sublist (List.take_sublist _ _)
  refine⟨u,rv,?_⟩
  rcases S.par y (yp hp)with k | k
  ·exact .inl ⟨k,zfp ndP hp hu k⟩
  ·obtain⟨c,e⟩:=zcI (n:=s.heap.objs.size+1) k
   refine .inr ⟨.inl k,c,e,?_⟩
   have q:=x.cell y c e
   rw[zfm ndP hp hu (by show scope.names.lookup y≠_;rw[k];decide)]at q
   exact q
 ·exact e0.hok.fresh (y9 (x.above y c (yab h)))
 ·unfold start
  show _=N.length
  rw[yk,ya,List.length_replicate]
  omega
theorem zhy{CX:CXT}{P:Program}{w:World}{K:Fg}{mg:Str->Option Value}{base:Heap}{k:Nat}{f:Addr}{name qual:Str}{params:Arguments}{body:List Stmt}{scope:Scope}{dV kV doc pm cdv ct oc:Value}{an od:Option Addr}
  {osl:Array (Option Value)} {N ps:List Str} {sp:Sp} (lk:K.lookup f=some ⟨oc,od,.func (PySem.W.fnOf name qual params body scope dV kV doc pm an cdv ct),osl⟩) (hcd:PySem.W.codeIn K cdv qual=true) (S:FnScope N ps scope)
  (len:∀vs H Q E,sp vs H Q E->vs.length=ps.length)
  (hbody:∀(A:Around) (outer:List Env) (s:Shared) (H:Hp) (vs:List V) (Q:VK) (E:XK),Room k (A.deeper (envOfC qual scope s.heap.objs.size f cdv))->sp vs H Q E ->
   ∃t,PSs (zaq CX P w K mg base N qual scope f cdv A outer s H E) body t/\t { nx:=fun _ H'=>Q .non H',rt:=Q } (start N vs) H) :
  FnOk P w K mg base CX (k+1) f (PySem.W.fnOf name qual params body scope dV kV doc pm an cdv ct) ps sp:=by
 refine⟨len,fun A outer s H args us vs Q E hr e0 hb r hsp=>?_⟩
 have hl:=len _ _ _ _ hsp
 have KX:K.In s.heap:=e0.mod.kin.keeps fun b o e=>(e0.bs b o e).1
 have lim:s.heap.NoLimit:=e0.mod.nolimit.keeps fun b o e=>(e0.bs b o e).1
 have hkind:∀y∈ps.zip us,scope.names.lookup y.1=some .local\/(scope.names.lookup y.1=some .cell/\((cellsFrom (s.heap.objs.size+1) scope.names []).lookup y.1).isSome=true):=fun⟨n,v⟩ hy=>by
  rcases S.par n (yaA hy).1 with q | q
  ·exact .inl q
  ·exact .inr ⟨q,yau _ _ _ (.inl q)⟩
 refine codeAny_call_function hr.depth (KX _ _ lk) rfl S.co S.gen rfl (PySem.W.codeRec_of KX hcd) (hb _ _ _ _ ?_)
 refine wpAny_newFunctionEnv_cells S.kind hkind fun env he s1 x=>?_
 subst he
 refine⟨lim.keeps x.toInCall.keep,codeAny_func ?_⟩
 obtain⟨t,ht,hq⟩:=hbody A outer s H vs Q E (hr.deeper _) hsp
 have I:Inv (zaq CX P w K mg base N qual scope f cdv A outer s H E) [] (start N vs) H s1:=zfi S hr.hd e0 hl r x
 refine wpAny_mono (ht [] s1 (start N vs) H _ I hq) (fun fl s' hs=>?_) fun e s' hs=>hs
 have fin:∀{σ':St} {H':Hp} {v:V} {u:Value},Inv (zaq CX P w K mg base N qual scope f cdv A outer s H E) [] σ' H' s'->RelV v u->Q v H'->CE outer P w H s Q u s':=
  fun {σ' H' v u} J rv q=>⟨v,H',J.os,J.bare,J.base,J.hok,rv,q⟩
 cases fl with
 | ret u=>
  obtain⟨v,σ',H',J,rv,q⟩:=hs
  exact fin J rv q
 | next=>
  obtain⟨σ',H',J,q⟩:=hs
  exact fin (v:=V.non) (u:=Value.none) J rfl q
 | brk=>
  obtain⟨_,_,_,q⟩:=hs
  exact False.elim q
 | cont=>
  obtain⟨_,_,_,q⟩:=hs
  exact False.elim q
section
variable {X:Cx}{x:Str}{p pos:Pos}{e:Expr}{es:List Expr}{t:TA}{id T:String}{r:List V->Hp->VK->Prop}
abbrev tCB(r:List V->Hp->VK->Prop)(t:TA):TE:=fun σ H Q=>t σ H fun vs H1=>r vs H1 Q
theorem zp(hc:CallR X (.builtin id) r)(hg:Gl X x)(hm:X.mg x=none)(hv:bootBuiltins x=some (.builtin id))(ha:PA X (e :: es) t)(hn:autoParam (x ≠ "__name__") Internal.aut1._auto_1)(hdb:autoParam ((x == ("__debug__" : Str))=false) Internal.aut1._auto_1)
  (he:autoParam (starEach (e :: es) X.env=(false,eval e X.env) :: starEach es X.env) Internal.aut2._auto_1) (hpl:autoParam ((backTo pos (starEach es X.env)).any (·.1)=false) Internal.aut2._auto_1):PE X (.Call (.Name x p) (e :: es) [] pos) (tCB r t):=by
 intro pins s σ H Q I h
 refine wpAny_Call_Name_kw (zbT I hg hm hv ?_ hn hdb)
 exact PyProof.Rows.callWith_builtin1 (thn (ha pos pins s σ H _ I h) fun us s1 ⟨vs,H1,I1,r1,q1⟩=>hc pins s1 σ H1 vs us Q I1 r1 q1) he hpl
theorem zbs(hc:CallR X (.type T) r)(hg:Gl X x)(hm:X.mg x=none)(hv:bootBuiltins x=some (.type T))(ha:PA X (e :: es) t)(hn:autoParam (x ≠ "__name__") Internal.aut1._auto_1)(hdb:autoParam ((x == ("__debug__" : Str))=false) Internal.aut1._auto_1)
  (he:autoParam (starEach (e :: es) X.env=(false,eval e X.env) :: starEach es X.env) Internal.aut2._auto_1) (hpl:autoParam ((backTo pos (starEach es X.env)).any (·.1)=false) Internal.aut2._auto_1):PE X (.Call (.Name x p) (e :: es) [] pos) (tCB r t):=by
 intro pins s σ H Q I h
 refine wpAny_Call_Name_kw (zbT I hg hm hv ?_ hn hdb)
 exact y4 (thn (ha pos pins s σ H _ I h) fun us s1 ⟨vs,H1,I1,r1,q1⟩=>hc pins s1 σ H1 vs us Q I1 r1 q1) he hpl
end
end Internal
namespace HT
open PySem PyProof.Rows
section
open PySem.SeqAt
open PySem.AutoSeq1 (wpAny_loadPart')
open PySem.MeetsSeq PySem.MeetsSeq2 PySem.MeetsSeq3
end
section
variable {prog:Program}{w:World}{A:Around}{E:Value->Shared->Prop}{s:Shared}
theorem cat_tup{t b:Addr}{vs ws:List Value}{Q:Value->Shared->Prop}(ht:IsTup s.heap t vs.toArray)(hb:IsTup s.heap b ws.toArray)(hv:vs≠[])
  (h1:ws=[]->Q (.ref t) s) (h2:ws≠[]->Q (.ref s.heap.objs.size) { s with heap:=s.heap.push { cls:=.type "tuple",data:=.seq (vs++ws).toArray } })
  (hsz:vs.length+ws.length<=sizeLine):wpAny (model prog w) A (binaryOp .Add (.ref t) (.ref b)) Q E s:=by
 obtain⟨⟨cls,dd,data,sl⟩,ho,hc,n,hd⟩:=id ht
 obtain⟨⟨cls2,dd2,data2,sl2⟩,ho2,hc2,n2,hd2⟩:=id hb
 simp only at hc hd hc2 hd2
 subst hc hd hc2 hd2
 have e:vs.toArray++ws.toArray=(vs++ws).toArray:=by simp
 by_cases hw:ws=[]
 ·exact concat_meets ⟨_,ho,rfl⟩ ⟨_,ho2,rfl⟩ noFill_tuple_add seq_tuple_add PySem.F.slot_tuple_add PySem.F.entry_tuple_add (PySem.F.args_tuple_add_2 _ _)
   (tuple_addW1 t b vs.toArray ws.toArray n n2 dd dd2 sl sl2 (by simpa using hv) (by simp[hw])) ⟨ho,ho2,h1 hw⟩
 ·refine concat_meets ⟨_,ho,rfl⟩ ⟨_,ho2,rfl⟩ noFill_tuple_add seq_tuple_add PySem.F.slot_tuple_add PySem.F.entry_tuple_add (PySem.F.args_tuple_add_2 _ _)
   (tuple_addW2 t b vs.toArray ws.toArray n n2 dd dd2 sl sl2 (by simpa using hv) (by simpa using hw) (by rw[yi,yi];exact hsz)) ⟨ho,ho2,?_⟩
  rw[e]
  exact h2 hw
noncomputable def sIx (n d:Nat):Option Int->Nat
 | none=>d
 | some v=>if v<0 then(v+(n:Int)).toNat else min v.toNat n
theorem sIx_none(n d:Nat):sIx n d none=d:=rfl
theorem sIx_nat(n d k:Nat):sIx n d (some (k:Int))=min k n:=by
 show(if(k:Int)<0 then((k:Int)+(n:Int)).toNat else min (k:Int).toNat n)=min k n
 rw[if_neg (by omega),yx]
theorem zmA(n d:Nat)(hd:d<=n)(o:Option Int):sIx n d o<=n:=by
 cases o with
 | none=>exact hd
 | some v=>
  show(if v<0 then(v+(n:Int)).toNat else min v.toNat n)<=n
  by_cases hv:v<0
  ·rw[if_pos hv];omega
  ·rw[if_neg hv];exact Nat.min_le_right _ _
theorem zhe(v:Int)(n d:Nat):(if v<0 then max (v+(n:Int)) 0 else min v (n:Int))=((sIx n d (some v):Nat):Int):=by
 show(if v<0 then max (v+(n:Int)) 0 else min v (n:Int))=(((if v<0 then(v+(n:Int)).toNat else min v.toNat n):Nat):Int)
 by_cases hv:v<0
 ·simp only[if_pos hv];omega
 ·simp only[if_neg hv];omega
theorem zhJ(lo hi:Option Int)(n:Nat):Builtin.Slice.sliceAdjust lo hi 1 (n:Int)=(((sIx n 0 lo:Nat):Int),((sIx n n hi:Nat):Int)):=by
 have h1:¬((1:Int)<0):=by omega
 unfold Builtin.Slice.sliceAdjust
 simp only[h1,if_false]
 refine Prod.ext ?_ ?_
 ·cases lo with
  | none=>rfl
  | some v=>exact zhe v n 0
 ·cases hi with
  | none=>rfl
  | some v=>exact zhe v n n
theorem zia(i j:Nat):Builtin.Slice.slicePlaces (i:Int) (j:Int) 1=j-i:=by
 unfold Builtin.Slice.slicePlaces
 have h1:(1:Int)>0:=by omega
 simp only[h1,if_true,Int.ediv_one]
 split<;>omega
theorem zeR{v:Value}{o:Option Int}{Q:Option Int->Shared->Prop}(p:IsPart v o)(h:Q o s):wpAny (model prog w) A (Builtin.Slice.slicePartIndex v) Q E s:=by
 cases p with
 | none=>exact slicePart_none h
 | int i t=>exact slicePart_int h
theorem zd1{sl:Addr}{vl vu:Value}{lo hi:Option Int}{n:Nat}{Q:Int × Int × Nat->Shared->Prop}(hs:s.heap.IsSliceOf sl vl vu .none)(pl:IsPart vl lo)(pu:IsPart vu hi)
  (h:Q (((sIx n 0 lo:Nat):Int),1,sIx n n hi-sIx n 0 lo) s):wpAny (model prog w) A (Builtin.Slice.sliceApplied (.ref sl) (pure (n:Int))) Q E s:=by
 obtain⟨os,hos,hcs,hds⟩:=id hs
 unfold Builtin.Slice.sliceApplied Builtin.Slice.sliceFields
 refine wpAny_bind (wpAny_bind (wpAny_field hos hds (x:=vl) rfl (wpAny_bind (wpAny_field hos hds (x:=vu) rfl (wpAny_bind (wpAny_field hos hds (x:=.none) rfl (wpAny_pure ?_)))))))
 refine wpAny_bind (slicePart_none ?_)
 show wpAny _ _ (if((1:Int) == 0)=true then _ else _) _ _ s
 rw[if_neg (by decide)]
 refine wpAny_bind (zeR pl (wpAny_bind (zeR pu (wpAny_bind (wpAny_pure ?_)))))
 show wpAny _ _ (match Builtin.Slice.sliceAdjust lo hi 1 (n:Int)with | (lo,hi)=>pure (lo,(1:Int),Builtin.Slice.slicePlaces lo hi 1)) _ _ s
 rw[zhJ lo hi n]
 show wpAny _ _ (pure (((sIx n 0 lo:Nat):Int),(1:Int),Builtin.Slice.slicePlaces ((sIx n 0 lo:Nat):Int) ((sIx n n hi:Nat):Int) 1)) _ _ s
 rw[zia]
 exact wpAny_pure h
theorem zjV(xs:Array Value)(i k:Nat):((List.range k).filterMap fun(m:Nat)=>xs[((i:Int)+(m:Int)*1).toNat]?).toArray=((xs.toList.drop i).take k).toArray:=by
 have e:(fun(m:Nat)=>xs[((i:Int)+(m:Int)*1).toNat]?)=fun m=>xs[i+m]?:=by
  funext m
  have:((i:Int)+(m:Int)*1).toNat=i+m:=by omega
  rw[this]
 rw[e]
 have:=pick_run xs i k
 rw[List.filterMap_map]at this
 have e2:((fun x=>xs[x]?)∘fun x=>i+x)=fun m=>xs[i+m]?:=rfl
 rw[e2]at this
 rw[this]
theorem getItem_tuple_cut{t sl:Addr}{items:Array Value}{vl vu:Value}{lo hi:Option Int}{Q:Value->Shared->Prop}(ht:IsTup s.heap t items)(hs:s.heap.IsSliceOf sl vl vu .none)(pl:IsPart vl lo)(pu:IsPart vu hi)
  (hw:¬(sIx items.size 0 lo=0/\sIx items.size items.size hi=items.size))
  (h:Q (.ref s.heap.objs.size) { s with heap:=s.heap.push { cls:=.type "tuple",data:=.seq ((items.toList.drop (sIx items.size 0 lo)).take (sIx items.size items.size hi-sIx items.size 0 lo)).toArray } })
  (hsz:items.size<=sizeLine):wpAny (model prog w) A (getItem (.ref t) (.ref sl)) Q E s:=by
 have htake:sizeOk (.seq ((items.toList.drop (sIx items.size 0 lo)).take (sIx items.size items.size hi-sIx items.size 0 lo)).toArray):=by
  show((items.toList.drop (sIx items.size 0 lo)).take (sIx items.size items.size hi-sIx items.size 0 lo)).toArray.size<=sizeLine
  rw[yi,yU,List.length_drop,yaa]
  omega
 have hj:sIx items.size items.size hi<=items.size:=zmA _ _ (yf _) hi
 obtain⟨os,hos,hcs,hds⟩:=id hs
 have hTs:s.TypeIs (.ref sl) "slice" := ⟨os,hos,hcs⟩
 unfold getItem
 try with_reducible refine wpAny_holding ?_
 first | refine wpAny_bind (wpAny_pure ?_) | skip
 refine wpAny_bind (wpAny_sequenceKey ht.typeIs (by decide) ?_)
 refine wpAny_bind (wpAny_callSpecial?_slot (name:=Str.ofString "__getitem__") ht.typeIs yac
  (wpAny_call_entry yac ht.typeIs entry_tuple_getitem ?_ (args_tuple_getitem _ _)))
 show wpAny _ _ (Builtin.Tuple.tupleItemsOf (.ref t) >>= _) _ _ s
 refine wpAny_bind (tupleItemsOf_ ht ?_)
 refine wpAny_bind (wpAny_typeOf hTs ?_)
 rw[if_pos (by decide)]
 refine wpAny_bind (zd1 hs pl pu ?_)
 have hno:¬((((sIx items.size 0 lo:Nat):Int) == 0&&(1:Int) == 1&&(sIx items.size items.size hi-sIx items.size 0 lo) == items.size)=true):=by
  intro q
  rw[yz,yz]at q
  have q1:((sIx items.size 0 lo:Nat):Int)=0:=eq_of_beq q.1.1
  have q2:sIx items.size items.size hi-sIx items.size 0 lo=items.size:=eq_of_beq q.2
  exact hw ⟨by omega,by omega⟩
 show wpAny _ _ (if(((sIx items.size 0 lo:Nat):Int) == 0&&(1:Int) == 1&&(sIx items.size items.size hi-sIx items.size 0 lo) == items.size)=true then _ else _) _ _ s
 rw[if_neg hno,zjV]
 first
  | exact wpAny_bind (m:=Builtin.Tuple.tupleExact _) (wpAny_newObj_type (wpAny_pure ⟨_,rfl,wpAny_pure h⟩) htake)
  | exact wpAny_bind (m:=Builtin.Tuple.tupleExact _) (wpAny_newObj_type (wpAny_bind (wpAny_pure (wpAny_pure ⟨_,rfl,wpAny_pure h⟩))) htake)
  | exact wpAny_bind (wpAny_bind (m:=Builtin.Tuple.tupleExact _) (wpAny_newObj_type (wpAny_pure (wpAny_pure ⟨_,rfl,wpAny_pure h⟩)) htake))
  | exact wpAny_bind (wpAny_bind (m:=Builtin.Tuple.tupleExact _) (wpAny_newObj_type (wpAny_pure ⟨_,rfl,wpAny_pure h⟩) htake))
end
end HT
namespace Internal
open PySem PySem.Spec PyProof.Rows
abbrev TO:=St->Hp->(Option Int->Hp->Prop)->Prop
noncomputable def PO (X:Cx) (e:Option Expr) (t:TO):Prop:=
 ∀(pins:List (Addr × Obj)) (s:Shared) (σ:St) (H:Hp) (Q:Option Int->Hp->Prop),Inv X pins σ H s->t σ H Q ->
  wpAny (model X.prog X.w) X.A (evalPart e X.env) (fun u s'=>∃o H',Inv X pins σ H' s'/\IsPart u o/\Q o H') X.xe s
abbrev zk9:TO:=fun _ H Q=>Q none H
noncomputable def zkZ (t:TE):TO:=fun σ H Q=>t σ H fun x H1=>∃i,x=.int i/\Q (some i) H1
theorem zhV{ns:List Int}:∀{us:List Value},Vals (ns.map V.int) us->IntsAre us ns:=by
 induction ns with
 | nil=>intro us r;rw[List.map_nil]at r;cases r;exact .nil
 | cons n ns ih=>
  intro us r
  rw[yH]at r
  cases r with
  | cons r1 r2=>
   obtain⟨t,e⟩:=r1
   subst e
   exact .cons n t (ih r2)
section
variable {X:Cx}{e:Expr}{te:TE}{lo hi:Option Expr}{tl th:TO}{pos p2:Pos}
theorem zbu:PO X none zk9:=by
 intro pins s σ H Q I h
 rw[evalPart_none]
 exact wpAny_pure ⟨none,H,I,.none,h⟩
theorem zbp(h:PE X e te):PO X (some e) (zkZ te):=by
 intro pins s σ H Q I hw
 rw[evalPart_some]
 refine thn (h pins s σ H _ I hw) fun u s1 zz=>?_
 obtain⟨x,H1,I1,r1,q1⟩:=zz
 obtain⟨i,rfl,q⟩:=q1
 obtain⟨t,rfl⟩:=r1
 exact⟨some i,H1,I1,.int i t,q⟩
noncomputable def SlR (X:Cx) (r:V->Option Int->Option Int->Hp->VK->Prop):Prop:=
 ∀(pins:List (Addr × Obj)) (s:Shared) (σ:St) (H:Hp) (x:V) (v vl vu:Value) (lo hi:Option Int) (sl:Addr) (Q:VK),Inv X pins σ H s->RelV x v->s.heap.IsSliceOf sl vl vu .none->IsPart vl lo->IsPart vu hi->r x lo hi H Q ->
  ∃T id,typeLookup (.type T) "__getitem__" = pure (some (.builtin id))/\s.TypeIs v T/\wpAny (model X.prog X.w) X.A (getItem v (.ref sl)) (EP X pins σ Q) X.xe s
abbrev tSl(r:V->Option Int->Option Int->Hp->VK->Prop)(te:TE)(tl th:TO):TE:=fun σ H Q=>te σ H fun x H1=>tl σ H1 fun l H2=>th σ H2 fun u H3=>r x l u H3 Q
theorem za6{r:V->Option Int->Option Int->Hp->VK->Prop}(hr:SlR X r)(he:PE X e te)(hl:PO X lo tl)(hu:PO X hi th):PE X (.Subscript e (.Slice lo hi none p2) pos) (tSl r te tl th):=by
 intro pins s σ H Q I h
 refine Subscript_ (thn (he pins s σ H _ I h) fun v s1 zz=>?_)
 obtain⟨x,H1,I1,r1,q1⟩:=zz
 refine wpAny_Slice (thn (hl pins s1 σ H1 _ I1 q1) fun vl s2 ⟨l,H2,I2,pl,q2⟩=>thn (hu pins s2 σ H2 _ I2 q2) fun vu s3 zz=>?_)
 obtain⟨u,H3,I3,pu,q3⟩:=zz
 rw[evalPart_none]
 refine wpAny_pure ?_
 have I4:Inv X pins σ H3 { s3 with heap:=s3.heap.push { cls:=.type "slice",data:=.fields #[vl,vu,.none] } }:=I3.kept (t':=s3.toks) fun b ob q=>Heap.get?_push_of_some _ q
 obtain⟨T,id,hT,ht,hg⟩:=hr pins { s3 with heap:=s3.heap.push { cls:=.type "slice",data:=.fields #[vl,vu,.none] } } σ H3 x v vl vu l u s3.heap.objs.size Q I4 r1 (Heap.IsSliceOf.new ..) pl pu q3
 show wpAny (model X.prog X.w) X.A (subscriptTail e (.Slice lo hi none p2) v (.ref s3.heap.objs.size)) (EP X pins σ Q) X.xe { s3 with heap:=s3.heap.push { cls:=.type "slice",data:=.fields #[vl,vu,.none] } }
 exact tail_any (ops:=[.ref s3.heap.objs.size,v]) ht hT hg (by with_unfolding_all rfl)
noncomputable def zbn (xs:List V) (lo hi:Option Int):List V:=(xs.drop (HT.sIx xs.length 0 lo)).take (HT.sIx xs.length xs.length hi-HT.sIx xs.length 0 lo)
theorem zdX(xs:List V)(lo hi:Option Int):(zbn xs lo hi).length<=xs.length:=by
 unfold zbn
 rw[yU,List.length_drop]
 omega
noncomputable def zjQ (K:Fg):V->Option Int->Option Int->Hp->VK->Prop:=fun x lo hi H Q=>∃a xs,x=.ref a/\SqT K H a xs /\
 ¬(HT.sIx xs.length 0 lo=0/\HT.sIx xs.length xs.length hi=xs.length)/\∀p,H p=none->Q (.ref p) (upd H p (.tup (zbn xs lo hi)))
theorem znc:SlR X (zjQ X.K):=by
 intro pins s σ H x v vl vu lo hi sl Q I rx hs pl pu h
 obtain⟨a,xs,rfl,hx,hw,q⟩:=h
 cases rx
 obtain⟨its,r,ht,hz⟩:=I.tuple hx
 have hlen:its.toArray.size=xs.length:=by rw[yi];exact r.length.symm
 refine⟨"tuple",_,yac.lookup,ht.typeIs,?_⟩
 refine HT.getItem_tuple_cut ht hs pl pu (by rw[hlen];exact hw) ?_ (by rw[hlen];exact hz)
 rw[hlen]
 refine⟨.ref s.heap.objs.size,_,I.laid (t':=s.toks) (o:=.tup (zbn xs lo hi)) (fun b ob q=>Heap.get?_push_of_some _ q) (yf _) ?_,rfl,q _ (I.hok.fresh (yf _))⟩
 exact⟨yb (zdX xs lo hi) hz,_,(r.drop (HT.sIx xs.length 0 lo)).take (HT.sIx xs.length xs.length hi-HT.sIx xs.length 0 lo),IsTup.new _ _⟩
noncomputable def zk4 (K:Fg):R2:=fun x y H Q=>∃a b xs ys,x=.ref a/\y=.ref b/\SqT K H a xs/\SqT K H b ys/\xs≠[]/\xs.length+ys.length<=sizeLine /\
 (ys=[]->Q (.ref a) H)/\(ys≠[]->∀p,H p=none->Q (.ref p) (upd H p (.tup (xs++ys))))
theorem Vals.nil_iff{xs:List V}{us:List Value}(r:Vals xs us):us=[]↔xs=[]:=by
 cases r with
 | nil=>simp
 | cons _ _=>simp
theorem zlH:OpR X (binaryOp .Add) (zk4 X.K):=by
 intro pins s σ H x y v u Q I rx ry h
 obtain⟨a,b,xs,ys,rfl,rfl,ha,hb,hx,hz,q1,q2⟩:=h
 cases rx
 cases ry
 obtain⟨its,r1,p1,_⟩:=I.tuple ha
 obtain⟨its2,r2,p2,_⟩:=I.tuple hb
 refine HT.cat_tup p1 p2 (fun z=>hx (r1.nil_iff.mp z)) (fun z=>⟨.ref a,H,I,rfl,q1 (r2.nil_iff.mp z)⟩) (fun z=>?_) (by rw[<- r1.length,<- r2.length];exact hz)
 refine⟨.ref s.heap.objs.size,_,I.laid (t':=s.toks) (o:=.tup (xs++ys)) (fun b ob q=>Heap.get?_push_of_some _ q) (yf _) ?_,rfl,q2 (fun w=>z (r2.nil_iff.mpr w)) _ (I.hok.fresh (yf _))⟩
 exact⟨by rw[yk];exact hz,_,r1.append r2,IsTup.new _ _⟩
end
noncomputable def ixN (n:Nat) (i:Int):Option Nat:=if 0<=i then(if i<n then some i.toNat else none)else if -(n:Int)<=i then some (i+n).toNat else none
noncomputable def atI {α:Type} (xs:List α) (i:Int):Option α:=(ixN xs.length i).bind fun j=>xs[j]?
theorem zha{n:Nat}{i:Int}{j:Nat}(h:ixN n i=some j):seqIndex? i n=some j/\j<n/\-(n:Int)<=i/\i<n:=by
 unfold ixN at h
 by_cases h0:0<=i
 ·rw[if_pos h0]at h
  by_cases h1:i<n
  ·rw[if_pos h1]at h
   have e:i.toNat=j:=yn h
   exact⟨by rw[seqIndex_of h0 h1,e],by omega,by omega,h1⟩
  ·rw[if_neg h1]at h;cases h
 ·rw[if_neg h0]at h
  by_cases h1:-(n:Int)<=i
  ·rw[if_pos h1]at h
   have e:(i+n).toNat=j:=yn h
   exact⟨by rw[seqIndex_neg (by omega) h1,e],by omega,h1,by omega⟩
  ·rw[if_neg h1]at h;cases h
theorem zdv{α:Type}{xs:List α}{i:Int}{v:α}(h:atI xs i=some v):∃j,seqIndex? i xs.length=some j/\xs[j]?=some v/\j<xs.length/\-(xs.length:Int)<=i/\i<xs.length:=by
 unfold atI at h
 cases e:ixN xs.length i with
 | none=>rw[e]at h;cases h
 | some j=>
  rw[e]at h
  obtain⟨h1,h2,h3,h4⟩:=zha e
  exact⟨j,h1,h,h2,h3,h4⟩
theorem zbL{α:Type}{xs:List α}{j:Nat}{v:α}(h:xs[j]?=some v):atI xs (j:Int)=some v:=by
 have hj:j<xs.length:=(yl.mp h).1
 have e:ixN xs.length (j:Int)=some j:=by
  unfold ixN
  rw[if_pos (by omega),if_pos (by omega)];simp
 unfold atI;rw[e];exact h
theorem zjT{α:Type}(xs:List α)(v:α):atI (xs++[v]) (-1)=some v:=by
 have hl:(xs++[v]).length=xs.length+1:=by simp
 have e:ixN (xs++[v]).length (-1)=some xs.length:=by
  unfold ixN
  rw[hl,if_neg (by decide),if_pos (by omega)]
  congr 1
  omega
 unfold atI
 rw[e]
 show(xs++[v])[xs.length]?=some v
 simp
noncomputable def zlk (b:Expr):Prop:=∀o i,subscripted b false o i=operate [o,i] (getItem o i)
noncomputable def IxR (X:Cx) (r:R2):Prop:=
 ∀(value slice:Expr) (pins:List (Addr × Obj)) (s:Shared) (σ:St) (H:Hp) (x y:V) (v u:Value) (Q:VK),Inv X pins σ H s->RelV x v->RelV y u->r x y H Q ->
  subscripted slice false v u=operate [v,u] (getItem v u)->wpAny (model X.prog X.w) X.A (subscriptTail value slice v u) (EP X pins σ Q) X.xe s
noncomputable def MtR (X:Cx) (id:String) (r:V->List V->Hp->VK->Prop):Prop:=
 ∀(pins:List (Addr × Obj)) (s:Shared) (σ:St) (H:Hp) (x:V) (xs:List V) (v:Value) (us:List Value) (Q:VK),Inv X pins σ H s->RelV x v->Vals xs us->r x xs H Q ->
  wpAny (model X.prog X.w) X.A (call (.builtin id) (v :: us)) (EP X pins σ Q) X.xe s
section
variable {X:Cx}{a b:Expr}{ta tb:TE}{pos:Pos}
theorem IxR.or{r r':R2}(h:IxR X r)(h':IxR X r'):IxR X (fun x y H Q=>r x y H Q\/r' x y H Q):=by
 intro value slice pins s σ H x y v u Q I rx ry q hs
 rcases q with q | q
 ·exact h value slice pins s σ H x y v u Q I rx ry q hs
 ·exact h' value slice pins s σ H x y v u Q I rx ry q hs
theorem zh{r:R2}(hr:IxR X r)(ha:PE X a ta)(hb:PE X b tb)(hs:zlk b):PE X (.Subscript a b pos) (tOp r ta tb):=by
 intro pins s σ H Q I h
 exact Subscript_ (zj4 ha hb I h fun v u s2 x y H2 I2 rx ry q=>hr a b pins s2 σ H2 x y v u Q I2 rx ry q (hs _ _))
noncomputable def zbB (K:Fg):R2:=fun x y H Q=>∃p xs i v,x=.ref p/\y=.int i/\SqL K H p xs/\atI xs i=some v/\Q v H
noncomputable def zne (K:Fg):R2:=fun x y H Q=>∃p xs i v,x=.ref p/\y=.int i/\SqT K H p xs/\atI xs i=some v/\Q v H
noncomputable def znp:R2:=fun x y H Q=>∃z i c,x=.str z/\y=.int i/\z.length<=sizeLine/\atI z.cps.toList i=some c/\Q (.str ⟨#[c]⟩) H
theorem ix_list:IxR X (zbB X.K):=by
 intro value slice pins s σ H x y v u Q I rx ry h hs
 obtain⟨p,xs,i,z,rfl,rfl,hq,he,q⟩:=h
 cases rx
 obtain⟨t,rfl⟩:=ry
 obtain⟨its,r,pl,hz⟩:=I.list hq
 obtain⟨j,h1,h2,h3,h4,h5⟩:=zdv he
 obtain⟨w,ew,rw'⟩:=r.get h2
 have hl:=r.length
 have hn:=line63
 have fin:EP X pins σ Q w s:=⟨z,H,I,rw',q⟩
 by_cases h0:0<=i
 ·have hj:i.toNat=j:=by
   rw[seqIndex_of h0 h5]at h1
   exact yn h1
  exact item_listR pl.isList h0 (by omega) (by rw[hj];simpa using ew) fin hs
 ·have hj:(i+(its.toArray.size:Int)).toNat=j:=by
   rw[seqIndex_neg (by omega) h4]at h1
   rw[yi,<- hl]
   exact yn h1
  exact subscriptTail_builtinR (x:=w) pl.isList.typeIs slot_list_getitem.lookup
   (wpAny_getItem_list_neg (Q:=fun r s'=>r=w/\EP X pins σ Q r s') pl.isList (by omega) (by rw[yi]<;>omega) (by omega) (by rw[hj];simpa using ew) ⟨rfl,fin⟩) hs
theorem ix_tup:IxR X (zne X.K):=by
 intro value slice pins s σ H x y v u Q I rx ry h hs
 obtain⟨p,xs,i,z,rfl,rfl,hq,he,q⟩:=h
 cases rx
 obtain⟨t,rfl⟩:=ry
 obtain⟨its,r,pl,hz⟩:=I.tuple hq
 obtain⟨j,h1,h2,h3,h4,h5⟩:=zdv he
 obtain⟨w,ew,rw'⟩:=r.get h2
 have hl:=r.length
 have hn:=line63
 have fin:EP X pins σ Q w s:=⟨z,H,I,rw',q⟩
 exact subscriptTail_builtinR (x:=w) pl.typeIs slot_tuple_getitem.lookup
  (getItem_tuple (j:=j) (Q:=fun r s'=>r=w/\EP X pins σ Q r s') pl (by omega) (by omega) (by rw[yi,<- hl];exact h1) (by simpa using ew) ⟨rfl,fin⟩) hs
theorem zmv:IxR X znp:=by
 intro value slice pins s σ H x y v u Q I rx ry h hs
 obtain⟨z,i,c,rfl,rfl,hz,he,q⟩:=h
 obtain⟨t,rfl⟩:=rx
 obtain⟨t',rfl⟩:=ry
 obtain⟨j,h1,h2,h3,h4,h5⟩:=zdv he
 have hl:z.cps.toList.length=z.length:=by simp[Str.length]
 rw[hl]at h1 h4 h5
 have hn:=line63
 exact tail_any (typeIs_str s z t) slot_str_getitem.lookup (getItem_str (c:=c) (by
  have e1:decide (i < -(2 ^ 63:Int))=false:=decide_eq_false (by omega)
  have e2:decide (i≥2 ^ 63)=false:=decide_eq_false (by omega)
  rw[e1,e2,Bool.or_false]) (by rw[h1];simpa using h2) ⟨.str ⟨#[c]⟩,H,I.tok _,⟨_,rfl⟩,q⟩) hs
noncomputable def rIx (K:Fg):R2:=fun x y H Q=>zbB K x y H Q\/zne K x y H Q\/znp x y H Q
theorem zf:IxR X (rIx X.K):=ix_list.or (ix_tup.or zmv)
theorem zh4(its:List Value)(n j:Nat)(u:Value):Obj.mapSeq (·.setIfInBounds j u) { cls:=.type "list",data:=.seq its.toArray n }={ cls:=.type "list",data:=.seq (its.set j u).toArray n }:=by
 simp[Obj.mapSeq]
theorem Inv.lst{pins:List (Addr × Obj)}{σ:St}{H:Hp}{s:Shared}{p:Addr}{xs:List V}(I:Inv X pins σ H s)(h:H p=some (.lst xs)) :
  ∃(its:List Value) (n:Nat),Vals xs its/\s.heap.get? p=some { cls:=.type "list",data:=.seq its.toArray n }/\xs.length<=sizeLine:=by
 obtain⟨z,its,n,r,e⟩:=I.hok p _ h
 exact⟨its,n,r,e,z⟩
theorem Inv.lstUpd{pins:List (Addr × Obj)}{σ:St}{H:Hp}{s:Shared}{p:Addr}{xs ys:List V}{its its':List Value}{n n':Nat}{f:Obj->Obj}(I:Inv X pins σ H s)(h:H p=some (.lst xs))
  (ho:s.heap.get? p=some { cls:=.type "list",data:=.seq its.toArray n }) (hf:f { cls:=.type "list",data:=.seq its.toArray n }={ cls:=.type "list",data:=.seq its'.toArray n' }) (r:Vals ys its') (hz:ys.length<=sizeLine) (t:Nat) :
  Inv X pins σ (upd H p (.lst ys)) { s with heap:=s.heap.update p f,toks:=t }:=by
 have e:(s.heap.update p f).get? p=some { cls:=.type "list",data:=.seq its'.toArray n' }:=by
  rw[Heap.get?_update_self f ho (by rw[hf]<;>rfl),hf]
 refine I.write (x:=p) (e:=p) (by rw[h];trivial) (.inl rfl) (fun b u hb q=>(Heap.get?_update_other _ _ (yaj hb)).trans q) ⟨_,e⟩ ?_
 exact⟨hz,its',n',r,e⟩
noncomputable def zeK:V->V->V->Hp->(Hp->Prop)->Prop:=fun o i v H Q=>∃p xs k j,o=.ref p/\i=.int k/\H p=some (.lst xs)/\ixN xs.length k=some j/\Q (upd H p (.lst (xs.set j v)))
theorem zU:zjS X zeK:=by
 intro pins s σ H o i v ov iv u Q I ro ri rv h
 obtain⟨p,xs,k,j,rfl,rfl,hp,hj,q⟩:=h
 cases ro
 obtain⟨t,rfl⟩:=ri
 obtain⟨its,n,r,ho,hz⟩:=I.lst hp
 obtain⟨h1,h2,h3,h4⟩:=zha hj
 have hl:=r.length
 have hn:=line63
 have I':Inv X pins σ (upd H p (.lst (xs.set j v))) { s with heap:=s.heap.update p (Obj.mapSeq (·.setIfInBounds j u)) }:=
  I.lstUpd hp ho (zh4 its n j u) (r.set rv j) (by rw[yap];exact hz) s.toks
 by_cases h0:0<=k
 ·have hk:k.toNat=j:=by
   rw[seqIndex_of h0 h4]at h1
   exact yn h1
  exact PySem.W.ki_setAt ho h0 (by omega) (by rw[yi,<- hl];exact h4) (by rw[hk];exact⟨_,I',q⟩)
 ·have hk:(k+(its.toArray.size:Int)).toNat=j:=by
   rw[seqIndex_neg (by omega) h3]at h1
   rw[yi,<- hl]
   exact yn h1
  exact PySem.W.ki_setBack ho (by omega) (by rw[yi,<- hl];exact h3) (by omega) (by rw[hk];exact⟨_,I',q⟩)
theorem zgf(lo hi:Option Int)(n:Nat):(sliceBounds lo hi none n).1=((HT.sIx n 0 lo:Nat):Int)/\(sliceBounds lo hi none n).2.1=((HT.sIx n n hi:Nat):Int)/\(sliceBounds lo hi none n).2.2=1:=by
 refine⟨?_,?_,rfl⟩
 ·cases lo with
  | none=>simp[sliceBounds,HT.sIx]
  | some i=>
   simp only[sliceBounds,HT.sIx,Option.getD_none,show(1:Int)>0 by decide,if_true]
   by_cases h:i<0
   ·simp only[h,if_true]<;>omega
   ·simp only[h,if_false]<;>omega
 ·cases hi with
  | none=>simp[sliceBounds,HT.sIx]
  | some i=>
   simp only[sliceBounds,HT.sIx,Option.getD_none,show(1:Int)>0 by decide,if_true]
   by_cases h:i<0
   ·simp only[h,if_true]<;>omega
   ·simp only[h,if_false]<;>omega
theorem zfL(its:List Value)(lo hi:Option Int):slicePick its.toArray lo hi none=((its.drop (HT.sIx its.length 0 lo)).take (HT.sIx its.length its.length hi-HT.sIx its.length 0 lo)).toArray:=by
 obtain⟨h1,h2,h3⟩:=zgf lo hi its.toArray.size
 unfold slicePick
 rw[h1,h2,h3]
 simp only[sliceRange_one,pick_run,yi]<;>rfl
noncomputable def zcg (K:Fg):V->Option Int->Option Int->Hp->VK->Prop:=fun x lo hi H Q=>∃a xs,x=.ref a/\SqL K H a xs/\∀p,H p=none->Q (.ref p) (upd H p (.lst (zbn xs lo hi)))
theorem zbM:SlR X (zcg X.K):=by
 intro pins s σ H x v vl vu lo hi sl Q I rx hs pl pu h
 obtain⟨a,xs,rfl,hx,q⟩:=h
 cases rx
 obtain⟨its,r,ht,hz⟩:=I.list hx
 have hlen:=r.length
 refine⟨"list",_,slot_list_getitem.lookup,ht.isList.typeIs,?_⟩
 refine wpAny_getItem_list_slice ht.isList hs pl pu .none (by simp) ?_ (by rw[yi]<;>omega)
 rw[zfL,<- hlen]
 refine⟨.ref s.heap.objs.size,_,I.laid (t':=s.toks) (o:=.lst (zbn xs lo hi)) (fun b ob q=>Heap.get?_push_of_some _ q) (yf _) ?_,rfl,q _ (I.hok.fresh (yf _))⟩
 exact⟨yb (zdX xs lo hi) hz,_,0,(r.drop (HT.sIx xs.length 0 lo)).take (HT.sIx xs.length xs.length hi-HT.sIx xs.length 0 lo),Heap.get?_push_size _ rfl⟩
noncomputable def zbQ:V->Bool
 | .non=>true
 | .bl _=>true
 | .int _=>true
 | .str _=>true
 | _=>false
noncomputable def eqV:V->V->Bool
 | .non,.non=>true
 | .bl a,.bl b=>a == b
 | .bl a,.int b=>(if a then 1 else 0) == b
 | .int a,.bl b=>a == (if b then 1 else 0)
 | .int a,.int b=>a == b
 | .str a,.str b=>a == b
 | _,_=>false
theorem zni{A:Around}{s:Shared}{y x:V}{u v:Value}(ry:RelV y u)(rx:RelV x v)(fy:zbQ y=true)(fx:zbQ x=true):SeqAt.EqAt A s u v (eqV y x):=by
 cases y with
 | non=>
  cases ry
  cases x with
  | non=>cases rx;exact SeqAt.EqAt.same _
  | bl b=>cases rx;exact SeqAt.EqAt.none_bool b
  | int b=>obtain⟨t,rfl⟩:=rx;exact SeqAt.EqAt.none_int b t
  | str b=>obtain⟨t,rfl⟩:=rx;exact SeqAt.EqAt.none_str b t
  | _=>exact absurd (show false=true from fx) yj
 | bl a=>
  cases ry
  cases x with
  | non=>cases rx;exact SeqAt.EqAt.bool_none a
  | bl b=>cases rx;exact SeqAt.EqAt.bool_bool a b
  | int b=>obtain⟨t,rfl⟩:=rx;exact SeqAt.EqAt.bool_int a b t
  | str b=>obtain⟨t,rfl⟩:=rx;exact SeqAt.EqAt.bool_str a b t
  | _=>exact absurd (show false=true from fx) yj
 | int a=>
  obtain⟨t',rfl⟩:=ry
  cases x with
  | non=>cases rx;exact SeqAt.EqAt.int_none a t'
  | bl b=>cases rx;exact SeqAt.EqAt.int_bool a t' b
  | int b=>obtain⟨t,rfl⟩:=rx;exact SeqAt.EqAt.int_int a t' b t
  | str b=>obtain⟨t,rfl⟩:=rx;exact SeqAt.EqAt.int_str a t' b t
  | _=>exact absurd (show false=true from fx) yj
 | str a=>
  obtain⟨t',rfl⟩:=ry
  cases x with
  | non=>cases rx;exact SeqAt.EqAt.str_none a t'
  | bl b=>cases rx;exact SeqAt.EqAt.str_bool a t' b
  | int b=>obtain⟨t,rfl⟩:=rx;exact SeqAt.EqAt.str_int a t' b t
  | str b=>obtain⟨t,rfl⟩:=rx;exact SeqAt.EqAt.str_str a t' b t
  | _=>exact absurd (show false=true from fx) yj
 | _=>exact absurd (show false=true from fy) yj
noncomputable def eqU (x:V) (u:Value):Bool:=match u with
 | .none=>eqV .non x
 | .bool b=>eqV (.bl b) x
 | .int i _=>eqV (.int i) x
 | .str z _=>eqV (.str z) x
 | _=>false
theorem zgp{x y:V}{u:Value}(r:RelV y u)(f:zbQ y=true):eqU x u=eqV y x:=by
 cases y with
 | non=>cases r;rfl
 | bl b=>cases r;rfl
 | int i=>obtain⟨t,rfl⟩:=r;rfl
 | str z=>obtain⟨t,rfl⟩:=r;rfl
 | _=>exact absurd (show false=true from f) yj
theorem zcD{x:V}:∀{xs:List V} {us:List Value},Vals xs us->xs.all zbQ=true->us.any (eqU x)=xs.any fun y=>eqV y x
 | _,_,.nil,_=>rfl
 | y :: xs,u :: us,.cons r t,f=>by
  rw[yav,yz]at f
  rw[List.any_cons,List.any_cons,zgp r f.1,zcD t f.2]
theorem zbP{A:Around}{s:Shared}{x:V}{v:Value}(rx:RelV x v)(fx:zbQ x=true):∀{xs:List V} {us:List Value},Vals xs us->xs.all zbQ=true->∀u∈us,SeqAt.EqAt A s u v (eqU x u)
 | _,_,.nil,_=>fun u hu=>by cases hu
 | y :: xs,u :: us,.cons r t,f=>fun u' hu=>by
  rw[yav,yz]at f
  rcases ye.mp hu with rfl | hu
  ·rw[zgp r f.1];exact zni r rx f.1 fx
  ·exact zbP rx fx t f.2 u' hu
noncomputable def inV (x:V) (xs:List V):Bool:=xs.any fun y=>eqV y x
noncomputable def rIn (K:Fg) (neg:Bool):R2:=fun x y H Q=>∃p xs,y=.ref p/\(SqL K H p xs\/SqT K H p xs)/\zbQ x=true/\xs.all zbQ=true/\Q (.bl (if neg then !inV x xs else inV x xs)) H
theorem ziS:OpR X (compareOp .In) (rIn X.K false):=by
 intro pins s σ H x y v u Q I rx ry h
 obtain⟨p,xs,rfl,hq,fx,fs,q⟩:=h
 cases ry
 rcases hq with hq | hq
 ·obtain⟨its,r,pl,hz⟩:=I.list hq
  refine SeqAt.in_listAt (eqU x) pl.isList (fun w hw=>zbP rx fx r fs w (by simpa using hw)) ⟨.bl _,H,I,rfl,?_⟩
  rw[show its.toArray.any (eqU x)=its.any (eqU x) by simp,zcD r fs]
  exact q
 ·obtain⟨its,r,pl,hz⟩:=I.tuple hq
  refine SeqAt.in_tupleAt (eqU x) pl (fun w hw=>zbP rx fx r fs w (by simpa using hw)) ⟨.bl _,H,I,rfl,?_⟩
  rw[show its.toArray.any (eqU x)=its.any (eqU x) by simp,zcD r fs]
  exact q
theorem zdj:OpR X (compareOp .NotIn) (rIn X.K true):=by
 intro pins s σ H x y v u Q I rx ry h
 obtain⟨p,xs,rfl,hq,fx,fs,q⟩:=h
 cases ry
 rcases hq with hq | hq
 ·obtain⟨its,r,pl,hz⟩:=I.list hq
  refine SeqAt.notIn_listAt (eqU x) pl.isList (fun w hw=>zbP rx fx r fs w (by simpa using hw)) ⟨.bl _,H,I,rfl,?_⟩
  rw[show its.toArray.any (eqU x)=its.any (eqU x) by simp,zcD r fs]
  exact q
 ·obtain⟨its,r,pl,hz⟩:=I.tuple hq
  refine SeqAt.notIn_tupleAt (eqU x) pl (fun w hw=>zbP rx fx r fs w (by simpa using hw)) ⟨.bl _,H,I,rfl,?_⟩
  rw[show its.toArray.any (eqU x)=its.any (eqU x) by simp,zcD r fs]
  exact q
theorem zgB:CallR X (.builtin "len") (fun xs H Q=>∃p ys,xs=[.ref p]/\(SqL X.K H p ys\/SqT X.K H p ys)/\Q (.int ys.length) H):=by
 intro pins s σ H xs us Q I r h
 obtain⟨p,ys,rfl,hq,q⟩:=h
 obtain⟨u,rfl,rx⟩:=vals1 r
 cases rx
 have hn:=line63
 rcases hq with hq | hq
 ·obtain⟨its,r',pl,hz⟩:=I.list hq
  have hlen:=r'.length
  exact Calls.call_len_list pl.isList (by simp only[yi]<;>omega) ⟨.int ys.length,H,I.tok _,⟨s.toks+1,by rw[yi,hlen]⟩,q⟩
 ·obtain⟨its,r',pl,hz⟩:=I.tuple hq
  have hlen:=r'.length
  exact len_tuple pl (by simp only[yi]<;>omega) ⟨.int ys.length,H,I.tok _,⟨s.toks+1,by rw[yi,hlen]⟩,q⟩
theorem CallR.or{f:Value}{r r':List V->Hp->VK->Prop}(h:CallR X f r)(h':CallR X f r'):CallR X f (fun xs H Q=>r xs H Q\/r' xs H Q):=by
 intro pins s σ H xs us Q I rs q
 rcases q with q | q
 ·exact h pins s σ H xs us Q I rs q
 ·exact h' pins s σ H xs us Q I rs q
theorem zgd:CallR X (.type "list") (fun xs H Q=>∃p ys,xs=[.ref p]/\(SqL X.K H p ys\/SqT X.K H p ys)/\∀l,H l=none->Q (.ref l) (upd H l (.lst ys))):=by
 intro pins s σ H xs us Q I r h
 obtain⟨p,ys,rfl,hq,q⟩:=h
 obtain⟨u,rfl,rx⟩:=vals1 r
 cases rx
 have fin:∀(its:List Value),Vals ys its->ys.length<=sizeLine->∀(h':Heap) (c':Nat),(∀b o',s.heap.get? b=some o'->h'.get? b=some o') ->
   h'.get? s.heap.objs.size=some { cls:=.type "list",dict:=none,data:=.seq its.toArray c',slots:=#[] }->EP X pins σ Q (.ref s.heap.objs.size) { s with heap:=h' }:=fun its r' hz h' c' kp e=>
  ⟨.ref s.heap.objs.size,_,I.laid (t':=s.toks) kp (yf _) (show ObjOk X.prog X.w _ h' _ (.lst ys) from⟨hz,its,c',r',e⟩),rfl,q _ (I.hok.fresh (yf _))⟩
 rcases hq with hq | hq
 ·obtain⟨its,r',pl,hz⟩:=I.list hq
  have hlen:=r'.length
  obtain⟨o,ho,hc,n,hd⟩:=pl.isList
  exact call_list_seq p (.inl rfl) ho hc hd (fun h' c' kp e=>fin its r' hz h' c' kp e) (by simp only[yi]<;>omega)
 ·obtain⟨its,r',pl,hz⟩:=I.tuple hq
  have hlen:=r'.length
  obtain⟨o,ho,hc,n,hd⟩:=pl
  exact call_list_seq p (.inr rfl) ho hc hd (fun h' c' kp e=>fin its r' hz h' c' kp e) (by simp only[yi]<;>omega)
theorem zfH:CallR X (.type "tuple") (fun xs H Q=>∃p ys,xs=[.ref p]/\((SqL X.K H p ys/\∀l,H l=none->Q (.ref l) (upd H l (.tup ys)))\/(SqT X.K H p ys/\Q (.ref p) H))):=by
 intro pins s σ H xs us Q I r h
 obtain⟨p,ys,rfl,h⟩:=h
 obtain⟨u,rfl,rx⟩:=vals1 r
 cases rx
 rcases h with⟨hq,q⟩ | ⟨hq,q⟩
 ·obtain⟨its,r',pl,hz⟩:=I.list hq
  have hlen:=r'.length
  refine call_tuple_list pl.isList (fun h' kp=>?_) (by simp only[yi]<;>omega)
  have I1:Inv X pins σ H { s with heap:=h' }:=I.kept (t':=s.toks) kp
  have I2:Inv X pins σ (upd H h'.objs.size (.tup ys)) { s with heap:=h'.push { cls:=.type "tuple",data:=.seq its.toArray } }:=
   I1.laid (t':=s.toks) (fun b o e=>Heap.get?_push_of_some _ e) (yf _) (show ObjOk X.prog X.w _ _ _ (.tup ys) from⟨hz,its,r',IsTup.new _ _⟩)
  exact⟨.ref h'.objs.size,_,I2,rfl,q _ (I1.hok.fresh (yf _))⟩
 ·obtain⟨its,r',pl,hz⟩:=I.tuple hq
  exact call_tuple_same pl ⟨.ref p,H,I,rfl,q⟩
noncomputable def tyV (K:Fg) (T:String) (x:V) (H:Hp):Prop:=match x with
 | .str _=>T = "str"
 | .int _=>T = "int"
 | .ref p=>(T = "list" /\ ∃xs,SqL K H p xs)\/(T = "tuple" /\ ∃o,K.lookup p=some o/\o.cls=.type "tuple" /\ o.dict=none) \/
   (T = "dict" /\ ((∃kvs,H p=some (.dK kvs))\/∃kvs,H p=some (.dT kvs)))\/(T = "set" /\ ∃S n,H p=some (.set S n))
 | _=>False
theorem zl9{pins:List (Addr × Obj)}{σ:St}{H:Hp}{s:Shared}{T:String}{x:V}{v:Value}(I:Inv X pins σ H s)(r:RelV x v)(ty:tyV X.K T x H) :
  s.TypeIs v T/\∀a,v=.ref a->∃ob,s.heap.get? a=some ob/\ob.dict=none:=by
 cases x with
 | str z=>
  obtain⟨t,rfl⟩:=r
  cases(show T = "str" from ty)
  exact⟨typeIs_str s z t,fun _ e=>nomatch e⟩
 | int i=>
  obtain⟨t,rfl⟩:=r
  cases(show T = "int" from ty)
  exact⟨typeIs_int s i t,fun _ e=>nomatch e⟩
 | ref p=>
  cases r
  rcases ty with⟨rfl,xs,hq⟩ | ⟨rfl,o,hk,hc,hd⟩ | ⟨rfl,hk⟩ | ⟨rfl,S,n,hk⟩
  ·obtain⟨its,_,pl,_⟩:=I.list hq
   refine⟨pl.isList.typeIs,fun a e=>?_⟩
   cases e
   obtain⟨o,n,e,c,hd,_⟩:=pl
   exact⟨o,e,hd⟩
  ·refine⟨⟨o,I.kIn p o hk,hc⟩,fun a e=>?_⟩
   cases e
   exact⟨o,I.kIn _ o hk,hd⟩
  ·have z:∃o,s.heap.get? p=some o/\o.ExactDict:=by
    rcases hk with⟨kvs,hk⟩ | ⟨kvs,hk⟩
    ·obtain⟨_,_,_,_,o,_,_,e,ex,_⟩:=I.hok p _ hk
     exact⟨o,e,ex⟩
    ·obtain⟨_,_,_,_,o,_,_,e,ex,_⟩:=I.hok p _ hk
     exact⟨o,e,ex⟩
   obtain⟨o,e,ex⟩:=z
   refine⟨⟨o,e,ex.1⟩,fun a e2=>?_⟩
   cases e2
   exact⟨o,e,ex.2.1⟩
  ·obtain⟨o,_,_,_,e,ex,_⟩:=I.hok p _ hk
   refine⟨⟨o,e,ex.1⟩,fun a e2=>?_⟩
   cases e2
   exact⟨o,e,ex.2.1⟩
 | _=>exact False.elim ty
noncomputable def tBM (K:Fg) (T:String) (r:V->List V->Hp->VK->Prop) (to:TE) (t:TA):TE:=fun σ H Q=>to σ H fun x H1=>tyV K T x H1/\t σ H1 fun xs H2=>r x xs H2 Q
variable {o e:Expr}{es:List Expr}{to:TE}{t:TA}{name:Str}{apos cpos:Pos}{T id:String}{r:V->List V->Hp->VK->Prop}
theorem zbA(pa:PlainAttrs T)(slot:Slot T name id)(hty:typeOf (.builtin id)=pure (.type "method_descriptor"))(hm:MtR X id r)(ho:PE X o to)(ha:PA X (e :: es) t)
  (hbase:autoParam (attributeBase o name X.env (eval o X.env)=eval o X.env) Internal.aut2._auto_1)
  (hfew:autoParam (((backTo cpos (starEach (e :: es) X.env)).all (fun x=>!x.1)&&(backToKw cpos (keywordEach [] X.env)).all (fun x=>x.1.isSome)
   && decide ((e :: es).length+([]:List Keyword).length+(if([]:List Keyword).isEmpty then 0 else 1)<30))=true) Internal.aut2._auto_1)
  (hline:autoParam ((apos.endLine == cpos.line)=true) Internal.aut2._auto_1) (hs:autoParam (starEach (e :: es) X.env=(false,eval e X.env) :: starEach es X.env) Internal.aut2._auto_1) (hplain:autoParam ((backTo cpos (starEach es X.env)).any (·.1)=false) Internal.aut2._auto_1) :
  PE X (.Call (.Attribute o name apos) (e :: es) [] cpos) (tBM X.K T r to t):=by
 intro pins s σ H Q I h
 refine wpAny_Call_method_late hbase hfew hline rfl (thn (ho pins s σ H _ I h) fun v s1 zz=>?_)
 obtain⟨x,H1,I1,r1,ty,q1⟩:=zz
 obtain⟨h1,h2⟩:=zl9 I1 r1 ty
 refine⟨T,id,pa,slot,hty,h1,h2,?_⟩
 have hA:=ha cpos pins s1 σ H1 _ I1 q1
 rw[hs]at hA ⊢
 refine Calls.callWith_builtin (by show(false || (backTo cpos (starEach es X.env)).any (·.1))=false;rw[hplain]<;>rfl) (Calls.evalArgs_plain ?_)
 exact thn hA fun us s2 ⟨vs,H2,I2,r2,q2⟩=>hm pins s2 σ H2 x vs v us Q I2 r1 r2 q2
/- xs.append(e),list.index on a module's tuple .. are MtR facts of 06m -/
end
noncomputable def MtM (X:Cx) (id:String) (r:V->List V->Hp->VK->Prop):Prop:=
 ∀(pins:List (Addr × Obj)) (s:Shared) (σ:St) (H:Hp) (x:V) (xs:List V) (v:Value) (us:List Value) (Q:VK),Inv X pins σ H s->RelV x v->Vals xs us->r x xs H Q ->
  wpAny (model X.prog X.w) X.A (call (.builtin id) (v :: us)) (EP X pins σ Q) X.xe s
theorem Vals.one:∀{x:V} {us:List Value},Vals [x] us->∃u,us=[u]/\RelV x u
 | _,_,h=>by
  cases h with
  | cons r t=>cases t;exact⟨_,rfl,r⟩
theorem Vals.rep{xs:List V}{us:List Value}(h:Vals xs us):∀k:Nat,Vals (List.replicate k xs).flatten (List.replicate k us).flatten
 | 0=>.nil
 | k+1=>by
  rw[yS,yS,yag,yag]
  exact Vals.append h (Vals.rep h k)
theorem zfn(its:List Value):∀(k:Nat) (acc:List Value),
  List.foldl (fun x1 x2=>x1++x2) acc.toArray (List.replicate k its.toArray)=(acc++(List.replicate k its).flatten).toArray
 | 0,acc=>by simp
 | k+1,acc=>by
  have e:acc.toArray++its.toArray=(acc++its).toArray:=by simp
  have e2:(acc++its)++(List.replicate k its).flatten=acc++(List.replicate (k+1) its).flatten:=by
   rw[yS,yag,yaK]
  rw[<- e2,<- zfn its k (acc++its),<- e,yS,yaB]
section
variable {X:Cx}{pins:List (Addr × Obj)}{σ:St}{H:Hp}{s:Shared}{l b:Addr}{xs ys zs:List V}
theorem Inv.lset{its its':List Value}{n:Nat}{f:Array Value->Array Value}{t':Nat}(I:Inv X pins σ H s)(hH:H l=some (.lst xs))
  (e:s.heap.get? l=some { cls:=.type "list",data:=.seq its.toArray n }) (hf:f its.toArray=its'.toArray) (hv:Vals ys its') (hz:ys.length<=sizeLine) :
  Inv X pins σ (upd H l (.lst ys)) { s with heap:=s.heap.update l (Obj.mapSeq f),toks:=t' }:=by
 have q:=PySem.IsL.update e f
 rw[hf]at q
 refine I.write (x:=l) (e:=l) (by rw[hH];exact trivial) (.inl rfl) (fun b' u hb hu=>(Heap.get?_update_other s.heap (Obj.mapSeq f) (yaj hb)).trans hu) ⟨_,q⟩ ?_
 exact⟨hz,its',_,hv,q⟩
theorem Inv.lnew{its:List Value}{t':Nat}(I:Inv X pins σ H s)(hv:Vals ys its)(hz:ys.length<=sizeLine) :
  Inv X pins σ (upd H s.heap.objs.size (.lst ys)) { s with heap:=s.heap.push { cls:=.type "list",data:=.seq its.toArray },toks:=t' }:=
 I.laid (fun _ _ q=>Heap.get?_push_of_some _ q) (yf _) ⟨hz,its,0,hv,Heap.get?_push_size _ rfl⟩
theorem Inv.fresh(I:Inv X pins σ H s):H s.heap.objs.size=none:=I.hok.fresh (yf _)
theorem Inv.lstM(I:Inv X pins σ H s)(hH:H l=some (.lst xs)):xs.length<=sizeLine/\∃(its:List Value) (n:Nat),Vals xs its/\xs.length=its.length/\s.heap.get? l=some { cls:=.type "list",data:=.seq its.toArray n }:=by
 obtain⟨z,its,n,r,e⟩:=I.hok l _ hH
 exact⟨z,its,n,r,r.length,e⟩
theorem zkF{n:Nat}(h:n<=sizeLine):Builtin.List.listTooLong n=false:=by
 unfold Builtin.List.listTooLong
 exact decide_eq_false (by omega)
end
section
variable {X:Cx}
noncomputable def za2:V->List V->Hp->VK->Prop:=fun x vs H Q=>∃l xs y,x=.ref l/\vs=[y]/\H l=some (.lst xs)/\xs.length<sizeLine/\Q .non (upd H l (.lst (xs++[y])))
theorem zaA:MtM X "list.append" za2:=by
 intro pins s σ H x vs v us Q I rx rv h
 obtain⟨l,xs,y,rfl,rfl,hH,hz,q⟩:=h
 cases rx
 obtain⟨u,rfl,ru⟩:=rv.one
 obtain⟨z,its,n,r,hl,e⟩:=I.lstM hH
 refine call_meets F.slot_list_append ⟨_,e,rfl⟩ F.entry_list_append (F.args_list_append_2 _ _) (PySem.list_append l its.toArray n u (by rw[yi];omega)) ⟨e,?_⟩
 refine⟨.non,_,I.lset (its':=its++[u]) hH e (by simp) (r.append (.cons ru .nil)) ?_,rfl,q⟩
 rw[yk,yax]
 omega
noncomputable def zmC:R2:=fun x y H Q=>∃l b xs zs,x=.ref l/\y=.ref b/\H l=some (.lst xs)/\H b=some (.lst zs)/\xs.length+zs.length<=sizeLine/\∀p,H p=none->Q (.ref p) (upd H p (.lst (xs++zs)))
theorem op_cat:OpR X (binaryOp .Add) zmC:=by
 intro pins s σ H x y v u Q I rx ry h
 obtain⟨l,b,xs,zs,rfl,rfl,hH,hB,hz,q⟩:=h
 cases rx
 cases ry
 obtain⟨z,its,n,r,hl,e⟩:=I.lstM hH
 obtain⟨z2,its2,n2,r2,hl2,e2⟩:=I.lstM hB
 refine PySem.P.add_list e e2 ?_ (by rw[yi,yi];omega)
 have ea:its.toArray++its2.toArray=(its++its2).toArray:=by simp
 rw[ea]
 exact⟨.ref _,_,I.lnew (t':=s.toks) (r.append r2) (by rw[yk];omega),rfl,q _ I.fresh⟩
noncomputable def zl7:R2:=fun x y H Q=>∃l k xs,x=.ref l/\y=.int k/\H l=some (.lst xs)/\-(2 ^ 63)<=k/\k<2 ^ 63/\xs.length*k.toNat<=sizeLine /\
 ∀p,H p=none->Q (.ref p) (upd H p (.lst (List.replicate k.toNat xs).flatten))
theorem zl1{α:Type}(xs:List α)(k:Nat):(List.replicate k xs).flatten.length=k*xs.length:=by
 induction k with
 | zero=>simp
 | succ k ih=>rw[yS,yag,yk,ih,Nat.succ_mul,Nat.add_comm]
theorem zm5:OpR X (binaryOp .Mult) zl7:=by
 intro pins s σ H x y v u Q I rx ry h
 obtain⟨l,k,xs,rfl,rfl,hH,h1,h2,hz,q⟩:=h
 cases rx
 obtain⟨t,rfl⟩:=ry
 obtain⟨z,its,n,r,hl,e⟩:=I.lstM hH
 have hlen:its.toArray.size*k.toNat<=sizeLine:=by rw[yi,<- hl];exact hz
 have hcap:¬its.toArray.size*k.toNat>(2 ^ 63-1)/8:=by
  have:(sizeLine:Nat)<=(2 ^ 63-1)/8:=by decide
  omega
 have hfit:¬(!Builtin.List.listFitsIndex k)=true:=by
  rw[fitsIndex_both h1 h2]
  exact yj
 have hlong:¬Builtin.List.listTooLong (its.toArray.size*k.toNat)=true:=by
  rw[zkF hlen]
  exact yj
 have hnew:List.foldl (fun x1 x2=>x1++x2) #[] (List.replicate (if its.toArray.isEmpty=true then 0 else k.toNat) its.toArray)=(List.replicate k.toNat its).flatten.toArray:=by
  have f0:∀m:Nat,List.foldl (fun x1 x2=>x1++x2) #[] (List.replicate m its.toArray)=(List.replicate m its).flatten.toArray:=fun m=>by
   have:=zfn its m []
   rw[List.nil_append]at this
   exact this
  rw[f0]
  cases its with
  | nil=>simp
  | cons a r'=>rw[if_neg (by simp)]
 refine wpAny_binaryOp_repeat_ref (T := "list") (U := "int") (by decide) ⟨_,e,rfl⟩ (fun s'=>typeIs_int s' k t) noFill_list_mul F.fills_int_mul F.slot_int_rmul repeat_list F.slot_int_index.lookup
  (call_meets F.slot_int_rmul (typeIs_int s k t) F.entry_int_rmul (F.args_int_rmul_2 _ _) (int___rmul___int_list k t l its.toArray n)
   ⟨e,rfl,⟨_,e,rfl⟩,call_meets F.slot_list_mul ⟨_,e,rfl⟩ F.entry_list_mul (F.args_list_mul_2 _ _) (AutoListH.list___mul___list_int_3 l its.toArray n k t hfit hcap hlong) ⟨e,?_⟩⟩)
 rw[hnew]
 exact⟨.ref _,_,I.lnew (t':=s.toks) (r.rep k.toNat) (by rw[zl1,Nat.mul_comm];exact hz),rfl,q _ I.fresh⟩
end
section
variable {prog:Program}{w:World}{A:Around}{E:Value->Shared->Prop}{s:Shared}
end
section
variable {X:Cx}
end
end Internal
namespace Att
open PySem PySem.W PySem.Calls PyProof.Rows
theorem zeG{P:Params}{h:Heap}:∀(ns:List Int) (vs:List Value),WellAll P h vs (ns.map WData.int)->IntsAre vs ns:=by
 intro ns
 induction ns with
 | nil=>
  intro vs w
  rw[List.map_nil]at w
  cases w
  exact .nil
 | cons n ns ih=>
  intro vs w
  rw[yH]at w
  cases w with
  | cons a b=>
   cases a
   exact .cons _ _ (ih _ b)
theorem script_of{l:OpenLaw}{n:Nat}(hn:l.most=some n){P:Params}{h:Heap}{args:List WData}{vals:List Value}
  (hpre:l.row.toRowW.claim.pre args=true) (hwl:WellAll P h vals args) :
  ∃a vs ns,vals=[Value.ref a]/\args=[WData.list (ns.map WData.int)]/\h.get? a=some { cls:=.type "list",data:=.seq vs.toArray }/\IntsAre vs ns/\ns.length<=n:=by
 have hsh:WShape.hasAll [] args [.list .int]=true:=(pre_splitW hpre).1
 have hc:l.pre.holds [] { args:=args }=true:=(pre_splitW hpre).2
 obtain⟨d,r,rfl,h1,h2⟩:=hasAllW_cons hsh
 obtain rfl:=hasAllW_nil h2
 obtain⟨xs,rfl,h3⟩:=hasW_list h1
 obtain⟨ns,rfl⟩:=items_int h3
 have hlen:ns.length<=n:=by
  unfold OpenLaw.pre at hc
  have h4:(WTm.not (.lt (.lit (.int (n:Int))) (.len (.arg 0)))).holds [] { args:=[.list (ns.map .int)] }=true:=by
   have h4:=(holds_andW hc).1
   rw[hn]at h4
   exact h4
  have h5:=condW_of h4 (w_not (w_lt w_lit (w_len_list (w_arg rfl))))
  rw[ya]at h5
  refine Nat.le_of_not_lt fun q=>?_
  have q':(n:Int)<((ns.length:Nat):Int):=by omega
  first
   | (rw[decide_eq_true q']at h5;exact absurd h5 (by decide))
   | (simp at h5;omega)
 cases hwl with
 | cons w1 w2=>
  cases w2
  cases w1 with
  | list ho hall=>exact⟨_,_,ns,rfl,rfl,ho,zeG ns _ hall,hlen⟩
theorem post_true(l:OpenLaw)(args:List WData):l.row.toRowW.claim.post args (.bool true) args=true:=
 postW_of (r:=l.row.toRowW) (X:=(true == true))
  (show WShape.has [] (.bool true) .bool=true by first | rfl | decide | simp[WShape.has,WShape.arms,WShape.armsAll])
  (show(WTm.eq .res (.lit (.bool true))).value [] { args:=args,res:=some (.bool true),after:=args }=some (.bool (true == true))from w_eq_bool (w_res rfl) w_lit) rfl
section
variable {prog:Program}{w:World}{A:Around}{E:Value->Shared->Prop}{s:Shared}{K:Frag}
noncomputable def ledger (h:Heap) (L d:Addr):List (Addr × Obj):=(List.range h.objs.size).filterMap fun a=>if a=L\/a=d then none else(h.get? a).map fun o=>(a,o)
end
end Att
namespace Internal
open PySem PySem.Spec PyProof.Rows
theorem zdh:∀{vs:List Value} {ns:List Int},IntsAre vs ns->Vals (ns.map V.int) vs
 | _,_,.nil=>.nil
 | _,_,.cons n t h=>.cons ⟨t,rfl⟩ (zdh h)
noncomputable def zor (H:Hp):Prop:=∀b,H b=none\/∃o xs,H b=some (.frz o (.lst xs))
abbrev KOf{K:Fg}{h:Heap}(_:K.In h):Fg:=K
noncomputable def z5 (s:Stmt) (j:Nat):Stmt:=match s with
 | .ClassDef _ _ _ body _ _ _ _ _ _ _=>body.getD j (.Pass ⟨0,0,0,0⟩)
 | _=>.Pass ⟨0,0,0,0⟩
noncomputable def zbr (s:Stmt):Arguments:=match s with
 | .FunctionDef _ a _ _ _ _ _ _ _ _=>a
 | _=>{ posonlyargs:=[],args:=[],vararg:=none,kwonlyargs:=[],kw_defaults:=[],kwarg:=none,defaults:=[] }
noncomputable def zaR (s:Stmt):List Stmt:=match s with
 | .FunctionDef _ _ b _ _ _ _ _ _ _=>b
 | _=>[]
noncomputable def zi (s:Stmt):Scope:=match s with
 | .FunctionDef _ _ _ _ _ _ sc _ _ _=>sc
 | _=>{ kind:=.function,names:=[],isGenerator:=false,isCoroutine:=false }
abbrev CX0:CXT:=fun _ _ _ _ _ _=>False
abbrev E0:XK:=fun _ _ _=>False
set_option genInjectivity false in
set_option genSizeOf false in
structure Fun(K:Fg)(x qual:Str)(st:Stmt)(f:Addr)(fd:FuncData):Prop where
 ex:∃(oc:Value) (od:Option Addr) (kV doc pm:Value) (an:Option Addr) (cdv ct:Value) (osl:Array (Option Value)),
  fd=PySem.W.fnOf x qual (zbr st) (zaR st) (zi st) .none kV doc pm an cdv ct/\K.lookup f=some ⟨oc,od,.func fd,osl⟩/\PySem.W.codeIn K cdv qual=true
 kp:PySem.W.keepIn K (.ref f)=true
section
variable {P:Program}{w:World}{K:Fg}{mg:Str->Option Value}{base:Heap}
theorem Fun.binds{x qual:Str}{st:Stmt}{f:Addr}{fd:FuncData}{ps:List Str}(F:Fun K x qual st f fd)
  (h:∀(kV doc pm:Value) (an:Option Addr) (cdv ct:Value) (us:List Value),us.length=ps.length->bindArgs (PySem.W.fnOf x qual (zbr st) (zaR st) (zi st) .none kV doc pm an cdv ct) ⟨us,[]⟩=pure (ps.zip us)):Binds K fd ps []:=by
 obtain⟨oc,od,kV,doc,pm,an,cdv,ct,osl,rfl,lk,hcd⟩:=F.ex
 exact .all (h kV doc pm an cdv ct)
theorem zeM{x qual:Str}{st:Stmt}{f:Addr}{oc:Value}{od an:Option Addr}{osl:Array (Option Value)}{kV doc pm cdv ct:Value}(l:K.lookup f=some ⟨oc,od,.func (PySem.W.fnOf x qual (zbr st) (zaR st) (zi st) .none kV doc pm an cdv ct),osl⟩)
  (c:PySem.W.codeIn K cdv qual=true) (k:PySem.W.keepIn K (.ref f)=true):Fun K x qual st f (PySem.W.fnOf x qual (zbr st) (zaR st) (zi st) .none kV doc pm an cdv ct):=⟨⟨oc,od,kV,doc,pm,an,cdv,ct,osl,rfl,l,c⟩,k⟩
end
section
variable {X:Cx}
theorem pv(i:Nat){x:Str}{pos:Pos}(hN:autoParam (X.N[i]?=some x) Internal.aut2._auto_1)(hv:Vis X.env.scope x:=by first | exact Or.inl rfl | exact Or.inr (Or.inl rfl) | exact Or.inr (Or.inr rfl))(hd:autoParam ((x == ("__debug__" : Str))=false) Internal.aut1._auto_1)
  (hcd:autoParam ((x == ("__classdict__" : Str))=false) Internal.aut1._auto_1):PE X (.Name x pos) (zhO i):=zmW hN hv hd hcd
end
noncomputable def Same (H H':Hp):Prop:=∀b o,H b=some o->H' b=some o
theorem Same.refl(H:Hp):Same H H:=fun _ _ h=>h
theorem Same.trans{H H1 H2:Hp}(a:Same H H1)(b:Same H1 H2):Same H H2:=fun c o h=>b c o (a c o h)
theorem Same.seq{K:Fg}{H H':Hp}{a:Addr}{xs:List V}(e:Same H H')(h:SqL K H a xs):SqL K H' a xs:=by
 rcases h with(h | ⟨o,h⟩) | h
 ·exact .inl (.inl (e _ _ h))
 ·exact .inl (.inr ⟨o,e _ _ h⟩)
 ·exact .inr h
namespace BT
theorem abs:bootBuiltins "abs" = some (.builtin "abs"):=by decide +kernel
theorem len:bootBuiltins "len" = some (.builtin "len"):=by decide +kernel
theorem max:bootBuiltins "max" = some (.builtin "max"):=by decide +kernel
theorem min:bootBuiltins "min" = some (.builtin "min"):=by decide +kernel
theorem sum:bootBuiltins "sum" = some (.builtin "sum"):=by decide +kernel
theorem sorted:bootBuiltins "sorted" = some (.builtin "sorted"):=by decide +kernel
theorem isinstance:bootBuiltins "isinstance" = some (.builtin "isinstance"):=by decide +kernel
theorem int:bootBuiltins "int" = some (.type "int"):=by decide +kernel
theorem bool:bootBuiltins "bool" = some (.type "bool"):=by decide +kernel
theorem list:bootBuiltins "list" = some (.type "list"):=by decide +kernel
theorem tuple:bootBuiltins "tuple" = some (.type "tuple"):=by decide +kernel
theorem ValueError:bootBuiltins "ValueError" = some (.type "ValueError"):=by decide +kernel
end BT
noncomputable def sz (i:Int):Nat:=Builtin.Int.intBits i
theorem sz_le{i:Int}{n:Nat}:sz i<=n↔i.natAbs<2 ^ n:=by
 unfold sz Builtin.Int.intBits
 by_cases h:i=0
 ·subst h;simp;exact Nat.two_pow_pos n
 ·have h':(i == 0)=false:=by simp[h]
  rw[h',if_neg (by decide)]
  have hn:i.natAbs≠0:=by omega
  rw[<- Nat.log2_lt hn];omega
theorem znL(i:Int):i.natAbs<2 ^ sz i:=sz_le.mp (yf _)
theorem zeU{i j:Int}(h:i.natAbs<=j.natAbs):sz i<=sz j:=sz_le.mpr (yC h (znL j))
theorem zmr(i:Int):sz (-i)<=sz i:=zeU (by omega)
theorem zfb(i j:Int):(i/j).natAbs<=i.natAbs:=Int.natAbs_ediv_le_natAbs i j
theorem ziP(i j:Int):sz (i/j)<=sz i:=zeU (zfb i j)
theorem zbc{i:Int}{n:Nat}(h:i.natAbs<2 ^ n):sz i<=n:=sz_le.mpr h
theorem sz200{i:Int}(h1:-1606938044258990275541962092341162602522202993782792835301376<i)(h2:i<1606938044258990275541962092341162602522202993782792835301376):sz i<=200:=zbc (by
 have:(2:Nat) ^ 200=1606938044258990275541962092341162602522202993782792835301376:=by decide
 omega)
section
variable {X:Cx}
noncomputable def CMulS (i j:Int):Prop:=sz i+sz j<=134217728
theorem CMulS.ok{i j:Int}(h:CMulS i j):IntMulOk i j:=by
 unfold IntMulOk
 have e:Builtin.Int.intTooBig (((Builtin.Int.intBits i:Nat):Int)+((Builtin.Int.intBits j:Nat):Int))=false:=by
  unfold Builtin.Int.intTooBig
  have hb:bitsLine=134217728:=by decide
  rw[decide_eq_false]
  rw[hb]
  unfold CMulS sz at h
  omega
 rw[e];simp
theorem CMulS.of{i j:Int}{n m:Nat}(h1:sz i<=n)(h2:sz j<=m)(h:n+m<=134217728):CMulS i j:=by unfold CMulS;omega
theorem op_mulS:OpR X (binaryOp .Mult) (rI CMulS fun i j=>.int (i*j)):=opI fun _ _ _ _ _ _ _ hc q=>mul_int q hc.ok
noncomputable def zdB:R2:=fun x y H Q=>rI CMulS (fun i j=>.int (i*j)) x y H Q\/zl7 x y H Q
theorem zau:OpR X (binaryOp .Mult) zdB:=op_mulS.or zm5
noncomputable def zF (K:Fg):R2:=fun x y H Q=>rI0 (fun i j=>.int (i+j)) x y H Q\/zmC x y H Q\/zk4 K x y H Q
theorem zy:OpR X (binaryOp .Add) (zF X.K):=op_add.or (op_cat.or zlH)
noncomputable def znS (i j:Int):Prop:=j≠0/\(sz j<=9000\/sz i<=sz j+4500)
noncomputable def zfO:R2:=rI znS fun i j=>.int (i.fdiv j)
theorem ziM{j:Int}(h:j≠0):sz j=j.natAbs.log2+1:=by
 have h0:j.natAbs≠0:=by omega
 have h1:sz j<=j.natAbs.log2+1:=sz_le.mpr (Nat.lt_log2_self)
 have h2:¬sz j<=j.natAbs.log2:=fun z=>by
  have:=sz_le.mp z
  have:=Nat.log2_self_le h0
  omega
 omega
theorem zfN{i j:Int}(hj:j≠0)(h:sz i<=sz j+4500):Builtin.divisionGoesByPylong i j=false:=by
 have hy:(j == 0)=false:=by simpa using hj
 have key:(if i == 0 then 0 else i.natAbs.log2/30+1)<=(if j == 0 then 0 else j.natAbs.log2/30+1)+150:=by
  rw[hy]
  by_cases hi:i=0
  ·have:(i == 0)=true:=by simpa using hi
   rw[this]
   exact yT _
  ·have hx:(i == 0)=false:=by simpa using hi
   rw[hx]
   rw[ziM hi,ziM hj]at h
   show i.natAbs.log2/30+1<=j.natAbs.log2/30+1+150
   omega
 show(decide (_>300)&&decide ((if i == 0 then 0 else i.natAbs.log2/30+1)>(if j == 0 then 0 else j.natAbs.log2/30+1)+150))=false
 rw[decide_eq_false (yaC.mpr key),Bool.and_false]
theorem zdy:OpR X (binaryOp .FloorDiv) zfO:=opI fun i j _ _ _ _ _ hc q=>floordiv_int hc.1 q (.inl (hc.2.elim (fun h=>PyProof.noPylong_of_log2 (by
 have h1:=sz_le.mp h
 by_cases h0:j.natAbs=0
 ·rw[h0];decide
 ·exact(Nat.log2_lt h0).mpr h1)) (zfN hc.1)))
noncomputable def zhu:R2:=rI (fun _ j=>j≠0) fun i j=>.int (i.fmod j)
theorem zba:OpR X (binaryOp .Mod) zhu:=zlh
mutual
inductive RepD(K:Fg)(H:Hp):V->PyData->Prop
 | non:RepD K H .non .none
 | bl (b:Bool):RepD K H (.bl b) (.bool b)
 | int (i:Int):RepD K H (.int i) (.int i)
 | str (x:Str) (ok:PyData.canLay0 (.str x)=true):RepD K H (.str x) (.str x)
 | lst {a:Addr} {vs:List V} {ds:List PyData}:SqL K H a vs->RepAll K H vs ds->RepD K H (.ref a) (.list ds)
 | tup {a:Addr} {vs:List V} {ds:List PyData}:SqT K H a vs->RepAll K H vs ds->RepD K H (.ref a) (.tuple ds)
inductive RepAll(K:Fg)(H:Hp):List V->List PyData->Prop
 | nil:RepAll K H [] []
 | cons {v:V} {d:PyData} {vs:List V} {ds:List PyData}:RepD K H v d->RepAll K H vs ds->RepAll K H (v :: vs) (d :: ds)
end
mutual
theorem RepD.reads{pins:List (Addr × Obj)}{σ:St}{H:Hp}{s:Shared}(I:Inv X pins σ H s):∀{v:V} {d:PyData} {u:Value},RepD X.K H v d->RelV v u->∃as,Reads s.heap u d as
 | _,_,_,.non,r=>by cases(show _=Value.none from r);exact⟨_,.none⟩
 | _,_,_,.bl b,r=>by cases(show _=Value.bool b from r);exact⟨_,.bool b⟩
 | _,_,_,.int i,r=>by obtain⟨t,rfl⟩:=(show ∃t,_=Value.int i t from r);exact⟨_,.int i t⟩
 | _,_,_,.str x _,r=>by obtain⟨t,rfl⟩:=(show ∃t,_=Value.str x t from r);exact⟨_,.str x t⟩
 | _,_,_,.lst h k,r=>by
  cases(show _=Value.ref _ from r)
  obtain⟨its,rv,⟨o,n,h1,h2,_,h3⟩,_⟩:=I.list h
  obtain⟨as,q⟩:=RepAll.reads I k rv
  exact⟨_,.list h1 h2 h3 (by simpa using q)⟩
 | _,_,_,.tup h k,r=>by
  cases(show _=Value.ref _ from r)
  obtain⟨its,rv,⟨o,h1,h2,n,h3⟩,_⟩:=I.tuple h
  obtain⟨as,q⟩:=RepAll.reads I k rv
  exact⟨_,.tuple h1 h2 h3 (by simpa using q)⟩
theorem RepAll.reads{pins:List (Addr × Obj)}{σ:St}{H:Hp}{s:Shared}(I:Inv X pins σ H s):∀{vs:List V} {ds:List PyData} {us:List Value},RepAll X.K H vs ds->Vals vs us->∃as,ReadsAll s.heap us ds as
 | _,_,_,.nil,.nil=>⟨_,.nil⟩
 | _,_,_,.cons h k,.cons r t=>by
  obtain⟨as,q⟩:=RepD.reads I h r
  obtain⟨bs,p⟩:=RepAll.reads I k t
  exact⟨_,.cons q p⟩
end
mutual
theorem RepD.lay{K:Fg}{H:Hp}:∀{v:V} {d:PyData},RepD K H v d->d.canLay0=true
 | _,_,.non=>rfl
 | _,_,.bl _=>rfl
 | _,_,.int _=>rfl
 | _,_,.str _ ok=>ok
 | _,_,.lst _ k=>by rw[PyData.canLay0];exact RepAll.lay k
 | _,_,.tup _ k=>by rw[PyData.canLay0];exact RepAll.lay k
theorem RepAll.lay{K:Fg}{H:Hp}:∀{vs:List V} {ds:List PyData},RepAll K H vs ds->PyData.canLayAll0 ds=true
 | _,_,.nil=>rfl
 | _,_,.cons h k=>by rw[PyData.canLayAll0,RepD.lay h,RepAll.lay k];rfl
end
theorem Same.seqT{K:Fg}{H H':Hp}{a:Addr}{xs:List V}(e:Same H H')(h:SqT K H a xs):SqT K H' a xs:=by
 rcases h with(h | ⟨o,h⟩) | h
 ·exact .inl (.inl (e _ _ h))
 ·exact .inl (.inr ⟨o,e _ _ h⟩)
 ·exact .inr h
mutual
theorem Same.rep{K:Fg}{H H':Hp}(e:Same H H'):∀{v:V} {d:PyData},RepD K H v d->RepD K H' v d
 | _,_,.non=>.non
 | _,_,.bl b=>.bl b
 | _,_,.int i=>.int i
 | _,_,.str x ok=>.str x ok
 | _,_,.lst h k=>.lst (e.seq h) (e.repAll k)
 | _,_,.tup h k=>.tup (e.seqT h) (e.repAll k)
theorem Same.repAll{K:Fg}{H H':Hp}(e:Same H H'):∀{vs:List V} {ds:List PyData},RepAll K H vs ds->RepAll K H' vs ds
 | _,_,.nil=>.nil
 | _,_,.cons h k=>.cons (e.rep h) (e.repAll k)
end
noncomputable def zX (K:Fg):R2:=fun x y H Q=>(∃d e,RepD K H x d/\RepD K H y e/\min d.depth e.depth<=60/\Q (.bl (PyData.eqv d e)) H)\/rEq x y H Q
noncomputable def zbf (K:Fg):R2:=fun x y H Q=>(∃d e,RepD K H x d/\RepD K H y e/\min d.depth e.depth<=60/\Q (.bl (!PyData.eqv d e)) H)\/rNe x y H Q
theorem zR(hu:X.A.units+64<cLine):OpR X (compareOp .Eq) (zX X.K):=by
 refine OpR.or ?_ znE
 intro pins s σ H x y v u Q I rx ry h
 obtain⟨d,e,h1,h2,hd,q⟩:=h
 obtain⟨as,r1⟩:=h1.reads I rx
 obtain⟨bs,r2⟩:=h2.reads I ry
 exact PySem.SeqAt.compareEq_reads r1 r2 h1.lay h2.lay (by omega) ⟨.bl _,H,I,rfl,q⟩
theorem zbw(hu:X.A.units+64<cLine):OpR X (compareOp .NotEq) (zbf X.K):=by
 refine OpR.or ?_ zn2
 intro pins s σ H x y v u Q I rx ry h
 obtain⟨d,e,h1,h2,hd,q⟩:=h
 obtain⟨as,r1⟩:=h1.reads I rx
 obtain⟨bs,r2⟩:=h2.reads I ry
 exact PySem.SeqAt.compareNe_reads r1 r2 h1.lay h2.lay (by omega) ⟨.bl _,H,I,rfl,q⟩
noncomputable def zdm (K:Fg):List V->Hp->VK->Prop:=fun xs H Q=>∃x c t b cv,xs=[x,c]/\RelV c cv/\TyOf K H x t/\PySem.W.kitOne K t cv=some b/\Q (.bl b) H
theorem zgU:CallR X (.builtin "isinstance") (zdm X.K):=by
 intro pins s σ H xs us Q I r h
 obtain⟨x,c,t,b,cv,rfl,rc,ty,e,q⟩:=h
 obtain⟨u,w',rfl,r1,r2⟩:=vals2 r
 have ec:w'=cv:=by
  cases c with
  | ty n=>exact(show w'=_ from r2).trans (show cv=_ from rc).symm
  | ref a=>exact(show w'=_ from r2).trans (show cv=_ from rc).symm
  | non=>exact(show w'=_ from r2).trans (show cv=_ from rc).symm
  | bl b=>exact(show w'=_ from r2).trans (show cv=_ from rc).symm
  | _=>obtain⟨_,rfl⟩:=rc;simp[PySem.W.kitOne,PySem.W.kitCls]at e;cases ty<;>simp at e
 subst ec
 exact ziR I r1 ty e fun tk=>⟨.bl b,H,I.tok tk,rfl,q⟩
noncomputable def zhM (K:Fg) (ta:TE):TE:=fun σ H Q=>ta σ H fun x H1=>∃k,ze4 K x H1 k/\Q (.bl (!k)) H1
theorem zlR{a:Expr}{ta:TE}{pos:Pos}(ha:PE X a ta):PE X (.UnaryOp .Not a pos) (zhM X.K ta):=by
 intro pins s σ H Q I h
 refine UnaryOp_ (thn (ha pins s σ H _ I h) fun v s1 zz=>?_)
 obtain⟨x,H1,I1,r1,k,hk,q1⟩:=zz
 exact not_of (thn (ziE pins s1 σ H1 x v (fun c H2=>Q (.bl (!c)) H2) I1 r1 ⟨k,hk,q1⟩) fun c s2 ⟨H2,I2,q2⟩=>⟨.bl (!c),H2,I2,rfl,q2⟩)
end
noncomputable def znq:List V->Hp->VK->Prop:=fun xs H Q=>∃i,xs=[.int i]/\Q (.int (if i<0 then -i else i)) H
noncomputable def zac (K:Fg):List V->Hp->VK->Prop:=fun xs H Q=>∃p ys,xs=[.ref p]/\(SqL K H p ys\/SqT K H p ys)/\Q (.int ys.length) H
noncomputable def zkT:List V->Hp->VK->Prop:=fun xs H Q=>∃i j,xs=[.int i,.int j]/\Q (.int (if j>i then j else i)) H
noncomputable def zkX:List V->Hp->VK->Prop:=fun xs H Q=>∃i j,xs=[.int i,.int j]/\Q (.int (if j<i then j else i)) H
noncomputable def zbt (K:Fg):List V->Hp->VK->Prop:=fun xs H Q=>∃p ys,xs=[.ref p]/\(SqL K H p ys\/SqT K H p ys)/\∀l,H l=none->Q (.ref l) (upd H l (.lst ys))
noncomputable def zej (K:Fg):List V->Hp->VK->Prop:=fun xs H Q=>∃p ys,xs=[.ref p]/\((SqL K H p ys/\∀l,H l=none->Q (.ref l) (upd H l (.tup ys)))\/(SqT K H p ys/\Q (.ref p) H))
section
variable {X:Cx}
theorem zfq:CallR X (.builtin "abs") znq:=zke
theorem zI:CallR X (.builtin "len") (zac X.K):=zgB
theorem zbR(hc:X.calm=true):CallR X (.builtin "max") zkT:=zir hc
theorem zjo(hc:X.calm=true):CallR X (.builtin "min") zkX:=ziZ hc
theorem zcN:CallR X (.type "list") (zbt X.K):=zgd
theorem zgN:CallR X (.type "tuple") (zej X.K):=zfH
abbrev za0(K:Fg)(ta:TE):TT:=fun σ H Q=>ta σ H fun x H'=>∃k,ze4 K x H' k/\Q k H'
theorem zV{a:Expr}{ta:TE}(ha:PE X a ta)(he:∀whole,isTrue a X.env whole=(do let v <- whole;standAt a.pos;holding [v] (truthy v))):PT X a (za0 X.K ta):=zjw ha he
end
noncomputable def zky (t u:TS):TS:=fun D σ H=>∃M:St->Hp->Prop,t { D with nx:=M } σ H/\∀σ' H',M σ' H'->u D σ' H'
theorem zav{X:Cx}{st:Stmt}{rest:List Stmt}{t u:TS}(h1:PS X st t)(h2:PSs X rest u):PSs X (st :: rest) (zky t u):=by
 intro pins s σ H D I h
 obtain⟨M,ht,hM⟩:=h
 refine wpAny_execs_cons (thn (h1 pins s σ H _ I ht) fun f s1 q=>?_)
 cases f with
 | next=>
  obtain⟨σ',H',I',q'⟩:=q
  exact h2 pins s1 σ' H' D I' (hM σ' H' q')
 | brk=>exact q
 | cont=>exact q
 | ret u=>exact q
noncomputable def NoX (CX:CXT):Prop:=∀(outer:List Env) (H:Hp) (s:Shared) (e:Value) (s':Shared),CX outer H s E0 e s'->False
theorem zu{CX:CXT}{X:Cx}(h:NoX CX):zb8 CX X E0:=fun _ _ H s e s' _ q=>(h _ H s e s' q).elim
theorem Fun.okN{P:Program}{w:World}{K:Fg}{mg:Str->Option Value}{base:Heap}{CX:CXT}{x qual:Str}{st:Stmt}{f:Addr}{fd:FuncData}{N ps:List Str}{k:Nat}{sp:Sp}(F:Fun K x qual st f fd)(S:FnScope N ps (zi st))(len:∀vs H Q E,sp vs H Q E->vs.length=ps.length)
  (hbody:∀(cdv:Value) (A:Around) (outer:List Env) (s:Shared) (H:Hp) (vs:List V) (Q:VK) (E:XK),Room k (A.deeper (envOfC qual (zi st) s.heap.objs.size f cdv))->sp vs H Q E ->
   ∃t,PSs (zaq CX P w K mg base N qual (zi st) f cdv A outer s H E).nox (zaR st) t/\t { nx:=fun _ H'=>Q .non H',rt:=Q } (start N vs) H):FnOk P w K mg base CX (k+1) f fd ps sp:=by
 obtain⟨oc,od,kV,doc,pm,an,cdv,ct,osl,rfl,lk,hcd⟩:=F.ex
 refine zhy lk hcd S len fun A outer s H vs Q E hr hsp=>?_
 obtain⟨t,h,q⟩:=hbody cdv A outer s H vs Q E hr hsp
 exact⟨t,h.nox,q⟩
section
variable {σ:St}{H:Hp}{Q:VK}{D:Ends}{ta tb tc te:TE}{t u:TS}{K:Fg}
theorem znY{i:Nat}{v:V}(e:σ[i]?=some (some v))(q:Q v H):zhO i σ H Q:=⟨v,e,q⟩
theorem x_c{v:V}(q:Q v H):tC v σ H Q:=q
theorem zok{g:Int->Int->V}{i j:Int}(q:Q (g i j) H):rI0 g (.int i) (.int j) H Q:=⟨i,j,rfl,rfl,q⟩
theorem znG{i j:Int}(q:Q (.int (i+j)) H):zF K (.int i) (.int j) H Q:=.inl ⟨i,j,rfl,rfl,q⟩
theorem zhZ{i j:Int}(c:CMulS i j)(q:Q (.int (i*j)) H):zdB (.int i) (.int j) H Q:=.inl ⟨i,j,rfl,rfl,c,q⟩
theorem znC{i j:Int}(h0:0<j)(hs:sz j<=9000)(q:Q (.int (i/j)) H):zfO (.int i) (.int j) H Q:=
 ⟨i,j,rfl,rfl,⟨by omega,.inl hs⟩,by show Q (.int (i.fdiv j)) H;rw[Int.fdiv_eq_ediv_of_nonneg _ (yak h0)];exact q⟩
theorem ziw{i j:Int}(h0:j≠0)(hs:sz j<=9000)(q:Q (.int (i.fdiv j)) H):zfO (.int i) (.int j) H Q:=⟨i,j,rfl,rfl,⟨h0,.inl hs⟩,q⟩
theorem znR{i j:Int}(h0:0<j)(q:Q (.int (i%j)) H):zhu (.int i) (.int j) H Q:=
 ⟨i,j,rfl,rfl,by omega,by show Q (.int (i.fmod j)) H;rw[Int.fmod_eq_emod_of_nonneg _ (yak h0)];exact q⟩
theorem znA{i j k:Int}(c:zhH i j)(e:i ^ j.toNat=k)(q:Q (.int k) H):rI zhH (fun i j=>.int (i ^ j.toNat)) (.int i) (.int j) H Q:=⟨i,j,rfl,rfl,c,by show Q (.int (i ^ j.toNat)) H;rw[e];exact q⟩
theorem znZ{i:Int}(q:Q (.int (-i)) H):rU (fun i=>.int (-i)) (.int i) H Q:=⟨i,rfl,q⟩
theorem dI{i j:Int}:decide (V.int i=V.int j)=decide (i=j):=by simp
theorem zn6{i j:Int}(q:Q (.bl (decide (i=j))) H):zX K (.int i) (.int j) H Q:=.inr ⟨rfl,by rw[dI];exact q⟩
theorem znN{i j:Int}(q:Q (.bl (!decide (i=j))) H):zbf K (.int i) (.int j) H Q:=.inr ⟨rfl,by rw[dI];exact q⟩
theorem zh8{x y:V}{d e:PyData}(h1:RepD K H x d)(h2:RepD K H y e)(hd:min d.depth e.depth<=60)(q:Q (.bl (PyData.eqv d e)) H):zX K x y H Q:=.inl ⟨d,e,h1,h2,hd,q⟩
theorem zht{x y:V}{d e:PyData}(h1:RepD K H x d)(h2:RepD K H y e)(hd:min d.depth e.depth<=60)(q:Q (.bl (!PyData.eqv d e)) H):zbf K x y H Q:=.inl ⟨d,e,h1,h2,hd,q⟩
theorem zhp{a:Addr}{xs:List V}{i:Int}{v:V}(h:SqL K H a xs)(e:atI xs i=some v)(q:Q v H):rIx K (.ref a) (.int i) H Q:=.inl ⟨a,xs,i,v,rfl,rfl,h,e,q⟩
theorem znx{a:Addr}{xs:List V}{i:Int}{v:V}(h:SqT K H a xs)(e:atI xs i=some v)(q:Q v H):rIx K (.ref a) (.int i) H Q:=.inr (.inl ⟨a,xs,i,v,rfl,rfl,h,e,q⟩)
theorem zol{T:Bool->Prop}{b:Bool}(q:T b):∃k,V.bl b=.bl k/\T k:=⟨b,rfl,q⟩
theorem znm{T:Bool->Prop}{b:Bool}(q:T b):∃k,ze4 K (.bl b) H k/\T k:=⟨b,rfl,q⟩
theorem znk(q:ta σ H fun x H1=>∃c,x=.bl c/\if c=true then tb σ H1 Q else Q (.bl false) H1):zk0 ta tb σ H Q:=q
theorem zl5(q:ta σ H fun x H1=>∃k,ze4 K x H1 k/\Q (.bl (!k)) H1):zhM K ta σ H Q:=q
theorem znP{p:Prop}[Decidable p]{A B:Prop}(h1:p->A)(h2:¬p->B):if decide p=true then A else B:=by
 by_cases h:p
 ·rw[if_pos (decide_eq_true h)];exact h1 h
 ·rw[if_neg (by rw[decide_eq_false h];exact yj)];exact h2 h
theorem zmI{p:Prop}[Decidable p]{A B:Prop}(h1:¬p->A)(h2:p->B):if(!decide p)=true then A else B:=by
 by_cases h:p
 ·rw[if_neg (by rw[decide_eq_true h];exact yj)];exact h2 h
 ·rw[if_pos (by rw[decide_eq_false h];rfl)];exact h1 h
theorem zc2{A B:Prop}(h:A):if true=true then A else B:=by rw[if_pos rfl];exact h
theorem zeE{A B:Prop}(h:B):if false=true then A else B:=by rw[if_neg yj];exact h
theorem zls{A B:Prop}(h:B):if(!true)=true then A else B:=zeE h
theorem zli{A B:Prop}(h:A):if(!false)=true then A else B:=zc2 h
theorem zbb(M:St->Hp->Prop)(q:t { D with nx:=M } σ H)(r:∀σ' H',M σ' H'->u D σ' H'):zky t u D σ H:=⟨M,q,r⟩
theorem zn5(q:te σ H D.rt):zmH te D σ H:=q
theorem zK{R:List V->Hp->Prop}(q:R [] H):ze0 σ H R:=q
theorem zmF{sp:Sp}{E:XK}{tr:TA}(q:tr σ H fun vs H1=>sp vs H1 Q E):zep sp [] E tr σ H Q:=by unfold zep;simp only[yQ];exact q
noncomputable def zc9 (Q:VK) (xs:List V) (H:Hp):Prop:=xs.length<=sizeLine/\∀p,H p=none->Q (.ref p) (upd H p (.tup xs))
noncomputable def zkc (Q:VK) (xs:List V) (H:Hp):Prop:=xs.length<=sizeLine/\∀p,H p=none->Q (.ref p) (upd H p (.lst xs))
theorem zn8{tr:TA}(q:tr σ H (zc9 Q)):zl6 tr σ H Q:=q
theorem zob{tr:TA}(q:tr σ H (zkc Q)):zmX tr σ H Q:=q
theorem znM{i:Int}(q:Q (.int (if i<0 then -i else i)) H):znq [.int i] H Q:=⟨i,rfl,q⟩
theorem zmk{a:Addr}{xs:List V}(h:SqL K H a xs)(q:Q (.int xs.length) H):zac K [.ref a] H Q:=⟨a,xs,rfl,.inl h,q⟩
theorem zmJ{a:Addr}{xs:List V}(h:SqT K H a xs)(q:Q (.int xs.length) H):zac K [.ref a] H Q:=⟨a,xs,rfl,.inr h,q⟩
theorem znH{i j:Int}(q:Q (.int (if j>i then j else i)) H):zkT [.int i,.int j] H Q:=⟨i,j,rfl,q⟩
theorem znW{i j:Int}(q:Q (.int (if j<i then j else i)) H):zkX [.int i,.int j] H Q:=⟨i,j,rfl,q⟩
theorem zB{N:List Str}{vs:List V}{σ0:St}(e:start N vs=σ0)(q:t D σ0 H):t D (start N vs) H:=by rw[e];exact q
theorem zid{x c:V}{t' cv:Value}{b:Bool}(rc:RelV c cv)(ty:TyOf K H x t')(e:PySem.W.kitOne K t' cv=some b)(q:Q (.bl b) H):zdm K [x,c] H Q:=⟨x,c,t',b,cv,rfl,rc,ty,e,q⟩
end
theorem Same.new{H:Hp}{p:Addr}(h:H p=none)(o:HO):Same H (upd H p o):=fun b u q=>by rw[zG (zC q h)];exact q
open PySem PySem.Spec PyProof.Rows
theorem ze5{env:Env}{scope:Scope}(h:∀y∈scope.names,y.2=.free->∃c,env.cells.lookup y.1=some c) :
  ∃cl,closureFor scope env=pure cl/\(∀x c,cl.lookup x=some c->env.cells.lookup x=some c)/\∀y∈scope.names,y.2=.free->cl.lookup y.1=env.cells.lookup y.1:=by
 unfold closureFor
 have key:∀(names:List (Str × NameKind)) (acc:List (Str × Addr)),(∀y∈names,y.2=.free->∃c,env.cells.lookup y.1=some c)->(∀x c,acc.lookup x=some c->env.cells.lookup x=some c) ->
   ∃cl,(forIn (m:=Sem) names acc fun(x:Str × NameKind) r=>if(x.2 == .free)=true then(do let a <- cellOf env x.1;pure (ForInStep.yield ((x.1,a) :: r)))else pure (ForInStep.yield r))=pure cl /\
    (∀x c,cl.lookup x=some c->env.cells.lookup x=some c)/\(∀y∈names,y.2=.free->cl.lookup y.1=env.cells.lookup y.1)/\(∀x,(∃c,acc.lookup x=some c)->cl.lookup x=env.cells.lookup x):=by
  intro names
  induction names with
  | nil=>intro acc _ ha;exact⟨acc,rfl,ha,fun _ hy=>(nomatch hy),fun x ⟨c,e⟩=>by rw[e,ha x c e]⟩
  | cons y r ih=>
   intro acc hn ha
   obtain⟨n,k⟩:=y
   have hr:∀y∈r,y.2=.free->∃c,env.cells.lookup y.1=some c:=fun y hy=>hn y (yD _ hy)
   by_cases hk:k=.free
   ·subst hk
    obtain⟨c,hc⟩:=hn (n,.free) yV rfl
    have ha':∀x c',List.lookup x ((n,c) :: acc)=some c'->env.cells.lookup x=some c':=fun x c' e=>by
     rw[yr]at e
     cases hb:x == n with
     | true=>rw[hb]at e;cases e;rw[beq_iff_eq.mp hb];exact hc
     | false=>rw[hb]at e;exact ha x c' e
    obtain⟨cl,e,h1,h2,h3⟩:=ih ((n,c) :: acc) hr ha'
    refine⟨cl,?_,h1,fun y hy hf=>?_,fun x hx=>?_⟩
    ·rw[yaR]
     simp only[cellOf,hc,beq_self_eq_true,if_true]
     exact e
    ·rcases ye.mp hy with rfl | hy
     ·exact h3 n ⟨c,by rw[yr];simp⟩
     ·exact h2 y hy hf
    ·refine h3 x ?_
     obtain⟨c',e'⟩:=hx
     rw[yr]
     cases hb:x == n with
     | true=>exact⟨c,rfl⟩
     | false=>exact⟨c',e'⟩
   ·obtain⟨cl,e,h1,h2,h3⟩:=ih acc hr ha
    refine⟨cl,?_,h1,fun y hy hf=>?_,h3⟩
    ·rw[yaR]
     have hb:(k == NameKind.free)=false:=by simpa using hk
     simp only[hb,yar,if_false]
     exact e
    ·rcases ye.mp hy with rfl | hy
     ·exact absurd hf hk
     ·exact h2 y hy hf
 obtain⟨cl,e,h1,h2,_⟩:=key scope.names [] h (fun _ _ z=>by simp at z)
 refine⟨cl,?_,h1,h2⟩
 show(forIn scope.names [] _ >>= fun r=>pure r)=pure cl
 have e':(forIn (m:=Sem) scope.names [] fun(x:Str × NameKind) (r:List (Str × Addr))=>match x with | (name,kind)=>if(kind == .free)=true then(do let a <- cellOf env name;pure (ForInStep.yield ((name,a) :: r)))else pure (ForInStep.yield r))=pure cl:=e
 first
  | (rw[e'];rfl)
  | (simp only[e'];rfl)
theorem zbj:∀(names:List (Str × NameKind)) (n:Nat) (acc:List (Str × Addr)),cellsFrom n names acc=cellsFrom n names []++acc
 | [],_,_=>rfl
 | (name,kind) :: r,n,acc=>by
  unfold cellsFrom
  split
  ·rw[zbj r (n+1) ((name,n) :: acc),zbj r (n+1) [(name,n)],yaK];rfl
  ·exact zbj r n acc
theorem zbC{α:Type}{x:Str}:∀{l r:List (Str × α)},(l++r).lookup x=match l.lookup x with | some c=>some c | none=>r.lookup x
 | [],_=>rfl
 | (k,v) :: l,r=>by
  rw[List.cons_append,yr,yr]
  cases x == k with
  | true=>rfl
  | false=>exact zbC (l:=l)
noncomputable def zlE (scope:Scope) (cs:List (Str × Addr)) (C:Addr) (env:Env):Env:=
 { scope:=relabel scope env,locals:=C,globals:=env.globals,cells:=cs,qual:=env.qual,func:=none,code:=env.code,frame:=env.frame,builtins:=env.builtins }
theorem zfF{M:Model}{A:Around}{E:Value->Shared->Prop}{s:Shared}{scope:Scope}{globals:Addr}{cl:List (Str × Addr)}{qual:Str}{env:Env}{Q:Env->Shared->Prop}
  (hQ:∀(own:List (Str × Addr)) (s':Shared),own=cellsFrom (s.heap.objs.size+1) scope.names []->s'={ s with heap:=s'.heap }->(∀b o,s.heap.get? b=some o->s'.heap.get? b=some o) ->
   s'.heap.Ns s.heap.objs.size (fun _=>none)->(∀n c,(n,c)∈own->s'.heap.IsCell c none/\s.heap.objs.size+1<=c)->(own.Pairwise fun x y=>x.2≠y.2) ->
   Q { scope:=scope,locals:=s.heap.objs.size,globals:=globals,cells:=own++cl,qual:=qual,func:=none,code:=env.code,frame:=env.frame,builtins:=env.builtins } s') :
  wpAny M A (newFunctionEnv scope globals cl [] qual none .none (some env)) Q E s:=by
 simp only[newFunctionEnv,Option.isSome_some,if_true]
 refine wpAny_bind (wpAny_alloc ?_)
 refine wpAny_bind (wpAny_layCells _ (fun name kind cells=>by cases hkc:kind == NameKind.cell<;>simp[hkc]) _ _ _ _ ?_)
 have ok:=cellsFrom_ok scope.names (s.heap.push { cls:=.type "dict",data:=.dict #[] }) (s.heap.objs.size+1) [] ⟨fun _ _ hm=>(nomatch hm),List.Pairwise.nil⟩ (by rw[Heap.size_push];exact yf _)
 rw[Heap.size_push]at ok
 rw[show({ s with heap:=s.heap.push { cls:=.type "dict",data:=.dict #[] } }:Shared).heap.objs.size=s.heap.objs.size+1 from Heap.size_push ..]
 rw[zbj]
 have fin:=hQ _ { s with heap:=pushCells (s.heap.push { cls:=.type "dict",data:=.dict #[] }) scope.names } rfl rfl (fun b o e=>pushCells_keeps _ _ b o (Heap.get?_push_of_some _ e))
  ((Heap.Ns.new s.heap (.type "dict")).keeps (pushCells_keeps _ _)) ok.empty ok.apart
 exact wpAny_bind (wpAny_pure (wpAny_pure fin))
theorem zbH{env:Env}:∀{names:List (Str × NameKind)} {x:Str},names.lookup x=some .free ->
  (names.map fun(n,k)=>if(k == NameKind.free&&env.scope.kind == .function&&env.kindOf n == some .cell) then(n,NameKind.cell) else(n,k)).lookup x=some .cell \/
  (names.map fun(n,k)=>if(k == NameKind.free&&env.scope.kind == .function&&env.kindOf n == some .cell) then(n,NameKind.cell) else(n,k)).lookup x=some .free
 | [],_,h=>by simp at h
 | (n,k) :: r,x,h=>by
  have ih:=@zbH env r x
  show List.lookup x ((if(k == NameKind.free&&env.scope.kind == .function&&env.kindOf n == some .cell)=true then(n,NameKind.cell) else(n,k)) :: _)=_\/List.lookup x ((if(k == NameKind.free&&env.scope.kind == .function&&env.kindOf n == some .cell)=true then(n,NameKind.cell) else(n,k)) :: _)=_
  by_cases hc:(k == NameKind.free&&env.scope.kind == .function&&env.kindOf n == some .cell)=true
  ·rw[if_pos hc]
   cases hx:x == n with
   | true=>left;simp[yr,hx]
   | false=>simp only[yr,hx]at h ⊢;exact ih h
  ·rw[if_neg hc]
   cases hx:x == n with
   | true=>simp only[yr,hx]at h ⊢;exact .inr h
   | false=>simp only[yr,hx]at h ⊢;exact ih h
theorem zbJ{env:Env}:∀{names:List (Str × NameKind)} {x:Str},(names.map fun(n,k)=>if(k == NameKind.free&&env.scope.kind == .function&&env.kindOf n == some .cell) then(n,NameKind.cell) else(n,k)).lookup x=some .cell \/
  (names.map fun(n,k)=>if(k == NameKind.free&&env.scope.kind == .function&&env.kindOf n == some .cell) then(n,NameKind.cell) else(n,k)).lookup x=some .free->names.lookup x=some .cell\/names.lookup x=some .free
 | [],_,h=>by simp at h
 | (n,k) :: r,x,h=>by
  have ih:=@zbJ env r x
  have h':List.lookup x ((if(k == NameKind.free&&env.scope.kind == .function&&env.kindOf n == some .cell)=true then(n,NameKind.cell) else(n,k)) :: (r.map fun(n,k)=>if(k == NameKind.free&&env.scope.kind == .function&&env.kindOf n == some .cell) then(n,NameKind.cell) else(n,k)))=some .cell \/
   List.lookup x ((if(k == NameKind.free&&env.scope.kind == .function&&env.kindOf n == some .cell)=true then(n,NameKind.cell) else(n,k)) :: (r.map fun(n,k)=>if(k == NameKind.free&&env.scope.kind == .function&&env.kindOf n == some .cell) then(n,NameKind.cell) else(n,k)))=some .free:=h
  clear h
  by_cases hc:(k == NameKind.free&&env.scope.kind == .function&&env.kindOf n == some .cell)=true
  ·have hk:k=.free:=by
    rw[yz,yz]at hc
    exact beq_iff_eq.mp hc.1.1
   subst hk
   rw[if_pos hc]at h'
   cases hx:x == n with
   | true=>right;simp[yr,hx]
   | false=>simp only[yr,hx]at h' ⊢;exact ih h'
  ·rw[if_neg hc]at h'
   cases hx:x == n with
   | true=>simp only[yr,hx]at h' ⊢;exact h'
   | false=>simp only[yr,hx]at h' ⊢;exact ih h'
theorem zbU{env:Env}:∀{names:List (Str × NameKind)} {x:Str},names.lookup x=some .cell ->
  (names.map fun(n,k)=>if(k == NameKind.free&&env.scope.kind == .function&&env.kindOf n == some .cell) then(n,NameKind.cell) else(n,k)).lookup x=some .cell
 | [],_,h=>by simp at h
 | (n,k) :: r,x,h=>by
  have ih:=@zbU env r x
  show List.lookup x ((if(k == NameKind.free&&env.scope.kind == .function&&env.kindOf n == some .cell)=true then(n,NameKind.cell) else(n,k)) :: _)=_
  by_cases hc:(k == NameKind.free&&env.scope.kind == .function&&env.kindOf n == some .cell)=true
  ·rw[if_pos hc]
   cases hx:x == n with
   | true=>simp[yr,hx]
   | false=>simp only[yr,hx]at h ⊢;exact ih h
  ·rw[if_neg hc]
   cases hx:x == n with
   | true=>simp only[yr,hx]at h ⊢;exact h
   | false=>simp only[yr,hx]at h ⊢;exact ih h
theorem zlg{names:List (Str × NameKind)}:∀{n:Nat} {acc:List (Str × Addr)} {x:Str} {c:Addr},(x,c)∈cellsFrom n names acc->(x,.cell)∈names\/(x,c)∈acc:=by
 induction names with
 | nil=>intro n acc x c h;exact .inr h
 | cons y r ih=>
  intro n acc x c h
  obtain⟨nm,k⟩:=y
  unfold cellsFrom at h
  split at h
  ·rename_i hk
   rcases ih h with h | h
   ·exact .inl (yD _ h)
   ·rcases ye.mp h with e | h
    ·cases e
     rw[beq_iff_eq.mp hk];exact .inl yV
    ·exact .inr h
  ·rcases ih h with h | h
   ·exact .inl (yD _ h)
   ·exact .inr h
theorem zdk{names:List (Str × NameKind)}(nd:(names.map (·.1)).Nodup){x:Str}{k:NameKind}(h:(x,k)∈names):names.lookup x=some k:=by
 induction names with
 | nil=>cases h
 | cons y r ih=>
  obtain⟨n,k'⟩:=y
  rw[yH,yJ]at nd
  rw[yr]
  rcases ye.mp h with e | hm
  ·cases e;simp
  ·have hne:x≠n:=fun e=>nd.1 (yas.mpr ⟨(x,k),hm,e⟩)
   have hb:(x == n)=false:=by simpa using hne
   rw[hb];exact ih nd.2 hm
noncomputable def zaM (X:Cx) (scope:Scope) (Ni:List Str) (cs:List (Str × Addr)) (s₃:Shared) (H₃:Hp) (fp:List Addr) (pins:List (Addr × Obj)):Cx:=
 { X with N:=Ni,s₀:=s₃,H₀:=H₃,env:=zlE scope cs s₃.heap.objs.size X.env,outer:=X.stack,stack:=X.stack,ex:=fp,fn:=fun y=>decide (scope.names.lookup y=some .cell),pn:=X.pn++pins,xe:=fun _ _=>False }
set_option genInjectivity false in
set_option genSizeOf false in
structure CompScope(X:Cx)(scope:Scope)(Ni:List Str)(caps:List (Option Nat)):Prop where
 kind:scope.kind=.function
 ndn:(scope.names.map (·.1)).Nodup
 free:∀y∈scope.names,y.2=.free->X.env.kindOf y.1=some .cell\/X.env.kindOf y.1=some .free
 nd:Ni.Nodup
 len:caps.length=Ni.length
 cap:∀(i:Nat) (y:Str) (j:Nat),Ni[i]?=some y->caps[i]?=some (some j)->X.N[j]?=some y/\scope.names.lookup y=some .free
noncomputable def zhb (so:Scope) (No:List Str) (scope:Scope) (Ni:List Str) (caps:List (Option Nat)):Bool:=
 (scope.kind == .function)&&decide ((scope.names.map (·.1)).Nodup)&&(scope.names.all fun y=>y.2 != .free || so.names.lookup y.1 == some .cell || so.names.lookup y.1 == some .free) &&
 decide Ni.Nodup&&(caps.length == Ni.length)&&((Ni.zip caps).all fun p=>match p.2 with | none=>true | some j=>No[j]? == some p.1&&scope.names.lookup p.1 == some .free)
theorem zP{X:Cx}{scope:Scope}{Ni:List Str}{caps:List (Option Nat)}(h:zhb X.env.scope X.N scope Ni caps=true):CompScope X scope Ni caps:=by
 unfold zhb at h
 simp only[yz]at h
 obtain⟨⟨⟨⟨⟨h1,h2⟩,h3⟩,h4⟩,h5⟩,h6⟩:=h
 refine⟨beq_iff_eq.mp h1,of_decide_eq_true h2,fun y hy hf=>?_,of_decide_eq_true h4,beq_iff_eq.mp h5,fun i y j e1 e2=>?_⟩
 ·have q:=yaQ.mp h3 y hy
  rw[Bool.or_eq_true,Bool.or_eq_true]at q
  rcases q with(q | q) | q
  ·rw[hf]at q;simp at q
  ·exact .inl (beq_iff_eq.mp q)
  ·exact .inr (beq_iff_eq.mp q)
 ·have hm:(y,some j)∈Ni.zip caps:=by
   refine yp (i:=i) ?_
   rw[List.getElem?_zip_eq_some];exact⟨e1,e2⟩
  have q:=yaQ.mp h6 _ hm
  simp only[yz]at q
  exact⟨beq_iff_eq.mp q.1,beq_iff_eq.mp q.2⟩
noncomputable def za9 (caps:List (Option Nat)) (σ:St):St:=caps.map fun o=>match o with | some j=>(σ[j]?).getD none | none=>none
section
variable {X:Cx}
set_option genInjectivity false in
set_option genSizeOf false in
structure CompAt(X:Cx)(scope:Scope)(own cl:List (Str × Addr))(s₃:Shared):Prop where
 oeq:own=cellsFrom (s₃.heap.objs.size+1) scope.names []
 apart:own.Pairwise fun x y=>x.2≠y.2
 above:∀n c,(n,c)∈own->s₃.heap.objs.size+1<=c
 sub:∀x c,cl.lookup x=some c->X.env.cells.lookup x=some c
 all:∀y∈scope.names,y.2=.free->cl.lookup y.1=X.env.cells.lookup y.1
theorem CompAt.look{scope:Scope}{own cl:List (Str × Addr)}{s₃:Shared}(T:CompAt X scope own cl s₃){x:Str}{c:Addr}(h:(own++cl).lookup x=some c):(x,c)∈own\/X.env.cells.lookup x=some c:=by
 rw[zbC]at h
 cases e:own.lookup x with
 | some c'=>rw[e]at h;cases h;exact .inl (mem_of_lookup e)
 | none=>rw[e]at h;exact .inr (T.sub x c h)
theorem zd8{pins:List (Addr × Obj)}{σ:St}{H:Hp}{s:Shared}(I:Inv X pins σ H s){x:Str}{c:Addr}(h:X.env.cells.lookup x=some c):c<s.heap.objs.size:=by
 obtain⟨v,o,ho,_⟩:=I.cell x c h
 exact Heap.lt_size ho
theorem zlx{scope:Scope}{Ni:List Str}{caps:List (Option Nat)}{own cl:List (Str × Addr)}{pins:List (Addr × Obj)}{σ:St}{H₃:Hp}{s₃:Shared}{fp:List Addr}
  (S:CompScope X scope Ni caps) (T:CompAt X scope own cl s₃) (I:Inv X pins σ H₃ s₃) (f:∀b∈fp,zbD X pins H₃ b) (hf:∀b∈fp,b<s₃.heap.objs.size):(zaM X scope Ni (own++cl) s₃ H₃ fp pins).Ok where
 mod:=I.ok.mod
 kind:=S.kind
 glob:=I.ok.glob
 blt:=I.ok.blt
 above:=yf _
 inj:=fun x y c h1 h2=>by
  rcases T.look h1 with a | a
  ·rcases T.look h2 with b | b
   ·exact name_of_addr T.apart a b
   ·exact absurd (yo (zd8 I b) (yaL (T.above x c a))) (yN _)
  ·rcases T.look h2 with b | b
   ·exact absurd (yo (zd8 I a) (yaL (T.above y c b))) (yN _)
   ·exact I.ok.inj x y c a b
 has:=fun x h=>by
  have h':=zbJ (env:=X.env) (names:=scope.names) (x:=x) h
  show ∃c,(own++cl).lookup x=some c
  rw[zbC]
  cases e:own.lookup x with
  | some c=>exact⟨c,rfl⟩
  | none=>
   rcases h' with h' | h'
   ·obtain⟨c,ec⟩:=zcI (n:=s₃.heap.objs.size+1) h'
    rw[<- T.oeq,e]at ec;cases ec
   ·have hm:=mem_of_lookup h'
    obtain⟨c,ec⟩:=I.ok.has x (S.free _ hm rfl)
    exact⟨c,(T.all _ hm rfl).trans ec⟩
 cab:=fun x c h1 h2=>by
  have hk:scope.names.lookup x=some .cell:=of_decide_eq_true h1
  obtain⟨c',ec⟩:=zcI (n:=s₃.heap.objs.size+1) hk
  rw[<- T.oeq]at ec
  have h2':(own++cl).lookup x=some c:=h2
  rw[zbC,ec]at h2'
  cases h2'
  have:=T.above x _ (mem_of_lookup ec)
  show s₃.heap.objs.size<=_
  omega
 hd:=I.ok.hd
 frames:=I.ok.frames
 stk:=.inl rfl
 exf:=fun b hb=>⟨ym (hf b hb),fun x c h=>by
  rcases T.look h with a | a
  ·exact fun e=>absurd (yo (hf b hb) (yaL (e▸T.above x c a))) (yN _)
  ·exact(f b hb).2.2.2.2.1 x c a⟩
 bs:=I.bs
 bsz:=yb I.ok.bsz I.sz
 noex:=fun b o e hb=>by
  rcases(f b hb).2.2.2.1 with z | z
  ·exact I.ok.noex b o e z
  ·have h1:b<X.base.objs.size:=Heap.lt_size e
   have h2:=I.ok.bsz
   exact absurd (yo h1 (yb h2 z)) (yN _)
 exfs:=fun b hb hm=>by
  rcases ye.mp (I.stkSub b hm)with z | z
  ·exact(f b hb).2.1 z
  ·exact(f b hb).2.2.1 z
 funs:=I.stack
 frf:=I.stkFree
theorem zhW{scope:Scope}{Ni:List Str}{caps:List (Option Nat)}{own cl:List (Str × Addr)}{pins:List (Addr × Obj)}{σ:St}{H₃:Hp}{s₃ s₄:Shared}{fp:List Addr}
  (S:CompScope X scope Ni caps) (T:CompAt X scope own cl s₃) (I:Inv X pins σ H₃ s₃) (f:∀b∈fp,zbD X pins H₃ b) (hf:∀b∈fp,b<s₃.heap.objs.size)
  (e4:s₄={ s₃ with heap:=s₄.heap }) (k:∀b o,s₃.heap.get? b=some o->s₄.heap.get? b=some o) (ns:s₄.heap.Ns s₃.heap.objs.size fun _=>none) (oc:∀n c,(n,c)∈own->s₄.heap.IsCell c none) :
  Inv (zaM X scope Ni (own++cl) s₃ H₃ fp pins) [] (za9 caps σ) H₃ s₄ where
 ok:=zlx S T I f hf
 os:=by rw[e4];rfl
 bare:=by rw[e4];exact I.bare
 base:=Un.kept k
 loc:=by
  refine⟨_,ns,fun i x v h1 h2 h3=>?_⟩
  have h2':(za9 caps σ)[i]?=some (some v):=h2
  unfold za9 at h2'
  rw[yg]at h2'
  cases ec:caps[i]? with
  | none=>rw[ec]at h2';cases h2'
  | some o=>
   cases o with
   | none=>rw[ec]at h2';cases h2'
   | some j=>
    rw[ec]at h2'
    have h2'':(σ[j]?).getD none=some v:=yn h2'
    have hj:σ[j]?=some (some v):=by
     cases e:σ[j]? with
     | none=>rw[e]at h2'';cases h2''
     | some z=>rw[e]at h2'';exact congrArg some h2''
    obtain⟨hN,hfr⟩:=S.cap i x j h1 ec
    have hm:=mem_of_lookup hfr
    have hk:=S.free _ hm rfl
    obtain⟨m,_,hl⟩:=I.loc
    obtain⟨u,r,l⟩:=hl j x v hN hj (by rcases hk with z | z;exact .inr (.inl z);exact .inr (.inr z))
    refine⟨u,r,.inr ⟨zbH hfr,?_⟩⟩
    rcases l with⟨z,_⟩ | ⟨_,c,hc,q⟩
    ·have z':X.env.kindOf x=some .local:=z
     rcases hk with y | y<;>(have y':X.env.kindOf x=_:=y;rw[z']at y';cases y')
    ·refine⟨c,?_,q.keeps k⟩
     show(own++cl).lookup x=some c
     rw[zbC]
     cases eo:own.lookup x with
     | some c'=>
      rw[T.oeq]at eo
      rcases zlg (mem_of_lookup eo)with y | y
      ·have:=zdk S.ndn y
       rw[hfr]at this;cases this
      ·cases y
     | none=>exact(T.all _ hm rfl).trans hc
 cell:=fun x c h=>by
  rcases T.look h with a | a
  ·exact⟨_,oc x c a⟩
  ·obtain⟨v,q⟩:=I.cell x c a
   exact⟨v,q.keeps k⟩
 free:=I.hok.fresh (yf _)
 freeC:=fun x c h=>by
  rcases T.look h with a | a
  ·exact I.hok.fresh (by have:=T.above x c a;omega)
  ·exact I.freeC x c a
 pin:=fun p hp=>by
  have hp':p∈X.pn++pins:=by
   have:p∈(X.pn++pins)++[]:=hp
   simpa using this
  obtain⟨h1,h2,h3,h4,h5⟩:=I.pin p hp'
  refine⟨k _ _ h1,h2,ym (Heap.lt_size h1),fun z=>?_,h5⟩
  rcases ye.mp (I.stkSub _ z)with y | y
  ·exact h3 y
  ·exact h4 y
 hok:=I.hok.kept k
 len:=by
  show(za9 caps σ).length=Ni.length
  unfold za9;rw[ya];exact S.len
theorem zkq{scope:Scope}{Ni:List Str}{cs:List (Str × Addr)}{pins:List (Addr × Obj)}{σ σ':St}{H₃ H':Hp}{s₃ s':Shared}{fp:List Addr}(I:Inv X pins σ H₃ s₃)(f:∀b∈fp,zbD X pins H₃ b)
  (J:Inv (zaM X scope Ni cs s₃ H₃ fp pins) [] σ' H' s'):Inv X pins σ H' s':=by
 have u:Un (frs X.stack) fp H₃ H' s₃.heap s'.heap:=J.base
 have q:=I.call (g':=s'.gens) (t':=s'.toks) (d':=s'.drawn) (ch:=fp) u J.hok J.bare fun b hb=>⟨(f b hb).2.2.2.1,(f b hb).2.1,(f b hb).2.2.2.2.1,(f b hb).2.2.2.2.2⟩
 have e:({ s₃ with heap:=s'.heap,gens:=s'.gens,drawn:=s'.drawn,toks:=s'.toks }:Shared)=s':=by
  have h1:s'.os=s₃.os:=J.os
  cases s';cases s₃
  simp only at h1
  subst h1;rfl
 rw[e]at q
 exact q
noncomputable def PF (Y:Cx) (ifs:List Expr) (t:TT):Prop:=∀(pins:List (Addr × Obj)) (s:Shared) (σ:St) (H:Hp) (Q:Bool->Hp->Prop),Inv Y pins σ H s->t σ H Q ->
 wpAny (model Y.prog Y.w) Y.A (forIn ifs true fun c r=>if r=true then do let ok <- isTrue c Y.env (eval c Y.env);pure (ForInStep.yield ok)else pure (ForInStep.yield r)) (TP Y pins σ Q) Y.xe s
abbrev zd4:TT:=fun _ H T=>T true H
theorem zat{Y:Cx}:PF Y [] zd4:=fun pins s σ H Q I h=>wpAny_tests_nil ⟨H,I,h⟩
noncomputable def zfU (wi:TI) (caps:List (Option Nat)) (g:TG) (tf:TT) (te:TE):TE:=fun σ H Q=>wi σ H fun J H1=>∀D,H1 D=none ->
 ∃W:Nat->Nat->St->Hp->Prop,(∃m,W 0 m (za9 caps σ) (upd H1 D (.lst [])))/\∀i m σ' H',W i m σ' H' ->
  (J.stop i H'/\Q (.ref D) H')\/(J.go i H'/\∃N:St->Hp->Prop,(∀σ2 H2,N σ2 H2->∃m',m'<m/\W (i+1) m' σ2 H2) /\
   ∀x H2,J.yld i H' x H2->g x σ' H2 fun σ1 H3=>tf σ1 H3 fun b H4=>if b=true then te σ1 H4 fun v H5=>za2 (.ref D) [v] H5 fun _ H6=>N σ1 H6 else N σ1 H4)
theorem zgo{P:Program}{w:World}{A:Around}{R:Result->Shared->Prop}{s0:Shared}{elt tg iter:Expr}{tests:List Expr}{sc:Scope}{ps:Pos}{itv acc:Value}{en:Env}(J:Nat->Shared->Prop)
  (turn:∀n s,J n s->wpAny (model P w) A (pyNext itv) (fun r s1=>match r with | none=>R (.ok .next) s1 | some v=>wpAny (model P w) A (letOwnedTupleGo tg itv v) (fun _ s1'=>wpAny (model P w) A (assign tg en v) (fun _ s2=>
   wpAny (model P w) A (forIn tests true fun c r=>if r=true then do let ok <- isTrue c en (eval c en);pure (ForInStep.yield ok)else pure (ForInStep.yield r)) (fun ok s3=>if ok=true then wpAny (model P w) A (eval elt en) (fun x s4=>
    wpAny (model P w) A (call (.builtin "list.append") [acc,x]) (fun _ s5=>∃m,m<n/\J m s5) (notedBy (model P w) A en fun e s'=>R (.error e) s') s4) (notedBy (model P w) A en fun e s'=>R (.error e) s') s3
     else ∃m,m<n/\J m s3) (notedBy (model P w) A en fun e s'=>R (.error e) s') s2) (notedBy (model P w) A en fun e s'=>R (.error e) s') s1') (notedBy (model P w) A en fun e s'=>R (.error e) s') s1) (notedBy (model P w) A en fun e s'=>R (.error e) s') s)
  (n0:Nat) (j0:J n0 s0):codeAny (model P w) A (.compLoop (.ListComp elt [⟨tg,iter,tests,0⟩] sc ps) 0 itv acc en) R s0:=by
 refine codeAny_loop rfl J (fun n s hJ=>?_) n0 j0
 show wpAny _ A ((compTurn (.ListComp elt [⟨tg,iter,tests,0⟩] sc ps) 0 itv acc en).onRaise (fun x=>do noteFrame x en;theTreesLotGoes x)) _ _ s
 refine wpAny_noted ?_
 rw[compTurn_list]
 refine wpAny_bind (wpAny_standAt (wpAny_bind (wpAny_mono (turn n s hJ) (fun r s1 h1=>?_) fun _ _ z=>z)))
 cases r with
 | none=>exact wpAny_pure h1
 | some v=>
  refine wpAny_bind (wpAny_mono h1 (fun _ s1' h1'=>wpAny_bind (wpAny_mono h1' (fun _ s2 h2=>wpAny_bind (wpAny_mono h2 (fun ok s3 h3=>?_) fun _ _ z=>z)) fun _ _ z=>z)) fun _ _ z=>z)
  cases ok with
  | false=>exact wpAny_pure ⟨rfl,h3⟩
  | true=>
   exact wpAny_bind (wpAny_bind (wpAny_mono h3 (fun x s4 h4=>wpAny_bind (wpAny_mono h4 (fun _ s5 h5=>wpAny_pure (wpAny_pure ⟨rfl,h5⟩)) fun _ _ z=>z)) fun _ _ z=>z))
theorem zjl{Y:Cx}{elt iter:Expr}{tg:Expr}{ifs:List Expr}{scope:Scope}{pos:Pos}{it D:Addr}{fp:List Addr}{tn:Nat->Heap->Prop}{J:It}{g:TG}{tf:TT}{te:TE}{Q:VK}{R:Result->Shared->Prop}
  (T:Turn Y.prog Y.w Y.K tg J fp it tn) (hc:Y.calm=true) (gY:PG Y tg g) (hF:PF Y ifs tf) (hE:PE Y elt te) (fpY:∀{H':Hp},(∀b∈fp,H' b=none)->∀b∈fp,zbD Y [] H' b) (hx:∀e s,¬Y.xe e s)
  {W:Nat->Nat->St->Hp->Prop} (turn:∀i m σ' H',W i m σ' H' ->
   (J.stop i H'/\Q (.ref D) H')\/(J.go i H'/\∃N:St->Hp->Prop,(∀σ2 H2,N σ2 H2->∃m',m'<m/\W (i+1) m' σ2 H2) /\
    ∀x H2,J.yld i H' x H2->g x σ' H2 fun σ1 H3=>tf σ1 H3 fun b H4=>if b=true then te σ1 H4 fun v H5=>za2 (.ref D) [v] H5 fun _ H6=>N σ1 H6 else N σ1 H4))
  (fin:∀σ' H' s',Inv Y [] σ' H' s'->Q (.ref D) H'->R (.ok .next) s') {m0:Nat} {σ0:St} {H0:Hp} {s0:Shared} (I0:Inv Y [] σ0 H0 s0) (st0:tn 0 s0.heap) (fr0:∀b∈fp,H0 b=none) (w0:W 0 m0 σ0 H0) :
  codeAny (model Y.prog Y.w) Y.A (.compLoop (.ListComp elt [⟨tg,iter,ifs,0⟩] scope pos) 0 (.ref it) (.ref D) Y.env) R s0:=by
 refine zgo (fun n s'=>∃i σ' H',Inv Y [] σ' H' s'/\tn i s'.heap/\(∀b∈fp,H' b=none)/\W i n σ' H') ?_ m0 ⟨0,_,_,I0,st0,fr0,w0⟩
 rintro n s5 ⟨i,σ5,H5,I5,st5,fr5,w5⟩
 have noE:∀{α:Type} {t:Sem α} {Q1:α->Shared->Prop} {E2:Value->Shared->Prop} {s1:Shared},wpAny (model Y.prog Y.w) Y.A t Q1 Y.xe s1->wpAny (model Y.prog Y.w) Y.A t Q1 E2 s1:=
  fun h=>wpAny_mono h (fun _ _ q=>q) fun e s z=>(hx e s z).elim
 rcases turn i n σ5 H5 w5 with⟨stop,qn⟩ | ⟨go,N,hN,step⟩
 ·refine thn (T.done Y rfl rfl rfl hc i [] s5 σ5 H5 _ I5 (fpY fr5) st5 stop) fun r s6 ⟨hr,I6⟩=>?_
  subst hr
  exact fin σ5 H5 s6 I6 qn
 ·refine thn (T.item Y rfl rfl rfl hc i [] s5 σ5 H5 _ I5 (fpY fr5) st5 go) fun r s6 ⟨u,hr,h6⟩=>?_
  subst hr
  refine thn h6 fun _ s7 zz=>?_
  obtain⟨x7,H7,I7,r7,y7,st7,fr7⟩:=zz
  have I7':=I7.pinned (fpY fr7) (T.obj _ _ st7)
  have again:∀{σ9:St} {H9:Hp} {s9:Shared},Inv Y ([]++zdf fp s7.heap) σ9 H9 s9->N σ9 H9->∃m,m<n/\∃i σ' H',Inv Y [] σ' H' s9/\tn i s9.heap/\(∀b∈fp,H' b=none)/\W i m σ' H':=fun {σ9 H9 s9} I9 n9=>by
   obtain⟨m',hm,w9⟩:=hN σ9 H9 n9
   refine⟨m',hm,i+1,σ9,H9,I9.unpinned,T.keep _ _ _ st7 fun b hb o e=>(I9.pin (b,o) (yv _ (yv _ (zb3 hb e)))).1,fun b hb=>?_,w9⟩
   obtain⟨o,e,d⟩:=T.obj _ _ st7 b hb
   exact(I9.pin (b,o) (yv _ (yv _ (zb3 hb e)))).2.1
  refine noE (thn (gY _ s7 σ5 H7 x7 u _ I7' r7 (step x7 _ y7)) fun _ s8 zz=>?_)
  obtain⟨σ8,H8,I8,q8⟩:=zz
  refine noE (thn (hF _ s8 _ _ _ I8 q8) fun b s9 ⟨H9,I9,q9⟩=>?_)
  cases b with
  | false=>exact again I9 q9
  | true=>
   refine noE (thn (hE _ s9 _ _ _ I9 q9) fun y s10 zz=>?_)
   obtain⟨v10,H10,I10,r10,q10⟩:=zz
   refine noE (thn (zaA (X:=Y) _ s10 _ _ (.ref D) [v10] (.ref D) [y] _ I10 rfl (.cons r10 .nil) q10) fun _ s11 zz=>?_)
   obtain⟨v11,H11,I11,_,q11⟩:=zz
   exact again I11 q11
theorem z4{scope:Scope}{Ni:List Str}{caps:List (Option Nat)}{x:Str}{px:Pos}{gi:Nat}{cs:List (Str × Addr)}{s₃:Shared}{H₃:Hp}{fp:List Addr}{pins:List (Addr × Obj)}
  (S:CompScope X scope Ni caps) (hx:scope.names.lookup x=some .local\/scope.names.lookup x=some .cell) (hgi:Ni[gi]?=some x):PG (zaM X scope Ni cs s₃ H₃ fp pins) (.Name x px) (zco gi):=by
 rcases hx with hx | hx
 ·exact zal S.nd hgi (.inl (lookup_relabel_local hx)) (.inr (lookup_relabel_local hx))
 ·refine zal S.nd hgi ?_ (.inl (decide_eq_true hx))
  have:(relabel scope X.env).names.lookup x=some .cell:=zbU hx
  exact .inr this
theorem zfr{elt iter:Expr}{tg:Expr}{ifs:List Expr}{scope:Scope}{pos pos':Pos}{wi:TI}{Ni:List Str}{caps:List (Option Nat)}{g:TG}{tf:TT}{te:TE}
  (hc:X.calm=true) (hi:PI X tg iter wi) (S:CompScope X scope Ni caps) (hG:CompScope X scope Ni caps->∀cs s₃ H₃ fp pins,PG (zaM X scope Ni cs s₃ H₃ fp pins) tg g)
  (hF:∀cs s₃ H₃ fp pins,PF (zaM X scope Ni cs s₃ H₃ fp pins) ifs tf) (hE:∀cs s₃ H₃ fp pins,PE (zaM X scope Ni cs s₃ H₃ fp pins) elt te)
  (hs:∀x,foldedSetIterable iter X.env x=pure x)
  {pins:List (Addr × Obj)} {s:Shared} {σ:St} {H:Hp} {Q:VK} (I:Inv X pins σ H s) (h:zfU wi caps g tf te σ H Q) {use:Option (Value->Sem Unit)} {R:Value->Shared->Prop}
  (fin:∀(D C:Addr) (H':Hp) (s':Shared) (m:Str->Option Value),Inv X pins σ H' s'->Q (.ref D) H'->s'.heap.Ns C m->H' C=none->X.s₀.heap.objs.size<=C->C≠X.env.locals->(∀y c,X.env.cells.lookup y=some c->c≠C)->(∀p∈X.pn++pins,p.1≠C) ->
   compPost (model X.prog X.w) X.A X.xe use R (.ref D) C (.ok .next) s') :
  wpAny (model X.prog X.w) X.A (comprehension (.ListComp elt [⟨tg,iter,ifs,0⟩] scope pos) scope X.env pos' (newList []) false (eval iter X.env) use) R X.xe s:=by
 obtain⟨cl,hcl,hsub,hall⟩:=ze5 (env:=X.env) (scope:=scope) fun y hy hf=>I.ok.has y.1 (S.free y hy hf)
 refine wpAny_comprehension_free rfl hs hcl S.kind (fun y hy hl=>by obtain⟨n,k⟩:=y;cases hl;exact zdk S.ndn hy) (thn (hi pins s σ H _ I h) fun v s1 h1=>thn h1 fun itv s2 h2=>?_)
 obtain⟨it,fp,tn,J,H2,e,I2,T,st2,f2,hW⟩:=h2
 subst e
 have I3:Inv X pins σ (upd H2 s2.heap.objs.size (.lst [])) { s2 with heap:=s2.heap.push { cls:=.type "list",dict:=none,data:=.seq ([]:List Value).toArray },toks:=s2.toks }:=
  I2.laid (fun b u e=>Heap.get?_push_of_some _ e) (yf _) ⟨yT _,[],_,.nil,Heap.get?_push_size _ rfl⟩
 have hD:H2 s2.heap.objs.size=none:=I2.hok.fresh (yf _)
 obtain⟨W,⟨m0,w0⟩,turn⟩:=hW s2.heap.objs.size hD
 have st3:tn 0 (s2.heap.push { cls:=.type "list",dict:=none,data:=.seq ([]:List Value).toArray }):=T.keep _ _ _ st2 fun b _ o e=>Heap.get?_push_of_some _ e
 have f3:∀b∈fp,zbD X pins (upd H2 s2.heap.objs.size (.lst [])) b:=fun b hb=>by
  obtain⟨o,e,_⟩:=T.obj _ _ st2 b hb
  exact⟨by rw[zG (ym (Heap.lt_size e))];exact(f2 b hb).1,(f2 b hb).2⟩
 refine wpAny_newObj_type ?_
 generalize hs3:({ s2 with heap:=s2.heap.push { cls:=.type "list",dict:=none,data:=.seq ([]:List Value).toArray },toks:=s2.toks }:Shared)=s3 at I3
 have eh:s2.heap.push { cls:=.type "list",dict:=none,data:=.seq ([]:List Value).toArray }=s3.heap:=by rw[<- hs3]
 rw[eh]at st3
 have hf3:∀b∈fp,b<s3.heap.objs.size:=fun b hb=>by
  obtain⟨o,e,_⟩:=T.obj _ _ st3 b hb
  exact Heap.lt_size e
 refine zfF fun own s4 eo e4 k4 ns4 oc4 ap4=>?_
 have T4:CompAt X scope own cl s3:=⟨eo,ap4,fun n c hm=>(oc4 n c hm).2,hsub,hall⟩
 have I4:=zhW (Ni:=Ni) (caps:=caps) S T4 I3 f3 hf3 e4 k4 ns4 fun n c hm=>(oc4 n c hm).1
 have st4:tn 0 s4.heap:=T.keep _ _ _ st3 fun b _ o e=>k4 b o e
 have fpY:∀{H':Hp},(∀b∈fp,H' b=none)->∀b∈fp,zbD (zaM X scope Ni (own++cl) s3 (upd H2 s2.heap.objs.size (.lst [])) fp pins) [] H' b:=fun hn b hb=>
  ⟨hn b hb,ym (hf3 b hb),I4.ok.exfs b hb,.inl hb,(I4.ok.exf b hb).2,fun p hp=>by
   have hp':p∈X.pn++pins:=by
    have:p∈(X.pn++pins)++[]:=hp
    simpa using this
   exact(f3 b hb).2.2.2.2.2 p hp'⟩
 have loop:=zjl (Q:=Q) (elt:=elt) (iter:=iter) (scope:=scope) (pos:=pos) (R:=compPost (model X.prog X.w) X.A X.xe use R (.ref s2.heap.objs.size) s3.heap.objs.size) (Y:=zaM X scope Ni (own++cl) s3 (upd H2 s2.heap.objs.size (.lst [])) fp pins)
  T hc (hG S _ _ _ _ _) (hF _ _ _ _ _) (hE _ _ _ _ _) fpY (fun _ _ z=>z) turn (fun σ' H' s' I6 qn=>by
   have I6':=zkq I3 f3 I6
   obtain⟨m6,ns6,_⟩:=I6.loc
   exact fin _ _ H' s' m6 I6' qn ns6 I6.free I3.sz (Nat.ne_of_gt I3.lt) (fun y c hc'=>ym (zd8 I3 hc')) fun p hp=>ym (Heap.lt_size (I3.pin p hp).1)) I4 st4 (fun b hb=>(f3 b hb).1) w0
 exact codeAny_compStart_list loop (T.self _ _ _ _ _ st4 loop)
theorem zaQ{elt iter:Expr}{tg:Expr}{ifs:List Expr}{scope:Scope}{pos:Pos}{wi:TI}{Ni:List Str}{caps:List (Option Nat)}{g:TG}{tf:TT}{te:TE}
  (hc:X.calm=true) (hi:PI X tg iter wi) (S:CompScope X scope Ni caps) (hG:CompScope X scope Ni caps->∀cs s₃ H₃ fp pins,PG (zaM X scope Ni cs s₃ H₃ fp pins) tg g)
  (hF:∀cs s₃ H₃ fp pins,PF (zaM X scope Ni cs s₃ H₃ fp pins) ifs tf) (hE:∀cs s₃ H₃ fp pins,PE (zaM X scope Ni cs s₃ H₃ fp pins) elt te)
  (hs:autoParam (∀x,foldedSetIterable iter X.env x=pure x) Internal.aut3._auto_1):PE X (.ListComp elt [⟨tg,iter,ifs,0⟩] scope pos) (zfU wi caps g tf te):=by
 intro pins s σ H Q I h
 rw[eval_ListComp]
 refine zfr hc hi S hG hF hE hs I h fun D C H' s' m I' q ns hn hC h1 h2 h3=>?_
 refine⟨m,ns,fun h' sb=>?_⟩
 exact⟨.ref D,H',I'.turned (t':=s'.toks) (it:=C) (fun b o hb e=>(sb.2 b hb).trans e) hn h1 (.inr hC) h2 h3,rfl,q⟩
theorem zb4{i:Nat}{y:Str}{py:Pos}{elt iter:Expr}{tg:Expr}{ifs:List Expr}{scope:Scope}{pos spos:Pos}{wi:TI}{Ni:List Str}{caps:List (Option Nat)}{g:TG}{tf:TT}{te:TE}
  (hN:X.N.Nodup) (hyi:X.N[i]?=some y) (hy:X.env.scope.names.lookup y=some .local) (hc:X.calm=true) (hi:PI X tg iter wi) (S:CompScope X scope Ni caps) (hG:CompScope X scope Ni caps->∀cs s₃ H₃ fp pins,PG (zaM X scope Ni cs s₃ H₃ fp pins) tg g)
  (hF:∀cs s₃ H₃ fp pins,PF (zaM X scope Ni cs s₃ H₃ fp pins) ifs tf) (hE:∀cs s₃ H₃ fp pins,PE (zaM X scope Ni cs s₃ H₃ fp pins) elt te)
  (hsw:autoParam (swapsWith (.ListComp elt [⟨tg,iter,ifs,0⟩] scope pos) (some (.Name y py)) spos.line X.env=pure true) Internal.aut2._auto_1)
  (hs:autoParam (∀x,foldedSetIterable iter X.env x=pure x) Internal.aut3._auto_1):PS X (.Assign [.Name y py] (.ListComp elt [⟨tg,iter,ifs,0⟩] scope pos) spos) (zjy (zfU wi caps g tf te) (zco i)):=by
 intro pins s σ H D I h
 rw[exec_Assign_Name_used _ _ _ _ hsw]
 refine wpAny_bind (wpAny_standAt (wpAny_bind ?_))
 show wpAny _ X.A (do let _ <- comprehension (.ListComp elt [⟨tg,iter,ifs,0⟩] scope pos) scope X.env _ (newList []) false (eval iter X.env) (some (assign (.Name y py) X.env))) _ _ s
 refine wpAny_bind (wpAny_mono (zfr (R:=fun _ s'=>SP X pins D .next s') hc hi S hG hF hE hs I h fun L C H' s' m I' q ns hn hC h1 h2 h3=>?_) (fun _ s' hq=>wpAny_pure (wpAny_pure hq)) fun _ _ e=>e)
 show wpAny _ X.A (assign (.Name y py) X.env (.ref L)) _ _ _
 refine wpAny_assign_Name (zfx (v:=.ref L) I' hN hyi (.inl hy) rfl (fun s2 I2 sb2=>?_) (.inr hy))
 obtain⟨a,sb,ha⟩:=sb2
 have hCa:C≠a:=by
  rcases ha with z | z
  ·rw[z];exact h1
  ·exact fun w'=>h2 y a z w'.symm
 refine⟨m,ns.sameBut sb hCa,fun h' sb'=>?_⟩
 exact⟨_,H',I2.turned (t':=s2.toks) (it:=C) (fun b o hb e=>(sb'.2 b hb).trans e) hn h1 (.inr hC) h2 h3,q⟩
end
end Internal
namespace My
noncomputable def gc (a b:Int):Int:=(Int.gcd a b:Int)
theorem zfv(a b:Int):0<=gc a b:=Int.natCast_nonneg _
theorem gc_comm(a b:Int):gc a b=gc b a:=by unfold gc;rw[Int.gcd_comm]
theorem zaK(a b:Int):gc a b∣a:=Int.gcd_dvd_left a b
theorem gc_dvd_right(a b:Int):gc a b∣b:=Int.gcd_dvd_right a b
theorem zjk{k a b:Int}(h1:k∣a)(h2:k∣b):k∣gc a b:=Int.dvd_coe_gcd h1 h2
theorem gc_pos_right{a b:Int}(h:b≠0):0<gc a b:=by
 have:=Int.gcd_pos_of_ne_zero_right a h
 unfold gc;omega
theorem gc_zero_right{a:Int}(h:0<=a):gc a 0=a:=by unfold gc;rw[Int.gcd_zero_right];omega
theorem gc_abs(a b:Int):gc (if a<0 then -a else a) (if b<0 then -b else b)=gc a b:=by
 unfold gc;split<;>split<;>simp[Int.gcd]
theorem gc_step{a b:Int}:gc b (a%b)=gc a b:=by
 rw[gc_comm a b]
 refine Int.dvd_antisymm (zfv _ _) (zfv _ _) ?_ ?_
 ·refine zjk (zaK b (a%b)) ?_
  have e:a=b*(a/b)+a%b:=(yal a b).symm
  have:=Int.dvd_add (Int.dvd_mul_of_dvd_left (c:=a/b) (zaK b (a%b))) (gc_dvd_right b (a%b))
  rwa [<- e]at this
 ·refine zjk (zaK b a) ?_
  rw[Int.emod_def]
  exact Int.dvd_sub (gc_dvd_right b a) (Int.dvd_mul_of_dvd_left (zaK b a))
theorem zhK{a b:Int}(h:gc a b=1):a.gcd b=1:=by unfold gc at h;omega
theorem zhw{x y:Int}{q:Rat}(hy:0<y)(hg:gc x y=1)(e:Rat.divInt x y=q):x=q.num/\y=(q.den:Int):=by
 obtain⟨d,rfl⟩:=Int.eq_ofNat_of_zero_le (yak hy)
 have hc:x.natAbs.Coprime d:=by
  have:=zhK hg
  rw[Int.gcd_eq_natAbs_gcd_natAbs]at this
  exact this
 have hd:d≠0:=by omega
 have:Rat.mk' x d hd hc=q:=by rw[Rat.mk_eq_divInt];exact e
 subst this
 exact⟨rfl,rfl⟩
theorem rat_den_pos(q:Rat):0<(q.den:Int):=by have:=q.den_nz;omega
theorem zmL{a b:Int}(h:b≠0):gc (a/gc a b) (b/gc a b)=1:=by
 have hp:=gc_pos_right (a:=a) h
 unfold gc
 have:=Int.gcd_ediv (a:=a) (b:=b) (c:=(a.gcd b:Int)) (zaK a b) (gc_dvd_right a b)
 rw[this]
 have hp':0<a.gcd b:=by unfold gc at hp;omega
 rw[Int.natAbs_natCast,Nat.div_self hp'];rfl
theorem zfC{a b c:Int}(hb:b≠0)(ha:c∣a)(hc:c∣b):Rat.divInt (a/c) (b/c)=Rat.divInt a b:=by
 obtain⟨x,rfl⟩:=ha
 obtain⟨y,rfl⟩:=hc
 have hc0:c≠0:=by rintro rfl;simp at hb
 rw[Int.mul_ediv_cancel_left _ hc0,Int.mul_ediv_cancel_left _ hc0,Rat.divInt_mul_left hc0]
theorem part_pos{t b:Int}(hb:0<b):t/gc t b=(Rat.divInt t b).num/\b/gc t b=((Rat.divInt t b).den:Int):=by
 have hp:=gc_pos_right (a:=t) (b:=b) (by omega)
 refine zhw ?_ (zmL (by omega)) (zfC (by omega) (zaK _ _) (gc_dvd_right _ _))
 exact Int.ediv_pos_of_pos_of_dvd hb (by omega) (gc_dvd_right _ _)
theorem part_neg{t b:Int}(hb:b<0):t.fdiv (-gc t b)=(Rat.divInt t b).num/\b.fdiv (-gc t b)=((Rat.divInt t b).den:Int):=by
 have d1:-gc t b∣t:=Int.neg_dvd.mpr (zaK _ _)
 have d2:-gc t b∣b:=Int.neg_dvd.mpr (gc_dvd_right _ _)
 rw[Int.fdiv_eq_ediv_of_dvd d1,Int.fdiv_eq_ediv_of_dvd d2]
 have e:=part_pos (t:=-t) (b:=-b) (by omega)
 have g:gc (-t) (-b)=gc t b:=by unfold gc;simp[Int.gcd]
 rw[g,Rat.neg_divInt_neg]at e
 rw[Int.ediv_neg,Int.ediv_neg]
 rw[Int.neg_ediv_of_dvd (zaK _ _),Int.neg_ediv_of_dvd (gc_dvd_right _ _)]at e
 exact e
end My
namespace Internal
open PySem PySem.Spec PyProof.Rows
section
variable {K:Fg}{H:Hp}{Q:VK}
theorem zml{i:Int}(q:Q (.bl true) H):zdm K [.int i,.ty "int"] H Q:=zid (t':=.type "int") (cv:=.type "int") (b:=true) rfl (.int i) (by with_unfolding_all rfl) q
theorem zm7{i:Int}(q:Q (.bl false) H):zdm K [.int i,.ty "bool"] H Q:=zid (t':=.type "int") (cv:=.type "bool") (b:=false) rfl (.int i) (by with_unfolding_all rfl) q
theorem zi1{a:Addr}{xs:List V}(h:H a=some (.tup xs))(q:Q (.bl true) H):zdm K [.ref a,.ty "tuple"] H Q:=zid (t':=.type "tuple") (cv:=.type "tuple") (b:=true) rfl (.tup h) (by with_unfolding_all rfl) q
end
noncomputable def zkQ:Sp:=fun vs H Q _=>∃a b:Int,vs=[.int a,.int b]/\Q (.int (My.gc a b)) H
theorem zlW{a b:Int}{H:Hp}{Q:VK}{E:XK}(q:Q (.int (My.gc a b)) H):zkQ [.int a,.int b] H Q E:=⟨a,b,rfl,q⟩
theorem ziQ(a:Int):0<=if a<0 then -a else a:=by split<;>omega
theorem zgO{a b:Int}{n:Nat}(h:b≠0)(hs:sz b<=n):sz (My.gc a b)<=n:=by
 refine yb (zeU ?_) hs
 have h1:=My.gc_pos_right (a:=a) h
 obtain⟨c,hc⟩:=My.gc_dvd_right a b
 have hc0:c≠0:=by rintro rfl;rw[Int.mul_zero]at hc;exact h hc
 have e:b.natAbs=(My.gc a b).natAbs*c.natAbs:=by rw[<- Int.natAbs_mul,<- hc]
 rw[e]
 exact Nat.le_mul_of_pos_right _ (by omega)
noncomputable def cell (ns:List Int) (k:Int):Int:=ns.getD k.toNat 0
noncomputable def IsQ (H:Hp) (a:Addr) (q:Rat):Prop:=H a=some (.tup [.int q.num,.int (q.den:Int)])
theorem IsQ.sq{K:Fg}{H:Hp}{a:Addr}{q:Rat}(h:IsQ H a q):SqT K H a [.int q.num,.int (q.den:Int)]:=SqT.of h
theorem IsQ.len{K:Fg}{H:Hp}{a:Addr}{q:Rat}{Q:VK}(h:IsQ H a q)(k:Q (.int 2) H):zac K [.ref a] H Q:=zmJ h.sq k
theorem IsQ.isT{K:Fg}{H:Hp}{a:Addr}{q:Rat}{Q:VK}(h:IsQ H a q)(k:Q (.bl true) H):zdm K [.ref a,.ty "tuple"] H Q:=zi1 h k
theorem IsQ.same{H H':Hp}{a:Addr}{q:Rat}(h:IsQ H a q)(e:Same H H'):IsQ H' a q:=e _ _ h
theorem zhk(q:Rat):0<(q.den:Int):=My.rat_den_pos q
noncomputable def NewQ (H:Hp) (Q:VK) (q:Rat):Prop:=∀p H',Same H H'->IsQ H' p q->Q (.ref p) H'
theorem NewQ.mk{H:Hp}{Q:VK}{q:Rat}{x y:Int}(k:NewQ H Q q)(e:x=q.num/\y=(q.den:Int)):zc9 Q [.int x,.int y] H:=by
 refine⟨by show 2<=sizeLine;decide,fun p hp=>k p _ (Same.new hp _) ?_⟩
 rw[e.1,e.2];exact zH
noncomputable def SzQ (q:Rat) (n m:Nat):Prop:=sz q.num<=n/\sz (q.den:Int)<=m
theorem SzQ.mono{q:Rat}{n m n' m':Nat}(h:SzQ q n m)(h1:n<=n')(h2:m<=m'):SzQ q n' m':=⟨yb h.1 h1,yb h.2 h2⟩
theorem zlJ{t b:Int}{n m:Nat}(hb:0<b)(h1:sz t<=n)(h2:sz b<=m):SzQ (Rat.divInt t b) n m:=by
 have e:=My.part_pos (t:=t) hb
 unfold SzQ
 rw[<- e.1,<- e.2]
 exact⟨yb (ziP _ _) h1,yb (ziP _ _) h2⟩
noncomputable def zfe (n:Nat):Sp:=fun vs H Q _=>∃(a b:Addr) (q r:Rat),vs=[.ref a,.ref b]/\IsQ H a q/\IsQ H b r/\SzQ q n n/\SzQ r n n/\Q (.bl (decide (q<r))) H
def zje:=fun {n:Nat} {a b:Addr} {q r:Rat} {H:Hp} {Q:VK} {E:XK} h1 h2 s1 s2 k=>@id (zfe n [.ref a,.ref b] H Q E) ⟨a,b,q,r,rfl,h1,h2,s1,s2,k⟩
section
variable {σ:St}{H:Hp}{Q:VK}{D:Ends}{ta tb tc te to:TE}{t u:TS}{K:Fg}
noncomputable def zhE (J:It) (g:TG) (tb:TS):TS:=fun D σ H=>∃W:Nat->Nat->St->Hp->Prop,(∃m,W 0 m σ H)/\∀i m σ H,W i m σ H ->
 (J.stop i H/\D.nx σ H)\/(J.go i H/\∃N:St->Hp->Prop,(∀σ' H',N σ' H'->∃m',m'<m/\W (i+1) m' σ' H')/\∀x H',J.yld i H x H'->g x σ H' fun σ2 H2=>tb { D with nx:=N,ct:=N,bk:=D.nx } σ2 H2)
theorem zn3{wi:TI}{g:TG}{tb:TS}(q:wi σ H fun J H1=>zhE J g tb D σ H1):zmq wi g tb D σ H:=q
noncomputable def zh1 (R:It->Hp->Prop) (vs:List V) (H:Hp):Prop:=∃j:Int,vs=[.int j]/\-(2 ^ 62)<=j/\j<2 ^ 62/\R (Itr 0 j.toNat) H
noncomputable def zj7 (K:Fg) (R:It->Hp->Prop) (x:V) (H:Hp):Prop:=∃a,x=.ref a/\(∃xs,SqL K H a xs)/\R (Itl K a) H
theorem znn{tr:TA}{R:It->Hp->Prop}(q:tr σ H (zh1 R)):zkP tr σ H R:=q
theorem zn1{R:It->Hp->Prop}(q:te σ H (zj7 K R)):zaJ K te σ H R:=q
theorem zlU{R:It->Hp->Prop}{j:Int}(h1:-4611686018427387904<=j)(h2:j<4611686018427387904)(q:R (Itr 0 j.toNat) H):zh1 R [.int j] H:=⟨j,rfl,h1,h2,q⟩
theorem znJ{R:It->Hp->Prop}{a:Addr}{xs:List V}(h:SqL K H a xs)(q:R (Itl K a) H):zj7 K R (.ref a) H:=⟨a,rfl,⟨xs,h⟩,q⟩
theorem zhj{i:Nat}{v:V}{R:St->Hp->Prop}(q:R (σ.set i (some v)) H):zco i v σ H R:=q
theorem zcw{lo:Int}{n:Nat}{g:TG}{tb:TS}(Pv:Nat->St->Hp->Prop)(h0:Pv 0 σ H)
  (hs:∀i σ H,i<n->Pv i σ H->g (.int (lo+i)) σ H fun σ2 H2=>tb { D with nx:=Pv (i+1),ct:=Pv (i+1),bk:=D.nx } σ2 H2) (hd:∀σ H,Pv n σ H->D.nx σ H):zhE (Itr lo n) g tb D σ H:=zif Pv h0 hs hd
theorem zc5{a:Addr}{xs:List V}{g:TG}{tb:TS}(Pv:Nat->St->Hp->Prop)(h0:Pv 0 σ H)(hl:∀i σ H,i<=xs.length->Pv i σ H->SqL K H a xs)
  (hs:∀i x σ H,xs[i]?=some x->Pv i σ H->g x σ H fun σ2 H2=>tb { D with nx:=Pv (i+1),ct:=Pv (i+1),bk:=D.nx } σ2 H2) (hd:∀σ H,Pv xs.length σ H->D.nx σ H):zhE (Itl K a) g tb D σ H:=zjx Pv h0 hl hs hd
theorem zom{T:String}{r:V->List V->Hp->VK->Prop}{tr:TA}(q:to σ H fun x H1=>tyV K T x H1/\tr σ H1 fun xs H2=>r x xs H2 Q):tBM K T r to tr σ H Q:=q
theorem znK{l:Addr}{xs:List V}{A:Prop}(h:H l=some (.lst xs))(q:A):tyV K "list" (.ref l) H/\A:=⟨.inl ⟨rfl,xs,SqL.of h⟩,q⟩
theorem zjL{l:Addr}{xs:List V}{y:V}(h:H l=some (.lst xs))(hl:xs.length<sizeLine)(q:Q .non (upd H l (.lst (xs++[y])))):za2 (.ref l) [y] H Q:=⟨l,xs,y,rfl,rfl,h,hl,q⟩
theorem znt{l:Addr}{xs:List V}{k:Int}{j:Nat}{v:V}{R:Hp->Prop}(h:H l=some (.lst xs))(e:ixN xs.length k=some j)(q:R (upd H l (.lst (xs.set j v)))):zeK (.ref l) (.int k) v H R:=⟨l,xs,k,j,rfl,rfl,h,e,q⟩
theorem zkA{a:Addr}{xs:List V}(h:SqL K H a xs)(q:∀l,H l=none->Q (.ref l) (upd H l (.lst xs))):zbt K [.ref a] H Q:=⟨a,xs,rfl,.inl h,q⟩
theorem zew{a:Addr}{xs:List V}{i:Int}{v:V}(h:H a=some (.lst xs))(e:atI xs i=some v)(q:Q v H):rIx K (.ref a) (.int i) H Q:=zhp (.of h) e q
theorem zoq{r:V->Option Int->Option Int->Hp->VK->Prop}{tl th:TO}(q:te σ H fun x H1=>tl σ H1 fun l H2=>th σ H2 fun u H3=>r x l u H3 Q):tSl r te tl th σ H Q:=q
noncomputable def zk1 (R:Option Int->Hp->Prop) (x:V) (H:Hp):Prop:=∃i,x=.int i/\R (some i) H
theorem zmM{R:Option Int->Hp->Prop}(q:te σ H (zk1 R)):zkZ te σ H R:=q
theorem zlF{R:Option Int->Hp->Prop}{i:Int}(q:R (some i) H):zk1 R (.int i) H:=⟨i,rfl,q⟩
theorem znQ{a:Addr}{xs:List V}{lo hi:Option Int}(h:SqL K H a xs)(q:∀p,H p=none->Q (.ref p) (upd H p (.lst (zbn xs lo hi)))):zcg K (.ref a) lo hi H Q:=⟨a,xs,rfl,h,q⟩
end
theorem Same.fresh{H H':Hp}{l:Addr}(g:Same H H')(h:H' l=none):H l=none:=by
 cases e:H l with
 | none=>rfl
 | some o=>rw[g l o e]at h;cases h
theorem zgl{n:Nat}(h:n<=100000):n<sizeLine:=yC h (by decide)
theorem za7{n:Nat}(h:n<=100000):n<=sizeLine:=y9 (zgl h)
noncomputable def But (l:Addr) (H H':Hp):Prop:=∀b,b≠l->H' b=H b
theorem But.upd{H:Hp}{l:Addr}{o:HO}:But l H (Internal.upd H l o):=fun _ h=>zG h
theorem But.at{l:Addr}{H H':Hp}(g:But l H H'){a:Addr}{o:HO}(h:H a=some o)(n:a≠l):H' a=some o:=by rw[g a n];exact h
theorem But.same{l:Addr}{H0 H H':Hp}(g:But l H H')(e:Same H0 H)(h:H0 l=none):Same H0 H':=fun b o q=>by rw[g b (zC q h)];exact e b o q
noncomputable def LBut (l:Addr) (H H':Hp):Prop:=But l H H'/\∃xs,H l=some (.lst xs)
theorem LBut.tup{l:Addr}{H H':Hp}(g:LBut l H H'){a:Addr}{xs:List V}(h:H a=some (.tup xs)):H' a=some (.tup xs):=by
 obtain⟨ys,e⟩:=g.2
 exact g.1.at h (zaF h e (by intro z;cases z))
theorem LBut.lst{l:Addr}{H H':Hp}(g:LBut l H H'){a:Addr}{o:HO}(h:H a=some o)(n:a≠l):H' a=some o:=g.1.at h n
theorem LBut.same{l:Addr}{H0 H H':Hp}(g:LBut l H H')(e:Same H0 H)(h:H0 l=none):Same H0 H':=g.1.same e h
theorem Same.at{H H':Hp}(e:Same H H'){a:Addr}{o:HO}(h:H a=some o):H' a=some o:=e a o h
theorem Same.isQ{H H':Hp}(e:Same H H'){a:Addr}{q:Rat}(h:IsQ H a q):IsQ H' a q:=h.same e
theorem SqL.keep{K:Fg}{H H':Hp}{a:Addr}{xs:List V}(h:SqL K H a xs)(e:Same H H'):SqL K H' a xs:=e.seq h
theorem Same.after{H H1 H2:Hp}(b:Same H1 H2)(a:Same H H1):Same H H2:=a.trans b
theorem Same.none{H H':Hp}{l:Addr}(h:H' l=none)(g:Same H H'):H l=none:=g.fresh h
theorem zmK{H:Hp}{a b:Addr}{o:HO}(h':H b=none)(h:H a=some o):a≠b:=zC h h'
theorem zbK{H:Hp}{a b:Addr}{o:HO}(h':H b=none)(h:H a=some o):b≠a:=(zC h h').symm
section
variable {σ:St}{H:Hp}{Q:VK}{D:Ends}{t u:TS}{K:Fg}
theorem zad{xs:List V}(hl:xs.length<=100000)(q:∀p H',H p=none->Same H H'->H' p=some (.tup xs)->Q (.ref p) H'):zc9 Q xs H:=⟨za7 hl,fun p hp=>q p _ hp (Same.new hp _) zH⟩
theorem zm3{xs:List V}(hl:xs.length<=100000)(q:∀p H',H p=none->Same H H'->H' p=some (.lst xs)->Q (.ref p) H'):zkc Q xs H:=⟨za7 hl,fun p hp=>q p _ hp (Same.new hp _) zH⟩
theorem zf9{q:Rat}{x y:Int}(e:x=q.num/\y=(q.den:Int))(k:NewQ H Q q):zc9 Q [.int x,.int y] H:=NewQ.mk k e
theorem zbE{l:Addr}{xs:List V}{y:V}(h:H l=some (.lst xs))(hl:xs.length<=100000)(q:∀H',LBut l H H'->H' l=some (.lst (xs++[y]))->Q .non H'):za2 (.ref l) [y] H Q:=
 zjL h (zgl hl) (q _ ⟨But.upd,xs,h⟩ zH)
theorem zaN{l:Addr}{xs:List V}{k:Int}{j:Nat}{v:V}{R:Hp->Prop}(h:H l=some (.lst xs))(e:ixN xs.length k=some j)(q:∀H',LBut l H H'->H' l=some (.lst (xs.set j v))->R H'):zeK (.ref l) (.int k) v H R:=
 znt h e (q _ ⟨But.upd,xs,h⟩ zH)
theorem ziO{a:Addr}{xs:List V}(h:SqL K H a xs)(q:∀p H',H p=none->Same H H'->H' p=some (.lst xs)->Q (.ref p) H'):zbt K [.ref a] H Q:=zkA h fun p hp=>q p _ hp (Same.new hp _) zH
theorem znf{a:Addr}{xs:List V}{lo hi:Option Int}(h:SqL K H a xs)(q:∀p H',H p=none->Same H H'->H' p=some (.lst (zbn xs lo hi))->Q (.ref p) H'):zcg K (.ref a) lo hi H Q:=znQ h fun p hp=>q p _ hp (Same.new hp _) zH
theorem ziW(i:Nat)(P:V->Hp->Prop)(q:t { D with nx:=fun σ' H'=>∃v,σ'=σ.set i (some v)/\P v H' } σ H)(r:∀v H',P v H'->u D (σ.set i (some v)) H'):zky t u D σ H:=
 ⟨_,q,fun σ' H' ⟨v,e,p⟩=>by subst e;exact r v H' p⟩
end
theorem zik{n:Nat}{k:Int}(h0:0<=k)(h:k<n):ixN n k=some k.toNat:=by unfold ixN;rw[if_pos h0,if_pos h]
theorem zaz{α:Type}{xs:List α}{k:Int}{v:α}(h0:0<=k)(h:xs[k.toNat]?=some v):atI xs k=some v:=by
 have e:k=(k.toNat:Int):=by omega
 rw[e];exact zbL h
section
variable {X:Cx}{pins:List (Addr × Obj)}{σ:St}{H:Hp}{s:Shared}{h':Heap}
theorem Inv.turnedL{t':Nat}{fp:List Addr}(I:Inv X pins σ H s)(k:∀b o,b∉fp->s.heap.get? b=some o->h'.get? b=some o)(f:∀b∈fp,zbD X pins H b):Inv X pins σ H { s with heap:=h',toks:=t' }:=by
 have nit:∀b u,H b=some u->b∉fp:=fun b u e z=>by rw[(f b z).1]at e;cases e
 refine I.step (g':=s.gens) (d':=s.drawn) (ch:=fp) (fun b hb=>⟨(f b hb).2.2.2.1,(f b hb).2.1,(f b hb).2.2.2.2.1,(f b hb).2.2.2.2.2⟩) (fun b o _ _ hc e _=>k b o hc e) (fun b o _ _ hc e _=>⟨o.slots,k b o hc e⟩) (fun _ _ _ _ n=>n)
  (fun b o hc e=>⟨o,k b o hc e⟩) (fun _ _ e=>e) (fun _ _ _ e=>e) (fun b ps e=>⟨#[],by rw[e];simp⟩) (fun m hm=>?_) (fun b u e=>?_) I.bare
 ·obtain⟨o,es,ep,ho,r⟩:=hm
  exact⟨o,es,ep,k _ o (fun z=>(f _ z).2.1 rfl) ho,r⟩
 ·refine(I.hok b u e).stay (fun c v hc q=>k c v ?_ q) (fun _ q=>q) fun _ _ q=>q
  rcases hc with z | z
  ·rw[z];exact nit b u e
  ·exact nit c _ z
theorem Inv.turnedNew{t':Nat}{fp:List Addr}{p:Addr}{o:HO}(I:Inv X pins σ H s)(k:∀b o,b∉fp->s.heap.get? b=some o->h'.get? b=some o)(f:∀b∈fp,zbD X pins H b)(hp:s.heap.objs.size<=p)(new:ObjOk X.prog X.w (upd H p o) h' p o) :
  Inv X pins σ (upd H p o) { s with heap:=h',toks:=t' }:=by
 have nit:∀b u,H b=some u->b∉fp:=fun b u e z=>by rw[(f b z).1]at e;cases e
 have hn:H p=none:=I.hok.fresh hp
 refine I.step (g':=s.gens) (d':=s.drawn) (ch:=fp) (fun b hb=>⟨(f b hb).2.2.2.1,(f b hb).2.1,(f b hb).2.2.2.2.1,(f b hb).2.2.2.2.2⟩) (fun b o _ _ hc e _=>k b o hc e) (fun b o _ _ hc e _=>⟨o.slots,k b o hc e⟩) (fun b u _ e n=>?_)
  (fun b o hc e=>⟨o,k b o hc e⟩) (fun b xs e=>by rw[zG (zC e hn)];exact e) (fun b u v e=>by rw[zG (zC e hn)];exact e) (fun b ps e=>⟨#[],by rw[zG (zC e hn),e];simp⟩) (fun m hm=>?_) (fun b u e=>?_) I.bare
 ·rw[zG (ym (yo (Heap.lt_size e) hp))];exact n
 ·obtain⟨o,es,ep,ho,r⟩:=hm
  exact⟨o,es,ep,k _ o (fun z=>(f _ z).2.1 rfl) ho,r⟩
 ·by_cases hb:b=p
  ·subst hb;rw[zH]at e;cases e;exact new
  ·rw[zG hb]at e
   refine(I.hok b u e).stay (fun c v hc q=>k c v ?_ q) (fun c q=>by rw[zG (zC q hn)];exact q) fun c xs q=>by rw[zG (zC q hn)];exact q
   rcases hc with z | z
   ·rw[z];exact nit b u e
   ·exact nit c _ z
end
theorem zaV{h:Heap}{a b:Addr}{o o':Obj}{m n:String}(e:h.get? a=some o)(c:o.cls=.type m)(e':h.get? b=some o')(c':o'.cls=.type n)(hc:(m == n)=false):a≠b:=by
 rintro rfl
 rw[e]at e'
 cases e'
 rw[c]at c'
 cases c'
 rw[beq_self_eq_true]at hc
 cases hc
theorem tup2{P:Program}{w:World}{H:Hp}{h:Heap}{p:Addr}{x y:V}{u v:Value}(e:h.get? p=some { cls:=.type "tuple",data:=.seq #[u,v] })(r1:RelV x u)(r2:RelV y v):ObjOk P w H h p (.tup [x,y]):=
 ⟨za7 (by simp),[u,v],.cons r1 (.cons r2 .nil),_,e,rfl,_,rfl⟩
noncomputable def Itn (K:Fg) (a:Addr):It:=
 ⟨fun i H=>∃xs x,SqL K H a xs/\xs[i]?=some x,fun i H v H'=>∃p x,H p=none/\v=.ref p/\(∀xs,SqL K H a xs->xs[i]?=some x)/\H'=upd H p (.tup [.int i,x]),fun i H=>∃xs,SqL K H a xs/\xs.length<=i⟩
theorem ziz{P:Program}{w:World}{K:Fg}{es:List Expr}{kx:Nat}{tp:Pos}(a e it:Addr)(hne:e≠it):Turn P w K (.Tuple es kx tp) (Itn K a) [e,it] e (fun i h=>(∃old,IsEnum h e it i old)/\h.IsListIter it a i) where
 mem:=by simp
 obj:=fun i h st b hb=>by
  obtain⟨⟨old,h1⟩,o,h2,c,d⟩:=st
  rcases ye.mp hb with z | z
  ·subst z;exact⟨_,h1,fun v z=>by cases z⟩
  ·have e:b=it:=by simpa using z
   subst e
   exact⟨o,h2,fun v z=>by rw[d]at z;cases z⟩
 keep:=fun i h h' st k=>by
  obtain⟨⟨old,h1⟩,h2⟩:=st
  exact⟨⟨old,k e (by simp) _ h1⟩,h2.at fun o q=>k it (by simp) o q⟩
 item:=by
  intro X hP hw hK hc i pins s σ H E I hf st hg
  subst hP hw hK
  obtain⟨⟨old,he⟩,hit⟩:=st
  obtain⟨xs,x,hq,hx⟩:=hg
  obtain⟨its,rv,p,hz⟩:=I.list hq
  obtain⟨u,hu,ru⟩:=rv.get hx
  refine wpAny_pyNext_enum_item he hit p.isList (x:=u) (by simpa using hu) hne fun h1 eo it1 tp1 sz1 k1=>?_
  refine⟨_,rfl,wpAny_letOwnedTupleGo_enum eo fun h2 e2 sb2=>?_⟩
  have hes:e≠s.heap.objs.size:=ym (Heap.lt_size he)
  have sb2':Heap.SameBut e h1 h2:=sb2
  have t2:h2.get? s.heap.objs.size=some { cls:=.type "tuple",data:=.seq #[.int i s.toks,u] }:=(sb2'.2 _ (yaj hes)).trans tp1
  have k2:∀b o,b∉[e,it]->s.heap.get? b=some o->h2.get? b=some o:=fun b o hb q=>by
   have n1:b≠e:=fun z=>hb (by simp[z])
   have n2:b≠it:=fun z=>hb (by simp[z])
   exact(sb2'.2 b n1).trans (k1 b o n1 n2 q)
  have I2:Inv X pins σ (upd H s.heap.objs.size (.tup [.int i,x])) { s with heap:=h2,toks:=s.toks+1 }:=I.turnedNew k2 hf (yf _) (tup2 t2 ⟨_,rfl⟩ ru)
  have hn:H s.heap.objs.size=none:=I.hok.fresh (yf _)
  refine⟨.ref s.heap.objs.size,_,I2,rfl,⟨_,x,hn,rfl,fun ys hy=>by rw[I.list_inj hy hq];exact hx,rfl⟩,⟨⟨_,e2⟩,it1.at fun o q=>(sb2'.2 it (yaj hne)).trans q⟩,fun b hb=>?_⟩
  have hbs:b≠s.heap.objs.size:=by
   rcases ye.mp hb with z | z
   ·rw[z];exact hes
   ·have e:b=it:=by simpa using z
    subst e
    obtain⟨o,q,_⟩:=hit
    exact ym (Heap.lt_size q)
  rw[zG hbs]
  exact(hf b hb).1
 done:=by
  intro X hP hw hK hc i pins s σ H E I hf st hg
  subst hP hw hK
  obtain⟨⟨old,he⟩,hit⟩:=st
  obtain⟨xs,hq,hx⟩:=hg
  obtain⟨its,rv,p,hz⟩:=I.list hq
  have hl:=rv.length
  refine wpAny_pyNext_enum_end (I.ok.hd hc) he hit p.isList (by simp;omega) fun h1 eb=>⟨rfl,I.turnedL (t':=s.toks) (fp:=[e,it]) (fun b o hb q=>eb b o (fun z=>hb (by simp[z])) q) hf⟩
 self:=fun _ _ _ _ _ st h=>by
  obtain⟨⟨old,he⟩,_⟩:=st
  exact wpAny_pyIter_enum he h
noncomputable def Itz (K:Fg) (a b:Addr):It:=
 ⟨fun i H=>∃xs ys x y,SqL K H a xs/\SqL K H b ys/\xs[i]?=some x/\ys[i]?=some y,fun i H v H'=>∃p x y,H p=none/\v=.ref p/\(∀xs,SqL K H a xs->xs[i]?=some x)/\(∀ys,SqL K H b ys->ys[i]?=some y)/\H'=upd H p (.tup [x,y]),
  fun i H=>∃xs ys,SqL K H a xs/\SqL K H b ys/\(xs.length<=i\/ys.length<=i)⟩
theorem zgm{h:Heap}{z TI TO i1 i2 a b:Addr}{f0 x1 y1 x2 y2:Value}{k1 k2:Nat}{xs ys:Array Value}(hz:IsZip h z TI TO f0)(hTI:IsPair h TI x1 y1)(hTO:IsPair h TO x2 y2)(h1:h.IsListIter i1 a k1)(h2:h.IsListIter i2 b k2)
  (l1:h.IsList a xs) (l2:h.IsList b ys) (nT:TI≠TO) (ni:i1≠i2):ZipApart z TI TO i1 i2 a b:=by
 obtain⟨o1,e1,c1,_⟩:=h1
 obtain⟨o2,e2,c2,_⟩:=h2
 obtain⟨m1,g1,d1,_⟩:=l1
 obtain⟨m2,g2,d2,_⟩:=l2
 exact⟨zaV hTI rfl hz rfl (by decide),zaV hTO rfl hz rfl (by decide),zaV e1 c1 hz rfl (by decide),zaV e2 c2 hz rfl (by decide),nT,zaV hTI rfl e1 c1 (by decide),zaV hTI rfl e2 c2 (by decide),zaV hTO rfl e1 c1 (by decide),zaV hTO rfl e2 c2 (by decide),ni,zaV g1 d1 hz rfl (by decide),zaV g1 d1 hTO rfl (by decide),zaV g1 d1 e1 c1 (by decide),zaV g1 d1 e2 c2 (by decide),zaV g2 d2 hz rfl (by decide),zaV g2 d2 hTO rfl (by decide),zaV g2 d2 e1 c1 (by decide),zaV g2 d2 e2 c2 (by decide)⟩
theorem zkp{P:Program}{w:World}{K:Fg}{es:List Expr}{kx:Nat}{tp:Pos}(a b z TI TO i1 i2:Addr)(nT:TI≠TO)(ni:i1≠i2):Turn P w K (.Tuple es kx tp) (Itz K a b) [z,TI,TO,i1,i2] z
  (fun i h=>IsZip h z TI TO .none/\IsPair h TI (.ref i1) (.ref i2)/\(∃x y,IsPair h TO x y)/\h.IsListIter i1 a i/\h.IsListIter i2 b i) where
 mem:=by simp
 obj:=fun i h st c hb=>by
  obtain⟨hz,hTI,⟨x,y,hTO⟩,⟨o1,e1,c1,d1⟩,⟨o2,e2,c2,d2⟩⟩:=st
  simp only[ye,yy,or_false]at hb
  rcases hb with rfl | rfl | rfl | rfl | rfl
  ·exact⟨_,hz,fun v q=>by cases q⟩
  ·exact⟨_,hTI,fun v q=>by cases q⟩
  ·exact⟨_,hTO,fun v q=>by cases q⟩
  ·exact⟨_,e1,fun v q=>by rw[d1]at q;cases q⟩
  ·exact⟨_,e2,fun v q=>by rw[d2]at q;cases q⟩
 keep:=fun i h h' st k=>by
  obtain⟨hz,hTI,⟨x,y,hTO⟩,h1,h2⟩:=st
  exact⟨k z (by simp) _ hz,k TI (by simp) _ hTI,⟨x,y,k TO (by simp) _ hTO⟩,h1.at fun o q=>k i1 (by simp) o q,h2.at fun o q=>k i2 (by simp) o q⟩
 item:=by
  intro X hP hw hK hc i pins s σ H E I hf st hg
  subst hP hw hK
  obtain⟨hz,hTI,⟨x0,y0,hTO⟩,h1,h2⟩:=st
  obtain⟨xs,ys,x,y,hq,hq',hx,hy⟩:=hg
  obtain⟨its,rv,p,hsz⟩:=I.list hq
  obtain⟨jts,rv',p',hsz'⟩:=I.list hq'
  obtain⟨u,hu,ru⟩:=rv.get hx
  obtain⟨u',hu',ru'⟩:=rv'.get hy
  have A:=zgm hz hTI hTO h1 h2 p.isList p'.isList nT ni
  refine wpAny_pyNext_zip_item A hz hTI hTO h1 h2 p.isList p'.isList (x:=u) (y:=u') (by simpa using hu) (by simpa using hu') fun g1 z1 to1 j1 j2 t1 sz1 k1=>?_
  refine⟨_,rfl,wpAny_letOwnedTupleGo_zip z1 fun g2 z2 sb2=>?_⟩
  have sb2':Heap.SameBut z g1 g2:=sb2
  have hzs:z≠s.heap.objs.size:=ym (Heap.lt_size hz)
  have t2:g2.get? s.heap.objs.size=some { cls:=.type "tuple",data:=.seq #[u,u'] }:=(sb2'.2 _ (yaj hzs)).trans t1
  have k2:∀c o,c∉[z,TI,TO,i1,i2]->s.heap.get? c=some o->g2.get? c=some o:=fun c o hb q=>by
   have n1:c≠z:=fun z=>hb (by simp[z])
   exact(sb2'.2 c n1).trans (k1 c o n1 (fun z=>hb (by simp[z])) (fun z=>hb (by simp[z])) (fun z=>hb (by simp[z])) q)
  have I2:Inv X pins σ (upd H s.heap.objs.size (.tup [x,y])) { s with heap:=g2,toks:=s.toks }:=I.turnedNew k2 hf (yf _) (tup2 t2 ru ru')
  have hn:H s.heap.objs.size=none:=I.hok.fresh (yf _)
  refine⟨.ref s.heap.objs.size,_,I2,rfl,⟨_,x,y,hn,rfl,fun ys hy'=>by rw[I.list_inj hy' hq];exact hx,fun ys hy'=>by rw[I.list_inj hy' hq'];exact hy,rfl⟩,
   ⟨z2,(sb2'.2 TI A.TIz).trans (k1 TI _ A.TIz A.TITO A.TIi1 A.TIi2 hTI),⟨_,_,(sb2'.2 TO A.TOz).trans to1⟩,j1.at fun o q=>(sb2'.2 i1 A.i1z).trans q,j2.at fun o q=>(sb2'.2 i2 A.i2z).trans q⟩,fun c hb=>?_⟩
  have hbs:c≠s.heap.objs.size:=by
   simp only[ye,yy,or_false]at hb
   obtain⟨o1,e1,_⟩:=h1
   obtain⟨o2,e2,_⟩:=h2
   rcases hb with rfl | rfl | rfl | rfl | rfl
   ·exact hzs
   ·exact ym (Heap.lt_size hTI)
   ·exact ym (Heap.lt_size hTO)
   ·exact ym (Heap.lt_size e1)
   ·exact ym (Heap.lt_size e2)
  rw[zG hbs]
  exact(hf c hb).1
 done:=by
  intro X hP hw hK hc i pins s σ H E I hf st hg
  subst hP hw hK
  obtain⟨hz,hTI,⟨x0,y0,hTO⟩,h1,h2⟩:=st
  obtain⟨xs,ys,hq,hq',hx⟩:=hg
  obtain⟨its,rv,p,hsz⟩:=I.list hq
  obtain⟨jts,rv',p',hsz'⟩:=I.list hq'
  have hl:=rv.length
  have hl':=rv'.length
  have A:=zgm hz hTI hTO h1 h2 p.isList p'.isList nT ni
  refine wpAny_pyNext_zip_end (I.ok.hd hc) A hz hTI hTO h1 h2 p.isList p'.isList ?_ fun g1 k1=>⟨rfl,I.turnedL (t':=s.toks) (fp:=[z,TI,TO,i1,i2]) (fun c o hb q=>k1 c o (fun z=>hb (by simp[z])) (fun z=>hb (by simp[z])) (fun z=>hb (by simp[z])) (fun z=>hb (by simp[z])) q) hf⟩
  rcases hx with q | q
  ·exact .inl (by simp;omega)
  ·exact .inr (by simp;omega)
 self:=fun _ _ _ _ _ st h=>wpAny_pyIter_zip st.1 h
section
variable {X:Cx}{es:List Expr}{kx:Nat}{tp:Pos}
noncomputable def zhL (K:Fg) (R:It->Hp->Prop) (vs:List V) (H:Hp):Prop:=∃a,vs=[.ref a]/\(∃xs,SqL K H a xs)/\R (Itn K a) H
noncomputable def zjP (K:Fg) (R:It->Hp->Prop) (vs:List V) (H:Hp):Prop:=∃a b,vs=[.ref a,.ref b]/\(∃xs,SqL K H a xs)/\(∃ys,SqL K H b ys)/\R (Itz K a b) H
abbrev zkR(K:Fg)(ta:TA):TI:=fun σ H R=>ta σ H (zhL K R)
abbrev znu(K:Fg)(ta:TA):TI:=fun σ H R=>ta σ H (zjP K R)
theorem zl2{a:Expr}{ta:TA}{p pos:Pos}(hg:Gl X "enumerate")(hm:X.mg "enumerate" = none)(ha:PA X [a] ta)(hs:autoParam (starEach [a] X.env=[(false,eval a X.env)]) Internal.aut2._auto_1):PI X (.Tuple es kx tp) (.Call (.Name "enumerate" p) [a] [] pos) (zkR X.K ta):=by
 intro pins s σ H R I h
 refine Call_ (zbT I hg hm boot_enumerate (y4 (thn (ha pos pins s σ H _ I h) fun us s1 ⟨vs,H1,I1,r1,q1⟩=>?_) hs rfl))
 obtain⟨l,e,⟨xs,hq⟩,q⟩:=q1
 subst e
 obtain⟨u,rfl,r⟩:=vals1 r1
 cases r
 obtain⟨its,rv,pl,hz⟩:=I1.list hq
 refine call_enumerate_list pl.isList fun h1 e1 i1 sz1 k1=>?_
 refine wpAny_pyIter_enum e1 ?_
 have I2:Inv X pins σ H1 { s1 with heap:=h1,toks:=s1.toks }:=I1.kept k1
 refine⟨s1.heap.objs.size+1,[s1.heap.objs.size+1,s1.heap.objs.size],_,_,H1,rfl,I2,ziz l _ _ (Nat.succ_ne_self _),⟨⟨_,e1⟩,i1⟩,fun b hb=>?_,q⟩
 have hb':s1.heap.objs.size<=b:=by
  simp only[ye,yy,or_false]at hb
  rcases hb with rfl | rfl<;>omega
 exact I1.fpOk hb' (I1.hok.fresh hb')
theorem zm9{a b:Expr}{ta:TA}{p pos:Pos}(hg:Gl X "zip")(hm:X.mg "zip" = none)(ha:PA X [a,b] ta)(hs:autoParam (starEach [a,b] X.env=[(false,eval a X.env),(false,eval b X.env)]) Internal.aut2._auto_1)(hs2:autoParam (starEach [b] X.env=[(false,eval b X.env)]) Internal.aut2._auto_1) :
  PI X (.Tuple es kx tp) (.Call (.Name "zip" p) [a,b] [] pos) (znu X.K ta):=by
 intro pins s σ H R I h
 refine Call_ (zbT I hg hm boot_zip (y4 (thn (ha pos pins s σ H _ I h) fun us s1 ⟨vs,H1,I1,r1,q1⟩=>?_) (by rw[hs,hs2]) (by rw[hs2];rfl)))
 obtain⟨l,m,e,⟨xs,hq⟩,⟨ys,hq'⟩,q⟩:=q1
 subst e
 obtain⟨u,u',rfl,r,r'⟩:=vals2 r1
 cases r
 cases r'
 obtain⟨its,rv,pl,hz⟩:=I1.list hq
 obtain⟨jts,rv',pl',hz'⟩:=I1.list hq'
 refine call_zip_2 pl.isList pl'.isList fun h1 z1 ti to i1 i2 sz1 k1=>?_
 refine wpAny_pyIter_zip z1 ?_
 have I2:Inv X pins σ H1 { s1 with heap:=h1,toks:=s1.toks }:=I1.kept k1
 refine⟨s1.heap.objs.size+4,[s1.heap.objs.size+4,s1.heap.objs.size+2,s1.heap.objs.size+3,s1.heap.objs.size,s1.heap.objs.size+1],_,_,H1,rfl,I2,zkp l m _ _ _ _ _ (ym (y3 _)) (ym (y3 _)),⟨z1,ti,⟨_,_,to⟩,i1,i2⟩,fun b hb=>?_,q⟩
 have hb':s1.heap.objs.size<=b:=by
  simp only[ye,yy,or_false]at hb
  rcases hb with rfl | rfl | rfl | rfl | rfl<;>omega
 exact I1.fpOk hb' (I1.hok.fresh hb')
end
section
variable {X:Cx}
theorem Inv.walk{pins:List (Addr × Obj)}{σ:St}{H:Hp}{s:Shared}{a:Addr}{xs:List V}(I:Inv X pins σ H s)(hq:SqL X.K H a xs):∃its:List Value,Vals xs its/\s.heap.IsList a its.toArray/\its.length=xs.length/\a<s.heap.objs.size:=by
 obtain⟨its,rv,pl,hz⟩:=I.list hq
 obtain⟨o,e,_⟩:=id pl.isList
 exact⟨its,rv,pl.isList,rv.length.symm,Heap.lt_size e⟩
noncomputable def zbo (ns:List Int):Int:=ns.foldl (·+·) 0
theorem zcj(ns:List Int)(n:Int):zbo (ns++[n])=zbo ns+n:=by unfold zbo;rw[List.foldl_append];rfl
theorem zdT(ns:List Int):∀j,j<=ns.length->preSum (fun i=>ns.getD i 0) j=zbo (ns.take j)
 | 0,_=>rfl
 | j+1,h=>by
  have hj:j<ns.length:=by omega
  rw[preSum,zdT ns j (by omega),List.take_succ_eq_append_getElem hj,zcj]
  simp[List.getD,hj]
noncomputable def zeh (K:Fg):List V->Hp->VK->Prop:=fun xs H Q=>∃a ns,xs=[.ref a]/\SqL K H a (List.map V.int ns)/\Q (.int (zbo ns)) H
theorem zdi{ns:List Int}{its:List Value}{i:Nat}{v:Value}(rv:Vals (ns.map V.int) its)(h:its.toArray[i]?=some v):∃t,v=.int (ns.getD i 0) t:=by
 have hl:=rv.length
 rw[ya]at hl
 have hi:i<ns.length:=by
  have:=(Array.getElem?_eq_some_iff.mp h).1
  simp at this;omega
 obtain⟨u,hu,r⟩:=rv.get (show(ns.map V.int)[i]?=some (.int (ns.getD i 0)) by simp[List.getD,hi])
 have:v=u:=by
  have h':its[i]?=some v:=by simpa using h
  rw[hu]at h';exact(yn h').symm
 obtain⟨t,rfl⟩:=r
 exact⟨t,this⟩
theorem zcr(hc:X.calm=true):CallR X (.builtin "sum") (zeh X.K):=by
 intro pins s σ H xs us Q I r h
 obtain⟨a,ns,rfl,hq,q⟩:=h
 obtain⟨u,rfl,r1⟩:=vals1 r
 cases r1
 obtain⟨its,rv,pl,hl,hlt⟩:=I.walk hq
 refine call_sum_walkAnyS (wpAny_pyIter_list pl ?_)
 have hne:a≠s.heap.objs.size:=ym hlt
 refine⟨_,_,_,_,_,_,_,fun i=>ns.getD i 0,rfl,(Walks.list (prog:=X.prog) (w:=X.w) (A:=X.A.in1) (I.ok.hd hc) s.heap.objs.size a hne its.toArray).toS,⟨⟨_,Heap.get?_push_size _ rfl,rfl,rfl⟩,pl.at fun o e=>Heap.get?_push_of_some _ e⟩,fun b hb=>?_,fun i v hv=>zdi rv hv,fun s' t' hm=>?_⟩
 ·rw[Heap.size_push]
  simp only[ye,yy,or_false]at hb
  rcases hb with rfl | rfl
  ·exact y3 _
  ·exact yaM hlt
 ·have hn:(its.toArray).size=ns.length:=by rw[ya]at hl;simpa using hl
  rw[hn,zdT ns _ (yf _),yaw]
  have hg:s'.gens=s.gens:=by have:=hm.gens;first | exact this | exact this.symm
  have hd:=hm.drawn
  have ho:=hm.os
  have I1:Inv X pins σ H { s with heap:=s'.heap,toks:=s'.toks }:=I.kept fun b o e=>hm.heap b o (fun z=>by
   simp only[ye,yy,or_false]at z
   subst z
   exact absurd (Heap.lt_size e) (yN _)) (Heap.get?_push_of_some _ e)
  have e:({ s with heap:=s'.heap,toks:=s'.toks }:Shared)=s':=by
   cases s';cases s
   simp only at hg hd ho
   subst hg hd ho;rfl
  rw[e]at I1
  exact⟨.int (zbo ns),H,I1,⟨t',rfl⟩,q⟩
end
theorem ObjOk.obj{P:Program}{w:World}{H:Hp}{h:Heap}{a:Addr}{o:HO}(x:ObjOk P w H h a o):∃u,h.get? a=some u:=by
 cases o with
 | lst xs=>exact⟨_,x.2.choose_spec.choose_spec.2⟩
 | tup xs=>obtain⟨_,_,_,ob,e,_⟩:=x;exact⟨ob,e⟩
 | dK kvs=>obtain⟨_,_,_,_,ob,_,_,e,_⟩:=x;exact⟨ob,e⟩
 | dT kvs=>obtain⟨_,_,_,_,ob,_,_,e,_⟩:=x;exact⟨ob,e⟩
 | set S n=>obtain⟨ob,_,_,_,e,_⟩:=x;exact⟨ob,e⟩
 | ins C dx fs=>exact⟨_,x.2.2.2.1⟩
 | own y=>exact x
 | xd fs=>obtain⟨_,⟨ob,_,_,e,_⟩,_⟩:=x;exact⟨ob,e⟩
 | rng lo hi=>obtain⟨_,_,_,e⟩:=x;exact⟨_,e⟩
 | frz ob u=>exact⟨ob,x.1⟩
 | tbl ps=>exact⟨_,show h.get? a=some _ from x⟩
 | met f y=>exact⟨_,show h.get? a=some _ from x⟩
 | ext φ=>exact x.2.1
noncomputable def DK {α:Type}:Sem α->Prop
 | .pure _=>True
 | .raise _=>True
 | .unsupported _=>True
 | .finish _=>True
 | .rule _ k=>DK (k ())
 | .at _ k=>DK (k ())
 | .load _ _ k=>∀o,DK (k o)
 | .update _ _ f k=>(∀o,(f o).dict=o.dict)/\DK (k ())
 | .alloc _ k=>∀a,DK (k a)
 | .loadIfAlive _ k=>∀o,DK (k o)
 | .point _ k=>DK (k ())
 | .fresh k=>∀t,DK (k t)
 | .ask k=>∀t,DK (k t)
 | .handled _ k=>∀t,DK (k t)
 | .stack k=>∀t,DK (k t)
 | .thread k=>∀t,DK (k t)
 | _=>False
theorem DK.bind{α β:Type}{m:Sem α}{f:α->Sem β}(hm:DK m)(hf:∀a,DK (f a)):DK (m >>= f):=by
 show DK (Sem.bind m f)
 induction m with
 | pure a=>exact hf a
 | raise e=>trivial
 | unsupported w=>trivial
 | finish e=>trivial
 | rule t k ih=>exact ih () hm
 | «at» p k ih=>exact ih () hm
 | load a p k ih=>exact fun o=>ih o (hm o)
 | update a p g k ih=>exact⟨hm.1,ih () hm.2⟩
 | alloc o k ih=>exact fun a=>ih a (hm a)
 | loadIfAlive a k ih=>exact fun a=>ih a (hm a)
 | point l k ih=>exact ih () hm
 | fresh k ih=>exact fun a=>ih a (hm a)
 | ask k ih=>exact fun a=>ih a (hm a)
 | handled o k ih=>exact fun a=>ih a (hm a)
 | stack k ih=>exact fun a=>ih a (hm a)
 | thread k ih=>exact fun a=>ih a (hm a)
 | _=>exact hm.elim
noncomputable def Bare (er:Addr) (s:Shared):Prop:=∃o,s.heap.objs[er]?=some o/\o.dict=none
theorem DK.wp{α:Type}{M:Model}{Γ:PySem.Ctx}{er:Addr}{t:Sem α}(h:DK t):∀{Q:α->Pos->Shared->Prop} {E:Value->Pos->Shared->Prop} {p:Pos} {s:Shared},Bare er s->Sem.wp M Γ t Q E p s ->
  Sem.wp M Γ t (fun a p s'=>Q a p s'/\Bare er s') (fun e p s'=>E e p s'/\Bare er s') p s:=by
 induction t with
 | pure a=>intro Q E p s b w;rw[Sem.wp]at *;exact⟨w,b⟩
 | raise e=>intro Q E p s b w;rw[Sem.wp]at *;exact⟨w,b⟩
 | unsupported _=>intro Q E p s b w;rw[Sem.wp]at *;exact w
 | finish _=>intro Q E p s b w;rw[Sem.wp]at *;exact w
 | rule t k ih=>intro Q E p s b w;rw[Sem.wp]at *;exact ih () h b w
 | «at» q k ih=>intro Q E p s b w;rw[Sem.wp]at *;exact ih () h b w
 | load a q k ih=>
  intro Q E p s b w;rw[Sem.wp]at *
  obtain⟨o,e,w⟩:=w
  exact⟨o,e,ih o (h o) b w⟩
 | update a q g k ih=>
  intro Q E p s b w;rw[Sem.wp]at *
  refine⟨w.1,ih () h.2 ?_ w.2⟩
  obtain⟨o,e,d⟩:=b
  by_cases c:a=er
  ·subst c
   exact⟨g o,by simp[Heap.update,Array.getElem?_modify,e],by rw[h.1];exact d⟩
  ·exact⟨o,by simp[Heap.update,Array.getElem?_modify,c,e],d⟩
 | alloc o k ih=>
  intro Q E p s b w;rw[Sem.wp]at *
  refine ih _ (h _) ?_ w
  obtain⟨o',e,d⟩:=b
  refine⟨o',?_,d⟩
  have hl:er<s.heap.objs.size:=(Array.getElem?_eq_some_iff.mp e).1
  show(s.heap.objs.push o)[er]?=some o'
  rw[Array.getElem?_push]
  rw[if_neg (ym hl)];exact e
 | loadIfAlive a k ih=>intro Q E p s b w;rw[Sem.wp]at *;exact ih _ (h _) b w
 | point l k ih=>intro Q E p s b w;rw[Sem.wp]at *;exact ih () h b w
 | fresh k ih=>intro Q E p s b w;rw[Sem.wp]at *;exact ih _ (h _) b w
 | ask k ih=>intro Q E p s b w;rw[Sem.wp]at *;exact ih _ (h _) b w
 | handled o k ih=>intro Q E p s b w;rw[Sem.wp]at *;exact ih _ (h _) b w
 | stack k ih=>intro Q E p s b w;rw[Sem.wp]at *;exact ih _ (h _) b w
 | thread k ih=>intro Q E p s b w;rw[Sem.wp]at *;exact ih _ (h _) b w
 | _=>exact h.elim
theorem DK.any{α:Type}{M:Model}{A:Around}{er:Addr}{t:Sem α}{Q:α->Shared->Prop}{E:Value->Shared->Prop}{s:Shared}(h:DK t)(b:Bare er s)(w:wpAny M A t Q E s):wpAny M A t (fun a s'=>Q a s'/\Bare er s') (fun e s'=>E e s'/\Bare er s') s:=
 fun Γ p hΓ=>h.wp b (w Γ p hΓ)
theorem Bare.get{er:Addr}{s:Shared}{o:Obj}(b:Bare er s)(e:s.heap.get? er=some o):o.dict=none:=by
 obtain⟨o',e',d⟩:=b
 obtain⟨e1,_⟩:=Heap.get?_some_iff.mp e
 rw[e']at e1;cases e1;exact d
theorem zeX(f:Array Value->Array Value)(o:Obj):(o.mapFields f).dict=o.dict:=by
 obtain⟨c,d,dt,sl⟩:=o;cases dt<;>rfl
theorem zff{a:Addr}:DK (load a):=fun _=>trivial
theorem zcM(v:Value)(i:Nat):DK (field v i):=by
 unfold field fieldsOf
 refine DK.bind ?_ fun x=>?_
 ·cases v<;>try trivial
  refine DK.bind zff fun o=>?_
  split<;>trivial
 ·split<;>trivial
theorem zcv(v:Value)(i:Nat)(x:Value):DK (setField v i x):=by
 unfold setField updateField
 cases v<;>try trivial
 refine DK.bind zff fun o=>?_
 split
 ·split
  ·exact⟨fun o=>zeX _ o,trivial⟩
  ·trivial
 ·trivial
theorem zcd(e:Value)(f:Option Addr):DK (setFlight e f):=by
 unfold setFlight
 refine DK.bind (zcM _ _) fun tb=>?_
 split
 ·exact zcv _ _ _
 ·trivial
theorem zlu(env:Env)(i:Bool)(l:List Env):DK (keptBack env i l):=by
 unfold keptBack
 cases l with
 | nil=>
  simp only
  split
  ·trivial
  ·refine DK.bind ?_ fun _=>trivial
   unfold underTheClaimsCaller
   exact fun _=>trivial
 | cons c r=>trivial
theorem ziI(env:Env)(l:List Env):DK (behindIsImport env l):=by
 unfold behindIsImport
 split
 ·trivial
 ·split
  ·trivial
  ·exact DK.bind (zcM _ _) fun _=>trivial
theorem zf8:∀l:List Env,DK (readyFrames l)
 | []=>trivial
 | env :: outer=>by
  unfold readyFrames
  split
  ·refine DK.bind zff fun o=>?_
   split
   ·trivial
   ·refine DK.bind (ziI _ _) fun _=>DK.bind (zlu _ _ _) fun _=>DK.bind ⟨fun _=>rfl,trivial⟩ fun _=>zf8 outer
  ·trivial
theorem zeT(l:List Env):DK (frameObject l):=by
 cases l with
 | nil=>trivial
 | cons env outer=>exact DK.bind (zf8 _) fun _=>trivial
theorem zhC(env:Env):DK (PySem.frameOf env):=by
 unfold PySem.frameOf frameEnvs
 refine DK.bind (DK.bind (fun _=>trivial) fun _=>trivial) fun _=>DK.bind (zeT _) fun o=>?_
 split<;>trivial
theorem zka(f:Addr)(b:Bool):DK (entryPlaceOf f b):=by
 unfold entryPlaceOf
 refine DK.bind (fun _=>trivial) fun acts=>?_
 split<;>trivial
theorem zg3(T:String)(d:Data):DK (newObjAsIs (.type T) d):=by
 unfold newObjAsIs
 exact fun _=>trivial
theorem zmc(T:String)(vs:Array Value):DK (newObj (.type T) (.fields vs)):=by
 unfold newObj
 simp only
 split
 ·exact DK.bind (m:=unsupported "record:memory") trivial fun _=>zg3 _ _
 ·exact zg3 _ _
theorem zj0(a b c d e:Value)(pl:List Value):DK (EntryCells.newEntry a b c d e pl):=zmc _ _
theorem zhi(e:Value)(env:Env):DK (noteFrame e env):=by
 unfold noteFrame
 have fin:∀(head:Value) (f:Addr),DK (do setField e 1 (<- EntryCells.newEntry head (<- frameOf env) .none (rawInt f) .none (<- entryPlaceOf f (head != .none)))):=fun head f=>
  DK.bind (zhC _) fun _=>DK.bind (zka _ _) fun _=>DK.bind (zj0 _ _ _ _ _ _) fun _=>zcv _ _ _
 split
 ·refine DK.bind (zcM _ _) fun head=>?_
  split
  ·refine DK.bind (zcM _ _) fun x=>?_
   split
   ·trivial
   ·exact DK.bind (zcv _ _ _) fun _=>fin _ _
  ·exact fin _ _
 ·trivial
theorem zeF(env:Env)(e:Value):DK (leaving env e):=DK.bind (zhi _ _) fun _=>zcd _ _
set_option genInjectivity false in
set_option genSizeOf false in
structure Fly(P:Program)(w:World)(outer:List Env)(H:Hp)(s:Shared)(H':Hp)(er C t:Addr)(B:Heap)(s':Shared):Prop where
 os:s'.os=s.os
 bare:AllBare s'.gens
 un:Un (frs outer) [] H H' s.heap s'.heap
 hok:HOk P w H' s'.heap
 fly:Heap.FlyingW B outer er (.ref C) (.ref t) s'.heap
 old:∀b o,s.heap.get? b=some o->H b=none->b∉frs outer->B.get? b=some o
 has:∀b o,s.heap.get? b=some o->b∉frs outer->∃u,B.get? b=some u
 trk:∀b o u,H' b=some o->s'.heap.get? b=some u->B.get? b=some u
 nod:Bare er s'
noncomputable def CXF (P:Program) (w:World):CXT:=fun outer H s E e s'=>∃er C t B H',e=.ref er/\Fly P w outer H s H' er C t B s'/\E (.ref C) none H'
theorem zt{P:Program}{w:World}:NoX (CXF P w):=fun _ _ _ _ _ ⟨_,_,_,_,_,_,_,h⟩=>h
section
variable {P:Program}{w:World}{outer:List Env}{H H':Hp}{s s':Shared}{er C t:Addr}{B h:Heap}
theorem Fly.noTrk(F:Fly P w outer H s H' er C t B s'):H' er=none:=by
 cases e:H' er with
 | none=>rfl
 | some o=>
  obtain⟨ob,q,_⟩:=F.fly.there
  have z:=F.trk er o ob e q
  rw[F.fly.2.1]at z;cases z
theorem Fly.unAt(F:Fly P w outer H s H' er C t B s')(fr:s.heap.FunFrames base outer)(st:B.StaysIn h)(up:s'.heap.UpToSlots h):Un (frs outer) [] H H' s.heap h where
 keep:=fun b o q n hb _=>st b o (F.old b o q n hb)
 slot:=fun b o q n hb _=>by
  obtain⟨sl,e1⟩:=F.un.slot b o q n hb (by simp)
  obtain⟨_,o',e',nf⟩:=fr.mem hb
  rw[q]at e';cases e'
  obtain⟨sl',e2⟩:=up b _ e1 nf
  exact⟨sl',e2⟩
 free:=F.un.free
 there:=fun b o q _=>by
  by_cases hb:b∈frs outer
  ·obtain⟨_,o',e',nf⟩:=fr.mem hb
   rw[q]at e';cases e'
   cases hn:H b with
   | none=>
    obtain⟨sl,e1⟩:=F.un.slot b o q hn hb (by simp)
    obtain⟨sl',e2⟩:=up b _ e1 nf
    exact⟨_,e2⟩
   | some x=>
    obtain⟨_,o1,e1,nf1⟩:=F.fly.2.2.1.mem hb
    obtain⟨sl',e2⟩:=up b _ e1 nf1
    exact⟨_,e2⟩
  ·obtain⟨u,e⟩:=F.has b o q hb
   exact⟨u,st b u e⟩
 tups:=F.un.tups
 frzs:=F.un.frzs
 tbls:=F.un.tbls
theorem Fly.hokAt(F:Fly P w outer H s H' er C t B s')(st:B.StaysIn h):HOk P w H' h:=fun a o e=>
 (F.hok a o e).stay (fun b u hb q=>st b u (by
  rcases hb with rfl | hb
  ·exact F.trk b o u e q
  ·exact F.trk b _ u hb q)) (fun _ q=>q) fun _ _ q=>q
noncomputable def zeJ (er C:Addr) (h:Heap):Prop:=∃oe:Obj,PySem.W.InstAt h er oe C none
noncomputable def zbk (er C:Addr):HO:=.ext (zeJ er C)
theorem zkG{l:List Env}{a0:Value}{B h:Heap}{s:Shared}{er C:Addr}(f:Heap.FlyingW B l er (.ref C) a0 h)(b:Bare er { s with heap:=h }):zeJ er C h:=by
 obtain⟨oe,vs,e,c,d,_⟩:=f.first
 have nd:oe.dict=none:=b.get e
 exact⟨oe,e,c,by unfold PySem.W.notCls;rw[d],by rw[nd];trivial⟩
theorem Fly.unEr(F:Fly P w outer H s H' er C t B s')(u:Un (frs outer) [] H H' s.heap h):Un (frs outer) [] H (upd H' er (zbk er C)) s.heap h:=by
 have ne:∀b o,s.heap.get? b=some o->b≠er:=fun b o q z=>by
  subst z
  by_cases hb:b∈frs outer
  ·obtain⟨_,o1,e1,nf1⟩:=F.fly.2.2.1.mem hb
   obtain⟨oe,vs,e2,_,d,_⟩:=F.fly.first
   rw[e1]at e2;cases e2
   exact nf1 vs d
  ·obtain⟨u,e⟩:=F.has b o q hb
   rw[F.fly.2.1]at e;cases e
 have nt:=F.noTrk
 exact⟨u.keep,u.slot,fun b o q n hx=>by rw[zG (ne b o q)];exact u.free b o q n hx,u.there,fun b xs q=>by
   rw[zG (zC (u.tups b xs q) nt)];exact u.tups b xs q,fun b o v q=>by
   rw[zG (zC (u.frzs b o v q) nt)];exact u.frzs b o v q,fun b ps q=>by
   obtain⟨m,e⟩:=u.tbls b ps q
   exact⟨m,by rw[zG (zC e nt)];exact e⟩⟩
theorem zm2(hk:HOk P w H' h)(nt:H' er=none)(he:zeJ er C h):HOk P w (upd H' er (zbk er C)) h:=fun a o e=>by
 by_cases ha:a=er
 ·subst ha
  rw[zH]at e;cases e
  obtain⟨oe,i⟩:=he
  refine⟨⟨oe,i⟩,⟨oe,i.at_⟩,fun h1 h2 ⟨o1,i1⟩ k=>⟨o1,k o1 i1.at_,i1.cls,i1.no,?_⟩⟩
  have z:=i1.dict
  cases hd:o1.dict with
  | none=>trivial
  | some dx=>rw[hd]at z;exact z.elim
 ·rw[zG ha]at e
  exact(hk a o e).stay (fun _ _ _ q=>q) (fun b q=>by rw[zG (zC q nt)];exact q) fun b xs q=>by rw[zG (zC q nt)];exact q
end
noncomputable def bmV:List Value:=[.type "ValueError",.type "Exception",.type "BaseException",.type "object"]
noncomputable def OwnErr (K:Fg) (C:Addr):Prop:=PySem.W.excIn K C bmV "ValueError.__new__" = true
theorem OwnErr.obj{K:Fg}{h:Heap}{C:Addr}(q:OwnErr K C)(X:K.In h):∃bm N nm qn bs hd sn sub ab col dd k0 k1 k2 k3 k5 mN,
  h.get? C=some (excClassObj nm qn C N bs bm hd sn sub ab col dd k0 k1 k2 k3 k5 "ValueError.__new__")/\h.Ns N mN/\mN "__init__" = none/\OwnTail h bmV bm:=by
 have q':PySem.W.excIn K C bmV "ValueError.__new__" = true:=q
 unfold PySem.W.excIn at q'
 split at q'
 ·rename_i dd cd sl lk
  split at q'
  ·rename_i C' bm k0 k1 k2 k3 nid k5 em es
   rw[yz,yz,yz,yz,yz]at q'
   obtain⟨⟨⟨⟨⟨a1,a2⟩,a3⟩,a4⟩,a5⟩,a6⟩:=q'
   have b1:C'=C:=eq_of_beq a1
   have b2:nid = "ValueError.__new__" := eq_of_beq a2
   have b3:cd.hasDel=false:=by simpa using a3
   have b6:=eq_of_beq a6
   have g:=X C _ lk
   obtain⟨nm,bs,mro,ns,qn,hd,sn,sub,ab,col,del⟩:=cd
   simp only at em b3 a5 b6
   subst em b3 b1 b2
   have hsl:sl=#[k0,k1,k2,k3,some (.builtin "ValueError.__new__"),k5]:=by
    rw[<- Array.toList_inj];exact es
   subst hsl
   exact⟨bm,ns,nm,qn,bs,hd,sn,sub,ab,col,dd,k0,k1,k2,k3,k5,_,g,Heap.Ns.of_isNs (PySem.W.isNs_of_in X a5),PySem.W.nsMap_none_of_in X a5 b6,PySem.W.tail_of_in X a4⟩
  ·cases q'
 ·cases q'
theorem ziD{prog:Program}{w:World}{A:Around}{E:Value->Shared->Prop}{s:Shared}{K:Fg}{er C:Addr}{oe:Obj}{Q:Option Value->Shared->Prop}
  (ga:PySem.W.findIn K (.ref C) "__getattribute__" = some (some (.builtin "BaseException.__getattribute__"))) (gn:PySem.W.findIn K (.ref C) "__getattr__" = some none)
  (hf:PySem.W.findObj K C none "__class__" = some (.bind (.builtin "getset_descriptor.__get__") (.builtin "object.__class__"))) (mo:PySem.W.mroIn K C (.type "object")=some true) (be:PySem.W.mroIn K C (.type "BaseException")=some true)
  (X:K.In s.heap) (i:PySem.W.InstAt s.heap er oe C none) (q:Q (some (.ref C)) { s with toks:=s.toks+1 }):wpAny (model prog w) A (getAttr? (.ref er) "__class__") Q E s:=by
 obtain⟨hh,g,d,t,os⟩:=s
 have L0:=i.type (M:=model prog w)
 have L1:=yaz (M:=model prog w) X ga
 have Internal':=yaz (M:=model prog w) X gn
 have L3:=PySem.W.looks_find (M:=model prog w) X i hf
 have L4:=PySem.W.looks_mroIn (M:=model prog w) X be
 have f3:=PySem.F.attr_ValueError.ga.bind (.ref er)
 unfold getAttr? getAttrBy? getAttrBy
 refine wpAny_bind (wpAny_mkText (wpAny_bind (wpAny_attempt (wpAny_holding (wpAny_bind (L0.at (wpAny_bind (L1.at ?_))))))))
 show wpAny _ _ (getAttrByItsOwn _ _ _ _ _ _) _ _ _
 unfold getAttrByItsOwn hookBefore
 refine wpAny_bind (Internal'.at ?_)
 refine wpAny_bind (wpAny_attempt (wpAny_holding ?_))
 show wpAny _ _ (boundAndCalled _ _ _) _ _ _
 unfold boundAndCalled
 rw[f3]
 refine wpAny_bind (wpAny_pure ?_)
 refine wpAny_call (codeAny_call_builtin PySem.F.attr_ValueError.ga.plain PySem.F.entry_bexc_ga ?_)
 have hk:builtinKind "BaseException.__getattribute__" = some .slot:=by decide +kernel
 have hsp:splitId "BaseException.__getattribute__" = some ("BaseException", "__getattribute__"):=by decide +kernel
 simp only[checkBuiltinCall,hk,hsp]
 unfold isInstance
 refine wpAny_bind (wpAny_bind (L0.at (L4.at ?_)))
 simp only[Bool.not_true,yar,if_false]
 have ha:=PySem.F.args_bexc_ga (.ref er) (.str "__class__" t)
 unfold argsOk at ha
 refine wpAny_of_eq (a:=()) ha ?_
 show wpAny _ _ (Builtin.«object.__getattribute__» _) _ _ _
 unfold Builtin.«object.__getattribute__»
 refine wpAny_bind (wpAny_pure ?_)
 refine wpAny_bind (wpAny_pure ?_)
 refine wpAny_bind (L0.at ?_)
 refine wpAny_bind (L3.at ?_)
 show wpAny _ _ (Builtin.ObjectAttr.bindTo _ _ _ _) _ _ _
 unfold Builtin.ObjectAttr.bindTo
 refine wpAny_bind (wpAny_holding (wpAny_call (PySem.W.class_get X i mo ?_)))
 exact wpAny_pure (PySem.W.handed_on rfl (wpAny_pure q))
noncomputable def errOk (K:Fg) (C:Addr):Bool:=PySem.W.excIn K C bmV "ValueError.__new__" && (PySem.W.findIn K (.ref C) "__getattribute__" == some (some (.builtin "BaseException.__getattribute__")))&&(PySem.W.findIn K (.ref C) "__getattr__" == some none)&&(PySem.W.mroIn K C (.type "BaseException") == some true)&&(PySem.W.clsIn K C).isSome&&(PySem.W.findIn K (.ref C) "__class__" == some (some (.builtin "object.__class__"))) &&
 (PySem.W.specialIn K (.builtin "object.__class__") "__get__" == some (some (.builtin "getset_descriptor.__get__")))&&(PySem.W.takesIn K (.builtin "object.__class__") == some true)&&(PySem.W.mroIn K C (.type "object") == some true)
theorem errOk.own{K:Fg}{C:Addr}(h:errOk K C=true):OwnErr K C:=by
 unfold errOk at h
 simp only[yz]at h
 exact h.1.1.1.1.1.1.1.1
theorem zj9{K:Fg}{er C:Addr}(h:errOk K C=true):PySem.W.KitX K (.ref er) (.ref C) (zeJ er C):=by
 unfold errOk at h
 simp only[yz,beq_iff_eq]at h
 obtain⟨⟨⟨⟨⟨⟨⟨⟨_,ga⟩,gn⟩,be⟩,cl⟩,fa⟩,sn⟩,tk⟩,mo⟩:=h
 obtain⟨cd,hc⟩:=Option.isSome_iff_exists.mp cl
 have there:∃o:Obj,K.lookup C=some o/\o.data=.cls cd:=by
  unfold PySem.W.clsIn at hc
  split at hc
  ·rename_i lk;cases hc;exact⟨_,lk,rfl⟩
  ·cases hc
 obtain⟨o,lk,dt⟩:=there
 refine⟨fun M h _ ⟨oe,i⟩=>i.type,fun M h X _ A Q E s k q=>?_,fun h tp dd its n sl X e=>?_,fun {prog w A E Q s} X ⟨oe,i⟩ q=>?_⟩
 ·have g:=k _ _ (X _ _ lk)
  obtain⟨oc,od,oda,osl⟩:=o
  simp only at dt
  subst dt
  unfold isType loadHead
  exact wpAny_bind (wpAny_loadPart g (wpAny_pure q))
 ·rw[Bool.eq_false_iff]
  intro z
  have ec:C=tp:=Value.ref.inj (beq_iff_eq.mp z)
  subst ec
  have g:=X _ _ lk
  rw[e]at g;cases g;cases dt
 ·have hf:PySem.W.findObj K C none "__class__" = some (.bind (.builtin "getset_descriptor.__get__") (.builtin "object.__class__")):=by
   unfold PySem.W.findObj
   rw[hc,Option.bind_some,fa,Option.bind_some]
   simp[sn,tk]
  exact ziD ga gn hf mo be X i q
noncomputable def zjr (C:Addr) (Ex:XK) (ta:TA):TS:=fun _ σ H=>ta σ H fun vs H1=>vs.length<=sizeLine/\Ex (.ref C) none H1
noncomputable def zmt (X:Cx) (C:Addr) (Ex:XK):Prop:=∀(pins:List (Addr × Obj)) (σ:St) (H:Hp) (s:Shared) (h':Heap) (er:Addr) (args:List Value),Inv X pins σ H s->Heap.MadeExcOf s.heap h' er (.ref C) args->Ex (.ref C) none H->X.xe (.ref er) { s with heap:=h' }
theorem zY{X:Cx}{C:Addr}{x:Str}{np cpos pos:Pos}{e:Expr}{es:List Expr}{ta:TA}{Ex:XK}(hc:X.calm=true)(hg:Gl X x)(hm:X.mg x=some (.ref C))(hX:OwnErr X.K C)(ha:PA X (e :: es) ta)(hl:zmt X C Ex)
  (hdb:autoParam ((x == ("__debug__" : Str))=false) Internal.aut1._auto_1) (he:autoParam (starEach (e :: es) X.env=(false,eval e X.env) :: starEach es X.env) Internal.aut2._auto_1) (hpl:autoParam ((backTo cpos (starEach es X.env)).any (·.1)=false) Internal.aut2._auto_1) :
  PS X (.Raise (some (.Call (.Name x np) (e :: es) [] cpos)) none pos) (zjr C Ex ta):=by
 intro pins s σ H D I h
 obtain⟨bm,N,nm,qn,bs,hd,sn,sub,ab,col,dd,k0,k1,k2,k3,k5,mN,g1,g2,g3,g4⟩:=hX.obj I.ok.mod.kin
 have pl:(backTo cpos (starEach (e :: es) X.env)).any (·.1)=false:=by rw[he];exact hpl
 refine wpAny_Raise_call_subT PySem.F.excBase_ValueError (C:=C) (nm:=nm) (q:=qn) (N:=N) (bs:=bs) (hdct:=hd) (sn:=sn) (sub:=sub) (ab:=ab) (col:=col) (dd:=dd) (k0:=k0) (k1:=k1) (k2:=k2) (k3:=k3) (k5:=k5) (g4.hasType (by decide)) (I.ok.hd hc) pl g3 (zbN I hg hm ⟨rfl,?_⟩ hdb)
 have run:=ha cpos pins s σ H _ I h
 rw[he]at run ⊢
 refine Calls.evalArgs_plain (wpAny_mono run (fun us s1 q=>?_) fun _ _ z=>z)
 obtain⟨vs,H1,I1,r,z,ex⟩:=q
 exact⟨rfl,by rw[<- r.length];exact z,I1.bk _ _ g1,g2.keeps I1.bk,g4.keeps I1.bk,fun h' er mk=>hl pins σ H1 s1 h' er us I1 mk ex⟩
theorem zak{P:Program}{w:World}{K:Fg}{mg:Str->Option Value}{base:Heap}{N:List Str}{qual:Str}{scope:Scope}{f:Addr}{cd:Value}{A:Around}{outer:List Env}{s:Shared}{H:Hp}{E:XK}{C:Addr} :
  zmt (zaq (CXF P w) P w K mg base N qual scope f cd A outer s H E) C E:=by
 intro pins σ H1 s1 h' er args I mk ex
 have fr:=I.stack
 have hin:∀env∈(envOfC qual scope s.heap.objs.size f cd :: outer),∀b,env.frame=some b->b∈frs (envOfC qual scope s.heap.objs.size f cd :: outer):=fun env he b hb=>yaI.mpr ⟨env,he,hb⟩
 have sb:∀b o,(PySem.W.hideAll s1.heap (frs (envOfC qual scope s.heap.objs.size f cd :: outer))).get? b=some o->s1.heap.get? b=some o:=fun b o q=>PySem.W.of_hideAll _ q
 have inB:∀b o,s1.heap.get? b=some o->b∉frs (envOfC qual scope s.heap.objs.size f cd :: outer)->(PySem.W.hideAll s1.heap (frs (envOfC qual scope s.heap.objs.size f cd :: outer))).get? b=some o:=fun b o q n=>PySem.W.hideAll_get _ q n
 have nfr:∀b o,s.heap.get? b=some o->b∉frs outer->b∉frs (envOfC qual scope s.heap.objs.size f cd :: outer):=fun b o q n z=>by
  rcases ye.mp (show b∈s.heap.objs.size :: frs outer from z)with z | z
  ·exact ym (Heap.lt_size q) z
  ·exact n z
 have trkB:∀b o u,H1 b=some o->s1.heap.get? b=some u->(PySem.W.hideAll s1.heap (frs (envOfC qual scope s.heap.objs.size f cd :: outer))).get? b=some u:=fun b o u q e=>inB b u e fun z=>by
  have:=I.stkFree b z
  rw[q]at this;cases this
 show wpAny (model P w) (A.deeper (envOfC qual scope s.heap.objs.size f cd)) (leaving (envOfC qual scope s.heap.objs.size f cd) (.ref er)) _ _ _
 have b0:Bare er { s1 with heap:=h' }:=by
  obtain⟨t,e,_⟩:=mk.there
  exact⟨_,(Heap.get?_some_iff.mp e).1,rfl⟩
 refine wpAny_mono (DK.any (E:=fun _ _=>False) (Q:=fun _ s''=>Bare er s''->CXF P w outer H s E (.ref er) s'') (zeF _ _) b0 ?_) (fun _ s'' q=>q.1 q.2) fun _ _ q=>q.1.elim
 refine wpAny_leaves_madeW (L:=s.heap.objs.size) (base:=PySem.W.hideAll s1.heap (frs (envOfC qual scope s.heap.objs.size f cd :: outer))) (h:=s1.heap) I.ok.frames rfl sb (PySem.W.funFrames_hide fr hin) mk fun h'' t fly _ _ up b1=>?_
 refine⟨er,C,t,_,H1,rfl,⟨I.os,I.bare,⟨fun b o q n hb _=>?_,fun b o q n hb _=>?_,fun b o q n _=>I.base.free b o q n (by simp[zaq]),fun b o q _=>?_,I.base.tups,I.base.frzs,I.base.tbls⟩,?_,fly,fun b o q n hb=>?_,fun b o q hb=>?_,?_,b1⟩,ex⟩
 ·exact fly.1 b o (inB b o (I.base.keep b o q n hb (by simp[zaq])) (nfr b o q hb))
 ·obtain⟨sl,e1⟩:=I.base.slot b o q n hb (by simp[zaq])
  obtain⟨_,o1,e2,nf⟩:=I.ok.funs.mem hb
  have e3:s.heap.get? b=some o1:=e2
  rw[q]at e3;cases e3
  obtain⟨sl',e4⟩:=up b _ (mk.keeps b _ e1) nf
  exact⟨sl',e4⟩
 ·by_cases hb:b∈frs outer
  ·obtain⟨_,o1,e1,_⟩:=fly.2.2.1.mem hb
   exact⟨o1,e1⟩
  ·obtain⟨o1,e1⟩:=I.base.there b o q (by simp[zaq])
   exact⟨o1,fly.1 b o1 (inB b o1 e1 (nfr b o q hb))⟩
 ·intro a o e
  exact(I.hok a o e).stay (fun b u hb q=>fly.1 b u (by
   rcases hb with rfl | hb
   ·exact trkB b o u e q
   ·exact trkB b _ u hb q)) (fun _ q=>q) fun _ _ q=>q
 ·exact inB b o (I.base.keep b o q n hb (by simp[zaq])) (nfr b o q hb)
 ·obtain⟨o1,e1⟩:=I.base.there b o q (by simp[zaq])
  exact⟨o1,inB b o1 e1 (nfr b o q hb)⟩
 ·intro b o u q e
  obtain⟨u1,e1⟩:=(I.hok b o q).obj
  have z:=fly.1 b u1 (trkB b o u1 q e1)
  have e':h''.get? b=some u:=e
  rw[z]at e';cases e'
  exact trkB b o _ q e1
abbrev Cx.inH(X:Cx)(er:Addr):Cx:={ X with A:=X.A.mark (some (.ref er)),calm:=false,xe:=fun _ _=>False }
theorem Cx.Ok.inH{X:Cx}(ok:X.Ok)(er:Addr):(X.inH er).Ok:=
 ⟨ok.mod,ok.kind,ok.glob,ok.blt,ok.above,ok.inj,ok.has,ok.cab,fun z=>(by cases z),ok.frames,ok.stk,ok.exf,ok.bs,ok.bsz,ok.noex,ok.exfs,ok.funs,ok.frf⟩
section
variable {X:Cx}{pins:List (Addr × Obj)}{σ:St}{H H':Hp}{s s':Shared}
theorem Inv.inH(I:Inv X pins σ H s)(er:Addr):Inv (X.inH er) pins σ H s:=⟨I.ok.inH er,I.os,I.bare,I.base,I.loc,I.cell,I.free,I.freeC,I.pin,I.hok,I.len⟩
theorem Inv.outH{er:Addr}(ok:X.Ok)(I:Inv (X.inH er) pins σ H s):Inv X pins σ H s:=⟨ok,I.os,I.bare,I.base,I.loc,I.cell,I.free,I.freeC,I.pin,I.hok,I.len⟩
theorem zis{i:Nat}{n:Str}{pos:Pos}{Q:Unit->Shared->Prop}{E:Value->Shared->Prop}(I:Inv X pins σ H s)(hN:X.N.Nodup)(hi:X.N[i]?=some n)(hl:X.env.kindOf n=some .local)(q:∀s2,Inv X pins (σ.set i none) H s2->Q () s2) :
  wpAny (model X.prog X.w) X.A (do bindName X.env n .none;unbindBehindTheSuite X.env n pos) Q E s:=by
 obtain⟨m,hn,lk⟩:=id I.loc
 obtain⟨oL,_,_,hoL,_⟩:=id hn
 refine wpAny_nameGoes_keeps hl hn (by rw[I.ok.kind];rfl) fun h' v hn' hs=>q _ ?_
 have nL:∀b o,X.s₀.heap.get? b=some o->b≠X.env.locals:=fun b o e=>ym (yo (Heap.lt_size e) I.ok.above)
 refine⟨I.ok,I.os,I.bare,⟨fun b o e n hb hx=>(hs.2 b (nL b o e)).trans (I.base.keep b o e n hb hx),fun b o e n hb hx=>?_,I.base.free,fun b o e hx=>?_,I.base.tups,I.base.frzs,I.base.tbls⟩,⟨_,hn',fun j y v' e1 e2 e3=>?_⟩,fun y c e=>?_,I.free,I.freeC,fun p hp=>?_,fun b ob e=>?_,by rw[yap];exact I.len⟩
 ·obtain⟨sl,e1⟩:=I.base.slot b o e n hb hx
  exact⟨sl,(hs.2 b (nL b o e)).trans e1⟩
 ·obtain⟨o',e1⟩:=I.base.there b o e hx
  exact⟨o',(hs.2 b (nL b o e)).trans e1⟩
 ·by_cases hj:j=i
  ·subst hj
   have hlt:j < σ.length:=by rw[I.len];exact(yl.mp hi).1
   rw[yaf hlt]at e2
   cases e2
  ·rw[yan (yaj hj)]at e2
   obtain⟨u,r,z⟩:=lk j y v' e1 e2 e3
   refine⟨u,r,?_⟩
   have ny:y≠n:=fun z=>hj (zeb hN e1 (z▸hi))
   rcases z with⟨k,e⟩ | ⟨k,c,e,z⟩
   ·exact .inl ⟨k,by show(if y=n then v else m y)=some u;rw[if_neg ny];exact e⟩
   ·exact .inr ⟨k,c,e,z.sameBut hs (I.cne y c e)⟩
 ·obtain⟨u,z⟩:=I.cell y c e
  exact⟨u,z.sameBut hs (I.cne y c e)⟩
 ·obtain⟨e,n,ne,nf,d⟩:=I.pin p hp
  exact⟨(hs.2 p.1 ne).trans e,n,ne,nf,d⟩
 ·refine(I.hok b ob e).stay (fun c u hc q=>(hs.2 c ?_).trans q) (fun _ q=>q) fun _ _ q=>q
  rintro rfl
  rcases hc with rfl | hc
  ·have:=I.free;rw[e]at this;cases this
  ·have:=I.free;rw[hc]at this;cases this
noncomputable def Ends.gone (D:Ends) (i:Nat):Ends:=⟨fun σ H=>D.nx (σ.set i none) H,D.rt,fun σ H=>D.bk (σ.set i none) H,fun σ H=>D.ct (σ.set i none) H⟩
theorem SP.gone{i:Nat}{D:Ends}{f:Flow}{er:Addr}(ok:X.Ok)(h:SP (X.inH er) pins (D.gone i) f s):∃σ' H',Inv X pins σ' H' s/\∀s2,Inv X pins (σ'.set i none) H' s2->SP X pins D f s2:=by
 cases f with
 | next=>obtain⟨σ',H',I,q⟩:=h;exact⟨σ',H',I.outH ok,fun s2 J=>⟨_,_,J,q⟩⟩
 | brk=>obtain⟨σ',H',I,q⟩:=h;exact⟨σ',H',I.outH ok,fun s2 J=>⟨_,_,J,q⟩⟩
 | cont=>obtain⟨σ',H',I,q⟩:=h;exact⟨σ',H',I.outH ok,fun s2 J=>⟨_,_,J,q⟩⟩
 | ret u=>obtain⟨v,σ',H',I,r,q⟩:=h;exact⟨σ',H',I.outH ok,fun s2 J=>⟨v,_,_,J,r,q⟩⟩
theorem taken{er C CQ t:Addr}{B:Heap}{qn n:Str}{qp hp:Pos}{b0:Stmt}{suite:List Stmt}{rest:List ExceptHandler}{i:Nat}{th:TS}{D:Ends}(hst:X.stack=X.env :: X.outer/\X.env.frame=some X.env.locals)(I:Inv X pins σ H s)
  (F:Fly X.prog X.w X.stack H s H' er C t B s') (hg:Gl X qn) (hm:X.mg qn=some (.ref CQ)) (hx:PySem.W.exmOne X.K (.ref C) (.ref CQ)=some true) (hN:X.N.Nodup) (hi:X.N[i]?=some n) (hl:X.env.kindOf n=some .local)
  (hth:PSs (X.inH er) (b0 :: suite) th) (q:th (D.gone i) (σ.set i (some (.ref er))) (upd H' er (zbk er C))) (hdb:(qn == ("__debug__" : Str))=false) :
  wpAny (model X.prog X.w) X.A (noteFrame (.ref er) X.env) (fun _ s₂=>wpAny (model X.prog X.w) X.A (setFlight (.ref er) none) (fun _ s₃=>
   wpAny (model X.prog X.w) X.A (handleBy (.ref er) X.env (.ExceptHandler (some (.Name qn qp)) (some n) (b0 :: suite) hp :: rest)) (SP X pins D) X.xe s₃) X.xe s₂) X.xe s':=by
 have hfr:X.A.frames=some (X.env :: X.outer):=by rw[I.ok.frames,hst.1]
 have fly0:Heap.FlyingW B (X.env :: X.outer) er (.ref C) (.ref t) s'.heap:=hst.1▸F.fly
 have at':∀{h:Heap},B.StaysIn h->s'.heap.UpToSlots h->∀tk,Inv X pins σ H' { s' with heap:=h,toks:=tk }:=fun {h} st up tk=>
  I.call' (s':={ s' with heap:=h,toks:=tk }) (ch:=[]) F.os (F.unAt I.stack st up) (F.hokAt st) F.bare fun _ z=>nomatch z
 refine wpAny_mono (DK.any (E:=fun _ _=>False) (Q:=fun _ s2=>Bare er s2->_) (zhi _ _) F.nod (wpAny_looks_onW hfr hst.2 fly0 fun h4 held up4 b4=>?_)) (fun _ s2 q=>q.1 q.2) fun _ _ q=>q.1.elim
 refine wpAny_mono (DK.any (E:=fun _ _=>False) (Q:=fun _ s2=>Bare er s2->_) (zcd _ _) b4 (wpAny_landsW held fun h5 fly5 up5 b5=>?_)) (fun _ s2 q=>q.1 q.2) fun _ _ q=>q.1.elim
 have up:s'.heap.UpToSlots h5:=up4.trans up5
 have J5:=(at' fly5.1 up s'.toks).inH er
 obtain⟨ob,hob,hoc⟩:=fly5.there
 refine wpAny_handleBy_cons (codeAny_handlers_test (zbN (X:=X.inH er) J5 hg hm ?_ hdb)) (by intro z;cases z)
 have LT:PySem.W.Looks (model X.prog X.w) h5 (typeOf (.ref er)) (.ref C):=hoc▸(PySem.W.Looks.ld hob).andThen .now
 refine(PySem.W.exm_one J5.kIn LT hx) _ _ _ _ (fun _ _ e=>e) ?_
 show codeAny _ _ _ _ _
 refine codeAny_handlers_suite_as ?_
 refine wpAny_mono (DK.any (E:=fun _ _=>False) (Q:=fun _ s2=>Bare er s2->_) (zcd _ _) b5 (lands_againW fly5 fun h6 fly6 up6 b6=>?_)) (fun _ s2 q=>q.1 q.2) fun _ _ q=>q.1.elim
 have J6:=at' fly6.1 (up.trans up6) s'.toks
 have u6:Un (frs X.stack) [] H (upd H' er (zbk er C)) s.heap h6:=F.unEr (F.unAt I.stack fly6.1 (up.trans up6))
 have K6:Inv X pins σ (upd H' er (zbk er C)) { s' with heap:=h6 }:=
  I.call' (s':={ s' with heap:=h6 }) (ch:=[]) F.os u6 (zm2 (F.hokAt fly6.1) F.noTrk (zkG fly6 b6)) F.bare fun _ z=>nomatch z
 refine zcJ (X:=X.inH er) (i:=i) (v:=.ref er) (K6.inH er) hN hi (.inl hl) rfl (fun s7 J7=>?_) (.inr hl)
 refine wpAny_mono (hth pins s7 _ _ _ J7 q) (fun fl s8 hs=>?_) fun _ _ z=>z.elim
 obtain⟨σ9,H9,I9,fin⟩:=SP.gone I.ok hs
 exact zis I9 hN hi hl fun s10 J10=>fin s10 J10
end
theorem Fun.okX{P:Program}{w:World}{K:Fg}{mg:Str->Option Value}{base:Heap}{CX:CXT}{x qual:Str}{st:Stmt}{f:Addr}{fd:FuncData}{N ps:List Str}{k:Nat}{sp:Sp}(F:Fun K x qual st f fd)(S:FnScope N ps (zi st))(len:∀vs H Q E,sp vs H Q E->vs.length=ps.length)
  (body:∀(cdv:Value) (A:Around) (outer:List Env) (s:Shared) (H:Hp) (vs:List V) (Q:VK) (E:XK),Room k (A.deeper (envOfC qual (zi st) s.heap.objs.size f cdv))->sp vs H Q E ->
   ∃t,PSs (zaq CX P w K mg base N qual (zi st) f cdv A outer s H E) (zaR st) t/\t { nx:=fun _ H'=>Q .non H',rt:=Q } (start N vs) H):FnOk P w K mg base CX (k+1) f fd ps sp:=by
 obtain⟨oc,od,kV,doc,pm,an,cdv,ct,osl,rfl,lk,hcd⟩:=F.ex
 exact zhy lk hcd S len fun A outer s H vs Q E hr hsp=>body cdv A outer s H vs Q E hr hsp
noncomputable def zaw (K:Fg):List V->Hp->VK->Prop:=fun xs H Q=>(∃er C c cv b,xs=[.ref er,c]/\RelV c cv/\H er=some (zbk er C)/\errOk K C=true/\PySem.W.kitOne K (.ref C) cv=some b/\Q (.bl b) H)\/zdm K xs H Q
theorem zap{X:Cx}:CallR X (.builtin "isinstance") (zaw X.K):=by
 refine CallR.or ?_ zgU
 intro pins s σ H xs us Q I r h
 obtain⟨er,C,c,cv,b,rfl,rc,he,ok,hk,q⟩:=h
 obtain⟨u,w',rfl,r1,r2⟩:=vals2 r
 obtain rfl:u=Value.ref er:=r1
 have ie:zeJ er C s.heap:=(I.hok er _ he).1
 have ec:w'=cv:=by
  cases c with
  | ty n=>exact(show w'=_ from r2).trans (show cv=_ from rc).symm
  | ref a=>exact(show w'=_ from r2).trans (show cv=_ from rc).symm
  | non=>exact(show w'=_ from r2).trans (show cv=_ from rc).symm
  | bl b=>exact(show w'=_ from r2).trans (show cv=_ from rc).symm
  | _=>obtain⟨_,rfl⟩:=rc;simp[PySem.W.kitOne,PySem.W.kitCls]at hk
 subst ec
 exact yI (zj9 ok) I.kIn ie hk (by intro z;cases z) fun tk=>⟨.bl b,H,I.tok tk,rfl,q⟩
theorem zfP{K:Fg}{xs:List V}{H:Hp}{Q:VK}(q:zdm K xs H Q):zaw K xs H Q:=.inr q
theorem zkM{K:Fg}{H:Hp}{Q:VK}{er C:Addr}{c:V}{cv:Value}{b:Bool}(h:H er=some (zbk er C))(ok:errOk K C=true)(rc:RelV c cv)(e:PySem.W.kitOne K (.ref C) cv=some b)(q:Q (.bl b) H):zaw K [.ref er,c] H Q:=.inl ⟨er,C,c,cv,b,rfl,rc,h,ok,e,q⟩
theorem zlB{C:Addr}{Ex:XK}{ta:TA}{D:Ends}{σ:St}{H:Hp}(q:ta σ H fun vs H1=>vs.length<=sizeLine/\Ex (.ref C) none H1):zjr C Ex ta D σ H:=q
theorem zg4{K:Fg}{C CQ:Addr}{th:TS}{D:Ends}{σ:St}{i:Nat}{H:Hp}(hx:PySem.W.exmOne K (.ref C) (.ref CQ)=some true)(q:∀er H',H er=none->Same H H'->H' er=some (zbk er C)->th D (σ.set i (some (.ref er))) H') :
  ∃C',Value.ref C=Value.ref C'/\PySem.W.exmOne K (.ref C') (.ref CQ)=some true/\∀er,H er=none->th D (σ.set i (some (.ref er))) (upd H er (zbk er C')):=⟨C,rfl,hx,fun er hn=>q er _ hn (Same.new hn _) zH⟩
theorem zf0{K:Fg}{D:Addr}(h:PySem.W.hasDictIn K D=true):(PySem.W.clsIn K D).isSome=true:=by
 obtain⟨cd,e,_⟩:=PySem.W.any_some h
 rw[e];rfl
theorem errOk_mk{K:Fg}{C:Addr}(x:PySem.W.excIn K C [.type "ValueError",.type "Exception",.type "BaseException",.type "object"] "ValueError.__new__" = true)(ga:PySem.W.findIn K (.ref C) "__getattribute__" = some (some (.builtin "BaseException.__getattribute__")))(gn:PySem.W.findIn K (.ref C) "__getattr__" = some none)(be:PySem.W.mroIn K C (.type "BaseException")=some true)(hd:PySem.W.hasDictIn K C=true)
  (fa:PySem.W.findIn K (.ref C) "__class__" = some (some (.builtin "object.__class__"))) (sn:PySem.W.specialIn K (.builtin "object.__class__") "__get__" = some (some (.builtin "getset_descriptor.__get__"))) (tk:PySem.W.takesIn K (.builtin "object.__class__")=some true)
  (mo:PySem.W.mroIn K C (.type "object")=some true):errOk K C=true:=by
 unfold errOk bmV
 rw[x,ga,gn,be,zf0 hd,fa,sn,tk,mo];simp
theorem zet{K:Fg}{t:Value}{D:Addr}{b:Bool}(hd:PySem.W.hasDictIn K D=true)(ht:PySem.W.typeIn K (.ref D)=some (.type "type"))(hs:PySem.W.subIn K t (.ref D)=some b):PySem.W.kitCls K t (.ref D)=some b:=by
 unfold PySem.W.kitCls
 simp only
 rw[zf0 hd,ht,if_pos (by simp)];exact hs
theorem kit_ne{K:Fg}{C D:Addr}{b:Bool}(h:C≠D)(hd:PySem.W.hasDictIn K D=true)(ht:PySem.W.typeIn K (.ref D)=some (.type "type"))(hs:PySem.W.subIn K (.ref C) (.ref D)=some b):PySem.W.kitOne K (.ref C) (.ref D)=some b:=by
 unfold PySem.W.kitOne
 rw[if_neg (by intro z;exact h (Value.ref.inj (beq_iff_eq.mp z)))]
 exact zet hd ht hs
theorem kit_self{K:Fg}{C:Addr}:PySem.W.kitOne K (.ref C) (.ref C)=some true:=by
 unfold PySem.W.kitOne
 rw[if_pos (by simp)]
theorem kit_V{K:Fg}{C:Addr}{b:Bool}(hs:PySem.W.subIn K (.ref C) (.type "ValueError")=some b):PySem.W.kitOne K (.ref C) (.type "ValueError")=some b:=by
 unfold PySem.W.kitOne
 rw[if_neg (by intro z;cases beq_iff_eq.mp z)]
 unfold PySem.W.kitCls
 simp only
 rw[if_pos (by decide +kernel)];exact hs
theorem exm_mk{K:Fg}{C D:Addr}{b:Bool}(hq:PySem.W.subIn K (.ref D) (.type "BaseException")=some true)(hd:PySem.W.hasDictIn K D=true)(ht:PySem.W.typeIn K (.ref D)=some (.type "type"))(hs:PySem.W.subIn K (.ref C) (.ref D)=some b):PySem.W.exmOne K (.ref C) (.ref D)=some b:=by
 unfold PySem.W.exmOne
 rw[hq,if_pos (by simp)]
 exact zet hd ht hs
section
variable {X:Cx}
theorem zaY:zcu X (zbB X.K):=by
 intro pins s σ H x y v u Q I rx ry h
 obtain⟨p,xs,i,z,rfl,rfl,hq,he,q⟩:=h
 cases rx
 obtain⟨t,rfl⟩:=ry
 obtain⟨its,r,pl,hz⟩:=I.list hq
 obtain⟨j,h1,h2,h3,h4,h5⟩:=zdv he
 obtain⟨w,ew,rw'⟩:=r.get h2
 have hl:=r.length
 have hn:=line63
 have fin:EP X pins σ Q w s:=⟨z,H,I,rw',q⟩
 by_cases h0:0<=i
 ·have hj:i.toNat=j:=by
   rw[seqIndex_of h0 h5]at h1
   exact yn h1
  exact wpAny_getItem_list pl.isList h0 (by omega) (by rw[hj];simpa using ew) fin
 ·have hj:(i+(its.toArray.size:Int)).toNat=j:=by
   rw[seqIndex_neg (by omega) h4]at h1
   rw[yi,<- hl]
   exact yn h1
  exact wpAny_getItem_list_neg pl.isList (by omega) (by rw[yi]<;>omega) (by omega) (by rw[hj];simpa using ew) fin
end
noncomputable def Src (J:It) (P:Hp->Prop) (n:Nat) (Y:Nat->V->Hp->Prop):Prop:=
 (∀i H,P H->i<n->J.go i H)/\(∀H,P H->J.stop n H)/\∀i H x H',P H->i<n->J.yld i H x H'->Same H H'/\Y i x H'
theorem zN{α:Type}{xs:List α}{i:Nat}(h:i<xs.length):∃x,xs[i]?=some x:=⟨xs[i],by simp[h]⟩
theorem zaO{K:Fg}{a:Addr}{xs:List V}:Src (Itl K a) (fun H=>SqL K H a xs) xs.length (fun i x _=>xs[i]?=some x):=
 ⟨fun i H h hi=>by obtain⟨x,hx⟩:=zN hi;exact⟨xs,x,h,hx⟩,fun H h=>⟨xs,h,yf _⟩,fun i H x H' h hi ⟨q,r⟩=>by subst q;exact⟨Same.refl _,r xs h⟩⟩
theorem zcs{lo:Int}{n:Nat}:Src (Itr lo n) (fun _=>True) n (fun i x _=>x=.int (lo+i)):=
 ⟨fun i H e hi=>hi,fun H e=>yf _,fun i H x H' e hi ⟨q,r⟩=>by subst q;exact⟨Same.refl _,r⟩⟩
theorem zj3{K:Fg}{a:Addr}{xs:List V}:Src (Itn K a) (fun H=>SqL K H a xs) xs.length (fun i x H=>∃p v,x=.ref p/\xs[i]?=some v/\H p=some (.tup [.int i,v])):=
 ⟨fun i H h hi=>by obtain⟨x,hx⟩:=zN hi;exact⟨xs,x,h,hx⟩,fun H h=>⟨xs,h,yf _⟩,fun i H x H' h hi ⟨p,v,hp,q,r,z⟩=>by subst z;exact⟨Same.new hp _,p,v,q,r xs h,zH⟩⟩
theorem zle{K:Fg}{a b:Addr}{xs ys:List V}:Src (Itz K a b) (fun H=>SqL K H a xs/\SqL K H b ys) (min xs.length ys.length) (fun i x H=>∃p v w,x=.ref p/\xs[i]?=some v/\ys[i]?=some w/\H p=some (.tup [v,w])):=
 ⟨fun i H h hi=>by
  obtain⟨x,hx⟩:=zN (show i<xs.length by omega)
  obtain⟨y,hy⟩:=zN (show i<ys.length by omega)
  exact⟨xs,ys,x,y,h.1,h.2,hx,hy⟩,fun H h=>⟨xs,ys,h.1,h.2,by omega⟩,fun i H x H' h hi ⟨p,v,w,hp,q,r,r',z⟩=>by subst z;exact⟨Same.new hp _,p,v,w,q,r xs h.1,r' ys h.2,zH⟩⟩
section
variable {σ:St}{H:Hp}{Q:VK}{D:Ends}{ta tb tc te to ti:TE}{t u:TS}{K:Fg}
theorem zgj{J:It}{P:Hp->Prop}{n:Nat}{Y:Nat->V->Hp->Prop}{g:TG}{tb:TS}(S:Src J P n Y)(Pv:Nat->St->Hp->Prop)(h0:Pv 0 σ H)(hk:∀i σ H,Pv i σ H->P H)
  (hs:∀i x σ H H',i<n->Pv i σ H->Same H H'->Y i x H'->g x σ H' fun σ2 H2=>tb { D with nx:=Pv (i+1),ct:=Pv (i+1),bk:=D.nx } σ2 H2) (hd:∀σ H,Pv n σ H->D.nx σ H):zhE J g tb D σ H:=by
 refine⟨fun i m σ H=>m=n-i/\i<=n/\Pv i σ H,⟨n,by simp,yT _,h0⟩,?_⟩
 rintro i m σ H ⟨rfl,hi,p⟩
 by_cases hlt:i<n
 ·refine .inr ⟨S.1 i H (hk i σ H p) hlt,Pv (i+1),fun σ' H' q=>⟨n-(i+1),by omega,rfl,hlt,q⟩,fun x H' y=>?_⟩
  obtain⟨e,y'⟩:=S.2.2 i H x H' (hk i σ H p) hlt y
  exact hs i x σ H H' hlt p e y'
 ·have:i=n:=by omega
  subst this
  exact .inl ⟨S.2.1 H (hk i σ H p),hd σ H p⟩
noncomputable def zb2 (J:It) (caps:List (Option Nat)) (g:TG) (tf:TT) (te:TE) (σ:St) (Q:VK) (H1:Hp):Prop:=∀D,H1 D=none ->
 ∃W:Nat->Nat->St->Hp->Prop,(∃m,W 0 m (za9 caps σ) (upd H1 D (.lst [])))/\∀i m σ' H',W i m σ' H' ->
  (J.stop i H'/\Q (.ref D) H')\/(J.go i H'/\∃N:St->Hp->Prop,(∀σ2 H2,N σ2 H2->∃m',m'<m/\W (i+1) m' σ2 H2) /\
   ∀x H2,J.yld i H' x H2->g x σ' H2 fun σ1 H3=>tf σ1 H3 fun b H4=>if b=true then te σ1 H4 fun v H5=>za2 (.ref D) [v] H5 fun _ H6=>N σ1 H6 else N σ1 H4)
theorem znj{wi:TI}{caps:List (Option Nat)}{g:TG}{tf:TT}{te:TE}(q:wi σ H fun J H1=>zb2 J caps g tf te σ Q H1):zfU wi caps g tf te σ H Q:=q
theorem zkO{T:Bool->Hp->Prop}(q:T true H):zd4 σ H T:=q
noncomputable def CompN (H:Hp) (Sv:St->Prop) (Pv:Nat->List V->Hp->Prop) (D:Addr) (i:Nat) (σ':St) (H':Hp):Prop:=Sv σ'/\Same H H'/\∃vs,H' D=some (.lst vs)/\vs.length<=i/\Pv i vs H'
theorem zgW{J:It}{P:Hp->Prop}{n:Nat}{Y:Nat->V->Hp->Prop}{caps:List (Option Nat)}{g:TG}{tf:TT}{te:TE}(S:Src J P n Y)(e0:∀H',Same H H'->P H')(Sv:St->Prop)(Pv:Nat->List V->Hp->Prop)(hc:Sv (za9 caps σ))(h0:∀H',Same H H'->Pv 0 [] H')
  (hs:∀i x D vs σ' H' H2,i<n->H D=none->Sv σ'->Same H H'->H' D=some (.lst vs)->vs.length<=i->Pv i vs H'->Same H' H2->Y i x H2->g x σ' H2 fun σ1 H3=>tf σ1 H3 fun b H4=>if b=true then te σ1 H4 fun v H5=>za2 (.ref D) [v] H5 fun _ H6=>CompN H Sv Pv D (i+1) σ1 H6 else CompN H Sv Pv D (i+1) σ1 H4)
  (hq:∀D H' vs,H D=none->Same H H'->H' D=some (.lst vs)->vs.length<=n->Pv n vs H'->Q (.ref D) H'):zb2 J caps g tf te σ Q H:=by
 intro D hD
 refine⟨fun i m σ' H'=>m=n-i/\i<=n/\CompN H Sv Pv D i σ' H',⟨n,by simp,yT _,hc,Same.new hD _,[],zH,yf _,h0 _ (Same.new hD _)⟩,?_⟩
 rintro i m σ' H' ⟨rfl,hi,sv,e,vs,hv,hl,p⟩
 by_cases hlt:i<n
 ·refine .inr ⟨S.1 i H' (e0 _ e) hlt,CompN H Sv Pv D (i+1),fun σ2 H2 q=>⟨n-(i+1),by omega,rfl,hlt,q⟩,fun x H2 y=>?_⟩
  obtain⟨e',y'⟩:=S.2.2 i H' x H2 (e0 _ e) hlt y
  exact hs i x D vs σ' H' H2 hlt hD sv e hv hl p e' y'
 ·have:i=n:=by omega
  subst this
  exact .inl ⟨S.2.1 H' (e0 _ e),hq D H' vs hD e hv hl p⟩
theorem zah{J:It}{P:Hp->Prop}{n:Nat}{Y:Nat->V->Hp->Prop}{caps:List (Option Nat)}{g:TG}{tf:TT}{te:TE}{rest:St}(S:Src J P n Y)(e0:∀H',Same H H'->P H')(hc:za9 caps σ=none :: rest)(Pv:Nat->List V->Hp->Prop)(h0:∀H',Same H H'->Pv 0 [] H')
  (hs:∀i x D vs o H' H2,i<n->H D=none->Same H H'->H' D=some (.lst vs)->vs.length<=i->Pv i vs H'->Same H' H2->Y i x H2->g x (o :: rest) H2 fun σ1 H3=>tf σ1 H3 fun b H4=>if b=true then te σ1 H4 fun v H5=>za2 (.ref D) [v] H5 fun _ H6=>CompN H (fun σ'=>∃o,σ'=o :: rest) Pv D (i+1) σ1 H6 else CompN H (fun σ'=>∃o,σ'=o :: rest) Pv D (i+1) σ1 H4)
  (hq:∀D H' vs,H D=none->Same H H'->H' D=some (.lst vs)->vs.length<=n->Pv n vs H'->Q (.ref D) H'):zb2 J caps g tf te σ Q H:=
 zgW S e0 (fun σ'=>∃o,σ'=o :: rest) Pv ⟨_,hc⟩ h0 (fun i x D vs σ' H' H2 a1 a2 ⟨o,a3⟩ a4 a5 a6 a7 a8 a9=>by subst a3;exact hs i x D vs o H' H2 a1 a2 a4 a5 a6 a7 a8 a9) hq
theorem zkv{J:It}{P:Hp->Prop}{n:Nat}{Y:Nat->V->Hp->Prop}{caps:List (Option Nat)}{g:TG}{tf:TT}{te:TE}{rest:St}(S:Src J P n Y)(e0:∀H',Same H H'->P H')(hc:za9 caps σ=none :: none :: rest)(Pv:Nat->List V->Hp->Prop)(h0:∀H',Same H H'->Pv 0 [] H')
  (hs:∀i x D vs o o' H' H2,i<n->H D=none->Same H H'->H' D=some (.lst vs)->vs.length<=i->Pv i vs H'->Same H' H2->Y i x H2->g x (o :: o' :: rest) H2 fun σ1 H3=>tf σ1 H3 fun b H4=>if b=true then te σ1 H4 fun v H5=>za2 (.ref D) [v] H5 fun _ H6=>CompN H (fun σ'=>∃o o',σ'=o :: o' :: rest) Pv D (i+1) σ1 H6 else CompN H (fun σ'=>∃o o',σ'=o :: o' :: rest) Pv D (i+1) σ1 H4)
  (hq:∀D H' vs,H D=none->Same H H'->H' D=some (.lst vs)->vs.length<=n->Pv n vs H'->Q (.ref D) H'):zb2 J caps g tf te σ Q H:=
 zgW S e0 (fun σ'=>∃o o',σ'=o :: o' :: rest) Pv ⟨_,_,hc⟩ h0 (fun i x D vs σ' H' H2 a1 a2 ⟨o,o',a3⟩ a4 a5 a6 a7 a8 a9=>by subst a3;exact hs i x D vs o o' H' H2 a1 a2 a4 a5 a6 a7 a8 a9) hq
theorem zlj{R:It->Hp->Prop}{a:Addr}{xs:List V}(h:SqL K H a xs)(q:R (Itn K a) H):zhL K R [.ref a] H:=⟨a,rfl,⟨xs,h⟩,q⟩
theorem zmU{R:It->Hp->Prop}{a b:Addr}{xs ys:List V}(h:SqL K H a xs)(h':SqL K H b ys)(q:R (Itz K a b) H):zjP K R [.ref a,.ref b] H:=⟨a,b,rfl,⟨xs,h⟩,⟨ys,h'⟩,q⟩
theorem zmV{a:Addr}{xs:List V}{n:Nat}{t:TGs}{R:St->Hp->Prop}(h:H a=some (.tup xs))(hn:xs.length=n)(q:t xs σ H R):zgn K n t (.ref a) σ H R:=⟨a,xs,rfl,SqT.of h,hn,q⟩
theorem zk6{v:V}{r:List V}{t:TG}{u:TGs}{R:St->Hp->Prop}(q:t v σ H fun σ' H'=>u r σ' H' R):zkW t u (v :: r) σ H R:=⟨v,r,rfl,q⟩
theorem zmx{R:St->Hp->Prop}(q:R σ H):znv [] σ H R:=⟨rfl,q⟩
theorem zoo{f:Int->Int->Int}{i j:Int}(q:Q (.int (f i j)) H):ipI f (.int i) (.int j) H Q:=⟨i,j,rfl,rfl,q⟩
theorem zmf{tget:V->V->Hp->VK->Prop}{tip:TIp}{tset:zeV}(q:to σ H fun o H1=>ti σ H1 fun i H2=>tget o i H2 fun x H3=>te σ H3 fun y H4=>tip x y H4 fun z H5=>tset o i z H5 fun H6=>D.nx σ H6):zkK to ti te tget tip tset D σ H:=q
theorem ziU{a:Addr}{xs:List V}{i:Int}{v:V}(h:SqL K H a xs)(e:atI xs i=some v)(q:Q v H):zbB K (.ref a) (.int i) H Q:=⟨a,xs,i,v,rfl,rfl,h,e,q⟩
theorem zmb{l:Addr}{x:V}{k:Int}(h:H l=some (.lst [x]))(h0:0<=k)(h1:k<=100000)(q:∀p H',H p=none->Same H H'->H' p=some (.lst (List.replicate k.toNat x))->Q (.ref p) H'):zdB (.ref l) (.int k) H Q:=
 .inr ⟨l,k,[x],rfl,rfl,h,by omega,by omega,by have:=za7 (n:=k.toNat) (by omega);simpa using this,fun p hp=>by
  have e:(List.replicate k.toNat [x]).flatten=List.replicate k.toNat x:=by
   generalize k.toNat=n
   induction n with
   | zero=>rfl
   | succ n ih=>rw[yS,yag,ih,yS];rfl
  rw[e]
  exact q p _ hp (Same.new hp _) zH⟩
theorem zeC{l b:Addr}{xs zs:List V}(h:H l=some (.lst xs))(h':H b=some (.lst zs))(hz:xs.length+zs.length<=100000)(q:∀p H',H p=none->Same H H'->H' p=some (.lst (xs++zs))->Q (.ref p) H'):zF K (.ref l) (.ref b) H Q:=
 .inr (.inl ⟨l,b,xs,zs,rfl,rfl,h,h',za7 hz,fun p hp=>q p _ hp (Same.new hp _) zH⟩)
theorem znD{a:Addr}{ns:List Int}(h:SqL K H a (ns.map V.int))(q:Q (.int (zbo ns)) H):zeh K [.ref a] H Q:=⟨a,ns,rfl,h,q⟩
end
theorem zmi{p:Prop}[Decidable p]{A B:Prop}(h:p)(a:A):if decide p=true then A else B:=by rw[decide_eq_true h];exact zc2 a
theorem znd{p:Prop}[Decidable p]{A B:Prop}(h:¬p)(b:B):if decide p=true then A else B:=by rw[decide_eq_false h];exact zeE b
theorem zlQ{p:Prop}[Decidable p]{A B:Prop}(h:p)(b:B):if(!decide p)=true then A else B:=by rw[decide_eq_true h];exact zeE b
section
variable {α:Type}{f:α->List V}
noncomputable def IsTs (f:α->List V) (H:Hp):List V->List α->Prop
 | [],[]=>True
 | v :: vs,x :: xs=>(∃a,v=.ref a/\H a=some (.tup (f x)))/\IsTs f H vs xs
 | _,_=>False
noncomputable def zjC (H H':Hp):Prop:=∀a xs,H a=some (.tup xs)->H' a=some (.tup xs)
theorem Same.tups{H H':Hp}(e:Same H H'):zjC H H':=fun a xs h=>e a _ h
theorem LBut.tups{l:Addr}{H H':Hp}(e:LBut l H H'):zjC H H':=fun a xs h=>e.tup h
theorem IsTs.keep{H H':Hp}(e:zjC H H'):∀{vs:List V} {xs:List α},IsTs f H vs xs->IsTs f H' vs xs
 | [],[],_=>trivial
 | _ :: _,_ :: _,⟨⟨a,q,h⟩,r⟩=>⟨⟨a,q,e a _ h⟩,r.keep e⟩
theorem IsTs.same{H H':Hp}{vs:List V}{xs:List α}(h:IsTs f H vs xs)(e:Same H H'):IsTs f H' vs xs:=h.keep e.tups
theorem LBut.isTs{l:Addr}{H H':Hp}{vs:List V}{xs:List α}(e:LBut l H H')(h:IsTs f H vs xs):IsTs f H' vs xs:=h.keep e.tups
theorem IsTs.length{H:Hp}:∀{vs:List V} {xs:List α},IsTs f H vs xs->vs.length=xs.length
 | [],[],_=>rfl
 | _ :: _,_ :: _,⟨_,r⟩=>by rw[yM,yM,r.length]
theorem IsTs.app{H:Hp}{a:Addr}{x:α}(h:H a=some (.tup (f x))):∀{vs:List V} {xs:List α},IsTs f H vs xs->IsTs f H (vs++[.ref a]) (xs++[x])
 | [],[],_=>⟨⟨a,rfl,h⟩,trivial⟩
 | _ :: _,_ :: _,⟨q,r⟩=>⟨q,r.app h⟩
theorem IsTs.get{H:Hp}:∀{vs:List V} {xs:List α} {i:Nat} {v:V},IsTs f H vs xs->vs[i]?=some v->∃a x,v=.ref a/\xs[i]?=some x/\H a=some (.tup (f x))
 | _ :: _,x :: _,0,_,⟨⟨a,q,h⟩,_⟩,e=>by cases e;exact⟨a,x,q,rfl,h⟩
 | _ :: _,_ :: _,i+1,_,⟨_,r⟩,e=>by obtain⟨a,x,q,e',h⟩:=r.get (i:=i) e;exact⟨a,x,q,e',h⟩
theorem IsTs.getI{H:Hp}{vs:List V}{xs:List α}{i:Nat}{x:α}(h:IsTs f H vs xs)(e:xs[i]?=some x):∃a,vs[i]?=some (.ref a)/\H a=some (.tup (f x)):=by
 have hi:i<vs.length:=by rw[h.length];exact(yl.mp e).1
 obtain⟨v,hv⟩:=zN hi
 obtain⟨a,y,q,e',h'⟩:=h.get hv
 rw[e]at e';cases e'
 exact⟨a,by rw[hv,q],h'⟩
end
noncomputable def vec (n:Nat) (f:Nat->Int):List Int:=(List.range n).map f
theorem zJ{n:Nat}{f:Nat->Int}:(vec n f).length=n:=by simp[vec]
theorem zaL{n i:Nat}{f:Nat->Int}(h:i<n):(vec n f)[i]?=some (f i):=by simp[vec,h]
theorem zao{n:Nat}{f g:Nat->Int}(h:∀i,i<n->f i=g i):vec n f=vec n g:=by
 unfold vec;exact List.map_congr_left fun i hi=>h i (y8.mp hi)
theorem zlb{n j:Nat}{f:Nat->Int}{v:Int}:(vec n f).set j v=vec n (fun i=>if i=j then v else f i):=by
 refine yaN fun i=>?_
 rw[List.getElem?_set]
 by_cases hi:i<n
 ·rw[zaL hi,zaL hi,zJ]
  by_cases e:j=i
  ·subst e;simp[hi]
  ·rw[if_neg e,if_neg (yaj e)]
 ·have h1:(vec n f)[i]?=none:=by rw[yaq,zJ];omega
  have h2:∀g,(vec n g)[i]?=none:=fun g=>by rw[yaq,zJ];omega
  rw[h1,h2,zJ]
  by_cases e:j=i
  ·subst e;simp[hi]
  ·rw[if_neg e]
theorem zan{n:Nat}{f:Nat->Int}:vec (n+1) f=vec n f++[f n]:=by unfold vec;rw[List.range_succ,yw];rfl
theorem zlL{n:Nat}{c:Int}:List.replicate n (V.int c)=(vec n fun _=>c).map V.int:=by
 refine yaN fun i=>?_
 rw[yad,yg]
 by_cases hi:i<n
 ·rw[zaL hi,if_pos hi];rfl
 ·have h2:(vec n fun _=>c)[i]?=none:=by rw[yaq,zJ];omega
  rw[h2,if_neg hi];rfl
theorem zgX{ns:List Int}{k:Int}{v:Int}(h0:0<=k)(h:ns[k.toNat]?=some v):atI (ns.map V.int) k=some (.int v):=zaz h0 (by rw[yg,h];rfl)
theorem ziy{n:Nat}{f:Nat->Int}{k:Int}(h0:0<=k)(h:k<n):atI ((vec n f).map V.int) k=some (.int (f k.toNat)):=zgX h0 (zaL (by omega))
theorem zkm{ns:List Int}{j:Nat}{v:Int}:(ns.map V.int).set j (.int v)=(ns.set j v).map V.int:=by rw[List.map_set]
theorem zk8{n j:Nat}{f:Nat->Int}{v:Int}:((vec n f).map V.int).set j (.int v)=(vec n (fun i=>if i=j then v else f i)).map V.int:=by rw[zkm,zlb]
theorem zln{n:Nat}{f:Nat->Int}{k:Int}(h0:0<=k)(h:k<n):ixN ((vec n f).map V.int).length k=some k.toNat:=by
 rw[ya,zJ];exact zik h0 h
theorem zed{K:Fg}{H:Hp}:∀ns:List Int,RepAll K H (ns.map V.int) (ns.map PyData.int)
 | []=>.nil
 | n :: ns=>.cons (.int n) (zed ns)
theorem zeO:∀ns:List Int,PyData.depthAll (ns.map PyData.int)=0
 | []=>by simp[PyData.depthAll]
 | n :: ns=>by rw[yH,PyData.depthAll,zeO ns];simp[PyData.depth]
theorem zf5:∀ns:List Int,PyData.canLayAll0 (ns.map PyData.int)=true
 | []=>by simp[PyData.canLayAll0]
 | n :: ns=>by rw[yH,PyData.canLayAll0,zf5 ns];simp[PyData.canLay0]
theorem zhD{ds:List PyData}:(PyData.list ds).depth=PyData.depthAll ds+1:=by simp[PyData.depth];try omega
section
variable {H:Hp}{Q:VK}{K:Fg}
theorem ziJ{ns ms:List Int}(h:ns=ms):PyData.eqv (.list (ns.map PyData.int)) (.list (ms.map PyData.int))=true:=by
 subst h;exact yX _ (by rw[PyData.canLay0];exact zf5 ns)
theorem zko{a b:Addr}{ns ms:List Int}(h1:SqL K H a (ns.map V.int))(h2:SqL K H b (ms.map V.int))(e:ns=ms)(q:Q (.bl false) H):zbf K (.ref a) (.ref b) H Q:=
 zht (.lst h1 (zed ns)) (.lst h2 (zed ms)) (by rw[zhD,zeO];omega) (by rw[ziJ e];exact q)
end
section
variable {σ:St}{H:Hp}{Q:VK}{D:Ends}{K:Fg}
theorem zjI{l:Addr}{n:Nat}{f:Nat->Int}{k:Int}(h:H l=some (.lst ((vec n f).map V.int)))(h0:0<=k)(h1:k<n)(q:Q (.int (f k.toNat)) H):zbB K (.ref l) (.int k) H Q:=ziU (.of h) (ziy h0 h1) q
theorem zhl{l:Addr}{n:Nat}{f:Nat->Int}{k:Int}(h:H l=some (.lst ((vec n f).map V.int)))(h0:0<=k)(h1:k<n)(q:Q (.int (f k.toNat)) H):rIx K (.ref l) (.int k) H Q:=zew h (ziy h0 h1) q
theorem zjv{l:Addr}{n:Nat}{f:Nat->Int}{k v:Int}{R:Hp->Prop}(h:H l=some (.lst ((vec n f).map V.int)))(h0:0<=k)(h1:k<n)
  (q:∀H',LBut l H H'->H' l=some (.lst ((vec n fun i=>if i=k.toNat then v else f i).map V.int))->R H'):zeK (.ref l) (.int k) (.int v) H R:=by
 refine zaN h (zln h0 h1) fun H' b e=>q H' b ?_
 rw[e,zk8]
theorem ziA{a:Addr}{xs:List V}{i:Int}{v:V}(h:H a=some (.tup xs))(e:atI xs i=some v)(q:Q v H):rIx K (.ref a) (.int i) H Q:=znx (.of h) e q
theorem zj5{l:Addr}{c k:Int}(h:H l=some (.lst [.int c]))(h0:0<=k)(h1:k<=100000)(q:∀p H',H p=none->Same H H'->H' p=some (.lst ((vec k.toNat fun _=>c).map V.int))->Q (.ref p) H'):zdB (.ref l) (.int k) H Q:=
 zmb h h0 h1 fun p H' a b c=>q p H' a b (by rw[c,zlL])
theorem CompN.int{Sv:St->Prop}{D:Addr}{i:Nat}{σ':St}{H6:Hp}{f:Nat->Int}{v:Int}(sv:Sv σ')(e:Same H H6)(h:H6 D=some (.lst ((vec i f).map V.int++[.int v])))(hv:v=f i):CompN H Sv (fun i vs _=>vs=(vec i f).map V.int) D (i+1) σ' H6:=
 ⟨sv,e,_,h,by simp[zJ],by show _++[V.int v]=List.map V.int (vec (i+1) f);rw[hv,zan,yw];rfl⟩
end
theorem zlr{H:Hp}{Q:VK}{σ:St}{lo:Int}{n:Nat}{caps:List (Option Nat)}{c:Int}{rest:St}(hc:za9 caps σ=none :: rest)(hn:n<=100000)(q:∀p H',H p=none->Same H H'->H' p=some (.lst ((vec n fun _=>c).map V.int))->Q (.ref p) H'):zb2 (Itr lo n) caps (zco 0) zd4 (tC (.int c)) σ Q H:=by
 refine zah zcs (fun _ _=>trivial) hc (fun i vs _=>vs=(vec i fun _=>c).map V.int) (fun _ _=>rfl) ?_ ?_
 ·rintro i x D vs o H' H2 hi hD e hv hvl rfl e2 rfl
  refine zhj (zkO (zc2 (x_c (zbE (e2.at hv) (by omega) fun H6 b h6=>?_))))
  exact CompN.int ⟨_,rfl⟩ (b.same (e.trans e2) hD) h6 rfl
 ·rintro D H' vs hD e hv hvl rfl
  exact q D H' hD e hv
set_option genInjectivity false in
set_option genSizeOf false in
structure Due where
 p:Int
 q:Int
 r:Int
 a:Int
section
variable {K:Fg}{H:Hp}{Q:VK}{E:XK}{n:Int}{a:Addr}{ds:List Due}
end
noncomputable def Rows (H:Hp) (as:List Addr) (k:Nat) (F:Nat->Nat->Int):Prop:=as.Nodup/\∀i a,as[i]?=some a->H a=some (.lst ((vec k (F i)).map V.int))
section
variable {H H':Hp}{as bs:List Addr}{k:Nat}{F G:Nat->Nat->Int}{K:Fg}{Q:VK}
theorem Rows.same(h:Rows H as k F)(e:Same H H'):Rows H' as k F:=⟨h.1,fun i a q=>e _ _ (h.2 i a q)⟩
theorem Rows.mem(h:Rows H as k F){a:Addr}(m:a∈as):∃i,i<as.length/\as[i]?=some a/\H a=some (.lst ((vec k (F i)).map V.int)):=by
 obtain⟨i,hi,e⟩:=yZ m
 have:as[i]?=some a:=by rw[yl];exact⟨hi,e⟩
 exact⟨i,hi,this,h.2 i a this⟩
theorem Rows.but{l:Addr}(h:Rows H as k F)(g:LBut l H H')(n:l∉as):Rows H' as k F:=
 ⟨h.1,fun i a q=>g.lst (h.2 i a q) fun z=>n (z▸yp q)⟩
theorem Same.rows(e:Same H H')(h:Rows H as k F):Rows H' as k F:=h.same e
theorem zcl{i j:Nat}{a:Addr}(n:as.Nodup)(h:as[i]?=some a)(h':as[j]?=some a):i=j:=by
 obtain⟨hi,e⟩:=yl.mp h
 obtain⟨hj,e'⟩:=yl.mp h'
 exact(List.getElem_inj n).mp (e.trans e'.symm)
theorem Rows.set{j:Nat}{a:Addr}{f:Nat->Int}(h:Rows H as k F)(g:LBut a H H')(ha:as[j]?=some a)(q:H' a=some (.lst ((vec k f).map V.int))):Rows H' as k (fun i=>if i=j then f else F i):=by
 refine⟨h.1,fun i b hb=>?_⟩
 by_cases e:i=j
 ·subst e
  rw[ha]at hb;cases hb
  show H' a=some (.lst ((vec k (if i=i then f else F i)).map V.int))
  rw[if_pos rfl];exact q
 ·show H' b=some (.lst ((vec k (if i=j then f else F i)).map V.int))
  rw[if_neg e]
  refine g.lst (h.2 i b hb) fun z=>e ?_
  subst z
  exact zcl h.1 hb ha
theorem Rows.congr(h:Rows H as k F)(e:∀i,i<as.length->∀j,j<k->F i j=G i j):Rows H as k G:=by
 refine⟨h.1,fun i a q=>?_⟩
 have hi:i<as.length:=(yl.mp q).1
 rw[h.2 i a q,zao fun j hj=>e i hi j hj]
theorem Rows.app{p:Addr}(h:Rows H as k F)(n:p∉as)(hp:H p=some (.lst ((vec k (F as.length)).map V.int))):Rows H (as++[p]) k F:=by
 refine⟨yY.mpr ⟨h.1,by simp,fun a ha b hb e=>n (by rw[yt]at hb;subst hb;subst e;exact ha)⟩,fun i a q=>?_⟩
 rw[yao]at q
 split at q
 ·exact h.2 i a q
 ·rename_i hi
  have hi':i-as.length=0:=by
   cases e:i-as.length with
   | zero=>rfl
   | succ m=>rw[e]at q;cases q
  rw[hi']at q;cases q
  have:i=as.length:=by omega
  subst this;exact hp
theorem Rows.ne{D:Addr}(h:Rows H as k F)(hk:0<k)(hD:H D=some (.lst (as.map V.ref))):D∉as:=fun m=>by
 obtain⟨i,hi,q,e⟩:=h.mem m
 rw[hD]at e
 have e':as.map V.ref=(vec k (F i)).map V.int:=by simpa using e
 cases as with
 | nil=>cases m
 | cons x xs=>
  cases k with
  | zero=>omega
  | succ k=>
   have:=congrArg (·[0]?) e'
   simp[vec]at this
theorem Rows.fresh{p:Addr}(h:Rows H as k F)(hp:H p=none):p∉as:=fun m=>by
 obtain⟨i,_,_,e⟩:=h.mem m
 rw[hp]at e;cases e
theorem zlv{l a:Addr}{p:Int}(h:H l=some (.lst (as.map V.ref)))(h0:0<=p)(e:as[p.toNat]?=some a)(q:Q (.ref a) H):rIx K (.ref l) (.int p) H Q:=zew h (zaz h0 (by rw[yg,e];rfl)) q
end
noncomputable def znT (ds:List Due) (m r:Nat):Int:=ds.foldl (fun(s:Int) (d:Due)=>if d.p=(m:Int)/\d.r=(r:Int)then s+d.a else s) 0
noncomputable def zfV (ds:List Due) (m:Nat->Int):List Due:=ds.mapIdx fun i d=>⟨d.p,d.q,d.r,m i⟩
theorem zgA{ms:List Int}{i:Nat}(h:i<ms.length):ms[i]?=some (ms.getD i 0):=by rw[yh,yq h];rfl
end Internal
namespace My
noncomputable def sumTo (f:Nat->Int):Nat->Int
 | 0=>0
 | n+1=>sumTo f n+f n
section
variable (ch:Nat->Bool)(x:Nat->Int)(L:Int)
noncomputable def rest:Nat->Int
 | 0=>L
 | i+1=>if ch i=true/\rest i>0 then rest i-1 else rest i
noncomputable def more (i:Nat):Int:=if ch i=true/\rest ch L i>0 then x i+1 else x i
variable {ch x L}
end
end My
namespace Internal
open PySem PySem.Spec PyProof.Rows
theorem zd6(f:Nat->Int):∀n,zbo (vec n f)=My.sumTo f n
 | 0=>rfl
 | n+1=>by rw[zan,zcj,zd6 f n];rfl
theorem zkY{k m:Int}(h0:0<=k)(h:k<=m):k*k<=m*m:=Int.mul_le_mul h h h0 (by omega)
noncomputable def zfc (K:Fg):Sp:=fun vs H Q _=>∃(a:Addr) (ns:List Int) (k:Int),vs=[.ref a,.int k]/\SqL K H a (ns.map V.int)/\0<=k/\∀i,Q (.int i) H
def zjq:=fun {K:Fg} {a:Addr} {ns:List Int} {k:Int} {H:Hp} {Q:VK} {E:XK} hS h0 q=>@id (zfc K [.ref a,.int k] H Q E) ⟨a,ns,k,rfl,hS,h0,q⟩
noncomputable def zeZ (K:Fg):Sp:=fun vs H Q _=>∃(a:Addr) (ns:List Int) (k m:Int),vs=[.ref a,.int k,.int m]/\SqL K H a (ns.map V.int)/\0<=k/\k<=10000/\1<=m/\∀i,0<=i->i<m->Q (.int i) H
def ziV:=fun {K:Fg} {a:Addr} {ns:List Int} {k m:Int} {H:Hp} {Q:VK} {E:XK} hS h0 h1 hm q=>@id (zeZ K [.ref a,.int k,.int m] H Q E) ⟨a,ns,k,m,rfl,hS,h0,h1,hm,q⟩
noncomputable def zd2 (K:Fg):Sp:=fun vs H Q _=>∃(a:Addr) (ns:List Int) (k m:Int),vs=[.ref a,.int k,.int m]/\SqL K H a (ns.map V.int)/\0<=k/\k<=10000/\1<=m/\m<=1000000000000000000000000000000000000000000000000000000000000/\∀i,0<=i->i<m->Q (.int i) H
def zh3:=fun {K:Fg} {a:Addr} {ns:List Int} {k m:Int} {H:Hp} {Q:VK} {E:XK} hS h0 h1 hm hm' q=>@id (zd2 K [.ref a,.int k,.int m] H Q E) ⟨a,ns,k,m,rfl,hS,h0,h1,hm,hm',q⟩
noncomputable def zjm (c:Int) (n:Nat) (b:Nat->Int):Nat->Int:=if My.sumTo b n=0 then fun _=>0 else My.more (fun i=>decide (c*b i%My.sumTo b n>0)) (fun i=>c*b i/My.sumTo b n) (c-My.sumTo (fun i=>c*b i/My.sumTo b n) n)
theorem zkJ{K:Fg}{H:Hp}{Q:VK}{σ:St}{a:Addr}{xs:List V}{caps:List (Option Nat)}{c:Int}{rest:St}(hS:SqL K H a xs)(hc:za9 caps σ=none :: rest)(hn:xs.length<=100000)(q:∀p H',H p=none->Same H H'->H' p=some (.lst ((vec xs.length fun _=>c).map V.int))->Q (.ref p) H'):zb2 (Itl K a) caps (zco 0) zd4 (tC (.int c)) σ Q H:=by
 refine zah (zaO (K:=K) (a:=a) (xs:=xs)) (fun H' e=>e.seq hS) hc (fun i vs _=>vs=(vec i fun _=>c).map V.int) (fun _ _=>rfl) ?_ ?_
 ·rintro i x D vs o H' H2 hi hD e hv hvl rfl e2 hx
  refine zhj (zkO (zc2 (x_c (zbE (e2.at hv) (by omega) fun H6 b h6=>?_))))
  exact CompN.int ⟨_,rfl⟩ (b.same (e.trans e2) hD) h6 rfl
 ·rintro D H' vs hD e hv hvl rfl
  exact q D H' hD e hv
theorem zT{P:Program}{w:World}{K:Fg}{mg:Str->Option Value}{base:Heap}{N:List Str}{qual:Str}{scope:Scope}{f:Addr}{cd:Value}{A:Around}{outer:List Env}{s:Shared}{H:Hp}{E:XK} :
  zb8 (CXF P w) (zaq (CXF P w) P w K mg base N qual scope f cd A outer s H E) E:=by
 intro pins σ H1 s1 e s2 I hx
 obtain⟨er,C,t,B,H',rfl,F,ex⟩:=hx
 have fr:=I.stack
 have nfr:∀b o,s.heap.get? b=some o->b∉frs outer->b∉frs (envOfC qual scope s.heap.objs.size f cd :: outer):=fun b o q n z=>by
  rcases ye.mp (show b∈s.heap.objs.size :: frs outer from z)with z | z
  ·exact ym (Heap.lt_size q) z
  ·exact n z
 have sub:∀b∈frs outer,b∈frs (envOfC qual scope s.heap.objs.size f cd :: outer):=fun b hb=>yD _ hb
 show wpAny (model P w) (A.deeper (envOfC qual scope s.heap.objs.size f cd)) (leaving (envOfC qual scope s.heap.objs.size f cd) (.ref er)) _ _ _
 refine wpAny_mono (DK.any (E:=fun _ _=>False) (Q:=fun _ s''=>Bare er s''->CXF P w outer H s E (.ref er) s'') (zeF _ _) F.nod ?_) (fun _ s'' q=>q.1 q.2) fun _ _ q=>q.1.elim
 refine wpAny_leaves_onW (L:=s.heap.objs.size) I.ok.frames rfl F.fly fun h'' fly up b1=>?_
 have u2:=F.unAt fr fly.1 up
 refine⟨er,C,t,B,H',rfl,⟨F.os.trans I.os,F.bare,⟨fun b o q n hb _=>?_,fun b o q n hb _=>?_,fun b o q n _=>?_,fun b o q _=>?_,fun b xs q=>u2.tups b xs (I.base.tups b xs q),fun b o xs q=>u2.frzs b o xs (I.base.frzs b o xs q),fun b ps q=>?_⟩,F.hokAt fly.1,fly,fun b o q n hb=>?_,fun b o q hb=>?_,fun b o u q e=>?_,b1⟩,ex⟩
 ·exact u2.keep b o (I.base.keep b o q n hb (by simp[zaq])) (I.base.free b o q n (by simp[zaq])) (nfr b o q hb) (by simp)
 ·obtain⟨sl,e1⟩:=I.base.slot b o q n hb (by simp[zaq])
  obtain⟨sl',e2⟩:=u2.slot b _ e1 (I.base.free b o q n (by simp[zaq])) (sub b hb) (by simp)
  exact⟨sl',e2⟩
 ·obtain⟨o1,e1⟩:=I.base.there b o q (by simp[zaq])
  exact u2.free b o1 e1 (I.base.free b o q n (by simp[zaq])) (by simp)
 ·obtain⟨o1,e1⟩:=I.base.there b o q (by simp[zaq])
  exact u2.there b o1 e1 (by simp)
 ·obtain⟨m1,e1⟩:=I.base.tbls b ps q
  obtain⟨m2,e2⟩:=u2.tbls b _ e1
  exact⟨m1++m2,by rw[e2,Array.append_assoc]⟩
 ·exact F.old b o (I.base.keep b o q n hb (by simp[zaq])) (I.base.free b o q n (by simp[zaq])) (nfr b o q hb)
 ·obtain⟨o1,e1⟩:=I.base.there b o q (by simp[zaq])
  exact F.has b o1 e1 (nfr b o q hb)
 ·obtain⟨u1,e1⟩:=(F.hok b o q).obj
  have z:=F.trk b o u1 q e1
  have z2:=fly.1 b u1 z
  have e':h''.get? b=some u:=e
  rw[z2]at e';cases e'
  exact z
noncomputable def zes (X:Cx) (pins:List (Addr × Obj)) (Eh:Addr->St->Hp->Prop):Value->Shared->Prop:=fun e s'=>∃σ' H1 s1 er C t B H',Inv X pins σ' H1 s1/\e=.ref er/\Fly X.prog X.w X.stack H1 s1 H' er C t B s'/\Eh C σ' H'
abbrev TEr:=St->Hp->VK->(Addr->Hp->Prop)->Prop
abbrev TTr:=Ends->(Addr->St->Hp->Prop)->St->Hp->Prop
noncomputable def PEr (X:Cx) (e:Expr) (t:TEr):Prop:=∀(pins:List (Addr × Obj)) (s:Shared) (σ:St) (H:Hp) (Q:VK) (Eh:Addr->Hp->Prop),Inv X pins σ H s->t σ H Q Eh->wpAny (model X.prog X.w) X.A (eval e X.env) (EP X pins σ Q) (zes X pins fun C σ' H'=>σ'=σ/\Eh C H') s
noncomputable def PTr (X:Cx) (st:Stmt) (t:TTr):Prop:=∀(pins:List (Addr × Obj)) (s:Shared) (σ:St) (H:Hp) (D:Ends) (Eh:Addr->St->Hp->Prop),Inv X pins σ H s->t D Eh σ H->wpAny (model X.prog X.w) X.A (exec st X.env) (SP X pins D) (zes X pins Eh) s
noncomputable def zmY (X:Cx) (ss:List Stmt) (t:TTr):Prop:=∀(pins:List (Addr × Obj)) (s:Shared) (σ:St) (H:Hp) (D:Ends) (Eh:Addr->St->Hp->Prop),Inv X pins σ H s->t D Eh σ H->wpAny (model X.prog X.w) X.A (execs ss X.env) (SP X pins D) (zes X pins Eh) s
section
variable {X:Cx}{pos:Pos}
noncomputable def zi4 (sp:Sp) (ta:TA):TEr:=fun σ H Q Eh=>ta σ H fun vs H1=>sp vs H1 Q fun cls _ H2=>∃C,cls=.ref C/\Eh C H2
theorem zkn{k:Nat}{f:Addr}{fd:FuncData}{ps:List Str}{sp:Sp}{x:Str}{p cp:Pos}{e:Expr}{es:List Expr}{ta:TA}(F:FnOk X.prog X.w X.K X.mg X.base (CXF X.prog X.w) k f fd ps sp)(hr:Room k X.A)(hgf:Gl X x)(hmf:X.mg x=some (.ref f))(hk:PySem.W.keepIn X.K (.ref f)=true)(hb:Binds X.K fd ps [])
  (ha:PA X.nox (e :: es) ta) (hdf:autoParam ((x == ("__debug__" : Str))=false) Internal.aut1._auto_1) (he:autoParam (starEach (e :: es) X.env=(false,eval e X.env) :: starEach es X.env) Internal.aut2._auto_1) (hpl:autoParam ((backTo cp (starEach es X.env)).any (·.1)=false) Internal.aut2._auto_1):PEr X (.Call (.Name x p) (e :: es) [] cp) (zi4 sp ta):=by
 intro pins s σ H Q Eh I h
 refine wpAny_Call_Name_kw (zbN I hgf hmf ?_ hdf)
 refine yae (h₀:=X.base) I.ok.mod.kin hk (wpAny_mono (ha cp pins s σ H _ (I.wish _) h) (fun us s1 q=>?_) fun _ _ z=>z.elim) he hpl
 obtain⟨vs,H1,J1,r,q⟩:=q
 have I1:=J1.unwish
 refine⟨I1.kIn,?_⟩
 have hlen:us.length=ps.length:=by rw[<- r.length];exact F.len _ _ _ _ q
 have hbd:=hb s1 us I1.kIn (by rw[yQ];exact hlen)
 rw[yQ]at hbd
 refine wpAny_call (codeAny_mono (F.run X.A X.stack s1 H1 ⟨us,[]⟩ us vs _ _ hr I1.env0 hbd r q) fun res s' hq=>?_)
 cases res with
 | error er0=>
  obtain⟨er,C,t,B,H2,rfl,fl,C',ec,hh⟩:=hq
  cases ec
  exact⟨σ,H1,s1,er,C,t,B,H2,I1,rfl,fl,rfl,hh⟩
 | ok fw=>
  cases fw with
  | ret u=>exact I1.after hq
  | next=>exact hq.elim
  | brk=>exact hq.elim
  | cont=>exact hq.elim
abbrev zoA(te:TEr):TTr:=fun D Eh σ H=>te σ H (fun _ H2=>D.nx σ H2) fun C H2=>Eh C σ H2
abbrev zoG(c:TT)(t u:TTr):TTr:=fun D Eh σ H=>c σ H fun b H1=>if b=true then t D Eh σ H1 else u D Eh σ H1
abbrev zoD:TTr:=fun D _ σ H=>D.nx σ H
theorem zkE{st:Stmt}{t:TTr}(h:PTr X st t):zmY X [st] t:=by
 intro pins s σ H D Eh I q
 refine wpAny_execs_cons (wpAny_mono (h pins s σ H D Eh I q) (fun f s1 z=>?_) fun _ _ z=>z)
 cases f with
 | next=>exact wpAny_execs_nil z
 | _=>exact z
noncomputable def zhY (K:Fg) (CQ:Addr) (i:Nat) (tb:TTr) (th:TS):TS:=fun D σ H=>tb D (fun C σ' H2=>∃C',Value.ref C=.ref C'/\PySem.W.exmOne K (.ref C') (.ref CQ)=some true/\∀er,H2 er=none->th (D.gone i) (σ'.set i (some (.ref er))) (upd H2 er (zbk er C'))) σ H
theorem zlt{CQ:Addr}{qn n:Str}{qp hp:Pos}{body:List Stmt}{tb:TTr}{b0:Stmt}{suite:List Stmt}{i:Nat}{th:TS}(hst:X.stack=X.env :: X.outer/\X.env.frame=some X.env.locals)(hbd:zmY X body tb)
  (hg:Gl X qn) (hm:X.mg qn=some (.ref CQ)) (hN:X.N.Nodup) (hi:X.N[i]?=some n) (hl:X.env.kindOf n=some .local) (hth:∀er,PSs (X.inH er) (b0 :: suite) th) (hdb:autoParam ((qn == ("__debug__" : Str))=false) Internal.aut1._auto_1) :
  PS X (.Try body [.ExceptHandler (some (.Name qn qp)) (some n) (b0 :: suite) hp] [] [] pos) (zhY X.K CQ i tb th):=by
 intro pins s σ H D I h
 refine wpAny_Try_except (wpAny_mono (hbd pins s σ H D _ I h) (fun f s1 z=>?_) fun e s1 z=>?_)
 ·cases f with
  | next=>exact wpAny_execs_nil z
  | _=>exact z
 ·obtain⟨σ',H1,s2,er,C,t,B,H',I',rfl,fl,C',ec,hx,hh⟩:=z
  cases ec
  exact taken hst I' fl hg hm hx hN hi hl (hth er) (hh er fl.noTrk) hdb
end
section
variable {σ:St}{H:Hp}{Q:VK}{D:Ends}{K:Fg}{Eh:Addr->Hp->Prop}{Eg:Addr->St->Hp->Prop}
theorem zl8{CQ:Addr}{i:Nat}{tb:TTr}{th:TS}(q:tb D (fun C σ' H2=>∃C',Value.ref C=.ref C'/\PySem.W.exmOne K (.ref C') (.ref CQ)=some true/\∀er,H2 er=none->th (D.gone i) (σ'.set i (some (.ref er))) (upd H2 er (zbk er C'))) σ H):zhY K CQ i tb th D σ H:=q
theorem zlm{sp:Sp}{ta:TA}(q:ta σ H fun vs H1=>sp vs H1 Q fun cls _ H2=>∃C,cls=.ref C/\Eh C H2):zi4 sp ta σ H Q Eh:=q
end
theorem BT.range:bootBuiltins "range" = some (.type "range"):=by decide +kernel
section
variable {X:Cx}
theorem zfj:∀ns:List Int,(ns.map V.int).all zbQ=true
 | []=>rfl
 | n :: ns=>by rw[yH,yav,zfj ns];rfl
noncomputable def zjd:V->List V->Hp->VK->Prop:=fun x vs H Q=>∃(l:Addr) (ns:List Int) (k:Int) (j:Nat),x=.ref l/\vs=[.int k]/\H l=some (.lst (ns.map V.int))/\ns[j]?=some k/\(∀m,m<j->ns[m]?≠some k)/\ns.length<=100000/\Q (.int j) H
theorem zkw:MtM X "list.index" zjd:=by
 intro pins s σ H x vs v us Q I rx rv h
 obtain⟨l,ns,k,j,rfl,rfl,hH,hj,hno,hz,q⟩:=h
 cases rx
 obtain⟨u,rfl,ru⟩:=rv.one
 obtain⟨z,its,n,r,hl,e⟩:=I.lstM hH
 have hjl:j<ns.length:=(yl.mp hj).1
 have hil:its.length=ns.length:=by have:=r.length;rw[ya]at this;exact this.symm
 have at':∀m (hm:m<its.length),eqU (.int k) its[m]=(ns[m]'(by omega) == k):=fun m hm=>by
  obtain⟨w,hw,rw'⟩:=r.get (show(ns.map V.int)[m]?=some (.int (ns[m]'(by omega))) by simp[show m<ns.length by omega])
  have:its[m]=w:=by
   rw[yq hm]at hw;exact yn hw
  rw[this,zgp rw' rfl];rfl
 refine call_meets F.slot_list_index ⟨_,e,rfl⟩ F.entry_list_index (F.args_list_index_2 _ _) (SeqAt.list_indexAt l its.toArray n none #[] u (eqU (.int k)) j (by simp;omega) (by omega) ?_ (fun m hm hlt=>?_)) ⟨e,fun y hy=>zbP ru rfl r (zfj ns) y (by simpa using hy),⟨.int j,H,I.tok _,⟨_,rfl⟩,q⟩⟩
 ·have:=at' j (by omega)
  simp only[List.getElem_toArray]
  rw[this]
  have e':ns[j]=k:=by rw[yq hjl]at hj;exact yn hj
  rw[e'];simp
 ·have hm':m<its.length:=by simpa using hm
  simp only[List.getElem_toArray]
  rw[at' m hm']
  have:ns[m]'(by omega)≠k:=fun z=>hno m hlt (by rw[yq (by omega),z])
  simp[this]
noncomputable def zeq:List V->Hp->VK->Prop:=fun vs H Q=>∃j:Int,vs=[.int j]/\∀p,H p=none->Q (.ref p) (upd H p (.rng 0 j))
theorem zgQ:CallR X (.type "range") zeq:=by
 intro pins s σ H xs us Q I r h
 obtain⟨j,rfl,q⟩:=h
 obtain⟨u,rfl,t,rfl⟩:=vals1 r
 refine call_range_1 ?_
 have J:Inv X pins σ (upd H s.heap.objs.size (.rng 0 j)) { s with heap:=s.heap.push { cls:=.type "range",data:=.fields #[.int 0 s.toks,.int j t,.int 1 (s.toks+1)] },toks:=s.toks+1+1 }:=I.laid (fun b o e=>Heap.get?_push_of_some _ e) (yf _) ⟨_,_,_,Heap.get?_push_size _ rfl⟩
 exact⟨.ref s.heap.objs.size,_,J,rfl,q _ (I.hok.fresh (yf _))⟩
end
section
variable {H:Hp}{Q:VK}{K:Fg}
theorem zkl{j:Int}(q:∀p H',H p=none->Same H H'->H' p=some (.rng 0 j)->Q (.ref p) H'):zeq [.int j] H Q:=⟨j,rfl,fun p hp=>q p _ hp (Same.new hp _) zH⟩
theorem zlp{l:Addr}{ns:List Int}{k:Int}{j:Nat}(h:H l=some (.lst (ns.map V.int)))(hj:ns[j]?=some k)(hno:∀m,m<j->ns[m]?≠some k)(hz:ns.length<=100000)(q:Q (.int j) H):zjd (.ref l) [.int k] H Q:=⟨l,ns,k,j,rfl,rfl,h,hj,hno,hz,q⟩
end
noncomputable def zon:Option Nat->V
 | none=>.non
 | some i=>.int i
noncomputable def zoi (n:Nat) (w:Nat->Option Nat):List V:=(List.range n).map fun m=>zon (w m)
noncomputable def useful (g:Nat->Bool) (m:Nat) (d:Due):Prop:=d.p=(m:Int)/\0<d.a/\g d.p.toNat=true/\g d.q.toNat=true
instance {g:Nat->Bool} {m:Nat} {d:Due}:Decidable (useful g m d):=by unfold useful;infer_instance
noncomputable def zhN (ds:List Due) (g:Nat->Bool):Nat->Nat->Option Nat
 | 0,_=>none
 | i+1,m=>match ds[i]? with
  | some d=>if useful g m d then some i else zhN ds g i m
  | none=>zhN ds g i m
noncomputable def goF (ds:List Due):Nat->Nat->Bool
 | 0,_=>true
 | t+1,m=>(zhN ds (goF ds t) ds.length m).isSome
noncomputable def zf7 (ds:List Due):Nat->Nat->Option Nat
 | 0,_=>none
 | t+1,m=>zhN ds (goF ds t) ds.length m
set_option genInjectivity false in
set_option genSizeOf false in
structure Lined(n:Nat)(ds:List Due)(ls:List Int):Prop where
 nd:ls.Nodup
 lt:∀x∈ls,0<=x/\x<n
 up:∀d∈ds,0<d.a->∀j:Nat,ls[j]?=some d.q->∃i:Nat,i<j/\ls[i]?=some d.p
noncomputable def fwd (seed:Int) (m:Nat):Int:=((m:Int)*5+seed)%11
open PySem PySem.W PyProof.Rows
section
variable {n:Nat}{kf:Nat->Int}
noncomputable def TOk (n:Nat) (kf:Nat->Int) {α:Type}:KasT α->(α->Prop)->Prop
 | .ret a,Q=>Q a
 | .ask i j k,Q=>i<n/\j<n/\TOk n kf (k (decide (kf i<kf j))) Q
theorem TOk.bind{α β:Type}{f:α->KasT β}{Q:β->Prop}:∀{t:KasT α},TOk n kf t (fun a=>TOk n kf (f a) Q)->TOk n kf (t.bind f) Q
 | .ret _,h=>h
 | .ask i j k,h=>⟨h.1,h.2.1,TOk.bind (t:=k (decide (kf i<kf j))) h.2.2⟩
theorem TOk.mono{α:Type}{Q Q':α->Prop}(hq:∀a,Q a->Q' a):∀{t:KasT α},TOk n kf t Q->TOk n kf t Q'
 | .ret a,h=>hq a h
 | .ask i j k,h=>⟨h.1,h.2.1,TOk.mono hq (t:=k (decide (kf i<kf j))) h.2.2⟩
theorem TOk.wp{α:Type}{cmp:Nat->Nat->(Bool->Shared->Prop)->Shared->Prop}{Q:α->Shared->Prop}{s:Shared}(hc:∀i j (C:Bool->Shared->Prop),i<n->j<n->C (decide (kf i<kf j)) s->cmp i j C s):∀{t:KasT α},TOk n kf t (fun a=>Q a s)->t.kasWp cmp Q s
 | .ret _,h=>h
 | .ask i j k,h=>hc i j _ h.1 h.2.1 (TOk.wp hc (t:=k (decide (kf i<kf j))) h.2.2)
noncomputable def KP (kf:Nat->Int) (p:Array Nat) (i:Nat):Int:=kf (p.getD i 0)
noncomputable def PermR (n:Nat) (p:Array Nat):Prop:=p.toList.Perm (List.range n)
theorem PermR.size{p:Array Nat}(h:PermR n p):p.size=n:=by
 have:=h.length_eq
 rwa [yaa,y6]at this
theorem PermR.lt{p:Array Nat}(h:PermR n p)(hn:0<n)(i:Nat):p.getD i 0<n:=by
 by_cases hi:i<p.size
 ·have:p.getD i 0=p[i]:=by simp[Array.getD,hi]
  rw[this]
  have hm:p[i]∈p.toList:=by simp
  exact y8.mp (h.mem_iff.mp hm)
 ·have:p.getD i 0=0:=by simp[Array.getD,hi]
  rw[this];exact hn
theorem PermR.of{p q:Array Nat}(h:PermR n p)(hq:q.Perm p):PermR n q:=(Array.perm_iff_toList_perm.mp hq).trans h
theorem zbx{p q:Array Nat}{i j:Nat}(h:p[i]?=q[j]?):p.getD i 0=q.getD j 0:=by
 rw[yam,yam,h]
theorem zer{p:Array Nat}{i j:Nat}(hj:j<=p.size)(k:Nat):KP kf (kas_rev p i j) k=if i<=k/\k<j then KP kf p (i+j-1-k)else KP kf p k:=by
 have e:=getElem?_mirror_all (i:=i) hj k
 unfold kas_rev KP
 by_cases h:i<=k/\k<j
 ·rw[if_pos h]at e ⊢;rw[zbx e]
 ·rw[if_neg h]at e ⊢;rw[zbx e]
theorem zb9{p:Array Nat}{i j:Nat}(h:PermR n p):PermR n (kas_rev p i j):=h.of (mirror_perm _ _ _ _)
theorem zfo{p:Array Nat}{src d:Nat}(hs:src<p.size)(hd:d<=src)(k:Nat):KP kf (bubble p src d) k=if k=src-d then KP kf p src else if src-d<k/\k<=src then KP kf p (k-1)else KP kf p k:=by
 have e:=getElem?_bubble hs d hd k
 unfold KP
 by_cases h1:k=src-d
 ·rw[if_pos h1]at e ⊢;rw[zbx e]
 ·rw[if_neg h1]at e ⊢
  by_cases h2:src-d<k/\k<=src
  ·rw[if_pos h2]at e ⊢;rw[zbx e]
  ·rw[if_neg h2]at e ⊢;rw[zbx e]
noncomputable def Up (kf:Nat->Int) (p:Array Nat) (k:Nat):Prop:=∀i j,i<=j->j<k->KP kf p i<=KP kf p j
noncomputable def Down (kf:Nat->Int) (p:Array Nat) (k:Nat):Prop:=∀i j,i<=j->j<k->KP kf p j<=KP kf p i
theorem Up.steps{p:Array Nat}{a:Nat}:∀(b:Nat),Up kf p a->(∀i,a<=i->i<b->1<=i->KP kf p (i-1)<=KP kf p i)->Up kf p b
 | 0,_,_=>fun i j _ h=>by omega
 | b+1,hu,hs=>by
  by_cases hb:b+1<=a
  ·exact fun i j h1 h2=>hu i j h1 (by omega)
  ·have ih:=Up.steps b hu (fun i h1 h2 h3=>hs i h1 (by omega) h3)
   intro i j h1 h2
   by_cases hj:j=b
   ·subst hj
    by_cases hi:i=j
    ·subst hi;exact yW _
    ·exact Int.le_trans (ih i (j-1) (by omega) (by omega)) (hs j (by omega) (by omega) (by omega))
   ·exact ih i j h1 (by omega)
theorem zgq{p:Array Nat}(hp:PermR n p)(h0:0<n):∀(f m:Nat),1<=m->TOk n kf (kas_asc p f m) fun r=>m<=r/\r<=m+f/\(∀i,m<=i->i<r->KP kf p (i-1)<=KP kf p i)/\(r<m+f->KP kf p r<KP kf p (r-1))
 | 0,m,_=>⟨yf _,by omega,fun i h1 h2=>by omega,fun h=>by omega⟩
 | f+1,m,hm=>by
  refine⟨hp.lt h0 _,hp.lt h0 _,?_⟩
  by_cases h:KP kf p m<KP kf p (m-1)
  ·rw[show decide (kf (p.getD m 0)<kf (p.getD (m-1) 0))=true from decide_eq_true h];dsimp only;rw[if_pos rfl]
   exact⟨yf _,by omega,fun i h1 h2=>by omega,fun _=>h⟩
  ·rw[show decide (kf (p.getD m 0)<kf (p.getD (m-1) 0))=false from decide_eq_false h];dsimp only;rw[if_neg yj]
   refine TOk.mono (fun r hr=>?_) (zgq hp h0 f (m+1) (by omega))
   obtain⟨r1,r2,r3,r4⟩:=hr
   refine⟨by omega,by omega,fun i h1 h2=>?_,fun h=>r4 (by omega)⟩
   by_cases e:i=m
   ·subst e;exact yaO.mp h
   ·exact r3 i (by omega) h2
noncomputable def zjW (kf:Nat->Int) (p:Array Nat) (k q:Nat):Prop:=q+1<=k/\∀i,k-(q+1)<=i->i<k->KP kf p i=KP kf p (k-1)
theorem zf6{p:Array Nat}{k q:Nat}(hk:k<=p.size)(ht:zjW kf p k q)(i:Nat):KP kf (kas_rev p (k-(q+1)) k) i=KP kf p i:=by
 rw[zer hk]
 have:=ht.1
 split
 ·rw[ht.2 _ (by omega) (by omega),ht.2 i (by omega) (by omega)]
 ·rfl
theorem Down.congr{p p':Array Nat}{k:Nat}(h:Down kf p k)(e:∀i,KP kf p' i=KP kf p i):Down kf p' k:=fun i j h1 h2=>by rw[e,e];exact h i j h1 h2
theorem Down.more{p:Array Nat}{k:Nat}(h:Down kf p k)(hk:1<=k)(hl:KP kf p k<=KP kf p (k-1)):Down kf p (k+1):=fun i j h1 h2=>by
 by_cases hj:j=k
 ·subst hj
  by_cases hi:i=j
  ·subst hi;exact yW _
  ·exact Int.le_trans hl (h i (j-1) (by omega) (by omega))
 ·exact h i j h1 (by omega)
theorem zdw(h0:0<n):∀(f:Nat) (p:Array Nat) (m q:Nat),PermR n p->1<=m->m+f<=n->Down kf p m->zjW kf p m q->TOk n kf (kas_desc f p m q) fun r=>PermR n r.1/\m<=r.2.1/\r.2.1<=m+f/\Down kf r.1 r.2.1/\zjW kf r.1 r.2.1 r.2.2
 | 0,p,m,q,hp,_,_,hd,ht=>⟨hp,yf _,by show m<=m+0;omega,hd,ht⟩
 | f+1,p,m,q,hp,hm,hf,hd,ht=>by
  refine⟨hp.lt h0 _,hp.lt h0 _,?_⟩
  have hsz:=hp.size
  by_cases h:KP kf p m<KP kf p (m-1)
  ·rw[show decide (kf (p.getD m 0)<kf (p.getD (m-1) 0))=true from decide_eq_true h];dsimp only;rw[if_pos rfl]
   have hd1:=hd.more hm (yak h)
   split
   ·have e:=zf6 (by omega) ht
    have hd2:=hd1.congr e
    refine TOk.mono (fun r hr=>⟨hr.1,by omega,by omega,hr.2.2.2.1,hr.2.2.2.2⟩) (zdw h0 f _ (m+1) 0 (zb9 hp) (by omega) (by omega) hd2 ⟨by omega,fun i h1 h2=>?_⟩)
    have:i=m:=by omega
    subst this;rfl
   ·refine TOk.mono (fun r hr=>⟨hr.1,by omega,by omega,hr.2.2.2.1,hr.2.2.2.2⟩) (zdw h0 f p (m+1) 0 hp (by omega) (by omega) hd1 ⟨by omega,fun i h1 h2=>?_⟩)
    have:i=m:=by omega
    subst this;rfl
  ·rw[show decide (kf (p.getD m 0)<kf (p.getD (m-1) 0))=false from decide_eq_false h];dsimp only;rw[if_neg yj]
   refine⟨hp.lt h0 _,hp.lt h0 _,?_⟩
   by_cases h':KP kf p (m-1)<KP kf p m
   ·rw[show decide (kf (p.getD (m-1) 0)<kf (p.getD m 0))=true from decide_eq_true h'];dsimp only;rw[if_pos rfl]
    exact⟨hp,yf _,by show m<=m+(f+1);omega,hd,ht⟩
   ·rw[show decide (kf (p.getD (m-1) 0)<kf (p.getD m 0))=false from decide_eq_false h'];dsimp only;rw[if_neg yj]
    have he:KP kf p m=KP kf p (m-1):=by
     have:=yaO.mp h
     have:=yaO.mp h'
     omega
    refine TOk.mono (fun r hr=>⟨hr.1,by omega,by omega,hr.2.2.2.1,hr.2.2.2.2⟩) (zdw h0 f p (m+1) (q+1) hp (by omega) (by omega) (hd.more hm (by omega)) ⟨by have:=ht.1;omega,fun i h1 h2=>?_⟩)
    have:=ht.1
    show KP kf p i=KP kf p (m+1-1)
    rw[show m+1-1=m by omega]
    by_cases e:i=m
    ·subst e;rfl
    ·rw[he];exact ht.2 i (by omega) (by omega)
theorem zgM(h0:0<n){p:Array Nat}{m:Nat}(hp:PermR n p)(hm:1<=m)(hn:m<=n)(hd:Down kf p m):TOk n kf (kas_tail3 m n p) fun r=>PermR n r.2/\1<=r.1/\r.1<=n/\Up kf r.2 r.1:=by
 have hsz:=hp.size
 refine TOk.bind (TOk.mono (fun r hr=>?_) (zgq (zb9 hp) h0 (n-m) m hm))
 obtain⟨r1,r2,r3,_⟩:=hr
 refine⟨zb9 hp,by show 1<=r;omega,by show r<=n;omega,Up.steps (a:=m) r (fun i j h1 h2=>?_) fun i h1 h2 _=>r3 i h1 h2⟩
 rw[zer (by omega),zer (by omega),if_pos ⟨by omega,by omega⟩,if_pos ⟨by omega,h2⟩]
 exact hd _ _ (by omega) (by omega)
theorem zdW(h0:0<n){p:Array Nat}{m:Nat}(hp:PermR n p)(hm:1<=m)(hn:m+1<=n)(hd:Down kf p (m+1)):TOk n kf (kas_descPart m n p) fun r=>PermR n r.2/\1<=r.1/\r.1<=n/\Up kf r.2 r.1:=by
 refine TOk.bind (TOk.mono (fun r hr=>?_) (zdw h0 (n-(m+1)) p (m+1) 0 hp (by omega) (by omega) hd ⟨by omega,fun i h1 h2=>?_⟩))
 ·obtain⟨r1,r2,r3,r4,r5⟩:=hr
  have hsz:=r1.size
  split
  ·exact zgM h0 (zb9 r1) (by omega) (by omega) (r4.congr (zf6 (by omega) r5))
  ·exact zgM h0 r1 (by omega) (by omega) r4
 ·have:i=m:=by omega
  subst this;rfl
theorem zkt(h0:0<n){p:Array Nat}(hp:PermR n p):TOk n kf (kas_count n p) fun r=>PermR n r.2/\1<=r.1/\r.1<=n/\Up kf r.2 r.1:=by
 have hsz:=hp.size
 refine TOk.bind (TOk.mono (fun r hr=>?_) (zgq hp h0 (n-1) 1 (yf _)))
 obtain⟨r1,r2,r3,r4⟩:=hr
 have hu:Up kf p r:=Up.steps (a:=1) r (fun i j h1 h2=>by
  have:i=j:=by omega
  subst this;exact yW _) fun i h1 h2 _=>r3 i h1 h2
 by_cases he:r=n
 ·rw[if_pos (by rw[he];exact beq_self_eq_true n)]
  exact⟨hp,r1,by show r<=n;omega,hu⟩
 ·rw[if_neg (fun z=>he (beq_iff_eq.mp z))]
  have hlt:=r4 (by omega)
  split
  ·rename_i h1
   refine⟨hp.lt h0 _,hp.lt h0 _,?_⟩
   by_cases h:KP kf p 0<KP kf p (r-1)
   ·rw[show decide (kf (p.getD 0 0)<kf (p.getD (r-1) 0))=true from decide_eq_true h];dsimp only;rw[if_pos rfl]
    exact⟨hp,r1,by show r<=n;omega,hu⟩
   ·rw[show decide (kf (p.getD 0 0)<kf (p.getD (r-1) 0))=false from decide_eq_false h];dsimp only;rw[if_neg yj]
    have hall:∀i,i<r->KP kf p i=KP kf p (r-1):=fun i hi=>by
     have a1:=hu 0 i (by omega) hi
     have a2:=hu i (r-1) (by omega) (by omega)
     have a3:=yaO.mp h
     omega
    have e:∀i,KP kf (kas_rev p 0 r) i=KP kf p i:=fun i=>by
     rw[zer (by omega)]
     split
     ·rw[hall _ (by omega),hall i (by omega)]
     ·rfl
    refine zdW h0 (zb9 hp) r1 (by omega) (Down.congr (p:=p) (fun i j h1 h2=>?_) e)
    by_cases hj:j=r
    ·subst hj
     by_cases hi:i=j
     ·subst hi;exact yW _
     ·rw[hall i (by omega)];omega
    ·rw[hall i (by omega),hall j (by omega)];exact yW _
  ·have hr1:r=1:=by omega
   subst hr1
   refine zdW h0 hp r1 (by omega) fun i j h1 h2=>?_
   by_cases hi:i=j
   ·subst hi;exact yW _
   ·have e1:i=0:=by omega
    have e2:j=1:=by omega
    subst e1;subst e2;exact yak hlt
theorem zei(h0:0<n){p:Array Nat}{k:Nat}(hp:PermR n p)(hu:Up kf p k):∀(f l r:Nat),l<=r->r<=k->r-l<=f->(∀i,i<l->KP kf p i<=KP kf p k)->(∀i,r<=i->i<k->KP kf p k<KP kf p i)->TOk n kf (kas_place p k f l r) fun m=>m<=k/\(∀i,i<m->KP kf p i<=KP kf p k)/\∀i,m<=i->i<k->KP kf p k<KP kf p i
 | 0,l,r,h1,h2,h3,h4,h5=>by
  have:l=r:=by omega
  subst this
  exact⟨h2,h4,h5⟩
 | f+1,l,r,h1,h2,h3,h4,h5=>by
  unfold kas_place
  split
  ·have:l=r:=by omega
   subst this
   exact⟨h2,h4,h5⟩
  ·rename_i hge
   refine⟨hp.lt h0 _,hp.lt h0 _,?_⟩
   by_cases h:KP kf p k<KP kf p ((l+r)/2)
   ·rw[show decide (kf (p.getD k 0)<kf (p.getD ((l+r)/2) 0))=true from decide_eq_true h];dsimp only;rw[if_pos rfl]
    exact zei h0 hp hu f l ((l+r)/2) (by omega) (by omega) (by omega) h4 fun i a b=>Int.lt_of_lt_of_le h (hu _ _ a b)
   ·rw[show decide (kf (p.getD k 0)<kf (p.getD ((l+r)/2) 0))=false from decide_eq_false h];dsimp only;rw[if_neg yj]
    exact zei h0 hp hu f ((l+r)/2+1) r (by omega) (by omega) (by omega) (fun i a=>Int.le_trans (hu i ((l+r)/2) (by omega) (by omega)) (yaO.mp h)) h5
theorem ziK(h0:0<n):∀(f:Nat) (p:Array Nat) (k:Nat),PermR n p->k+f=n->Up kf p k->TOk n kf (kas_bin f p k) fun r=>PermR n r/\Up kf r n
 | 0,p,k,hp,hk,hu=>by
  have:k=n:=by omega
  subst this
  exact⟨hp,hu⟩
 | f+1,p,k,hp,hk,hu=>by
  refine TOk.bind (TOk.mono (fun l hl=>?_) (zei h0 hp hu k 0 k (by omega) (yf _) (by omega) (fun i h=>by omega) fun i h1 h2=>by omega))
  obtain⟨l1,l2,l3⟩:=hl
  have hks:k<p.size:=by rw[hp.size];omega
  refine ziK h0 f _ (k+1) (hp.of (bubble_perm _ _ _)) (by omega) fun i j hij hj=>?_
  rw[zfo hks (by omega),zfo hks (by omega),show k-(k-l)=l by omega]
  repeat' split
  all_goals first
   | (exfalso;omega)
   | exact yW _
   | exact l2 _ (by omega)
   | exact yak (l3 _ (by omega) (by omega))
   | exact hu _ _ (by omega) (by omega)
theorem zl4(h0:0<n):TOk n kf (kas_sort n) fun r=>PermR n r/\Up kf r n:=by
 refine TOk.bind (TOk.mono (fun r hr=>?_) (zkt h0 (p:=List.toArray (List.range n)) (by unfold PermR;rw[List.toList_toArray])))
 obtain⟨r1,r2,r3,r4⟩:=hr
 split
 ·exact ziK h0 _ _ _ r1 (by omega) (by rw[show max r.1 1=r.1 by omega];exact r4)
 ·have:r.1=n:=by omega
  rw[this]at r4
  exact⟨r1,r4⟩
end
end Internal
set_option maxHeartbeats 4000000
namespace Internal
open PySem PySem.W PySem.Calls PyProof.Rows
section
variable {prog:Program}{w:World}{A:Around}{E:Value->Shared->Prop}
theorem zgF{vs:List Value}{J:List Value->Shared->Prop}{body:Value->PUnit->Sem (ForInStep PUnit)}
  (hb:∀x ks (s:Shared),vs[ks.length]?=some x->J ks s->wpAny (model prog w) A (body x ⟨⟩) (fun r s'=>r=.yield ⟨⟩/\∃k,J (ks++[k]) s') E s) :
  ∀(r ks:List Value) (s:Shared),vs.drop ks.length=r->ks.length<=vs.length->J ks s->wpAny (model prog w) A (forIn r PUnit.unit body) (fun _ s'=>∃ks,ks.length=vs.length/\J ks s') E s
 | [],ks,s,hr,hl,h=>by
  rw[List.forIn_nil]
  have:vs.length<=ks.length:=List.drop_eq_nil_iff.mp hr
  exact wpAny_pure ⟨ks,by omega,h⟩
 | x :: r,ks,s,hr,hl,h=>by
  have hx:vs[ks.length]?=some x:=by
   have:=congrArg (fun l:List Value=>l[0]?) hr
   simpa[List.getElem?_drop]using this
  have hlt:ks.length<vs.length:=(yl.mp hx).1
  rw[yaR]
  refine wpAny_bind (wpAny_mono (hb x ks s hx h) (fun q s' hq=>?_) fun _ _ x=>x)
  obtain⟨rfl,k,hJ⟩:=hq
  show wpAny (model prog w) A (forIn r PUnit.unit body) _ E s'
  refine zgF hb r (ks++[k]) s' ?_ (by rw[yk,yax];omega) hJ
  rw[yk,yax]
  have:=congrArg List.tail hr
  rwa [List.tail_drop]at this
theorem zge{s:Shared}{a kS:Addr}{st:SortSt}{e e1:Nat}{ks out:List Value}{P:PySem.Fin->Shared->Prop}(hout:(arrOf st).map (·.2)=List.toArray out)(hz:out.length<64)(hkz:ks.length<64)(hf:failedOf st=none)
  (hk:s.heap.get? kS=some (seqObj "list" (List.toArray ks) e)) (ha:s.heap.get? a=some (seqObj "list" #[] e1)) (hne:kS≠a)
  (h:∀h',(∀b o,b≠kS->b≠a->s.heap.get? b=some o->h'.get? b=some o)->(∃c,h'.get? a=some (seqObj "list" (List.toArray out) c))->(∃o,h'.get? kS=some o)->P (.done (.ret .none)) { s with heap:=h' }) :
  wpAny (model prog w) A (ksk_tail a false e1 (.ref kS) st) P E s:=by
 have s1:=Heap.SameBut.update s.heap kS (Obj.mapSeq fun _=>(#[]:Array Value))
 obtain⟨ck,hck⟩:∃ck,(s.heap.update kS (Obj.mapSeq fun _=>(#[]:Array Value))).get? kS=some (seqObj "list" #[] ck):=⟨_,get?_update_seq hk fun _=>#[]⟩
 have ha1:(s.heap.update kS (Obj.mapSeq fun _=>(#[]:Array Value))).get? a=some (seqObj "list" #[] e1):=(s1.2 a hne.symm).trans ha
 have s2:=Heap.SameBut.update (s.heap.update kS (Obj.mapSeq fun _=>(#[]:Array Value))) a (Obj.mapSeq fun _=>List.toArray out)
 obtain⟨c2,hc2⟩:∃c2,((s.heap.update kS (Obj.mapSeq fun _=>(#[]:Array Value))).update a (Obj.mapSeq fun _=>List.toArray out)).get? a=some (seqObj "list" (List.toArray out) c2):=⟨_,get?_update_seq ha1 fun _=>List.toArray out⟩
 have hsz:(List.toArray out).size=out.length:=by rw[yi]
 unfold ksk_tail
 try dsimp only
 rw[hout,if_neg (by simp)]
 refine wpAny_bind (listUpdate_at hk rfl ?_ (by rw[yi,sizeLine_eq];omega) (yT _))
 refine wpAny_bind (wpAny_letGo ?_)
 refine wpAny_bind (seqEpoch_at ha1 rfl ?_)
 refine wpAny_bind (listUpdate_at ha1 rfl ?_ (yT _) (yb (yaP hsz) (by rw[sizeLine_eq];omega)))
 rw[hf]
 simp only[bne_self_eq_false,yar,if_false]
 refine wpAny_pure (h _ (fun b o h1 h2 q=>(s2.2 b h2).trans ((s1.2 b h1).trans q)) ⟨c2,hc2⟩ ⟨_,(s2.2 kS hne).trans hck⟩)
theorem zlw{s:Shared}{a kS:Addr}{e e1:Nat}{vs ks fs:List Value}{kf:Nat->Int}{P:PySem.Fin->Shared->Prop}(hl:ks.length=vs.length)(h1:1<=vs.length)(h64:vs.length<64)
  (hk:s.heap.get? kS=some (seqObj "list" (List.toArray ks) e)) (ha:s.heap.get? a=some (seqObj "list" #[] e1)) (hne:kS≠a)
  (ht:KatTups s.heap ks fs) (hfs:∀v∈fs,∃i t,v=Value.int i t) (hfl:fs.length=ks.length)
  (hask:∀i j (C:Bool->Shared->Prop),i<vs.length->j<vs.length->C (decide (kf i<kf j)) s->wpAny (model prog w) A (keyLt' (tuples' true) (ks.getD i Value.none) (ks.getD j Value.none)) C (fun _ _=>False) s)
  (h:∀(p:List Nat) h',p.Perm (List.range vs.length)->(∀i j,i<=j->j<vs.length->kf (p.getD i 0)<=kf (p.getD j 0))->(∀b o,b≠kS->b≠a->s.heap.get? b=some o->h'.get? b=some o) ->
   (∃c,h'.get? a=some (seqObj "list" (List.toArray (p.map fun i=>vs.getD i Value.none)) c))->(∃o,h'.get? kS=some o)->P (.done (.ret .none)) { s with heap:=h' }) :
  wpAny (model prog w) A (ksk_end a false vs.toArray e1 (.ref kS) (List.toArray ks)) P E s:=by
 unfold ksk_end
 try dsimp only
 rw[if_neg (by simp)]
 by_cases h2:2<=vs.length
 ·have hn2:¬vs.toArray.size<2:=by rw[yi];omega
  rw[if_neg hn2,if_neg hn2]
  refine wpAny_bind (kat_kind (T:=.type "int") ht (by omega) (fun v hv=>?_) (by rfl) ?_)
  ·obtain⟨i,t,rfl⟩:=hfs v hv
   exact .now
  rw[show(Value.type "int" != Value.type "tuple")=true from by rfl]
  have tree:(kas_sort vs.length).kasWp (kas_ask prog w A (tuples' true) ks) (fun p s'=>s'=s/\PermR vs.length p/\Up kf p vs.length) s:=
   TOk.wp (n:=vs.length) (kf:=kf) (fun i j C hi hj hc=>hask i j C hi hj hc) (TOk.mono (fun p hp=>⟨rfl,hp.1,hp.2⟩) (zl4 (by omega)))
  refine wpAny_bind (wpAny_mono (kat_run (Q:=fun st' s'=>∃p:Array Nat,p.size=vs.length/\arrOf st'=p.map (kas_item ((List.toArray ks).zip vs.toArray))/\failedOf st'=none/\s'=s/\PermR vs.length p/\Up kf p vs.length)
   hl h2 h64 (fun p' st' s' a1 a2 a3 a4=>⟨p',a1,a2,a3,a4⟩) tree) ?_ fun _ _ x=>x)
  rintro⟨⟨⟩,st'⟩ s' ⟨p,hp,har,hf,rfl,hpr,hup⟩
  try dsimp only
  refine zge (kat_snds hl har) (by rw[ya,yaa,hp];exact h64) (by omega) hf hk ha hne fun h' k1 k2 k3=>h p.toList h' hpr (fun i j hij hj=>?_) k1 k2 k3
  have:=hup i j hij hj
  unfold KP at this
  simpa[yam,yh]using this
 ·have hn2:vs.toArray.size<2:=by rw[yi];omega
  rw[if_pos hn2,if_pos hn2]
  have e1':vs.length=1:=by omega
  obtain⟨v,rfl⟩:∃v,vs=[v]:=List.length_eq_one_iff.mp e1'
  obtain⟨k,rfl⟩:∃k,ks=[k]:=List.length_eq_one_iff.mp (by rw[hl];rfl)
  refine wpAny_bind (wpAny_pure ?_)
  refine wpAny_bind (wpAny_pure ?_)
  refine zge (ks:=[k]) (out:=[v]) (by simp only[yar,if_false];show Array.map (fun x:Value × Value=>x.2) (#[k].zip #[v])=#[v];simp) (by simp) (by simp) rfl hk ha hne fun h' k1 k2 k3=>h [0] h' (by rw[show List.range [v].length=[0]from rfl]) (fun i j hij hj=>?_) k1 k2 k3
  have hj0:j=0:=by simp at hj;omega
  subst hj0
  obtain rfl:i=0:=by omega
  exact yW _
theorem zkj{s:Shared}{a:Addr}{f:Value}{vs:List Value}{n0:Nat}{kf:Nat->Int}{P:PySem.Fin->Shared->Prop}(J:Addr->Nat->List Value->Shared->Prop)
  (ho:s.heap.get? a=some (seqObj "list" vs.toArray n0)) (h1:1<=vs.length) (h64:vs.length<64)
  (start:∀h' kS e1,(∀b o,b≠a->s.heap.get? b=some o->h'.get? b=some o)->h'.get? a=some (seqObj "list" #[] e1)->s.heap.objs.size<kS->h'.get? kS=some (seqObj "list" #[] 0)->J kS e1 [] { s with heap:=h' })
  (key:∀kS e1 ks x (s':Shared),vs[ks.length]?=some x->J kS e1 ks s'->wpAny (model prog w) A (call f [x]) (fun k s''=>(∃e,s''.heap.get? kS=some (seqObj "list" (List.toArray ks) e)) /\
   ∀h' c,Heap.SameBut kS s''.heap h'->h'.get? kS=some (seqObj "list" (List.toArray (ks++[k])) c)->J kS e1 (ks++[k]) { s'' with heap:=h' }) (fun _ _=>False) s')
  (fin:∀kS e1 ks (s':Shared),ks.length=vs.length->J kS e1 ks s'->(∃e,s'.heap.get? kS=some (seqObj "list" (List.toArray ks) e))/\s'.heap.get? a=some (seqObj "list" #[] e1)/\kS≠a /\
   (∃fs,KatTups s'.heap ks fs/\(∀v∈fs,∃i t,v=Value.int i t)/\fs.length=ks.length) /\
   (∀i j (C:Bool->Shared->Prop),i<vs.length->j<vs.length->C (decide (kf i<kf j)) s'->wpAny (model prog w) A (keyLt' (tuples' true) (ks.getD i Value.none) (ks.getD j Value.none)) C (fun _ _=>False) s') /\
   ∀(p:List Nat) h',p.Perm (List.range vs.length)->(∀i j,i<=j->j<vs.length->kf (p.getD i 0)<=kf (p.getD j 0))->(∀b o,b≠kS->b≠a->s'.heap.get? b=some o->h'.get? b=some o) ->
   (∃c,h'.get? a=some (seqObj "list" (List.toArray (p.map fun i=>vs.getD i Value.none)) c))->(∃o,h'.get? kS=some o)->P (.done (.ret .none)) { s' with heap:=h' }) :
  wpAny (model prog w) A (ksk_tree a f false) P E s:=by
 have ha:a<s.heap.objs.size:=Heap.lt_size ho
 have s1:=Heap.SameBut.update s.heap a (Obj.mapSeq fun _=>(#[]:Array Value))
 obtain⟨e1,ho1⟩:∃e1,(s.heap.update a (Obj.mapSeq fun _=>(#[]:Array Value))).get? a=some (seqObj "list" #[] e1):=⟨_,get?_update_seq ho fun _=>#[]⟩
 have hkS:((s.heap.update a (Obj.mapSeq fun _=>(#[]:Array Value))).push (seqObj "tuple" vs.toArray 0)).objs.size=s.heap.objs.size+1:=by rw[size_push',Heap.size_update]
 unfold ksk_tree
 refine wpAny_bind (listItems_at ho rfl ?_)
 refine wpAny_bind (listUpdate_at ho rfl ?_ (by rw[yi,sizeLine_eq];omega) (yT _))
 refine wpAny_bind (seqEpoch_at ho1 rfl ?_)
 refine wpAny_bind (wpAny_newTuple ?_ (by show vs.length<=_;rw[sizeLine_eq];omega))
 refine wpAny_bind (wpAny_newList ?_ (yT _))
 refine wpAny_holding ?_
 have J0:=start (((s.heap.update a (Obj.mapSeq fun _=>(#[]:Array Value))).push (seqObj "tuple" vs.toArray 0)).push (seqObj "list" #[] 0)) ((s.heap.update a (Obj.mapSeq fun _=>(#[]:Array Value))).push (seqObj "tuple" vs.toArray 0)).objs.size e1
  (fun b o hb q=>Heap.get?_push_of_some _ (Heap.get?_push_of_some _ ((s1.2 b hb).trans q))) (Heap.get?_push_of_some _ (Heap.get?_push_of_some _ ho1)) (by rw[hkS];omega) (Heap.get?_push_size _ rfl)
 generalize ((s.heap.update a (Obj.mapSeq fun _=>(#[]:Array Value))).push (seqObj "tuple" vs.toArray 0)).objs.size=kS at J0 ⊢
 generalize (((s.heap.update a (Obj.mapSeq fun _=>(#[]:Array Value))).push (seqObj "tuple" vs.toArray 0)).push (seqObj "list" #[] 0))=hh at J0 ⊢
 show wpAny (model prog w) A (ksk_rest a f false vs.toArray e1 (.ref kS)) P E { s with heap:=hh }
 unfold ksk_rest
 refine wpAny_bind (wpAny_rule ?_)
 first
  | rw[List.forIn_toArray]
  | (rw[<- Array.forIn_toList];simp only[List.toList_toArray])
  | rw[<- Array.forIn_toList]
 refine wpAny_bind (wpAny_mono (zgF (J:=J kS e1) (fun x ks s' hx hJ=>?_) vs [] _ rfl (yT _) J0) (fun _ s' hd=>?_) fun _ _ x=>x)
 ·have hlt:ks.length<vs.length:=(yl.mp hx).1
  refine wpAny_bind (wpAny_attempt (wpAny_mono (key kS e1 ks x s' hx hJ) (fun k s'' hk=>?_) fun _ _ hF=>hF.elim))
  obtain⟨⟨e,hk1⟩,c⟩:=hk
  have s3:=Heap.SameBut.update s''.heap kS (Obj.mapSeq (·.push k))
  have ea:(List.toArray ks).push k=List.toArray (ks++[k]):=by simp
  obtain⟨c2,hc2⟩:∃c2,(s''.heap.update kS (Obj.mapSeq (·.push k))).get? kS=some (seqObj "list" (List.toArray (ks++[k])) c2):=⟨_,by rw[<- ea];exact get?_update_seq hk1 (·.push k)⟩
  try dsimp only
  refine wpAny_bind (listUpdate_at hk1 rfl ?_ (by rw[yi,sizeLine_eq];omega) (yb (yaP (Array.size_push ..)) (by rw[yi,sizeLine_eq];omega)))
  exact wpAny_pure ⟨rfl,k,c _ c2 s3 hc2⟩
 ·obtain⟨ks,hl,hJ⟩:=hd
  obtain⟨⟨e,hk⟩,ha',hne,⟨fs,ht,hfs,hfl⟩,hask,h⟩:=fin kS e1 ks s' hl hJ
  try dsimp only
  refine wpAny_bind (listItems_at hk rfl ?_)
  exact zlw hl h1 h64 hk ha' hne ht hfs hfl hask h
theorem zfK{s:Shared}{r:Addr}{n:Nat}{t u v:Tok}{Q:List Value->Shared->Prop}(hh:A.handled=none)(hr:s.heap.get? r=some { cls:=.type "range",data:=.fields #[.int 0 t,.int (n:Int) u,.int 1 v] })(hn:n<=100000)
  (h:∀vs h' tk,vs.length=n->(∀(i:Nat) (x:Value),vs[i]?=some x->∃t,x=Value.int (i:Int) t)->(∀b o,s.heap.get? b=some o->h'.get? b=some o)->s.heap.objs.size<h'.objs.size->Q vs { s with heap:=h',toks:=tk }) :
  wpAny (model prog w) A (collect (.ref r)) Q E s:=by
 unfold collect
 refine wpAny_bind (wpAny_runValue (codeAny_builtin entry_proto_collect' ?_))
 show wpAny _ _ (do again (.builtin "list.__iadd__" ⟨[<- newList [],.ref r],[]⟩)) _ _ s
 refine wpAny_bind (wpAny_newList (wpAny_pure ⟨Code.quiet_builtin _ (by decide +kernel),codeAny_builtin entry_list_iadd' ?_⟩))
 show wpAny _ _ (Builtin.List.listExtendWith (.ref s.heap.objs.size) (.ref r) (.ref s.heap.objs.size)) _ _ { s with heap:=s.heap.push (seqObj "list" #[] 0) }
 refine wpAny_extend_range (prog:=prog) (w:=w) (A:=A) (R:=fun r s'=>match r with
   | .ok (.ret v)=>wpAny (model prog w) A (match v with
    | .ref a=>(do match (<- load a).data with
     | .seq xs _=>pure xs.toList
     | _=>unsupported "internal:collect")
    | _=>unsupported "internal:collect") Q E s'
   | .ok _=>False
   | .error e=>E e s') (s:={ s with heap:=s.heap.push (seqObj "list" #[] 0) }) hh (Heap.get?_push_of_some _ hr) (a:=0) (b:=(n:Int)) (c:=1) (n:=n) (small_one (by omega) (by omega) (by omega) (by omega)) (by rw[rangeSize_one];split<;>omega) (by omega) s.heap.objs.size (.ref s.heap.objs.size) _ (Heap.get?_push_size _ rfl) fun h' tk acc c' hk hS' hacc=>?_
 show wpAny (model prog w) A (do
   let o <- load s.heap.objs.size
   match o.data with
   | .seq xs _=>pure xs.toList
   | _=>unsupported "internal:collect") Q E { s with heap:=h',toks:=tk }
 refine wpAny_bind (wpAny_load hS' ?_)
 refine wpAny_pure (h acc.toList h' tk (by simpa using hacc.1) (fun i x hx=>?_) (fun b o q=>hk b o (ym (Heap.lt_size q)) (Heap.get?_push_of_some _ q)) (Heap.lt_size hS'))
 obtain⟨t',e⟩:=hacc.2 i x (by simpa using hx)
 exact⟨t',by rw[e];congr 1;omega⟩
theorem zkz{s:Shared}{r f:Addr}{n:Nat}{t u v:Tok}{kf:Nat->Int}{Q:Value->Shared->Prop}(J:Addr->Addr->Nat->List Value->Shared->Prop)(hh:A.handled=none)
  (hr:s.heap.get? r=some { cls:=.type "range",data:=.fields #[.int 0 t,.int (n:Int) u,.int 1 v] }) (h1:1<=n) (h64:n<64)
  (start:∀h' tk D kS e1,(∀b o,s.heap.get? b=some o->h'.get? b=some o)->s.heap.objs.size<D->(D:Nat)<(kS:Nat)->h'.get? D=some (seqObj "list" #[] e1)->h'.get? kS=some (seqObj "list" #[] 0)->J D kS e1 [] { s with heap:=h',toks:=tk })
  (key:∀D kS e1 ks tk (s':Shared),ks.length<n->J D kS e1 ks s'->wpAny (model prog w) A.in1.in1 (call (.ref f) [.int (ks.length:Int) tk]) (fun k s''=>(∃e,s''.heap.get? kS=some (seqObj "list" (List.toArray ks) e)) /\
   ∀h' c,Heap.SameBut kS s''.heap h'->h'.get? kS=some (seqObj "list" (List.toArray (ks++[k])) c)->J D kS e1 (ks++[k]) { s'' with heap:=h' }) (fun _ _=>False) s')
  (fin:∀D kS e1 ks (s':Shared),ks.length=n->J D kS e1 ks s'->(∃e,s'.heap.get? kS=some (seqObj "list" (List.toArray ks) e))/\s'.heap.get? D=some (seqObj "list" #[] e1)/\kS≠D /\
   (∃fs,KatTups s'.heap ks fs/\(∀v∈fs,∃i t,v=Value.int i t)/\fs.length=ks.length) /\
   (∀i j (C:Bool->Shared->Prop),i<n->j<n->C (decide (kf i<kf j)) s'->wpAny (model prog w) A.in1.in1 (keyLt' (tuples' true) (ks.getD i Value.none) (ks.getD j Value.none)) C (fun _ _=>False) s') /\
   ∀(p:List Nat) (out:List Value) h' c,p.Perm (List.range n)->(∀i j,i<=j->j<n->kf (p.getD i 0)<=kf (p.getD j 0))->(∀b o,b≠kS->b≠D->s'.heap.get? b=some o->h'.get? b=some o) ->
   Vals (p.map fun i:Nat=>V.int (i:Int)) out->h'.get? D=some (seqObj "list" (List.toArray out) c)->(∃o,h'.get? kS=some o)->Q (.ref D) { s' with heap:=h' }) :
  wpAny (model prog w) A (call (.builtin "sorted") [.ref r] [(Str.ofString "key",.ref f)]) Q E s:=by
 refine call_function_entry_kw kind_sorted plain_sorted entry_sorted (ksk_s1 _ _) ?_
 unfold Builtin.«sorted»
 refine wpAny_bind (m:=checkCount "sorted" 1 1 _) (wpAny_pure ?_)
 refine wpAny_bind (zfK (A:=A.in1) hh hr (by omega) fun vs h1' tk1 hvl hvs hk1 hsz1=>?_)
 refine wpAny_bind (wpAny_newList ?_ (by rw[hvl,sizeLine_eq];omega))
 have hoL:(h1'.push (seqObj "list" vs.toArray 0)).get? h1'.objs.size=some (seqObj "list" vs.toArray 0):=Heap.get?_push_size _ rfl
 show wpAny _ _ _ _ _ { s with heap:=h1'.push (seqObj "list" vs.toArray 0),toks:=tk1 }
 refine wpAny_bind (wpAny_holding (wpAny_call_entry_kw slot_list_sort ⟨_,hoL,rfl⟩ entry_list_sort ?body (ksk_l1 _ _)))
 case body=>
  show wpAny (model prog w) A.in1.in1 (Builtin.«list.sort» ⟨[.ref h1'.objs.size],[(Str.ofString "key",.ref f)]⟩) _ _ _
  rw[ksk_t1]
  refine zkj (kf:=kf) (J h1'.objs.size) hoL (by omega) (by omega) (fun h' kS e1 k1 k2 k3 k4=>?_) (fun kS e1 ks x s' hx hJ=>?_) fun kS e1 ks s' hl hJ=>?_
  ·exact start h' tk1 _ kS e1 (fun b o q=>k1 b o (ym (yaD (Heap.lt_size q) hsz1)) (Heap.get?_push_of_some _ (hk1 b o q))) hsz1 (by rw[size_push']at k3;omega) k2 k4
  ·obtain⟨tx,rfl⟩:=hvs _ _ hx
   exact key _ kS e1 ks tx s' (by have:=(yl.mp hx).1;omega) hJ
  ·obtain⟨f1,f2,f3,f4,f5,f6⟩:=fin _ kS e1 ks s' (by omega) hJ
   refine⟨f1,f2,f3,f4,by rw[hvl];exact f5,fun p h' hp hs k1 k2 k3=>?_⟩
   obtain⟨c,hc⟩:=k2
   rw[hvl]at hp hs
   refine⟨_,rfl,wpAny_pure ⟨_,rfl,f6 p _ h' c hp hs k1 ?_ hc k3⟩⟩
   have go:∀q:List Nat,(∀i∈q,i<n)->Vals (q.map fun i:Nat=>V.int (i:Int)) (q.map fun i=>vs.getD i Value.none):=by
    intro q
    induction q with
    | nil=>intro _;exact .nil
    | cons i q ih=>
     intro hq
     rw[yH,yH]
     have hi:=hq i yV
     obtain⟨x,hx⟩:=zN (show i<vs.length by omega)
     obtain⟨tx,ex⟩:=hvs i x hx
     refine .cons ?_ (ih fun j hj=>hq j (yD _ hj))
     rw[yh,hx]
     exact⟨tx,ex⟩
   exact go p fun i hi=>y8.mp (hp.mem_iff.mp hi)
end
open PySem PySem.W PySem.Spec PySem.Calls PyProof.Rows
noncomputable def HO.nt:HO->Bool
 | .tbl _=>false
 | _=>true
set_option genInjectivity false in
set_option genSizeOf false in
structure SameT(H H':Hp):Prop where
 keep:∀b o,H b=some o->o.nt=true->H' b=some o
 tb:∀b ps,H b=some (.tbl ps)->∃ps',H' b=some (.tbl ps')
theorem SameT.at{H H':Hp}(e:SameT H H'){a:Addr}{o:HO}(h:H a=some o)(n:autoParam (o.nt=true) Internal.aut2._auto_1):H' a=some o:=e.keep a o h n
theorem Same.t{H H':Hp}(e:Same H H'):SameT H H':=⟨fun b o h _=>e b o h,fun b ps h=>⟨ps,e b _ h⟩⟩
theorem SameT.refl(H:Hp):SameT H H:=(Same.refl H).t
theorem SameT.trans{H H1 H2:Hp}(a:SameT H H1)(b:SameT H1 H2):SameT H H2:=
 ⟨fun c o h n=>b.keep c o (a.keep c o h n) n,fun c ps h=>by obtain⟨ps',h'⟩:=a.tb c ps h;exact b.tb c ps' h'⟩
theorem SameT.none{H H':Hp}{l:Addr}(h:H' l=none)(g:SameT H H'):H l=none:=by
 cases q:H l with
 | none=>rfl
 | some o=>
  cases hn:o.nt with
  | true=>rw[g.keep l o q hn]at h;cases h
  | false=>
   cases o with
   | tbl ps=>obtain⟨ps',e⟩:=g.tb l ps q;rw[e]at h;cases h
   | _=>cases hn
noncomputable def zdA (c:Addr) (qual:Str):HO:=.ext fun h=>h.CodeRec (.ref c) qual
noncomputable def zec (f:Addr) (ob:Value->Obj):HO:=.ext fun h=>∃ctv,h.get? f=some (ob ctv)
section
variable {P:Program}{w:World}{H:Hp}{h:Heap}
theorem zjU{c:Addr}{qual:Str}(x:h.CodeRec (.ref c) qual):ObjOk P w H h c (zdA c qual):=by
 refine⟨x,?_,fun h1 h2 y k=>?_⟩
 ·obtain⟨c2,oc,vs,t,e,ho,_⟩:=x
  cases e
  exact⟨oc,ho⟩
 ·obtain⟨c2,oc,vs,t,e,ho,r⟩:=y
  cases e
  exact⟨c,oc,vs,t,rfl,k _ ho,r⟩
theorem zho{f:Addr}{ob:Value->Obj}{ctv:Value}(x:h.get? f=some (ob ctv)):ObjOk P w H h f (zec f ob):=
 ⟨⟨ctv,x⟩,⟨_,x⟩,fun h1 h2 y k=>by obtain⟨c,e⟩:=y;exact⟨c,k _ e⟩⟩
end
noncomputable def Tb (H:Hp) (T:Addr) (pos:Pos) (qual:Str):Prop:=∃ps:Array Value,H T=some (.tbl ps)/\TriplesOk ps.toList/\(codeAmong pos ps.toList=none\/∃c,codeAmong pos ps.toList=some (.ref c)/\H c=some (zdA c qual))
theorem Tb.same{H H':Hp}{T:Addr}{pos:Pos}{qual:Str}(h:Tb H T pos qual)(e:Same H H'):Tb H' T pos qual:=by
 obtain⟨ps,h1,h2,h3⟩:=h
 refine⟨ps,e _ _ h1,h2,?_⟩
 rcases h3 with h3 | ⟨c,h3,h4⟩
 ·exact .inl h3
 ·exact .inr ⟨c,h3,e _ _ h4⟩
theorem Tb.but{H H':Hp}{T l:Addr}{pos:Pos}{qual:Str}(h:Tb H T pos qual)(e:LBut l H H'):Tb H' T pos qual:=by
 obtain⟨ps,h1,h2,h3⟩:=h
 obtain⟨e1,xs,e2⟩:=e
 refine⟨ps,by rw[e1 _ (zaF h1 e2 (by intro z;cases z))];exact h1,h2,?_⟩
 rcases h3 with h3 | ⟨c,h3,h4⟩
 ·exact .inl h3
 ·exact .inr ⟨c,h3,by rw[e1 _ (zaF h4 e2 (by intro z;cases z))];exact h4⟩
section
variable {X:Cx}{params:Arguments}{body:Expr}{lsc:Scope}{lpos:Pos}{c T:Addr}{clos:List (Str × Addr)}
abbrev zbY(X:Cx)(params:Arguments)(body:Expr)(lsc:Scope)(clos:List (Str × Addr))(c':Addr)(ctv:Value):Obj:=kla_obj "<lambda>" (X.env.qual ++ "<lambda>") params body lsc clos ((X.mg "__name__").getD .none) c' ctv
noncomputable def zof (X:Cx) (params:Arguments) (body:Expr) (lsc:Scope) (clos:List (Str × Addr)) (T:Addr) (lpos:Pos):TE:=fun _ H Q=>Tb H T lpos (X.env.qual ++ "<lambda>") /\
 ∀f c' H',H f=none->SameT H H'->Tb H' T lpos (X.env.qual ++ "<lambda>")->H' f=some (zec f (zbY X params body lsc clos c'))->H' c'=some (zdA c' (X.env.qual ++ "<lambda>"))->Q (.ref f) H'
theorem zm1(hdef:defaultsOf params X.env=([],[]))(hcl:closureFor lsc X.env=pure clos)(hcode:X.env.code=.ref c)(C:CodeHd X.base c T)(B:X.base.BuiltinsAt X.mg T):PE X (.Lambda params body lsc lpos) (zof X params body lsc clos T lpos):=by
 intro pins s σ H Q I h
 obtain⟨⟨ps,hP,ht,hc⟩,k⟩:=h
 refine kla_eval hdef ?_
 have hPo:s.heap.get? T=some (tabObj ps):=I.hok T _ hP
 have hg:s.heap.Ns mainGlobals X.mg:=I.mod.glob.keeps I.bk
 have Cs:=C.keeps I.bk
 have Bs:s.heap.BuiltinsAt X.mg T:=by
  obtain⟨bm,o,b1,b2,b3,b4,b5,b6⟩:=B
  exact⟨bm,o,b1,b2,b3,b4,I.bk _ _ b5,b6⟩
 have hgT:mainGlobals≠T:=fun z=>by
  obtain⟨o,es,ep,e,hd,_⟩:=hg
  rw[z,hPo]at e;cases e;cases hd
 rcases hc with hn | ⟨c',hs,hc'⟩
 ·refine kla_makeFunction (mg:=X.mg) hcl I.ok.glob hg hcode Cs hPo ht hn hgT Bs fun c' ctv h' tk hx hge hlt hrec htb=>?_
  have hTs:T<s.heap.objs.size:=Heap.lt_size hPo
  have hTc:T≠c':=ym (yo hTs hge)
  have hTf:T≠h'.objs.size:=ym (yo hTs (yb hge (y9 hlt)))
  have hcf:c'≠h'.objs.size:=ym hlt
  have old:∀b u,H b=some u->b≠c'/\b≠h'.objs.size:=fun b u e=>by
   have:=I.hok.lt e
   exact⟨ym (yo this hge),ym (yo this (yb hge (y9 hlt)))⟩
  have olds:∀b (u:Obj),s.heap.get? b=some u->b≠c'/\b≠h'.objs.size:=fun b u e=>by
   have:=Heap.lt_size e
   exact⟨ym (yo this hge),ym (yo this (yb hge (y9 hlt)))⟩
  obtain⟨H',eH⟩:∃H',H'=upd (upd (upd H T (.tbl (ps++#[rawInt lpos.line,rawInt lpos.col,.ref c']))) c' (zdA c' (X.env.qual ++ "<lambda>"))) h'.objs.size (zec h'.objs.size (zbY X params body lsc clos c')):=⟨_,rfl⟩
  have aF:H' h'.objs.size=some (zec h'.objs.size (zbY X params body lsc clos c')):=by rw[eH];exact zH
  have aC:H' c'=some (zdA c' (X.env.qual ++ "<lambda>")):=by rw[eH,zG hcf];exact zH
  have aT:H' T=some (.tbl (ps++#[rawInt lpos.line,rawInt lpos.col,.ref c'])):=by rw[eH,zG hTf,zG hTc];exact zH
  have aO:∀b,b≠T->b≠c'->b≠h'.objs.size->H' b=H b:=fun b h1 h2 h3=>by rw[eH,zG h3,zG h2,zG h1]
  have kp:∀b u,b≠T->s.heap.get? b=some u->(h'.push (zbY X params body lsc clos c' ctv)).get? b=some u:=fun b u hb e=>Heap.get?_push_of_some _ (hx b u hb e)
  have st:SameT H H':=⟨fun b o e n=>by
    have hb:b≠T:=fun z=>by rw[z,hP]at e;cases e;cases n
    rw[aO b hb (old b o e).1 (old b o e).2];exact e,fun b qs e=>by
    by_cases hb:b=T
    ·rw[hb];exact⟨_,aT⟩
    ·rw[aO b hb (old b _ e).1 (old b _ e).2];exact⟨_,e⟩⟩
  have un:Un X.fs [] H H' s.heap (h'.push (zbY X params body lsc clos c' ctv)):=by
   have nT:∀b,H b=none->b≠T:=fun b n z=>by rw[z,hP]at n;cases n
   have nTu:∀b u,H b=some u->u.nt=true->b≠T:=fun b u e n z=>by rw[z,hP]at e;cases e;cases n
   refine⟨fun b o e n _ _=>kp b o (nT b n) e,fun b o e n _ _=>⟨o.slots,kp b o (nT b n) e⟩,fun b o e n _=>?_,fun b o e _=>?_,fun b xs e=>?_,fun b o u e=>?_,fun b qs e=>?_⟩
   ·rw[aO b (nT b n) (olds b o e).1 (olds b o e).2];exact n
   ·by_cases hb:b=T
    ·rw[hb];exact⟨_,Heap.get?_push_of_some _ htb⟩
    ·exact⟨o,kp b o hb e⟩
   ·exact st.keep b _ e rfl
   ·exact st.keep b _ e rfl
   ·by_cases hb:b=T
    ·subst hb
     rw[hP]at e;cases e
     exact⟨_,aT⟩
    ·rw[aO b hb (old b _ e).1 (old b _ e).2];exact⟨#[],by rw[e];simp⟩
  have hok:HOk X.prog X.w H' (h'.push (zbY X params body lsc clos c' ctv)):=fun b o e=>by
   by_cases h1:b=h'.objs.size
   ·subst h1;rw[aF]at e;cases e
    exact zho (ctv:=ctv) (Heap.get?_push_size _ rfl)
   ·by_cases h2:b=c'
    ·subst h2;rw[aC]at e;cases e
     obtain⟨c2,oc,vs,t,e2,ho,r⟩:=hrec
     cases e2
     exact zjU ⟨b,oc,vs,t,rfl,Heap.get?_push_of_some _ ho,r⟩
    ·by_cases h3:b=T
     ·subst h3;rw[aT]at e;cases e
      exact(Heap.get?_push_of_some _ htb:(h'.push (zbY X params body lsc clos c' ctv)).get? b=some _)
     ·rw[aO b h3 h2 h1]at e
      refine(I.hok b o e).stay (fun d u hd q=>kp d u (fun z=>?_) q) (fun d q=>?_) fun d xs q=>st.keep d _ q rfl
      ·rcases hd with hd | hd
       ·exact h3 (hd.symm.trans z)
       ·rw[z,hP]at hd;cases hd
      ·exact st.keep d _ q rfl
  have J:Inv X pins σ H' { s with heap:=h'.push (zbY X params body lsc clos c' ctv),toks:=tk }:=I.un un hok
  refine⟨.ref h'.objs.size,H',J,rfl,k _ c' H' ?_ st ⟨_,aT,?_,.inr ⟨c',?_,aC⟩⟩ aF aC⟩
  ·exact I.hok.fresh (yb hge (y9 hlt))
  ·rw[Array.toList_append];exact TriplesOk_snoc _ _ _ _ ht
  ·rw[Array.toList_append];exact codeAmong_snoc _ ht hn
 ·refine kla_makeFunctionHit (mg:=X.mg) hcl I.ok.glob hg hcode Cs hPo ht hs Bs fun ctv h' tk hk hsz=>?_
  have fr:H h'.objs.size=none:=I.hok.fresh hsz
  have J:Inv X pins σ (upd H h'.objs.size (zec h'.objs.size (zbY X params body lsc clos c'))) { s with heap:=h'.push (zbY X params body lsc clos c' ctv),toks:=tk }:=
   I.laid (fun b u q=>Heap.get?_push_of_some _ (hk b u q)) hsz (zho (ctv:=ctv) (Heap.get?_push_size _ rfl))
  have sm:=Same.new fr (zec h'.objs.size (zbY X params body lsc clos c'))
  exact⟨.ref h'.objs.size,_,J,rfl,k _ c' _ fr sm.t (Tb.same ⟨ps,hP,ht,.inr ⟨c',hs,hc'⟩⟩ sm) zH (sm _ _ hc')⟩
end
noncomputable def zfQ (P:Program) (w:World) (K:Fg) (mg:Str->Option Value) (base:Heap) (x y qual:Str) (lsc:Scope) (f c' cc:Addr) (A:Around) (outer:List Env) (s:Shared) (H:Hp):Cx where
 prog:=P
 w:=w
 K:=K
 mg:=mg
 base:=base
 A:=A.deeper (envX qual lsc s.heap.objs.size f (.ref c') [(y,cc)])
 N:=[x,y]
 s₀:=s
 H₀:=H
 env:=envX qual lsc s.heap.objs.size f (.ref c') [(y,cc)]
 outer:=outer
 stack:=envX qual lsc s.heap.objs.size f (.ref c') [(y,cc)] :: outer
 ex:=[]
 calm:=true
 fn:=fun _=>false
 pn:=[]
 xe:=fun _ _=>False
theorem zl3{P:Program}{w:World}{K:Fg}{mg:Str->Option Value}{base:Heap}{x y qual:Str}{lsc:Scope}{params:Arguments}{body:Expr}{f c' cc:Addr}{A:Around}{outer:List Env}{s:Shared}{H:Hp}{Q:VK}{tb:TE}{pm ctv u uy:Value}{v vy:V}
  (hd:A.handled=none) (hdp:A.depth<recursionLimit) (e0:Env0 P w K mg base A outer s H) (ho:s.heap.get? f=some (kla_obj "<lambda>" qual params body lsc [(y,cc)] pm c' ctv)) (hcd:s.heap.CodeRec (.ref c') qual)
  (hsn:lsc.names=[(x,.local),(y,.free)]) (hxy:(y == x)=false) (hk:lsc.kind=.function) (hco:lsc.isCoroutine=false) (hgen:lsc.isGenerator=false)
  (hb:∀u,bindArgs (kla_fn "<lambda>" qual params body lsc [(y,cc)] pm (.ref c') ctv) ⟨[u],[]⟩=pure [(x,u)])
  (hcc:s.heap.IsCell cc (some uy)) (hcn:H cc=none) (rv:RelV v u) (ry:RelV vy uy)
  (hbody:PE (zfQ P w K mg base x y qual lsc f c' cc A outer s H) body tb) (hq:tb [some v,some vy] H Q) :
  wpAny (model P w) A (call (.ref f) [u]) (fun r s'=>CE outer P w H s Q r s') (fun _ _=>False) s:=by
 have lim:s.heap.NoLimit:=e0.mod.nolimit.keeps fun b o e=>(e0.bs b o e).1
 have hxb:(x == x)=true:=beq_self_eq_true x
 refine wpAny_call (codeAny_mono (R:=fun r s'=>∃v',r=.ok (.ret v')/\CE outer P w H s Q v' s') ?_ fun r s' hr=>?_)
 ·refine kla_callFunE hdp ho rfl hco hgen rfl hcd ?_
  rw[hb]
  refine wpAny_pure (wpAny_newFunctionEnv (fun z hz=>?_) (fun z hz=>?_) (fun h₁ hns hsb=>⟨lim.fresh _ hsb,?_⟩) hk)
  ·rw[hsn]at hz
   rcases ye.mp hz with rfl | hz
   ·intro q;cases q
   ·rw[yt.mp hz];intro q;cases q
  ·rw[yt.mp hz,hsn,yr,hxb]
  ·show codeAny _ _ (.expr body (envX qual lsc s.heap.objs.size f (.ref c') [(y,cc)])) _ _
   have hk₁:∀b o,s.heap.get? b=some o->h₁.get? b=some o:=fun b o e=>hsb.extBut b o (ym (Heap.lt_size e)) (Heap.get?_push_of_some _ e)
   have lk:∀z d,([(y,cc)]:List (Str × Addr)).lookup z=some d->z=y/\d=cc:=fun z d e=>by
    rw[yr]at e
    cases hz:z == y with
    | true=>rw[hz]at e;cases e;exact⟨eq_of_beq hz,rfl⟩
    | false=>rw[hz]at e;cases e
   have kx:lsc.names.lookup x=some .local:=by rw[hsn,yr,hxb]
   have ky:lsc.names.lookup y=some .free:=by rw[hsn,yr,hxy,yr,beq_self_eq_true]
   have noA:∀b:Addr,b∉(zfQ P w K mg base x y qual lsc f c' cc A outer s H).ex:=fun b z=>absurd (show b∈([]:List Addr)from z) (by simp)
   have I:Inv (zfQ P w K mg base x y qual lsc f c' cc A outer s H) [] [some v,some vy] H { s with heap:=h₁,toks:=s.toks+[(x,u)].length }:=by
    refine⟨⟨e0.mod,hk,rfl,rfl,yf _,fun a b d h1 h2=>?_,fun z hz=>?_,fun z d h=>?_,fun _=>hd,Around.frames_deeper e0.frames,.inr ⟨rfl,rfl⟩,fun b z=>absurd z (noA b),e0.bs,e0.bsz,fun b _ _=>noA b,fun b z=>absurd z (noA b),e0.funs,e0.frf⟩,
     rfl,e0.bare,Un.kept hk₁,⟨_,hns,fun i z vz h1 h2 h3=>?_⟩,fun z d h=>?_,e0.hok.fresh (yf _),fun z d h=>?_,fun p hp=>absurd (show p∈([]:List (Addr × Obj))from hp) (by simp),e0.hok.kept hk₁,rfl⟩
    ·exact(lk a d h1).1.trans (lk b d h2).1.symm
    ·have hz':lsc.names.lookup z=some .cell\/lsc.names.lookup z=some .free:=hz
     rw[hsn,yr,yr]at hz'
     cases h1:z == x with
     | true=>rw[h1]at hz';rcases hz' with q | q<;>cases q
     | false=>
      rw[h1]at hz'
      cases h2:z == y with
      | true=>exact⟨cc,by show([(y,cc)]:List (Str × Addr)).lookup z=some cc;rw[yr,h2]⟩
      | false=>rw[h2]at hz';rcases hz' with q | q<;>cases q
    ·exact absurd (show false=true from h) yj
    ·match i,h1,h2 with
     | 0,h1,h2=>
      cases(show some x=some z from h1)
      cases(show some (some v)=some (some vz)from h2)
      exact⟨u,rv,.inl ⟨kx,by show[(x,u)].reverse.lookup x=some u;rw[show[(x,u)].reverse=[(x,u)]from rfl,yr,hxb]⟩⟩
     | 1,h1,h2=>
      cases(show some y=some z from h1)
      cases(show some (some vy)=some (some vz)from h2)
      obtain⟨oc,hoc,hdc⟩:=hcc
      exact⟨uy,ry,.inr ⟨.inr ky,cc,by show([(y,cc)]:List (Str × Addr)).lookup y=some cc;rw[yr,beq_self_eq_true],⟨oc,hk₁ _ _ hoc,hdc⟩⟩⟩
     | n+2,h1,h2=>exact absurd (show(none:Option (Option V))=some (some vz)from h2) (by simp)
    ·obtain⟨oc,hoc,hdc⟩:=hcc
     rw[(lk z d h).2]
     exact⟨_,oc,hk₁ _ _ hoc,hdc⟩
    ·rw[(lk z d h).2];exact hcn
   refine kla_codeExpr (wpAny_mono (hbody [] _ [some v,some vy] H Q I hq) (fun r s' hr=>?_) fun _ _ z=>z.elim)
   obtain⟨v',H',J,r',q⟩:=hr
   exact⟨r,rfl,v',H',J.os,J.bare,J.base,J.hok,r',q⟩
 ·obtain⟨v',rfl,hr⟩:=hr
  exact hr
theorem zlo{lsc:Scope}{env:Env}{x y:Str}{cc:Addr}(hn:lsc.names=[(x,.local),(y,.free)])(hc:env.cells.lookup y=some cc):closureFor lsc env=pure [(y,cc)]:=by
 unfold closureFor cellOf
 rw[hn]
 simp[hc]
theorem zmm{g:Nat->Int}{i j:Nat}(hi:i<64)(hj:j<64):decide (g i*64+(i:Int)<g j*64+(j:Int))=if g i=g j then decide ((i:Int)<(j:Int))else decide (g i<g j):=by
 by_cases e:g i=g j
 ·rw[if_pos e,e]
  exact decide_eq_decide.mpr (by omega)
 ·rw[if_neg e]
  exact decide_eq_decide.mpr (by omega)
noncomputable def zhP (h:Heap) (v:Value) (x y:Int):Prop:=∃(a:Addr) (ob:Obj) (t u:Tok) (n:Nat),v=.ref a/\h.get? a=some ob/\ob.cls=.type "tuple" /\ ob.data=.seq #[.int x t,.int y u] n
theorem zgY{h:Heap}:∀(ks:List Value),(∀(i:Nat) (v:Value),ks[i]?=some v->∃x y,zhP h v x y)->∃fs,KatTups h ks fs/\(∀v∈fs,∃i t,v=Value.int i t)/\fs.length=ks.length
 | [],_=>⟨[],.nil,(fun _ z=>nomatch z),rfl⟩
 | v :: ks,hk=>by
  obtain⟨x,y,a,ob,t,u,n,rfl,h1,h2,h3⟩:=hk 0 v rfl
  obtain⟨fs,f1,f2,f3⟩:=zgY ks fun i v e=>hk (i+1) v e
  refine⟨.int x t :: fs,.cons h1 h2 h3 rfl f1,fun v hv=>?_,by rw[yM,yM,f3]⟩
  rcases ye.mp hv with rfl | hv
  ·exact⟨_,_,rfl⟩
  ·exact f2 v hv
theorem zmu{prog:Program}{w:World}{A:Around}{s:Shared}{v v':Value}{x x':Int}{i j:Nat}{C:Bool->Shared->Prop}(h1:zhP s.heap v x i)(h2:zhP s.heap v' x' j)
  (h:C (if x=x' then decide ((i:Int)<(j:Int))else decide (x<x')) s):wpAny (model prog w) A (keyLt' (tuples' true) v v') C (fun _ _=>False) s:=by
 obtain⟨a,ob,t,u,n,rfl,a1,a2,a3⟩:=h1
 obtain⟨b,oc,t',u',n',rfl,b1,b2,b3⟩:=h2
 refine kat_lt a1 a3 b1 b3 ?_
 show KatLex prog w A true (decide (2<2)) C [(.int x t,.int x' t'),(.int i u,.int j u')] 0 s
 refine kat_cons (wpAny_eqBool_int ?_)
 by_cases e:x=x'
 ·rw[if_pos e]at h
  rw[show(x == x')=true from beq_iff_eq.mpr e]
  refine kat_yes (kat_cons (wpAny_eqBool_int ?_))
  by_cases e2:(i:Int)=(j:Int)
  ·rw[show((i:Int) == (j:Int))=true from beq_iff_eq.mpr e2]
   refine kat_yes (kat_nil ?_)
   have:decide ((i:Int)<(j:Int))=decide (2<2):=decide_eq_decide.mpr (by omega)
   rw[this]at h
   exact h
  ·rw[show((i:Int) == (j:Int))=false from beq_eq_false_iff_ne.mpr e2]
   refine kat_no ?_
   show wpAny _ _ (oneLt' false _ _) _ _ _
   exact kat_one _ _ (PyProof.Rows.lt_int h)
 ·rw[if_neg e]at h
  rw[show(x == x')=false from beq_eq_false_iff_ne.mpr e]
  refine kat_no ?_
  show wpAny _ _ (oneLt' true _ _) _ _ _
  exact oneLt_int h
noncomputable def tSK (ta:TA) (tb:TE) (j:Nat) (T:Addr) (lpos:Pos) (q:Str):TE:=fun σ H Q=>ta σ H fun vs H1=>Tb H1 T lpos q/\∃(r:Addr) (n:Nat) (u:V) (g:Nat->Int),vs=[.ref r]/\H1 r=some (.rng 0 (n:Int))/\1<=n/\n<64/\σ[j]?=some (some u) /\
 (∀(i:Nat) H2,i<n->SameT H1 H2->tb [some (.int (i:Int)),some u] H2 (fun v H3=>∃t,v=.ref t/\Same H2 H3/\H3 t=some (.tup [.int (g i),.int (i:Int)]))) /\
 ∀l (p:List Nat) H3,H1 l=none->SameT H1 H3->Tb H3 T lpos q->p.Perm (List.range n)->(∀a b,a<=b->b<n->g (p.getD a 0)*64+(p.getD a 0:Int)<=g (p.getD b 0)*64+(p.getD b 0:Int))->H3 l=some (.lst (p.map fun i:Nat=>V.int (i:Int)))->Q (.ref l) H3
theorem zhQ{X:Cx}{p pos kp lpos:Pos}{e:Expr}{ta:TA}{tb:TE}{params:Arguments}{body:Expr}{lsc:Scope}{x y:Str}{c T:Addr}{j k:Nat}(hg:Gl X "sorted")(hm:X.mg "sorted" = none)(hv:bootBuiltins "sorted" = some (.builtin "sorted"))(ha:PA X [e] ta)
  (hcode:X.env.code=.ref c) (C:CodeHd X.base c T) (B:X.base.BuiltinsAt X.mg T) (hN:X.N[j]?=some y) (hy:X.env.kindOf y=some .cell) (hr:Room (k+1) X.A)
  (hbody:∀f c' cc A s H,PE (zfQ X.prog X.w X.K X.mg X.base x y (X.env.qual ++ "<lambda>") lsc f c' cc A X.stack s H) body tb)
  (hdef:autoParam (defaultsOf params X.env=([],[])) Internal.aut2._auto_1) (hsn:autoParam (lsc.names=[(x,.local),(y,.free)]) Internal.aut2._auto_1) (hxy:autoParam ((y == x)=false) Internal.aut1._auto_1) (hk:autoParam (lsc.kind=.function) Internal.aut2._auto_1) (hco:autoParam (lsc.isCoroutine=false) Internal.aut2._auto_1) (hgen:autoParam (lsc.isGenerator=false) Internal.aut2._auto_1)
  (hb:autoParam (∀cc pm c' ctv u,bindArgs (kla_fn "<lambda>" (X.env.qual ++ "<lambda>") params body lsc [(y,cc)] pm (.ref c') ctv) ⟨[u],[]⟩=pure [(x,u)]) Internal.aut5._auto_1)
  (he:autoParam (backTo pos (starEach [e] X.env)=(false,eval e X.env) :: backTo pos (starEach [] X.env)) Internal.aut2._auto_1)
  (hplain:autoParam ((backTo pos (starEach [e] X.env)).any (·.1)=false) Internal.aut2._auto_1):PE X (.Call (.Name "sorted" p) [e] [⟨some "key",.Lambda params body lsc lpos,kp⟩] pos) (tSK ta tb j T lpos (X.env.qual ++ "<lambda>")):=by
 intro pins s σ H Q I h
 refine wpAny_Call_Name_kw (zbT I hg hm hv ?_ (by decide) (by decide))
 refine PyProof.Rows.callWith_kw ?_ he hplain
 refine thn (ha pos pins s σ H _ I h) fun us s1 zz=>?_
 obtain⟨vs,H1,I1,rv,hT,r,n,u,g,rfl,hr1,n1,n64,hu,hkey,kk⟩:=zz
 obtain⟨u1,rfl,r1⟩:=vals1 rv
 cases r1
 obtain⟨cc,hcc⟩:=I1.ok.has y (.inl hy)
 have cellY:∀{H':Hp} {s':Shared},Inv X pins σ H' s'->∃u',RelV u u'/\s'.heap.IsCell cc (some u'):=fun {H' s'} I'=>by
  obtain⟨m,hn,hl⟩:=I'.loc
  obtain⟨u',ru,l⟩:=hl j y u hN hu (.inr (.inl hy))
  rcases l with⟨hk',_⟩ | ⟨_,c2,hc2,hcell⟩
  ·rw[hy]at hk';cases hk'
  ·rw[hcc]at hc2;cases hc2
   exact⟨u',ru,hcell⟩
 refine thn (zhf (t:=ze0) (nm:=some "key") (kpos:=kp) (zm1 (lpos:=lpos) (params:=params) (body:=body) hdef (zlo hsn hcc) hcode C B) ziq pos pins s1 σ H1 (fun ws H2=>∃f c',ws=[.ref f]/\H1 f=none/\SameT H1 H2/\Tb H2 T lpos (X.env.qual ++ "<lambda>")/\H2 f=some (zec f (zbY X params body lsc [(y,cc)] c'))/\H2 c'=some (zdA c' (X.env.qual ++ "<lambda>"))) I1 ⟨hT,fun f c' H' h1 h2 h3 h4 h5=>⟨f,c',rfl,h1,h2,h3,h4,h5⟩⟩) fun kvs s2 zz=>?_
 obtain⟨ws,H2,I2,rw2,f,c',rfl,hf0,st,hT2,hF,hC⟩:=zz
 obtain⟨u2,rfl,r3⟩:=vals1 rw2
 cases r3
 obtain⟨tr,ur,vr,er⟩:=I2.hok r _ (st.at hr1)
 show wpAny (model X.prog X.w) X.A (call (.builtin "sorted") [.ref r] [(Str.ofString "key",.ref f)]) (EP X pins σ Q) X.xe s2
 have hd:=hr.hd
 have hdp:X.A.in1.in1.depth<recursionLimit:=by have:=hr.dp;show X.A.depth<_;omega
 have nf:∀b,s2.heap.objs.size<=b->b∉frs X.stack:=fun b hb z=>by
  rcases ye.mp (I2.stkSub b z)with q | q
  ·exact absurd (show b<s2.heap.objs.size from q▸I2.lt) (yaC.mpr hb)
  ·exact I2.nofs hb q
 have ncell:∀b,s2.heap.objs.size<=b->∀z d,X.env.cells.lookup z=some d->d≠b:=fun b hb z d hz q=>by
  obtain⟨v,o,ho,_⟩:=I2.cell z d hz
  exact absurd (Heap.lt_size ho) (yaC.mpr (q▸hb))
 have npin:∀b,s2.heap.objs.size<=b->∀q∈X.pn++pins,q.1≠b:=fun b hb q hq z=>by
  exact absurd (Heap.lt_size (I2.pin q hq).1) (yaC.mpr (z▸hb))
 refine zkz (kf:=fun i=>g i*64+(i:Int)) (fun D kS e1 ks s'=>∃H':Hp,Inv X pins σ H' s'/\Same H2 H'/\s2.heap.objs.size<D/\(D:Nat)<(kS:Nat)/\(∃e,s'.heap.get? kS=some (seqObj "list" (List.toArray ks) e))/\s'.heap.get? D=some (seqObj "list" #[] e1)/\H' kS=none/\H' D=none /\
   ∀(i:Nat) (v:Value),ks[i]?=some v->∃a,v=.ref a/\H' a=some (.tup [.int (g i),.int (i:Int)])) hd er n1 n64 (fun h' tk D kS e1 hk1 hD hDk hoD hoK=>?_) (fun D kS e1 ks tk s' hlt hJ=>?_) fun D kS e1 ks s' hl hJ=>?_
 ·exact⟨H2,I2.kept hk1,Same.refl _,hD,hDk,⟨0,hoK⟩,hoD,I2.hok.fresh (by omega),I2.hok.fresh (by omega),fun i v z=>by simp at z⟩
 ·obtain⟨H',I',sm,d1,d2,⟨e0,hkS⟩,hoD,nk,nd,hks⟩:=hJ
  have d3:s2.heap.objs.size<kS:=yaD d1 d2
  obtain⟨⟨ctv,hfo⟩,_⟩:=I'.hok f _ (sm _ _ hF)
  obtain⟨hcd,_⟩:=I'.hok c' _ (sm _ _ hC)
  obtain⟨uy,ry,hcell⟩:=cellY I'
  refine wpAny_mono (zl3 (A:=X.A.in1.in1) (v:=.int (ks.length:Int)) hd hdp I'.env0.in1.in1 hfo hcd hsn hxy hk hco hgen (fun u=>hb cc _ c' ctv u) hcell (I'.freeC y cc hcc) ⟨tk,rfl⟩ ry (hbody f c' cc _ _ _) (hkey ks.length H' hlt (st.trans sm.t))) (fun kv s'' hce=>?_) fun _ _ z=>z
  obtain⟨v',H'',os,bare,un,hok,rv',t,rfl,sm2,ht⟩:=hce
  cases rv'
  have kK:=un.keep kS _ hkS nk (nf kS (by omega)) (by simp)
  have kD:=un.keep D _ hoD nd (nf D (by omega)) (by simp)
  have fK:=un.free kS _ hkS nk (by simp)
  have fD:=un.free D _ hoD nd (by simp)
  obtain⟨hh,gg,dd,tt,os'⟩:=s''
  obtain rfl:os'=s'.os:=os
  have J1:Inv X pins σ H'' ⟨hh,gg,dd,tt,s'.os⟩:=I'.call (h':=hh) (g':=gg) (d':=dd) (t':=tt) (ch:=[]) un hok bare (fun b z=>absurd z (by simp))
  refine⟨⟨e0,kK⟩,fun h' cN sb hcN=>⟨H'',?_,sm.trans sm2,d1,d2,⟨cN,hcN⟩,(sb.2 D (ym d2)).trans kD,fK,fD,fun i v hv=>?_⟩⟩
  ·exact J1.turned (t':=tt) (fun b o hb q=>(sb.2 b hb).trans q) fK (fun z=>absurd (show kS<s2.heap.objs.size from z▸I2.lt) (yaC.mpr (by omega))) (.inr (yb I2.sz (by omega))) (ncell kS (by omega)) (npin kS (by omega))
  ·rw[yao]at hv
   split at hv
   ·obtain⟨a,e1,e2⟩:=hks i v hv
    exact⟨a,e1,sm2 _ _ e2⟩
   ·rename_i hi
    have e0':i-ks.length=0:=by
     cases e:i-ks.length with
     | zero=>rfl
     | succ m=>rw[e]at hv;cases hv
    rw[e0']at hv;cases hv
    obtain rfl:i=ks.length:=by omega
    exact⟨t,rfl,ht⟩
 ·obtain⟨H',I',sm,d1,d2,⟨e0,hkS⟩,hoD,nk,nd,hks⟩:=hJ
  have d3:s2.heap.objs.size<kS:=yaD d1 d2
  have tup:∀(i:Nat) (v:Value),ks[i]?=some v->zhP s'.heap v (g i) (i:Int):=fun i v hv=>by
   obtain⟨a,rfl,ha⟩:=hks i v hv
   obtain⟨_,its,rI,ob,ho,hc,m,hd'⟩:=I'.hok a _ ha
   obtain⟨w1,w2,e1,⟨t1,rfl⟩,⟨t2,rfl⟩⟩:=vals2 rI
   subst e1
   exact⟨a,ob,t1,t2,m,rfl,ho,hc,hd'⟩
  refine⟨⟨e0,hkS⟩,hoD,Nat.ne_of_gt d2,zgY ks fun i v hv=>⟨_,_,tup i v hv⟩,fun i j' Cc hi hj hc=>?_,fun q out h' cN hq hs kp hvo hD' hK'=>?_⟩
  ·obtain⟨v1,e1⟩:=zN (show i<ks.length by omega)
   obtain⟨v2,e2⟩:=zN (show j'<ks.length by omega)
   rw[yh,e1,yh,e2]
   refine zmu (tup i v1 e1) (tup j' v2 e2) ?_
   rw[<- zmm (by omega) (by omega)]
   exact hc
  ·have hql:q.length=n:=by have:=hq.length_eq;rwa [y6]at this
   have nTr:∀b o,H' b=some o->b≠kS/\b≠D:=fun b o e=>⟨zC e nk,zC e nd⟩
   have oT:∀b o,H' b=some o->upd H' D (.lst (q.map fun i:Nat=>V.int (i:Int))) b=some o:=fun b o e=>by rw[zG (nTr b o e).2];exact e
   have J2:Inv X pins σ (upd H' D (.lst (q.map fun i:Nat=>V.int (i:Int)))) { s' with heap:=h' }:=by
    refine I'.step (g':=s'.gens) (d':=s'.drawn) (t':=s'.toks) (ch:=[kS,D]) (fun b hb=>?_) (fun b o _ _ hc e _=>?_) (fun b o _ _ hc e _=>⟨o.slots,?_⟩) (fun b o hc _ nb=>?_) (fun b o hc e=>⟨o,?_⟩) (fun b xs e=>oT b _ e) (fun b o u e=>oT b _ e) (fun b ps e=>⟨#[],by rw[oT b _ e];simp⟩) (fun m hm=>?_) (fun b o e=>?_) I'.bare
    ·have hb':b=kS\/b=D:=by simpa using hb
     have hb2:s2.heap.objs.size<=b:=by
      rcases hb' with z | z
      ·rw[z];omega
      ·rw[z];omega
     exact⟨.inr (yb I2.sz hb2),(fun z=>absurd (show b<s2.heap.objs.size from z▸I2.lt) (yaC.mpr hb2)),ncell b hb2,npin b hb2⟩
    ·exact kp b o (fun z=>hc (by simp[z])) (fun z=>hc (by simp[z])) e
    ·exact kp b o (fun z=>hc (by simp[z])) (fun z=>hc (by simp[z])) e
    ·rw[zG (fun z=>hc (by simp[z]))];exact nb
    ·exact kp b o (fun z=>hc (by simp[z])) (fun z=>hc (by simp[z])) e
    ·obtain⟨o,es,ep,ho,rr⟩:=hm
     have hL:X.env.locals<s2.heap.objs.size:=I2.lt
     exact⟨o,es,ep,kp _ o (ym (yaD hL (by omega))) (ym (yaD hL (by omega))) ho,rr⟩
    ·by_cases hb:b=D
     ·subst hb
      rw[zH]at e;cases e
      exact⟨by rw[ya];exact za7 (by omega),out,cN,hvo,hD'⟩
     ·rw[zG hb]at e
      refine(I'.hok b o e).stay (fun d u' hd' q'=>kp d u' ?_ ?_ q') (fun d q'=>oT d _ q') fun d xs q'=>oT d _ q'
      ·rcases hd' with z | z
       ·rw[z];exact(nTr b o e).1
       ·exact(nTr d _ z).1
      ·rcases hd' with z | z
       ·rw[z];exact(nTr b o e).2
       ·exact(nTr d _ z).2
   have sm3:Same H' (upd H' D (.lst (q.map fun i:Nat=>V.int (i:Int)))):=fun b o e=>oT b o e
   exact⟨.ref D,_,J2,rfl,kk D q _ (st.none (sm.none nd)) (st.trans (sm.trans sm3).t) ((hT2.same sm).same sm3) hq hs zH⟩
open PySem PySem.W PySem.Calls PyProof.Rows
theorem zeS{n:Nat}:∀(ns:List Int),WData.weightAll (ns.map WData.int)<=n->∀i∈ns,sz i<=n
 | [],_,_,h=>nomatch h
 | j :: r,h,i,hi=>by
  rw[yH,WData.weightAll]at h
  rcases ye.mp hi with rfl | hi
  ·have:WData.weight (.int i)=sz i:=by rw[WData.weight];rfl
   omega
  ·exact zeS r (by omega) i hi
noncomputable def zfS (ns:List Int):Prop:=∀i∈ns,sz i<=1048576
theorem zjE{ns:List Int}(h:WData.layableAll [WData.list (ns.map WData.int)]=true):zfS ns:=by
 unfold WData.layableAll at h
 rw[yav,List.all_nil,Bool.and_true]at h
 unfold WData.layable at h
 rw[yz,decide_eq_true_eq]at h
 have h2:=h.2
 rw[WData.weight]at h2
 exact zeS ns (yb h2 (by decide))
theorem zfZ{l:OpenLaw}{n:Nat}{q:Program}{loose:List Str}{XP:(Str->Option Value)->Heap->Prop}{YP:World->Heap->Prop}{d:DefRec}
  (hn:l.most=some n) (hdf:d.params.defaults=[])
  (call:∀(w:World) (s₀ s₁:Shared) (mg mb:Str->Option Value) (fa:Addr) (a:Addr) (vs:List Value) (ns:List Int),
   Ground q loose [] XP w s₀ mg mb s₁.heap->YP w s₁.heap->mg d.name=some (.ref fa) ->
   s₁.heap.get? a=some { cls:=.type "list",data:=.seq vs.toArray }->IntsAre vs ns->ns.length<=n->zfS ns->s₁.gens=#[] ->
   codeAny (model l.prog w) callerA (.call (.ref fa) ⟨[.ref a],[]⟩) (fun r s'=>r=.ok (.ret (.bool true))/\OldK s₁.heap s'.heap/\s'.os=s₁.os/\AllBare s'.gens) s₁) :
  WalkO q loose XP YP l.row.toRowW d [] (fun f vs=>PySem.call f vs):=by
 intro w s₀ s₁ mg mb G Y fa o pm cd doc dV kV ho hd hcd hD hmg hg args vals as hpre hlay hrd hwl hlo
 obtain⟨a,vs,ns,rfl,rfl,hobj,hints,hlen⟩:=Att.script_of hn hpre hwl
 refine enter_call (codeAny_mono (call w s₀ s₁ mg mb fa a vs ns G Y hmg hobj hints hlen (zjE hlay) hg) fun r s' hq=>?_)
 obtain⟨rfl,h2,h3,h4⟩:=hq
 exact⟨.inl ⟨.bool true,.bool true,[],rfl,fun _=>rfl,.bool true,Att.post_true l _,fun _=>⟨List.Pairwise.nil,fun _ hm=>(nomatch hm)⟩⟩,h2,h3,h4⟩
open PySem PySem.Spec PyProof.Rows
noncomputable def Within (m:Int) (k:Nat) (f:Nat->Int):Prop:=∀j,j<k->-m<=f j/\f j<=m
noncomputable def WithinR (m:Int) (n k:Nat) (F:Nat->Nat->Int):Prop:=∀i,i<n->Within m k (F i)
theorem Rows.snoc{H:Hp}{as:List Addr}{k:Nat}{F:Nat->Nat->Int}{p:Addr}{f:Nat->Int}(h:Rows H as k F)(n:p∉as)(hp:H p=some (.lst ((vec k f).map V.int))):Rows H (as++[p]) k (fun i=>if i=as.length then f else F i):=by
 refine Rows.app (h.congr fun i hi j _=>?_) n (by show H p=some (HO.lst ((vec k (if as.length=as.length then f else F as.length)).map V.int));rw[if_pos rfl];exact hp)
 show F i j=(if i=as.length then f else F i) j
 rw[if_neg (by omega)]
theorem WithinR.snoc{m:Int}{n k:Nat}{F:Nat->Nat->Int}{f:Nat->Int}(h:WithinR m n k F)(hf:Within m k f):WithinR m (n+1) k (fun i=>if i=n then f else F i):=by
 intro i hi
 show Within m k (if i=n then f else F i)
 by_cases e:i=n
 ·rw[if_pos e];exact hf
 ·rw[if_neg e];exact h i (by omega)
noncomputable def zag (k:Nat) (f g:Nat->Int):Int:=-zbo (vec k fun j=>f j*g j)
theorem zgK{n:Nat}{f:Nat->Int}(x:Int):(vec n f).map V.int++[.int x]=(vec (n+1) fun i=>if i=n then x else f i).map V.int:=by
 rw[zan,yw]
 congr 1
 ·rw[zao (g:=fun i=>if i=n then x else f i) fun i hi=>by show f i=if i=n then x else f i;rw[if_neg (by omega)]]
 ·show[V.int x]=[V.int (if n=n then x else f n)];rw[if_pos rfl]
theorem Within.more{m:Int}{n:Nat}{f:Nat->Int}{x:Int}(h:Within m n f)(h0:-m<=x)(h1:x<=m):Within m (n+1) (fun i=>if i=n then x else f i):=by
 intro j hj
 show -m<=(if j=n then x else f j)/\(if j=n then x else f j)<=m
 by_cases e:j=n
 ·rw[if_pos e];exact⟨h0,h1⟩
 ·rw[if_neg e];exact h j (by omega)
theorem zeD{k:Nat}{f g:Nat->Int}:zag (k+1) f g=zag k f g-f k*g k:=by
 unfold zag
 rw[zan,zcj]
 omega
noncomputable def zee (K:Fg):Sp:=fun vs H Q _=>∃(p l:Addr) (as:List Addr) (k:Nat) (f:Nat->Int) (F:Nat->Nat->Int) (m:Int),vs=[.ref p,.ref l]/\H p=some (.lst ((vec k f).map V.int))/\H l=some (.lst (as.map V.ref))/\Rows H as k F/\Within m k f/\WithinR m as.length k F/\m<=999999999999/\k<=1000/\as.length<=1000 /\
 ∀r H',H r=none->Same H H'->H' r=some (.lst ((vec as.length fun i=>zag k f (F i)).map V.int))->Q (.ref r) H'
def zh2:=fun {K:Fg} {p l:Addr} {as:List Addr} {k:Nat} {f:Nat->Int} {F:Nat->Nat->Int} {m:Int} {H:Hp} {Q:VK} {E:XK} h1 h2 h3 h4 h5 hm hk hl q=>@id (zee K [.ref p,.ref l] H Q E) ⟨p,l,as,k,f,F,m,rfl,h1,h2,h3,h4,h5,hm,hk,hl,q⟩
open PySem PySem.W PySem.Spec PySem.Calls PyProof.Rows
theorem zig{P:Program}{w:World}{K:Fg}{mg mb:Str->Option Value}{CX:CXT}{k:Nat}{fa a c T:Addr}{fd:FuncData}{x:Str}{sp:Sp}{s₁:Shared}{vs:List Value}{ns:List Int}
  (KX:K.In s₁.heap) (hns:s₁.heap.Ns mainGlobals mg) (hb:s₁.heap.Ns builtinsNs mb) (hbb:∀x:Str,x ≠ "__name__" -> mb x=bootBuiltins x) (hlim:s₁.heap.NoLimit) (hg:s₁.gens=#[])
  (ha:s₁.heap.get? a=some { cls:=.type "list",data:=.seq vs.toArray }) (hi:IntsAre vs ns) (hl:ns.length<=sizeLine) (hr:Room k callerA)
  (hC:CodeHd s₁.heap c T) (hT:s₁.heap.get? T=some (tabObj #[])) (hKT:K.lookup T=none) (hB:s₁.heap.BuiltinsAt mg T)
  (F:∀base:Heap,K.In base->base.Ns mainGlobals mg->CodeHd base c T->base.BuiltinsAt mg T->FnOk P w K mg base CX k fa fd [x] sp) (hbind:∀(s:Shared) (u:Value),BindsTo s fd ⟨[u],[]⟩ [(x,u)])
  (hsp:∀H:Hp,SqL K H a (ns.map V.int)->H T=some (.tbl #[])->sp [.ref a] H (fun v _=>v=.bl true) fun _ _ _=>False)
  (hCX:∀H e s',CX [] H s₁ (fun _ _ _=>False) e s'->False) :
  codeAny (model P w) callerA (.call (.ref fa) ⟨[.ref a],[]⟩) (fun r s'=>r=.ok (.ret (.bool true))/\OldK s₁.heap s'.heap/\s'.os=s₁.os/\AllBare s'.gens) s₁:=by
 have rv:=zdh hi
 have lenV:=hi.length
 have neTa:T≠a:=fun z=>by rw[z,ha]at hT;cases hT
 have core:∀Hs:Hp,zor Hs->SqL K Hs a (ns.map V.int)->HOk P w Hs s₁.heap->(∀b,Hs b≠none->b=a)->(Hs a≠none->K.lookup a=none) ->
   codeAny (model P w) callerA (.call (.ref fa) ⟨[.ref a],[]⟩) (fun r s'=>r=.ok (.ret (.bool true))/\OldK s₁.heap s'.heap/\s'.os=s₁.os/\AllBare s'.gens) s₁:=by
  intro Hs hO hS hoks hA hK
  have hsT:Hs T=none:=by
   cases q:Hs T with
   | none=>rfl
   | some u=>exact absurd (hA T (by rw[q];simp)) neTa
  obtain⟨H,eH⟩:∃H,H=upd Hs T (.tbl #[]):=⟨_,rfl⟩
  have aT:H T=some (.tbl #[]):=by rw[eH];exact zH
  have aO:∀b,b≠T->H b=Hs b:=fun b h=>by rw[eH,zG h]
  have hok:HOk P w H s₁.heap:=fun b o e=>by
   by_cases h:b=T
   ·subst h;rw[aT]at e;cases e
    exact hT
   ·rw[aO b h]at e
    exact(hoks b o e).stay (fun d u _ q=>q) (fun d q=>by rw[aO d (zC q hsT)];exact q) fun d xs q=>by rw[aO d (zC q hsT)];exact q
  have hSH:SqL K H a (ns.map V.int):=by
   rcases hS with(h | ⟨o,h⟩) | h
   ·exact .inl (.inl (by rw[aO a neTa.symm];exact h))
   ·exact .inl (.inr ⟨o,by rw[aO a neTa.symm];exact h⟩)
   ·exact .inr h
  have base_of:∀{b:Addr} {o:Obj},s₁.heap.get? b=some o->H b=none->(zb7 s₁.heap H).get? b=some o:=fun e n=>zj6 e n
  have noH:∀{b:Addr} {o:Obj},s₁.heap.get? b=some o->o.cls≠.none->o.cls≠.type "list" -> H b=none:=fun {b o} e d1 d2=>by
   have hbT:b≠T:=fun z=>by rw[z,hT]at e;cases e;exact d1 rfl
   rw[aO b hbT]
   cases q:Hs b with
   | none=>rfl
   | some u=>
    have e':b=a:=hA b (by rw[q];simp)
    subst e'
    rw[ha]at e;cases e
    exact absurd rfl d2
  have noA:∀{b:Addr} {o:Obj} {es:Array DictEntry} {ep:Nat},s₁.heap.get? b=some o->o.data=.dict es ep->H b=none:=fun {b o es ep} e d=>by
   have hbT:b≠T:=fun z=>by rw[z,hT]at e;cases e;cases d
   rw[aO b hbT]
   cases q:Hs b with
   | none=>rfl
   | some u=>
    have e':b=a:=hA b (by rw[q];simp)
    subst e'
    rw[ha]at e;cases e
    cases d
  have nsK:∀{b:Addr} {m:Str->Option Value},s₁.heap.Ns b m->(zb7 s₁.heap H).Ns b m:=fun {b m} ⟨o,es,ep,e,d,r⟩=>⟨o,es,ep,base_of e (noA e d),d,r⟩
  have hKb:K.In (zb7 s₁.heap H):=fun b o e=>base_of (KX b o e) (by
   have hbT:b≠T:=fun z=>by rw[z,hKT]at e;cases e
   rw[aO b hbT]
   cases q:Hs b with
   | none=>rfl
   | some u=>
    have e':b=a:=hA b (by rw[q];simp)
    subst e'
    rw[hK (by rw[q];simp)]at e;cases e)
  have hM:Mod K mg (zb7 s₁.heap H):=⟨hKb,nsK hns,⟨mb,nsK hb,hbb⟩,let ⟨mc,h1,h2⟩:=hlim;⟨mc,nsK h1,h2⟩⟩
  have hCb:CodeHd (zb7 s₁.heap H) c T:=by
   obtain⟨o,us,file,tf,flags,tg,inF,text,tt,e1,e2,r⟩:=hC
   exact⟨o,us,file,tf,flags,tg,inF,text,tt,base_of e1 (noH e1 (by rw[e2];decide) (by rw[e2];decide)),e2,r⟩
  have hBb:(zb7 s₁.heap H).BuiltinsAt mg T:=by
   obtain⟨bm,o,b1,b2,b3,b4,b5,b6,r⟩:=hB
   exact⟨bm,o,b1,b2,b3,b4,base_of b5 (noH b5 (by rw[b6];decide) (by rw[b6];decide)),b6,r⟩
  have e0:Env0 P w K mg (zb7 s₁.heap H) callerA [] s₁ H:=⟨rfl,hM,fun b o e=>zlV e,yaP (ziL _ _),trivial,fun b hb=>absurd (show b∈([]:List Addr)from hb) (by simp),hok,.of_eq hg⟩
  refine codeAny_mono ((F _ hKb (nsK hns) hCb hBb).run callerA [] s₁ H ⟨[.ref a],[]⟩ [.ref a] [.ref a] _ _ hr e0 (hbind s₁ (.ref a)) (.cons rfl .nil) (hsp H hSH aT)) fun r s' h=>?_
  cases r with
  | error e=>exact(hCX H e s' h).elim
  | ok fl=>
   cases fl with
   | next=>exact False.elim h
   | brk=>exact False.elim h
   | cont=>exact False.elim h
   | ret u=>
    obtain⟨v,H',os,bare,un,hok',r',q⟩:=h
    have q':v=.bl true:=q
    subst q'
    obtain rfl:u=Value.bool true:=r'
    have hgrown:∃more,s'.heap.get? T=some (tabObj more):=by
     obtain⟨more,e⟩:=un.tbls T #[] aT
     exact⟨_,hok' T _ e⟩
    have keep:∀b o,b≠T->s₁.heap.get? b=some o->s'.heap.get? b=some o:=fun b o hbT e=>by
     cases q:Hs b with
     | none=>exact un.keep b o e (by rw[aO b hbT];exact q) (by intro z;exact absurd (show b∈([]:List Addr)from z) (by simp)) (by simp)
     | some u=>
      rcases hO b with z | ⟨ob,xs,z⟩
      ·rw[q]at z;cases z
      ·have z1:H b=some (.frz ob (.lst xs)):=by rw[aO b hbT];exact z
       have z2:=un.frzs b ob _ z1
       obtain⟨e1,_⟩:=hok b _ z1
       obtain⟨e2,_⟩:=hok' b _ z2
       rw[e]at e1;cases e1
       exact e2
    refine⟨rfl,⟨fun b o e=>?_,fun b o e=>?_⟩,os,bare⟩
    ·by_cases hbT:b=T
     ·subst hbT
      rw[hT]at e;cases e
      obtain⟨more,hm⟩:=hgrown
      exact .inr (.inl ⟨(hC.tab hT).isCodeTable,rfl,#[],more,rfl,by rw[Array.empty_append];exact hm⟩)
     ·exact .inl (keep b o hbT e)
    ·by_cases hbT:b=T
     ·subst hbT
      obtain⟨more,hm⟩:=hgrown
      exact⟨_,hm⟩
     ·exact⟨o,keep b o hbT e⟩
 cases hk:K.lookup a with
 | some o=>
  have e:=KX a o hk
  rw[ha]at e
  cases e
  refine core (fun _=>none) (fun _=>.inl rfl) (.inr ⟨_,vs.toArray,_,hk,rfl,rfl,rfl,by rw[yi,lenV];exact hl,by simpa using rv⟩) (fun b u z=>by have z':(none:Option HO)=some u:=z;cases z') (fun b z=>absurd rfl z) fun z=>absurd rfl z
 | none=>
  refine core (fun b=>if b=a then some (.frz { cls:=.type "list",data:=.seq vs.toArray } (.lst (ns.map V.int)))else none) (fun b=>?_) (.inl (.inr ⟨{ cls:=.type "list",data:=.seq vs.toArray },if_pos rfl⟩)) (fun b u z=>?_) (fun b z=>?_) fun _=>hk
  ·by_cases hb:b=a
   ·exact .inr ⟨_,_,if_pos hb⟩
   ·exact .inl (if_neg hb)
  ·by_cases hb:b=a
   ·have z':=(if_pos hb).symm.trans z
    cases z'
    subst hb
    exact⟨ha,by rw[ya];exact hl,vs,_,rv,ha⟩
   ·have z':=(if_neg hb).symm.trans z
    cases z'
  ·by_cases hb:b=a
   ·exact hb
   ·exact absurd (if_neg hb) z
noncomputable def zd9 (K:Fg) (x:Str):Addr:=match tabIn K x with
 | some q=>q.2
 | none=>0
class TabX (K:Fg) (mg:Str->Option Value) (base:Heap) (x:outParam Str):Prop where
 ex:∀c T,tabIn K x=some (c,T)->CodeHd base c T/\base.BuiltinsAt mg T
theorem zfE{K:Fg}{h:Heap}{T:Addr}(hK:noTabs K=true)(X:K.In h)(hT:h.get? T=some (tabObj #[])):K.lookup T=none:=by
 cases q:K.lookup T with
 | none=>rfl
 | some o=>
  have e:=X T o q
  rw[hT]at e
  cases e
  have h2:=yaQ.mp hK (T,tabObj #[]) (mem_of_lookupK q)
  exact absurd (show false=true from h2) yj
theorem walk_ofT{l:PySem.W.OpenLaw}{n k:Nat}{q:Program}{loose:List Str}{XP:(Str->Option Value)->Heap->Prop}{YP:World->Heap->Prop}{d d':DefRec}{K:Params->Fg}{CX:World->CXT}{sp:World->Sp}{x y:Str}
  (hn:l.most=some n) (hn2:n<=sizeLine) (hdf:d.params.defaults=[]) (hr:Room k callerA)
  (hY:∀(w:World) (h:Heap),YP w h->(K w.params).In h)
  (hrec:(recsOf q).find? (fun e=>e.name == y)=some d') (hnt:∀w:World,noTabs (K w.params)=true)
  (F:∀(w:World) (mg:Str->Option Value) (fa:Addr) (h:Heap),(K w.params).In h->h.Ns mainGlobals mg->mg d.name=some (.ref fa) ->
   ∃fd:FuncData,(∀(s:Shared) (u:Value),BindsTo s fd ⟨[u],[]⟩ [(x,u)])/\(∃p,tabIn (K w.params) y=some p) /\
    ∀base:Heap,(K w.params).In base->base.Ns mainGlobals mg->TabX (K w.params) mg base y->FnOk l.prog w (K w.params) mg base (CX w) k fa fd [x] (sp w))
  (hsp:∀(w:World) (H:Hp) (a:Addr) (ns:List Int),ns.length<=n->zfS ns->SqL (K w.params) H a (ns.map V.int)->(∀pos qual,Tb H (zd9 (K w.params) y) pos qual)->sp w [.ref a] H (fun v _=>v=.bl true) fun _ _ _=>False)
  (hCX:∀(w:World) (H:Hp) (s:Shared) (e:Value) (s':Shared),CX w [] H s (fun _ _ _=>False) e s'->False) :
  PySem.W.WalkO q loose XP YP l.row.toRowW d [] (fun f vs=>PySem.call f vs):=by
 refine zfZ hn hdf fun w s₀ s₁ mg mb fa a vs ns G Y hmg hobj hints hlen hz hg=>?_
 have KX:=hY w _ Y
 obtain⟨fd,hb,⟨⟨c,T⟩,hcT⟩,hF⟩:=F w mg fa _ KX G.T.g hmg
 obtain⟨hC,hT⟩:=tab_of G.T KX hrec hcT
 have hB:s₁.heap.BuiltinsAt mg T:=by
  obtain⟨bm,ob,b1,b2,b3,b4,b5,b6⟩:=G.T.bmain
  refine⟨bm,ob,b1,b2,fun z=>?_,fun z=>?_,b3,b4,b5,b6⟩
  ·obtain⟨o,es,ep,e,hd,_⟩:=G.T.g
   rw[z,e]at b3;cases b3;rw[hd]at b6;cases b6
  ·rw[z,hT]at b3;cases b3;cases b4
 have eP:zd9 (K w.params) y=T:=by unfold zd9;rw[hcT]
 refine zig KX G.T.g G.T.b G.T.builtins G.T.nolimit hg hobj hints (yb hlen hn2) hr hC hT (zfE (hnt w) KX hT) hB
  (fun base kb nb cb bb=>hF base kb nb ⟨fun c' T' e=>by rw[hcT]at e;cases e;exact⟨cb,bb⟩⟩) hb (fun H hS hTb=>hsp w H a ns hlen hz hS fun pos qual=>?_) fun H e s'=>hCX w H s₁ e s'
 rw[eP]
 exact⟨#[],hTb,trivial,.inl rfl⟩
theorem tab_mk{K:Fg}{x:Str}{f c T:Addr}{oc ocw:Value}{od odw:Option Addr}{fd:FuncData}{sl slw:Array (Option Value)}{vs:Array Value}(a:nsIn K mainGlobals x=some (some (.ref f)))(l:K.lookup f=some ⟨oc,od,.func fd,sl⟩)(cq:fd.code=.ref c)(lc:K.lookup c=some ⟨ocw,odw,.fields vs,slw⟩)(v:vs[11]?=some (.ref T)):tabIn K x=some (c,T):=by
 unfold tabIn
 simp only[a,l,cq,lc,v]
theorem Fun.okC{P:Program}{w:World}{K:Fg}{mg:Str->Option Value}{base:Heap}{CX:CXT}{x qual:Str}{st:Stmt}{f c:Addr}{fd:FuncData}{N ps:List Str}{k:Nat}{sp:Sp}(F:Fun K x qual st f fd)(hc:fd.code=.ref c)(S:FnScope N ps (zi st))(len:∀vs H Q E,sp vs H Q E->vs.length=ps.length)
  (hbody:∀(A:Around) (outer:List Env) (s:Shared) (H:Hp) (vs:List V) (Q:VK) (E:XK),Room k (A.deeper (envOfC qual (zi st) s.heap.objs.size f (.ref c)))->sp vs H Q E ->
   ∃t,PSs (zaq CX P w K mg base N qual (zi st) f (.ref c) A outer s H E).nox (zaR st) t/\t { nx:=fun _ H'=>Q .non H',rt:=Q } (start N vs) H):FnOk P w K mg base CX (k+1) f fd ps sp:=by
 obtain⟨oc,od,kV,doc,pm,an,cdv,ct,osl,rfl,lk,hcd⟩:=F.ex
 have e:cdv=.ref c:=hc
 subst e
 refine zhy lk hcd S len fun A outer s H vs Q E hr hsp=>?_
 obtain⟨t,h,q⟩:=hbody A outer s H vs Q E hr hsp
 exact⟨t,h.nox,q⟩
end Internal
namespace Internal.K
open PySem Internal
noncomputable def top (i:Nat):Stmt:=PySem.Challenge.pw_quits_k78_needs_and_pledges.main.body.getD i (.Pass ⟨0,0,0,0⟩)
abbrev zcq:Stmt:=z5 (top 29) 0
abbrev zcT:Stmt:=z5 (top 29) 1
abbrev zbF:Stmt:=z5 (top 29) 2
abbrev zbW:Stmt:=z5 (top 29) 3
abbrev zcb:Stmt:=z5 (top 29) 5
abbrev zby:Stmt:=z5 (top 29) 6
abbrev zch:Stmt:=z5 (top 29) 7
abbrev zdZ:Stmt:=z5 (top 29) 14
abbrev zcn:Stmt:=z5 (top 29) 18
abbrev zb6:Stmt:=z5 (top 107) 0
abbrev zdL:Stmt:=z5 (top 107) 1
abbrev zdM:Stmt:=z5 (top 107) 3
abbrev zdc:Stmt:=z5 (top 107) 4
abbrev zbG:Stmt:=z5 (top 107) 5
abbrev zcB:Stmt:=z5 (top 107) 6
abbrev zb1:Stmt:=z5 (top 107) 8
abbrev zcy:Stmt:=z5 (top 107) 15
abbrev zdq:Stmt:=z5 (top 107) 19
abbrev zb0:Stmt:=z5 (top 107) 20
abbrev zdb:Stmt:=z5 (top 107) 23
abbrev zcc:Stmt:=z5 (top 107) 26
abbrev zcR:Stmt:=top 46
abbrev zfl:Stmt:=top 51
abbrev zjn:Stmt:=top 53
abbrev zhn:Stmt:=top 58
abbrev zdN:Stmt:=top 63
abbrev zda:Stmt:=top 64
abbrev zfu:Stmt:=top 66
abbrev zc4:Stmt:=top 67
abbrev zcA:Stmt:=top 108
abbrev zcp:Stmt:=top 109
abbrev zdP:Stmt:=top 112
abbrev zdK:Stmt:=top 113
abbrev zdo:Stmt:=top 114
abbrev zcP:Stmt:=top 115
abbrev zc8:Stmt:=top 116
abbrev zdU:Stmt:=top 117
abbrev zdQ:Stmt:=top 118
abbrev zcf:Stmt:=top 119
abbrev zcx:Stmt:=top 120
abbrev zcQ:Stmt:=top 121
abbrev zdY:Stmt:=top 122
abbrev zdV:Stmt:=top 123
abbrev zcY:Stmt:=top 124
abbrev zdO:Stmt:=top 125
abbrev zcm:Stmt:=top 126
abbrev zcS:Stmt:=top 127
abbrev zdl:Stmt:=top 128
abbrev zk5:Stmt:=top 129
theorem zd7:FnScope ["self", "many", "wares"] ["self", "many", "wares"] (zi zcq):=⟨rfl,rfl,rfl,by decide +kernel,rfl,by decide +kernel,by decide +kernel⟩
theorem ze6:FnScope ["self", "payer", "payee", "ware", "units", "amount", "day", "rank"] ["self", "payer", "payee", "ware", "units", "amount", "day", "rank"] (zi zcT):=⟨rfl,rfl,rfl,by decide +kernel,rfl,by decide +kernel,by decide +kernel⟩
theorem sc_Book_check_members:FnScope ["self", "payer", "payee", "member"] ["self", "payer", "payee"] (zi zbF):=⟨rfl,rfl,rfl,by decide +kernel,rfl,by decide +kernel,by decide +kernel⟩
theorem zcX:FnScope ["self", "ware", "units", "amount", "day", "rank"] ["self", "ware", "units", "amount", "day", "rank"] (zi zbW):=⟨rfl,rfl,rfl,by decide +kernel,rfl,by decide +kernel,by decide +kernel⟩
theorem zdJ:FnScope ["self", "number"] ["self", "number"] (zi zcb):=⟨rfl,rfl,rfl,by decide +kernel,rfl,by decide +kernel,by decide +kernel⟩
theorem sc_Book_standing_deal:FnScope ["self", "number", "found"] ["self", "number"] (zi zby):=⟨rfl,rfl,rfl,by decide +kernel,rfl,by decide +kernel,by decide +kernel⟩
theorem zdE:FnScope ["self", "number", "state"] ["self", "number", "state"] (zi zch):=⟨rfl,rfl,rfl,by decide +kernel,rfl,by decide +kernel,by decide +kernel⟩
theorem zf2:FnScope ["self", "number"] ["self", "number"] (zi zdZ):=⟨rfl,rfl,rfl,by decide +kernel,rfl,by decide +kernel,by decide +kernel⟩
theorem sc_Book_position:FnScope ["self", "member", "made", "one"] ["self", "member"] (zi zcn):=⟨rfl,rfl,rfl,by decide +kernel,rfl,by decide +kernel,by decide +kernel⟩
theorem zdD:FnScope ["self", "members", "moves", "rule", "order", "own"] ["self", "members", "moves", "rule", "order", "own"] (zi zb6):=⟨rfl,rfl,rfl,by decide +kernel,rfl,by decide +kernel,by decide +kernel⟩
theorem zf4:FnScope ["self", "member", "coins"] ["self", "member", "coins"] (zi zdL):=⟨rfl,rfl,rfl,by decide +kernel,rfl,by decide +kernel,by decide +kernel⟩
theorem zgJ:FnScope ["self", "member", "coins"] ["self", "member", "coins"] (zi zdM):=⟨rfl,rfl,rfl,by decide +kernel,rfl,by decide +kernel,by decide +kernel⟩
theorem zfJ:FnScope ["self", "member", "coins"] ["self", "member", "coins"] (zi zdc):=⟨rfl,rfl,rfl,by decide +kernel,rfl,by decide +kernel,by decide +kernel⟩
theorem zcO:FnScope ["self", "member", "coins"] ["self", "member", "coins"] (zi zbG):=⟨rfl,rfl,rfl,by decide +kernel,rfl,by decide +kernel,by decide +kernel⟩
theorem zeN:FnScope ["self", "payer", "payee", "ware", "units", "amount", "day", "rank"] ["self", "payer", "payee", "ware", "units", "amount", "day", "rank"] (zi zcB):=⟨rfl,rfl,rfl,by decide +kernel,rfl,by decide +kernel,by decide +kernel⟩
theorem zdp:FnScope ["self", "number"] ["self", "number"] (zi zb1):=⟨rfl,rfl,rfl,by decide +kernel,rfl,by decide +kernel,by decide +kernel⟩
theorem zex:FnScope ["self", "member"] ["self", "member"] (zi zcy):=⟨rfl,rfl,rfl,by decide +kernel,rfl,by decide +kernel,by decide +kernel⟩
theorem zfD:FnScope ["self", "member"] ["self", "member"] (zi zdq):=⟨rfl,rfl,rfl,by decide +kernel,rfl,by decide +kernel,by decide +kernel⟩
theorem sc_House_need_with:FnScope ["self", "member", "ware", "units", "held"] ["self", "member", "ware", "units"] (zi zb0):=⟨rfl,rfl,rfl,by decide +kernel,rfl,by decide +kernel,by decide +kernel⟩
theorem zfB:FnScope ["self", "number"] ["self", "number"] (zi zdb):=⟨rfl,rfl,rfl,by decide +kernel,rfl,by decide +kernel,by decide +kernel⟩
theorem zdI:FnScope ["self", "member"] ["self", "member"] (zi zcc):=⟨rfl,rfl,rfl,by decide +kernel,rfl,by decide +kernel,by decide +kernel⟩
theorem sc_check_order:FnScope ["order", "place", "word"] ["order"] (zi zcR):=⟨rfl,rfl,rfl,by decide +kernel,rfl,by decide +kernel,by decide +kernel⟩
theorem sc_divisor:FnScope ["one", "other", "kept", "rest", "further"] ["one", "other"] (zi zfl):=⟨rfl,rfl,rfl,by decide +kernel,rfl,by decide +kernel,by decide +kernel⟩
theorem sc_part:FnScope ["top", "bottom", "common"] ["top", "bottom"] (zi zjn):=⟨rfl,rfl,rfl,by decide +kernel,rfl,by decide +kernel,by decide +kernel⟩
theorem zkk:FnScope ["one", "other"] ["one", "other"] (zi zhn):=⟨rfl,rfl,rfl,by decide +kernel,rfl,by decide +kernel,by decide +kernel⟩
theorem zgD:FnScope ["position", "moves"] ["position", "moves"] (zi zdN):=⟨rfl,rfl,rfl,by decide +kernel,rfl,by decide +kernel,by decide +kernel⟩
theorem sc_worst_days:FnScope ["position", "moves", "k", "losses"] ["position", "moves", "k"] (zi zda):=⟨rfl,rfl,rfl,by decide +kernel,rfl,by decide +kernel,by decide +kernel⟩
theorem sc_need_of:FnScope ["rule", "position", "moves", "losses", "worst", "need"] ["rule", "position", "moves"] (zi zfu):=⟨rfl,rfl,rfl,by decide +kernel,rfl,by decide +kernel,by decide +kernel⟩
theorem zfA:FnScope ["rule", "moves"] ["rule", "moves"] (zi zc4):=⟨rfl,rfl,rfl,by decide +kernel,rfl,by decide +kernel,by decide +kernel⟩
theorem zeA:FnScope ["coins", "wanted"] ["coins", "wanted"] (zi zcA):=⟨rfl,rfl,rfl,by decide +kernel,rfl,by decide +kernel,by decide +kernel⟩
theorem zek:FnScope ["pledge", "need"] ["pledge", "need"] (zi zcp):=⟨rfl,rfl,rfl,by decide +kernel,rfl,by decide +kernel,by decide +kernel⟩
theorem zgC:FnScope ["_law_script", "_law_k"] ["_law_script", "_law_k"] (zi zdP):=⟨rfl,rfl,rfl,by decide +kernel,rfl,by decide +kernel,by decide +kernel⟩
theorem zgc:FnScope ["_law_script", "_law_k", "_law_many"] ["_law_script", "_law_k", "_law_many"] (zi zdK):=⟨rfl,rfl,rfl,by decide +kernel,rfl,by decide +kernel,by decide +kernel⟩
theorem zfG:FnScope ["_law_script", "_law_k", "_law_many"] ["_law_script", "_law_k", "_law_many"] (zi zdo):=⟨rfl,rfl,rfl,by decide +kernel,rfl,by decide +kernel,by decide +kernel⟩
theorem sc__law_pledge:FnScope ["_law_script", "_law_k", "_law_way"] ["_law_script", "_law_k"] (zi zcP):=⟨rfl,rfl,rfl,by decide +kernel,rfl,by decide +kernel,by decide +kernel⟩
theorem sc__law_moves:FnScope ["_law_script", "_law_start", "_law_days", "_law_wares", "_law_moves_here", "_law_day", "_law_row", "_law_ware", "_law_at"] ["_law_script", "_law_start", "_law_days", "_law_wares"] (zi zc8):=⟨rfl,rfl,rfl,by decide +kernel,rfl,by decide +kernel,by decide +kernel⟩
theorem zgz:FnScope ["_law_position", "_law_move"] ["_law_position", "_law_move"] (zi zdU):=⟨rfl,rfl,rfl,by decide +kernel,rfl,by decide +kernel,by decide +kernel⟩
theorem sc__law_need:FnScope ["_law_position", "_law_rule", "_law_moves_here", "_law_losses"] ["_law_position", "_law_rule", "_law_moves_here"] (zi zdQ):=⟨rfl,rfl,rfl,by decide +kernel,rfl,by decide +kernel,by decide +kernel⟩
theorem sc__law_positions:FnScope ["_law_rows", "_law_many", "_law_wares", "_law_positions_here", "_law_row", "_law_payer", "_law_payee"] ["_law_rows", "_law_many", "_law_wares"] (zi zcf):=⟨rfl,rfl,rfl,by decide +kernel,rfl,by decide +kernel,by decide +kernel⟩
theorem sc__law_part_is:FnScope ["_law_told", "_law_due", "_law_one", "_law_top", "_law_bottom", "_law_rest"] ["_law_told", "_law_due"] (zi zcx):=⟨rfl,rfl,rfl,by decide +kernel,rfl,by decide +kernel,by decide +kernel⟩
theorem sc__law_stands:FnScope ["_law_house", "_law_rows", "_law_pledges", "_law_rule", "_law_moves_here", "_law_positions_here", "_law_k", "_law_told", "_law_number"] ["_law_house", "_law_rows", "_law_pledges", "_law_rule", "_law_moves_here"] (zi zcQ):=⟨rfl,rfl,rfl,by decide +kernel,rfl,by decide +kernel,by decide +kernel⟩
theorem sc__law_name:FnScope ["_law_e", "_law_found_here"] ["_law_e"] (zi zdY):=⟨rfl,rfl,rfl,by decide +kernel,rfl,by decide +kernel,by decide +kernel⟩
theorem zgy:FnScope ["_law_house", "_law_deed_here"] ["_law_house", "_law_deed_here"] (zi zdV):=⟨rfl,rfl,rfl,by decide +kernel,rfl,by decide +kernel,by decide +kernel⟩
theorem sc__law_found:FnScope ["_law_house", "_law_deed_here", "_law_found_here", "_law_e"] ["_law_house", "_law_deed_here"] (zi zcY):=⟨rfl,rfl,rfl,by decide +kernel,rfl,by decide +kernel,by decide +kernel⟩
theorem sc__law_deed:FnScope ["_law_script", "_law_at", "_law_many", "_law_wares", "_law_payer", "_law_payee", "_law_units", "_law_deed_here", "_law_way"] ["_law_script", "_law_at", "_law_many", "_law_wares"] (zi zdO):=⟨rfl,rfl,rfl,by decide +kernel,rfl,by decide +kernel,by decide +kernel⟩
theorem sc__law_short_of:FnScope ["_law_rows", "_law_pledges", "_law_rule", "_law_moves_here", "_law_deed_here", "_law_positions_here", "_law_needs", "_law_missing", "_law_k"] ["_law_rows", "_law_pledges", "_law_rule", "_law_moves_here", "_law_deed_here"] (zi zcm):=⟨rfl,rfl,rfl,by decide +kernel,rfl,by decide +kernel,by decide +kernel⟩
theorem sc__law_struck:FnScope ["_law_house", "_law_rows", "_law_pledges", "_law_rule", "_law_moves_here", "_law_deed_here", "_law_many", "_law_missing", "_law_last", "_law_k", "_law_found_here"] ["_law_house", "_law_rows", "_law_pledges", "_law_rule", "_law_moves_here", "_law_deed_here"] (zi zcS):=⟨rfl,rfl,rfl,by decide +kernel,rfl,by decide +kernel,by decide +kernel⟩
theorem sc__law_freed:FnScope ["_law_script", "_law_at", "_law_house", "_law_rows", "_law_pledges", "_law_rule", "_law_moves_here", "_law_member", "_law_need_here", "_law_most", "_law_coins", "_law_found_here"] ["_law_script", "_law_at", "_law_house", "_law_rows", "_law_pledges", "_law_rule", "_law_moves_here"] (zi zdl):=⟨rfl,rfl,rfl,by decide +kernel,rfl,by decide +kernel,by decide +kernel⟩
theorem sc_law:FnScope ["_law_script", "_law_many", "_law_wares", "_law_days", "_law_moves_here", "_law_rule", "_law_pledges", "_law_rows", "_law_handed", "_law_house", "_law_row", "_law_k", "_law_at", "_law_way", "_law_right", "_law_deed_here", "_law_number"] ["_law_script"] (zi zk5):=⟨rfl,rfl,rfl,by decide +kernel,rfl,by decide +kernel,by decide +kernel⟩
theorem zdd{α:Type}{us:List α}(h:us.length=0):us=[]:=List.eq_nil_of_length_eq_zero h
theorem z8{α:Type}{us:List α}{n:Nat}(h:us.length=n+1):∃a vs,us=a :: vs/\vs.length=n:=by
 cases us with
 | nil=>cases h
 | cons a vs=>exact⟨a,vs,rfl,Nat.succ.inj h⟩
theorem len1{α:Type}{us:List α}(h:us.length=1):∃a0,us=[a0]:=by
 obtain⟨a0,us0,rfl,h0⟩:=z8 h
 obtain rfl:=zdd h0
 exact⟨a0,rfl⟩
theorem len2{α:Type}{us:List α}(h:us.length=2):∃a0 a1,us=[a0,a1]:=by
 obtain⟨a0,us0,rfl,h0⟩:=z8 h
 obtain⟨a1,us1,rfl,h1⟩:=z8 h0
 obtain rfl:=zdd h1
 exact⟨a0,a1,rfl⟩
theorem len3{α:Type}{us:List α}(h:us.length=3):∃a0 a1 a2,us=[a0,a1,a2]:=by
 obtain⟨a0,us0,rfl,h0⟩:=z8 h
 obtain⟨a1,us1,rfl,h1⟩:=z8 h0
 obtain⟨a2,us2,rfl,h2⟩:=z8 h1
 obtain rfl:=zdd h2
 exact⟨a0,a1,a2,rfl⟩
theorem len4{α:Type}{us:List α}(h:us.length=4):∃a0 a1 a2 a3,us=[a0,a1,a2,a3]:=by
 obtain⟨a0,us0,rfl,h0⟩:=z8 h
 obtain⟨a1,us1,rfl,h1⟩:=z8 h0
 obtain⟨a2,us2,rfl,h2⟩:=z8 h1
 obtain⟨a3,us3,rfl,h3⟩:=z8 h2
 obtain rfl:=zdd h3
 exact⟨a0,a1,a2,a3,rfl⟩
theorem len5{α:Type}{us:List α}(h:us.length=5):∃a0 a1 a2 a3 a4,us=[a0,a1,a2,a3,a4]:=by
 obtain⟨a0,us0,rfl,h0⟩:=z8 h
 obtain⟨a1,us1,rfl,h1⟩:=z8 h0
 obtain⟨a2,us2,rfl,h2⟩:=z8 h1
 obtain⟨a3,us3,rfl,h3⟩:=z8 h2
 obtain⟨a4,us4,rfl,h4⟩:=z8 h3
 obtain rfl:=zdd h4
 exact⟨a0,a1,a2,a3,a4,rfl⟩
theorem len6{α:Type}{us:List α}(h:us.length=6):∃a0 a1 a2 a3 a4 a5,us=[a0,a1,a2,a3,a4,a5]:=by
 obtain⟨a0,us0,rfl,h0⟩:=z8 h
 obtain⟨a1,us1,rfl,h1⟩:=z8 h0
 obtain⟨a2,us2,rfl,h2⟩:=z8 h1
 obtain⟨a3,us3,rfl,h3⟩:=z8 h2
 obtain⟨a4,us4,rfl,h4⟩:=z8 h3
 obtain⟨a5,us5,rfl,h5⟩:=z8 h4
 obtain rfl:=zdd h5
 exact⟨a0,a1,a2,a3,a4,a5,rfl⟩
theorem len7{α:Type}{us:List α}(h:us.length=7):∃a0 a1 a2 a3 a4 a5 a6,us=[a0,a1,a2,a3,a4,a5,a6]:=by
 obtain⟨a0,us0,rfl,h0⟩:=z8 h
 obtain⟨a1,us1,rfl,h1⟩:=z8 h0
 obtain⟨a2,us2,rfl,h2⟩:=z8 h1
 obtain⟨a3,us3,rfl,h3⟩:=z8 h2
 obtain⟨a4,us4,rfl,h4⟩:=z8 h3
 obtain⟨a5,us5,rfl,h5⟩:=z8 h4
 obtain⟨a6,us6,rfl,h6⟩:=z8 h5
 obtain rfl:=zdd h6
 exact⟨a0,a1,a2,a3,a4,a5,a6,rfl⟩
theorem len8{α:Type}{us:List α}(h:us.length=8):∃a0 a1 a2 a3 a4 a5 a6 a7,us=[a0,a1,a2,a3,a4,a5,a6,a7]:=by
 obtain⟨a0,us0,rfl,h0⟩:=z8 h
 obtain⟨a1,us1,rfl,h1⟩:=z8 h0
 obtain⟨a2,us2,rfl,h2⟩:=z8 h1
 obtain⟨a3,us3,rfl,h3⟩:=z8 h2
 obtain⟨a4,us4,rfl,h4⟩:=z8 h3
 obtain⟨a5,us5,rfl,h5⟩:=z8 h4
 obtain⟨a6,us6,rfl,h6⟩:=z8 h5
 obtain⟨a7,us7,rfl,h7⟩:=z8 h6
 obtain rfl:=zdd h7
 exact⟨a0,a1,a2,a3,a4,a5,a6,a7,rfl⟩
set_option genInjectivity false in
set_option genSizeOf false in
set_option genInjectivity false in
set_option genSizeOf false in
structure Dfn(K:Fg)(mg:Str->Option Value)(x qual:Str)(st:Stmt)(ps:List Str) where
 a:Addr
 fd:FuncData
 F:Fun K x qual st a fd
 b:Binds K fd ps []
 m:mg x=some (.ref a)
set_option genInjectivity false in
set_option genSizeOf false in
set_option genInjectivity false in
set_option genSizeOf false in
structure DfnM(K:Fg)(C:Addr)(x qual:Str)(st:Stmt)(ps:List Str) where
 a:Addr
 fd:FuncData
 F:Fun K x qual st a fd
 b:Binds K fd ps []
 mt:Meth K C x a
set_option genInjectivity false in
set_option genSizeOf false in
structure GI(mg:Str->Option Value)(x:Str)(c:Int) where
 t:Tok
 h:mg x=some (.int c t)
set_option genInjectivity false in
set_option genSizeOf false in
set_option genInjectivity false in
set_option genSizeOf false in
structure Txt(K:Fg)(mg:Str->Option Value) where
 c_Bare:Addr
 m_Bare:mg "Bare" = some (.ref c_Bare)
 c_Closed:Addr
 m_Closed:mg "Closed" = some (.ref c_Closed)
 c_Gone:Addr
 m_Gone:mg "Gone" = some (.ref c_Gone)
 c_NoDeal:Addr
 m_NoDeal:mg "NoDeal" = some (.ref c_NoDeal)
 c_NoLayer:Addr
 m_NoLayer:mg "NoLayer" = some (.ref c_NoLayer)
 c_NoMember:Addr
 m_NoMember:mg "NoMember" = some (.ref c_NoMember)
 c_NoPart:Addr
 m_NoPart:mg "NoPart" = some (.ref c_NoPart)
 c_NoRule:Addr
 m_NoRule:mg "NoRule" = some (.ref c_NoRule)
 c_NoTerms:Addr
 m_NoTerms:mg "NoTerms" = some (.ref c_NoTerms)
 c_Out:Addr
 m_Out:mg "Out" = some (.ref c_Out)
 c_Poor:Addr
 m_Poor:mg "Poor" = some (.ref c_Poor)
 c_QuitsError:Addr
 m_QuitsError:mg "QuitsError" = some (.ref c_QuitsError)
 c_Settled:Addr
 m_Settled:mg "Settled" = some (.ref c_Settled)
 e_Bare:errOk K c_Bare=true
 i_Bare_Bare:PySem.W.kitOne K (.ref c_Bare) (.ref c_Bare)=some true
 i_Bare_Closed:PySem.W.kitOne K (.ref c_Bare) (.ref c_Closed)=some false
 i_Bare_Gone:PySem.W.kitOne K (.ref c_Bare) (.ref c_Gone)=some false
 i_Bare_NoDeal:PySem.W.kitOne K (.ref c_Bare) (.ref c_NoDeal)=some false
 i_Bare_NoLayer:PySem.W.kitOne K (.ref c_Bare) (.ref c_NoLayer)=some false
 i_Bare_NoMember:PySem.W.kitOne K (.ref c_Bare) (.ref c_NoMember)=some false
 i_Bare_NoPart:PySem.W.kitOne K (.ref c_Bare) (.ref c_NoPart)=some false
 i_Bare_NoRule:PySem.W.kitOne K (.ref c_Bare) (.ref c_NoRule)=some false
 i_Bare_NoTerms:PySem.W.kitOne K (.ref c_Bare) (.ref c_NoTerms)=some false
 i_Bare_Out:PySem.W.kitOne K (.ref c_Bare) (.ref c_Out)=some false
 i_Bare_Poor:PySem.W.kitOne K (.ref c_Bare) (.ref c_Poor)=some false
 i_Bare_QuitsError:PySem.W.kitOne K (.ref c_Bare) (.ref c_QuitsError)=some true
 i_Bare_Settled:PySem.W.kitOne K (.ref c_Bare) (.ref c_Settled)=some false
 i_Bare_ValueError:PySem.W.kitOne K (.ref c_Bare) (.type "ValueError")=some true
 q_Bare_QuitsError:PySem.W.exmOne K (.ref c_Bare) (.ref c_QuitsError)=some true
 e_Closed:errOk K c_Closed=true
 i_Closed_Bare:PySem.W.kitOne K (.ref c_Closed) (.ref c_Bare)=some false
 i_Closed_Closed:PySem.W.kitOne K (.ref c_Closed) (.ref c_Closed)=some true
 i_Closed_Gone:PySem.W.kitOne K (.ref c_Closed) (.ref c_Gone)=some false
 i_Closed_NoDeal:PySem.W.kitOne K (.ref c_Closed) (.ref c_NoDeal)=some false
 i_Closed_NoLayer:PySem.W.kitOne K (.ref c_Closed) (.ref c_NoLayer)=some false
 i_Closed_NoMember:PySem.W.kitOne K (.ref c_Closed) (.ref c_NoMember)=some false
 i_Closed_NoPart:PySem.W.kitOne K (.ref c_Closed) (.ref c_NoPart)=some false
 i_Closed_NoRule:PySem.W.kitOne K (.ref c_Closed) (.ref c_NoRule)=some false
 i_Closed_NoTerms:PySem.W.kitOne K (.ref c_Closed) (.ref c_NoTerms)=some false
 i_Closed_Out:PySem.W.kitOne K (.ref c_Closed) (.ref c_Out)=some false
 i_Closed_Poor:PySem.W.kitOne K (.ref c_Closed) (.ref c_Poor)=some false
 i_Closed_QuitsError:PySem.W.kitOne K (.ref c_Closed) (.ref c_QuitsError)=some true
 i_Closed_Settled:PySem.W.kitOne K (.ref c_Closed) (.ref c_Settled)=some false
 i_Closed_ValueError:PySem.W.kitOne K (.ref c_Closed) (.type "ValueError")=some true
 q_Closed_QuitsError:PySem.W.exmOne K (.ref c_Closed) (.ref c_QuitsError)=some true
 e_Gone:errOk K c_Gone=true
 i_Gone_Bare:PySem.W.kitOne K (.ref c_Gone) (.ref c_Bare)=some false
 i_Gone_Closed:PySem.W.kitOne K (.ref c_Gone) (.ref c_Closed)=some false
 i_Gone_Gone:PySem.W.kitOne K (.ref c_Gone) (.ref c_Gone)=some true
 i_Gone_NoDeal:PySem.W.kitOne K (.ref c_Gone) (.ref c_NoDeal)=some false
 i_Gone_NoLayer:PySem.W.kitOne K (.ref c_Gone) (.ref c_NoLayer)=some false
 i_Gone_NoMember:PySem.W.kitOne K (.ref c_Gone) (.ref c_NoMember)=some false
 i_Gone_NoPart:PySem.W.kitOne K (.ref c_Gone) (.ref c_NoPart)=some false
 i_Gone_NoRule:PySem.W.kitOne K (.ref c_Gone) (.ref c_NoRule)=some false
 i_Gone_NoTerms:PySem.W.kitOne K (.ref c_Gone) (.ref c_NoTerms)=some false
 i_Gone_Out:PySem.W.kitOne K (.ref c_Gone) (.ref c_Out)=some false
 i_Gone_Poor:PySem.W.kitOne K (.ref c_Gone) (.ref c_Poor)=some false
 i_Gone_QuitsError:PySem.W.kitOne K (.ref c_Gone) (.ref c_QuitsError)=some true
 i_Gone_Settled:PySem.W.kitOne K (.ref c_Gone) (.ref c_Settled)=some false
 i_Gone_ValueError:PySem.W.kitOne K (.ref c_Gone) (.type "ValueError")=some true
 q_Gone_QuitsError:PySem.W.exmOne K (.ref c_Gone) (.ref c_QuitsError)=some true
 e_NoDeal:errOk K c_NoDeal=true
 i_NoDeal_Bare:PySem.W.kitOne K (.ref c_NoDeal) (.ref c_Bare)=some false
 i_NoDeal_Closed:PySem.W.kitOne K (.ref c_NoDeal) (.ref c_Closed)=some false
 i_NoDeal_Gone:PySem.W.kitOne K (.ref c_NoDeal) (.ref c_Gone)=some false
 i_NoDeal_NoDeal:PySem.W.kitOne K (.ref c_NoDeal) (.ref c_NoDeal)=some true
 i_NoDeal_NoLayer:PySem.W.kitOne K (.ref c_NoDeal) (.ref c_NoLayer)=some false
 i_NoDeal_NoMember:PySem.W.kitOne K (.ref c_NoDeal) (.ref c_NoMember)=some false
 i_NoDeal_NoPart:PySem.W.kitOne K (.ref c_NoDeal) (.ref c_NoPart)=some false
 i_NoDeal_NoRule:PySem.W.kitOne K (.ref c_NoDeal) (.ref c_NoRule)=some false
 i_NoDeal_NoTerms:PySem.W.kitOne K (.ref c_NoDeal) (.ref c_NoTerms)=some false
 i_NoDeal_Out:PySem.W.kitOne K (.ref c_NoDeal) (.ref c_Out)=some false
 i_NoDeal_Poor:PySem.W.kitOne K (.ref c_NoDeal) (.ref c_Poor)=some false
 i_NoDeal_QuitsError:PySem.W.kitOne K (.ref c_NoDeal) (.ref c_QuitsError)=some true
 i_NoDeal_Settled:PySem.W.kitOne K (.ref c_NoDeal) (.ref c_Settled)=some false
 i_NoDeal_ValueError:PySem.W.kitOne K (.ref c_NoDeal) (.type "ValueError")=some true
 q_NoDeal_QuitsError:PySem.W.exmOne K (.ref c_NoDeal) (.ref c_QuitsError)=some true
 e_NoLayer:errOk K c_NoLayer=true
 i_NoLayer_Bare:PySem.W.kitOne K (.ref c_NoLayer) (.ref c_Bare)=some false
 i_NoLayer_Closed:PySem.W.kitOne K (.ref c_NoLayer) (.ref c_Closed)=some false
 i_NoLayer_Gone:PySem.W.kitOne K (.ref c_NoLayer) (.ref c_Gone)=some false
 i_NoLayer_NoDeal:PySem.W.kitOne K (.ref c_NoLayer) (.ref c_NoDeal)=some false
 i_NoLayer_NoLayer:PySem.W.kitOne K (.ref c_NoLayer) (.ref c_NoLayer)=some true
 i_NoLayer_NoMember:PySem.W.kitOne K (.ref c_NoLayer) (.ref c_NoMember)=some false
 i_NoLayer_NoPart:PySem.W.kitOne K (.ref c_NoLayer) (.ref c_NoPart)=some false
 i_NoLayer_NoRule:PySem.W.kitOne K (.ref c_NoLayer) (.ref c_NoRule)=some false
 i_NoLayer_NoTerms:PySem.W.kitOne K (.ref c_NoLayer) (.ref c_NoTerms)=some false
 i_NoLayer_Out:PySem.W.kitOne K (.ref c_NoLayer) (.ref c_Out)=some false
 i_NoLayer_Poor:PySem.W.kitOne K (.ref c_NoLayer) (.ref c_Poor)=some false
 i_NoLayer_QuitsError:PySem.W.kitOne K (.ref c_NoLayer) (.ref c_QuitsError)=some true
 i_NoLayer_Settled:PySem.W.kitOne K (.ref c_NoLayer) (.ref c_Settled)=some false
 i_NoLayer_ValueError:PySem.W.kitOne K (.ref c_NoLayer) (.type "ValueError")=some true
 q_NoLayer_QuitsError:PySem.W.exmOne K (.ref c_NoLayer) (.ref c_QuitsError)=some true
 e_NoMember:errOk K c_NoMember=true
 i_NoMember_Bare:PySem.W.kitOne K (.ref c_NoMember) (.ref c_Bare)=some false
 i_NoMember_Closed:PySem.W.kitOne K (.ref c_NoMember) (.ref c_Closed)=some false
 i_NoMember_Gone:PySem.W.kitOne K (.ref c_NoMember) (.ref c_Gone)=some false
 i_NoMember_NoDeal:PySem.W.kitOne K (.ref c_NoMember) (.ref c_NoDeal)=some false
 i_NoMember_NoLayer:PySem.W.kitOne K (.ref c_NoMember) (.ref c_NoLayer)=some false
 i_NoMember_NoMember:PySem.W.kitOne K (.ref c_NoMember) (.ref c_NoMember)=some true
 i_NoMember_NoPart:PySem.W.kitOne K (.ref c_NoMember) (.ref c_NoPart)=some false
 i_NoMember_NoRule:PySem.W.kitOne K (.ref c_NoMember) (.ref c_NoRule)=some false
 i_NoMember_NoTerms:PySem.W.kitOne K (.ref c_NoMember) (.ref c_NoTerms)=some false
 i_NoMember_Out:PySem.W.kitOne K (.ref c_NoMember) (.ref c_Out)=some false
 i_NoMember_Poor:PySem.W.kitOne K (.ref c_NoMember) (.ref c_Poor)=some false
 i_NoMember_QuitsError:PySem.W.kitOne K (.ref c_NoMember) (.ref c_QuitsError)=some true
 i_NoMember_Settled:PySem.W.kitOne K (.ref c_NoMember) (.ref c_Settled)=some false
 i_NoMember_ValueError:PySem.W.kitOne K (.ref c_NoMember) (.type "ValueError")=some true
 q_NoMember_QuitsError:PySem.W.exmOne K (.ref c_NoMember) (.ref c_QuitsError)=some true
 e_NoPart:errOk K c_NoPart=true
 i_NoPart_Bare:PySem.W.kitOne K (.ref c_NoPart) (.ref c_Bare)=some false
 i_NoPart_Closed:PySem.W.kitOne K (.ref c_NoPart) (.ref c_Closed)=some false
 i_NoPart_Gone:PySem.W.kitOne K (.ref c_NoPart) (.ref c_Gone)=some false
 i_NoPart_NoDeal:PySem.W.kitOne K (.ref c_NoPart) (.ref c_NoDeal)=some false
 i_NoPart_NoLayer:PySem.W.kitOne K (.ref c_NoPart) (.ref c_NoLayer)=some false
 i_NoPart_NoMember:PySem.W.kitOne K (.ref c_NoPart) (.ref c_NoMember)=some false
 i_NoPart_NoPart:PySem.W.kitOne K (.ref c_NoPart) (.ref c_NoPart)=some true
 i_NoPart_NoRule:PySem.W.kitOne K (.ref c_NoPart) (.ref c_NoRule)=some false
 i_NoPart_NoTerms:PySem.W.kitOne K (.ref c_NoPart) (.ref c_NoTerms)=some false
 i_NoPart_Out:PySem.W.kitOne K (.ref c_NoPart) (.ref c_Out)=some false
 i_NoPart_Poor:PySem.W.kitOne K (.ref c_NoPart) (.ref c_Poor)=some false
 i_NoPart_QuitsError:PySem.W.kitOne K (.ref c_NoPart) (.ref c_QuitsError)=some true
 i_NoPart_Settled:PySem.W.kitOne K (.ref c_NoPart) (.ref c_Settled)=some false
 i_NoPart_ValueError:PySem.W.kitOne K (.ref c_NoPart) (.type "ValueError")=some true
 q_NoPart_QuitsError:PySem.W.exmOne K (.ref c_NoPart) (.ref c_QuitsError)=some true
 e_NoRule:errOk K c_NoRule=true
 i_NoRule_Bare:PySem.W.kitOne K (.ref c_NoRule) (.ref c_Bare)=some false
 i_NoRule_Closed:PySem.W.kitOne K (.ref c_NoRule) (.ref c_Closed)=some false
 i_NoRule_Gone:PySem.W.kitOne K (.ref c_NoRule) (.ref c_Gone)=some false
 i_NoRule_NoDeal:PySem.W.kitOne K (.ref c_NoRule) (.ref c_NoDeal)=some false
 i_NoRule_NoLayer:PySem.W.kitOne K (.ref c_NoRule) (.ref c_NoLayer)=some false
 i_NoRule_NoMember:PySem.W.kitOne K (.ref c_NoRule) (.ref c_NoMember)=some false
 i_NoRule_NoPart:PySem.W.kitOne K (.ref c_NoRule) (.ref c_NoPart)=some false
 i_NoRule_NoRule:PySem.W.kitOne K (.ref c_NoRule) (.ref c_NoRule)=some true
 i_NoRule_NoTerms:PySem.W.kitOne K (.ref c_NoRule) (.ref c_NoTerms)=some false
 i_NoRule_Out:PySem.W.kitOne K (.ref c_NoRule) (.ref c_Out)=some false
 i_NoRule_Poor:PySem.W.kitOne K (.ref c_NoRule) (.ref c_Poor)=some false
 i_NoRule_QuitsError:PySem.W.kitOne K (.ref c_NoRule) (.ref c_QuitsError)=some true
 i_NoRule_Settled:PySem.W.kitOne K (.ref c_NoRule) (.ref c_Settled)=some false
 i_NoRule_ValueError:PySem.W.kitOne K (.ref c_NoRule) (.type "ValueError")=some true
 q_NoRule_QuitsError:PySem.W.exmOne K (.ref c_NoRule) (.ref c_QuitsError)=some true
 e_NoTerms:errOk K c_NoTerms=true
 i_NoTerms_Bare:PySem.W.kitOne K (.ref c_NoTerms) (.ref c_Bare)=some false
 i_NoTerms_Closed:PySem.W.kitOne K (.ref c_NoTerms) (.ref c_Closed)=some false
 i_NoTerms_Gone:PySem.W.kitOne K (.ref c_NoTerms) (.ref c_Gone)=some false
 i_NoTerms_NoDeal:PySem.W.kitOne K (.ref c_NoTerms) (.ref c_NoDeal)=some false
 i_NoTerms_NoLayer:PySem.W.kitOne K (.ref c_NoTerms) (.ref c_NoLayer)=some false
 i_NoTerms_NoMember:PySem.W.kitOne K (.ref c_NoTerms) (.ref c_NoMember)=some false
 i_NoTerms_NoPart:PySem.W.kitOne K (.ref c_NoTerms) (.ref c_NoPart)=some false
 i_NoTerms_NoRule:PySem.W.kitOne K (.ref c_NoTerms) (.ref c_NoRule)=some false
 i_NoTerms_NoTerms:PySem.W.kitOne K (.ref c_NoTerms) (.ref c_NoTerms)=some true
 i_NoTerms_Out:PySem.W.kitOne K (.ref c_NoTerms) (.ref c_Out)=some false
 i_NoTerms_Poor:PySem.W.kitOne K (.ref c_NoTerms) (.ref c_Poor)=some false
 i_NoTerms_QuitsError:PySem.W.kitOne K (.ref c_NoTerms) (.ref c_QuitsError)=some true
 i_NoTerms_Settled:PySem.W.kitOne K (.ref c_NoTerms) (.ref c_Settled)=some false
 i_NoTerms_ValueError:PySem.W.kitOne K (.ref c_NoTerms) (.type "ValueError")=some true
 q_NoTerms_QuitsError:PySem.W.exmOne K (.ref c_NoTerms) (.ref c_QuitsError)=some true
 e_Out:errOk K c_Out=true
 i_Out_Bare:PySem.W.kitOne K (.ref c_Out) (.ref c_Bare)=some false
 i_Out_Closed:PySem.W.kitOne K (.ref c_Out) (.ref c_Closed)=some false
 i_Out_Gone:PySem.W.kitOne K (.ref c_Out) (.ref c_Gone)=some false
 i_Out_NoDeal:PySem.W.kitOne K (.ref c_Out) (.ref c_NoDeal)=some false
 i_Out_NoLayer:PySem.W.kitOne K (.ref c_Out) (.ref c_NoLayer)=some false
 i_Out_NoMember:PySem.W.kitOne K (.ref c_Out) (.ref c_NoMember)=some false
 i_Out_NoPart:PySem.W.kitOne K (.ref c_Out) (.ref c_NoPart)=some false
 i_Out_NoRule:PySem.W.kitOne K (.ref c_Out) (.ref c_NoRule)=some false
 i_Out_NoTerms:PySem.W.kitOne K (.ref c_Out) (.ref c_NoTerms)=some false
 i_Out_Out:PySem.W.kitOne K (.ref c_Out) (.ref c_Out)=some true
 i_Out_Poor:PySem.W.kitOne K (.ref c_Out) (.ref c_Poor)=some false
 i_Out_QuitsError:PySem.W.kitOne K (.ref c_Out) (.ref c_QuitsError)=some true
 i_Out_Settled:PySem.W.kitOne K (.ref c_Out) (.ref c_Settled)=some false
 i_Out_ValueError:PySem.W.kitOne K (.ref c_Out) (.type "ValueError")=some true
 q_Out_QuitsError:PySem.W.exmOne K (.ref c_Out) (.ref c_QuitsError)=some true
 e_Poor:errOk K c_Poor=true
 i_Poor_Bare:PySem.W.kitOne K (.ref c_Poor) (.ref c_Bare)=some false
 i_Poor_Closed:PySem.W.kitOne K (.ref c_Poor) (.ref c_Closed)=some false
 i_Poor_Gone:PySem.W.kitOne K (.ref c_Poor) (.ref c_Gone)=some false
 i_Poor_NoDeal:PySem.W.kitOne K (.ref c_Poor) (.ref c_NoDeal)=some false
 i_Poor_NoLayer:PySem.W.kitOne K (.ref c_Poor) (.ref c_NoLayer)=some false
 i_Poor_NoMember:PySem.W.kitOne K (.ref c_Poor) (.ref c_NoMember)=some false
 i_Poor_NoPart:PySem.W.kitOne K (.ref c_Poor) (.ref c_NoPart)=some false
 i_Poor_NoRule:PySem.W.kitOne K (.ref c_Poor) (.ref c_NoRule)=some false
 i_Poor_NoTerms:PySem.W.kitOne K (.ref c_Poor) (.ref c_NoTerms)=some false
 i_Poor_Out:PySem.W.kitOne K (.ref c_Poor) (.ref c_Out)=some false
 i_Poor_Poor:PySem.W.kitOne K (.ref c_Poor) (.ref c_Poor)=some true
 i_Poor_QuitsError:PySem.W.kitOne K (.ref c_Poor) (.ref c_QuitsError)=some true
 i_Poor_Settled:PySem.W.kitOne K (.ref c_Poor) (.ref c_Settled)=some false
 i_Poor_ValueError:PySem.W.kitOne K (.ref c_Poor) (.type "ValueError")=some true
 q_Poor_QuitsError:PySem.W.exmOne K (.ref c_Poor) (.ref c_QuitsError)=some true
 e_Settled:errOk K c_Settled=true
 i_Settled_Bare:PySem.W.kitOne K (.ref c_Settled) (.ref c_Bare)=some false
 i_Settled_Closed:PySem.W.kitOne K (.ref c_Settled) (.ref c_Closed)=some false
 i_Settled_Gone:PySem.W.kitOne K (.ref c_Settled) (.ref c_Gone)=some false
 i_Settled_NoDeal:PySem.W.kitOne K (.ref c_Settled) (.ref c_NoDeal)=some false
 i_Settled_NoLayer:PySem.W.kitOne K (.ref c_Settled) (.ref c_NoLayer)=some false
 i_Settled_NoMember:PySem.W.kitOne K (.ref c_Settled) (.ref c_NoMember)=some false
 i_Settled_NoPart:PySem.W.kitOne K (.ref c_Settled) (.ref c_NoPart)=some false
 i_Settled_NoRule:PySem.W.kitOne K (.ref c_Settled) (.ref c_NoRule)=some false
 i_Settled_NoTerms:PySem.W.kitOne K (.ref c_Settled) (.ref c_NoTerms)=some false
 i_Settled_Out:PySem.W.kitOne K (.ref c_Settled) (.ref c_Out)=some false
 i_Settled_Poor:PySem.W.kitOne K (.ref c_Settled) (.ref c_Poor)=some false
 i_Settled_QuitsError:PySem.W.kitOne K (.ref c_Settled) (.ref c_QuitsError)=some true
 i_Settled_Settled:PySem.W.kitOne K (.ref c_Settled) (.ref c_Settled)=some true
 i_Settled_ValueError:PySem.W.kitOne K (.ref c_Settled) (.type "ValueError")=some true
 q_Settled_QuitsError:PySem.W.exmOne K (.ref c_Settled) (.ref c_QuitsError)=some true
 c_Book:Addr
 m_Book:mg "Book" = some (.ref c_Book)
 cl_Book:Cls K c_Book
 na_Book_day:NoAttr K c_Book "day"
 na_Book_deals:NoAttr K c_Book "deals"
 na_Book_many:NoAttr K c_Book "many"
 na_Book_wares:NoAttr K c_Book "wares"
 c_House:Addr
 m_House:mg "House" = some (.ref c_House)
 cl_House:Cls K c_House
 na_House_book:NoAttr K c_House "book"
 na_House_kept:NoAttr K c_House "kept"
 na_House_moves:NoAttr K c_House "moves"
 na_House_order:NoAttr K c_House "order"
 na_House_outs:NoAttr K c_House "outs"
 na_House_pledges:NoAttr K c_House "pledges"
 na_House_purses:NoAttr K c_House "purses"
 na_House_reports:NoAttr K c_House "reports"
 na_House_rule:NoAttr K c_House "rule"
 na_House_shares:NoAttr K c_House "shares"
 g_MOST_AMOUNT:GI mg "MOST_AMOUNT" 1000000000
 g_MOST_COINS:GI mg "MOST_COINS" 1000000000
 g_MOST_DAY:GI mg "MOST_DAY" 1000000
 g_MOST_UNITS:GI mg "MOST_UNITS" 1000000
 g_PAYEE:GI mg "PAYEE" 1
 g_PAYER:GI mg "PAYER" 0
 g_STATE:GI mg "STATE" 7
 g_UNITS:GI mg "UNITS" 3
 g_WARE:GI mg "WARE" 2
 a_WORDS:Addr
 g_WORDS:mg "WORDS" = some (.ref a_WORDS)
 q_WORDS:∀H:Hp,SqT K H a_WORDS [.str "pledge",.str "share",.str "own",.str "others",.str "level"]
 d_Book___init__:DfnM K c_Book "__init__" "Book.__init__" zcq ["self", "many", "wares"]
 mk_Book:Mk K c_Book d_Book___init__.a
 d_Book_strike:DfnM K c_Book "strike" "Book.strike" zcT ["self", "payer", "payee", "ware", "units", "amount", "day", "rank"]
 d_Book_check_members:DfnM K c_Book "check_members" "Book.check_members" zbF ["self", "payer", "payee"]
 d_Book_check_terms:DfnM K c_Book "check_terms" "Book.check_terms" zbW ["self", "ware", "units", "amount", "day", "rank"]
 d_Book_break_off:DfnM K c_Book "break_off" "Book.break_off" zcb ["self", "number"]
 d_Book_standing_deal:DfnM K c_Book "standing_deal" "Book.standing_deal" zby ["self", "number"]
 d_Book_put_state:DfnM K c_Book "put_state" "Book.put_state" zch ["self", "number", "state"]
 d_Book_deal:DfnM K c_Book "deal" "Book.deal" zdZ ["self", "number"]
 d_Book_position:DfnM K c_Book "position" "Book.position" zcn ["self", "member"]
 d_House___init__:DfnM K c_House "__init__" "House.__init__" zb6 ["self", "members", "moves", "rule", "order", "own"]
 mk_House:Mk K c_House d_House___init__.a
 d_House_put:DfnM K c_House "put" "House.put" zdL ["self", "member", "coins"]
 d_House_lay:DfnM K c_House "lay" "House.lay" zdM ["self", "member", "coins"]
 d_House_free:DfnM K c_House "free" "House.free" zdc ["self", "member", "coins"]
 d_House_check_coins:DfnM K c_House "check_coins" "House.check_coins" zbG ["self", "member", "coins"]
 d_House_strike:DfnM K c_House "strike" "House.strike" zcB ["self", "payer", "payee", "ware", "units", "amount", "day", "rank"]
 d_House_break_off:DfnM K c_House "break_off" "House.break_off" zb1 ["self", "number"]
 d_House_pledge:DfnM K c_House "pledge" "House.pledge" zcy ["self", "member"]
 d_House_need:DfnM K c_House "need" "House.need" zdq ["self", "member"]
 d_House_need_with:DfnM K c_House "need_with" "House.need_with" zb0 ["self", "member", "ware", "units"]
 d_House_deal:DfnM K c_House "deal" "House.deal" zdb ["self", "number"]
 d_House_position:DfnM K c_House "position" "House.position" zcc ["self", "member"]
 d_check_order:Dfn K mg "check_order" "check_order" zcR ["order"]
 d_divisor:Dfn K mg "divisor" "divisor" zfl ["one", "other"]
 d_part:Dfn K mg "part" "part" zjn ["top", "bottom"]
 d_under:Dfn K mg "under" "under" zhn ["one", "other"]
 d_losses_of:Dfn K mg "losses_of" "losses_of" zdN ["position", "moves"]
 d_worst_days:Dfn K mg "worst_days" "worst_days" zda ["position", "moves", "k"]
 d_need_of:Dfn K mg "need_of" "need_of" zfu ["rule", "position", "moves"]
 d_check_rule:Dfn K mg "check_rule" "check_rule" zc4 ["rule", "moves"]
 d_check_enough:Dfn K mg "check_enough" "check_enough" zcA ["coins", "wanted"]
 d_check_covered:Dfn K mg "check_covered" "check_covered" zcp ["pledge", "need"]
 d__law_cell:Dfn K mg "_law_cell" "_law_cell" zdP ["_law_script", "_law_k"]
 d__law_draw:Dfn K mg "_law_draw" "_law_draw" zdK ["_law_script", "_law_k", "_law_many"]
 d__law_great:Dfn K mg "_law_great" "_law_great" zdo ["_law_script", "_law_k", "_law_many"]
 d__law_pledge:Dfn K mg "_law_pledge" "_law_pledge" zcP ["_law_script", "_law_k"]
 d__law_moves:Dfn K mg "_law_moves" "_law_moves" zc8 ["_law_script", "_law_start", "_law_days", "_law_wares"]
 d__law_loss:Dfn K mg "_law_loss" "_law_loss" zdU ["_law_position", "_law_move"]
 d__law_need:Dfn K mg "_law_need" "_law_need" zdQ ["_law_position", "_law_rule", "_law_moves_here"]
 d__law_positions:Dfn K mg "_law_positions" "_law_positions" zcf ["_law_rows", "_law_many", "_law_wares"]
 d__law_part_is:Dfn K mg "_law_part_is" "_law_part_is" zcx ["_law_told", "_law_due"]
 d__law_stands:Dfn K mg "_law_stands" "_law_stands" zcQ ["_law_house", "_law_rows", "_law_pledges", "_law_rule", "_law_moves_here"]
 d__law_name:Dfn K mg "_law_name" "_law_name" zdY ["_law_e"]
 d__law_done:Dfn K mg "_law_done" "_law_done" zdV ["_law_house", "_law_deed_here"]
 d__law_found:Dfn K mg "_law_found" "_law_found" zcY ["_law_house", "_law_deed_here"]
 d__law_deed:Dfn K mg "_law_deed" "_law_deed" zdO ["_law_script", "_law_at", "_law_many", "_law_wares"]
 d__law_short_of:Dfn K mg "_law_short_of" "_law_short_of" zcm ["_law_rows", "_law_pledges", "_law_rule", "_law_moves_here", "_law_deed_here"]
 d__law_struck:Dfn K mg "_law_struck" "_law_struck" zcS ["_law_house", "_law_rows", "_law_pledges", "_law_rule", "_law_moves_here", "_law_deed_here"]
 d__law_freed:Dfn K mg "_law_freed" "_law_freed" zdl ["_law_script", "_law_at", "_law_house", "_law_rows", "_law_pledges", "_law_rule", "_law_moves_here"]
 d_law:Dfn K mg "law" "law" zk5 ["_law_script"]
 cw_worst_days:Addr
 tw_worst_days:Addr
 tb_worst_days:PySem.W.tabIn K "worst_days" = some (cw_worst_days,tw_worst_days)
 cc_worst_days:d_worst_days.fd.code=.ref cw_worst_days
 bl_law:∀(s:Shared) (v:Value),BindsTo s d_law.fd ⟨[v],[]⟩ [("_law_script",v)]
 z_ValueError:mg "ValueError" = none
 z_abs:mg "abs" = none
 z_bool:mg "bool" = none
 z_enumerate:mg "enumerate" = none
 z_int:mg "int" = none
 z_isinstance:mg "isinstance" = none
 z_len:mg "len" = none
 z_list:mg "list" = none
 z_max:mg "max" = none
 z_min:mg "min" = none
 z_range:mg "range" = none
 z_sorted:mg "sorted" = none
 z_sum:mg "sum" = none
 z_tuple:mg "tuple" = none
 z_zip:mg "zip" = none
noncomputable def mkD {K:Fg} {h:Heap} {mg:Str->Option Value} (X:K.In h) (G:h.Ns mainGlobals mg) {x qual:Str} {st:Stmt} {ps:List Str} {f:Addr} {oc kV dc pm cd ct:Value} {od an:Option Addr} {sl:Array (Option Value)} (a:PySem.W.nsIn K mainGlobals x=some (some (.ref f))) (l:K.lookup f=some ⟨oc,od,.func (PySem.W.fnOf x qual (zbr st) (zaR st) (zi st) .none kV dc pm an cd ct),sl⟩) (c:PySem.W.codeIn K cd qual=true) (k:PySem.W.keepIn K (.ref f)=true) (b:∀(kV doc pm:Value) (an:Option Addr) (cdv ct:Value) (us:List Value),us.length=ps.length->bindArgs (PySem.W.fnOf x qual (zbr st) (zaR st) (zi st) .none kV doc pm an cdv ct) ⟨us,[]⟩=pure (ps.zip us)):Dfn K mg x qual st ps:={ a:=f,fd:=_,F:=zeM (st:=st) l c k,b:=(zeM (st:=st) l c k).binds b,m:=yG X G a }
noncomputable def mkM {K:Fg} {C:Addr} {x qual:Str} {st:Stmt} {ps:List Str} {f:Addr} {oc kV dc pm cd ct:Value} {od an:Option Addr} {sl:Array (Option Value)} (a:PySem.W.findIn K (.ref C) x=some (some (.ref f))) (i:PySem.W.isFn K (.ref f)=true) (l:K.lookup f=some ⟨oc,od,.func (PySem.W.fnOf x qual (zbr st) (zaR st) (zi st) .none kV dc pm an cd ct),sl⟩) (c:PySem.W.codeIn K cd qual=true) (k:PySem.W.keepIn K (.ref f)=true) (b:∀(kV doc pm:Value) (an:Option Addr) (cdv ct:Value) (us:List Value),us.length=ps.length->bindArgs (PySem.W.fnOf x qual (zbr st) (zaR st) (zi st) .none kV doc pm an cdv ct) ⟨us,[]⟩=pure (ps.zip us)):DfnM K C x qual st ps:={ a:=f,fd:=_,F:=zeM (st:=st) l c k,b:=(zeM (st:=st) l c k).binds b,mt:=⟨a,i,k⟩ }
theorem mkQ_WORDS{K:Fg}{w:Addr}{od:Option Addr}{n:Nat}{sl:Array (Option Value)}{k0 k1 k2 k3 k4:Tok}(o:K.lookup w=some ⟨.type "tuple",od,.seq #[.str "pledge" k0,.str "share" k1,.str "own" k2,.str "others" k3,.str "level" k4] n,sl⟩)(H:Hp):SqT K H w [.str "pledge",.str "share",.str "own",.str "others",.str "level"]:=.inr ⟨_,_,_,o,rfl,rfl,(by show 5<=_;rw[sizeLine_eq];decide),(.cons ⟨_,rfl⟩ (.cons ⟨_,rfl⟩ (.cons ⟨_,rfl⟩ (.cons ⟨_,rfl⟩ (.cons ⟨_,rfl⟩ .nil)))))⟩
noncomputable def mkI {K:Fg} {h:Heap} {mg:Str->Option Value} (X:K.In h) (G:h.Ns mainGlobals mg) {x:Str} {c:Int} {t:Tok} (g:PySem.W.nsIn K mainGlobals x=some (some (.int c t))):GI mg x c:=⟨t,yG X G g⟩
noncomputable def zfX (K:Fg):Sp:=fun vs H Q _=>∃(a:Addr) (ns:List Int),vs=[.ref a]/\SqL K H a (ns.map V.int)/\ns.length<=63/\zfS ns/\(∀pos qual,Tb H (zd9 K "worst_days") pos qual)/\∀H',Q (.bl true) H'
theorem fin(hF:∀{P:PySem.Program}{w:PySem.World}{K:Fg}{mg:PySem.Str->Option PySem.Value}{base:PySem.Heap}[Internal.TabX K mg base "worst_days"](T:Internal.K.Txt K mg),Internal.FnOk P w K mg base (Internal.CXF P w) 10 T.d_law.a T.d_law.fd ["_law_script"] (Internal.K.zfX K)){P:Program}{w:World}{K:Fg}{mg:Str->Option Value}{fa:Addr}(T:Txt K mg)(hfa:mg "law" = some (.ref fa)) :
  ∃fd:FuncData,(∀(s:Shared) (v:Value),BindsTo s fd ⟨[v],[]⟩ [("_law_script",v)])/\(∃p,PySem.W.tabIn K "worst_days" = some p)/\∀base:Heap,K.In base->base.Ns mainGlobals mg->TabX K mg base "worst_days" -> FnOk P w K mg base (CXF P w) 10 fa fd ["_law_script"] (zfX K):=by
 have e:=hfa.symm.trans T.d_law.m
 cases e
 exact⟨_,T.bl_law,⟨_,T.tb_worst_days⟩,fun base _ _ _=>hF T⟩
theorem walk{l:PySem.W.OpenLaw}{q:Program}{loose:List Str}{XP:(Str->Option Value)->Heap->Prop}{YP:World->Heap->Prop}{d:DefRec}{K:Params->Fg}(hn:l.most=some 63)(hdf:d.params.defaults=[])
  (hY:∀(w:World) (h:Heap),YP w h->(K w.params).In h)
  (hrec:∃d',(PyProof.Rows.recsOf q).find? (fun e=>e.name == ("worst_days" : Str))=some d') (hnt:∀w:World,PySem.W.noTabs (K w.params)=true)
  (F:∀(w:World) (mg:Str->Option Value) (fa:Addr) (h:Heap),(K w.params).In h->h.Ns mainGlobals mg->mg d.name=some (.ref fa) ->
   ∃fd:FuncData,(∀(s:Shared) (u:Value),BindsTo s fd ⟨[u],[]⟩ [("_law_script",u)])/\(∃p,PySem.W.tabIn (K w.params) "worst_days" = some p)/\∀base:Heap,(K w.params).In base->base.Ns mainGlobals mg->TabX (K w.params) mg base "worst_days" -> FnOk l.prog w (K w.params) mg base (CXF l.prog w) 10 fa fd ["_law_script"] (zfX (K w.params))) :
  PySem.W.WalkO q loose XP YP l.row.toRowW d [] (fun f vs=>PySem.call f vs):=
 let ⟨_,hrec'⟩:=hrec
 Internal.walk_ofT (n:=63) (k:=10) (x := "_law_script") (CX:=fun w=>CXF l.prog w) (sp:=fun w=>zfX (K w.params)) hn (by decide) hdf ⟨rfl,by decide,by decide⟩ hY hrec' hnt F (fun _ _ a ns hl hz hS hT=>⟨a,ns,rfl,hS,hl,hz,hT,fun _=>rfl⟩) fun _ H s e s' z=>zt _ H s e s' z
end Internal.K
open PySem PySem.W PyProof.Rows
set_option maxRecDepth 100000 in
set_option maxHeartbeats 0 in
theorem Internal.K.pre(hF:∀{P:PySem.Program}{w:PySem.World}{K:Fg}{mg:PySem.Str->Option PySem.Value}{base:PySem.Heap}[Internal.TabX K mg base "worst_days"](T:Internal.K.Txt K mg),Internal.FnOk P w K mg base (Internal.CXF P w) 10 T.d_law.a T.d_law.fd ["_law_script"] (Internal.K.zfX K)):PySem.Challenge.rw_quits_k78_needs_and_pledges.Holds:=by
 refine pre0 ?_
 k_fill
 refine Internal.K.walk (l:=PySem.Challenge.rw_quits_k78_needs_and_pledges) rfl rfl (fun w h Y=>PySem.W.km_in_of Y) ?xRec ?xTab ?F
 case xRec=>exact⟨_,rfl⟩
 case xTab=>intro w;kernel_rfl
 case F=>
  intro w mg fa h KX G hmg
  refine Internal.K.fin hF ?T hmg
  case T=>
   refine' (⟨_,yG KX G ?m_Bare,_,yG KX G ?m_Closed,_,yG KX G ?m_Gone,_,yG KX G ?m_NoDeal,_,yG KX G ?m_NoLayer,_,yG KX G ?m_NoMember,_,yG KX G ?m_NoPart,_,yG KX G ?m_NoRule,_,yG KX G ?m_NoTerms,_,yG KX G ?m_Out,_,yG KX G ?m_Poor,_,yG KX G ?m_QuitsError,_,yG KX G ?m_Settled,Internal.errOk_mk ?x_Bare ?ga_Bare ?gn_Bare ?be_Bare ?hd_Bare ?fa_Bare ?sn_ ?tk_ ?mo_Bare,Internal.kit_self,Internal.kit_ne ?n_Bare_Closed ?hd_Closed ?ty_Closed ?s_Bare_Closed,Internal.kit_ne ?n_Bare_Gone ?hd_Gone ?ty_Gone ?s_Bare_Gone,Internal.kit_ne ?n_Bare_NoDeal ?hd_NoDeal ?ty_NoDeal ?s_Bare_NoDeal,Internal.kit_ne ?n_Bare_NoLayer ?hd_NoLayer ?ty_NoLayer ?s_Bare_NoLayer,Internal.kit_ne ?n_Bare_NoMember ?hd_NoMember ?ty_NoMember ?s_Bare_NoMember,Internal.kit_ne ?n_Bare_NoPart ?hd_NoPart ?ty_NoPart ?s_Bare_NoPart,Internal.kit_ne ?n_Bare_NoRule ?hd_NoRule ?ty_NoRule ?s_Bare_NoRule,Internal.kit_ne ?n_Bare_NoTerms ?hd_NoTerms ?ty_NoTerms ?s_Bare_NoTerms,Internal.kit_ne ?n_Bare_Out ?hd_Out ?ty_Out ?s_Bare_Out,Internal.kit_ne ?n_Bare_Poor ?hd_Poor ?ty_Poor ?s_Bare_Poor,Internal.kit_ne ?n_Bare_QuitsError ?hd_QuitsError ?ty_QuitsError ?s_Bare_QuitsError,Internal.kit_ne ?n_Bare_Settled ?hd_Settled ?ty_Settled ?s_Bare_Settled,Internal.kit_V ?v_Bare,Internal.exm_mk ?b_QuitsError ?hd_QuitsError ?ty_QuitsError ?s_Bare_QuitsError,Internal.errOk_mk ?x_Closed ?ga_Closed ?gn_Closed ?be_Closed ?hd_Closed ?fa_Closed ?sn_ ?tk_ ?mo_Closed,Internal.kit_ne ?n_Closed_Bare ?hd_Bare ?ty_Bare ?s_Closed_Bare,Internal.kit_self,Internal.kit_ne ?n_Closed_Gone ?hd_Gone ?ty_Gone ?s_Closed_Gone,Internal.kit_ne ?n_Closed_NoDeal ?hd_NoDeal ?ty_NoDeal ?s_Closed_NoDeal,Internal.kit_ne ?n_Closed_NoLayer ?hd_NoLayer ?ty_NoLayer ?s_Closed_NoLayer,Internal.kit_ne ?n_Closed_NoMember ?hd_NoMember ?ty_NoMember ?s_Closed_NoMember,Internal.kit_ne ?n_Closed_NoPart ?hd_NoPart ?ty_NoPart ?s_Closed_NoPart,Internal.kit_ne ?n_Closed_NoRule ?hd_NoRule ?ty_NoRule ?s_Closed_NoRule,Internal.kit_ne ?n_Closed_NoTerms ?hd_NoTerms ?ty_NoTerms ?s_Closed_NoTerms,Internal.kit_ne ?n_Closed_Out ?hd_Out ?ty_Out ?s_Closed_Out,Internal.kit_ne ?n_Closed_Poor ?hd_Poor ?ty_Poor ?s_Closed_Poor,Internal.kit_ne ?n_Closed_QuitsError ?hd_QuitsError ?ty_QuitsError ?s_Closed_QuitsError,Internal.kit_ne ?n_Closed_Settled ?hd_Settled ?ty_Settled ?s_Closed_Settled,Internal.kit_V ?v_Closed,Internal.exm_mk ?b_QuitsError ?hd_QuitsError ?ty_QuitsError ?s_Closed_QuitsError,Internal.errOk_mk ?x_Gone ?ga_Gone ?gn_Gone ?be_Gone ?hd_Gone ?fa_Gone ?sn_ ?tk_ ?mo_Gone,Internal.kit_ne ?n_Gone_Bare ?hd_Bare ?ty_Bare ?s_Gone_Bare,Internal.kit_ne ?n_Gone_Closed ?hd_Closed ?ty_Closed ?s_Gone_Closed,Internal.kit_self,Internal.kit_ne ?n_Gone_NoDeal ?hd_NoDeal ?ty_NoDeal ?s_Gone_NoDeal,Internal.kit_ne ?n_Gone_NoLayer ?hd_NoLayer ?ty_NoLayer ?s_Gone_NoLayer,Internal.kit_ne ?n_Gone_NoMember ?hd_NoMember ?ty_NoMember ?s_Gone_NoMember,Internal.kit_ne ?n_Gone_NoPart ?hd_NoPart ?ty_NoPart ?s_Gone_NoPart,Internal.kit_ne ?n_Gone_NoRule ?hd_NoRule ?ty_NoRule ?s_Gone_NoRule,Internal.kit_ne ?n_Gone_NoTerms ?hd_NoTerms ?ty_NoTerms ?s_Gone_NoTerms,Internal.kit_ne ?n_Gone_Out ?hd_Out ?ty_Out ?s_Gone_Out,Internal.kit_ne ?n_Gone_Poor ?hd_Poor ?ty_Poor ?s_Gone_Poor,Internal.kit_ne ?n_Gone_QuitsError ?hd_QuitsError ?ty_QuitsError ?s_Gone_QuitsError,Internal.kit_ne ?n_Gone_Settled ?hd_Settled ?ty_Settled ?s_Gone_Settled,Internal.kit_V ?v_Gone,Internal.exm_mk ?b_QuitsError ?hd_QuitsError ?ty_QuitsError ?s_Gone_QuitsError,Internal.errOk_mk ?x_NoDeal ?ga_NoDeal ?gn_NoDeal ?be_NoDeal ?hd_NoDeal ?fa_NoDeal ?sn_ ?tk_ ?mo_NoDeal,Internal.kit_ne ?n_NoDeal_Bare ?hd_Bare ?ty_Bare ?s_NoDeal_Bare,Internal.kit_ne ?n_NoDeal_Closed ?hd_Closed ?ty_Closed ?s_NoDeal_Closed,Internal.kit_ne ?n_NoDeal_Gone ?hd_Gone ?ty_Gone ?s_NoDeal_Gone,Internal.kit_self,Internal.kit_ne ?n_NoDeal_NoLayer ?hd_NoLayer ?ty_NoLayer ?s_NoDeal_NoLayer,Internal.kit_ne ?n_NoDeal_NoMember ?hd_NoMember ?ty_NoMember ?s_NoDeal_NoMember,Internal.kit_ne ?n_NoDeal_NoPart ?hd_NoPart ?ty_NoPart ?s_NoDeal_NoPart,Internal.kit_ne ?n_NoDeal_NoRule ?hd_NoRule ?ty_NoRule ?s_NoDeal_NoRule,Internal.kit_ne ?n_NoDeal_NoTerms ?hd_NoTerms ?ty_NoTerms ?s_NoDeal_NoTerms,Internal.kit_ne ?n_NoDeal_Out ?hd_Out ?ty_Out ?s_NoDeal_Out,Internal.kit_ne ?n_NoDeal_Poor ?hd_Poor ?ty_Poor ?s_NoDeal_Poor,Internal.kit_ne ?n_NoDeal_QuitsError ?hd_QuitsError ?ty_QuitsError ?s_NoDeal_QuitsError,Internal.kit_ne ?n_NoDeal_Settled ?hd_Settled ?ty_Settled ?s_NoDeal_Settled,Internal.kit_V ?v_NoDeal,Internal.exm_mk ?b_QuitsError ?hd_QuitsError ?ty_QuitsError ?s_NoDeal_QuitsError,Internal.errOk_mk ?x_NoLayer ?ga_NoLayer ?gn_NoLayer ?be_NoLayer ?hd_NoLayer ?fa_NoLayer ?sn_ ?tk_ ?mo_NoLayer,Internal.kit_ne ?n_NoLayer_Bare ?hd_Bare ?ty_Bare ?s_NoLayer_Bare,Internal.kit_ne ?n_NoLayer_Closed ?hd_Closed ?ty_Closed ?s_NoLayer_Closed,Internal.kit_ne ?n_NoLayer_Gone ?hd_Gone ?ty_Gone ?s_NoLayer_Gone,Internal.kit_ne ?n_NoLayer_NoDeal ?hd_NoDeal ?ty_NoDeal ?s_NoLayer_NoDeal,Internal.kit_self,Internal.kit_ne ?n_NoLayer_NoMember ?hd_NoMember ?ty_NoMember ?s_NoLayer_NoMember,Internal.kit_ne ?n_NoLayer_NoPart ?hd_NoPart ?ty_NoPart ?s_NoLayer_NoPart,Internal.kit_ne ?n_NoLayer_NoRule ?hd_NoRule ?ty_NoRule ?s_NoLayer_NoRule,Internal.kit_ne ?n_NoLayer_NoTerms ?hd_NoTerms ?ty_NoTerms ?s_NoLayer_NoTerms,Internal.kit_ne ?n_NoLayer_Out ?hd_Out ?ty_Out ?s_NoLayer_Out,Internal.kit_ne ?n_NoLayer_Poor ?hd_Poor ?ty_Poor ?s_NoLayer_Poor,Internal.kit_ne ?n_NoLayer_QuitsError ?hd_QuitsError ?ty_QuitsError ?s_NoLayer_QuitsError,Internal.kit_ne ?n_NoLayer_Settled ?hd_Settled ?ty_Settled ?s_NoLayer_Settled,Internal.kit_V ?v_NoLayer,Internal.exm_mk ?b_QuitsError ?hd_QuitsError ?ty_QuitsError ?s_NoLayer_QuitsError,Internal.errOk_mk ?x_NoMember ?ga_NoMember ?gn_NoMember ?be_NoMember ?hd_NoMember ?fa_NoMember ?sn_ ?tk_ ?mo_NoMember,Internal.kit_ne ?n_NoMember_Bare ?hd_Bare ?ty_Bare ?s_NoMember_Bare,Internal.kit_ne ?n_NoMember_Closed ?hd_Closed ?ty_Closed ?s_NoMember_Closed,Internal.kit_ne ?n_NoMember_Gone ?hd_Gone ?ty_Gone ?s_NoMember_Gone,Internal.kit_ne ?n_NoMember_NoDeal ?hd_NoDeal ?ty_NoDeal ?s_NoMember_NoDeal,Internal.kit_ne ?n_NoMember_NoLayer ?hd_NoLayer ?ty_NoLayer ?s_NoMember_NoLayer,Internal.kit_self,Internal.kit_ne ?n_NoMember_NoPart ?hd_NoPart ?ty_NoPart ?s_NoMember_NoPart,Internal.kit_ne ?n_NoMember_NoRule ?hd_NoRule ?ty_NoRule ?s_NoMember_NoRule,Internal.kit_ne ?n_NoMember_NoTerms ?hd_NoTerms ?ty_NoTerms ?s_NoMember_NoTerms,Internal.kit_ne ?n_NoMember_Out ?hd_Out ?ty_Out ?s_NoMember_Out,Internal.kit_ne ?n_NoMember_Poor ?hd_Poor ?ty_Poor ?s_NoMember_Poor,Internal.kit_ne ?n_NoMember_QuitsError ?hd_QuitsError ?ty_QuitsError ?s_NoMember_QuitsError,Internal.kit_ne ?n_NoMember_Settled ?hd_Settled ?ty_Settled ?s_NoMember_Settled,Internal.kit_V ?v_NoMember,Internal.exm_mk ?b_QuitsError ?hd_QuitsError ?ty_QuitsError ?s_NoMember_QuitsError,Internal.errOk_mk ?x_NoPart ?ga_NoPart ?gn_NoPart ?be_NoPart ?hd_NoPart ?fa_NoPart ?sn_ ?tk_ ?mo_NoPart,Internal.kit_ne ?n_NoPart_Bare ?hd_Bare ?ty_Bare ?s_NoPart_Bare,Internal.kit_ne ?n_NoPart_Closed ?hd_Closed ?ty_Closed ?s_NoPart_Closed,Internal.kit_ne ?n_NoPart_Gone ?hd_Gone ?ty_Gone ?s_NoPart_Gone,Internal.kit_ne ?n_NoPart_NoDeal ?hd_NoDeal ?ty_NoDeal ?s_NoPart_NoDeal,Internal.kit_ne ?n_NoPart_NoLayer ?hd_NoLayer ?ty_NoLayer ?s_NoPart_NoLayer,Internal.kit_ne ?n_NoPart_NoMember ?hd_NoMember ?ty_NoMember ?s_NoPart_NoMember,Internal.kit_self,Internal.kit_ne ?n_NoPart_NoRule ?hd_NoRule ?ty_NoRule ?s_NoPart_NoRule,Internal.kit_ne ?n_NoPart_NoTerms ?hd_NoTerms ?ty_NoTerms ?s_NoPart_NoTerms,Internal.kit_ne ?n_NoPart_Out ?hd_Out ?ty_Out ?s_NoPart_Out,Internal.kit_ne ?n_NoPart_Poor ?hd_Poor ?ty_Poor ?s_NoPart_Poor,Internal.kit_ne ?n_NoPart_QuitsError ?hd_QuitsError ?ty_QuitsError ?s_NoPart_QuitsError,Internal.kit_ne ?n_NoPart_Settled ?hd_Settled ?ty_Settled ?s_NoPart_Settled,Internal.kit_V ?v_NoPart,Internal.exm_mk ?b_QuitsError ?hd_QuitsError ?ty_QuitsError ?s_NoPart_QuitsError,Internal.errOk_mk ?x_NoRule ?ga_NoRule ?gn_NoRule ?be_NoRule ?hd_NoRule ?fa_NoRule ?sn_ ?tk_ ?mo_NoRule,Internal.kit_ne ?n_NoRule_Bare ?hd_Bare ?ty_Bare ?s_NoRule_Bare,Internal.kit_ne ?n_NoRule_Closed ?hd_Closed ?ty_Closed ?s_NoRule_Closed,Internal.kit_ne ?n_NoRule_Gone ?hd_Gone ?ty_Gone ?s_NoRule_Gone,Internal.kit_ne ?n_NoRule_NoDeal ?hd_NoDeal ?ty_NoDeal ?s_NoRule_NoDeal,Internal.kit_ne ?n_NoRule_NoLayer ?hd_NoLayer ?ty_NoLayer ?s_NoRule_NoLayer,Internal.kit_ne ?n_NoRule_NoMember ?hd_NoMember ?ty_NoMember ?s_NoRule_NoMember,Internal.kit_ne ?n_NoRule_NoPart ?hd_NoPart ?ty_NoPart ?s_NoRule_NoPart,Internal.kit_self,Internal.kit_ne ?n_NoRule_NoTerms ?hd_NoTerms ?ty_NoTerms ?s_NoRule_NoTerms,Internal.kit_ne ?n_NoRule_Out ?hd_Out ?ty_Out ?s_NoRule_Out,Internal.kit_ne ?n_NoRule_Poor ?hd_Poor ?ty_Poor ?s_NoRule_Poor,Internal.kit_ne ?n_NoRule_QuitsError ?hd_QuitsError ?ty_QuitsError ?s_NoRule_QuitsError,Internal.kit_ne ?n_NoRule_Settled ?hd_Settled ?ty_Settled ?s_NoRule_Settled,Internal.kit_V ?v_NoRule,Internal.exm_mk ?b_QuitsError ?hd_QuitsError ?ty_QuitsError ?s_NoRule_QuitsError,Internal.errOk_mk ?x_NoTerms ?ga_NoTerms ?gn_NoTerms ?be_NoTerms ?hd_NoTerms ?fa_NoTerms ?sn_ ?tk_ ?mo_NoTerms,Internal.kit_ne ?n_NoTerms_Bare ?hd_Bare ?ty_Bare ?s_NoTerms_Bare,Internal.kit_ne ?n_NoTerms_Closed ?hd_Closed ?ty_Closed ?s_NoTerms_Closed,Internal.kit_ne ?n_NoTerms_Gone ?hd_Gone ?ty_Gone ?s_NoTerms_Gone,Internal.kit_ne ?n_NoTerms_NoDeal ?hd_NoDeal ?ty_NoDeal ?s_NoTerms_NoDeal,Internal.kit_ne ?n_NoTerms_NoLayer ?hd_NoLayer ?ty_NoLayer ?s_NoTerms_NoLayer,Internal.kit_ne ?n_NoTerms_NoMember ?hd_NoMember ?ty_NoMember ?s_NoTerms_NoMember,Internal.kit_ne ?n_NoTerms_NoPart ?hd_NoPart ?ty_NoPart ?s_NoTerms_NoPart,Internal.kit_ne ?n_NoTerms_NoRule ?hd_NoRule ?ty_NoRule ?s_NoTerms_NoRule,Internal.kit_self,Internal.kit_ne ?n_NoTerms_Out ?hd_Out ?ty_Out ?s_NoTerms_Out,Internal.kit_ne ?n_NoTerms_Poor ?hd_Poor ?ty_Poor ?s_NoTerms_Poor,Internal.kit_ne ?n_NoTerms_QuitsError ?hd_QuitsError ?ty_QuitsError ?s_NoTerms_QuitsError,Internal.kit_ne ?n_NoTerms_Settled ?hd_Settled ?ty_Settled ?s_NoTerms_Settled,Internal.kit_V ?v_NoTerms,Internal.exm_mk ?b_QuitsError ?hd_QuitsError ?ty_QuitsError ?s_NoTerms_QuitsError,Internal.errOk_mk ?x_Out ?ga_Out ?gn_Out ?be_Out ?hd_Out ?fa_Out ?sn_ ?tk_ ?mo_Out,Internal.kit_ne ?n_Out_Bare ?hd_Bare ?ty_Bare ?s_Out_Bare,Internal.kit_ne ?n_Out_Closed ?hd_Closed ?ty_Closed ?s_Out_Closed,Internal.kit_ne ?n_Out_Gone ?hd_Gone ?ty_Gone ?s_Out_Gone,Internal.kit_ne ?n_Out_NoDeal ?hd_NoDeal ?ty_NoDeal ?s_Out_NoDeal,Internal.kit_ne ?n_Out_NoLayer ?hd_NoLayer ?ty_NoLayer ?s_Out_NoLayer,Internal.kit_ne ?n_Out_NoMember ?hd_NoMember ?ty_NoMember ?s_Out_NoMember,Internal.kit_ne ?n_Out_NoPart ?hd_NoPart ?ty_NoPart ?s_Out_NoPart,Internal.kit_ne ?n_Out_NoRule ?hd_NoRule ?ty_NoRule ?s_Out_NoRule,Internal.kit_ne ?n_Out_NoTerms ?hd_NoTerms ?ty_NoTerms ?s_Out_NoTerms,Internal.kit_self,Internal.kit_ne ?n_Out_Poor ?hd_Poor ?ty_Poor ?s_Out_Poor,Internal.kit_ne ?n_Out_QuitsError ?hd_QuitsError ?ty_QuitsError ?s_Out_QuitsError,Internal.kit_ne ?n_Out_Settled ?hd_Settled ?ty_Settled ?s_Out_Settled,Internal.kit_V ?v_Out,Internal.exm_mk ?b_QuitsError ?hd_QuitsError ?ty_QuitsError ?s_Out_QuitsError,Internal.errOk_mk ?x_Poor ?ga_Poor ?gn_Poor ?be_Poor ?hd_Poor ?fa_Poor ?sn_ ?tk_ ?mo_Poor,Internal.kit_ne ?n_Poor_Bare ?hd_Bare ?ty_Bare ?s_Poor_Bare,Internal.kit_ne ?n_Poor_Closed ?hd_Closed ?ty_Closed ?s_Poor_Closed,Internal.kit_ne ?n_Poor_Gone ?hd_Gone ?ty_Gone ?s_Poor_Gone,Internal.kit_ne ?n_Poor_NoDeal ?hd_NoDeal ?ty_NoDeal ?s_Poor_NoDeal,Internal.kit_ne ?n_Poor_NoLayer ?hd_NoLayer ?ty_NoLayer ?s_Poor_NoLayer,Internal.kit_ne ?n_Poor_NoMember ?hd_NoMember ?ty_NoMember ?s_Poor_NoMember,Internal.kit_ne ?n_Poor_NoPart ?hd_NoPart ?ty_NoPart ?s_Poor_NoPart,Internal.kit_ne ?n_Poor_NoRule ?hd_NoRule ?ty_NoRule ?s_Poor_NoRule,Internal.kit_ne ?n_Poor_NoTerms ?hd_NoTerms ?ty_NoTerms ?s_Poor_NoTerms,Internal.kit_ne ?n_Poor_Out ?hd_Out ?ty_Out ?s_Poor_Out,Internal.kit_self,Internal.kit_ne ?n_Poor_QuitsError ?hd_QuitsError ?ty_QuitsError ?s_Poor_QuitsError,Internal.kit_ne ?n_Poor_Settled ?hd_Settled ?ty_Settled ?s_Poor_Settled,Internal.kit_V ?v_Poor,Internal.exm_mk ?b_QuitsError ?hd_QuitsError ?ty_QuitsError ?s_Poor_QuitsError,Internal.errOk_mk ?x_Settled ?ga_Settled ?gn_Settled ?be_Settled ?hd_Settled ?fa_Settled ?sn_ ?tk_ ?mo_Settled,Internal.kit_ne ?n_Settled_Bare ?hd_Bare ?ty_Bare ?s_Settled_Bare,Internal.kit_ne ?n_Settled_Closed ?hd_Closed ?ty_Closed ?s_Settled_Closed,Internal.kit_ne ?n_Settled_Gone ?hd_Gone ?ty_Gone ?s_Settled_Gone,Internal.kit_ne ?n_Settled_NoDeal ?hd_NoDeal ?ty_NoDeal ?s_Settled_NoDeal,Internal.kit_ne ?n_Settled_NoLayer ?hd_NoLayer ?ty_NoLayer ?s_Settled_NoLayer,Internal.kit_ne ?n_Settled_NoMember ?hd_NoMember ?ty_NoMember ?s_Settled_NoMember,Internal.kit_ne ?n_Settled_NoPart ?hd_NoPart ?ty_NoPart ?s_Settled_NoPart,Internal.kit_ne ?n_Settled_NoRule ?hd_NoRule ?ty_NoRule ?s_Settled_NoRule,Internal.kit_ne ?n_Settled_NoTerms ?hd_NoTerms ?ty_NoTerms ?s_Settled_NoTerms,Internal.kit_ne ?n_Settled_Out ?hd_Out ?ty_Out ?s_Settled_Out,Internal.kit_ne ?n_Settled_Poor ?hd_Poor ?ty_Poor ?s_Settled_Poor,Internal.kit_ne ?n_Settled_QuitsError ?hd_QuitsError ?ty_QuitsError ?s_Settled_QuitsError,Internal.kit_self,Internal.kit_V ?v_Settled,Internal.exm_mk ?b_QuitsError ?hd_QuitsError ?ty_QuitsError ?s_Settled_QuitsError,_,yG KX G ?m_Book,⟨?pg_Book,?hd_Book,?po_Book,?sa_Book⟩,(show PySem.W.findIn _ (.ref _) "day" = some none from ?na_Book_day),(show PySem.W.findIn _ (.ref _) "deals" = some none from ?na_Book_deals),(show PySem.W.findIn _ (.ref _) "many" = some none from ?na_Book_many),(show PySem.W.findIn _ (.ref _) "wares" = some none from ?na_Book_wares),_,yG KX G ?m_House,⟨?pg_House,?hd_House,?po_House,?sa_House⟩,(show PySem.W.findIn _ (.ref _) "book" = some none from ?na_House_book),(show PySem.W.findIn _ (.ref _) "kept" = some none from ?na_House_kept),(show PySem.W.findIn _ (.ref _) "moves" = some none from ?na_House_moves),(show PySem.W.findIn _ (.ref _) "order" = some none from ?na_House_order),(show PySem.W.findIn _ (.ref _) "outs" = some none from ?na_House_outs),(show PySem.W.findIn _ (.ref _) "pledges" = some none from ?na_House_pledges),(show PySem.W.findIn _ (.ref _) "purses" = some none from ?na_House_purses),(show PySem.W.findIn _ (.ref _) "reports" = some none from ?na_House_reports),(show PySem.W.findIn _ (.ref _) "rule" = some none from ?na_House_rule),(show PySem.W.findIn _ (.ref _) "shares" = some none from ?na_House_shares),Internal.K.mkI KX G ?g_MOST_AMOUNT,Internal.K.mkI KX G ?g_MOST_COINS,Internal.K.mkI KX G ?g_MOST_DAY,Internal.K.mkI KX G ?g_MOST_UNITS,Internal.K.mkI KX G ?g_PAYEE,Internal.K.mkI KX G ?g_PAYER,Internal.K.mkI KX G ?g_STATE,Internal.K.mkI KX G ?g_UNITS,Internal.K.mkI KX G ?g_WARE,_,yG KX G ?g_WORDS,Internal.K.mkQ_WORDS ?o_WORDS,Internal.K.mkM ?a_Book___init__ ?i_Book___init__ ?l_Book___init__ ?c_Book___init__ ?k_Book___init__ (by intro _ _ _ _ _ _ us hl;obtain⟨_,_,_,rfl⟩:=Internal.K.len3 hl;rfl),⟨?mk_Book,?a_Book___init__,?i_Book___init__,?kc_Book⟩,Internal.K.mkM ?a_Book_strike ?i_Book_strike ?l_Book_strike ?c_Book_strike ?k_Book_strike (by intro _ _ _ _ _ _ us hl;obtain⟨_,_,_,_,_,_,_,_,rfl⟩:=Internal.K.len8 hl;rfl),Internal.K.mkM ?a_Book_check_members ?i_Book_check_members ?l_Book_check_members ?c_Book_check_members ?k_Book_check_members (by intro _ _ _ _ _ _ us hl;obtain⟨_,_,_,rfl⟩:=Internal.K.len3 hl;rfl),Internal.K.mkM ?a_Book_check_terms ?i_Book_check_terms ?l_Book_check_terms ?c_Book_check_terms ?k_Book_check_terms (by intro _ _ _ _ _ _ us hl;obtain⟨_,_,_,_,_,_,rfl⟩:=Internal.K.len6 hl;rfl),Internal.K.mkM ?a_Book_break_off ?i_Book_break_off ?l_Book_break_off ?c_Book_break_off ?k_Book_break_off (by intro _ _ _ _ _ _ us hl;obtain⟨_,_,rfl⟩:=Internal.K.len2 hl;rfl),Internal.K.mkM ?a_Book_standing_deal ?i_Book_standing_deal ?l_Book_standing_deal ?c_Book_standing_deal ?k_Book_standing_deal (by intro _ _ _ _ _ _ us hl;obtain⟨_,_,rfl⟩:=Internal.K.len2 hl;rfl),Internal.K.mkM ?a_Book_put_state ?i_Book_put_state ?l_Book_put_state ?c_Book_put_state ?k_Book_put_state (by intro _ _ _ _ _ _ us hl;obtain⟨_,_,_,rfl⟩:=Internal.K.len3 hl;rfl),Internal.K.mkM ?a_Book_deal ?i_Book_deal ?l_Book_deal ?c_Book_deal ?k_Book_deal (by intro _ _ _ _ _ _ us hl;obtain⟨_,_,rfl⟩:=Internal.K.len2 hl;rfl),Internal.K.mkM ?a_Book_position ?i_Book_position ?l_Book_position ?c_Book_position ?k_Book_position (by intro _ _ _ _ _ _ us hl;obtain⟨_,_,rfl⟩:=Internal.K.len2 hl;rfl),Internal.K.mkM ?a_House___init__ ?i_House___init__ ?l_House___init__ ?c_House___init__ ?k_House___init__ (by intro _ _ _ _ _ _ us hl;obtain⟨_,_,_,_,_,_,rfl⟩:=Internal.K.len6 hl;rfl),⟨?mk_House,?a_House___init__,?i_House___init__,?kc_House⟩,Internal.K.mkM ?a_House_put ?i_House_put ?l_House_put ?c_House_put ?k_House_put (by intro _ _ _ _ _ _ us hl;obtain⟨_,_,_,rfl⟩:=Internal.K.len3 hl;rfl),Internal.K.mkM ?a_House_lay ?i_House_lay ?l_House_lay ?c_House_lay ?k_House_lay (by intro _ _ _ _ _ _ us hl;obtain⟨_,_,_,rfl⟩:=Internal.K.len3 hl;rfl),Internal.K.mkM ?a_House_free ?i_House_free ?l_House_free ?c_House_free ?k_House_free (by intro _ _ _ _ _ _ us hl;obtain⟨_,_,_,rfl⟩:=Internal.K.len3 hl;rfl),Internal.K.mkM ?a_House_check_coins ?i_House_check_coins ?l_House_check_coins ?c_House_check_coins ?k_House_check_coins (by intro _ _ _ _ _ _ us hl;obtain⟨_,_,_,rfl⟩:=Internal.K.len3 hl;rfl),Internal.K.mkM ?a_House_strike ?i_House_strike ?l_House_strike ?c_House_strike ?k_House_strike (by intro _ _ _ _ _ _ us hl;obtain⟨_,_,_,_,_,_,_,_,rfl⟩:=Internal.K.len8 hl;rfl),Internal.K.mkM ?a_House_break_off ?i_House_break_off ?l_House_break_off ?c_House_break_off ?k_House_break_off (by intro _ _ _ _ _ _ us hl;obtain⟨_,_,rfl⟩:=Internal.K.len2 hl;rfl),Internal.K.mkM ?a_House_pledge ?i_House_pledge ?l_House_pledge ?c_House_pledge ?k_House_pledge (by intro _ _ _ _ _ _ us hl;obtain⟨_,_,rfl⟩:=Internal.K.len2 hl;rfl),Internal.K.mkM ?a_House_need ?i_House_need ?l_House_need ?c_House_need ?k_House_need (by intro _ _ _ _ _ _ us hl;obtain⟨_,_,rfl⟩:=Internal.K.len2 hl;rfl),Internal.K.mkM ?a_House_need_with ?i_House_need_with ?l_House_need_with ?c_House_need_with ?k_House_need_with (by intro _ _ _ _ _ _ us hl;obtain⟨_,_,_,_,rfl⟩:=Internal.K.len4 hl;rfl),Internal.K.mkM ?a_House_deal ?i_House_deal ?l_House_deal ?c_House_deal ?k_House_deal (by intro _ _ _ _ _ _ us hl;obtain⟨_,_,rfl⟩:=Internal.K.len2 hl;rfl),Internal.K.mkM ?a_House_position ?i_House_position ?l_House_position ?c_House_position ?k_House_position (by intro _ _ _ _ _ _ us hl;obtain⟨_,_,rfl⟩:=Internal.K.len2 hl;rfl),Internal.K.mkD KX G ?a_check_order ?l_check_order ?c_check_order ?k_check_order (by intro _ _ _ _ _ _ us hl;obtain⟨_,rfl⟩:=Internal.K.len1 hl;rfl),Internal.K.mkD KX G ?a_divisor ?l_divisor ?c_divisor ?k_divisor (by intro _ _ _ _ _ _ us hl;obtain⟨_,_,rfl⟩:=Internal.K.len2 hl;rfl),Internal.K.mkD KX G ?a_part ?l_part ?c_part ?k_part (by intro _ _ _ _ _ _ us hl;obtain⟨_,_,rfl⟩:=Internal.K.len2 hl;rfl),Internal.K.mkD KX G ?a_under ?l_under ?c_under ?k_under (by intro _ _ _ _ _ _ us hl;obtain⟨_,_,rfl⟩:=Internal.K.len2 hl;rfl),Internal.K.mkD KX G ?a_losses_of ?l_losses_of ?c_losses_of ?k_losses_of (by intro _ _ _ _ _ _ us hl;obtain⟨_,_,rfl⟩:=Internal.K.len2 hl;rfl),Internal.K.mkD KX G ?a_worst_days ?l_worst_days ?c_worst_days ?k_worst_days (by intro _ _ _ _ _ _ us hl;obtain⟨_,_,_,rfl⟩:=Internal.K.len3 hl;rfl),Internal.K.mkD KX G ?a_need_of ?l_need_of ?c_need_of ?k_need_of (by intro _ _ _ _ _ _ us hl;obtain⟨_,_,_,rfl⟩:=Internal.K.len3 hl;rfl),Internal.K.mkD KX G ?a_check_rule ?l_check_rule ?c_check_rule ?k_check_rule (by intro _ _ _ _ _ _ us hl;obtain⟨_,_,rfl⟩:=Internal.K.len2 hl;rfl),Internal.K.mkD KX G ?a_check_enough ?l_check_enough ?c_check_enough ?k_check_enough (by intro _ _ _ _ _ _ us hl;obtain⟨_,_,rfl⟩:=Internal.K.len2 hl;rfl),Internal.K.mkD KX G ?a_check_covered ?l_check_covered ?c_check_covered ?k_check_covered (by intro _ _ _ _ _ _ us hl;obtain⟨_,_,rfl⟩:=Internal.K.len2 hl;rfl),Internal.K.mkD KX G ?a__law_cell ?l__law_cell ?c__law_cell ?k__law_cell (by intro _ _ _ _ _ _ us hl;obtain⟨_,_,rfl⟩:=Internal.K.len2 hl;rfl),Internal.K.mkD KX G ?a__law_draw ?l__law_draw ?c__law_draw ?k__law_draw (by intro _ _ _ _ _ _ us hl;obtain⟨_,_,_,rfl⟩:=Internal.K.len3 hl;rfl),Internal.K.mkD KX G ?a__law_great ?l__law_great ?c__law_great ?k__law_great (by intro _ _ _ _ _ _ us hl;obtain⟨_,_,_,rfl⟩:=Internal.K.len3 hl;rfl),Internal.K.mkD KX G ?a__law_pledge ?l__law_pledge ?c__law_pledge ?k__law_pledge (by intro _ _ _ _ _ _ us hl;obtain⟨_,_,rfl⟩:=Internal.K.len2 hl;rfl),Internal.K.mkD KX G ?a__law_moves ?l__law_moves ?c__law_moves ?k__law_moves (by intro _ _ _ _ _ _ us hl;obtain⟨_,_,_,_,rfl⟩:=Internal.K.len4 hl;rfl),Internal.K.mkD KX G ?a__law_loss ?l__law_loss ?c__law_loss ?k__law_loss (by intro _ _ _ _ _ _ us hl;obtain⟨_,_,rfl⟩:=Internal.K.len2 hl;rfl),Internal.K.mkD KX G ?a__law_need ?l__law_need ?c__law_need ?k__law_need (by intro _ _ _ _ _ _ us hl;obtain⟨_,_,_,rfl⟩:=Internal.K.len3 hl;rfl),Internal.K.mkD KX G ?a__law_positions ?l__law_positions ?c__law_positions ?k__law_positions (by intro _ _ _ _ _ _ us hl;obtain⟨_,_,_,rfl⟩:=Internal.K.len3 hl;rfl),Internal.K.mkD KX G ?a__law_part_is ?l__law_part_is ?c__law_part_is ?k__law_part_is (by intro _ _ _ _ _ _ us hl;obtain⟨_,_,rfl⟩:=Internal.K.len2 hl;rfl),Internal.K.mkD KX G ?a__law_stands ?l__law_stands ?c__law_stands ?k__law_stands (by intro _ _ _ _ _ _ us hl;obtain⟨_,_,_,_,_,rfl⟩:=Internal.K.len5 hl;rfl),Internal.K.mkD KX G ?a__law_name ?l__law_name ?c__law_name ?k__law_name (by intro _ _ _ _ _ _ us hl;obtain⟨_,rfl⟩:=Internal.K.len1 hl;rfl),Internal.K.mkD KX G ?a__law_done ?l__law_done ?c__law_done ?k__law_done (by intro _ _ _ _ _ _ us hl;obtain⟨_,_,rfl⟩:=Internal.K.len2 hl;rfl),Internal.K.mkD KX G ?a__law_found ?l__law_found ?c__law_found ?k__law_found (by intro _ _ _ _ _ _ us hl;obtain⟨_,_,rfl⟩:=Internal.K.len2 hl;rfl),Internal.K.mkD KX G ?a__law_deed ?l__law_deed ?c__law_deed ?k__law_deed (by intro _ _ _ _ _ _ us hl;obtain⟨_,_,_,_,rfl⟩:=Internal.K.len4 hl;rfl),Internal.K.mkD KX G ?a__law_short_of ?l__law_short_of ?c__law_short_of ?k__law_short_of (by intro _ _ _ _ _ _ us hl;obtain⟨_,_,_,_,_,rfl⟩:=Internal.K.len5 hl;rfl),Internal.K.mkD KX G ?a__law_struck ?l__law_struck ?c__law_struck ?k__law_struck (by intro _ _ _ _ _ _ us hl;obtain⟨_,_,_,_,_,_,rfl⟩:=Internal.K.len6 hl;rfl),Internal.K.mkD KX G ?a__law_freed ?l__law_freed ?c__law_freed ?k__law_freed (by intro _ _ _ _ _ _ us hl;obtain⟨_,_,_,_,_,_,_,rfl⟩:=Internal.K.len7 hl;rfl),Internal.K.mkD KX G ?a_law ?l_law ?c_law ?k_law (by intro _ _ _ _ _ _ us hl;obtain⟨_,rfl⟩:=Internal.K.len1 hl;rfl),_,_,Internal.tab_mk ?a_worst_days ?l_worst_days ?cq_worst_days ?lc_worst_days ?ve_worst_days,?cq_worst_days,?bl_,yA KX G ?w_ValueError,yA KX G ?w_abs,yA KX G ?w_bool,yA KX G ?w_enumerate,yA KX G ?w_int,yA KX G ?w_isinstance,yA KX G ?w_len,yA KX G ?w_list,yA KX G ?w_max,yA KX G ?w_min,yA KX G ?w_range,yA KX G ?w_sorted,yA KX G ?w_sum,yA KX G ?w_tuple,yA KX G ?w_zip⟩:Internal.K.Txt _ _)
   (case m_Bare | m_Closed | m_Gone | m_NoDeal | m_NoLayer | m_NoMember | m_NoPart | m_NoRule | m_NoTerms | m_Out | m_Poor | m_QuitsError | m_Settled | hd_Bare | ty_Bare | hd_Closed | ty_Closed | hd_Gone | ty_Gone | hd_NoDeal | ty_NoDeal | hd_NoLayer | ty_NoLayer | hd_NoMember | ty_NoMember | hd_NoPart | ty_NoPart | hd_NoRule | ty_NoRule | hd_NoTerms | ty_NoTerms | hd_Out | ty_Out | hd_Poor | ty_Poor | hd_QuitsError | ty_QuitsError | hd_Settled | ty_Settled | sn_ | tk_ | b_QuitsError=>k_is)
   (case x_Bare=>k_exc)
   (case ga_Bare | gn_Bare | be_Bare | fa_Bare | mo_Bare | s_Bare_Closed=>k_is)
   (case n_Bare_Closed=>decide)
   (case s_Bare_Gone=>k_is)
   (case n_Bare_Gone=>decide)
   (case s_Bare_NoDeal=>k_is)
   (case n_Bare_NoDeal=>decide)
   (case s_Bare_NoLayer=>k_is)
   (case n_Bare_NoLayer=>decide)
   (case s_Bare_NoMember=>k_is)
   (case n_Bare_NoMember=>decide)
   (case s_Bare_NoPart=>k_is)
   (case n_Bare_NoPart=>decide)
   (case s_Bare_NoRule=>k_is)
   (case n_Bare_NoRule=>decide)
   (case s_Bare_NoTerms=>k_is)
   (case n_Bare_NoTerms=>decide)
   (case s_Bare_Out=>k_is)
   (case n_Bare_Out=>decide)
   (case s_Bare_Poor=>k_is)
   (case n_Bare_Poor=>decide)
   (case s_Bare_QuitsError=>k_is)
   (case n_Bare_QuitsError=>decide)
   (case s_Bare_Settled=>k_is)
   (case n_Bare_Settled=>decide)
   (case v_Bare=>k_is)
   (case x_Closed=>k_exc)
   (case ga_Closed | gn_Closed | be_Closed | fa_Closed | mo_Closed | s_Closed_Bare=>k_is)
   (case n_Closed_Bare=>decide)
   (case s_Closed_Gone=>k_is)
   (case n_Closed_Gone=>decide)
   (case s_Closed_NoDeal=>k_is)
   (case n_Closed_NoDeal=>decide)
   (case s_Closed_NoLayer=>k_is)
   (case n_Closed_NoLayer=>decide)
   (case s_Closed_NoMember=>k_is)
   (case n_Closed_NoMember=>decide)
   (case s_Closed_NoPart=>k_is)
   (case n_Closed_NoPart=>decide)
   (case s_Closed_NoRule=>k_is)
   (case n_Closed_NoRule=>decide)
   (case s_Closed_NoTerms=>k_is)
   (case n_Closed_NoTerms=>decide)
   (case s_Closed_Out=>k_is)
   (case n_Closed_Out=>decide)
   (case s_Closed_Poor=>k_is)
   (case n_Closed_Poor=>decide)
   (case s_Closed_QuitsError=>k_is)
   (case n_Closed_QuitsError=>decide)
   (case s_Closed_Settled=>k_is)
   (case n_Closed_Settled=>decide)
   (case v_Closed=>k_is)
   (case x_Gone=>k_exc)
   (case ga_Gone | gn_Gone | be_Gone | fa_Gone | mo_Gone | s_Gone_Bare=>k_is)
   (case n_Gone_Bare=>decide)
   (case s_Gone_Closed=>k_is)
   (case n_Gone_Closed=>decide)
   (case s_Gone_NoDeal=>k_is)
   (case n_Gone_NoDeal=>decide)
   (case s_Gone_NoLayer=>k_is)
   (case n_Gone_NoLayer=>decide)
   (case s_Gone_NoMember=>k_is)
   (case n_Gone_NoMember=>decide)
   (case s_Gone_NoPart=>k_is)
   (case n_Gone_NoPart=>decide)
   (case s_Gone_NoRule=>k_is)
   (case n_Gone_NoRule=>decide)
   (case s_Gone_NoTerms=>k_is)
   (case n_Gone_NoTerms=>decide)
   (case s_Gone_Out=>k_is)
   (case n_Gone_Out=>decide)
   (case s_Gone_Poor=>k_is)
   (case n_Gone_Poor=>decide)
   (case s_Gone_QuitsError=>k_is)
   (case n_Gone_QuitsError=>decide)
   (case s_Gone_Settled=>k_is)
   (case n_Gone_Settled=>decide)
   (case v_Gone=>k_is)
   (case x_NoDeal=>k_exc)
   (case ga_NoDeal | gn_NoDeal | be_NoDeal | fa_NoDeal | mo_NoDeal | s_NoDeal_Bare=>k_is)
   (case n_NoDeal_Bare=>decide)
   (case s_NoDeal_Closed=>k_is)
   (case n_NoDeal_Closed=>decide)
   (case s_NoDeal_Gone=>k_is)
   (case n_NoDeal_Gone=>decide)
   (case s_NoDeal_NoLayer=>k_is)
   (case n_NoDeal_NoLayer=>decide)
   (case s_NoDeal_NoMember=>k_is)
   (case n_NoDeal_NoMember=>decide)
   (case s_NoDeal_NoPart=>k_is)
   (case n_NoDeal_NoPart=>decide)
   (case s_NoDeal_NoRule=>k_is)
   (case n_NoDeal_NoRule=>decide)
   (case s_NoDeal_NoTerms=>k_is)
   (case n_NoDeal_NoTerms=>decide)
   (case s_NoDeal_Out=>k_is)
   (case n_NoDeal_Out=>decide)
   (case s_NoDeal_Poor=>k_is)
   (case n_NoDeal_Poor=>decide)
   (case s_NoDeal_QuitsError=>k_is)
   (case n_NoDeal_QuitsError=>decide)
   (case s_NoDeal_Settled=>k_is)
   (case n_NoDeal_Settled=>decide)
   (case v_NoDeal=>k_is)
   (case x_NoLayer=>k_exc)
   (case ga_NoLayer | gn_NoLayer | be_NoLayer | fa_NoLayer | mo_NoLayer | s_NoLayer_Bare=>k_is)
   (case n_NoLayer_Bare=>decide)
   (case s_NoLayer_Closed=>k_is)
   (case n_NoLayer_Closed=>decide)
   (case s_NoLayer_Gone=>k_is)
   (case n_NoLayer_Gone=>decide)
   (case s_NoLayer_NoDeal=>k_is)
   (case n_NoLayer_NoDeal=>decide)
   (case s_NoLayer_NoMember=>k_is)
   (case n_NoLayer_NoMember=>decide)
   (case s_NoLayer_NoPart=>k_is)
   (case n_NoLayer_NoPart=>decide)
   (case s_NoLayer_NoRule=>k_is)
   (case n_NoLayer_NoRule=>decide)
   (case s_NoLayer_NoTerms=>k_is)
   (case n_NoLayer_NoTerms=>decide)
   (case s_NoLayer_Out=>k_is)
   (case n_NoLayer_Out=>decide)
   (case s_NoLayer_Poor=>k_is)
   (case n_NoLayer_Poor=>decide)
   (case s_NoLayer_QuitsError=>k_is)
   (case n_NoLayer_QuitsError=>decide)
   (case s_NoLayer_Settled=>k_is)
   (case n_NoLayer_Settled=>decide)
   (case v_NoLayer=>k_is)
   (case x_NoMember=>k_exc)
   (case ga_NoMember | gn_NoMember | be_NoMember | fa_NoMember | mo_NoMember | s_NoMember_Bare=>k_is)
   (case n_NoMember_Bare=>decide)
   (case s_NoMember_Closed=>k_is)
   (case n_NoMember_Closed=>decide)
   (case s_NoMember_Gone=>k_is)
   (case n_NoMember_Gone=>decide)
   (case s_NoMember_NoDeal=>k_is)
   (case n_NoMember_NoDeal=>decide)
   (case s_NoMember_NoLayer=>k_is)
   (case n_NoMember_NoLayer=>decide)
   (case s_NoMember_NoPart=>k_is)
   (case n_NoMember_NoPart=>decide)
   (case s_NoMember_NoRule=>k_is)
   (case n_NoMember_NoRule=>decide)
   (case s_NoMember_NoTerms=>k_is)
   (case n_NoMember_NoTerms=>decide)
   (case s_NoMember_Out=>k_is)
   (case n_NoMember_Out=>decide)
   (case s_NoMember_Poor=>k_is)
   (case n_NoMember_Poor=>decide)
   (case s_NoMember_QuitsError=>k_is)
   (case n_NoMember_QuitsError=>decide)
   (case s_NoMember_Settled=>k_is)
   (case n_NoMember_Settled=>decide)
   (case v_NoMember=>k_is)
   (case x_NoPart=>k_exc)
   (case ga_NoPart | gn_NoPart | be_NoPart | fa_NoPart | mo_NoPart | s_NoPart_Bare=>k_is)
   (case n_NoPart_Bare=>decide)
   (case s_NoPart_Closed=>k_is)
   (case n_NoPart_Closed=>decide)
   (case s_NoPart_Gone=>k_is)
   (case n_NoPart_Gone=>decide)
   (case s_NoPart_NoDeal=>k_is)
   (case n_NoPart_NoDeal=>decide)
   (case s_NoPart_NoLayer=>k_is)
   (case n_NoPart_NoLayer=>decide)
   (case s_NoPart_NoMember=>k_is)
   (case n_NoPart_NoMember=>decide)
   (case s_NoPart_NoRule=>k_is)
   (case n_NoPart_NoRule=>decide)
   (case s_NoPart_NoTerms=>k_is)
   (case n_NoPart_NoTerms=>decide)
   (case s_NoPart_Out=>k_is)
   (case n_NoPart_Out=>decide)
   (case s_NoPart_Poor=>k_is)
   (case n_NoPart_Poor=>decide)
   (case s_NoPart_QuitsError=>k_is)
   (case n_NoPart_QuitsError=>decide)
   (case s_NoPart_Settled=>k_is)
   (case n_NoPart_Settled=>decide)
   (case v_NoPart=>k_is)
   (case x_NoRule=>k_exc)
   (case ga_NoRule | gn_NoRule | be_NoRule | fa_NoRule | mo_NoRule | s_NoRule_Bare=>k_is)
   (case n_NoRule_Bare=>decide)
   (case s_NoRule_Closed=>k_is)
   (case n_NoRule_Closed=>decide)
   (case s_NoRule_Gone=>k_is)
   (case n_NoRule_Gone=>decide)
   (case s_NoRule_NoDeal=>k_is)
   (case n_NoRule_NoDeal=>decide)
   (case s_NoRule_NoLayer=>k_is)
   (case n_NoRule_NoLayer=>decide)
   (case s_NoRule_NoMember=>k_is)
   (case n_NoRule_NoMember=>decide)
   (case s_NoRule_NoPart=>k_is)
   (case n_NoRule_NoPart=>decide)
   (case s_NoRule_NoTerms=>k_is)
   (case n_NoRule_NoTerms=>decide)
   (case s_NoRule_Out=>k_is)
   (case n_NoRule_Out=>decide)
   (case s_NoRule_Poor=>k_is)
   (case n_NoRule_Poor=>decide)
   (case s_NoRule_QuitsError=>k_is)
   (case n_NoRule_QuitsError=>decide)
   (case s_NoRule_Settled=>k_is)
   (case n_NoRule_Settled=>decide)
   (case v_NoRule=>k_is)
   (case x_NoTerms=>k_exc)
   (case ga_NoTerms | gn_NoTerms | be_NoTerms | fa_NoTerms | mo_NoTerms | s_NoTerms_Bare=>k_is)
   (case n_NoTerms_Bare=>decide)
   (case s_NoTerms_Closed=>k_is)
   (case n_NoTerms_Closed=>decide)
   (case s_NoTerms_Gone=>k_is)
   (case n_NoTerms_Gone=>decide)
   (case s_NoTerms_NoDeal=>k_is)
   (case n_NoTerms_NoDeal=>decide)
   (case s_NoTerms_NoLayer=>k_is)
   (case n_NoTerms_NoLayer=>decide)
   (case s_NoTerms_NoMember=>k_is)
   (case n_NoTerms_NoMember=>decide)
   (case s_NoTerms_NoPart=>k_is)
   (case n_NoTerms_NoPart=>decide)
   (case s_NoTerms_NoRule=>k_is)
   (case n_NoTerms_NoRule=>decide)
   (case s_NoTerms_Out=>k_is)
   (case n_NoTerms_Out=>decide)
   (case s_NoTerms_Poor=>k_is)
   (case n_NoTerms_Poor=>decide)
   (case s_NoTerms_QuitsError=>k_is)
   (case n_NoTerms_QuitsError=>decide)
   (case s_NoTerms_Settled=>k_is)
   (case n_NoTerms_Settled=>decide)
   (case v_NoTerms=>k_is)
   (case x_Out=>k_exc)
   (case ga_Out | gn_Out | be_Out | fa_Out | mo_Out | s_Out_Bare=>k_is)
   (case n_Out_Bare=>decide)
   (case s_Out_Closed=>k_is)
   (case n_Out_Closed=>decide)
   (case s_Out_Gone=>k_is)
   (case n_Out_Gone=>decide)
   (case s_Out_NoDeal=>k_is)
   (case n_Out_NoDeal=>decide)
   (case s_Out_NoLayer=>k_is)
   (case n_Out_NoLayer=>decide)
   (case s_Out_NoMember=>k_is)
   (case n_Out_NoMember=>decide)
   (case s_Out_NoPart=>k_is)
   (case n_Out_NoPart=>decide)
   (case s_Out_NoRule=>k_is)
   (case n_Out_NoRule=>decide)
   (case s_Out_NoTerms=>k_is)
   (case n_Out_NoTerms=>decide)
   (case s_Out_Poor=>k_is)
   (case n_Out_Poor=>decide)
   (case s_Out_QuitsError=>k_is)
   (case n_Out_QuitsError=>decide)
   (case s_Out_Settled=>k_is)
   (case n_Out_Settled=>decide)
   (case v_Out=>k_is)
   (case x_Poor=>k_exc)
   (case ga_Poor | gn_Poor | be_Poor | fa_Poor | mo_Poor | s_Poor_Bare=>k_is)
   (case n_Poor_Bare=>decide)
   (case s_Poor_Closed=>k_is)
   (case n_Poor_Closed=>decide)
   (case s_Poor_Gone=>k_is)
   (case n_Poor_Gone=>decide)
   (case s_Poor_NoDeal=>k_is)
   (case n_Poor_NoDeal=>decide)
   (case s_Poor_NoLayer=>k_is)
   (case n_Poor_NoLayer=>decide)
   (case s_Poor_NoMember=>k_is)
   (case n_Poor_NoMember=>decide)
   (case s_Poor_NoPart=>k_is)
   (case n_Poor_NoPart=>decide)
   (case s_Poor_NoRule=>k_is)
   (case n_Poor_NoRule=>decide)
   (case s_Poor_NoTerms=>k_is)
   (case n_Poor_NoTerms=>decide)
   (case s_Poor_Out=>k_is)
   (case n_Poor_Out=>decide)
   (case s_Poor_QuitsError=>k_is)
   (case n_Poor_QuitsError=>decide)
   (case s_Poor_Settled=>k_is)
   (case n_Poor_Settled=>decide)
   (case v_Poor=>k_is)
   (case x_Settled=>k_exc)
   (case ga_Settled | gn_Settled | be_Settled | fa_Settled | mo_Settled | s_Settled_Bare=>k_is)
   (case n_Settled_Bare=>decide)
   (case s_Settled_Closed=>k_is)
   (case n_Settled_Closed=>decide)
   (case s_Settled_Gone=>k_is)
   (case n_Settled_Gone=>decide)
   (case s_Settled_NoDeal=>k_is)
   (case n_Settled_NoDeal=>decide)
   (case s_Settled_NoLayer=>k_is)
   (case n_Settled_NoLayer=>decide)
   (case s_Settled_NoMember=>k_is)
   (case n_Settled_NoMember=>decide)
   (case s_Settled_NoPart=>k_is)
   (case n_Settled_NoPart=>decide)
   (case s_Settled_NoRule=>k_is)
   (case n_Settled_NoRule=>decide)
   (case s_Settled_NoTerms=>k_is)
   (case n_Settled_NoTerms=>decide)
   (case s_Settled_Out=>k_is)
   (case n_Settled_Out=>decide)
   (case s_Settled_Poor=>k_is)
   (case n_Settled_Poor=>decide)
   (case s_Settled_QuitsError=>k_is)
   (case n_Settled_QuitsError=>decide)
   (case v_Settled | m_Book | pg_Book | hd_Book | po_Book | sa_Book | na_Book_day | na_Book_deals | na_Book_many | na_Book_wares | m_House | pg_House | hd_House | po_House | sa_House | na_House_book | na_House_kept | na_House_moves | na_House_order | na_House_outs | na_House_pledges | na_House_purses | na_House_reports | na_House_rule | na_House_shares | g_MOST_AMOUNT | g_MOST_COINS | g_MOST_DAY | g_MOST_UNITS | g_PAYEE | g_PAYER | g_STATE | g_UNITS | g_WARE | g_WORDS | o_WORDS | a_Book___init__ | i_Book___init__ | l_Book___init__ | c_Book___init__ | k_Book___init__ | mk_Book | kc_Book | a_Book_strike | i_Book_strike | l_Book_strike | c_Book_strike | k_Book_strike | a_Book_check_members | i_Book_check_members | l_Book_check_members | c_Book_check_members | k_Book_check_members | a_Book_check_terms | i_Book_check_terms | l_Book_check_terms | c_Book_check_terms | k_Book_check_terms | a_Book_break_off | i_Book_break_off | l_Book_break_off | c_Book_break_off | k_Book_break_off | a_Book_standing_deal | i_Book_standing_deal | l_Book_standing_deal | c_Book_standing_deal | k_Book_standing_deal | a_Book_put_state | i_Book_put_state | l_Book_put_state | c_Book_put_state | k_Book_put_state | a_Book_deal | i_Book_deal | l_Book_deal | c_Book_deal | k_Book_deal | a_Book_position | i_Book_position | l_Book_position | c_Book_position | k_Book_position | a_House___init__ | i_House___init__ | l_House___init__ | c_House___init__ | k_House___init__ | mk_House | kc_House | a_House_put | i_House_put | l_House_put | c_House_put | k_House_put | a_House_lay | i_House_lay | l_House_lay | c_House_lay | k_House_lay | a_House_free | i_House_free | l_House_free | c_House_free | k_House_free | a_House_check_coins | i_House_check_coins | l_House_check_coins | c_House_check_coins | k_House_check_coins | a_House_strike | i_House_strike | l_House_strike | c_House_strike | k_House_strike | a_House_break_off | i_House_break_off | l_House_break_off | c_House_break_off | k_House_break_off | a_House_pledge | i_House_pledge | l_House_pledge | c_House_pledge | k_House_pledge | a_House_need | i_House_need | l_House_need | c_House_need | k_House_need | a_House_need_with | i_House_need_with | l_House_need_with | c_House_need_with | k_House_need_with | a_House_deal | i_House_deal | l_House_deal | c_House_deal | k_House_deal | a_House_position | i_House_position | l_House_position | c_House_position | k_House_position | a_check_order | l_check_order | c_check_order | k_check_order | a_divisor | l_divisor | c_divisor | k_divisor | a_part | l_part | c_part | k_part | a_under | l_under | c_under | k_under | a_losses_of | l_losses_of | c_losses_of | k_losses_of | a_worst_days | l_worst_days | c_worst_days | k_worst_days | a_need_of | l_need_of | c_need_of | k_need_of | a_check_rule | l_check_rule | c_check_rule | k_check_rule | a_check_enough | l_check_enough | c_check_enough | k_check_enough | a_check_covered | l_check_covered | c_check_covered | k_check_covered | a__law_cell | l__law_cell | c__law_cell | k__law_cell | a__law_draw | l__law_draw | c__law_draw | k__law_draw | a__law_great | l__law_great | c__law_great | k__law_great | a__law_pledge | l__law_pledge | c__law_pledge | k__law_pledge | a__law_moves | l__law_moves | c__law_moves | k__law_moves | a__law_loss | l__law_loss | c__law_loss | k__law_loss | a__law_need | l__law_need | c__law_need | k__law_need | a__law_positions | l__law_positions | c__law_positions | k__law_positions | a__law_part_is | l__law_part_is | c__law_part_is | k__law_part_is | a__law_stands | l__law_stands | c__law_stands | k__law_stands | a__law_name | l__law_name | c__law_name | k__law_name | a__law_done | l__law_done | c__law_done | k__law_done | a__law_found | l__law_found | c__law_found | k__law_found | a__law_deed | l__law_deed | c__law_deed | k__law_deed | a__law_short_of | l__law_short_of | c__law_short_of | k__law_short_of | a__law_struck | l__law_struck | c__law_struck | k__law_struck | a__law_freed | l__law_freed | c__law_freed | k__law_freed | a_law | l_law | c_law | k_law=>k_is)
   (case cq_worst_days=>exact rfl)
   (case lc_worst_days=>k_is)
   (case ve_worst_days=>exact rfl)
   (case bl_=>exact fun s v=>.of_eq rfl)
   (case w_ValueError | w_abs | w_bool | w_enumerate | w_int | w_isinstance | w_len | w_list | w_max | w_min | w_range | w_sorted | w_sum | w_tuple | w_zip=>k_is)
namespace Internal
open PySem PySem.W PySem.Spec PySem.Calls PyProof.Rows
section
variable {H H':Hp}
theorem SameT.lst(e:SameT H H'){a:Addr}{xs:List V}(h:H a=some (.lst xs)):H' a=some (.lst xs):=e.keep _ _ h rfl
theorem SameT.tup(e:SameT H H'){a:Addr}{xs:List V}(h:H a=some (.tup xs)):H' a=some (.tup xs):=e.keep _ _ h rfl
theorem SameT.ins(e:SameT H H'){a C dx:Addr}{fs:List (Str × V)}(h:H a=some (.ins C dx fs)):H' a=some (.ins C dx fs):=e.keep _ _ h rfl
theorem SameT.seq{K:Fg}(e:SameT H H'){a:Addr}{xs:List V}(h:SqL K H a xs):SqL K H' a xs:=by
 rcases h with(h | ⟨o,h⟩) | h
 ·exact .inl (.inl (e.keep _ _ h rfl))
 ·exact .inl (.inr ⟨o,e.keep _ _ h rfl⟩)
 ·exact .inr h
theorem SameT.rows(e:SameT H H'){as:List Addr}{k:Nat}{F:Nat->Nat->Int}(h:Rows H as k F):Rows H' as k F:=⟨h.1,fun i a q=>e.keep _ _ (h.2 i a q) rfl⟩
end
noncomputable def TbW (K:Fg) (x:Str) (pos:Pos) (qual:Str) (H:Hp):Prop:=Tb H (zd9 K x) pos qual
section
variable {K:Fg}{x qual:Str}{pos:Pos}{H H':Hp}
theorem TbW.same(e:Same H H')(h:TbW K x pos qual H):TbW K x pos qual H':=Tb.same h e
theorem TbW.but{l:Addr}(e:LBut l H H')(h:TbW K x pos qual H):TbW K x pos qual H':=Tb.but h e
end
open PySem
noncomputable def zk2 (ds:List Due) (n m:Nat):Nat:=match zf7 ds n m with
 | some j=>match ds[j]? with
  | some d=>d.q.toNat
  | none=>0
 | none=>0
noncomputable def zn9 (ds:List Due) (n m:Nat):Int:=match zf7 ds n m with
 | some j=>j
 | none=>0
set_option genInjectivity false in
set_option genSizeOf false in
structure Walked(ds:List Due)(n:Nat)(ms:List Nat)(x:Nat):Prop where
 nd:ms.Nodup
 ok:∀m∈ms,m<n/\zf7 ds n m≠none
 at':x<n/\zf7 ds n x≠none
 nx:∀(i m:Nat),ms[i]?=some m->zk2 ds n m=(ms++[x])[i+1]?.getD 0
noncomputable def zbX (ms:List Nat):List Int:=ms.map fun m:Nat=>(m:Int)
theorem zd5{ms:List Nat}:(zbX ms).length=ms.length:=by unfold zbX;rw[ya]
noncomputable def Closed (ds:List Due) (S:Nat->Prop):Prop:=∀m,S m->∃d∈ds,d.p=(m:Int)/\0<d.a/\S d.q.toNat
set_option genInjectivity false in
set_option genSizeOf false in
structure Round(ds:List Due)(n:Nat)(ms:List Nat):Prop where
 ne:ms≠[]
 nd:ms.Nodup
 ok:∀m∈ms,m<n/\zf7 ds n m≠none
 nx:∀(i m:Nat),ms[i]?=some m->zk2 ds n m=ms[(i+1)%ms.length]?.getD 0
open PySem PySem.Spec PyProof.Rows
section
variable {X:Cx}
noncomputable def zfR (K:Fg):List V->Hp->VK->Prop:=fun xs H Q=>∃a ns,xs=[.ref a]/\SqL K H a (List.map V.int ns)/\ns≠[]/\∀x,x∈ns->(∀y∈ns,x<=y)->Q (.int x) H
theorem ziF(hc:X.calm=true):CallR X (.builtin "min") (zfR X.K):=by
 intro pins s σ H xs us Q I r h
 obtain⟨a,ns,rfl,hq,hne0,q⟩:=h
 obtain⟨u,rfl,r1⟩:=vals1 r
 cases r1
 obtain⟨its,rv,pl,hl,hlt⟩:=I.walk hq
 refine call_min_walkS (wpAny_pyIter_list pl ?_)
 have hne:a≠s.heap.objs.size:=ym hlt
 have hn:(its.toArray).size=ns.length:=by rw[ya]at hl;simpa using hl
 have hpos:0<ns.length:=List.length_pos_iff.mpr hne0
 refine⟨_,_,_,_,_,_,_,_,rfl,(Walks.list (prog:=X.prog) (w:=X.w) (A:=X.A.in1) (I.ok.hd hc) s.heap.objs.size a hne its.toArray).toS,⟨⟨_,Heap.get?_push_size _ rfl,rfl,rfl⟩,pl.at fun o e=>Heap.get?_push_of_some _ e⟩,fun b hb=>?_,by rw[hn];exact hpos,CmpOf.ints_lt (fun i=>ns.getD i 0) (fun i v hv=>zdi rv hv),fun v s' hv hm=>?_⟩
 ·rw[Heap.size_push]
  simp only[ye,yy,or_false]at hb
  rcases hb with rfl | rfl
  ·exact y3 _
  ·exact yaM hlt
 ·obtain⟨t,rfl⟩:=zdi rv hv
  obtain⟨b1,b2⟩:=argBest_lt (fun i=>ns.getD i 0) (its.toArray.size-1)
  rw[hn]at b1 b2 ⊢
  have hg:s'.gens=s.gens:=by have:=hm.gens;first | exact this | exact this.symm
  have hd:=hm.drawn
  have ho:=hm.os
  have I1:Inv X pins σ H { s with heap:=s'.heap,toks:=s'.toks }:=I.kept fun b o e=>hm.heap b o (fun z=>by
   simp only[ye,yy,or_false]at z
   subst z
   exact absurd (Heap.lt_size e) (yN _)) (Heap.get?_push_of_some _ e)
  have e:({ s with heap:=s'.heap,toks:=s'.toks }:Shared)=s':=by
   cases s';cases s
   simp only at hg hd ho
   subst hg hd ho;rfl
  rw[e]at I1
  refine⟨.int (ns.getD (argBest (fun i j=>decide (ns.getD i 0<ns.getD j 0)) (ns.length-1)) 0),H,I1,⟨t,rfl⟩,q _ ?_ fun y hy=>?_⟩
  ·exact yp (zgA (by omega))
  ·obtain⟨i,hi,ei⟩:=yZ hy
   have:=b2 i (by omega)
   rwa [show ns.getD i 0=y by rw[yh,yq hi,ei];rfl]at this
end
theorem zim{K:Fg}{H:Hp}{Q:VK}{a:Addr}{ns:List Int}(h:SqL K H a (ns.map V.int))(ne:ns≠[])(q:∀x,x∈ns->(∀y∈ns,x<=y)->Q (.int x) H):zfR K [.ref a] H Q:=⟨a,ns,rfl,h,ne,q⟩
noncomputable def zkI (ds:List Due) (n m:Nat):Nat:=(zn9 ds n m).toNat
noncomputable def zox (g:Nat->Int) (js:List Nat) (f:Int) (i:Nat):Int:=if i∈js then g i-f else g i
set_option genInjectivity false in
set_option genSizeOf false in
structure CutAt(es:List Due)(n:Nat)(g:Nat->Int)(ms:List Nat)(f:Int)(g':Nat->Int):Prop where
 rd:Round (zfV es g) n ms
 le:∀m∈ms,f<=g (zkI (zfV es g) n m)
 at':∃m∈ms,f=g (zkI (zfV es g) n m)
 eq:∀i,g' i=zox g (ms.map (zkI (zfV es g) n)) f i
section
variable {es:List Due}{n:Nat}{g g':Nat->Int}{ms:List Nat}{f:Int}
end
section
variable {es:List Due}{n:Nat}{L:Nat->Nat->Int}{cs:List (List Nat × Int)}
end
section
variable {es:List Due}{n:Nat}{L L':Nat->Nat->Int}{cs:List (List Nat × Int)}{bad:List Addr}{H H':Hp}{vs:List V}
end
section
variable {K:Fg}{σ:St}{H:Hp}{Q:VK}{D:Ends}{a C dx:Addr}{fs:List (Str × V)}{f m:Str}
noncomputable def zhA (K:Fg) (f:Str) (Q:VK) (x:V) (H:Hp):Prop:=∃a C dx fs v,x=.ref a/\H a=some (.ins C dx fs)/\Cls K C/\NoAttr K C f/\fs.lookup f=some v/\Q v H
theorem zny{ta:TE}(q:ta σ H (zhA K f Q)):z3 K ta f σ H Q:=q
theorem zi2{v:V}(h:H a=some (.ins C dx fs))(c:Cls K C)(n:NoAttr K C f)(l:fs.lookup f=some v)(q:Q v H):zhA K f Q (.ref a) H:=⟨a,C,dx,fs,v,rfl,h,c,n,l,q⟩
noncomputable def zkN (K:Fg) (f:Str) (R:Hp->Prop) (y x:V) (H:Hp):Prop:=∃a C dx fs,x=.ref a/\H a=some (.ins C dx fs)/\Cls K C/\NoAttr K C f/\fs.length<1000/\R (upd H a (.ins C dx (zae f y fs)))
theorem zno{ta tv:TE}(q:tv σ H fun y H1=>ta σ H1 (zkN K f (D.nx σ) y)):zbe K ta tv f D σ H:=q
theorem zaD{R:Hp->Prop}{y:V}(h:H a=some (.ins C dx fs))(c:Cls K C)(n:NoAttr K C f)(hl:fs.length<1000)(q:∀H',But a H H'->H' a=some (.ins C dx (zae f y fs))->R H'):zkN K f R y (.ref a) H:=
 ⟨a,C,dx,fs,rfl,h,c,n,hl,q _ But.upd zH⟩
noncomputable def zfT (C:Addr) (m:Str) (sp:Sp) (E:XK) (t:TA) (σ:St) (Q:VK) (x:V) (H:Hp):Prop:=∃a dx fs,x=.ref a/\H a=some (.ins C dx fs)/\fs.lookup m=none/\t σ H fun vs H2=>sp (x :: (vs++[])) H2 Q E
theorem zmj{sp:Sp}{E:XK}{ta:TE}{t:TA}(q:ta σ H (zfT C m sp E t σ Q)):zkS C m sp [] E ta t σ H Q:=q
theorem zg9{sp:Sp}{E:XK}{t:TA}(h:H a=some (.ins C dx fs))(l:fs.lookup m=none)(q:t σ H fun vs H2=>sp (.ref a :: vs) H2 Q E):zfT C m sp E t σ Q (.ref a) H:=by
 refine⟨a,dx,fs,rfl,h,l,?_⟩
 simp only[yQ]
 exact q
noncomputable def zkU (C:Addr) (sp:Sp) (E:XK) (Q:VK) (vs:List V) (H1:Hp):Prop:=∀x dx,H1 x=none->H1 dx=none->dx≠x->sp (.ref x :: (vs++[])) (upd (upd H1 dx (.own x)) x (.ins C dx [])) (fun v H2=>v=.non/\Q (.ref x) H2) E
theorem zmN{sp:Sp}{E:XK}{t:TA}(q:t σ H (zkU C sp E Q)):zkV C sp [] E t σ H Q:=q
theorem zg1{sp:Sp}{E:XK}{vs:List V}(q:∀x dx H',H x=none->Same H H'->H' x=some (.ins C dx [])->sp (.ref x :: vs) H' (fun v H2=>v=.non/\Q (.ref x) H2) E):zkU C sp E Q vs H:=fun x dx hx hd ne=>by
 rw[yQ]
 exact q x dx _ hx ((Same.new hd _).trans (Same.new (by rw[zG ne.symm];exact hx) _)) zH
end
noncomputable def zm0 (C:Addr) (m:Str) (sp:Sp) (t:TA) (σ:St) (Q:VK) (Eh:Addr->Hp->Prop) (x:V) (H:Hp):Prop:=∃a dx fs,x=.ref a/\H a=some (.ins C dx fs)/\fs.lookup m=none/\t σ H fun vs H2=>sp (x :: vs) H2 Q fun cls _ H3=>∃C',cls=.ref C'/\Eh C' H3
abbrev zoB(C:Addr)(m:Str)(sp:Sp)(ta:TE)(t:TA):TEr:=fun σ H Q Eh=>ta σ H (zm0 C m sp t σ Q Eh)
theorem zhh{K:Fg}{a:Addr}{xs:List V}:Src (Itt K a) (fun H=>SqT K H a xs) xs.length (fun i x _=>xs[i]?=some x):=
 ⟨fun i H h hi=>by obtain⟨x,hx⟩:=zN hi;exact⟨xs,x,h,hx⟩,fun H h=>⟨xs,h,yf _⟩,fun i H x H' h hi ⟨q,r⟩=>by subst q;exact⟨Same.refl _,r xs h⟩⟩
noncomputable def zmz (K:Fg) (R:It->Hp->Prop) (x:V) (H:Hp):Prop:=∃a,x=.ref a/\(∃xs,SqT K H a xs)/\R (Itt K a) H
theorem zn0{K:Fg}{σ:St}{H:Hp}{R:It->Hp->Prop}{tl:TE}(q:tl σ H (zmz K R)):zhF K tl σ H R:=q
theorem ziX{K:Fg}{H:Hp}{R:It->Hp->Prop}{a:Addr}{xs:List V}(h:SqT K H a xs)(q:R (Itt K a) H):zmz K R (.ref a) H:=⟨a,rfl,⟨xs,h⟩,q⟩
theorem zmS{K:Fg}{H:Hp}{Q:VK}{a:Addr}{xs:List V}{lo hi:Option Int}(h:H a=some (.tup xs))(hw:¬(HT.sIx xs.length 0 lo=0/\HT.sIx xs.length xs.length hi=xs.length))(q:∀p H',H p=none->Same H H'->H' p=some (.tup (zbn xs lo hi))->Q (.ref p) H'):zjQ K (.ref a) lo hi H Q:=
 ⟨a,xs,rfl,.of h,hw,fun p hp=>q p _ hp (Same.new hp _) zH⟩
theorem zmQ{K:Fg}{H:Hp}{Q:VK}{a b:Addr}{xs ys:List V}(h:H a=some (.tup xs))(h':H b=some (.tup ys))(hx:xs≠[])(hy:ys≠[])(hz:xs.length+ys.length<=100000)(q:∀p H',H p=none->Same H H'->H' p=some (.tup (xs++ys))->Q (.ref p) H'):zF K (.ref a) (.ref b) H Q:=
 .inr (.inr ⟨a,b,xs,ys,rfl,rfl,.of h,.of h',hx,za7 hz,fun z=>absurd z hy,fun _ p hp=>q p _ hp (Same.new hp _) zH⟩)
theorem zn4{K:Fg}{H:Hp}{Q:VK}{x y:Str}(q:Q (.bl (decide (x=y))) H):zX K (.str x) (.str y) H Q:=.inr ⟨rfl,by rw[show decide (V.str x=V.str y)=decide (x=y) by simp];exact q⟩
noncomputable def zeg (K:Fg) (vs:List V) (H:Hp) (Q:VK):Prop:=∃(a:Addr) (ns:List Int),vs=[.ref a]/\SqL K H a (ns.map V.int)/\ns.length<64/\∀l ms,H l=none->List.Perm ms ns->ms.Pairwise (·≥·)->Q (.ref l) (upd H l (.lst (ms.map V.int)))
theorem zh5{X:Cx}{p pos kp cp:Pos}{e:Expr}{ta:TA}(hg:Gl X "sorted")(hm:X.mg "sorted" = none)(hv:bootBuiltins "sorted" = some (.builtin "sorted"))(ha:PA X [e] ta)(he:autoParam (backTo pos (starEach [e] X.env)=(false,eval e X.env) :: backTo pos (starEach [] X.env)) Internal.aut2._auto_1)
  (hplain:autoParam ((backTo pos (starEach [e] X.env)).any (·.1)=false) Internal.aut2._auto_1) {kn:Nat}:PE X (.Call (.Name "sorted" p) [e] [⟨some "reverse",.Constant (.bool true) kn cp,kp⟩] pos) (tCB (zeg X.K) ta):=by
 intro pins s σ H Q I h
 refine wpAny_Call_Name_kw (zbT I hg hm hv ?_ (by decide) (by decide))
 refine PyProof.Rows.callWith_kw ?_ he hplain
 refine thn (ha pos pins s σ H _ I h) fun us s1 zz=>?_
 obtain⟨vs,H1,I1,r,q⟩:=zz
 obtain⟨a,ns,rfl,hq,hl,q⟩:=q
 obtain⟨u,rfl,r1⟩:=vals1 r
 cases r1
 refine thn (zhf (t:=ze0) (nm:=some "reverse") (kpos:=kp) (za4 (X:=X)) ziq pos pins s1 σ H1 (fun ws H2=>ws=[.bl true]/\H2=H1) I1 ⟨rfl,rfl⟩) fun kvs s2 zz=>?_
 obtain⟨ws,H2,I2,rw2,e1,e2⟩:=zz
 subst e1;subst e2
 obtain⟨u2,rfl,r3⟩:=vals1 rw2
 cases(show u2=Value.bool true from r3)
 obtain⟨its,rv,pl,hil,hlt⟩:=I2.walk hq
 rw[ya]at hil
 refine sorted_ints_rev (vs:=its) (b:=true) pl (zhV rv) (by omega) fun out ms hI hp hs=>?_
 obtain⟨e,he⟩:=sortedAll_at s2.heap its out
 have hv:=zdh hI
 have hml:ms.length=ns.length:=hp.length_eq
 have J:Inv X pins σ (upd H2 (s2.heap.objs.size+1) (.lst (ms.map V.int))) { s2 with heap:=sortedAll s2.heap its out,toks:=s2.toks }:=I2.laid (fun b o z=>sortedAll_old z) (Nat.le_succ _) ⟨by rw[ya];exact za7 (by omega),out.toList,e,hv,he⟩
 exact⟨.ref (s2.heap.objs.size+1),_,J,rfl,q _ ms (I2.hok.fresh (Nat.le_succ _)) hp hs⟩
theorem zlz{K:Fg}{H:Hp}{Q:VK}{a:Addr}{ns:List Int}(h:SqL K H a (ns.map V.int))(hl:ns.length<64)(q:∀l ms H',H l=none->Same H H'->List.Perm ms ns->ms.Pairwise (·≥·)->H' l=some (.lst (ms.map V.int))->Q (.ref l) H'):zeg K [.ref a] H Q:=
 ⟨a,ns,rfl,h,hl,fun l ms hn p s=>q l ms _ hn (Same.new hn _) p s zH⟩
end Internal
namespace My
noncomputable def mn (i j:Int):Int:=if j<i then j else i
noncomputable def lvS (b:Nat->Int) (L:Int) (n:Nat):Int:=sumTo (fun i=>mn (b i) L) n
set_option genInjectivity false in
set_option genSizeOf false in
structure IsLev(c:Int)(n:Nat)(b:Nat->Int)(L:Int):Prop where
 lo:lvS b L n<=c
 hi:c<lvS b (L+1) n
noncomputable def lev (c:Int) (n:Nat) (b:Nat->Int):Int:=Classical.epsilon fun L=>IsLev c n b L
noncomputable def levelF (c:Int) (n:Nat) (b:Nat->Int):Nat->Int:=
 if c=sumTo b n then b else more (fun i=>decide (b i>lev c n b)) (fun i=>mn (b i) (lev c n b)) (c-lvS b (lev c n b) n)
set_option genInjectivity false in
set_option genSizeOf false in
structure LevelOk(c:Int)(n:Nat)(b f:Nat->Int):Prop where
 sum:sumTo f n=c
 lo:∀i,i<n->0<=f i
 hi:∀i,i<n->f i<=b i
 lev:(∀i,i<n->f i=b i)\/∃L,(∃i,i<n/\f i=L/\L<b i)/\∀i,i<n->(b i<=L->f i=b i)/\(L<b i->f i=L\/f i=L+1)/\∀j,j<i->L<b j->f j=L->L<b i->f i=L
noncomputable def zmO:List Int->Int
 | []=>0
 | x :: xs=>x+zmO xs
set_option genInjectivity false in
set_option genSizeOf false in
structure LvInv(c:Int)(ms:List Int)(i:Nat)(r:Int):Prop where
 rest:r=c-zmO (ms.take i)
 below:∀x∈ms.take i,x*((ms.length:Int)-(i:Int))<=r
end My
namespace Internal
open PySem PySem.Spec PyProof.Rows
section
variable {H:Hp}{Q:VK}{K:Fg}
theorem ze8{w:Str}:∀ws:List Str,inV (.str w) (ws.map V.str)=decide (w∈ws)
 | []=>by simp[inV]
 | n :: ns=>by
  have ih:=ze8 (w:=w) ns
  unfold inV at ih ⊢
  rw[yH,List.any_cons,ih]
  show((n == w) || _)=_
  by_cases h:n=w
  ·subst h;simp
  ·have:¬w=n:=fun z=>h z.symm
   simp[h,this]
theorem zc7:∀ws:List Str,(ws.map V.str).all zbQ=true
 | []=>rfl
 | w :: ws=>by rw[yH,yav,zc7 ws];rfl
theorem zfY{a:Addr}{ws:List Str}{w:Str}(h:SqT K H a (ws.map V.str))(q:Q (.bl (!decide (w∈ws))) H):rIn K true (.str w) (.ref a) H Q:=
 ⟨a,_,rfl,.inr h,rfl,zc7 ws,by rw[if_pos rfl,ze8];exact q⟩
theorem zmB{a:Addr}{ws:List Str}{w:Str}(h:SqL K H a (ws.map V.str))(q:Q (.bl (decide (w∈ws))) H):rIn K false (.str w) (.ref a) H Q:=
 ⟨a,_,rfl,.inl h,rfl,zc7 ws,by rw[if_neg yj,ze8];exact q⟩
end
theorem zgs{xs:List V}{k:Nat}:zbn xs none (some (k:Int))=xs.take k:=by
 unfold zbn
 have e:HT.sIx xs.length xs.length (some (k:Int))=min k xs.length:=by
  show(if(k:Int)<0 then((k:Int)+(xs.length:Int)).toNat else min (k:Int).toNat xs.length)=_
  rw[if_neg (by omega)];rfl
 rw[e,HT.sIx_none,List.drop_zero,Nat.sub_zero]
 exact List.take_eq_take_min.symm
theorem zld{ws:List Str}{i:Nat}{v:V}(h:(ws.map V.str)[i]?=some v):∃w,ws[i]?=some w/\v=.str w:=by
 rw[yg]at h
 cases hw:ws[i]? with
 | none=>rw[hw]at h;cases h
 | some w=>rw[hw]at h;exact⟨w,rfl,(yn h).symm⟩
theorem zkd{ws:List Str}{i:Nat}{w:Str}(nd:ws.Nodup)(h:ws[i]?=some w):w∉ws.take i:=fun hm=>by
 obtain⟨hi,ei⟩:=yl.mp h
 obtain⟨j,hj,ej⟩:=yZ hm
 rw[yU]at hj
 rw[List.getElem_take]at ej
 exact List.pairwise_iff_getElem.mp nd j i (by omega) hi (by omega) (ej.trans ei.symm)
noncomputable def words5:List Str:=["pledge", "share", "own", "others", "level"]
noncomputable def zjY (S:Nat->Int) (W:Nat->Bool):Nat->Int:=fun i=>if W i=true then S i else 0
noncomputable def znh (n:Nat) (R S:Nat->Int) (W:Nat->Bool):Int:=My.mn (My.sumTo (zjY S W) n) (My.sumTo R n)
noncomputable def zjB (w:Str) (n:Nat) (R P S:Nat->Int) (W:Nat->Bool):Nat->Int:=
 if w = "pledge" then fun i=>My.mn (R i) (P i)else if w = "share" then fun i=>My.mn (R i) (S i)else if w = "own" then fun _=>0
 else if w = "others" then zjm (znh n R S W) n (zjY S W)else My.levelF (znh n R S W) n (zjY S W)
noncomputable def zmd (w:Str) (n:Nat) (R:Nat->Int) (own:Int):Int:=if w = "own" then My.mn own (My.sumTo R n)else 0
noncomputable def zos (w:Str) (n:Nat) (R P S:Nat->Int) (own:Int) (W:Nat->Bool):Nat->Int:=
 if w = "pledge" \/ w = "share" then zjB w n R P S W else zjm (My.sumTo (zjB w n R P S W) n+zmd w n R own) n R
set_option genInjectivity false in
set_option genSizeOf false in
structure LRow where
 w:Str
 f:Nat->Int
 x:Int
 gv:Nat->Int
noncomputable def zkr (n:Nat) (G P:Nat->Int) (own:Int) (w:Str) (R S:Nat->Int):LRow:=⟨w,zjB w n R P S (fun i=>decide (G i=0)),zmd w n R own,zos w n R P S own (fun i=>decide (G i=0))⟩
noncomputable def znF (r:LRow) (R:Nat->Int):Nat->Int:=fun i=>R i-r.gv i
noncomputable def znX (r:LRow) (S:Nat->Int):Nat->Int:=if r.w∈(["share", "others", "level"]:List Str)then fun i=>S i-r.f i else S
noncomputable def lays (n:Nat) (G P:Nat->Int) (own:Int) (ws:List Str) (S0:Nat->Int):Nat->(Nat->Int) × (Nat->Int)
 | 0=>(G,S0)
 | i+1=>(znF (zkr n G P own (ws.getD i "") (lays n G P own ws S0 i).1 (lays n G P own ws S0 i).2) (lays n G P own ws S0 i).1,znX (zkr n G P own (ws.getD i "") (lays n G P own ws S0 i).1 (lays n G P own ws S0 i).2) (lays n G P own ws S0 i).2)
noncomputable def zoE (n:Nat) (G P:Nat->Int) (own:Int) (ws:List Str) (S0:Nat->Int) (i:Nat):LRow:=zkr n G P own (ws.getD i "") (lays n G P own ws S0 i).1 (lays n G P own ws S0 i).2
noncomputable def LRs (H:Hp) (n:Nat) (row:Nat->LRow) (tr:List (Addr × Addr × Addr)):Prop:=∀(i:Nat) (t:Addr × Addr × Addr),tr[i]?=some t ->
 H t.1=some (.tup [.str (row i).w,.ref t.2.1,.ref t.2.2])/\H t.2.1=some (.lst ((vec n (row i).gv).map V.int))/\H t.2.2=some (.lst ((vec n (row i).f++[(row i).x]).map V.int))
noncomputable def zem (tr:List (Addr × Addr × Addr)):List Addr:=tr.flatMap fun t=>[t.2.1,t.2.2]
set_option genInjectivity false in
set_option genSizeOf false in
structure LTold(H H':Hp)(n:Nat)(row:Nat->LRow)(rests:Nat->Int)(m:Nat)(p rs re:Addr)(tr:List (Addr × Addr × Addr)):Prop where
 same:Same H H'
 hp:H' p=some (.tup [.ref rs,.ref re])
 hrs:H' rs=some (.lst (tr.map fun t=>V.ref t.1))
 hre:H' re=some (.lst ((vec n rests).map V.int))
 len:tr.length=m
 rows:LRs H' n row tr
 fre:H re=none
 frs:H rs=none
 ffl:∀a∈zem tr,H a=none
 nd:(zem tr).Nodup
 nre:re∉zem tr
 nrs:rs∉zem tr
 ne:rs≠re
set_option genInjectivity false in
set_option genSizeOf false in
structure LT(H:Hp)(n:Nat)(row:Nat->LRow)(rests:Nat->Int)(m:Nat)(p rs re:Addr)(tr:List (Addr × Addr × Addr)):Prop where
 hp:H p=some (.tup [.ref rs,.ref re])
 hrs:H rs=some (.lst (tr.map fun t=>V.ref t.1))
 hre:H re=some (.lst ((vec n rests).map V.int))
 len:tr.length=m
 rows:LRs H n row tr
set_option genInjectivity false in
set_option genSizeOf false in
structure LMore(H H':Hp)(n:Nat)(row:Nat->LRow)(tr:List (Addr × Addr × Addr))(i:Nat):Prop where
 tup:∀c xs,H c=some (.tup xs)->H' c=some (.tup xs)
 keep:∀c o,c∉zem tr->H c=some o->H' c=some o
 rows:∀(j:Nat) (t:Addr × Addr × Addr),tr[j]?=some t->H' t.2.1=some (.lst ((vec n (row j).gv++if j<i then[3] else[]).map V.int))/\H' t.2.2=some (.lst ((vec n (row j).f++[(row j).x]++if j<i then[3] else[]).map V.int))
noncomputable def Bef (L:Nat->Int) (i j:Nat):Prop:=L j<L i\/(L i=L j/\i<j)
set_option genInjectivity false in
set_option genSizeOf false in
structure Line(L:Nat->Int)(n:Nat)(q:List Nat):Prop where
 perm:q.Perm (List.range n)
 up:∀a b,a<=b->b<n->-L (q.getD a 0)*64+(q.getD a 0:Int)<=-L (q.getD b 0)*64+(q.getD b 0:Int)
section
variable {L:Nat->Int}{n:Nat}{q:List Nat}
theorem Line.len(h:Line L n q):q.length=n:=by have:=h.perm.length_eq;rwa [y6]at this
theorem Line.lt(h:Line L n q){i:Nat}(hi:i∈q):i<n:=y8.mp (h.perm.mem_iff.mp hi)
theorem Line.getLt(h:Line L n q)(hn:0<n)(a:Nat):q.getD a 0<n:=by
 rw[yh]
 cases e:q[a]? with
 | none=>exact hn
 | some i=>exact h.lt (yp e)
theorem Line.nd(h:Line L n q):q.Nodup:=h.perm.nodup_iff.mpr List.nodup_range
theorem Line.bef(h:Line L n q)(hn:n<=64){a b:Nat}(hab:a<b)(hb:b<n):Bef L (q.getD a 0) (q.getD b 0):=by
 have h1:=h.up a b (by omega) hb
 have l1:=h.getLt (by omega) a
 have l2:=h.getLt (by omega) b
 have ne:q.getD a 0≠q.getD b 0:=by
  have ha':a<q.length:=by rw[h.len];omega
  have hb':b<q.length:=by rw[h.len];omega
  rw[yh,yh,yq ha',yq hb']
  intro z
  have z':q[a]=q[b]:=z
  have:=zcl h.nd (yq ha') (by rw[yq hb',z'])
  omega
 unfold Bef
 generalize L (q.getD a 0)=x at *
 generalize L (q.getD b 0)=y at *
 omega
end
theorem zlc{q:List Nat}{i:Nat}(h:i<q.length):(zbX q)[i]?=some ((q.getD i 0:Nat):Int):=by
 unfold zbX
 rw[yg,yh,yq h];rfl
theorem zix{q:List Nat}{k:Nat}:(zbX q).take k=zbX (q.take k):=by unfold zbX;rw[List.map_take]
theorem zfw{ms:List Int}{k:Nat}:zbn (ms.map V.int) none (some (k:Int))=(ms.take k).map V.int:=by rw[zgs,List.map_take]
theorem zoh{ta:TA}{tb:TE}{j:Nat}{T:Addr}{lpos:Pos}{qu:Str}{σ:St}{H:Hp}{Q:VK} (h:ta σ H fun vs H1=>Tb H1 T lpos qu/\∃(r:Addr) (n:Nat) (u:V) (g:Nat->Int),vs=[.ref r]/\H1 r=some (.rng 0 (n:Int))/\1<=n/\n<64/\σ[j]?=some (some u) /\
 (∀(i:Nat) H2,i<n->SameT H1 H2->tb [some (.int (i:Int)),some u] H2 (fun v H3=>∃t,v=.ref t/\Same H2 H3/\H3 t=some (.tup [.int (g i),.int (i:Int)]))) /\
 ∀l (p:List Nat) H3,H1 l=none->SameT H1 H3->Tb H3 T lpos qu->p.Perm (List.range n)->(∀a b,a<=b->b<n->g (p.getD a 0)*64+(p.getD a 0:Int)<=g (p.getD b 0)*64+(p.getD b 0:Int))->H3 l=some (.lst (p.map fun i:Nat=>V.int (i:Int)))->Q (.ref l) H3):tSK ta tb j T lpos qu σ H Q:=h
noncomputable def ze9 (K:Fg) (lP:Pos) (lQ:Str):Sp:=fun vs H Q _=>∃(p l:Addr) (as:List Addr) (k:Nat) (f:Nat->Int) (F:Nat->Nat->Int) (m n:Int),vs=[.ref p,.ref l,.int n]/\H p=some (.lst ((vec k f).map V.int))/\H l=some (.lst (as.map V.ref))/\Rows H as k F/\Within m k f/\WithinR m as.length k F/\m<=999999999999/\k<=1000/\1<=as.length/\as.length<64/\0<=n/\TbW K "worst_days" lP lQ H /\
 ∀r H' q,H r=none->SameT H H'->TbW K "worst_days" lP lQ H'->Line (fun i=>zag k f (F i)) as.length q->H' r=some (.lst ((zbX (q.take n.toNat)).map V.int))->Q (.ref r) H'
def zjt:=fun {K:Fg} {lP:Pos} {lQ:Str} {p l:Addr} {as:List Addr} {k:Nat} {f:Nat->Int} {F:Nat->Nat->Int} {m n:Int} {H:Hp} {Q:VK} {E:XK} h1 h2 h3 h4 h5 hm hk hl hl' hn hT q=>@id (ze9 K lP lQ [.ref p,.ref l,.int n] H Q E) ⟨p,l,as,k,f,F,m,n,rfl,h1,h2,h3,h4,h5,hm,hk,hl,hl',hn,hT,q⟩
noncomputable def lsum (g:Nat->Int):List Nat->Int
 | []=>0
 | d :: S=>g d+lsum g S
theorem zgw{g:Nat->Int}:∀{S M:List Nat},lsum g (S++M)=lsum g S+lsum g M
 | [],M=>by show lsum g M=0+_;omega
 | d :: S,M=>by show g d+lsum g (S++M)=g d+lsum g S+_;rw[zgw];omega
theorem zfa{f g:Nat->Int}:∀{S:List Nat},(∀d∈S,f d<=g d)->lsum f S<=lsum g S
 | [],_=>yW _
 | d :: S,h=>by
  have h1:=h d (.head _)
  have h2:=zfa (S:=S) fun x hx=>h x (.tail _ hx)
  show f d+_<=g d+_;omega
theorem zeP{v:Int}:∀{S:List Nat},lsum (fun _=>v) S=(S.length:Int)*v
 | []=>by rw[List.length_nil];show(0:Int)=(0:Int)*v;rw[Int.zero_mul]
 | d :: S=>by
  show v+lsum _ S=((S.length+1:Nat):Int)*v
  rw[zeP,Int.natCast_add,Int.add_mul]
  show v+_=_+1*v
  omega
section
variable {L:Nat->Int}{n:Nat}{q:List Nat}
theorem Line.mono(h:Line L n q)(hn:n<=64){a b:Nat}(hab:a<=b)(hb:b<n):L (q.getD b 0)<=L (q.getD a 0):=by
 rcases Nat.lt_or_eq_of_le hab with e | e
 ·have:=h.bef hn e hb
  unfold Bef at this
  omega
 ·rw[e];exact yW _
theorem zdu(L:Nat->Int)(q:List Nat):∀k,k<=q.length->lsum L (q.take k)=My.sumTo (fun i=>L (q.getD i 0)) k
 | 0,_=>by rw[List.take_zero];rfl
 | k+1,h=>by
  rw[List.take_succ,zgw,zdu L q k (by omega),yq (by omega)]
  show _+(L q[k]+0)=_+L (q.getD k 0)
  rw[yh,yq (by omega)]
  show _+(L q[k]+0)=_+L q[k]
  omega
end
noncomputable def zbZ (m:Bool) (L:Nat->Int) (q:List Nat) (k:Nat):Rat:=if m then Rat.divInt (lsum L (q.take k)) (k:Int) else((L (q.getD (k-1) 0):Int):Rat)
noncomputable def pos0 (r:Rat):Rat:=if 0<r then r else 0
section
variable {L L1 Internal':Nat->Int}{n k:Nat}{q q1 q2:List Nat}
theorem Line.ltT(h:Line L n q):∀d∈q.take k,d<n:=fun d hd=>h.lt (List.mem_of_mem_take hd)
theorem Line.lenT(h:Line L n q)(hk:k<=n):(q.take k).length=k:=by rw[yU,h.len];omega
end
section
variable {X:Cx}{tg:Expr}
end
noncomputable def zmZ (f:Nat->Int):Nat->Int
 | 0=>0
 | r+1=>zmZ f r+f r
noncomputable def zii (f:Nat->Int) (q:Rat) (r:Nat):Prop:=q.num<zmZ f (r+1)*(q.den:Int)
instance (f:Nat->Int) (q:Rat) (r:Nat):Decidable (zii f q r):=inferInstanceAs (Decidable (_<_))
noncomputable def zkL (f:Nat->Int) (q:Rat):Nat->Option Nat
 | 0=>none
 | k+1=>match zkL f q k with
  | some r=>some r
  | none=>if zii f q k then some k else none
abbrev zoz(ds:List Due)(qs:List Rat):List V:=zoi qs.length fun m=>zkL (znT ds m) (qs.getD m 0) 3
section
variable {f:Nat->Int}{q:Rat}
end
theorem zlN(q:Rat):My.gc (if q.num<0 then -q.num else q.num) (q.den:Int)=1:=by
 have h:=My.gc_abs q.num (q.den:Int)
 rw[if_neg (show ¬((q.den:Int)<0) by omega)]at h
 rw[h]
 have:=q.reduced
 unfold My.gc
 show((Nat.gcd q.num.natAbs (q.den:Int).natAbs:Nat):Int)=1
 rw[Int.natAbs_natCast]
 exact congrArg _ this
set_option genInjectivity false in
set_option genSizeOf false in
structure PayOk(ds:List Due)(g:Due->Rat):Prop where
 nn:∀d∈ds,0<=g d
 le:∀d∈ds,g d<=((d.a:Int):Rat)
 sz:∀d∈ds,SzQ (g d) 1000 1000
 am:∀d∈ds,0<=d.a/\d.a<=100000000000000
section
variable {ds:List Due}{qs:List Rat}
end
theorem zef{m:Int}{f g:Nat->Int}(hm:m<=999999999999):∀{k:Nat},Within m k f->Within m k g->-((k:Int)*1000000000000000000000000)<=zag k f g/\zag k f g<=(k:Int)*1000000000000000000000000
 | 0,_,_=>by
  show -((0:Int)*_)<=0/\(0:Int)<=(0:Int)*_
  omega
 | k+1,h1,h2=>by
  have ih:=zef hm (k:=k) (fun j hj=>h1 j (by omega)) (fun j hj=>h2 j (by omega))
  obtain⟨a1,a2⟩:=h1 k (by omega)
  obtain⟨b1,b2⟩:=h2 k (by omega)
  have c:(f k*g k).natAbs<=1000000000000*1000000000000:=by
   rw[Int.natAbs_mul]
   exact Nat.mul_le_mul (by omega) (by omega)
  rw[zeD]
  generalize f k*g k=y at *
  omega
theorem zlY{L:Nat->Int}{B:Int}{S:List Nat}(h:∀d∈S,-B<=L d/\L d<=B):-((S.length:Int)*B)<=lsum L S/\lsum L S<=(S.length:Int)*B:=by
 have h1:=zfa (f:=L) (g:=fun _=>B) (S:=S) fun d hd=>(h d hd).2
 have h2:=zfa (f:=fun _=>-B) (g:=L) (S:=S) fun d hd=>(h d hd).1
 rw[zeP]at h1 h2
 rw[Int.mul_neg]at h2
 exact⟨h2,h1⟩
theorem zmy{mn:Bool}{L:Nat->Int}{q:List Nat}{n k:Nat}(h:Line L n q)(hk:0<k)(hkn:k<=n)(hn:n<64)(hB:∀d,d<n->-9000000000000000000000000<=L d/\L d<=9000000000000000000000000):SzQ (zbZ mn L q k) 100 10:=by
 unfold zbZ
 cases mn
 ·rw[if_neg (by decide)]
  have:=hB _ (h.getLt (by omega) (k-1))
  exact⟨zbc (by show(L (q.getD (k-1) 0)).natAbs<2 ^ 100;omega),zbc (by show(1:Int).natAbs<2 ^ 10;decide)⟩
 ·rw[if_pos rfl]
  have hb:=zlY (S:=q.take k) fun d hd=>hB d (h.ltT d hd)
  rw[h.lenT hkn]at hb
  have h1:(k:Int)*9000000000000000000000000<=64*9000000000000000000000000:=yK (by omega) (by decide)
  exact zlJ (by omega) (zbc (by omega)) (zbc (by omega))
theorem zg0{r:Rat}{a b:Nat}(h:SzQ r a b)(hb:1<=b):SzQ (pos0 r) a b:=by
 unfold pos0
 split
 ·exact h
 ·exact⟨zbc (by show(0:Int).natAbs<_;exact Nat.two_pow_pos _),yb (zbc (n:=1) (by show(1:Int).natAbs<2 ^ 1;decide)) hb⟩
theorem nump{q:Rat}:0<q.num↔0<q:=by
 constructor
 ·intro h
  have h1:0<=q:=Rat.num_nonneg.mp (yak h)
  have h2:q≠0:=fun z=>by rw[z]at h;exact absurd h (by decide)
  grind
 ·intro h
  have h1:0<=q.num:=Rat.num_nonneg.mpr (Rat.le_of_lt h)
  have h2:q.num≠0:=fun z=>by rw[Rat.num_eq_zero.mp z]at h;exact absurd h (by decide)
  omega
noncomputable def zbh (w:Str) (c:Int) (n:Nat):Prop:=(w = "worst" \/ w = "mean")/\1<=c/\c<=n
noncomputable def zga (K:Fg) (C:Addr):Sp:=fun vs H Q E=>∃(ru l:Addr) (w:Str) (c:Int) (xs:List V),vs=[.ref ru,.ref l]/\H ru=some (.tup [.str w,.int c])/\H l=some (.lst xs)/\(zbh w c xs.length->∀H',Same H H'->Q .non H')/\(¬zbh w c xs.length->∀H',Same H H'->E (.ref C) none H')
def zeB:=fun {K:Fg} {C ru l:Addr} {w:Str} {c:Int} {xs:List V} {H:Hp} {Q:VK} {E:XK} h1 h2 q1 q2=>@id (zga K C [.ref ru,.ref l] H Q E) ⟨ru,l,w,c,xs,rfl,h1,h2,q1,q2⟩
set_option genInjectivity false in
set_option genSizeOf false in
structure NeedIn(K:Fg)(lP:Pos)(lQ:Str)(H:Hp)(p l:Addr)(as:List Addr)(k:Nat)(f:Nat->Int)(F:Nat->Nat->Int)(m:Int):Prop where
 pos:H p=some (.lst ((vec k f).map V.int))
 mov:H l=some (.lst (as.map V.ref))
 rows:Rows H as k F
 w1:Within m k f
 w2:WithinR m as.length k F
 hm:m<=999999999999
 hk:k<=9
 n1:1<=as.length
 n2:as.length<64
 tb:TbW K "worst_days" lP lQ H
noncomputable def z9 (w:Str) (L:Nat->Int) (q:List Nat) (c:Int):Rat:=pos0 (zbZ (decide (w = "mean")) L q c.toNat)
noncomputable def zjc (K:Fg) (C:Addr) (lP:Pos) (lQ:Str):Sp:=fun vs H Q E=>∃(ru p l:Addr) (w:Str) (c:Int) (as:List Addr) (k:Nat) (f:Nat->Int) (F:Nat->Nat->Int) (m:Int),vs=[.ref ru,.ref p,.ref l]/\H ru=some (.tup [.str w,.int c])/\NeedIn K lP lQ H p l as k f F m /\
 (zbh w c as.length->∀r H' q,SameT H H'->TbW K "worst_days" lP lQ H'->Line (fun i=>zag k f (F i)) as.length q->IsQ H' r (z9 w (fun i=>zag k f (F i)) q c)->SzQ (z9 w (fun i=>zag k f (F i)) q c) 100 10->Q (.ref r) H') /\
 (¬zbh w c as.length->∀H',Same H H'->E (.ref C) none H')
def zgb:=fun {K:Fg} {C:Addr} {lP:Pos} {lQ:Str} {ru p l:Addr} {w:Str} {c:Int} {as:List Addr} {k:Nat} {f:Nat->Int} {F:Nat->Nat->Int} {m:Int} {H:Hp} {Q:VK} {E:XK} h1 h2 h3 q=>@id (zjc K C lP lQ [.ref ru,.ref p,.ref l] H Q E) ⟨ru,p,l,w,c,as,k,f,F,m,rfl,h1,h2,fun _=>q,fun z=>absurd h3 z⟩
theorem zma(q:Rat):((q.num:Int):Rat)=q*(((q.den:Nat):Int):Rat):=by
 have hne:(((q.den:Nat):Int):Rat)≠0:=fun z=>by
  have h1:((q.den:Nat):Int)=0:=by exact_mod_cast z
  have:=zhk q
  omega
 have e1:((q.num:Int):Rat)/(((q.den:Nat):Int):Rat)=q:=by rw[<- yah];exact Rat.num_divInt_den q
 have:=yat (a:=((q.num:Int):Rat)) hne
 rw[e1]at this;exact this.symm
set_option genInjectivity false in
set_option genSizeOf false in
structure LawIn(K:Fg)(lP:Pos)(lQ:Str)(H:Hp)(p mv:Addr)(as:List Addr)(k:Nat)(f:Nat->Int)(F:Nat->Nat->Int)(m:Int):Prop where
 pos:H p=some (.lst ((vec k f).map V.int))
 mov:H mv=some (.lst (as.map V.ref))
 rows:Rows H as k F
 w1:Within m k f
 w2:WithinR m as.length k F
 hm:m<=99999999999
 k0:1<=k
 hk:k<=9
 n1:2<=as.length
 n2:as.length<60
 tb:TbW K "worst_days" lP lQ H
noncomputable def bfl (m w y:Int) (d:Addr):List (Str × V):=zae "deals" (.ref d) (zae "day" (.int y) (zae "wares" (.int w) (zae "many" (.int m) [])))
section
variable {m w y:Int}{d:Addr}
theorem zjb:(bfl m w y d).lookup ("deals" : Str)=some (.ref d):=by unfold bfl;rw[zg,if_pos rfl]
theorem zlq:(bfl m w y d).lookup ("day" : Str)=some (.int y):=by unfold bfl;rw[zg,if_neg (by decide +kernel),zg,if_pos rfl]
theorem zjp:(bfl m w y d).lookup ("wares" : Str)=some (.int w):=by unfold bfl;rw[zg,if_neg (by decide +kernel),zg,if_neg (by decide +kernel),zg,if_pos rfl]
theorem zku:(bfl m w y d).lookup ("many" : Str)=some (.int m):=by unfold bfl;rw[zg,if_neg (by decide +kernel),zg,if_neg (by decide +kernel),zg,if_neg (by decide +kernel),zg,if_pos rfl]
theorem zmP{n:Str}(h1:¬n = "deals")(h2:¬n = "day")(h3:¬n = "wares")(h4:¬n = "many"):(bfl m w y d).lookup n=none:=by
 unfold bfl
 rw[zg,if_neg h1,zg,if_neg h2,zg,if_neg h3,zg,if_neg h4]
 rfl
end
set_option genInjectivity false in
set_option genSizeOf false in
structure T7 where
 p:Int
 q:Int
 w:Int
 u:Int
 a:Int
 y:Int
 r:Int
noncomputable def zaE (t:T7):List V:=[.int t.p,.int t.q,.int t.w,.int t.u,.int t.a,.int t.y,.int t.r]
noncomputable def zaP (x:T7 × Str):List V:=zaE x.1++[.str x.2]
set_option genInjectivity false in
set_option genSizeOf false in
structure TermOk(m w y:Int)(t:T7):Prop where
 p0:0<=t.p
 p1:t.p<m
 q0:0<=t.q
 q1:t.q<m
 pq:t.p≠t.q
 w0:0<=t.w
 w1:t.w<w
 u0:1<=t.u
 u1:t.u<=1000000
 a0:1<=t.a
 a1:t.a<=1000000000
 y0:0<=t.y
 y1:t.y<=1000000
 r0:0<=t.r
 r1:t.r<=2
 yd:y<=t.y
noncomputable def ButL (d:Addr) (H H':Hp):Prop:=(∀b o,b≠d->H b=some o->H' b=some o)/\∃xs,H d=some (.lst xs)
theorem ButL.tup{d:Addr}{H H':Hp}(g:ButL d H H'){a:Addr}{xs:List V}(h:H a=some (.tup xs)):H' a=some (.tup xs):=by
 obtain⟨ys,e⟩:=g.2
 exact g.1 a _ (zaF h e (by intro z;cases z)) h
theorem ButL.at{d:Addr}{H H':Hp}(g:ButL d H H'){a:Addr}{o:HO}(h:H a=some o)(n:a≠d):H' a=some o:=g.1 a o n h
theorem ButL.ins{d:Addr}{H H':Hp}(g:ButL d H H'){a C dx:Addr}{fs:List (Str × V)}(h:H a=some (.ins C dx fs)):H' a=some (.ins C dx fs):=by
 obtain⟨ys,e⟩:=g.2
 exact g.1 a _ (zaF h e (by intro z;cases z)) h
theorem ButL.isTs{α:Type}{f:α->List V}{d:Addr}{H H':Hp}(g:ButL d H H'):∀{vs:List V} {xs:List α},IsTs f H vs xs->IsTs f H' vs xs:=fun {vs xs} h=>IsTs.keep (fun a ys z=>g.tup z) h
theorem ButL.of{d:Addr}{H H1 H2:Hp}{xs:List V}(h:H d=some (.lst xs))(e:Same H H1)(g:LBut d H1 H2):ButL d H H2:=⟨fun b o n q=>g.1.at (e b o q) n,xs,h⟩
set_option genInjectivity false in
set_option genSizeOf false in
structure Bk(C:Addr)(H:Hp)(b d:Addr)(m w y:Int)(ts:List (T7 × Str)):Prop where
 ob:∃dx,H b=some (.ins C dx (bfl m w y d))
 ds:∃xs,H d=some (.lst xs)/\IsTs zaP H xs ts
section
variable {C:Addr}{H H':Hp}{b d:Addr}{m w y:Int}{ts:List (T7 × Str)}
theorem LBut.ins{l:Addr}(g:LBut l H H'){a C dx:Addr}{fs:List (Str × V)}(h:H a=some (.ins C dx fs)):H' a=some (.ins C dx fs):=by
 obtain⟨ys,e⟩:=g.2
 exact g.1.at h (zaF h e (by intro z;cases z))
theorem Bk.but{l:Addr}(h:Bk C H b d m w y ts)(g:LBut l H H')(n:d≠l):Bk C H' b d m w y ts:=by
 obtain⟨⟨dx,h1⟩,xs,h2,h3⟩:=h
 exact⟨⟨dx,g.ins h1⟩,xs,g.lst h2 n,LBut.isTs g h3⟩
end
noncomputable def zlK (C:Addr):Sp:=fun vs H Q _=>∃(p dx:Addr) (m w:Int),vs=[.ref p,.int m,.int w]/\H p=some (.ins C dx [])/\∀d H',H d=none->(∀b o,b≠p->H b=some o->H' b=some o)->H' p=some (.ins C dx (bfl m w 0 d))->H' d=some (.lst [])->Q .non H'
noncomputable def zlM (C CE:Addr):Sp:=fun vs H Q E=>∃(b dx d:Addr) (m w y n:Int) (xs:List V),vs=[.ref b,.int n]/\H b=some (.ins C dx (bfl m w y d))/\H d=some (.lst xs)/\((0<=n/\∃v,xs[n.toNat]?=some v/\Q v H)\/(¬(0<=n/\n<xs.length)/\E (.ref CE) none H))
noncomputable def stand (t:T7):T7 × Str:=(t,("standing" : Str))
theorem zm8{xs:List V}{k:Nat}:(zbn xs none (some (k:Int))).length<=k:=by
 unfold zbn
 rw[HT.sIx_nat,HT.sIx_none,yU]
 omega
abbrev TAr:=St->Hp->(List V->Hp->Prop)->(Addr->Hp->Prop)->Prop
noncomputable def PAr (X:Cx) (es:List Expr) (t:TAr):Prop:=∀(pos:Pos) (pins:List (Addr × Obj)) (s:Shared) (σ:St) (H:Hp) (Q:List V->Hp->Prop) (Eh:Addr->Hp->Prop),Inv X pins σ H s->t σ H Q Eh->wpAny (model X.prog X.w) X.A (spliced (backTo pos (starEach es X.env))) (AP X pins σ Q) (zes X pins fun C σ' H'=>σ'=σ/\Eh C H') s
section
variable {X:Cx}{pos:Pos}
abbrev zmD(te:TEr):TAr:=fun σ H Q Eh=>te σ H (fun y H2=>Q [y] H2) Eh
abbrev zm6(tc:TE)(t:TAr):TAr:=fun σ H Q Eh=>tc σ H fun x H1=>t σ H1 (fun xs H2=>Q (x :: xs) H2) Eh
abbrev znz(t:TAr):TEr:=fun σ H Q Eh=>t σ H (fun xs H1=>zc9 Q xs H1) Eh
abbrev znB(i:Nat)(te:TEr):TTr:=fun D Eh σ H=>te σ H (fun y H2=>D.nx (σ.set i (some y)) H2) fun C H2=>Eh C σ H2
theorem zjD{e:Expr}{te:TEr}(he:PEr X e te)(hs:autoParam (starEach [e] X.env=[(false,eval e X.env)]) Internal.aut2._auto_1):PAr X [e] (zmD te):=by
 intro pos pins s σ H Q Eh I h
 rw[hs]
 show wpAny _ _ (spliced ((false,eval e X.env) :: backTo pos [])) _ _ s
 refine Calls.spliced_cons (wpAny_mono (he pins s σ H _ _ I h) (fun u s1 ⟨x,H1,I1,r1,q1⟩=>?_) fun _ _ z=>z)
 exact Calls.spliced_nil ⟨[x],H1,I1,.cons r1 .nil,q1⟩
theorem zjR{c:Expr}{es:List Expr}{tc:TE}{t:TAr}(hc:PE X.nox c tc)(hr:PAr X es t)(hs:autoParam (starEach (c :: es) X.env=(false,eval c X.env) :: starEach es X.env) Internal.aut2._auto_1):PAr X (c :: es) (zm6 tc t):=by
 intro pos pins s σ H Q Eh I h
 rw[hs]
 show wpAny _ _ (spliced ((false,eval c X.env) :: backTo pos (starEach es X.env))) _ _ s
 refine Calls.spliced_cons (wpAny_mono (hc pins s σ H _ (I.wish _) h) (fun u s1 ⟨x,H1,J1,r1,q1⟩=>?_) fun _ _ z=>z.elim)
 exact wpAny_mono (hr pos pins s1 σ H1 _ _ J1.unwish q1) (fun us s2 ⟨xs,H2,I2,r2,q2⟩=>⟨x :: xs,H2,I2,.cons r1 r2,q2⟩) fun _ _ z=>z
theorem zlf{es:List Expr}{t:TAr}{x1}(h:PAr X es t):PEr X (.Tuple es x1 pos) (znz t):=by
 intro pins s σ H Q Eh I hq
 refine wpAny_Tuple_spliced (wpAny_mono (h pos pins s σ H _ _ I hq) (fun us s1 ⟨xs,H1,I1,r,z,q⟩=>⟨by rw[<- r.length];exact z,?_⟩) fun _ _ z=>z)
 have hf:H1 s1.heap.objs.size=none:=I1.hok.fresh (yf _)
 refine⟨.ref s1.heap.objs.size,upd H1 s1.heap.objs.size (.tup xs),I1.laid (t':=s1.toks) (fun b u e=>Heap.get?_push_of_some _ e) (yf _) ?_,rfl,q _ hf⟩
 exact⟨z,us,r,⟨_,Heap.get?_push_size _ rfl,rfl,_,rfl⟩⟩
theorem zlT{i:Nat}{x:Str}{e:Expr}{te:TEr}{pos':Pos}(hN:X.N.Nodup)(hi:X.N[i]?=some x)(hx:Loc X.env.scope x)(he:PEr X e te)(hs:autoParam (swapsWith e (some (.Name x pos')) pos.line X.env=pure false) Internal.aut2._auto_1)(hf:autoParam (X.fn x=true\/X.env.scope.names.lookup x=some .local) Internal.aut0._auto_1) :
  PTr X (.Assign [.Name x pos'] e pos) (znB i te):=by
 intro pins s σ H D Eh I h
 refine wpAny_Assign_Name (wpAny_mono (he pins s σ H _ _ I h) (fun v s1 ⟨y,H1,I1,r1,q1⟩=>?_) fun e s1 zz=>by obtain⟨σ',H1,s2,er,C,t,B,H',I',e1,fl,e2,q⟩:=zz;exact⟨σ',H1,s2,er,C,t,B,H',I',e1,fl,e2▸q⟩) hs
 exact zcJ I1 hN hi hx r1 (fun s2 I2=>⟨_,H1,I2,q1⟩) hf
end
section
variable {σ:St}{H:Hp}{D:Ends}{Eh:Addr->Hp->Prop}{Eg:Addr->St->Hp->Prop}
end
section
variable {X:Cx}
end
noncomputable def OkO (ws:List Str):Prop:=(∀w∈ws,w∈words5)/\ws.Nodup
noncomputable def zio (K:Fg) (C:Addr):Sp:=fun vs H Q E=>∃(o:Addr) (ws:List Str),vs=[.ref o]/\SqL K H o (ws.map V.str)/\ws.length<=100/\((OkO ws/\∀H',Same H H'->Q .non H')\/(¬OkO ws/\∀H',Same H H'->E (.ref C) none H'))
theorem zkH{ws:List Str}{w:Str}(h:OkO ws)(h5:w∈words5)(hm:w∉ws):OkO (ws++[w]):=⟨fun u hu=>by
 rcases yu.mp hu with q | q
 ·exact h.1 u q
 ·rw[yt.mp q];exact h5,yY.mpr ⟨h.2,by simp,fun a ha b hb e=>by
 rw[yt.mp hb]at e
 exact hm (e▸ha)⟩⟩
theorem ze3{p q:Prop}[Decidable p][Decidable q]{α:Type}{a b:α}(h:p↔q):(if p then a else b)=if q then a else b:=by
 by_cases hp:p
 ·rw[if_pos hp,if_pos (h.mp hp)]
 ·rw[if_neg hp,if_neg fun z=>hp (h.mpr z)]
noncomputable def zaI (m p q:Int):Prop:=(0<=p/\p<m)/\(0<=q/\q<m)/\p≠q
instance (m p q:Int):Decidable (zaI m p q):=inferInstanceAs (Decidable (_/\_))
noncomputable def zam (w:Int) (t:T7):Prop:=(0<=t.w/\t.w<w)/\(1<=t.u/\t.u<=1000000)/\(1<=t.a/\t.a<=1000000000)/\(0<=t.y/\t.y<=1000000)/\(0<=t.r/\t.r<=2)
instance (w:Int) (t:T7):Decidable (zam w t):=inferInstanceAs (Decidable (_/\_))
noncomputable def zbO (m w y:Int) (t:T7):Nat:=if ¬zaI m t.p t.q then 1 else if ¬zam w t then 2 else if t.y<y then 3 else 0
theorem IsTs.set{α:Type}{f:α->List V}{H:Hp}{a:Addr}{x:α}(ha:H a=some (.tup (f x))):∀{vs:List V} {xs:List α} (n:Nat),IsTs f H vs xs->IsTs f H (vs.set n (.ref a)) (xs.set n x)
 | [],[],_,_=>trivial
 | _ :: _,_ :: _,0,⟨_,h2⟩=>⟨⟨a,rfl,ha⟩,h2⟩
 | _ :: _,_ :: _,n+1,⟨h1,h2⟩=>⟨h1,IsTs.set ha n h2⟩
noncomputable def ziu (C CM:Addr):Sp:=fun vs H Q E=>∃(b dx d:Addr) (m w y p q:Int),vs=[.ref b,.int p,.int q]/\H b=some (.ins C dx (bfl m w y d))/\((zaI m p q/\∀H',Same H H'->Q .non H')\/(¬zaI m p q/\∀H',Same H H'->E (.ref CM) none H'))
noncomputable def ziv (C CT CC:Addr):Sp:=fun vs H Q E=>∃(b dx d:Addr) (m w y:Int) (t:T7),vs=[.ref b,.int t.w,.int t.u,.int t.a,.int t.y,.int t.r]/\H b=some (.ins C dx (bfl m w y d))/\((zam w t/\y<=t.y/\Q .non H)\/(¬zam w t/\E (.ref CT) none H)\/(zam w t/\t.y<y/\E (.ref CC) none H))
noncomputable def ziB (C CM CT CC:Addr):Sp:=fun vs H Q E=>∃(b dx d:Addr) (m w y:Int) (t:T7) (xs:List V),vs=.ref b :: zaE t/\H b=some (.ins C dx (bfl m w y d))/\H d=some (.lst xs)/\xs.length<=1000 /\
 ((zbO m w y t=0/\∀a H1 H2,Same H H1->H1 a=some (.tup (zaP (t,("standing" : Str))))->LBut d H1 H2->H2 d=some (.lst (xs++[.ref a]))->Q (.int xs.length) H2) \/
  (zbO m w y t=1/\∀H',Same H H'->E (.ref CM) none H')\/(zbO m w y t=2/\∀H',Same H H'->E (.ref CT) none H')\/(zbO m w y t=3/\∀H',Same H H'->E (.ref CC) none H'))
noncomputable def zhR (C:Addr):Sp:=fun vs H Q _=>∃(b d:Addr) (m w y n:Int) (s:Str) (ts:List (T7 × Str)) (t:T7 × Str),vs=[.ref b,.int n,.str s]/\Bk C H b d m w y ts/\0<=n/\ts[n.toNat]?=some t/\∀H',Bk C H' b d m w y (ts.set n.toNat (t.1,s))->ButL d H H'->Q .non H'
noncomputable def DRows (H:Hp) (as:List Addr) (ts:List (T7 × Str)):Prop:=as.Nodup/\as.length=ts.length/\∀(i:Nat) (a:Addr) (t:T7 × Str),as[i]?=some a->ts[i]?=some t->H a=some (.lst (zaP t))
section
variable {H H':Hp}{as:List Addr}{ts:List (T7 × Str)}
theorem DRows.same(h:DRows H as ts)(e:Same H H'):DRows H' as ts:=⟨h.1,h.2.1,fun i a t h1 h2=>e.at (h.2.2 i a t h1 h2)⟩
theorem DRows.keep(h:DRows H as ts)(e:∀a o,a∈as->H a=some o->H' a=some o):DRows H' as ts:=⟨h.1,h.2.1,fun i a t h1 h2=>e a _ (yp h1) (h.2.2 i a t h1 h2)⟩
theorem DRows.mem(h:DRows H as ts){a:Addr}(m:a∈as):∃(i:Nat) (t:T7 × Str),as[i]?=some a/\ts[i]?=some t/\H a=some (.lst (zaP t)):=by
 obtain⟨i,hi,e⟩:=yZ m
 have h1:as[i]?=some a:=by rw[yq hi,e]
 obtain⟨t,ht⟩:=zN (show i<ts.length by have:=h.2.1;omega)
 exact⟨i,t,h1,ht,h.2.2 i a t h1 ht⟩
theorem DRows.fresh{p:Addr}(h:DRows H as ts)(hp:H p=none):p∉as:=fun m=>by
 obtain⟨_,_,_,_,e⟩:=h.mem m
 rw[hp]at e;cases e
theorem DRows.app{p:Addr}{t:T7 × Str}(h:DRows H as ts)(n:p∉as)(hp:H p=some (.lst (zaP t))):DRows H (as++[p]) (ts++[t]):=by
 refine⟨yY.mpr ⟨h.1,by simp,fun a ha b hb e=>n (by rw[yt]at hb;subst hb;subst e;exact ha)⟩,by rw[yk,yk,h.2.1];rfl,fun i a u h1 h2=>?_⟩
 rw[yao]at h1 h2
 have hl:=h.2.1
 split at h1
 ·rename_i hi
  rw[if_pos (by omega)]at h2
  exact h.2.2 i a u h1 h2
 ·rename_i hi
  rw[if_neg (by omega)]at h2
  have e0:i-as.length=0:=by
   cases e:i-as.length with
   | zero=>rfl
   | succ k=>rw[e]at h1;cases h1
  rw[e0]at h1
  rw[show i-ts.length=0 by omega]at h2
  cases h1;cases h2
  exact hp
theorem DRows.set{j:Nat}{a:Addr}{t:T7 × Str}(h:DRows H as ts)(ha:as[j]?=some a)(g:LBut a H H')(h':H' a=some (.lst (zaP t))):DRows H' as (ts.set j t):=by
 refine⟨h.1,by rw[yap];exact h.2.1,fun i b u h1 h2=>?_⟩
 by_cases e:i=j
 ·subst e
  rw[ha]at h1;cases h1
  rw[yaf (by have:=(yl.mp ha).1;have:=h.2.1;omega)]at h2
  cases h2;exact h'
 ·rw[yan (fun z=>e z.symm)]at h2
  exact g.lst (h.2.2 i b u h1 h2) fun z=>e (zcl h.1 h1 (z▸ha))
end
theorem zjM{K:Fg}{H:Hp}{Q:VK}{a b:Addr}{x:T7 × Str}(h1:H a=some (.tup (zaP x)))(h2:H b=some (.tup (zaP x)))(ok:PyData.canLay0 (.str x.2)=true)(q:Q (.bl false) H):zbf K (.ref a) (.ref b) H Q:=by
 have rep:RepAll K H (zaP x) [.int x.1.p,.int x.1.q,.int x.1.w,.int x.1.u,.int x.1.a,.int x.1.y,.int x.1.r,.str x.2]:=.cons (.int _) (.cons (.int _) (.cons (.int _) (.cons (.int _) (.cons (.int _) (.cons (.int _) (.cons (.int _) (.cons (.str _ ok) .nil)))))))
 refine zht (.tup (.of h1) rep) (.tup (.of h2) rep) (by simp[PyData.depth,PyData.depthAll]) ?_
 rw[yX _ (by rw[PyData.canLay0];exact rep.lay)]
 exact q
theorem zkb{K:Fg}{H:Hp}{Q:VK}{a:Addr}{xs:List V}(h:H a=some (.lst xs))(q:∀p H',H p=none->Same H H'->H' p=some (.tup xs)->Q (.ref p) H'):zej K [.ref a] H Q:=⟨a,xs,rfl,.inl ⟨.of h,fun l hl=>q l _ hl (Same.new hl _) zH⟩⟩
set_option genInjectivity false in
set_option genSizeOf false in
structure RoomH(k:Nat)(A:Around):Prop where
 dp:A.depth+3*k+5<recursionLimit
 un:A.units+16*k+200<cLine
theorem RoomH.deeper{k:Nat}{A:Around}(r:RoomH (k+1) A)(env:Env):RoomH k (A.deeper env):=
 ⟨by have:=r.dp;show A.depth+1+3*k+5<_;omega,by have:=r.un;show A.units+3+16*k+200<_;omega⟩
theorem RoomH.depth{k:Nat}{A:Around}(r:RoomH k A):A.depth<recursionLimit:=by have:=r.dp;omega
theorem RoomH.units{k:Nat}{A:Around}(r:RoomH k A):A.units+64<cLine:=by have:=r.un;omega
theorem Room.mark{k:Nat}{A:Around}(r:Room k A)(h:Option Value):RoomH k (A.mark h):=⟨r.dp,r.un⟩
abbrev Cx.toH(X:Cx)(A:Around):Cx:={ X with A:=A,calm:=false,xe:=fun _ _=>False }
theorem Inv.toH{X:Cx}{pins:List (Addr × Obj)}{σ:St}{H:Hp}{s:Shared}(I:Inv X pins σ H s)(A:Around)(hf:A.frames=some X.stack):Inv (X.toH A) pins σ H s:=
 ⟨⟨I.ok.mod,I.ok.kind,I.ok.glob,I.ok.blt,I.ok.above,I.ok.inj,I.ok.has,I.ok.cab,fun z=>(by cases z),hf,I.ok.stk,I.ok.exf,I.ok.bs,I.ok.bsz,I.ok.noex,I.ok.exfs,I.ok.funs,I.ok.frf⟩,I.os,I.bare,I.base,I.loc,I.cell,I.free,I.freeC,I.pin,I.hok,I.len⟩
set_option genInjectivity false in
set_option genSizeOf false in
structure FnOkH(P:Program)(w:World)(K:Fg)(mg:Str->Option Value)(base:Heap)(k:Nat)(f:Addr)(fd:FuncData)(ps:List Str)(sp:Sp):Prop where
 len:∀vs H Q E,sp vs H Q E->vs.length=ps.length
 run:∀(A:Around) (outer:List Env) (s:Shared) (H:Hp) (args:Args) (us:List Value) (vs:List V) (Q:VK) (E:XK),RoomH k A->Env0 P w K mg base A outer s H->BindsTo s fd args (ps.zip us)->Vals vs us->sp vs H Q E ->
  codeAny (model P w) A (.call (.ref f) args) (CR (fun _ _ _ _ _ _=>False) outer P w H s Q E) s
abbrev cxH(P:Program)(w:World)(K:Fg)(mg:Str->Option Value)(base:Heap)(N:List Str)(qual:Str)(scope:Scope)(f:Addr)(cd:Value)(A:Around)(outer:List Env)(s:Shared)(H:Hp)(E:XK):Cx:=
 (zaq (CXF P w) P w K mg base N qual scope f cd A outer s H E).toH (A.deeper (envOfC qual scope s.heap.objs.size f cd))
theorem Fun.okH{P:Program}{w:World}{K:Fg}{mg:Str->Option Value}{base:Heap}{x qual:Str}{st:Stmt}{f:Addr}{fd:FuncData}{N ps:List Str}{k:Nat}{sp:Sp}(F:Fun K x qual st f fd)(S:FnScope N ps (zi st))(len:∀vs H Q E,sp vs H Q E->vs.length=ps.length)
  (hbody:∀(cdv:Value) (A:Around) (outer:List Env) (s:Shared) (H:Hp) (vs:List V) (Q:VK) (E:XK),RoomH k (A.deeper (envOfC qual (zi st) s.heap.objs.size f cdv))->sp vs H Q E ->
   ∃t,PSs (cxH P w K mg base N qual (zi st) f cdv A outer s H E) (zaR st) t/\t { nx:=fun _ H'=>Q .non H',rt:=Q } (start N vs) H):FnOkH P w K mg base (k+1) f fd ps sp:=by
 obtain⟨oc,od,kV,doc,pm,an,cdv,ct,osl,rfl,lk,hcd⟩:=F.ex
 refine⟨len,fun A outer s H args us vs Q E hr e0 hb r hsp=>?_⟩
 have hl:=len _ _ _ _ hsp
 have KX:K.In s.heap:=e0.mod.kin.keeps fun b o e=>(e0.bs b o e).1
 have lim:s.heap.NoLimit:=e0.mod.nolimit.keeps fun b o e=>(e0.bs b o e).1
 have hkind:∀y∈ps.zip us,(zi st).names.lookup y.1=some .local\/((zi st).names.lookup y.1=some .cell/\((cellsFrom (s.heap.objs.size+1) (zi st).names []).lookup y.1).isSome=true):=fun⟨n,v⟩ hy=>by
  rcases S.par n (yaA hy).1 with q | q
  ·exact .inl q
  ·exact .inr ⟨q,yau _ _ _ (.inl q)⟩
 refine codeAny_call_function hr.depth (KX _ _ lk) rfl S.co S.gen rfl (PySem.W.codeRec_of KX hcd) (hb _ _ _ _ ?_)
 refine wpAny_newFunctionEnv_cells S.kind hkind fun env he s1 x=>?_
 subst he
 refine⟨lim.keeps x.toInCall.keep,codeAny_func ?_⟩
 obtain⟨t,ht,hq⟩:=hbody cdv A outer s H vs Q E (hr.deeper _) hsp
 have e0':Env0 P w K mg base { A with handled:=none } outer s H:=⟨e0.frames,e0.mod,e0.bs,e0.bsz,e0.funs,e0.frf,e0.hok,e0.bare⟩
 have I0:Inv (zaq (CXF P w) P w K mg base N qual (zi st) f cdv { A with handled:=none } outer s H E) [] (start N vs) H s1:=zfi S rfl e0' hl r x
 have I:Inv (cxH P w K mg base N qual (zi st) f cdv A outer s H E) [] (start N vs) H s1:=I0.toH _ I0.ok.frames
 refine wpAny_mono (ht [] s1 (start N vs) H _ I hq) (fun fl s' hs=>?_) fun e s' hs=>hs.elim
 have fin:∀{σ':St} {H':Hp} {v:V} {u:Value},Inv (cxH P w K mg base N qual (zi st) f cdv A outer s H E) [] σ' H' s'->RelV v u->Q v H'->CE outer P w H s Q u s':=
  fun {σ' H' v u} J rv q=>⟨v,H',J.os,J.bare,J.base,J.hok,rv,q⟩
 cases fl with
 | ret u=>
  obtain⟨v,σ',H',J,rv,q⟩:=hs
  exact fin J rv q
 | next=>
  obtain⟨σ',H',J,q⟩:=hs
  exact fin (v:=V.non) (u:=Value.none) J rfl q
 | brk=>
  obtain⟨_,_,_,q⟩:=hs
  exact False.elim q
 | cont=>
  obtain⟨_,_,_,q⟩:=hs
  exact False.elim q
theorem zj1{X:Cx}{k:Nat}{f:Addr}{fd:FuncData}{ps:List Str}{sp:Sp}{E:XK}{x:Str}{p pos:Pos}{e:Expr}{es:List Expr}{t:TA}(F:FnOkH X.prog X.w X.K X.mg X.base k f fd ps sp)(hr:RoomH k X.A)(hg:Gl X x)(hm:X.mg x=some (.ref f))(hk:PySem.W.keepIn X.K (.ref f)=true)(hb:Binds X.K fd ps [])
  (ha:PA X (e :: es) t) (hdb:autoParam ((x == ("__debug__" : Str))=false) Internal.aut1._auto_1) (he:autoParam (starEach (e :: es) X.env=(false,eval e X.env) :: starEach es X.env) Internal.aut2._auto_1) (hpl:autoParam ((backTo pos (starEach es X.env)).any (·.1)=false) Internal.aut2._auto_1) :
  PE X (.Call (.Name x p) (e :: es) [] pos) (zep sp [] E t):=by
 intro pins s σ H Q I h
 refine wpAny_Call_Name_kw (zbN I hg hm ?_ hdb)
 refine yae (h₀:=X.base) I.ok.mod.kin hk (thn (ha pos pins s σ H _ I h) fun us s1 ⟨vs,H1,I1,r,q⟩=>⟨I1.kIn,?_⟩) he hpl
 have q:sp (vs++[]) H1 Q E:=q
 rw[yQ]at q
 have hl:us.length=ps.length:=by rw[<- r.length];exact F.len _ _ _ _ q
 have hbd:=hb s1 us I1.kIn (by rw[yQ];exact hl)
 rw[yQ]at hbd
 refine wpAny_call (codeAny_mono (F.run X.A X.stack s1 H1 ⟨us,[]⟩ us vs Q E hr I1.env0 hbd r q) fun res s' hq=>?_)
 cases res with
 | error e=>exact False.elim hq
 | ok fl=>
  cases fl with
  | ret u=>exact I1.after hq
  | next=>exact False.elim hq
  | brk=>exact False.elim hq
  | cont=>exact False.elim hq
noncomputable def St3 (ts:List (T7 × Str)):Prop:=∀t∈ts,t.2=("standing" : Str)\/t.2=("settled" : Str)\/t.2=("broken" : Str)
noncomputable def zoa (w:Int) (ts:List (T7 × Str)):Prop:=∀t∈ts,(0<=t.1.w/\t.1.w<w)/\(1<=t.1.u/\t.1.u<=1000000)/\(0<=t.1.r/\t.1.r<=2)
noncomputable def zie (C CN CG CS:Addr):Sp:=fun vs H Q E=>∃(b d:Addr) (m w y n:Int) (ts:List (T7 × Str)),vs=[.ref b,.int n]/\Bk C H b d m w y ts /\
 ((∃t,0<=n/\ts[n.toNat]?=some t/\¬t.2=("broken" : Str)/\¬t.2=("settled" : Str)/\∀x,H x=some (.tup (zaP t))->Q (.ref x) H) \/
  (¬(0<=n/\n<ts.length)/\E (.ref CN) none H)\/(∃t,0<=n/\ts[n.toNat]?=some t/\t.2=("broken" : Str)/\E (.ref CG) none H)\/(∃t,0<=n/\ts[n.toNat]?=some t/\t.2=("settled" : Str)/\E (.ref CS) none H))
set_option genInjectivity false in
set_option genSizeOf false in
structure BR(C:Addr)(H:Hp)(b d ro:Addr)(m w y:Int)(ts:List (T7 × Str))(as:List Addr):Prop where
 B:Bk C H b d m w y ts
 ro:H ro=some (.lst (as.map V.ref))
 R:DRows H as ts
 s:St3 ts
 g:zoa w ts
open PySem PySem.W PySem.Spec PySem.Calls PyProof.Rows
section
variable {prog:Program}{w:World}{A:Around}{E:Value->Shared->Prop}
end
open PySem PySem.Spec PyProof.Rows
noncomputable def zay (t:T7 × Str) (m:Int) (j:Nat):Int:=if t.2=("standing" : Str)/\t.1.w=(j:Int) then(if t.1.p=m then t.1.u else if t.1.q=m then -t.1.u else 0)else 0
noncomputable def z7:List (T7 × Str)->Int->Nat->Int
 | [],_,_=>0
 | t :: ts,m,j=>zay t m j+z7 ts m j
theorem zd0(ts us:List (T7 × Str))(m:Int)(j:Nat):z7 (ts++us) m j=z7 ts m j+z7 us m j:=by
 induction ts with
 | nil=>show z7 us m j=0+z7 us m j;omega
 | cons t ts ih=>show zay t m j+z7 (ts++us) m j=zay t m j+z7 ts m j+z7 us m j;rw[ih];omega
theorem zcZ{ts:List (T7 × Str)}{i:Nat}{t:T7 × Str}(h:ts[i]?=some t)(m:Int)(j:Nat):z7 (ts.take (i+1)) m j=z7 (ts.take i) m j+zay t m j:=by
 rw[List.take_succ,h,zd0]
 show _+(zay t m j+0)=_
 omega
theorem zl0{t:T7 × Str}(u0:1<=t.1.u)(u1:t.1.u<=1000000)(m:Int)(j:Nat):-1000000<=zay t m j/\zay t m j<=1000000:=by
 unfold zay
 split
 ·split
  ·omega
  ·split<;>omega
 ·omega
theorem zb5:∀{ts:List (T7 × Str)},(∀t∈ts,1<=t.1.u/\t.1.u<=1000000)->∀(m:Int) (j:Nat),-((ts.length:Int)*1000000)<=z7 ts m j/\z7 ts m j<=(ts.length:Int)*1000000
 | [],_,m,j=>by show -(0*_)<=(0:Int)/\(0:Int)<=0*_;omega
 | t :: ts,h,m,j=>by
  have ih:=zb5 (ts:=ts) (fun t ht=>h t (yD _ ht)) m j
  have h1:=h t yV
  have h2:=zl0 h1.1 h1.2 m j
  show -(((ts.length+1:Nat):Int)*1000000)<=zay t m j+z7 ts m j/\zay t m j+z7 ts m j<=((ts.length+1:Nat):Int)*1000000
  omega
noncomputable def zh7 (C:Addr):Sp:=fun vs H Q _=>∃(b d:Addr) (m y n:Int) (w:Nat) (ts:List (T7 × Str)),vs=[.ref b,.int n]/\Bk C H b d m (w:Int) y ts/\(∀t∈ts,0<=t.1.w/\t.1.w<(w:Int))/\w<=1000/\∀p H',H p=none->Same H H'->H' p=some (.lst ((vec w (z7 ts n)).map V.int))->Q (.ref p) H'
section
variable {ts:List (T7 × Str)}{m:Int}{i:Nat}
end
abbrev FE:=Int ⊕ List Int
noncomputable def feV (H:Hp) (v:V):FE->Prop
 | .inl n=>v=.int n
 | .inr ns=>∃a,v=.ref a/\H a=some (.tup (ns.map V.int))
noncomputable def Fls (H:Hp):List V->List FE->Prop
 | [],[]=>True
 | v :: vs,e :: es=>feV H v e/\Fls H vs es
 | _,_=>False
section
variable {H H':Hp}
end
set_option genInjectivity false in
set_option genSizeOf false in
structure ZE where
 t:Addr
 u:Addr
 e1:List FE
 e2:List FE
noncomputable def znU (z:ZE):List V:=[.ref z.t,.ref z.u]
noncomputable def HZ (H:Hp) (z:ZE):Prop:=(∃vs,H z.t=some (.lst vs)/\Fls H vs z.e1)/\∃ws,H z.u=some (.lst ws)/\Fls H ws z.e2
set_option genInjectivity false in
set_option genSizeOf false in
structure HeldAt(H:Hp)(hl:Addr)(zs:List ZE):Prop where
 ls:∃vs,H hl=some (.lst vs)/\IsTs znU H vs zs
 hz:∀z∈zs,HZ H z
 nd:(zs.map (·.t)).Nodup
 tu:∀z∈zs,∀z'∈zs,z.t≠z'.u
 n:∀z∈zs,z.t≠hl/\z.u≠hl
set_option genInjectivity false in
set_option genSizeOf false in
structure HA where
 pu:Addr
 pl:Addr
 sh:Addr
 mv:Addr
 ru:Addr
 od:Addr
 bk:Addr
 ou:Addr
 re:Addr
noncomputable def hfl3 (pu pl sh:Addr):List (Str × V):=zae "shares" (.ref sh) (zae "pledges" (.ref pl) (zae "purses" (.ref pu) []))
noncomputable def hfl (A:HA) (own:Int):List (Str × V):=zae "reports" (.ref A.re) (zae "outs" (.ref A.ou) (zae "book" (.ref A.bk) (zae "order" (.ref A.od) (zae "rule" (.ref A.ru) (zae "moves" (.ref A.mv) (zae "kept" (.int own) (hfl3 A.pu A.pl A.sh)))))))
section
variable {A:HA}{own:Int}
theorem zkh:(hfl A own).lookup ("outs" : Str)=some (.ref A.ou):=by unfold hfl hfl3;rw[zg,if_neg (by decide +kernel),zg,if_pos rfl]
theorem zjz:(hfl A own).lookup ("book" : Str)=some (.ref A.bk):=by unfold hfl hfl3;rw[zg,if_neg (by decide +kernel),zg,if_neg (by decide +kernel),zg,if_pos rfl]
theorem zkB:(hfl A own).lookup ("rule" : Str)=some (.ref A.ru):=by unfold hfl hfl3;rw[zg,if_neg (by decide +kernel),zg,if_neg (by decide +kernel),zg,if_neg (by decide +kernel),zg,if_neg (by decide +kernel),zg,if_pos rfl]
theorem zi9:(hfl A own).lookup ("moves" : Str)=some (.ref A.mv):=by unfold hfl hfl3;rw[zg,if_neg (by decide +kernel),zg,if_neg (by decide +kernel),zg,if_neg (by decide +kernel),zg,if_neg (by decide +kernel),zg,if_neg (by decide +kernel),zg,if_pos rfl]
theorem zgS:(hfl A own).lookup ("pledges" : Str)=some (.ref A.pl):=by unfold hfl hfl3;rw[zg,if_neg (by decide +kernel),zg,if_neg (by decide +kernel),zg,if_neg (by decide +kernel),zg,if_neg (by decide +kernel),zg,if_neg (by decide +kernel),zg,if_neg (by decide +kernel),zg,if_neg (by decide +kernel),zg,if_neg (by decide +kernel),zg,if_pos rfl]
theorem zhI:(hfl A own).lookup ("purses" : Str)=some (.ref A.pu):=by unfold hfl hfl3;rw[zg,if_neg (by decide +kernel),zg,if_neg (by decide +kernel),zg,if_neg (by decide +kernel),zg,if_neg (by decide +kernel),zg,if_neg (by decide +kernel),zg,if_neg (by decide +kernel),zg,if_neg (by decide +kernel),zg,if_neg (by decide +kernel),zg,if_neg (by decide +kernel),zg,if_pos rfl]
noncomputable def hno (n:Str):Bool:=!decide (n = "reports")&&!decide (n = "outs")&&!decide (n = "book")&&!decide (n = "order")&&!decide (n = "rule")&&!decide (n = "moves")&&!decide (n = "kept")&&!decide (n = "shares")&&!decide (n = "pledges")&&!decide (n = "purses")
theorem zmw{n:Str}(h:hno n=true):(hfl A own).lookup n=none:=by
 unfold hno at h
 simp only[yz,Bool.not_eq_true',decide_eq_false_iff_not]at h
 obtain⟨⟨⟨⟨⟨⟨⟨⟨⟨h1,h2⟩,h3⟩,h4⟩,h5⟩,h6⟩,h7⟩,h8⟩,h9⟩,h10⟩:=h
 unfold hfl hfl3
 rw[zg,if_neg h1,zg,if_neg h2,zg,if_neg h3,zg,if_neg h4,zg,if_neg h5,zg,if_neg h6,zg,if_neg h7,zg,if_neg h8,zg,if_neg h9,zg,if_neg h10]
 rfl
end
noncomputable def NB (p:Addr) (H H':Hp):Prop:=∀b o,b≠p->H b=some o->H' b=some o
section
variable {p:Addr}{H H1 H2:Hp}
theorem NB.at(e:NB p H H1){a:Addr}{o:HO}(h:H a=some o)(n:a≠p):H1 a=some o:=e a o n h
theorem NB.trans(e:NB p H H1)(f:NB p H1 H2):NB p H H2:=fun b o n h=>f b o n (e b o n h)
theorem Same.nb(e:Same H H1):NB p H H1:=fun b o _ h=>e b o h
theorem But.nb(e:But p H H1):NB p H H1:=fun b o n h=>e.at h n
theorem NB.no(e:NB p H H1){x:Addr}(h:H1 x=none)(n:x≠p):H x=none:=by
 cases z:H x with
 | none=>rfl
 | some o=>rw[e x o n z]at h;cases h
theorem NB.same{H0:Hp}(g:NB p H H1)(e:Same H0 H)(h:H0 p=none):Same H0 H1:=fun b o q=>g b o (zC q h) (e b o q)
end
theorem Bk.sameT{C:Addr}{H H':Hp}{b d:Addr}{m w y:Int}{ts:List (T7 × Str)}(h:Bk C H b d m w y ts)(e:SameT H H'):Bk C H' b d m w y ts:=by
 obtain⟨⟨dx,h1⟩,xs,h2,h3⟩:=h
 exact⟨⟨dx,e.ins h1⟩,xs,e.lst h2,IsTs.keep (fun a ys z=>e.tup z) h3⟩
set_option genInjectivity false in
set_option genSizeOf false in
structure HN(K:Fg)(CB:Addr)(lP:Pos)(lQ:Str)(H:Hp)(A:HA)(d:Addr)(m y:Int)(ts:List (T7 × Str))(bs:List Addr)(k:Nat)(F:Nat->Nat->Int)(w:Str)(c:Int):Prop where
 bk:Bk CB H A.bk d m (k:Int) y ts
 tok:∀t∈ts,0<=t.1.w/\t.1.w<(k:Int)
 tu:∀t∈ts,1<=t.1.u/\t.1.u<=1000000
 tl:ts.length<=1000
 ru:H A.ru=some (.tup [.str w,.int c])
 mv:H A.mv=some (.lst (bs.map V.ref))
 rows:Rows H bs k F
 fw:WithinR 1000000 bs.length k F
 ok:zbh w c bs.length
 k9:k<=9
 n64:bs.length<64
 tb:TbW K "worst_days" lP lQ H
section
variable {K:Fg}{CB:Addr}{lP:Pos}{lQ:Str}{H H':Hp}{A:HA}{d:Addr}{m y:Int}{ts:List (T7 × Str)}{bs:List Addr}{k:Nat}{F:Nat->Nat->Int}{w:Str}{c:Int}
theorem HN.sameT(h:HN K CB lP lQ H A d m y ts bs k F w c)(e:SameT H H')(t:TbW K "worst_days" lP lQ H'):HN K CB lP lQ H' A d m y ts bs k F w c:=
 ⟨h.bk.sameT e,h.tok,h.tu,h.tl,e.tup h.ru,e.lst h.mv,e.rows h.rows,h.fw,h.ok,h.k9,h.n64,t⟩
theorem HN.same(h:HN K CB lP lQ H A d m y ts bs k F w c)(e:Same H H'):HN K CB lP lQ H' A d m y ts bs k F w c:=h.sameT e.t (TbW.same e h.tb)
theorem HN.but{l:Addr}(h:HN K CB lP lQ H A d m y ts bs k F w c)(g:LBut l H H')(n1:d≠l)(n2:A.mv≠l)(n3:l∉bs):HN K CB lP lQ H' A d m y ts bs k F w c:=
 ⟨h.bk.but g n1,h.tok,h.tu,h.tl,g.tup h.ru,g.lst h.mv n2,h.rows.but g n3,h.fw,h.ok,h.k9,h.n64,TbW.but g h.tb⟩
end
noncomputable def zaa (ts:List (T7 × Str)) (m:Int) (k:Nat) (F:Nat->Nat->Int) (i:Nat):Int:=zag k (z7 ts m) (F i)
noncomputable def zlS (K:Fg) (C CB:Addr) (lP:Pos) (lQ:Str):Sp:=fun vs H Q _=>∃(h dx d:Addr) (A:HA) (own m y n:Int) (ts:List (T7 × Str)) (bs:List Addr) (k:Nat) (F:Nat->Nat->Int) (w:Str) (c:Int),vs=[.ref h,.int n]/\H h=some (.ins C dx (hfl A own))/\HN K CB lP lQ H A d m y ts bs k F w c /\
 ∀r H' q,SameT H H'->TbW K "worst_days" lP lQ H'->Line (zaa ts n k F) bs.length q->IsQ H' r (z9 w (zaa ts n k F) q c)->SzQ (z9 w (zaa ts n k F) q c) 100 10->Q (.ref r) H'
noncomputable def zfs (C:Addr):Sp:=fun vs H Q _=>∃(h dx:Addr) (A:HA) (own k:Int) (n:Nat) (f:Nat->Int),vs=[.ref h,.int k]/\H h=some (.ins C dx (hfl A own))/\H A.pl=some (.lst ((vec n f).map V.int))/\0<=k/\k<(n:Int)/\Q (.int (f k.toNat)) H
set_option genInjectivity false in
set_option genSizeOf false in
structure Stk(p:Addr)(H0 H:Hp)(l:List Addr):Prop where
 nb:NB p H0 H
 hp:H p≠none
 nd:l.Nodup
 ex:∀y∈l,H y≠none/\y≠p/\H0 y=none
section
variable {p:Addr}{H0 H H':Hp}{l:List Addr}
theorem NB.some(e:NB p H H'){y:Addr}(h:H y≠none)(n:y≠p):H' y≠none:=fun z=>h (e.no z n)
theorem Stk.nil(h:H p≠none):Stk p H H []:=⟨fun _ _ _ h=>h,h,yP,fun y hy=>nomatch hy⟩
theorem Stk.keep(s:Stk p H0 H l)(e:NB p H H')(hp:H' p≠none):Stk p H0 H' l:=⟨s.nb.trans e,hp,s.nd,fun y hy=>⟨e.some (s.ex y hy).1 (s.ex y hy).2.1,(s.ex y hy).2⟩⟩
theorem Stk.same(s:Stk p H0 H l)(e:Same H H'):Stk p H0 H' l:=s.keep e.nb fun z=>s.hp (Same.none z e)
theorem Stk.fresh(s:Stk p H0 H l){x:Addr}(h:H x=none):x≠p/\x∉l/\H0 x=none:=
 have hp:x≠p:=fun z=>s.hp (z▸h)
 ⟨hp,fun hx=>(s.ex x hx).1 h,s.nb.no h hp⟩
theorem Stk.new(s:Stk p H0 H l){x:Addr}(h:H x=none)(e:Same H H')(hx:H' x≠none):Stk p H0 H' (x :: l):=by
 obtain⟨n1,n2,n3⟩:=s.fresh h
 have s':=s.same e
 refine⟨s'.nb,s'.hp,yJ.mpr ⟨n2,s.nd⟩,fun y hy=>?_⟩
 rcases ye.mp hy with rfl | hy
 ·exact⟨hx,n1,n3⟩
 ·exact s'.ex y hy
theorem Stk.more(s:Stk p H0 H l){bs:List Addr}(h:∀b∈bs,H b=none)(nd:bs.Nodup)(e:Same H H')(hx:∀b∈bs,H' b≠none):Stk p H0 H' (bs++l):=by
 have s':=s.same e
 refine⟨s'.nb,s'.hp,yY.mpr ⟨nd,s.nd,fun a ha b hb z=>(s.fresh (h a ha)).2.1 (z▸hb)⟩,fun y hy=>?_⟩
 rcases yu.mp hy with hy | hy
 ·obtain⟨n1,n2,n3⟩:=s.fresh (h y hy)
  exact⟨hx y hy,n1,n3⟩
 ·exact s'.ex y hy
theorem zZ{H:Hp}{a:Addr}{o:HO}(h:H a=some o):H a≠none:=fun z=>by rw[h]at z;cases z
end
noncomputable def m3V (x:Int × Int × Int):List V:=[.int x.1,.int x.2.1,.int x.2.2]
set_option genInjectivity false in
set_option genSizeOf false in
structure HNew(CB p:Addr)(H H':Hp)(A:HA)(d:Addr)(bs:List Addr)(xs:List (Int × Int × Int))(k:Nat)(F:Nat->Nat->Int)(w:Str)(c:Int)(ws:List Str):Prop where
 pu:H' A.pu=some (.lst ((vec xs.length fun i=>(xs.getD i (0,0,0)).1).map V.int))
 pl:H' A.pl=some (.lst ((vec xs.length fun i=>(xs.getD i (0,0,0)).2.1).map V.int))
 sh:H' A.sh=some (.lst ((vec xs.length fun i=>(xs.getD i (0,0,0)).2.2).map V.int))
 mv:H' A.mv=some (.lst (bs.map V.ref))
 rows:Rows H' bs k F
 ru:H' A.ru=some (.tup [.str w,.int c])
 od:H' A.od=some (.lst (ws.map V.str))
 bk:Bk CB H' A.bk d xs.length k 0 []
 ou:H' A.ou=some (.lst ((List.replicate xs.length false).map V.bl))
 re:H' A.re=some (.lst [])
 st:Stk p H H' (A.re :: A.ou :: d :: A.bk :: A.od :: A.ru :: (bs++[A.mv,A.sh,A.pl,A.pu]))
noncomputable def zlG (K:Fg) (C CB CR CL:Addr):Sp:=fun vs H Q E=>∃(p dx ms mo ru od:Addr) (us:List V) (xs:List (Int × Int × Int)) (as:List Addr) (k:Nat) (F:Nat->Nat->Int) (w:Str) (c:Int) (ws:List Str) (own:Int),
 vs=[.ref p,.ref ms,.ref mo,.ref ru,.ref od,.int own]/\H p=some (.ins C dx [])/\H ms=some (.lst us)/\IsTs m3V H us xs/\xs.length<=1000/\H mo=some (.lst (as.map V.ref))/\Rows H as k F/\1<=as.length/\as.length<=1000/\0<k/\k<=1000/\H ru=some (.tup [.str w,.int c])/\H od=some (.lst (ws.map V.str))/\ws.length<=100 /\
 (zbh w c as.length->OkO ws->∀A d bs H',NB p H H'->H' p=some (.ins C dx (hfl A own))->bs.length=as.length->HNew CB p H H' A d bs xs k F w c ws->Q .non H')/\(¬zbh w c as.length->∀H',Same H H'->E (.ref CR) none H')/\(zbh w c as.length->¬OkO ws->∀H',Same H H'->E (.ref CL) none H')
noncomputable def mOk (n:Nat) (m:Int):Prop:=0<=m/\m<(n:Int)
noncomputable def tOk (c:Int):Prop:=0<=c/\c<=1000000000
set_option genInjectivity false in
set_option genSizeOf false in
structure HC(C:Addr)(H:Hp)(h:Addr)(A:HA)(own:Int)(n:Nat)(P L:Nat->Int):Prop where
 ob:∃dx,H h=some (.ins C dx (hfl A own))
 pu:H A.pu=some (.lst ((vec n P).map V.int))
 pl:H A.pl=some (.lst ((vec n L).map V.int))
 ne:A.pu≠A.pl
noncomputable def zaH (f:Nat->Int) (m:Int) (c:Int):Nat->Int:=fun i=>if i=m.toNat then f m.toNat+c else f i
noncomputable def zm4 (C CM CT:Addr):Sp:=fun vs H Q E=>∃(h:Addr) (A:HA) (own m c:Int) (n:Nat) (P L:Nat->Int),vs=[.ref h,.int m,.int c]/\HC C H h A own n P L/\(mOk n m->tOk c->Q .non H)/\(¬mOk n m->E (.ref CM) none H)/\(mOk n m->¬tOk c->E (.ref CT) none H)
noncomputable def zjF (CP:Addr):Sp:=fun vs H Q E=>∃x y:Int,vs=[.int x,.int y]/\(y<=x->Q .non H)/\(x<y->E (.ref CP) none H)
noncomputable def ziH (CB:Addr):Sp:=fun vs H Q E=>∃(x:Int) (r:Addr) (q:Rat),vs=[.int x,.ref r]/\IsQ H r q/\SzQ q 60000 60000/\sz x<=60000/\(¬(x:Rat)<q->∀H',Same H H'->Q .non H')/\((x:Rat)<q->∀H',Same H H'->E (.ref CB) none H')
noncomputable def zmn (C CM CT:Addr):Sp:=fun vs H Q E=>∃(h:Addr) (A:HA) (own m c:Int) (n:Nat) (P L:Nat->Int),vs=[.ref h,.int m,.int c]/\HC C H h A own n P L/\(mOk n m->tOk c->∀H',LBut A.pu H H'->H' A.pu=some (.lst ((vec n (zaH P m c)).map V.int))->Q .non H')/\(¬mOk n m->E (.ref CM) none H)/\(mOk n m->¬tOk c->E (.ref CT) none H)
noncomputable def zi6 (C CM CT CP:Addr):Sp:=fun vs H Q E=>∃(h:Addr) (A:HA) (own m c:Int) (n:Nat) (P L:Nat->Int),vs=[.ref h,.int m,.int c]/\HC C H h A own n P L/\(mOk n m->tOk c->c<=P m.toNat->∀H1 H',LBut A.pu H H1->H1 A.pu=some (.lst ((vec n (zaH P m (-c))).map V.int))->LBut A.pl H1 H'->H' A.pl=some (.lst ((vec n (zaH L m c)).map V.int))->Q .non H')/\(¬mOk n m->E (.ref CM) none H)/\(mOk n m->¬tOk c->E (.ref CT) none H)/\(mOk n m->tOk c->P m.toNat<c->E (.ref CP) none H)
noncomputable def zll (K:Fg) (C CB:Addr) (lP:Pos) (lQ:Str) (CM CT CP CR:Addr):Sp:=fun vs H Q E=>∃(h d:Addr) (A:HA) (own m c mm y:Int) (n:Nat) (P L:Nat->Int) (ts:List (T7 × Str)) (bs:List Addr) (k:Nat) (F:Nat->Nat->Int) (w:Str) (cr:Int),vs=[.ref h,.int m,.int c]/\HC C H h A own n P L/\HN K CB lP lQ H A d mm y ts bs k F w cr/\(mOk n m->tOk c->sz (L m.toNat-c)<=60000) /\
 (mOk n m->tOk c->c<=L m.toNat->∀H1 q,SameT H H1->TbW K "worst_days" lP lQ H1->Line (zaa ts m k F) bs.length q->(((L m.toNat-c:Int):Rat)<z9 w (zaa ts m k F) q cr->E (.ref CR) none H1)/\(¬((L m.toNat-c:Int):Rat)<z9 w (zaa ts m k F) q cr->∀H2 H',LBut A.pl H1 H2->H2 A.pl=some (.lst ((vec n (zaH L m (-c))).map V.int))->LBut A.pu H2 H'->H' A.pu=some (.lst ((vec n (zaH P m c)).map V.int))->Q .non H')) /\
 (¬mOk n m->E (.ref CM) none H)/\(mOk n m->¬tOk c->E (.ref CT) none H)/\(mOk n m->tOk c->L m.toNat<c->E (.ref CP) none H)
section
variable {κ:Type}[DecidableEq κ]
end
abbrev KT(H:Hp):List (List Key × V)->List (List Key × Addr × Value)->Prop:=Paired fun p q=>p.1=q.1/\H q.2.1=some (.tup (p.1.map kV))/\RelV p.2 q.2.2
section
variable {P:Program}{w:World}{H:Hp}{h:Heap}{a:Addr}
end
section
variable {X:Cx}{pins:List (Addr × Obj)}{σ:St}{H:Hp}{s:Shared}{a:Addr}{y v:V}{u r:Value}{o:Option V}{A:Around}{E:Value->Shared->Prop}
end
section
variable {X:Cx}{pins:List (Addr × Obj)}{σ:St}{H:Hp}{s:Shared}{a:Addr}{kvs:List (Key × V)}{k:Key}{u:Value}{A:Around}{E:Value->Shared->Prop}
end
section
variable {X:Cx}{o i e value:Expr}{pos pos' tpos:Pos}{td ty tv:TE}
end
section
variable {X:Cx}{pos:Pos}
end
abbrev VV:List (V × V)->List (Value × Value)->Prop:=Paired fun p q=>RelV p.1 q.1/\RelV p.2 q.2
set_option genInjectivity false in
set_option genSizeOf false in
structure M1(X:Cx)(o:Expr)(m:Str)(apos:Pos)(e:Expr)(cpos:Pos):Prop where
 base:attributeBase o m X.env (eval o X.env)=eval o X.env
 few:((backTo cpos (starEach [e] X.env)).all (fun x=>!x.1)&&(backToKw cpos (keywordEach [] X.env)).all (fun x=>x.1.isSome)
  && decide (([e]:List Expr).length+([]:List Keyword).length+(if([]:List Keyword).isEmpty then 0 else 1)<30))=true
 line:(apos.endLine == cpos.line)=true
 trees:backTo cpos (starEach [e] X.env)=[(false,eval e X.env)]
set_option genInjectivity false in
set_option genSizeOf false in
structure M2(X:Cx)(o:Expr)(m:Str)(apos:Pos)(e f:Expr)(cpos:Pos):Prop where
 base:attributeBase o m X.env (eval o X.env)=eval o X.env
 few:((backTo cpos (starEach [e,f] X.env)).all (fun x=>!x.1)&&(backToKw cpos (keywordEach [] X.env)).all (fun x=>x.1.isSome)
  && decide (([e,f]:List Expr).length+([]:List Keyword).length+(if([]:List Keyword).isEmpty then 0 else 1)<30))=true
 line:(apos.endLine == cpos.line)=true
 trees:backTo cpos (starEach [e,f] X.env)=[(false,eval e X.env),(false,eval f X.env)]
section
variable {X:Cx}{pins:List (Addr × Obj)}{σ:St}{H:Hp}{s:Shared}{a:Addr}{y d:V}{u r:Value}{o:Option V}{A:Around}{E:Value->Shared->Prop}
end
section
variable {X:Cx}{o e f:Expr}{apos cpos:Pos}{td ty tx:TE}
end
section
variable {X:Cx}{pins:List (Addr × Obj)}{σ:St}{H:Hp}{s:Shared}{a:Addr}{kvs:List (Key × V)}{A:Around}{E:Value->Shared->Prop}
end
section
variable {X:Cx}{pins:List (Addr × Obj)}{σ:St}{H:Hp}{s:Shared}{a:Addr}{y:V}{u:Value}{A:Around}{E:Value->Shared->Prop}
end
instance (n:Nat) (m:Int):Decidable (mOk n m):=inferInstanceAs (Decidable (_/\_))
instance (c:Int):Decidable (tOk c):=inferInstanceAs (Decidable (_/\_))
noncomputable def dK (wd:Str) (n:Nat) (P L:Nat->Int) (m c:Int):Nat:=if ¬mOk n m then 1 else if ¬tOk c then 2 else if(wd = "free" /\ L m.toNat<c)\/((wd = "take" \/ wd = "lay")/\P m.toNat<c)then 3 else 0
section
variable {wd:Str}{n:Nat}{P L:Nat->Int}{m c:Int}
noncomputable def BdF (n:Nat) (f:Nat->Int) (B:Int):Prop:=∀i,i<n->0<=f i/\f i<=B
end
set_option genInjectivity false in
set_option genSizeOf false in
structure HX where
 h:Addr
 ro:Addr
 d:Addr
 mr:Addr
 A:HA
 as:List Addr
 own:Int
 n:Nat
 S:Nat->Int
 zs:List (Addr × List V)
noncomputable def mvF:Nat->Nat->Int:=fun _ j=>if j=0 then 1 else -1
set_option genInjectivity false in
set_option genSizeOf false in
structure HD(H0:Hp)(X:HX):Prop where
 n1:X.A.pu≠X.A.pl
 n2:∀x∈[X.A.sh,X.d,X.A.mv,X.mr,X.ro],x≠X.A.pu/\x≠X.A.pl
 n3:∀c∈X.as,c≠X.A.pu/\c≠X.A.pl/\c∉[X.A.sh,X.d,X.A.mv,X.mr,X.ro]
 f1:H0 X.A.pu=none
 f2:H0 X.A.pl=none
 f3:∀c∈X.as,H0 c=none
 n4:∀z∈X.zs,z.1≠X.A.pu/\z.1≠X.A.pl/\z.1∉X.as
set_option genInjectivity false in
set_option genSizeOf false in
structure HW(K:Fg)(C CB:Addr)(lP:Pos)(lQ:Str)(H0:Hp)(X:HX)(H:Hp)(P L:Nat->Int)(R:Nat->Nat->Int):Prop where
 hd:HD H0 X
 e0:SameT H0 H
 hc:HC C H X.h X.A X.own X.n P L
 sh:H X.A.sh=some (.lst ((vec X.n X.S).map V.int))
 hn:HN K CB lP lQ H X.A X.d X.n 0 [] [X.mr] 2 mvF "mean" 1
 ro:H X.ro=some (.lst (X.as.map V.ref))
 rw:Rows H X.as 3 R
 al:X.as.length=X.n
 zl:∀z∈X.zs,H z.1=some (.lst z.2)
section
variable {K:Fg}{C CB:Addr}{lP:Pos}{lQ:Str}{H0:Hp}{X:HX}{H H':Hp}{P L P' L':Nat->Int}{R:Nat->Nat->Int}
end
noncomputable def HX.on (X:HX) (z:Addr) (xs:List V):HX:={ X with zs:=[(z,xs)] }
section
variable (K:Fg)(C CB:Addr)(lP:Pos)(lQ:Str)
end
theorem BdF.mono{n:Nat}{f:Nat->Int}{B B':Int}(h:BdF n f B)(hb:B<=B'):BdF n f B':=fun i hi=>by have:=h i hi;omega
noncomputable def znO (m w:Int) (ts:List (T7 × Str)):Prop:=∀t∈ts,TermOk m w 0 t.1
set_option genInjectivity false in
set_option genSizeOf false in
structure BQ(C:Addr)(H:Hp)(b d ro:Addr)(m w y:Int)(ts:List (T7 × Str))(as:List Addr):Prop where
 B:Bk C H b d m w y ts
 ro:H ro=some (.lst (as.map V.ref))
 R:DRows H as ts
 s:St3 ts
 g:znO m w ts
noncomputable def zgV (C CN CG CS:Addr):Sp:=fun vs H Q E=>∃(b d:Addr) (m w y n:Int) (ts:List (T7 × Str)),vs=[.ref b,.int n]/\Bk C H b d m w y ts /\
 ((∃t,0<=n/\ts[n.toNat]?=some t/\¬t.2=("broken" : Str)/\¬t.2=("settled" : Str)/\∀H',Bk C H' b d m w y (ts.set n.toNat (t.1, "broken"))->ButL d H H'->Q .non H') \/
  (¬(0<=n/\n<ts.length)/\E (.ref CN) none H)\/(∃t,0<=n/\ts[n.toNat]?=some t/\t.2=("broken" : Str)/\E (.ref CG) none H)\/(∃t,0<=n/\ts[n.toNat]?=some t/\t.2=("settled" : Str)/\E (.ref CS) none H))
noncomputable def zcH (ts:List (T7 × Str)) (n:Int) (wa u:Int) (j:Nat):Int:=if j=wa.toNat then z7 ts n wa.toNat+u else z7 ts n j
noncomputable def zaU (ts:List (T7 × Str)) (m wa u:Int) (k:Nat) (F:Nat->Nat->Int) (i:Nat):Int:=zag k (zcH ts m wa u) (F i)
noncomputable def zlA (K:Fg) (C CB:Addr) (lP:Pos) (lQ:Str):Sp:=fun vs H Q _=>∃(h dx d:Addr) (A:HA) (own m y n wa u:Int) (ts:List (T7 × Str)) (bs:List Addr) (k:Nat) (F:Nat->Nat->Int) (w:Str) (c:Int),vs=[.ref h,.int n,.int wa,.int u]/\H h=some (.ins C dx (hfl A own))/\HN K CB lP lQ H A d m y ts bs k F w c/\0<=wa/\wa<(k:Int)/\-1000000<=u/\u<=1000000 /\
 ∀r H' q,SameT H H'->TbW K "worst_days" lP lQ H'->Line (zaU ts n wa u k F) bs.length q->IsQ H' r (z9 w (zaU ts n wa u k F) q c)->SzQ (z9 w (zaU ts n wa u k F) q c) 100 10->Q (.ref r) H'
noncomputable def znw (C CB:Addr):Sp:=fun vs H Q _=>∃(h dx d:Addr) (A:HA) (own m y n:Int) (w:Nat) (ts:List (T7 × Str)),vs=[.ref h,.int n]/\H h=some (.ins C dx (hfl A own))/\Bk CB H A.bk d m (w:Int) y ts/\(∀t∈ts,0<=t.1.w/\t.1.w<(w:Int))/\w<=1000/\∀p H',H p=none->Same H H'->H' p=some (.lst ((vec w (z7 ts n)).map V.int))->Q (.ref p) H'
noncomputable def zlO (C CB CE:Addr):Sp:=fun vs H Q E=>∃(h dx dxb d:Addr) (A:HA) (own m w y n:Int) (xs:List V),vs=[.ref h,.int n]/\H h=some (.ins C dx (hfl A own))/\H A.bk=some (.ins CB dxb (bfl m w y d))/\H d=some (.lst xs)/\((0<=n/\∃v,xs[n.toNat]?=some v/\Q v H)\/(¬(0<=n/\n<xs.length)/\E (.ref CE) none H))
noncomputable def zjK (C CB CN CG CS:Addr):Sp:=fun vs H Q E=>∃(h dx d:Addr) (A:HA) (own m w y n:Int) (ts:List (T7 × Str)) (t:T7 × Str),vs=[.ref h,.int n]/\H h=some (.ins C dx (hfl A own))/\Bk CB H A.bk d m w y ts/\0<=n/\ts[n.toNat]?=some t/\t.2=("standing" : Str)/\∀H',Bk CB H' A.bk d m w y (ts.set n.toNat (t.1, "broken"))->ButL d H H'->Q .non H'
noncomputable def zi7 (K:Fg) (C CB:Addr) (lP:Pos) (lQ:Str) (CM CT CR:Addr):Sp:=fun vs H Q E=>∃(h d:Addr) (A:HA) (own y:Int) (n:Nat) (P L:Nat->Int) (t:T7) (xs:List V) (ts:List (T7 × Str)) (bs:List Addr) (k:Nat) (F:Nat->Nat->Int) (w:Str) (cr:Int),vs=.ref h :: zaE t/\HC C H h A own n P L/\HN K CB lP lQ H A d (n:Int) y ts bs k F w cr/\H d=some (.lst xs)/\xs.length<=1000/\H A.ou=some (.lst ((List.replicate n false).map V.bl))/\(∀i,i<n->sz (L i)<=60000)/\(zam (k:Int) t->y<=t.y) /\
 (¬zaI (n:Int) t.p t.q->∀H',Same H H'->E (.ref CM) none H') /\
 (zaI (n:Int) t.p t.q->¬zam (k:Int) t->∀H',Same H H'->E (.ref CT) none H') /\
 (zaI (n:Int) t.p t.q->zam (k:Int) t ->
  (∀H1 q1,SameT H H1->TbW K "worst_days" lP lQ H1->Line (zaU ts t.p t.w t.u k F) bs.length q1->((L t.p.toNat:Int):Rat)<z9 w (zaU ts t.p t.w t.u k F) q1 cr->E (.ref CR) none H1) /\
  (∀H1 q1 q2,SameT H H1->TbW K "worst_days" lP lQ H1->Line (zaU ts t.p t.w t.u k F) bs.length q1->Line (zaU ts t.q t.w (-t.u) k F) bs.length q2->¬((L t.p.toNat:Int):Rat)<z9 w (zaU ts t.p t.w t.u k F) q1 cr->((L t.q.toNat:Int):Rat)<z9 w (zaU ts t.q t.w (-t.u) k F) q2 cr->E (.ref CR) none H1) /\
  (∀H1 q1 q2 a H2 H3,SameT H H1->TbW K "worst_days" lP lQ H1->Line (zaU ts t.p t.w t.u k F) bs.length q1->Line (zaU ts t.q t.w (-t.u) k F) bs.length q2->¬((L t.p.toNat:Int):Rat)<z9 w (zaU ts t.p t.w t.u k F) q1 cr->¬((L t.q.toNat:Int):Rat)<z9 w (zaU ts t.q t.w (-t.u) k F) q2 cr->Same H1 H2->H2 a=some (.tup (zaP (t,("standing" : Str))))->LBut d H2 H3->H3 d=some (.lst (xs++[.ref a]))->Q (.int xs.length) H3))
noncomputable def zeL (K:Fg):Sp:=fun vs H Q _=>∃(a:Addr) (ns:List Int) (k:Int),vs=[.ref a,.int k]/\SqL K H a (ns.map V.int)/\0<=k/\k<=5000/\∀i,0<=i->i<=1000000000->Q (.int i) H
def zgr:=fun {K:Fg} {a:Addr} {ns:List Int} {k:Int} {H:Hp} {Q:VK} {E:XK} h h0 h1 q=>@id (zeL K [.ref a,.int k] H Q E) ⟨a,ns,k,rfl,h,h0,h1,q⟩
theorem zf1{f g:Nat->Int}:∀k,0-zbo (vec k fun j=>f j*g j)=zag k f g
 | 0=>rfl
 | k+1=>by
  rw[zan,zcj,zeD,<- zf1 k];omega
noncomputable def zjg (K:Fg):Sp:=fun vs H Q _=>∃(a:Addr) (ns:List Int) (st n k:Int),vs=[.ref a,.int st,.int n,.int k]/\SqL K H a (ns.map V.int)/\0<=st/\st<=1000/\1<=n/\n<=60/\1<=k/\k<=9 /\
 ∀l H' as F,H l=none->Same H H'->H' l=some (.lst (as.map V.ref))->as.length=n.toNat->Rows H' as k.toNat F->WithinR 1000000 n.toNat k.toNat F->(∀b∈as,H b=none)->Q (.ref l) H'
noncomputable def zkf (K:Fg):Sp:=fun vs H Q _=>∃(p l:Addr) (k:Nat) (f g:Nat->Int) (m:Int),vs=[.ref p,.ref l]/\H p=some (.lst ((vec k f).map V.int))/\H l=some (.lst ((vec k g).map V.int))/\Within m k f/\Within m k g/\m<=999999999999/\k<=1000/\∀H',Same H H'->Q (.int (zag k f g)) H'
theorem zjZ{L:Nat->Int}{q:List Nat}{c:Nat}(h:c<=q.length):(q.map L).take c=vec c fun i=>L (q.getD i 0):=by
 refine yaN fun i=>?_
 rw[List.getElem?_take]
 by_cases hi:i<c
 ·rw[if_pos hi,yg,zaL hi,yh,yq (by omega)];rfl
 ·rw[if_neg hi,List.getElem?_eq_none (by rw[zJ];omega)]
theorem zdS{L:Nat->Int}{n:Nat}{q:List Nat}{ms:List Int}(h:Line L n q)(hn:n<=64)(hp:ms.Perm (vec n L))(hs:ms.Pairwise (·≥·)):ms=q.map L:=by
 have p2:(q.map L).Perm (vec n L):=h.perm.map L
 have s2:(q.map L).Pairwise (·≥·):=by
  rw[List.pairwise_iff_getElem]
  intro i j hi hj hij
  rw[ya]at hi hj
  have:=h.mono hn (a:=i) (b:=j) (by omega) (by rw[<- h.len];exact hj)
  rw[yh,yh,yq hi,yq hj]at this
  rw[List.getElem_map,List.getElem_map]
  exact this
 exact List.Perm.eq_of_pairwise (fun a b _ _ h1 h2=>by omega) hs s2 (hp.trans p2.symm)
theorem zgR{X:Cx}{p pos kp cp lp:Pos}{elt:Expr}{gens:List Comprehension}{sc:Scope}{ta:TA}{kn:Nat}(hg:Gl X "sorted")(hm:X.mg "sorted" = none)(hv:bootBuiltins "sorted" = some (.builtin "sorted"))(ha:PA X [.ListComp elt gens sc lp] ta):PE X (.Call (.Name "sorted" p) [.ListComp elt gens sc lp] [⟨some "reverse",.Constant (.bool true) kn cp,kp⟩] pos) (tCB (zeg X.K) ta):=zh5 hg hm hv ha
theorem zdR{d n:Int}(hn:0<n):0<Rat.divInt d n↔0<d:=by
 have e:=yah d n
 have hp:(0:Rat)<((n:Int):Rat):=by exact_mod_cast hn
 have hc:Rat.divInt d n*((n:Int):Rat)=((d:Int):Rat):=by
  rw[e]
  refine yat fun z=>?_
  rw[z]at hp;exact absurd hp (by decide)
 constructor
 ·intro h
  have:=Rat.mul_pos h hp
  rw[hc]at this
  exact_mod_cast this
 ·intro h
  rcases Classical.em (0<Rat.divInt d n)with z | z
  ·exact z
  ·have z':Rat.divInt d n<=0:=Rat.not_lt.mp z
   have h1:=yaE z' (Rat.le_of_lt hp)
   rw[hc,Rat.zero_mul]at h1
   have:d<=0:=by exact_mod_cast h1
   omega
section
variable {X:Cx}
noncomputable def zez (K:Fg):List V->Hp->VK->Prop:=fun xs H Q=>∃a ns,xs=[.ref a]/\SqL K H a (List.map V.int ns)/\ns≠[]/\∀x,x∈ns->(∀y∈ns,y<=x)->Q (.int x) H
theorem zde(hc:X.calm=true):CallR X (.builtin "max") (zez X.K):=by
 intro pins s σ H xs us Q I r h
 obtain⟨a,ns,rfl,hq,hne0,q⟩:=h
 obtain⟨u,rfl,r1⟩:=vals1 r
 cases r1
 obtain⟨its,rv,pl,hl,hlt⟩:=I.walk hq
 refine call_max_walkS (wpAny_pyIter_list pl ?_)
 have hne:a≠s.heap.objs.size:=ym hlt
 have hn:(its.toArray).size=ns.length:=by rw[ya]at hl;simpa using hl
 have hpos:0<ns.length:=List.length_pos_iff.mpr hne0
 refine⟨_,_,_,_,_,_,_,_,rfl,(Walks.list (prog:=X.prog) (w:=X.w) (A:=X.A.in1) (I.ok.hd hc) s.heap.objs.size a hne its.toArray).toS,⟨⟨_,Heap.get?_push_size _ rfl,rfl,rfl⟩,pl.at fun o e=>Heap.get?_push_of_some _ e⟩,fun b hb=>?_,by rw[hn];exact hpos,CmpOf.ints_gt (fun i=>ns.getD i 0) (fun i v hv=>zdi rv hv),fun v s' hv hm=>?_⟩
 ·rw[Heap.size_push]
  simp only[ye,yy,or_false]at hb
  rcases hb with rfl | rfl
  ·exact y3 _
  ·exact yaM hlt
 ·obtain⟨t,rfl⟩:=zdi rv hv
  obtain⟨b1,b2⟩:=argBest_gt (fun i=>ns.getD i 0) (its.toArray.size-1)
  rw[hn]at b1 b2 ⊢
  have hg:s'.gens=s.gens:=by have:=hm.gens;first | exact this | exact this.symm
  have hd:=hm.drawn
  have ho:=hm.os
  have I1:Inv X pins σ H { s with heap:=s'.heap,toks:=s'.toks }:=I.kept fun b o e=>hm.heap b o (fun z=>by
   simp only[ye,yy,or_false]at z
   subst z
   exact absurd (Heap.lt_size e) (yN _)) (Heap.get?_push_of_some _ e)
  have e:({ s with heap:=s'.heap,toks:=s'.toks }:Shared)=s':=by
   cases s';cases s
   simp only at hg hd ho
   subst hg hd ho;rfl
  rw[e]at I1
  refine⟨.int (ns.getD (argBest (fun i j=>decide (ns.getD i 0>ns.getD j 0)) (ns.length-1)) 0),H,I1,⟨t,rfl⟩,q _ ?_ fun y hy=>?_⟩
  ·exact yp (zgA (by omega))
  ·obtain⟨i,hi,ei⟩:=yZ hy
   have:=b2 i (by omega)
   rwa [show ns.getD i 0=y by rw[yh,yq hi,ei];rfl]at this
noncomputable def zhr:List V->Hp->VK->Prop:=fun xs H Q=>∃i j k,xs=[.int i,.int j,.int k]/\Q (.int (if j<i then(if k<j then k else j) else(if k<i then k else i))) H
theorem vals3{x y z:V}{us:List Value}(r:Vals [x,y,z] us):∃u w' w'',us=[u,w',w'']/\RelV x u/\RelV y w'/\RelV z w'':=by
 cases r with
 | cons r1 r2=>
  obtain⟨a,b,rfl,h1,h2⟩:=vals2 r2
  exact⟨_,_,_,rfl,r1,h1,h2⟩
theorem zi5(hc:X.calm=true):CallR X (.builtin "min") zhr:=by
 intro pins s σ H xs us Q I r h
 obtain⟨i,j,k,rfl,q⟩:=h
 obtain⟨u,w',w'',rfl,⟨t,rfl⟩,⟨t',rfl⟩,⟨t'',rfl⟩⟩:=vals3 r
 refine min_three_ints (I.ok.hd hc) fun h' tk k'=>⟨_,H,I.kept k',?_,q⟩
 by_cases hj:j<i
 ·rw[if_pos hj,if_pos hj]
  by_cases hk:k<j
  ·rw[if_pos hk,if_pos hk];exact⟨_,rfl⟩
  ·rw[if_neg hk,if_neg hk];exact⟨_,rfl⟩
 ·rw[if_neg hj,if_neg hj]
  by_cases hk:k<i
  ·rw[if_pos hk,if_pos hk];exact⟨_,rfl⟩
  ·rw[if_neg hk,if_neg hk];exact⟨_,rfl⟩
end
theorem zgi{K:Fg}{H:Hp}{Q:VK}{a:Addr}{ns:List Int}(h:SqL K H a (ns.map V.int))(ne:ns≠[])(q:∀x,x∈ns->(∀y∈ns,y<=x)->Q (.int x) H):zez K [.ref a] H Q:=⟨a,ns,rfl,h,ne,q⟩
theorem zns{H:Hp}{Q:VK}{i j k:Int}(q:∀x,x<=i->x<=j->x<=k->(x=i\/x=j\/x=k)->Q (.int x) H):zhr [.int i,.int j,.int k] H Q:=⟨i,j,k,rfl,q _ (by split<;>split<;>omega) (by split<;>split<;>omega) (by split<;>split<;>omega) (by split<;>split<;>omega)⟩
noncomputable def zbz (a b:Int):Int:=0-(0-a)/b
theorem zlD{x a b:Int}(hb:0<b):((x:Int):Rat)<Rat.divInt a b↔x*b<a:=by
 have hp:(0:Rat)<((b:Int):Rat):=by exact_mod_cast hb
 have hc:Rat.divInt a b*((b:Int):Rat)=((a:Int):Rat):=by
  rw[yah]
  exact yat fun z=>by rw[z]at hp;exact absurd hp (by decide)
 constructor
 ·intro h
  have:=yaJ h hp
  rw[hc]at this
  exact_mod_cast this
 ·intro h
  rcases Classical.em (((x:Int):Rat)<Rat.divInt a b)with z | z
  ·exact z
  ·have h1:=yaE (Rat.not_lt.mp z) (Rat.le_of_lt hp)
   rw[hc]at h1
   have:a<=x*b:=by exact_mod_cast h1
   omega
theorem zdx{x a b:Int}(hb:0<b):((x:Int):Rat)<Rat.divInt a b↔x<zbz a b:=by
 rw[zlD hb]
 unfold zbz
 have h1:=yal (0-a) b
 have h2:=yR (0-a) (b:=b) (by omega)
 have h3:=yL (0-a) hb
 generalize (0-a)/b=c at *
 generalize (0-a)%b=r at *
 constructor
 ·intro h
  rcases Classical.em (x<0-c)with z | z
  ·exact z
  ·have:(0-c)*b<=x*b:=yK (by omega) (by omega)
   rw[Int.sub_mul,Int.zero_mul,Int.mul_comm c b]at this
   omega
 ·intro h
  have:x*b<=(0-c-1)*b:=yK (by omega) (by omega)
  rw[Int.sub_mul,Int.sub_mul,Int.zero_mul,Int.mul_comm c b,Int.one_mul]at this
  omega
theorem zjN{a b:Int}(hb:0<b):(a+b-1)/b=zbz a b:=by
 unfold zbz
 have h1:=yal (0-a) b
 have h2:=yR (0-a) (b:=b) (by omega)
 have h3:=yL (0-a) hb
 have g1:=yal (a+b-1) b
 have g2:=yR (a+b-1) (b:=b) (by omega)
 have g3:=yL (a+b-1) hb
 generalize (0-a)/b=c at *
 generalize (0-a)%b=r at *
 generalize (a+b-1)/b=d at *
 generalize (a+b-1)%b=s at *
 have e:b*(c+d)=b*c+b*d:=Int.mul_add ..
 rcases Int.lt_trichotomy (c+d) 0 with z | z | z
 ·have:b*(c+d)<=b*(-1):=yaF (by omega) (by omega)
  omega
 ·omega
 ·have:b*1<=b*(c+d):=yaF (by omega) (by omega)
  omega
noncomputable def zar (x:Int):Int:=if x>0 then x else 0
set_option genInjectivity false in
set_option genSizeOf false in
structure IsNd(w:Str)(L:Nat->Int)(n:Nat)(c a b:Int):Prop where
 a0:0<=a
 a1:a<=1000000000000000000000000000
 b0:1<=b
 b1:b<=64
 q:∀q,Line L n q->z9 w L q c=Rat.divInt a b
theorem zhB{L:Nat->Int}{q:List Nat}{c:Int}:z9 "worst" L q c=Rat.divInt (zar (L (q.getD (c.toNat-1) 0))) 1:=by
 unfold z9 zbZ pos0 zar
 rw[show decide (("worst" : Str) = "mean")=false by decide +kernel,if_neg (show ¬false=true by decide)]
 have e:∀x:Int,Rat.divInt x 1=((x:Int):Rat):=fun x=>by rw[yah];show((x:Int):Rat)/1=_;grind
 rw[e]
 by_cases h:L (q.getD (c.toNat-1) 0)>0
 ·rw[if_pos h,if_pos (by exact_mod_cast h)]
 ·rw[if_neg h,if_neg (fun z=>h (by exact_mod_cast z))];rfl
theorem ziY{L:Nat->Int}{q:List Nat}{c:Int}(hc:1<=c):z9 "mean" L q c=Rat.divInt (zar (lsum L (q.take c.toNat))) c:=by
 unfold z9 zbZ pos0 zar
 rw[show decide (("mean" : Str) = "mean")=true by decide +kernel,if_pos rfl,show((c.toNat:Nat):Int)=c by omega]
 by_cases h:lsum L (q.take c.toNat)>0
 ·rw[if_pos h,if_pos ((zdR (by omega)).mpr h)]
 ·rw[if_neg h,if_neg (fun z=>h ((zdR (by omega)).mp z)),Rat.zero_divInt]
theorem zmo(x:Int)(xs:List Int):zbo (x :: xs)=x+zbo xs:=by
 have:∀(ys:List Int) (a:Int),ys.foldl (·+·) a=a+ys.foldl (·+·) 0:=fun ys=>by
  induction ys with
  | nil=>intro a;show a=a+0;omega
  | cons z ys ih=>intro a;rw[yaB,yaB,ih (a+z),ih (0+z)];omega
 show(x :: xs).foldl (·+·) 0=x+xs.foldl (·+·) 0
 rw[yaB,this xs (0+x)];omega
theorem zhd{B:Int}:∀{xs:List Int},(∀x∈xs,x<=B)->zbo xs<=(xs.length:Int)*B
 | [],_=>by show(0:Int)<=(0:Int)*B;omega
 | x :: xs,h=>by
  have h1:=h x (.head _)
  have h2:=zhd (xs:=xs) fun y hy=>h y (.tail _ hy)
  rw[zmo,yM,Int.natCast_add,Int.add_mul]
  show x+zbo xs<=_+1*B
  omega
theorem zic{L:Nat->Int}{n:Nat}{c:Int}{ms:List Int}{x:Int}(hn:n<=64)(hp:ms.Perm (vec n L))(hs:ms.Pairwise (·≥·))(c0:1<=c)(c1:c<=n)(hx:ms[(c-1).toNat]?=some x)(hb:∀i,i<n->L i<=9000000000000000000000000):IsNd "worst" L n c (zar x) 1:=by
 have hm:x∈vec n L:=hp.mem_iff.mp (yp hx)
 have hxb:x<=9000000000000000000000000:=by
  unfold vec at hm
  obtain⟨i,hi,e⟩:=yas.mp hm
  rw[<- e];exact hb i (y8.mp hi)
 refine⟨by unfold zar;split<;>omega,by unfold zar;split<;>omega,by omega,by omega,fun q hL=>?_⟩
 have e:=zdS hL hn hp hs
 rw[e,yg]at hx
 rw[zhB,yh,show c.toNat-1=(c-1).toNat by omega]
 cases h:q[(c-1).toNat]? with
 | none=>rw[h]at hx;cases hx
 | some d=>rw[h]at hx;rw[<- yn hx];rfl
theorem zit{L:Nat->Int}{n:Nat}{c:Int}{ms:List Int}(hn:n<=64)(hp:ms.Perm (vec n L))(hs:ms.Pairwise (·≥·))(c0:1<=c)(c1:c<=n)(hb:∀i,i<n->L i<=9000000000000000000000000):IsNd "mean" L n c (zar (zbo (ms.take c.toNat))) c:=by
 have hxb:∀x∈ms.take c.toNat,x<=9000000000000000000000000:=fun x hx=>by
  have hm:=hp.mem_iff.mp (List.mem_of_mem_take hx)
  unfold vec at hm
  obtain⟨i,hi,e⟩:=yas.mp hm
  rw[<- e];exact hb i (y8.mp hi)
 have h1:=zhd hxb
 have h2:((ms.take c.toNat).length:Int)<=64:=by rw[yU];omega
 have h3:=yK h2 (show(0:Int)<=9000000000000000000000000 by decide)
 refine⟨by unfold zar;split<;>omega,by unfold zar;split<;>omega,c0,by omega,fun q hL=>?_⟩
 have e:=zdS hL hn hp hs
 rw[ziY c0,e,zjZ (by rw[hL.len];omega),zd6,<- zdu _ _ _ (by rw[hL.len];omega)]
noncomputable def zki (K:Fg):Sp:=fun vs H Q _=>∃(p ru l:Addr) (w:Str) (c:Int) (as:List Addr) (k:Nat) (f:Nat->Int) (F:Nat->Nat->Int) (m:Int),vs=[.ref p,.ref ru,.ref l]/\H p=some (.lst ((vec k f).map V.int))/\H ru=some (.tup [.str w,.int c])/\H l=some (.lst (as.map V.ref))/\Rows H as k F/\Within m k f/\WithinR m as.length k F/\m<=999999999999/\k<=9/\as.length<64/\zbh w c as.length /\
 ∀r H' a b,H r=none->Same H H'->H' r=some (.tup [.int a,.int b])->IsNd w (fun i=>zag k f (F i)) as.length c a b->Q (.ref r) H'
set_option genInjectivity false in
set_option genSizeOf false in
structure KD8(n k:Int)(t:T7 × Str):Prop where
 p0:0<=t.1.p
 p1:t.1.p<n
 q0:0<=t.1.q
 q1:t.1.q<n
 pq:t.1.p≠t.1.q
 w0:0<=t.1.w
 w1:t.1.w<k
 u0:1<=t.1.u
 u1:t.1.u<=1000000
 st:t.2=("standing" : Str)\/t.2=("broken" : Str)
theorem KD8.lay{n k:Int}{t:T7 × Str}(h:KD8 n k t):PyData.canLay0 (.str t.2)=true:=by
 rcases h.st with e | e<;>rw[e]<;>decide +kernel
noncomputable def zlP:Sp:=fun vs H Q _=>∃(ro:Addr) (n k:Int) (us:List (T7 × Str)) (as:List Addr),vs=[.ref ro,.int n,.int k]/\H ro=some (.lst (as.map V.ref))/\DRows H as us/\(∀t∈us,KD8 n k t)/\0<=n/\n<=100/\1<=k/\k<=100/\us.length<=1000 /\
 ∀r H' ps,H r=none->Same H H'->H' r=some (.lst (ps.map V.ref))->ps.length=n.toNat->Rows H' ps k.toNat (fun i=>z7 us (i:Int))->(∀b∈ps,H b=none)->Q (.ref r) H'
theorem ziT{t:T7 × Str}{j:Nat}(hs:t.2=("standing" : Str))(w0:0<=t.1.w):zay t t.1.p j=if j=t.1.w.toNat then t.1.u else 0:=by
 unfold zay
 by_cases h:j=t.1.w.toNat
 ·rw[if_pos ⟨hs,by omega⟩,if_pos rfl,if_pos h]
 ·rw[if_neg (fun z=>h (by have:=z.2;omega)),if_neg h]
theorem zij{t:T7 × Str}{j:Nat}(hs:t.2=("standing" : Str))(w0:0<=t.1.w)(pq:t.1.p≠t.1.q):zay t t.1.q j=if j=t.1.w.toNat then -t.1.u else 0:=by
 unfold zay
 by_cases h:j=t.1.w.toNat
 ·rw[if_pos ⟨hs,by omega⟩,if_neg pq,if_pos rfl,if_pos h]
 ·rw[if_neg (fun z=>h (by have:=z.2;omega)),if_neg h]
theorem zmh{t:T7 × Str}{m:Int}{j:Nat}(h1:t.1.p≠m)(h2:t.1.q≠m):zay t m j=0:=by
 unfold zay
 rw[if_neg h1,if_neg h2];split<;>rfl
theorem zme{t:T7 × Str}{m:Int}{j:Nat}(h:¬t.2=("standing" : Str)):zay t m j=0:=by
 unfold zay
 rw[if_neg fun z=>h z.1]
theorem ze7{ts:List (T7 × Str)}{t:T7}{k:Nat}{F:Nat->Nat->Int}(w0:0<=t.w):zaU ts t.p t.w t.u k F=zaa (ts++[(t,("standing" : Str))]) t.p k F:=by
 funext i
 unfold zaU zaa
 congr 1
 funext j
 rw[zd0]
 show zcH ts t.p t.w t.u j=_+(zay (t,("standing" : Str)) t.p j+0)
 rw[show zay (t,("standing" : Str)) t.p j=_ from ziT (t:=(t,("standing" : Str))) rfl w0]
 unfold zcH
 split
 ·rename_i h;rw[<- h];show _+t.u=_+(t.u+0);omega
 ·omega
theorem zg6{ts:List (T7 × Str)}{t:T7}{k:Nat}{F:Nat->Nat->Int}(w0:0<=t.w)(pq:t.p≠t.q):zaU ts t.q t.w (-t.u) k F=zaa (ts++[(t,("standing" : Str))]) t.q k F:=by
 funext i
 unfold zaU zaa
 congr 1
 funext j
 rw[zd0]
 show zcH ts t.q t.w (-t.u) j=_+(zay (t,("standing" : Str)) t.q j+0)
 rw[show zay (t,("standing" : Str)) t.q j=_ from zij (t:=(t,("standing" : Str))) rfl w0 pq]
 unfold zcH
 split
 ·rename_i h;rw[<- h];show _ + -t.u=_+(-t.u+0);omega
 ·omega
noncomputable def zhx:Sp:=fun vs H Q _=>∃(r t:Addr) (q:Rat) (a b:Int),vs=[.ref r,.ref t]/\IsQ H r q/\H t=some (.tup [.int a,.int b])/\SzQ q 100 10/\0<=a/\a<=1000000000000000000000000000/\1<=b/\b<=64/\q=Rat.divInt a b/\∀H',Same H H'->Q (.bl true) H'
theorem LBut.l{l:Addr}{H H':Hp}(g:LBut l H H'):ButL l H H':=⟨fun b o n q=>g.1.at q n,g.2⟩
theorem ButL.sameT{l:Addr}{H0 H H':Hp}(g:ButL l H H')(e:SameT H0 H)(h:H0 l=none):SameT H0 H':=
 ⟨fun b o q n=>g.1 b o (zC q h) (e.keep b o q n),fun b ps q=>by obtain⟨ps',q'⟩:=e.tb b ps q;exact⟨ps',g.1 b _ (zC q h) q'⟩⟩
theorem ButL.tb{l:Addr}{H H':Hp}{K:Fg}{x qual:Str}{pos:Pos}(g:ButL l H H')(h:TbW K x pos qual H):TbW K x pos qual H':=by
 obtain⟨ys,e⟩:=g.2
 obtain⟨ps,h1,h2,h3⟩:=h
 refine⟨ps,g.1 _ _ (zaF h1 e (by intro z;cases z)) h1,h2,h3.imp id fun⟨c,a,b⟩=>⟨c,a,g.1 _ _ (zaF b e (by intro z;cases z)) b⟩⟩
theorem Rows.butL{l:Addr}{H H':Hp}{as:List Addr}{k:Nat}{F:Nat->Nat->Int}(h:Rows H as k F)(g:ButL l H H')(n:l∉as):Rows H' as k F:=
 ⟨h.1,fun i a q=>g.at (h.2 i a q) fun z=>n (z▸yp q)⟩
theorem HN.butL{K:Fg}{CB:Addr}{lP:Pos}{lQ:Str}{H H':Hp}{A:HA}{d:Addr}{m y:Int}{ts:List (T7 × Str)}{bs:List Addr}{k:Nat}{F:Nat->Nat->Int}{w:Str}{c:Int}{l:Addr}(h:HN K CB lP lQ H A d m y ts bs k F w c)(g:ButL l H H')(n1:d≠l)(n2:A.mv≠l)(n3:l∉bs):HN K CB lP lQ H' A d m y ts bs k F w c:=by
 obtain⟨⟨dx,h1⟩,xs,h2,h3⟩:=id h.bk
 exact⟨⟨⟨dx,g.ins h1⟩,xs,g.at h2 n1,g.isTs h3⟩,h.tok,h.tu,h.tl,g.tup h.ru,g.at h.mv n2,h.rows.butL g n3,h.fw,h.ok,h.k9,h.n64,g.tb h.tb⟩
set_option genInjectivity false in
set_option genSizeOf false in
structure KX where
 h:Addr
 ro:Addr
 d:Addr
 lp:Addr
 mv:Addr
 ru:Addr
 A:HA
 bs:List Addr
 ms:List Addr
 own:Int
 n:Nat
 k:Nat
 F:Nat->Nat->Int
 w:Str
 c:Int
noncomputable def muts (X:KX) (as:List Addr):List Addr:=X.A.pu :: X.A.pl :: X.d :: X.ro :: X.lp :: as
noncomputable def imms (X:KX) (zs:List (Addr × List V)):List Addr:=X.A.ou :: X.A.mv :: X.mv :: (X.bs++(X.ms++zs.map (·.1)))
set_option genInjectivity false in
set_option genSizeOf false in
structure KW(K:Fg)(C CB:Addr)(lP:Pos)(lQ:Str)(H0:Hp)(X:KX)(H:Hp)(P L G:Nat->Int)(ts us:List (T7 × Str))(as:List Addr)(zs:List (Addr × List V)):Prop where
 e0:SameT H0 H
 hc:HC C H X.h X.A X.own X.n P L
 hn:HN K CB lP lQ H X.A X.d X.n 0 ts X.bs X.k X.F X.w X.c
 ou:H X.A.ou=some (.lst ((List.replicate X.n false).map V.bl))
 ro:H X.ro=some (.lst (as.map V.ref))
 dr:DRows H as us
 uk:∀t∈us,KD8 X.n X.k t
 lp:H X.lp=some (.lst ((vec X.n G).map V.int))
 mv:H X.mv=some (.lst (X.ms.map V.ref))
 mr:Rows H X.ms X.k X.F
 ml:X.ms.length=X.bs.length
 ru:H X.ru=some (.tup [.str X.w,.int X.c])
 zl:∀z∈zs,H z.1=some (.lst z.2)
 n1:(muts X as).Nodup
 n2:∀x∈imms X zs,x∉muts X as
 f:∀x∈muts X as,H0 x=none
section
variable {K:Fg}{C CB:Addr}{lP:Pos}{lQ:Str}{H0:Hp}{X:KX}{H H':Hp}{P L G P' L' G':Nat->Int}{ts us:List (T7 × Str)}{as:List Addr}{zs:List (Addr × List V)}
theorem KW.sameT(h:KW K C CB lP lQ H0 X H P L G ts us as zs)(e:SameT H H')(t:TbW K "worst_days" lP lQ H'):KW K C CB lP lQ H0 X H' P L G ts us as zs:=by
 obtain⟨⟨dx,h1⟩,h2,h3,h4⟩:=h.hc
 exact⟨h.e0.trans e,⟨⟨dx,e.ins h1⟩,e.lst h2,e.lst h3,h4⟩,h.hn.sameT e t,e.lst h.ou,e.lst h.ro,⟨h.dr.1,h.dr.2.1,fun i a t q1 q2=>e.lst (h.dr.2.2 i a t q1 q2)⟩,h.uk,e.lst h.lp,e.lst h.mv,e.rows h.mr,h.ml,e.tup h.ru,fun z hz=>e.lst (h.zl z hz),h.n1,h.n2,h.f⟩
theorem KW.same(h:KW K C CB lP lQ H0 X H P L G ts us as zs)(e:Same H H'):KW K C CB lP lQ H0 X H' P L G ts us as zs:=h.sameT e.t (TbW.same e h.hn.tb)
theorem KW.ne(h:KW K C CB lP lQ H0 X H P L G ts us as zs):(X.A.pu≠X.A.pl/\X.A.pu≠X.d/\X.A.pu≠X.ro/\X.A.pu≠X.lp/\X.A.pu∉as)/\(X.A.pl≠X.d/\X.A.pl≠X.ro/\X.A.pl≠X.lp/\X.A.pl∉as)/\(X.d≠X.ro/\X.d≠X.lp/\X.d∉as)/\(X.ro≠X.lp/\X.ro∉as)/\X.lp∉as/\as.Nodup:=by
 have n:=h.n1
 unfold muts at n
 simpa only[yJ,ye,not_or]using n
theorem KW.imm(h:KW K C CB lP lQ H0 X H P L G ts us as zs){l x:Addr}(hl:l∈muts X as)(hx:x∈imms X zs):x≠l:=fun e=>h.n2 x hx (e▸hl)
theorem KW.keep(h:KW K C CB lP lQ H0 X H P L G ts us as zs){l:Addr}(hl:l∈muts X as)(g:ButL l H H'):SameT H0 H'/\H' X.A.ou=some (.lst ((List.replicate X.n false).map V.bl))/\H' X.mv=some (.lst (X.ms.map V.ref))/\Rows H' X.ms X.k X.F/\H' X.ru=some (.tup [.str X.w,.int X.c])/\(∀z∈zs,H' z.1=some (.lst z.2))/\(∃dx,H' X.h=some (.ins C dx (hfl X.A X.own)))/\(X.d≠l->HN K CB lP lQ H' X.A X.d X.n 0 ts X.bs X.k X.F X.w X.c):=by
 have im:∀{x},x∈imms X zs->x≠l:=fun hx=>h.imm hl hx
 obtain⟨dx,h1⟩:=h.hc.ob
 have mb:∀b∈X.bs,b∈imms X zs:=fun b hb=>by unfold imms;exact .tail _ (.tail _ (.tail _ (yO _ hb)))
 have mm:∀b∈X.ms,b∈imms X zs:=fun b hb=>by unfold imms;exact .tail _ (.tail _ (.tail _ (yv _ (yO _ hb))))
 have mz:∀z∈zs,z.1∈imms X zs:=fun z hz=>by unfold imms;exact .tail _ (.tail _ (.tail _ (yv _ (yv _ (yas.mpr ⟨z,hz,rfl⟩)))))
 have i1:X.A.ou∈imms X zs:=.head _
 have i2:X.A.mv∈imms X zs:=.tail _ (.head _)
 have i3:X.mv∈imms X zs:=.tail _ (.tail _ (.head _))
 refine⟨g.sameT h.e0 (h.f l hl),g.at h.ou (im i1),g.at h.mv (im i3),h.mr.butL g fun z=>im (mm _ z) rfl,g.tup h.ru,fun z hz=>g.at (h.zl z hz) (im (mz z hz)),⟨dx,g.ins h1⟩,fun nd=>h.hn.butL g nd (im i2) fun z=>im (mb _ z) rfl⟩
theorem KW.drk(h:KW K C CB lP lQ H0 X H P L G ts us as zs){l:Addr}(g:ButL l H H')(n:l∉as):DRows H' as us:=h.dr.keep fun a o ha q=>g.at q fun z=>n (z▸ha)
theorem KW.pu(h:KW K C CB lP lQ H0 X H P L G ts us as zs)(g:ButL X.A.pu H H')(q:H' X.A.pu=some (.lst ((vec X.n P').map V.int))):KW K C CB lP lQ H0 X H' P' L G ts us as zs:=by
 obtain⟨⟨a1,a2,a3,a4,a5⟩,_⟩:=h.ne
 obtain⟨k1,k2,k3,k4,k5,k6,k7,k8⟩:=h.keep (l:=X.A.pu) (.head _) g
 exact⟨k1,⟨k7,q,g.at h.hc.pl a1.symm,h.hc.ne⟩,k8 a2.symm,k2,g.at h.ro a3.symm,h.drk g a5,h.uk,g.at h.lp a4.symm,k3,k4,h.ml,k5,k6,h.n1,h.n2,h.f⟩
theorem KW.pl(h:KW K C CB lP lQ H0 X H P L G ts us as zs)(g:ButL X.A.pl H H')(q:H' X.A.pl=some (.lst ((vec X.n L').map V.int))):KW K C CB lP lQ H0 X H' P L' G ts us as zs:=by
 obtain⟨⟨a1,a2,a3,a4,a5⟩,⟨b1,b2,b3,b4⟩,_⟩:=h.ne
 obtain⟨k1,k2,k3,k4,k5,k6,k7,k8⟩:=h.keep (l:=X.A.pl) (.tail _ (.head _)) g
 exact⟨k1,⟨k7,g.at h.hc.pu a1,q,h.hc.ne⟩,k8 b1.symm,k2,g.at h.ro b2.symm,h.drk g b4,h.uk,g.at h.lp b3.symm,k3,k4,h.ml,k5,k6,h.n1,h.n2,h.f⟩
theorem KW.lq(h:KW K C CB lP lQ H0 X H P L G ts us as zs)(g:ButL X.lp H H')(q:H' X.lp=some (.lst ((vec X.n G').map V.int))):KW K C CB lP lQ H0 X H' P L G' ts us as zs:=by
 obtain⟨⟨a1,a2,a3,a4,a5⟩,⟨b1,b2,b3,b4⟩,⟨c1,c2,c3⟩,⟨d1,d2⟩,e1,_⟩:=h.ne
 obtain⟨k1,k2,k3,k4,k5,k6,k7,k8⟩:=h.keep (l:=X.lp) (.tail _ (.tail _ (.tail _ (.tail _ (.head _))))) g
 exact⟨k1,⟨k7,g.at h.hc.pu a4,g.at h.hc.pl b3,h.hc.ne⟩,k8 c2,k2,g.at h.ro d1,h.drk g e1,h.uk,q,k3,k4,h.ml,k5,k6,h.n1,h.n2,h.f⟩
theorem KW.dl{ts':List (T7 × Str)}(h:KW K C CB lP lQ H0 X H P L G ts us as zs)(g:ButL X.d H H')(q:Bk CB H' X.A.bk X.d X.n X.k 0 ts')(h1:∀t∈ts',0<=t.1.w/\t.1.w<(X.k:Int))(h2:∀t∈ts',1<=t.1.u/\t.1.u<=1000000)(h3:ts'.length<=1000):KW K C CB lP lQ H0 X H' P L G ts' us as zs:=by
 obtain⟨⟨a1,a2,a3,a4,a5⟩,⟨b1,b2,b3,b4⟩,⟨c1,c2,c3⟩,⟨d1,d2⟩,e1,_⟩:=h.ne
 have m:X.d∈muts X as:=.tail _ (.tail _ (.head _))
 obtain⟨k1,k2,k3,k4,k5,k6,k7,_⟩:=h.keep m g
 have i2:X.A.mv∈imms X zs:=.tail _ (.head _)
 have mb:∀b∈X.bs,b∈imms X zs:=fun b hb=>by unfold imms;exact .tail _ (.tail _ (.tail _ (yO _ hb)))
 exact⟨k1,⟨k7,g.at h.hc.pu a2,g.at h.hc.pl b1,h.hc.ne⟩,⟨q,h1,h2,h3,g.tup h.hn.ru,g.at h.hn.mv (h.imm m i2),h.hn.rows.butL g fun z=>h.imm m (mb _ z) rfl,h.hn.fw,h.hn.ok,h.hn.k9,h.hn.n64,g.tb h.hn.tb⟩,k2,g.at h.ro c1.symm,h.drk g c3,h.uk,g.at h.lp c2.symm,k3,k4,h.ml,k5,k6,h.n1,h.n2,h.f⟩
theorem KW.row{c:Addr}{j:Nat}{t:T7 × Str}(h:KW K C CB lP lQ H0 X H P L G ts us as zs)(g:LBut c H H')(hc:as[j]?=some c)(q:H' c=some (.lst (zaP t)))(hk:KD8 X.n X.k t):KW K C CB lP lQ H0 X H' P L G ts (us.set j t) as zs:=by
 obtain⟨⟨a1,a2,a3,a4,a5⟩,⟨b1,b2,b3,b4⟩,⟨c1,c2,c3⟩,⟨d1,d2⟩,e1,_⟩:=h.ne
 have hm:=yp hc
 have m:c∈muts X as:=by unfold muts;exact .tail _ (.tail _ (.tail _ (.tail _ (.tail _ hm))))
 obtain⟨k1,k2,k3,k4,k5,k6,k7,k8⟩:=h.keep m g.l
 have ne:∀{x},x∉as->x≠c:=fun hx z=>hx (z▸hm)
 exact⟨k1,⟨k7,g.lst h.hc.pu (ne a5),g.lst h.hc.pl (ne b4),h.hc.ne⟩,k8 (ne c3),k2,g.lst h.ro (ne d2),h.dr.set hc g q,fun u hu=>(List.mem_or_eq_of_mem_set hu).elim (h.uk u) fun e=>e▸hk,g.lst h.lp (ne e1),k3,k4,h.ml,k5,k6,h.n1,h.n2,h.f⟩
theorem KW.fresh(h:KW K C CB lP lQ H0 X H P L G ts us as zs){p:Addr}(hp:H p=none):p∉muts X as/\p∉imms X zs/\H0 p=none:=by
 have no:∀{x:Addr} {o:HO},H x=some o->p≠x:=fun q z=>by rw[<- z,hp]at q;cases q
 obtain⟨_,xs,hd,_⟩:=h.hn.bk
 refine⟨fun z=>?_,fun z=>?_,SameT.none hp h.e0⟩
 ·unfold muts at z
  simp only[ye]at z
  rcases z with z | z | z | z | z | z
  ·exact no h.hc.pu z
  ·exact no h.hc.pl z
  ·exact no hd z
  ·exact no h.ro z
  ·exact no h.lp z
  ·exact h.dr.fresh hp z
 ·unfold imms at z
  simp only[ye,yu]at z
  rcases z with z | z | z | z | z | z
  ·exact no h.ou z
  ·exact no h.hn.mv z
  ·exact no h.mv z
  ·exact h.hn.rows.fresh hp z
  ·exact h.mr.fresh hp z
  ·obtain⟨y,hy,e⟩:=yas.mp z
   exact no (h.zl y hy) e.symm
theorem KW.more(h:KW K C CB lP lQ H0 X H P L G ts us as zs){l:Addr}{vs:List V}(hl:H l=some (.lst vs))(n:l∉muts X as):KW K C CB lP lQ H0 X H P L G ts us as ((l,vs) :: zs):=
 ⟨h.e0,h.hc,h.hn,h.ou,h.ro,h.dr,h.uk,h.lp,h.mv,h.mr,h.ml,h.ru,fun z hz=>(ye.mp hz).elim (fun e=>by rw[e];exact hl) (h.zl z),h.n1,fun x hx=>by
  unfold imms at hx
  simp only[ye,yu,yH]at hx
  have go:∀{y},y∈imms X zs->y∉muts X as:=fun {y} hy=>h.n2 y hy
  unfold imms at go
  simp only[ye,yu]at go
  rcases hx with z | z | z | z | z | z | z
  ·exact go (.inl z)
  ·exact go (.inr (.inl z))
  ·exact go (.inr (.inr (.inl z)))
  ·exact go (.inr (.inr (.inr (.inl z))))
  ·exact go (.inr (.inr (.inr (.inr (.inl z)))))
  ·rw[z];exact n
  ·exact go (.inr (.inr (.inr (.inr (.inr z))))),h.f⟩
theorem KW.less{z0:Addr × List V}(h:KW K C CB lP lQ H0 X H P L G ts us as (z0 :: zs)):KW K C CB lP lQ H0 X H P L G ts us as zs:=
 ⟨h.e0,h.hc,h.hn,h.ou,h.ro,h.dr,h.uk,h.lp,h.mv,h.mr,h.ml,h.ru,fun z hz=>h.zl z (.tail _ hz),h.n1,fun x hx=>h.n2 x (by
  unfold imms at hx ⊢
  simp only[ye,yu,yH]at hx ⊢
  rcases hx with z | z | z | z | z | z
  ·exact .inl z
  ·exact .inr (.inl z)
  ·exact .inr (.inr (.inl z))
  ·exact .inr (.inr (.inr (.inl z)))
  ·exact .inr (.inr (.inr (.inr (.inl z))))
  ·exact .inr (.inr (.inr (.inr (.inr (.inr z)))))),h.f⟩
theorem KW.add{p:Addr}{t:T7 × Str}(h:KW K C CB lP lQ H0 X H P L G ts us as zs)(g:ButL X.ro H H')(hp:H p=some (.lst (zaP t)))(f1:p∉muts X as)(f2:p∉imms X zs)(f3:H0 p=none)(q:H' X.ro=some (.lst ((as++[p]).map V.ref)))(hk:KD8 X.n X.k t):KW K C CB lP lQ H0 X H' P L G ts (us++[t]) (as++[p]) zs:=by
 obtain⟨⟨a1,a2,a3,a4,a5⟩,⟨b1,b2,b3,b4⟩,⟨c1,c2,c3⟩,⟨d1,d2⟩,e1,_⟩:=h.ne
 obtain⟨k1,k2,k3,k4,k5,k6,k7,k8⟩:=h.keep (l:=X.ro) (.tail _ (.tail _ (.tail _ (.head _)))) g
 have em:muts X (as++[p])=muts X as++[p]:=rfl
 have pro:p≠X.ro:=fun z=>f1 (by rw[z];exact .tail _ (.tail _ (.tail _ (.head _))))
 have pas:p∉as:=fun z=>f1 (.tail _ (.tail _ (.tail _ (.tail _ (.tail _ z)))))
 refine⟨k1,⟨k7,g.at h.hc.pu a3,g.at h.hc.pl b2,h.hc.ne⟩,k8 c1,k2,q,(h.drk g d2).app pas (g.at hp pro),fun u hu=>(yu.mp hu).elim (h.uk u) fun e=>yt.mp e▸hk,g.at h.lp d1.symm,k3,k4,h.ml,k5,k6,?_,fun x hx z=>?_,fun x hx=>?_⟩
 ·rw[em]
  exact yY.mpr ⟨h.n1,by simp,fun a ha b hb e=>f1 (by rw[yt]at hb;subst hb;subst e;exact ha)⟩
 ·rw[em]at z
  rcases yu.mp z with z | z
  ·exact h.n2 x hx z
  ·exact f2 (yt.mp z▸hx)
 ·rw[em]at hx
  rcases yu.mp hx with z | z
  ·exact h.f x z
  ·rw[yt.mp z];exact f3
end
noncomputable def word78 (n:Nat):Str:=if n=1 then "member" else if n=2 then "terms" else if n=3 then "bare" else "deal"
theorem za8(n:Nat):PyData.canLay0 (.str (word78 n))=true:=by
 unfold word78
 split
 ·decide +kernel
 ·split
  ·decide +kernel
  ·split<;>decide +kernel
noncomputable def zjJ (CM CT CR CD:Addr):Sp:=fun vs H Q _=>∃(er C:Addr) (n:Nat),vs=[.ref er]/\H er=some (zbk er C)/\((C=CM/\n=1)\/(C=CT/\n=2)\/(C=CR/\n=3)\/(C=CD/\n=4))/\∀H',Same H H'->Q (.str (word78 n)) H'
section
variable (K:Fg)(C CB:Addr)(lP:Pos)(lQ:Str)
noncomputable def zh0:Sp:=fun vs H Q _=>∃(H0:Hp) (X:KX) (P L:Nat->Int) (ts:List (T7 × Str)) (as:List Addr) (zs:List (Addr × List V)),vs=[.ref X.h,.ref X.ro,.ref X.lp,.ref X.ru,.ref X.mv]/\KW K C CB lP lQ H0 X H P L L ts ts as zs/\X.n<=9/\1<=X.k/\ts.length<=100/\(∀i,i<X.n->sz (L i)<=60000)/\∀H',SameT H H'->TbW K "worst_days" lP lQ H'->Q (.bl true) H'
noncomputable def za5 (CM CT CR CD:Addr):Sp:=fun vs H Q E=>∃(H0:Hp) (X:KX) (P L G:Nat->Int) (ts us:List (T7 × Str)) (as:List Addr) (zs:List (Addr × List V)) (l:Addr),vs=[.ref X.h,.ref l]/\KW K C CB lP lQ H0 X H P L G ts us as zs/\(∀i,i<X.n->sz (L i)<=60000)/\ts.length<=100 /\
 ((∃m:Int,H l=some (.lst [.str "deal",.int m])/\m=ts.length/\∀H',Same H H'->E (.ref CD) none H') \/
  (∃m c:Int,H l=some (.lst [.str "free",.int m,.int c])/\mOk X.n m/\tOk c/\c<=L m.toNat/\sz (L m.toNat-c)<=60000/\∀q,Line (zaa ts m X.k X.F) X.bs.length q ->
   (((L m.toNat-c:Int):Rat)<z9 X.w (zaa ts m X.k X.F) q X.c->∀H',KW K C CB lP lQ H0 X H' P L G ts us as zs->E (.ref CR) none H') /\
   (¬((L m.toNat-c:Int):Rat)<z9 X.w (zaa ts m X.k X.F) q X.c->∀H',KW K C CB lP lQ H0 X H' (zaH P m c) (zaH L m (-c)) G ts us as zs->Q .non H')) \/
  (∃t:T7,H l=some (.lst (.str "strike" :: zaE t))/\(zam (X.k:Int) t->0<=t.y) /\
   (¬zaI (X.n:Int) t.p t.q->∀H',KW K C CB lP lQ H0 X H' P L G ts us as zs->E (.ref CM) none H') /\
   (zaI (X.n:Int) t.p t.q->¬zam (X.k:Int) t->∀H',KW K C CB lP lQ H0 X H' P L G ts us as zs->E (.ref CT) none H') /\
   (zaI (X.n:Int) t.p t.q->zam (X.k:Int) t->∀q1,Line (zaa (ts++[(t,("standing" : Str))]) t.p X.k X.F) X.bs.length q1 ->
    (((L t.p.toNat:Int):Rat)<z9 X.w (zaa (ts++[(t,("standing" : Str))]) t.p X.k X.F) q1 X.c->∀H',KW K C CB lP lQ H0 X H' P L G ts us as zs->E (.ref CR) none H') /\
    (¬((L t.p.toNat:Int):Rat)<z9 X.w (zaa (ts++[(t,("standing" : Str))]) t.p X.k X.F) q1 X.c->∀q2,Line (zaa (ts++[(t,("standing" : Str))]) t.q X.k X.F) X.bs.length q2 ->
     (((L t.q.toNat:Int):Rat)<z9 X.w (zaa (ts++[(t,("standing" : Str))]) t.q X.k X.F) q2 X.c->∀H',KW K C CB lP lQ H0 X H' P L G ts us as zs->E (.ref CR) none H') /\
     (¬((L t.q.toNat:Int):Rat)<z9 X.w (zaa (ts++[(t,("standing" : Str))]) t.q X.k X.F) q2 X.c->∀H',KW K C CB lP lQ H0 X H' P L G (ts++[(t,("standing" : Str))]) us as zs->Q (.int ts.length) H')))))
end
theorem zgP{K:Fg}{C CB:Addr}{lP:Pos}{lQ:Str}{CM CT CR CD:Addr}{vs:List V}{H H1:Hp}{Q Q':VK}{E E':XK}(h:za5 K C CB lP lQ CM CT CR CD vs H Q E)(e:Same H H1)(hq:∀v H',Q v H'->Q' v H')(he:∀c H',E c none H'->E' c none H'):za5 K C CB lP lQ CM CT CR CD vs H1 Q' E':=by
 obtain⟨H0,X,P,L,G,ts,us,as,zs,l,rfl,hW,hz,htl,hD⟩:=h
 refine⟨H0,X,P,L,G,ts,us,as,zs,l,rfl,hW.same e,hz,htl,?_⟩
 rcases hD with⟨m,hl,hm,q⟩ | ⟨m,c,hl,hm,ht,hle,hsz,q⟩ | ⟨t,hl,hy,q1,q2,q3⟩
 ·exact .inl ⟨m,e.at hl,hm,fun H' e'=>he _ _ (q H' (e.trans e'))⟩
 ·exact .inr (.inl ⟨m,c,e.at hl,hm,ht,hle,hsz,fun ql hL=>⟨fun z H' k=>he _ _ ((q ql hL).1 z H' k),fun z H' k=>hq _ _ ((q ql hL).2 z H' k)⟩⟩)
 ·exact .inr (.inr ⟨t,e.at hl,hy,fun z H' k=>he _ _ (q1 z H' k),fun z z' H' k=>he _ _ (q2 z z' H' k),fun a b ql hL=>⟨fun z H' k=>he _ _ ((q3 a b ql hL).1 z H' k),fun z ql2 hL2=>⟨fun z' H' k=>he _ _ (((q3 a b ql hL).2 z ql2 hL2).1 z' H' k),fun z' H' k=>hq _ _ (((q3 a b ql hL).2 z ql2 hL2).2 z' H' k)⟩⟩⟩)
noncomputable def zov (CM CT CR CD C:Addr) (n:Nat):Prop:=(C=CM/\n=1)\/(C=CT/\n=2)\/(C=CR/\n=3)\/(C=CD/\n=4)
noncomputable def zbV (CM CT CR CD:Addr) (D:Sp):Sp:=fun vs H Q _=>D vs H (fun v H'=>∀r H'',Same H' H''->H'' r=some (.tup [.str "told",v])->Q (.ref r) H'') (fun c _ H'=>∃(A:Addr) (n:Nat),c=.ref A/\zov CM CT CR CD A n/\∀r H'',Same H' H''->H'' r=some (.tup [.str "refused",.str (word78 n)])->Q (.ref r) H'')
theorem zcz{K:Fg}{H:Hp}{s t:Str}(l1:PyData.canLay0 (.str s)=true)(l2:PyData.canLay0 (.str t)=true):RepAll K H [.str s,.str t] [.str s,.str t]:=.cons (.str _ l1) (.cons (.str _ l2) .nil)
theorem zeu{K:Fg}{H:Hp}{Q:VK}{a b:Addr}{s t:Str}(h1:H a=some (.tup [.str s,.str t]))(h2:H b=some (.tup [.str s,.str t]))(l1:PyData.canLay0 (.str s)=true)(l2:PyData.canLay0 (.str t)=true)(q:Q (.bl true) H):zX K (.ref a) (.ref b) H Q:=by
 refine zh8 (.tup (.of h1) (zcz l1 l2)) (.tup (.of h2) (zcz l1 l2)) (by simp[PyData.depth,PyData.depthAll]) ?_
 rw[yX _ (by rw[PyData.canLay0];exact(zcz (K:=K) (H:=H) l1 l2).lay)]
 exact q
theorem zji{K:Fg}{H:Hp}{Q:VK}{a b:Addr}{s t:Str}(h1:H a=some (.tup [.str s,.str t]))(h2:H b=some (.tup [.str s,.str t]))(l1:PyData.canLay0 (.str s)=true)(l2:PyData.canLay0 (.str t)=true)(q:Q (.bl false) H):zbf K (.ref a) (.ref b) H Q:=by
 refine zht (.tup (.of h1) (zcz l1 l2)) (.tup (.of h2) (zcz l1 l2)) (by simp[PyData.depth,PyData.depthAll]) ?_
 rw[yX _ (by rw[PyData.canLay0];exact(zcz (K:=K) (H:=H) l1 l2).lay)]
 exact q
theorem zna{K:Fg}{H:Hp}{Q:VK}{a b:Addr}{s:Str}{i:Int}(h1:H a=some (.tup [.str s,.int i]))(h2:H b=some (.tup [.str s,.int i]))(l1:PyData.canLay0 (.str s)=true)(q:Q (.bl true) H):zX K (.ref a) (.ref b) H Q:=by
 have rep:RepAll K H [.str s,.int i] [.str s,.int i]:=.cons (.str _ l1) (.cons (.int _) .nil)
 refine zh8 (.tup (.of h1) rep) (.tup (.of h2) rep) (by simp[PyData.depth,PyData.depthAll]) ?_
 rw[yX _ (by rw[PyData.canLay0];exact rep.lay)]
 exact q
theorem zmE{K:Fg}{H:Hp}{Q:VK}{a b:Addr}{s:Str}(h1:H a=some (.tup [.str s,.non]))(h2:H b=some (.tup [.str s,.non]))(l1:PyData.canLay0 (.str s)=true)(q:Q (.bl true) H):zX K (.ref a) (.ref b) H Q:=by
 have rep:RepAll K H [.str s,.non] [.str s,.none]:=.cons (.str _ l1) (.cons .non .nil)
 refine zh8 (.tup (.of h1) rep) (.tup (.of h2) rep) (by simp[PyData.depth,PyData.depthAll]) ?_
 rw[yX _ (by rw[PyData.canLay0];exact rep.lay)]
 exact q
theorem zgI:PyData.canLay0 (.str "told")=true:=by decide +kernel
theorem za3:PyData.canLay0 (.str "refused")=true:=by decide +kernel
noncomputable def DOk (k:Int) (t:T7):Prop:=zam k t\/t.w<0\/t.u<0\/t.a<0\/t.y<0\/t.r<0
noncomputable def zjH (K:Fg):Sp:=fun vs H Q _=>∃(a:Addr) (ns:List Int) (z n k:Int),vs=[.ref a,.int z,.int n,.int k]/\SqL K H a (ns.map V.int)/\0<=z/\z<=4000/\2<=n/\n<=9/\1<=k/\k<=9/\∀l H' t,H l=none->Same H H'->H' l=some (.lst (.str "strike" :: zaE t))->DOk k t->Q (.ref l) H'
theorem zf3{x:Int}:∀{ns:List Int},x∈ns->∃j:Nat,ns[j]?=some x/\∀m:Nat,m<j->ns[m]?≠some x
 | [],h=>nomatch h
 | y :: ns,h=>by
  by_cases e:y=x
  ·exact⟨0,by rw[e];rfl,fun m hm=>absurd hm (by omega)⟩
  ·have h2:x∈ns:=(ye.mp h).resolve_left fun z=>e z.symm
   obtain⟨j,h3,h4⟩:=zf3 h2
   refine⟨j+1,h3,fun m hm=>?_⟩
   cases m with
   | zero=>exact fun z=>e (yn z)
   | succ m=>exact h4 m (by omega)
set_option genInjectivity false in
set_option genSizeOf false in
structure Miss(X:KX)(ts:List (T7 × Str))(t:T7)(G M:Nat->Int)(cp cq:Int):Prop where
 p:M t.p.toNat=zar (cp-G t.p.toNat)
 q:M t.q.toNat=zar (cq-G t.q.toNat)
 o:∀i,i≠t.p.toNat->i≠t.q.toNat->M i=0
 lp:∀ql,Line (zaa ts t.p X.k X.F) X.bs.length ql->∀x:Int,((x:Int):Rat)<z9 X.w (zaa ts t.p X.k X.F) ql X.c↔x<cp
 lq:∀ql,Line (zaa ts t.q X.k X.F) X.bs.length ql->∀x:Int,((x:Int):Rat)<z9 X.w (zaa ts t.q X.k X.F) ql X.c↔x<cq
theorem KD8.of{n k:Int}{t:T7}(h1:zaI n t.p t.q)(h2:zam k t):KD8 n k (t,("standing" : Str)):=⟨h1.1.1,h1.1.2,h1.2.1.1,h1.2.1.2,h1.2.2,h2.1.1,h2.1.2,h2.2.1.1,h2.2.1.2,.inl rfl⟩
noncomputable def ziC (K:Fg) (C CB:Addr) (lP:Pos) (lQ:Str):Sp:=fun vs H Q _=>∃(H0:Hp) (X:KX) (P L:Nat->Int) (ts:List (T7 × Str)) (as:List Addr) (zs:List (Addr × List V)) (l:Addr) (t:T7),vs=[.ref X.ro,.ref X.lp,.ref X.ru,.ref X.mv,.ref l]/\KW K C CB lP lQ H0 X H P L L ts ts as zs/\H l=some (.lst (.str "strike" :: zaE t))/\zaI X.n t.p t.q/\zam X.k t/\X.n<=9/\1<=X.k/\ts.length<=99 /\
 ∀r H' M cp cq,H r=none->Same H H'->H' r=some (.lst ((vec X.n M).map V.int))->Miss X (ts++[(t,("standing" : Str))]) t L M cp cq->Q (.ref r) H'
noncomputable def zhU (K:Fg) (C CB:Addr) (lP:Pos) (lQ:Str):Sp:=fun vs H Q _=>∃(H0:Hp) (X:KX) (P L:Nat->Int) (ts:List (T7 × Str)) (as:List Addr) (zs:List (Addr × List V)) (l:Addr) (t:T7) (B:Int),vs=[.ref X.h,.ref X.ro,.ref X.lp,.ref X.ru,.ref X.mv,.ref l]/\KW K C CB lP lQ H0 X H P L L ts ts as zs/\H l=some (.lst (.str "strike" :: zaE t))/\l∉muts X as/\DOk X.k t/\X.n<=9/\2<=X.n/\1<=X.k/\ts.length<=98/\BdF X.n L B/\0<=B/\B<=1000000000000/\(∀i,i<X.n->0<=P i) /\
 ∀H' P' L' ts' as',KW K C CB lP lQ H0 X H' P' L' L' ts' ts' as' zs->BdF X.n L' (B+1000000000)->(∀i,i<X.n->0<=P' i)->ts'.length<=ts.length+1->Q (.bl true) H'
noncomputable def zjs (K:Fg) (C CB:Addr) (lP:Pos) (lQ:Str):Sp:=fun vs H Q _=>∃(H0:Hp) (X:KX) (P L:Nat->Int) (ts:List (T7 × Str)) (as:List Addr) (zs:List (Addr × List V)) (a:Addr) (ns:List Int) (z:Int) (B:Int),vs=[.ref a,.int z,.ref X.h,.ref X.ro,.ref X.lp,.ref X.ru,.ref X.mv]/\SqL K H0 a (ns.map V.int)/\0<=z/\z<=4000/\KW K C CB lP lQ H0 X H P L L ts ts as zs/\X.n<=9/\2<=X.n/\1<=X.k/\ts.length<=98/\BdF X.n L B/\0<=B/\B<=1000000000000/\(∀i,i<X.n->0<=P i) /\
 ∀H' P' L',KW K C CB lP lQ H0 X H' P' L' L' ts ts as zs->BdF X.n L' B->(∀i,i<X.n->0<=P' i)->Q (.bl true) H'
theorem zi8{x i j:Int}(h0:0<=x)(h1:x<2):∃v:Int,atI [V.int i,V.int j] x=some (V.int v):=by
 obtain rfl | rfl:x=0\/x=1:=by omega
 ·exact⟨i,rfl⟩
 ·exact⟨j,rfl⟩
theorem Miss.of{X:KX}{ts:List (T7 × Str)}{t:T7}{G M:Nat->Int}{ap bp aq bq:Int}(hp:IsNd X.w (zaa ts t.p X.k X.F) X.bs.length X.c ap bp)(hq:IsNd X.w (zaa ts t.q X.k X.F) X.bs.length X.c aq bq)(h1:M t.p.toNat=zar (zbz ap bp-G t.p.toNat))(h2:M t.q.toNat=zar (zbz aq bq-G t.q.toNat))(h3:∀i,i≠t.p.toNat->i≠t.q.toNat->M i=0):Miss X ts t G M (zbz ap bp) (zbz aq bq):=by
 refine⟨h1,h2,h3,fun ql hL x=>?_,fun ql hL x=>?_⟩
 ·rw[hp.q ql hL];exact zdx (by have:=hp.b0;omega)
 ·rw[hq.q ql hL];exact zdx (by have:=hq.b0;omega)
section
variable {K:Fg}{C CB:Addr}{lP:Pos}{lQ:Str}{CM CT CR CD:Addr}{H0:Hp}{X:KX}{H:Hp}{P L G P' L' G':Nat->Int}{ts us:List (T7 × Str)}{as:List Addr}{zs:List (Addr × List V)}{l:Addr}{t:T7}{Q:VK}{E:XK}
theorem KW.congr(h:KW K C CB lP lQ H0 X H P L G ts us as zs)(h1:∀i,i<X.n->P i=P' i)(h2:∀i,i<X.n->L i=L' i)(h3:∀i,i<X.n->G i=G' i):KW K C CB lP lQ H0 X H P' L' G' ts us as zs:=by
 obtain⟨a1,⟨b1,b2,b3,b4⟩,a3,a4,a5,a6,a7,a8,a9,a10,a11,a12,a13,a14,a15,a16⟩:=h
 exact⟨a1,⟨b1,by rw[b2,zao h1],by rw[b3,zao h2],b4⟩,a3,a4,a5,a6,a7,by rw[a8,zao h3],a9,a10,a11,a12,a13,a14,a15,a16⟩
theorem zkx(hW:KW K C CB lP lQ H0 X H P L G ts us as zs)(hz:∀i,i<X.n->sz (L i)<=60000)(htl:ts.length<=100)(hl:H l=some (.lst (.str "strike" :: zaE t)))(hm:¬zaI (X.n:Int) t.p t.q)(q:∀r H',KW K C CB lP lQ H0 X H' P L G ts us as zs->H' r=some (.tup [.str "refused",.str (word78 1)])->Q (.ref r) H'):zbV CM CT CR CD (za5 K C CB lP lQ CM CT CR CD) [.ref X.h,.ref l] H Q E:=
 ⟨H0,X,P,L,G,ts,us,as,zs,l,rfl,hW,hz,htl,.inr (.inr ⟨t,hl,fun h=>h.2.2.2.1.1,fun _ H' k=>⟨_,1,rfl,.inl ⟨rfl,rfl⟩,fun r H'' e h=>q r H'' (k.same e) h⟩,fun z=>absurd z hm,fun z=>absurd z hm⟩)⟩
theorem zkC(hW:KW K C CB lP lQ H0 X H P L G ts us as zs)(hz:∀i,i<X.n->sz (L i)<=60000)(htl:ts.length<=100)(hl:H l=some (.lst (.str "strike" :: zaE t)))(hm:zaI (X.n:Int) t.p t.q)(ht:¬zam (X.k:Int) t)(q:∀r H',KW K C CB lP lQ H0 X H' P L G ts us as zs->H' r=some (.tup [.str "refused",.str (word78 2)])->Q (.ref r) H'):zbV CM CT CR CD (za5 K C CB lP lQ CM CT CR CD) [.ref X.h,.ref l] H Q E:=
 ⟨H0,X,P,L,G,ts,us,as,zs,l,rfl,hW,hz,htl,.inr (.inr ⟨t,hl,fun h=>h.2.2.2.1.1,fun z=>absurd hm z,fun _ _ H' k=>⟨_,2,rfl,.inr (.inl ⟨rfl,rfl⟩),fun r H'' e h=>q r H'' (k.same e) h⟩,fun _ z=>absurd z ht⟩)⟩
theorem zgE{M G2:Nat->Int}{cp cq:Int}(hW:KW K C CB lP lQ H0 X H P L G ts us as zs)(hz:∀i,i<X.n->sz (L i)<=60000)(htl:ts.length<=100)(hl:H l=some (.lst (.str "strike" :: zaE t)))(hm:zaI (X.n:Int) t.p t.q)(ht:zam (X.k:Int) t)(hM:Miss X (ts++[(t,("standing" : Str))]) t G2 M cp cq)(hb:L t.p.toNat<cp\/L t.q.toNat<cq)(q:∀r H',KW K C CB lP lQ H0 X H' P L G ts us as zs->H' r=some (.tup [.str "refused",.str (word78 3)])->Q (.ref r) H'):zbV CM CT CR CD (za5 K C CB lP lQ CM CT CR CD) [.ref X.h,.ref l] H Q E:=
 ⟨H0,X,P,L,G,ts,us,as,zs,l,rfl,hW,hz,htl,.inr (.inr ⟨t,hl,fun h=>h.2.2.2.1.1,fun z=>absurd hm z,fun _ z=>absurd ht z,fun _ _ q1 hL=>⟨fun _ H' k=>⟨_,3,rfl,.inr (.inr (.inl ⟨rfl,rfl⟩)),fun r H'' e h=>q r H'' (k.same e) h⟩,fun n1 q2 hL2=>⟨fun _ H' k=>⟨_,3,rfl,.inr (.inr (.inl ⟨rfl,rfl⟩)),fun r H'' e h=>q r H'' (k.same e) h⟩,fun n2=>(hb.elim (fun z=>n1 ((hM.lp q1 hL _).mpr z)) fun z=>n2 ((hM.lq q2 hL2 _).mpr z)).elim⟩⟩⟩)⟩
theorem zks{M G2:Nat->Int}{cp cq:Int}(hW:KW K C CB lP lQ H0 X H P L G ts us as zs)(hz:∀i,i<X.n->sz (L i)<=60000)(htl:ts.length<=100)(hl:H l=some (.lst (.str "strike" :: zaE t)))(hm:zaI (X.n:Int) t.p t.q)(ht:zam (X.k:Int) t)(hM:Miss X (ts++[(t,("standing" : Str))]) t G2 M cp cq)(hp:¬L t.p.toNat<cp)(hq:¬L t.q.toNat<cq)(q:∀r H',KW K C CB lP lQ H0 X H' P L G (ts++[(t,("standing" : Str))]) us as zs->H' r=some (.tup [.str "told",.int ts.length])->Q (.ref r) H'):zbV CM CT CR CD (za5 K C CB lP lQ CM CT CR CD) [.ref X.h,.ref l] H Q E:=
 ⟨H0,X,P,L,G,ts,us,as,zs,l,rfl,hW,hz,htl,.inr (.inr ⟨t,hl,fun h=>h.2.2.2.1.1,fun z=>absurd hm z,fun _ z=>absurd ht z,fun _ _ q1 hL=>⟨fun z=>absurd ((hM.lp q1 hL _).mp z) hp,fun n1 q2 hL2=>⟨fun z=>absurd ((hM.lq q2 hL2 _).mp z) hq,fun _ H' k r H'' e h=>q r H'' (k.same e) h⟩⟩⟩)⟩
end
noncomputable def gA (p q i m:Nat):Prop:=(m=p/\0<i)\/(m=q/\1<i)
instance (p q i m:Nat):Decidable (gA p q i m):=inferInstanceAs (Decidable (_\/_))
noncomputable def dj (j m:Nat):Int:=if m=j then 1 else 0
noncomputable def zct (p q i j m:Nat):Int:=if gA p q i m then dj j m else 0
noncomputable def zdt (M:Nat->Int) (p q i j m:Nat):Int:=if gA p q i m then M m-dj j m else 0
theorem zfW(j m:Nat):dj j m=0\/dj j m=1:=by unfold dj;split<;>omega
theorem zcE(j:Nat):dj j j=1:=if_pos rfl
theorem zev{j m:Nat}(h:m≠j):dj j m=0:=if_neg h
section
variable {p q i j en m:Nat}{M P L P' L':Nat->Int}{e c:Int}
theorem zih(h:(i=0/\en=p)\/(i=1/\en=q))(pq:p≠q):¬gA p q i en/\gA p q (i+1) en:=by unfold gA;omega
theorem zen(h:(i=0/\en=p)\/(i=1/\en=q))(hm:m≠en):gA p q (i+1) m↔gA p q i m:=by unfold gA;omega
theorem zj8(h:(i=0/\e.toNat=p)\/(i=1/\e.toNat=q))(pq:p≠q)(hP:P' m=P m+zct p q i j m):zaH (zaH P' e (M e.toNat)) e (-(M e.toNat-dj j e.toNat)) m=P m+zct p q (i+1) j m:=by
 unfold zaH
 by_cases c:m=e.toNat
 ·rw[if_pos c,if_pos rfl]
  obtain⟨g1,g2⟩:=zih h pq
  unfold zct at hP ⊢
  rw[c]at hP ⊢
  rw[if_neg g1]at hP
  rw[if_pos g2]
  omega
 ·rw[if_neg c,if_neg c,hP]
  unfold zct
  by_cases g:gA p q i m
  ·rw[if_pos g,if_pos ((zen h c).mpr g)]
  ·rw[if_neg g,if_neg (fun z=>g ((zen h c).mp z))]
theorem zju(h:(i=0/\e.toNat=p)\/(i=1/\e.toNat=q))(pq:p≠q)(hL:L' m=L m+zdt M p q i j m):zaH L' e (M e.toNat-dj j e.toNat) m=L m+zdt M p q (i+1) j m:=by
 unfold zaH
 by_cases c:m=e.toNat
 ·rw[if_pos c]
  obtain⟨g1,g2⟩:=zih h pq
  unfold zdt at hL ⊢
  rw[c]at hL ⊢
  rw[if_neg g1]at hL
  rw[if_pos g2]
  omega
 ·rw[if_neg c,hL]
  unfold zdt
  by_cases g:gA p q i m
  ·rw[if_pos g,if_pos ((zen h c).mpr g)]
  ·rw[if_neg g,if_neg (fun z=>g ((zen h c).mp z))]
theorem zgk:zct p q 0 j m=0/\zdt M p q 0 j m=0:=by
 have g:¬gA p q 0 m:=by unfold gA;omega
 exact⟨if_neg g,if_neg g⟩
theorem zlI(hj:j=p\/j=q)(hM:m≠p->m≠q->M m=0):zct p q 2 j m=dj j m/\zdt M p q 2 j m=M m-dj j m:=by
 by_cases g:gA p q 2 m
 ·exact⟨if_pos g,if_pos g⟩
 ·have h:m≠p/\m≠q:=by unfold gA at g;omega
  have hjm:m≠j:=by omega
  unfold zct zdt
  rw[if_neg g,if_neg g,zev hjm,hM h.1 h.2]
  exact⟨rfl,rfl⟩
theorem zlC:0<=zct p q i j m:=by
 unfold zct
 have:=zfW j m
 split<;>omega
theorem zgL{x:Int}(h:0<zar x):zar x=x:=by unfold zar at h ⊢;split at h<;>omega
theorem zhm(x:Int):x<=zar x/\0<=zar x:=by unfold zar;split<;>omega
end
section
variable {K:Fg}{C CB:Addr}{lP:Pos}{lQ:Str}{H0:Hp}{X:KX}{H H':Hp}{P L G:Nat->Int}{ts us:List (T7 × Str)}{as:List Addr}{zs:List (Addr × List V)}{l:Addr}
theorem KW.other(h:KW K C CB lP lQ H0 X H P L G ts us as zs)(g:ButL l H H')(n1:l∉muts X as)(n2:l∉imms X zs)(f:H0 l=none):KW K C CB lP lQ H0 X H' P L G ts us as zs:=by
 have m:∀{x},x∈muts X as->x≠l:=fun hx z=>n1 (z▸hx)
 have i:∀{x},x∈imms X zs->x≠l:=fun hx z=>n2 (z▸hx)
 have m1:X.A.pu∈muts X as:=.head _
 have m2:X.A.pl∈muts X as:=.tail _ (.head _)
 have m3:X.d∈muts X as:=.tail _ (.tail _ (.head _))
 have m4:X.ro∈muts X as:=.tail _ (.tail _ (.tail _ (.head _)))
 have m5:X.lp∈muts X as:=.tail _ (.tail _ (.tail _ (.tail _ (.head _))))
 have m6:∀b∈as,b∈muts X as:=fun b hb=>.tail _ (.tail _ (.tail _ (.tail _ (.tail _ hb))))
 have i1:X.A.ou∈imms X zs:=.head _
 have i2:X.A.mv∈imms X zs:=.tail _ (.head _)
 have i3:X.mv∈imms X zs:=.tail _ (.tail _ (.head _))
 have mb:∀b∈X.bs,b∈imms X zs:=fun b hb=>by unfold imms;exact .tail _ (.tail _ (.tail _ (yO _ hb)))
 have mm:∀b∈X.ms,b∈imms X zs:=fun b hb=>by unfold imms;exact .tail _ (.tail _ (.tail _ (yv _ (yO _ hb))))
 have mz:∀z∈zs,z.1∈imms X zs:=fun z hz=>by unfold imms;exact .tail _ (.tail _ (.tail _ (yv _ (yv _ (yas.mpr ⟨z,hz,rfl⟩)))))
 obtain⟨dx,h1⟩:=h.hc.ob
 exact⟨g.sameT h.e0 f,⟨⟨dx,g.ins h1⟩,g.at h.hc.pu (m m1),g.at h.hc.pl (m m2),h.hc.ne⟩,h.hn.butL g (m m3) (i i2) (fun z=>i (mb _ z) rfl),g.at h.ou (i i1),g.at h.ro (m m4),h.dr.keep fun a o ha q=>g.at q (m (m6 a ha)),h.uk,g.at h.lp (m m5),g.at h.mv (i i3),h.mr.butL g fun z=>i (mm _ z) rfl,h.ml,g.tup h.ru,fun z hz=>g.at (h.zl z hz) (i (mz z hz)),h.n1,h.n2,h.f⟩
end
theorem zgT{re ou d bk od ru mv sh pl pu:Addr}{bs:List Addr}(nd:(re :: ou :: d :: bk :: od :: ru :: (bs++[mv,sh,pl,pu])).Nodup):pu≠pl/\pu≠d/\pl≠d/\∀x∈ou :: mv :: bs,x≠pu/\x≠pl/\x≠d:=by
 simp only[yJ,yY,ye,yu,yy,or_false,not_or,yP,and_true,not_false_eq_true]at nd
 obtain⟨_,ho,hd,_,_,_,hb,hm,hx⟩:=nd
 refine⟨fun z=>hm.2.2 z.symm,fun z=>hd.2.2.2.2.2.2.2 z.symm,fun z=>hd.2.2.2.2.2.2.1 z.symm,fun x h=>?_⟩
 rcases ye.mp h with rfl | h
 ·exact⟨ho.2.2.2.2.2.2.2.2,ho.2.2.2.2.2.2.2.1,ho.1⟩
 ·rcases ye.mp h with rfl | h
  ·exact⟨hm.1.2.2,hm.1.2.1,fun z=>hd.2.2.2.2.1 z.symm⟩
  ·exact⟨hx x h pu (by simp),hx x h pl (by simp),fun z=>hd.2.2.2.1 (z▸h)⟩
end Internal
namespace Internal.K
open PySem Internal
local macro_rules | `(tactic| walk_at "z")=>`(tactic| first
 | assumption
 | exact sz200 (by omega) (by omega)
 | exact szL (by decide) (by omega) (by omega)
 | ((with_reducible apply yb (m:=_));(focus assumption);omega))
local macro_rules | `(tactic| walk_at "h")=>`(tactic| first
 | assumption
 | (with_reducible exact Same.refl _)
 | ((with_reducible apply Same.isQ);(focus assumption);walk_at "h")
 | ((with_reducible apply Same.at);(focus assumption);walk_at "h")
 | ((with_reducible apply LBut.tup);(focus assumption);walk_at "h")
 | ((with_reducible apply LBut.lst);(focus assumption);(focus walk_at "h");walk_at "h")
 | ((with_reducible apply SqL.keep);(focus (show SqL _ _ _ _;assumption));walk_at "h")
 | ((with_reducible apply SqL.of);walk_at "h")
 | ((with_reducible apply Same.after);(focus assumption);walk_at "h")
 | ((with_reducible apply LBut.same);(focus assumption);(focus walk_at "h");walk_at "h")
 | ((with_reducible apply Same.none);(focus assumption);walk_at "h")
 | ((with_reducible apply TbW.same);(focus assumption);walk_at "h")
 | ((with_reducible apply TbW.but);(focus assumption);walk_at "h")
 | ((with_reducible apply SameT.lst);(focus assumption);walk_at "h")
 | ((with_reducible apply SameT.tup);(focus assumption);walk_at "h")
 | ((with_reducible apply SameT.ins);(focus assumption);walk_at "h")
 | ((with_reducible apply SameT.seq);(focus assumption);walk_at "h")
 | ((with_reducible apply SameT.rows);(focus assumption);walk_at "h")
 | ((with_reducible apply LBut.isTs);(focus assumption);walk_at "h")
 | ((with_reducible apply Same.rows);(focus assumption);walk_at "h")
 | ((with_reducible apply LBut.ins);(focus assumption);walk_at "h")
 | ((with_reducible apply zmK);(focus assumption);walk_at "h")
 | ((with_reducible apply zbK);(focus assumption);walk_at "h"))
local macro_rules | `(tactic| walk_at "x1")=>`(tactic| first
 | ((with_reducible apply znY);(focus (exact rfl)))
 | (with_reducible (first
   | apply zol
   | apply znm
   | apply zn6
   | apply znN
   | apply znG
   | apply zok
   | apply znZ
   | apply zmF
   | apply znM
   | apply znH
   | apply znW
   | apply znk
   | apply zl5
   | apply zc2
   | apply zeE
   | apply zls
   | apply zli))
 | (with_reducible refine zmi (by assumption) ?_)
 | (with_reducible refine znd (by assumption) ?_)
 | (with_reducible refine zlQ (by assumption) ?_)
 | (with_reducible refine znP (fun _=>?_) (fun _=>?_))
 | (with_reducible refine zmI (fun _=>?_) (fun _=>?_))
 | (with_reducible (first
   | apply zn8
   | apply zob))
 | ((with_reducible show rIx _ (V.ref _) (V.int _) _ _);first
   | refine ziA (by assumption) (by rfl) ?_
   | refine zhl (by assumption) (by omega) (by omega) ?_
   | refine zlv (by assumption) (by omega) (by assumption) ?_
   | refine ziA (by walk_at "h") (by rfl) ?_
   | refine zhl (by walk_at "h") (by omega) (by omega) ?_
   | refine zew (by walk_at "h") (by assumption) ?_
   | refine zhp (by walk_at "h") (by assumption) ?_
   | refine zew (by walk_at "h") (by rfl) ?_)
 | ((with_reducible show zaw _ [V.int _,_] _ _);refine zfP ?_)
 | ((with_reducible show zaw _ [V.bl _,_] _ _);refine zfP ?_)
 | (with_reducible (first
   | apply zml
   | apply zm7))
 | ((with_reducible show zaw _ [V.ref _,V.ty "tuple"] _ _);refine zfP ?_;first | refine IsQ.isT (by walk_at "h") ?_ | refine zi1 (by walk_at "h") ?_ | refine x_isLT (by walk_at "h") ?_)
 | ((with_reducible show zaw _ [V.ref _,V.ty "list"] _ _);refine zfP ?_;first | refine x_isLL (by walk_at "h") ?_ | refine x_isTL (by walk_at "h") ?_)
 | ((with_reducible show zaw _ [V.ref _,V.ref _] _ _);refine zkM (by walk_at "h") (by assumption) rfl (by assumption) ?_)
 | ((with_reducible show zaw _ [V.ref _,V.ty "ValueError"] _ _);refine zkM (by walk_at "h") (by assumption) rfl (by assumption) ?_)
 | (with_reducible refine zg4 (by assumption) (fun _ _ _ _ _=>?_))
 | ((with_reducible show zc9 _ [] _);refine zad (by first | decide | simp) (fun _ _ _ _ _=>?_))
 | ((with_reducible show zc9 _ [_] _);refine zad (by first | decide | simp) (fun _ _ _ _ _=>?_))
 | ((with_reducible show zc9 _ (_ :: _ :: _ :: _) _);refine zad (by first | decide | simp) (fun _ _ _ _ _=>?_))
 | (with_reducible (first
   | apply zlB
   | apply zl8
   | apply zlm))
 | ((with_reducible show zac _ [V.ref _] _ _);first | refine IsQ.len (by walk_at "h") ?_ | refine zmk (by walk_at "h") ?_ | refine x_lenT' (by walk_at "h") ?_)
 | (with_reducible (first
   | apply zlW
   | apply zn3
   | apply znj
   | apply zmf
   | apply zoo
   | apply zmx
   | apply zk6))
 | ((with_reducible show zgn _ _ _ (V.ref _) _ _ _);refine zmV (by assumption) rfl ?_)
 | ((with_reducible show zbB _ (V.ref _) (V.int _) _ _);first
   | refine zjI (by walk_at "h") (by omega) (by omega) ?_
   | refine ziU (by walk_at "h") (by assumption) ?_)
 | ((with_reducible show zeK (V.ref _) (V.int _) (V.int _) _ _);refine zjv (by walk_at "h") (by omega) (by omega) (fun _ _ _=>?_))
 | ((with_reducible show zdB (V.ref _) (V.int _) _ _);first | refine zj5 (by walk_at "h") (by omega) (by omega) (fun _ _ _ _ _=>?_) | refine x_repOpt (by walk_at "h") (by omega) (by omega) (fun _ _ _ _ _=>?_) | refine x_repBl (by walk_at "h") (by omega) (by omega) (fun _ _ _ _ _=>?_))
 | ((with_reducible show zeq [V.int _] _ _);refine zkl (fun _ _ _ _ _=>?_))
 | ((with_reducible show zee _ _ _ _ _);refine zh2 (by walk_at "h") (by walk_at "h") (by walk_at "h") (by assumption) (by assumption) (by assumption) (by omega) (by omega) (fun _ _ _ _ _=>?_))
 | ((with_reducible show zfR _ [V.ref _] _ _);first | refine x_minK (by walk_at "h") (by assumption) ?_ | refine zim (by walk_at "h") (by assumption) (fun _ _ _=>?_))
 | ((with_reducible show ze9 _ _ _ _ _ _ _);refine zjt (by walk_at "h") (by walk_at "h") (by walk_at "h") (by assumption) (by assumption) (by assumption) (by omega) (by omega) (by omega) (by omega) (by walk_at "h") (fun _ _ _ _ _ _ _ _=>?_))
 | (with_reducible (first
   | apply zny
   | apply zno
   | apply zmj
   | apply zmN
   | apply zn0
   | apply zn4))
 | ((with_reducible show zhA _ _ _ (V.ref _) _);refine zi2 (by walk_at "h") (by assumption) (by assumption) (by with_reducible first | exact zku | exact zjp | exact zlq | exact zjb) ?_)
 | ((with_reducible show zfT _ _ _ _ _ _ _ (V.ref _) _);refine zg9 (by walk_at "h") (zmP (by decide +kernel) (by decide +kernel) (by decide +kernel) (by decide +kernel)) ?_)
 | ((with_reducible show zhA _ _ _ (V.ref _) _);refine zi2 (by walk_at "h") (by assumption) (by assumption) (by with_reducible first | exact zhI | exact zgS | exact hfl_shares | exact hfl_kept | exact zi9 | exact zkB | exact hfl_order | exact zjz | exact zkh | exact hfl_reports) ?_)
 | ((with_reducible show zfT _ _ _ _ _ _ _ (V.ref _) _);refine zg9 (by walk_at "h") (zmw (by decide +kernel)) ?_)
 | ((with_reducible show zfs _ _ _ _ _);refine⟨_,_,_,_,_,_,_,rfl,(by walk_at "h"),(by walk_at "h"),(by omega),(by omega),?_⟩)
 | ((with_reducible show zeh _ [V.ref _] _ _);refine znD (by walk_at "h") ?_)
 | ((with_reducible show zh1 _ [V.int _] _);refine zlU (by omega) (by omega) ?_)
 | ((with_reducible show zj7 _ _ (V.ref _) _);refine znJ (by walk_at "h") ?_)
 | ((with_reducible show zhL _ _ [V.ref _] _);refine zlj (by walk_at "h") ?_)
 | ((with_reducible show zjP _ _ [V.ref _,V.ref _] _);refine zmU (by walk_at "h") (by walk_at "h") ?_)
 | ((with_reducible show zfc _ _ _ _ _);refine zjq (by walk_at "h") (by omega) (fun _=>?_))
 | ((with_reducible show zeZ _ _ _ _ _);refine ziV (by walk_at "h") (by omega) (by omega) (by omega) (fun _ _ _=>?_))
 | ((with_reducible show zd2 _ _ _ _ _);refine zh3 (by walk_at "h") (by omega) (by omega) (by omega) (by omega) (fun _ _ _=>?_))
 | ((with_reducible show zb2 (Itr _ _) _ _ zd4 (tC (V.int _)) _ _ _);refine zlr rfl (by omega) (fun _ _ _ _ _=>?_))
 | ((with_reducible show zb2 (Itl _ _) _ _ zd4 (tC (V.int _)) _ _ _);refine zkJ (by walk_at "h") rfl (by first | omega | (simp only[ya,zJ];omega)) (fun _ _ _ _ _=>?_))
 | ((with_reducible show zbf _ (V.ref _) (V.ref _) _ _);first | refine zko (by walk_at "h") (by walk_at "h") rfl ?_ | refine x_neRows (by walk_at "h") (by walk_at "h") (by walk_at "h") (by walk_at "h") (by omega) (fun _ _ _ _=>rfl) ?_ | refine x_neSh (by walk_at "h") (by walk_at "h") rfl ?_ | refine x_neQs (by walk_at "h") (by walk_at "h") (by walk_at "h") (by walk_at "h") ?_)
 | (with_reducible (first
   | apply znn
   | apply zn1
   | apply zom
   | apply zmM
   | apply zlF))
 | ((with_reducible show tyV _ "list" (V.ref _) _/\_);refine znK (by walk_at "h") ?_)
 | ((with_reducible show za2 (V.ref _) [_] _ _);refine zbE (by walk_at "h") (by omega) (fun _ _ _=>?_))
 | ((with_reducible show NewQ _ _ _);intro _ _ _ _)
 | ((with_reducible show zkc _ _ _);refine zm3 (by first | decide | simp) (fun _ _ _ _ _=>?_))
 | ((with_reducible show zbt _ _ _ _);refine ziO (by walk_at "h") (fun _ _ _ _ _=>?_))
 | ((with_reducible show zcg _ _ _ _ _ _);refine znf (by walk_at "h") (fun _ _ _ _ _=>?_))
 | ((with_reducible show zfe _ _ _ _ _);refine zje (by walk_at "h") (by walk_at "h") (by walk_at "h") (by walk_at "h") ?_)
 | ((with_reducible show zhu _ _ _ _);refine znR (by first | decide | omega) ?_)
 | ((with_reducible show zdB _ _ _ _);refine zhZ (by first | assumption | (apply CMulS.of;(focus walk_at "z");(focus walk_at "z");first | decide | omega)) ?_)
 | ((with_reducible show zfO _ _ _ _);refine znC (by first | walk_at "h" | decide) (by first | walk_at "h" | exact szL (by decide) (by decide) (by decide)) ?_)
 | ((with_reducible show rI zhH _ _ _ _ _);refine znA ⟨by decide,by decide,by decide⟩ rfl ?_;(try simp only[Int.reduceToNat,Int.reducePow]))
 | ((with_reducible show Ends.nx _ _ _);dsimp only[List.set,Ends.gone]))
local macro_rules | `(tactic| walk_at "x")=>`(tactic| repeat' (walk_at "x1"))
section
variable {P:Program}{w:World}{K:Fg}{mg:Str->Option Value}{base:Heap}[TabX K mg base "worst_days"]
abbrev lP:Pos:=⟨302,42,302,73⟩
abbrev lQ:Str:=("worst_days" : Str) ++ ".<locals>." ++ "<lambda>"
theorem zc6(T:Txt K mg):FnOk P w K mg base (CXF P w) 1 T.d_losses_of.a T.d_losses_of.fd ["position", "moves"] (zee K):=by
 refine T.d_losses_of.F.okN zgD (fun vs H Q E h=>?_) (fun cdv A outer s H vs Q E hr h=>?_)
 ·obtain⟨p,l,as,k,f,F,m,rfl,_⟩:=h;rfl
 obtain⟨p,l,as,k,f,F,m,rfl,hp,hl,hR,hf,hF,hm,hk,hal,q⟩:=h
 refine⟨_,(ze (zD (zaQ rfl (show PI _ _ _ (zaJ K _)from zaj (pv 1)) (zP (Ni:=["day", "position"]) (caps:=[none,some 0]) (by rfl)) (fun S _ _ _ _ _=>(z4 (gi:=0) S (Or.inl rfl) rfl)) (fun _ _ _ _ _=>zat) (fun _ _ _ _ _=>(zcL zca (zp (show CallR _ _ (zeh K)from zcr rfl) rfl T.z_sum BT.sum (za (zaQ rfl (show PI _ _ _ (znu K _)from zm9 rfl T.z_zip (za (pv 1) (za (pv 0) zb))) (zP (Ni:=["units", "move"]) (caps:=[none,none]) (by rfl)) (fun S _ _ _ _ _=>(show PG _ _ (zgn K 2 _)from zjf (n:=2) rfl (zcK (z4 (gi:=0) S (Or.inl rfl) rfl) (zcK (z4 (gi:=1) S (Or.inl rfl) rfl) zg8)))) (fun _ _ _ _ _=>zat) (fun _ _ _ _ _=>(zo zau (pv 0) (pv 1)))) zb))))))),?_⟩
 refine zB (σ0:=[some (.ref p),some (.ref l)]) rfl ?_
 walk_at "x"
 refine zah (zaO (K:=K) (a:=l) (xs:=as.map V.ref)) (fun H' e=>SqL.of (e.at hl)) rfl (fun i vs _=>vs=(vec i fun i=>zag k f (F i)).map V.int) (fun H' _=>rfl) ?_ ?_
 ·rintro i x D vs o H3 H4 hi hD e3 hv hvl rfl e4 hx
  rw[ya]at hi
  obtain⟨c,hc⟩:=zN hi
  have ex:x=.ref c:=by rw[yg,hc]at hx;exact(yn hx).symm
  subst ex
  have hrow:=hR.2 _ _ hc
  have hW:=hF i hi
  walk_at "x"
  refine zkv (zle (K:=K) (a:=p) (b:=c) (xs:=(vec k f).map V.int) (ys:=(vec k (F i)).map V.int)) (fun H' e=>⟨SqL.of (by walk_at "h"),SqL.of (by walk_at "h")⟩) rfl (fun j vs _=>vs=(vec j fun j=>f j*F i j).map V.int) (fun H' _=>rfl) ?_ ?_
  ·rintro j x D2 vs o o' H5 H6 hj hD2 e5 hv2 hvl2 rfl e6 ⟨t,v,w',rfl,hx1,hx2,ht⟩
   have hjk:j<k:=by
    rw[ya,ya,zJ,zJ]at hj;omega
   rw[yg,zaL hjk]at hx1 hx2
   cases hx1
   cases hx2
   obtain⟨f0,f1⟩:=hf j hjk
   obtain⟨g0,g1⟩:=hW j hjk
   have ht':H6 t=some (.tup [.int (f j),.int (F i j)]):=ht
   have sf:sz (f j)<=200:=sz200 (by omega) (by omega)
   have sg:sz (F i j)<=200:=sz200 (by omega) (by omega)
   walk_at "x"
   rename_i H8 b8 h8
   refine⟨⟨_,_,rfl⟩,by walk_at "h",_,h8,by rw[yk];exact yc hvl2,?_⟩
   dsimp only
   rw[zan,yw];rfl
  ·rintro D2 H5 vs fD2 e5 hv2 hvl2 rfl
   rw[ya,ya,zJ,zJ,Nat.min_self]at hv2
   walk_at "x"
   rename_i H6 b6 h6
   refine⟨⟨_,rfl⟩,by walk_at "h",_,h6,by rw[yk];exact yc hvl,?_⟩
   dsimp only
   rw[zan,yw];rfl
 ·rintro D H3 vs hD e3 hv hvl rfl
  rw[ya]at hv
  exact q _ _ hD e3 hv
theorem zhX(T:Txt K mg):FnOk P w K mg base (CXF P w) 1 T.d_divisor.a T.d_divisor.fd ["one", "other"] zkQ:=by
 refine T.d_divisor.F.okN sc_divisor (fun vs H Q E h=>?_) (fun cdv A outer s H vs Q E hr h=>?_)
 ·obtain⟨a,b,rfl,_⟩:=h;rfl
 obtain⟨a,b,rfl,q⟩:=h
 refine⟨_,(zd (zw (i:=2) sc_divisor.nd rfl (Or.inl rfl) (zp zfq rfl T.z_abs BT.abs (za (pv 0) zb)))
 (zd (zw (i:=3) sc_divisor.nd rfl (Or.inl rfl) (zp zfq rfl T.z_abs BT.abs (za (pv 1) zb)))
 (zd (zgt PassesOwn.never (zk (show OpR _ (compareOp .NotEq) (zbf K)from zbw hr.units) (pv 3) zc (nomark _))
 (zd (zw (i:=4) sc_divisor.nd rfl (Or.inl rfl) (zo zba (pv 2) (pv 3)))
 (zd (zw (i:=2) sc_divisor.nd rfl (Or.inl rfl) (pv 3))
 (ze (zw (i:=3) sc_divisor.nd rfl (Or.inl rfl) (pv 4))))))
 (ze (zD (pv 2)))))),?_⟩
 refine zB (σ0:=[some (.int a),some (.int b),none,none,none]) rfl ?_
 walk_at "x"
 refine⟨fun m σ H'=>∃k r f,σ=[some (.int a),some (.int b),some (.int k),some (.int r),f]/\H'=H/\0<=k/\0<=r/\My.gc k r=My.gc a b/\m=r.toNat,⟨_,_,_,_,rfl,rfl,ziQ a,ziQ b,My.gc_abs a b,rfl⟩,?_⟩
 rintro m σ H' ⟨k,r,f,rfl,rfl,hk,hr0,hg,rfl⟩
 walk_at "x"
 ·rename_i hne
  refine⟨fun σ' H''=>σ'=[some (.int a),some (.int b),some (.int r),some (.int (k%r)),some (.int (k%r))]/\H''=H',?_,?_⟩
  ·rintro σ' H'' ⟨rfl,rfl⟩
   have h1:=yR k (b:=r) (by omega)
   have h2:=yL k (b:=r) (by omega)
   exact⟨_,by omega,_,_,_,rfl,rfl,hr0,h1,by rw[My.gc_step];exact hg,rfl⟩
  ·walk_at "x"
   exact⟨rfl,rfl⟩
 ·rename_i he
  rw[he,My.gc_zero_right hk]at hg
  rw[hg];exact q
noncomputable def zhg (C:Addr):Sp:=fun vs H Q E=>∃t b:Int,vs=[.int t,.int b]/\sz b<=8999/\((b=0/\E (.ref C) none H)\/(b≠0/\NewQ H Q (Rat.divInt t b)))
theorem ziG{C:Addr}{t b:Int}{H:Hp}{Q:VK}{E:XK}(hb:b≠0)(hs:sz b<=8999)(q:NewQ H Q (Rat.divInt t b)):zhg C [.int t,.int b] H Q E:=⟨t,b,rfl,hs,.inr ⟨hb,q⟩⟩
theorem zlZ(T:Txt K mg):FnOk P w K mg base (CXF P w) 2 T.d_part.a T.d_part.fd ["top", "bottom"] (zhg T.c_NoPart):=by
 refine T.d_part.F.okX sc_part (fun vs H Q E h=>?_) (fun cdv A outer s H vs Q E hr h=>?_)
 ·obtain⟨t,b,rfl,_⟩:=h;rfl
 obtain⟨t,b,rfl,hs,k⟩:=h
 refine⟨_,(zd (zE (zk (show OpR _ (compareOp .Eq) (zX K)from zR hr.units) (pv 1) zc (nomark _))
 (ze (zY rfl rfl T.m_NoPart (errOk.own T.e_NoPart) (za zv zb) zak))
 zr)
 (zd (zw (i:=2) sc_part.nd rfl (Or.inl rfl) (zm (zhX (base:=base) T) (hr.mono (by decide)) rfl T.d_divisor.m T.d_divisor.F.kp T.d_divisor.b .nil (zu zt) (za (pv 0) (za (pv 1) zb))))
 (zav (zE (zk zas (pv 1) zc (nomark _))
 (ze (zw (i:=2) sc_part.nd rfl (Or.inl rfl) (zcL zca (pv 2))))
 zr)
 (ze (zD (z6 (za (zo zdy (pv 0) (pv 2)) (za (zo zdy (pv 1) (pv 2)) zb)))))))),?_⟩
 refine zB (σ0:=[some (.int t),some (.int b),none]) rfl ?_
 walk_at "x"
 ·rename_i h0
  rcases k with⟨_,k⟩ | ⟨h1,_⟩
  ·exact⟨by decide,k⟩
  ·exact absurd h0 h1
 ·rename_i h0
  rcases k with⟨h1,_⟩ | ⟨_,k⟩
  ·exact absurd h1 h0
  have hg:0<My.gc t b:=My.gc_pos_right h0
  have hz:sz (My.gc t b)<=9000:=yb (zgO h0 hs) (by decide)
  refine ziW 2 (fun v H'=>H'=H/\((b<0/\v=.int (-My.gc t b))\/(0<b/\v=.int (My.gc t b)))) ?_ ?_
  ·walk_at "x"
   ·rename_i h2;exact⟨_,rfl,rfl,.inl ⟨h2,rfl⟩⟩
   ·rename_i h2;exact⟨_,rfl,rfl,.inr ⟨by omega,rfl⟩⟩
  rintro v H' ⟨rfl,h2⟩
  rcases h2 with⟨hn,rfl⟩ | ⟨hp,rfl⟩
  ·have zn:sz (-My.gc t b)<=9000:=yb (zmr _) hz
   walk_at "x"
   refine ziw (by omega) zn ?_
   walk_at "x"
   refine ziw (by omega) zn ?_
   walk_at "x"
   exact NewQ.mk k (My.part_neg hn)
  ·walk_at "x"
   exact NewQ.mk k (My.part_pos hp)
theorem zkg(T:Txt K mg):FnOk P w K mg base (CXF P w) 1 T.d_under.a T.d_under.fd ["one", "other"] (zfe 60000):=by
 refine T.d_under.F.okN zkk (fun vs H Q E h=>?_) (fun cdv A outer s H vs Q E hr h=>?_)
 ·obtain⟨a,b,q,r,rfl,_⟩:=h;rfl
 obtain⟨a,b,q,r,rfl,h1,h2,s1,s2,k⟩:=h
 refine⟨_,(ze (zD (zbd zas (zo zau (zh (show IxR _ (rIx K)from zf) (pv 0) zc (fun _ _=>rfl)) (zh (show IxR _ (rIx K)from zf) (pv 1) zc (fun _ _=>rfl))) (zo zau (zh (show IxR _ (rIx K)from zf) (pv 1) zc (fun _ _=>rfl)) (zh (show IxR _ (rIx K)from zf) (pv 0) zc (fun _ _=>rfl))) (nomark _)))),?_⟩
 refine zB (σ0:=[some (.ref a),some (.ref b)]) rfl ?_
 have e:decide (q<r)=decide (q.num*(r.den:Int)<r.num*(q.den:Int)):=decide_eq_decide.mpr (Rat.lt_iff q r)
 rw[e]at k
 walk_at "x"
 refine zhZ (CMulS.of s1.1 s2.2 (by decide)) ?_
 walk_at "x"
 refine zhZ (CMulS.of s2.1 s1.2 (by decide)) ?_
 walk_at "x"
 exact k
theorem zfI(T:Txt K mg):FnOk P w K mg base (CXF P w) 2 T.d_worst_days.a T.d_worst_days.fd ["position", "moves", "k"] (ze9 K lP lQ):=by
 have tx:=TabX.ex (K:=K) (mg:=mg) (base:=base) (x := "worst_days") T.cw_worst_days T.tw_worst_days T.tb_worst_days
 have eT:zd9 K "worst_days" = T.tw_worst_days:=by unfold zd9;rw[T.tb_worst_days]
 refine T.d_worst_days.F.okC T.cc_worst_days sc_worst_days (fun vs H Q E h=>?_) (fun A outer s H vs Q E hr h=>?_)
 ·obtain⟨p,l,as,k,f,F,m,n,rfl,_⟩:=h;rfl
 obtain⟨p,l,as,k,f,F,m,n,rfl,hp,hl,hR,hf,hF,hm,hk,h1,h64,n0,hT,kk⟩:=h
 have al:as.length<=1000:=by omega
 refine⟨_,(zd (zw (i:=3) sc_worst_days.nd rfl (Or.inr rfl) (zm (zc6 (base:=base) T) (hr.mono (by decide)) rfl T.d_losses_of.m T.d_losses_of.F.kp T.d_losses_of.b .nil (zu zt) (za (pv 0) (za (pv 1) zb))))
 (ze (zD (za6 (show SlR _ (zcg K)from zbM) (show PE _ _ (tSK _ _ _ _ _ _)from zhQ (k:=0) (j:=3) (x := "day") (y := "losses") (by rfl) T.z_sorted BT.sorted (za (zbs (show CallR _ _ zeq from zgQ) rfl T.z_range BT.range (za (zp (show CallR _ _ (zac K)from zI) rfl T.z_len BT.len (za (pv 3) zb)) zb)) zb) rfl tx.1 tx.2 rfl rfl (hr.mono (by decide)) (fun _ _ _ _ _ _=>(z6 (za (zcL zca (zh (show IxR _ (rIx K)from zf) (pv 1) (pv 0) (fun _ _=>rfl))) (za (pv 0) zb))))) zbu (zbp (pv 2)))))),?_⟩
 refine zB (σ0:=[some (.ref p),some (.ref l),some (.int n),none]) rfl ?_
 walk_at "x"
 rename_i lo H1 flo e1 hlo
 have hTb:TbW K "worst_days" lP lQ H1:=TbW.same e1 hT
 have hTb':Tb H1 T.tw_worst_days lP lQ:=by rw[<- eT];exact hTb
 have hlen:((vec as.length fun i=>zag k f (F i)).map V.int).length=as.length:=by rw[ya,zJ]
 refine zn5 (zoq (zoh ?_))
 walk_at "x"
 rename_i r H2' fr e2 hr2
 rw[hlen]at hr2
 refine zK ?_
 refine⟨Tb.same hTb' e2,r,as.length,.ref lo,fun i=>-zag k f (F i),rfl,hr2,h1,h64,rfl,fun i H2 hi st=>?_,fun l q H3 hl3 st hTb3 hp3 hs hq=>?_⟩
 ·have hlo2:H2 lo=some (.lst ((vec as.length fun i=>zag k f (F i)).map V.int)):=st.at (e2.at hlo)
  have hat:atI ((vec as.length fun i=>zag k f (F i)).map V.int) (i:Int)=some (.int (zag k f (F i))):=zbL (by rw[yg,zaL hi];rfl)
  walk_at "x"
  refine zad (by first | decide | simp) fun t H4 ft e4 ht=>?_
  exact⟨t,rfl,e4,ht⟩
 ·have hq':H3 l=some (.lst ((zbX q).map V.int)):=by rw[hq];unfold zbX;rw[List.map_map];rfl
  have hql:(zbX q).length=as.length:=by rw[zd5];exact hp3.length_eq.trans y6
  have en:n=((n.toNat:Nat):Int):=by omega
  walk_at "x"
  rename_i sl H4 fsl e4 hsl
  rw[en,zfw,zix]at hsl
  exact kk sl H4 q (Same.none (Same.none (st.none fsl) e2) e1) ((e1.trans e2).t.trans (st.trans e4.t)) (TbW.same e4 (by unfold TbW;rw[eT];exact hTb3)) ⟨hp3,hs⟩ hsl
theorem zcV(T:Txt K mg):FnOk P w K mg base (CXF P w) 1 T.d_check_rule.a T.d_check_rule.fd ["rule", "moves"] (zga K T.c_NoRule):=by
 refine T.d_check_rule.F.okX zfA (fun vs H Q E h=>?_) (fun cdv A outer s H vs Q E hr h=>?_)
 ·obtain⟨ru,l,w,c,xs,rfl,_⟩:=h;rfl
 obtain⟨ru,l,w,c,xs,rfl,h1,h2,q1,q2⟩:=h
 refine⟨_,(zd (zE (zk (show OpR _ (compareOp .NotIn) (rIn K true)from zdj) (zh (show IxR _ (rIx K)from zf) (pv 0) zc (fun _ _=>rfl)) (z6 (za zv (za zv zb))) (by with_unfolding_all rfl))
 (ze (zY rfl rfl T.m_NoRule (errOk.own T.e_NoRule) (za zv zb) zak))
 zr)
 (ze (zE (PW.pt (zaf (zk zas (zh (show IxR _ (rIx K)from zf) (pv 0) zc (fun _ _=>rfl)) zc (nomark _)) (zab (zk zbi (zh (show IxR _ (rIx K)from zf) (pv 0) zc (fun _ _=>rfl)) (zp (show CallR _ _ (zac K)from zI) rfl T.z_len BT.len (za (pv 1) zb)) (nomark _)))))
 (ze (zY rfl rfl T.m_NoRule (errOk.own T.e_NoRule) (za zv zb) zak))
 zr))),?_⟩
 refine zB (σ0:=[some (.ref ru),some (.ref l)]) rfl ?_
 walk_at "x"
 refine zad (by first | decide | simp) fun t H1 ft e1 ht=>?_
 refine zfY (ws:=["worst", "mean"]) (SqT.of ht) ?_
 have hru1:=e1.at h1
 have hl1:=e1.at h2
 have hin:w∈(["worst", "mean"]:List Str)↔(w = "worst" \/ w = "mean"):=by
  rw[ye,yt]
 by_cases hw:w∈(["worst", "mean"]:List Str)
 ·rw[decide_eq_true hw]
  walk_at "x"
  ·rename_i hc
   exact⟨by decide,q2 (fun z=>by have:=z.2.1;omega) _ e1⟩
  ·rename_i hc hc2
   exact⟨by decide,q2 (fun z=>by have:=z.2.2;omega) _ e1⟩
  ·rename_i hc hc2
   exact q1 ⟨hin.mp hw,by omega,by omega⟩ _ e1
 ·rw[decide_eq_false hw]
  walk_at "x"
  exact⟨by decide,q2 (fun z=>hw (hin.mpr z.1)) _ e1⟩
theorem zfh(T:Txt K mg):FnOk P w K mg base (CXF P w) 1 T.d_check_order.a T.d_check_order.fd ["order"] (zio K T.c_NoLayer):=by
 refine T.d_check_order.F.okX sc_check_order (fun vs H Q E h=>?_) (fun cdv A outer s H vs Q E hr h=>?_)
 ·obtain⟨o,ws,rfl,_⟩:=h;rfl
 obtain⟨o,ws,rfl,hS,hl,k⟩:=h
 have qW:=T.q_WORDS
 refine⟨_,(ze (zaS PassesOwn.leaving rfl (show PI _ _ _ (zkR K _)from zl2 rfl T.z_enumerate (za (pv 0) zb)) (show PG _ _ (zgn K 2 _)from zjf (n:=2) rfl (zcK (zal (i:=1) sc_check_order.nd rfl (Or.inl rfl)) (zcK (zal (i:=2) sc_check_order.nd rfl (Or.inl rfl)) zg8)))
 (ze (zE (PW.pt (zaf (zk (show OpR _ (compareOp .NotIn) (rIn K true)from zdj) (pv 2) (zW (v:=.ref T.a_WORDS) rfl T.g_WORDS rfl) (by with_unfolding_all rfl)) (zab (zk (show OpR _ (compareOp .In) (rIn K false)from ziS) (pv 2) (za6 (show SlR _ (zcg K)from zbM) (pv 0) zbu (zbp (pv 1))) (by with_unfolding_all rfl)))))
 (ze (zY rfl rfl T.m_NoLayer (errOk.own T.e_NoLayer) (za zv zb) zak))
 zr)))),?_⟩
 refine zB (σ0:=[some (.ref o),none,none]) rfl ?_
 walk_at "x"
 refine zgj (zj3 (K:=K) (a:=o) (xs:=ws.map V.str)) (fun i σ' H'=>∃f1 f2:Option V,σ'=[some (.ref o),f1,f2]/\Same H H'/\OkO (ws.take i)) ⟨_,_,rfl,Same.refl _,by rw[List.take_zero];exact⟨(fun _ z=>nomatch z),yP⟩⟩ ?_ ?_ ?_
 ·rintro i σ' H' ⟨_,_,_,e,_⟩;exact e.seq hS
 ·rintro i y σ' H3 H4 hi ⟨f1,f2,rfl,e3,hO⟩ e4 ⟨t,v,rfl,hv,ht⟩
  obtain⟨w,hwi,rfl⟩:=zld hv
  have e04:Same H H4:=e3.trans e4
  have hS4:=e04.seq hS
  have ht':H4 t=some (.tup [.int (i:Int),.str w]):=ht
  have bad:¬(w∈words5/\w∉ws.take i)->¬OkO ws:=fun z hv=>z ⟨hv.1 w (yp hwi),zkd hv.2 hwi⟩
  walk_at "x"
  refine zfY (ws:=words5) (qW _) ?_
  by_cases h5:w∈words5
  ·rw[decide_eq_true h5]
   walk_at "x"
   rename_i sl H5 fsl e5 hsl
   rw[zgs,<- List.map_take]at hsl
   refine zmB (ws:=ws.take i) (SqL.of hsl) ?_
   by_cases hm:w∈ws.take i
   ·rw[decide_eq_true hm]
    walk_at "x"
    rcases k with⟨hv,_⟩ | ⟨_,k⟩
    ·exact absurd hv (bad fun z=>z.2 hm)
    ·exact⟨by decide,k _ (e04.trans e5)⟩
   ·rw[decide_eq_false hm]
    walk_at "x"
    refine⟨_,_,rfl,e04.trans e5,?_⟩
    rw[List.take_succ,hwi]
    exact zkH hO h5 hm
  ·rw[decide_eq_false h5]
   walk_at "x"
   rcases k with⟨hv,_⟩ | ⟨_,k⟩
   ·exact absurd hv (bad fun z=>h5 z.1)
   ·exact⟨by decide,k _ e04⟩
 ·rintro σ' H1 ⟨f1,f2,rfl,e1,hO⟩
  rw[ya,yaw]at hO
  walk_at "x"
  rcases k with⟨_,k⟩ | ⟨hv,_⟩
  ·exact k _ e1
  ·exact absurd hO hv
theorem zck(T:Txt K mg):FnOk P w K mg base (CXF P w) 1 T.d_check_enough.a T.d_check_enough.fd ["coins", "wanted"] (zjF T.c_Poor):=by
 refine T.d_check_enough.F.okX zeA (fun vs H Q E h=>?_) (fun cdv A outer s H vs Q E hr h=>?_)
 ·obtain⟨x,y,rfl,_⟩:=h;rfl
 obtain⟨x,y,rfl,q0,q1⟩:=h
 refine⟨_,(ze (zE (zk zas (pv 0) (pv 1) (nomark _))
 (ze (zY rfl rfl T.m_Poor (errOk.own T.e_Poor) (za zv zb) zak))
 zr)),?_⟩
 refine zB (σ0:=[some (.int x),some (.int y)]) rfl ?_
 walk_at "x"
 ·rename_i h;exact⟨by decide,q1 h⟩
 ·rename_i h;exact q0 (by omega)
theorem zbm(T:Txt K mg):FnOk P w K mg base (CXF P w) 2 T.d_check_covered.a T.d_check_covered.fd ["pledge", "need"] (ziH T.c_Bare):=by
 refine T.d_check_covered.F.okX zek (fun vs H Q E h=>?_) (fun cdv A outer s H vs Q E hr h=>?_)
 ·obtain⟨x,r,q,rfl,_⟩:=h;rfl
 obtain⟨x,r,q,rfl,hq,zq,zx,q0,q1⟩:=h
 refine⟨_,(ze (zE (show PT _ _ (za0 K _)from zV (zm (zkg (base:=base) T) (hr.mono (by decide)) rfl T.d_under.m T.d_under.F.kp T.d_under.b .nil (zu zt) (za (z6 (za (pv 0) (za zc zb))) (za (pv 1) zb))) (fun _=>rfl))
 (ze (zY rfl rfl T.m_Bare (errOk.own T.e_Bare) (za zv zb) zak))
 zr)),?_⟩
 refine zB (σ0:=[some (.int x),some (.ref r)]) rfl ?_
 walk_at "x"
 refine zf9 (q:=((x:Int):Rat)) ⟨rfl,rfl⟩ ?_
 intro t H1 e1 ht
 have hz:SzQ ((x:Int):Rat) 60000 60000:=⟨zx,zbc (by show(1:Int).natAbs<_;exact yo (by decide:(1:Int).natAbs<2 ^ 1) (Nat.pow_le_pow_right (by decide) (by decide)))⟩
 walk_at "x"
 ·rename_i h;exact⟨by decide,q1 h _ e1⟩
 ·rename_i h;exact q0 h _ e1
theorem zd3(T:Txt K mg):FnOk P w K mg base (CXF P w) 1 T.d_Book___init__.a T.d_Book___init__.fd ["self", "many", "wares"] (zlK T.c_Book):=by
 refine T.d_Book___init__.F.okN zd7 (fun vs H Q E h=>?_) (fun cdv A outer s H vs Q E hr h=>?_)
 ·obtain⟨p,dx,m,w,rfl,_⟩:=h;rfl
 obtain⟨p,dx,m,w,rfl,hp,k⟩:=h
 refine⟨_,(zd (show PS _ _ (zbe K _ _ _)from zaT (pv 0) (pv 1) rfl)
 (zd (show PS _ _ (zbe K _ _ _)from zaT (pv 0) (pv 2) rfl)
 (zd (show PS _ _ (zbe K _ _ _)from zaT (pv 0) zc rfl)
 (ze (show PS _ _ (zbe K _ _ _)from zaT (pv 0) (zai zb) rfl))))),?_⟩
 refine zB (σ0:=[some (.ref p),some (.int m),some (.int w)]) rfl ?_
 walk_at "x"
 refine zaD hp T.cl_Book T.na_Book_many (by show 0<1000;decide) fun H1 b1 h1=>?_
 walk_at "x"
 refine zaD h1 T.cl_Book T.na_Book_wares (by show 1<1000;decide) fun H2 b2 h2=>?_
 walk_at "x"
 refine zaD h2 T.cl_Book T.na_Book_day (yC (zj _ _ _) (by show 2<1000;decide)) fun H3 b3 h3=>?_
 walk_at "x"
 rename_i d H4 fd e4 hd
 refine zaD (e4.at h3) T.cl_Book T.na_Book_deals (yC (zj _ _ _) (yC (Nat.add_le_add_right (zj _ _ _) 1) (by show 3<1000;decide))) fun H5 b5 h5=>?_
 have npd:d≠p:=zbK fd h3
 refine k d H5 ?_ (fun b o n q=>b5.at (e4.at (b3.at (b2.at (b1.at q n) n) n)) n) h5 (b5.at hd npd)
 have f3:H2 d=none:=by rw[<- b3 d npd];exact fd
 have f2:H1 d=none:=by rw[<- b2 d npd];exact f3
 rw[<- b1 d npd];exact f2
theorem zbl(T:Txt K mg):FnOk P w K mg base (CXF P w) 1 T.d_Book_position.a T.d_Book_position.fd ["self", "member"] (zh7 T.c_Book):=by
 refine T.d_Book_position.F.okN sc_Book_position (fun vs H Q E h=>?_) (fun cdv A outer s H vs Q E hr h=>?_)
 ·obtain⟨b,d,m,y,n,w,ts,rfl,_⟩:=h;rfl
 obtain⟨b,d,m,y,n,w,ts,rfl,hB,hw,w1,k⟩:=h
 obtain⟨⟨dx,hb⟩,xs,hd,hI⟩:=id hB
 have cl_Book:=T.cl_Book
 have na_Book_deals:=T.na_Book_deals
 have na_Book_wares:=T.na_Book_wares
 refine⟨_,(zd (zw (i:=2) sc_Book_position.nd rfl (Or.inl rfl) (zo zau (zai (za zc zb)) (show PE _ _ (z3 K _ _)from zO (pv 0) rfl)))
 (zd (zaS PassesOwn.never rfl (show PI _ _ _ (zaJ K _)from zaj (show PE _ _ (z3 K _ _)from zO (pv 0) rfl)) (zal (i:=3) sc_Book_position.nd rfl (Or.inl rfl))
 (ze (zE (PW.pt (zgH (zk (show OpR _ (compareOp .Eq) (zX K)from zR hr.units) (zh (show IxR _ (rIx K)from zf) (pv 3) (zW (v:=.int 7) rfl T.g_STATE.h ⟨_,rfl⟩) (fun _ _=>rfl)) zv (nomark _)) (zeW (zk (show OpR _ (compareOp .Eq) (zX K)from zR hr.units) (zh (show IxR _ (rIx K)from zf) (pv 3) (zW (v:=.int 0) rfl T.g_PAYER.h ⟨_,rfl⟩) (fun _ _=>rfl)) (pv 1) (nomark _)))))
 (ze (zbv (pv 2) (zh (show IxR _ (rIx K)from zf) (pv 3) (zW (v:=.int 2) rfl T.g_WARE.h ⟨_,rfl⟩) (fun _ _=>rfl)) (show zcu _ (zbB K)from zaY) (zh (show IxR _ (rIx K)from zf) (pv 3) (zW (v:=.int 3) rfl T.g_UNITS.h ⟨_,rfl⟩) (fun _ _=>rfl)) zdn zU))
 (ze (zE (PW.pt (zgH (zk (show OpR _ (compareOp .Eq) (zX K)from zR hr.units) (zh (show IxR _ (rIx K)from zf) (pv 3) (zW (v:=.int 7) rfl T.g_STATE.h ⟨_,rfl⟩) (fun _ _=>rfl)) zv (nomark _)) (zeW (zk (show OpR _ (compareOp .Eq) (zX K)from zR hr.units) (zh (show IxR _ (rIx K)from zf) (pv 3) (zW (v:=.int 1) rfl T.g_PAYEE.h ⟨_,rfl⟩) (fun _ _=>rfl)) (pv 1) (nomark _)))))
 (ze (zbv (pv 2) (zh (show IxR _ (rIx K)from zf) (pv 3) (zW (v:=.int 2) rfl T.g_WARE.h ⟨_,rfl⟩) (fun _ _=>rfl)) (show zcu _ (zbB K)from zaY) (zh (show IxR _ (rIx K)from zf) (pv 3) (zW (v:=.int 3) rfl T.g_UNITS.h ⟨_,rfl⟩) (fun _ _=>rfl)) zgG zU))
 zr)))))
 (ze (zD (pv 2))))),?_⟩
 refine zB (σ0:=[some (.ref b),some (.int n),none,none]) rfl ?_
 walk_at "x"
 rename_i z0 H1 fz0 e1 hz0 ma H2 fma e2 hma
 rw[yx]at hma
 have fmaH:H ma=none:=Same.none fma e1
 refine zc5 (xs:=xs) (fun i σ' H'=>∃f3:Option V,σ'=[some (.ref b),some (.int n),some (.ref ma),f3]/\Same H H'/\H' ma=some (.lst ((vec w (z7 (ts.take i) n)).map V.int))) ⟨_,rfl,e1.trans e2,hma⟩ ?_ ?_ ?_
 ·rintro i σ' H' _ ⟨_,_,e,_⟩;exact SqL.of (e.at hd)
 ·rintro i x σ' H3 hx ⟨f3,rfl,e3,hma3⟩
  obtain⟨a,u,rfl,hu,ha⟩:=(hI.same e3).get hx
  have ha3:H3 a=some (.tup [.int u.1.p,.int u.1.q,.int u.1.w,.int u.1.u,.int u.1.a,.int u.1.y,.int u.1.r,.str u.2]):=ha
  obtain⟨uw0,uw1⟩:=hw u (yp hu)
  have hpt:=zcZ hu n
  have same:z7 (ts.take (i+1)) n=z7 (ts.take i) n->H3 ma=some (.lst ((vec w (z7 (ts.take (i+1)) n)).map V.int)):=fun e=>by rw[e];exact hma3
  walk_at "x"
  ·rename_i h1 h2 H4 b4 h4
   refine⟨_,rfl,b4.same e3 fmaH,?_⟩
   rw[h4]
   congr 3
   refine zao fun j hj=>?_
   rw[hpt]
   unfold zay
   by_cases hj2:u.1.w=(j:Int)
   ·have hje:u.1.w.toNat=j:=by omega
    rw[hje,if_pos rfl,if_pos ⟨h1,hj2⟩,if_pos h2]
   ·rw[if_neg (show ¬j=u.1.w.toNat by omega),if_neg (fun z=>hj2 z.2)];omega
  ·rename_i h1 h2 h3 H4 b4 h4
   refine⟨_,rfl,b4.same e3 fmaH,?_⟩
   rw[h4]
   congr 3
   refine zao fun j hj=>?_
   rw[hpt]
   unfold zay
   by_cases hj2:u.1.w=(j:Int)
   ·have hje:u.1.w.toNat=j:=by omega
    rw[hje,if_pos rfl,if_pos ⟨h1,hj2⟩,if_neg h2,if_pos h3];omega
   ·rw[if_neg (show ¬j=u.1.w.toNat by omega),if_neg (fun z=>hj2 z.2)];omega
  ·rename_i h1 h2 h3
   refine⟨_,rfl,e3,same (funext fun j=>?_)⟩
   rw[hpt]
   unfold zay
   rw[if_neg h2,if_neg h3]
   split<;>omega
  ·rename_i h1
   refine⟨_,rfl,e3,same (funext fun j=>?_)⟩
   rw[hpt]
   unfold zay
   rw[if_neg fun z=>h1 z.1]
   omega
 ·rintro σ' H3 ⟨f3,rfl,e3,hma3⟩
  rw[hI.length,yaw]at hma3
  walk_at "x"
  exact k ma H3 fmaH e3 hma3
theorem zeo(T:Txt K mg):FnOk P w K mg base (CXF P w) 3 T.d_need_of.a T.d_need_of.fd ["rule", "position", "moves"] (zjc K T.c_NoRule lP lQ):=by
 refine T.d_need_of.F.okX sc_need_of (fun vs H Q E h=>?_) (fun cdv A outer s H vs Q E hr h=>?_)
 ·obtain⟨ru,p,l,w,c,as,k,f,F,m,rfl,_⟩:=h;rfl
 obtain⟨ru,p,l,w,c,as,k,f,F,m,rfl,hru,⟨hp,hl,hR,w1,w2,hm,hk,n1,n2,hT⟩,q1,q2⟩:=h
 have hml:(as.map V.ref).length=as.length:=ya ..
 refine⟨_,(zd (zL (zm (zcV (base:=base) T) (hr.mono (by decide)) rfl T.d_check_rule.m T.d_check_rule.F.kp T.d_check_rule.b .nil zT (za (pv 0) (za (pv 2) zb))))
 (zd (zw (i:=3) sc_need_of.nd rfl (Or.inr rfl) (zm (zc6 (base:=base) T) (hr.mono (by decide)) rfl T.d_losses_of.m T.d_losses_of.F.kp T.d_losses_of.b .nil (zu zt) (za (pv 1) (za (pv 2) zb))))
 (zd (zb4 (i:=4) sc_need_of.nd rfl rfl rfl (show PI _ _ _ (zaJ K _)from zaj (zm (zfI (base:=base) T) (hr.mono (by decide)) rfl T.d_worst_days.m T.d_worst_days.F.kp T.d_worst_days.b .nil (zu zt) (za (pv 1) (za (pv 2) (za (zh (show IxR _ (rIx K)from zf) (pv 0) zc (fun _ _=>rfl)) zb))))) (zP (Ni:=["day", "losses"]) (caps:=[none,some 3]) (by rfl)) (fun S _ _ _ _ _=>(z4 (gi:=0) S (Or.inl rfl) rfl)) (fun _ _ _ _ _=>zat) (fun _ _ _ _ _=>(zh (show IxR _ (rIx K)from zf) (pv 1) (pv 0) (fun _ _=>rfl))))
 (zav (zE (zk (show OpR _ (compareOp .Eq) (zX K)from zR hr.units) (zh (show IxR _ (rIx K)from zf) (pv 0) zc (fun _ _=>rfl)) zv (nomark _))
 (ze (zw (i:=5) sc_need_of.nd rfl (Or.inl rfl) (z6 (za (zh (show IxR _ (rIx K)from zf) (pv 4) (zcL zca zc) (fun _ _=>rfl)) (za zc zb)))))
 (ze (zw (i:=5) sc_need_of.nd rfl (Or.inl rfl) (zm (zlZ (base:=base) T) (hr.mono (by decide)) rfl T.d_part.m T.d_part.F.kp T.d_part.b .nil zT (za (zp (show CallR _ _ (zeh K)from zcr rfl) rfl T.z_sum BT.sum (za (pv 4) zb)) (za (zp (show CallR _ _ (zac K)from zI) rfl T.z_len BT.len (za (pv 4) zb)) zb))))))
 (ze (zD (zj2 (zk zbi (zh (show IxR _ (rIx K)from zf) (pv 5) zc (fun _ _=>rfl)) zc (nomark _)) (pv 5) (z6 (za zc (za zc zb)))))))))),?_⟩
 refine zB (σ0:=[some (.ref ru),some (.ref p),some (.ref l),none,none,none]) rfl ?_
 walk_at "x"
 refine zeB hru hl (fun ok H1 e1=>?_) (fun nok H1 e1=>q2 (by rw[hml]at nok;exact nok) H1 e1)
 rw[hml]at ok
 obtain⟨hw,c0,c1⟩:=ok
 have hru1:=e1.at hru
 have hp1:=e1.at hp
 have hl1:=e1.at hl
 have hR1:=hR.same e1
 have hT1:TbW K "worst_days" lP lQ H1:=TbW.same e1 hT
 walk_at "x"
 rename_i lo H2 flo e2 hlo wd H3 q fwd st3 hT3 hL hwd
 obtain⟨L,hLe⟩:∃L:Nat->Int,L=fun i=>zag k f (F i):=⟨_,rfl⟩
 rw[<- hLe]at hL q1
 have hvL:(vec as.length fun i=>zag k f (F i))=vec as.length L:=by rw[hLe]
 rw[hvL]at hlo
 have hn64:as.length<=64:=by omega
 have htl:(q.take c.toNat).length=c.toNat:=by rw[yU,hL.len];omega
 have hlo3:H3 lo=some (.lst ((vec as.length L).map V.int)):=st3.lst hlo
 have hru3:H3 ru=some (.tup [.str w,.int c]):=st3.tup (e2.at hru1)
 have st03:SameT H H3:=(e1.trans e2).t.trans st3
 refine zah (zaO (K:=K) (a:=wd) (xs:=(zbX (q.take c.toNat)).map V.int)) (fun H' e=>SqL.of (e.at hwd)) rfl (fun i vs _=>vs=(vec i fun i=>L (q.getD i 0)).map V.int) (fun H' _=>rfl) ?_ ?_
 ·rintro i x D vs o H4 H5 hi hD e4 hv hvl rfl e5 hx
  rw[ya,zd5,htl]at hi
  have ex:x=.int ((q.getD i 0:Nat):Int):=by
   rw[yg,zlc (by omega),yh,List.getElem?_take,if_pos hi,<- yh]at hx
   exact(yn hx).symm
  subst ex
  have hq:=hL.getLt (by omega) i
  have hlo5:=(e4.trans e5).at hlo3
  have hat:atI ((vec as.length L).map V.int) ((q.getD i 0:Nat):Int)=some (.int (L (q.getD i 0))):=zbL (by rw[yg,zaL hq];rfl)
  walk_at "x"
  rename_i H6 b6 h6
  refine⟨⟨_,rfl⟩,b6.same (e4.trans e5) hD,_,h6,by rw[yk];exact yc hvl,?_⟩
  dsimp only
  rw[zan,yw];rfl
 rintro wl H4 vs fwl e4 hwl hvl rfl
 rw[ya,zd5,htl]at hwl
 have hru4:=e4.at hru3
 have hB:∀d,d<as.length->-9000000000000000000000000<=L d/\L d<=9000000000000000000000000:=fun d hd=>by
  have:=zef (k:=k) (f:=f) (g:=F d) hm w1 (w2 d hd)
  have h1:(k:Int)*1000000000000000000000000<=9*1000000000000000000000000:=yK (by omega) (by decide)
  rw[hLe]
  dsimp only
  omega
 have hzr:SzQ (zbZ (decide (w = "mean")) L q c.toNat) 100 10:=zmy hL (by omega) (by omega) n2 hB
 have hwm:("worst" : Str) ≠ "mean" := by decide
 have hat:atI ((vec c.toNat fun i=>L (q.getD i 0)).map V.int) (-1)=some (.int (L (q.getD (c.toNat-1) 0))):=by
  obtain⟨c',hc'⟩:∃c',c.toNat=c'+1:=⟨c.toNat-1,by omega⟩
  rw[hc',zan,yw]
  exact zjT _ _
 have hcl:((vec c.toNat fun i=>L (q.getD i 0)).map V.int).length=c.toNat:=by rw[ya,zJ]
 walk_at "x"
 refine ziW 5 (fun v H'=>∃r:Addr,v=.ref r/\Same H4 H'/\IsQ H' r (zbZ (decide (w = "mean")) L q c.toNat)) ?_ ?_
 ·walk_at "x"
  ·rename_i hw1
   refine zf9 (q:=((L (q.getD (c.toNat-1) 0):Int):Rat)) ⟨rfl,rfl⟩ ?_
   intro r H5 e5 hr5
   refine⟨_,rfl,r,rfl,e5,?_⟩
   unfold zbZ
   rw[hw1,decide_eq_false hwm,if_neg (by decide)]
   exact hr5
  ·rename_i hw1
   have hw2:w = "mean" := hw.resolve_left hw1
   refine ziG (by omega) (yb (zbc (n:=10) (by omega)) (by decide)) ?_
   intro r H5 e5 hr5
   refine⟨_,rfl,r,rfl,e5,?_⟩
   unfold zbZ
   rw[hw2,decide_eq_true rfl,if_pos rfl,zdu _ _ _ (by rw[hL.len];omega)]
   rw[zd6,hcl]at hr5
   exact hr5
 rintro _ H5 ⟨r,rfl,e5,hr5⟩
 have hT5:TbW K "worst_days" lP lQ H5:=TbW.same (e4.trans e5) hT3
 have st05:SameT H H5:=st03.trans (e4.trans e5).t
 walk_at "x"
 ·rename_i hpos
  have hp0:pos0 (zbZ (decide (w = "mean")) L q c.toNat)=zbZ (decide (w = "mean")) L q c.toNat:=if_pos (nump.mp hpos)
  refine q1 ⟨hw,c0,c1⟩ r H5 q st05 hT5 hL ?_ (zg0 hzr (by decide))
  unfold z9
  rw[hp0];exact hr5
 ·rename_i hpos
  refine zf9 (q:=(0:Rat)) ⟨rfl,rfl⟩ ?_
  intro r' H6 e6 hr6
  have hp0:pos0 (zbZ (decide (w = "mean")) L q c.toNat)=0:=if_neg (fun z=>hpos (nump.mpr z))
  refine q1 ⟨hw,c0,c1⟩ r' H6 q (st05.trans e6.t) (TbW.same e6 hT5) hL ?_ (zg0 hzr (by decide))
  unfold z9
  rw[hp0];exact hr6
theorem zaZ(T:Txt K mg):FnOk P w K mg base (CXF P w) 1 T.d_House_check_coins.a T.d_House_check_coins.fd ["self", "member", "coins"] (zm4 T.c_House T.c_NoMember T.c_NoTerms):=by
 refine T.d_House_check_coins.F.okX zcO (fun vs H Q E h=>?_) (fun cdv A outer s H vs Q E hr h=>?_)
 ·obtain⟨h,B,own,m,c,n,P,L,rfl,_⟩:=h;rfl
 obtain⟨h,B,own,m,c,n,P,L,rfl,hC,q0,q1,q2⟩:=h
 obtain⟨⟨dx,hh⟩,hpu,hpl,hne⟩:=id hC
 have hpl':((vec n P).map V.int).length=n:=by rw[ya,zJ]
 have cl_House:=T.cl_House
 have na_House_purses:=T.na_House_purses
 refine⟨_,(zd (zE (PW.pt (zaf (zk zas (pv 1) zc (nomark _)) (zab (zk zeH (pv 1) (zp (show CallR _ _ (zac K)from zI) rfl T.z_len BT.len (za (show PE _ _ (z3 K _ _)from zO (pv 0) rfl) zb)) (nomark _)))))
 (ze (zY rfl rfl T.m_NoMember (errOk.own T.e_NoMember) (za zv zb) zak))
 zr)
 (ze (zE (PW.pt (zaf (zk zas (pv 2) zc (nomark _)) (zab (zk zbi (pv 2) (zW (v:=.int 1000000000) rfl T.g_MOST_COINS.h ⟨_,rfl⟩) (nomark _)))))
 (ze (zY rfl rfl T.m_NoTerms (errOk.own T.e_NoTerms) (za zv zb) zak))
 zr))),?_⟩
 refine zB (σ0:=[some (.ref h),some (.int m),some (.int c)]) rfl ?_
 walk_at "x"
 all_goals first
  | exact q0 ⟨by omega,by omega⟩ ⟨by omega,by omega⟩
  | exact⟨by decide,q1 (fun z=>by have:=z.1;have:=z.2;omega)⟩
  | exact⟨by decide,q2 ⟨by omega,by omega⟩ (fun z=>by have:=z.1;have:=z.2;omega)⟩
theorem zgx(T:Txt K mg):FnOk P w K mg base (CXF P w) 2 T.d_House_put.a T.d_House_put.fd ["self", "member", "coins"] (zmn T.c_House T.c_NoMember T.c_NoTerms):=by
 refine T.d_House_put.F.okX zf4 (fun vs H Q E h=>?_) (fun cdv A outer s H vs Q E hr h=>?_)
 ·obtain⟨h,B,own,m,c,n,P,L,rfl,_⟩:=h;rfl
 obtain⟨h,B,own,m,c,n,P,L,rfl,hC,q0,q1,q2⟩:=h
 obtain⟨⟨dx,hh⟩,hpu,hpl,hne⟩:=id hC
 have cl_House:=T.cl_House
 have na_House_purses:=T.na_House_purses
 refine⟨_,(zd (zL (zQ (pv 0) T.cl_House T.d_House_check_coins.mt (zaZ (base:=base) T) (hr.mono (by decide)) T.d_House_check_coins.b .nil zT (za (pv 1) (za (pv 2) zb))))
 (ze (zbv (show PE _ _ (z3 K _ _)from zO (pv 0) rfl) (pv 1) (show zcu _ (zbB K)from zaY) (pv 2) zdn zU))),?_⟩
 refine zB (σ0:=[some (.ref h),some (.int m),some (.int c)]) rfl ?_
 walk_at "x"
 refine⟨h,B,own,m,c,n,P,L,rfl,hC,fun hm ht=>?_,q1,q2⟩
 have ⟨m0,m1⟩:=hm
 walk_at "x"
 rename_i H1 b1 h1
 exact q0 hm ht _ b1 h1
theorem zds(T:Txt K mg):FnOk P w K mg base (CXF P w) 2 T.d_House_lay.a T.d_House_lay.fd ["self", "member", "coins"] (zi6 T.c_House T.c_NoMember T.c_NoTerms T.c_Poor):=by
 refine T.d_House_lay.F.okX zgJ (fun vs H Q E h=>?_) (fun cdv A outer s H vs Q E hr h=>?_)
 ·obtain⟨h,B,own,m,c,n,P,L,rfl,_⟩:=h;rfl
 obtain⟨h,B,own,m,c,n,P,L,rfl,hC,q0,q1,q2,q3⟩:=h
 obtain⟨⟨dx,hh⟩,hpu,hpl,hne⟩:=id hC
 have cl_House:=T.cl_House
 have na_House_purses:=T.na_House_purses
 have na_House_pledges:=T.na_House_pledges
 refine⟨_,(zd (zL (zQ (pv 0) T.cl_House T.d_House_check_coins.mt (zaZ (base:=base) T) (hr.mono (by decide)) T.d_House_check_coins.b .nil zT (za (pv 1) (za (pv 2) zb))))
 (zd (zL (zm (zck (base:=base) T) (hr.mono (by decide)) rfl T.d_check_enough.m T.d_check_enough.F.kp T.d_check_enough.b .nil zT (za (zh (show IxR _ (rIx K)from zf) (show PE _ _ (z3 K _ _)from zO (pv 0) rfl) (pv 1) (fun _ _=>rfl)) (za (pv 2) zb))))
 (zd (zbv (show PE _ _ (z3 K _ _)from zO (pv 0) rfl) (pv 1) (show zcu _ (zbB K)from zaY) (pv 2) zgG zU)
 (ze (zbv (show PE _ _ (z3 K _ _)from zO (pv 0) rfl) (pv 1) (show zcu _ (zbB K)from zaY) (pv 2) zdn zU))))),?_⟩
 refine zB (σ0:=[some (.ref h),some (.int m),some (.int c)]) rfl ?_
 walk_at "x"
 refine⟨h,B,own,m,c,n,P,L,rfl,hC,fun hm ht=>?_,q1,q2⟩
 have ⟨m0,m1⟩:=hm
 walk_at "x"
 refine⟨_,_,rfl,fun hle=>?_,fun hlt=>q3 hm ht hlt⟩
 walk_at "x"
 rename_i H1 b1 h1
 have hh1:=b1.ins hh
 have hpl1:=b1.lst hpl hne.symm
 rw[Int.sub_eq_add_neg]at h1
 walk_at "x"
 rename_i H2 b2 h2
 exact q0 hm ht hle _ _ b1 h1 b2 h2
theorem zcU(T:Txt K mg):FnOk P w K mg base (CXF P w) 4 T.d_House_need.a T.d_House_need.fd ["self", "member"] (zlS K T.c_House T.c_Book lP lQ):=by
 refine T.d_House_need.F.okX zfD (fun vs H Q E h=>?_) (fun cdv A outer s H vs Q E hr h=>?_)
 ·obtain⟨h,dx,d,B,own,m,y,n,ts,bs,k,F,w,c,rfl,_⟩:=h;rfl
 obtain⟨h,dx,d,B,own,m,y,n,ts,bs,k,F,w,c,rfl,hh,hN,q⟩:=h
 obtain⟨⟨dxb,hbk⟩,_⟩:=id hN.bk
 have cl_House:=T.cl_House
 have na_House_rule:=T.na_House_rule
 have na_House_book:=T.na_House_book
 have na_House_moves:=T.na_House_moves
 refine⟨_,(ze (zD (zm (zeo (base:=base) T) (hr.mono (by decide)) rfl T.d_need_of.m T.d_need_of.F.kp T.d_need_of.b .nil zT (za (show PE _ _ (z3 K _ _)from zO (pv 0) rfl) (za (zQ (show PE _ _ (z3 K _ _)from zO (pv 0) rfl) T.cl_Book T.d_Book_position.mt (zbl (base:=base) T) (hr.mono (by decide)) T.d_Book_position.b .nil (zu zt) (za (pv 1) zb)) (za (show PE _ _ (z3 K _ _)from zO (pv 0) rfl) zb)))))),?_⟩
 refine zB (σ0:=[some (.ref h),some (.int n)]) rfl ?_
 walk_at "x"
 refine⟨_,d,_,_,n,k,ts,rfl,hN.bk,hN.tok,by have:=hN.k9;omega,fun p H1 fp e1 hp=>?_⟩
 have hh1:=e1.at hh
 walk_at "x"
 have hN1:=hN.same e1
 have hb:∀j,-1000000000<=z7 ts n j/\z7 ts n j<=1000000000:=fun j=>by
  have h1:=zb5 hN.tu n j
  have h2:=hN.tl
  omega
 refine zgb (m:=1000000000) hN1.ru ⟨hp,hN1.mv,hN1.rows,fun j _=>hb j,fun i hi j hj=>by have:=hN.fw i hi j hj;omega,by decide,hN.k9,by have:=hN.ok.2;omega,hN.n64,hN1.tb⟩ hN.ok fun r H2 ql s2 t2 hL hr2 hz=>?_
 exact q r H2 ql (e1.t.trans s2) t2 hL hr2 hz
theorem zfy(T:Txt K mg):FnOk P w K mg base (CXF P w) 5 T.d_House_free.a T.d_House_free.fd ["self", "member", "coins"] (zll K T.c_House T.c_Book lP lQ T.c_NoMember T.c_NoTerms T.c_Poor T.c_Bare):=by
 refine T.d_House_free.F.okX zfJ (fun vs H Q E h=>?_) (fun cdv A outer s H vs Q E hr h=>?_)
 ·obtain⟨h,d,B,own,m,c,mm,y,n,P,L,ts,bs,k,F,w,cr,rfl,_⟩:=h;rfl
 obtain⟨h,d,B,own,m,c,mm,y,n,P,L,ts,bs,k,F,w,cr,rfl,hC,hN,hz,q0,q1,q2,q3⟩:=h
 obtain⟨⟨dx,hh⟩,hpu,hpl,hne⟩:=id hC
 have cl_House:=T.cl_House
 have na_House_purses:=T.na_House_purses
 have na_House_pledges:=T.na_House_pledges
 refine⟨_,(zd (zL (zQ (pv 0) T.cl_House T.d_House_check_coins.mt (zaZ (base:=base) T) (hr.mono (by decide)) T.d_House_check_coins.b .nil zT (za (pv 1) (za (pv 2) zb))))
 (zd (zL (zm (zck (base:=base) T) (hr.mono (by decide)) rfl T.d_check_enough.m T.d_check_enough.F.kp T.d_check_enough.b .nil zT (za (zh (show IxR _ (rIx K)from zf) (show PE _ _ (z3 K _ _)from zO (pv 0) rfl) (pv 1) (fun _ _=>rfl)) (za (pv 2) zb))))
 (zd (zL (zm (zbm (base:=base) T) (hr.mono (by decide)) rfl T.d_check_covered.m T.d_check_covered.F.kp T.d_check_covered.b .nil zT (za (zo zaC (zh (show IxR _ (rIx K)from zf) (show PE _ _ (z3 K _ _)from zO (pv 0) rfl) (pv 1) (fun _ _=>rfl)) (pv 2)) (za (zQ (pv 0) T.cl_House T.d_House_need.mt (zcU (base:=base) T) (hr.mono (by decide)) T.d_House_need.b .nil zT (za (pv 1) zb)) zb))))
 (zd (zbv (show PE _ _ (z3 K _ _)from zO (pv 0) rfl) (pv 1) (show zcu _ (zbB K)from zaY) (pv 2) zgG zU)
 (ze (zbv (show PE _ _ (z3 K _ _)from zO (pv 0) rfl) (pv 1) (show zcu _ (zbB K)from zaY) (pv 2) zdn zU)))))),?_⟩
 refine zB (σ0:=[some (.ref h),some (.int m),some (.int c)]) rfl ?_
 walk_at "x"
 refine⟨h,B,own,m,c,n,P,L,rfl,hC,fun hm ht=>?_,q1,q2⟩
 have ⟨m0,m1⟩:=hm
 walk_at "x"
 refine⟨_,_,rfl,fun hle=>?_,fun hlt=>q3 hm ht hlt⟩
 walk_at "x"
 refine⟨h,dx,d,B,own,mm,y,m,ts,bs,k,F,w,cr,rfl,hh,hN,fun r H1 q s1 t1 hL hr1 hz1=>?_⟩
 walk_at "x"
 refine⟨_,r,_,rfl,hr1,hz1.mono (by decide) (by decide),hz hm ht,fun hnl H2 e2=>?_,fun hlt H2 e2=>?_⟩
 ·obtain⟨qb,qk⟩:=q0 hm ht hle H2 q (s1.trans e2.t) (TbW.same e2 t1) hL
  have s2:SameT H H2:=s1.trans e2.t
  have hh2:=s2.ins hh
  have hpu2:=s2.lst hpu
  have hpl2:=s2.lst hpl
  walk_at "x"
  rename_i H3 b3 h3 H4 b4 h4
  rw[Int.sub_eq_add_neg]at h3
  exact qk hnl _ _ b3 h3 b4 h4
 ·exact(q0 hm ht hle H2 q (s1.trans e2.t) (TbW.same e2 t1) hL).1 hlt
theorem zel(T:Txt K mg):FnOk P w K mg base (CXF P w) 1 T.d_House_pledge.a T.d_House_pledge.fd ["self", "member"] (zfs T.c_House):=by
 refine T.d_House_pledge.F.okN zex (fun vs H Q E h=>?_) (fun cdv A outer s H vs Q E hr h=>?_)
 ·obtain⟨h,dx,B,own,k,n,f,rfl,_⟩:=h;rfl
 obtain⟨h,dx,B,own,k,n,f,rfl,hh,hp,k0,k1,q⟩:=h
 have cl_House:=T.cl_House
 have na_House_pledges:=T.na_House_pledges
 refine⟨_,(ze (zD (zh (show IxR _ (rIx K)from zf) (show PE _ _ (z3 K _ _)from zO (pv 0) rfl) (pv 1) (fun _ _=>rfl)))),?_⟩
 refine zB (σ0:=[some (.ref h),some (.int k)]) rfl ?_
 walk_at "x"
 exact q
theorem zdF(T:Txt K mg):FnOk P w K mg base (CXF P w) 2 T.d_House_position.a T.d_House_position.fd ["self", "member"] (znw T.c_House T.c_Book):=by
 refine T.d_House_position.F.okN zdI (fun vs H Q E h=>?_) (fun cdv A outer s H vs Q E hr h=>?_)
 ·obtain⟨h,dx,d,B,own,m,y,n,w,ts,rfl,_⟩:=h;rfl
 obtain⟨h,dx,d,B,own,m,y,n,w,ts,rfl,hh,hB,hw,hk,q⟩:=h
 obtain⟨⟨dxb,hbk⟩,_⟩:=id hB
 have cl_House:=T.cl_House
 have na_House_book:=T.na_House_book
 refine⟨_,(ze (zD (zQ (show PE _ _ (z3 K _ _)from zO (pv 0) rfl) T.cl_Book T.d_Book_position.mt (zbl (base:=base) T) (hr.mono (by decide)) T.d_Book_position.b .nil (zu zt) (za (pv 1) zb)))),?_⟩
 refine zB (σ0:=[some (.ref h),some (.int n)]) rfl ?_
 walk_at "x"
 exact⟨_,d,_,_,n,w,ts,rfl,hB,hw,hk,q⟩
theorem zbS(T:Txt K mg):FnOk P w K mg base (CXF P w) 4 T.d_House_need_with.a T.d_House_need_with.fd ["self", "member", "ware", "units"] (zlA K T.c_House T.c_Book lP lQ):=by
 refine T.d_House_need_with.F.okX sc_House_need_with (fun vs H Q E h=>?_) (fun cdv A outer s H vs Q E hr h=>?_)
 ·obtain⟨h,dx,d,B,own,m,y,n,wa,u,ts,bs,k,F,w,c,rfl,_⟩:=h;rfl
 obtain⟨h,dx,d,B,own,m,y,n,wa,u,ts,bs,k,F,w,c,rfl,hh,hN,w0,w1,u0,u1,q⟩:=h
 obtain⟨⟨dxb,hbk⟩,_⟩:=id hN.bk
 have cl_House:=T.cl_House
 have na_House_rule:=T.na_House_rule
 have na_House_book:=T.na_House_book
 have na_House_moves:=T.na_House_moves
 refine⟨_,(zd (zw (i:=4) sc_House_need_with.nd rfl (Or.inl rfl) (zQ (show PE _ _ (z3 K _ _)from zO (pv 0) rfl) T.cl_Book T.d_Book_position.mt (zbl (base:=base) T) (hr.mono (by decide)) T.d_Book_position.b .nil (zu zt) (za (pv 1) zb)))
 (zd (zbv (pv 4) (pv 2) (show zcu _ (zbB K)from zaY) (pv 3) zdn zU)
 (ze (zD (zm (zeo (base:=base) T) (hr.mono (by decide)) rfl T.d_need_of.m T.d_need_of.F.kp T.d_need_of.b .nil zT (za (show PE _ _ (z3 K _ _)from zO (pv 0) rfl) (za (pv 4) (za (show PE _ _ (z3 K _ _)from zO (pv 0) rfl) zb)))))))),?_⟩
 refine zB (σ0:=[some (.ref h),some (.int n),some (.int wa),some (.int u),none]) rfl ?_
 walk_at "x"
 refine⟨_,d,_,_,n,k,ts,rfl,hN.bk,hN.tok,by have:=hN.k9;omega,fun p H1 fp e1 hp=>?_⟩
 have hh1:=e1.at hh
 have hN1:=hN.same e1
 walk_at "x"
 rename_i H2 b2 h2
 obtain⟨_,ds0,hds0,_⟩:=id hN.bk
 have n1:d≠p:=fun z=>by rw[z,fp]at hds0;cases hds0
 have n2:B.mv≠p:=fun z=>by have:=hN.mv;rw[z,fp]at this;cases this
 have n3:p∉bs:=hN.rows.fresh fp
 have hN2:=hN1.but b2 n1 n2 n3
 have e2:=b2.same e1 fp
 have hb:∀j,-1000000000<=z7 ts n j/\z7 ts n j<=1000000000:=fun j=>by
  have h1:=zb5 hN.tu n j
  have h2:=hN.tl
  omega
 have hbW:∀j,-1001000000<=zcH ts n wa u j/\zcH ts n wa u j<=1001000000:=fun j=>by
  unfold zcH
  have:=hb j
  have:=hb wa.toNat
  split<;>omega
 have h2':H2 p=some (.lst ((vec k (zcH ts n wa u)).map V.int)):=h2
 refine zK ?_
 refine zgb (m:=1001000000) hN2.ru ⟨h2',hN2.mv,hN2.rows,fun j _=>hbW j,fun i hi j hj=>by have:=hN.fw i hi j hj;omega,by decide,hN.k9,by have:=hN.ok.2;omega,hN.n64,hN2.tb⟩ hN.ok fun r H3 ql s3 t3 hL hr3 hz=>?_
 exact q r H3 ql (e2.t.trans s3) t3 hL hr3 hz
theorem zbq(T:Txt K mg):FnOk P w K mg base (CXF P w) 1 T.d_Book_check_members.a T.d_Book_check_members.fd ["self", "payer", "payee"] (ziu T.c_Book T.c_NoMember):=by
 refine T.d_Book_check_members.F.okX sc_Book_check_members (fun vs H Q E h=>?_) (fun cdv A outer s H vs Q E hr h=>?_)
 ·obtain⟨b,dx,d,m,w,y,p,q,rfl,_⟩:=h;rfl
 obtain⟨b,dx,d,m,w,y,p,q,rfl,hb,h⟩:=h
 have cl_Book:=T.cl_Book
 have na_Book_many:=T.na_Book_many
 refine⟨_,(zd (zaS PassesOwn.leaving rfl (show PI _ _ _ (zhF K _)from zjj (z6 (za (pv 1) (za (pv 2) zb)))) (zal (i:=3) sc_Book_check_members.nd rfl (Or.inl rfl))
 (ze (zE (PW.pt (zaf (zk zas (pv 3) zc (nomark _)) (zab (zk zeH (pv 3) (show PE _ _ (z3 K _ _)from zO (pv 0) rfl) (nomark _)))))
 (ze (zY rfl rfl T.m_NoMember (errOk.own T.e_NoMember) (za zv zb) zak))
 zr)))
 (ze (zE (zk (show OpR _ (compareOp .Eq) (zX K)from zR hr.units) (pv 1) (pv 2) (nomark _))
 (ze (zY rfl rfl T.m_NoMember (errOk.own T.e_NoMember) (za zv zb) zak))
 zr))),?_⟩
 refine zB (σ0:=[some (.ref b),some (.int p),some (.int q),none]) rfl ?_
 walk_at "x"
 refine zad (by first | decide | simp) fun t H1 ft e1 ht=>?_
 refine ziX (.of ht) ?_
 refine zgj (zhh (xs:=[.int p,.int q])) (fun i σ' H'=>∃f3:Option V,σ'=[some (.ref b),some (.int p),some (.int q),f3]/\Same H1 H'/\(0<i->0<=p/\p<m)/\(1<i->0<=q/\q<m)) ⟨_,rfl,Same.refl _,fun z=>absurd z (by omega),fun z=>absurd z (by omega)⟩ ?_ ?_ ?_
 ·rintro i σ' H' ⟨_,_,e,_⟩;exact .of (e.at ht)
 ·rintro i x σ' H' H2 hi ⟨f3,rfl,e',i0,i1⟩ e2 hx
  have hb2:H2 b=some (.ins T.c_Book dx (bfl m w y d)):=e2.at (e'.at (e1.at hb))
  obtain⟨v,rfl,hv⟩:∃v:Int,x=.int v/\((i=0/\v=p)\/(i=1/\v=q)):=by
   have hi2:i<2:=hi
   obtain rfl | rfl:i=0\/i=1:=by omega
   ·exact⟨p,(yn hx).symm,.inl ⟨rfl,rfl⟩⟩
   ·exact⟨q,(yn hx).symm,.inr ⟨rfl,rfl⟩⟩
  walk_at "x"
  all_goals first
   | exact⟨_,rfl,e'.trans e2,fun _=>by rcases hv with⟨_,rfl⟩ | ⟨z,_⟩<;>first | (constructor<;>omega) | exact i0 (by omega),fun _=>by rcases hv with⟨z,_⟩ | ⟨_,rfl⟩<;>first | (exfalso;omega) | (constructor<;>omega)⟩
   | (rcases h with⟨⟨⟨a1,a2⟩,⟨a3,a4⟩,a5⟩,_⟩ | ⟨_,k⟩
      ·exfalso;omega
      ·exact⟨by decide,k _ (e1.trans (e'.trans e2))⟩)
 ·rintro σ' H' ⟨f3,rfl,e',i0,i1⟩
  have p0:=i0 (show 0<2 by decide)
  have q0:=i1 (show 1<2 by decide)
  walk_at "x"
  all_goals rcases h with⟨⟨⟨a1,a2⟩,⟨a3,a4⟩,a5⟩,k⟩ | ⟨hn,k⟩
  all_goals first
   | exact k _ (e1.trans e')
   | exact⟨by decide,k _ (e1.trans e')⟩
   | (exfalso;omega)
   | exact absurd ⟨p0,q0,by omega⟩ hn
theorem zbI(T:Txt K mg):FnOk P w K mg base (CXF P w) 1 T.d_Book_check_terms.a T.d_Book_check_terms.fd ["self", "ware", "units", "amount", "day", "rank"] (ziv T.c_Book T.c_NoTerms T.c_Closed):=by
 refine T.d_Book_check_terms.F.okX zcX (fun vs H Q E h=>?_) (fun cdv A outer s H vs Q E hr h=>?_)
 ·obtain⟨b,dx,d,m,w,y,t,rfl,_⟩:=h;rfl
 obtain⟨b,dx,d,m,w,y,t,rfl,hb,h⟩:=h
 have cl_Book:=T.cl_Book
 have na_Book_wares:=T.na_Book_wares
 have na_Book_day:=T.na_Book_day
 refine⟨_,(zd (zE (PW.pt (zaf (zk zas (pv 1) zc (nomark _)) (zab (zk zeH (pv 1) (show PE _ _ (z3 K _ _)from zO (pv 0) rfl) (nomark _)))))
 (ze (zY rfl rfl T.m_NoTerms (errOk.own T.e_NoTerms) (za zv zb) zak))
 zr)
 (zd (zE (PW.pt (zaf (zk zas (pv 2) zc (nomark _)) (zab (zk zbi (pv 2) (zW (v:=.int 1000000) rfl T.g_MOST_UNITS.h ⟨_,rfl⟩) (nomark _)))))
 (ze (zY rfl rfl T.m_NoTerms (errOk.own T.e_NoTerms) (za zv zb) zak))
 zr)
 (zd (zE (PW.pt (zaf (zk zas (pv 3) zc (nomark _)) (zab (zk zbi (pv 3) (zW (v:=.int 1000000000) rfl T.g_MOST_AMOUNT.h ⟨_,rfl⟩) (nomark _)))))
 (ze (zY rfl rfl T.m_NoTerms (errOk.own T.e_NoTerms) (za zv zb) zak))
 zr)
 (zd (zE (PW.pt (zaf (zk zas (pv 4) zc (nomark _)) (zab (zk zbi (pv 4) (zW (v:=.int 1000000) rfl T.g_MOST_DAY.h ⟨_,rfl⟩) (nomark _)))))
 (ze (zY rfl rfl T.m_NoTerms (errOk.own T.e_NoTerms) (za zv zb) zak))
 zr)
 (zd (zE (PW.pt (zaf (zk zas (pv 5) zc (nomark _)) (zab (zk zbi (pv 5) zc (nomark _)))))
 (ze (zY rfl rfl T.m_NoTerms (errOk.own T.e_NoTerms) (za zv zb) zak))
 zr)
 (ze (zE (zk zas (pv 4) (show PE _ _ (z3 K _ _)from zO (pv 0) rfl) (nomark _))
 (ze (zY rfl rfl T.m_Closed (errOk.own T.e_Closed) (za zv zb) zak))
 zr))))))),?_⟩
 refine zB (σ0:=[some (.ref b),some (.int t.w),some (.int t.u),some (.int t.a),some (.int t.y),some (.int t.r)]) rfl ?_
 rcases h with⟨⟨⟨b1,b2⟩,⟨b3,b4⟩,⟨b5,b6⟩,⟨b7,b8⟩,b9,b10⟩,h2,k⟩ | ⟨h1,k⟩ | ⟨⟨⟨b1,b2⟩,⟨b3,b4⟩,⟨b5,b6⟩,⟨b7,b8⟩,b9,b10⟩,h2,k⟩
 ·walk_at "x"
  all_goals first | exact k | (exfalso;omega)
 ·walk_at "x"
  all_goals first | exact⟨by decide,k⟩ | exact absurd (show zam w t from⟨⟨by omega,by omega⟩,⟨by omega,by omega⟩,⟨by omega,by omega⟩,⟨by omega,by omega⟩,by omega,by omega⟩) h1
 ·walk_at "x"
  all_goals first | exact⟨by decide,k⟩ | (exfalso;omega)
theorem zfd(T:Txt K mg):FnOk P w K mg base (CXF P w) 2 T.d_Book_strike.a T.d_Book_strike.fd ["self", "payer", "payee", "ware", "units", "amount", "day", "rank"] (ziB T.c_Book T.c_NoMember T.c_NoTerms T.c_Closed):=by
 refine T.d_Book_strike.F.okX ze6 (fun vs H Q E h=>?_) (fun cdv A outer s H vs Q E hr h=>?_)
 ·obtain⟨b,dx,d,m,w,y,t,xs,rfl,_⟩:=h;rfl
 obtain⟨b,dx,d,m,w,y,t,xs,rfl,hb,hd,hl,h⟩:=h
 have cl_Book:=T.cl_Book
 have na_Book_deals:=T.na_Book_deals
 refine⟨_,(zd (zL (zQ (pv 0) T.cl_Book T.d_Book_check_members.mt (zbq (base:=base) T) (hr.mono (by decide)) T.d_Book_check_members.b .nil zT (za (pv 1) (za (pv 2) zb))))
 (zd (zL (zQ (pv 0) T.cl_Book T.d_Book_check_terms.mt (zbI (base:=base) T) (hr.mono (by decide)) T.d_Book_check_terms.b .nil zT (za (pv 3) (za (pv 4) (za (pv 5) (za (pv 6) (za (pv 7) zb)))))))
 (zd (zL (show PE _ _ (tBM K _ _ _ _)from zbA yB yE yF zaA (show PE _ _ (z3 K _ _)from zO (pv 0) rfl) (za (z6 (za (pv 1) (za (pv 2) (za (pv 3) (za (pv 4) (za (pv 5) (za (pv 6) (za (pv 7) (za zv zb))))))))) zb)))
 (ze (zD (zo zaC (zp (show CallR _ _ (zac K)from zI) rfl T.z_len BT.len (za (show PE _ _ (z3 K _ _)from zO (pv 0) rfl) zb)) zc)))))),?_⟩
 refine zB (σ0:=[some (.ref b),some (.int t.p),some (.int t.q),some (.int t.w),some (.int t.u),some (.int t.a),some (.int t.y),some (.int t.r)]) rfl ?_
 walk_at "x"
 by_cases hM:zaI m t.p t.q
 ·refine⟨b,dx,d,m,w,y,_,_,rfl,hb,.inl ⟨hM,fun H1 e1=>?_⟩⟩
  walk_at "x"
  by_cases hT:zam w t
  ·by_cases hy:t.y<y
   ·have hk:zbO m w y t=3:=by unfold zbO;rw[if_neg (yai.mpr hM),if_neg (yai.mpr hT),if_pos hy]
    refine⟨b,dx,d,m,w,y,t,rfl,e1.at hb,.inr (.inr ⟨hT,hy,?_⟩)⟩
    rcases h with⟨z,_⟩ | ⟨z,_⟩ | ⟨z,_⟩ | ⟨_,k⟩
    all_goals first | exact k _ e1 | (exfalso;omega)
   ·have hk:zbO m w y t=0:=by unfold zbO;rw[if_neg (yai.mpr hM),if_neg (yai.mpr hT),if_neg hy]
    refine⟨b,dx,d,m,w,y,t,rfl,e1.at hb,.inl ⟨hT,by omega,?_⟩⟩
    rcases h with⟨_,k⟩ | ⟨z,_⟩ | ⟨z,_⟩ | ⟨z,_⟩
    case inr.inl=>exfalso;omega
    case inr.inr.inl=>exfalso;omega
    case inr.inr.inr=>exfalso;omega
    walk_at "x"
    rename_i a H2 fa e2 ha H3 b3 h3
    have el:(((xs++[V.ref a]).length:Nat):Int)-1=((xs.length:Nat):Int):=by rw[yk];show(((xs.length+1:Nat):Nat):Int)-1=_;omega
    rw[el]
    exact k a H2 H3 (e1.trans e2) ha b3 h3
  ·have hk:zbO m w y t=2:=by unfold zbO;rw[if_neg (yai.mpr hM),if_pos hT]
   refine⟨b,dx,d,m,w,y,t,rfl,e1.at hb,.inr (.inl ⟨hT,?_⟩)⟩
   rcases h with⟨z,_⟩ | ⟨z,_⟩ | ⟨_,k⟩ | ⟨z,_⟩
   all_goals first | exact k _ e1 | (exfalso;omega)
 ·have hk:zbO m w y t=1:=by unfold zbO;rw[if_pos hM]
  refine⟨b,dx,d,m,w,y,_,_,rfl,hb,.inr ⟨hM,fun H1 e1=>?_⟩⟩
  rcases h with⟨z,_⟩ | ⟨_,k⟩ | ⟨z,_⟩ | ⟨z,_⟩
  all_goals first | exact k _ e1 | (exfalso;omega)
theorem zc0(T:Txt K mg):FnOk P w K mg base (CXF P w) 1 T.d_Book_deal.a T.d_Book_deal.fd ["self", "number"] (zlM T.c_Book T.c_NoDeal):=by
 refine T.d_Book_deal.F.okX zf2 (fun vs H Q E h=>?_) (fun cdv A outer s H vs Q E hr h=>?_)
 ·obtain⟨b,dx,d,m,w,y,n,xs,rfl,_⟩:=h;rfl
 obtain⟨b,dx,d,m,w,y,n,xs,rfl,hb,hd,h⟩:=h
 have cl_Book:=T.cl_Book
 have na_Book_deals:=T.na_Book_deals
 refine⟨_,(zd (zE (PW.pt (zaf (zk zas (pv 1) zc (nomark _)) (zab (zk zeH (pv 1) (zp (show CallR _ _ (zac K)from zI) rfl T.z_len BT.len (za (show PE _ _ (z3 K _ _)from zO (pv 0) rfl) zb)) (nomark _)))))
 (ze (zY rfl rfl T.m_NoDeal (errOk.own T.e_NoDeal) (za zv zb) zak))
 zr)
 (ze (zD (zh (show IxR _ (rIx K)from zf) (show PE _ _ (z3 K _ _)from zO (pv 0) rfl) (pv 1) (fun _ _=>rfl))))),?_⟩
 refine zB (σ0:=[some (.ref b),some (.int n)]) rfl ?_
 rcases h with⟨n0,v,hv,k⟩ | ⟨hn,k⟩
 ·have hlt:=(yl.mp hv).1
  have hat:atI xs n=some v:=zaz n0 hv
  walk_at "x"
  all_goals first | exact k | (exfalso;omega)
 ·walk_at "x"
  all_goals first | exact⟨by decide,k⟩ | (exfalso;omega)
theorem zcW(T:Txt K mg):FnOk P w K mg base (CXF P w) 2 T.d_House_deal.a T.d_House_deal.fd ["self", "number"] (zlO T.c_House T.c_Book T.c_NoDeal):=by
 refine T.d_House_deal.F.okX zfB (fun vs H Q E h=>?_) (fun cdv A outer s H vs Q E hr h=>?_)
 ·obtain⟨h,dx,dxb,d,B,own,m,w,y,n,xs,rfl,_⟩:=h;rfl
 obtain⟨h,dx,dxb,d,B,own,m,w,y,n,xs,rfl,hh,hbk,hd,q⟩:=h
 have cl_House:=T.cl_House
 have na_House_book:=T.na_House_book
 refine⟨_,(ze (zD (zQ (show PE _ _ (z3 K _ _)from zO (pv 0) rfl) T.cl_Book T.d_Book_deal.mt (zc0 (base:=base) T) (hr.mono (by decide)) T.d_Book_deal.b .nil zT (za (pv 1) zb)))),?_⟩
 refine zB (σ0:=[some (.ref h),some (.int n)]) rfl ?_
 walk_at "x"
 exact⟨_,dxb,d,m,w,y,n,xs,rfl,hbk,hd,q⟩
theorem zcG(T:Txt K mg):FnOk P w K mg base (CXF P w) 2 T.d_Book_standing_deal.a T.d_Book_standing_deal.fd ["self", "number"] (zie T.c_Book T.c_NoDeal T.c_Gone T.c_Settled):=by
 refine T.d_Book_standing_deal.F.okX sc_Book_standing_deal (fun vs H Q E h=>?_) (fun cdv A outer s H vs Q E hr h=>?_)
 ·obtain⟨b,d,m,w,y,n,ts,rfl,_⟩:=h;rfl
 obtain⟨b,d,m,w,y,n,ts,rfl,hB,h⟩:=h
 obtain⟨⟨dx,hb⟩,xs,hd,hI⟩:=id hB
 have hxl:=hI.length
 refine⟨_,(zd (zw (i:=2) sc_Book_standing_deal.nd rfl (Or.inl rfl) (zQ (pv 0) T.cl_Book T.d_Book_deal.mt (zc0 (base:=base) T) (hr.mono (by decide)) T.d_Book_deal.b .nil zT (za (pv 1) zb)))
 (zd (zE (zk (show OpR _ (compareOp .Eq) (zX K)from zR hr.units) (zh (show IxR _ (rIx K)from zf) (pv 2) (zW (v:=.int 7) rfl T.g_STATE.h ⟨_,rfl⟩) (fun _ _=>rfl)) zv (nomark _))
 (ze (zY rfl rfl T.m_Gone (errOk.own T.e_Gone) (za zv zb) zak))
 zr)
 (zd (zE (zk (show OpR _ (compareOp .Eq) (zX K)from zR hr.units) (zh (show IxR _ (rIx K)from zf) (pv 2) (zW (v:=.int 7) rfl T.g_STATE.h ⟨_,rfl⟩) (fun _ _=>rfl)) zv (nomark _))
 (ze (zY rfl rfl T.m_Settled (errOk.own T.e_Settled) (za zv zb) zak))
 zr)
 (ze (zD (pv 2)))))),?_⟩
 refine zB (σ0:=[some (.ref b),some (.int n),none]) rfl ?_
 walk_at "x"
 rcases h with⟨t,n0,ht,h1,h2,k⟩ | ⟨hn,k⟩ | ⟨t,n0,ht,h1,k⟩ | ⟨t,n0,ht,h2,k⟩
 ·obtain⟨x,hx1,hx2⟩:=hI.getI ht
  have hx3:H x=some (.tup [.int t.1.p,.int t.1.q,.int t.1.w,.int t.1.u,.int t.1.a,.int t.1.y,.int t.1.r,.str t.2]):=hx2
  refine⟨b,dx,d,m,w,y,n,xs,rfl,hb,hd,.inl ⟨n0,.ref x,hx1,?_⟩⟩
  walk_at "x"
  all_goals first | exact k x hx2 | (exfalso;contradiction)
 ·exact⟨b,dx,d,m,w,y,n,xs,rfl,hb,hd,.inr ⟨by omega,k⟩⟩
 ·obtain⟨x,hx1,hx2⟩:=hI.getI ht
  have hx3:H x=some (.tup [.int t.1.p,.int t.1.q,.int t.1.w,.int t.1.u,.int t.1.a,.int t.1.y,.int t.1.r,.str t.2]):=hx2
  refine⟨b,dx,d,m,w,y,n,xs,rfl,hb,hd,.inl ⟨n0,.ref x,hx1,?_⟩⟩
  walk_at "x"
  all_goals first | exact⟨by decide,k⟩ | (exfalso;contradiction)
 ·have h1:¬t.2=("broken" : Str):=by rw[h2];decide +kernel
  obtain⟨x,hx1,hx2⟩:=hI.getI ht
  have hx3:H x=some (.tup [.int t.1.p,.int t.1.q,.int t.1.w,.int t.1.u,.int t.1.a,.int t.1.y,.int t.1.r,.str t.2]):=hx2
  refine⟨b,dx,d,m,w,y,n,xs,rfl,hb,hd,.inl ⟨n0,.ref x,hx1,?_⟩⟩
  walk_at "x"
  all_goals first | exact⟨by decide,k⟩ | (exfalso;contradiction)
theorem zdG(T:Txt K mg):FnOk P w K mg base (CXF P w) 1 T.d_Book_put_state.a T.d_Book_put_state.fd ["self", "number", "state"] (zhR T.c_Book):=by
 refine T.d_Book_put_state.F.okN zdE (fun vs H Q E h=>?_) (fun cdv A outer s H vs Q E hr h=>?_)
 ·obtain⟨b,d,m,w,y,n,st,ts,t,rfl,_⟩:=h;rfl
 obtain⟨b,d,m,w,y,n,st,ts,t,rfl,hB,n0,ht,k⟩:=h
 obtain⟨⟨dx,hb⟩,xs,hd,hI⟩:=id hB
 have hxl:=hI.length
 have hnl:=(yl.mp ht).1
 obtain⟨a,ha1,ha2⟩:=hI.getI ht
 have ha3:H a=some (.tup [.int t.1.p,.int t.1.q,.int t.1.w,.int t.1.u,.int t.1.a,.int t.1.y,.int t.1.r,.str t.2]):=ha2
 have hat:atI xs n=some (.ref a):=zaz n0 ha1
 have cl_Book:=T.cl_Book
 have na_Book_deals:=T.na_Book_deals
 refine⟨_,(ze (zaX (zo (show OpR _ (binaryOp .Add) (zF K)from zy) (za6 (show SlR _ (zjQ K)from znc) (zh (show IxR _ (rIx K)from zf) (show PE _ _ (z3 K _ _)from zO (pv 0) rfl) (pv 1) (fun _ _=>rfl)) zbu (zbp (zW (v:=.int 7) rfl T.g_STATE.h ⟨_,rfl⟩))) (z6 (za (pv 2) zb))) (zaW (show PE _ _ (z3 K _ _)from zO (pv 0) rfl) (pv 1) zU))),?_⟩
 refine zB (σ0:=[some (.ref b),some (.int n),some (.str st)]) rfl ?_
 walk_at "x"
 refine zmS ha3 (by show ¬(HT.sIx 8 0 none=0/\HT.sIx 8 8 (some 7)=8);decide) fun p H1 fp e1 hp=>?_
 have hp':H1 p=some (.tup (zaE t.1)):=hp
 walk_at "x"
 rename_i o H2 fo e2 ho
 refine zmQ (e2.at hp') ho (by unfold zaE;simp) (by simp) (by show 7+1<=100000;decide) fun p2 H3 fp2 e3 hp2=>?_
 have hp3:H3 p2=some (.tup (zaP (t.1,st))):=hp2
 have hd3:=e3.at (e2.at (e1.at hd))
 have hb3:=e3.at (e2.at (e1.at hb))
 walk_at "x"
 refine zaN hd3 (zik n0 (by omega)) fun H4 b4 h4=>?_
 walk_at "x"
 refine k H4 ⟨⟨dx,b4.ins hb3⟩,_,h4,?_⟩ (ButL.of hd (e1.trans (e2.trans e3)) b4)
 exact IsTs.set (f:=zaP) (b4.tup hp3) _ (LBut.isTs b4 (hI.same (e1.trans (e2.trans e3))))
theorem zdH(T:Txt K mg):FnOk P w K mg base (CXF P w) 3 T.d_Book_break_off.a T.d_Book_break_off.fd ["self", "number"] (zgV T.c_Book T.c_NoDeal T.c_Gone T.c_Settled):=by
 refine T.d_Book_break_off.F.okX zdJ (fun vs H Q E h=>?_) (fun cdv A outer s H vs Q E hr h=>?_)
 ·obtain⟨b,d,m,w,y,n,ts,rfl,_⟩:=h;rfl
 obtain⟨b,d,m,w,y,n,ts,rfl,hB,h⟩:=h
 obtain⟨⟨dx,hb⟩,xs,hd,hI⟩:=id hB
 refine⟨_,(zd (zL (zQ (pv 0) T.cl_Book T.d_Book_standing_deal.mt (zcG (base:=base) T) (hr.mono (by decide)) T.d_Book_standing_deal.b .nil zT (za (pv 1) zb)))
 (ze (zL (zQ (pv 0) T.cl_Book T.d_Book_put_state.mt (zdG (base:=base) T) (hr.mono (by decide)) T.d_Book_put_state.b .nil (zu zt) (za (pv 1) (za zv zb)))))),?_⟩
 refine zB (σ0:=[some (.ref b),some (.int n)]) rfl ?_
 walk_at "x"
 rcases h with⟨t,n0,ht,h1,h2,k⟩ | ⟨hn,k⟩ | ⟨t,n0,ht,h1,k⟩ | ⟨t,n0,ht,h2,k⟩
 ·refine⟨b,d,m,w,y,n,ts,rfl,hB,.inl ⟨t,n0,ht,h1,h2,fun x hx=>?_⟩⟩
  walk_at "x"
  refine⟨b,d,m,w,y,n, "broken",ts,t,rfl,hB,n0,ht,fun H1 hB1 g1=>?_⟩
  walk_at "x"
  exact k H1 hB1 g1
 ·exact⟨b,d,m,w,y,n,ts,rfl,hB,.inr (.inl ⟨hn,k⟩)⟩
 ·exact⟨b,d,m,w,y,n,ts,rfl,hB,.inr (.inr (.inl ⟨t,n0,ht,h1,k⟩))⟩
 ·exact⟨b,d,m,w,y,n,ts,rfl,hB,.inr (.inr (.inr ⟨t,n0,ht,h2,k⟩))⟩
theorem zc3(T:Txt K mg):FnOk P w K mg base (CXF P w) 4 T.d_House_break_off.a T.d_House_break_off.fd ["self", "number"] (zjK T.c_House T.c_Book T.c_NoDeal T.c_Gone T.c_Settled):=by
 refine T.d_House_break_off.F.okX zdp (fun vs H Q E h=>?_) (fun cdv A outer s H vs Q E hr h=>?_)
 ·obtain⟨h,dx,d,B,own,m,w,y,n,ts,t,rfl,_⟩:=h;rfl
 obtain⟨h,dx,d,B,own,m,w,y,n,ts,t,rfl,hh,hB,n0,ht,hs,q⟩:=h
 obtain⟨⟨dxb,hbk⟩,_⟩:=id hB
 have cl_House:=T.cl_House
 have na_House_book:=T.na_House_book
 refine⟨_,(ze (zL (zQ (show PE _ _ (z3 K _ _)from zO (pv 0) rfl) T.cl_Book T.d_Book_break_off.mt (zdH (base:=base) T) (hr.mono (by decide)) T.d_Book_break_off.b .nil zT (za (pv 1) zb)))),?_⟩
 refine zB (σ0:=[some (.ref h),some (.int n)]) rfl ?_
 walk_at "x"
 refine⟨_,d,m,w,y,n,ts,rfl,hB,.inl ⟨t,n0,ht,by rw[hs];decide +kernel,by rw[hs];decide +kernel,fun H' hB' g=>?_⟩⟩
 walk_at "x"
 exact q H' hB' g
theorem zeI(T:Txt K mg):FnOk P w K mg base (CXF P w) 5 T.d_House_strike.a T.d_House_strike.fd ["self", "payer", "payee", "ware", "units", "amount", "day", "rank"] (zi7 K T.c_House T.c_Book lP lQ T.c_NoMember T.c_NoTerms T.c_Bare):=by
 refine T.d_House_strike.F.okX zeN (fun vs H Q E h=>?_) (fun cdv A outer s H vs Q E hr h=>?_)
 ·obtain⟨h,d,B,own,y,n,P,L,t,xs,ts,bs,k,F,w,cr,rfl,_⟩:=h;rfl
 obtain⟨h,d,B,own,y,n,P,L,t,xs,ts,bs,k,F,w,cr,rfl,hC,hN,hd,hxl,hou,hsz,hty,q1,q2,q3⟩:=h
 obtain⟨⟨dx,hh⟩,hpu,hpl,hne⟩:=id hC
 obtain⟨⟨dxb,hbk⟩,_⟩:=id hN.bk
 have cl_House:=T.cl_House
 have na_House_book:=T.na_House_book
 have na_House_outs:=T.na_House_outs
 have na_House_pledges:=T.na_House_pledges
 refine⟨_,(zd (zL (zQ (show PE _ _ (z3 K _ _)from zO (pv 0) rfl) T.cl_Book T.d_Book_check_members.mt (zbq (base:=base) T) (hr.mono (by decide)) T.d_Book_check_members.b .nil zT (za (pv 1) (za (pv 2) zb))))
 (zd (zE (PW.pt (zaf (show PT _ _ (za0 K _)from zV (zh (show IxR _ (rIx K)from zf) (show PE _ _ (z3 K _ _)from zO (pv 0) rfl) (pv 1) (fun _ _=>rfl)) (fun _=>rfl)) (zab (show PT _ _ (za0 K _)from zV (zh (show IxR _ (rIx K)from zf) (show PE _ _ (z3 K _ _)from zO (pv 0) rfl) (pv 2) (fun _ _=>rfl)) (fun _=>rfl)))))
 (ze (zY rfl rfl T.m_Out (errOk.own T.e_Out) (za zv zb) zak))
 zr)
 (zd (zL (zQ (show PE _ _ (z3 K _ _)from zO (pv 0) rfl) T.cl_Book T.d_Book_check_terms.mt (zbI (base:=base) T) (hr.mono (by decide)) T.d_Book_check_terms.b .nil zT (za (pv 3) (za (pv 4) (za (pv 5) (za (pv 6) (za (pv 7) zb)))))))
 (zd (zL (zm (zbm (base:=base) T) (hr.mono (by decide)) rfl T.d_check_covered.m T.d_check_covered.F.kp T.d_check_covered.b .nil zT (za (zh (show IxR _ (rIx K)from zf) (show PE _ _ (z3 K _ _)from zO (pv 0) rfl) (pv 1) (fun _ _=>rfl)) (za (zQ (pv 0) T.cl_House T.d_House_need_with.mt (zbS (base:=base) T) (hr.mono (by decide)) T.d_House_need_with.b .nil zT (za (pv 1) (za (pv 3) (za (pv 4) zb)))) zb))))
 (zd (zL (zm (zbm (base:=base) T) (hr.mono (by decide)) rfl T.d_check_covered.m T.d_check_covered.F.kp T.d_check_covered.b .nil zT (za (zh (show IxR _ (rIx K)from zf) (show PE _ _ (z3 K _ _)from zO (pv 0) rfl) (pv 2) (fun _ _=>rfl)) (za (zQ (pv 0) T.cl_House T.d_House_need_with.mt (zbS (base:=base) T) (hr.mono (by decide)) T.d_House_need_with.b .nil zT (za (pv 2) (za (pv 3) (za (zcL zca (pv 4)) zb)))) zb))))
 (ze (zD (zQ (show PE _ _ (z3 K _ _)from zO (pv 0) rfl) T.cl_Book T.d_Book_strike.mt (zfd (base:=base) T) (hr.mono (by decide)) T.d_Book_strike.b .nil zT (za (pv 1) (za (pv 2) (za (pv 3) (za (pv 4) (za (pv 5) (za (pv 6) (za (pv 7) zb))))))))))))))),?_⟩
 refine zB (σ0:=[some (.ref h),some (.int t.p),some (.int t.q),some (.int t.w),some (.int t.u),some (.int t.a),some (.int t.y),some (.int t.r)]) rfl ?_
 walk_at "x"
 refine zK ?_
 by_cases hm:zaI (n:Int) t.p t.q
 ·refine⟨_,dxb,d,_,_,_,t.p,t.q,rfl,hbk,.inl ⟨hm,fun H1 e1=>?_⟩⟩
  obtain⟨⟨p0,p1⟩,⟨r0,r1⟩,pq⟩:=id hm
  have hh1:=e1.at hh
  have hou1:=e1.at hou
  have hbk1:=e1.at hbk
  have hpl1:=e1.at hpl
  have hN1:=hN.same e1
  have hat1:atI ((List.replicate n false).map V.bl) t.p=some (.bl false):=zaz p0 (by rw[yg,yad,if_pos (by omega)];rfl)
  have hat2:atI ((List.replicate n false).map V.bl) t.q=some (.bl false):=zaz r0 (by rw[yg,yad,if_pos (by omega)];rfl)
  walk_at "x"
  refine zK ?_
  by_cases ht:zam (k:Int) t
  ·obtain⟨⟨w0,w1⟩,⟨u0,u1⟩,_⟩:=id ht
   obtain⟨qa,qb,qc⟩:=q3 hm ht
   refine⟨_,dxb,d,_,_,_,t,rfl,hbk1,.inl ⟨ht,hty ht,?_⟩⟩
   walk_at "x"
   refine zK ?_
   refine⟨h,dx,d,B,own,_,_,t.p,t.w,t.u,ts,bs,k,F,w,cr,rfl,hh1,hN1,w0,w1,by omega,by omega,fun r H2 ql s2 t2 hL hr2 hz2=>?_⟩
   walk_at "x"
   refine zK ?_
   have s02:=e1.t.trans s2
   refine⟨_,r,_,rfl,hr2,hz2.mono (by decide) (by decide),hsz _ (by omega),fun hnl H3 e3=>?_,fun hlt H3 e3=>qa H3 ql (s02.trans e3.t) (TbW.same e3 t2) hL hlt⟩
   have s03:=s02.trans e3.t
   have t3:TbW K "worst_days" lP lQ H3:=TbW.same e3 t2
   have hh3:=s03.ins hh
   have hpl3:=s03.lst hpl
   have hN3:=hN.sameT s03 t3
   walk_at "x"
   refine zK ?_
   refine⟨h,dx,d,B,own,_,_,t.q,t.w,-t.u,ts,bs,k,F,w,cr,rfl,hh3,hN3,w0,w1,by omega,by omega,fun r2 H4 ql2 s4 t4 hL4 hr4 hz4=>?_⟩
   walk_at "x"
   refine zK ?_
   have s04:=s03.trans s4
   refine⟨_,r2,_,rfl,hr4,hz4.mono (by decide) (by decide),hsz _ (by omega),fun hnl2 H5 e5=>?_,fun hlt H5 e5=>qb H5 ql ql2 (s04.trans e5.t) (TbW.same e5 t4) hL hL4 hnl hlt⟩
   have s05:=s04.trans e5.t
   have t5:TbW K "worst_days" lP lQ H5:=TbW.same e5 t4
   have hh5:=s05.ins hh
   have hbk5:=s05.ins hbk
   have hd5:=s05.lst hd
   walk_at "x"
   refine zK ?_
   refine⟨_,dxb,d,_,_,_,t,xs,rfl,hbk5,hd5,hxl,.inl ⟨?_,fun a H6 H7 e6 ha b7 h7=>?_⟩⟩
   ·unfold zbO
    rw[if_neg (not_not_intro hm),if_neg (not_not_intro ht),if_neg (by have:=hty ht;omega)]
   ·walk_at "x"
    exact qc H5 ql ql2 a H6 H7 s05 t5 hL hL4 hnl hnl2 e6 ha b7 h7
  ·exact⟨_,dxb,d,_,_,_,t,rfl,hbk1,.inr (.inl ⟨ht,q2 hm ht H1 e1⟩)⟩
 ·exact⟨_,dxb,d,_,_,_,t.p,t.q,rfl,hbk,.inr ⟨hm,q1 hm⟩⟩
theorem zg7{r:Addr}{k:Nat}{σ:St}{Q:VK}{H:Hp}{rows:List Addr}{F:Nat->Nat->Int}(hr:H r=some (.lst (rows.map V.ref)))(hP:Rows H rows k F)(hk:0<k)(al:rows.length<=1000)(hk':k<=1000)(hs:za9 [none] σ=[none])(q:∀D H' (bs:List Addr),H D=none->Same H H'->H' D=some (.lst (bs.map V.ref))->bs.length=rows.length->Rows H' bs k F->(∀b∈bs,H b=none)->D∉bs->Q (.ref D) H'):zb2 (Itl K r) [none] (zco 0) zd4 (tCB (zbt K) (zh9 (zhO 0) ze0)) σ Q H:=by
 refine zah (zaO (K:=K) (a:=r) (xs:=rows.map V.ref)) (fun H' e=>SqL.of (e.at hr)) hs (fun i vs H'=>∃bs:List Addr,vs=bs.map V.ref/\bs.length=i/\Rows H' bs k F/\∀b∈bs,H b=none) (fun H' _=>⟨[],rfl,rfl,⟨yP,fun i a h=>nomatch h⟩,fun b hb=>nomatch hb⟩) ?_ ?_
 ·rintro i x D vs o H4 H5 hi hD e4 hv hvl ⟨bs,rfl,hbl,hRb,hfb⟩ e5 hx
  rw[ya]at hi
  obtain⟨c,hc⟩:=zN hi
  have ex:x=.ref c:=by rw[yg,hc]at hx;exact(yn hx).symm
  subst ex
  have hrow:=hP.2 _ _ hc
  have hcs:(bs.map V.ref).length<=1000:=by rw[ya];omega
  walk_at "x"
  rename_i p H6 fp e6 hp H7 b7 h7
  have hD':D∉bs:=hRb.ne hk hv
  have hpD:p≠D:=zbK fp (e5.at hv)
  have fpH:H p=none:=Same.none fp (e4.trans e5)
  subst hbl
  refine⟨⟨_,rfl⟩,by walk_at "h",_,h7,by rw[yk];exact yc hvl,bs++[p],by rw[yw];rfl,by rw[yk];rfl,Rows.app ((hRb.same (e5.trans e6)).but b7 hD') ((hRb.same e5).fresh fp) (b7.lst hp hpD),fun b hb=>?_⟩
  rcases yu.mp hb with hb | hb
  ·exact hfb b hb
  ·rw[yt.mp hb];exact fpH
 ·rintro D H5 us fD e5 hD _ ⟨bs,rfl,hbl,hRb,hfb⟩
  rw[ya]at hbl
  exact q D H5 bs fD e5 hD hbl hRb hfb (hRb.ne hk hD)
theorem zdC(T:Txt K mg):FnOk P w K mg base (CXF P w) 3 T.d_House___init__.a T.d_House___init__.fd ["self", "members", "moves", "rule", "order", "own"] (zlG K T.c_House T.c_Book T.c_NoRule T.c_NoLayer):=by
 refine T.d_House___init__.F.okX zdD (fun vs H Q E h=>?_) (fun cdv A outer s H vs Q E hr h=>?_)
 ·obtain⟨p,dx,ms,mo,ru,od,us,xs,as,k,F,w,c,ws,own,rfl,_⟩:=h;rfl
 obtain⟨p,dx,ms,mo,ru,od,us,xs,as,k,F,w,c,ws,own,rfl,hp,hms,hI,hxl,hmo,hR,al0,al1,k0,k1,hru,hod,hwl,q0,q1,q2⟩:=h
 have hal:(as.map V.ref).length=as.length:=ya ..
 have hul:=hI.length
 have sk0:Stk p H H []:=Stk.nil (zZ hp)
 have nms:ms≠p:=zaF hms hp (by intro z;cases z)
 have nmo:mo≠p:=zaF hmo hp (by intro z;cases z)
 have nru:ru≠p:=zaF hru hp (by intro z;cases z)
 have nod:od≠p:=zaF hod hp (by intro z;cases z)
 refine⟨_,(zd (zL (zm (zcV (base:=base) T) (hr.mono (by decide)) rfl T.d_check_rule.m T.d_check_rule.F.kp T.d_check_rule.b .nil zT (za (pv 3) (za (pv 2) zb))))
 (zd (zL (zm (zfh (base:=base) T) (hr.mono (by decide)) rfl T.d_check_order.m T.d_check_order.F.kp T.d_check_order.b .nil zT (za (pv 4) zb)))
 (zd (show PS _ _ (zbe K _ _ _)from zaT (pv 0) (zaQ rfl (show PI _ _ _ (zaJ K _)from zaj (pv 1)) (zP (Ni:=["coins"]) (caps:=[none]) (by rfl)) (fun S _ _ _ _ _=>(z4 (gi:=0) S (Or.inl rfl) rfl)) (fun _ _ _ _ _=>zat) (fun _ _ _ _ _=>(zh (show IxR _ (rIx K)from zf) (pv 0) zc (fun _ _=>rfl)))) rfl)
 (zd (show PS _ _ (zbe K _ _ _)from zaT (pv 0) (zaQ rfl (show PI _ _ _ (zaJ K _)from zaj (pv 1)) (zP (Ni:=["coins"]) (caps:=[none]) (by rfl)) (fun S _ _ _ _ _=>(z4 (gi:=0) S (Or.inl rfl) rfl)) (fun _ _ _ _ _=>zat) (fun _ _ _ _ _=>(zh (show IxR _ (rIx K)from zf) (pv 0) zc (fun _ _=>rfl)))) rfl)
 (zd (show PS _ _ (zbe K _ _ _)from zaT (pv 0) (zaQ rfl (show PI _ _ _ (zaJ K _)from zaj (pv 1)) (zP (Ni:=["coins"]) (caps:=[none]) (by rfl)) (fun S _ _ _ _ _=>(z4 (gi:=0) S (Or.inl rfl) rfl)) (fun _ _ _ _ _=>zat) (fun _ _ _ _ _=>(zh (show IxR _ (rIx K)from zf) (pv 0) zc (fun _ _=>rfl)))) rfl)
 (zd (show PS _ _ (zbe K _ _ _)from zaT (pv 0) (pv 5) rfl)
 (zd (show PS _ _ (zbe K _ _ _)from zaT (pv 0) (zaQ rfl (show PI _ _ _ (zaJ K _)from zaj (pv 2)) (zP (Ni:=["moved"]) (caps:=[none]) (by rfl)) (fun S _ _ _ _ _=>(z4 (gi:=0) S (Or.inl rfl) rfl)) (fun _ _ _ _ _=>zat) (fun _ _ _ _ _=>(zbs (show CallR _ _ (zbt K)from zcN) rfl T.z_list BT.list (za (pv 0) zb)))) rfl)
 (zd (show PS _ _ (zbe K _ _ _)from zaT (pv 0) (z6 (za (zh (show IxR _ (rIx K)from zf) (pv 3) zc (fun _ _=>rfl)) (za (zh (show IxR _ (rIx K)from zf) (pv 3) zc (fun _ _=>rfl)) zb))) rfl)
 (zd (show PS _ _ (zbe K _ _ _)from zaT (pv 0) (zbs (show CallR _ _ (zbt K)from zcN) rfl T.z_list BT.list (za (pv 4) zb)) rfl)
 (zd (show PS _ _ (zbe K _ _ _)from zaT (pv 0) (zg5 T.mk_Book (zd3 (base:=base) T) (hr.mono (by decide)) rfl T.m_Book T.d_Book___init__.b .nil (zu zt) (za (zp (show CallR _ _ (zac K)from zI) rfl T.z_len BT.len (za (pv 1) zb)) (za (zp (show CallR _ _ (zac K)from zI) rfl T.z_len BT.len (za (zh (show IxR _ (rIx K)from zf) (pv 2) zc (fun _ _=>rfl)) zb)) zb))) rfl)
 (zd (show PS _ _ (zbe K _ _ _)from zaT (pv 0) (zaQ rfl (show PI _ _ _ (zaJ K _)from zaj (pv 1)) (zP (Ni:=["coins"]) (caps:=[none]) (by rfl)) (fun S _ _ _ _ _=>(z4 (gi:=0) S (Or.inl rfl) rfl)) (fun _ _ _ _ _=>zat) (fun _ _ _ _ _=>za4)) rfl)
 (ze (show PS _ _ (zbe K _ _ _)from zaT (pv 0) (zai zb) rfl))))))))))))),?_⟩
 refine zB (σ0:=[some (.ref p),some (.ref ms),some (.ref mo),some (.ref ru),some (.ref od),some (.int own)]) rfl ?_
 walk_at "x"
 refine zeB hru hmo (fun ok H1 e1=>?_) (fun nok H1 e1=>q1 (by rw[hal]at nok;exact nok) H1 e1)
 rw[hal]at ok
 walk_at "x"
 refine⟨od,ws,rfl,SqL.of (e1.at hod),hwl,?_⟩
 by_cases hO:OkO ws
 case neg=>exact .inr ⟨hO,fun H2 e2=>q2 ok hO _ (e1.trans e2)⟩
 refine .inl ⟨hO,fun H2 e2=>?_⟩
 have sk2:=(sk0.same e1).same e2
 have hp2:=(e1.trans e2).at hp
 walk_at "x"
 have hms2:=sk2.nb.at hms nms
 refine zah (zaO (K:=K) (a:=ms) (xs:=us)) (fun H' e=>SqL.of (e.at hms2)) rfl (fun i vs _=>vs=(vec i fun i=>(xs.getD i (0,0,0)).1).map V.int) (fun H' _=>rfl) ?_ ?_
 ·rintro i x D vs o G G' hi hD e4 hv hvl rfl e5 hx
  obtain⟨a,u,rfl,hu,ha⟩:=hI.get hx
  have nap:a≠p:=zaF ha hp (by intro z;cases z)
  have ha5:G' a=some (.tup [.int u.1,.int u.2.1,.int u.2.2]):=(e4.trans e5).at (sk2.nb.at ha nap)
  have hv5:=e5.at hv
  walk_at "x"
  rename_i G6 b6 h6
  refine⟨⟨_,rfl⟩,b6.same (e4.trans e5) hD,_,h6,by rw[yk];exact yc hvl,?_⟩
  dsimp only
  rw[zan,yw,yh,hu];rfl
 rintro pu H3 vs fpu e3 hpu _ rfl
 rw[hul]at hpu
 have sk3:=sk2.new fpu e3 (zZ hpu)
 have hp3:=e3.at hp2
 walk_at "x"
 refine zaD hp3 T.cl_House T.na_House_purses (by show 0<1000;decide) fun H4 b4 hp4=>?_
 have sk4:=sk3.keep b4.nb (zZ hp4)
 have c4:NB p H3 H4:=b4.nb
 have hms4:=sk4.nb.at hms nms
 walk_at "x"
 refine zah (zaO (K:=K) (a:=ms) (xs:=us)) (fun H' e=>SqL.of (e.at hms4)) rfl (fun i vs _=>vs=(vec i fun i=>(xs.getD i (0,0,0)).2.1).map V.int) (fun H' _=>rfl) ?_ ?_
 ·rintro i x D vs o G G' hi hD e4 hv hvl rfl e5 hx
  obtain⟨a,u,rfl,hu,ha⟩:=hI.get hx
  have nap:a≠p:=zaF ha hp (by intro z;cases z)
  have ha5:G' a=some (.tup [.int u.1,.int u.2.1,.int u.2.2]):=(e4.trans e5).at (sk4.nb.at ha nap)
  have hv5:=e5.at hv
  walk_at "x"
  rename_i G6 b6 h6
  refine⟨⟨_,rfl⟩,b6.same (e4.trans e5) hD,_,h6,by rw[yk];exact yc hvl,?_⟩
  dsimp only
  rw[zan,yw,yh,hu];rfl
 rintro pl H5 vs fpl e5 hpl _ rfl
 rw[hul]at hpl
 have sk5:=sk4.new fpl e5 (zZ hpl)
 have hp5:=e5.at hp4
 walk_at "x"
 refine zaD hp5 T.cl_House T.na_House_pledges (by exact yC (zj _ _ []) (by decide:1<1000)) fun H6 b6 hp6=>?_
 have sk6:=sk5.keep b6.nb (zZ hp6)
 have c6:NB p H5 H6:=b6.nb
 have hms6:=sk6.nb.at hms nms
 walk_at "x"
 refine zah (zaO (K:=K) (a:=ms) (xs:=us)) (fun H' e=>SqL.of (e.at hms6)) rfl (fun i vs _=>vs=(vec i fun i=>(xs.getD i (0,0,0)).2.2).map V.int) (fun H' _=>rfl) ?_ ?_
 ·rintro i x D vs o G G' hi hD e4 hv hvl rfl e5 hx
  obtain⟨a,u,rfl,hu,ha⟩:=hI.get hx
  have nap:a≠p:=zaF ha hp (by intro z;cases z)
  have ha5:G' a=some (.tup [.int u.1,.int u.2.1,.int u.2.2]):=(e4.trans e5).at (sk6.nb.at ha nap)
  have hv5:=e5.at hv
  walk_at "x"
  rename_i G6 b6 h6
  refine⟨⟨_,rfl⟩,b6.same (e4.trans e5) hD,_,h6,by rw[yk];exact yc hvl,?_⟩
  dsimp only
  rw[zan,yw,yh,hu];rfl
 rintro sh H7 vs fsh e7 hsh _ rfl
 rw[hul]at hsh
 have sk7:=sk6.new fsh e7 (zZ hsh)
 have hp7:=e7.at hp6
 walk_at "x"
 refine zaD hp7 T.cl_House T.na_House_shares (by exact yC (yb (zj _ _ _) (yc (zj _ _ []))) (by decide:2<1000)) fun H8 b8 hp8=>?_
 have sk8:=sk7.keep b8.nb (zZ hp8)
 have c8:NB p H7 H8:=b8.nb
 walk_at "x"
 refine zaD hp8 T.cl_House T.na_House_kept (by exact yC (yb (zj _ _ _) (yc (yb (zj _ _ _) (yc (zj _ _ []))))) (by decide:3<1000)) fun H9 b9 hp9=>?_
 have sk9:=sk8.keep b9.nb (zZ hp9)
 have hmo9:=sk9.nb.at hmo nmo
 walk_at "x"
 have hR9:Rows H9 as k F:=⟨hR.1,fun i a e=>sk9.nb.at (hR.2 i a e) (zaF (hR.2 i a e) hp (by intro z;cases z))⟩
 refine zg7 hmo9 hR9 k0 al1 k1 rfl fun mv H10 bs fmv e10 hmv hbl hRb fbs nmv=>?_
 have sk10:Stk p H H10 (bs++[mv,sh,pl,pu]):=by
  have s1:=sk9.more (bs:=bs++[mv]) (fun b hb=>(yu.mp hb).elim (fbs b) fun h=>by rw[yt.mp h];exact fmv) (yY.mpr ⟨hRb.1,yJ.mpr ⟨by simp,yP⟩,fun a ha b hb z=>nmv (by rw[<- yt.mp hb,<- z];exact ha)⟩) e10 (fun b hb=>(yu.mp hb).elim (fun h=>by
   obtain⟨i,hi,e⟩:=yZ h
   exact zZ (hRb.2 i b (by rw[yq hi,e]))) fun h=>by rw[yt.mp h];exact zZ hmv)
  rw[yaK]at s1
  exact s1
 have hp10:=e10.at hp9
 walk_at "x"
 refine zaD hp10 T.cl_House T.na_House_moves (by exact yC (yb (zj _ _ _) (yc (yb (zj _ _ _) (yc (yb (zj _ _ _) (yc (zj _ _ []))))))) (by decide:4<1000)) fun H11 b11 hp11=>?_
 have sk11:=sk10.keep b11.nb (zZ hp11)
 have hru11:=sk11.nb.at hru nru
 walk_at "x"
 refine zad (by first | decide | simp) fun rr H12 frr e12 hrr=>?_
 have sk12:=sk11.new frr e12 (zZ hrr)
 have hp12:=e12.at hp11
 walk_at "x"
 refine zaD hp12 T.cl_House T.na_House_rule (by exact yC (yb (zj _ _ _) (yc (yb (zj _ _ _) (yc (yb (zj _ _ _) (yc (yb (zj _ _ _) (yc (zj _ _ []))))))))) (by decide:5<1000)) fun H13 b13 hp13=>?_
 have sk13:=sk12.keep b13.nb (zZ hp13)
 have hod13:=sk13.nb.at hod nod
 walk_at "x"
 rename_i oo H14 foo e14 hoo
 have sk14:=sk13.new foo e14 (zZ hoo)
 have hp14:=e14.at hp13
 refine zaD hp14 T.cl_House T.na_House_order (by exact yC (yb (zj _ _ _) (yc (yb (zj _ _ _) (yc (yb (zj _ _ _) (yc (yb (zj _ _ _) (yc (yb (zj _ _ _) (yc (zj _ _ []))))))))))) (by decide:6<1000)) fun H15 b15 hp15=>?_
 have sk15:=sk14.keep b15.nb (zZ hp15)
 have hms15:=sk15.nb.at hms nms
 have hmo15:=sk15.nb.at hmo nmo
 obtain⟨c0,hc0⟩:=zN (show 0<as.length by omega)
 have hat0:atI (as.map V.ref) 0=some (.ref c0):=zaz (by decide) (by rw[yg,show(0:Int).toNat=0 from rfl,hc0];rfl)
 have hrow15:H15 c0=some (.lst ((vec k (F 0)).map V.int)):=sk15.nb.at (hR.2 _ _ hc0) (zaF (hR.2 _ _ hc0) hp (by intro z;cases z))
 have hkl:(((vec k (F 0)).map V.int).length:Int)=k:=by rw[ya,zJ]
 walk_at "x"
 refine zg1 fun bk dxb H16 fbk e16 h16=>?_
 refine⟨bk,dxb,_,_,rfl,h16,fun d H17 fd s17 hbk hd=>⟨rfl,?_⟩⟩
 have e17:Same H15 H17:=fun c o q=>s17 c o (zC q fbk) (e16 c o q)
 have fdH:H15 d=none:=Same.none fd e16
 have ndbk:d≠bk:=fun z=>by rw[z,h16]at fd;cases fd
 rw[hul,hkl]at hbk
 have sk17:Stk p H H17 (d :: bk :: oo :: rr :: (bs++[mv,sh,pl,pu])):=by
  refine sk15.more (bs:=[d,bk]) (fun b hb=>?_) (yJ.mpr ⟨by rw[yt];exact ndbk,yJ.mpr ⟨by simp,yP⟩⟩) e17 fun b hb=>?_
  ·rcases ye.mp hb with rfl | hb
   ·exact fdH
   ·rw[yt.mp hb];exact fbk
  ·rcases ye.mp hb with rfl | hb
   ·exact zZ hd
   ·rw[yt.mp hb];exact zZ hbk
 have hp17:=e17.at hp15
 walk_at "x"
 refine zaD hp17 T.cl_House T.na_House_book (by exact yC (yb (zj _ _ _) (yc (yb (zj _ _ _) (yc (yb (zj _ _ _) (yc (yb (zj _ _ _) (yc (yb (zj _ _ _) (yc (yb (zj _ _ _) (yc (zj _ _ []))))))))))))) (by decide:7<1000)) fun H18 b18 hp18=>?_
 have sk18:=sk17.keep b18.nb (zZ hp18)
 have hms18:=sk18.nb.at hms nms
 walk_at "x"
 refine zah (zaO (K:=K) (a:=ms) (xs:=us)) (fun H' e=>SqL.of (e.at hms18)) rfl (fun i vs _=>vs=(List.replicate i false).map V.bl) (fun H' _=>rfl) ?_ ?_
 ·rintro i x D vs o G G' hi hD e4 hv hvl rfl e5 hx
  have hv5:=e5.at hv
  walk_at "x"
  rename_i G6 b6 h6
  refine⟨⟨_,rfl⟩,b6.same (e4.trans e5) hD,_,h6,by rw[yk];exact yc hvl,?_⟩
  dsimp only
  rw[List.replicate_succ',yw];rfl
 rintro ou H19 vs fou e19 hou _ rfl
 rw[hul]at hou
 have sk19:=sk18.new fou e19 (zZ hou)
 have hp19:=e19.at hp18
 walk_at "x"
 refine zaD hp19 T.cl_House T.na_House_outs (by exact yC (yb (zj _ _ _) (yc (yb (zj _ _ _) (yc (yb (zj _ _ _) (yc (yb (zj _ _ _) (yc (yb (zj _ _ _) (yc (yb (zj _ _ _) (yc (yb (zj _ _ _) (yc (zj _ _ []))))))))))))))) (by decide:8<1000)) fun H20 b20 hp20=>?_
 have sk20:=sk19.keep b20.nb (zZ hp20)
 walk_at "x"
 rename_i re H21 fre e21 hre
 have sk21:=sk20.new fre e21 (zZ hre)
 have hp21:=e21.at hp20
 refine zaD hp21 T.cl_House T.na_House_reports (by exact yC (yb (zj _ _ _) (yc (yb (zj _ _ _) (yc (yb (zj _ _ _) (yc (yb (zj _ _ _) (yc (yb (zj _ _ _) (yc (yb (zj _ _ _) (yc (yb (zj _ _ _) (yc (yb (zj _ _ _) (yc (zj _ _ []))))))))))))))))) (by decide:9<1000)) fun H22 b22 hp22=>?_
 have sk22:=sk21.keep b22.nb (zZ hp22)
 walk_at "x"
 have n22:NB p H21 H22:=b22.nb
 have n21:NB p H20 H22:=e21.nb.trans n22
 have n20:NB p H19 H22:=b20.nb.trans n21
 have n19:NB p H18 H22:=e19.nb.trans n20
 have n18:NB p H17 H22:=b18.nb.trans n19
 have n17:NB p H15 H22:=e17.nb.trans n18
 have n15:NB p H14 H22:=b15.nb.trans n17
 have n14:NB p H13 H22:=e14.nb.trans n15
 have n13:NB p H12 H22:=b13.nb.trans n14
 have n12:NB p H11 H22:=e12.nb.trans n13
 have n11:NB p H10 H22:=b11.nb.trans n12
 have n10:NB p H9 H22:=e10.nb.trans n11
 have n9:NB p H8 H22:=b9.nb.trans n10
 have n8:NB p H7 H22:=b8.nb.trans n9
 have n7:NB p H6 H22:=e7.nb.trans n8
 have n6:NB p H5 H22:=b6.nb.trans n7
 have n5:NB p H4 H22:=e5.nb.trans n6
 have n4:NB p H3 H22:=b4.nb.trans n5
 have mp:∀x,x∈(re :: ou :: d :: bk :: oo :: rr :: (bs++[mv,sh,pl,pu]))->x≠p:=fun x hx=>(sk22.ex x hx).2.1
 refine q0 ok hO ⟨pu,pl,sh,mv,rr,oo,bk,ou,re⟩ d bs H22 sk22.nb hp22 hbl ⟨?_,?_,?_,?_,?_,?_,?_,?_,?_,?_,sk22⟩
 ·exact n4.at hpu (mp _ (by simp))
 ·exact n6.at hpl (mp _ (by simp))
 ·exact n8.at hsh (mp _ (by simp))
 ·exact n11.at hmv (mp _ (by simp))
 ·exact⟨hRb.1,fun i a e=>n11.at (hRb.2 i a e) (zaF (hRb.2 i a e) hp10 (by intro z;cases z))⟩
 ·exact n13.at hrr (mp _ (by simp))
 ·exact n15.at hoo (mp _ (by simp))
 ·exact⟨⟨dxb,n18.at hbk (mp _ (by simp))⟩,[],n18.at hd (mp _ (by simp)),trivial⟩
 ·exact n20.at hou (mp _ (by simp))
 ·exact n22.at hre (mp _ (by simp))
theorem zc1(T:Txt K mg):FnOk P w K mg base (CXF P w) 1 T.d__law_cell.a T.d__law_cell.fd ["_law_script", "_law_k"] (zfc K):=by
 refine T.d__law_cell.F.okN zgC (fun vs H Q E h=>?_) (fun cdv A outer s H vs Q E hr h=>?_)
 ·obtain⟨a,ns,k,rfl,_⟩:=h;rfl
 obtain⟨a,ns,k,rfl,hS,h0,q⟩:=h
 have hl:(ns.map V.int).length=ns.length:=ya ..
 refine⟨_,(zd (zE (zk (show OpR _ (compareOp .Eq) (zX K)from zR hr.units) (zp (show CallR _ _ (zac K)from zI) rfl T.z_len BT.len (za (pv 0) zb)) zc (nomark _))
 (ze (zD zc))
 zr)
 (ze (zD (zh (show IxR _ (rIx K)from zf) (pv 0) (zo zba (pv 1) (zp (show CallR _ _ (zac K)from zI) rfl T.z_len BT.len (za (pv 0) zb))) (fun _ _=>rfl))))),?_⟩
 refine zB (σ0:=[some (.ref a),some (.int k)]) rfl ?_
 walk_at "x"
 ·exact q _
 ·rename_i h
  have hm:(0:Int)<((ns.map V.int).length:Int):=by omega
  have m0:=yR k (b:=((ns.map V.int).length:Int)) (by omega)
  have m1:=yL k hm
  exact zhp hS (zgX m0 (v:=ns.getD (k%((ns.map V.int).length:Int)).toNat 0) (by rw[yh];rw[yq (by omega)];rfl)) (q _)
theorem zA(T:Txt K mg):FnOk P w K mg base (CXF P w) 2 T.d__law_draw.a T.d__law_draw.fd ["_law_script", "_law_k", "_law_many"] (zeZ K):=by
 refine T.d__law_draw.F.okN zgc (fun vs H Q E h=>?_) (fun cdv A outer s H vs Q E hr h=>?_)
 ·obtain⟨a,ns,k,m,rfl,_⟩:=h;rfl
 obtain⟨a,ns,k,m,rfl,hS,h0,h1,hm,q⟩:=h
 have hk:=zkY h0 h1
 have hk':=Int.mul_nonneg h0 h0
 refine⟨_,(ze (zD (zo zba (zo zba (zo zau (zo (show OpR _ (binaryOp .Add) (zF K)from zy) (zo (show OpR _ (binaryOp .Add) (zF K)from zy) (zo zba (zm (zc1 (base:=base) T) (hr.mono (by decide)) rfl T.d__law_cell.m T.d__law_cell.F.kp T.d__law_cell.b .nil (zu zt) (za (pv 0) (za (pv 1) zb))) zc) (zo zau (pv 1) (pv 1))) zc) zc) zc) (pv 2)))),?_⟩
 refine zB (σ0:=[some (.ref a),some (.int k),some (.int m)]) rfl ?_
 walk_at "x"
 exact q _ (yR _ (by omega)) (yL _ (by omega))
theorem za1(T:Txt K mg):FnOk P w K mg base (CXF P w) 2 T.d__law_great.a T.d__law_great.fd ["_law_script", "_law_k", "_law_many"] (zd2 K):=by
 refine T.d__law_great.F.okN zfG (fun vs H Q E h=>?_) (fun cdv A outer s H vs Q E hr h=>?_)
 ·obtain⟨a,ns,k,m,rfl,_⟩:=h;rfl
 obtain⟨a,ns,k,m,rfl,hS,h0,h1,hm,hm',q⟩:=h
 have hk:=zkY h0 h1
 have hk':=Int.mul_nonneg h0 h0
 have hM:∀i:Int,0<=i%m/\i%m<m:=fun i=>⟨yR _ (by omega),yL _ (by omega)⟩
 have zM:∀i:Int,sz (i%m)<=200:=fun i=>sz200 (by have:=hM i;omega) (by have:=hM i;omega)
 refine⟨_,(ze (zD (zo zba (zo (show OpR _ (binaryOp .Add) (zF K)from zy) (zo (show OpR _ (binaryOp .Add) (zF K)from zy) (zo zau (zo zba (zm (zc1 (base:=base) T) (hr.mono (by decide)) rfl T.d__law_cell.m T.d__law_cell.F.kp T.d__law_cell.b .nil (zu zt) (za (pv 0) (za (pv 1) zb))) (pv 2)) zc) (zo zau (zo zau (pv 1) (pv 1)) zc)) zc) (pv 2)))),?_⟩
 refine zB (σ0:=[some (.ref a),some (.int k),some (.int m)]) rfl ?_
 walk_at "x"
 rename_i x
 have z1:=zM x
 have z2:sz k<=200:=sz200 (by omega) (by omega)
 walk_at "x"
 exact q _ (yR _ (by omega)) (yL _ (by omega))
theorem zeY(T:Txt K mg):FnOk P w K mg base (CXF P w) 3 T.d__law_pledge.a T.d__law_pledge.fd ["_law_script", "_law_k"] (zeL K):=by
 refine T.d__law_pledge.F.okN sc__law_pledge (fun vs H Q E h=>?_) (fun cdv A outer s H vs Q E hr h=>?_)
 ·obtain⟨a,ns,k,rfl,_⟩:=h;rfl
 obtain⟨a,ns,k,rfl,hS,h0,h1,q⟩:=h
 refine⟨_,(zd (zw (i:=2) sc__law_pledge.nd rfl (Or.inl rfl) (zm (zA (base:=base) T) (hr.mono (by decide)) rfl T.d__law_draw.m T.d__law_draw.F.kp T.d__law_draw.b .nil (zu zt) (za (pv 0) (za (pv 1) (za zc zb)))))
 (zd (zE (zk zas (pv 2) zc (nomark _))
 (ze (zD (pv 2)))
 zr)
 (zd (zE (zk (show OpR _ (compareOp .Eq) (zX K)from zR hr.units) (pv 2) zc (nomark _))
 (ze (zD (zm (zA (base:=base) T) (hr.mono (by decide)) rfl T.d__law_draw.m T.d__law_draw.F.kp T.d__law_draw.b .nil (zu zt) (za (pv 0) (za (zo (show OpR _ (binaryOp .Add) (zF K)from zy) (pv 1) zc) (za zc zb))))))
 zr)
 (zd (zE (zk zas (pv 2) zc (nomark _))
 (ze (zD (zm (zA (base:=base) T) (hr.mono (by decide)) rfl T.d__law_draw.m T.d__law_draw.F.kp T.d__law_draw.b .nil (zu zt) (za (pv 0) (za (zo (show OpR _ (binaryOp .Add) (zF K)from zy) (pv 1) zc) (za zc zb))))))
 zr)
 (ze (zD (zm (za1 (base:=base) T) (hr.mono (by decide)) rfl T.d__law_great.m T.d__law_great.F.kp T.d__law_great.b .nil (zu zt) (za (pv 0) (za (zo (show OpR _ (binaryOp .Add) (zF K)from zy) (pv 1) zc) (za (zo (show OpR _ (binaryOp .Add) (zF K)from zy) (zo zdg zc zc) zc) zb)))))))))),?_⟩
 refine zB (σ0:=[some (.ref a),some (.int k),none]) rfl ?_
 walk_at "x"
 all_goals exact q _ (by omega) (by omega)
theorem zgu(T:Txt K mg):FnOk P w K mg base (CXF P w) 1 T.d__law_loss.a T.d__law_loss.fd ["_law_position", "_law_move"] (zkf K):=by
 refine T.d__law_loss.F.okN zgz (fun vs H Q E h=>?_) (fun cdv A outer s H vs Q E hr h=>?_)
 ·obtain⟨p,l,k,f,g,m,rfl,_⟩:=h;rfl
 obtain⟨p,l,k,f,g,m,rfl,hp,hl,hf,hg,hm,hk,q⟩:=h
 have hvl:((vec k g).map V.int).length=k:=by rw[ya,zJ]
 refine⟨_,(ze (zD (zo zaC zc (zp (show CallR _ _ (zeh K)from zcr rfl) rfl T.z_sum BT.sum (za (zaQ rfl (zaB rfl T.z_range (za (zp (show CallR _ _ (zac K)from zI) rfl T.z_len BT.len (za (pv 1) zb)) zb)) (zP (Ni:=["_law_k", "_law_position", "_law_move"]) (caps:=[none,some 0,some 1]) (by rfl)) (fun S _ _ _ _ _=>(z4 (gi:=0) S (Or.inl rfl) rfl)) (fun _ _ _ _ _=>zat) (fun _ _ _ _ _=>(zo zau (zh (show IxR _ (rIx K)from zf) (pv 1) (pv 0) (fun _ _=>rfl)) (zh (show IxR _ (rIx K)from zf) (pv 2) (pv 0) (fun _ _=>rfl))))) zb))))),?_⟩
 refine zB (σ0:=[some (.ref p),some (.ref l)]) rfl ?_
 walk_at "x"
 rw[hvl,yx]
 refine zah (zcs (lo:=0) (n:=k)) (fun _ _=>trivial) rfl (fun i vs _=>vs=(vec i fun j=>f j*g j).map V.int) (fun H' _=>rfl) ?_ ?_
 ·rintro i x D vs o H2 H3 hi hD e2 hv hvl' rfl e3 rfl
  obtain⟨f0,f1⟩:=hf i hi
  obtain⟨g0,g1⟩:=hg i hi
  rw[show((0:Int)+(i:Int))=(i:Int) by omega]
  have e23:=e2.trans e3
  have hp3:=e23.at hp
  have hl3:=e23.at hl
  have hv3:=e3.at hv
  have hat1:atI ((vec k f).map V.int) (i:Int)=some (.int (f i)):=zbL (by rw[yg,zaL hi];rfl)
  have hat2:atI ((vec k g).map V.int) (i:Int)=some (.int (g i)):=zbL (by rw[yg,zaL hi];rfl)
  have sf:sz (f (i:Int).toNat)<=200:=by rw[yx];exact sz200 (by omega) (by omega)
  have sg:sz (g (i:Int).toNat)<=200:=by rw[yx];exact sz200 (by omega) (by omega)
  walk_at "x"
  rename_i H4 b4 h4
  refine⟨⟨_,rfl⟩,b4.same e23 hD,_,h4,by rw[yk];exact yc hvl',?_⟩
  dsimp only
  rw[zan,yw,yx];rfl
 rintro D H2 vs hD e2 hv hvl' rfl
 walk_at "x"
 rw[zf1]
 exact q H2 e2
theorem zfM(T:Txt K mg):FnOk P w K mg base (CXF P w) 3 T.d__law_moves.a T.d__law_moves.fd ["_law_script", "_law_start", "_law_days", "_law_wares"] (zjg K):=by
 refine T.d__law_moves.F.okN sc__law_moves (fun vs H Q E h=>?_) (fun cdv A outer s H vs Q E hr h=>?_)
 ·obtain⟨a,ns,st,n,k,rfl,_⟩:=h;rfl
 obtain⟨a,ns,st,n,k,rfl,hS,s0,s1,n0,n1,k0,k1,q⟩:=h
 refine⟨_,(zd (zw (i:=4) sc__law_moves.nd rfl (Or.inl rfl) (zai zb))
 (zd (zaS PassesOwn.never rfl (zaB rfl T.z_range (za (pv 2) zb)) (zal (i:=5) sc__law_moves.nd rfl (Or.inl rfl))
 (zd (zw (i:=6) sc__law_moves.nd rfl (Or.inl rfl) (zai zb))
 (zd (zaS PassesOwn.never rfl (zaB rfl T.z_range (za (pv 3) zb)) (zal (i:=7) sc__law_moves.nd rfl (Or.inl rfl))
 (zd (zw (i:=8) sc__law_moves.nd rfl (Or.inl rfl) (zo (show OpR _ (binaryOp .Add) (zF K)from zy) (zo (show OpR _ (binaryOp .Add) (zF K)from zy) (pv 1) (zo zau zc (pv 5))) (pv 7)))
 (zd (zL (show PE _ _ (tBM K _ _ _ _)from zbA yB yE yF zaA (pv 6) (za (zo zaC (zm (zA (base:=base) T) (hr.mono (by decide)) rfl T.d__law_draw.m T.d__law_draw.F.kp T.d__law_draw.b .nil (zu zt) (za (pv 0) (za (pv 8) (za zc zb)))) zc) zb)))
 (ze (zE (PW.pt (zgH (zk (show OpR _ (compareOp .Eq) (zX K)from zR hr.units) (zm (zA (base:=base) T) (hr.mono (by decide)) rfl T.d__law_draw.m T.d__law_draw.F.kp T.d__law_draw.b .nil (zu zt) (za (pv 0) (za zc (za zc zb)))) zc (nomark _)) (zeW (zk (show OpR _ (compareOp .Eq) (zX K)from zR hr.units) (zm (zA (base:=base) T) (hr.mono (by decide)) rfl T.d__law_draw.m T.d__law_draw.F.kp T.d__law_draw.b .nil (zu zt) (za (pv 0) (za (zo (show OpR _ (binaryOp .Add) (zF K)from zy) (pv 8) zc) (za zc zb)))) zc (nomark _)))))
 (ze (zaX (zo zaC (zm (za1 (base:=base) T) (hr.mono (by decide)) rfl T.d__law_great.m T.d__law_great.F.kp T.d__law_great.b .nil (zu zt) (za (pv 0) (za (pv 8) (za zc zb)))) zc) (zaW (pv 6) (pv 7) zU)))
 zr)))))
 (ze (zL (show PE _ _ (tBM K _ _ _ _)from zbA yB yE yF zaA (pv 4) (za (pv 6) zb)))))))
 (ze (zD (pv 4))))),?_⟩
 refine zB (σ0:=[some (.ref a),some (.int st),some (.int n),some (.int k),none,none,none,none,none]) rfl ?_
 walk_at "x"
 rename_i l H1 fl e1 hl
 refine zcw (fun i σ' H'=>∃(f5 f6 f7 f8:Option V) (as:List Addr) (F:Nat->Nat->Int),σ'=[some (.ref a),some (.int st),some (.int n),some (.int k),some (.ref l),f5,f6,f7,f8]/\H' l=some (.lst (as.map V.ref))/\as.length=i/\Rows H' as k.toNat F/\WithinR 1000000 i k.toNat F/\(∀b∈as,H b=none)/\Same H H') ⟨_,_,_,_,[],fun _ _=>0,rfl,hl,rfl,⟨yP,fun i a h=>nomatch h⟩,(fun i h=>absurd h (by omega)),(fun _ h=>nomatch h),e1⟩ ?_ ?_
 ·rintro i σ' H2 hi ⟨f5,f6,f7,f8,as,F,rfl,hl2,hal,hR,hW,hF,e2⟩
  have hin:(i:Int)<n:=by omega
  rw[show((0:Int)+(i:Int))=(i:Int) by omega]
  have hla:l∉as:=hR.ne (by omega) hl2
  subst hal
  walk_at "x"
  rename_i r H3 fr e3 hr3
  have hSq2:SqL K H2 a (ns.map V.int):=hS.keep e2
  refine zcw (fun j σ' H'=>∃(f7 f8:Option V) (f:Nat->Int),σ'=[some (.ref a),some (.int st),some (.int n),some (.int k),some (.ref l),some (.int (as.length:Int)),some (.ref r),f7,f8]/\H' r=some (.lst ((vec j f).map V.int))/\Internal.Within 1000000 j f/\Same H2 H') ⟨_,_,fun _=>0,rfl,hr3,(fun j h=>absurd h (by omega)),e3⟩ ?_ ?_
  ·rintro j σ' H4 hj ⟨g7,g8,f,rfl,hr4,hf,e4⟩
   rw[show((0:Int)+(j:Int))=(j:Int) by omega]
   have hjk:(j:Int)<k:=by omega
   have hSq4:SqL K H4 a (ns.map V.int):=hSq2.keep e4
   have hvl:((vec j f).map V.int).length<=1000:=by rw[ya,zJ];omega
   walk_at "x"
   rename_i x x0 x1 H5 b5 h5
   have e5:=b5.same e4 fr
   have hSq5:SqL K H5 a (ns.map V.int):=hSq2.keep e5
   rw[zgK]at h5
   have hf5:Internal.Within 1000000 (j+1) (fun i=>if i=j then x-9 else f i):=hf.more (by omega) (by omega)
   walk_at "x"
   ·rename_i H6 b6 h6
    refine⟨_,_,_,rfl,h6,fun t ht=>?_,b6.same e5 fr⟩
    have ht5:=hf5 t ht
    dsimp only at ht5 ⊢
    by_cases g:t=(j:Int).toNat
    ·rw[if_pos g];omega
    ·rw[if_neg g];exact ht5
   ·exact⟨_,_,_,rfl,h5,hf5,e5⟩
   ·exact⟨_,_,_,rfl,h5,hf5,e5⟩
  ·rintro σ' H4 ⟨g7,g8,f,rfl,hr4,hf,e4⟩
   have hl4:=e4.at hl2
   have hR4:=hR.same e4
   have hrl:r≠l:=zbK fr hl2
   have hmap:(as.map V.ref).length<=1000:=by rw[ya];omega
   walk_at "x"
   rename_i H5 b5 h5
   refine⟨_,_,_,_,as++[r],fun t=>if t=as.length then f else F t,rfl,by rw[yw];exact h5,by rw[yk];rfl,Rows.snoc (hR4.but b5 hla) (hR.fresh fr) (b5.lst hr4 hrl),hW.snoc hf,fun b hb=>?_,b5.same (e2.trans e4) fl⟩
   rcases yu.mp hb with h | h
   ·exact hF b h
   ·rw[yt.mp h];exact Same.none fr e2
 ·rintro σ' H2 ⟨f5,f6,f7,f8,as,F,rfl,hl2,hal,hR,hW,hF,e2⟩
  walk_at "x"
  exact q _ _ _ _ fl e2 hl2 hal hR hW hF
theorem zci(T:Txt K mg):FnOk P w K mg base (CXF P w) 2 T.d__law_need.a T.d__law_need.fd ["_law_position", "_law_rule", "_law_moves_here"] (zki K):=by
 refine T.d__law_need.F.okN sc__law_need (fun vs H Q E h=>?_) (fun cdv A outer s H vs Q E hr h=>?_)
 ·obtain⟨p,ru,l,w,c,as,k,f,F,m,rfl,_⟩:=h;rfl
 obtain⟨p,ru,l,w,c,as,k,f,F,m,rfl,hp,hru,hl,hR,hf,hW,hm,hk,hn,hO,q⟩:=h
 obtain⟨hw,c0,c1⟩:=hO
 have hal:(as.map V.ref).length=as.length:=ya ..
 refine⟨_,(zd (zw (i:=3) sc__law_need.nd rfl (Or.inl rfl) (zgR (by rfl) T.z_sorted BT.sorted (za (zaQ rfl (show PI _ _ _ (zaJ K _)from zaj (pv 2)) (zP (Ni:=["_law_move", "_law_position"]) (caps:=[none,some 0]) (by rfl)) (fun S _ _ _ _ _=>(z4 (gi:=0) S (Or.inl rfl) rfl)) (fun _ _ _ _ _=>zat) (fun _ _ _ _ _=>(zm (zgu (base:=base) T) (hr.mono (by decide)) rfl T.d__law_loss.m T.d__law_loss.F.kp T.d__law_loss.b .nil (zu zt) (za (pv 1) (za (pv 0) zb))))) zb)))
 (zd (zE (zk (show OpR _ (compareOp .Eq) (zX K)from zR hr.units) (zh (show IxR _ (rIx K)from zf) (pv 1) zc (fun _ _=>rfl)) zv (nomark _))
 (ze (zD (z6 (za (zp (zbR rfl) rfl T.z_max BT.max (za zc (za (zh (show IxR _ (rIx K)from zf) (pv 3) (zo zaC (zh (show IxR _ (rIx K)from zf) (pv 1) zc (fun _ _=>rfl)) zc) (fun _ _=>rfl)) zb))) (za zc zb)))))
 zr)
 (ze (zD (z6 (za (zp (zbR rfl) rfl T.z_max BT.max (za zc (za (zp (show CallR _ _ (zeh K)from zcr rfl) rfl T.z_sum BT.sum (za (za6 (show SlR _ (zcg K)from zbM) (pv 3) zbu (zbp (zh (show IxR _ (rIx K)from zf) (pv 1) zc (fun _ _=>rfl)))) zb)) zb))) (za (zh (show IxR _ (rIx K)from zf) (pv 1) zc (fun _ _=>rfl)) zb))))))),?_⟩
 refine zB (σ0:=[some (.ref p),some (.ref ru),some (.ref l),none]) rfl ?_
 walk_at "x"
 refine zah (zaO (K:=K) (a:=l) (xs:=as.map V.ref)) (fun H' e=>SqL.of (e.at hl)) rfl (fun i vs _=>vs=(vec i fun i=>zag k f (F i)).map V.int) (fun H' _=>rfl) ?_ ?_
 ·rintro i x D vs o H2 H3 hi hD e2 hv hvl rfl e3 hx
  rw[ya]at hi
  obtain⟨c',hc'⟩:=zN hi
  have ex:x=.ref c':=by rw[yg,hc']at hx;exact(yn hx).symm
  subst ex
  have hrow:=e3.at (e2.at (hR.2 _ _ hc'))
  have hp3:=e3.at (e2.at hp)
  have hv3:=e3.at hv
  walk_at "x"
  refine⟨p,c',k,f,F i,m,rfl,hp3,hrow,hf,hW i hi,hm,by omega,fun H4 e4=>?_⟩
  have hv4:=e4.at hv3
  walk_at "x"
  rename_i H5 b5 h5
  refine⟨⟨_,rfl⟩,b5.same (e2.trans (e3.trans e4)) hD,_,h5,by rw[yk];exact yc hvl,?_⟩
  dsimp only
  rw[zan,yw];rfl
 rintro D H2 vs hD e2 hv hvl rfl
 rw[hal]at hv
 have hB:∀i,i<as.length->zag k f (F i)<=9000000000000000000000000:=fun i hi=>by
  have h1:=(zef hm hf (hW i hi)).2
  have h2:=yK (show(k:Int)<=9 by omega) (show(0:Int)<=1000000000000000000000000 by decide)
  omega
 walk_at "x"
 refine zK ?_
 refine zlz (.of hv) (by rw[zJ];omega) fun l2 ms H3 fl2 e3 hmp hms hl2=>?_
 have hml:ms.length=as.length:=by have:=hmp.length_eq;rwa [zJ]at this
 have hru3:=e3.at (e2.at hru)
 have e23:=e2.trans e3
 rcases hw with rfl | rfl
 ·obtain⟨x,hx⟩:=zN (show(c-1).toNat<ms.length by omega)
  have hat:atI (ms.map V.int) (c-1)=some (.int x):=zaz (by omega) (by rw[yg,hx];rfl)
  have r1:("worst" : Str) = "worst" := rfl
  walk_at "x"
  refine zad (by first | decide | simp) fun r H4 fr e4 hr4=>?_
  exact q r H4 _ _ (Same.none fr e23) (e23.trans e4) hr4 (zic (by omega) hmp hms c0 c1 hx hB)
 ·have n1:¬("mean" : Str) = "worst" := by decide +kernel
  walk_at "x"
  rename_i l3 H4 fl3 e4 hl3
  rw[show c=((c.toNat:Nat):Int) by omega,zfw]at hl3
  walk_at "x"
  refine zad (by first | decide | simp) fun r H5 fr e5 hr5=>?_
  exact q r H5 _ _ (Same.none fr (e23.trans e4)) (e23.trans (e4.trans e5)) hr5 (zit (by omega) hmp hms c0 c1 hB)
theorem zbg(T:Txt K mg):FnOk P w K mg base (CXF P w) 1 T.d__law_positions.a T.d__law_positions.fd ["_law_rows", "_law_many", "_law_wares"] zlP:=by
 refine T.d__law_positions.F.okN sc__law_positions (fun vs H Q E h=>?_) (fun cdv A outer s H vs Q E hr h=>?_)
 ·obtain⟨ro,n,k,us,as,rfl,_⟩:=h;rfl
 obtain⟨ro,n,k,us,as,rfl,hro,hR,hk,n0,n1,k0,k1,hl,q⟩:=h
 refine⟨_,(zd (zb4 (i:=3) sc__law_positions.nd rfl rfl rfl (zaB rfl T.z_range (za (pv 1) zb)) (zP (Ni:=["_law_k", "_law_wares"]) (caps:=[none,some 2]) (by rfl)) (fun S _ _ _ _ _=>(z4 (gi:=0) S (Or.inl rfl) rfl)) (fun _ _ _ _ _=>zat) (fun _ _ _ _ _=>(zaQ rfl (zaB rfl T.z_range (za (pv 1) zb)) (zP (Ni:=["_law_ware"]) (caps:=[none]) (by rfl)) (fun S _ _ _ _ _=>(z4 (gi:=0) S (Or.inl rfl) rfl)) (fun _ _ _ _ _=>zat) (fun _ _ _ _ _=>zc))))
 (zd (zaS PassesOwn.never rfl (show PI _ _ _ (zaJ K _)from zaj (pv 0)) (zal (i:=4) sc__law_positions.nd rfl (Or.inl rfl))
 (ze (zE (zk (show OpR _ (compareOp .Eq) (zX K)from zR hr.units) (zh (show IxR _ (rIx K)from zf) (pv 4) zc (fun _ _=>rfl)) zv (nomark _))
 (zd (zw (i:=5) sc__law_positions.nd rfl (Or.inl rfl) (zh (show IxR _ (rIx K)from zf) (pv 3) (zh (show IxR _ (rIx K)from zf) (pv 4) zc (fun _ _=>rfl)) (fun _ _=>rfl)))
 (zd (zw (i:=6) sc__law_positions.nd rfl (Or.inl rfl) (zh (show IxR _ (rIx K)from zf) (pv 3) (zh (show IxR _ (rIx K)from zf) (pv 4) zc (fun _ _=>rfl)) (fun _ _=>rfl)))
 (zd (zaX (zo (show OpR _ (binaryOp .Add) (zF K)from zy) (zh (show IxR _ (rIx K)from zf) (pv 5) (zh (show IxR _ (rIx K)from zf) (pv 4) zc (fun _ _=>rfl)) (fun _ _=>rfl)) (zh (show IxR _ (rIx K)from zf) (pv 4) zc (fun _ _=>rfl))) (zaW (pv 5) (zh (show IxR _ (rIx K)from zf) (pv 4) zc (fun _ _=>rfl)) zU))
 (ze (zaX (zo zaC (zh (show IxR _ (rIx K)from zf) (pv 6) (zh (show IxR _ (rIx K)from zf) (pv 4) zc (fun _ _=>rfl)) (fun _ _=>rfl)) (zh (show IxR _ (rIx K)from zf) (pv 4) zc (fun _ _=>rfl))) (zaW (pv 6) (zh (show IxR _ (rIx K)from zf) (pv 4) zc (fun _ _=>rfl)) zU))))))
 zr)))
 (ze (zD (pv 3))))),?_⟩
 refine zB (σ0:=[some (.ref ro),some (.int n),some (.int k),none,none,none,none]) rfl ?_
 walk_at "x"
 refine zah (zcs (lo:=0) (n:=n.toNat)) (fun _ _=>trivial) rfl (fun i vs H'=>∃bs:List Addr,vs=bs.map V.ref/\bs.length=i/\Rows H' bs k.toNat (fun _ _=>0)/\∀b∈bs,H b=none) (fun H' _=>⟨[],rfl,rfl,⟨yP,fun i a h=>nomatch h⟩,fun b hb=>nomatch hb⟩) ?_ ?_
 ·rintro i x D vs o H4 H5 hi hD e4 hv hvl ⟨bs,rfl,hbl,hRb,hfb⟩ e5 rfl
  have hcs:(bs.map V.ref).length<=1000:=by rw[ya];omega
  have hv5:=e5.at hv
  walk_at "x"
  rename_i p H6 fp e6 hp H7 b7 h7
  have hD':D∉bs:=hRb.ne (by omega) hv
  have hpD:p≠D:=zbK fp hv5
  subst hbl
  refine⟨⟨_,rfl⟩,by walk_at "h",_,h7,by rw[yk];exact yc hvl,bs++[p],by rw[yw];rfl,by rw[yk];rfl,Rows.app ((hRb.same (e5.trans e6)).but b7 hD') ((hRb.same e5).fresh fp) (b7.lst hp hpD),fun b hb=>?_⟩
  rcases yu.mp hb with hb | hb
  ·exact hfb b hb
  ·rw[yt.mp hb];exact Same.none fp (e4.trans e5)
 rintro r H2 vs fr e2 hr2 _ ⟨bs,rfl,hbl,hRb,hfb⟩
 have hrb:r∉bs:=hRb.ne (by omega) hr2
 have hal:=hR.2.1
 walk_at "x"
 refine zc5 (xs:=as.map V.ref) (fun i σ' H'=>∃f4 f5 f6:Option V,σ'=[some (.ref ro),some (.int n),some (.int k),some (.ref r),f4,f5,f6]/\Same H H'/\H' r=some (.lst (bs.map V.ref))/\Rows H' bs k.toNat (fun m=>z7 (us.take i) (m:Int))) ⟨_,_,_,rfl,e2,hr2,hRb.congr fun _ _ _ _=>rfl⟩ ?_ ?_ ?_
 ·rintro i σ' H' _ ⟨_,_,_,_,e,_⟩;exact SqL.of (e.at hro)
 ·rintro i x σ' H3 hx ⟨f4,f5,f6,rfl,e3,hr3,hR3⟩
  have hi:i<as.length:=by have:=(yl.mp hx).1;rwa [ya]at this
  obtain⟨c,hc⟩:=zN hi
  obtain⟨t,ht⟩:=zN (show i<us.length by omega)
  have ex:x=.ref c:=by rw[yg,hc]at hx;exact(yn hx).symm
  subst ex
  have hT:=hk t (yp ht)
  obtain⟨p0,p1,q0,q1,pq,w0,w1,_⟩:=hT
  have hrow:H3 c=some (.lst [.int t.1.p,.int t.1.q,.int t.1.w,.int t.1.u,.int t.1.a,.int t.1.y,.int t.1.r,.str t.2]):=e3.at (hR.2.2 i c t hc ht)
  obtain⟨bp,hbp⟩:=zN (show t.1.p.toNat<bs.length by omega)
  obtain⟨bq,hbq⟩:=zN (show t.1.q.toNat<bs.length by omega)
  have hat1:atI (bs.map V.ref) t.1.p=some (.ref bp):=zaz p0 (by rw[yg,hbp];rfl)
  have hat2:atI (bs.map V.ref) t.1.q=some (.ref bq):=zaz q0 (by rw[yg,hbq];rfl)
  have hp3:=hR3.2 _ _ hbp
  have hq3:=hR3.2 _ _ hbq
  have hne:bp≠bq:=fun z=>pq (by have:=zcl hR3.1 hbp (z▸hbq);omega)
  have hne2:bq≠bp:=hne.symm
  have hcH:=hR.2.2 i c t hc ht
  have ncp:c≠bp:=zC hcH (hfb bp (yp hbp))
  have ncq:c≠bq:=zC hcH (hfb bq (yp hbq))
  have nrp:r≠bp:=fun z=>hrb (z▸yp hbp)
  have nrq:r≠bq:=fun z=>hrb (z▸yp hbq)
  have fbp:=hfb bp (yp hbp)
  have fbq:=hfb bq (yp hbq)
  walk_at "x"
  ·rename_i hs H4 b4 h4 H5 b5 h5
   refine⟨_,_,_,rfl,b5.same (b4.same e3 fbp) fbq,b5.lst (b4.lst hr3 nrp) nrq,((hR3.set b4 hbp h4).set b5 hbq h5).congr fun m hm j hj=>?_⟩
   dsimp only
   rw[zcZ ht]
   by_cases m1:m=t.1.q.toNat
   ·rw[if_pos m1,m1,show((t.1.q.toNat:Nat):Int)=t.1.q by omega,zij hs w0 pq]
    split
    ·rename_i z;rw[z];omega
    ·omega
   ·rw[if_neg m1]
    by_cases m2:m=t.1.p.toNat
    ·rw[if_pos m2,m2,show((t.1.p.toNat:Nat):Int)=t.1.p by omega,ziT hs w0]
     split
     ·rename_i z;rw[z]
     ·omega
    ·rw[if_neg m2,zmh (by omega) (by omega)];omega
  ·rename_i hs
   refine⟨_,_,_,rfl,e3,hr3,hR3.congr fun m hm j hj=>?_⟩
   rw[zcZ ht,zme hs];omega
 ·rintro σ' H3 ⟨f4,f5,f6,rfl,e3,hr3,hR3⟩
  walk_at "x"
  rw[ya,hal,yaw]at hR3
  exact q r H3 bs fr e3 hr3 hbl hR3 hfb
theorem zey(T:Txt K mg):FnOk P w K mg base (CXF P w) 1 T.d__law_part_is.a T.d__law_part_is.fd ["_law_told", "_law_due"] zhx:=by
 refine T.d__law_part_is.F.okN sc__law_part_is (fun vs H Q E h=>?_) (fun cdv A outer s H vs Q E hr h=>?_)
 ·obtain⟨r,t,q,a,b,rfl,_⟩:=h;rfl
 obtain⟨r,t,q,a,b,rfl,hr0,ht,hz,a0,a1,b0,b1,hq,k⟩:=h
 have hdp:=zhk q
 have bn:((b:Int):Rat)≠0:=fun z=>by
  have:b=0:=by exact_mod_cast z
  omega
 have hc:q*((b:Int):Rat)=((a:Int):Rat):=by rw[hq,yah];exact yat bn
 have q0:0<=q.num:=by
  rw[Rat.num_nonneg]
  exact Rat.not_lt.mp fun z=>by
   have h1:=yaJ z (show(0:Rat)<((b:Int):Rat) by exact_mod_cast b0)
   rw[hc,Rat.zero_mul]at h1
   have:a<0:=by exact_mod_cast h1
   omega
 have hx:q.num*b=a*(q.den:Int):=by
  have h1:((q.num*b:Int):Rat)=((a*(q.den:Int):Int):Rat):=by
   rw[Rat.intCast_mul,Rat.intCast_mul,zma q,<- hc];grind
  exact_mod_cast h1
 have hg:My.gc (q.den:Int) q.num=1:=by
  have:=zlN q
  rw[if_neg (by omega),My.gc_comm]at this
  exact this
 have m1:CMulS q.num b:=CMulS.of hz.1 (zbc (n:=20) (by omega)) (by decide)
 have m2:CMulS a (q.den:Int):=CMulS.of (sz200 (by omega) (by omega)) hz.2 (by decide)
 refine⟨_,(zd (zE (PW.pt (zaf (zce (show PT _ _ (za0 K _)from zV (zp (show CallR _ _ (zaw K)from zap) rfl T.z_isinstance BT.isinstance (za (pv 0) (za (zcF (v:=.ty "tuple") rfl T.z_tuple BT.tuple rfl) zb))) (fun _=>rfl))) (zab (zk (show OpR _ (compareOp .NotEq) (zbf K)from zbw hr.units) (zp (show CallR _ _ (zac K)from zI) rfl T.z_len BT.len (za (pv 0) zb)) zc (nomark _)))))
 (ze (zD za4))
 zr)
 (zd (zaS PassesOwn.never rfl (show PI _ _ _ (zhF K _)from zjj (pv 0)) (zal (i:=2) sc__law_part_is.nd rfl (Or.inl rfl))
 (ze (zE (PW.pt (zaf (zce (show PT _ _ (za0 K _)from zV (zp (show CallR _ _ (zaw K)from zap) rfl T.z_isinstance BT.isinstance (za (pv 2) (za (zcF (v:=.ty "int") rfl T.z_int BT.int rfl) zb))) (fun _=>rfl))) (zab (show PT _ _ (za0 K _)from zV (zp (show CallR _ _ (zaw K)from zap) rfl T.z_isinstance BT.isinstance (za (pv 2) (za (zcF (v:=.ty "bool") rfl T.z_bool BT.bool rfl) zb))) (fun _=>rfl)))))
 (ze (zD za4))
 zr)))
 (zd (zE (PW.pt (zaf (zk zas (zh (show IxR _ (rIx K)from zf) (pv 0) zc (fun _ _=>rfl)) zc (nomark _)) (zaf (zk zas (zh (show IxR _ (rIx K)from zf) (pv 0) zc (fun _ _=>rfl)) zc (nomark _)) (zab (zk (show OpR _ (compareOp .NotEq) (zbf K)from zbw hr.units) (zo zau (zh (show IxR _ (rIx K)from zf) (pv 0) zc (fun _ _=>rfl)) (zh (show IxR _ (rIx K)from zf) (pv 1) zc (fun _ _=>rfl))) (zo zau (zh (show IxR _ (rIx K)from zf) (pv 1) zc (fun _ _=>rfl)) (zh (show IxR _ (rIx K)from zf) (pv 0) zc (fun _ _=>rfl))) (nomark _))))))
 (ze (zD za4))
 zr)
 (zd (zw (i:=3) sc__law_part_is.nd rfl (Or.inl rfl) (zh (show IxR _ (rIx K)from zf) (pv 0) zc (fun _ _=>rfl)))
 (zd (zw (i:=4) sc__law_part_is.nd rfl (Or.inl rfl) (zh (show IxR _ (rIx K)from zf) (pv 0) zc (fun _ _=>rfl)))
 (zd (zgt PassesOwn.never (zk zbi (pv 3) zc (nomark _))
 (zd (zw (i:=5) sc__law_part_is.nd rfl (Or.inl rfl) (zo zba (pv 4) (pv 3)))
 (zd (zw (i:=4) sc__law_part_is.nd rfl (Or.inl rfl) (pv 3))
 (ze (zw (i:=3) sc__law_part_is.nd rfl (Or.inl rfl) (pv 5))))))
 (ze (zD (zbd (show OpR _ (compareOp .Eq) (zX K)from zR hr.units) (pv 4) zc (nomark _)))))))))),?_⟩
 refine zB (σ0:=[some (.ref r),some (.ref t),none,none,none,none]) rfl ?_
 have e2:(2:Int)=2:=rfl
 walk_at "x"
 refine ziX (SqT.of hr0) ?_
 refine zgj (zhh (K:=K) (a:=r) (xs:=[.int q.num,.int (q.den:Int)])) (fun j σ' H'=>∃f2:Option V,σ'=[some (.ref r),some (.ref t),f2,none,none,none]/\Same H H') ⟨_,rfl,Same.refl _⟩ ?_ ?_ ?_
 ·rintro j σ' H' ⟨_,_,e⟩;exact SqT.of (e.at hr0)
 ·rintro j x σ' H1 H2 hj ⟨f2,rfl,e⟩ e' hx
  obtain⟨v,rfl⟩:∃v,x=.int v:=by
   have hj':j<2:=hj
   obtain rfl | rfl:j=0\/j=1:=by omega
   ·exact⟨_,(yn hx).symm⟩
   ·exact⟨_,(yn hx).symm⟩
  walk_at "x"
  exact⟨_,rfl,e.trans e'⟩
 ·rintro σ' H1 ⟨f2,rfl,e⟩
  have hr1:IsQ H1 r q:=e.at hr0
  have ht1:=e.at ht
  walk_at "x"
  all_goals first | (exfalso;omega) | skip
  refine⟨fun m σ H'=>∃(x y:Int) (f:Option V),σ=[some (.ref r),some (.ref t),f2,some (.int x),some (.int y),f]/\H'=H1/\0<=x/\0<=y/\My.gc y x=1/\m=x.toNat,⟨_,_,_,_,rfl,rfl,q0,by omega,hg,rfl⟩,?_⟩
  rintro m σ H' ⟨x,y,f,rfl,rfl,hx0,hy0,hg',rfl⟩
  walk_at "x"
  ·rename_i hne
   refine⟨fun σ' H''=>σ'=[some (.ref r),some (.ref t),f2,some (.int (y%x)),some (.int x),some (.int (y%x))]/\H''=H',?_,?_⟩
   ·rintro σ' H'' ⟨rfl,rfl⟩
    have h1:=yR y (b:=x) (by omega)
    have h2:=yL y (b:=x) (by omega)
    exact⟨_,by omega,_,_,_,rfl,rfl,h1,hx0,by rw[My.gc_step];exact hg',rfl⟩
   ·walk_at "x"
    exact⟨rfl,rfl⟩
  ·rename_i he
   rw[show x=0 by omega,My.gc_zero_right hy0]at hg'
   rw[hg']
   exact k _ e
theorem zgg(T:Txt K mg):FnOkH P w K mg base 1 T.d__law_name.a T.d__law_name.fd ["_law_e"] (zjJ T.c_NoMember T.c_NoTerms T.c_Bare T.c_NoDeal):=by
 refine T.d__law_name.F.okH sc__law_name (fun vs H Q E h=>?_) (fun cdv A outer s H vs Q E hr h=>?_)
 ·obtain⟨er,A,n,rfl,_⟩:=h;rfl
 obtain⟨er,A,n,rfl,he,hC,k⟩:=h
 have hn:1<=n/\n<=4:=by omega
 have i1:PySem.W.kitOne K (.ref A) (.ref T.c_NoMember)=some (decide (n=1)):=by
  rcases hC with⟨rfl,rfl⟩ | ⟨rfl,rfl⟩ | ⟨rfl,rfl⟩ | ⟨rfl,rfl⟩
  ·exact T.i_NoMember_NoMember
  ·exact T.i_NoTerms_NoMember
  ·exact T.i_Bare_NoMember
  ·exact T.i_NoDeal_NoMember
 have i2:PySem.W.kitOne K (.ref A) (.ref T.c_NoTerms)=some (decide (n=2)):=by
  rcases hC with⟨rfl,rfl⟩ | ⟨rfl,rfl⟩ | ⟨rfl,rfl⟩ | ⟨rfl,rfl⟩
  ·exact T.i_NoMember_NoTerms
  ·exact T.i_NoTerms_NoTerms
  ·exact T.i_Bare_NoTerms
  ·exact T.i_NoDeal_NoTerms
 have i3:PySem.W.kitOne K (.ref A) (.ref T.c_Bare)=some (decide (n=3)):=by
  rcases hC with⟨rfl,rfl⟩ | ⟨rfl,rfl⟩ | ⟨rfl,rfl⟩ | ⟨rfl,rfl⟩
  ·exact T.i_NoMember_Bare
  ·exact T.i_NoTerms_Bare
  ·exact T.i_Bare_Bare
  ·exact T.i_NoDeal_Bare
 have i4:PySem.W.kitOne K (.ref A) (.ref T.c_NoDeal)=some (decide (n=4)):=by
  rcases hC with⟨rfl,rfl⟩ | ⟨rfl,rfl⟩ | ⟨rfl,rfl⟩ | ⟨rfl,rfl⟩
  ·exact T.i_NoMember_NoDeal
  ·exact T.i_NoTerms_NoDeal
  ·exact T.i_Bare_NoDeal
  ·exact T.i_NoDeal_NoDeal
 have o1:PySem.W.kitOne K (.ref A) (.ref T.c_Out)=some false:=by
  rcases hC with⟨rfl,rfl⟩ | ⟨rfl,rfl⟩ | ⟨rfl,rfl⟩ | ⟨rfl,rfl⟩
  ·exact T.i_NoMember_Out
  ·exact T.i_NoTerms_Out
  ·exact T.i_Bare_Out
  ·exact T.i_NoDeal_Out
 have o2:PySem.W.kitOne K (.ref A) (.ref T.c_Poor)=some false:=by
  rcases hC with⟨rfl,rfl⟩ | ⟨rfl,rfl⟩ | ⟨rfl,rfl⟩ | ⟨rfl,rfl⟩
  ·exact T.i_NoMember_Poor
  ·exact T.i_NoTerms_Poor
  ·exact T.i_Bare_Poor
  ·exact T.i_NoDeal_Poor
 have o3:PySem.W.kitOne K (.ref A) (.ref T.c_Closed)=some false:=by
  rcases hC with⟨rfl,rfl⟩ | ⟨rfl,rfl⟩ | ⟨rfl,rfl⟩ | ⟨rfl,rfl⟩
  ·exact T.i_NoMember_Closed
  ·exact T.i_NoTerms_Closed
  ·exact T.i_Bare_Closed
  ·exact T.i_NoDeal_Closed
 have iv:PySem.W.kitOne K (.ref A) (.type "ValueError")=some true:=by
  rcases hC with⟨rfl,rfl⟩ | ⟨rfl,rfl⟩ | ⟨rfl,rfl⟩ | ⟨rfl,rfl⟩
  ·exact T.i_NoMember_ValueError
  ·exact T.i_NoTerms_ValueError
  ·exact T.i_Bare_ValueError
  ·exact T.i_NoDeal_ValueError
 have ea:errOk K A=true:=by
  rcases hC with⟨rfl,rfl⟩ | ⟨rfl,rfl⟩ | ⟨rfl,rfl⟩ | ⟨rfl,rfl⟩
  ·exact T.e_NoMember
  ·exact T.e_NoTerms
  ·exact T.e_Bare
  ·exact T.e_NoDeal
 clear hC
 refine⟨_,(zd (zw (i:=1) sc__law_name.nd rfl (Or.inl rfl) (zai zb))
 (zav (zE (show PT _ _ (za0 K _)from zV (zp (show CallR _ _ (zaw K)from zap) rfl T.z_isinstance BT.isinstance (za (pv 0) (za (zW (v:=.ref T.c_NoMember) rfl T.m_NoMember rfl) zb))) (fun _=>rfl))
 (ze (zL (show PE _ _ (tBM K _ _ _ _)from zbA yB yE yF zaA (pv 1) (za zv zb))))
 zr)
 (zav (zE (show PT _ _ (za0 K _)from zV (zp (show CallR _ _ (zaw K)from zap) rfl T.z_isinstance BT.isinstance (za (pv 0) (za (zW (v:=.ref T.c_NoTerms) rfl T.m_NoTerms rfl) zb))) (fun _=>rfl))
 (ze (zL (show PE _ _ (tBM K _ _ _ _)from zbA yB yE yF zaA (pv 1) (za zv zb))))
 zr)
 (zav (zE (show PT _ _ (za0 K _)from zV (zp (show CallR _ _ (zaw K)from zap) rfl T.z_isinstance BT.isinstance (za (pv 0) (za (zW (v:=.ref T.c_Bare) rfl T.m_Bare rfl) zb))) (fun _=>rfl))
 (ze (zL (show PE _ _ (tBM K _ _ _ _)from zbA yB yE yF zaA (pv 1) (za zv zb))))
 zr)
 (zav (zE (show PT _ _ (za0 K _)from zV (zp (show CallR _ _ (zaw K)from zap) rfl T.z_isinstance BT.isinstance (za (pv 0) (za (zW (v:=.ref T.c_NoDeal) rfl T.m_NoDeal rfl) zb))) (fun _=>rfl))
 (ze (zL (show PE _ _ (tBM K _ _ _ _)from zbA yB yE yF zaA (pv 1) (za zv zb))))
 zr)
 (zav (zE (PW.pt (zaf (show PT _ _ (za0 K _)from zV (zp (show CallR _ _ (zaw K)from zap) rfl T.z_isinstance BT.isinstance (za (pv 0) (za (zW (v:=.ref T.c_Out) rfl T.m_Out rfl) zb))) (fun _=>rfl)) (zaf (show PT _ _ (za0 K _)from zV (zp (show CallR _ _ (zaw K)from zap) rfl T.z_isinstance BT.isinstance (za (pv 0) (za (zW (v:=.ref T.c_Poor) rfl T.m_Poor rfl) zb))) (fun _=>rfl)) (zab (show PT _ _ (za0 K _)from zV (zp (show CallR _ _ (zaw K)from zap) rfl T.z_isinstance BT.isinstance (za (pv 0) (za (zW (v:=.ref T.c_Closed) rfl T.m_Closed rfl) zb))) (fun _=>rfl))))))
 (ze (zL (show PE _ _ (tBM K _ _ _ _)from zbA yB yE yF zaA (pv 1) (za zv zb))))
 zr)
 (zd (zE (PW.pt (zaf (zk (show OpR _ (compareOp .NotEq) (zbf K)from zbw hr.units) (zp (show CallR _ _ (zac K)from zI) rfl T.z_len BT.len (za (pv 1) zb)) zc (nomark _)) (zab (zce (show PT _ _ (za0 K _)from zV (zp (show CallR _ _ (zaw K)from zap) rfl T.z_isinstance BT.isinstance (za (pv 0) (za (zcF (v:=.ty "ValueError") rfl T.z_ValueError BT.ValueError rfl) zb))) (fun _=>rfl))))))
 (ze (zD zv))
 zr)
 (ze (zD (zh (show IxR _ (rIx K)from zf) (pv 1) zc (fun _ _=>rfl))))))))))),?_⟩
 refine zB (σ0:=[some (.ref er),none]) rfl ?_
 walk_at "x"
 rename_i fo H1 ffo e1 hfo
 refine zbb (fun σ' H'=>σ'=[some (.ref er),some (.ref fo)]/\H' fo=some (.lst (if n<=1 then[V.str (word78 n)] else[]))/\Same H H') ?_ ?_
 ·walk_at "x"
  ·rename_i hz
   have hl:H1 fo=some (.lst []):=by first | exact hfo | (rw[hfo,if_neg (by omega)])
   refine zbE hl (by show 0<=100000;decide) fun Hn bn hn=>?_
   exact⟨rfl,by rw[hn,hz,if_pos (by omega)];rfl,bn.same e1 ffo⟩
  ·rename_i hz
   exact⟨rfl,by rw[hfo,if_neg (by omega)],e1⟩
 rintro σ' HG1 ⟨rfl,hg1,eg1⟩
 have he1:=eg1.at he
 refine zbb (fun σ' H'=>σ'=[some (.ref er),some (.ref fo)]/\H' fo=some (.lst (if n<=2 then[V.str (word78 n)] else[]))/\Same H H') ?_ ?_
 ·walk_at "x"
  ·rename_i hz
   have hl:HG1 fo=some (.lst []):=by first | exact hg1 | (rw[hg1,if_neg (by omega)])
   refine zbE hl (by show 0<=100000;decide) fun Hn bn hn=>?_
   exact⟨rfl,by rw[hn,hz,if_pos (by omega)];rfl,bn.same eg1 ffo⟩
  ·rename_i hz
   exact⟨rfl,by rw[hg1];congr 2;exact ze3 (by omega),eg1⟩
 rintro σ' HG2 ⟨rfl,hg2,eg2⟩
 have he2:=eg2.at he
 refine zbb (fun σ' H'=>σ'=[some (.ref er),some (.ref fo)]/\H' fo=some (.lst (if n<=3 then[V.str (word78 n)] else[]))/\Same H H') ?_ ?_
 ·walk_at "x"
  ·rename_i hz
   have hl:HG2 fo=some (.lst []):=by first | exact hg2 | (rw[hg2,if_neg (by omega)])
   refine zbE hl (by show 0<=100000;decide) fun Hn bn hn=>?_
   exact⟨rfl,by rw[hn,hz,if_pos (by omega)];rfl,bn.same eg2 ffo⟩
  ·rename_i hz
   exact⟨rfl,by rw[hg2];congr 2;exact ze3 (by omega),eg2⟩
 rintro σ' HG3 ⟨rfl,hg3,eg3⟩
 have he3:=eg3.at he
 refine zbb (fun σ' H'=>σ'=[some (.ref er),some (.ref fo)]/\H' fo=some (.lst (if n<=4 then[V.str (word78 n)] else[]))/\Same H H') ?_ ?_
 ·walk_at "x"
  ·rename_i hz
   have hl:HG3 fo=some (.lst []):=by first | exact hg3 | (rw[hg3,if_neg (by omega)])
   refine zbE hl (by show 0<=100000;decide) fun Hn bn hn=>?_
   exact⟨rfl,by rw[hn,hz,if_pos (by omega)];rfl,bn.same eg3 ffo⟩
  ·rename_i hz
   exact⟨rfl,by rw[hg3];congr 2;exact ze3 (by omega),eg3⟩
 rintro σ' HG4 ⟨rfl,hg4,eg4⟩
 have he4:=eg4.at he
 rw[if_pos hn.2]at hg4
 refine zbb (fun σ' H'=>σ'=[some (.ref er),some (.ref fo)]/\H' fo=some (.lst [V.str (word78 n)])/\Same H H') ?_ ?_
 ·walk_at "x"
  exact⟨rfl,hg4,eg4⟩
 rintro σ' HG5 ⟨rfl,hg5,eg5⟩
 have he5:=eg5.at he
 walk_at "x"
 all_goals first | (rename_i h;exact absurd rfl h) | exact k _ eg5
theorem zgv(T:Txt K mg):FnOk P w K mg base (CXF P w) 6 T.d__law_done.a T.d__law_done.fd ["_law_house", "_law_deed_here"] (za5 K T.c_House T.c_Book lP lQ T.c_NoMember T.c_NoTerms T.c_Bare T.c_NoDeal):=by
 refine T.d__law_done.F.okX zgy (fun vs H Q E h=>?_) (fun cdv A outer s H vs Q E hr h=>?_)
 ·obtain⟨H0,X,P,L,G,ts,us,as,zs,l,rfl,_⟩:=h;rfl
 obtain⟨H0,X,P,L,G,ts,us,as,zs,l,rfl,hW,hz,htl,hD⟩:=h
 obtain⟨dx,hh⟩:=hW.hc.ob
 obtain⟨⟨dxb,hbk⟩,xs,hd,hI⟩:=id hW.hn.bk
 have hxl:=hI.length
 have cl_House:=T.cl_House
 have r1:("deal" : Str) = "deal" := rfl
 have r2:("free" : Str) = "free" := rfl
 have e1:¬("free" : Str) = "deal" := by decide +kernel
 have e2:¬("strike" : Str) = "deal" := by decide +kernel
 have e3:¬("strike" : Str) = "free" := by decide +kernel
 refine⟨_,(zd (zE (zk (show OpR _ (compareOp .Eq) (zX K)from zR hr.units) (zh (show IxR _ (rIx K)from zf) (pv 1) zc (fun _ _=>rfl)) zv (nomark _))
 (ze (zD (zQ (pv 0) T.cl_House T.d_House_deal.mt (zcW (base:=base) T) (hr.mono (by decide)) T.d_House_deal.b .nil zT (za (zh (show IxR _ (rIx K)from zf) (pv 1) zc (fun _ _=>rfl)) zb))))
 zr)
 (zd (zE (zk (show OpR _ (compareOp .Eq) (zX K)from zR hr.units) (zh (show IxR _ (rIx K)from zf) (pv 1) zc (fun _ _=>rfl)) zv (nomark _))
 (ze (zD (zQ (pv 0) T.cl_House T.d_House_free.mt (zfy (base:=base) T) (hr.mono (by decide)) T.d_House_free.b .nil zT (za (zh (show IxR _ (rIx K)from zf) (pv 1) zc (fun _ _=>rfl)) (za (zh (show IxR _ (rIx K)from zf) (pv 1) zc (fun _ _=>rfl)) zb)))))
 zr)
 (ze (zD (zQ (pv 0) T.cl_House T.d_House_strike.mt (zeI (base:=base) T) (hr.mono (by decide)) T.d_House_strike.b .nil zT (za (zh (show IxR _ (rIx K)from zf) (pv 1) zc (fun _ _=>rfl)) (za (zh (show IxR _ (rIx K)from zf) (pv 1) zc (fun _ _=>rfl)) (za (zh (show IxR _ (rIx K)from zf) (pv 1) zc (fun _ _=>rfl)) (za (zh (show IxR _ (rIx K)from zf) (pv 1) zc (fun _ _=>rfl)) (za (zh (show IxR _ (rIx K)from zf) (pv 1) zc (fun _ _=>rfl)) (za (zh (show IxR _ (rIx K)from zf) (pv 1) zc (fun _ _=>rfl)) (za (zh (show IxR _ (rIx K)from zf) (pv 1) zc (fun _ _=>rfl)) zb)))))))))))),?_⟩
 refine zB (σ0:=[some (.ref X.h),some (.ref l)]) rfl ?_
 rcases hD with⟨m,hl,hm,q⟩ | ⟨m,c,hl,hm,ht,hle,hsz,q⟩ | ⟨t,hl,hy,q1,q2,q3⟩
 ·walk_at "x"
  refine⟨X.h,dx,dxb,X.d,X.A,X.own,_,_,_,m,xs,rfl,hh,hbk,hd,.inr ⟨by omega,q _ (Same.refl _)⟩⟩
 ·walk_at "x"
  refine⟨X.h,X.d,X.A,X.own,m,c,_,_,X.n,P,L,ts,X.bs,X.k,X.F,X.w,X.c,rfl,hW.hc,hW.hn,fun _ _=>hsz,fun _ _ _ H1 ql s1 t1 hL=>⟨fun hlt=>?_,fun hnl H2 H3 b2 h2 b3 h3=>?_⟩,fun z=>absurd hm z,fun _ z=>absurd ht z,fun _ _ z=>absurd hle (by omega)⟩
  ·exact(q ql hL).1 hlt H1 (hW.sameT s1 t1)
  ·exact(q ql hL).2 hnl H3 (((hW.sameT s1 t1).pl b2.l h2).pu b3.l h3)
 ·have hl':H l=some (.lst [.str "strike",.int t.p,.int t.q,.int t.w,.int t.u,.int t.a,.int t.y,.int t.r]):=hl
  walk_at "x"
  refine⟨X.h,X.d,X.A,X.own,0,X.n,P,L,t,xs,ts,X.bs,X.k,X.F,X.w,X.c,rfl,hW.hc,hW.hn,hd,by omega,hW.ou,hz,hy,fun hm H1 e1=>q1 hm H1 (hW.same e1),fun hm ht H1 e1=>q2 hm ht H1 (hW.same e1),fun hm ht=>⟨fun H1 ql s1 t1 hL hlt=>?_,fun H1 ql ql2 s1 t1 hL hL2 hn hlt=>?_,fun H1 ql ql2 a H2 H3 s1 t1 hL hL2 hn hn2 e2 ha b3 h3=>?_⟩⟩
  ·rw[ze7 ht.1.1]at hL hlt
   exact(q3 hm ht ql hL).1 hlt H1 (hW.sameT s1 t1)
  ·rw[ze7 ht.1.1]at hL hn
   rw[zg6 ht.1.1 hm.2.2]at hL2 hlt
   exact((q3 hm ht ql hL).2 hn ql2 hL2).1 hlt H1 (hW.sameT s1 t1)
  ·rw[ze7 ht.1.1]at hL hn
   rw[zg6 ht.1.1 hm.2.2]at hL2 hn2
   rw[hxl]
   have hW2:=(hW.sameT s1 t1).same e2
   refine((q3 hm ht ql hL).2 hn ql2 hL2).2 hn2 H3 (hW2.dl b3.l ?_ ?_ ?_ ?_)
   ·obtain⟨⟨dxb',hbk'⟩,_⟩:=id hW2.hn.bk
    refine⟨⟨dxb',b3.ins hbk'⟩,_,h3,IsTs.app (f:=zaP) (b3.tup ha) (hI.keep fun a' ys z=>b3.tup (e2.at (s1.tup z)))⟩
   ·intro u hu
    rcases yu.mp hu with z | z
    ·exact hW.hn.tok u z
    ·rw[yt.mp z];exact ht.1
   ·intro u hu
    rcases yu.mp hu with z | z
    ·exact hW.hn.tu u z
    ·rw[yt.mp z];exact ht.2.1
   ·rw[yk];show _+1<=1000;omega
theorem zaG(T:Txt K mg):FnOk P w K mg base (CXF P w) 7 T.d__law_found.a T.d__law_found.fd ["_law_house", "_law_deed_here"] (zbV T.c_NoMember T.c_NoTerms T.c_Bare T.c_NoDeal (za5 K T.c_House T.c_Book lP lQ T.c_NoMember T.c_NoTerms T.c_Bare T.c_NoDeal)):=by
 refine T.d__law_found.F.okN sc__law_found (fun vs H Q E h=>?_) (fun cdv A outer s H vs Q E hr h=>?_)
 ·obtain⟨H0,X,P,L,G,ts,us,as,zs,l,rfl,_⟩:=h;rfl
 have h':=h
 obtain⟨H0,X,P,L,G,ts,us,as,zs,l,rfl,_⟩:=h
 have e_Bare:=T.e_Bare
 have i_Bare_Bare:=T.i_Bare_Bare
 have i_Bare_Closed:=T.i_Bare_Closed
 have i_Bare_Gone:=T.i_Bare_Gone
 have i_Bare_NoDeal:=T.i_Bare_NoDeal
 have i_Bare_NoLayer:=T.i_Bare_NoLayer
 have i_Bare_NoMember:=T.i_Bare_NoMember
 have i_Bare_NoPart:=T.i_Bare_NoPart
 have i_Bare_NoRule:=T.i_Bare_NoRule
 have i_Bare_NoTerms:=T.i_Bare_NoTerms
 have i_Bare_Out:=T.i_Bare_Out
 have i_Bare_Poor:=T.i_Bare_Poor
 have i_Bare_QuitsError:=T.i_Bare_QuitsError
 have i_Bare_Settled:=T.i_Bare_Settled
 have i_Bare_ValueError:=T.i_Bare_ValueError
 have q_Bare_QuitsError:=T.q_Bare_QuitsError
 have e_Closed:=T.e_Closed
 have i_Closed_Bare:=T.i_Closed_Bare
 have i_Closed_Closed:=T.i_Closed_Closed
 have i_Closed_Gone:=T.i_Closed_Gone
 have i_Closed_NoDeal:=T.i_Closed_NoDeal
 have i_Closed_NoLayer:=T.i_Closed_NoLayer
 have i_Closed_NoMember:=T.i_Closed_NoMember
 have i_Closed_NoPart:=T.i_Closed_NoPart
 have i_Closed_NoRule:=T.i_Closed_NoRule
 have i_Closed_NoTerms:=T.i_Closed_NoTerms
 have i_Closed_Out:=T.i_Closed_Out
 have i_Closed_Poor:=T.i_Closed_Poor
 have i_Closed_QuitsError:=T.i_Closed_QuitsError
 have i_Closed_Settled:=T.i_Closed_Settled
 have i_Closed_ValueError:=T.i_Closed_ValueError
 have q_Closed_QuitsError:=T.q_Closed_QuitsError
 have e_Gone:=T.e_Gone
 have i_Gone_Bare:=T.i_Gone_Bare
 have i_Gone_Closed:=T.i_Gone_Closed
 have i_Gone_Gone:=T.i_Gone_Gone
 have i_Gone_NoDeal:=T.i_Gone_NoDeal
 have i_Gone_NoLayer:=T.i_Gone_NoLayer
 have i_Gone_NoMember:=T.i_Gone_NoMember
 have i_Gone_NoPart:=T.i_Gone_NoPart
 have i_Gone_NoRule:=T.i_Gone_NoRule
 have i_Gone_NoTerms:=T.i_Gone_NoTerms
 have i_Gone_Out:=T.i_Gone_Out
 have i_Gone_Poor:=T.i_Gone_Poor
 have i_Gone_QuitsError:=T.i_Gone_QuitsError
 have i_Gone_Settled:=T.i_Gone_Settled
 have i_Gone_ValueError:=T.i_Gone_ValueError
 have q_Gone_QuitsError:=T.q_Gone_QuitsError
 have e_NoDeal:=T.e_NoDeal
 have i_NoDeal_Bare:=T.i_NoDeal_Bare
 have i_NoDeal_Closed:=T.i_NoDeal_Closed
 have i_NoDeal_Gone:=T.i_NoDeal_Gone
 have i_NoDeal_NoDeal:=T.i_NoDeal_NoDeal
 have i_NoDeal_NoLayer:=T.i_NoDeal_NoLayer
 have i_NoDeal_NoMember:=T.i_NoDeal_NoMember
 have i_NoDeal_NoPart:=T.i_NoDeal_NoPart
 have i_NoDeal_NoRule:=T.i_NoDeal_NoRule
 have i_NoDeal_NoTerms:=T.i_NoDeal_NoTerms
 have i_NoDeal_Out:=T.i_NoDeal_Out
 have i_NoDeal_Poor:=T.i_NoDeal_Poor
 have i_NoDeal_QuitsError:=T.i_NoDeal_QuitsError
 have i_NoDeal_Settled:=T.i_NoDeal_Settled
 have i_NoDeal_ValueError:=T.i_NoDeal_ValueError
 have q_NoDeal_QuitsError:=T.q_NoDeal_QuitsError
 have e_NoLayer:=T.e_NoLayer
 have i_NoLayer_Bare:=T.i_NoLayer_Bare
 have i_NoLayer_Closed:=T.i_NoLayer_Closed
 have i_NoLayer_Gone:=T.i_NoLayer_Gone
 have i_NoLayer_NoDeal:=T.i_NoLayer_NoDeal
 have i_NoLayer_NoLayer:=T.i_NoLayer_NoLayer
 have i_NoLayer_NoMember:=T.i_NoLayer_NoMember
 have i_NoLayer_NoPart:=T.i_NoLayer_NoPart
 have i_NoLayer_NoRule:=T.i_NoLayer_NoRule
 have i_NoLayer_NoTerms:=T.i_NoLayer_NoTerms
 have i_NoLayer_Out:=T.i_NoLayer_Out
 have i_NoLayer_Poor:=T.i_NoLayer_Poor
 have i_NoLayer_QuitsError:=T.i_NoLayer_QuitsError
 have i_NoLayer_Settled:=T.i_NoLayer_Settled
 have i_NoLayer_ValueError:=T.i_NoLayer_ValueError
 have q_NoLayer_QuitsError:=T.q_NoLayer_QuitsError
 have e_NoMember:=T.e_NoMember
 have i_NoMember_Bare:=T.i_NoMember_Bare
 have i_NoMember_Closed:=T.i_NoMember_Closed
 have i_NoMember_Gone:=T.i_NoMember_Gone
 have i_NoMember_NoDeal:=T.i_NoMember_NoDeal
 have i_NoMember_NoLayer:=T.i_NoMember_NoLayer
 have i_NoMember_NoMember:=T.i_NoMember_NoMember
 have i_NoMember_NoPart:=T.i_NoMember_NoPart
 have i_NoMember_NoRule:=T.i_NoMember_NoRule
 have i_NoMember_NoTerms:=T.i_NoMember_NoTerms
 have i_NoMember_Out:=T.i_NoMember_Out
 have i_NoMember_Poor:=T.i_NoMember_Poor
 have i_NoMember_QuitsError:=T.i_NoMember_QuitsError
 have i_NoMember_Settled:=T.i_NoMember_Settled
 have i_NoMember_ValueError:=T.i_NoMember_ValueError
 have q_NoMember_QuitsError:=T.q_NoMember_QuitsError
 have e_NoPart:=T.e_NoPart
 have i_NoPart_Bare:=T.i_NoPart_Bare
 have i_NoPart_Closed:=T.i_NoPart_Closed
 have i_NoPart_Gone:=T.i_NoPart_Gone
 have i_NoPart_NoDeal:=T.i_NoPart_NoDeal
 have i_NoPart_NoLayer:=T.i_NoPart_NoLayer
 have i_NoPart_NoMember:=T.i_NoPart_NoMember
 have i_NoPart_NoPart:=T.i_NoPart_NoPart
 have i_NoPart_NoRule:=T.i_NoPart_NoRule
 have i_NoPart_NoTerms:=T.i_NoPart_NoTerms
 have i_NoPart_Out:=T.i_NoPart_Out
 have i_NoPart_Poor:=T.i_NoPart_Poor
 have i_NoPart_QuitsError:=T.i_NoPart_QuitsError
 have i_NoPart_Settled:=T.i_NoPart_Settled
 have i_NoPart_ValueError:=T.i_NoPart_ValueError
 have q_NoPart_QuitsError:=T.q_NoPart_QuitsError
 have e_NoRule:=T.e_NoRule
 have i_NoRule_Bare:=T.i_NoRule_Bare
 have i_NoRule_Closed:=T.i_NoRule_Closed
 have i_NoRule_Gone:=T.i_NoRule_Gone
 have i_NoRule_NoDeal:=T.i_NoRule_NoDeal
 have i_NoRule_NoLayer:=T.i_NoRule_NoLayer
 have i_NoRule_NoMember:=T.i_NoRule_NoMember
 have i_NoRule_NoPart:=T.i_NoRule_NoPart
 have i_NoRule_NoRule:=T.i_NoRule_NoRule
 have i_NoRule_NoTerms:=T.i_NoRule_NoTerms
 have i_NoRule_Out:=T.i_NoRule_Out
 have i_NoRule_Poor:=T.i_NoRule_Poor
 have i_NoRule_QuitsError:=T.i_NoRule_QuitsError
 have i_NoRule_Settled:=T.i_NoRule_Settled
 have i_NoRule_ValueError:=T.i_NoRule_ValueError
 have q_NoRule_QuitsError:=T.q_NoRule_QuitsError
 have e_NoTerms:=T.e_NoTerms
 have i_NoTerms_Bare:=T.i_NoTerms_Bare
 have i_NoTerms_Closed:=T.i_NoTerms_Closed
 have i_NoTerms_Gone:=T.i_NoTerms_Gone
 have i_NoTerms_NoDeal:=T.i_NoTerms_NoDeal
 have i_NoTerms_NoLayer:=T.i_NoTerms_NoLayer
 have i_NoTerms_NoMember:=T.i_NoTerms_NoMember
 have i_NoTerms_NoPart:=T.i_NoTerms_NoPart
 have i_NoTerms_NoRule:=T.i_NoTerms_NoRule
 have i_NoTerms_NoTerms:=T.i_NoTerms_NoTerms
 have i_NoTerms_Out:=T.i_NoTerms_Out
 have i_NoTerms_Poor:=T.i_NoTerms_Poor
 have i_NoTerms_QuitsError:=T.i_NoTerms_QuitsError
 have i_NoTerms_Settled:=T.i_NoTerms_Settled
 have i_NoTerms_ValueError:=T.i_NoTerms_ValueError
 have q_NoTerms_QuitsError:=T.q_NoTerms_QuitsError
 have e_Out:=T.e_Out
 have i_Out_Bare:=T.i_Out_Bare
 have i_Out_Closed:=T.i_Out_Closed
 have i_Out_Gone:=T.i_Out_Gone
 have i_Out_NoDeal:=T.i_Out_NoDeal
 have i_Out_NoLayer:=T.i_Out_NoLayer
 have i_Out_NoMember:=T.i_Out_NoMember
 have i_Out_NoPart:=T.i_Out_NoPart
 have i_Out_NoRule:=T.i_Out_NoRule
 have i_Out_NoTerms:=T.i_Out_NoTerms
 have i_Out_Out:=T.i_Out_Out
 have i_Out_Poor:=T.i_Out_Poor
 have i_Out_QuitsError:=T.i_Out_QuitsError
 have i_Out_Settled:=T.i_Out_Settled
 have i_Out_ValueError:=T.i_Out_ValueError
 have q_Out_QuitsError:=T.q_Out_QuitsError
 have e_Poor:=T.e_Poor
 have i_Poor_Bare:=T.i_Poor_Bare
 have i_Poor_Closed:=T.i_Poor_Closed
 have i_Poor_Gone:=T.i_Poor_Gone
 have i_Poor_NoDeal:=T.i_Poor_NoDeal
 have i_Poor_NoLayer:=T.i_Poor_NoLayer
 have i_Poor_NoMember:=T.i_Poor_NoMember
 have i_Poor_NoPart:=T.i_Poor_NoPart
 have i_Poor_NoRule:=T.i_Poor_NoRule
 have i_Poor_NoTerms:=T.i_Poor_NoTerms
 have i_Poor_Out:=T.i_Poor_Out
 have i_Poor_Poor:=T.i_Poor_Poor
 have i_Poor_QuitsError:=T.i_Poor_QuitsError
 have i_Poor_Settled:=T.i_Poor_Settled
 have i_Poor_ValueError:=T.i_Poor_ValueError
 have q_Poor_QuitsError:=T.q_Poor_QuitsError
 have e_Settled:=T.e_Settled
 have i_Settled_Bare:=T.i_Settled_Bare
 have i_Settled_Closed:=T.i_Settled_Closed
 have i_Settled_Gone:=T.i_Settled_Gone
 have i_Settled_NoDeal:=T.i_Settled_NoDeal
 have i_Settled_NoLayer:=T.i_Settled_NoLayer
 have i_Settled_NoMember:=T.i_Settled_NoMember
 have i_Settled_NoPart:=T.i_Settled_NoPart
 have i_Settled_NoRule:=T.i_Settled_NoRule
 have i_Settled_NoTerms:=T.i_Settled_NoTerms
 have i_Settled_Out:=T.i_Settled_Out
 have i_Settled_Poor:=T.i_Settled_Poor
 have i_Settled_QuitsError:=T.i_Settled_QuitsError
 have i_Settled_Settled:=T.i_Settled_Settled
 have i_Settled_ValueError:=T.i_Settled_ValueError
 have q_Settled_QuitsError:=T.q_Settled_QuitsError
 have cl_Book:=T.cl_Book
 have na_Book_day:=T.na_Book_day
 have na_Book_deals:=T.na_Book_deals
 have na_Book_many:=T.na_Book_many
 have na_Book_wares:=T.na_Book_wares
 have cl_House:=T.cl_House
 have na_House_book:=T.na_House_book
 have na_House_kept:=T.na_House_kept
 have na_House_moves:=T.na_House_moves
 have na_House_order:=T.na_House_order
 have na_House_outs:=T.na_House_outs
 have na_House_pledges:=T.na_House_pledges
 have na_House_purses:=T.na_House_purses
 have na_House_reports:=T.na_House_reports
 have na_House_rule:=T.na_House_rule
 have na_House_shares:=T.na_House_shares
 refine⟨_,(zd (zw (i:=2) sc__law_found.nd rfl (Or.inl rfl) (z6 (za zv (za zc zb))))
 (zd (show PS _ _ (zhY K _ _ _ _)from zlt (i:=3) ⟨rfl,rfl⟩ (zkE (zlT (i:=2) sc__law_found.nd rfl (Or.inl rfl) (zlf (zjR zv (zjD (zkn (zgv (base:=base) T) (hr.mono (by decide)) rfl T.d__law_done.m T.d__law_done.F.kp T.d__law_done.b (za (pv 0) (za (pv 1) zb)))))))) rfl T.m_QuitsError sc__law_found.nd rfl rfl (fun _=>(ze (zw (i:=2) sc__law_found.nd rfl (Or.inl rfl) (z6 (za zv (za (show PE _ _ (zep _ [] E0 _)from zj1 (zgg (base:=base) T) (Room.mark (hr.mono (j:=1) (by decide)) _) (by rfl) T.d__law_name.m T.d__law_name.F.kp T.d__law_name.b (za (pv 3) zb)) zb)))))))
 (ze (zD (pv 2))))),?_⟩
 refine zB (σ0:=[some (.ref X.h),some (.ref l),none,none]) rfl ?_
 walk_at "x"
 refine zad (by first | decide | simp) fun t0' H1 ft0 e1 ht0=>?_
 walk_at "x"
 refine zgP h' e1 (fun v H2 hq=>?_) (fun c H2 he=>?_)
 ·walk_at "x"
  refine zad (by first | decide | simp) fun p H3 fp e3 hp=>?_
  walk_at "x"
  exact hq p H3 e3 hp
 ·obtain⟨Ac,n,rfl,hc,k⟩:=he
  refine⟨_,rfl,?_⟩
  have hx:PySem.W.exmOne K (.ref Ac) (.ref T.c_QuitsError)=some true:=by
   rcases hc with⟨rfl,_⟩ | ⟨rfl,_⟩ | ⟨rfl,_⟩ | ⟨rfl,_⟩<;>assumption
  refine zg4 hx fun er H3 f3 e3 h3=>?_
  walk_at "x"
  refine⟨er,Ac,n,rfl,h3,hc,fun H4 e4=>?_⟩
  walk_at "x"
  refine zad (by first | decide | simp) fun p H5 fp e5 hp=>?_
  walk_at "x"
  exact k p H5 (e3.trans (e4.trans e5)) hp
theorem zcC(T:Txt K mg):FnOk P w K mg base (CXF P w) 8 T.d__law_stands.a T.d__law_stands.fd ["_law_house", "_law_rows", "_law_pledges", "_law_rule", "_law_moves_here"] (zh0 K T.c_House T.c_Book lP lQ):=by
 refine T.d__law_stands.F.okN sc__law_stands (fun vs H Q E h=>?_) (fun cdv A outer s H vs Q E hr h=>?_)
 ·obtain⟨H0,X,P,L,ts,as,zs,rfl,_⟩:=h;rfl
 obtain⟨H0,X,P,L,ts,as,zs,rfl,hW,n9,k1,htl,hz,q⟩:=h
 obtain⟨dx,hh⟩:=hW.hc.ob
 obtain⟨⟨dxb,hbk⟩,xs,hd,hI⟩:=id hW.hn.bk
 have hxl:=hI.length
 have hal:=hW.dr.2.1
 have cl_House:=T.cl_House
 have hvl:((vec X.n L).map V.int).length=X.n:=by rw[ya,zJ]
 have hlp:=hW.lp
 have hmv:=hW.mv
 have hro:=hW.ro
 have hru:=hW.ru
 have hwl:(as.map V.ref).length=as.length:=ya ..
 obtain⟨hw,c0,c1⟩:=id hW.hn.ok
 obtain⟨m0,hm0⟩:=zN (show 0<X.ms.length by have:=hW.ml;omega)
 have hat0:atI (X.ms.map V.ref) 0=some (.ref m0):=zaz (by omega) (by rw[yg];show(X.ms[0]?).map _=_;rw[hm0];rfl)
 have hm0r:=hW.mr.2 _ _ hm0
 have hml0:((vec X.k (X.F 0)).map V.int).length=X.k:=by rw[ya,zJ]
 refine⟨_,(zd (zw (i:=5) sc__law_stands.nd rfl (Or.inl rfl) (zm (zbg (base:=base) T) (hr.mono (by decide)) rfl T.d__law_positions.m T.d__law_positions.F.kp T.d__law_positions.b .nil (zu zt) (za (pv 1) (za (zp (show CallR _ _ (zac K)from zI) rfl T.z_len BT.len (za (pv 2) zb)) (za (zp (show CallR _ _ (zac K)from zI) rfl T.z_len BT.len (za (zh (show IxR _ (rIx K)from zf) (pv 4) zc (fun _ _=>rfl)) zb)) zb)))))
 (zd (zaS PassesOwn.never rfl (zaB rfl T.z_range (za (zp (show CallR _ _ (zac K)from zI) rfl T.z_len BT.len (za (pv 2) zb)) zb)) (zal (i:=6) sc__law_stands.nd rfl (Or.inl rfl))
 (zd (zw (i:=7) sc__law_stands.nd rfl (Or.inl rfl) (zQ (pv 0) T.cl_House T.d_House_position.mt (zdF (base:=base) T) (hr.mono (by decide)) T.d_House_position.b .nil (zu zt) (za (pv 6) zb)))
 (zd (zE (PW.pt (zaf (zk (show OpR _ (compareOp .NotEq) (zbf K)from zbw hr.units) (pv 7) (zh (show IxR _ (rIx K)from zf) (pv 5) (pv 6) (fun _ _=>rfl)) (nomark _)) (zab (zk (show OpR _ (compareOp .NotEq) (zbf K)from zbw hr.units) (zQ (pv 0) T.cl_House T.d_House_pledge.mt (zel (base:=base) T) (hr.mono (by decide)) T.d_House_pledge.b .nil (zu zt) (za (pv 6) zb)) (zh (show IxR _ (rIx K)from zf) (pv 2) (pv 6) (fun _ _=>rfl)) (nomark _)))))
 (ze (zD za4))
 zr)
 (zd (zaX (zo (show OpR _ (binaryOp .Add) (zF K)from zy) (zh (show IxR _ (rIx K)from zf) (pv 7) zc (fun _ _=>rfl)) zc) (zaW (pv 7) zc zU))
 (ze (zE (zce (show PT _ _ (za0 K _)from zV (zm (zey (base:=base) T) (hr.mono (by decide)) rfl T.d__law_part_is.m T.d__law_part_is.F.kp T.d__law_part_is.b .nil (zu zt) (za (zQ (pv 0) T.cl_House T.d_House_need.mt (zcU (base:=base) T) (hr.mono (by decide)) T.d_House_need.b .nil (zu zt) (za (pv 6) zb)) (za (zm (zci (base:=base) T) (hr.mono (by decide)) rfl T.d__law_need.m T.d__law_need.F.kp T.d__law_need.b .nil (zu zt) (za (zh (show IxR _ (rIx K)from zf) (pv 5) (pv 6) (fun _ _=>rfl)) (za (pv 3) (za (pv 4) zb)))) zb))) (fun _=>rfl)))
 (ze (zD za4))
 zr))))))
 (zd (zaS PassesOwn.never rfl (zaB rfl T.z_range (za (zp (show CallR _ _ (zac K)from zI) rfl T.z_len BT.len (za (pv 1) zb)) zb)) (zal (i:=8) sc__law_stands.nd rfl (Or.inl rfl))
 (ze (zE (zk (show OpR _ (compareOp .NotEq) (zbf K)from zbw hr.units) (zQ (pv 0) T.cl_House T.d_House_deal.mt (zcW (base:=base) T) (hr.mono (by decide)) T.d_House_deal.b .nil (zu zt) (za (pv 8) zb)) (zbs (show CallR _ _ (zej K)from zgN) rfl T.z_tuple BT.tuple (za (zh (show IxR _ (rIx K)from zf) (pv 1) (pv 8) (fun _ _=>rfl)) zb)) (nomark _))
 (ze (zD za4))
 zr)))
 (ze (zD (zbd (show OpR _ (compareOp .Eq) (zX K)from zR hr.units) (zm (zaG (base:=base) T) (hr.mono (by decide)) rfl T.d__law_found.m T.d__law_found.F.kp T.d__law_found.b .nil (zu zt) (za (pv 0) (za (zai (za zv (za (zp (show CallR _ _ (zac K)from zI) rfl T.z_len BT.len (za (pv 1) zb)) zb))) zb))) (z6 (za zv (za zv zb))) (nomark _))))))),?_⟩
 refine zB (σ0:=[some (.ref X.h),some (.ref X.ro),some (.ref X.lp),some (.ref X.ru),some (.ref X.mv),none,none,none,none]) rfl ?_
 walk_at "x"
 refine zK ?_
 refine⟨X.ro,X.n,X.k,ts,as,by rw[hvl,hml0],hro,hW.dr,hW.uk,by omega,by omega,by omega,by have:=hW.hn.k9;omega,by omega,fun r H1 ps fr e1 hr1 hpl hR1 hfp=>?_⟩
 rw[yx]at hpl hR1
 have t1:TbW K "worst_days" lP lQ H1:=TbW.same e1 hW.hn.tb
 have hW1:=hW.same e1
 have hlp1:=hW1.lp
 walk_at "x"
 refine zcw (fun i σ' H'=>∃f6 f7 f8:Option V,σ'=[some (.ref X.h),some (.ref X.ro),some (.ref X.lp),some (.ref X.ru),some (.ref X.mv),some (.ref r),f6,f7,f8]/\SameT H1 H'/\TbW K "worst_days" lP lQ H') ⟨_,_,_,rfl,SameT.refl _,t1⟩ ?_ ?_
 ·rintro i σ' H2 hi ⟨f6,f7,f8,rfl,s2,t2⟩
  rw[show((0:Int)+(i:Int))=(i:Int) by omega]
  have hW2:=hW1.sameT s2 t2
  obtain⟨dx2,hh2⟩:=hW2.hc.ob
  have hr2:=s2.lst hr1
  have hR2:=s2.rows hR1
  have hin:i<X.n:=by omega
  obtain⟨b,hb⟩:=zN (show i<ps.length by omega)
  have hat:atI (ps.map V.ref) (i:Int)=some (.ref b):=zbL (by rw[yg,hb];rfl)
  have hb2:=hR2.2 _ _ hb
  walk_at "x"
  refine zK ?_
  refine⟨X.h,dx2,X.d,X.A,X.own,_,_,_,X.k,ts,rfl,hh2,hW2.hn.bk,hW2.hn.tok,by have:=hW.hn.k9;omega,fun p H3 fp e3 hp=>?_⟩
  have hr3:=e3.at hr2
  have hb3:=e3.at hb2
  have hh3:=e3.at hh2
  have hpl3:=e3.at hW2.hc.pl
  have hlp3:=e3.at hW2.lp
  have hLL:L (i:Int).toNat=L (i:Int).toNat:=rfl
  walk_at "x"
  rename_i H4 b4 h4
  have e4:=b4.same e3 fp
  have hW4:=hW2.same e4
  obtain⟨dx4,hh4⟩:=hW4.hc.ob
  refine zK ?_
  refine⟨X.h,dx4,X.d,X.A,X.own,_,_,_,ts,X.bs,X.k,X.F,X.w,X.c,rfl,hh4,hW4.hn,fun ra H5 ql s5 t5 hL hra hza=>?_⟩
  have hW5:=hW4.sameT s5 t5
  have hr5:=s5.lst (e4.at hr2)
  have hR5:=s5.rows (hR2.same e4)
  have hb5:=hR5.2 _ _ hb
  have hru5:=hW5.ru
  have hmv5:=hW5.mv
  have hbd:Internal.Within 1000000000 X.k (z7 ts (i:Int)):=fun j _=>by
   have:=zb5 hW.hn.tu (i:Int) j
   omega
  walk_at "x"
  refine zK ?_
  refine⟨b,X.ru,X.mv,X.w,X.c,X.ms,X.k,z7 ts (i:Int),X.F,1000000000,rfl,hb5,hru5,hmv5,hW5.mr,hbd,fun i' hi' j hj=>by have:=hW.hn.fw i' (by rw[<- hW.ml];exact hi') j hj;omega,by decide,hW.hn.k9,by rw[hW.ml];exact hW.hn.n64,by rw[hW.ml];exact hW.hn.ok,fun rb H6 a0 b0 frb e6 hrb hnd=>?_⟩
  rw[hW.ml]at hnd
  have hq:=hnd.q ql hL
  walk_at "x"
  refine zK ?_
  refine⟨ra,rb,_,a0,b0,rfl,e6.isQ hra,hrb,hza,hnd.a0,hnd.a1,hnd.b0,hnd.b1,hq,fun H7 e7=>?_⟩
  walk_at "x"
  exact⟨_,_,_,rfl,s2.trans (e4.t.trans (s5.trans (e6.trans e7).t)),TbW.same (e6.trans e7) t5⟩
 ·rintro σ' H2 ⟨f6,f7,f8,rfl,s2,t2⟩
  have hW2:=hW1.sameT s2 t2
  have hro2:=hW2.ro
  walk_at "x"
  refine zcw (fun i σ' H'=>∃f8:Option V,σ'=[some (.ref X.h),some (.ref X.ro),some (.ref X.lp),some (.ref X.ru),some (.ref X.mv),some (.ref r),f6,f7,f8]/\Same H2 H') ⟨_,rfl,Same.refl _⟩ ?_ ?_
  ·rintro i σ' H3 hi ⟨f8,rfl,e3⟩
   rw[show((0:Int)+(i:Int))=(i:Int) by omega]
   have hW3:=hW2.same e3
   obtain⟨dx3,hh3⟩:=hW3.hc.ob
   obtain⟨⟨dxb3,hbk3⟩,xs3,hd3,hI3⟩:=id hW3.hn.bk
   have hro3:=hW3.ro
   obtain⟨a,ha⟩:=zN (show i<as.length by omega)
   obtain⟨t,ht⟩:=zN (show i<ts.length by omega)
   obtain⟨x,hx1,hx2⟩:=hI3.getI ht
   have hra:=hW3.dr.2.2 i a t ha ht
   have hat:atI (as.map V.ref) (i:Int)=some (.ref a):=zbL (by rw[yg,ha];rfl)
   walk_at "x"
   refine zK ?_
   refine⟨X.h,dx3,dxb3,X.d,X.A,X.own,_,_,_,(i:Int),xs3,rfl,hh3,hbk3,hd3,.inl ⟨by omega,.ref x,by rw[yx];exact hx1,?_⟩⟩
   walk_at "x"
   refine zkb hra fun p H4 fp e4 hp=>?_
   refine zjM (e4.at hx2) hp (hW.uk t (yp ht)).lay ?_
   walk_at "x"
   exact⟨_,rfl,e3.trans e4⟩
  ·rintro σ' H3 ⟨f8,rfl,e3⟩
   have hW3:=hW2.same e3
   have hro3:=hW3.ro
   walk_at "x"
   rename_i l H4 fl e4 hl4
   refine zK ?_
   refine⟨H0,X,P,L,L,ts,ts,as,zs,l,rfl,hW3.same e4,hz,htl,.inl ⟨_,hl4,by rw[hwl,hal],fun H5 e5=>⟨_,4,rfl,.inr (.inr (.inr ⟨rfl,rfl⟩)),fun r6 H6 e6 hr6=>?_⟩⟩⟩
   walk_at "x"
   refine zad (by first | decide | simp) fun p7 H7 fp7 e7 hp7=>?_
   refine zeu (e7.at hr6) hp7 za3 (za8 4) ?_
   have e37:=e3.trans (e4.trans (e5.trans (e6.trans e7)))
   exact q _ (e1.t.trans (s2.trans e37.t)) (TbW.same e37 t2)
theorem zgh(T:Txt K mg):FnOk P w K mg base (CXF P w) 3 T.d__law_deed.a T.d__law_deed.fd ["_law_script", "_law_at", "_law_many", "_law_wares"] (zjH K):=by
 refine T.d__law_deed.F.okN sc__law_deed (fun vs H Q E h=>?_) (fun cdv A outer s H vs Q E hr h=>?_)
 ·obtain⟨a,ns,z,n,k,rfl,_⟩:=h;rfl
 obtain⟨a,ns,z,n,k,rfl,hS,z0,z1,n0,n1,k0,k1,q⟩:=h
 refine⟨_,(zd (zw (i:=4) sc__law_deed.nd rfl (Or.inl rfl) (zm (zA (base:=base) T) (hr.mono (by decide)) rfl T.d__law_draw.m T.d__law_draw.F.kp T.d__law_draw.b .nil (zu zt) (za (pv 0) (za (pv 1) (za (pv 2) zb)))))
 (zd (zw (i:=5) sc__law_deed.nd rfl (Or.inl rfl) (zo zba (zo (show OpR _ (binaryOp .Add) (zF K)from zy) (zo (show OpR _ (binaryOp .Add) (zF K)from zy) (pv 4) zc) (zm (zA (base:=base) T) (hr.mono (by decide)) rfl T.d__law_draw.m T.d__law_draw.F.kp T.d__law_draw.b .nil (zu zt) (za (pv 0) (za (zo (show OpR _ (binaryOp .Add) (zF K)from zy) (pv 1) zc) (za (zo zaC (pv 2) zc) zb))))) (pv 2)))
 (zd (zw (i:=6) sc__law_deed.nd rfl (Or.inl rfl) (zo (show OpR _ (binaryOp .Add) (zF K)from zy) zc (zm (zA (base:=base) T) (hr.mono (by decide)) rfl T.d__law_draw.m T.d__law_draw.F.kp T.d__law_draw.b .nil (zu zt) (za (pv 0) (za (zo (show OpR _ (binaryOp .Add) (zF K)from zy) (pv 1) zc) (za zc zb))))))
 (zav (zE (zk (show OpR _ (compareOp .Eq) (zX K)from zR hr.units) (zm (zA (base:=base) T) (hr.mono (by decide)) rfl T.d__law_draw.m T.d__law_draw.F.kp T.d__law_draw.b .nil (zu zt) (za (pv 0) (za (zo (show OpR _ (binaryOp .Add) (zF K)from zy) (pv 1) zc) (za zc zb)))) zc (nomark _))
 (ze (zw (i:=6) sc__law_deed.nd rfl (Or.inl rfl) (zo (show OpR _ (binaryOp .Add) (zF K)from zy) zc (zm (za1 (base:=base) T) (hr.mono (by decide)) rfl T.d__law_great.m T.d__law_great.F.kp T.d__law_great.b .nil (zu zt) (za (pv 0) (za (zo (show OpR _ (binaryOp .Add) (zF K)from zy) (pv 1) zc) (za (zo zdg zc zc) zb)))))))
 zr)
 (zd (zw (i:=7) sc__law_deed.nd rfl (Or.inl rfl) (zai (za zv (za (pv 4) (za (pv 5) (za (zm (zA (base:=base) T) (hr.mono (by decide)) rfl T.d__law_draw.m T.d__law_draw.F.kp T.d__law_draw.b .nil (zu zt) (za (pv 0) (za (zo (show OpR _ (binaryOp .Add) (zF K)from zy) (pv 1) zc) (za (pv 3) zb)))) (za (pv 6) zb)))))))
 (zd (zw (i:=7) sc__law_deed.nd rfl (Or.inl rfl) (zo (show OpR _ (binaryOp .Add) (zF K)from zy) (pv 7) (zai (za (zo (show OpR _ (binaryOp .Add) (zF K)from zy) zc (zm (za1 (base:=base) T) (hr.mono (by decide)) rfl T.d__law_great.m T.d__law_great.F.kp T.d__law_great.b .nil (zu zt) (za (pv 0) (za (zo (show OpR _ (binaryOp .Add) (zF K)from zy) (pv 1) zc) (za (zo zdg zc zc) zb))))) (za (zm (zA (base:=base) T) (hr.mono (by decide)) rfl T.d__law_draw.m T.d__law_draw.F.kp T.d__law_draw.b .nil (zu zt) (za (pv 0) (za (zo (show OpR _ (binaryOp .Add) (zF K)from zy) (pv 1) zc) (za zc zb)))) (za (zm (zA (base:=base) T) (hr.mono (by decide)) rfl T.d__law_draw.m T.d__law_draw.F.kp T.d__law_draw.b .nil (zu zt) (za (pv 0) (za (zo (show OpR _ (binaryOp .Add) (zF K)from zy) (pv 1) zc) (za zc zb)))) zb))))))
 (zd (zw (i:=8) sc__law_deed.nd rfl (Or.inl rfl) (zm (zA (base:=base) T) (hr.mono (by decide)) rfl T.d__law_draw.m T.d__law_draw.F.kp T.d__law_draw.b .nil (zu zt) (za (pv 0) (za (zo (show OpR _ (binaryOp .Add) (zF K)from zy) (pv 1) zc) (za zc zb)))))
 (zav (zE (zk (show OpR _ (compareOp .Eq) (zX K)from zR hr.units) (pv 8) zc (nomark _))
 (ze (zaX (zh (show IxR _ (rIx K)from zf) (zai (za (zcL zca zc) (za (pv 2) zb))) (zm (zA (base:=base) T) (hr.mono (by decide)) rfl T.d__law_draw.m T.d__law_draw.F.kp T.d__law_draw.b .nil (zu zt) (za (pv 0) (za (zo (show OpR _ (binaryOp .Add) (zF K)from zy) (pv 1) zc) (za zc zb)))) (fun _ _=>rfl)) (zaW (pv 7) zc zU)))
 zr)
 (zav (zE (zk (show OpR _ (compareOp .Eq) (zX K)from zR hr.units) (pv 8) zc (nomark _))
 (ze (zaX (zh (show IxR _ (rIx K)from zf) (zai (za (pv 2) (za (pv 4) zb))) (zm (zA (base:=base) T) (hr.mono (by decide)) rfl T.d__law_draw.m T.d__law_draw.F.kp T.d__law_draw.b .nil (zu zt) (za (pv 0) (za (zo (show OpR _ (binaryOp .Add) (zF K)from zy) (pv 1) zc) (za zc zb)))) (fun _ _=>rfl)) (zaW (pv 7) zc zU)))
 zr)
 (zav (zE (PW.pt (zaf (zk (show OpR _ (compareOp .Eq) (zX K)from zR hr.units) (pv 8) zc (nomark _)) (zab (zk (show OpR _ (compareOp .Eq) (zX K)from zR hr.units) (pv 8) zc (nomark _)))))
 (ze (zaX (zcL zca zc) (zaW (pv 7) (zo (show OpR _ (binaryOp .Add) (zF K)from zy) zc (zm (zA (base:=base) T) (hr.mono (by decide)) rfl T.d__law_draw.m T.d__law_draw.F.kp T.d__law_draw.b .nil (zu zt) (za (pv 0) (za (zo (show OpR _ (binaryOp .Add) (zF K)from zy) (pv 1) zc) (za zc zb))))) zU)))
 zr)
 (ze (zD (pv 7))))))))))))),?_⟩
 refine zB (σ0:=[some (.ref a),some (.int z),some (.int n),some (.int k),none,none,none,none,none]) rfl ?_
 walk_at "x"
 rename_i p p0 p1 y y0 y1 u0 u00 u01
 refine zbb (fun σ' H'=>∃u:Int,σ'=[some (.ref a),some (.int z),some (.int n),some (.int k),some (.int p),some (.int ((p+1+y)%n)),some (.int u),none,none]/\1<=u/\u<=1000000/\H'=H) ?_ ?_
 ·walk_at "x"
  ·rename_i g g0 g1 v v0 v1
   exact⟨_,rfl,by omega,by omega,rfl⟩
  ·exact⟨_,rfl,by omega,by omega,rfl⟩
 rintro σ' H' ⟨u,rfl,hu0,hu1,rfl⟩
 walk_at "x"
 rename_i w w0 w1 l1 H1 fl1 e1 hl1 am am0 am1 dy dy0 dy1 rk rk0 rk1 l2 H2 fl2 e2 hl2
 refine zeC (e2.at hl1) hl2 (by show 8<=100000;decide) fun l H3 fl e3 hl=>?_
 have e03:=e1.trans (e2.trans e3)
 have hS3:SqL K H3 a (ns.map V.int):=hS.keep e03
 have fl0:H' l=none:=Same.none fl (e1.trans e2)
 have ht0:zam k ⟨p,(p+1+y)%n,w,u,1+am,dy,rk⟩:=⟨⟨w0,w1⟩,⟨hu0,hu1⟩,⟨by show 1<=1+am;omega,by show 1+am<=1000000000;omega⟩,⟨dy0,by show dy<=1000000;omega⟩,rk0,by show rk<=2;omega⟩
 generalize (p+1+y)%n=pq at *
 walk_at "x"
 rename_i wy wy0 wy1
 refine zbb (fun σ' Hx=>∃t:T7,σ'=[some (.ref a),some (.int z),some (.int n),some (.int k),some (.int p),some (.int pq),some (.int u),some (.ref l),some (.int wy)]/\Same H' Hx/\Hx l=some (.lst (.str "strike" :: zaE t))/\zam k t) ?_ ?_
 ·walk_at "x"
  ·rename_i hw l4 H4 fl4 e4 hl4 x x0 x1
   obtain⟨v,hv⟩:=zi8 (i:=-1) (j:=n) x0 x1
   have hl4':=e4.at hl
   walk_at "x"
   refine zaN hl4' (j:=1) rfl fun H5 b5 h5=>?_
   exact⟨⟨v,pq,w,u,1+am,dy,rk⟩,rfl,b5.same (e03.trans e4) fl0,h5,ht0⟩
  ·exact⟨⟨p,pq,w,u,1+am,dy,rk⟩,rfl,e03,hl,ht0⟩
 rintro σ' H4 ⟨t,rfl,e4,h4,ht⟩
 have hS4:SqL K H4 a (ns.map V.int):=hS.keep e4
 have h4':H4 l=some (.lst [.str "strike",.int t.p,.int t.q,.int t.w,.int t.u,.int t.a,.int t.y,.int t.r]):=h4
 clear h4 hl ht0 e03 hS3
 refine zbb (fun σ' Hx=>∃t:T7,σ'=[some (.ref a),some (.int z),some (.int n),some (.int k),some (.int p),some (.int pq),some (.int u),some (.ref l),some (.int wy)]/\Same H' Hx/\Hx l=some (.lst (.str "strike" :: zaE t))/\zam k t) ?_ ?_
 ·walk_at "x"
  ·rename_i hw l5 H5 fl5 e5 hl5 x x0 x1
   obtain⟨v,hv⟩:=zi8 (i:=n) (j:=p) x0 x1
   have hl5':=e5.at h4'
   walk_at "x"
   refine zaN hl5' (j:=2) rfl fun H6 b6 h6=>?_
   exact⟨⟨t.p,v,t.w,t.u,t.a,t.y,t.r⟩,rfl,b6.same (e4.trans e5) fl0,h6,ht⟩
  ·exact⟨t,rfl,e4,h4',ht⟩
 clear h4' ht
 rintro σ' H5 ⟨t,rfl,e5,h5,ht⟩
 have hS5:SqL K H5 a (ns.map V.int):=hS.keep e5
 have h5':H5 l=some (.lst [.str "strike",.int t.p,.int t.q,.int t.w,.int t.u,.int t.a,.int t.y,.int t.r]):=h5
 clear h5
 refine zbb (fun σ' Hx=>∃t:T7,σ'=[some (.ref a),some (.int z),some (.int n),some (.int k),some (.int p),some (.int pq),some (.int u),some (.ref l),some (.int wy)]/\Same H' Hx/\Hx l=some (.lst (.str "strike" :: zaE t))/\DOk k t) ?_ ?_
 ·walk_at "x"
  ·rename_i hwy x x0 x1
   have hx5:x=0\/x=1\/x=2\/x=3\/x=4:=by omega
   rcases hx5 with rfl | rfl | rfl | rfl | rfl
   ·refine zaN h5' (j:=3) rfl fun H6 b6 h6=>?_
    exact⟨⟨t.p,t.q,-1,t.u,t.a,t.y,t.r⟩,rfl,b6.same e5 fl0,h6,.inr (.inl (by show(-1:Int)<0;decide))⟩
   ·refine zaN h5' (j:=4) rfl fun H6 b6 h6=>?_
    exact⟨⟨t.p,t.q,t.w,-1,t.a,t.y,t.r⟩,rfl,b6.same e5 fl0,h6,.inr (.inr (.inl (by show(-1:Int)<0;decide)))⟩
   ·refine zaN h5' (j:=5) rfl fun H6 b6 h6=>?_
    exact⟨⟨t.p,t.q,t.w,t.u,-1,t.y,t.r⟩,rfl,b6.same e5 fl0,h6,.inr (.inr (.inr (.inl (by show(-1:Int)<0;decide))))⟩
   ·refine zaN h5' (j:=6) rfl fun H6 b6 h6=>?_
    exact⟨⟨t.p,t.q,t.w,t.u,t.a,-1,t.r⟩,rfl,b6.same e5 fl0,h6,.inr (.inr (.inr (.inr (.inl (by show(-1:Int)<0;decide)))))⟩
   ·refine zaN h5' (j:=7) rfl fun H6 b6 h6=>?_
    exact⟨⟨t.p,t.q,t.w,t.u,t.a,t.y,-1⟩,rfl,b6.same e5 fl0,h6,.inr (.inr (.inr (.inr (.inr (by show(-1:Int)<0;decide)))))⟩
  ·rename_i hwn hwy x x0 x1
   have hx5:x=0\/x=1\/x=2\/x=3\/x=4:=by omega
   rcases hx5 with rfl | rfl | rfl | rfl | rfl
   ·refine zaN h5' (j:=3) rfl fun H6 b6 h6=>?_
    exact⟨⟨t.p,t.q,-1,t.u,t.a,t.y,t.r⟩,rfl,b6.same e5 fl0,h6,.inr (.inl (by show(-1:Int)<0;decide))⟩
   ·refine zaN h5' (j:=4) rfl fun H6 b6 h6=>?_
    exact⟨⟨t.p,t.q,t.w,-1,t.a,t.y,t.r⟩,rfl,b6.same e5 fl0,h6,.inr (.inr (.inl (by show(-1:Int)<0;decide)))⟩
   ·refine zaN h5' (j:=5) rfl fun H6 b6 h6=>?_
    exact⟨⟨t.p,t.q,t.w,t.u,-1,t.y,t.r⟩,rfl,b6.same e5 fl0,h6,.inr (.inr (.inr (.inl (by show(-1:Int)<0;decide))))⟩
   ·refine zaN h5' (j:=6) rfl fun H6 b6 h6=>?_
    exact⟨⟨t.p,t.q,t.w,t.u,t.a,-1,t.r⟩,rfl,b6.same e5 fl0,h6,.inr (.inr (.inr (.inr (.inl (by show(-1:Int)<0;decide)))))⟩
   ·refine zaN h5' (j:=7) rfl fun H6 b6 h6=>?_
    exact⟨⟨t.p,t.q,t.w,t.u,t.a,t.y,-1⟩,rfl,b6.same e5 fl0,h6,.inr (.inr (.inr (.inr (.inr (by show(-1:Int)<0;decide)))))⟩
  ·exact⟨t,rfl,e5,h5',.inl ht⟩
 rintro σ' H6 ⟨t,rfl,e6,h6,ht⟩
 walk_at "x"
 exact q l H6 t fl0 e6 h6 ht
theorem zea(T:Txt K mg):FnOk P w K mg base (CXF P w) 3 T.d__law_short_of.a T.d__law_short_of.fd ["_law_rows", "_law_pledges", "_law_rule", "_law_moves_here", "_law_deed_here"] (ziC K T.c_House T.c_Book lP lQ):=by
 refine T.d__law_short_of.F.okN sc__law_short_of (fun vs H Q E h=>?_) (fun cdv A outer s H vs Q E hr h=>?_)
 ·obtain⟨H0,X,P,L,ts,as,zs,l,t,rfl,_⟩:=h;rfl
 obtain⟨H0,X,P,L,ts,as,zs,l,t,rfl,hW,hl,hm,ht,n9,k1,htl,q⟩:=h
 have hvl:((vec X.n L).map V.int).length=X.n:=by rw[ya,zJ]
 have hlp:=hW.lp
 have hmv:=hW.mv
 have hro:=hW.ro
 have hru:=hW.ru
 have hal:=hW.dr.2.1
 obtain⟨hw,c0,c1⟩:=id hW.hn.ok
 obtain⟨m0,hm0⟩:=zN (show 0<X.ms.length by have:=hW.ml;omega)
 have hat0:atI (X.ms.map V.ref) 0=some (.ref m0):=zaz (by omega) (by rw[yg];show(X.ms[0]?).map _=_;rw[hm0];rfl)
 have hm0r:=hW.mr.2 _ _ hm0
 have hml0:((vec X.k (X.F 0)).map V.int).length=X.k:=by rw[ya,zJ]
 have hl':H l=some (.lst [.str "strike",.int t.p,.int t.q,.int t.w,.int t.u,.int t.a,.int t.y,.int t.r]):=hl
 have hasl:(as.map V.ref).length<=1000:=by rw[ya];omega
 refine⟨_,(zd (zw (i:=5) sc__law_short_of.nd rfl (Or.inl rfl) (zm (zbg (base:=base) T) (hr.mono (by decide)) rfl T.d__law_positions.m T.d__law_positions.F.kp T.d__law_positions.b .nil (zu zt) (za (zo (show OpR _ (binaryOp .Add) (zF K)from zy) (pv 0) (zai (za (zo (show OpR _ (binaryOp .Add) (zF K)from zy) (za6 (show SlR _ (zcg K)from zbM) (pv 4) (zbp zc) zbu) (zai (za zv zb))) zb))) (za (zp (show CallR _ _ (zac K)from zI) rfl T.z_len BT.len (za (pv 1) zb)) (za (zp (show CallR _ _ (zac K)from zI) rfl T.z_len BT.len (za (zh (show IxR _ (rIx K)from zf) (pv 3) zc (fun _ _=>rfl)) zb)) zb)))))
 (zd (zb4 (i:=6) sc__law_short_of.nd rfl rfl rfl (show PI _ _ _ (zaJ K _)from zaj (pv 5)) (zP (Ni:=["_law_position", "_law_rule", "_law_moves_here"]) (caps:=[none,some 2,some 3]) (by rfl)) (fun S _ _ _ _ _=>(z4 (gi:=0) S (Or.inl rfl) rfl)) (fun _ _ _ _ _=>zat) (fun _ _ _ _ _=>(zm (zci (base:=base) T) (hr.mono (by decide)) rfl T.d__law_need.m T.d__law_need.F.kp T.d__law_need.b .nil (zu zt) (za (pv 0) (za (pv 1) (za (pv 2) zb))))))
 (zd (zb4 (i:=7) sc__law_short_of.nd rfl rfl rfl (show PI _ _ _ (zaJ K _)from zaj (pv 1)) (zP (Ni:=["_law_pledge_here"]) (caps:=[none]) (by rfl)) (fun S _ _ _ _ _=>(z4 (gi:=0) S (Or.inl rfl) rfl)) (fun _ _ _ _ _=>zat) (fun _ _ _ _ _=>zc))
 (zd (zaS PassesOwn.never rfl (show PI _ _ _ (zaJ K _)from zaj (zai (za (zh (show IxR _ (rIx K)from zf) (pv 4) zc (fun _ _=>rfl)) (za (zh (show IxR _ (rIx K)from zf) (pv 4) zc (fun _ _=>rfl)) zb)))) (zal (i:=8) sc__law_short_of.nd rfl (Or.inl rfl))
 (ze (zaX (zp (zbR rfl) rfl T.z_max BT.max (za zc (za (zo zaC (zo zaC zc (zo zdy (zo zaC zc (zh (show IxR _ (rIx K)from zf) (zh (show IxR _ (rIx K)from zf) (pv 6) (pv 8) (fun _ _=>rfl)) zc (fun _ _=>rfl))) (zh (show IxR _ (rIx K)from zf) (zh (show IxR _ (rIx K)from zf) (pv 6) (pv 8) (fun _ _=>rfl)) zc (fun _ _=>rfl)))) (zh (show IxR _ (rIx K)from zf) (pv 1) (pv 8) (fun _ _=>rfl))) zb))) (zaW (pv 7) (pv 8) zU))))
 (ze (zD (pv 7))))))),?_⟩
 refine zB (σ0:=[some (.ref X.ro),some (.ref X.lp),some (.ref X.ru),some (.ref X.mv),some (.ref l),none,none,none,none]) rfl ?_
 walk_at "x"
 rename_i d1 H1 fd1 e1 hd1 s1 H2 fs1 e2 hs1
 have hd2:H2 d1=some (.lst [.int t.p,.int t.q,.int t.w,.int t.u,.int t.a,.int t.y,.int t.r]):=e2.at hd1
 refine zeC hd2 hs1 (by show 8<=100000;decide) fun d3 H3 fd3 e3 hd3=>?_
 have e03:=e1.trans (e2.trans e3)
 have hd3':H3 d3=some (.lst (zaP (t,("standing" : Str)))):=hd3
 have hro3:=e03.at hro
 have hlp3:=e03.at hlp
 have hmv3:=e03.at hmv
 walk_at "x"
 rename_i d4 H4 fd4 e4 hd4
 refine zeC (e4.at hro3) hd4 (by rw[ya];show _+1<=_;omega) fun d5 H5 fd5 e5 hd5=>?_
 have e05:=e03.trans (e4.trans e5)
 have hlp5:=e05.at hlp
 have hmv5:=e05.at hmv
 have hm05:=e05.at hm0r
 have hdr:DRows H5 (as++[d3]) (ts++[(t,("standing" : Str))]):=DRows.app (hW.dr.same e05) (fun z=>(hW.dr.same (e1.trans e2)).fresh fd3 z) ((e4.trans e5).at hd3')
 have huk:∀u∈ts++[(t,("standing" : Str))],KD8 X.n X.k u:=fun u hu=>(yu.mp hu).elim (hW.uk u) fun z=>yt.mp z▸KD8.of hm ht
 walk_at "x"
 refine zK ?_
 refine⟨d5,X.n,X.k,ts++[(t,("standing" : Str))],as++[d3],by rw[hvl,hml0],by rw[yw];exact hd5,hdr,huk,by omega,by omega,by omega,by have:=hW.hn.k9;omega,by rw[yk];show _+1<=_;omega,fun r H6 ps fr e6 hr6 hpl hR6 hfp=>?_⟩
 rw[yx]at hpl hR6
 have e06:=e05.trans e6
 have hru6:=e06.at hru
 have hmv6:=e06.at hmv
 have hmr6:=hW.mr.same e06
 have hbd:∀i:Nat,Internal.Within 1000000000 X.k (z7 (ts++[(t,("standing" : Str))]) (i:Int)):=fun i j _=>by
  have:=zb5 (ts:=ts++[(t,("standing" : Str))]) (fun u hu=>⟨(huk u hu).u0,(huk u hu).u1⟩) (i:Int) j
  rw[yk]at this
  have h1:[(t,("standing" : Str))].length=1:=rfl
  omega
 have hfw:WithinR 1000000000 X.ms.length X.k X.F:=fun i' hi' j hj=>by have:=hW.hn.fw i' (by rw[<- hW.ml];exact hi') j hj;omega
 walk_at "x"
 refine zah (zaO (K:=K) (a:=r) (xs:=ps.map V.ref)) (fun H' e=>SqL.of (e.at hr6)) rfl (fun i vs H'=>∃(rs:List Addr) (A B:Nat->Int),vs=rs.map V.ref/\rs.length=i/\∀(j:Nat) c,rs[j]?=some c->H' c=some (.tup [.int (A j),.int (B j)])/\IsNd X.w (zaa (ts++[(t,("standing" : Str))]) (j:Int) X.k X.F) X.bs.length X.c (A j) (B j)) (fun H' _=>⟨[],fun _=>0,fun _=>0,rfl,rfl,fun j c h=>nomatch h⟩) ?_ ?_
 ·rintro i x D vs o H7 H8 hi hD e7 hv hvl ⟨rs,A',B',rfl,hrl,hAB⟩ e8 hx
  rw[ya]at hi
  obtain⟨b,hb⟩:=zN hi
  have ex:x=.ref b:=by rw[yg,hb]at hx;exact(yn hx).symm
  subst ex
  have e78:=e7.trans e8
  have hb8:=e78.at (hR6.2 _ _ hb)
  have hru8:=e78.at hru6
  have hmv8:=e78.at hmv6
  have hv8:=e8.at hv
  have hcs:(rs.map V.ref).length<=1000:=by rw[ya];omega
  walk_at "x"
  refine zK ?_
  refine⟨b,X.ru,X.mv,X.w,X.c,X.ms,X.k,z7 (ts++[(t,("standing" : Str))]) (i:Int),X.F,1000000000,rfl,hb8,hru8,hmv8,hmr6.same e78,hbd i,hfw,by decide,hW.hn.k9,by rw[hW.ml];exact hW.hn.n64,by rw[hW.ml];exact hW.hn.ok,fun rb H9 a0 b0 frb e9 hrb hnd=>?_⟩
  rw[hW.ml]at hnd
  have hv9:=e9.at hv8
  walk_at "x"
  rename_i H10 b10 h10
  refine⟨⟨_,rfl⟩,b10.same (e78.trans e9) hD,_,h10,by rw[yk];exact yc hvl,rs++[rb],fun j=>if j=i then a0 else A' j,fun j=>if j=i then b0 else B' j,by rw[yw];rfl,by rw[yk,hrl];rfl,fun j c hc=>?_⟩
  dsimp only
  rw[yao]at hc
  split at hc
  ·rename_i hj
   have hne:j≠i:=by omega
   rw[if_neg hne,if_neg hne]
   exact⟨b10.tup (e9.at (e8.at (hAB j c hc).1)),(hAB j c hc).2⟩
  ·rename_i hj
   have ej:j-rs.length=0:=by
    cases e:j-rs.length with
    | zero=>rfl
    | succ m=>rw[e]at hc;cases hc
   have eji:j=i:=by omega
   rw[ej]at hc
   cases hc
   subst eji
   rw[if_pos rfl,if_pos rfl]
   exact⟨b10.tup hrb,hnd⟩
 rintro nl H7 vs fnl e7 hnl _ ⟨rs,A',B',rfl,hrl,hAB⟩
 rw[ya,hpl]at hrl
 have e07:=e06.trans e7
 have hlp7:=e07.at hlp
 have hl7:=e07.at hl'
 obtain⟨⟨p0,p1⟩,⟨q0,q1⟩,pq⟩:=id hm
 obtain⟨rp,hrp⟩:=zN (show t.p.toNat<rs.length by omega)
 obtain⟨rq,hrq⟩:=zN (show t.q.toNat<rs.length by omega)
 have hatp:atI (rs.map V.ref) t.p=some (.ref rp):=zaz p0 (by rw[yg,hrp];rfl)
 have hatq:atI (rs.map V.ref) t.q=some (.ref rq):=zaz q0 (by rw[yg,hrq];rfl)
 obtain⟨hp7,hnp⟩:=hAB _ _ hrp
 obtain⟨hq7,hnq⟩:=hAB _ _ hrq
 walk_at "x"
 rename_i ms H8 fms e8 hms pr H9 fpr e9 hpr
 rw[hvl]at hms
 have e09:=e07.trans (e8.trans e9)
 have hL9:=e09.at hlp
 have hnl9:=(e8.trans e9).at hnl
 have hp9:=(e8.trans e9).at hp7
 have hq9:=(e8.trans e9).at hq7
 have fms0:H ms=none:=Same.none fms e07
 have b0:=hnp.b0
 have b1:=hnp.b1
 have b2:=hnq.b0
 have b3:=hnq.b1
 have bs1:sz (B' t.p.toNat)<=9000:=yb (zbc (n:=20) (by omega)) (by decide)
 have bs2:sz (B' t.q.toNat)<=9000:=yb (zbc (n:=20) (by omega)) (by decide)
 obtain⟨vp,hvp⟩:∃v,v=zar (zbz (A' t.p.toNat) (B' t.p.toNat)-L t.p.toNat):=⟨_,rfl⟩
 obtain⟨vq,hvq⟩:∃v,v=zar (zbz (A' t.q.toNat) (B' t.q.toNat)-L t.q.toNat):=⟨_,rfl⟩
 have nem:∀{x:Addr} {o:HO},H7 x=some o->x≠ms:=fun {x o} h=>zC h fms
 have n1:=nem hnl
 have n2:=nem hlp7
 have n3:pr≠ms:=zbK fpr hms
 have pn:t.p.toNat≠t.q.toNat:=by omega
 have hf0:(vec X.n fun _=>(0:Int))=vec X.n fun i=>if 1<0/\i=t.q.toNat then vq else if 0<0/\i=t.p.toNat then vp else 0:=zao fun i _=>by rw[if_neg (by omega),if_neg (by omega)]
 refine zc5 (xs:=[.int t.p,.int t.q]) (fun j σ' H'=>∃f8:Option V,σ'=[some (.ref X.ro),some (.ref X.lp),some (.ref X.ru),some (.ref X.mv),some (.ref l),some (.ref r),some (.ref nl),some (.ref ms),f8]/\Same H7 H'/\H' pr=some (.lst [.int t.p,.int t.q])/\H' ms=some (.lst ((vec X.n fun i=>if 1<j/\i=t.q.toNat then vq else if 0<j/\i=t.p.toNat then vp else 0).map V.int))) ⟨_,rfl,e8.trans e9,hpr,by rw[e9.at hms,hf0]⟩ ?_ ?_ ?_
 ·rintro j σ' H' _ ⟨_,_,_,g,_⟩;exact SqL.of g
 ·rintro j x σ' H10 hx ⟨f8,rfl,e10,hpr10,h10⟩
  have hj:j<2:=(yl.mp hx).1
  have hnl10:=e10.at hnl
  have hL10:=e10.at hlp7
  have hp10:=e10.at hp7
  have hq10:=e10.at hq7
  obtain rfl | rfl:j=0\/j=1:=by omega
  ·have ex:x=.int t.p:=(yn hx).symm
   subst ex
   walk_at "x"
   rename_i H11 b11 h11
   refine⟨_,rfl,b11.same e10 fms,b11.lst hpr10 n3,?_⟩
   rw[h11,zao fun i hi=>?_]
   by_cases h:i=t.p.toNat
   ·rw[if_pos h,if_neg (show ¬(1<0+1/\i=t.q.toNat) by omega),if_pos (show 0<0+1/\i=t.p.toNat from⟨by omega,h⟩),hvp];rfl
   ·rw[if_neg h,if_neg (by omega),if_neg (by omega),if_neg (by omega),if_neg (by omega)]
  ·have ex:x=.int t.q:=(yn hx).symm
   subst ex
   walk_at "x"
   rename_i H11 b11 h11
   refine⟨_,rfl,b11.same e10 fms,b11.lst hpr10 n3,?_⟩
   rw[h11,zao fun i hi=>?_]
   by_cases h:i=t.q.toNat
   ·rw[if_pos h,if_pos (show 1<1+1/\i=t.q.toNat from⟨by omega,h⟩),hvq];rfl
   ·rw[if_neg h,if_neg (show ¬(1<1/\i=t.q.toNat) by omega),if_neg (show ¬(1<1+1/\i=t.q.toNat)from fun z=>h z.2)]
    by_cases h':i=t.p.toNat
    ·rw[if_pos (show 0<1/\i=t.p.toNat from⟨by omega,h'⟩),if_pos (show 0<1+1/\i=t.p.toNat from⟨by omega,h'⟩)]
    ·rw[if_neg (show ¬(0<1/\i=t.p.toNat)from fun z=>h' z.2),if_neg (show ¬(0<1+1/\i=t.p.toNat)from fun z=>h' z.2)]
 ·rintro σ' H10 ⟨f8,rfl,e10,hpr10,h10⟩
  walk_at "x"
  have l2:[V.int t.p,V.int t.q].length=2:=rfl
  refine q ms H10 _ _ _ fms0 (e07.trans e10) h10 (Miss.of (ap:=A' t.p.toNat) (bp:=B' t.p.toNat) (aq:=A' t.q.toNat) (bq:=B' t.q.toNat) ?_ ?_ ?_ ?_ fun i h1 h2=>?_)
  ·rw[show((t.p.toNat:Nat):Int)=t.p by omega]at hnp;exact hnp
  ·rw[show((t.q.toNat:Nat):Int)=t.q by omega]at hnq;exact hnq
  ·rw[if_neg (fun z=>pn z.2),if_pos ⟨by rw[l2];decide,rfl⟩,hvp]
  ·rw[if_pos ⟨by rw[l2];decide,rfl⟩,hvq]
  ·rw[if_neg (fun z=>h2 z.2),if_neg (fun z=>h1 z.2)]
theorem ze1(T:Txt K mg):FnOk P w K mg base (CXF P w) 9 T.d__law_struck.a T.d__law_struck.fd ["_law_house", "_law_rows", "_law_pledges", "_law_rule", "_law_moves_here", "_law_deed_here"] (zhU K T.c_House T.c_Book lP lQ):=by
 refine T.d__law_struck.F.okN sc__law_struck (fun vs H Q E h=>?_) (fun cdv A outer s H vs Q E hr h=>?_)
 ·obtain⟨H0,X,P,L,ts,as,zs,l,t,B,rfl,_⟩:=h;rfl
 obtain⟨H0,X,P,L,ts,as,zs,l,t,B,rfl,hW,hl,hlm,hD,n9,n2,k1,htl,hB,B0,B1,hP,q⟩:=h
 have hvl:((vec X.n L).map V.int).length=X.n:=by rw[ya,zJ]
 have hlp:=hW.lp
 have hl':H l=some (.lst [.str "strike",.int t.p,.int t.q,.int t.w,.int t.u,.int t.a,.int t.y,.int t.r]):=hl
 have hsz:∀i,i<X.n->sz (L i)<=60000:=fun i hi=>by
  have:=hB i hi
  exact yb (sz200 (by omega) (by omega)) (by decide)
 have hBm:BdF X.n L (B+1000000000):=hB.mono (by omega)
 have cl_House:=T.cl_House
 refine⟨_,(zd (zw (i:=6) sc__law_struck.nd rfl (Or.inl rfl) (zp (show CallR _ _ (zac K)from zI) rfl T.z_len BT.len (za (pv 2) zb)))
 (zd (zE (PW.pt (zaf (zk zas (zp (zjo rfl) rfl T.z_min BT.min (za (zh (show IxR _ (rIx K)from zf) (pv 5) zc (fun _ _=>rfl)) (za (zh (show IxR _ (rIx K)from zf) (pv 5) zc (fun _ _=>rfl)) zb))) zc (nomark _)) (zaf (zk zeH (zp (zbR rfl) rfl T.z_max BT.max (za (zh (show IxR _ (rIx K)from zf) (pv 5) zc (fun _ _=>rfl)) (za (zh (show IxR _ (rIx K)from zf) (pv 5) zc (fun _ _=>rfl)) zb))) (pv 6) (nomark _)) (zab (zk (show OpR _ (compareOp .Eq) (zX K)from zR hr.units) (zh (show IxR _ (rIx K)from zf) (pv 5) zc (fun _ _=>rfl)) (zh (show IxR _ (rIx K)from zf) (pv 5) zc (fun _ _=>rfl)) (nomark _))))))
 (ze (zD (zbd (show OpR _ (compareOp .Eq) (zX K)from zR hr.units) (zm (zaG (base:=base) T) (hr.mono (by decide)) rfl T.d__law_found.m T.d__law_found.F.kp T.d__law_found.b .nil (zu zt) (za (pv 0) (za (pv 5) zb))) (z6 (za zv (za zv zb))) (nomark _))))
 zr)
 (zd (zE (zk zas (zp (show CallR _ _ (zfR K)from ziF rfl) rfl T.z_min BT.min (za (za6 (show SlR _ (zcg K)from zbM) (pv 5) (zbp zc) zbu) zb)) zc (nomark _))
 (ze (zD (zbd (show OpR _ (compareOp .Eq) (zX K)from zR hr.units) (zm (zaG (base:=base) T) (hr.mono (by decide)) rfl T.d__law_found.m T.d__law_found.F.kp T.d__law_found.b .nil (zu zt) (za (pv 0) (za (pv 5) zb))) (z6 (za zv (za zv zb))) (nomark _))))
 zr)
 (zd (zw (i:=7) sc__law_struck.nd rfl (Or.inl rfl) (zm (zea (base:=base) T) (hr.mono (by decide)) rfl T.d__law_short_of.m T.d__law_short_of.F.kp T.d__law_short_of.b .nil (zu zt) (za (pv 1) (za (pv 2) (za (pv 3) (za (pv 4) (za (pv 5) zb)))))))
 (zav (zE (zk zbi (zp (show CallR _ _ (zez K)from zde rfl) rfl T.z_max BT.max (za (pv 7) zb)) zc (nomark _))
 (zd (zE (PW.pt (zaf (zk (show OpR _ (compareOp .NotEq) (zbf K)from zbw hr.units) (zm (zaG (base:=base) T) (hr.mono (by decide)) rfl T.d__law_found.m T.d__law_found.F.kp T.d__law_found.b .nil (zu zt) (za (pv 0) (za (pv 5) zb))) (z6 (za zv (za zv zb))) (nomark _)) (zab (zce (show PT _ _ (za0 K _)from zV (zm (zcC (base:=base) T) (hr.mono (by decide)) rfl T.d__law_stands.m T.d__law_stands.F.kp T.d__law_stands.b .nil (zu zt) (za (pv 0) (za (pv 1) (za (pv 2) (za (pv 3) (za (pv 4) zb)))))) (fun _=>rfl))))))
 (ze (zD za4))
 zr)
 (zd (zE (zk zbi (zp (show CallR _ _ (zez K)from zde rfl) rfl T.z_max BT.max (za (pv 7) zb)) (zo zdg zc zc) (nomark _))
 (ze (zD za4))
 zr)
 (zd (zw (i:=8) sc__law_struck.nd rfl (Or.inl rfl) (show PE _ _ (tBM K _ _ _ _)from zbA yB PySem.F.slot_list_index PySem.F.type_list_index zkw (pv 7) (za (zp (show CallR _ _ (zez K)from zde rfl) rfl T.z_max BT.max (za (pv 7) zb)) zb)))
 (zd (zaS PassesOwn.never rfl (show PI _ _ _ (zaJ K _)from zaj (zai (za (zh (show IxR _ (rIx K)from zf) (pv 5) zc (fun _ _=>rfl)) (za (zh (show IxR _ (rIx K)from zf) (pv 5) zc (fun _ _=>rfl)) zb)))) (zal (i:=9) sc__law_struck.nd rfl (Or.inl rfl))
 (zd (zL (zQ (pv 0) T.cl_House T.d_House_put.mt (zgx (base:=base) T) (hr.mono (by decide)) T.d_House_put.b .nil (zu zt) (za (pv 9) (za (zh (show IxR _ (rIx K)from zf) (pv 7) (pv 9) (fun _ _=>rfl)) zb))))
 (ze (zL (zQ (pv 0) T.cl_House T.d_House_lay.mt (zds (base:=base) T) (hr.mono (by decide)) T.d_House_lay.b .nil (zu zt) (za (pv 9) (za (zo zaC (zh (show IxR _ (rIx K)from zf) (pv 7) (pv 9) (fun _ _=>rfl)) (zbs zja rfl T.z_int BT.int (za (zbd (show OpR _ (compareOp .Eq) (zX K)from zR hr.units) (pv 9) (pv 8) (nomark _)) zb))) zb)))))))
 (zd (zE (zk (show OpR _ (compareOp .NotEq) (zbf K)from zbw hr.units) (zm (zaG (base:=base) T) (hr.mono (by decide)) rfl T.d__law_found.m T.d__law_found.F.kp T.d__law_found.b .nil (zu zt) (za (pv 0) (za (pv 5) zb))) (z6 (za zv (za zv zb))) (nomark _))
 (ze (zD za4))
 zr)
 (zd (zL (zQ (pv 0) T.cl_House T.d_House_lay.mt (zds (base:=base) T) (hr.mono (by decide)) T.d_House_lay.b .nil (zu zt) (za (pv 8) (za zc zb))))
 (ze (zaS PassesOwn.never rfl (zaB rfl T.z_range (za (pv 6) zb)) (zal (i:=9) sc__law_struck.nd rfl (Or.inl rfl))
 (ze (zaX (zo (show OpR _ (binaryOp .Add) (zF K)from zy) (zh (show IxR _ (rIx K)from zf) (pv 2) (pv 9) (fun _ _=>rfl)) (zh (show IxR _ (rIx K)from zf) (pv 7) (pv 9) (fun _ _=>rfl))) (zaW (pv 2) (pv 9) zU)))))))))))
 zr)
 (zd (zL (show PE _ _ (tBM K _ _ _ _)from zbA yB yE yF zaA (pv 1) (za (zo (show OpR _ (binaryOp .Add) (zF K)from zy) (za6 (show SlR _ (zcg K)from zbM) (pv 5) (zbp zc) zbu) (zai (za zv zb))) zb)))
 (zd (zw (i:=10) sc__law_struck.nd rfl (Or.inl rfl) (zm (zaG (base:=base) T) (hr.mono (by decide)) rfl T.d__law_found.m T.d__law_found.F.kp T.d__law_found.b .nil (zu zt) (za (pv 0) (za (pv 5) zb))))
 (ze (zD (zmG (zbd (show OpR _ (compareOp .Eq) (zX K)from zR hr.units) (pv 10) (z6 (za zv (za (zo zaC (zp (show CallR _ _ (zac K)from zI) rfl T.z_len BT.len (za (pv 1) zb)) zc) zb))) (nomark _)) (zmR (show PE _ _ (zhM K _)from zlR (zp (show CallR _ _ (zaw K)from zap) rfl T.z_isinstance BT.isinstance (za (zh (show IxR _ (rIx K)from zf) (pv 10) zc (fun _ _=>rfl)) (za (zcF (v:=.ty "bool") rfl T.z_bool BT.bool rfl) zb))))))))))))))),?_⟩
 refine zB (σ0:=[some (.ref X.h),some (.ref X.ro),some (.ref X.lp),some (.ref X.ru),some (.ref X.mv),some (.ref l),none,none,none,none,none]) rfl ?_
 by_cases hm:zaI (X.n:Int) t.p t.q
 ·obtain⟨⟨p0,p1⟩,⟨q0,q1⟩,pq⟩:=id hm
  walk_at "x"
  all_goals first | (exfalso;omega) | skip
  rename_i hc1 hc2 d1 H1 fd1 e1 hd1
  clear hc1 hc2
  have hd1':H1 d1=some (.lst ([t.w,t.u,t.a,t.y,t.r].map V.int)):=hd1
  refine zK ?_
  refine zim (.of hd1') (by simp) fun x hx hmin=>?_
  have hW1:=hW.same e1
  have hl1:=e1.at hl
  by_cases ht:zam (X.k:Int) t
  ·obtain⟨⟨w0,w1⟩,⟨u0,u1⟩,⟨a0,a1⟩,⟨y0,y1⟩,r0,r1⟩:=id ht
   have hx0:¬x<0:=by
    simp only[ye,yy,or_false]at hx
    omega
   walk_at "x"
   refine zK ?_
   refine⟨H0,X,P,L,ts,as,zs,l,t,rfl,hW1,hl1,hm,ht,n9,k1,by omega,fun ms H2 M cp cq fms e2 hms hM=>?_⟩
   have hW2:=hW1.same e2
   have fm:=hW1.fresh fms
   have hl2:=e2.at hl1
   have hZ:=(hW2.more (l:=l) hl2 hlm).more (l:=ms) hms fm.1
   have hMp:=hM.p
   have hMq:=hM.q
   have hMo:=hM.o
   have mp0:0<=M t.p.toNat:=by rw[hMp];unfold zar;split<;>omega
   have mq0:0<=M t.q.toNat:=by rw[hMq];unfold zar;split<;>omega
   have hne:vec X.n M≠[]:=fun z=>by have:=congrArg List.length z;rw[zJ]at this;have:X.n=0:=this;omega
   have memv:∀{i:Nat},i<X.n->M i∈vec X.n M:=fun {i} hi=>yp (zaL hi)
   have hml:(vec X.n M).length=X.n:=zJ ..
   have maxu:∀{x y:Int},x∈vec X.n M->(∀z∈vec X.n M,z<=x)->y∈vec X.n M->(∀z∈vec X.n M,z<=y)->y=x:=fun {x y} h1 h2 h3 h4=>Int.le_antisymm (h2 y h3) (h4 x h1)
   have pn:t.p.toNat≠t.q.toNat:=by omega
   walk_at "x"
   rw[hvl]
   refine zbb (fun σ' H'=>∃(f8 f9:Option V) (P' L':Nat->Int),σ'=[some (.ref X.h),some (.ref X.ro),some (.ref X.lp),some (.ref X.ru),some (.ref X.mv),some (.ref l),some (.int (X.n:Int)),some (.ref ms),f8,f9,none]/\KW K T.c_House T.c_Book lP lQ H0 X H' P' L' L' ts ts as ((l,.str "strike" :: zaE t) :: zs)/\BdF X.n L' (B+1000000000)/\(∀i,i<X.n->0<=P' i)/\¬L' t.p.toNat<cp/\¬L' t.q.toNat<cq) ?_ ?_
   ·walk_at "x"
    refine zK ?_
    refine zgi (.of hms) hne fun x1 hx1 hmx1=>?_
    walk_at "x"
    ·rename_i hpos
     obtain⟨j,hj,hjf⟩:=zf3 hx1
     have hjn:j<X.n:=by have:=(yl.mp hj).1;rwa [hml]at this
     have hMj:M j=x1:=by rw[zaL hjn]at hj;exact yn hj
     have hjpq:j=t.p.toNat\/j=t.q.toNat:=by
      by_cases c1:j=t.p.toNat
      ·exact .inl c1
      ·by_cases c2:j=t.q.toNat
       ·exact .inr c2
       ·have:=hMo j c1 c2;omega
     have hlack:L t.p.toNat<cp\/L t.q.toNat<cq:=by
      rcases hjpq with c | c
      ·rw[c,hMp]at hMj;unfold zar at hMj;split at hMj<;>omega
      ·rw[c,hMq]at hMj;unfold zar at hMj;split at hMj<;>omega
     refine zK ?_
     refine zgE hZ hsz (by omega) hl2 hm ht hM hlack fun r3 H3 hZ3 hr3=>?_
     walk_at "x"
     refine zad (by first | decide | simp) fun r4 H4 fr4 e4 hr4=>?_
     refine zji (e4.at hr3) hr4 za3 (za8 3) ?_
     have hZ4:=hZ3.same e4
     walk_at "x"
     refine zK ?_
     refine⟨H0,X,P,L,ts,as,_,rfl,hZ4,n9,k1,by omega,hsz,fun H5 s5 t5=>?_⟩
     have hZ5:=hZ4.sameT s5 t5
     have hms5:=hZ5.zl _ (.head _)
     walk_at "x"
     refine zK ?_
     refine zgi (.of hms5) hne fun x2 hx2 hmx2=>?_
     obtain rfl:=maxu hx1 hmx1 hx2 hmx2
     walk_at "x"
     ·exact q H5 P L ts as hZ5.less.less hBm hP (by omega)
     ·rename_i hbig
      have M9:∀i,i<X.n->0<=M i/\M i<=1000000000:=fun i hi=>by
       have h1:=hmx1 _ (memv hi)
       by_cases c1:i=t.p.toNat
       ·rw[c1]at h1 ⊢;omega
       ·by_cases c2:i=t.q.toNat
        ·rw[c2]at h1 ⊢;omega
        ·have:=hMo i c1 c2;omega
      refine zK ?_
      refine zgi (.of hms5) hne fun x3 hx3 hmx3=>?_
      obtain rfl:=maxu hx1 hmx1 hx3 hmx3
      refine zK ?_
      refine zlp hms5 hj hjf (by rw[hml];omega) ?_
      have hl5':H5 l=some (.lst [.str "strike",.int t.p,.int t.q,.int t.w,.int t.u,.int t.a,.int t.y,.int t.r]):=hZ5.zl _ (.tail _ (.head _))
      walk_at "x"
      rename_i pr H6 fpr e6 hpr
      have hZ6:=(hZ5.same e6).more hpr (hZ5.fresh fpr).1
      refine zc5 (xs:=[.int t.p,.int t.q]) (fun i σ' H'=>∃(f9:Option V) (P' L':Nat->Int),σ'=[some (.ref X.h),some (.ref X.ro),some (.ref X.lp),some (.ref X.ru),some (.ref X.mv),some (.ref l),some (.int (X.n:Int)),some (.ref ms),some (.int (j:Int)),f9,none]/\KW K T.c_House T.c_Book lP lQ H0 X H' P' L' L ts ts as ((pr,[.int t.p,.int t.q]) :: (ms,(vec X.n M).map V.int) :: (l,.str "strike" :: zaE t) :: zs)/\∀m,m<X.n->P' m=P m+zct t.p.toNat t.q.toNat i j m/\L' m=L m+zdt M t.p.toNat t.q.toNat i j m) ⟨_,P,L,rfl,hZ6,fun m hm=>by rw[(zgk (M:=M)).1,(zgk (M:=M)).2,Int.add_zero,Int.add_zero];exact⟨rfl,rfl⟩⟩ ?_ ?_ ?_
      ·rintro i σ' H7 _ ⟨f9,P',L',rfl,hZ7,_⟩;exact SqL.of (hZ7.zl _ (.head _))
      ·rintro i x σ' H7 hx' ⟨f9,P',L',rfl,hZ7,hPL⟩
       have hi2:i<2:=(yl.mp hx').1
       have hms7:=hZ7.zl (ms,(vec X.n M).map V.int) (.tail _ (.head _))
       obtain⟨e,rfl,he0,he1,hie⟩:∃e:Int,x=.int e/\0<=e/\e<X.n/\((i=0/\e=t.p)\/(i=1/\e=t.q)):=by
        obtain rfl | rfl:i=0\/i=1:=by omega
        ·exact⟨t.p,(yn hx').symm,p0,p1,.inl ⟨rfl,rfl⟩⟩
        ·exact⟨t.q,(yn hx').symm,q0,q1,.inr ⟨rfl,rfl⟩⟩
       have hen:e.toNat<X.n:=by omega
       have hMe:=M9 _ hen
       have hPe:=hPL _ hen
       have hP0:=hP _ hen
       obtain⟨dx7,hh7⟩:=hZ7.hc.ob
       have hmo:mOk X.n e:=⟨he0,he1⟩
       walk_at "x"
       refine zK ?_
       refine⟨X.h,X.A,X.own,e,M e.toNat,X.n,P',L',rfl,hZ7.hc,fun _ _ H8 b8 h8=>?_,fun z=>absurd hmo z,fun _ z=>absurd (show tOk (M e.toNat)from hMe) z⟩
       have hZ8:=hZ7.pu b8.l h8
       obtain⟨dx8,hh8⟩:=hZ8.hc.ob
       have hms8:=hZ8.zl (ms,(vec X.n M).map V.int) (.tail _ (.head _))
       walk_at "x"
       refine zK ?_
       refine .inr ⟨_,rfl,?_⟩
       have hd:(if decide (e=(j:Int))=true then(1:Int)else 0)=dj j e.toNat:=by
        by_cases c:e=(j:Int)
        ·rw[if_pos (decide_eq_true c),show e.toNat=j by clear hPe;omega,zcE]
        ·rw[if_neg (by rw[decide_eq_true_eq];exact c),zev (by clear hPe;omega)]
       have hie':(i=0/\e.toNat=t.p.toNat)\/(i=1/\e.toNat=t.q.toNat):=hie.imp (fun z=>⟨z.1,by rw[z.2]⟩) fun z=>⟨z.1,by rw[z.2]⟩
       have htk:tOk (M e.toNat-dj j e.toNat):=by
        have h0:=zfW j e.toNat
        by_cases c:e.toNat=j
        ·have h1:0<M e.toNat:=by rw[c,hMj];exact hpos
         exact⟨by omega,by omega⟩
        ·rw[zev c];exact⟨by omega,by omega⟩
       have hPn:0<=P' e.toNat:=by
        have:=zlC (p:=t.p.toNat) (q:=t.q.toNat) (i:=i) (j:=j) (m:=e.toNat)
        rw[hPe.1];omega
       walk_at "x"
       refine zK ?_
       rw[hd]
       refine⟨X.h,X.A,X.own,e,M e.toNat-dj j e.toNat,X.n,zaH P' e (M e.toNat),L',rfl,hZ8.hc,fun _ _ _ H9 H10 b9 h9 b10 h10=>?_,fun z=>absurd hmo z,fun _ z=>absurd htk z,fun _ _ z=>?_⟩
       ·exact⟨_,_,_,rfl,(hZ8.pu b9.l h9).pl b10.l h10,fun m hm=>⟨zj8 hie' pn (hPL m hm).1,zju hie' pn (hPL m hm).2⟩⟩
       ·unfold zaH at z
        rw[if_pos rfl]at z
        have:=zfW j e.toNat
        clear hPe
        omega
      ·rintro σ' H7 ⟨f9,P7,L7,rfl,hZ7,hPL⟩
       have hPL':∀m,m<X.n->P7 m=P m+dj j m/\L7 m=L m+(M m-dj j m):=fun m hm=>by
        have h1:=hPL m hm
        have h2:=zlI (M:=M) (m:=m) hjpq (hMo m)
        rw[show[V.int t.p,V.int t.q].length=2 from rfl,h2.1,h2.2]at h1
        exact h1
       have hl7:=hZ7.zl (l,.str "strike" :: zaE t) (.tail _ (.tail _ (.head _)))
       have hsz7:∀i,i<X.n->sz (L7 i)<=60000:=fun i hi=>by
        have h1:=hB i hi
        have h2:=M9 i hi
        have h3:=(hPL' i hi).2
        have h4:=zfW j i
        exact yb (sz200 (by omega) (by omega)) (by decide)
       have hPLj:=(hPL' j hjn).2
       have hlack7:L7 t.p.toNat<cp\/L7 t.q.toNat<cq:=by
        rw[zcE]at hPLj
        rcases hjpq with c | c
        ·rw[c]at hMj hPLj
         have h4:=hMp▸zgL (x:=cp-L t.p.toNat) (by rw[<- hMp,hMj];exact hpos)
         exact .inl (by omega)
        ·rw[c]at hMj hPLj
         have h4:=hMq▸zgL (x:=cq-L t.q.toNat) (by rw[<- hMq,hMj];exact hpos)
         exact .inr (by omega)
       walk_at "x"
       refine zK ?_
       refine zgE hZ7 hsz7 (by omega) hl7 hm ht hM hlack7 fun r8 H8 hZ8 hr8=>?_
       walk_at "x"
       refine zad (by first | decide | simp) fun r9 H9 fr9 e9 hr9=>?_
       refine zji (e9.at hr8) hr9 za3 (za8 3) ?_
       have hZ9:=hZ8.same e9
       obtain⟨dx9,hh9⟩:=hZ9.hc.ob
       walk_at "x"
       show zi6 T.c_House T.c_NoMember T.c_NoTerms T.c_Poor [V.ref X.h,V.int (j:Int),V.int 1] H9 _ E0
       refine⟨X.h,X.A,X.own,(j:Int),1,X.n,P7,L7,rfl,hZ9.hc,fun _ _ _ H10 H11 b10 h10 b11 h11=>?_,fun z=>absurd (show mOk X.n (j:Int) from⟨by omega,by omega⟩) z,fun _ z=>absurd (show tOk 1 from⟨by decide,by decide⟩) z,fun _ _ z=>?_⟩
       ·have hZ11:=(hZ9.pu b10.l h10).pl b11.l h11
        have hlp11:=hZ11.lp
        have hms11:=hZ11.zl (ms,(vec X.n M).map V.int) (.tail _ (.head _))
        walk_at "x"
        refine zcw (fun i σ' H'=>∃(f9:Option V) (G':Nat->Int),σ'=[some (.ref X.h),some (.ref X.ro),some (.ref X.lp),some (.ref X.ru),some (.ref X.mv),some (.ref l),some (.int (X.n:Int)),some (.ref ms),some (.int (j:Int)),f9,none]/\KW K T.c_House T.c_Book lP lQ H0 X H' (zaH P7 (j:Int) (-1)) (zaH L7 (j:Int) 1) G' ts ts as ((pr,[.int t.p,.int t.q]) :: (ms,(vec X.n M).map V.int) :: (l,.str "strike" :: zaE t) :: zs)/\∀m,m<X.n->(m<i->G' m=L m+M m)/\(¬m<i->G' m=L m)) ⟨_,L,rfl,hZ11,fun m hm=>⟨fun z=>absurd z (Nat.not_lt_zero _),fun _=>rfl⟩⟩ ?_ ?_
        ·rintro i σ' H12 hi ⟨f9,G',rfl,hZ12,hG⟩
         rw[show((0:Int)+(i:Int))=(i:Int) by omega]
         have hlp12:=hZ12.lp
         have hms12:=hZ12.zl (ms,(vec X.n M).map V.int) (.tail _ (.head _))
         have hin:i<X.n:=by omega
         walk_at "x"
         rename_i H13 b13 h13
         refine⟨_,_,rfl,hZ12.lq b13.l h13,fun m hm=>?_⟩
         have h1:=hG m hm
         rw[yx]
         by_cases c:m=i
         ·rw[if_pos c]
          exact⟨fun _=>by rw[h1.2 (by omega),c]at *;rw[(hG i hin).2 (by omega)],fun z=>absurd z (by omega)⟩
         ·rw[if_neg c]
          exact⟨fun z=>h1.1 (by omega),fun z=>h1.2 (by omega)⟩
        ·rintro σ' H12 ⟨f9,G',rfl,hZ12,hG⟩
         rw[yx]at hG
         have hG':∀m,m<X.n->G' m=L m+M m:=fun m hm=>(hG m hm).1 hm
         have hL:∀m,m<X.n->zaH L7 (j:Int) 1 m=G' m:=fun m hm=>by
          have h1:=(hPL' m hm).2
          have h2:=hG' m hm
          unfold zaH
          rw[yx]
          by_cases c:m=j
          ·rw[if_pos c,<- c,h1,h2,c,zcE];omega
          ·rw[if_neg c,h1,h2,zev c];omega
         refine⟨_,_,_,G',rfl,(hZ12.congr (fun _ _=>rfl) hL (fun _ _=>rfl)).less.less,fun m hm=>?_,fun m hm=>?_,?_,?_⟩
         ·have h2:=hB m hm
          have h3:=M9 m hm
          rw[hG' m hm]
          omega
         ·have h1:=(hPL' m hm).1
          have h2:=hP m hm
          unfold zaH
          rw[yx]
          by_cases c:m=j
          ·rw[if_pos c,<- c,h1,c,zcE];rw[c]at h2;omega
          ·rw[if_neg c,h1,zev c];omega
         ·rw[hG' _ (by omega),hMp]
          have:=zhm (cp-L t.p.toNat)
          omega
         ·rw[hG' _ (by omega),hMq]
          have:=zhm (cq-L t.q.toNat)
          omega
       ·have h1:=(hPL' j hjn).1
        have h2:=hP j hjn
        rw[yx]at z
        rw[zcE]at h1
        omega
    ·rename_i hpos
     have h1:=hmx1 _ (memv (i:=t.p.toNat) (by omega))
     have h2:=hmx1 _ (memv (i:=t.q.toNat) (by omega))
     refine⟨_,_,P,L,rfl,hZ.less,hBm,hP,?_,?_⟩
     ·rw[hMp]at h1;unfold zar at h1;split at h1<;>omega
     ·rw[hMq]at h2;unfold zar at h2;split at h2<;>omega
   ·rintro σ' H3 ⟨f8,f9,P',L',rfl,hW3,hB3,hP3,c1,c2⟩
    have hl3:=hW3.zl _ (.head _)
    have hl3':H3 l=some (.lst [.str "strike",.int t.p,.int t.q,.int t.w,.int t.u,.int t.a,.int t.y,.int t.r]):=hl3
    have hro3:=hW3.ro
    have hal:=hW.dr.2.1
    have hmap:(as.map V.ref).length=as.length:=ya ..
    have hsz3:∀i,i<X.n->sz (L' i)<=60000:=fun i hi=>by
     have:=hB3 i hi
     exact yb (sz200 (by omega) (by omega)) (by decide)
    walk_at "x"
    rename_i d4 H4 fd4 e4 hd4 s4 H5 fs4 e5 hs4
    have hd5:H5 d4=some (.lst [.int t.p,.int t.q,.int t.w,.int t.u,.int t.a,.int t.y,.int t.r]):=e5.at hd4
    refine zeC hd5 hs4 (by show 8<=100000;decide) fun d6 H6 fd6 e6 hd6=>?_
    have hd6':H6 d6=some (.lst (zaP (t,("standing" : Str)))):=hd6
    have hW5:=hW3.same (e4.trans e5)
    have f6:=hW5.fresh fd6
    have hW6:=hW5.same e6
    have hro6:=hW6.ro
    refine zK ?_
    refine zbE hro6 (by omega) fun H7 b7 h7=>?_
    have hW7:=hW6.add b7.l hd6' f6.1 f6.2.1 f6.2.2 (by rw[yw];exact h7) (KD8.of hm ht)
    have hl7:=hW7.zl _ (.head _)
    walk_at "x"
    refine zK ?_
    refine zks hW7 hsz3 (by omega) hl7 hm ht hM c1 c2 fun r8 H8 hW8 hr8=>?_
    have hro8:=hW8.ro
    walk_at "x"
    refine zad (by first | decide | simp) fun r9 H9 fr9 e9 hr9=>?_
    have hlen:(((as++[d6]).map V.ref).length:Int)-1=ts.length:=by
     rw[ya,yk,hal];show((ts.length+1:Nat):Int)-1=_;omega
    rw[hlen]at hr9
    have hr89:=e9.at hr8
    refine zna hr89 hr9 zgI ?_
    walk_at "x"
    exact q H9 P' L' _ _ (hW8.same e9).less hB3 hP3 (by rw[yk];exact yf _)
  ·have hx0:x<0:=by
    have h1:=hmin t.w (by simp)
    have h2:=hmin t.u (by simp)
    have h3:=hmin t.a (by simp)
    have h4:=hmin t.y (by simp)
    have h5:=hmin t.r (by simp)
    rcases hD with z | z
    ·exact absurd z ht
    ·omega
   walk_at "x"
   refine zK ?_
   refine zkC hW1 hsz (by omega) hl1 hm ht fun r H2 hW2 hr2=>?_
   walk_at "x"
   refine zad (by first | decide | simp) fun p3 H3 fp3 e3 hp3=>?_
   refine zeu (e3.at hr2) hp3 za3 (za8 2) ?_
   exact q H3 P L ts as (hW2.same e3) hBm hP (by omega)
 ·have nm:¬((0<=t.p/\t.p<(X.n:Int))/\(0<=t.q/\t.q<(X.n:Int))/\t.p≠t.q):=hm
  walk_at "x"
  all_goals first | (exfalso;omega) | skip
  all_goals
   refine zK ?_
   refine zkx hW hsz (by omega) hl hm fun r H2 hW2 hr2=>?_
   walk_at "x"
   refine zad (by first | decide | simp) fun p3 H3 fp3 e3 hp3=>?_
   refine zeu (e3.at hr2) hp3 za3 (za8 1) ?_
   exact q H3 P L ts as (hW2.same e3) hBm hP (by omega)
theorem zfz(T:Txt K mg):FnOk P w K mg base (CXF P w) 8 T.d__law_freed.a T.d__law_freed.fd ["_law_script", "_law_at", "_law_house", "_law_rows", "_law_pledges", "_law_rule", "_law_moves_here"] (zjs K T.c_House T.c_Book lP lQ):=by
 refine T.d__law_freed.F.okN sc__law_freed (fun vs H Q E h=>?_) (fun cdv A outer s H vs Q E hr h=>?_)
 ·obtain⟨H0,X,P,L,ts,as,zs,a,ns,z,B,rfl,_⟩:=h;rfl
 obtain⟨H0,X,P,L,ts,as,zs,a,ns,z,B,rfl,hS0,z0,z1,hW,n9,n2,k1,htl,hB,B0,B1,hP,q⟩:=h
 have hS:SqL K H a (ns.map V.int):=hW.e0.seq hS0
 have hvl:((vec X.n L).map V.int).length=X.n:=by rw[ya,zJ]
 have hlp:=hW.lp
 have hmv:=hW.mv
 have hro:=hW.ro
 obtain⟨hw,c0,c1⟩:=id hW.hn.ok
 obtain⟨m0,hm0⟩:=zN (show 0<X.ms.length by have:=hW.ml;omega)
 have hat0:atI (X.ms.map V.ref) 0=some (.ref m0):=zaz (by omega) (by rw[yg];show(X.ms[0]?).map _=_;rw[hm0];rfl)
 have hm0r:=hW.mr.2 _ _ hm0
 have hml0:((vec X.k (X.F 0)).map V.int).length=X.k:=by rw[ya,zJ]
 have hsz:∀i,i<X.n->sz (L i)<=60000:=fun i hi=>by
  have:=hB i hi
  exact yb (sz200 (by omega) (by omega)) (by decide)
 refine⟨_,(zd (zw (i:=7) sc__law_freed.nd rfl (Or.inl rfl) (zm (zA (base:=base) T) (hr.mono (by decide)) rfl T.d__law_draw.m T.d__law_draw.F.kp T.d__law_draw.b .nil (zu zt) (za (pv 0) (za (pv 1) (za (zp (show CallR _ _ (zac K)from zI) rfl T.z_len BT.len (za (pv 4) zb)) zb)))))
 (zd (zw (i:=8) sc__law_freed.nd rfl (Or.inl rfl) (zm (zci (base:=base) T) (hr.mono (by decide)) rfl T.d__law_need.m T.d__law_need.F.kp T.d__law_need.b .nil (zu zt) (za (zh (show IxR _ (rIx K)from zf) (zm (zbg (base:=base) T) (hr.mono (by decide)) rfl T.d__law_positions.m T.d__law_positions.F.kp T.d__law_positions.b .nil (zu zt) (za (pv 3) (za (zp (show CallR _ _ (zac K)from zI) rfl T.z_len BT.len (za (pv 4) zb)) (za (zp (show CallR _ _ (zac K)from zI) rfl T.z_len BT.len (za (zh (show IxR _ (rIx K)from zf) (pv 6) zc (fun _ _=>rfl)) zb)) zb)))) (pv 7) (fun _ _=>rfl)) (za (pv 5) (za (pv 6) zb)))))
 (zd (zw (i:=9) sc__law_freed.nd rfl (Or.inl rfl) (zo zaC (zh (show IxR _ (rIx K)from zf) (pv 4) (pv 7) (fun _ _=>rfl)) (zo zdy (zo zaC (zo (show OpR _ (binaryOp .Add) (zF K)from zy) (zh (show IxR _ (rIx K)from zf) (pv 8) zc (fun _ _=>rfl)) (zh (show IxR _ (rIx K)from zf) (pv 8) zc (fun _ _=>rfl))) zc) (zh (show IxR _ (rIx K)from zf) (pv 8) zc (fun _ _=>rfl)))))
 (zd (zw (i:=10) sc__law_freed.nd rfl (Or.inl rfl) (zp (zbR rfl) rfl T.z_max BT.max (za zc (za (zo zaC (zo (show OpR _ (binaryOp .Add) (zF K)from zy) (pv 9) (zm (zA (base:=base) T) (hr.mono (by decide)) rfl T.d__law_draw.m T.d__law_draw.F.kp T.d__law_draw.b .nil (zu zt) (za (pv 0) (za (zo (show OpR _ (binaryOp .Add) (zF K)from zy) (pv 1) zc) (za zc zb))))) zc) zb))))
 (zav (zE (zk (show OpR _ (compareOp .Eq) (zX K)from zR hr.units) (zm (zA (base:=base) T) (hr.mono (by decide)) rfl T.d__law_draw.m T.d__law_draw.F.kp T.d__law_draw.b .nil (zu zt) (za (pv 0) (za (zo (show OpR _ (binaryOp .Add) (zF K)from zy) (pv 1) zc) (za zc zb)))) zc (nomark _))
 (ze (zw (i:=10) sc__law_freed.nd rfl (Or.inl rfl) (zm (za1 (base:=base) T) (hr.mono (by decide)) rfl T.d__law_great.m T.d__law_great.F.kp T.d__law_great.b .nil (zu zt) (za (pv 0) (za (zo (show OpR _ (binaryOp .Add) (zF K)from zy) (pv 1) zc) (za (zo (show OpR _ (binaryOp .Add) (zF K)from zy) (zh (show IxR _ (rIx K)from zf) (pv 4) (pv 7) (fun _ _=>rfl)) zc) zb))))))
 zr)
 (zd (zw (i:=10) sc__law_freed.nd rfl (Or.inl rfl) (zp (show CallR _ _ zhr from zi5 rfl) rfl T.z_min BT.min (za (pv 10) (za (zh (show IxR _ (rIx K)from zf) (pv 4) (pv 7) (fun _ _=>rfl)) (za (zo zdg zc zc) zb)))))
 (zd (zw (i:=11) sc__law_freed.nd rfl (Or.inl rfl) (zm (zaG (base:=base) T) (hr.mono (by decide)) rfl T.d__law_found.m T.d__law_found.F.kp T.d__law_found.b .nil (zu zt) (za (pv 2) (za (zai (za zv (za (pv 7) (za (pv 10) zb)))) zb))))
 (zd (zE (zk zbi (pv 10) (pv 9) (nomark _))
 (ze (zD (zbd (show OpR _ (compareOp .Eq) (zX K)from zR hr.units) (pv 11) (z6 (za zv (za zv zb))) (nomark _))))
 zr)
 (zd (zaX (zo zaC (zh (show IxR _ (rIx K)from zf) (pv 4) (pv 7) (fun _ _=>rfl)) (pv 10)) (zaW (pv 4) (pv 7) zU))
 (ze (zD (zbd (show OpR _ (compareOp .Eq) (zX K)from zR hr.units) (pv 11) (z6 (za zv (za znr zb))) (nomark _))))))))))))),?_⟩
 refine zB (σ0:=[some (.ref a),some (.int z),some (.ref X.h),some (.ref X.ro),some (.ref X.lp),some (.ref X.ru),some (.ref X.mv),none,none,none,none,none]) rfl ?_
 walk_at "x"
 rename_i mb mb0 mb1
 have hmn:mb.toNat<X.n:=by omega
 refine zK ?_
 refine⟨X.ro,X.n,X.k,ts,as,by rw[hvl,hml0],hro,hW.dr,hW.uk,by omega,by omega,by omega,by have:=hW.hn.k9;omega,by omega,fun r H1 ps fr e1 hr1 hpl hR1 hfp=>?_⟩
 rw[yx]at hpl hR1
 obtain⟨b,hb⟩:=zN (show mb.toNat<ps.length by omega)
 have hat:atI (ps.map V.ref) mb=some (.ref b):=zaz mb0 (by rw[yg,hb];rfl)
 have hb1:=hR1.2 _ _ hb
 have hW1:=hW.same e1
 have hbd:Internal.Within 1000000000 X.k (z7 ts mb):=fun j _=>by
  have:=zb5 hW.hn.tu mb j
  omega
 dsimp only at hb1
 rw[show((mb.toNat:Nat):Int)=mb by omega]at hb1
 walk_at "x"
 refine zK ?_
 refine⟨b,X.ru,X.mv,X.w,X.c,X.ms,X.k,z7 ts mb,X.F,1000000000,rfl,hb1,hW1.ru,hW1.mv,hW1.mr,hbd,fun i' hi' j hj=>by have:=hW.hn.fw i' (by rw[<- hW.ml];exact hi') j hj;omega,by decide,hW.hn.k9,by rw[hW.ml];exact hW.hn.n64,by rw[hW.ml];exact hW.hn.ok,fun rb H2 ta tb frb e2 hrb hnd=>?_⟩
 rw[hW.ml]at hnd
 have hnd':IsNd X.w (zaa ts mb X.k X.F) X.bs.length X.c ta tb:=hnd
 have b0:=hnd.b0
 have b1:=hnd.b1
 have a0:=hnd.a0
 have bs:sz tb<=9000:=yb (zbc (n:=20) (by omega)) (by decide)
 have hW2:=hW1.same e2
 have hlp2:=hW2.lp
 have hS2:SqL K H2 a (ns.map V.int):=hW2.e0.seq hS0
 have hLb:=hB _ hmn
 walk_at "x"
 rename_i dr dr0 dr1
 rw[zjN (by omega)]
 obtain⟨most,hmost⟩:∃v,v=L mb.toNat-zbz ta tb:=⟨_,rfl⟩
 rw[<- hmost]
 refine zbb (fun σ' H'=>∃co:Int,σ'=[some (.ref a),some (.int z),some (.ref X.h),some (.ref X.ro),some (.ref X.lp),some (.ref X.ru),some (.ref X.mv),some (.int mb),some (.ref rb),some (.int most),some (.int co),none]/\H'=H2/\0<=co) ?_ ?_
 ·walk_at "x"
  ·exact⟨_,rfl,rfl,by omega⟩
  ·exact⟨_,rfl,rfl,by split<;>omega⟩
 rintro σ' H3 ⟨co,rfl,rfl,co0⟩
 walk_at "x"
 refine zK ?_
 refine zns fun x x1 x2 x3 x4=>?_
 have x0:0<=x:=by
  have h9:(10:Int) ^ (9:Int).toNat=1000000000:=rfl
  omega
 walk_at "x"
 rename_i l H4 fl e4 hl4
 have hW4:=hW2.same e4
 refine zK ?_
 refine⟨H0,X,P,L,L,ts,ts,as,zs,l,rfl,hW4,hsz,by omega,.inr (.inl ⟨mb,x,hl4,⟨mb0,by omega⟩,⟨x0,x3⟩,x2,yb (sz200 (by omega) (by omega)) (by decide),fun ql hL=>⟨fun hlt H5 hW5=>⟨_,3,rfl,.inr (.inr (.inl ⟨rfl,rfl⟩)),fun r6 H6 e6 hr6=>?_⟩,fun hnl H5 hW5 r6 H6 e6 hr6=>?_⟩⟩)⟩
 ·rw[hnd'.q ql hL,zdx (by omega)]at hlt
  have hgt:most<x:=by omega
  walk_at "x"
  refine zad (by first | decide | simp) fun r7 H7 fr7 e7 hr7=>?_
  refine zeu (e7.at hr6) hr7 za3 (za8 3) ?_
  exact q H7 P L (hW5.same (e6.trans e7)) hB hP
 ·rw[hnd'.q ql hL,zdx (by omega)]at hnl
  have hgt:¬most<x:=by omega
  have hW6:=hW5.same e6
  have hlp6:=hW6.lp
  walk_at "x"
  rename_i H7 b7 h7
  have hW7:=hW6.lq b7.l h7
  refine zad (by first | decide | simp) fun r8 H8 fr8 e8 hr8=>?_
  refine zmE (e8.at (b7.tup hr6)) hr8 zgI ?_
  have hG:∀i,i<X.n->(fun i=>if i=mb.toNat then L mb.toNat-x else L i) i=zaH L mb (-x) i:=fun i hi=>by
   unfold zaH
   dsimp only
   split<;>omega
  refine q H8 (zaH P mb x) (zaH L mb (-x)) ((hW7.same e8).congr (fun _ _=>rfl) (fun _ _=>rfl) hG) (fun i hi=>?_) fun i hi=>?_
  ·have h1:=hB i hi
   unfold zaH
   split
   ·omega
   ·exact h1
  ·have h1:=hP i hi
   unfold zaH
   split
   ·rename_i hh;rw[hh]at h1;omega
   ·exact h1
theorem znb(T:Txt K mg):FnOk P w K mg base (CXF P w) 10 T.d_law.a T.d_law.fd ["_law_script"] (zfX K):=by
 refine T.d_law.F.okN sc_law (fun vs H Q E h=>?_) (fun cdv A outer s H vs Q E hr h=>?_)
 ·obtain⟨a,ns,rfl,_⟩:=h;rfl
 obtain⟨a,ns,rfl,hS,h63,hz,hTb,k⟩:=h
 have hT0:TbW K "worst_days" lP lQ H:=hTb lP lQ
 refine⟨_,(zd (zw (i:=1) sc_law.nd rfl (Or.inl rfl) (zo (show OpR _ (binaryOp .Add) (zF K)from zy) zc (zm (zA (base:=base) T) (hr.mono (by decide)) rfl T.d__law_draw.m T.d__law_draw.F.kp T.d__law_draw.b .nil (zu zt) (za (pv 0) (za zc (za zc zb))))))
 (zd (zw (i:=2) sc_law.nd rfl (Or.inl rfl) (zo (show OpR _ (binaryOp .Add) (zF K)from zy) zc (zm (zA (base:=base) T) (hr.mono (by decide)) rfl T.d__law_draw.m T.d__law_draw.F.kp T.d__law_draw.b .nil (zu zt) (za (pv 0) (za zc (za zc zb))))))
 (zd (zw (i:=3) sc_law.nd rfl (Or.inl rfl) (zo (show OpR _ (binaryOp .Add) (zF K)from zy) zc (zm (zA (base:=base) T) (hr.mono (by decide)) rfl T.d__law_draw.m T.d__law_draw.F.kp T.d__law_draw.b .nil (zu zt) (za (pv 0) (za zc (za zc zb))))))
 (zav (zE (zk (show OpR _ (compareOp .Eq) (zX K)from zR hr.units) (zm (zA (base:=base) T) (hr.mono (by decide)) rfl T.d__law_draw.m T.d__law_draw.F.kp T.d__law_draw.b .nil (zu zt) (za (pv 0) (za zc (za zc zb)))) zc (nomark _))
 (ze (zw (i:=3) sc_law.nd rfl (Or.inl rfl) (zo (show OpR _ (binaryOp .Add) (zF K)from zy) zc (zm (zA (base:=base) T) (hr.mono (by decide)) rfl T.d__law_draw.m T.d__law_draw.F.kp T.d__law_draw.b .nil (zu zt) (za (pv 0) (za zc (za zc zb)))))))
 zr)
 (zd (zw (i:=4) sc_law.nd rfl (Or.inl rfl) (zm (zfM (base:=base) T) (hr.mono (by decide)) rfl T.d__law_moves.m T.d__law_moves.F.kp T.d__law_moves.b .nil (zu zt) (za (pv 0) (za zc (za (pv 3) (za (pv 2) zb))))))
 (zd (zw (i:=5) sc_law.nd rfl (Or.inl rfl) (z6 (za (zh (show IxR _ (rIx K)from zf) (zai (za zv (za zv zb))) (zm (zA (base:=base) T) (hr.mono (by decide)) rfl T.d__law_draw.m T.d__law_draw.F.kp T.d__law_draw.b .nil (zu zt) (za (pv 0) (za zc (za zc zb)))) (fun _ _=>rfl)) (za (zo (show OpR _ (binaryOp .Add) (zF K)from zy) zc (zm (zA (base:=base) T) (hr.mono (by decide)) rfl T.d__law_draw.m T.d__law_draw.F.kp T.d__law_draw.b .nil (zu zt) (za (pv 0) (za zc (za (pv 3) zb))))) zb))))
 (zd (zb4 (i:=6) sc_law.nd rfl rfl rfl (zaB rfl T.z_range (za (pv 1) zb)) (zP (Ni:=["_law_k", "_law_script"]) (caps:=[none,some 0]) (by rfl)) (fun S _ _ _ _ _=>(z4 (gi:=0) S (Or.inl rfl) rfl)) (fun _ _ _ _ _=>zat) (fun _ _ _ _ _=>(zm (zeY (base:=base) T) (hr.mono (by decide)) rfl T.d__law_pledge.m T.d__law_pledge.F.kp T.d__law_pledge.b .nil (zu zt) (za (pv 1) (za (zo (show OpR _ (binaryOp .Add) (zF K)from zy) zc (zo zau zc (pv 0))) zb)))))
 (zd (zw (i:=7) sc_law.nd rfl (Or.inl rfl) (zai zb))
 (zd (zb4 (i:=8) sc_law.nd rfl rfl rfl (show PI _ _ _ (zaJ K _)from zaj (pv 4)) (zP (Ni:=["_law_row"]) (caps:=[none]) (by rfl)) (fun S _ _ _ _ _=>(z4 (gi:=0) S (Or.inl rfl) rfl)) (fun _ _ _ _ _=>zat) (fun _ _ _ _ _=>(zbs (show CallR _ _ (zbt K)from zcN) rfl T.z_list BT.list (za (pv 0) zb))))
 (zd (zw (i:=9) sc_law.nd rfl (Or.inl rfl) (zg5 T.mk_House (zdC (base:=base) T) (hr.mono (by decide)) rfl T.m_House T.d_House___init__.b .nil (zu zt) (za (zaQ rfl (show PI _ _ _ (zaJ K _)from zaj (pv 6)) (zP (Ni:=["_law_pledge_here"]) (caps:=[none]) (by rfl)) (fun S _ _ _ _ _=>(z4 (gi:=0) S (Or.inl rfl) rfl)) (fun _ _ _ _ _=>zat) (fun _ _ _ _ _=>(z6 (za zc (za (pv 0) (za zc zb)))))) (za (pv 8) (za (pv 5) (za (zai zb) (za zc zb)))))))
 (zd (zaS PassesOwn.never rfl (show PI _ _ _ (zaJ K _)from zaj (pv 8)) (zal (i:=10) sc_law.nd rfl (Or.inl rfl))
 (ze (zaX zc (zaW (pv 10) (zm (zA (base:=base) T) (hr.mono (by decide)) rfl T.d__law_draw.m T.d__law_draw.F.kp T.d__law_draw.b .nil (zu zt) (za (pv 0) (za zc (za (pv 2) zb)))) zU))))
 (zd (zL (show PE _ _ (tBM K _ _ _ _)from zbA yB yE yF zaA (pv 8) (za (zaQ rfl (zaB rfl T.z_range (za (pv 2) zb)) (zP (Ni:=["_law_ware"]) (caps:=[none]) (by rfl)) (fun S _ _ _ _ _=>(z4 (gi:=0) S (Or.inl rfl) rfl)) (fun _ _ _ _ _=>zat) (fun _ _ _ _ _=>zc)) zb)))
 (zd (zaS PassesOwn.never rfl (zaB rfl T.z_range (za (zo (show OpR _ (binaryOp .Add) (zF K)from zy) zc (zp (show CallR _ _ (zac K)from zI) rfl T.z_len BT.len (za (za6 (show SlR _ (zcg K)from zbM) (pv 0) zbu (zbp zc)) zb))) zb)) (zal (i:=11) sc_law.nd rfl (Or.inl rfl))
 (zd (zw (i:=12) sc_law.nd rfl (Or.inl rfl) (zo (show OpR _ (binaryOp .Add) (zF K)from zy) zc (zo zau zc (pv 11))))
 (zd (zw (i:=13) sc_law.nd rfl (Or.inl rfl) (zm (zA (base:=base) T) (hr.mono (by decide)) rfl T.d__law_draw.m T.d__law_draw.F.kp T.d__law_draw.b .nil (zu zt) (za (pv 0) (za (pv 12) (za zc zb)))))
 (zd (zw (i:=14) sc_law.nd rfl (Or.inl rfl) za4)
 (zav (zE (zk zas (pv 13) zc (nomark _))
 (zd (zw (i:=15) sc_law.nd rfl (Or.inl rfl) (zm (zgh (base:=base) T) (hr.mono (by decide)) rfl T.d__law_deed.m T.d__law_deed.F.kp T.d__law_deed.b .nil (zu zt) (za (pv 0) (za (zo (show OpR _ (binaryOp .Add) (zF K)from zy) (pv 12) zc) (za (pv 1) (za (pv 2) zb))))))
 (ze (zw (i:=14) sc_law.nd rfl (Or.inl rfl) (zm (ze1 (base:=base) T) (hr.mono (by decide)) rfl T.d__law_struck.m T.d__law_struck.F.kp T.d__law_struck.b .nil (zu zt) (za (pv 9) (za (pv 7) (za (pv 6) (za (pv 5) (za (pv 4) (za (pv 15) zb))))))))))
 (ze (zE (zk zas (pv 13) zc (nomark _))
 (ze (zw (i:=14) sc_law.nd rfl (Or.inl rfl) (zm (zfz (base:=base) T) (hr.mono (by decide)) rfl T.d__law_freed.m T.d__law_freed.F.kp T.d__law_freed.b .nil (zu zt) (za (pv 0) (za (zo (show OpR _ (binaryOp .Add) (zF K)from zy) (pv 12) zc) (za (pv 9) (za (pv 7) (za (pv 6) (za (pv 5) (za (pv 4) zb))))))))))
 (ze (zE (zk zbi (zp (show CallR _ _ (zac K)from zI) rfl T.z_len BT.len (za (pv 7) zb)) zc (nomark _))
 (zd (zw (i:=16) sc_law.nd rfl (Or.inl rfl) (zm (zA (base:=base) T) (hr.mono (by decide)) rfl T.d__law_draw.m T.d__law_draw.F.kp T.d__law_draw.b .nil (zu zt) (za (pv 0) (za (zo (show OpR _ (binaryOp .Add) (zF K)from zy) (pv 12) zc) (za (zp (show CallR _ _ (zac K)from zI) rfl T.z_len BT.len (za (pv 7) zb)) zb)))))
 (ze (zE (zk (show OpR _ (compareOp .Eq) (zX K)from zR hr.units) (zh (show IxR _ (rIx K)from zf) (zh (show IxR _ (rIx K)from zf) (pv 7) (pv 16) (fun _ _=>rfl)) zc (fun _ _=>rfl)) zv (nomark _))
 (zd (zL (zQ (pv 9) T.cl_House T.d_House_break_off.mt (zc3 (base:=base) T) (hr.mono (by decide)) T.d_House_break_off.b .nil (zu zt) (za (pv 16) zb)))
 (ze (zaX zv (zaW (zh (show IxR _ (rIx K)from zf) (pv 7) (pv 16) (fun _ _=>rfl)) zc zU))))
 zr)))
 zr)))))
 (ze (zE (PW.pt (zaf (zce (show PT _ _ (za0 K _)from zV (pv 14) (fun _=>rfl))) (zab (zce (show PT _ _ (za0 K _)from zV (zm (zcC (base:=base) T) (hr.mono (by decide)) rfl T.d__law_stands.m T.d__law_stands.F.kp T.d__law_stands.b .nil (zu zt) (za (pv 9) (za (pv 7) (za (pv 6) (za (pv 5) (za (pv 4) zb)))))) (fun _=>rfl))))))
 (ze (zD za4))
 zr)))))))
 (ze (zD za4))))))))))))))),?_⟩
 refine zB (σ0:=[some (.ref a),none,none,none,none,none,none,none,none,none,none,none,none,none,none,none,none]) rfl ?_
 walk_at "x"
 rename_i nx nx0 nx1 wx wx0 wx1 dx0 dx00 dx01
 obtain⟨N,eN,N0,N1⟩:∃N:Nat,2+nx=(N:Int)/\2<=N/\N<=6:=⟨(2+nx).toNat,by omega,by omega,by omega⟩
 obtain⟨W,eW,W0,W1⟩:∃W:Nat,1+wx=(W:Int)/\1<=W/\W<=4:=⟨(1+wx).toNat,by omega,by omega,by omega⟩
 rw[eN,eW]
 refine zbb (fun σ' H'=>∃D:Nat,σ'=[some (.ref a),some (.int (N:Int)),some (.int (W:Int)),some (.int (D:Int)),none,none,none,none,none,none,none,none,none,none,none,none,none]/\H'=H/\1<=D/\D<=30) ?_ ?_
 ·walk_at "x"
  ·rename_i d2 d20 d21
   exact⟨(1+d2).toNat,by rw[show(((1+d2).toNat:Nat):Int)=1+d2 by omega],rfl,by omega,by omega⟩
  ·exact⟨(1+dx0).toNat,by rw[show(((1+dx0).toNat:Nat):Int)=1+dx0 by omega],rfl,by omega,by omega⟩
 rintro σ' H' ⟨D,rfl,rfl,D0,D1⟩
 walk_at "x"
 refine zK ?_
 refine⟨a,ns,400,D,W,rfl,hS,by decide,by decide,by omega,by omega,by omega,by omega,fun mv H1 ms F fmv e1 hmv hml hmr hmw hmf=>?_⟩
 rw[yx]at hml hmr hmw
 rw[yx]at hmw
 have hS1:SqL K H1 a (ns.map V.int):=hS.keep e1
 walk_at "x"
 rename_i wl H2 fwl e2 hwl x x0 x1
 have hS2:SqL K H2 a (ns.map V.int):=hS1.keep e2
 obtain⟨w,hw,hat⟩:∃w:Str,(w = "worst" \/ w = "mean")/\atI [V.str "worst",V.str "mean"] x=some (.str w):=by
  obtain rfl | rfl:x=0\/x=1:=by omega
  ·exact⟨"worst",.inl rfl,rfl⟩
  ·exact⟨"mean",.inr rfl,rfl⟩
 walk_at "x"
 rename_i y y0 y1
 refine zad (by first | decide | simp) fun ru H3 fru e3 hru=>?_
 have hS3:SqL K H3 a (ns.map V.int):=hS2.keep e3
 walk_at "x"
 refine zah (zcs (lo:=0) (n:=N)) (fun _ _=>trivial) rfl (fun i vs _=>∃f:Nat->Int,vs=(vec i f).map V.int/\BdF i f 1000000000) (fun H' _=>⟨fun _=>0,rfl,fun i hi=>absurd hi (by omega)⟩) ?_ ?_
 ·rintro i x D' vs o H4 H5 hi hD e4 hv hvl ⟨f,rfl,hf⟩ e5 rfl
  have hS5:SqL K H5 a (ns.map V.int):=(hS3.keep e4).keep e5
  have hv5:=e5.at hv
  have hvl2:((vec i f).map V.int).length<=1000:=by omega
  walk_at "x"
  refine zK ?_
  refine zgr hS5 (by omega) (by omega) fun v v0 v1=>?_
  refine zbE hv5 (by omega) fun H6 b6 h6=>?_
  rw[zgK]at h6
  refine⟨⟨_,rfl⟩,b6.same (e4.trans e5) hD,_,h6,by rw[ya,zJ];exact yf _,fun t=>if t=i then v else f t,rfl,fun t ht=>?_⟩
  dsimp only
  by_cases c:t=i
  ·rw[if_pos c];omega
  ·rw[if_neg c];exact hf t (by omega)
 rintro lp H4 vs flp e4 hlp _ ⟨G,rfl,hG⟩
 have e14:=e2.trans (e3.trans e4)
 have hmv4:=e14.at hmv
 have hmr4:=hmr.same e14
 walk_at "x"
 rename_i ro H5 fro e5 hro
 have e15:=e14.trans e5
 refine zg7 (e5.at hmv4) (hmr4.same e5) W0 (by omega) (by omega) rfl fun hd H6 cs fhd e6 hhd hcl hRc hfc hndc=>?_
 have hlp6:=e6.at (e5.at hlp)
 walk_at "x"
 refine zah (zaO (K:=K) (a:=lp) (xs:=(vec N G).map V.int)) (fun H' e=>SqL.of (e.at hlp6)) rfl (fun i vs H'=>IsTs m3V H' vs ((List.range i).map fun i=>(0,G i,7))) (fun H' _=>trivial) ?_ ?_
 ·rintro i x D' vs o H7 H8 hi hD e7 hv hvl hI e8 hx
  rw[ya,zJ]at hi
  have ex:x=.int (G i):=by rw[yg,zaL hi]at hx;exact(yn hx).symm
  subst ex
  have hvl2:vs.length<=1000:=by rw[ya,zJ]at *;omega
  have hv8:=e8.at hv
  walk_at "x"
  rename_i tp H9 ftp e9 htp H10 b10 h10
  refine⟨⟨_,rfl⟩,b10.same (e7.trans (e8.trans e9)) hD,_,h10,by rw[yk];exact yc hvl,?_⟩
  dsimp only
  rw[List.range_succ,yw]
  exact IsTs.app (f:=m3V) (x:=(0,G i,7)) (b10.tup htp) (LBut.isTs b10 ((hI.same e8).same e9))
 rintro mb H7 us fmb e7 hmb _ hI7
 rw[ya,zJ]at hI7
 walk_at "x"
 rename_i od H8 fod e8 hod
 refine zg1 fun h dx H9 fh e9 h9=>?_
 have hc1:1+y=((1+y).toNat:Int):=by omega
 have e79:Same H7 H9:=e8.trans e9
 have e69:=e7.trans e79
 have okr:zbh w (1+y) cs.length:=⟨hw,by omega,by rw[hcl,hml];omega⟩
 have oko:OkO []:=⟨by decide,by decide⟩
 refine⟨h,dx,mb,hd,ru,od,us,_,cs,W,F,w,1+y,[],0,rfl,h9,e79.at hmb,hI7.same e79,by rw[ya,y6];omega,e69.at hhd,hRc.same e69,by omega,by omega,by omega,by omega,(e4.trans (e5.trans (e6.trans e69))).at hru,e9.at hod,by decide,fun _ _ B d bs H10 nb10 h10 hbl hN=>⟨rfl,?_⟩,fun z=>absurd okr z,fun _ z=>absurd oko z⟩
 have hxl:((List.range N).map fun i=>((0:Int),G i,(7:Int))).length=N:=by rw[ya,y6]
 have hxg:∀i,i<N->((List.range N).map fun i=>((0:Int),G i,(7:Int))).getD i (0,0,0)=(0,G i,7):=fun i hi=>by
  rw[yh,yg,List.getElem?_range hi];rfl
 have hpu:H10 B.pu=some (.lst ((vec N fun _=>(0:Int)).map V.int)):=by
  rw[hN.pu,hxl];congr 3;exact zao fun i hi=>by rw[hxg i hi]
 have hpl:H10 B.pl=some (.lst ((vec N G).map V.int)):=by
  rw[hN.pl,hxl];congr 3;exact zao fun i hi=>by rw[hxg i hi]
 have e19:Same H1 H9:=e15.trans (e6.trans e69)
 have e09:Same H' H9:=e1.trans e19
 have fh0:H' h=none:=Same.none fh (e1.trans (e15.trans (e6.trans (e7.trans e8))))
 have e010:Same H' H10:=nb10.same e09 fh0
 have up:∀{x:Addr} {xs:List V},H9 x=some (.lst xs)->H10 x=some (.lst xs):=fun {x xs} q=>nb10.at q (zaF q h9 (by intro z;cases z))
 have hro9:=(e6.trans e69).at hro
 have hlp9:=(e5.trans (e6.trans e69)).at hlp
 have hmv9:=e19.at hmv
 have hmr9:=hmr.same e19
 have hhd9:=e69.at hhd
 have hRc9:=hRc.same e69
 obtain⟨ap1,ap2,ap3,ap4⟩:=zgT hN.st.nd
 have fr9:∀x∈B.pu :: B.pl :: d :: B.ou :: B.mv :: bs,H9 x=none:=fun x hx=>(hN.st.ex x (by
  simp only[ye]at hx
  simp only[ye,yu,yy,or_false]
  rcases hx with z | z | z | z | z | z<;>simp[z])).2.2
 have nf:∀{x y:Addr} {xs:List V},H9 x=some (.lst xs)->y∈B.pu :: B.pl :: d :: B.ou :: B.mv :: bs->x≠y:=fun q hy=>zC q (fr9 _ hy)
 have m1:B.pu∈B.pu :: B.pl :: d :: B.ou :: B.mv :: bs:=.head _
 have m2:B.pl∈B.pu :: B.pl :: d :: B.ou :: B.mv :: bs:=.tail _ (.head _)
 have m3:d∈B.pu :: B.pl :: d :: B.ou :: B.mv :: bs:=.tail _ (.tail _ (.head _))
 have m4:∀x∈B.ou :: B.mv :: bs,x∈B.pu :: B.pl :: d :: B.ou :: B.mv :: bs:=fun x hx=>.tail _ (.tail _ (.tail _ hx))
 have rolp:ro≠lp:=zbK fro hlp
 have mvlp:mv≠lp:=zC ((e2.trans e3).at hmv) flp
 have mvro:mv≠ro:=zC hmv4 fro
 have mslp:∀b∈ms,b≠lp:=fun b hb z=>(hmr.same (e2.trans e3)).fresh flp (z▸hb)
 have msro:∀b∈ms,b≠ro:=fun b hb z=>hmr4.fresh fro (z▸hb)
 obtain⟨X,hX⟩:∃X:KX,X=⟨h,ro,d,lp,mv,ru,B,bs,ms,0,N,W,F,w,1+y⟩:=⟨_,rfl⟩
 have hXh:X.h=h:=by rw[hX]
 have hXro:X.ro=ro:=by rw[hX]
 have hXlp:X.lp=lp:=by rw[hX]
 have hXmv:X.mv=mv:=by rw[hX]
 have hXru:X.ru=ru:=by rw[hX]
 have hXn:X.n=N:=by rw[hX]
 have hXk:X.k=W:=by rw[hX]
 have hW0:KW K T.c_House T.c_Book lP lQ H' X H10 (fun _=>0) G G [] [] [] []:=by
  rw[hX]
  refine⟨e010.t,⟨⟨dx,h10⟩,hpu,hpl,ap1⟩,⟨by have:=hN.bk;rw[hxl]at this;exact this,(fun t ht=>nomatch ht),(fun t ht=>nomatch ht),by show 0<=1000;decide,hN.ru,hN.mv,hN.rows,?_,by rw[hbl];exact okr,by show W<=9;omega,by show bs.length<64;omega,TbW.same e010 hT0⟩,by have:=hN.ou;rw[hxl]at this;exact this,up hro9,⟨yP,rfl,fun i a t z=>nomatch z⟩,(fun t ht=>nomatch ht),up hlp9,up hmv9,⟨hmr9.1,fun i a z=>up (hmr9.2 i a z)⟩,by show ms.length=bs.length;omega,nb10.at ((e4.trans (e5.trans (e6.trans e69))).at hru) (zaF ((e4.trans (e5.trans (e6.trans e69))).at hru) h9 (by intro z;cases z)),(fun z hz=>nomatch hz),?_,fun x hx=>?_,fun x hx=>?_⟩
  ·intro i hi j hj
   exact hmw i (by have hi':i<bs.length:=hi;omega) j hj
  ·show([B.pu,B.pl,d,ro,lp]:List Addr).Nodup
   simp only[yJ,ye,yy,or_false,not_or,yP,and_true,not_false_eq_true]
   exact⟨⟨ap1,ap2,(nf hro9 m1).symm,(nf hlp9 m1).symm⟩,⟨ap3,(nf hro9 m2).symm,(nf hlp9 m2).symm⟩,⟨(nf hro9 m3).symm,(nf hlp9 m3).symm⟩,rolp⟩
  ·have hx':x∈B.ou :: B.mv :: mv :: (bs++(ms++[])):=hx
   show x∉([B.pu,B.pl,d,ro,lp]:List Addr)
   simp only[ye,yu,yy,or_false,not_or]at hx' ⊢
   have hnew:x∈B.ou :: B.mv :: bs->(¬x=B.pu/\¬x=B.pl/\¬x=d/\¬x=ro/\¬x=lp):=fun hm=>⟨(ap4 x hm).1,(ap4 x hm).2.1,(ap4 x hm).2.2,(nf hro9 (m4 x hm)).symm,(nf hlp9 (m4 x hm)).symm⟩
   rcases hx' with z | z | z | z | z
   ·exact hnew (by rw[z];exact .head _)
   ·exact hnew (by rw[z];exact .tail _ (.head _))
   ·rw[z];exact⟨nf hmv9 m1,nf hmv9 m2,nf hmv9 m3,mvro,mvlp⟩
   ·exact hnew (.tail _ (.tail _ z))
   ·obtain⟨j,_,_,hcj⟩:=hmr9.mem z
    exact⟨nf hcj m1,nf hcj m2,nf hcj m3,msro x z,mslp x z⟩
  ·have hx':x∈[B.pu,B.pl,d,ro,lp]:=hx
   simp only[ye,yy,or_false]at hx'
   rcases hx' with z | z | z | z | z
   ·rw[z];exact Same.none (fr9 _ m1) e09
   ·rw[z];exact Same.none (fr9 _ m2) e09
   ·rw[z];exact Same.none (fr9 _ m3) e09
   ·rw[z];exact Same.none fro (e1.trans e14)
   ·rw[z];exact Same.none flp (e1.trans (e2.trans e3))
 have hco':∀(c:Addr) (xs:List V),H5 c=none->H9 c=some (.lst xs)->c∉muts X []/\c∉imms X []/\H' c=none:=fun c xs f5 hcj=>by
  refine⟨fun z=>?_,fun z=>?_,Same.none f5 (e1.trans e15)⟩
  ·rw[hX]at z
   have z':c∈[B.pu,B.pl,d,ro,lp]:=z
   simp only[ye,yy,or_false]at z'
   rcases z' with z | z | z | z | z
   ·exact nf hcj m1 z
   ·exact nf hcj m2 z
   ·exact nf hcj m3 z
   ·rw[z,hro]at f5;cases f5
   ·rw[z,e5.at hlp]at f5;cases f5
  ·rw[hX]at z
   have z':c∈B.ou :: B.mv :: mv :: (bs++(ms++[])):=z
   simp only[ye,yu,yy,or_false]at z'
   rcases z' with z | z | z | z | z
   ·exact nf hcj (m4 c (by rw[z];exact .head _)) rfl
   ·exact nf hcj (m4 c (by rw[z];exact .tail _ (.head _))) rfl
   ·rw[z,e5.at hmv4]at f5;cases f5
   ·exact nf hcj (m4 c (.tail _ (.tail _ z))) rfl
   ·obtain⟨j,_,_,hcm⟩:=(hmr.same e15).mem z
    rw[hcm]at f5;cases f5
 have hco:∀c∈cs,c∉muts X []/\c∉imms X []/\H' c=none:=fun c hc=>by
  obtain⟨j,_,_,hcj⟩:=hRc9.mem hc
  exact hco' c _ (hfc c hc) hcj
 have hch:=hco' hd _ fhd hhd9
 have hhd10:=up hhd9
 have hRc10:Rows H10 cs W F:=⟨hRc9.1,fun i a z=>up (hRc9.2 i a z)⟩
 clear hN fr9 nf m1 m2 m3 m4 ap1 ap2 ap3 ap4 hpu hpl up nb10 h10 hxg hxl hRc9 hhd9 hmr9 hmv9 hlp9 hro9 hI7 hmb hod
 clear hco'
 walk_at "x"
 refine zc5 (xs:=cs.map V.ref) (fun i σ' Hx=>∃(f10:Option V) (F':Nat->Nat->Int),σ'=[some (.ref a),some (.int (N:Int)),some (.int (W:Int)),some (.int (D:Int)),some (.ref mv),some (.ref ru),some (.ref lp),some (.ref ro),some (.ref hd),some (.ref h),f10,none,none,none,none,none,none]/\KW K T.c_House T.c_Book lP lQ H' X Hx (fun _=>0) G G [] [] [] []/\Hx hd=some (.lst (cs.map V.ref))/\Rows Hx cs W F') ⟨_,F,rfl,hW0,hhd10,hRc10⟩ ?_ ?_ ?_
 ·rintro i σ' Hx _ ⟨_,_,_,_,g,_⟩;exact SqL.of g
 ·rintro i x σ' H11 hx ⟨f10,F',rfl,hW11,hhd11,hR11⟩
  have hi:i<cs.length:=by have:=(yl.mp hx).1;rwa [ya]at this
  obtain⟨c,hc⟩:=zN hi
  have ex:x=.ref c:=by rw[yg,hc]at hx;exact(yn hx).symm
  subst ex
  have hcm:=yp hc
  have hS11:SqL K H11 a (ns.map V.int):=hW11.e0.seq hS
  have hrow:=hR11.2 _ _ hc
  have ndc:hd≠c:=fun z=>hndc (z▸hcm)
  walk_at "x"
  rename_i dv dv0 dv1 H12 b12 h12
  exact⟨_,_,rfl,hW11.other b12.l (hco c hcm).1 (hco c hcm).2.1 (hco c hcm).2.2,b12.lst hhd11 ndc,hR11.set b12 hc h12⟩
 rintro σ' H11 ⟨f10,F',rfl,hW11,hhd11,hR11⟩
 have hcs:(cs.map V.ref).length<=1000:=by rw[ya];omega
 walk_at "x"
 rename_i nl H12 fnl e12 hnl H13 b13 h13
 have hW13:=(hW11.same e12).other b13.l hch.1 hch.2.1 hch.2.2
 have hS13:SqL K H13 a (ns.map V.int):=hW13.e0.seq hS
 have hcl16:(zbn (ns.map V.int) none (some 16)).length<=16:=zm8 (k:=16)
 walk_at "x"
 rename_i sc H14 fsc e14' hsc
 have hW14:=hW13.same e14'
 clear hW13 hW11 hW0 hhd11 hhd10 hR11 hRc10 hco hch h13 hnl
 refine zcw (fun i σ' Hx=>∃(g11 g12 g13 g14 g15 g16:Option V) (P L:Nat->Int) (ts:List (T7 × Str)) (as:List Addr),σ'=[some (.ref a),some (.int (N:Int)),some (.int (W:Int)),some (.int (D:Int)),some (.ref mv),some (.ref ru),some (.ref lp),some (.ref ro),some (.ref hd),some (.ref h),f10,g11,g12,g13,g14,g15,g16]/\KW K T.c_House T.c_Book lP lQ H' X Hx P L L ts ts as []/\BdF X.n L (1000000000*(1+(i:Int)))/\(∀i,i<X.n->0<=P i)/\ts.length<=i) ⟨_,_,_,_,_,_,_,G,[],[],rfl,hW14,by rw[hXn];exact hG.mono (by omega),(fun _ _=>yW 0),yf 0⟩ ?_ ?_
 ·rintro i σ' H15 hi ⟨g11,g12,g13,g14,g15,g16,P,L,ts,as,rfl,hW,hB,hP,htl⟩
  have hi20:i<20:=by omega
  have hS15:SqL K H15 a (ns.map V.int):=hW.e0.seq hS
  have hro15:H15 ro=some (.lst (as.map V.ref)):=by have:=hW.ro;rw[hXro]at this;exact this
  have hal:=hW.dr.2.1
  have haml:(as.map V.ref).length=as.length:=ya ..
  have cl_House:=T.cl_House
  have hBm:BdF X.n L (1000000000*(2+(i:Int))):=hB.mono (by omega)
  walk_at "x"
  rename_i wy wy0 wy1
  refine zbb (fun σ' Hx=>∃(g15 g16:Option V) (P L:Nat->Int) (ts:List (T7 × Str)) (as:List Addr),σ'=[some (.ref a),some (.int (N:Int)),some (.int (W:Int)),some (.int (D:Int)),some (.ref mv),some (.ref ru),some (.ref lp),some (.ref ro),some (.ref hd),some (.ref h),f10,some (.int (0+(i:Int))),some (.int (70+16*(0+(i:Int)))),some (.int wy),some (.bl true),g15,g16]/\KW K T.c_House T.c_Book lP lQ H' X Hx P L L ts ts as []/\BdF X.n L (1000000000*(2+(i:Int)))/\(∀i,i<X.n->0<=P i)/\ts.length<=i+1) ?_ ?_
  ·walk_at "x"
   ·refine zK ?_
    refine⟨a,ns,_,N,W,rfl,hS15,by omega,by omega,by omega,by omega,by omega,by omega,fun l H16 t fl e16 hl hD=>?_⟩
    walk_at "x"
    refine zK ?_
    refine⟨H',X,P,L,ts,as,[],l,t,_,by rw[hXh,hXro,hXlp,hXru,hXmv],hW.same e16,hl,(hW.fresh fl).1,by rw[hXk];exact hD,by omega,by omega,by omega,by omega,hB,by omega,by omega,hP,fun H17 P' L' ts' as' hW17 hB17 hP17 htl17=>?_⟩
    walk_at "x"
    exact⟨_,_,P',L',ts',as',rfl,hW17,hB17.mono (by omega),hP17,by omega⟩
   ·refine zK ?_
    refine⟨H',X,P,L,ts,as,[],a,ns,_,_,by rw[hXh,hXro,hXlp,hXru,hXmv],hS,by omega,by omega,hW,by omega,by omega,by omega,by omega,hB,by omega,by omega,hP,fun H16 P' L' hW16 hB16 hP16=>?_⟩
    walk_at "x"
    exact⟨_,_,P',L',ts,as,rfl,hW16,hB16.mono (by omega),hP16,by omega⟩
   ·rename_i c1 c2 hlen x x0 x1
    rw[haml]at x1
    obtain⟨c,hc⟩:=zN (show x.toNat<as.length by omega)
    obtain⟨t,ht⟩:=zN (show x.toNat<ts.length by omega)
    have hat:atI (as.map V.ref) x=some (.ref c):=zaz x0 (by rw[yg,hc];rfl)
    have hrow:H15 c=some (.lst [.int t.1.p,.int t.1.q,.int t.1.w,.int t.1.u,.int t.1.a,.int t.1.y,.int t.1.r,.str t.2]):=hW.dr.2.2 _ c t hc ht
    obtain⟨dxh,hh⟩:=hW.hc.ob
    have hh15:H15 h=some (.ins T.c_House dxh (hfl X.A X.own)):=by rw[<- hXh];exact hh
    have hT:=hW.uk t (yp ht)
    have hcd:c≠X.d:=fun z=>hW.ne.2.2.1.2.2 (z▸yp hc)
    walk_at "x"
    ·rename_i hs
     refine zK ?_
     refine⟨X.h,dxh,X.d,X.A,X.own,_,_,_,x,ts,t,by rw[hXh],hh,hW.hn.bk,x0,ht,hs,fun H16 hB16 g16=>?_⟩
     have hset:∀u∈ts.set x.toNat (t.1, "broken"),u∈ts\/u=(t.1,("broken" : Str)):=fun u hu=>List.mem_or_eq_of_mem_set hu
     have hW16:=hW.dl g16 hB16 (fun u hu=>(hset u hu).elim (hW.hn.tok u) fun z=>by rw[z];exact⟨hT.w0,hT.w1⟩) (fun u hu=>(hset u hu).elim (hW.hn.tu u) fun z=>by rw[z];exact⟨hT.u0,hT.u1⟩) (by rw[yap];omega)
     have hro16:H16 ro=some (.lst (as.map V.ref)):=by have:=hW16.ro;rw[hXro]at this;exact this
     have hrow16:=g16.at hrow hcd
     walk_at "x"
     refine zaN hrow16 (j:=7) rfl fun H17 b17 h17=>?_
     have hW17:=hW16.row (t:=(t.1,("broken" : Str))) b17 hc h17 ⟨hT.p0,hT.p1,hT.q0,hT.q1,hT.pq,hT.w0,hT.w1,hT.u0,hT.u1,.inr rfl⟩
     exact⟨_,_,P,L,_,as,rfl,hW17,hBm,hP,by rw[yap];omega⟩
    ·exact⟨_,_,P,L,ts,as,rfl,hW,hBm,hP,by omega⟩
   ·exact⟨_,_,P,L,ts,as,rfl,hW,hBm,hP,by omega⟩
  ·rintro σ' H16 ⟨g15',g16',P',L',ts',as',rfl,hW16,hB16,hP16,htl16⟩
   have hsz:∀i,i<X.n->sz (L' i)<=60000:=fun j hj=>by
    have:=hB16 j hj
    exact yb (sz200 (by omega) (by omega)) (by decide)
   walk_at "x"
   refine zK ?_
   refine⟨H',X,P',L',ts',as',[],by rw[hXh,hXro,hXlp,hXru,hXmv],hW16,by omega,by omega,by omega,hsz,fun H17 s17 t17=>?_⟩
   walk_at "x"
   exact⟨_,_,_,_,_,_,P',L',ts',as',rfl,hW16.sameT s17 t17,hB16.mono (by omega),hP16,htl16⟩
 ·rintro σ' H15 ⟨g11,g12,g13,g14,g15,g16,P,L,ts,as,rfl,hW,hB,hP,htl⟩
  walk_at "x"
  exact k _
end
end Internal.K
theorem PySem.Challenge.cw_quits_k78_needs_and_pledges_holds : PySem.Challenge.rw_quits_k78_needs_and_pledges.Holds :=
 Internal.K.pre fun T=>Internal.K.znb T
