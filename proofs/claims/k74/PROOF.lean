import PyProof.Rows.All
import KE.KTryMore
import KE.LcSums
import KE.KMinBuiltin
import KE.RegKLenAny
import KE.KFromBytes
import OpenK.ZGo
import OpenK.KSplit
import OpenK.KApp
import Wide.FinOn
import PySem.Challenge.RW_quits_k74_a_day_settled
set_option compiler.extract_closed false
set_option bootstrap.genMatcherCode false
set_option Elab.async false
set_option linter.all false
set_option maxRecDepth 100000
noncomputable section
local macro_rules|`(tactic|lia)=>`(tactic|first|lia -verbose|omega)
set_option hygiene false in
set_option maxHeartbeats 0 in
local macro_rules
|`("0a")=>`((by decide))
|`("0b")=>`((k == NameKind.free&&env.scope.kind == .function&&env.kindOf n == some .cell))
|`("0c")=>`((cst n ds (pQ ps) k))
|`("0d")=>`((by walk_at "l"))
|`("0e")=>`((s.heap.push { cls:=.type "list_iterator",data:=.fields #[.ref l,.int 0 0] }))
|`("0f")=>`((model X.prog X.w))
|`("0g")=>`((starEach (e :: es) X.env=(false,eval e X.env) :: starEach es X.env))
|`("0h")=>`((λS _ _ _ _ _=>(show PG _ _ (zbs K 2 _)from zaS (n:=2) rfl (zH (zaF (gi:=0) S (Or.inl rfl) rfl) (zH (zaF (gi:=1) S (Or.inl rfl) rfl) zaD)))))
|`("0i")=>`((List.range n))
|`("0j")=>`((zae n ds pf P S own ws))
|`("0k")=>`((za (pv 1) ze))
|`("0l")=>`((q.den:Int))
namespace PySem.W.Fast
theorem tw1044480081283756090:True:=⟨⟩
theorem tw10533871838807224180:True:=⟨⟩
theorem tw10544187622351446446:True:=⟨⟩
theorem tw10557161593373856825:True:=⟨⟩
theorem tw106218346360309592:True:=⟨⟩
theorem tw10729083146693244037:True:=⟨⟩
theorem tw10818492705372503518:True:=⟨⟩
theorem tw10839717341868378479:True:=⟨⟩
theorem tw10873353988065700749:True:=⟨⟩
theorem tw10889236999009688950:True:=⟨⟩
theorem tw10939116446505652137:True:=⟨⟩
theorem tw10997530848727437374:True:=⟨⟩
theorem tw1132622701496735965:True:=⟨⟩
theorem tw1144844611786138006:True:=⟨⟩
theorem tw11450493351372105872:True:=⟨⟩
theorem tw11476207161142598282:True:=⟨⟩
theorem tw11524841271770727722:True:=⟨⟩
theorem tw11545880657137308960:True:=⟨⟩
theorem tw11557914037125894209:True:=⟨⟩
theorem tw1156540450154814624:True:=⟨⟩
theorem tw11574789135339929434:True:=⟨⟩
theorem tw1172184148177182558:True:=⟨⟩
theorem tw11749941794894278948:True:=⟨⟩
theorem tw11814477952635643351:True:=⟨⟩
theorem tw11837524493424533701:True:=⟨⟩
theorem tw11849652342200133319:True:=⟨⟩
theorem tw11966904735990834814:True:=⟨⟩
theorem tw11976742192167811311:True:=⟨⟩
theorem tw12052914863595415111:True:=⟨⟩
theorem tw12171287844814992138:True:=⟨⟩
theorem tw12187849205323432719:True:=⟨⟩
theorem tw12231800517537442522:True:=⟨⟩
theorem tw12284716480104940819:True:=⟨⟩
theorem tw12333704983648581966:True:=⟨⟩
theorem tw12352453725331223994:True:=⟨⟩
theorem tw12535312507636878758:True:=⟨⟩
theorem tw12630514029283511947:True:=⟨⟩
theorem tw12684005859109101910:True:=⟨⟩
theorem tw12684590291474284301:True:=⟨⟩
theorem tw12698831699883053280:True:=⟨⟩
theorem tw12883011822537243508:True:=⟨⟩
theorem tw12952973030934739615:True:=⟨⟩
theorem tw1328150022915150228:True:=⟨⟩
theorem tw13297110047767485466:True:=⟨⟩
theorem tw13311828477632958737:True:=⟨⟩
theorem tw13312456631258947441:True:=⟨⟩
theorem tw13324875424687561434:True:=⟨⟩
theorem tw13384995359511317360:True:=⟨⟩
theorem tw13601404899292810717:True:=⟨⟩
theorem tw1367378232044783462:True:=⟨⟩
theorem tw13739546523959171138:True:=⟨⟩
theorem tw13859152493106942193:True:=⟨⟩
theorem tw14188049642227299692:True:=⟨⟩
theorem tw14209903777709131713:True:=⟨⟩
theorem tw14362109556310524826:True:=⟨⟩
theorem tw14403351432339732919:True:=⟨⟩
theorem tw14440525412341324220:True:=⟨⟩
theorem tw14538015329350351157:True:=⟨⟩
theorem tw14616116654155442619:True:=⟨⟩
theorem tw14641827657394096570:True:=⟨⟩
theorem tw14676588712764694435:True:=⟨⟩
theorem tw14687804011387398090:True:=⟨⟩
theorem tw14719684742948691252:True:=⟨⟩
theorem tw14735878205474403009:True:=⟨⟩
theorem tw14805074810709201700:True:=⟨⟩
theorem tw14882725961013110813:True:=⟨⟩
theorem tw14896932175210174935:True:=⟨⟩
theorem tw14905899647044621059:True:=⟨⟩
theorem tw14934966186128104684:True:=⟨⟩
theorem tw14995879170566922458:True:=⟨⟩
theorem tw15052461353841147830:True:=⟨⟩
theorem tw15056520284842394617:True:=⟨⟩
theorem tw1512966399390170248:True:=⟨⟩
theorem tw15177458520052591413:True:=⟨⟩
theorem tw15245742794303664597:True:=⟨⟩
theorem tw15264839851759785547:True:=⟨⟩
theorem tw15274107010521167971:True:=⟨⟩
theorem tw15391438498948703721:True:=⟨⟩
theorem tw15476852734825219346:True:=⟨⟩
theorem tw15494539837484399300:True:=⟨⟩
theorem tw15496286828454433156:True:=⟨⟩
theorem tw15595578810078082759:True:=⟨⟩
theorem tw15636479253712930611:True:=⟨⟩
theorem tw15672886070870817354:True:=⟨⟩
theorem tw1568310038223900760:True:=⟨⟩
theorem tw15791216258851597946:True:=⟨⟩
theorem tw15844842560737935799:True:=⟨⟩
theorem tw15924088494961765047:True:=⟨⟩
theorem tw16061916838401212760:True:=⟨⟩
theorem tw16181628776293533628:True:=⟨⟩
theorem tw163122811285197958:True:=⟨⟩
theorem tw16346361805006744608:True:=⟨⟩
theorem tw16534493593874454220:True:=⟨⟩
theorem tw16620498442275463812:True:=⟨⟩
theorem tw16673145469172977778:True:=⟨⟩
theorem tw1682934887148921879:True:=⟨⟩
theorem tw16834479471919602251:True:=⟨⟩
theorem tw16842539334736120707:True:=⟨⟩
theorem tw16859010445254819107:True:=⟨⟩
theorem tw16901183686406959676:True:=⟨⟩
theorem tw17084066902941705257:True:=⟨⟩
theorem tw17134127834920583702:True:=⟨⟩
theorem tw1726912909927362723:True:=⟨⟩
theorem tw17372536372635261870:True:=⟨⟩
theorem tw17377886355514408432:True:=⟨⟩
theorem tw17519597774653922057:True:=⟨⟩
theorem tw17610379119217256261:True:=⟨⟩
theorem tw1762488611195763595:True:=⟨⟩
theorem tw17679583818111673661:True:=⟨⟩
theorem tw17738833231008113902:True:=⟨⟩
theorem tw17754067508169035278:True:=⟨⟩
theorem tw17770852534574228619:True:=⟨⟩
theorem tw18077846558273063754:True:=⟨⟩
theorem tw1812311449953509630:True:=⟨⟩
theorem tw18143717355937005145:True:=⟨⟩
theorem tw18294162148438506625:True:=⟨⟩
theorem tw18323064569129816334:True:=⟨⟩
theorem tw18363267946794742644:True:=⟨⟩
theorem tw18434324513371754710:True:=⟨⟩
theorem tw1902480528258493502:True:=⟨⟩
theorem tw1940212209815119545:True:=⟨⟩
theorem tw1955748577245341642:True:=⟨⟩
theorem tw1984616890509993748:True:=⟨⟩
theorem tw201845415392850228:True:=⟨⟩
theorem tw239886608609193721:True:=⟨⟩
theorem tw244785301046938329:True:=⟨⟩
theorem tw2489511500264862521:True:=⟨⟩
theorem tw2548355658921561465:True:=⟨⟩
theorem tw2611530187078315906:True:=⟨⟩
theorem tw2703381156039357797:True:=⟨⟩
theorem tw2743187597724032756:True:=⟨⟩
theorem tw2918834532502736127:True:=⟨⟩
theorem tw2933472766745857828:True:=⟨⟩
theorem tw2953371584267610703:True:=⟨⟩
theorem tw299694397651821425:True:=⟨⟩
theorem tw3006952005101433436:True:=⟨⟩
theorem tw3150949159718243910:True:=⟨⟩
theorem tw3329806160820299360:True:=⟨⟩
theorem tw3382446529120142536:True:=⟨⟩
theorem tw34694368104313211:True:=⟨⟩
theorem tw3487051286046089730:True:=⟨⟩
theorem tw3501726698967766228:True:=⟨⟩
theorem tw3536854640095229948:True:=⟨⟩
theorem tw3556803291971448633:True:=⟨⟩
theorem tw3575359877156449941:True:=⟨⟩
theorem tw3903856609346130231:True:=⟨⟩
theorem tw3905833133895157534:True:=⟨⟩
theorem tw4056512651258337471:True:=⟨⟩
theorem tw4139261319430975843:True:=⟨⟩
theorem tw4183377620173523325:True:=⟨⟩
theorem tw4201596431856008043:True:=⟨⟩
theorem tw4250728340213938888:True:=⟨⟩
theorem tw4276799189446948828:True:=⟨⟩
theorem tw437206586534365091:True:=⟨⟩
theorem tw4441539181720020192:True:=⟨⟩
theorem tw4475935611510113120:True:=⟨⟩
theorem tw4580717499706510733:True:=⟨⟩
theorem tw4587708242890726252:True:=⟨⟩
theorem tw473131415956995602:True:=⟨⟩
theorem tw4804032438374535763:True:=⟨⟩
theorem tw4837929854122101443:True:=⟨⟩
theorem tw4897316603939259977:True:=⟨⟩
theorem tw4966521732382549448:True:=⟨⟩
theorem tw5002373665692545749:True:=⟨⟩
theorem tw5190827414445491820:True:=⟨⟩
theorem tw5198038512924802610:True:=⟨⟩
theorem tw5360840370794427482:True:=⟨⟩
theorem tw5425784038110999519:True:=⟨⟩
theorem tw5440290989658591507:True:=⟨⟩
theorem tw5499727212849397901:True:=⟨⟩
theorem tw5500536916744875358:True:=⟨⟩
theorem tw557034914185646060:True:=⟨⟩
theorem tw5583095940432689394:True:=⟨⟩
theorem tw5612568016249240660:True:=⟨⟩
theorem tw5643536280643237018:True:=⟨⟩
theorem tw5659979297893034102:True:=⟨⟩
theorem tw5921053171156116668:True:=⟨⟩
theorem tw5940030008384062134:True:=⟨⟩
theorem tw5997179356126710368:True:=⟨⟩
theorem tw6102196656973289959:True:=⟨⟩
theorem tw6115111620402816280:True:=⟨⟩
theorem tw6266247562335061821:True:=⟨⟩
theorem tw6340446084000880155:True:=⟨⟩
theorem tw6386471979805794701:True:=⟨⟩
theorem tw6409668059256471445:True:=⟨⟩
theorem tw642750872574314946:True:=⟨⟩
theorem tw6565584731860343284:True:=⟨⟩
theorem tw6606649999551697995:True:=⟨⟩
theorem tw6829776480626916105:True:=⟨⟩
theorem tw7037197336355780116:True:=⟨⟩
theorem tw7068162518722264201:True:=⟨⟩
theorem tw7086347641725695433:True:=⟨⟩
theorem tw7335302298751265829:True:=⟨⟩
theorem tw7339727337318025823:True:=⟨⟩
theorem tw7410310293908739143:True:=⟨⟩
theorem tw7423733519232042601:True:=⟨⟩
theorem tw7630967213433897288:True:=⟨⟩
theorem tw7806303989397248541:True:=⟨⟩
theorem tw7879185918117255750:True:=⟨⟩
theorem tw7883769931538220862:True:=⟨⟩
theorem tw7903325243379389884:True:=⟨⟩
theorem tw7905965269632110908:True:=⟨⟩
theorem tw7908348016313724759:True:=⟨⟩
theorem tw8076111275151450500:True:=⟨⟩
theorem tw8076210429132208727:True:=⟨⟩
theorem tw8104308660154659618:True:=⟨⟩
theorem tw8187932538213393387:True:=⟨⟩
theorem tw8213074260156388357:True:=⟨⟩
theorem tw8249460627897286252:True:=⟨⟩
theorem tw8305545352542334710:True:=⟨⟩
theorem tw8334522081057297659:True:=⟨⟩
theorem tw848304603680447128:True:=⟨⟩
theorem tw8624106842313435876:True:=⟨⟩
theorem tw8788929581937129093:True:=⟨⟩
theorem tw888618715852958121:True:=⟨⟩
theorem tw8937029012677589865:True:=⟨⟩
theorem tw9182203480387741098:True:=⟨⟩
theorem tw9324295941146769548:True:=⟨⟩
theorem tw9326975322251447770:True:=⟨⟩
theorem tw9409297584257571996:True:=⟨⟩
theorem tw9585640843010183308:True:=⟨⟩
theorem tw9760552654208120079:True:=⟨⟩
theorem tw9847366870319684779:True:=⟨⟩
theorem tw9883224412427628051:True:=⟨⟩
theorem tw9896379377712494192:True:=⟨⟩
end PySem.W.Fast
open PySem PySem.W PyProof.Rows in
set_option maxRecDepth 100000 in
set_option maxHeartbeats 0 in
open_top pre0 for PySem.Challenge.rw_quits_k74_a_day_settled
local macro_rules|`(⋯)=>`(by lia)
abbrev Fg:=PySem.W.Frag
abbrev ya:=@List.length_map
abbrev yb:=@List.mem_of_getElem?
abbrev yc:=@List.length_append
abbrev ye:=@List.getElem?_map
abbrev yf:=@List.getD_eq_getElem?_getD
abbrev yg:=@Nat.le_refl
abbrev yh:=@List.getElem?_eq_some_iff
abbrev yi:=@List.map_append
abbrev yj:=@Nat.le_trans
abbrev yk:=@List.getElem?_eq_getElem
abbrev yl:=@Nat.succ_le_succ
abbrev ym:=@Int.toNat_natCast
abbrev yn:=@Option.some.inj
abbrev yp:=@List.size_toArray
abbrev yq:=@List.mem_append_right
abbrev yr:=@Bool.false_ne_true
abbrev yt:=@List.mem_append_left
abbrev yu:=@List.mem_singleton
abbrev yv:=@Nat.ne_of_lt
abbrev yw:=@List.take_length
abbrev yx:=@List.length_range
abbrev yy:=@List.mem_cons
abbrev yz:=@Classical.byContradiction
abbrev yA:=@List.range_succ
abbrev yB:=@List.getElem_of_mem
abbrev yC:=@Nat.lt_of_lt_of_le
abbrev yE:=@Rat.le_refl
abbrev yF:=@Rat.intCast_mul
abbrev yG:=@List.getElem?_eq_none
abbrev yH:=@List.getElem?_append_left
abbrev yI:=@Rat.mul_nonneg
abbrev yJ:=@Rat.mul_le_mul_of_nonneg_left
abbrev yK:=@List.map_congr_left
abbrev yL:=@List.mem_append
abbrev yM:=@List.map_singleton
abbrev yO:=@Rat.intCast_add
abbrev yP:=@List.mem_range
abbrev yQ:=@List.lookup_cons
abbrev yR:=@Rat.le_trans
abbrev yS:=@Rat.mul_le_mul_of_nonneg_right
abbrev yT:=@Int.mul_le_mul_of_nonneg_right
abbrev yU:=@List.getElem?_range
abbrev yV:=@List.mem_cons_of_mem
abbrev yW:=@Nat.zero_le
abbrev yX:=@Nat.lt_or_eq_of_le
abbrev yY:=@Nat.lt_irrefl
abbrev yZ:=@List.getElem?_append_right
abbrev y3:=@List.length_drop
abbrev y4:=@Bool.and_eq_true
abbrev y6:=@Int.le_refl
abbrev y8:=@List.mem_map
abbrev y9:=@Int.natAbs_natCast
abbrev yaa:=@Int.mul_ediv_cancel_left
abbrev yab:=@List.ext_getElem?
abbrev yac:=@Nat.le_of_lt_succ
abbrev yad:=@List.eq_nil_of_length_eq_zero
abbrev yae:=@Nat.lt_of_le_of_lt
abbrev yaf:=@List.take_of_length_le
abbrev yag:=@List.append_nil
abbrev yah:=@List.length_singleton
abbrev yai:=@List.mem_cons_self
abbrev yaj:=@PySem.W.kia_one
abbrev yak:=@Int.emod_lt_of_pos
abbrev yal:=@Int.mul_nonpos_of_nonneg_of_nonpos
abbrev yam:=@List.map_cons
abbrev yan:=@Int.mul_comm
abbrev yao:=@Int.emod_nonneg
abbrev yap:=@List.not_mem_nil
abbrev yaq:=@Classical.em
abbrev yar:=@Classical.epsilon_spec
abbrev yas:=@PySem.F.plain_min_loop
abbrev yat:=@List.foldl_append
abbrev yau:=@Int.ediv_mul_cancel
abbrev yav:=@Nat.mul_le_mul_left
abbrev yaw:=@List.length_set
abbrev yax:=@Int.ne_of_gt
abbrev yay:=@List.length_cons
abbrev yaz:=@List.nodup_append
abbrev yaA:=@PyProof.Rows.callWith_type1
abbrev yaB:=@List.replicate_succ
abbrev yaC:=@List.length_take
abbrev yaD:=@List.filter_append
abbrev yaE:=@List.nodup_nil
abbrev yaF:=@List.getElem?_eq_none_iff
abbrev yaG:=@List.mem_filter
abbrev yaH:=@List.getElem?_append
abbrev yaI:=@List.getElem?_set
abbrev yaJ:=@PySem.F.plainAttrs_list
abbrev yaK:=@List.nodup_cons
abbrev yaL:=@Nat.not_lt_zero
abbrev yaM:=@Rat.intCast_neg
abbrev yaN:=@PySem.W.mg_of
abbrev yaO:=@Nat.le_succ_of_le
abbrev yaP:=@Nat.pow_le_pow_right
abbrev yaQ:=@List.pairwise_iff_getElem
abbrev yaR:=@Int.mul_pos
abbrev yaS:=@Nat.le_of_lt
abbrev yaT:=@Int.le_of_lt
abbrev yaU:=@Nat.lt_succ_self
abbrev yaV:=@List.take_succ_eq_append_getElem
abbrev yaW:=@PySem.mem_of_lookup
abbrev yaX:=@List.eraseIdx_eq_take_drop_succ
abbrev yaY:=@List.getElem?_replicate
abbrev yaZ:=@Rat.not_lt
abbrev ya0:=@Nat.eq_zero_or_pos
abbrev ya1:=@List.getElem?_drop
abbrev ya2:=@Int.mul_one
abbrev ya3:=@Nat.pow_add
abbrev ya4:=@Int.mul_le_mul_of_nonneg_left
abbrev ya5:=@List.flatten_cons
abbrev ya6:=@Int.mul_left_comm
abbrev ya7:=@Rat.divInt_eq_div
abbrev ya8:=@Ne.symm
abbrev ya9:=@Int.mul_ediv_add_emod
abbrev yba:=@List.take_zero
abbrev ybb:=@Nat.pow_lt_pow_right
abbrev ybc:=@Int.ediv_pos_of_pos_of_dvd
abbrev ybd:=@Int.mul_assoc
abbrev ybe:=@Int.mul_add
abbrev ybf:=@List.map_eq_nil_iff
abbrev ybg:=@Nat.two_pow_pos
abbrev ybh:=@Rat.le_of_mul_le_mul_left
abbrev ybi:=@List.mem_or_eq_of_mem_set
abbrev ybj:=@Option.isSome_iff_exists
abbrev ybk:=@Rat.num_divInt_den
abbrev ybl:=@Int.lt_or_le
abbrev ybm:=@Nat.mul_le_mul
abbrev ybn:=@List.filter_cons_of_pos
abbrev ybo:=@List.filter_cons_of_neg
abbrev ybp:=@Nat.lt_succ_of_lt
abbrev ybq:=@List.getElem?_set_self
abbrev ybr:=@Int.add_mul
abbrev ybs:=@Rat.mul_pos
abbrev ybt:=@Rat.div_def
abbrev ybu:=@PySem.F.entry_min_loop
abbrev ybv:=@List.length_filter_le
abbrev ybw:=@List.take_append_drop
abbrev ybx:=@List.getElem?_set_ne
abbrev yby:=@Bool.eq_iff_iff
abbrev ybz:=@Nat.pow_succ
abbrev ybA:=@PySem.SeqAt.eqv_refl
abbrev ybB:=@List.Nodup.length_le_of_subset
abbrev ybC:=@List.filterMap_cons
abbrev ybD:=@Rat.divInt_mul_left
abbrev ybE:=@List.length_pos_iff
abbrev ybF:=@Int.natAbs_mul
abbrev ybG:=@Int.gcd_eq_natAbs_gcd_natAbs
abbrev ybH:=@Int.mul_nonneg
abbrev ybI:=@List.mem_filterMap
abbrev ybJ:=@Bool.false_eq_true
abbrev ybK:=@Rat.neg_divInt_neg
abbrev ybL:=@Nat.lt_or_gt_of_ne
abbrev ybM:=@Rat.div_mul_cancel
abbrev ybN:=@List.getElem?_concat_length
abbrev ybO:=@Rat.sub_eq_add_neg
abbrev ybP:=@List.all_cons
abbrev ybQ:=@List.any_cons
abbrev ybR:=@List.append_assoc
abbrev ybS:=@Nat.le_of_succ_le
abbrev ybT:=@List.getElem_take
abbrev ybU:=@List.getElem_inj
abbrev ybV:=@List.all_eq_true
abbrev ybW:=@List.map_set
abbrev ybX:=@List.nodup_range
abbrev ybY:=@List.getElem_mem
abbrev ybZ:=@Nat.mod_eq_of_lt
abbrev yb0:=@Int.le_trans
abbrev yb1:=@Rat.mul_comm
abbrev yb2:=@List.of_mem_zip
abbrev yb3:=@Rat.intCast_sub
abbrev yb4:=@Int.one_mul
namespace Internal
variable {A:Around}{C a b:Addr}{K:Fg}{M:Model}{N ps:List Str}{P:Program}{e iter tg:Expr}{fd:FuncData}{fp:List Addr}{h:Heap}{i j k n t':Nat}{its us:List Value}{lo:Int}{pins:List (Addr × Obj)}{s:Shared}{u:Value}{w:World}{x:Str}
theorem aut0(h:True:=by first | exact .inl rfl | exact .inr rfl | assumption):True:=h
theorem aut1(h:True:=by decide):True:=h
theorem aut2(h:True:=by rfl):True:=h
theorem aut3(h:True:=by intro _;rfl):True:=h
theorem aut4(h:True:=by intros;rfl):True:=h
theorem aut5(h:True:=by exact λ_ _=>rfl):True:=h
theorem aut6(h:True:=by exact λ_=>rfl):True:=h
theorem aut7(h:True:=by first | exact Or.inl rfl | exact Or.inr rfl):True:=h
theorem aut8(h:True:=by first | exact .inl rfl | exact .inr rfl):True:=h
open PySem PySem.Spec PyProof.Rows
abbrev Key:=Sum Int Str
noncomputable def zru:Key->Value->Bool
 | .inl k,v=>Value.isInt k v
 | .inr x,v=>Value.isStrOf x v
noncomputable def zvl (w:World):Key->Int
 | .inl k=>hashInt k
 | .inr x=>hashStr w x
def zbg:∀{k:Key} {v:Value},zru k v=true->(∃i t,k=Sum.inl i/\v=Value.int i t)\/(∃x t,k=Sum.inr x/\v=Value.str x t)
 | .inl i,v,h=>by
  obtain⟨t,e⟩:=Value.isInt_shape (k:=i) (v:=v) h;exact .inl ⟨i,t,rfl,e⟩
 | .inr x,v,h=>by
  obtain⟨t,e⟩:=Value.isStrOf_shape (x:=x) (v:=v) h;exact .inr ⟨x,t,rfl,e⟩
def ztJ(a b:Int):decide ((Sum.inl a:Key)=Sum.inl b)=(a == b):=by
 by_cases e:a=b
 ·subst e;simp
 ·have h:¬(Sum.inl a:Key)=Sum.inl b:=λq=>e (Sum.inl.inj q);rw[decide_eq_false h];exact(beq_eq_false_iff_ne.mpr e).symm
def ztq(a b:Str):decide ((Sum.inr a:Key)=Sum.inr b)=decide (a=b):=by
 by_cases e:a=b
 ·subst e;simp
 ·have h:¬(Sum.inr a:Key)=Sum.inr b:=λq=>e (Sum.inr.inj q);rw[decide_eq_false h,decide_eq_false e]
def zuC(a:Int)(b:Str):decide ((Sum.inl a:Key)=Sum.inr b)=false:=decide_eq_false (λq=>nomatch q)
def zts(a:Str)(b:Int):decide ((Sum.inr a:Key)=Sum.inl b)=false:=decide_eq_false (λq=>nomatch q)
noncomputable def ziU (prog:Program) (w:World):PySem.KeyKind prog w Key where
 is:=zru
 hash:=zvl w
 inj:=λv a b ha f=>by
  rcases zbg ha with⟨i,t,rfl,rfl⟩ | ⟨x,t,rfl,rfl⟩
  ·rcases zbg f with⟨j,u,rfl,e⟩ | ⟨y,u,rfl,e⟩
   ·injection e with c _;rw[c]
   ·exact nomatch e
  ·rcases zbg f with⟨j,u,rfl,e⟩ | ⟨y,u,rfl,e⟩
   ·exact nomatch e
   ·injection e with c _;rw[c]
 byValue:=λk v h=>by
  rcases zbg h with⟨i,t,rfl,rfl⟩ | ⟨x,t,rfl,rfl⟩<;>rfl
 pyHash:=λd h=>by
  rcases zbg d with⟨i,t,rfl,rfl⟩ | ⟨x,t,rfl,rfl⟩
  ·exact wpAny_pyHash_int h
  ·exact wpAny_pyHash_str h
 eqBool:=λg d h=>by
  rcases zbg g with⟨i,t,rfl,rfl⟩ | ⟨x,t,rfl,rfl⟩
  ·rcases zbg d with⟨j,u,rfl,rfl⟩ | ⟨y,u,rfl,rfl⟩
   ·rw[ztJ]at h;exact wpAny_eqBool_int h
   ·rw[zuC]at h;exact SeqAt.EqAt.int_str i t y u _ _ _ _ h
  ·rcases zbg d with⟨j,u,rfl,rfl⟩ | ⟨y,u,rfl,rfl⟩
   ·rw[zts]at h;exact SeqAt.EqAt.str_int x t j u _ _ _ _ h
   ·rw[ztq]at h;exact wpAny_eqBool_str h
 «strs»:=λk x t v h=>by
  rcases zbg h with⟨i,u,rfl,e⟩ | ⟨y,u,rfl,e⟩
  ·exact nomatch e
  ·injection e with c _
   subst c;cases v<;>rfl
inductive V where
 | non | bl (b:Bool) | int (i:Int) | str (x:Str) | byt (b:Array UInt8) | flt (b:UInt64) | ref (a:Addr) | ty (n:String)
 deriving DecidableEq
variable {v y:V}{xs:List V}
noncomputable def RelV:V->Value->Prop
 | .non,u=>u=Value.none
 | .bl b,u=>u=Value.bool b
 | .int i,u=>∃t,u=Value.int i t
 | .str x,u=>∃t,u=Value.str x t
 | .byt b,u=>∃t,u=Value.bytes b t
 | .flt b,u=>∃t,u=Value.float b t
 | .ref a,u=>u=Value.ref a
 | .ty n,u=>u=Value.type n
abbrev Vals:List V->List Value->Prop:=Paired RelV
theorem Vals.length{xs:List V}{us:List Value}(r:Vals xs us):xs.length=us.length:=Paired.length r
theorem Vals.get:∀{xs:List V} {us:List Value} {i:Nat} {x:V},Vals xs us->xs[i]?=some x->∃u,us[i]?=some u/\RelV x u
 | _,_,_,_,.nil,e=>by simp at e
 | _,_,0,_,.cons r _,e=>by simp at e;subst e;exact⟨_,rfl,r⟩
 | _,_,i+1,x,.cons _ t,e=>by
  obtain⟨u,h1,h2⟩:=Vals.get (i:=i) (x:=x) t (by simpa using e);exact⟨u,by simpa using h1,h2⟩
theorem Vals.set{x:V}{u:Value}(r:RelV x u):∀{xs:List V} {us:List Value} (i:Nat),Vals xs us->Vals (xs.set i x) (us.set i u)
 | _,_,_,.nil=>.nil
 | _,_,0,.cons _ t=>.cons r t
 | _,_,i+1,.cons q t=>.cons q (Vals.set r i t)
theorem Vals.append:∀{xs ys:List V} {us ws:List Value},Vals xs us->Vals ys ws->Vals (xs++ys) (us++ws)
 | _,_,_,_,.nil,s=>s
 | _,_,_,_,.cons r t,s=>.cons r (Vals.append t s)
theorem Vals.take:∀{xs:List V} {us:List Value} (n:Nat),Vals xs us->Vals (xs.take n) (us.take n)
 | _,_,0,_=>.nil
 | _,_,_+1,.nil=>.nil
 | _,_,n+1,.cons r t=>.cons r (Vals.take n t)
theorem Vals.drop:∀{xs:List V} {us:List Value} (n:Nat),Vals xs us->Vals (xs.drop n) (us.drop n)
 | _,_,0,r=>r
 | _,_,_+1,.nil=>.nil
 | _,_,n+1,.cons _ t=>Vals.drop n t
noncomputable def zqn:Option V->Option Value->Prop
 | some v,some u=>RelV v u
 | none,none=>True
 | _,_=>False
noncomputable def KV {κ:Type}:List (κ × V)->List (κ × Value)->Prop:=Paired fun(p:κ × V) (q:κ × Value)=>p.1=q.1/\RelV p.2 q.2
noncomputable def kV:Key->V
 | .inl i=>.int i
 | .inr x=>.str x
inductive HO where
 /-- a list -/
 | lst (xs:List V)
 /-- a tuple (never changes) -/
 | tup (xs:List V)
 /-- a dict whose keys are ints and texts;one whose keys are tuples of ints and texts (the empty one is both) -/
 | dK (kvs:List (Key × V)) | dT (kvs:List (List Key × V))
 /-- a set of ints: its members,its size -/
 | set (S:Int->Bool) (n:Nat)
 /-- an instance of the class at C,its dict at dx,its attributes -/
 | ins (C dx:Addr) (fs:List (Str × V))
 /-- the dict of the instance at x -/
 | own (x:Addr)
 /-- the dict of an exception -/
 | xd (fs:List (Str × V))
 /-- a bound method,f of x -/
 | met (f x:Addr)
 /-- a range object lo,lo+1,.. below hi -/
 | rng (lo hi:Int)
 /-- a thing that is known to the object (the script;a dict while a loop walks it): read,never written while it is so -/
 | frz (o:Obj) (u:HO)
 /-- a code object's table -/
 | tbl (ps:Array Value)
 /-- any other thing,by what is true of its one object (a def of one's own: SetO a S n:=HO.ext λh=>..) -/
 | ext (φ:Heap->Prop)
variable {o:HO}
abbrev Hp:=Addr->Option HO
variable {H H':Hp}
noncomputable def upd (H:Hp) (a:Addr) (o:HO):Hp:=λb=>if b=a then some o else H b
def zam:upd H a o a=some o:=by unfold upd;rw[if_pos rfl]
def zag(h:b≠a):upd H a o b=H b:=by unfold upd;rw[if_neg h]
def zu8{u:HO}(h:H a=some o)(h':H b=some u)(d:o≠u):a≠b:=by
 intro e;subst e;rw[h]at h';exact d (yn h')
def zQ(h:H a=some o)(h':H b=none):a≠b:=by
 intro e;subst e;rw[h]at h';cases h'
section
variable (P:Program)(w:World)
noncomputable def ObjOk (H:Hp) (h:Heap) (a:Addr):HO->Prop
 | .lst xs=>xs.length<=sizeLine/\∃(its:List Value) (n:Nat),Vals xs its/\h.get? a=some { cls:=.type "list",data:=.seq its.toArray n }
 | .tup xs=>xs.length<=sizeLine/\∃its:List Value,Vals xs its/\IsTup h a its.toArray
 | .dK kvs=>kvs.length<=sizeLine/\(a == sysModules)=false/\∃vs,KV kvs vs/\h.DictOf (ziU P w) a vs
 | .dT kvs=>kvs.length<=sizeLine/\(a == sysModules)=false/\∃xs:List (List Key × Addr × Value),
   Paired (fun(p:List Key × V) (q:List Key × Addr × Value)=>p.1=q.1/\H q.2.1=some (.tup (p.1.map kV))/\RelV p.2 q.2.2) kvs xs /\
   ∃o es ep,h.get? a=some o/\o.ExactDict/\o.data=.dict es ep/\es.toList=xs.map (entryOfKey (tupleKind (ziU P w)))/\(xs.map (·.1)).Nodup
 | .set S n=>h.SetOf (intKind P w) a S n
 | .ins C dx fs=>H dx=some (.own a)/\fs.length<=1000/\dx≠a/\h.get? a=some (PySem.W.instObj C dx) /\
   ∃mA,h.Ns1 dx mA/\(∀f,zqn (fs.lookup f) (mA f))/\PySem.Within mA (fs.map (·.1))
 | .own _=>∃o,h.get? a=some o
 | .xd fs=>∃mA,h.Ns1 a mA/\∀f,zqn (fs.lookup f) (mA f)
 | .rng lo hi=>∃t u v,h.get? a=some { cls:=.type "range",data:=.fields #[.int lo t,.int hi u,.int 1 v] }
 | .frz o u=>h.get? a=some o/\ObjOk H h a u
 | .tbl ps=>h.get? a=some { cls:=.none,data:=.fields ps }
 | .met f x=>h.get? a=some (PySem.W.methodObj (.ref f) (.ref x))
 | .ext φ=>φ h/\(∃o,h.get? a=some o)/\∀h1 h2:Heap,φ h1->(∀o,h1.get? a=some o->h2.get? a=some o)->φ h2
noncomputable def HOk (H:Hp) (h:Heap):Prop:=∀a o,H a=some o->ObjOk P w H h a o
end
section
variable {P:Program}{w:World}{H H':Hp}{h h':Heap}{a:Addr}{o:HO}
theorem ObjOk.lt(x:ObjOk P w H h a o):a<h.objs.size:=by
 cases o with
 | lst xs=>obtain⟨_,_,_,_,e⟩:=x;exact Heap.lt_size e
 | tup xs=>obtain⟨_,_,_,p⟩:=x;exact p.lt
 | dK kvs=>obtain⟨_,_,_,_,o,_,_,e,_⟩:=x;exact Heap.lt_size e
 | dT kvs=>obtain⟨_,_,_,_,o,_,_,e,_⟩:=x;exact Heap.lt_size e
 | set S n=>obtain⟨o,_,_,_,e,_⟩:=x;exact Heap.lt_size e
 | ins C dx fs=>obtain⟨_,_,_,e,_⟩:=x;exact Heap.lt_size e
 | own y=>obtain⟨_,e⟩:=x;exact Heap.lt_size e
 | xd fs=>obtain⟨_,⟨_,_,_,e,_⟩,_⟩:=x;exact Heap.lt_size e
 | rng lo hi=>obtain⟨_,_,_,e⟩:=x;exact Heap.lt_size e
 | frz ob u=>obtain⟨e,_⟩:=x;exact Heap.lt_size e
 | tbl ps=>exact Heap.lt_size (show h.get? a=some _ from x)
 | met f y=>exact Heap.lt_size (show h.get? a=some _ from x)
 | ext φ=>obtain⟨_,⟨_,e⟩,_⟩:=x;exact Heap.lt_size e
theorem Paired.mapP{α β:Type}{F G:α->β->Prop}:∀{l₁:List α} {l₂:List β},Paired F l₁ l₂->(∀a b,F a b->G a b)->Paired G l₁ l₂
 | _,_,.nil,_=>.nil
 | _,_,.cons r t,f=>.cons (f _ _ r) (Paired.mapP t f)
def ObjOk.stay(x:ObjOk P w H h a o)(k:∀b u,(b=a\/H b=some (.own a))->h.get? b=some u->h'.get? b=some u)
  (ho:∀b,H b=some (.own a)->H' b=some (.own a)) (ht:∀b xs,H b=some (.tup xs)->H' b=some (.tup xs)):ObjOk P w H' h' a o:=by
 induction o with
 | lst xs=>obtain⟨z,its,n,r,e⟩:=x;exact⟨z,its,n,r,k _ _ (.inl rfl) e⟩
 | tup xs=>obtain⟨z,its,r,g,e,c⟩:=x;exact⟨z,its,r,g,k _ _ (.inl rfl) e,c⟩
 | dK kvs=>obtain⟨z,y,vs,r,g,es,i,e,c⟩:=x;exact⟨z,y,vs,r,g,es,i,k _ _ (.inl rfl) e,c⟩
 | dT kvs=>
  obtain⟨z,y,xs,r,g,es,i,e,c⟩:=x;exact⟨z,y,xs,Paired.mapP r λp q z=>⟨z.1,ht _ _ z.2.1,z.2.2⟩,g,es,i,k _ _ (.inl rfl) e,c⟩
 | set S n=>obtain⟨g,es,i,t,e,c⟩:=x;exact⟨g,es,i,t,k _ _ (.inl rfl) e,c⟩
 | ins C dx fs=>
  obtain⟨d,z,ne,e,mA,⟨j,es,i,l,c⟩,r⟩:=x;exact⟨ho _ d,z,ne,k _ _ (.inl rfl) e,mA,⟨j,es,i,k _ _ (.inr d) l,c⟩,r⟩
 | own y=>obtain⟨g,e⟩:=x;exact⟨g,k _ _ (.inl rfl) e⟩
 | xd fs=>obtain⟨mA,⟨j,es,i,e,c⟩,r⟩:=x;exact⟨mA,⟨j,es,i,k _ _ (.inl rfl) e,c⟩,r⟩
 | rng lo hi=>obtain⟨t,u,v,e⟩:=x;exact⟨t,u,v,k _ _ (.inl rfl) e⟩
 | frz g u ih=>obtain⟨e,q⟩:=x;exact⟨k _ _ (.inl rfl) e,ih q⟩
 | tbl ps=>
  have e:h.get? a=some { cls:=.none,data:=.fields ps }:=x;show h'.get? a=some { cls:=.none,data:=.fields ps };exact k a _ (.inl rfl) e
 | met f y=>
  have e:h.get? a=some (PySem.W.methodObj (.ref f) (.ref y)):=x;show h'.get? a=some (PySem.W.methodObj (.ref f) (.ref y));exact k a _ (.inl rfl) e
 | ext φ=>obtain⟨p,⟨o,e⟩,st⟩:=x;exact⟨st _ _ p λo q=>k _ _ (.inl rfl) q,⟨o,k _ _ (.inl rfl) e⟩,st⟩
theorem HOk.lt(x:HOk P w H h)(e:H a=some o):a<h.objs.size:=(x a o e).lt
def HOk.fresh(x:HOk P w H h)(e:h.objs.size<=a):H a=none:=by
 cases q:H a with
 | none=>rfl
 | some u=>exact absurd (yC (x.lt q) e) (yY _)
def HOk.kept(x:HOk P w H h)(k:∀b u,h.get? b=some u->h'.get? b=some u):HOk P w H h':=λa o e=>
 (x a o e).stay (λb u _ q=>k b u q) (λ_ q=>q) λ_ _ q=>q
def HOk.laid(x:HOk P w H h)(k:∀b u,h.get? b=some u->h'.get? b=some u)(hp:h.objs.size<=a)(new:ObjOk P w (upd H a o) h' a o):HOk P w (upd H a o) h':=λb u e=>by
 have d:=x.fresh hp;by_cases f:b=a
 ·subst f;rw[zam]at e;cases e;exact new
 ·rw[zag f]at e;exact(x b u e).stay (λc v _ q=>k c v q) (λc q=>by rw[zag (zQ q d)];exact q) λc xs q=>by rw[zag (zQ q d)];exact q
end
noncomputable def Rd (H:Hp) (a:Addr) (u:HO):Prop:=H a=some u\/∃o,H a=some (.frz o u)
def Rd.ok{u:HO}(r:Rd H a u)(x:HOk P w H h):ObjOk P w H h a u:=by
 rcases r with r | ⟨o,r⟩
 ·exact x a u r
 ·obtain⟨_,q⟩:=x a _ r;exact q
noncomputable def Mut:Option HO->Prop
 | some (.lst _)=>True
 | some (.dK _)=>True
 | some (.dT _)=>True
 | some (.set _ _)=>True
 | some (.ins _ _ _)=>True
 | some (.ext _)=>True
 | _=>False
section
variable {P:Program}{w:World}{H:Hp}{h h':Heap}{x e:Addr}{o':HO}
def HOk.write(ok:HOk P w H h)(j:Mut (H x))(m:e=x\/H e=some (.own x))(k:∀b u,b≠e->h.get? b=some u->h'.get? b=some u)(l:∃u,h'.get? e=some u)
  (new:ObjOk P w (upd H x o') h' x o'):HOk P w (upd H x o') h':=λb u q=>by
 have d:∀c y,H c=some (.own y)->c≠x:=λc y r z=>by subst z;rw[r]at j;exact j
 have f:∀c xs,H c=some (.tup xs)->c≠x:=λc xs r z=>by subst z;rw[r]at j;exact j
 by_cases g:b=x
 ·subst g;rw[zam]at q;cases q;exact new
 ·rw[zag g]at q;by_cases a:b=e
  ·have q':H b=some (.own x):=by
    rcases m with z | z
    ·exact absurd (a.trans z) g
    ·rw[a];exact z
   rw[q]at q';cases q';obtain⟨v,n⟩:=l;exact⟨v,by rw[a];exact n⟩
  ·refine(ok b u q).stay (λc v i r=>k c v ?_ r) (λc r=>by rw[zag (d c b r)];exact r) λc xs r=>by rw[zag (f c xs r)];exact r
   rcases i with rfl | i
   ·exact a
   ·rintro rfl;rcases m with z | z
    ·exact d c b i z
    ·rw[i]at z;cases z;exact g rfl
end
set_option genInjectivity false in
set_option genSizeOf false in
structure Un(fs ex:List Addr)(H H':Hp)(h h':Heap):Prop where
 keep:∀b o,h.get? b=some o->H b=none->b∉fs->b∉ex->h'.get? b=some o
 slot:∀b o,h.get? b=some o->H b=none->b∈fs->b∉ex->∃sl,h'.get? b=some { o with slots:=sl }
 free:∀b o,h.get? b=some o->H b=none->b∉ex->H' b=none
 there:∀b o,h.get? b=some o->b∉ex->∃o',h'.get? b=some o'
 tups:∀b xs,H b=some (.tup xs)->H' b=some (.tup xs)
 frzs:∀b o u,H b=some (.frz o u)->H' b=some (.frz o u)
 tbls:∀b ps,H b=some (.tbl ps)->∃more,H' b=some (.tbl (ps++more))
section
variable {fs fs' ex ex':List Addr}{H H1 H2:Hp}{h h1 h2 h':Heap}{a x e:Addr}{o:HO}
def Un.any(u:Un fs ex H H1 h h1){a:Obj}(q:h.get? b=some a)(n:H b=none)(c:b∉ex):∃sl,h1.get? b=some { a with slots:=sl }:=by
 by_cases d:b∈fs
 ·exact u.slot b a q n d c
 ·exact⟨a.slots,u.keep b a q n d c⟩
def Un.kept(k:∀b u,h.get? b=some u->h'.get? b=some u):Un fs ex H H h h':=
 ⟨λb a q _ _ _=>k b a q,λb a q _ _ _=>⟨a.slots,k b a q⟩,λ_ _ _ n _=>n,λb a q _=>⟨a,k b a q⟩,λ_ _ q=>q,λ_ _ _ q=>q,λ_ ps q=>⟨#[],by rw[q];simp⟩⟩
def Un.refl:Un fs ex H H h h:=Un.kept λ_ _ q=>q
def Un.laid(k:∀b u,h.get? b=some u->h'.get? b=some u)(hp:h.objs.size<=a)(c:H a=none):Un fs ex H (upd H a o) h h' where
 keep:=λb u q _ _ _=>k b u q
 slot:=λb u q _ _ _=>⟨u.slots,k b u q⟩
 free:=λb u q n _=>by rw[zag (yv (yC (Heap.lt_size q) hp))];exact n
 there:=λb u q _=>⟨u,k b u q⟩
 tups:=λb xs q=>by rw[zag (zQ q c)];exact q
 frzs:=λb u xs q=>by rw[zag (zQ q c)];exact q
 tbls:=λb ps q=>⟨#[],by rw[zag (zQ q c),q];simp⟩
def Un.write(c:Mut (H x))(j:e=x\/H e=some (.own x))(k:∀b u,b≠e->h.get? b=some u->h'.get? b=some u)(f:∃u,h'.get? e=some u):Un fs ex H (upd H x o) h h':=by
 have i:∀b,H b=none->b≠x:=λb n z=>by subst z;rw[n]at c;exact c
 have g:∀b,H b=none->b≠e:=λb n z=>by
  subst z;rcases j with r | r
  ·exact i b n r
  ·rw[n]at r;cases r
 have d:∀b u,H b=some u->¬Mut (some u)->b≠x:=λb u q nm z=>by subst z;rw[q]at c;exact nm c
 refine⟨λb u q n _ _=>k b u (g b n) q,λb u q n _ _=>⟨u.slots,k b u (g b n) q⟩,λb u q n _=>by rw[zag (i b n)];exact n,λb u q _=>?_,
  λb xs q=>by rw[zag (d b _ q λz=>z)];exact q,λb u xs q=>by rw[zag (d b _ q λz=>z)];exact q,λb ps q=>⟨#[],by rw[zag (d b _ q λz=>z),q];simp⟩⟩
 by_cases a:b=e
 ·subst a;exact f
 ·exact⟨u,k b u a q⟩
end
noncomputable def trk (h:Heap) (H:Hp):List Addr:=(List.range h.objs.size).filter λa=>(H a).isSome
noncomputable def ze1 (h:Heap) (H:Hp):Heap:=PySem.W.hideAll h (trk h H)
def zpn(h:Heap)(H:Hp):(ze1 h H).objs.size=h.objs.size:=PySem.W.hideAll_size _ _
def zqb{o:Obj}(e:h.get? b=some o)(n:H b=none):(ze1 h H).get? b=some o:=
 PySem.W.hideAll_get _ e λa=>by
  have q:(H b).isSome=true:=(yaG.mp a).2;rw[n]at q;simp at q
def zs1{o:Obj}(e:(ze1 h H).get? b=some o):h.get? b=some o/\H b=none:=by
 have a:h.get? b=some o:=PySem.W.of_hideAll (trk h H) e;refine⟨a,?_⟩;cases q:H b with
 | none=>rfl
 | some x=>
  have c:b∈trk h H:=yaG.mpr ⟨yP.mpr (Heap.lt_size a),by simp[q]⟩;have z:(ze1 h H).get? b=none:=PySem.W.hideAll_none (trk h H) c;rw[z]at e;cases e
noncomputable def zsi (g h:Heap) (L:Addr):List (Addr × Obj):=(List.range h.objs.size).filterMap λa=>if a=L\/(g.get? a).isSome=true then none else(h.get? a).map λo=>(a,o)
noncomputable def rest (g h:Heap) (L d:Addr):List (Addr × Obj):=(zsi g h L).filter λp=>decide (p.1≠d)
set_option genInjectivity false in
set_option genSizeOf false in
structure Mod(K:Fg)(mg:Str->Option Value)(base:Heap):Prop where
 kin:K.In base
 glob:base.Ns mainGlobals mg
 blt:∃mb,base.Ns builtinsNs mb/\∀x:Str,x ≠ "__name__" -> mb x=bootBuiltins x
 nolimit:base.NoLimit
set_option genSizeOf false in
structure Cx where
 prog:Program
 w:World
 K:Fg
 mg:Str->Option Value
 base:Heap
 A:Around
 N:List Str
 s₀:Shared
 H₀:Hp
 env:Env
 outer:List Env
 stack:List Env
 ex:List Addr
 fn:Str->Bool
 calm:Bool
 pn:List (Addr × Obj)
 xe:Value->Shared->Prop
variable {X:Cx}
noncomputable def frs (l:List Env):List Addr:=l.filterMap (·.frame)
abbrev Cx.fs(X:Cx):List Addr:=frs X.outer
noncomputable def Vis (a:Scope) (x:Str):Prop:=a.names.lookup x=some .local\/a.names.lookup x=some .cell\/a.names.lookup x=some .free
noncomputable def Loc (a:Scope) (x:Str):Prop:=a.names.lookup x=some .local\/a.names.lookup x=some .cell
noncomputable def zvt (env:Env) (h:Heap) (m:Str->Option Value) (x:Str) (u:Value):Prop:=
 (env.kindOf x=some .local/\m x=some u)\/((env.kindOf x=some .cell\/env.kindOf x=some .free)/\∃c,env.cells.lookup x=some c/\h.IsCell c (some u))
set_option genSizeOf false in
structure Cx.Ok(X:Cx):Prop where
 mod:Mod X.K X.mg X.base
 kind:X.env.scope.kind=.function
 glob:X.env.globals=mainGlobals
 blt:X.env.builtins=builtinsNs
 above:X.s₀.heap.objs.size<=X.env.locals
 inj:∀x y c,X.env.cells.lookup x=some c->X.env.cells.lookup y=some c->x=y
 has:∀x,(X.env.kindOf x=some .cell\/X.env.kindOf x=some .free)->∃c,X.env.cells.lookup x=some c
 cab:∀x c,X.fn x=true->X.env.cells.lookup x=some c->X.s₀.heap.objs.size<=c
 hd:X.calm=true->X.A.handled=none
 frames:X.A.frames=some X.stack
 stk:X.stack=X.outer\/(X.stack=X.env :: X.outer/\X.env.frame=some X.env.locals)
 exf:∀b∈X.ex,b≠X.env.locals/\∀x c,X.env.cells.lookup x=some c->c≠b
 bs:∀b o,X.base.get? b=some o->X.s₀.heap.get? b=some o/\X.H₀ b=none
 bsz:X.base.objs.size<=X.s₀.heap.objs.size
 noex:∀b o,X.base.get? b=some o->b∉X.ex
 exfs:∀b∈X.ex,b∉X.fs
 funs:X.s₀.heap.FunFrames X.base X.outer
 frf:∀b∈X.fs,X.H₀ b=none
set_option genInjectivity false in
set_option genSizeOf false in
structure Inv(X:Cx)(pins:List (Addr × Obj))(σ:List (Option V))(H:Hp)(s:Shared):Prop where
 ok:X.Ok
 os:s.os=X.s₀.os
 bare:AllBare s.gens
 base:Un X.fs X.ex X.H₀ H X.s₀.heap s.heap
 loc:∃m,s.heap.Ns X.env.locals m/\∀(i:Nat) (x:Str) (v:V),X.N[i]?=some x->σ[i]?=some (some v)->Vis X.env.scope x->∃u,RelV v u/\zvt X.env s.heap m x u
 cell:∀x c,X.env.cells.lookup x=some c->∃v,s.heap.IsCell c v
 free:H X.env.locals=none
 freeC:∀x c,X.env.cells.lookup x=some c->H c=none
 pin:∀p∈X.pn++pins,s.heap.get? p.1=some p.2/\H p.1=none/\p.1≠X.env.locals/\p.1∉X.fs/\∀v,p.2.data≠.cell v
 hok:HOk X.prog X.w H s.heap
 len:σ.length=X.N.length
section
variable {X:Cx}{pins:List (Addr × Obj)}{σ:List (Option V)}{H H':Hp}{s:Shared}{h':Heap}
def Cx.Ok.nofr(ok:X.Ok){o:Obj}(e:X.base.get? b=some o):b∉X.fs:=λa=>by
 have:=(ok.funs.mem a).1
 rw[e]at this;cases this
theorem Inv.bs(I:Inv X pins σ H s):∀b o,X.base.get? b=some o->s.heap.get? b=some o/\H b=none:=λb o e=>
 ⟨I.base.keep b o (I.ok.bs b o e).1 (I.ok.bs b o e).2 (I.ok.nofr e) (I.ok.noex b o e),I.base.free b o (I.ok.bs b o e).1 (I.ok.bs b o e).2 (I.ok.noex b o e)⟩
def Inv.bk(I:Inv X pins σ H s):∀b o,X.base.get? b=some o->s.heap.get? b=some o:=λb o e=>(I.bs b o e).1
theorem Inv.mod(I:Inv X pins σ H s):Mod X.K X.mg X.base:=I.ok.mod
def Inv.kIn(I:Inv X pins σ H s):X.K.In s.heap:=I.ok.mod.kin.keeps I.bk
theorem Inv.lt(I:Inv X pins σ H s):X.env.locals<s.heap.objs.size:=let ⟨_,hn,_⟩:=I.loc;hn.lt
def Inv.sz(I:Inv X pins σ H s):X.s₀.heap.objs.size<=s.heap.objs.size:=yj I.ok.above (yaS I.lt)
def Inv.nofs(I:Inv X pins σ H s)(h:s.heap.objs.size<=a):a∉X.fs:=λb=>by
 obtain⟨_,o,c,_⟩:=I.ok.funs.mem b;exact absurd (yC (Heap.lt_size c) (yj I.sz h)) (yY _)
def Inv.cne(I:Inv X pins σ H s):∀x c,X.env.cells.lookup x=some c->c≠X.env.locals:=λx c e z=>by
 obtain⟨v,o,d,hd⟩:=I.cell x c e;obtain⟨m,⟨o',es,f,b,a,_⟩,_⟩:=I.loc;rw[z,b]at d;cases d;rw[a]at hd;cases hd
theorem Inv.funs(I:Inv X pins σ H s):s.heap.FunFrames X.base X.outer:=by
 have all:∀(l:List Env),(∀b∈frs l,b∈X.fs)->X.s₀.heap.FunFrames X.base l->s.heap.FunFrames X.base l:=by
  intro l
  induction l with
  | nil=>intro _ _;trivial
  | cons env r ih=>
   intro f hl;obtain⟨h,⟨L,o,a,i,j,hd⟩,g⟩:=hl;have c:L∈X.fs:=f L (by unfold frs;rw[ybC,a];exact yai);obtain⟨k,e⟩:=I.base.slot L o j (I.ok.frf L c) c λz=>I.ok.exfs L z c;exact⟨h,⟨L,_,a,i,e,hd⟩,ih (λb d=>f b (by unfold frs;rw[ybC,a];exact yV _ d)) g⟩
 exact all X.outer (λ_ d=>d) I.ok.funs
theorem Inv.stack(I:Inv X pins σ H s):s.heap.FunFrames X.base X.stack:=by
 rcases I.ok.stk with e | ⟨e,a⟩
 ·rw[e];exact I.funs
 ·rw[e];obtain⟨m,b,_⟩:=I.loc;refine .cons (by rw[I.ok.kind];decide) a b ?_ I.funs;exact Heap.get?_none_of_le (yj I.ok.bsz I.ok.above)
def Inv.stkSub(I:Inv X pins σ H s):∀b∈frs X.stack,b∈X.env.locals :: X.fs:=λb a=>by
 rcases I.ok.stk with e | ⟨e,c⟩
 ·rw[e]at a;exact yV _ a
 ·rw[e]at a;unfold frs at a;rw[ybC,c]at a;exact a
def Inv.stkFree(I:Inv X pins σ H s):∀b∈frs X.stack,H b=none:=λb a=>by
 rcases yy.mp (I.stkSub b a)with e | a
 ·rw[e];exact I.free
 ·obtain⟨_,o,c,_⟩:=I.ok.funs.mem a;exact I.base.free b o c (I.ok.frf b a) λz=>I.ok.exfs b z a
def Inv.step{g':Array GenState}{t':Nat}{d':Drawn}{ch:List Addr}(I:Inv X pins σ H s)
  (hch:∀b∈ch,(b∈X.ex\/X.s₀.heap.objs.size<=b)/\b≠X.env.locals/\(∀x c,X.env.cells.lookup x=some c->c≠b)/\∀p∈X.pn++pins,p.1≠b)
  (keep:∀b o,b≠X.env.locals->b∉X.fs->b∉ch->s.heap.get? b=some o->H b=none->h'.get? b=some o)
  (slot:∀b o,b≠X.env.locals->b∈X.fs->b∉ch->s.heap.get? b=some o->H b=none->∃C,h'.get? b=some { o with slots:=C }) (free:∀b o,b∉ch->s.heap.get? b=some o->H b=none->H' b=none)
  (there:∀b o,b∉ch->s.heap.get? b=some o->∃o',h'.get? b=some o')
  (tups:∀b xs,H b=some (.tup xs)->H' b=some (.tup xs)) (frzs:∀b o u,H b=some (.frz o u)->H' b=some (.frz o u)) (tbls:∀b ps,H b=some (.tbl ps)->∃more,H' b=some (.tbl (ps++more)))
  (ns:∀m,s.heap.Ns X.env.locals m->h'.Ns X.env.locals m) (hok:HOk X.prog X.w H' h') (hg:AllBare g') :
  Inv X pins σ H' { s with heap:=h',gens:=g',drawn:=d',toks:=t' }:=by
 have B:∀b o,X.s₀.heap.get? b=some o->b≠X.env.locals:=λb o e=>yv (yC (Heap.lt_size e) I.ok.above);have h:∀b o,X.s₀.heap.get? b=some o->b∉X.ex->b∉ch:=λb o e a t=>by
  rcases(hch b t).1 with z | z
  ·exact a z
  ·exact absurd (yC (Heap.lt_size e) z) (yY _)
 have f:∀x c,X.env.cells.lookup x=some c->∀v,s.heap.IsCell c v->h'.IsCell c v:=λx c e v ⟨o,y,hd⟩=>by
  have g:c∉ch:=λz=>(hch c z).2.2.1 x c e rfl;by_cases F:c∈X.fs
  ·obtain⟨C,q⟩:=slot c o (I.cne x c e) F g y (I.freeC x c e);exact⟨_,q,hd⟩
  ·exact⟨o,keep c o (I.cne x c e) F g y (I.freeC x c e),hd⟩
 refine⟨I.ok,I.os,hg,⟨λb o e n t a=>?_,λb o e n t a=>?_,λb o e n a=>?_,λb o e a=>?_,λb xs e=>tups b xs (I.base.tups b xs e),λb o xs e=>frzs b o xs (I.base.frzs b o xs e),λb ps e=>?_⟩,?_,λx c e=>?_,?_,λx c e=>?_,λp hp=>?_,hok,I.len⟩
 ·exact keep b o (B b o e) t (h b o e a) (I.base.keep b o e n t a) (I.base.free b o e n a)
 ·obtain⟨C,j⟩:=I.base.slot b o e n t a;obtain⟨D,A⟩:=slot b _ (B b o e) t (h b o e a) j (I.base.free b o e n a);exact⟨D,A⟩
 ·obtain⟨o',j⟩:=I.base.there b o e a;exact free b o' (h b o e a) j (I.base.free b o e n a)
 ·obtain⟨o',j⟩:=I.base.there b o e a;exact there b o' (h b o e a) j
 ·obtain⟨K,j⟩:=I.base.tbls b ps e;obtain⟨G,A⟩:=tbls b _ j;exact⟨K++G,by rw[A,Array.append_assoc]⟩
 ·obtain⟨m,L,hl⟩:=I.loc;refine⟨m,ns m L,λi x v j A J=>?_⟩;obtain⟨u,r,l⟩:=hl i x v j A J;refine⟨u,r,?_⟩;rcases l with l | ⟨k,c,e,z⟩
  ·exact .inl l
  ·exact .inr ⟨k,c,e,f x c e _ z⟩
 ·obtain⟨v,z⟩:=I.cell x c e;exact⟨v,f x c e v z⟩
 ·obtain⟨m,⟨o,_,_,y,_⟩,_⟩:=I.loc;exact free _ o (λz=>(hch _ z).2.1 rfl) y I.free
 ·obtain⟨v,o,y,hd⟩:=I.cell x c e;exact free c o (λz=>(hch c z).2.2.1 x c e rfl) y (I.freeC x c e)
 ·obtain⟨e,n,ne,E,d⟩:=I.pin p hp;have g:p.1∉ch:=λz=>(hch p.1 z).2.2.2 p hp rfl;exact⟨keep p.1 p.2 ne E g e n,free p.1 p.2 g e n,ne,E,d⟩
def Inv.un(I:Inv X pins σ H s)(u:Un X.fs [] H H' s.heap h')(hok:HOk X.prog X.w H' h'):Inv X pins σ H' { s with heap:=h',toks:=t' }:=by
 obtain⟨m,⟨o,es,k,g,r⟩,_⟩:=id I.loc;obtain⟨p,i⟩:=u.any g I.free (by simp);exact I.step (g':=s.gens) (d':=s.drawn) (ch:=[]) (λ_ z=>nomatch z) (λb o _ f _ e n=>u.keep b o e n f (by simp)) (λb o _ f _ e n=>u.slot b o e n f (by simp)) (λb o _ e n=>u.free b o e n (by simp)) (λb o _ e=>u.there b o e (by simp)) u.tups u.frzs u.tbls (λl j=>by
  obtain⟨o',d,c,a,h⟩:=j;rw[g]at a;cases a;exact⟨_,d,c,i,h⟩) hok I.bare
def Inv.call{g':Array GenState}{t':Nat}{d':Drawn}{ch:List Addr}(I:Inv X pins σ H s)(u:Un (frs X.stack) ch H H' s.heap h')(hok:HOk X.prog X.w H' h')(k:AllBare g')
  (hch:∀b∈ch,(b∈X.ex\/X.s₀.heap.objs.size<=b)/\b≠X.env.locals/\(∀x c,X.env.cells.lookup x=some c->c≠b)/\∀p∈X.pn++pins,p.1≠b) :
  Inv X pins σ H' { s with heap:=h',gens:=g',drawn:=d',toks:=t' }:=by
 obtain⟨m,⟨o,es,t,i,r⟩,_⟩:=id I.loc;obtain⟨y,g⟩:=u.any i I.free λz=>(hch _ z).2.1 rfl;exact I.step (ch:=ch) hch (λb o g q a e n=>u.keep b o e n (λz=>(yy.mp (I.stkSub b z)).elim g q) a) (λb o _ _ a e n=>u.any e n a) (λb o a e n=>u.free b o e n a) (λb o a e=>u.there b o e a) u.tups u.frzs u.tbls (λv l=>by
  obtain⟨o',h,f,d,j⟩:=l;rw[i]at d;cases d;exact⟨_,h,f,g,j⟩) hok k
def Inv.turned{t':Nat}{it:Addr}(I:Inv X pins σ H s)(k:∀b o,b≠it->s.heap.get? b=some o->h'.get? b=some o)(i:H it=none)(f:it≠X.env.locals)
  (h1:it∈X.ex\/X.s₀.heap.objs.size<=it) (h2:∀x c,X.env.cells.lookup x=some c->c≠it) (h3:∀p∈X.pn++pins,p.1≠it):Inv X pins σ H { s with heap:=h',toks:=t' }:=by
 have d:∀b u,H b=some u->b≠it:=λb u e z=>by rw[z,i]at e;cases e
 refine I.step (g':=s.gens) (d':=s.drawn) (ch:=[it]) (λb j=>?_) (λb o _ _ a e _=>k b o (λz=>a (by simp[z])) e) (λb o _ _ a e _=>⟨o.slots,k b o (λz=>a (by simp[z])) e⟩) (λ_ _ _ _ n=>n)
  (λb o a e=>⟨o,k b o (λz=>a (by simp[z])) e⟩) (λ_ _ e=>e) (λ_ _ _ e=>e) (λb ps e=>⟨#[],by rw[e];simp⟩) (λm h=>?_) (λb u e=>?_) I.bare
 ·have e:b=it:=by simpa using j
  subst e;exact⟨h1,f,h2,h3⟩
 ·obtain⟨o,es,g,l,r⟩:=h;exact⟨o,es,g,k _ o (ya8 f) l,r⟩
 ·refine(I.hok b u e).stay (λc v a q=>k c v ?_ q) (λ_ q=>q) λ_ _ q=>q;rcases a with z | z
  ·rw[z];exact d b u e
  ·exact d c _ z
def Inv.tok(I:Inv X pins σ H s)(t:Nat):Inv X pins σ H { s with toks:=t }:=I.un (h':=s.heap) (t':=t) Un.refl I.hok
theorem Inv.kept{t':Nat}(I:Inv X pins σ H s)(k:∀b u,s.heap.get? b=some u->h'.get? b=some u):Inv X pins σ H { s with heap:=h',toks:=t' }:=I.un (Un.kept k) (I.hok.kept k)
theorem Inv.laid{a:Addr}{o:HO}{t':Nat}(I:Inv X pins σ H s)(k:∀b u,s.heap.get? b=some u->h'.get? b=some u)(hp:s.heap.objs.size<=a)(new:ObjOk X.prog X.w (upd H a o) h' a o) :
  Inv X pins σ (upd H a o) { s with heap:=h',toks:=t' }:=I.un (Un.laid k hp (I.hok.fresh hp)) (I.hok.laid k hp new)
theorem Inv.write{x e:Addr}{o:HO}{t':Nat}(I:Inv X pins σ H s)(d:Mut (H x))(c:e=x\/H e=some (.own x))(k:∀b u,b≠e->s.heap.get? b=some u->h'.get? b=some u)(a:∃u,h'.get? e=some u)
  (new:ObjOk X.prog X.w (upd H x o) h' x o):Inv X pins σ (upd H x o) { s with heap:=h',toks:=t' }:=I.un (Un.write d c k a) (I.hok.write d c k a new)
def Inv.pins_of{a:List (Addr × Obj)}(I:Inv X pins σ H s)(h:∀p∈a,s.heap.get? p.1=some p.2/\H p.1=none/\p.1≠X.env.locals/\p.1∉X.fs/\∀v,p.2.data≠.cell v):Inv X a σ H s:=
 ⟨I.ok,I.os,I.bare,I.base,I.loc,I.cell,I.free,I.freeC,λp hp=>(yL.mp hp).elim (λz=>I.pin p (yt _ z)) (h p),I.hok,I.len⟩
def zht(c:N.Nodup)(a:N[i]?=some x)(b:N[j]?=some x):i=j:=by
 obtain⟨h1,d⟩:=yh.mp a;obtain⟨h2,e⟩:=yh.mp b;exact(ybU c).mp (d.trans e.symm)
def zjF{M:Model}{A:Around}{E:Value->Shared->Prop}{Q:Unit->Shared->Prop}(I:Inv X pins σ H s)(hN:X.N.Nodup)(hi:X.N[i]?=some x)(B:Loc X.env.scope x)(r:RelV v u)
  (h:∀s',Inv X pins (σ.set i (some v)) H s'->(∃a,Heap.SameBut a s.heap s'.heap/\(a=X.env.locals\/X.env.cells.lookup x=some a))->Q () s') (hf:autoParam (X.fn x=true\/X.env.scope.names.lookup x=some .local) Internal.aut0._auto_1):wpAny M A (storeName X.env x u) Q E s:=by
 obtain⟨m,hn,hl⟩:=id I.loc;have L:(X.env.scope.kind == .class || (X.env.scope.kind == .module&&X.env.locals != X.env.globals))=false:=by rw[I.ok.kind];rfl
 have P:i < σ.length:=by rw[I.len];exact(yh.mp hi).1
 have cne:=I.cne;have g:∀{a:Addr} {h':Heap},(∃o,s.heap.get? a=some o/\H a=none)->Heap.SameBut a s.heap h'->HOk X.prog X.w H h':=λ{a h'} ha f b ob e=>by
  obtain⟨_,_,C⟩:=ha;refine(I.hok b ob e).stay (λc U t q=>(f.2 c ?_).trans q) (λ_ q=>q) λ_ _ q=>q;rintro rfl;rcases t with rfl | t
  ·rw[C]at e;cases e
  ·rw[C]at t;cases t
 rcases B with F | F
 ·refine wpAny_storeName_local F hn (λh' a0 f=>?_) L;obtain⟨oL,_,_,a1,_⟩:=id hn;refine h _ ⟨I.ok,I.os,I.bare,⟨λb o e n J B=>?_,λb o e n J B=>?_,I.base.free,λb o e B=>?_,I.base.tups,I.base.frzs,I.base.tbls⟩,⟨_,a0,λj y Z l D e3=>?_⟩,λy c e=>?_,I.free,I.freeC,λp hp=>?_,g ⟨oL,a1,I.free⟩ f,by simpa using I.len⟩ ⟨_,f,.inl rfl⟩
  ·exact(f.2 b (yv (yC (Heap.lt_size e) I.ok.above))).trans (I.base.keep b o e n J B)
  ·obtain⟨sl,l⟩:=I.base.slot b o e n J B;exact⟨sl,(f.2 b (yv (yC (Heap.lt_size e) I.ok.above))).trans l⟩
  ·obtain⟨o',l⟩:=I.base.there b o e B;exact⟨o',(f.2 b (yv (yC (Heap.lt_size e) I.ok.above))).trans l⟩
  ·by_cases K:j=i
   ·subst K;rw[hi]at l;cases l;rw[ybq P]at D;cases D;exact⟨u,r,.inl ⟨F,by simp⟩⟩
   ·rw[ybx (ya8 K)]at D;obtain⟨u',W,q⟩:=hl j y Z l D e3;refine⟨u',W,?_⟩;rcases q with⟨k,e⟩ | ⟨k,c,e,z⟩
    ·refine .inl ⟨k,?_⟩
     have:y≠x:=λe=>K (zht hN l (e▸hi))
     simp[this,e]
    ·exact .inr ⟨k,c,e,z.sameBut f (cne y c e)⟩
  ·obtain⟨U,z⟩:=I.cell y c e;exact⟨U,z.sameBut f (cne y c e)⟩
  ·obtain⟨e,n,ne,Y,d⟩:=I.pin p hp;exact⟨(f.2 p.1 ne).trans e,n,ne,Y,d⟩
 ·have G:X.fn x=true:=by
   rcases hf with z | z
   ·exact z
   ·rw[z]at F;cases F
  obtain⟨c,t⟩:=I.ok.has x (.inl F);obtain⟨U,z⟩:=I.cell x c t;refine wpAny_storeName_cell I.ok.kind F t z (λh' T f=>?_);obtain⟨oc,O,R⟩:=id z;refine h { s with heap:=h' } ⟨I.ok,I.os,I.bare,⟨λb o e n J B=>?_,λb o e n J B=>?_,I.base.free,λb o e B=>?_,I.base.tups,I.base.frzs,I.base.tbls⟩,⟨m,hn.sameBut f (ya8 (cne x c t)),λj y Z l D e3=>?_⟩,λy V e=>?_,I.free,I.freeC,λp hp=>?_,g ⟨oc,O,I.freeC x c t⟩ f,by simpa using I.len⟩ ⟨c,f,.inr t⟩
  ·exact(f.2 b (yv (yC (Heap.lt_size e) (I.ok.cab x c G t)))).trans (I.base.keep b o e n J B)
  ·obtain⟨sl,l⟩:=I.base.slot b o e n J B;exact⟨sl,(f.2 b (yv (yC (Heap.lt_size e) (I.ok.cab x c G t)))).trans l⟩
  ·obtain⟨o',l⟩:=I.base.there b o e B;exact⟨o',(f.2 b (yv (yC (Heap.lt_size e) (I.ok.cab x c G t)))).trans l⟩
  ·by_cases K:j=i
   ·subst K;rw[hi]at l;cases l;rw[ybq P]at D;cases D;exact⟨u,r,.inr ⟨.inl F,c,t,T⟩⟩
   ·rw[ybx (ya8 K)]at D;obtain⟨u',W,q⟩:=hl j y Z l D e3;refine⟨u',W,?_⟩;rcases q with q | ⟨k,V,e,z'⟩
    ·exact .inl q
    ·refine .inr ⟨k,V,e,z'.sameBut f ?_⟩;rintro rfl;exact K (zht hN l (I.ok.inj _ _ _ e t▸hi))
  ·by_cases S:V=c
   ·subst S;exact⟨_,T⟩
   ·obtain⟨w2,z2⟩:=I.cell y V e;exact⟨w2,z2.sameBut f S⟩
  ·obtain⟨e,n,ne,Y,d⟩:=I.pin p hp;refine⟨(f.2 p.1 ?_).trans e,n,ne,Y,d⟩;intro q;rw[q,O]at e;have q':oc=p.2:=yn e;exact d U (by rw[<- q'];exact R)
def ze8{M:Model}{A:Around}{E:Value->Shared->Prop}{Q:Unit->Shared->Prop}(I:Inv X pins σ H s)(b:X.N.Nodup)(hi:X.N[i]?=some x)(c:Loc X.env.scope x)(r:RelV v u)
  (h:∀s',Inv X pins (σ.set i (some v)) H s'->Q () s') (hf:autoParam (X.fn x=true\/X.env.scope.names.lookup x=some .local) Internal.aut0._auto_1):wpAny M A (storeName X.env x u) Q E s:=
 zjF I b hi c r (λs' a _=>h s' a) hf
def Inv.call'{s':Shared}{ch:List Addr}(I:Inv X pins σ H s)(d:s'.os=s.os)(u:Un (frs X.stack) ch H H' s.heap s'.heap)(hok:HOk X.prog X.w H' s'.heap)(a:AllBare s'.gens)
  (hch:∀b∈ch,(b∈X.ex\/X.s₀.heap.objs.size<=b)/\b≠X.env.locals/\(∀x c,X.env.cells.lookup x=some c->c≠b)/\∀p∈X.pn++pins,p.1≠b):Inv X pins σ H' s':=by
 obtain⟨h',g',d',t',o'⟩:=s';have e:o'=s.os:=d;subst e;exact I.call (g':=g') (t':=t') (d':=d') u hok a hch
end
abbrev XK:=Value->Option Addr->Hp->Prop
abbrev St:=List (Option V)
variable {σ:St}
abbrev VK:=V->Hp->Prop
variable {Q:VK}
abbrev TE:=St->Hp->VK->Prop
abbrev TT:=St->Hp->(Bool->Hp->Prop)->Prop
abbrev TA:=St->Hp->(List V->Hp->Prop)->Prop
set_option genInjectivity false in
set_option genSizeOf false in
structure Ends where
 nx:St->Hp->Prop
 rt:VK
 bk:St->Hp->Prop:=λ_ _=>False
 ct:St->Hp->Prop:=λ_ _=>False
abbrev TS:=Ends->St->Hp->Prop
noncomputable def EP (X:Cx) (pins:List (Addr × Obj)) (σ:St) (Q:VK) (u:Value) (s':Shared):Prop:=∃v H',Inv X pins σ H' s'/\RelV v u/\Q v H'
noncomputable def TP (X:Cx) (pins:List (Addr × Obj)) (σ:St) (Q:Bool->Hp->Prop) (b:Bool) (s':Shared):Prop:=∃H',Inv X pins σ H' s'/\Q b H'
noncomputable def AP (X:Cx) (pins:List (Addr × Obj)) (σ:St) (Q:List V->Hp->Prop) (us:List Value) (s':Shared):Prop:=∃vs H',Inv X pins σ H' s'/\Vals vs us/\Q vs H'
noncomputable def SP (X:Cx) (pins:List (Addr × Obj)) (D:Ends) (f:Flow) (s':Shared):Prop:=
 match f with
 | .next=>∃σ' H',Inv X pins σ' H' s'/\D.nx σ' H'
 | .brk=>∃σ' H',Inv X pins σ' H' s'/\D.bk σ' H'
 | .cont=>∃σ' H',Inv X pins σ' H' s'/\D.ct σ' H'
 | .ret u=>∃v σ' H',Inv X pins σ' H' s'/\RelV v u/\D.rt v H'
noncomputable def PE (X:Cx) (e:Expr) (t:TE):Prop:=
 ∀(pins:List (Addr × Obj)) (s:Shared) (σ:St) (H:Hp) (Q:VK),Inv X pins σ H s->t σ H Q->wpAny "0f" X.A (eval e X.env) (EP X pins σ Q) X.xe s
noncomputable def PT (X:Cx) (e:Expr) (t:TT):Prop:=
 ∀(pins:List (Addr × Obj)) (s:Shared) (σ:St) (H:Hp) (Q:Bool->Hp->Prop),Inv X pins σ H s->t σ H Q->wpAny "0f" X.A (isTrue e X.env (eval e X.env)) (TP X pins σ Q) X.xe s
noncomputable def PW (X:Cx) (e:Expr) (t:TT):Prop:=
 ∀(whole:Sem Value) (pins:List (Addr × Obj)) (s:Shared) (σ:St) (H:Hp) (Q:Bool->Hp->Prop),Inv X pins σ H s->t σ H Q->wpAny "0f" X.A (isTrue e X.env whole) (TP X pins σ Q) X.xe s
def PW.pt{t:TT}(h:PW X e t):PT X e t:=h _
noncomputable def PA (X:Cx) (es:List Expr) (t:TA):Prop:=
 ∀(pos:Pos) (pins:List (Addr × Obj)) (s:Shared) (σ:St) (H:Hp) (Q:List V->Hp->Prop),Inv X pins σ H s->t σ H Q->wpAny "0f" X.A (spliced (backTo pos (starEach es X.env))) (AP X pins σ Q) X.xe s
noncomputable def PS (X:Cx) (st:Stmt) (t:TS):Prop:=
 ∀(pins:List (Addr × Obj)) (s:Shared) (σ:St) (H:Hp) (D:Ends),Inv X pins σ H s->t D σ H->wpAny "0f" X.A (exec st X.env) (SP X pins D) X.xe s
noncomputable def PSs (X:Cx) (st:List Stmt) (t:TS):Prop:=
 ∀(pins:List (Addr × Obj)) (s:Shared) (σ:St) (H:Hp) (D:Ends),Inv X pins σ H s->t D σ H->wpAny "0f" X.A (execs st X.env) (SP X pins D) X.xe s
def thn{α:Type}{t:Sem α}{Q b:α->Shared->Prop}{E:Value->Shared->Prop}(h:wpAny M A t Q E s)(c:∀a s,Q a s->b a s):wpAny M A t b E s:=wpAny_mono h c λ_ _ x=>x
section
variable {X:Cx}
noncomputable def zkv (i:Nat):TE:=λσ H Q=>∃v,σ[i]?=some (some v)/\Q v H
abbrev tC(v:V):TE:=λ_ H Q=>Q v H
def zt2{pos:Pos}(d:X.N[i]?=some x)(f:Vis X.env.scope x)(hd:autoParam ((x == ("__debug__" : Str))=false) Internal.aut1._auto_1)(b:autoParam ((x == ("__classdict__" : Str))=false) Internal.aut1._auto_1):PE X (.Name x pos) (zkv i):=by
 intro pins s σ H Q I h;obtain⟨v,e,h⟩:=h;obtain⟨m,g,hl⟩:=I.loc;obtain⟨u,r,l⟩:=hl i x v d e f;have fin:EP X pins σ Q u s:=⟨v,H,I,r,h⟩
 rcases l with⟨a,hm⟩ | ⟨a,c,hc,hcell⟩
 ·exact wpAny_Name (wpAny_loadName_local I.ok.kind a g hm fin) hd
 ·rcases a with a | a
  ·exact wpAny_Name (wpAny_loadName_cell I.ok.kind a hc hcell fin) hd
  ·exact wpAny_Name (wpAny_loadName_free I.ok.kind a hc hcell fin b) hd
def zi{i j pos}:PE X (.Constant (.int i) j pos) (tC (.int i)):=λ_ _ _ H _ I h=>wpAny_Constant_int ⟨.int i,H,I.tok _,⟨_,rfl⟩,h⟩
def zbm{b j pos}:PE X (.Constant (.bool b) j pos) (tC (.bl b)):=λ_ _ _ H _ I h=>Constant_bool ⟨.bl b,H,I,rfl,h⟩
def zbo{j pos}:PE X (.Constant .none j pos) (tC .non):=λ_ _ _ H _ I h=>Constant_none ⟨.non,H,I,rfl,h⟩
def za3{x j pos}:PE X (.Constant (.str x) j pos) (tC (.str x)):=λ_ _ _ H _ I h=>Calls.Constant_str ⟨.str x,H,I.tok _,⟨_,rfl⟩,h⟩
noncomputable def Gl (X:Cx) (x:Str):Prop:=X.env.kindOf x=some .globalImplicit
def zeJ{E:Value->Shared->Prop}{pos:Pos}{Q:Value->Shared->Prop}(I:Inv X pins σ H s)(b:Gl X x)(a:X.mg x=some u)(h:Q u s)
  (hd:autoParam ((x == ("__debug__" : Str))=false) Internal.aut1._auto_1):wpAny "0f" X.A (eval (.Name x pos) X.env) Q E s:=
 Calls.Name_function_global I.ok.kind b (Calls.loadGlobal_global (by rw[I.ok.glob];exact I.mod.glob.keeps I.bk) a h) hd
def zcL{E:Value->Shared->Prop}{pos:Pos}{Q:Value->Shared->Prop}(I:Inv X pins σ H s)(b:Gl X x)(a:X.mg x=none)(c:bootBuiltins x=some u)(h:Q u s)
  (hn:autoParam (x ≠ "__name__") Internal.aut1._auto_1) (hd:autoParam ((x == ("__debug__" : Str))=false) Internal.aut1._auto_1):wpAny "0f" X.A (eval (.Name x pos) X.env) Q E s:=by
 obtain⟨d,h1,h2⟩:=I.mod.blt;exact Calls.Name_function_global I.ok.kind b (Calls.loadGlobal_builtin (by rw[I.ok.glob];exact I.mod.glob.keeps I.bk) a (by rw[I.ok.blt];exact h1.keeps I.bk) ((h2 x hn).trans c) h) hd
def zgI{pos:Pos}(b:Gl X x)(a:X.mg x=some u)(r:RelV v u)(hd:autoParam ((x == ("__debug__" : Str))=false) Internal.aut1._auto_1):PE X (.Name x pos) (tC v):=
 λ_ _ _ H _ I h=>zeJ I b a ⟨v,H,I,r,h⟩ hd
def zcg{pos:Pos}(c:Gl X x)(a:X.mg x=none)(d:bootBuiltins x=some u)(r:RelV v u)(b:autoParam (x ≠ "__name__") Internal.aut1._auto_1)(hd:autoParam ((x == ("__debug__" : Str))=false) Internal.aut1._auto_1):PE X (.Name x pos) (tC v):=
 λ_ _ _ H _ I h=>zcL I c a d ⟨v,H,I,r,h⟩ b hd
noncomputable def t2I (ta tb:TE) (k:Int->Int->Hp->Prop):St->Hp->Prop:=λσ H=>ta σ H λx H1=>tb σ H1 λy H2=>∃i j,x=.int i/\y=.int j/\k i j H2
variable {a b:Expr}{ta tb:TE}{pos:Pos}
noncomputable def zi2 (p:Int->Int->Bool) (ta tb:TE):TE:=λσ H Q=>t2I ta tb (λi j H2=>Q (.bl (p i j)) H2) σ H
abbrev tLt:TE->TE->TE:=zi2 λi j=>decide (i<j)
abbrev tLe:TE->TE->TE:=zi2 λi j=>decide (i<=j)
abbrev tGt:TE->TE->TE:=zi2 λi j=>decide (j<i)
abbrev tGe:TE->TE->TE:=zi2 λi j=>decide (j<=i)
abbrev zvG:TE->TE->TE:=zi2 λi j=>decide (i=j)
abbrev zvJ:TE->TE->TE:=zi2 λi j=>!decide (i=j)
variable {tA tB':TT}{rest:List Expr}
abbrev zvi(t u:TT):TT:=λσ H Q=>t σ H λc H1=>if c=true then u σ H1 Q else Q false H1
abbrev tOr(t u:TT):TT:=λσ H Q=>t σ H λc H1=>if c=true then Q true H1 else u σ H1 Q
abbrev zvn(t:TT):TT:=λσ H Q=>t σ H λc H1=>Q (!c) H1
def zgD(ha:PT X a tA):PW X (.BoolOp .And [a] pos) tA:=by
 intro b pins s σ H Q I h;refine isTrue_and (thn (ha pins s σ H Q I h) λc d e=>?_);cases c with
 | true=>exact isTrue_and_nil e
 | false=>exact e
def zbp(ha:PT X a tA):PW X (.BoolOp .Or [a] pos) tA:=by
 intro b pins s σ H Q I h;refine isTrue_or (thn (ha pins s σ H Q I h) λc d e=>?_);cases c with
 | false=>exact isTrue_or_nil e
 | true=>exact e
def zgg(ha:PT X a tA)(g:PW X (.BoolOp .And (b :: rest) pos) tB'):PW X (.BoolOp .And (a :: b :: rest) pos) (zvi tA tB'):=by
 intro f pins s σ H Q I h;refine isTrue_and (thn (ha pins s σ H _ I h) λc i ⟨H1,d,e⟩=>?_);cases c with
 | true=>exact g f pins i σ H1 Q d e
 | false=>exact⟨H1,d,e⟩
def za6(ha:PT X a tA)(g:PW X (.BoolOp .Or (b :: rest) pos) tB'):PW X (.BoolOp .Or (a :: b :: rest) pos) (tOr tA tB'):=by
 intro f pins s σ H Q I h;refine isTrue_or (thn (ha pins s σ H _ I h) λc i ⟨H1,d,e⟩=>?_);cases c with
 | true=>exact⟨H1,d,e⟩
 | false=>exact g f pins i σ H1 Q d e
def za1(ha:PT X a tA):PT X (.UnaryOp .Not a pos) (zvn tA):=by
 intro pins s σ H Q I h;exact isTrue_not (ha pins s σ H (λc H1=>Q (!c) H1) I h)
noncomputable def zrK (ta tb:TE):TE:=λσ H Q=>ta σ H λx H1=>∃c,x=.bl c/\if c=true then tb σ H1 Q else Q (.bl false) H1
def zk2{op}{t:TE}(h:PE X a t):PE X (.BoolOp op [a] pos) t:=λpins s σ H Q I b=>BoolOp_one (h pins s σ H Q I b)
def zh0(ha:PE X a ta)(j:PE X (.BoolOp .And (b :: rest) pos) tb):PE X (.BoolOp .And (a :: b :: rest) pos) (zrK ta tb):=by
 intro pins s σ H Q I h;refine BoolOp_and (thn (ha pins s σ H _ I h) λv f i=>?_);obtain⟨x,H1,e,g,d⟩:=i;obtain⟨c,rfl,d⟩:=d;cases g;refine wpAny_truthy_bool ?_;cases c with
 | true=>exact j pins f σ H1 Q e d
 | false=>exact⟨.bl false,H1,e,rfl,d⟩
abbrev tIf(t:TT)(ta tb:TE):TE:=λσ H Q=>t σ H λc H1=>if c=true then ta σ H1 Q else tb σ H1 Q
def zcy{c:Expr}(j:PT X c tA)(ha:PE X a ta)(i:PE X b tb):PE X (.IfExp c a b pos) (tIf tA ta tb):=by
 intro pins s σ H Q I h;refine wpAny_IfExp (thn (j pins s σ H _ I h) λd g ⟨H1,e,f⟩=>?_);cases d with
 | true=>exact ha pins g σ H1 Q e f
 | false=>exact i pins g σ H1 Q e f
end
noncomputable def SqL (K:Fg) (H:Hp) (a:Addr) (xs:List V):Prop:=
 Rd H a (.lst xs) \/
  ∃(o:Obj) (its:Array Value) (n:Nat),K.lookup a=some o/\o.cls=.type "list" /\ o.dict=none/\o.data=.seq its n/\its.size<=sizeLine/\Vals xs its.toList
noncomputable def SqT (K:Fg) (H:Hp) (a:Addr) (xs:List V):Prop:=
 Rd H a (.tup xs) \/
  ∃(o:Obj) (its:Array Value) (n:Nat),K.lookup a=some o/\o.cls=.type "tuple" /\ o.data=.seq its n/\its.size<=sizeLine/\Vals xs its.toList
noncomputable def zvu:Value->Option V
 | .none=>some .non
 | .bool b=>some (.bl b)
 | .int i _=>some (.int i)
 | .str x _=>some (.str x)
 | .bytes b _=>some (.byt b)
 | .float b _=>some (.flt b)
 | .ref a=>some (.ref a)
 | .type n=>some (.ty n)
 | _=>none
def RelV.abs{x:V}(r:RelV x u):zvu u=some x:=by
 cases x with
 | non=>cases r;rfl
 | bl _=>cases r;rfl
 | int _=>obtain⟨t,rfl⟩:=r;rfl
 | str _=>obtain⟨t,rfl⟩:=r;rfl
 | byt _=>obtain⟨t,rfl⟩:=r;rfl
 | flt _=>obtain⟨t,rfl⟩:=r;rfl
 | ref _=>cases r;rfl
 | ty _=>cases r;rfl
def RelV.inj{x:V}(r:RelV x u)(q:RelV y u):x=y:=yn (r.abs.symm.trans q.abs)
theorem Vals.inj:∀{xs ys:List V} {us:List Value},Vals xs us->Vals ys us->xs=ys
 | _,_,_,.nil,.nil=>rfl
 | _,_,_,.cons r t,.cons r' t'=>by rw[r.inj r',Vals.inj t t']
section
variable {X:Cx}{pins:List (Addr × Obj)}{σ:St}{H:Hp}{s:Shared}{a:Addr}{xs ys:List V}
def SqL.of(h:H a=some (.lst xs)):SqL K H a xs:=.inl (.inl h)
def SqT.of(h:H a=some (.tup xs)):SqT K H a xs:=.inl (.inl h)
def Inv.list(I:Inv X pins σ H s)(h:SqL X.K H a xs):∃its:List Value,Vals xs its/\PlainL s.heap a its.toArray/\xs.length<=sizeLine:=by
 rcases h with h | ⟨o,its,n,b,c,hd,d,f,r⟩
 ·obtain⟨z,its,n,r,e⟩:=h.ok I.hok;exact⟨its,r,⟨_,n,e,rfl,rfl,rfl⟩,z⟩
 ·refine⟨its.toList,r,⟨o,n,I.kIn a o b,c,hd,by simpa using d⟩,?_⟩;have e:=r.length;simp only[Array.length_toList]at e;lia
def Inv.tuple(I:Inv X pins σ H s)(h:SqT X.K H a xs):∃its:List Value,Vals xs its/\IsTup s.heap a its.toArray/\xs.length<=sizeLine:=by
 rcases h with h | ⟨o,its,n,b,c,d,f,r⟩
 ·obtain⟨z,its,r,p⟩:=h.ok I.hok;exact⟨its,r,p,z⟩
 ·refine⟨its.toList,r,⟨o,I.kIn a o b,c,n,by simpa using d⟩,?_⟩;have e:=r.length;simp only[Array.length_toList]at e;lia
def Inv.list_inj(I:Inv X pins σ H s)(h:SqL X.K H a xs)(h':SqL X.K H a ys):xs=ys:=by
 obtain⟨its,r,⟨o,n,e,_,_,d⟩,_⟩:=I.list h;obtain⟨its',c,⟨o',g,b,_,_,d'⟩,_⟩:=I.list h';rw[e]at b;cases b;rw[d]at d';injection d' with f _
 have:its=its':=by simpa using congrArg Array.toList f
 subst this;exact r.inj c
end
abbrev Cx.wish(X:Cx)(E:Value->Shared->Prop):Cx:={ X with xe:=E }
abbrev Cx.nox(X:Cx):Cx:=X.wish λ_ _=>False
theorem Cx.Ok.wish{X:Cx}(ok:X.Ok)(E:Value->Shared->Prop):(X.wish E).Ok:=
 ⟨ok.mod,ok.kind,ok.glob,ok.blt,ok.above,ok.inj,ok.has,ok.cab,ok.hd,ok.frames,ok.stk,ok.exf,ok.bs,ok.bsz,ok.noex,ok.exfs,ok.funs,ok.frf⟩
def Cx.Ok.unwish{E:Value->Shared->Prop}(ok:(X.wish E).Ok):X.Ok:=
 ⟨ok.mod,ok.kind,ok.glob,ok.blt,ok.above,ok.inj,ok.has,ok.cab,ok.hd,ok.frames,ok.stk,ok.exf,ok.bs,ok.bsz,ok.noex,ok.exfs,ok.funs,ok.frf⟩
section
variable {X:Cx}{pins:List (Addr × Obj)}{σ:St}{H:Hp}{s:Shared}{E:Value->Shared->Prop}
theorem Inv.wish(I:Inv X pins σ H s)(E:Value->Shared->Prop):Inv (X.wish E) pins σ H s:=⟨I.ok.wish E,I.os,I.bare,I.base,I.loc,I.cell,I.free,I.freeC,I.pin,I.hok,I.len⟩
theorem Inv.unwish(I:Inv (X.wish E) pins σ H s):Inv X pins σ H s:=⟨I.ok.unwish,I.os,I.bare,I.base,I.loc,I.cell,I.free,I.freeC,I.pin,I.hok,I.len⟩
theorem SP.unwish{D:Ends}{f:Flow}{s':Shared}(h:SP (X.wish E) pins D f s'):SP X pins D f s':=by
 cases f with
 | next=>obtain⟨a,H',I,q⟩:=h;exact⟨a,H',I.unwish,q⟩
 | brk=>obtain⟨a,H',I,q⟩:=h;exact⟨a,H',I.unwish,q⟩
 | cont=>obtain⟨a,H',I,q⟩:=h;exact⟨a,H',I.unwish,q⟩
 | ret u=>obtain⟨v,a,H',I,r,q⟩:=h;exact⟨v,a,H',I.unwish,r,q⟩
theorem PSs.nox{st:List Stmt}{t:TS}(h:PSs X.nox st t):PSs X st t:=λpins s σ H D I a=>
 wpAny_mono (h pins s σ H D (I.wish _) a) (λ_ _ q=>q.unwish) λ_ _ z=>False.elim z
end
section
variable {X:Cx}{st:Stmt}{rest:List Stmt}{t u:TS}{e:Expr}{te:TE}{pos:Pos}
abbrev zuL:TS:=λD σ H=>D.nx σ H
abbrev zvf(t u:TS):TS:=λD σ H=>t { D with nx:=u D } σ H
def zJ:PSs X [] zuL:=λ_ _ σ H _ I h=>wpAny_execs_nil ⟨σ,H,I,h⟩
def zh(h1:PS X st t)(h2:PSs X rest u):PSs X (st :: rest) (zvf t u):=by
 intro pins s σ H D I h;refine wpAny_execs_cons (thn (h1 pins s σ H { D with nx:=u D } I h) λf c q=>?_);cases f with
 | next=>
  obtain⟨b,H',a,q⟩:=q;exact h2 pins c b H' D a q
 | ret v=>exact q
 | brk=>exact q
 | cont=>exact q
def zj(h1:PS X st t):PSs X [st] t:=by
 intro pins s σ H D I h;refine wpAny_execs_cons (thn (h1 pins s σ H D I h) λf a q=>?_);cases f with
 | next=>exact wpAny_execs_nil q
 | ret v=>exact q
 | brk=>exact q
 | cont=>exact q
abbrev ztk:TS:=λD σ H=>D.bk σ H
abbrev zvD:TS:=λD σ H=>D.ct σ H
def zrh:PS X (.Break pos) ztk:=λ_ _ σ H _ I h=>wpAny_Break ⟨σ,H,I,h⟩
def Inv.quiet(I:Inv X pins σ H s):interactive X.env=false:=by simp[interactive,I.ok.kind]
abbrev zuV(te:TE):TS:=λD σ H=>te σ H λ_ H1=>D.nx σ H1
def za4(b:PE X e te)(d:autoParam (swapsWith e none pos.line X.env=pure false) Internal.aut2._auto_1):PS X (.Expr e pos) (zuV te):=by
 intro pins s σ H D I h;exact wpAny_Expr_any (thn (b pins s σ H _ I h) λv g ⟨x,H1,c,f,a⟩=>⟨σ,H1,c,a⟩) I.quiet d
abbrev zvj(te:TE):TS:=λD σ H=>te σ H D.rt
def zy(c:PE X e te):PS X (.Return (some e) pos) (zvj te):=by
 intro pins s σ H D I h;exact wpAny_Return_some (thn (c pins s σ H _ I h) λv f ⟨x,H1,d,a,b⟩=>⟨x,σ,H1,d,a,b⟩)
abbrev zvE:TS:=λD _ H=>D.rt .non H
abbrev zvo(c:TT)(t u:TS):TS:=λD σ H=>c σ H λb H1=>if b=true then t D σ H1 else u D σ H1
def zP{c:Expr}{a b:List Stmt}{tc:TT}(j:PT X c tc)(ha:PSs X a t)(i:PSs X b u):PS X (.If c a b pos) (zvo tc t u):=by
 intro pins s σ H D I h;refine wpAny_If (thn (j pins s σ H _ I h) λd g ⟨H1,f,e⟩=>?_);cases d with
 | true=>exact ha pins g σ H1 D f e
 | false=>exact i pins g σ H1 D f e
noncomputable def ztM:TS:=λ_ _ _=>False
def zg7:PS X st ztM:=λ_ _ _ _ _ _ h=>h.elim
end
abbrev TG:=V->St->Hp->(St->Hp->Prop)->Prop
variable {g:TG}
abbrev TGs:=List V->St->Hp->(St->Hp->Prop)->Prop
noncomputable def PG (X:Cx) (a:Expr) (t:TG):Prop:=
 ∀(pins:List (Addr × Obj)) (s:Shared) (σ:St) (H:Hp) (v:V) (u:Value) (Q:St->Hp->Prop),Inv X pins σ H s->RelV v u->t v σ H Q ->
  wpAny "0f" X.A (assign a X.env u) (λ_ s'=>∃σ' H',Inv X pins σ' H' s'/\Q σ' H') X.xe s
noncomputable def PGs (X:Cx) (ts:List Expr) (t:TGs):Prop:=
 ∀(pins:List (Addr × Obj)) (s:Shared) (σ:St) (H:Hp) (vs:List V) (us:List Value) (Q:St->Hp->Prop),Inv X pins σ H s->Vals vs us->t vs σ H Q ->
  wpAny "0f" X.A (assignInOrder ((assignEach ts X.env).map (·.2)) us) (λ_ s'=>∃σ' H',Inv X pins σ' H' s'/\Q σ' H') X.xe s
abbrev ziD:=V->V->V->Hp->(Hp->Prop)->Prop
noncomputable def zqu (X:Cx) (t:ziD):Prop:=
 ∀(pins:List (Addr × Obj)) (s:Shared) (σ:St) (H:Hp) (o i v:V) (ov iv u:Value) (Q:Hp->Prop),Inv X pins σ H s->RelV o ov->RelV i iv->RelV v u->t o i v H Q ->
  wpAny "0f" X.A (setItem ov iv u) (λ_ s'=>∃H',Inv X pins σ H' s'/\Q H') X.xe s
abbrev TIp:=V->V->Hp->VK->Prop
noncomputable def PIp (X:Cx) (a:Operator) (t:TIp):Prop:=
 ∀(pins:List (Addr × Obj)) (s:Shared) (σ:St) (H:Hp) (x y:V) (v u:Value) (Q:VK),Inv X pins σ H s->RelV x v->RelV y u->t x y H Q ->
  wpAny "0f" X.A (inplaceOp a v u) (EP X pins σ Q) X.xe s
section
variable {X:Cx}{pos:Pos}
abbrev zbW(i:Nat):TG:=λv σ H Q=>Q (σ.set i (some v)) H
def zI(b:X.N.Nodup)(hi:X.N[i]?=some x)(d:Loc X.env.scope x)(c:autoParam (X.fn x=true\/X.env.scope.names.lookup x=some .local) Internal.aut0._auto_1):PG X (.Name x pos) (zbW i):=by
 intro pins s σ H v u Q I r h;exact wpAny_assign_Name (ze8 I b hi d r (λs' a=>⟨_,H,a,h⟩) c)
noncomputable def zpX:TGs:=λvs σ H Q=>vs=[]/\Q σ H
noncomputable def zj8 (t:TG) (u:TGs):TGs:=λvs σ H Q=>∃v r,vs=v :: r/\t v σ H λa H'=>u r a H' Q
def zaD:PGs X [] zpX:=by
 intro pins s σ H vs us Q I r h;obtain⟨e,h⟩:=h;subst e;cases r;exact assignInOrder_nil ⟨σ,H,I,h⟩
def zH{es:List Expr}{t:TG}{u:TGs}(h1:PG X e t)(h2:PGs X es u)
  (hs:autoParam ((assignEach (e :: es) X.env).map (·.2)=assign e X.env :: (assignEach es X.env).map (·.2)) Internal.aut2._auto_1):PGs X (e :: es) (zj8 t u):=by
 intro pins s σ H vs us Q I r h;obtain⟨v,i,f,h⟩:=h;subst f;cases r with
 | cons r rr=>
  rw[hs];refine assignInOrder_cons (thn (h1 pins s σ H _ _ _ I r h) λ_ b c=>?_);obtain⟨a,H1,g,d⟩:=c;exact h2 pins b a H1 _ _ Q g rr d
noncomputable def zbs (K:Fg) (n:Nat) (t:TGs):TG:=λv σ H Q=>∃a xs,v=.ref a/\SqT K H a xs/\xs.length=n/\t xs σ H Q
def zaS{es:List Expr}{k:Nat}{t:TGs}{n:Nat}(i:X.calm=true)(h:PGs X es t)
  (hn:autoParam ((assignEach es X.env).length=n) Internal.aut2._auto_1) (hst:autoParam ((assignEach es X.env).findIdx? (·.1)=none) Internal.aut2._auto_1):PG X (.Tuple es k pos) (zbs X.K n t):=by
 intro pins s σ H v u Q I r c;obtain⟨a,xs,j,g,hl,c⟩:=c;subst j;cases r;obtain⟨its,d,f,p⟩:=I.tuple g;refine assign_Tuple_tuple (I.ok.hd i) f (by simp[hn,<- hl,d.length]) hst λh' l=>?_;have m:Inv X pins σ H { s with heap:=h' }:=I.kept (t':=s.toks) λb o e=>l b o (yv (Heap.lt_size e)) e;exact h pins _ σ H xs _ Q m (by simpa using d) c
abbrev zvp(to ti:TE)(t:ziD):TG:=λv σ H Q=>to σ H λo H1=>ti σ H1 λi H2=>t o i v H2 λH3=>Q σ H3
def zc0{o i:Expr}{to ti:TE}{t:ziD}(k:PE X o to)(hi:PE X i ti)(f:zqu X t)
  (ha:autoParam (∀v,assign (.Subscript o i pos) X.env v=(do
   let a <- holding [v] (eval o X.env)
   let b <- holding [v,a] (eval i X.env)
   standAt pos
   holding [v,a,b] (setItem a b v)
   release [v,a,b] [])) Internal.aut3._auto_1):PG X (.Subscript o i pos) (zvp to ti t):=by
 intro pins s σ H v u Q I r h;rw[ha];refine wpAny_bind (wpAny_holding (thn (k pins s σ H _ I h) λa z c=>?_));obtain⟨x,H1,j,n,g⟩:=c;refine wpAny_bind (wpAny_holding (thn (hi pins z σ H1 _ j g) λb p c=>?_));obtain⟨y,H2,q,w,d⟩:=c;refine wpAny_bind (wpAny_standAt (wpAny_bind (wpAny_holding (thn (f pins p σ H2 x y v a b u _ q n w r d) λ_ A ⟨e,l,m⟩=>?_))));exact wpAny_release ⟨σ,e,l,m⟩
abbrev zlv(te:TE)(g:TG):TS:=λD σ H=>te σ H λx H1=>g x σ H1 D.nx
def zcO{te:TE}(k:PE X e te)(b:PG X tg g)(f:autoParam (swapsWithSole [tg] e pos.line X.env=pure false) Internal.aut2._auto_1)(a:autoParam (swappedStores [tg] e X.env=pure none) Internal.aut2._auto_1)
  (h1:autoParam ((assignEach [tg] X.env).map (·.2)=[assign tg X.env]) Internal.aut2._auto_1):PS X (.Assign [tg] e pos) (zlv te g):=by
 intro pins s σ H D I h;refine wpAny_Assign_stores (thn (k pins s σ H _ I h) λv c i=>?_) f a;obtain⟨x,H1,l,d,j⟩:=i;rw[h1];exact thn (b pins c σ H1 x v _ l d j) λ_ m q=>q
def ztP{te:TE}{pos':Pos}(a:X.N.Nodup)(hi:X.N[i]?=some x)(l:Loc X.env.scope x)(m:PE X e te)(d:autoParam (swapsWith e (some (.Name x pos')) pos.line X.env=pure false) Internal.aut2._auto_1)(b:autoParam (X.fn x=true\/X.env.scope.names.lookup x=some .local) Internal.aut0._auto_1) :
  PS X (.Assign [.Name x pos'] e pos) (zlv te (zbW i)):=by
 intro pins s σ H D I h;refine wpAny_Assign_Name (thn (m pins s σ H _ I h) λv n j=>?_) d;obtain⟨y,H1,f,c,k⟩:=j;exact ze8 f a hi l c (λo g=>⟨_,H1,g,k⟩) b
noncomputable def zpP (i:Nat) (te:TE) (ti:TIp):TS:=λD σ H=>∃x,σ[i]?=some (some x)/\te σ H λy H1=>ti x y H1 λz H2=>D.nx (σ.set i (some z)) H2
def zf7{te:TE}{f:Operator}{ti:TIp}{pos':Pos}(n:X.N.Nodup)(hi:X.N[i]?=some x)(g:Loc X.env.scope x)(O:PE X e te)(B:PIp X f ti)(C:autoParam (X.fn x=true\/X.env.scope.names.lookup x=some .local) Internal.aut0._auto_1) :
  PS X (.AugAssign (.Name x pos') f e pos) (zpP i te ti):=by
 intro pins s σ H D I h;obtain⟨v,L,h⟩:=h;obtain⟨m,J,hl⟩:=I.loc;have b:Vis X.env.scope x:=by rcases g with k | k;exact .inl k;exact .inr (.inl k)
 obtain⟨u,r,l⟩:=hl i x v hi L b;refine wpAny_AugAssign_Name ?_;have go:wpAny "0f" X.A (eval e X.env) (λw j=>wpAny "0f" X.A (inplaceOp f u w) (λr M=>wpAny "0f" X.A (storeName X.env x r) (λ_=>SP X pins D .next) X.xe M) X.xe j) X.xe s:=by
  refine thn (O pins s σ H _ I h) λw E d=>?_;obtain⟨y,H1,q,F,p⟩:=d;refine thn (B pins E σ H1 v y u w _ q r F p) λz R d=>?_;obtain⟨Q,H2,G,K,o⟩:=d;exact ze8 G n hi g K (λP t=>⟨_,H2,t,o⟩) C
 rcases l with⟨a,hm⟩ | ⟨a,c,hc,hcell⟩
 ·exact wpAny_loadName_local I.ok.kind a J hm go
 ·rcases a with a | a
  ·exact wpAny_loadName_cell I.ok.kind a hc hcell go
  ·rcases g with k | k
   ·have:X.env.scope.names.lookup x=some .free:=a
    rw[k]at this;cases this
   ·have:X.env.scope.names.lookup x=some .free:=a
    rw[k]at this;cases this
noncomputable def zro (to ti te:TE) (a:V->V->Hp->VK->Prop) (c:TIp) (b:ziD):TS:=λD σ H=>to σ H λo H1=>ti σ H1 λi H2=>a o i H2 λx d=>te σ d λy f=>c x y f λz g=>b o i z g λe=>D.nx σ e
noncomputable def zf3 (X:Cx) (t:V->V->Hp->VK->Prop):Prop:=
 ∀(pins:List (Addr × Obj)) (s:Shared) (σ:St) (H:Hp) (o i:V) (ov iv:Value) (Q:VK),Inv X pins σ H s->RelV o ov->RelV i iv->t o i H Q ->
  wpAny "0f" X.A (getItem ov iv) (EP X pins σ Q) X.xe s
def zdP{o i:Expr}{to ti te:TE}{c:V->V->Hp->VK->Prop}{g:TIp}{b:ziD}{m:Operator}{tpos:Pos}(M:PE X o to)(hi:PE X i ti)(z:zf3 X c)(Y:PE X e te)(hp:PIp X m g)(A:zqu X b)
  (ha:autoParam (∀d f new,augStore i d f new=(do holding [new,d,f] (setItem d f new);release [new,d,f] [];pure .next)) Internal.aut4._auto_1):PS X (.AugAssign (.Subscript o i tpos) m e pos) (zro to ti te c g b):=by
 intro pins s σ H D I h;refine wpAny_AugAssign_SubscriptAny (thn (M pins s σ H _ I h) λd Z a=>?_) ha;obtain⟨j,H1,J,l,E⟩:=a;refine thn (hi pins Z σ H1 _ J E) λf S a=>?_;obtain⟨k,H2,U,n,r⟩:=a;refine thn (z pins S σ H2 j k d f _ U l n r) λold p a=>?_;obtain⟨t,u,L,y,O⟩:=a;refine thn (Y pins p σ u _ L O) λv w a=>?_;obtain⟨T,F,q,r4,W⟩:=a;refine thn (hp pins w σ F t T old v _ q y r4 W) λnew C a=>?_;obtain⟨B,G,Q,N,K⟩:=a;exact thn (A pins C σ G j k B d f new _ Q l n N K) λ_ s6 ⟨R,x,P⟩=>⟨σ,R,x,P⟩
noncomputable def ipI (f:Int->Int->Int):TIp:=λx y H Q=>∃i j,x=.int i/\y=.int j/\Q (.int (f i j)) H
def zeD:PIp X .Add (ipI λi j=>i+j):=by
 intro pins s σ H x y v u Q I b c h;obtain⟨i,j,d,a,q⟩:=h;subst d;subst a;obtain⟨t,rfl⟩:=b;obtain⟨t',rfl⟩:=c;exact iadd_int ⟨.int _,H,I.tok _,⟨_,rfl⟩,q⟩
def zge:PIp X .Sub (ipI λi j=>i-j):=by
 intro pins s σ H x y v u Q I b c h;obtain⟨i,j,d,a,q⟩:=h;subst d;subst a;obtain⟨t,rfl⟩:=b;obtain⟨t',rfl⟩:=c;exact isub_int ⟨.int _,H,I.tok _,⟨_,rfl⟩,q⟩
end
section
variable {X:Cx}{pos:Pos}
noncomputable def ztX (c:TT) (tb:TS):TS:=λD σ H=>∃W:Nat->St->Hp->Prop,(∃m,W m σ H)/\∀m σ H,W m σ H ->
 c σ H λb H1=>if b=true then ∃N:St->Hp->Prop,(∀σ' H',N σ' H'->∃m',m'<m/\W m' σ' H')/\tb { D with nx:=N,ct:=N,bk:=D.nx } σ H1 else D.nx σ H1
def zdb{c:Expr}{body:List Stmt}{tc:TT}{tb:TS}(hp:PassesOwn "0f" X.A X.env X.xe)(u:PT X c tc)(t:PSs X body tb):PS X (.While c body [] pos) (ztX tc tb):=by
 intro pins s σ H D I h;obtain⟨W,⟨B,r⟩,turn⟩:=h;refine wpAny_While (codeAny_whileLoop (λn s'=>∃σ' H',Inv X pins σ' H' s'/\W n σ' H') ?_ B ⟨σ,H,I,r⟩);rintro n C ⟨e,H1,x,y⟩;refine wpAny_passesOwn hp (thn (u pins C e H1 _ x (turn n e H1 y)) λb z ⟨H2,q,g⟩=>?_);cases b with
 | true=>
  obtain⟨N,p,g⟩:=g;rw[if_pos rfl];refine wpAny_passesOwn hp (thn (t pins z e H2 _ q g) λf E i=>?_);cases f with
  | next=>
   obtain⟨d,a,k,j⟩:=i;obtain⟨o,m,l⟩:=p d a j;exact⟨o,m,d,a,k,l⟩
  | cont=>
   obtain⟨d,a,k,j⟩:=i;obtain⟨o,m,l⟩:=p d a j;exact⟨o,m,d,a,k,l⟩
  | brk=>exact i
  | ret v=>exact i
 | false=>
  rw[if_neg yr];exact wpAny_execs_nil ⟨e,H2,q,g⟩
end
set_option genInjectivity false in
set_option genSizeOf false in
structure It where
 go:Nat->Hp->Prop
 yld:Nat->Hp->V->Hp->Prop
 stop:Nat->Hp->Prop
noncomputable def zcU (X:Cx) (pins:List (Addr × Obj)) (H:Hp) (b:Addr):Prop:=
 H b=none/\b≠X.env.locals/\b∉X.fs/\(b∈X.ex\/X.s₀.heap.objs.size<=b)/\(∀x c,X.env.cells.lookup x=some c->c≠b)/\∀p∈X.pn++pins,p.1≠b
def Inv.fpOk(I:Inv X pins σ H s)(a:s.heap.objs.size<=b)(d:H' b=none):zcU X pins H' b:=by
 refine⟨d,Nat.ne_of_gt (yC I.lt a),I.nofs a,.inr (yj I.sz a),λx c e z=>?_,λp hp z=>?_⟩
 ·obtain⟨v,q⟩:=I.cell x c e;exact absurd (yC q.lt (by rw[z];exact a)) (yY _)
 ·exact absurd (yC (Heap.lt_size (I.pin p hp).1) (by rw[z];exact a)) (yY _)
set_option genInjectivity false in
set_option genSizeOf false in
structure Turn(P:Program)(w:World)(K:Fg)(tg:Expr)(J:It)(fp:List Addr)(it:Addr)(tn:Nat->Heap->Prop):Prop where
 mem:it∈fp
 obj:∀i h,tn i h->∀b∈fp,∃o,h.get? b=some o/\∀v,o.data≠.cell v
 keep:∀i h h',tn i h->(∀b∈fp,∀o,h.get? b=some o->h'.get? b=some o)->tn i h'
 item:∀(X:Cx),X.prog=P->X.w=w->X.K=K->X.calm=true->∀(i:Nat) (pins:List (Addr × Obj)) (s:Shared) (σ:St) (H:Hp) (E:Value->Shared->Prop),Inv X pins σ H s->(∀b∈fp,zcU X pins H b)->tn i s.heap->J.go i H ->
  wpAny (model P w) X.A (pyNext (.ref it)) (λr s1=>∃u,r=some u /\
   wpAny (model P w) X.A (letOwnedTupleGo tg (.ref it) u) (λ_ s2=>∃x H',Inv X pins σ H' s2/\RelV x u/\J.yld i H x H'/\tn (i+1) s2.heap/\∀b∈fp,H' b=none) E s1) E s
 done:∀(X:Cx),X.prog=P->X.w=w->X.K=K->X.calm=true->∀(i:Nat) (pins:List (Addr × Obj)) (s:Shared) (σ:St) (H:Hp) (E:Value->Shared->Prop),Inv X pins σ H s->(∀b∈fp,zcU X pins H b)->tn i s.heap->J.stop i H ->
  wpAny (model P w) X.A (pyNext (.ref it)) (λr s1=>r=none/\Inv X pins σ H s1) E s
 self:∀(A:Around) (i:Nat) (s:Shared) (Q:Value->Shared->Prop) (E:Value->Shared->Prop),tn i s.heap->Q (.ref it) s->wpAny (model P w) A (pyIter (.ref it)) Q E s
abbrev TI:=St->Hp->(It->Hp->Prop)->Prop
variable {wi:TI}
noncomputable def PIE (X:Cx) (pins:List (Addr × Obj)) (σ:St) (tg:Expr) (R:It->Hp->Prop) (a:Value) (c:Shared):Prop:=
 ∃(it:Addr) (fp:List Addr) (tn:Nat->Heap->Prop) (J:It) (H':Hp),a=.ref it/\Inv X pins σ H' c/\Turn X.prog X.w X.K tg J fp it tn/\tn 0 c.heap/\(∀b∈fp,zcU X pins H' b)/\R J H'
noncomputable def PI (X:Cx) (tg iter:Expr) (wi:TI):Prop:=
 ∀(pins:List (Addr × Obj)) (s:Shared) (σ:St) (H:Hp) (R:It->Hp->Prop),Inv X pins σ H s->wi σ H R ->
  wpAny "0f" X.A (eval iter X.env) (λv a=>wpAny "0f" X.A (pyIter v) (PIE X pins σ tg R) X.xe a) X.xe s
def zrv{M:Model}{A:Around}{E:Value->Shared->Prop}{tg:Expr}{it:Addr}{u:Value}{o:Obj}{n:String}{vs:Array Value}{Q:Unit->Shared->Prop}(b:s.heap.get? it=some o)(a:o.cls=.type n)(hd:o.data=.fields vs)
  (hn:["enumerate", "zip", "dict_itemiterator", "dict_reverseitemiterator", "odict_iterator", "itertools.zip_longest", "itertools.pairwise"].contains n=false) (hQ:Q () s):wpAny M A (letOwnedTupleGo tg (.ref it) u) Q E s:=by
 unfold letOwnedTupleGo;cases tg<;>first
  | exact wpAny_pure hQ
  | (cases u<;>first
    | exact wpAny_pure hQ
    | (refine wpAny_bind (wpAny_load b ?_)
       rw[a,hd];show wpAny M A (if(["enumerate", "zip", "dict_itemiterator", "dict_reverseitemiterator", "odict_iterator", "itertools.zip_longest", "itertools.pairwise"].contains n&&vs[0]? == some (rawInt _))=true then _ else _) Q E s;rw[if_neg (by intro h;rw[hn,Bool.false_and]at h;cases h)];exact wpAny_pure hQ))
noncomputable def Itl (K:Fg) (a:Addr):It:=
 ⟨λi H=>∃xs x,SqL K H a xs/\xs[i]?=some x,λi H x H'=>H'=H/\∀xs,SqL K H a xs->xs[i]?=some x,λi H=>∃xs,SqL K H a xs/\xs.length<=i⟩
noncomputable def Itr (lo:Int) (n:Nat):It:=⟨λi _=>i<n,λi H x H'=>H'=H/\x=.int (lo+i),λi _=>n<=i⟩
def zok(a it:Addr):Turn P w K tg (Itl K a) [it] it (λi h=>h.IsListIter it a i) where
 mem:=by simp
 obj:=λi h st b f=>by
  have e:b=it:=by simpa using f
  subst e;obtain⟨o,e,c,d⟩:=st;exact⟨o,e,λv z=>by rw[d]at z;cases z⟩
 keep:=λi h h' st k=>st.at λo e=>k it (by simp) o e
 item:=by
  intro X hP r D F i pins s σ H E I l st n;subst hP r D;obtain⟨xs,x,j,B⟩:=n;obtain⟨its,t,p,J⟩:=I.list j;obtain⟨u,R,O⟩:=t.get B;obtain⟨C,A,Q,q,m,y⟩:=l it (by simp);refine wpAny_pyNext_list_item st p.isList (x:=u) (by simpa using R) λh' g M=>?_;have L:Inv X pins σ H { s with heap:=h' }:=I.turned (t':=s.toks) (λb o f e=>(M.2 b f).trans e) C A q m y;obtain⟨o,e,c,d⟩:=id g;exact⟨u,rfl,zrv (s:={ s with heap:=h' }) e c d "0a" ⟨x,H,L,O,⟨rfl,λys N=>by rw[I.list_inj N j];exact B⟩,g,λb f=>(l b f).1⟩⟩
 done:=by
  intro X hP r D F i pins s σ H E I l st n;subst hP r D;obtain⟨xs,j,B⟩:=n;obtain⟨its,t,p,J⟩:=I.list j;obtain⟨C,A,Q,q,m,y⟩:=l it (by simp);have hl:=t.length;exact wpAny_pyNext_list_end (I.ok.hd F) st p.isList (by simp;lia) λh' G=>⟨rfl,I.turned (t':=s.toks) (λb o f e=>G b o f e) C A q m y⟩
 self:=λ_ _ _ _ _ st h=>wpAny_pyIter_listiter st h
def znr(it:Addr)(lo:Int)(n:Nat):Turn P w K tg (Itr lo n) [it] it (λi h=>IsRangeIter h it (lo+(i:Nat)*1) ((n:Int)-(i:Nat)) 1) where
 mem:=by simp
 obj:=λi h st b a=>by
  have e:b=it:=by simpa using a
  subst e;exact⟨_,st,λv z=>by
   have B:Data.fields _=Data.cell v:=z;cases B⟩
 keep:=λi h h' st k=>k it (by simp) _ st
 item:=by
  intro X hP m u j i pins s σ H E I d st g;subst hP m u;obtain⟨r,q,C,l,f,p⟩:=d it (by simp);have W:=Walks.range (prog:=X.prog) (w:=X.w) (I.ok.hd j) it lo 1 n;refine W.item i s _ _ g st λv h' tk x c kk=>?_;obtain⟨t,rfl⟩:=x;have A:Inv X pins σ H { s with heap:=h',toks:=tk }:=I.turned (λb o a e=>kk b o (by simpa using a) e) r q l f p;refine⟨_,rfl,zrv (s:={ s with heap:=h',toks:=tk }) (n := "range_iterator") c rfl rfl "0a" ⟨.int (lo+i),H,A,⟨t,?_⟩,⟨rfl,rfl⟩,c,λb a=>(d b a).1⟩⟩;rw[ya2]
 done:=by
  intro X hP m u j i pins s σ H E I d st g;subst hP m u;obtain⟨r,q,C,l,f,p⟩:=d it (by simp);exact wpAny_pyNext_range_end (I.ok.hd j) st (by have:n<=i:=g;lia) λh' y=>⟨rfl,I.turned (t':=s.toks) (λb o a e=>y b o a e) r q l f p⟩
 self:=λ_ _ _ _ _ st h=>wpAny_pyIter_rangeiter st h
section
variable {X:Cx}{tg:Expr}
noncomputable def zno (K:Fg) (tl:TE):TI:=λσ H R=>tl σ H λx H1=>∃a,x=.ref a/\(∃xs,SqL K H1 a xs)/\R (Itl K a) H1
def zsu{l:Expr}{tl:TE}(hl:PE X l tl):PI X tg l (zno X.K tl):=by
 intro pins s σ H R I h;refine thn (hl pins s σ H _ I h) λv c i=>?_;obtain⟨x,H1,d,g,k⟩:=i;obtain⟨a,e,⟨xs,f⟩,q⟩:=k;subst e;cases g;obtain⟨its,m,p,n⟩:=d.list f;refine wpAny_pyIter_list p.isList ?_;refine⟨c.heap.objs.size,[c.heap.objs.size],_,_,H1,rfl,d.kept (t':=c.toks) λb o e=>Heap.get?_push_of_some _ e,zok a _,⟨_,Heap.get?_push_size _ rfl,rfl,rfl⟩,λb j=>?_,q⟩;have e:b=c.heap.objs.size:=by simpa using j
 subst e;exact d.fpOk (yg _) (d.hok.fresh (yg _))
def zlE{R:It->Hp->Prop}{E:Value->Shared->Prop}{hi:Int}{t u v:Tok}{tk:Nat}(I:Inv X pins σ H s)(h1:-(2 ^ 62)<=lo)(h2:lo<2 ^ 62)(d:-(2 ^ 62)<=hi)(f:hi<2 ^ 62)
  (q:R (Itr lo (hi-lo).toNat) H):wpAny "0f" X.A (pyIter (.ref s.heap.objs.size)) (PIE X pins σ tg R) E { s with heap:=s.heap.push { cls:=.type "range",data:=.fields #[.int lo t,.int hi u,.int 1 v] },toks:=tk }:=by
 refine wpAny_pyIter_range (IsRange.new ..) (small_one h1 h2 d f) ?_;have a:Inv X pins σ H { s with heap:=s.heap.push { cls:=.type "range",data:=.fields #[.int lo t,.int hi u,.int 1 v] },toks:=tk }:=I.kept λb o e=>Heap.get?_push_of_some _ e;refine⟨(s.heap.push { cls:=.type "range",data:=.fields #[.int lo t,.int hi u,.int 1 v] }).objs.size,[(s.heap.push { cls:=.type "range",data:=.fields #[.int lo t,.int hi u,.int 1 v] }).objs.size],_,_,H,rfl,
  a.kept (t':=tk) λb o e=>Heap.get?_push_of_some _ e,znr _ lo (hi-lo).toNat,?_,λb g=>?_,q⟩
 ·have h:lo+((0:Nat):Int)*1=lo:=by simp
  have c:(((hi-lo).toNat:Nat):Int)-((0:Nat):Int)=Builtin.Range.rangeSize lo hi 1:=by rw[rangeSize_one];split<;>lia
  show IsRangeIter _ _ (lo+((0:Nat):Int)*1) ((((hi-lo).toNat:Nat):Int)-((0:Nat):Int)) 1;rw[h,c];exact Heap.get?_push_size _ rfl
 ·have e:b=(s.heap.push { cls:=.type "range",data:=.fields #[.int lo t,.int hi u,.int 1 v] }).objs.size:=by simpa using g
  subst e;exact a.fpOk (yg _) (a.hok.fresh (yg _))
noncomputable def zrG (ta:TA):TI:=λσ H R=>ta σ H λvs H1=>∃j:Int,vs=[.int j]/\-(2 ^ 62)<=j/\j<2 ^ 62/\R (Itr 0 j.toNat) H1
noncomputable def zrm (ta:TA):TI:=λσ H R=>ta σ H λvs H1=>∃i j:Int,vs=[.int i,.int j]/\(-(2 ^ 62)<=i/\i<2 ^ 62/\-(2 ^ 62)<=j/\j<2 ^ 62)/\R (Itr i (j-i).toNat) H1
def zZ{a:Expr}{ta:TA}{p pos:Pos}(d:Gl X "range")(g:X.mg "range" = none)(ha:PA X [a] ta)(i:autoParam (starEach [a] X.env=[(false,eval a X.env)]) Internal.aut2._auto_1):PI X tg (.Call (.Name "range" p) [a] [] pos) (zrG ta):=by
 intro pins s σ H R I h;refine Call_ (zcL I d g boot_range (yaA (thn (ha pos pins s σ H _ I h) λus l ⟨vs,H1,k,f,b⟩=>?_) i rfl));obtain⟨j,e,b,c,q⟩:=b;subst e;cases f with
 | cons r rr=>
  cases rr;obtain⟨t,rfl⟩:=r;exact call_range_1 (zlE k ⋯ ⋯ b c (by simpa using q))
def zoq{a b:Expr}{ta:TA}{p pos:Pos}(k:Gl X "range")(m:X.mg "range" = none)(ha:PA X [a,b] ta)(n:autoParam (starEach [a,b] X.env=[(false,eval a X.env),(false,eval b X.env)]) Internal.aut2._auto_1)(c:autoParam (starEach [b] X.env=[(false,eval b X.env)]) Internal.aut2._auto_1) :
  PI X tg (.Call (.Name "range" p) [a,b] [] pos) (zrm ta):=by
 intro pins s σ H R I h;refine Call_ (zcL I k m boot_range (yaA (thn (ha pos pins s σ H _ I h) λus v ⟨vs,H1,u,l,d⟩=>?_) (by rw[n,c]) (by rw[c];rfl)));obtain⟨i,j,e,⟨d,f,g,o⟩,q⟩:=d;subst e;cases l with
 | cons r rr=>
  cases rr with
  | cons r' rr=>
   cases rr;obtain⟨t,rfl⟩:=r;obtain⟨t',rfl⟩:=r';exact call_range_2 (zlE u d f g o q)
noncomputable def ztR (wi:TI) (g:TG) (tb:TS):TS:=λD σ H=>wi σ H λJ H1=>∃W:Nat->Nat->St->Hp->Prop,(∃m,W 0 m σ H1)/\∀i m σ H,W i m σ H ->
 (J.stop i H/\D.nx σ H)\/(J.go i H/\∃N:St->Hp->Prop,(∀σ' H',N σ' H'->∃m',m'<m/\W (i+1) m' σ' H')/\∀x H',J.yld i H x H'->g x σ H' λa H2=>tb { D with nx:=N,ct:=N,bk:=D.nx } a H2)
noncomputable def zfB (fp:List Addr) (h:Heap):List (Addr × Obj):=fp.filterMap λb=>(h.get? b).map λo=>(b,o)
def zdK{o:Obj}(a:b∈fp)(e:h.get? b=some o):(b,o)∈zfB fp h:=ybI.mpr ⟨b,a,by rw[e];rfl⟩
def zoe{p:Addr × Obj}(hp:p∈zfB fp h):p.1∈fp/\h.get? p.1=some p.2:=by
 obtain⟨b,c,e⟩:=ybI.mp hp;cases q:h.get? b with
 | none=>rw[q]at e;cases e
 | some o=>
  rw[q]at e;have a:(b,o)=p:=yn e;subst a;exact⟨c,q⟩
def Inv.pinned(I:Inv X pins σ H s)(f:∀b∈fp,zcU X pins H b)(j:∀b∈fp,∃o,s.heap.get? b=some o/\∀v,o.data≠.cell v):Inv X (pins++zfB fp s.heap) σ H s:=
 I.pins_of λp hp=>(yL.mp hp).elim (λz=>I.pin p (yq _ z)) λz=>by
  obtain⟨a,e⟩:=zoe z;obtain⟨i,h,g,_⟩:=f p.1 a;obtain⟨o,c,d⟩:=j p.1 a;rw[e]at c;cases c;exact⟨e,i,h,g,d⟩
def Inv.unpinned{pl:List (Addr × Obj)}(I:Inv X (pins++pl) σ H s):Inv X pins σ H s:=I.pins_of λp hp=>I.pin p (yq _ (yt _ hp))
def zaf{body:List Stmt}{tb:TS}{pos:Pos}(hp:PassesOwn "0f" X.A X.env X.xe)(Y:X.calm=true)(hi:PI X tg iter wi)(hg:PG X tg g)(l:PSs X body tb)
  (hs:autoParam (∀x,foldedSetIterable iter X.env x=pure x) Internal.aut3._auto_1):PS X (.For tg iter body [] pos) (ztR wi g tb):=by
 intro pins s σ H D I h;refine wpAny_For (thn (hi pins s σ H _ I h) λv s1 h1=>thn h1 λa0 s2 h2=>?_) hs;obtain⟨it,fp,P,J,H2,e,I2,T,F,S,W,⟨m0,w0⟩,turn⟩:=h2;subst e
 -- what stays true of the iterator's objects through the loop
 have k:∀{H':Hp},(∀b∈fp,H' b=none)->∀b∈fp,zcU X pins H' b:=λhn b l=>⟨hn b l,(S b l).2⟩
 refine codeAny_forLoop_any (λn s'=>∃i σ' H',Inv X pins σ' H' s'/\P i s'.heap/\(∀b∈fp,H' b=none)/\W i n σ' H') ?_ m0 ⟨0,σ,H2,I2,F,λb l=>(S b l).1,w0⟩;rintro n U ⟨i,y,E,R,B,C,w3⟩;rcases turn i n y E w3 with⟨stop,qn⟩ | ⟨go,N,hN,step⟩
 ·refine wpAny_passesOwn hp (thn (T.done X rfl rfl rfl Y i pins U y E X.xe R (k C) B stop) λr Z ⟨K,I4⟩=>?_);subst K;exact wpAny_execs_nil ⟨y,E,I4,qn⟩
 ·refine wpAny_passesOwn hp (thn (T.item X rfl rfl rfl Y i pins U y E X.xe R (k C) B go) λr Z ⟨u,K,h4⟩=>?_);subst K;refine wpAny_passesOwn hp (thn h4 λ_ V O=>?_);obtain⟨x,Q,I5,r5,y5,t,L⟩:=O;have M:=I5.pinned (k L) (T.obj _ _ t);refine wpAny_passesOwn hp (thn (hg _ V y Q x u _ M r5 (step x Q y5)) λ_ s6 O=>?_);obtain⟨σ6,H6,I6,q6⟩:=O;refine wpAny_passesOwn hp (thn (l _ s6 σ6 H6 _ I6 q6) λf G q=>?_);have p:∀{c:St} {a:Hp},Inv X (pins++zfB fp V.heap) c a G->N c a->∃m,m<n/\∃i σ' H',Inv X pins σ' H' G/\P i G.heap/\(∀b∈fp,H' b=none)/\W i m σ' H':=λ{c a} j z=>by
   obtain⟨m',hm,w7⟩:=hN c a z;refine⟨m',hm,i+1,c,a,j.unpinned,T.keep _ _ _ t λb l o e=>(j.pin (b,o) (yq _ (yq _ (zdK l e)))).1,λb l=>?_,w7⟩;obtain⟨o,e,d⟩:=T.obj _ _ t b l;exact(j.pin (b,o) (yq _ (yq _ (zdK l e)))).2.1
  cases f with
  | next=>obtain⟨c,a,j,z⟩:=q;exact p j z
  | cont=>obtain⟨c,a,j,z⟩:=q;exact p j z
  | brk=>obtain⟨c,a,j,q⟩:=q;exact⟨c,a,j.unpinned,q⟩
  | ret v=>obtain⟨x7,c,a,j,r7,q⟩:=q;exact⟨x7,c,a,j.unpinned,r7,q⟩
end
def zqM{g:TG}{tb:TS}{D:Ends}(b:Nat->St->Hp->Prop)(h:b 0 σ H)(hl:∀i σ H,i<=xs.length->b i σ H->SqL K H a xs)
  (hs:∀i x σ H,xs[i]?=some x->b i σ H->g x σ H λf H2=>tb { D with nx:=b (i+1),ct:=b (i+1),bk:=D.nx } f H2) (hd:∀σ H,b xs.length σ H->D.nx σ H) :
  ∃W:Nat->Nat->St->Hp->Prop,(∃m,W 0 m σ H)/\∀i m σ H,W i m σ H ->
   ((Itl K a).stop i H/\D.nx σ H)\/((Itl K a).go i H/\∃N:St->Hp->Prop,(∀d H',N d H'->∃m',m'<m/\W (i+1) m' d H')/\∀x H',(Itl K a).yld i H x H'->g x σ H' λf H2=>tb { D with nx:=N,ct:=N,bk:=D.nx } f H2):=by
 refine⟨λi m σ H=>m=xs.length-i/\i<=xs.length/\b i σ H,⟨xs.length,by simp,yW _,h⟩,?_⟩;rintro i m σ H ⟨rfl,hi,p⟩;have q:=hl i σ H hi p;by_cases c:i<xs.length
 ·refine .inr ⟨⟨xs,xs[i],q,by simp[c]⟩,b (i+1),λd H' j=>⟨xs.length-(i+1),⋯,rfl,c,j⟩,λx H' y=>?_⟩;obtain⟨e,y⟩:=y;subst e;exact hs i x σ _ (y xs q) p
 ·have e:i=xs.length:=by lia
  subst e;exact .inl ⟨⟨xs,q,yg _⟩,hd σ H p⟩
def zpe{lo:Int}{n:Nat}{g:TG}{tb:TS}{D:Ends}(a:Nat->St->Hp->Prop)(f:a 0 σ H)
  (hs:∀i σ H,i<n->a i σ H->g (.int (lo+i)) σ H λd H2=>tb { D with nx:=a (i+1),ct:=a (i+1),bk:=D.nx } d H2) (hd:∀σ H,a n σ H->D.nx σ H) :
  ∃W:Nat->Nat->St->Hp->Prop,(∃m,W 0 m σ H)/\∀i m σ H,W i m σ H ->
   ((Itr lo n).stop i H/\D.nx σ H)\/((Itr lo n).go i H/\∃N:St->Hp->Prop,(∀c H',N c H'->∃m',m'<m/\W (i+1) m' c H')/\∀x H',(Itr lo n).yld i H x H'->g x σ H' λd H2=>tb { D with nx:=N,ct:=N,bk:=D.nx } d H2):=by
 refine⟨λi m σ H=>m=n-i/\i<=n/\a i σ H,⟨n,by simp,yW _,f⟩,?_⟩;rintro i m σ H ⟨rfl,hi,p⟩;by_cases b:i<n
 ·refine .inr ⟨b,a (i+1),λc H' h=>⟨n-(i+1),⋯,rfl,b,h⟩,λx H' y=>?_⟩;obtain⟨e,y⟩:=y;subst e y;exact hs i σ _ b p
 ·have e:i=n:=by lia
  subst e;exact .inl ⟨yg _,hd σ H p⟩
abbrev R2:=V->V->Hp->VK->Prop
noncomputable def OpR (X:Cx) (f:Value->Value->Sem Value) (r:R2):Prop:=
 ∀(pins:List (Addr × Obj)) (s:Shared) (σ:St) (H:Hp) (x y:V) (v u:Value) (Q:VK),Inv X pins σ H s->RelV x v->RelV y u->r x y H Q ->
  wpAny "0f" X.A (f v u) (EP X pins σ Q) X.xe s
noncomputable def UnR (X:Cx) (f:Value->Sem Value) (r:V->Hp->VK->Prop):Prop:=
 ∀(pins:List (Addr × Obj)) (s:Shared) (σ:St) (H:Hp) (x:V) (v:Value) (Q:VK),Inv X pins σ H s->RelV x v->r x H Q ->
  wpAny "0f" X.A (f v) (EP X pins σ Q) X.xe s
noncomputable def CallR (X:Cx) (f:Value) (r:List V->Hp->VK->Prop):Prop:=
 ∀(pins:List (Addr × Obj)) (s:Shared) (σ:St) (H:Hp) (xs:List V) (us:List Value) (Q:VK),Inv X pins σ H s->Vals xs us->r xs H Q ->
  wpAny "0f" X.A (call f us) (EP X pins σ Q) X.xe s
noncomputable def zvs (X:Cx) (r:V->Hp->(Bool->Hp->Prop)->Prop):Prop:=
 ∀(pins:List (Addr × Obj)) (s:Shared) (σ:St) (H:Hp) (x:V) (v:Value) (Q:Bool->Hp->Prop),Inv X pins σ H s->RelV x v->r x H Q ->
  wpAny "0f" X.A (truthy v) (TP X pins σ Q) X.xe s
abbrev tOp(r:R2)(ta tb:TE):TE:=λσ H Q=>ta σ H λx H1=>tb σ H1 λy H2=>r x y H2 Q
abbrev tUn(r:V->Hp->VK->Prop)(ta:TE):TE:=λσ H Q=>ta σ H λx H1=>r x H1 Q
noncomputable def rI (C:Int->Int->Prop) (g:Int->Int->V):R2:=λx y H Q=>∃i j,x=.int i/\y=.int j/\C i j/\Q (g i j) H
noncomputable def rI0 (g:Int->Int->V):R2:=λx y H Q=>∃i j,x=.int i/\y=.int j/\Q (g i j) H
noncomputable def rU (g:Int->V):V->Hp->VK->Prop:=λx H Q=>∃i,x=.int i/\Q (g i) H
section
variable {X:Cx}{a b c:Expr}{ta tb tc:TE}{pos:Pos}
def zp9(ha:PE X a ta)(l:PE X b tb){R:V->V->Hp->Prop}(I:Inv X pins σ H s)
  (h:ta σ H λx H1=>tb σ H1 λy H2=>R x y H2) {Q:Value->Shared->Prop} {f:Value->Value->Sem Value}
  (hf:∀v u c x y H2,Inv X pins σ H2 c->RelV x v->RelV y u->R x y H2->wpAny "0f" X.A (f v u) Q X.xe c) :
  wpAny "0f" X.A (eval a X.env) (λv e=>wpAny "0f" X.A (eval b X.env) (λu g=>wpAny "0f" X.A (f v u) Q X.xe g) X.xe e) X.xe s:=by
 refine thn (ha pins s σ H _ I h) λv p d=>?_;obtain⟨x,H1,o,j,m⟩:=d;refine thn (l pins p σ H1 _ o m) λu c d=>?_;obtain⟨y,H2,k,n,i⟩:=d;exact hf v u c x y H2 k j n i
def zw{c:Operator}{r:R2}(j:OpR X (binaryOp c) r)(ha:PE X a ta)(i:PE X b tb):PE X (.BinOp a c b pos) (tOp r ta tb):=by
 intro pins s σ H Q I h;exact wpAny_BinOp (zp9 ha i I h λv u f x y H2 g d e q=>j pins f σ H2 x y v u Q g d e q)
def zeW{b:UnaryOp}{r:V->Hp->VK->Prop}(g:UnR X (unaryOp b) r)(ha:PE X a ta):PE X (.UnaryOp b a pos) (tUn r ta):=by
 intro pins s σ H Q I h;exact UnaryOp_ (thn (ha pins s σ H _ I h) λv f ⟨x,H1,d,c,e⟩=>g pins f σ H1 x v Q d c e)
def opI{f:Value->Value->Sem Value}{C:Int->Int->Prop}{g:Int->Int->Int}
  (rule:∀(i j:Int) (t u:Tok) (s:Shared) (Q:Value->Shared->Prop) (E:Value->Shared->Prop),C i j->Q (.int (g i j) s.toks) { s with toks:=s.toks+1 }->wpAny "0f" X.A (f (.int i t) (.int j u)) Q E s) :
  OpR X f (rI C λi j=>.int (g i j)):=by
 intro pins s σ H x y v u Q I a b h;obtain⟨i,j,rfl,rfl,c,q⟩:=h;obtain⟨t,rfl⟩:=a;obtain⟨t',rfl⟩:=b;exact rule i j t t' s _ _ c ⟨.int (g i j),H,I.tok _,⟨_,rfl⟩,q⟩
def zul{f:Value->Value->Sem Value}{g:Int->Int->Int}
  (rule:∀(i j:Int) (t u:Tok) (s:Shared) (Q:Value->Shared->Prop) (E:Value->Shared->Prop),Q (.int (g i j) s.toks) { s with toks:=s.toks+1 }->wpAny "0f" X.A (f (.int i t) (.int j u)) Q E s) :
  OpR X f (rI0 λi j=>.int (g i j)):=by
 intro pins s σ H x y v u Q I a b h;obtain⟨i,j,rfl,rfl,q⟩:=h;obtain⟨t,rfl⟩:=a;obtain⟨t',rfl⟩:=b;exact rule i j t t' s _ _ ⟨.int (g i j),H,I.tok _,⟨_,rfl⟩,q⟩
def ztj{f:Value->Value->Sem Value}{g:Int->Int->Bool}
  (rule:∀(i j:Int) (t u:Tok) (s:Shared) (Q:Value->Shared->Prop) (E:Value->Shared->Prop),Q (.bool (g i j)) s->wpAny "0f" X.A (f (.int i t) (.int j u)) Q E s) :
  OpR X f (rI0 λi j=>.bl (g i j)):=by
 intro pins s σ H x y v u Q I a b h;obtain⟨i,j,rfl,rfl,q⟩:=h;obtain⟨t,rfl⟩:=a;obtain⟨t',rfl⟩:=b;exact rule i j t t' s _ _ ⟨.bl (g i j),H,I,rfl,q⟩
noncomputable def znG (i j:Int):Prop:=0<=j/\j<=1000000/\i.natAbs<2 ^ 64
def op_add:OpR X (binaryOp .Add) (rI0 λi j=>.int (i+j)):=zul λ_ _ _ _ _ _ _ q=>add_int q
def zce:OpR X (binaryOp .Sub) (rI0 λi j=>.int (i-j)):=zul λ_ _ _ _ _ _ _ q=>sub_int q
def zsv:OpR X (binaryOp .Mod) (rI (λ_ j=>j≠0) λi j=>.int (i.fmod j)):=opI λ_ _ _ _ _ _ _ a q=>mod_int' a q
def zfQ:OpR X (binaryOp .Pow) (rI znG λi j=>.int (i ^ j.toNat)):=opI λ_ _ _ _ _ _ _ a q=>pow_int_small a.1 a.2.1 a.2.2 q
def unI{f:Value->Sem Value}{g:Int->Int}
  (rule:∀(i:Int) (t:Tok) (s:Shared) (Q:Value->Shared->Prop) (E:Value->Shared->Prop),Q (.int (g i) s.toks) { s with toks:=s.toks+1 }->wpAny "0f" X.A (f (.int i t)) Q E s) :
  UnR X f (rU λi=>.int (g i)):=by
 intro pins s σ H x v Q I a h;obtain⟨i,rfl,q⟩:=h;obtain⟨t,rfl⟩:=a;exact rule i t s _ _ ⟨.int (g i),H,I.tok _,⟨_,rfl⟩,q⟩
def zd3:UnR X (unaryOp .USub) (rU λi=>.int (-i)):=unI λ_ _ _ _ _ q=>neg_int q
end
noncomputable def scal:V->V->Bool
 | .non,.non=>true | .non,.int _=>true | .int _,.non=>true | .non,.bl _=>true | .bl _,.non=>true | .non,.str _=>true | .str _,.non=>true
 | .int _,.int _=>true | .bl _,.bl _=>true | .str _,.str _=>true | .byt _,.byt _=>true
 | .int _,.str _=>true | .str _,.int _=>true | .bl _,.str _=>true | .str _,.bl _=>true
 | _,_=>false
noncomputable def rEq:R2:=λx y H Q=>scal x y=true/\Q (.bl (decide (x=y))) H
noncomputable def rNe:R2:=λx y H Q=>scal x y=true/\Q (.bl (!decide (x=y))) H
def zl8{i j:Int}:decide (V.int i=V.int j)=(i == j):=by
 rw[yby]
 simp
def zpt{i j:Bool}:decide (V.bl i=V.bl j)=(i == j):=by
 rw[yby]
 simp
def zmz{i j:Str}:decide (V.str i=V.str j)=(i == j):=by
 rw[yby]
 simp
def zmJ{i j:Array UInt8}:decide (V.byt i=V.byt j)=(i.toList == j.toList):=by
 rw[yby];cases i;cases j
 simp
section
variable {X:Cx}{a b c:Expr}{ta tb tc:TE}{pos:Pos}
def zaj{k k':Bool}(I:Inv X pins σ H s)(q:Q (.bl k) H)(e:k=k'):EP X pins σ Q (.bool k') s:=by
 subst e;exact⟨.bl k,H,I,rfl,q⟩
def zva:OpR X (compareOp .Eq) rEq:=by
 intro pins s σ H x y v u Q I c a h;obtain⟨b,q⟩:=h;cases x with
 | non=>
  cases c;cases y with
  | non=>cases a;exact PySem.EqNone.eq_none_none (zaj I q (by simp))
  | bl j=>cases a;exact PySem.EqNone.eq_none_bool (zaj I q (by simp))
  | int j=>obtain⟨t',rfl⟩:=a;exact PySem.EqNone.eq_none_int (zaj I q (by simp))
  | str j=>obtain⟨t',rfl⟩:=a;exact PySem.EqNone.eq_none_str (zaj I q (by simp))
  | _=>exact absurd (show false=true from b) yr
 | bl i=>
  cases c;cases y with
  | non=>cases a;exact PySem.EqNone.eq_bool_none (zaj I q (by simp))
  | bl j=>cases a;exact eq_bool (zaj I q zpt)
  | str j=>obtain⟨t',rfl⟩:=a;exact PySem.EqMixed.eq_bool_str (zaj I q (by simp))
  | _=>exact absurd (show false=true from b) yr
 | int i=>
  obtain⟨t,rfl⟩:=c;cases y with
  | non=>cases a;exact PySem.EqNone.eq_int_none (zaj I q (by simp))
  | int j=>obtain⟨t',rfl⟩:=a;exact eq_int (zaj I q zl8)
  | str j=>obtain⟨t',rfl⟩:=a;exact PySem.EqMixed.eq_int_str (zaj I q (by simp))
  | _=>exact absurd (show false=true from b) yr
 | str i=>
  obtain⟨t,rfl⟩:=c;cases y with
  | non=>cases a;exact PySem.EqNone.eq_str_none (zaj I q (by simp))
  | bl j=>cases a;exact PySem.EqMixed.eq_str_bool (zaj I q (by simp))
  | int j=>obtain⟨t',rfl⟩:=a;exact PySem.EqMixed.eq_str_int (zaj I q (by simp))
  | str j=>obtain⟨t',rfl⟩:=a;exact eq_str (zaj I q zmz)
  | _=>exact absurd (show false=true from b) yr
 | byt i=>
  obtain⟨t,rfl⟩:=c;cases y with
  | byt j=>obtain⟨t',rfl⟩:=a;exact PySem.W.eq_bytes (zaj I q zmJ)
  | _=>exact absurd (show false=true from b) yr
 | _=>cases y<;>exact absurd (show false=true from b) yr
def zu5:OpR X (compareOp .NotEq) rNe:=by
 intro pins s σ H x y v u Q I c a h;obtain⟨b,q⟩:=h;cases x with
 | non=>
  cases c;cases y with
  | non=>cases a;exact PySem.EqNone.ne_none_none (zaj I q (by simp))
  | bl j=>cases a;exact PySem.EqNone.ne_none_bool (zaj I q (by simp))
  | int j=>obtain⟨t',rfl⟩:=a;exact PySem.EqNone.ne_none_int (zaj I q (by simp))
  | str j=>obtain⟨t',rfl⟩:=a;exact PySem.EqNone.ne_none_str (zaj I q (by simp))
  | _=>exact absurd (show false=true from b) yr
 | bl i=>
  cases c;cases y with
  | non=>cases a;exact PySem.EqNone.ne_bool_none (zaj I q (by simp))
  | bl j=>cases a;exact ne_bool (zaj I q (congrArg not zpt))
  | str j=>obtain⟨t',rfl⟩:=a;exact PySem.EqMixed.ne_bool_str (zaj I q (by simp))
  | _=>exact absurd (show false=true from b) yr
 | int i=>
  obtain⟨t,rfl⟩:=c;cases y with
  | non=>cases a;exact PySem.EqNone.ne_int_none (zaj I q (by simp))
  | int j=>obtain⟨t',rfl⟩:=a;exact ne_int (zaj I q (congrArg not zl8))
  | str j=>obtain⟨t',rfl⟩:=a;exact PySem.EqMixed.ne_int_str (zaj I q (by simp))
  | _=>exact absurd (show false=true from b) yr
 | str i=>
  obtain⟨t,rfl⟩:=c;cases y with
  | non=>cases a;exact PySem.EqNone.ne_str_none (zaj I q (by simp))
  | bl j=>cases a;exact PySem.EqMixed.ne_str_bool (zaj I q (by simp))
  | int j=>obtain⟨t',rfl⟩:=a;exact PySem.EqMixed.ne_str_int (zaj I q (by simp))
  | str j=>obtain⟨t',rfl⟩:=a;exact ne_str (zaj I q (congrArg not zmz))
  | _=>exact absurd (show false=true from b) yr
 | byt i=>
  obtain⟨t,rfl⟩:=c;cases y with
  | byt j=>obtain⟨t',rfl⟩:=a;exact PySem.W.ne_bytes (zaj I q (congrArg not zmJ))
  | _=>exact absurd (show false=true from b) yr
 | _=>cases y<;>exact absurd (show false=true from b) yr
def zcV:OpR X (compareOp .Lt) (rI0 λi j=>.bl (decide (i<j))):=ztj λ_ _ _ _ _ _ _ q=>lt_int q
def zcl:OpR X (compareOp .Gt) (rI0 λi j=>.bl (decide (j<i))):=ztj λ_ _ _ _ _ _ _ q=>gt_int q
def zgi:OpR X (compareOp .Is) (λx y H Q=>y=.non/\Q (.bl (decide (x=.non))) H):=by
 intro pins s σ H x y v u Q I a b h;obtain⟨rfl,q⟩:=h;cases b;refine is_none_gen (zaj I q ?_);cases x<;>first
  | (cases a;rfl)
  | (obtain⟨t,rfl⟩:=a;rfl)
def zgs:OpR X (compareOp .IsNot) (λx y H Q=>y=.non/\Q (.bl (!decide (x=.non))) H):=by
 intro pins s σ H x y v u Q I a b h;obtain⟨rfl,q⟩:=h;cases b;refine isnot_none_gen (zaj I q ?_);cases x<;>first
  | (cases a;rfl)
  | (obtain⟨t,rfl⟩:=a;rfl)
def OpR.or{f:Value->Value->Sem Value}{r a:R2}(h:OpR X f r)(h':OpR X f a):OpR X f (λx y H Q=>r x y H Q\/a x y H Q):=by
 intro pins s σ H x y v u Q I b c q;rcases q with q | q
 ·exact h pins s σ H x y v u Q I b c q
 ·exact h' pins s σ H x y v u Q I b c q
def nomark(b:Expr){a:CmpOp}(h:autoParam (a≠.In) Internal.aut1._auto_1)(h2:autoParam (a≠.NotIn) Internal.aut1._auto_1):behindInMarks a b=false:=by
 have c:(a == CmpOp.In)=false:=by cases a<;>first | rfl | exact absurd rfl h
 have d:(a == CmpOp.NotIn)=false:=by cases a<;>first | rfl | exact absurd rfl h2
 cases b<;>simp[behindInMarks,c,d]
def zbl{c:CmpOp}{r:R2}(k:OpR X (compareOp c) r)(ha:PE X a ta)(j:PE X b tb)(g:behindInMarks c b=false):PE X (.Compare a [c] [b] pos) (tOp r ta tb):=by
 intro pins s σ H Q I h;exact wpAny_Compare1 (zp9 ha j I h λv u f x y H2 i d e q=>k pins f σ H2 x y v u Q i d e q) g
abbrev zuX(t:TE):TT:=λσ H Q=>t σ H λx H'=>∃k,x=.bl k/\Q k H'
def zF{d:CmpOp}{r:R2}(n:OpR X (compareOp d) r)(ha:PE X a ta)(t:PE X b tb)(p:behindInMarks d b=false):PT X (.Compare a [d] [b] pos) (zuX (tOp r ta tb)):=by
 intro pins s σ H Q I h;refine wpAny_isTrue_Compare1 (thn (ha pins s σ H _ I h) λv l ⟨x,H1,B,m,w⟩=>thn (t pins l σ H1 _ B w) λu o ⟨y,H2,q,A,f⟩=>
  thn (n pins o σ H2 x y v u _ q m A f) λc D ⟨z,g,C,j,k,e,i⟩=>?_) p
 subst e;cases j;exact wpAny_truthy_bool ⟨g,C,i⟩
noncomputable def ziF (K:Fg) (x:V) (H:Hp) (k:Bool):Prop:=
 match x with
 | .non=>k=false
 | .bl b=>k=b
 | .int i=>k=(i != 0)
 | .str y=>y.length<=sizeLine/\k=((y.length:Int) != 0)
 | .byt y=>y.size<=sizeLine/\k=((y.size:Int) != 0)
 | .ref p=>(∃xs,SqL K H p xs/\k=!xs.isEmpty)\/(∃xs,SqT K H p xs/\k=!xs.isEmpty)\/∃kvs,H p=some (.dK kvs)/\k=!kvs.isEmpty
 | _=>False
def zmY{κ:Type}{a:List (κ × V)}{vs:List (κ × Value)}(r:KV a vs):(!vs.isEmpty)=!a.isEmpty:=by
 cases r<;>rfl
def zhL(r:Vals xs its):(!its.toArray.isEmpty)=!xs.isEmpty:=by
 cases r<;>simp
def line63:(sizeLine:Nat)<2 ^ 63:=by rw[sizeLine_eq];decide
def zo8:zvs X (λx H Q=>∃k,ziF X.K x H k/\Q k H):=by
 intro pins s σ H x v Q I d h;obtain⟨k,e,q⟩:=h;have hl:=line63;have l:sizeLine=16777216:=sizeLine_eq;cases x with
 | non=>
  cases d;have a:k=false:=e;subst a;exact truthy_none ⟨H,I,q⟩
 | bl b=>
  cases d;have a:k=b:=e;subst a;exact wpAny_truthy_bool ⟨H,I,q⟩
 | int i=>
  obtain⟨t,rfl⟩:=d;have a:k=(i != 0):=e;subst a;exact PySem.P.truthy_int ⟨H,I,q⟩
 | str y=>
  obtain⟨t,rfl⟩:=d;obtain⟨g,a⟩:y.length<=sizeLine/\k=((y.length:Int) != 0):=e;subst a;exact PySem.P.truthy_str ⋯ ⟨H,I.tok _,q⟩
 | byt y=>
  obtain⟨t,rfl⟩:=d;obtain⟨g,a⟩:y.size<=sizeLine/\k=((y.size:Int) != 0):=e;subst a;exact PySem.W.truthy_bytes ⋯ ⟨H,I.tok _,q⟩
 | ref p=>
  cases d;have a:(∃xs,SqL X.K H p xs/\k=!xs.isEmpty)\/(∃xs,SqT X.K H p xs/\k=!xs.isEmpty)\/∃kvs,H p=some (.dK kvs)/\k=!kvs.isEmpty:=e;rcases a with⟨xs,hx,a⟩ | ⟨xs,hx,a⟩ | ⟨kvs,hx,a⟩
  ·subst a;obtain⟨its,r,pl,f⟩:=I.list hx;have c:=r.length;exact wpAny_truthy_list pl.isList (by simp only[yp];lia) ⟨H,I.tok _,by rw[zhL r];exact q⟩
  ·subst a;obtain⟨its,r,pl,f⟩:=I.tuple hx;have c:=r.length;exact truthy_tuple pl (by simp only[yp];lia) ⟨H,I.tok _,by rw[zhL r];exact q⟩
  ·subst a;obtain⟨f,j,vs,r,m⟩:kvs.length<=sizeLine/\(p == sysModules)=false/\∃vs,KV kvs vs/\s.heap.DictOf (ziU X.prog X.w) p vs:=I.hok p _ hx;have c:kvs.length=vs.length:=Paired.length r;exact wpAny_truthy_dict j m ⋯ ⟨H,I.tok _,by rw[zmY r];exact q⟩
 | _=>exact(show False from e).elim
def zpF(ha:PE X a ta)(e:∀whole,isTrue a X.env whole=(do let v <- whole;standAt a.pos;holding [v] (truthy v))) :
  PT X a (λσ H Q=>ta σ H λx H'=>∃k,ziF X.K x H' k/\Q k H'):=by
 intro pins s σ H Q I h;exact isTrue_plain (thn (ha pins s σ H _ I h) λv f ⟨x,H1,c,b,d⟩=>zo8 pins f σ H1 x v Q c b d) (e _)
def vals1{x:V}(r:Vals [x] us):∃u,us=[u]/\RelV x u:=by
 cases r with
 | cons r1 r2=>cases r2;exact⟨_,rfl,r1⟩
def vals2{x:V}(r:Vals [x,y] us):∃u w',us=[u,w']/\RelV x u/\RelV y w':=by
 cases r with
 | cons r1 r2=>
  cases r2 with
  | cons r3 r4=>cases r4;exact⟨_,_,rfl,r1,r3⟩
def zpL:CallR X (.builtin "abs") (λxs H Q=>∃i,xs=[.int i]/\Q (.int (if i<0 then -i else i)) H):=by
 intro pins s σ H xs us Q I r h;obtain⟨i,rfl,q⟩:=h;obtain⟨u,rfl,t,rfl⟩:=vals1 r;exact call_abs_int λu tk=>⟨.int (if i<0 then -i else i),H,I.tok _,⟨_,rfl⟩,q⟩
def zo0(b:X.calm=true):CallR X (.builtin "max") (λxs H Q=>∃i j,xs=[.int i,.int j]/\Q (.int (if j>i then j else i)) H):=by
 intro pins s σ H xs us Q I r h;obtain⟨i,j,rfl,q⟩:=h;obtain⟨u,c,rfl,⟨t,rfl⟩,⟨t',rfl⟩⟩:=vals2 r;refine max_two_ints (I.ok.hd b) λh' tk k=>⟨_,H,I.kept k,?_,q⟩
 by_cases a:j>i
 ·rw[if_pos a,if_pos a];exact⟨_,rfl⟩
 ·rw[if_neg a,if_neg a];exact⟨_,rfl⟩
def zpj(b:X.calm=true):CallR X (.builtin "min") (λxs H Q=>∃i j,xs=[.int i,.int j]/\Q (.int (if j<i then j else i)) H):=by
 intro pins s σ H xs us Q I r h;obtain⟨i,j,rfl,q⟩:=h;obtain⟨u,c,rfl,⟨t,rfl⟩,⟨t',rfl⟩⟩:=vals2 r;refine min_two_ints (I.ok.hd b) λh' tk k=>⟨_,H,I.kept k,?_,q⟩
 by_cases a:j<i
 ·rw[if_pos a,if_pos a];exact⟨_,rfl⟩
 ·rw[if_neg a,if_neg a];exact⟨_,rfl⟩
end
set_option genInjectivity false in
set_option genSizeOf false in
structure ObjM(h:Heap)(x dx C:Addr)(mA:Str->Option Value):Prop where
 obj:h.get? x=some (PySem.W.instObj C dx)
 ns:h.Ns1 dx mA
 ne:dx≠x
def zoB{dx:Addr}{mA:Str->Option Value}(n:h.Ns1 dx mA):∃od,h.get? dx=some od/\∀name,PySem.W.lookIn name od=some (mA name):=by
 obtain⟨o,es,j,i,hd,f,_,g⟩:=n;refine⟨o,i,λname=>?_⟩;have e:=g name;unfold nsFind findBy at e;rw[<- Array.find?_toList]at e;unfold PySem.W.lookIn;rw[hd];dsimp only;split
 ·rename_i y q;rw[q]at e;exact congrArg some e
 ·rename_i q;rw[q]at e;have a:es.toList.any (·.refKey)=false:=by
   rw[List.any_eq_false];intro y d;obtain⟨z,t,b⟩:=f y (Array.mem_toList_iff.mp d);simp[DictEntry.refKey,b]
  have c:¬es.toList.any (·.refKey)=true:=by rw[a];exact yr
  rw[if_neg c];exact congrArg some e
def ObjM.look{x dx:Addr}{mA:Str->Option Value}(I:ObjM h x dx C mA):∃od,PySem.W.InstAt h x (PySem.W.instObj C dx) C (some od)/\∀name,PySem.W.lookIn name od=some (mA name):=
 let ⟨od,ho,hl⟩:=zoB I.ns
 ⟨od,⟨I.obj,rfl,rfl,ho⟩,hl⟩
section
variable {prog:Program}{w:World}{A:Around}{E:Value->Shared->Prop}{s:Shared}{K:Fg}{x dx C f:Addr}{mA:Str->Option Value}{name:Str}{v:Value}
end
noncomputable def zlB (f:Str) (v:V):List (Str × V)->List (Str × V)
 | []=>[(f,v)]
 | (g,x) :: r=>if g=f then(g,v) :: r else(g,x) :: zlB f v r
section
variable {P:Program}{w:World}{H H':Hp}{h h':Heap}{a C dx:Addr}{fs fs':List (Str × V)}
def zrP(hok:HOk P w H h)(e:H a=some (.ins C dx fs)):∃mA,ObjM h a dx C mA/\(∀f,zqn (fs.lookup f) (mA f))/\PySem.Within mA (fs.map (·.1))/\fs.length<=1000/\H dx=some (.own a):=by
 obtain⟨d,z,ne,b,mA,n,r,q⟩:=(show ObjOk P w H h a (.ins C dx fs)from hok a _ e)
 exact⟨mA,⟨b,n,ne⟩,r,q,z,d⟩
end
set_option genInjectivity false in
set_option genSizeOf false in
structure Cls(K:Fg)(C:Addr):Prop where
 pg:PySem.W.plainGet K C Str.empty=true
 hd:PySem.W.hasDictIn K C=true
 po:PySem.W.plainOver K C=true
 sa:PySem.W.findIn K (.ref C) "__setattr__" = some (some (.builtin "object.__setattr__"))
def Cls.get(c:Cls K C)(f:Str):PySem.W.plainGet K C f=true:=c.pg
set_option genInjectivity false in
set_option genSizeOf false in
structure Con(K:Fg)(C:Addr)(f:Str)(v:V)(u:Value):Prop where
 at_:PySem.W.findIn K (.ref C) f=some (some u)
 rel:RelV v u
 get:PySem.W.specialIn K u "__get__" = some none
 cp:PySem.W.copiedNames.contains f=false
set_option genInjectivity false in
set_option genSizeOf false in
structure Meth(K:Fg)(C:Addr)(m:Str)(f:Addr):Prop where
 at_:PySem.W.findIn K (.ref C) m=some (some (.ref f))
 fn:PySem.W.isFn K (.ref f)=true
 kp:PySem.W.keepIn K (.ref f)=true
section
variable {X:Cx}{pins:List (Addr × Obj)}{σ:St}{H:Hp}{s:Shared}{a C dx:Addr}{fs:List (Str × V)}{f:Str}{v:V}{A:Around}{E:Value->Shared->Prop}
end
section
variable {X:Cx}{o e value:Expr}{f:Str}{pos pos' tpos:Pos}{ta tv:TE}
end
section
variable {X:Cx}{pins:List (Addr × Obj)}{σ:St}{H:Hp}{s:Shared}{A:Around}{E:Value->Shared->Prop}{Q:Value->Shared->Prop}{c:Value}{b:Bool}
inductive TyOf(K:Fg)(H:Hp):V->Value->Prop where
 | non:TyOf K H .non (.type "NoneType")
 | bl (x:Bool):TyOf K H (.bl x) (.type "bool")
 | int (i:Int):TyOf K H (.int i) (.type "int")
 | str (x:Str):TyOf K H (.str x) (.type "str")
 | flt (x:UInt64):TyOf K H (.flt x) (.type "float")
 | lst {a:Addr} {xs:List V} (e:H a=some (.lst xs)):TyOf K H (.ref a) (.type "list")
 | frz {a:Addr} {o:Obj} {xs:List V} (e:H a=some (.frz o (.lst xs))):TyOf K H (.ref a) (.type "list")
 | tup {a:Addr} {xs:List V} (e:H a=some (.tup xs)):TyOf K H (.ref a) (.type "tuple")
 | dK {a:Addr} {kvs:List (Key × V)} (e:H a=some (.dK kvs)):TyOf K H (.ref a) (.type "dict")
 | dT {a:Addr} {kvs:List (List Key × V)} (e:H a=some (.dT kvs)):TyOf K H (.ref a) (.type "dict")
 | ins {a C dx:Addr} {fs:List (Str × V)} (e:H a=some (.ins C dx fs)) (cl:Cls K C) (ha:PySem.W.findIn K (.ref C) "__class__" = some (some (.builtin "object.__class__")))
   (hn:PySem.W.specialIn K (.builtin "object.__class__") "__get__" = some (some (.builtin "getset_descriptor.__get__"))) (htk:PySem.W.takesIn K (.builtin "object.__class__")=some true)
   (hm:PySem.W.mroIn K C (.type "object")=some true):TyOf K H (.ref a) (.ref C)
def zot{x:V}{t:Value}(I:Inv X pins σ H s)(d:RelV x u)(ty:TyOf X.K H x t)(e:PySem.W.kitOne X.K t c=some b)(h:∀tk,Q (.bool b) { s with toks:=tk }) :
  wpAny "0f" A (call (.builtin "isinstance") [u,c]) Q E s:=by
 cases ty with
 | non=>cases(show u=Value.none from d);exact yaj PySem.W.kitx_none I.kIn True.intro e (λz=>nomatch z) h
 | bl y=>cases(show u=Value.bool y from d);exact yaj PySem.W.kitx_bool I.kIn True.intro e (λz=>nomatch z) h
 | int i=>obtain⟨t,q⟩:=(show ∃t,u=Value.int i t from d);cases q;exact yaj PySem.W.kitx_int I.kIn True.intro e (λz=>nomatch z) h
 | str y=>obtain⟨t,q⟩:=(show ∃t,u=Value.str y t from d);cases q;exact yaj PySem.W.kitx_str I.kIn True.intro e (λz=>nomatch z) h
 | flt y=>obtain⟨t,q⟩:=(show ∃t,u=Value.float y t from d);cases q;exact yaj PySem.W.kitx_float I.kIn True.intro e (λz=>nomatch z) h
 | @lst a xs ea=>
  cases(show u=Value.ref a from d)
  obtain⟨_,_,n,_,h1⟩:=(show ObjOk X.prog X.w H s.heap a (.lst xs)from I.hok a _ ea)
  exact yaj PySem.W.kitx_list I.kIn ⟨_,h1,rfl⟩ e (λz=>nomatch z) h
 | @frz a ob xs ea=>
  cases(show u=Value.ref a from d)
  obtain⟨_,_,_,n,_,h1⟩:=(show ObjOk X.prog X.w H s.heap a (.frz ob (.lst xs))from I.hok a _ ea)
  exact yaj PySem.W.kitx_list I.kIn ⟨_,h1,rfl⟩ e (λz=>nomatch z) h
 | @tup a xs ea=>
  cases(show u=Value.ref a from d)
  obtain⟨_,_,_,p⟩:=(show ObjOk X.prog X.w H s.heap a (.tup xs)from I.hok a _ ea)
  obtain⟨o,h1,h2,_⟩:=p;exact yaj PySem.W.kitx_tuple I.kIn ⟨o,h1,h2⟩ e (λz=>nomatch z) h
 | @dK a kvs ea=>
  cases(show u=Value.ref a from d)
  obtain⟨_,_,vs,_,p⟩:=(show ObjOk X.prog X.w H s.heap a (.dK kvs)from I.hok a _ ea)
  obtain⟨o,es,f,h1,h2,_⟩:=p;exact yaj PySem.W.kitx_dict I.kIn ⟨o,h1,h2.1⟩ e (λz=>nomatch z) h
 | @dT a kvs ea=>
  cases(show u=Value.ref a from d)
  obtain⟨_,_,xs,_,o,es,f,h1,h2,_⟩:=(show ObjOk X.prog X.w H s.heap a (.dT kvs)from I.hok a _ ea)
  exact yaj PySem.W.kitx_dict I.kIn ⟨o,h1,h2.1⟩ e (λz=>nomatch z) h
 | @ins a C dx fs ea cl ha hn htk hm=>
  cases(show u=Value.ref a from d)
  obtain⟨mA,O,_⟩:=zrP I.hok ea;obtain⟨g,J,_⟩:=O.look;exact yaj (PySem.W.kitx_own (cl.get _) cl.hd ha hn htk hm) I.kIn J e (λz=>nomatch z) h
end
set_option genInjectivity false in
set_option genSizeOf false in
structure Room(k:Nat)(A:Around):Prop where
 hd:A.handled=none
 dp:A.depth+3*k+5<recursionLimit
 un:A.units+16*k+200<cLine
def Room.mono(r:Room k A)(h:j<=k):Room j A:=⟨r.hd,by have:=r.dp;lia,by have:=r.un;lia⟩
theorem Room.deeper{k:Nat}{A:Around}(r:Room (k+1) A)(env:Env):Room k (A.deeper env):=
 ⟨r.hd,by have:=r.dp;show A.depth+1+3*k+5<_;lia,by have:=r.un;show A.units+3+16*k+200<_;lia⟩
theorem Room.depth{k:Nat}{A:Around}(r:Room k A):A.depth<recursionLimit:=by have:=r.dp;lia
theorem Room.units{k:Nat}{A:Around}(r:Room k A):A.units+64<cLine:=by have:=r.un;lia
abbrev zlK:TA:=λ_ H Q=>Q [] H
abbrev znv(ta:TE)(tr:TA):TA:=λσ H Q=>ta σ H λx H1=>tr σ H1 λxs H2=>Q (x :: xs) H2
section
variable {X:Cx}{e:Expr}{es:List Expr}{te:TE}{t:TA}{pos:Pos}
def ze:PA X [] zlK:=λ_ _ _ _ H Q I h=>Calls.spliced_nil ⟨[],H,I,.nil,h⟩
def za(ha:PE X e te)(a:PA X es t)(d:autoParam "0g" Internal.aut2._auto_1):PA X (e :: es) (znv te t):=by
 intro pos pins s σ H Q I h;rw[d];show wpAny _ _ (spliced ((false,eval e X.env) :: backTo pos (starEach es X.env))) _ _ s;refine Calls.spliced_cons (thn (ha pins s σ H _ I h) λu l g=>?_);obtain⟨x,H1,k,c,i⟩:=g;exact thn (a pos pins l σ H1 _ k i) λus m ⟨xs,H2,f,j,b⟩=>⟨x :: xs,H2,f,.cons c j,b⟩
noncomputable def zuo (t:TA):TE:=λσ H Q=>t σ H λxs H1=>xs.length<=sizeLine/\∀p,H1 p=none->Q (.ref p) (upd H1 p (.tup xs))
noncomputable def ztD (t:TA):TE:=λσ H Q=>t σ H λxs H1=>xs.length<=sizeLine/\∀p,H1 p=none->Q (.ref p) (upd H1 p (.lst xs))
def zV{x1}(h:PA X es t):PE X (.Tuple es x1 pos) (zuo t):=by
 intro pins s σ H Q I f;refine wpAny_Tuple_spliced (thn (h pos pins s σ H _ I f) λus a ⟨xs,H1,c,r,z,q⟩=>⟨by rw[<- r.length];exact z,?_⟩);have d:H1 a.heap.objs.size=none:=c.hok.fresh (yg _);refine⟨.ref a.heap.objs.size,upd H1 a.heap.objs.size (.tup xs),c.laid (t':=a.toks) (λb u e=>Heap.get?_push_of_some _ e) (yg _) ?_,rfl,q _ d⟩;exact⟨z,us,r,⟨_,Heap.get?_push_size _ rfl,rfl,_,rfl⟩⟩
def zaa(h:PA X es t):PE X (.List es pos) (ztD t):=by
 intro pins s σ H Q I f;refine wpAny_List_spliced (thn (h pos pins s σ H _ I f) λus a ⟨xs,H1,c,r,z,q⟩=>⟨by rw[<- r.length];exact z,?_⟩);have d:H1 a.heap.objs.size=none:=c.hok.fresh (yg _);refine⟨.ref a.heap.objs.size,upd H1 a.heap.objs.size (.lst xs),c.laid (t':=a.toks) (λb u e=>Heap.get?_push_of_some _ e) (yg _) ?_,rfl,q _ d⟩;exact⟨z,us,0,r,Heap.get?_push_size _ rfl⟩
end
abbrev Sp:=List V->Hp->VK->XK->Prop
abbrev CXT:=List Env->Hp->Shared->XK->Value->Shared->Prop
set_option genInjectivity false in
set_option genSizeOf false in
structure Env0(P:Program)(w:World)(K:Fg)(mg:Str->Option Value)(base:Heap)(A:Around)(outer:List Env)(s:Shared)(H:Hp):Prop where
 frames:A.frames=some outer
 mod:Mod K mg base
 bs:∀b o,base.get? b=some o->s.heap.get? b=some o/\H b=none
 bsz:base.objs.size<=s.heap.objs.size
 funs:s.heap.FunFrames base outer
 frf:∀b∈frs outer,H b=none
 hok:HOk P w H s.heap
 bare:AllBare s.gens
noncomputable def CE (outer:List Env) (P:Program) (w:World) (H:Hp) (s:Shared) (Q:VK) (u:Value) (s':Shared):Prop:=
 ∃v H',s'.os=s.os/\AllBare s'.gens/\Un (frs outer) [] H H' s.heap s'.heap/\HOk P w H' s'.heap/\RelV v u/\Q v H'
noncomputable def CR (CX:CXT) (outer:List Env) (P:Program) (w:World) (H:Hp) (s:Shared) (Q:VK) (E:XK) (r:Result) (s':Shared):Prop:=
 match r with
 | .ok (.ret u)=>CE outer P w H s Q u s'
 | .ok _=>False
 | .error e=>CX outer H s E e s'
set_option genInjectivity false in
set_option genSizeOf false in
structure FnOk(P:Program)(w:World)(K:Fg)(mg:Str->Option Value)(base:Heap)(CX:CXT)(k:Nat)(f:Addr)(fd:FuncData)(ps:List Str)(sp:Sp):Prop where
 len:∀vs H Q E,sp vs H Q E->vs.length=ps.length
 run:∀(A:Around) (outer:List Env) (s:Shared) (H:Hp) (args:Args) (us:List Value) (vs:List V) (Q:VK) (E:XK),Room k A->Env0 P w K mg base A outer s H->BindsTo s fd args (ps.zip us)->Vals vs us->sp vs H Q E ->
  codeAny (model P w) A (.call (.ref f) args) (CR CX outer P w H s Q E) s
section
variable {X:Cx}{pins:List (Addr × Obj)}{σ:St}{H:Hp}{s s':Shared}
def Inv.env0(I:Inv X pins σ H s):Env0 X.prog X.w X.K X.mg X.base X.A X.stack s H:=
 ⟨I.ok.frames,I.ok.mod,I.bs,yj I.ok.bsz I.sz,I.stack,I.stkFree,I.hok,I.bare⟩
def Inv.after(I:Inv X pins σ H s)(h:CE X.stack X.prog X.w H s Q u s'):EP X pins σ Q u s':=by
 obtain⟨v,H',os,bare,un,hok,r,q⟩:=h;obtain⟨c,g,d,t,a⟩:=s';obtain rfl:a=s.os:=os;exact⟨v,H',I.call (h':=c) (g':=g) (d':=d) (t':=t) (ch:=[]) un hok bare (λb z=>absurd z (by simp)),r,q⟩
end
noncomputable def zhz (sp:Sp) (dvs:List V) (E:XK) (t:TA):TE:=λσ H Q=>t σ H λvs H1=>sp (vs++dvs) H1 Q E
noncomputable def Binds (K:Fg) (fd:FuncData) (ps:List Str) (ds:List Value):Prop:=
 ∀(s:Shared) (us:List Value),K.In s.heap->(us++ds).length=ps.length->BindsTo s fd ⟨us,[]⟩ (ps.zip (us++ds))
def Binds.all(h:∀us:List Value,us.length=ps.length->bindArgs fd ⟨us,[]⟩=pure (ps.zip us)):Binds K fd ps []:=λs us _ hl=>by
 rw[yag]at hl ⊢;exact .of_eq (h us hl)
noncomputable def zib (CX:CXT) (X:Cx) (E:XK):Prop:=∀(pins:List (Addr × Obj)) (σ:St) (H:Hp) (s:Shared) (e:Value) (s':Shared),Inv X pins σ H s->CX X.stack H s E e s'->X.xe e s'
section
variable {X:Cx}{CX:CXT}{k:Nat}{f C:Addr}{fd:FuncData}{ps:List Str}{sp:Sp}{dvs:List V}{ds:List Value}{E:XK}{x m:Str}{p pos apos:Pos}{e o:Expr}{es:List Expr}{ta:TE}{t:TA}
def zt0{pins:List (Addr × Obj)}{σ:St}{H:Hp}{s:Shared}{Q:VK}{us:List Value}{vs:List V}(F:FnOk X.prog X.w X.K X.mg X.base CX k f fd ps sp)(c:Room k X.A)(d:Binds X.K fd ps ds)(hd:Vals dvs ds)(g:zib CX X E)
  (I:Inv X pins σ H s) (r:Vals vs us) (h:sp (vs++dvs) H Q E):wpAny "0f" X.A (call (.ref f) us) (EP X pins σ Q) X.xe s:=by
 have b:Vals (vs++dvs) (us++ds):=r.append hd;have hl:(us++ds).length=ps.length:=by rw[<- b.length];exact F.len _ _ _ _ h
 refine wpAny_call (codeAny_mono (F.run X.A X.stack s H ⟨us,[]⟩ (us++ds) (vs++dvs) Q E c I.env0 (d s us I.kIn hl) b h) λr s' a=>?_);cases r with
 | error e=>exact g pins σ H s e s' I a
 | ok fl=>
  cases fl with
  | ret u=>exact I.after a
  | next=>exact False.elim a
  | brk=>exact False.elim a
  | cont=>exact False.elim a
def zmE(F:FnOk X.prog X.w X.K X.mg X.base CX k f fd ps sp)(b:Room k X.A)(d:Gl X x)(g:X.mg x=some (.ref f))(c:PySem.W.keepIn X.K (.ref f)=true)(i:Binds X.K fd ps ds)(hd:Vals dvs ds)(j:zib CX X E)
  (ha:PA X (e :: es) t) (hdb:autoParam ((x == ("__debug__" : Str))=false) Internal.aut1._auto_1) (he:autoParam "0g" Internal.aut2._auto_1) (hpl:autoParam ((backTo pos (starEach es X.env)).any (·.1)=false) Internal.aut2._auto_1) :
  PE X (.Call (.Name x p) (e :: es) [] pos) (zhz sp dvs E t):=by
 intro pins s σ H Q I h;refine wpAny_Call_Name_kw (zeJ I d g ?_ hdb);refine PySem.W.callWith_K (h₀:=X.base) I.ok.mod.kin c (thn (ha pos pins s σ H _ I h) λus l ⟨vs,H1,a,r,q⟩=>⟨a.kIn,?_⟩) he hpl;exact zt0 F b i hd j a r q
set_option genInjectivity false in
set_option genSizeOf false in
structure Mk(K:Fg)(C f:Addr):Prop where
 makes:PySem.W.makesIn K C=true
 init:PySem.W.findIn K (.ref C) "__init__" = some (some (.ref f))
 fn:PySem.W.isFn K (.ref f)=true
 kp:PySem.W.keepIn K (.ref C)=true
end
noncomputable def PK (X:Cx) (kws:List Keyword) (t:TA):Prop:=
 ∀(pos:Pos) (pins:List (Addr × Obj)) (s:Shared) (σ:St) (H:Hp) (Q:List V->Hp->Prop),Inv X pins σ H s->t σ H Q->wpAny "0f" X.A (evalAll ((backToKw pos (keywordEach kws X.env)).map (·.2))) (AP X pins σ Q) X.xe s
section
variable {X:Cx}{CX:CXT}{k:Nat}{f C:Addr}{fd:FuncData}{ps ks:List Str}{sp:Sp}{E:XK}{x m:Str}{p pos apos kpos:Pos}{e o:Expr}{es:List Expr}{kws:List Keyword}{te ta:TE}{t tk:TA}{nm:Option Str}
def zua:PK X [] zlK:=λ_ _ _ _ H Q I h=>wpAny_evalAll_nil ⟨[],H,I,.nil,h⟩
def zrU(ha:PE X e te)(a:PK X kws t):PK X (⟨nm,e,kpos⟩ :: kws) (znv te t):=by
 intro pos pins s σ H Q I h;show wpAny _ _ (evalAll ((do let v <- eval e X.env;standAt pos;pure v) :: (backToKw pos (keywordEach kws X.env)).map (·.2))) _ _ s;refine wpAny_evalAll_cons (wpAny_bind (thn (ha pins s σ H _ I h) λu j ⟨x,H1,i,c,f⟩=>wpAny_bind (wpAny_standAt (wpAny_pure ?_))));exact thn (a pos pins j σ H1 _ i f) λus k ⟨xs,H2,d,g,b⟩=>⟨x :: xs,H2,d,.cons c g,b⟩
set_option genInjectivity false in
set_option genSizeOf false in
structure KBinds(K:Fg)(fd:FuncData)(ps ks:List Str)(g:List Value->List Value->List Value)(gV:List V->List V->List V):Prop where
 to:∀(s:Shared) (us ws:List Value),K.In s.heap->(g us ws).length=ps.length->BindsTo s fd ⟨us,ks.zip ws⟩ (ps.zip (g us ws))
 rel:∀{vs:List V} {us:List Value} {zs:List V} {ws:List Value},Vals vs us->Vals zs ws->Vals (gV vs zs) (g us ws)
variable {g:List Value->List Value->List Value}{gV:List V->List V->List V}
end
set_option genInjectivity false in
set_option genSizeOf false in
structure FnScope(N P:List Str)(sc:Scope):Prop where
 kind:sc.kind=.function
 co:sc.isCoroutine=false
 gen:sc.isGenerator=false
 nd:N.Nodup
 pre:N.take P.length=P
 par:∀x∈P,sc.names.lookup x=some .local\/sc.names.lookup x=some .cell
 nofree:∀y∈sc.names,y.2≠.free
theorem zjH{kindOf:Str->Option NameKind}{x:Str}:∀{binds:List (Str × Value)} {m:Str->Option Value},(∀v,(x,v)∉binds)->bindL kindOf binds m x=m x
 | [],_,_=>rfl
 | (n,v) :: r,m,h=>by
  unfold bindL;rw[zjH λw a=>h w (yV _ a)];split
  ·have:x≠n:=by rintro rfl;exact h v yai
   simp[this]
  ·rfl
theorem zjh{kindOf:Str->Option NameKind}{x:Str}:∀{binds:List (Str × Value)} {m:Str->Option Value},(∀v,(x,v)∉binds)->bindC kindOf binds m x=m x
 | [],_,_=>rfl
 | (n,v) :: r,m,h=>by
  unfold bindC;rw[zjh λw a=>h w (yV _ a)];split
  ·rfl
  ·have:x≠n:=by rintro rfl;exact h v yai
   simp[this]
theorem zjL{kindOf:Str->Option NameKind}{x:Str}{v:Value}:∀{P:List Str} {vs:List Value} {i:Nat} {m:Str->Option Value},P.Nodup->P[i]?=some x->vs[i]?=some v->kindOf x=some .local ->
  bindL kindOf (P.zip vs) m x=some v
 | [],_,_,_,_,h,_,_=>by simp at h
 | _ :: _,[],_,_,_,_,h,_=>by simp at h
 | p :: P,w :: vs,0,m,nd,h1,h2,hk=>by
  simp at h1 h2;subst h1;subst h2;show bindL kindOf ((p,w) :: P.zip vs) m p=_;unfold bindL;rw[zjH λv a=>(yaK.mp nd).1 (yb2 a).1,if_pos hk]
  simp
 | p :: P,w :: vs,i+1,m,nd,h1,h2,hk=>by
  show bindL kindOf ((p,w) :: P.zip vs) m x=_;unfold bindL;exact zjL (i:=i) (yaK.mp nd).2 (by simpa using h1) (by simpa using h2) hk
theorem zjS{kindOf:Str->Option NameKind}{x:Str}{v:Value}:∀{P:List Str} {vs:List Value} {i:Nat} {m:Str->Option Value},P.Nodup->P[i]?=some x->vs[i]?=some v->kindOf x≠some .local ->
  bindC kindOf (P.zip vs) m x=some v
 | [],_,_,_,_,h,_,_=>by simp at h
 | _ :: _,[],_,_,_,_,h,_=>by simp at h
 | p :: P,w :: vs,0,m,nd,h1,h2,hk=>by
  simp at h1 h2;subst h1;subst h2;show bindC kindOf ((p,w) :: P.zip vs) m p=_;unfold bindC;rw[zjh λv a=>(yaK.mp nd).1 (yb2 a).1,if_neg hk]
  simp
 | p :: P,w :: vs,i+1,m,nd,h1,h2,hk=>by
  show bindC kindOf ((p,w) :: P.zip vs) m x=_;unfold bindC;exact zjS (i:=i) (yaK.mp nd).2 (by simpa using h1) (by simpa using h2) hk
noncomputable def start (N:List Str) (vs:List V):St:=vs.map some++List.replicate (N.length-vs.length) none
noncomputable def zaQ (CX:CXT) (P:Program) (w:World) (K:Fg) (mg:Str->Option Value) (base:Heap) (N:List Str) (qual:Str) (scope:Scope) (f:Addr) (b:Value) (A:Around) (outer:List Env) (s:Shared) (H:Hp) (E:XK):Cx where
 prog:=P
 w:=w
 K:=K
 mg:=mg
 base:=base
 A:=A.deeper (envOfC qual scope s.heap.objs.size f b)
 N:=N
 s₀:=s
 H₀:=H
 env:=envOfC qual scope s.heap.objs.size f b
 outer:=outer
 stack:=envOfC qual scope s.heap.objs.size f b :: outer
 ex:=[]
 calm:=true
 fn:=λ_=>true
 pn:=[]
 xe:=λe s'=>wpAny (model P w) (A.deeper (envOfC qual scope s.heap.objs.size f b)) (leaving (envOfC qual scope s.heap.objs.size f b) e) (λ_ a=>CX outer H s E e a) (λc a=>CX outer H s E c a) s'
def zff{a:Scope}(h:a.names.lookup x=some .cell):∃c,(cellsFrom n a.names []).lookup x=some c:=by
 have q:=PySem.W.cellsFrom_some a.names n [] (.inl h);exact ybj.mp q
def znU{CX:CXT}{P:Program}{w:World}{K:Fg}{mg:Str->Option Value}{base:Heap}{N ps:List Str}{qual:Str}{scope:Scope}{f:Addr}{l:Value}{A:Around}{outer:List Env}{s t:Shared}{H:Hp}{E:XK}{us:List Value}{vs:List V}
  (S:FnScope N ps scope) (hd:A.handled=none) (e0:Env0 P w K mg base A outer s H) (hl:vs.length=ps.length) (r:Vals vs us)
  (x:InCallC s s.heap.objs.size (bindL (envOfC qual scope s.heap.objs.size f l).kindOf (ps.zip us) λ_=>none) (cellsFrom (s.heap.objs.size+1) scope.names []) (bindC (envOfC qual scope s.heap.objs.size f l).kindOf (ps.zip us) λ_=>none) t) :
  Inv (zaQ CX P w K mg base N qual scope f l A outer s H E) [] (start N vs) H t:=by
 have B:ps.length<=N.length:=by have:=congrArg List.length S.pre;rw[yaC]at this;lia
 obtain⟨h1,tk,rfl,m⟩:=x.done;have d:∀b:Addr,b∉(zaQ CX P w K mg base N qual scope f l A outer s H E).ex:=λb z=>absurd (show b∈([]:List Addr)from z) (by simp);refine⟨⟨e0.mod,S.kind,rfl,rfl,yg _,λy z c h1 h2=>?_,λy g=>?_,λy c _ h=>?_,λ_=>hd,Around.frames_deeper e0.frames,.inr ⟨rfl,rfl⟩,λb z=>absurd z (d b),e0.bs,e0.bsz,λb _ _=>d b,λb z=>absurd z (d b),e0.funs,e0.frf⟩,
  rfl,e0.bare,Un.kept m,⟨_,x.toInCall.ns,λi y v h1 h2 D=>?_⟩,λy c h=>⟨_,x.cell y c h⟩,e0.hok.fresh (yg _),λy c h=>?_,λp hp=>absurd (show p∈([]:List (Addr × Obj))from hp) (by simp),e0.hok.kept m,?_⟩
 ·exact name_of_addr x.apart (yaW h1) (yaW h2)
 ·have g:scope.names.lookup y=some .cell\/scope.names.lookup y=some .free:=g;rcases g with g | g
  ·exact zff g
  ·exact absurd rfl (S.nofree _ (yaW g))
 ·exact yaS (x.above y c (yaW h))
 ·have hi:i<vs.length:=by
   unfold start at h2;by_cases hi:i<vs.length
   ·exact hi
   ·rw[yZ (by simpa using hi)]at h2;rw[yaY]at h2;split at h2<;>cases h2
  have ha:vs[i]?=some v:=by
   unfold start at h2;rw[yH (by simpa using hi),ye]at h2;cases e:vs[i]? with
   | none=>rw[e]at h2;cases h2
   | some a=>rw[e]at h2;cases h2;rfl
  obtain⟨u,o,C⟩:=r.get ha;have hp:ps[i]?=some y:=by
   rw[<- S.pre,List.getElem?_take_of_lt ⋯];exact h1
  have j:ps.Nodup:=by rw[<- S.pre];exact S.nd.sublist (List.take_sublist _ _)
  refine⟨u,C,?_⟩;rcases S.par y (yb hp)with k | k
  ·exact .inl ⟨k,zjL j hp o k⟩
  ·obtain⟨c,e⟩:=zff (n:=s.heap.objs.size+1) k;refine .inr ⟨.inl k,c,e,?_⟩;have q:=x.cell y c e;rw[zjS j hp o (by show scope.names.lookup y≠_;rw[k];decide)]at q;exact q
 ·exact e0.hok.fresh (yaS (x.above y c (yaW h)))
 ·unfold start;show _=N.length;rw[yc,ya,List.length_replicate];lia
def zrl{CX:CXT}{P:Program}{w:World}{K:Fg}{mg:Str->Option Value}{base:Heap}{k:Nat}{f:Addr}{name qual:Str}{params:Arguments}{body:List Stmt}{scope:Scope}{C kV i z a ct L:Value}{an R:Option Addr}
  {osl:Array (Option Value)} {N ps:List Str} {sp:Sp} (lk:K.lookup f=some ⟨L,R,.func (PySem.W.fnOf name qual params body scope C kV i z an a ct),osl⟩) (hcd:PySem.W.codeIn K a qual=true) (S:FnScope N ps scope)
  (len:∀vs H Q E,sp vs H Q E->vs.length=ps.length)
  (hbody:∀(A:Around) (outer:List Env) (s:Shared) (H:Hp) (vs:List V) (Q:VK) (E:XK),Room k (A.deeper (envOfC qual scope s.heap.objs.size f a))->sp vs H Q E ->
   ∃t,PSs (zaQ CX P w K mg base N qual scope f a A outer s H E) body t/\t { nx:=λ_ H'=>Q .non H',rt:=Q } (start N vs) H) :
  FnOk P w K mg base CX (k+1) f (PySem.W.fnOf name qual params body scope C kV i z an a ct) ps sp:=by
 refine⟨len,λA outer s H args us vs Q E l h O r g=>?_⟩;have hl:=len _ _ _ _ g;have B:K.In s.heap:=h.mod.kin.keeps λb o e=>(h.bs b o e).1;have m:s.heap.NoLimit:=h.mod.nolimit.keeps λb o e=>(h.bs b o e).1;have c:∀y∈ps.zip us,scope.names.lookup y.1=some .local\/(scope.names.lookup y.1=some .cell/\((cellsFrom (s.heap.objs.size+1) scope.names []).lookup y.1).isSome=true):=fun⟨n,v⟩ hy=>by
  rcases S.par n (yb2 hy).1 with q | q
  ·exact .inl q
  ·exact .inr ⟨q,PySem.W.cellsFrom_some _ _ _ (.inl q)⟩
 refine codeAny_call_function l.depth (B _ _ lk) rfl S.co S.gen rfl (PySem.W.codeRec_of B hcd) (O _ _ _ _ ?_);refine wpAny_newFunctionEnv_cells S.kind c λenv T D x=>?_;subst T;refine⟨m.keeps x.toInCall.keep,codeAny_func ?_⟩;obtain⟨t,F,G⟩:=hbody A outer s H vs Q E (l.deeper _) g;have I:Inv (zaQ CX P w K mg base N qual scope f a A outer s H E) [] (start N vs) H D:=znU S l.hd h hl r x;refine wpAny_mono (F [] D (start N vs) H _ I G) (λM s' d=>?_) λe s' d=>d;have fin:∀{j:St} {H':Hp} {v:V} {u:Value},Inv (zaQ CX P w K mg base N qual scope f a A outer s H E) [] j H' s'->RelV v u->Q v H'->CE outer P w H s Q u s':=
  λ{j H' v u} J p q=>⟨v,H',J.os,J.bare,J.base,J.hok,p,q⟩
 cases M with
 | ret u=>
  obtain⟨v,j,H',J,p,q⟩:=d;exact fin J p q
 | next=>
  obtain⟨j,H',J,q⟩:=d;exact fin (v:=V.non) (u:=Value.none) J rfl q
 | brk=>
  obtain⟨_,_,_,q⟩:=d;exact False.elim q
 | cont=>
  obtain⟨_,_,_,q⟩:=d;exact False.elim q
section
variable {X:Cx}{x:Str}{p pos:Pos}{e:Expr}{es:List Expr}{t:TA}{id T:String}{r:List V->Hp->VK->Prop}
abbrev tCB(r:List V->Hp->VK->Prop)(t:TA):TE:=λσ H Q=>t σ H λvs H1=>r vs H1 Q
def zaP(i:CallR X (.builtin id) r)(b:Gl X x)(f:X.mg x=none)(c:bootBuiltins x=some (.builtin id))(ha:PA X (e :: es) t)(g:autoParam (x ≠ "__name__") Internal.aut1._auto_1)(a:autoParam ((x == ("__debug__" : Str))=false) Internal.aut1._auto_1)
  (he:autoParam "0g" Internal.aut2._auto_1) (hpl:autoParam ((backTo pos (starEach es X.env)).any (·.1)=false) Internal.aut2._auto_1):PE X (.Call (.Name x p) (e :: es) [] pos) (tCB r t):=by
 intro pins s σ H Q I h;refine wpAny_Call_Name_kw (zcL I b f c ?_ g a);exact PyProof.Rows.callWith_builtin1 (thn (ha pos pins s σ H _ I h) λus l ⟨vs,H1,k,d,j⟩=>i pins l σ H1 vs us Q k d j) he hpl
def znM(i:CallR X (.type T) r)(b:Gl X x)(f:X.mg x=none)(c:bootBuiltins x=some (.type T))(ha:PA X (e :: es) t)(g:autoParam (x ≠ "__name__") Internal.aut1._auto_1)(a:autoParam ((x == ("__debug__" : Str))=false) Internal.aut1._auto_1)
  (he:autoParam "0g" Internal.aut2._auto_1) (hpl:autoParam ((backTo pos (starEach es X.env)).any (·.1)=false) Internal.aut2._auto_1):PE X (.Call (.Name x p) (e :: es) [] pos) (tCB r t):=by
 intro pins s σ H Q I h;refine wpAny_Call_Name_kw (zcL I b f c ?_ g a);exact yaA (thn (ha pos pins s σ H _ I h) λus l ⟨vs,H1,k,d,j⟩=>i pins l σ H1 vs us Q k d j) he hpl
end
end Internal
namespace HT
variable {b:Addr}
open PySem PyProof.Rows
section
open PySem.SeqAt
open PySem.AutoSeq1 (wpAny_loadPart')
open PySem.MeetsSeq PySem.MeetsSeq2 PySem.MeetsSeq3
end
section
variable {prog:Program}{w:World}{A:Around}{E:Value->Shared->Prop}{s:Shared}
def cat_tup{t:Addr}{vs ws:List Value}{Q:Value->Shared->Prop}(q:IsTup s.heap t vs.toArray)(r:IsTup s.heap b ws.toArray)(k:vs≠[])
  (h1:ws=[]->Q (.ref t) s) (h2:ws≠[]->Q (.ref s.heap.objs.size) { s with heap:=s.heap.push { cls:=.type "tuple",data:=.seq (vs++ws).toArray } })
  (hsz:vs.length+ws.length<=sizeLine):wpAny (model prog w) A (binaryOp .Add (.ref t) (.ref b)) Q E s:=by
 obtain⟨⟨cls,dd,data,p⟩,i,o,n,hd⟩:=id q;obtain⟨⟨m,d,j,f⟩,a,g,l,c⟩:=id r;simp only at o hd g c;subst o hd g c;have e:vs.toArray++ws.toArray=(vs++ws).toArray:=by simp
 by_cases h:ws=[]
 ·exact concat_meets ⟨_,i,rfl⟩ ⟨_,a,rfl⟩ noFill_tuple_add seq_tuple_add PySem.F.slot_tuple_add PySem.F.entry_tuple_add (PySem.F.args_tuple_add_2 _ _)
   (tuple_addW1 t b vs.toArray ws.toArray n l dd d p f (by simpa using k) (by simp[h])) ⟨i,a,h1 h⟩
 ·refine concat_meets ⟨_,i,rfl⟩ ⟨_,a,rfl⟩ noFill_tuple_add seq_tuple_add PySem.F.slot_tuple_add PySem.F.entry_tuple_add (PySem.F.args_tuple_add_2 _ _)
   (tuple_addW2 t b vs.toArray ws.toArray n l dd d p f (by simpa using k) (by simpa using h) (by rw[yp,yp];exact hsz)) ⟨i,a,?_⟩
  rw[e];exact h2 h
noncomputable def sIx (n d:Nat):Option Int->Nat
 | none=>d
 | some v=>if v<0 then(v+(n:Int)).toNat else min v.toNat n
def sIx_none(n d:Nat):sIx n d none=d:=rfl
def sIx_nat(n d k:Nat):sIx n d (some (k:Int))=min k n:=by
 show(if(k:Int)<0 then((k:Int)+(n:Int)).toNat else min (k:Int).toNat n)=min k n
 rw[if_neg ⋯,ym]
end
end HT
namespace Internal
variable {A:Around}{H:Hp}{its us:List Value}{j n:Nat}{ns:List Int}{p:Addr}{pins:List (Addr × Obj)}{s:Shared}{u:Value}{xs:List V}{y:V}{σ:St}
open PySem PySem.Spec PyProof.Rows
abbrev TO:=St->Hp->(Option Int->Hp->Prop)->Prop
noncomputable def PO (X:Cx) (e:Option Expr) (t:TO):Prop:=
 ∀(pins:List (Addr × Obj)) (s:Shared) (σ:St) (H:Hp) (Q:Option Int->Hp->Prop),Inv X pins σ H s->t σ H Q ->
  wpAny "0f" X.A (evalPart e X.env) (λu s'=>∃o H',Inv X pins σ H' s'/\IsPart u o/\Q o H') X.xe s
abbrev zs0:TO:=λ_ H Q=>Q none H
noncomputable def zrD (t:TE):TO:=λσ H Q=>t σ H λx H1=>∃i,x=.int i/\Q (some i) H1
def znu:∀{us:List Value},Vals (ns.map V.int) us->IntsAre us ns:=by
 induction ns with
 | nil=>intro us r;rw[List.map_nil]at r;cases r;exact .nil
 | cons n ns ih=>
  intro us r;rw[yam]at r;cases r with
  | cons r1 r2=>
   obtain⟨t,e⟩:=r1;subst e;exact .cons n t (ih r2)
section
variable {X:Cx}{e:Expr}{te:TE}{lo hi:Option Expr}{tl th:TO}{pos p2:Pos}
def zgr:PO X none zs0:=by
 intro pins s σ H Q I h;rw[evalPart_none];exact wpAny_pure ⟨none,H,I,.none,h⟩
def zgE(h:PE X e te):PO X (some e) (zrD te):=by
 intro pins s σ H Q I a;rw[evalPart_some];refine thn (h pins s σ H _ I a) λu g c=>?_;obtain⟨x,H1,f,b,d⟩:=c;obtain⟨i,rfl,q⟩:=d;obtain⟨t,rfl⟩:=b;exact⟨some i,H1,f,.int i t,q⟩
noncomputable def SlR (X:Cx) (r:V->Option Int->Option Int->Hp->VK->Prop):Prop:=
 ∀(pins:List (Addr × Obj)) (s:Shared) (σ:St) (H:Hp) (x:V) (v vl vu:Value) (lo hi:Option Int) (sl:Addr) (Q:VK),Inv X pins σ H s->RelV x v->s.heap.IsSliceOf sl vl vu .none->IsPart vl lo->IsPart vu hi->r x lo hi H Q ->
  ∃T id,typeLookup (.type T) "__getitem__" = pure (some (.builtin id))/\s.TypeIs v T/\wpAny "0f" X.A (getItem v (.ref sl)) (EP X pins σ Q) X.xe s
abbrev tSl(r:V->Option Int->Option Int->Hp->VK->Prop)(te:TE)(tl th:TO):TE:=λσ H Q=>te σ H λx H1=>tl σ H1 λl H2=>th σ H2 λu H3=>r x l u H3 Q
def ze7{r:V->Option Int->Option Int->Hp->VK->Prop}(i:SlR X r)(F:PE X e te)(hl:PO X lo tl)(G:PO X hi th):PE X (.Subscript e (.Slice lo hi none p2) pos) (tSl r te tl th):=by
 intro pins s σ H Q I h;refine Subscript_ (thn (F pins s σ H _ I h) λv J f=>?_);obtain⟨x,H1,p,B,o⟩:=f;refine wpAny_Slice (thn (hl pins J σ H1 _ p o) λc C ⟨l,H2,D,pl,m⟩=>thn (G pins C σ H2 _ D m) λd a f=>?_);obtain⟨u,g,t,z,y⟩:=f;rw[evalPart_none];refine wpAny_pure ?_;have j:Inv X pins σ g { a with heap:=a.heap.push { cls:=.type "slice",data:=.fields #[c,d,.none] } }:=t.kept (t':=a.toks) λb K q=>Heap.get?_push_of_some _ q;obtain⟨T,id,E,k,n⟩:=i pins { a with heap:=a.heap.push { cls:=.type "slice",data:=.fields #[c,d,.none] } } σ g x v c d l u a.heap.objs.size Q j B (Heap.IsSliceOf.new ..) pl z y;show wpAny "0f" X.A (subscriptTail e (.Slice lo hi none p2) v (.ref a.heap.objs.size)) (EP X pins σ Q) X.xe { a with heap:=a.heap.push { cls:=.type "slice",data:=.fields #[c,d,.none] } };exact tail_any (ops:=[.ref a.heap.objs.size,v]) k E n (by with_unfolding_all rfl)
noncomputable def zc9 (xs:List V) (lo hi:Option Int):List V:=(xs.drop (HT.sIx xs.length 0 lo)).take (HT.sIx xs.length xs.length hi-HT.sIx xs.length 0 lo)
def zlT(xs:List V)(lo hi:Option Int):(zc9 xs lo hi).length<=xs.length:=by
 unfold zc9;rw[yaC,y3];lia
noncomputable def zrk (K:Fg):R2:=λx y H Q=>∃a b xs ys,x=.ref a/\y=.ref b/\SqT K H a xs/\SqT K H b ys/\xs≠[]/\xs.length+ys.length<=sizeLine /\
 (ys=[]->Q (.ref a) H)/\(ys≠[]->∀p,H p=none->Q (.ref p) (upd H p (.tup (xs++ys))))
def Vals.nil_iff(r:Vals xs us):us=[]↔xs=[]:=by
 cases r with
 | nil=>simp
 | cons _ _=>simp
def zsV:OpR X (binaryOp .Add) (zrk X.K):=by
 intro pins s σ H x y v u Q I g i h;obtain⟨a,b,xs,ys,rfl,rfl,ha,l,n,f,m,j⟩:=h;cases g;cases i;obtain⟨its,d,k,_⟩:=I.tuple ha;obtain⟨e,c,p2,_⟩:=I.tuple l;refine HT.cat_tup k p2 (λz=>n (d.nil_iff.mp z)) (λz=>⟨.ref a,H,I,rfl,m (c.nil_iff.mp z)⟩) (λz=>?_) (by rw[<- d.length,<- c.length];exact f);refine⟨.ref s.heap.objs.size,_,I.laid (t':=s.toks) (o:=.tup (xs++ys)) (λb p q=>Heap.get?_push_of_some _ q) (yg _) ?_,rfl,j (λw=>z (c.nil_iff.mpr w)) _ (I.hok.fresh (yg _))⟩;exact⟨by rw[yc];exact f,_,d.append c,IsTup.new _ _⟩
end
noncomputable def ixN (n:Nat) (i:Int):Option Nat:=if 0<=i then(if i<n then some i.toNat else none)else if -(n:Int)<=i then some (i+n).toNat else none
noncomputable def atI {α:Type} (xs:List α) (i:Int):Option α:=(ixN xs.length i).bind λj=>xs[j]?
def zmA{i:Int}(h:ixN n i=some j):seqIndex? i n=some j/\j<n/\-(n:Int)<=i/\i<n:=by
 unfold ixN at h;by_cases a:0<=i
 ·rw[if_pos a]at h;by_cases h1:i<n
  ·rw[if_pos h1]at h;have e:i.toNat=j:=yn h;exact⟨by rw[seqIndex_of a h1,e],⋯,⋯,h1⟩
  ·rw[if_neg h1]at h;cases h
 ·rw[if_neg a]at h;by_cases h1:-(n:Int)<=i
  ·rw[if_pos h1]at h;have e:(i+n).toNat=j:=yn h;exact⟨by rw[seqIndex_neg ⋯ h1,e],⋯,h1,⋯⟩
  ·rw[if_neg h1]at h;cases h
def zgB{α:Type}{xs:List α}{i:Int}{v:α}(h:atI xs i=some v):∃j,seqIndex? i xs.length=some j/\xs[j]?=some v/\j<xs.length/\-(xs.length:Int)<=i/\i<xs.length:=by
 unfold atI at h;cases e:ixN xs.length i with
 | none=>rw[e]at h;cases h
 | some j=>
  rw[e]at h;obtain⟨h1,h2,a,b⟩:=zmA e;exact⟨j,h1,h,h2,a,b⟩
def zO{α:Type}{xs:List α}{v:α}(h:xs[j]?=some v):atI xs (j:Int)=some v:=by
 have a:j<xs.length:=(yh.mp h).1;have e:ixN xs.length (j:Int)=some j:=by
  unfold ixN;rw[if_pos ⋯,if_pos ⋯];simp
 unfold atI;rw[e];exact h
noncomputable def zl9 (b:Expr):Prop:=∀o i,subscripted b false o i=operate [o,i] (getItem o i)
noncomputable def IxR (X:Cx) (r:R2):Prop:=
 ∀(value slice:Expr) (pins:List (Addr × Obj)) (s:Shared) (σ:St) (H:Hp) (x y:V) (v u:Value) (Q:VK),Inv X pins σ H s->RelV x v->RelV y u->r x y H Q ->
  subscripted slice false v u=operate [v,u] (getItem v u)->wpAny "0f" X.A (subscriptTail value slice v u) (EP X pins σ Q) X.xe s
noncomputable def MtR (X:Cx) (id:String) (r:V->List V->Hp->VK->Prop):Prop:=
 ∀(pins:List (Addr × Obj)) (s:Shared) (σ:St) (H:Hp) (x:V) (xs:List V) (v:Value) (us:List Value) (Q:VK),Inv X pins σ H s->RelV x v->Vals xs us->r x xs H Q ->
  wpAny "0f" X.A (call (.builtin id) (v :: us)) (EP X pins σ Q) X.xe s
section
variable {X:Cx}{a b:Expr}{ta tb:TE}{pos:Pos}
def IxR.or{r b:R2}(h:IxR X r)(h':IxR X b):IxR X (λx y H Q=>r x y H Q\/b x y H Q):=by
 intro value a pins s σ H x y v u Q I c d q e;rcases q with q | q
 ·exact h value a pins s σ H x y v u Q I c d q e
 ·exact h' value a pins s σ H x y v u Q I c d q e
def zuZ{r:R2}(c:IxR X r)(ha:PE X a ta)(j:PE X b tb)(f:zl9 b):PE X (.Subscript a b pos) (tOp r ta tb):=by
 intro pins s σ H Q I h;exact Subscript_ (zp9 ha j I h λv u g x y H2 i d e q=>c a b pins g σ H2 x y v u Q i d e q (f _ _))
noncomputable def zdG (K:Fg):R2:=λx y H Q=>∃p xs i v,x=.ref p/\y=.int i/\SqL K H p xs/\atI xs i=some v/\Q v H
noncomputable def ztu (K:Fg):R2:=λx y H Q=>∃p xs i v,x=.ref p/\y=.int i/\SqT K H p xs/\atI xs i=some v/\Q v H
noncomputable def zuz:R2:=λx y H Q=>∃z i c,x=.str z/\y=.int i/\z.length<=sizeLine/\atI z.cps.toList i=some c/\Q (.str ⟨#[c]⟩) H
def ix_list:IxR X (zdG X.K):=by
 intro value b pins s σ H x y v u Q I l m h d;obtain⟨p,xs,i,z,rfl,rfl,g,o,q⟩:=h;cases l;obtain⟨t,rfl⟩:=m;obtain⟨its,r,pl,B⟩:=I.list g;obtain⟨j,h1,h2,A,n,k⟩:=zgB o;obtain⟨w,e,a⟩:=r.get h2;have hl:=r.length;have C:=line63;have fin:EP X pins σ Q w s:=⟨z,H,I,a,q⟩
 by_cases f:0<=i
 ·have c:i.toNat=j:=by
   rw[seqIndex_of f k]at h1;exact yn h1
  exact item_listR pl.isList f ⋯ (by rw[c];simpa using e) fin d
 ·have c:(i+(its.toArray.size:Int)).toNat=j:=by
   rw[seqIndex_neg ⋯ n]at h1;rw[yp,<- hl];exact yn h1
  exact subscriptTail_builtinR (x:=w) pl.isList.typeIs slot_list_getitem.lookup
   (wpAny_getItem_list_neg (Q:=λr s'=>r=w/\EP X pins σ Q r s') pl.isList ⋯ (by rw[yp]<;>lia) ⋯ (by rw[c];simpa using e) ⟨rfl,fin⟩) d
def ix_tup:IxR X (ztu X.K):=by
 intro value b pins s σ H x y v u Q I e f h d;obtain⟨p,xs,i,z,rfl,rfl,c,k,q⟩:=h;cases e;obtain⟨t,rfl⟩:=f;obtain⟨its,r,pl,n⟩:=I.tuple c;obtain⟨j,h1,h2,l,o,m⟩:=zgB k;obtain⟨w,g,a⟩:=r.get h2;have hl:=r.length;have A:=line63;have fin:EP X pins σ Q w s:=⟨z,H,I,a,q⟩
 exact subscriptTail_builtinR (x:=w) pl.typeIs slot_tuple_getitem.lookup
  (getItem_tuple (j:=j) (Q:=λr s'=>r=w/\EP X pins σ Q r s') pl ⋯ ⋯ (by rw[yp,<- hl];exact h1) (by simpa using g) ⟨rfl,fin⟩) d
def ztp:IxR X zuz:=by
 intro value a pins s σ H x y v u Q I b d h f;obtain⟨z,i,c,rfl,rfl,o,m,q⟩:=h;obtain⟨t,rfl⟩:=b;obtain⟨t',rfl⟩:=d;obtain⟨j,h1,h2,n,g,k⟩:=zgB m;have hl:z.cps.toList.length=z.length:=by simp[Str.length]
 rw[hl]at h1 g k;have p:=line63;exact tail_any (typeIs_str s z t) slot_str_getitem.lookup (getItem_str (c:=c) (by
  have l:decide (i < -(2 ^ 63:Int))=false:=decide_eq_false ⋯;have e:decide (i≥2 ^ 63)=false:=decide_eq_false ⋯;rw[l,e,Bool.or_false]) (by rw[h1];simpa using h2) ⟨.str ⟨#[c]⟩,H,I.tok _,⟨_,rfl⟩,q⟩) f
noncomputable def rIx (K:Fg):R2:=λx y H Q=>zdG K x y H Q\/ztu K x y H Q\/zuz x y H Q
def ztC:IxR X (rIx X.K):=ix_list.or (ix_tup.or ztp)
def zna(its:List Value)(n j:Nat)(u:Value):Obj.mapSeq (·.setIfInBounds j u) { cls:=.type "list",data:=.seq its.toArray n }={ cls:=.type "list",data:=.seq (its.set j u).toArray n }:=by
 simp[Obj.mapSeq]
theorem Inv.lst{pins:List (Addr × Obj)}{σ:St}{H:Hp}{s:Shared}{p:Addr}{xs:List V}(I:Inv X pins σ H s)(h:H p=some (.lst xs)) :
  ∃(its:List Value) (n:Nat),Vals xs its/\s.heap.get? p=some { cls:=.type "list",data:=.seq its.toArray n }/\xs.length<=sizeLine:=by
 obtain⟨z,its,n,r,e⟩:=I.hok p _ h;exact⟨its,n,r,e,z⟩
def Inv.lstUpd{ys:List V}{its its':List Value}{n a:Nat}{f:Obj->Obj}(I:Inv X pins σ H s)(h:H p=some (.lst xs))
  (ho:s.heap.get? p=some { cls:=.type "list",data:=.seq its.toArray n }) (hf:f { cls:=.type "list",data:=.seq its.toArray n }={ cls:=.type "list",data:=.seq its'.toArray a }) (r:Vals ys its') (hz:ys.length<=sizeLine) (t:Nat) :
  Inv X pins σ (upd H p (.lst ys)) { s with heap:=s.heap.update p f,toks:=t }:=by
 have e:(s.heap.update p f).get? p=some { cls:=.type "list",data:=.seq its'.toArray a }:=by
  rw[Heap.get?_update_self f ho (by rw[hf]<;>rfl),hf]
 refine I.write (x:=p) (e:=p) (by rw[h];trivial) (.inl rfl) (λb u c q=>(Heap.get?_update_other _ _ (ya8 c)).trans q) ⟨_,e⟩ ?_;exact⟨hz,its',a,r,e⟩
noncomputable def zh8:V->V->V->Hp->(Hp->Prop)->Prop:=λo i v H Q=>∃p xs k j,o=.ref p/\i=.int k/\H p=some (.lst xs)/\ixN xs.length k=some j/\Q (upd H p (.lst (xs.set j v)))
def zaY:zqu X zh8:=by
 intro pins s σ H o i v y z u Q I x g w h;obtain⟨p,xs,k,j,rfl,rfl,hp,m,q⟩:=h;cases x;obtain⟨t,rfl⟩:=g;obtain⟨its,n,r,b,l⟩:=I.lst hp;obtain⟨h1,h2,d,f⟩:=zmA m;have hl:=r.length;have A:=line63;have c:Inv X pins σ (upd H p (.lst (xs.set j v))) { s with heap:=s.heap.update p (Obj.mapSeq (·.setIfInBounds j u)) }:=
  I.lstUpd hp b (zna its n j u) (r.set w j) (by rw[yaw];exact l) s.toks
 by_cases e:0<=k
 ·have a:k.toNat=j:=by
   rw[seqIndex_of e f]at h1;exact yn h1
  exact PySem.W.ki_setAt b e ⋯ (by rw[yp,<- hl];exact f) (by rw[a];exact⟨_,c,q⟩)
 ·have a:(k+(its.toArray.size:Int)).toNat=j:=by
   rw[seqIndex_neg ⋯ d]at h1;rw[yp,<- hl];exact yn h1
  exact PySem.W.ki_setBack b ⋯ (by rw[yp,<- hl];exact d) ⋯ (by rw[a];exact⟨_,c,q⟩)
def zky(lo hi:Option Int)(n:Nat):(sliceBounds lo hi none n).1=((HT.sIx n 0 lo:Nat):Int)/\(sliceBounds lo hi none n).2.1=((HT.sIx n n hi:Nat):Int)/\(sliceBounds lo hi none n).2.2=1:=by
 refine⟨?_,?_,rfl⟩
 ·cases lo with
  | none=>simp[sliceBounds,HT.sIx]
  | some i=>
   simp only[sliceBounds,HT.sIx,Option.getD_none,show(1:Int)>0 by decide,if_true];by_cases h:i<0
   ·simp only[h,if_true]<;>lia
   ·simp only[h,if_false]<;>lia
 ·cases hi with
  | none=>simp[sliceBounds,HT.sIx]
  | some i=>
   simp only[sliceBounds,HT.sIx,Option.getD_none,show(1:Int)>0 by decide,if_true];by_cases h:i<0
   ·simp only[h,if_true]<;>lia
   ·simp only[h,if_false]<;>lia
def zjZ(its:List Value)(lo hi:Option Int):slicePick its.toArray lo hi none=((its.drop (HT.sIx its.length 0 lo)).take (HT.sIx its.length its.length hi-HT.sIx its.length 0 lo)).toArray:=by
 obtain⟨h1,h2,a⟩:=zky lo hi its.toArray.size;unfold slicePick;rw[h1,h2,a];simp only[sliceRange_one,pick_run,yp]<;>rfl
noncomputable def zfH (K:Fg):V->Option Int->Option Int->Hp->VK->Prop:=λx lo hi H Q=>∃a xs,x=.ref a/\SqL K H a xs/\∀p,H p=none->Q (.ref p) (upd H p (.lst (zc9 xs lo hi)))
def zgt:SlR X (zfH X.K):=by
 intro pins s σ H x v k l lo hi n Q I e g pl f h;obtain⟨a,xs,rfl,j,q⟩:=h;cases e;obtain⟨its,r,d,i⟩:=I.list j;have c:=r.length;refine⟨"list",_,slot_list_getitem.lookup,d.isList.typeIs,?_⟩;refine wpAny_getItem_list_slice d.isList g pl f .none (by simp) ?_ (by rw[yp]<;>lia);rw[zjZ,<- c];refine⟨.ref s.heap.objs.size,_,I.laid (t':=s.toks) (o:=.lst (zc9 xs lo hi)) (λb m q=>Heap.get?_push_of_some _ q) (yg _) ?_,rfl,q _ (I.hok.fresh (yg _))⟩;exact⟨yj (zlT xs lo hi) i,_,0,(r.drop (HT.sIx xs.length 0 lo)).take (HT.sIx xs.length xs.length hi-HT.sIx xs.length 0 lo),Heap.get?_push_size _ rfl⟩
noncomputable def zdg:V->Bool
 | .non=>true
 | .bl _=>true
 | .int _=>true
 | .str _=>true
 | _=>false
noncomputable def eqV:V->V->Bool
 | .non,.non=>true
 | .bl a,.bl b=>a == b
 | .bl a,.int b=>(if a then 1 else 0) == b
 | .int a,.bl b=>a == (if b then 1 else 0)
 | .int a,.int b=>a == b
 | .str a,.str b=>a == b
 | _,_=>false
def ztg{x:V}{v:Value}(d:RelV y u)(c:RelV x v)(f:zdg y=true)(e:zdg x=true):SeqAt.EqAt A s u v (eqV y x):=by
 cases y with
 | non=>
  cases d;cases x with
  | non=>cases c;exact SeqAt.EqAt.same _
  | bl b=>cases c;exact SeqAt.EqAt.none_bool b
  | int b=>obtain⟨t,rfl⟩:=c;exact SeqAt.EqAt.none_int b t
  | str b=>obtain⟨t,rfl⟩:=c;exact SeqAt.EqAt.none_str b t
  | _=>exact absurd (show false=true from e) yr
 | bl a=>
  cases d;cases x with
  | non=>cases c;exact SeqAt.EqAt.bool_none a
  | bl b=>cases c;exact SeqAt.EqAt.bool_bool a b
  | int b=>obtain⟨t,rfl⟩:=c;exact SeqAt.EqAt.bool_int a b t
  | str b=>obtain⟨t,rfl⟩:=c;exact SeqAt.EqAt.bool_str a b t
  | _=>exact absurd (show false=true from e) yr
 | int a=>
  obtain⟨t',rfl⟩:=d;cases x with
  | non=>cases c;exact SeqAt.EqAt.int_none a t'
  | bl b=>cases c;exact SeqAt.EqAt.int_bool a t' b
  | int b=>obtain⟨t,rfl⟩:=c;exact SeqAt.EqAt.int_int a t' b t
  | str b=>obtain⟨t,rfl⟩:=c;exact SeqAt.EqAt.int_str a t' b t
  | _=>exact absurd (show false=true from e) yr
 | str a=>
  obtain⟨t',rfl⟩:=d;cases x with
  | non=>cases c;exact SeqAt.EqAt.str_none a t'
  | bl b=>cases c;exact SeqAt.EqAt.str_bool a t' b
  | int b=>obtain⟨t,rfl⟩:=c;exact SeqAt.EqAt.str_int a t' b t
  | str b=>obtain⟨t,rfl⟩:=c;exact SeqAt.EqAt.str_str a t' b t
  | _=>exact absurd (show false=true from e) yr
 | _=>exact absurd (show false=true from f) yr
noncomputable def eqU (x:V) (u:Value):Bool:=match u with
 | .none=>eqV .non x
 | .bool b=>eqV (.bl b) x
 | .int i _=>eqV (.int i) x
 | .str z _=>eqV (.str z) x
 | _=>false
def zkR{x:V}(r:RelV y u)(f:zdg y=true):eqU x u=eqV y x:=by
 cases y with
 | non=>cases r;rfl
 | bl b=>cases r;rfl
 | int i=>obtain⟨t,rfl⟩:=r;rfl
 | str z=>obtain⟨t,rfl⟩:=r;rfl
 | _=>exact absurd (show false=true from f) yr
theorem zeL{x:V}:∀{xs:List V} {us:List Value},Vals xs us->xs.all zdg=true->us.any (eqU x)=xs.any λy=>eqV y x
 | _,_,.nil,_=>rfl
 | y :: xs,u :: us,.cons r t,f=>by
  rw[ybP,y4]at f;rw[ybQ,ybQ,zkR r f.1,zeL t f.2]
theorem zde{A:Around}{s:Shared}{x:V}{v:Value}(b:RelV x v)(c:zdg x=true):∀{xs:List V} {us:List Value},Vals xs us->xs.all zdg=true->∀u∈us,SeqAt.EqAt A s u v (eqU x u)
 | _,_,.nil,_=>λu a=>by cases a
 | y :: xs,u :: us,.cons r t,f=>λd a=>by
  rw[ybP,y4]at f;rcases yy.mp a with rfl | a
  ·rw[zkR r f.1];exact ztg r b f.1 c
  ·exact zde b c t f.2 d a
noncomputable def inV (x:V) (xs:List V):Bool:=xs.any λy=>eqV y x
noncomputable def rIn (K:Fg) (neg:Bool):R2:=λx y H Q=>∃p xs,y=.ref p/\(SqL K H p xs\/SqT K H p xs)/\zdg x=true/\xs.all zdg=true/\Q (.bl (if neg then !inV x xs else inV x xs)) H
def zf9:OpR X (compareOp .In) (rIn X.K false):=by
 intro pins s σ H x y v u Q I c e h;obtain⟨p,xs,rfl,a,d,fs,q⟩:=h;cases e;rcases a with a | a
 ·obtain⟨its,r,pl,f⟩:=I.list a;refine SeqAt.in_listAt (eqU x) pl.isList (λw b=>zde c d r fs w (by simpa using b)) ⟨.bl _,H,I,rfl,?_⟩;rw[show its.toArray.any (eqU x)=its.any (eqU x) by simp,zeL r fs];exact q
 ·obtain⟨its,r,pl,f⟩:=I.tuple a;refine SeqAt.in_tupleAt (eqU x) pl (λw b=>zde c d r fs w (by simpa using b)) ⟨.bl _,H,I,rfl,?_⟩;rw[show its.toArray.any (eqU x)=its.any (eqU x) by simp,zeL r fs];exact q
def zd5:OpR X (compareOp .NotIn) (rIn X.K true):=by
 intro pins s σ H x y v u Q I c e h;obtain⟨p,xs,rfl,a,d,fs,q⟩:=h;cases e;rcases a with a | a
 ·obtain⟨its,r,pl,f⟩:=I.list a;refine SeqAt.notIn_listAt (eqU x) pl.isList (λw b=>zde c d r fs w (by simpa using b)) ⟨.bl _,H,I,rfl,?_⟩;rw[show its.toArray.any (eqU x)=its.any (eqU x) by simp,zeL r fs];exact q
 ·obtain⟨its,r,pl,f⟩:=I.tuple a;refine SeqAt.notIn_tupleAt (eqU x) pl (λw b=>zde c d r fs w (by simpa using b)) ⟨.bl _,H,I,rfl,?_⟩;rw[show its.toArray.any (eqU x)=its.any (eqU x) by simp,zeL r fs];exact q
def zkE:CallR X (.builtin "len") (λxs H Q=>∃p ys,xs=[.ref p]/\(SqL X.K H p ys\/SqT X.K H p ys)/\Q (.int ys.length) H):=by
 intro pins s σ H xs us Q I r h;obtain⟨p,ys,rfl,b,q⟩:=h;obtain⟨u,rfl,d⟩:=vals1 r;cases d;have f:=line63;rcases b with b | b
 ·obtain⟨its,c,pl,e⟩:=I.list b;have a:=c.length;exact Calls.call_len_list pl.isList (by simp only[yp]<;>lia) ⟨.int ys.length,H,I.tok _,⟨s.toks+1,by rw[yp,a]⟩,q⟩
 ·obtain⟨its,c,pl,e⟩:=I.tuple b;have a:=c.length;exact len_tuple pl (by simp only[yp]<;>lia) ⟨.int ys.length,H,I.tok _,⟨s.toks+1,by rw[yp,a]⟩,q⟩
def CallR.or{f:Value}{r a:List V->Hp->VK->Prop}(h:CallR X f r)(h':CallR X f a):CallR X f (λxs H Q=>r xs H Q\/a xs H Q):=by
 intro pins s σ H xs us Q I rs q;rcases q with q | q
 ·exact h pins s σ H xs us Q I rs q
 ·exact h' pins s σ H xs us Q I rs q
def zkJ:CallR X (.type "list") (λxs H Q=>∃p ys,xs=[.ref p]/\(SqL X.K H p ys\/SqT X.K H p ys)/\∀l,H l=none->Q (.ref l) (upd H l (.lst ys))):=by
 intro pins s σ H xs us Q I r h;obtain⟨p,ys,rfl,d,q⟩:=h;obtain⟨u,rfl,k⟩:=vals1 r;cases k;have fin:∀(its:List Value),Vals ys its->ys.length<=sizeLine->∀(h':Heap) (c:Nat),(∀b o',s.heap.get? b=some o'->h'.get? b=some o') ->
   h'.get? s.heap.objs.size=some { cls:=.type "list",dict:=none,data:=.seq its.toArray c,slots:=#[] }->EP X pins σ Q (.ref s.heap.objs.size) { s with heap:=h' }:=λits a f h' c kp e=>
  ⟨.ref s.heap.objs.size,_,I.laid (t':=s.toks) kp (yg _) (show ObjOk X.prog X.w _ h' _ (.lst ys) from⟨f,its,c,a,e⟩),rfl,q _ (I.hok.fresh (yg _))⟩
 rcases d with d | d
 ·obtain⟨its,a,pl,f⟩:=I.list d;have g:=a.length;obtain⟨o,j,i,n,hd⟩:=pl.isList;exact call_list_seq p (.inl rfl) j i hd (λh' c kp e=>fin its a f h' c kp e) (by simp only[yp]<;>lia)
 ·obtain⟨its,a,pl,f⟩:=I.tuple d;have g:=a.length;obtain⟨o,j,i,n,hd⟩:=pl;exact call_list_seq p (.inr rfl) j i hd (λh' c kp e=>fin its a f h' c kp e) (by simp only[yp]<;>lia)
noncomputable def tyV (K:Fg) (T:String) (x:V) (H:Hp):Prop:=match x with
 | .str _=>T = "str"
 | .int _=>T = "int"
 | .ref p=>(T = "list" /\ ∃xs,SqL K H p xs)\/(T = "tuple" /\ ∃o,K.lookup p=some o/\o.cls=.type "tuple" /\ o.dict=none) \/
   (T = "dict" /\ ((∃kvs,H p=some (.dK kvs))\/∃kvs,H p=some (.dT kvs)))\/(T = "set" /\ ∃S n,H p=some (.set S n))
 | _=>False
def zuB{T:String}{x:V}{v:Value}(I:Inv X pins σ H s)(r:RelV x v)(ty:tyV X.K T x H) :
  s.TypeIs v T/\∀a,v=.ref a->∃ob,s.heap.get? a=some ob/\ob.dict=none:=by
 cases x with
 | str z=>
  obtain⟨t,rfl⟩:=r
  cases(show T = "str" from ty)
  exact⟨typeIs_str s z t,λ_ e=>nomatch e⟩
 | int i=>
  obtain⟨t,rfl⟩:=r
  cases(show T = "int" from ty)
  exact⟨typeIs_int s i t,λ_ e=>nomatch e⟩
 | ref p=>
  cases r;rcases ty with⟨rfl,xs,hq⟩ | ⟨rfl,o,hk,hc,hd⟩ | ⟨rfl,hk⟩ | ⟨rfl,S,n,hk⟩
  ·obtain⟨its,_,pl,_⟩:=I.list hq;refine⟨pl.isList.typeIs,λa e=>?_⟩;cases e;obtain⟨o,n,e,c,hd,_⟩:=pl;exact⟨o,e,hd⟩
  ·refine⟨⟨o,I.kIn p o hk,hc⟩,λa e=>?_⟩;cases e;exact⟨o,I.kIn _ o hk,hd⟩
  ·have z:∃o,s.heap.get? p=some o/\o.ExactDict:=by
    rcases hk with⟨kvs,hk⟩ | ⟨kvs,hk⟩
    ·obtain⟨_,_,_,_,o,_,_,e,ex,_⟩:=I.hok p _ hk;exact⟨o,e,ex⟩
    ·obtain⟨_,_,_,_,o,_,_,e,ex,_⟩:=I.hok p _ hk;exact⟨o,e,ex⟩
   obtain⟨o,e,ex⟩:=z;refine⟨⟨o,e,ex.1⟩,λa b=>?_⟩;cases b;exact⟨o,e,ex.2.1⟩
  ·obtain⟨o,_,_,_,e,ex,_⟩:=I.hok p _ hk;refine⟨⟨o,e,ex.1⟩,λa b=>?_⟩;cases b;exact⟨o,e,ex.2.1⟩
 | _=>exact False.elim ty
noncomputable def tBM (K:Fg) (T:String) (r:V->List V->Hp->VK->Prop) (to:TE) (t:TA):TE:=λσ H Q=>to σ H λx H1=>tyV K T x H1/\t σ H1 λxs H2=>r x xs H2 Q
variable {o e:Expr}{es:List Expr}{to:TE}{t:TA}{name:Str}{apos cpos:Pos}{T id:String}{r:V->List V->Hp->VK->Prop}
def zhE(i:PlainAttrs T)(slot:Slot T name id)(a:typeOf (.builtin id)=pure (.type "method_descriptor"))(j:MtR X id r)(q:PE X o to)(ha:PA X (e :: es) t)
  (hbase:autoParam (attributeBase o name X.env (eval o X.env)=eval o X.env) Internal.aut2._auto_1)
  (hfew:autoParam (((backTo cpos (starEach (e :: es) X.env)).all (λx=>!x.1)&&(backToKw cpos (keywordEach [] X.env)).all (λx=>x.1.isSome)
   && decide ((e :: es).length+([]:List Keyword).length+(if([]:List Keyword).isEmpty then 0 else 1)<30))=true) Internal.aut2._auto_1)
  (hline:autoParam ((apos.endLine == cpos.line)=true) Internal.aut2._auto_1) (hs:autoParam "0g" Internal.aut2._auto_1) (hplain:autoParam ((backTo cpos (starEach es X.env)).any (·.1)=false) Internal.aut2._auto_1) :
  PE X (.Call (.Attribute o name apos) (e :: es) [] cpos) (tBM X.K T r to t):=by
 intro pins s σ H Q I h;refine wpAny_Call_method_late hbase hfew hline rfl (thn (q pins s σ H _ I h) λv g m=>?_);obtain⟨x,H1,d,c,ty,n⟩:=m;obtain⟨h1,h2⟩:=zuB d c ty;refine⟨T,id,i,slot,a,h1,h2,?_⟩;have b:=ha cpos pins g σ H1 _ d n;rw[hs]at b ⊢;refine Calls.callWith_builtin (by show(false || (backTo cpos (starEach es X.env)).any (·.1))=false;rw[hplain]<;>rfl) (Calls.evalArgs_plain ?_);exact thn b λus k ⟨vs,H2,l,p,f⟩=>j pins k σ H2 x vs v us Q l c p f
/- xs.append(e),list.index on a module's tuple .. are MtR facts of 06m -/
end
noncomputable def MtM (X:Cx) (id:String) (r:V->List V->Hp->VK->Prop):Prop:=
 ∀(pins:List (Addr × Obj)) (s:Shared) (σ:St) (H:Hp) (x:V) (xs:List V) (v:Value) (us:List Value) (Q:VK),Inv X pins σ H s->RelV x v->Vals xs us->r x xs H Q ->
  wpAny "0f" X.A (call (.builtin id) (v :: us)) (EP X pins σ Q) X.xe s
def Vals.one:∀{x:V} {us:List Value},Vals [x] us->∃u,us=[u]/\RelV x u
 | _,_,h=>by
  cases h with
  | cons r t=>cases t;exact⟨_,rfl,r⟩
def Vals.two:∀{x y:V} {us:List Value},Vals [x,y] us->∃u v,us=[u,v]/\RelV x u/\RelV y v
 | _,_,_,.cons r (.cons q .nil)=>⟨_,_,rfl,r,q⟩
theorem Vals.eraseIdx:∀{xs:List V} {us:List Value} (i:Nat),Vals xs us->Vals (xs.eraseIdx i) (us.eraseIdx i)
 | _,_,_,.nil=>.nil
 | _,_,0,.cons _ t=>t
 | _,_,i+1,.cons r t=>.cons r (Vals.eraseIdx i t)
theorem Vals.rep{xs:List V}{us:List Value}(h:Vals xs us):∀k:Nat,Vals (List.replicate k xs).flatten (List.replicate k us).flatten
 | 0=>.nil
 | k+1=>by
  rw[yaB,yaB,ya5,ya5];exact Vals.append h (Vals.rep h k)
theorem zjO{α:Type}:∀(l:List α) (i:Nat),(l.eraseIdx i).length<=l.length
 | [],_=>yg _
 | _ :: _,0=>Nat.le_succ _
 | _ :: r,i+1=>yl (zjO r i)
theorem zjJ(its:List Value):∀(k:Nat) (acc:List Value),
  List.foldl (λa c=>a++c) acc.toArray (List.replicate k its.toArray)=(acc++(List.replicate k its).flatten).toArray
 | 0,acc=>by simp
 | k+1,acc=>by
  have e:acc.toArray++its.toArray=(acc++its).toArray:=by simp
  have b:(acc++its)++(List.replicate k its).flatten=acc++(List.replicate (k+1) its).flatten:=by
   rw[yaB,ya5,ybR]
  rw[<- b,<- zjJ its k (acc++its),<- e,yaB,List.foldl_cons]
section
variable {X:Cx}{pins:List (Addr × Obj)}{σ:St}{H:Hp}{s:Shared}{l b:Addr}{xs ys zs:List V}
def Inv.lset{its its':List Value}{n:Nat}{f:Array Value->Array Value}{t':Nat}(I:Inv X pins σ H s)(b:H l=some (.lst xs))
  (e:s.heap.get? l=some { cls:=.type "list",data:=.seq its.toArray n }) (hf:f its.toArray=its'.toArray) (hv:Vals ys its') (hz:ys.length<=sizeLine) :
  Inv X pins σ (upd H l (.lst ys)) { s with heap:=s.heap.update l (Obj.mapSeq f),toks:=t' }:=by
 have q:=PySem.IsL.update e f;rw[hf]at q;refine I.write (x:=l) (e:=l) (by rw[b];exact trivial) (.inl rfl) (λd u a c=>(Heap.get?_update_other s.heap (Obj.mapSeq f) (ya8 a)).trans c) ⟨_,q⟩ ?_;exact⟨hz,its',_,hv,q⟩
def Inv.lnew{t':Nat}(I:Inv X pins σ H s)(a:Vals ys its)(b:ys.length<=sizeLine) :
  Inv X pins σ (upd H s.heap.objs.size (.lst ys)) { s with heap:=s.heap.push { cls:=.type "list",data:=.seq its.toArray },toks:=t' }:=
 I.laid (λ_ _ q=>Heap.get?_push_of_some _ q) (yg _) ⟨b,its,0,a,Heap.get?_push_size _ rfl⟩
theorem Inv.fresh(I:Inv X pins σ H s):H s.heap.objs.size=none:=I.hok.fresh (yg _)
def Inv.lstM(I:Inv X pins σ H s)(a:H l=some (.lst xs)):xs.length<=sizeLine/\∃(its:List Value) (n:Nat),Vals xs its/\xs.length=its.length/\s.heap.get? l=some { cls:=.type "list",data:=.seq its.toArray n }:=by
 obtain⟨z,its,n,r,e⟩:=I.hok l _ a;exact⟨z,its,n,r,r.length,e⟩
def zkW(h:n<=sizeLine):Builtin.List.listTooLong n=false:=by
 unfold Builtin.List.listTooLong;exact decide_eq_false ⋯
end
section
variable {X:Cx}
noncomputable def zbO:V->List V->Hp->VK->Prop:=λx vs H Q=>∃l xs y,x=.ref l/\vs=[y]/\H l=some (.lst xs)/\xs.length<sizeLine/\Q .non (upd H l (.lst (xs++[y])))
def zi9:MtM X "list.append" zbO:=by
 intro pins s σ H x vs v us Q I b c h;obtain⟨l,xs,y,rfl,rfl,a,f,q⟩:=h;cases b;obtain⟨u,rfl,d⟩:=c.one;obtain⟨z,its,n,r,hl,e⟩:=I.lstM a;refine call_meets F.slot_list_append ⟨_,e,rfl⟩ F.entry_list_append (F.args_list_append_2 _ _) (PySem.list_append l its.toArray n u (by rw[yp];lia)) ⟨e,?_⟩;refine⟨.non,_,I.lset (its':=its++[u]) a e (by simp) (r.append (.cons d .nil)) ?_,rfl,q⟩;rw[yc,yah];lia
noncomputable def zmN:V->List V->Hp->VK->Prop:=λx vs H Q=>∃l b xs zs,x=.ref l/\vs=[.ref b]/\H l=some (.lst xs)/\H b=some (.lst zs)/\xs.length+zs.length<=sizeLine/\Q .non (upd H l (.lst (xs++zs)))
def zo6:MtM X "list.extend" zmN:=by
 intro pins s σ H x vs v us Q I j p h;obtain⟨l,b,xs,zs,rfl,rfl,f,g,w,q⟩:=h;cases j;obtain⟨u,rfl,m⟩:=p.one;cases m;obtain⟨z,its,n,r,hl,e⟩:=I.lstM f;obtain⟨y,a,t,o,i,k⟩:=I.lstM g;have d:its.toArray.size+a.toArray.size<=sizeLine:=by rw[yp,yp];lia
 have c:¬(!its.toArray.isEmpty&&Builtin.List.listTooLong (its.toArray.size+a.toArray.size))=true:=by
  rw[zkW d,Bool.and_false];exact yr
 refine call_meets F.slot_list_extend ⟨_,e,rfl⟩ F.entry_list_extend (F.args_list_extend_2 _ _)
  (AutoSeq1.list_extend_list_list_0 l its.toArray n b a.toArray t c (by rw[yp];lia) ⋯) ⟨e,k,?_⟩
 refine⟨.non,_,I.lset (its':=its++a) f e (by simp) (r.append o) ?_,rfl,q⟩;rw[yc];lia
noncomputable def zoP:V->List V->Hp->VK->Prop:=λx vs H Q=>∃l xs i k y,x=.ref l/\vs=[.int i]/\H l=some (.lst xs)/\-(2 ^ 63)<=i/\i<2 ^ 63/\seqIndex? i xs.length=some k/\xs[k]?=some y/\Q y (upd H l (.lst (xs.eraseIdx k)))
def zq7:MtM X "list.pop" zoP:=by
 intro pins s σ H x vs v us Q I c j h;obtain⟨l,xs,i,k,y,rfl,rfl,b,h1,h2,g,f,q⟩:=h;cases c;obtain⟨u,rfl,m⟩:=j.one;obtain⟨t,rfl⟩:=m;obtain⟨z,its,n,r,hl,e⟩:=I.lstM b;obtain⟨w,d,a⟩:=r.get f;refine call_meets F.slot_list_pop ⟨_,e,rfl⟩ F.entry_list_pop (F.args_list_pop_2 _ _)
  (MeetsSeq.list_pop_at l its.toArray n i t k w (fitsIndex_both h1 h2) (by rw[yp,<- hl];exact g) (by rw[<- Array.getElem?_toList];exact d) (by rw[yp];lia)) ⟨e,?_⟩
 refine⟨y,_,I.lset (its':=its.eraseIdx k) b e ?_ (r.eraseIdx k) ?_,a,q⟩
 ·show its.toArray.eraseIdxIfInBounds k=(its.eraseIdx k).toArray;rw[List.eraseIdxIfInBounds_toArray]
 ·have:=zjO xs k
  lia
noncomputable def zub:R2:=λx y H Q=>∃l b xs zs,x=.ref l/\y=.ref b/\H l=some (.lst xs)/\H b=some (.lst zs)/\xs.length+zs.length<=sizeLine/\∀p,H p=none->Q (.ref p) (upd H p (.lst (xs++zs)))
def op_cat:OpR X (binaryOp .Add) zub:=by
 intro pins s σ H x y v u Q I c d h;obtain⟨l,b,xs,zs,rfl,rfl,i,f,p,q⟩:=h;cases c;cases d;obtain⟨z,its,n,r,hl,e⟩:=I.lstM i;obtain⟨t,a,o,k,j,g⟩:=I.lstM f;refine PySem.P.add_list e g ?_ (by rw[yp,yp];lia);have m:its.toArray++a.toArray=(its++a).toArray:=by simp
 rw[m];exact⟨.ref _,_,I.lnew (t':=s.toks) (r.append k) (by rw[yc];lia),rfl,q _ I.fresh⟩
noncomputable def zun:R2:=λx y H Q=>∃l k xs,x=.ref l/\y=.int k/\H l=some (.lst xs)/\-(2 ^ 63)<=k/\k<2 ^ 63/\xs.length*k.toNat<=sizeLine /\
 ∀p,H p=none->Q (.ref p) (upd H p (.lst (List.replicate k.toNat xs).flatten))
def zte{α:Type}(xs:List α)(k:Nat):(List.replicate k xs).flatten.length=k*xs.length:=by
 induction k with
 | zero=>simp
 | succ k ih=>rw[yaB,ya5,yc,ih,Nat.succ_mul,Nat.add_comm]
def ztE:OpR X (binaryOp .Mult) zun:=by
 intro pins s σ H x y v u Q I p w h;obtain⟨l,k,xs,rfl,rfl,A,h1,h2,o,q⟩:=h;cases p;obtain⟨t,rfl⟩:=w;obtain⟨z,its,n,r,hl,e⟩:=I.lstM A;have f:its.toArray.size*k.toNat<=sizeLine:=by rw[yp,<- hl];exact o
 have c:¬its.toArray.size*k.toNat>(2 ^ 63-1)/8:=by
  have:(sizeLine:Nat)<=(2 ^ 63-1)/8:=by decide
  lia
 have g:¬(!Builtin.List.listFitsIndex k)=true:=by
  rw[fitsIndex_both h1 h2];exact yr
 have b:¬Builtin.List.listTooLong (its.toArray.size*k.toNat)=true:=by
  rw[zkW f];exact yr
 have d:List.foldl (λi j=>i++j) #[] (List.replicate (if its.toArray.isEmpty=true then 0 else k.toNat) its.toArray)=(List.replicate k.toNat its).flatten.toArray:=by
  have B:∀m:Nat,List.foldl (λi j=>i++j) #[] (List.replicate m its.toArray)=(List.replicate m its).flatten.toArray:=λm=>by
   have:=zjJ its m []
   rw[List.nil_append]at this;exact this
  rw[B];cases its with
  | nil=>simp
  | cons a r'=>rw[if_neg (by simp)]
 refine wpAny_binaryOp_repeat_ref (T := "list") (U := "int") "0a" ⟨_,e,rfl⟩ (λs'=>typeIs_int s' k t) noFill_list_mul F.fills_int_mul F.slot_int_rmul repeat_list F.slot_int_index.lookup
  (call_meets F.slot_int_rmul (typeIs_int s k t) F.entry_int_rmul (F.args_int_rmul_2 _ _) (int___rmul___int_list k t l its.toArray n)
   ⟨e,rfl,⟨_,e,rfl⟩,call_meets F.slot_list_mul ⟨_,e,rfl⟩ F.entry_list_mul (F.args_list_mul_2 _ _) (AutoListH.list___mul___list_int_3 l its.toArray n k t g c b) ⟨e,?_⟩⟩)
 rw[d];exact⟨.ref _,_,I.lnew (t':=s.toks) (r.rep k.toNat) (by rw[zte,Nat.mul_comm];exact o),rfl,q _ I.fresh⟩
end
section
variable {prog:Program}{w:World}{A:Around}{E:Value->Shared->Prop}{s:Shared}
end
section
variable {X:Cx}
end
end Internal
namespace Att
variable {h:Heap}{n:Nat}
open PySem PySem.W PySem.Calls PyProof.Rows
def zik{P:Params}:∀(ns:List Int) (vs:List Value),WellAll P h vs (ns.map WData.int)->IntsAre vs ns:=by
 intro ns
 induction ns with
 | nil=>
  intro vs w;rw[List.map_nil]at w;cases w;exact .nil
 | cons n ns ih=>
  intro vs w;rw[yam]at w;cases w with
  | cons a b=>
   cases a;exact .cons _ _ (ih _ b)
def zoL{l:OpenLaw}(k:l.most=some n){P:Params}{h:Heap}{args:List WData}{b:List Value}
  (hpre:l.row.toRowW.claim.pre args=true) (hwl:WellAll P h b args) :
  ∃a vs ns,b=[Value.ref a]/\args=[WData.list (ns.map WData.int)]/\h.get? a=some { cls:=.type "list",data:=.seq vs.toArray }/\IntsAre vs ns/\ns.length<=n:=by
 have g:WShape.hasAll [] args [.list .int]=true:=(pre_splitW hpre).1;have i:l.pre.holds [] { args:=args }=true:=(pre_splitW hpre).2;obtain⟨d,r,rfl,h1,h2⟩:=hasAllW_cons g;obtain rfl:=hasAllW_nil h2;obtain⟨xs,rfl,j⟩:=hasW_list h1;obtain⟨ns,rfl⟩:=items_int j;have c:ns.length<=n:=by
  unfold OpenLaw.pre at i;have e:(WTm.not (.lt (.lit (.int (n:Int))) (.len (.arg 0)))).holds [] { args:=[.list (ns.map .int)] }=true:=by
   have e:=(holds_andW i).1;rw[k]at e;exact e
  have f:=condW_of e (w_not (w_lt w_lit (w_len_list (w_arg rfl))));rw[ya]at f;refine Nat.le_of_not_lt λq=>?_;have q':(n:Int)<((ns.length:Nat):Int):=by lia
  first
   | (rw[decide_eq_true q']at f;exact absurd f (by decide))
   | (simp at f;lia)
 cases hwl with
 | cons w1 w2=>
  cases w2;cases w1 with
  | list ho hall=>exact⟨_,_,ns,rfl,rfl,ho,zik ns _ hall,c⟩
def zpa(l:OpenLaw)(args:List WData):l.row.toRowW.claim.post args (.bool true) args=true:=
 postW_of (r:=l.row.toRowW) (X:=(true == true))
  (show WShape.has [] (.bool true) .bool=true by first | rfl | decide | simp[WShape.has,WShape.arms,WShape.armsAll])
  (show(WTm.eq .res (.lit (.bool true))).value [] { args:=args,res:=some (.bool true),after:=args }=some (.bool (true == true))from w_eq_bool (w_res rfl) w_lit) rfl
def attach_call{l:OpenLaw}{n:Nat}{q:Program}{c:List Str}{B:(Str->Option Value)->Heap->Prop}{z:World->Heap->Prop}{d:DefRec}
  (hn:l.most=some n) (hdf:d.params.defaults=[])
  (call:∀(w:World) (s₀ b:Shared) (mg u:Str->Option Value) (i:Addr) (o:Obj) (p m g:Value) (a:Addr) (vs:List Value) (ns:List Int),
   Ground q c [] B w s₀ mg u b.heap->z w b.heap ->
   b.heap.get? i=some o->o.data=.func (docDef d.name d.params d.body d.scope p m g)->b.heap.CodeRec m d.name->mg d.name=some (.ref i) ->
   b.heap.get? a=some { cls:=.type "list",data:=.seq vs.toArray }->IntsAre vs ns->ns.length<=n->b.gens=#[] ->
   codeAny (model l.prog w) callerA (.call (.ref i) ⟨[.ref a],[]⟩) (λr s'=>r=.ok (.ret (.bool true))/\OldK b.heap s'.heap/\s'.os=b.os/\AllBare s'.gens) b) :
  WalkO q c B z l.row.toRowW d [] (λf vs=>PySem.call f vs):=by
 intro w s₀ b mg u G Y i o p m g I kV F hd t y s D args x as k A L v H;obtain rfl:I=.none:=Dflts.none y hdf;obtain rfl:kV=.none:=Dflts.noKw y;obtain⟨a,vs,ns,rfl,rfl,h,e,j⟩:=zoL hn k v;refine enter_call (codeAny_mono (call w s₀ b mg u i o p m g a vs ns G Y F (fd_plain hd) t s h e j D) λr s' C=>?_);obtain⟨rfl,h2,E,K⟩:=C;exact⟨.inl ⟨.bool true,.bool true,[],rfl,λ_=>rfl,.bool true,zpa l _,λ_=>⟨List.Pairwise.nil,λ_ J=>(nomatch J)⟩⟩,h2,E,K⟩
section
variable {prog:Program}{w:World}{A:Around}{E:Value->Shared->Prop}{s:Shared}{K:Frag}
noncomputable def ledger (h:Heap) (L d:Addr):List (Addr × Obj):=(List.range h.objs.size).filterMap λa=>if a=L\/a=d then none else(h.get? a).map λo=>(a,o)
end
end Att
namespace Internal
variable {H H':Hp}{K:Fg}{a:Addr}{fd:FuncData}{h:Heap}{m n:Nat}{qual x:Str}{st:Stmt}{xs:List V}
open PySem PySem.Spec PyProof.Rows
theorem zf6:∀{vs:List Value} {ns:List Int},IntsAre vs ns->Vals (ns.map V.int) vs
 | _,_,.nil=>.nil
 | _,_,.cons n t h=>.cons ⟨t,rfl⟩ (zf6 h)
noncomputable def zqV (H:Hp):Prop:=∀b,H b=none\/∃o xs,H b=some (.frz o (.lst xs))
def zqH{P:Program}{w:World}{K:Fg}{mg C:Str->Option Value}{CX:CXT}{k:Nat}{B a:Addr}{fd:FuncData}{x:Str}{sp:Sp}{c:Shared}{vs:List Value}{ns:List Int}
  (KX:K.In c.heap) (hns:c.heap.Ns mainGlobals mg) (g:c.heap.Ns builtinsNs C) (hbb:∀x:Str,x ≠ "__name__" -> C x=bootBuiltins x) (hlim:c.heap.NoLimit) (hg:c.gens=#[])
  (ha:c.heap.get? a=some { cls:=.type "list",data:=.seq vs.toArray }) (hi:IntsAre vs ns) (hl:ns.length<=sizeLine) (hr:Room k callerA)
  (F:∀base:Heap,K.In base->base.Ns mainGlobals mg->FnOk P w K mg base CX k B fd [x] sp) (hbind:∀(s:Shared) (u:Value),BindsTo s fd ⟨[u],[]⟩ [(x,u)])
  (hsp:∀H:Hp,zqV H->SqL K H a (ns.map V.int)->sp [.ref a] H (λv _=>v=.bl true) λ_ _ _=>False)
  (hCX:∀H e s',CX [] H c (λ_ _ _=>False) e s'->False) :
  codeAny (model P w) callerA (.call (.ref B) ⟨[.ref a],[]⟩) (λr s'=>r=.ok (.ret (.bool true))/\OldK c.heap s'.heap/\s'.os=c.os/\AllBare s'.gens) c:=by
 have G:=zf6 hi;have l:=hi.length
 -- from an abstract heap in which nothing but the script may be tracked
 have j:∀H:Hp,zqV H->SqL K H a (ns.map V.int)->HOk P w H c.heap->(∀b,H b≠none->b=a)->(H a≠none->K.lookup a=none) ->
   codeAny (model P w) callerA (.call (.ref B) ⟨[.ref a],[]⟩) (λr s'=>r=.ok (.ret (.bool true))/\OldK c.heap s'.heap/\s'.os=c.os/\AllBare s'.gens) c:=by
  intro H E R hok I T;have f:∀{b:Addr} {o:Obj},c.heap.get? b=some o->H b=none->(ze1 c.heap H).get? b=some o:=λe n=>zqb e n;have A:∀{b:Addr} {o:Obj} {es:Array DictEntry} {ep:Nat},c.heap.get? b=some o->o.data=.dict es ep->H b=none:=λ{b o es ep} e d=>by
   cases q:H b with
   | none=>rfl
   | some u=>
    have D:b=a:=I b (by rw[q];simp);subst D;rw[ha]at e;cases e;have d':Data.seq vs.toArray _=Data.dict es ep:=d;cases d'
  have i:∀{b:Addr} {m:Str->Option Value},c.heap.Ns b m->(ze1 c.heap H).Ns b m:=λ{b m} ⟨o,es,ep,e,d,r⟩=>⟨o,es,ep,f e (A e d),d,r⟩
  have y:K.In (ze1 c.heap H):=λb o e=>f (KX b o e) (by
   cases q:H b with
   | none=>rfl
   | some u=>
    have D:b=a:=I b (by rw[q];simp);subst D;rw[T (by rw[q];simp)]at e;cases e)
  have M:Mod K mg (ze1 c.heap H):=⟨y,i hns,⟨C,i g,hbb⟩,let ⟨mc,h1,h2⟩:=hlim;⟨mc,i h1,h2⟩⟩
  have S:Env0 P w K mg (ze1 c.heap H) callerA [] c H:=⟨rfl,M,λb o e=>zs1 e,Nat.le_of_eq (zpn _ _),trivial,λb g=>absurd (show b∈([]:List Addr)from g) (by simp),hok,.of_eq hg⟩
  refine codeAny_mono ((F _ y (i hns)).run callerA [] c H ⟨[.ref a],[]⟩ [.ref a] [.ref a] _ _ hr S (hbind c (.ref a)) (.cons rfl .nil) (hsp H E R)) λr s' h=>?_;cases r with
  | error e=>exact(hCX H e s' h).elim
  | ok fl=>
   cases fl with
   | next=>exact False.elim h
   | brk=>exact False.elim h
   | cont=>exact False.elim h
   | ret u=>
    obtain⟨v,H',os,bare,un,p,L,q⟩:=h;have q':v=.bl true:=q;subst q';obtain rfl:u=Value.bool true:=L;refine⟨rfl,OldK.of_keep λb o e=>?_,os,bare⟩;cases q:H b with
    | none=>exact un.keep b o e q (by intro z;exact absurd (show b∈([]:List Addr)from z) (by simp)) (by simp)
    | some u=>
     rcases E b with z | ⟨Q,xs,z⟩
     ·rw[q]at z;cases z
     ·have N:=un.frzs b Q _ z;obtain⟨J,_⟩:=hok b _ z;obtain⟨O,_⟩:=p b _ N;rw[e]at J;cases J;exact O
 cases hk:K.lookup a with
 | some o=>
  -- the script is one of the module's own objects
  have e:=KX a o hk;rw[ha]at e;cases e;refine j (λ_=>none) (λ_=>.inl rfl) (.inr ⟨_,vs.toArray,_,hk,rfl,rfl,rfl,by rw[yp,l];exact hl,by simpa using G⟩) (λb u z=>by have t:(none:Option HO)=some u:=z;cases t) (λb z=>absurd rfl z) λz=>absurd rfl z
 | none=>
  refine j (λb=>if b=a then some (.frz { cls:=.type "list",data:=.seq vs.toArray } (.lst (ns.map V.int)))else none) (λb=>?_) (.inl (.inr ⟨{ cls:=.type "list",data:=.seq vs.toArray },if_pos rfl⟩)) (λb u z=>?_) (λb z=>?_) λ_=>hk
  ·by_cases g:b=a
   ·exact .inr ⟨_,_,if_pos g⟩
   ·exact .inl (if_neg g)
  ·by_cases g:b=a
   ·have t:=(if_pos g).symm.trans z;cases t;subst g;exact⟨ha,by rw[ya];exact hl,vs,_,G,ha⟩
   ·have t:=(if_neg g).symm.trans z;cases t
  ·by_cases g:b=a
   ·exact g
   ·exact absurd (if_neg g) z
abbrev KOf(_:K.In h):Fg:=K
def walk_of{l:PySem.W.OpenLaw}{n k:Nat}{q:Program}{j:List Str}{J:(Str->Option Value)->Heap->Prop}{t:World->Heap->Prop}{d:DefRec}{K:Params->Fg}{CX:World->CXT}{sp:World->Sp}{x:Str}
  (hn:l.most=some n) (hn2:n<=sizeLine) (hdf:d.params.defaults=[]) (hr:Room k callerA)
  (hY:∀(w:World) (h:Heap),t w h->(K w.params).In h)
  (F:∀(w:World) (mg:Str->Option Value) (p:Addr) (h:Heap),(K w.params).In h->h.Ns mainGlobals mg->mg d.name=some (.ref p) ->
   ∃fd:FuncData,(∀(s:Shared) (u:Value),BindsTo s fd ⟨[u],[]⟩ [(x,u)]) /\
    ∀base:Heap,(K w.params).In base->base.Ns mainGlobals mg->FnOk l.prog w (K w.params) mg base (CX w) k p fd [x] (sp w))
  (hsp:∀(w:World) (H:Hp) (a:Addr) (ns:List Int),ns.length<=n->zqV H->SqL (K w.params) H a (ns.map V.int)->sp w [.ref a] H (λv _=>v=.bl true) λ_ _ _=>False)
  (hCX:∀(w:World) (H:Hp) (s:Shared) (e:Value) (s':Shared),CX w [] H s (λ_ _ _=>False) e s'->False) :
  PySem.W.WalkO q j J t l.row.toRowW d [] (λf vs=>PySem.call f vs):=by
 refine Att.attach_call hn hdf λw s₀ C mg O p o M P I a vs ns G Y N hd D r m i c A=>?_;have y:=hY w _ Y;obtain⟨fd,B,E⟩:=F w mg p _ y G.T.g r;exact zqH y G.T.g G.T.b G.T.builtins G.T.nolimit A m i (yj c hn2) hr E B (λH z L=>hsp w H a ns c z L) λH e s'=>hCX w H C e s'
noncomputable def zdQ (s:Stmt):Arguments:=match s with
 | .FunctionDef _ a _ _ _ _ _ _ _ _=>a
 | _=>{ posonlyargs:=[],args:=[],vararg:=none,kwonlyargs:=[],kw_defaults:=[],kwarg:=none,defaults:=[] }
noncomputable def zcA (s:Stmt):List Stmt:=match s with
 | .FunctionDef _ _ b _ _ _ _ _ _ _=>b
 | _=>[]
noncomputable def zm (s:Stmt):Scope:=match s with
 | .FunctionDef _ _ _ _ _ _ sc _ _ _=>sc
 | _=>{ kind:=.function,names:=[],isGenerator:=false,isCoroutine:=false }
abbrev CX0:CXT:=λ_ _ _ _ _ _=>False
abbrev E0:XK:=λ_ _ _=>False
set_option genInjectivity false in
set_option genSizeOf false in
structure Fun(K:Fg)(x qual:Str)(st:Stmt)(f:Addr)(fd:FuncData):Prop where
 ex:∃(oc:Value) (od:Option Addr) (kV doc pm:Value) (an:Option Addr) (cdv ct:Value) (osl:Array (Option Value)),
  fd=PySem.W.fnOf x qual (zdQ st) (zcA st) (zm st) .none kV doc pm an cdv ct/\K.lookup f=some ⟨oc,od,.func fd,osl⟩/\PySem.W.codeIn K cdv qual=true
 kp:PySem.W.keepIn K (.ref f)=true
section
variable {P:Program}{w:World}{K:Fg}{mg:Str->Option Value}{base:Heap}
def Fun.binds{f:Addr}{ps:List Str}(F:Fun K x qual st f fd)
  (h:∀(kV b c:Value) (an:Option Addr) (a ct:Value) (us:List Value),us.length=ps.length->bindArgs (PySem.W.fnOf x qual (zdQ st) (zcA st) (zm st) .none kV b c an a ct) ⟨us,[]⟩=pure (ps.zip us)):Binds K fd ps []:=by
 obtain⟨i,j,kV,b,c,an,a,ct,e,rfl,g,d⟩:=F.ex;exact .all (h kV b c an a ct)
def zo4{f:Addr}{g:Value}{h an:Option Addr}{d:Array (Option Value)}{kV b e a ct:Value}(l:K.lookup f=some ⟨g,h,.func (PySem.W.fnOf x qual (zdQ st) (zcA st) (zm st) .none kV b e an a ct),d⟩)
  (c:PySem.W.codeIn K a qual=true) (k:PySem.W.keepIn K (.ref f)=true):Fun K x qual st f (PySem.W.fnOf x qual (zdQ st) (zcA st) (zm st) .none kV b e an a ct):=⟨⟨g,h,kV,b,e,an,a,ct,d,rfl,l,c⟩,k⟩
end
section
variable {X:Cx}
def pv(i:Nat){pos:Pos}(a:autoParam (X.N[i]?=some x) Internal.aut2._auto_1)(b:Vis X.env.scope x:=by first | exact Or.inl rfl | exact Or.inr (Or.inl rfl) | exact Or.inr (Or.inr rfl))(hd:autoParam ((x == ("__debug__" : Str))=false) Internal.aut1._auto_1)
  (hcd:autoParam ((x == ("__classdict__" : Str))=false) Internal.aut1._auto_1):PE X (.Name x pos) (zkv i):=zt2 a b hd hcd
end
noncomputable def Same (H H':Hp):Prop:=∀b o,H b=some o->H' b=some o
def Same.refl(H:Hp):Same H H:=λ_ _ h=>h
def Same.trans{H1 H2:Hp}(a:Same H H1)(b:Same H1 H2):Same H H2:=λc o h=>b c o (a c o h)
def Same.seq(e:Same H H')(h:SqL K H a xs):SqL K H' a xs:=by
 rcases h with(h | ⟨o,h⟩) | h
 ·exact .inl (.inl (e _ _ h))
 ·exact .inl (.inr ⟨o,e _ _ h⟩)
 ·exact .inr h
namespace BT
theorem abs:bootBuiltins "abs" = some (.builtin "abs"):=by decide +kernel
theorem len:bootBuiltins "len" = some (.builtin "len"):=by decide +kernel
theorem max:bootBuiltins "max" = some (.builtin "max"):=by decide +kernel
theorem min:bootBuiltins "min" = some (.builtin "min"):=by decide +kernel
theorem sum:bootBuiltins "sum" = some (.builtin "sum"):=by decide +kernel
theorem sorted:bootBuiltins "sorted" = some (.builtin "sorted"):=by decide +kernel
theorem isinstance:bootBuiltins "isinstance" = some (.builtin "isinstance"):=by decide +kernel
theorem int:bootBuiltins "int" = some (.type "int"):=by decide +kernel
theorem bool:bootBuiltins "bool" = some (.type "bool"):=by decide +kernel
theorem str:bootBuiltins "str" = some (.type "str"):=by decide +kernel
theorem list:bootBuiltins "list" = some (.type "list"):=by decide +kernel
theorem tuple:bootBuiltins "tuple" = some (.type "tuple"):=by decide +kernel
end BT
noncomputable def sz (i:Int):Nat:=Builtin.Int.intBits i
def sz_le{i:Int}:sz i<=n↔i.natAbs<2 ^ n:=by
 unfold sz Builtin.Int.intBits;by_cases h:i=0
 ·subst h;simp;exact ybg n
 ·have h':(i == 0)=false:=by simp[h]
  rw[h',if_neg "0a"];have a:i.natAbs≠0:=by lia
  rw[<- Nat.log2_lt a];lia
def zuS(i:Int):i.natAbs<2 ^ sz i:=sz_le.mp (yg _)
def zgA{i j:Int}(h:i.natAbs<=j.natAbs):sz i<=sz j:=sz_le.mpr (yae h (zuS j))
def zf1(i:Int):sz (-i)<=sz i:=zgA ⋯
def zph{i j:Int}(h1:sz i<=n)(h2:sz j<=n):sz (i+j)<=n+1:=by
 rw[sz_le]at *;rw[ybz];lia
def zcq{i j:Int}(h1:sz i<=n)(h2:sz j<=m):sz (i*j)<=n+m:=by
 rw[sz_le]at *
 rw[ybF,ya3];exact Nat.mul_lt_mul'' h1 h2
def zi5(i j:Int):(i/j).natAbs<=i.natAbs:=Int.natAbs_ediv_le_natAbs i j
def zb1(i j:Int):sz (i/j)<=sz i:=zgA (zi5 i j)
def zaH{i:Int}(h:i.natAbs<2 ^ n):sz i<=n:=sz_le.mpr h
def sz200{i:Int}(h1:-1606938044258990275541962092341162602522202993782792835301376<i)(h2:i<1606938044258990275541962092341162602522202993782792835301376):sz i<=200:=zaH (by
 have:(2:Nat) ^ 200=1606938044258990275541962092341162602522202993782792835301376:=by decide
 lia)
section
variable {X:Cx}
noncomputable def CMulS (i j:Int):Prop:=sz i+sz j<=134217728
def CMulS.ok{i j:Int}(h:CMulS i j):IntMulOk i j:=by
 unfold IntMulOk;have e:Builtin.Int.intTooBig (((Builtin.Int.intBits i:Nat):Int)+((Builtin.Int.intBits j:Nat):Int))=false:=by
  unfold Builtin.Int.intTooBig;have a:bitsLine=134217728:=by decide
  rw[decide_eq_false];rw[a];unfold CMulS sz at h;lia
 rw[e];simp
def CMulS.of{i j:Int}(h1:sz i<=n)(h2:sz j<=m)(h:n+m<=134217728):CMulS i j:=by unfold CMulS;lia
def op_mulS:OpR X (binaryOp .Mult) (rI CMulS λi j=>.int (i*j)):=opI λ_ _ _ _ _ _ _ a q=>mul_int q a.ok
noncomputable def zek:R2:=λx y H Q=>rI CMulS (λi j=>.int (i*j)) x y H Q\/zun x y H Q
def zR:OpR X (binaryOp .Mult) zek:=op_mulS.or ztE
noncomputable def zka (K:Fg):R2:=λx y H Q=>rI0 (λi j=>.int (i+j)) x y H Q\/zub x y H Q\/zrk K x y H Q
def zsD:OpR X (binaryOp .Add) (zka X.K):=op_add.or (op_cat.or zsV)
noncomputable def zu4 (i j:Int):Prop:=j≠0/\(sz j<=9000\/sz i<=sz j+4500)
noncomputable def zkd:R2:=rI zu4 λi j=>.int (i.fdiv j)
def znO{j:Int}(h:j≠0):sz j=j.natAbs.log2+1:=by
 have a:j.natAbs≠0:=by lia
 have h1:sz j<=j.natAbs.log2+1:=sz_le.mpr (Nat.lt_log2_self);have h2:¬sz j<=j.natAbs.log2:=λz=>by
  have:=sz_le.mp z
  have:=Nat.log2_self_le a
  lia
 lia
def zjX{i j:Int}(b:j≠0)(h:sz i<=sz j+4500):Builtin.divisionGoesByPylong i j=false:=by
 have d:(j == 0)=false:=by simpa using b
 have a:(if i == 0 then 0 else i.natAbs.log2/30+1)<=(if j == 0 then 0 else j.natAbs.log2/30+1)+150:=by
  rw[d];by_cases hi:i=0
  ·have:(i == 0)=true:=by simpa using hi
   rw[this];exact yW _
  ·have c:(i == 0)=false:=by simpa using hi
   rw[c];rw[znO hi,znO b]at h;show i.natAbs.log2/30+1<=j.natAbs.log2/30+1+150;lia
 show(decide (_>300)&&decide ((if i == 0 then 0 else i.natAbs.log2/30+1)>(if j == 0 then 0 else j.natAbs.log2/30+1)+150))=false
 rw[decide_eq_false (Nat.not_lt.mpr a),Bool.and_false]
def zaG:OpR X (binaryOp .FloorDiv) zkd:=opI λi j _ _ _ _ _ a q=>floordiv_int a.1 q (.inl (a.2.elim (λh=>PyProof.noPylong_of_log2 (by
 have h1:=sz_le.mp h;by_cases b:j.natAbs=0
 ·rw[b];decide
 ·exact(Nat.log2_lt b).mpr h1)) (zjX a.1)))
noncomputable def znn:R2:=rI (λ_ j=>j≠0) λi j=>.int (i.fmod j)
def zb2:OpR X (binaryOp .Mod) znn:=zsv
mutual
inductive RepD(K:Fg)(H:Hp):V->PyData->Prop
 | non:RepD K H .non .none
 | bl (b:Bool):RepD K H (.bl b) (.bool b)
 | int (i:Int):RepD K H (.int i) (.int i)
 | str (x:Str) (ok:PyData.canLay0 (.str x)=true):RepD K H (.str x) (.str x)
 | lst {a:Addr} {vs:List V} {ds:List PyData}:SqL K H a vs->RepAll K H vs ds->RepD K H (.ref a) (.list ds)
 | tup {a:Addr} {vs:List V} {ds:List PyData}:SqT K H a vs->RepAll K H vs ds->RepD K H (.ref a) (.tuple ds)
inductive RepAll(K:Fg)(H:Hp):List V->List PyData->Prop
 | nil:RepAll K H [] []
 | cons {v:V} {d:PyData} {vs:List V} {ds:List PyData}:RepD K H v d->RepAll K H vs ds->RepAll K H (v :: vs) (d :: ds)
end
mutual
theorem RepD.reads{pins:List (Addr × Obj)}{σ:St}{H:Hp}{s:Shared}(I:Inv X pins σ H s):∀{v:V} {d:PyData} {u:Value},RepD X.K H v d->RelV v u->∃as,Reads s.heap u d as
 | _,_,_,.non,r=>by cases(show _=Value.none from r);exact⟨_,.none⟩
 | _,_,_,.bl b,r=>by cases(show _=Value.bool b from r);exact⟨_,.bool b⟩
 | _,_,_,.int i,r=>by obtain⟨t,rfl⟩:=(show ∃t,_=Value.int i t from r);exact⟨_,.int i t⟩
 | _,_,_,.str x _,r=>by obtain⟨t,rfl⟩:=(show ∃t,_=Value.str x t from r);exact⟨_,.str x t⟩
 | _,_,_,.lst h k,r=>by
  cases(show _=Value.ref _ from r)
  obtain⟨its,a,⟨o,n,h1,h2,_,c⟩,_⟩:=I.list h;obtain⟨as,q⟩:=RepAll.reads I k a;exact⟨_,.list h1 h2 c (by simpa using q)⟩
 | _,_,_,.tup h k,r=>by
  cases(show _=Value.ref _ from r)
  obtain⟨its,a,⟨o,h1,h2,n,c⟩,_⟩:=I.tuple h;obtain⟨as,q⟩:=RepAll.reads I k a;exact⟨_,.tuple h1 h2 c (by simpa using q)⟩
theorem RepAll.reads{pins:List (Addr × Obj)}{σ:St}{H:Hp}{s:Shared}(I:Inv X pins σ H s):∀{vs:List V} {ds:List PyData} {us:List Value},RepAll X.K H vs ds->Vals vs us->∃as,ReadsAll s.heap us ds as
 | _,_,_,.nil,.nil=>⟨_,.nil⟩
 | _,_,_,.cons h k,.cons r t=>by
  obtain⟨as,q⟩:=RepD.reads I h r;obtain⟨bs,p⟩:=RepAll.reads I k t;exact⟨_,.cons q p⟩
end
mutual
theorem RepD.lay{K:Fg}{H:Hp}:∀{v:V} {d:PyData},RepD K H v d->d.canLay0=true
 | _,_,.non=>rfl
 | _,_,.bl _=>rfl
 | _,_,.int _=>rfl
 | _,_,.str _ ok=>ok
 | _,_,.lst _ k=>by rw[PyData.canLay0];exact RepAll.lay k
 | _,_,.tup _ k=>by rw[PyData.canLay0];exact RepAll.lay k
theorem RepAll.lay{K:Fg}{H:Hp}:∀{vs:List V} {ds:List PyData},RepAll K H vs ds->PyData.canLayAll0 ds=true
 | _,_,.nil=>rfl
 | _,_,.cons h k=>by rw[PyData.canLayAll0,RepD.lay h,RepAll.lay k];rfl
end
def Same.seqT{K:Fg}{H H':Hp}{a:Addr}{xs:List V}(e:Same H H')(h:SqT K H a xs):SqT K H' a xs:=by
 rcases h with(h | ⟨o,h⟩) | h
 ·exact .inl (.inl (e _ _ h))
 ·exact .inl (.inr ⟨o,e _ _ h⟩)
 ·exact .inr h
mutual
theorem Same.rep{K:Fg}{H H':Hp}(e:Same H H'):∀{v:V} {d:PyData},RepD K H v d->RepD K H' v d
 | _,_,.non=>.non
 | _,_,.bl b=>.bl b
 | _,_,.int i=>.int i
 | _,_,.str x ok=>.str x ok
 | _,_,.lst h k=>.lst (e.seq h) (e.repAll k)
 | _,_,.tup h k=>.tup (e.seqT h) (e.repAll k)
theorem Same.repAll{K:Fg}{H H':Hp}(e:Same H H'):∀{vs:List V} {ds:List PyData},RepAll K H vs ds->RepAll K H' vs ds
 | _,_,.nil=>.nil
 | _,_,.cons h k=>.cons (e.rep h) (e.repAll k)
end
noncomputable def zd4 (K:Fg):R2:=λx y H Q=>(∃d e,RepD K H x d/\RepD K H y e/\min d.depth e.depth<=60/\Q (.bl (PyData.eqv d e)) H)\/rEq x y H Q
noncomputable def zdX (K:Fg):R2:=λx y H Q=>(∃d e,RepD K H x d/\RepD K H y e/\min d.depth e.depth<=60/\Q (.bl (!PyData.eqv d e)) H)\/rNe x y H Q
def zti(g:X.A.units+64<cLine):OpR X (compareOp .Eq) (zd4 X.K):=by
 refine OpR.or ?_ zva;intro pins s σ H x y v u Q I a b h;obtain⟨d,e,h1,h2,hd,q⟩:=h;obtain⟨as,c⟩:=h1.reads I a;obtain⟨bs,f⟩:=h2.reads I b;exact PySem.SeqAt.compareEq_reads c f h1.lay h2.lay ⋯ ⟨.bl _,H,I,rfl,q⟩
def zt1(g:X.A.units+64<cLine):OpR X (compareOp .NotEq) (zdX X.K):=by
 refine OpR.or ?_ zu5;intro pins s σ H x y v u Q I a b h;obtain⟨d,e,h1,h2,hd,q⟩:=h;obtain⟨as,c⟩:=h1.reads I a;obtain⟨bs,f⟩:=h2.reads I b;exact PySem.SeqAt.compareNe_reads c f h1.lay h2.lay ⋯ ⟨.bl _,H,I,rfl,q⟩
noncomputable def zfg (K:Fg):List V->Hp->VK->Prop:=λxs H Q=>∃x c t b cv,xs=[x,c]/\RelV c cv/\TyOf K H x t/\PySem.W.kitOne K t cv=some b/\Q (.bl b) H
def zlN:CallR X (.builtin "isinstance") (zfg X.K):=by
 intro pins s σ H xs us Q I r h;obtain⟨x,c,t,b,cv,rfl,f,ty,e,q⟩:=h;obtain⟨u,d,rfl,i,g⟩:=vals2 r;have j:d=cv:=by
  cases c with
  | ty n=>exact(show d=_ from g).trans (show cv=_ from f).symm
  | ref a=>exact(show d=_ from g).trans (show cv=_ from f).symm
  | non=>exact(show d=_ from g).trans (show cv=_ from f).symm
  | bl b=>exact(show d=_ from g).trans (show cv=_ from f).symm
  | _=>obtain⟨_,rfl⟩:=f;simp[PySem.W.kitOne,PySem.W.kitCls]at e;cases ty<;>simp at e
 subst j;exact zot I i ty e λtk=>⟨.bl b,H,I.tok tk,rfl,q⟩
noncomputable def znf (K:Fg) (ta:TE):TE:=λσ H Q=>ta σ H λx H1=>∃k,ziF K x H1 k/\Q (.bl (!k)) H1
def ztf{a:Expr}{ta:TE}{pos:Pos}(ha:PE X a ta):PE X (.UnaryOp .Not a pos) (znf X.K ta):=by
 intro pins s σ H Q I h;refine UnaryOp_ (thn (ha pins s σ H _ I h) λv e i=>?_);obtain⟨x,H1,l,f,k,d,j⟩:=i;exact not_of (thn (zo8 pins e σ H1 x v (λc H2=>Q (.bl (!c)) H2) l f ⟨k,d,j⟩) λc m ⟨H2,g,b⟩=>⟨.bl (!c),H2,g,rfl,b⟩)
end
noncomputable def zuf:List V->Hp->VK->Prop:=λxs H Q=>∃i,xs=[.int i]/\Q (.int (if i<0 then -i else i)) H
noncomputable def ziA (K:Fg):List V->Hp->VK->Prop:=λxs H Q=>∃p ys,xs=[.ref p]/\(SqL K H p ys\/SqT K H p ys)/\Q (.int ys.length) H
noncomputable def zrr:List V->Hp->VK->Prop:=λxs H Q=>∃i j,xs=[.int i,.int j]/\Q (.int (if j>i then j else i)) H
noncomputable def zrN:List V->Hp->VK->Prop:=λxs H Q=>∃i j,xs=[.int i,.int j]/\Q (.int (if j<i then j else i)) H
noncomputable def zdO (K:Fg):List V->Hp->VK->Prop:=λxs H Q=>∃p ys,xs=[.ref p]/\(SqL K H p ys\/SqT K H p ys)/\∀l,H l=none->Q (.ref l) (upd H l (.lst ys))
section
variable {X:Cx}
def zja:CallR X (.builtin "abs") zuf:=zpL
def zo1:CallR X (.builtin "len") (ziA X.K):=zkE
def zjK(a:X.calm=true):CallR X (.builtin "max") zrr:=zo0 a
def zdy(a:X.calm=true):CallR X (.builtin "min") zrN:=zpj a
def znk:CallR X (.type "list") (zdO X.K):=zkJ
abbrev ztw(K:Fg)(ta:TE):TT:=λσ H Q=>ta σ H λx H'=>∃k,ziF K x H' k/\Q k H'
def zoQ{a:Expr}{ta:TE}(ha:PE X a ta)(b:∀whole,isTrue a X.env whole=(do let v <- whole;standAt a.pos;holding [v] (truthy v))):PT X a (ztw X.K ta):=zpF ha b
end
noncomputable def zmV (t u:TS):TS:=λD σ H=>∃M:St->Hp->Prop,t { D with nx:=M } σ H/\∀σ' H',M σ' H'->u D σ' H'
def zgJ{X:Cx}{st:Stmt}{rest:List Stmt}{t u:TS}(h1:PS X st t)(h2:PSs X rest u):PSs X (st :: rest) (zmV t u):=by
 intro pins s σ H D I h;obtain⟨M,b,c⟩:=h;refine wpAny_execs_cons (thn (h1 pins s σ H _ I b) λf e q=>?_);cases f with
 | next=>
  obtain⟨a,H',d,q'⟩:=q;exact h2 pins e a H' D d (c a H' q')
 | brk=>exact q
 | cont=>exact q
 | ret u=>exact q
noncomputable def NoX (CX:CXT):Prop:=∀(outer:List Env) (H:Hp) (s:Shared) (e:Value) (s':Shared),CX outer H s E0 e s'->False
def zu6{CX:CXT}{X:Cx}(h:NoX CX):zib CX X E0:=λ_ _ H s e s' _ q=>(h _ H s e s' q).elim
def Fun.okN{P:Program}{w:World}{K:Fg}{mg:Str->Option Value}{base:Heap}{CX:CXT}{x qual:Str}{st:Stmt}{f:Addr}{fd:FuncData}{N ps:List Str}{k:Nat}{sp:Sp}(F:Fun K x qual st f fd)(S:FnScope N ps (zm st))(len:∀vs H Q E,sp vs H Q E->vs.length=ps.length)
  (hbody:∀(a:Value) (A:Around) (outer:List Env) (s:Shared) (H:Hp) (vs:List V) (Q:VK) (E:XK),Room k (A.deeper (envOfC qual (zm st) s.heap.objs.size f a))->sp vs H Q E ->
   ∃t,PSs (zaQ CX P w K mg base N qual (zm st) f a A outer s H E).nox (zcA st) t/\t { nx:=λ_ H'=>Q .non H',rt:=Q } (start N vs) H):FnOk P w K mg base CX (k+1) f fd ps sp:=by
 obtain⟨l,m,kV,i,j,an,a,ct,e,rfl,g,c⟩:=F.ex;refine zrl g c S len λA outer s H vs Q E d b=>?_;obtain⟨t,h,q⟩:=hbody a A outer s H vs Q E d b;exact⟨t,h.nox,q⟩
section
variable {σ:St}{H:Hp}{Q:VK}{D:Ends}{ta tb tc te:TE}{t u:TS}{K:Fg}
def zrM{i:Nat}{v:V}(e:σ[i]?=some (some v))(q:Q v H):zkv i σ H Q:=⟨v,e,q⟩
def x_c{v:V}(q:Q v H):tC v σ H Q:=q
def zvr{g:Int->Int->V}{i j:Int}(q:Q (g i j) H):rI0 g (.int i) (.int j) H Q:=⟨i,j,rfl,rfl,q⟩
def zuW{i j:Int}(q:Q (.int (i+j)) H):zka K (.int i) (.int j) H Q:=.inl ⟨i,j,rfl,rfl,q⟩
def znA{i j:Int}(c:CMulS i j)(q:Q (.int (i*j)) H):zek (.int i) (.int j) H Q:=.inl ⟨i,j,rfl,rfl,c,q⟩
def zrJ{i j:Int}(a:0<j)(b:sz j<=9000)(q:Q (.int (i/j)) H):zkd (.int i) (.int j) H Q:=
 ⟨i,j,rfl,rfl,⟨⋯,.inl b⟩,by show Q (.int (i.fdiv j)) H;rw[Int.fdiv_eq_ediv_of_nonneg _ (yaT a)];exact q⟩
def zk8{i j:Int}(a:j≠0)(b:sz j<=9000)(q:Q (.int (i.fdiv j)) H):zkd (.int i) (.int j) H Q:=⟨i,j,rfl,rfl,⟨a,.inl b⟩,q⟩
def zu9{i j:Int}(a:0<j)(q:Q (.int (i%j)) H):znn (.int i) (.int j) H Q:=
 ⟨i,j,rfl,rfl,⋯,by show Q (.int (i.fmod j)) H;rw[Int.fmod_eq_emod_of_nonneg _ (yaT a)];exact q⟩
def zuN{i j k:Int}(c:znG i j)(e:i ^ j.toNat=k)(q:Q (.int k) H):rI znG (λi j=>.int (i ^ j.toNat)) (.int i) (.int j) H Q:=⟨i,j,rfl,rfl,c,by show Q (.int (i ^ j.toNat)) H;rw[e];exact q⟩
def zuO{i:Int}(q:Q (.int (-i)) H):rU (λi=>.int (-i)) (.int i) H Q:=⟨i,rfl,q⟩
def dI{i j:Int}:decide (V.int i=V.int j)=decide (i=j):=by simp
def dB{i j:Bool}:decide (V.bl i=V.bl j)=decide (i=j):=by simp
def zrp{i j:Int}(q:Q (.bl (decide (i=j))) H):zd4 K (.int i) (.int j) H Q:=.inr ⟨rfl,by rw[dI];exact q⟩
def zuP{i j:Int}(q:Q (.bl (!decide (i=j))) H):zdX K (.int i) (.int j) H Q:=.inr ⟨rfl,by rw[dI];exact q⟩
def zuH{i j:Bool}(q:Q (.bl (decide (i=j))) H):zd4 K (.bl i) (.bl j) H Q:=.inr ⟨rfl,by rw[dB];exact q⟩
def znB{x y:V}{d e:PyData}(h1:RepD K H x d)(h2:RepD K H y e)(hd:min d.depth e.depth<=60)(q:Q (.bl (PyData.eqv d e)) H):zd4 K x y H Q:=.inl ⟨d,e,h1,h2,hd,q⟩
def zhC{x y:V}{d e:PyData}(h1:RepD K H x d)(h2:RepD K H y e)(hd:min d.depth e.depth<=60)(q:Q (.bl (!PyData.eqv d e)) H):zdX K x y H Q:=.inl ⟨d,e,h1,h2,hd,q⟩
def zke{a:Addr}{xs:List V}{i:Int}{v:V}(h:SqL K H a xs)(e:atI xs i=some v)(q:Q v H):rIx K (.ref a) (.int i) H Q:=.inl ⟨a,xs,i,v,rfl,rfl,h,e,q⟩
def zrs{a:Addr}{xs:List V}{i:Int}{v:V}(h:SqT K H a xs)(e:atI xs i=some v)(q:Q v H):rIx K (.ref a) (.int i) H Q:=.inr (.inl ⟨a,xs,i,v,rfl,rfl,h,e,q⟩)
def zvv{T:Bool->Prop}{b:Bool}(q:T b):∃k,V.bl b=.bl k/\T k:=⟨b,rfl,q⟩
def zuj{T:Bool->Prop}{b:Bool}(q:T b):∃k,ziF K (.bl b) H k/\T k:=⟨b,rfl,q⟩
def zt9(q:ta σ H λx H1=>∃c,x=.bl c/\if c=true then tb σ H1 Q else Q (.bl false) H1):zrK ta tb σ H Q:=q
def zuA(q:ta σ H λx H1=>∃k,ziF K x H1 k/\Q (.bl (!k)) H1):znf K ta σ H Q:=q
def zuR{p:Prop}[Decidable p]{A B:Prop}(h1:p->A)(h2:¬p->B):if decide p=true then A else B:=by
 by_cases h:p
 ·rw[if_pos (decide_eq_true h)];exact h1 h
 ·rw[if_neg (by rw[decide_eq_false h];exact yr)];exact h2 h
def ztS{p:Prop}[Decidable p]{A B:Prop}(h1:¬p->A)(h2:p->B):if(!decide p)=true then A else B:=by
 by_cases h:p
 ·rw[if_neg (by rw[decide_eq_true h];exact yr)];exact h2 h
 ·rw[if_pos (by rw[decide_eq_false h];rfl)];exact h1 h
def zef{A B:Prop}(h:A):if true=true then A else B:=by rw[if_pos rfl];exact h
def zih{A B:Prop}(h:B):if false=true then A else B:=by rw[if_neg yr];exact h
def zsp{A B:Prop}(h:B):if(!true)=true then A else B:=zih h
def zrX{A B:Prop}(h:A):if(!false)=true then A else B:=zef h
def zvc(M:St->Hp->Prop)(q:t { D with nx:=M } σ H)(r:∀σ' H',M σ' H'->u D σ' H'):zmV t u D σ H:=⟨M,q,r⟩
def zbN{R:List V->Hp->Prop}(q:R [] H):zlK σ H R:=q
def zum{sp:Sp}{E:XK}{tr:TA}(q:tr σ H λvs H1=>sp vs H1 Q E):zhz sp [] E tr σ H Q:=by unfold zhz;simp only[yag];exact q
noncomputable def zfM (Q:VK) (xs:List V) (H:Hp):Prop:=xs.length<=sizeLine/\∀p,H p=none->Q (.ref p) (upd H p (.tup xs))
noncomputable def zqp (Q:VK) (xs:List V) (H:Hp):Prop:=xs.length<=sizeLine/\∀p,H p=none->Q (.ref p) (upd H p (.lst xs))
def zuG{tr:TA}(q:tr σ H (zfM Q)):zuo tr σ H Q:=q
def zuY{tr:TA}(q:tr σ H (zqp Q)):ztD tr σ H Q:=q
def zu3{i:Int}(q:Q (.int (if i<0 then -i else i)) H):zuf [.int i] H Q:=⟨i,rfl,q⟩
def ztI{a:Addr}{xs:List V}(h:SqL K H a xs)(q:Q (.int xs.length) H):ziA K [.ref a] H Q:=⟨a,xs,rfl,.inl h,q⟩
def ztW{a:Addr}{xs:List V}(h:SqT K H a xs)(q:Q (.int xs.length) H):ziA K [.ref a] H Q:=⟨a,xs,rfl,.inr h,q⟩
def zvb{i j:Int}(q:Q (.int (if j>i then j else i)) H):zrr [.int i,.int j] H Q:=⟨i,j,rfl,q⟩
def zuT{i j:Int}(q:Q (.int (if j<i then j else i)) H):zrN [.int i,.int j] H Q:=⟨i,j,rfl,q⟩
def zE{N:List Str}{vs:List V}{σ0:St}(e:start N vs=σ0)(q:t D σ0 H):t D (start N vs) H:=by rw[e];exact q
def zkb{x c:V}{t' cv:Value}{b:Bool}(a:RelV c cv)(ty:TyOf K H x t')(e:PySem.W.kitOne K t' cv=some b)(q:Q (.bl b) H):zfg K [x,c] H Q:=⟨x,c,t',b,cv,rfl,a,ty,e,q⟩
end
def Same.new{H:Hp}{p:Addr}(h:H p=none)(o:HO):Same H (upd H p o):=λb u q=>by rw[zag (zQ q h)];exact q
open PySem PySem.Spec PyProof.Rows
def ziL{env:Env}{scope:Scope}(h:∀y∈scope.names,y.2=.free->∃c,env.cells.lookup y.1=some c) :
  ∃cl,closureFor scope env=pure cl/\(∀x c,cl.lookup x=some c->env.cells.lookup x=some c)/\∀y∈scope.names,y.2=.free->cl.lookup y.1=env.cells.lookup y.1:=by
 unfold closureFor;have p:∀(names:List (Str × NameKind)) (b:List (Str × Addr)),(∀y∈names,y.2=.free->∃c,env.cells.lookup y.1=some c)->(∀x c,b.lookup x=some c->env.cells.lookup x=some c) ->
   ∃cl,(forIn (m:=Sem) names b fun(x:Str × NameKind) r=>if(x.2 == .free)=true then(do let a <- cellOf env x.1;pure (ForInStep.yield ((x.1,a) :: r)))else pure (ForInStep.yield r))=pure cl /\
    (∀x c,cl.lookup x=some c->env.cells.lookup x=some c)/\(∀y∈names,y.2=.free->cl.lookup y.1=env.cells.lookup y.1)/\(∀x,(∃c,b.lookup x=some c)->cl.lookup x=env.cells.lookup x):=by
  intro names
  induction names with
  | nil=>intro b _ ha;exact⟨b,rfl,ha,λ_ d=>(nomatch d),λx ⟨c,e⟩=>by rw[e,ha x c e]⟩
  | cons y r ih=>
   intro b t ha;obtain⟨n,k⟩:=y;have s:∀y∈r,y.2=.free->∃c,env.cells.lookup y.1=some c:=λy d=>t y (yV _ d);by_cases o:k=.free
   ·subst o;obtain⟨c,u⟩:=t (n,.free) yai rfl;have q:∀x f,List.lookup x ((n,c) :: b)=some f->env.cells.lookup x=some f:=λx f e=>by
     rw[yQ]at e;cases g:x == n with
     | true=>rw[g]at e;cases e;rw[beq_iff_eq.mp g];exact u
     | false=>rw[g]at e;exact ha x f e
    obtain⟨cl,e,h1,h2,j⟩:=ih ((n,c) :: b) s q;refine⟨cl,?_,h1,λy d i=>?_,λx v=>?_⟩
    ·rw[List.forIn_cons];simp only[cellOf,u,beq_self_eq_true,if_true];exact e
    ·rcases yy.mp d with rfl | d
     ·exact j n ⟨c,by rw[yQ];simp⟩
     ·exact h2 y d i
    ·refine j x ?_;obtain⟨f,l⟩:=v;rw[yQ];cases g:x == n with
     | true=>exact⟨c,rfl⟩
     | false=>exact⟨f,l⟩
   ·obtain⟨cl,e,h1,h2,j⟩:=ih b s ha;refine⟨cl,?_,h1,λy d i=>?_,j⟩
    ·rw[List.forIn_cons];have g:(k == NameKind.free)=false:=by simpa using o
     simp only[g,ybJ,if_false];exact e
    ·rcases yy.mp d with rfl | d
     ·exact absurd i o
     ·exact h2 y d i
 obtain⟨cl,e,h1,h2,_⟩:=p scope.names [] h (λ_ _ z=>by simp at z);refine⟨cl,?_,h1,h2⟩
 show(forIn scope.names [] _ >>= λr=>pure r)=pure cl
 have l:(forIn (m:=Sem) scope.names [] fun(x:Str × NameKind) (r:List (Str × Addr))=>match x with | (name,kind)=>if(kind == .free)=true then(do let a <- cellOf env name;pure (ForInStep.yield ((name,a) :: r)))else pure (ForInStep.yield r))=pure cl:=e
 first
  | (rw[l];rfl)
  | (simp only[l];rfl)
theorem zcr:∀(names:List (Str × NameKind)) (n:Nat) (acc:List (Str × Addr)),cellsFrom n names acc=cellsFrom n names []++acc
 | [],_,_=>rfl
 | (name,kind) :: r,n,acc=>by
  unfold cellsFrom;split
  ·rw[zcr r (n+1) ((name,n) :: acc),zcr r (n+1) [(name,n)],ybR];rfl
  ·exact zcr r n acc
theorem zcS{α:Type}{x:Str}:∀{l r:List (Str × α)},(l++r).lookup x=match l.lookup x with | some c=>some c | none=>r.lookup x
 | [],_=>rfl
 | (k,v) :: l,r=>by
  rw[List.cons_append,yQ,yQ];cases x == k with
  | true=>rfl
  | false=>exact zcS (l:=l)
noncomputable def zs7 (scope:Scope) (cs:List (Str × Addr)) (C:Addr) (env:Env):Env:=
 { scope:=relabel scope env,locals:=C,globals:=env.globals,cells:=cs,qual:=env.qual,func:=none,code:=env.code,frame:=env.frame,builtins:=env.builtins }
def zjW{M:Model}{A:Around}{E:Value->Shared->Prop}{s:Shared}{scope:Scope}{globals:Addr}{cl:List (Str × Addr)}{qual:Str}{env:Env}{Q:Env->Shared->Prop}
  (hQ:∀(own:List (Str × Addr)) (s':Shared),own=cellsFrom (s.heap.objs.size+1) scope.names []->s'={ s with heap:=s'.heap }->(∀b o,s.heap.get? b=some o->s'.heap.get? b=some o) ->
   s'.heap.Ns s.heap.objs.size (λ_=>none)->(∀n c,(n,c)∈own->s'.heap.IsCell c none/\s.heap.objs.size+1<=c)->(own.Pairwise λx y=>x.2≠y.2) ->
   Q { scope:=scope,locals:=s.heap.objs.size,globals:=globals,cells:=own++cl,qual:=qual,func:=none,code:=env.code,frame:=env.frame,builtins:=env.builtins } s') :
  wpAny M A (newFunctionEnv scope globals cl [] qual none .none (some env)) Q E s:=by
 simp only[newFunctionEnv,Option.isSome_some,if_true];refine wpAny_bind (wpAny_alloc ?_);refine wpAny_bind (wpAny_layCells _ (λname kind cells=>by cases hkc:kind == NameKind.cell<;>simp[hkc]) _ _ _ _ ?_);have ok:=cellsFrom_ok scope.names (s.heap.push { cls:=.type "dict",data:=.dict #[] }) (s.heap.objs.size+1) [] ⟨λ_ _ a=>(nomatch a),List.Pairwise.nil⟩ (by rw[Heap.size_push];exact yg _);rw[Heap.size_push]at ok;rw[show({ s with heap:=s.heap.push { cls:=.type "dict",data:=.dict #[] } }:Shared).heap.objs.size=s.heap.objs.size+1 from Heap.size_push ..];rw[zcr];have fin:=hQ _ { s with heap:=pushCells (s.heap.push { cls:=.type "dict",data:=.dict #[] }) scope.names } rfl rfl (λb o e=>pushCells_keeps _ _ b o (Heap.get?_push_of_some _ e))
  ((Heap.Ns.new s.heap (.type "dict")).keeps (pushCells_keeps _ _)) ok.empty ok.apart
 exact wpAny_bind (wpAny_pure (wpAny_pure fin))
theorem zc4{env:Env}:∀{names:List (Str × NameKind)} {x:Str},names.lookup x=some .free ->
  (names.map fun(n,k)=>if"0b" then(n,NameKind.cell) else(n,k)).lookup x=some .cell \/
  (names.map fun(n,k)=>if"0b" then(n,NameKind.cell) else(n,k)).lookup x=some .free
 | [],_,h=>by simp at h
 | (n,k) :: r,x,h=>by
  have b:=@zc4 env r x;show List.lookup x ((if"0b"=true then(n,NameKind.cell) else(n,k)) :: _)=_\/List.lookup x ((if"0b"=true then(n,NameKind.cell) else(n,k)) :: _)=_;by_cases a:"0b"=true
  ·rw[if_pos a];cases hx:x == n with
   | true=>left;simp[yQ,hx]
   | false=>simp only[yQ,hx]at h ⊢;exact b h
  ·rw[if_neg a];cases hx:x == n with
   | true=>simp only[yQ,hx]at h ⊢;exact .inr h
   | false=>simp only[yQ,hx]at h ⊢;exact b h
theorem zc5{env:Env}:∀{names:List (Str × NameKind)} {x:Str},(names.map fun(n,k)=>if"0b" then(n,NameKind.cell) else(n,k)).lookup x=some .cell \/
  (names.map fun(n,k)=>if"0b" then(n,NameKind.cell) else(n,k)).lookup x=some .free->names.lookup x=some .cell\/names.lookup x=some .free
 | [],_,h=>by simp at h
 | (n,k) :: r,x,h=>by
  have b:=@zc5 env r x;have h':List.lookup x ((if"0b"=true then(n,NameKind.cell) else(n,k)) :: (r.map fun(n,k)=>if"0b" then(n,NameKind.cell) else(n,k)))=some .cell \/
   List.lookup x ((if"0b"=true then(n,NameKind.cell) else(n,k)) :: (r.map fun(n,k)=>if"0b" then(n,NameKind.cell) else(n,k)))=some .free:=h
  clear h;by_cases a:"0b"=true
  ·have c:k=.free:=by
    rw[y4,y4]at a;exact beq_iff_eq.mp a.1.1
   subst c;rw[if_pos a]at h';cases hx:x == n with
   | true=>right;simp[yQ,hx]
   | false=>simp only[yQ,hx]at h' ⊢;exact b h'
  ·rw[if_neg a]at h';cases hx:x == n with
   | true=>simp only[yQ,hx]at h' ⊢;exact h'
   | false=>simp only[yQ,hx]at h' ⊢;exact b h'
theorem zdt{env:Env}:∀{names:List (Str × NameKind)} {x:Str},names.lookup x=some .cell ->
  (names.map fun(n,k)=>if"0b" then(n,NameKind.cell) else(n,k)).lookup x=some .cell
 | [],_,h=>by simp at h
 | (n,k) :: r,x,h=>by
  have b:=@zdt env r x;show List.lookup x ((if"0b"=true then(n,NameKind.cell) else(n,k)) :: _)=_;by_cases a:"0b"=true
  ·rw[if_pos a];cases hx:x == n with
   | true=>simp[yQ,hx]
   | false=>simp only[yQ,hx]at h ⊢;exact b h
  ·rw[if_neg a];cases hx:x == n with
   | true=>simp only[yQ,hx]at h ⊢;exact h
   | false=>simp only[yQ,hx]at h ⊢;exact b h
def zrT{names:List (Str × NameKind)}:∀{n:Nat} {a:List (Str × Addr)} {x:Str} {c:Addr},(x,c)∈cellsFrom n names a->(x,.cell)∈names\/(x,c)∈a:=by
 induction names with
 | nil=>intro n a x c h;exact .inr h
 | cons y r ih=>
  intro n a x c h;obtain⟨nm,k⟩:=y;unfold cellsFrom at h;split at h
  ·rename_i b;rcases ih h with h | h
   ·exact .inl (yV _ h)
   ·rcases yy.mp h with e | h
    ·cases e;rw[beq_iff_eq.mp b];exact .inl yai
    ·exact .inr h
  ·rcases ih h with h | h
   ·exact .inl (yV _ h)
   ·exact .inr h
def zfI{names:List (Str × NameKind)}(nd:(names.map (·.1)).Nodup){x:Str}{k:NameKind}(h:(x,k)∈names):names.lookup x=some k:=by
 induction names with
 | nil=>cases h
 | cons y r ih=>
  obtain⟨n,k'⟩:=y;rw[yam,yaK]at nd;rw[yQ];rcases yy.mp h with e | b
  ·cases e;simp
  ·have a:x≠n:=λe=>nd.1 (y8.mpr ⟨(x,k),b,e⟩);have c:(x == n)=false:=by simpa using a
   rw[c];exact ih nd.2 b
noncomputable def zbb (X:Cx) (scope:Scope) (Ni:List Str) (cs:List (Str × Addr)) (a:Shared) (b:Hp) (fp:List Addr) (pins:List (Addr × Obj)):Cx:=
 { X with N:=Ni,s₀:=a,H₀:=b,env:=zs7 scope cs a.heap.objs.size X.env,outer:=X.stack,stack:=X.stack,ex:=fp,fn:=λy=>decide (scope.names.lookup y=some .cell),pn:=X.pn++pins,xe:=λ_ _=>False }
set_option genInjectivity false in
set_option genSizeOf false in
structure CompScope(X:Cx)(scope:Scope)(Ni:List Str)(caps:List (Option Nat)):Prop where
 kind:scope.kind=.function
 ndn:(scope.names.map (·.1)).Nodup
 free:∀y∈scope.names,y.2=.free->X.env.kindOf y.1=some .cell\/X.env.kindOf y.1=some .free
 nd:Ni.Nodup
 len:caps.length=Ni.length
 cap:∀(i:Nat) (y:Str) (j:Nat),Ni[i]?=some y->caps[i]?=some (some j)->X.N[j]?=some y/\scope.names.lookup y=some .free
noncomputable def zeG (a:Scope) (b:List Str) (scope:Scope) (Ni:List Str) (caps:List (Option Nat)):Bool:=
 (scope.kind == .function)&&decide ((scope.names.map (·.1)).Nodup)&&(scope.names.all λy=>y.2 != .free || a.names.lookup y.1 == some .cell || a.names.lookup y.1 == some .free) &&
 decide Ni.Nodup&&(caps.length == Ni.length)&&((Ni.zip caps).all λp=>match p.2 with | none=>true | some j=>b[j]? == some p.1&&scope.names.lookup p.1 == some .free)
def zaJ{X:Cx}{scope:Scope}{Ni:List Str}{caps:List (Option Nat)}(h:zeG X.env.scope X.N scope Ni caps=true):CompScope X scope Ni caps:=by
 unfold zeG at h;simp only[y4]at h;obtain⟨⟨⟨⟨⟨h1,h2⟩,e⟩,f⟩,g⟩,k⟩:=h;refine⟨beq_iff_eq.mp h1,of_decide_eq_true h2,λy c a=>?_,of_decide_eq_true f,beq_iff_eq.mp g,λi y j l b=>?_⟩
 ·have q:=ybV.mp e y c;rw[Bool.or_eq_true,Bool.or_eq_true]at q;rcases q with(q | q) | q
  ·rw[a]at q;simp at q
  ·exact .inl (beq_iff_eq.mp q)
  ·exact .inr (beq_iff_eq.mp q)
 ·have d:(y,some j)∈Ni.zip caps:=by
   refine yb (i:=i) ?_;rw[List.getElem?_zip_eq_some];exact⟨l,b⟩
  have q:=ybV.mp k _ d;simp only[y4]at q;exact⟨beq_iff_eq.mp q.1,beq_iff_eq.mp q.2⟩
noncomputable def zb8 (caps:List (Option Nat)) (σ:St):St:=caps.map λo=>match o with | some j=>(σ[j]?).getD none | none=>none
section
variable {X:Cx}
set_option genInjectivity false in
set_option genSizeOf false in
structure CompAt(X:Cx)(scope:Scope)(own cl:List (Str × Addr))(s₃:Shared):Prop where
 oeq:own=cellsFrom (s₃.heap.objs.size+1) scope.names []
 apart:own.Pairwise λx y=>x.2≠y.2
 above:∀n c,(n,c)∈own->s₃.heap.objs.size+1<=c
 sub:∀x c,cl.lookup x=some c->X.env.cells.lookup x=some c
 all:∀y∈scope.names,y.2=.free->cl.lookup y.1=X.env.cells.lookup y.1
def CompAt.look{scope:Scope}{own cl:List (Str × Addr)}{a:Shared}(T:CompAt X scope own cl a){x:Str}{c:Addr}(h:(own++cl).lookup x=some c):(x,c)∈own\/X.env.cells.lookup x=some c:=by
 rw[zcS]at h;cases e:own.lookup x with
 | some c'=>rw[e]at h;cases h;exact .inl (mem_of_lookup e)
 | none=>rw[e]at h;exact .inr (T.sub x c h)
def zhs{pins:List (Addr × Obj)}{σ:St}{H:Hp}{s:Shared}(I:Inv X pins σ H s){x:Str}{c:Addr}(h:X.env.cells.lookup x=some c):c<s.heap.objs.size:=by
 obtain⟨v,o,a,_⟩:=I.cell x c h;exact Heap.lt_size a
def zsE{scope:Scope}{Ni:List Str}{caps:List (Option Nat)}{own cl:List (Str × Addr)}{pins:List (Addr × Obj)}{σ:St}{l:Hp}{i:Shared}{fp:List Addr}
  (S:CompScope X scope Ni caps) (T:CompAt X scope own cl i) (I:Inv X pins σ l i) (f:∀b∈fp,zcU X pins l b) (hf:∀b∈fp,b<i.heap.objs.size):(zbb X scope Ni (own++cl) i l fp pins).Ok where
 mod:=I.ok.mod
 kind:=S.kind
 glob:=I.ok.glob
 blt:=I.ok.blt
 above:=yg _
 inj:=λx y c h1 h2=>by
  rcases T.look h1 with a | a
  ·rcases T.look h2 with b | b
   ·exact name_of_addr T.apart a b
   ·exact absurd (yC (zhs I b) (ybS (T.above x c a))) (yY _)
  ·rcases T.look h2 with b | b
   ·exact absurd (yC (zhs I a) (ybS (T.above y c b))) (yY _)
   ·exact I.ok.inj x y c a b
 has:=λx h=>by
  have h':=zc5 (env:=X.env) (names:=scope.names) (x:=x) h;show ∃c,(own++cl).lookup x=some c;rw[zcS];cases e:own.lookup x with
  | some c=>exact⟨c,rfl⟩
  | none=>
   rcases h' with h' | h'
   ·obtain⟨c,g⟩:=zff (n:=i.heap.objs.size+1) h';rw[<- T.oeq,e]at g;cases g
   ·have k:=mem_of_lookup h';obtain⟨c,g⟩:=I.ok.has x (S.free _ k rfl);exact⟨c,(T.all _ k rfl).trans g⟩
 cab:=λx c h1 h2=>by
  have m:scope.names.lookup x=some .cell:=of_decide_eq_true h1;obtain⟨p,g⟩:=zff (n:=i.heap.objs.size+1) m;rw[<- T.oeq]at g;have j:(own++cl).lookup x=some c:=h2;rw[zcS,g]at j;cases j
  have:=T.above x _ (mem_of_lookup g)
  show i.heap.objs.size<=_;lia
 hd:=I.ok.hd
 frames:=I.ok.frames
 stk:=.inl rfl
 exf:=λb d=>⟨yv (hf b d),λx c h=>by
  rcases T.look h with a | a
  ·exact λe=>absurd (yC (hf b d) (ybS (e▸T.above x c a))) (yY _)
  ·exact(f b d).2.2.2.2.1 x c a⟩
 bs:=I.bs
 bsz:=yj I.ok.bsz I.sz
 noex:=λb o e d=>by
  rcases(f b d).2.2.2.1 with z | z
  ·exact I.ok.noex b o e z
  ·have h1:b<X.base.objs.size:=Heap.lt_size e;have h2:=I.ok.bsz;exact absurd (yC h1 (yj h2 z)) (yY _)
 exfs:=λb d k=>by
  rcases yy.mp (I.stkSub b k)with z | z
  ·exact(f b d).2.1 z
  ·exact(f b d).2.2.1 z
 funs:=I.stack
 frf:=I.stkFree
def znC{scope:Scope}{Ni:List Str}{caps:List (Option Nat)}{own cl:List (Str × Addr)}{pins:List (Addr × Obj)}{σ:St}{A:Hp}{s w:Shared}{fp:List Addr}
  (S:CompScope X scope Ni caps) (T:CompAt X scope own cl s) (I:Inv X pins σ A s) (f:∀b∈fp,zcU X pins A b) (hf:∀b∈fp,b<s.heap.objs.size)
  (e4:w={ s with heap:=w.heap }) (k:∀b o,s.heap.get? b=some o->w.heap.get? b=some o) (ns:w.heap.Ns s.heap.objs.size λ_=>none) (oc:∀n c,(n,c)∈own->w.heap.IsCell c none) :
  Inv (zbb X scope Ni (own++cl) s A fp pins) [] (zb8 caps σ) A w where
 ok:=zsE S T I f hf
 os:=by rw[e4];rfl
 bare:=by rw[e4];exact I.bare
 base:=Un.kept k
 loc:=by
  refine⟨_,ns,λi x v h1 h2 E=>?_⟩;have d:(zb8 caps σ)[i]?=some (some v):=h2;unfold zb8 at d;rw[ye]at d;cases ec:caps[i]? with
  | none=>rw[ec]at d;cases d
  | some o=>
   cases o with
   | none=>rw[ec]at d;cases d
   | some j=>
    rw[ec]at d;have g:(σ[j]?).getD none=some v:=yn d;have K:σ[j]?=some (some v):=by
     cases e:σ[j]? with
     | none=>rw[e]at g;cases g
     | some z=>rw[e]at g;exact congrArg some g
    obtain⟨G,t⟩:=S.cap i x j h1 ec;have F:=mem_of_lookup t;have C:=S.free _ F rfl;obtain⟨m,_,hl⟩:=I.loc;obtain⟨u,r,l⟩:=hl j x v G K (by rcases C with z | z;exact .inr (.inl z);exact .inr (.inr z));refine⟨u,r,.inr ⟨zc4 t,?_⟩⟩;rcases l with⟨z,_⟩ | ⟨_,c,hc,q⟩
    ·have J:X.env.kindOf x=some .local:=z;rcases C with y | y<;>(have D:X.env.kindOf x=_:=y;rw[J]at D;cases D)
    ·refine⟨c,?_,q.keeps k⟩
     show(own++cl).lookup x=some c
     rw[zcS];cases eo:own.lookup x with
     | some c'=>
      rw[T.oeq]at eo;rcases zrT (mem_of_lookup eo)with y | y
      ·have:=zfI S.ndn y
       rw[t]at this;cases this
      ·cases y
     | none=>exact(T.all _ F rfl).trans hc
 cell:=λx c h=>by
  rcases T.look h with a | a
  ·exact⟨_,oc x c a⟩
  ·obtain⟨v,q⟩:=I.cell x c a;exact⟨v,q.keeps k⟩
 free:=I.hok.fresh (yg _)
 freeC:=λx c h=>by
  rcases T.look h with a | a
  ·exact I.hok.fresh (by have:=T.above x c a;lia)
  ·exact I.freeC x c a
 pin:=λp hp=>by
  have B:p∈X.pn++pins:=by
   have:p∈(X.pn++pins)++[]:=hp
   simpa using this
  obtain⟨h1,h2,E,L,H⟩:=I.pin p B;refine⟨k _ _ h1,h2,yv (Heap.lt_size h1),λz=>?_,H⟩;rcases yy.mp (I.stkSub _ z)with y | y
  ·exact E y
  ·exact L y
 hok:=I.hok.kept k
 len:=by
  show(zb8 caps σ).length=Ni.length
  unfold zb8;rw[ya];exact S.len
def zqC{scope:Scope}{Ni:List Str}{cs:List (Str × Addr)}{pins:List (Addr × Obj)}{σ g:St}{c H':Hp}{a s':Shared}{fp:List Addr}(I:Inv X pins σ c a)(f:∀b∈fp,zcU X pins c b)
  (J:Inv (zbb X scope Ni cs a c fp pins) [] g H' s'):Inv X pins σ H' s':=by
 have u:Un (frs X.stack) fp c H' a.heap s'.heap:=J.base;have q:=I.call (g':=s'.gens) (t':=s'.toks) (d':=s'.drawn) (ch:=fp) u J.hok J.bare λb d=>⟨(f b d).2.2.2.1,(f b d).2.1,(f b d).2.2.2.2.1,(f b d).2.2.2.2.2⟩
 have e:({ a with heap:=s'.heap,gens:=s'.gens,drawn:=s'.drawn,toks:=s'.toks }:Shared)=s':=by
  have h1:s'.os=a.os:=J.os;cases s';cases a;simp only at h1;subst h1;rfl
 rw[e]at q;exact q
noncomputable def PF (Y:Cx) (a:List Expr) (t:TT):Prop:=∀(pins:List (Addr × Obj)) (s:Shared) (σ:St) (H:Hp) (Q:Bool->Hp->Prop),Inv Y pins σ H s->t σ H Q ->
 wpAny (model Y.prog Y.w) Y.A (forIn a true λc r=>if r=true then do let ok <- isTrue c Y.env (eval c Y.env);pure (ForInStep.yield ok)else pure (ForInStep.yield r)) (TP Y pins σ Q) Y.xe s
abbrev zd8:TT:=λ_ H T=>T true H
def zeK{Y:Cx}:PF Y [] zd8:=λpins s σ H Q I h=>wpAny_tests_nil ⟨H,I,h⟩
def zfE{Y:Cx}{c:Expr}{t:TT}(h:PT Y c t):PF Y [c] t:=λpins s σ H Q I q=>wpAny_tests_one (h pins s σ H Q I q)
noncomputable def zeR (wi:TI) (caps:List (Option Nat)) (g:TG) (tf:TT) (te:TE):TE:=λσ H Q=>wi σ H λJ H1=>∀D,H1 D=none ->
 ∃W:Nat->Nat->St->Hp->Prop,(∃m,W 0 m (zb8 caps σ) (upd H1 D (.lst [])))/\∀i m σ' H',W i m σ' H' ->
  (J.stop i H'/\Q (.ref D) H')\/(J.go i H'/\∃N:St->Hp->Prop,(∀σ2 H2,N σ2 H2->∃m',m'<m/\W (i+1) m' σ2 H2) /\
   ∀x H2,J.yld i H' x H2->g x σ' H2 λa d=>tf a d λb c=>if b=true then te a c λv e=>zbO (.ref D) [v] e λ_ f=>N a f else N a c)
def zk3{P:Program}{w:World}{A:Around}{R:Result->Shared->Prop}{p:Shared}{elt tg iter:Expr}{a:List Expr}{o:Scope}{ps:Pos}{b d:Value}{en:Env}(J:Nat->Shared->Prop)
  (turn:∀n s,J n s->wpAny (model P w) A (pyNext b) (λr i=>match r with | none=>R (.ok .next) i | some v=>wpAny (model P w) A (letOwnedTupleGo tg b v) (λ_ f=>wpAny (model P w) A (assign tg en v) (λ_ q=>
   wpAny (model P w) A (forIn a true λc r=>if r=true then do let ok <- isTrue c en (eval c en);pure (ForInStep.yield ok)else pure (ForInStep.yield r)) (λok g=>if ok=true then wpAny (model P w) A (eval elt en) (λx j=>
    wpAny (model P w) A (call (.builtin "list.append") [d,x]) (λ_ l=>∃m,m<n/\J m l) (notedBy (model P w) A en λe s'=>R (.error e) s') j) (notedBy (model P w) A en λe s'=>R (.error e) s') g
     else ∃m,m<n/\J m g) (notedBy (model P w) A en λe s'=>R (.error e) s') q) (notedBy (model P w) A en λe s'=>R (.error e) s') f) (notedBy (model P w) A en λe s'=>R (.error e) s') i) (notedBy (model P w) A en λe s'=>R (.error e) s') s)
  (n0:Nat) (j0:J n0 p):codeAny (model P w) A (.compLoop (.ListComp elt [⟨tg,iter,a,0⟩] o ps) 0 b d en) R p:=by
 refine codeAny_loop rfl J (λn s u=>?_) n0 j0;show wpAny _ A ((compTurn (.ListComp elt [⟨tg,iter,a,0⟩] o ps) 0 b d en).onRaise (λx=>do noteFrame x en;theTreesLotGoes x)) _ _ s;refine wpAny_noted ?_;rw[compTurn_list];refine wpAny_bind (wpAny_standAt (wpAny_bind (wpAny_mono (turn n s u) (λr i h1=>?_) λ_ _ z=>z)));cases r with
 | none=>exact wpAny_pure h1
 | some v=>
  refine wpAny_bind (wpAny_mono h1 (λ_ f h=>wpAny_bind (wpAny_mono h (λ_ q h2=>wpAny_bind (wpAny_mono h2 (λok g k=>?_) λ_ _ z=>z)) λ_ _ z=>z)) λ_ _ z=>z);cases ok with
  | false=>exact wpAny_pure ⟨rfl,k⟩
  | true=>
   exact wpAny_bind (wpAny_bind (wpAny_mono k (λx j y=>wpAny_bind (wpAny_mono y (λ_ l t=>wpAny_pure (wpAny_pure ⟨rfl,t⟩)) λ_ _ z=>z)) λ_ _ z=>z))
def znT{Y:Cx}{elt iter:Expr}{tg:Expr}{G:List Expr}{scope:Scope}{pos:Pos}{it D:Addr}{fp:List Addr}{I:Nat->Heap->Prop}{J:It}{g:TG}{tf:TT}{te:TE}{Q:VK}{R:Result->Shared->Prop}
  (T:Turn Y.prog Y.w Y.K tg J fp it I) (hc:Y.calm=true) (gY:PG Y tg g) (hF:PF Y G tf) (hE:PE Y elt te) (fpY:∀{H':Hp},(∀b∈fp,H' b=none)->∀b∈fp,zcU Y [] H' b) (hx:∀e s,¬Y.xe e s)
  {W:Nat->Nat->St->Hp->Prop} (turn:∀i m σ' H',W i m σ' H' ->
   (J.stop i H'/\Q (.ref D) H')\/(J.go i H'/\∃N:St->Hp->Prop,(∀σ2 H2,N σ2 H2->∃M,M<m/\W (i+1) M σ2 H2) /\
    ∀x H2,J.yld i H' x H2->g x σ' H2 λH H3=>tf H H3 λb H4=>if b=true then te H H4 λv k=>zbO (.ref D) [v] k λ_ H6=>N H H6 else N H H4))
  (fin:∀σ' H' s',Inv Y [] σ' H' s'->Q (.ref D) H'->R (.ok .next) s') {m0:Nat} {σ0:St} {H0:Hp} {s0:Shared} (I0:Inv Y [] σ0 H0 s0) (st0:I 0 s0.heap) (fr0:∀b∈fp,H0 b=none) (w0:W 0 m0 σ0 H0) :
  codeAny (model Y.prog Y.w) Y.A (.compLoop (.ListComp elt [⟨tg,iter,G,0⟩] scope pos) 0 (.ref it) (.ref D) Y.env) R s0:=by
 refine zk3 (λn s'=>∃i σ' H',Inv Y [] σ' H' s'/\I i s'.heap/\(∀b∈fp,H' b=none)/\W i n σ' H') ?_ m0 ⟨0,_,_,I0,st0,fr0,w0⟩;rintro n s5 ⟨i,C,k,I5,F,E,w5⟩;have c:∀{α:Type} {t:Sem α} {Q1:α->Shared->Prop} {E2:Value->Shared->Prop} {s1:Shared},wpAny (model Y.prog Y.w) Y.A t Q1 Y.xe s1->wpAny (model Y.prog Y.w) Y.A t Q1 E2 s1:=
  λh=>wpAny_mono h (λ_ _ q=>q) λe s z=>(hx e s z).elim
 rcases turn i n C k w5 with⟨stop,qn⟩ | ⟨go,N,hN,step⟩
 ·refine thn (T.done Y rfl rfl rfl hc i [] s5 C k _ I5 (fpY E) F stop) λr s6 ⟨V,I6⟩=>?_;subst V;exact fin C k s6 I6 qn
 ·refine thn (T.item Y rfl rfl rfl hc i [] s5 C k _ I5 (fpY E) F go) λr s6 ⟨u,V,h6⟩=>?_;subst V;refine thn h6 λ_ s7 j=>?_;obtain⟨x7,H7,I7,r7,y7,f,Z⟩:=j;have a1:=I7.pinned (fpY Z) (T.obj _ _ f);have a:∀{σ9:St} {l:Hp} {p:Shared},Inv Y ([]++zfB fp s7.heap) σ9 l p->N σ9 l->∃m,m<n/\∃i σ' H',Inv Y [] σ' H' p/\I i p.heap/\(∀b∈fp,H' b=none)/\W i m σ' H':=λ{σ9 l p} B n9=>by
   obtain⟨M,hm,w9⟩:=hN σ9 l n9;refine⟨M,hm,i+1,σ9,l,B.unpinned,T.keep _ _ _ f λb L o e=>(B.pin (b,o) (yq _ (yq _ (zdK L e)))).1,λb L=>?_,w9⟩;obtain⟨o,e,d⟩:=T.obj _ _ f b L;exact(B.pin (b,o) (yq _ (yq _ (zdK L e)))).2.1
  refine c (thn (gY _ s7 C H7 x7 u _ a1 r7 (step x7 _ y7)) λ_ s8 j=>?_);obtain⟨σ8,H8,I8,q8⟩:=j;refine c (thn (hF _ s8 _ _ _ I8 q8) λb p ⟨l,B,q9⟩=>?_);cases b with
  | false=>exact a B q9
  | true=>
   refine c (thn (hE _ p _ _ _ B q9) λy a2 j=>?_);obtain⟨U,a4,O,P,a0⟩:=j;refine c (thn (zi9 (X:=Y) _ a2 _ _ (.ref D) [U] (.ref D) [y] _ O rfl (.cons P .nil) a0) λ_ a6 j=>?_);obtain⟨a5,a7,a3,_,S⟩:=j;exact a a3 S
def zaF{scope:Scope}{Ni:List Str}{caps:List (Option Nat)}{x:Str}{d:Pos}{gi:Nat}{cs:List (Str × Addr)}{c:Shared}{b:Hp}{fp:List Addr}{pins:List (Addr × Obj)}
  (S:CompScope X scope Ni caps) (a:scope.names.lookup x=some .local\/scope.names.lookup x=some .cell) (hgi:Ni[gi]?=some x):PG (zbb X scope Ni cs c b fp pins) (.Name x d) (zbW gi):=by
 rcases a with a | a
 ·exact zI S.nd hgi (.inl (lookup_relabel_local a)) (.inr (lookup_relabel_local a))
 ·refine zI S.nd hgi ?_ (.inl (decide_eq_true a))
  have:(relabel scope X.env).names.lookup x=some .cell:=zdt a
  exact .inr this
def zje{elt iter:Expr}{tg:Expr}{F:List Expr}{scope:Scope}{pos pos':Pos}{wi:TI}{Ni:List Str}{caps:List (Option Nat)}{g:TG}{tf:TT}{te:TE}
  (hc:X.calm=true) (hi:PI X tg iter wi) (S:CompScope X scope Ni caps) (hG:CompScope X scope Ni caps->∀cs s₃ H₃ fp pins,PG (zbb X scope Ni cs s₃ H₃ fp pins) tg g)
  (hF:∀cs s₃ H₃ fp pins,PF (zbb X scope Ni cs s₃ H₃ fp pins) F tf) (hE:∀cs s₃ H₃ fp pins,PE (zbb X scope Ni cs s₃ H₃ fp pins) elt te)
  (hs:∀x,foldedSetIterable iter X.env x=pure x)
  {pins:List (Addr × Obj)} {s:Shared} {σ:St} {H:Hp} {Q:VK} (I:Inv X pins σ H s) (h:zeR wi caps g tf te σ H Q) {use:Option (Value->Sem Unit)} {R:Value->Shared->Prop}
  (fin:∀(D C:Addr) (H':Hp) (s':Shared) (m:Str->Option Value),Inv X pins σ H' s'->Q (.ref D) H'->s'.heap.Ns C m->H' C=none->X.s₀.heap.objs.size<=C->C≠X.env.locals->(∀y c,X.env.cells.lookup y=some c->c≠C)->(∀p∈X.pn++pins,p.1≠C) ->
   compPost "0f" X.A X.xe use R (.ref D) C (.ok .next) s') :
  wpAny "0f" X.A (comprehension (.ListComp elt [⟨tg,iter,F,0⟩] scope pos) scope X.env pos' (newList []) false (eval iter X.env) use) R X.xe s:=by
 obtain⟨cl,N,r,E⟩:=ziL (env:=X.env) (scope:=scope) λy hy hf=>I.ok.has y.1 (S.free y hy hf);refine wpAny_comprehension_free rfl hs N S.kind (λy hy hl=>by obtain⟨n,k⟩:=y;cases hl;exact zfI S.ndn hy) (thn (hi pins s σ H _ I h) λv s1 h1=>thn h1 λa2 a h2=>?_);obtain⟨it,fp,tn,J,H2,e,I2,T,q,f2,hW⟩:=h2;subst e;have i:Inv X pins σ (upd H2 a.heap.objs.size (.lst [])) { a with heap:=a.heap.push { cls:=.type "list",dict:=none,data:=.seq ([]:List Value).toArray },toks:=a.toks }:=
  I2.laid (λb u e=>Heap.get?_push_of_some _ e) (yg _) ⟨yW _,[],_,.nil,Heap.get?_push_size _ rfl⟩
 have hD:H2 a.heap.objs.size=none:=I2.hok.fresh (yg _);obtain⟨W,⟨m0,w0⟩,turn⟩:=hW a.heap.objs.size hD;have j:tn 0 (a.heap.push { cls:=.type "list",dict:=none,data:=.seq ([]:List Value).toArray }):=T.keep _ _ _ q λb _ o e=>Heap.get?_push_of_some _ e;have G:∀b∈fp,zcU X pins (upd H2 a.heap.objs.size (.lst [])) b:=λb d=>by
  obtain⟨o,e,_⟩:=T.obj _ _ q b d;exact⟨by rw[zag (yv (Heap.lt_size e))];exact(f2 b d).1,(f2 b d).2⟩
 refine wpAny_newObj_type ?_;generalize hs3:({ a with heap:=a.heap.push { cls:=.type "list",dict:=none,data:=.seq ([]:List Value).toArray },toks:=a.toks }:Shared)=s3 at i;have eh:a.heap.push { cls:=.type "list",dict:=none,data:=.seq ([]:List Value).toArray }=s3.heap:=by rw[<- hs3]
 rw[eh]at j;have t:∀b∈fp,b<s3.heap.objs.size:=λb d=>by
  obtain⟨o,e,_⟩:=T.obj _ _ j b d;exact Heap.lt_size e
 refine zjW λown s4 eo e4 k4 K B a0=>?_;have T4:CompAt X scope own cl s3:=⟨eo,a0,λn c O=>(B n c O).2,r,E⟩
 have V:=znC (Ni:=Ni) (caps:=caps) S T4 i G t e4 k4 K λn c O=>(B n c O).1;have l:tn 0 s4.heap:=T.keep _ _ _ j λb _ o e=>k4 b o e;have U:∀{H':Hp},(∀b∈fp,H' b=none)->∀b∈fp,zcU (zbb X scope Ni (own++cl) s3 (upd H2 a.heap.objs.size (.lst [])) fp pins) [] H' b:=λhn b d=>
  ⟨hn b d,yv (t b d),V.ok.exfs b d,.inl d,(V.ok.exf b d).2,λp hp=>by
   have P:p∈X.pn++pins:=by
    have:p∈(X.pn++pins)++[]:=hp
    simpa using this
   exact(G b d).2.2.2.2.2 p P⟩
 have f:=znT (Q:=Q) (elt:=elt) (iter:=iter) (scope:=scope) (pos:=pos) (R:=compPost "0f" X.A X.xe use R (.ref a.heap.objs.size) s3.heap.objs.size) (Y:=zbb X scope Ni (own++cl) s3 (upd H2 a.heap.objs.size (.lst [])) fp pins)
  T hc (hG S _ _ _ _ _) (hF _ _ _ _ _) (hE _ _ _ _ _) U (λ_ _ z=>z) turn (λσ' H' s' Z qn=>by
   have L:=zqC i G Z;obtain⟨m6,M,_⟩:=Z.loc;exact fin _ _ H' s' m6 L qn M Z.free i.sz (Nat.ne_of_gt i.lt) (λy c a1=>yv (zhs i a1)) λp hp=>yv (Heap.lt_size (i.pin p hp).1)) V l (λb d=>(G b d).1) w0
 exact codeAny_compStart_list f (T.self _ _ _ _ _ l f)
def zgw{elt iter:Expr}{tg:Expr}{a:List Expr}{scope:Scope}{pos:Pos}{wi:TI}{Ni:List Str}{caps:List (Option Nat)}{g:TG}{tf:TT}{te:TE}
  (hc:X.calm=true) (hi:PI X tg iter wi) (S:CompScope X scope Ni caps) (hG:CompScope X scope Ni caps->∀cs s₃ H₃ fp pins,PG (zbb X scope Ni cs s₃ H₃ fp pins) tg g)
  (hF:∀cs s₃ H₃ fp pins,PF (zbb X scope Ni cs s₃ H₃ fp pins) a tf) (hE:∀cs s₃ H₃ fp pins,PE (zbb X scope Ni cs s₃ H₃ fp pins) elt te)
  (hs:autoParam (∀x,foldedSetIterable iter X.env x=pure x) Internal.aut3._auto_1):PE X (.ListComp elt [⟨tg,iter,a,0⟩] scope pos) (zeR wi caps g tf te):=by
 intro pins s σ H Q I h;rw[eval_ListComp];refine zje hc hi S hG hF hE hs I h λD C H' s' m c q ns k j h1 h2 d=>?_;refine⟨m,ns,λh' i=>?_⟩;exact⟨.ref D,H',c.turned (t':=s'.toks) (it:=C) (λb o f e=>(i.2 b f).trans e) k h1 (.inr j) h2 d,rfl,q⟩
def zc6{i:Nat}{y:Str}{f:Pos}{elt iter:Expr}{tg:Expr}{c:List Expr}{scope:Scope}{pos d:Pos}{wi:TI}{Ni:List Str}{caps:List (Option Nat)}{g:TG}{tf:TT}{te:TE}
  (hN:X.N.Nodup) (hyi:X.N[i]?=some y) (hy:X.env.scope.names.lookup y=some .local) (hc:X.calm=true) (hi:PI X tg iter wi) (S:CompScope X scope Ni caps) (hG:CompScope X scope Ni caps->∀cs s₃ H₃ fp pins,PG (zbb X scope Ni cs s₃ H₃ fp pins) tg g)
  (hF:∀cs s₃ H₃ fp pins,PF (zbb X scope Ni cs s₃ H₃ fp pins) c tf) (hE:∀cs s₃ H₃ fp pins,PE (zbb X scope Ni cs s₃ H₃ fp pins) elt te)
  (hsw:autoParam (swapsWith (.ListComp elt [⟨tg,iter,c,0⟩] scope pos) (some (.Name y f)) d.line X.env=pure true) Internal.aut2._auto_1)
  (hs:autoParam (∀x,foldedSetIterable iter X.env x=pure x) Internal.aut3._auto_1):PS X (.Assign [.Name y f] (.ListComp elt [⟨tg,iter,c,0⟩] scope pos) d) (zlv (zeR wi caps g tf te) (zbW i)):=by
 intro pins s σ H D I h;rw[exec_Assign_Name_used _ _ _ _ hsw];refine wpAny_bind (wpAny_standAt (wpAny_bind ?_));show wpAny _ X.A (do let _ <- comprehension (.ListComp elt [⟨tg,iter,c,0⟩] scope pos) scope X.env _ (newList []) false (eval iter X.env) (some (assign (.Name y f) X.env))) _ _ s;refine wpAny_bind (wpAny_mono (zje (R:=λ_ s'=>SP X pins D .next s') hc hi S hG hF hE hs I h λL C H' s' m p q ns G E h1 h2 r=>?_) (λ_ s' n=>wpAny_pure (wpAny_pure n)) λ_ _ e=>e);show wpAny _ X.A (assign (.Name y f) X.env (.ref L)) _ _ _;refine wpAny_assign_Name (zjF (v:=.ref L) p hN hyi (.inl hy) rfl (λB F k=>?_) (.inr hy));obtain⟨a,u,ha⟩:=k;have l:C≠a:=by
  rcases ha with z | z
  ·rw[z];exact h1
  ·exact λw=>h2 y a z w.symm
 refine⟨m,ns.sameBut u l,λh' j=>?_⟩;exact⟨_,H',F.turned (t':=B.toks) (it:=C) (λb o t e=>(j.2 b t).trans e) G h1 (.inr E) h2 r,q⟩
end
end Internal
namespace My
variable {c t:Int}{q:Rat}
noncomputable def gc (a b:Int):Int:=(Int.gcd a b:Int)
def zjb(a b:Int):0<=gc a b:=Int.natCast_nonneg _
def gc_comm(a b:Int):gc a b=gc b a:=by unfold gc;rw[Int.gcd_comm]
def gc_dvd_left(a b:Int):gc a b∣a:=Int.gcd_dvd_left a b
def gc_dvd_right(a b:Int):gc a b∣b:=Int.gcd_dvd_right a b
def zlk{k a b:Int}(h1:k∣a)(h2:k∣b):k∣gc a b:=Int.dvd_coe_gcd h1 h2
def gc_pos_right{a b:Int}(h:b≠0):0<gc a b:=by
 have:=Int.gcd_pos_of_ne_zero_right a h
 unfold gc;lia
def zlS{a b:Int}(h:a≠0):0<gc a b:=by rw[gc_comm];exact gc_pos_right h
def gc_zero_right{a:Int}(h:0<=a):gc a 0=a:=by unfold gc;rw[Int.gcd_zero_right];lia
def gc_abs(a b:Int):gc (if a<0 then -a else a) (if b<0 then -b else b)=gc a b:=by
 unfold gc;split<;>split<;>simp[Int.gcd]
def gc_step{a b:Int}:gc b (a%b)=gc a b:=by
 rw[gc_comm a b];refine Int.dvd_antisymm (zjb _ _) (zjb _ _) ?_ ?_
 ·refine zlk (gc_dvd_left b (a%b)) ?_;have e:a=b*(a/b)+a%b:=(ya9 a b).symm
  have:=Int.dvd_add (Int.dvd_mul_of_dvd_left (c:=a/b) (gc_dvd_left b (a%b))) (gc_dvd_right b (a%b))
  rwa [<- e]at this
 ·refine zlk (gc_dvd_left b a) ?_;rw[Int.emod_def];exact Int.dvd_sub (gc_dvd_right b a) (Int.dvd_mul_of_dvd_left (gc_dvd_left b a))
def ztB{a b:Int}(h:∀c,c∣a->c∣b->c∣1):gc a b=1:=by
 unfold gc;rw[Int.gcd_eq_one_iff.mpr h];rfl
def zsq{a b:Int}(h:gc a b=1)(h1:c∣a)(h2:c∣b):c∣1:=h▸zlk h1 h2
def zeU{a b:Int}(h:gc a b=1):a.gcd b=1:=by unfold gc at h;lia
def zjj{a b:Int}(h:a.gcd b=1):gc a b=1:=by unfold gc;lia
def low_unique{x y:Int}(a:0<y)(c:gc x y=1)(e:Rat.divInt x y=q):x=q.num/\y="0l":=by
 obtain⟨d,rfl⟩:=Int.eq_ofNat_of_zero_le (yaT a);have b:x.natAbs.Coprime d:=by
  have:=zeU c
  rw[ybG]at this;exact this
 have hd:d≠0:=by lia
 have:Rat.mk' x d hd b=q:=by rw[Rat.mk_eq_divInt];exact e
 subst this;exact⟨rfl,rfl⟩
def rat_low(q:Rat):gc q.num "0l"=1:=by
 refine zjj ?_;rw[ybG];exact q.reduced
def rat_den_pos(q:Rat):0<"0l":=by have:=q.den_nz;lia
def rat_self(q:Rat):Rat.divInt q.num "0l"=q:=ybk q
def zf0{a b:Int}(h:b≠0):gc (a/gc a b) (b/gc a b)=1:=by
 have hp:=gc_pos_right (a:=a) h;unfold gc
 have:=Int.gcd_ediv (a:=a) (b:=b) (c:=(a.gcd b:Int)) (gc_dvd_left a b) (gc_dvd_right a b)
 rw[this];have d:0<a.gcd b:=by unfold gc at hp;lia
 rw[y9,Nat.div_self d];rfl
def zj6{a b:Int}(e:b≠0)(ha:c∣a)(f:c∣b):Rat.divInt (a/c) (b/c)=Rat.divInt a b:=by
 obtain⟨x,rfl⟩:=ha;obtain⟨y,rfl⟩:=f;have d:c≠0:=by rintro rfl;simp at e
 rw[yaa _ d,yaa _ d,ybD d]
def part_pos{b:Int}(c:0<b):t/gc t b=(Rat.divInt t b).num/\b/gc t b=((Rat.divInt t b).den:Int):=by
 have hp:=gc_pos_right (a:=t) (b:=b) ⋯;refine low_unique ?_ (zf0 ⋯) (zj6 ⋯ (gc_dvd_left _ _) (gc_dvd_right _ _));exact ybc c ⋯ (gc_dvd_right _ _)
def part_neg{b:Int}(d:b<0):t.fdiv (-gc t b)=(Rat.divInt t b).num/\b.fdiv (-gc t b)=((Rat.divInt t b).den:Int):=by
 have a:-gc t b∣t:=Int.neg_dvd.mpr (gc_dvd_left _ _);have c:-gc t b∣b:=Int.neg_dvd.mpr (gc_dvd_right _ _);rw[Int.fdiv_eq_ediv_of_dvd a,Int.fdiv_eq_ediv_of_dvd c];have e:=part_pos (t:=-t) (b:=-b) ⋯;have g:gc (-t) (-b)=gc t b:=by unfold gc;simp[Int.gcd]
 rw[g,ybK]at e;rw[Int.ediv_neg,Int.ediv_neg];rw[Int.neg_ediv_of_dvd (gc_dvd_left _ _),Int.neg_ediv_of_dvd (gc_dvd_right _ _)]at e;exact e
def zdk{a b m:Int}(h1:gc a m=1)(h2:gc b m=1):gc (a*b) m=1:=by
 refine zjj ?_;rw[Int.gcd_mul_right_left_of_gcd_eq_one (zeU h1)];exact zeU h2
def zcZ{a b m:Int}(h1:gc m a=1)(h2:gc m b=1):gc m (a*b)=1:=by
 rw[gc_comm]at *;exact zdk h1 h2
def zcK{a b m:Int}(h:gc b m=1)(d:a∣b):gc a m=1:=
 ztB λ_ h1 h2=>zsq h (Int.dvd_trans h1 d) h2
def zbZ{a b m:Int}(h:gc m b=1)(d:a∣b):gc m a=1:=by
 rw[gc_comm]at *;exact zcK h d
def zhK(m n k:Int):gc (n+k*m) m=gc n m:=by
 rw[gc_comm,gc_comm n m];unfold gc;rw[Int.gcd_add_mul_right_right]
def plus_low{a1 b1 a2 b2:Int}(h1:0<b1)(h2:0<b2)(F:gc a1 b1=1)(I:gc a2 b2=1) :
  let s:=gc b1 b2
  let t:=a1*(b2/s)+a2*(b1/s)
  let c:=gc t s
  0<(b1/s)*(b2/c)/\gc (t/c) ((b1/s)*(b2/c))=1/\Rat.divInt (t/c) ((b1/s)*(b2/c))=Rat.divInt a1 b1+Rat.divInt a2 b2:=by
 intro s t c;have r:0<s:=zlS ⋯;obtain⟨u,E⟩:=gc_dvd_left b1 b2;obtain⟨v,B⟩:=gc_dvd_right b1 b2;have y:b1/s=u:=by rw[show b1=s*u from E];exact yaa _ ⋯
 have A:b2/s=v:=by rw[show b2=s*v from B];exact yaa _ ⋯
 have i:b1=s*u:=E;have e:b2=s*v:=B;have m:gc u v=1:=by
  have:=zf0 (a:=b1) (b:=b2) ⋯
  change gc (b1/s) (b2/s)=1 at this
  rwa [y,A]at this
 have j:0<u:=by
  rcases ybl 0 u with h | h
  ·exact h
  ·have:=yal (yaT r) h;lia
 have l:0<v:=by
  rcases ybl 0 v with h | h
  ·exact h
  ·have:=yal (yaT r) h;lia
 have q:t=a1*v+a2*u:=by show a1*(b2/s)+a2*(b1/s)=_;rw[y,A]
 have C:0<c:=gc_pos_right ⋯;obtain⟨x,L⟩:=gc_dvd_left t s;obtain⟨w,J⟩:=gc_dvd_right t s;have g:t=c*x:=L;have f:s=c*w:=J;have ex:t/c=x:=by rw[g];exact yaa _ ⋯
 have k:0<w:=by
  rcases ybl 0 w with h | h
  ·exact h
  ·have:=yal (yaT C) h;lia
 have G:b2/c=w*v:=by rw[e,f,ybd];exact yaa _ ⋯
 have z:gc x w=1:=by
  have:=zf0 (a:=t) (b:=s) ⋯
  change gc (t/c) (s/c)=1 at this;rw[ex,show s/c=w by rw[f];exact yaa _ ⋯]at this;exact this
 have D:x∣t:=⟨c,by rw[g,yan]⟩
 have p:gc t u=1:=by
  rw[q,zhK];exact zdk (zbZ F ⟨s,by rw[i,yan]⟩) (by rw[gc_comm];exact m)
 have o:gc t v=1:=by
  rw[q,Int.add_comm,zhK];exact zdk (zbZ I ⟨s,by rw[e,yan]⟩) m
 rw[ex,y,G];refine⟨yaR j (yaR k l),?_,?_⟩
 ·exact zcZ (zcK p D) (zcZ z (zcK o D))
 ·rw[Rat.divInt_add_divInt _ _ ⋯ ⋯];have H:s*c≠0:=yax (yaR r C);rw[<- ybD (n:=x) (d:=u*(w*v)) H];have M:s*c*x=a1*b2+a2*b1:=by
   have:s*c*x=s*(c*x):=by rw[ybd]
   rw[this,<- g,q,i,e,ybe];rw[ya6 s a1 v,ya6 s a2 u]
  have K:s*c*(u*(w*v))=b1*b2:=by
   have:b1*b2=s*u*(c*w*v):=by rw[i,e,<- f]
   rw[this];simp only[ybd,ya6,yan]
  rw[M,K]
def times_low{a1 b1 a2 b2:Int}(h1:0<b1)(h2:0<b2)(h:gc a1 b1=1)(l:gc a2 b2=1) :
  let d:=gc a1 b2
  let x:=gc a2 b1
  0<(b1/x)*(b2/d)/\gc ((a1/d)*(a2/x)) ((b1/x)*(b2/d))=1/\Rat.divInt ((a1/d)*(a2/x)) ((b1/x)*(b2/d))=Rat.divInt a1 b1*Rat.divInt a2 b2:=by
 intro d x;have hd:0<d:=gc_pos_right ⋯;have r:0<x:=gc_pos_right ⋯;have k1:gc (a1/d) (b2/d)=1:=zf0 ⋯;have k2:gc (a2/x) (b1/x)=1:=zf0 ⋯;have c:d∣a1:=gc_dvd_left _ _;have b:d∣b2:=gc_dvd_right _ _;have e:x∣a2:=gc_dvd_left _ _;have a:x∣b1:=gc_dvd_right _ _;have j:a1/d∣a1:=⟨d,(yau c).symm⟩
 have i:b1/x∣b1:=⟨x,(yau a).symm⟩
 have o:a2/x∣a2:=⟨x,(yau e).symm⟩
 have q:b2/d∣b2:=⟨d,(yau b).symm⟩
 have p:0<b1/x:=ybc h1 ⋯ a;have p2:0<b2/d:=ybc h2 ⋯ b;refine⟨yaR p p2,?_,?_⟩
 ·refine zdk (zcZ ?_ k1) (zcZ k2 ?_)
  ·exact zbZ (zcK h j) i
  ·exact zbZ (zcK l o) q
 ·rw[Rat.divInt_mul_divInt];have k:d*x≠0:=yax (yaR hd r);rw[<- ybD (n:=(a1/d)*(a2/x)) (d:=(b1/x)*(b2/d)) k];have s:d*x*((a1/d)*(a2/x))=a1*a2:=by
   have g:=yau c;have f:=yau e;generalize a1/d=z1 at *
   generalize a2/x=z2 at *
   rw[<- g,<- f];simp only[ybd,ya6,yan]
  have m:d*x*((b1/x)*(b2/d))=b1*b2:=by
   have g:=yau a;have f:=yau b;generalize b1/x=z1 at *
   generalize b2/d=z2 at *
   rw[<- g,<- f];simp only[ybd,ya6,yan]
  rw[s,m]
end My
namespace Internal
variable {A:Around}{C a b er l p:Addr}{E:XK}{H H':Hp}{J:It}{K:Fg}{M:Model}{N ps:List Str}{P:Program}{Q:VK}{X:Cx}{c lo t:Int}{caps:List (Option Nat)}{e:Expr}{f:Nat->Int}{fd:FuncData}{fp:List Addr}{g:TG}{h:Heap}{i j k m n t':Nat}{its:List Value}{ns:List Int}{o:HO}{pins:List (Addr × Obj)}{q:Rat}{qual x:Str}{rest σ:St}{s:Shared}{sp:Sp}{st:Stmt}{tf:TT}{tr:TA}{u:Value}{v y:V}{vs xs:List V}{w:World}{wi:TI}
open PySem PySem.Spec PyProof.Rows
def zuu{b:Bool}{A B:Prop}(h1:b=true->A)(h2:b=false->B):if b=true then A else B:=by
 cases b with
 | true=>rw[if_pos rfl];exact h1 rfl
 | false=>rw[if_neg yr];exact h2 rfl
def ztV{p:Prop}[Decidable p]{A B:Prop}(h1:p->A)(h2:¬p->B):if p then A else B:=by
 by_cases h:p
 ·rw[if_pos h];exact h1 h
 ·rw[if_neg h];exact h2 h
section
variable {K:Fg}{H:Hp}{Q:VK}
def zui{i:Int}(q:Q (.bl true) H):zfg K [.int i,.ty "int"] H Q:=zkb (t':=.type "int") (cv:=.type "int") (b:=true) rfl (.int i) (by with_unfolding_all rfl) q
def zuD{i:Int}(q:Q (.bl false) H):zfg K [.int i,.ty "bool"] H Q:=zkb (t':=.type "int") (cv:=.type "bool") (b:=false) rfl (.int i) (by with_unfolding_all rfl) q
def zof(h:H a=some (.tup xs))(q:Q (.bl true) H):zfg K [.ref a,.ty "tuple"] H Q:=zkb (t':=.type "tuple") (cv:=.type "tuple") (b:=true) rfl (.tup h) (by with_unfolding_all rfl) q
def zt5(h:H a=some (.lst xs))(q:Q (.bl true) H):zfg K [.ref a,.ty "list"] H Q:=zkb (t':=.type "list") (cv:=.type "list") (b:=true) rfl (.lst h) (by with_unfolding_all rfl) q
def zsQ(h:H a=some (.tup xs))(q:Q (.int xs.length) H):ziA K [.ref a] H Q:=ztW (.of h) q
end
noncomputable def zrC:Sp:=λvs H Q _=>∃a b:Int,vs=[.int a,.int b]/\Q (.int (My.gc a b)) H
def zsJ{a b:Int}(q:Q (.int (My.gc a b)) H):zrC [.int a,.int b] H Q E:=⟨a,b,rfl,q⟩
def zos(a:Int):0<=if a<0 then -a else a:=by split<;>lia
def zb4{a b:Int}(h:b≠0)(g:sz b<=n):sz (My.gc a b)<=n:=by
 refine yj (zgA ?_) g;have h1:=My.gc_pos_right (a:=a) h;obtain⟨c,d⟩:=My.gc_dvd_right a b;have f:c≠0:=by rintro rfl;rw[Int.mul_zero]at d;exact h d
 have e:b.natAbs=(My.gc a b).natAbs*c.natAbs:=by rw[<- ybF,<- d]
 rw[e];exact Nat.le_mul_of_pos_right _ ⋯
noncomputable def cell (ns:List Int) (k:Int):Int:=ns.getD k.toNat 0
noncomputable def IsQ (H:Hp) (a:Addr) (q:Rat):Prop:=H a=some (.tup [.int q.num,.int "0l"])
def IsQ.sq(h:IsQ H a q):SqT K H a [.int q.num,.int "0l"]:=SqT.of h
noncomputable def dQ (q:Rat):PyData:=.tuple [.int q.num,.int "0l"]
def IsQ.isT(h:IsQ H a q)(k:Q (.bl true) H):zfg K [.ref a,.ty "tuple"] H Q:=zof h k
def IsQ.rep(h:IsQ H a q):RepD K H (.ref a) (dQ q):=.tup h.sq (.cons (.int _) (.cons (.int _) .nil))
def IsQ.same(h:IsQ H a q)(e:Same H H'):IsQ H' a q:=e _ _ h
def zay(q:Rat):0<"0l":=My.rat_den_pos q
def zs9{r:Rat}(h1:q.num=r.num)(h2:"0l"=(r.den:Int)):q=r:=by
 rw[<- My.rat_self q,<- My.rat_self r,h1,h2]
def zve(q r:Rat):PyData.eqv (dQ q) (dQ r)=decide (q=r):=by
 have e:PyData.eqv (dQ q) (dQ r)=((q.num == r.num)&&("0l" == (r.den:Int))):=by simp[dQ,PyData.eqv,PyData.eqvAll]
 rw[e];by_cases h:q=r
 ·subst h;simp
 ·rw[decide_eq_false h];cases h1:(q.num == r.num) with
  | false=>rfl
  | true=>
   cases h2:("0l" == (r.den:Int)) with
   | false=>rfl
   | true=>exact absurd (zs9 (eq_of_beq h1) (eq_of_beq h2)) h
noncomputable def NewQ (H:Hp) (Q:VK) (q:Rat):Prop:=∀p H',Same H H'->IsQ H' p q->Q (.ref p) H'
def NewQ.mk{x y:Int}(k:NewQ H Q q)(e:x=q.num/\y="0l"):zfM Q [.int x,.int y] H:=by
 refine⟨by show 2<=sizeLine;decide,λp hp=>k p _ (Same.new hp _) ?_⟩;rw[e.1,e.2];exact zam
noncomputable def SzQ (q:Rat) (n m:Nat):Prop:=sz q.num<=n/\sz "0l"<=m
def SzQ.mono{b a:Nat}(h:SzQ q n m)(h1:n<=b)(h2:m<=a):SzQ q b a:=⟨yj h.1 h1,yj h.2 h2⟩
def zgq{b:Int}(a:0<b)(h1:sz t<=n)(h2:sz b<=m):SzQ (Rat.divInt t b) n m:=by
 have e:=My.part_pos (t:=t) a;unfold SzQ;rw[<- e.1,<- e.2];exact⟨yj (zb1 _ _) h1,yj (zb1 _ _) h2⟩
def zkj{b:Int}(a:b≠0)(h1:sz t<=n)(h2:sz b<=m):SzQ (Rat.divInt t b) n m:=by
 rcases ybl 0 b with h | h
 ·exact zgq h h1 h2
 ·rw[<- ybK];exact zgq ⋯ (yj (zf1 _) h1) (yj (zf1 _) h2)
noncomputable def zlI:Sp:=λvs H Q _=>∃t b:Int,vs=[.int t,.int b]/\b≠0/\sz b<=8999/\NewQ H Q (Rat.divInt t b)
def zqs{b:Int}(a:b≠0)(c:sz b<=8999)(q:NewQ H Q (Rat.divInt t b)):zlI [.int t,.int b] H Q E:=⟨t,b,rfl,a,c,q⟩
noncomputable def zi3 (n:Nat):Sp:=λvs H Q _=>∃(a b:Addr) (q r:Rat),vs=[.ref a,.ref b]/\IsQ H a q/\IsQ H b r/\SzQ q n n/\SzQ r n n/\Q (.bl (decide (q<r))) H
def zjq:=λ{n:Nat} {a b:Addr} {q r:Rat} {H:Hp} {Q:VK} {E:XK} h1 h2 s1 s2 k=>@id (zi3 n [.ref a,.ref b] H Q E) ⟨a,b,q,r,rfl,h1,h2,s1,s2,k⟩
noncomputable def zgm (n:Nat):Sp:=λvs H Q _=>∃(a b:Addr) (q r:Rat),vs=[.ref a,.ref b]/\IsQ H a q/\IsQ H b r/\SzQ q n n/\SzQ r n n/\(if r<q then Q (.ref b) H else Q (.ref a) H)
def zjA:=λ{n:Nat} {a b:Addr} {q r:Rat} {H:Hp} {Q:VK} {E:XK} h1 h2 s1 s2 k=>@id (zgm n [.ref a,.ref b] H Q E) ⟨a,b,q,r,rfl,h1,h2,s1,s2,k⟩
noncomputable def OkQ (q:Rat):Prop:=SzQ q 1000000 8999
def SzQ.ok(h:SzQ q n m)(h1:n<=1000000)(h2:m<=8999):OkQ q:=h.mono h1 h2
def znI(q r:Rat):(q.num*((r.den:Int)/My.gc q.den r.den)+r.num*("0l"/My.gc q.den r.den))/My.gc (q.num*((r.den:Int)/My.gc q.den r.den)+r.num*("0l"/My.gc q.den r.den)) (My.gc q.den r.den)=(q+r).num /\
  ("0l"/My.gc q.den r.den)*((r.den:Int)/My.gc (q.num*((r.den:Int)/My.gc q.den r.den)+r.num*("0l"/My.gc q.den r.den)) (My.gc q.den r.den))=((q+r).den:Int):=by
 have h:=My.plus_low (a1:=q.num) (b1:=q.den) (a2:=r.num) (b2:=r.den) (zay q) (zay r) (My.rat_low q) (My.rat_low r);refine My.low_unique h.1 h.2.1 ?_;have e:=h.2.2;rw[My.rat_self,My.rat_self]at e;exact e
def zl0(q r:Rat):(q.num/My.gc q.num r.den)*(r.num/My.gc r.num q.den)=(q*r).num/\("0l"/My.gc r.num q.den)*((r.den:Int)/My.gc q.num r.den)=((q*r).den:Int):=by
 have h:=My.times_low (a1:=q.num) (b1:=q.den) (a2:=r.num) (b2:=r.den) (zay q) (zay r) (My.rat_low q) (My.rat_low r);refine My.low_unique h.1 h.2.1 ?_;have e:=h.2.2;rw[My.rat_self,My.rat_self]at e;exact e
def zs2(q r:Rat):q+r=Rat.divInt (q.num*r.den+r.num*q.den) ("0l"*r.den):=by
 have h:=Rat.divInt_add_divInt q.num r.num (d₁:=q.den) (d₂:=r.den) (yax (zay q)) (yax (zay r));rw[My.rat_self,My.rat_self]at h;exact h
def zsR(q r:Rat):q*r=Rat.divInt (q.num*r.num) ("0l"*r.den):=by
 have h:=Rat.divInt_mul_divInt q.num r.num (d₁:=q.den) (d₂:=r.den);rw[My.rat_self,My.rat_self]at h;exact h
def SzQ.add{r:Rat}{c a l:Nat}(h:SzQ q n m)(h':SzQ r c a)(d:n+a<=k)(b:c+m<=k)(hl:m+a<=l):SzQ (q+r) (k+1) l:=by
 rw[zs2];exact zgq (yaR (zay q) (zay r)) (zph (yj (zcq h.1 h'.2) d) (yj (zcq h'.1 h.2) b)) (yj (zcq h.2 h'.2) hl)
def SzQ.mul{r:Rat}{b a l:Nat}(h:SzQ q n m)(h':SzQ r b a)(c:n+b<=k)(hl:m+a<=l):SzQ (q*r) k l:=by
 rw[zsR];exact zgq (yaR (zay q) (zay r)) (yj (zcq h.1 h'.1) c) (yj (zcq h.2 h'.2) hl)
def SzQ.neg(h:SzQ q n m):SzQ (-q) n m:=⟨by rw[Rat.neg_num];exact yj (zf1 _) h.1,by rw[Rat.neg_den];exact h.2⟩
def zqq(a:1<=m):SzQ 0 n m:=⟨yj (zaH (n:=0) "0a") (yW _),yj (zaH (n:=1) "0a") a⟩
noncomputable def zkU:Sp:=λvs H Q _=>∃(a b:Addr) (q r:Rat),vs=[.ref a,.ref b]/\IsQ H a q/\IsQ H b r/\OkQ q/\OkQ r/\NewQ H Q (q+r)
def zp3:=λ{a b:Addr} {q r:Rat} {H:Hp} {Q:VK} {E:XK} h1 h2 s1 s2 k=>@id (zkU [.ref a,.ref b] H Q E) ⟨a,b,q,r,rfl,h1,h2,s1,s2,k⟩
noncomputable def ziZ:Sp:=λvs H Q _=>∃(a b:Addr) (q r:Rat),vs=[.ref a,.ref b]/\IsQ H a q/\IsQ H b r/\OkQ q/\OkQ r/\NewQ H Q (q-r)
def zoK:=λ{a b:Addr} {q r:Rat} {H:Hp} {Q:VK} {E:XK} h1 h2 s1 s2 k=>@id (ziZ [.ref a,.ref b] H Q E) ⟨a,b,q,r,rfl,h1,h2,s1,s2,k⟩
noncomputable def ziC:Sp:=λvs H Q _=>∃(a b:Addr) (q r:Rat),vs=[.ref a,.ref b]/\IsQ H a q/\IsQ H b r/\OkQ q/\OkQ r/\NewQ H Q (q*r)
def zn2:=λ{a b:Addr} {q r:Rat} {H:Hp} {Q:VK} {E:XK} h1 h2 s1 s2 k=>@id (ziC [.ref a,.ref b] H Q E) ⟨a,b,q,r,rfl,h1,h2,s1,s2,k⟩
def zl6(r:Rat):-r.num=(-r).num/\(r.den:Int)=((-r).den:Int):=⟨by rw[Rat.neg_num],by rw[Rat.neg_den]⟩
def inv_pos{r:Rat}(h:0<r.num):(r.den:Int)=(r⁻¹).num/\r.num=((r⁻¹).den:Int):=
 My.low_unique h (by rw[My.gc_comm];exact My.rat_low r) (Rat.inv_def r).symm
def zsd{r:Rat}(h:r.num<0):-(r.den:Int)=(r⁻¹).num/\-r.num=((r⁻¹).den:Int):=
 My.low_unique ⋯ (by
  have g:=My.rat_low r;have e:My.gc (-(r.den:Int)) (-r.num)=My.gc r.num r.den:=by
   rw[My.gc_comm];unfold My.gc;simp[Int.gcd]
  rw[e];exact g) (by rw[ybK];exact(Rat.inv_def r).symm)
def SzQ.inv{r:Rat}(a:r.num≠0)(h:SzQ r n m):SzQ r⁻¹ m n:=by
 rw[Rat.inv_def];exact zkj a h.2 h.1
noncomputable def IsQs (H:Hp):List V->List Rat->Prop
 | [],[]=>True
 | v :: vs,q :: qs=>(∃a,v=.ref a/\IsQ H a q)/\IsQs H vs qs
 | _,_=>False
theorem IsQs.same{H H':Hp}(e:Same H H'):∀{vs:List V} {qs:List Rat},IsQs H vs qs->IsQs H' vs qs
 | [],[],_=>trivial
 | _ :: _,_ :: _,⟨⟨a,e1,h⟩,r⟩=>⟨⟨a,e1,h.same e⟩,r.same e⟩
theorem IsQs.length{H:Hp}:∀{vs:List V} {qs:List Rat},IsQs H vs qs->vs.length=qs.length
 | [],[],_=>rfl
 | _ :: _,_ :: _,⟨_,r⟩=>by rw[yay,yay,r.length]
theorem IsQs.app{H:Hp}{a:Addr}{q:Rat}(h:IsQ H a q):∀{vs:List V} {qs:List Rat},IsQs H vs qs->IsQs H (vs++[.ref a]) (qs++[q])
 | [],[],_=>⟨⟨a,rfl,h⟩,trivial⟩
 | _ :: _,_ :: _,⟨x,r⟩=>⟨x,IsQs.app h r⟩
theorem IsQs.get{H:Hp}:∀{vs:List V} {qs:List Rat} {i:Nat} {v:V},IsQs H vs qs->vs[i]?=some v->∃a q,v=.ref a/\qs[i]?=some q/\IsQ H a q
 | _ :: _,_ :: _,0,_,⟨⟨a,e,h⟩,_⟩,rfl=>⟨a,_,e,rfl,h⟩
 | _ :: _,_ :: _,i+1,_,⟨_,r⟩,e=>r.get (i:=i) (by simpa using e)
 | [],[],_,_,_,e=>by simp at e
noncomputable def zbB (qs:List Rat):Rat:=qs.foldl (·+·) 0
def zdu(qs:List Rat)(q:Rat):zbB (qs++[q])=zbB qs+q:=by unfold zbB;rw[yat];rfl
def szL{i:Int}(a:200<=n)(h1:-1606938044258990275541962092341162602522202993782792835301376<i)(h2:i<1606938044258990275541962092341162602522202993782792835301376):sz i<=n:=yj (sz200 h1 h2) a
noncomputable def ziS (K:Fg):Sp:=λvs H Q _=>∃(a:Addr) (xs:List V) (qs:List Rat),vs=[.ref a]/\SqL K H a xs/\IsQs H xs qs/\(∀q∈qs,OkQ q)/\(∀i,OkQ (zbB (qs.take i)))/\NewQ H Q (zbB qs)
def zo7:=λ{K:Fg} {a:Addr} {xs:List V} {qs:List Rat} {H:Hp} {Q:VK} {E:XK} h hq h1 h2 k=>@id (ziS K [.ref a] H Q E) ⟨a,xs,qs,rfl,h,hq,h1,h2,k⟩
section
variable {σ:St}{H:Hp}{Q:VK}{D:Ends}{ta tb tc te to:TE}{t u:TS}{K:Fg}
noncomputable def zny (J:It) (g:TG) (tb:TS):TS:=λD σ H=>∃W:Nat->Nat->St->Hp->Prop,(∃m,W 0 m σ H)/\∀i m σ H,W i m σ H ->
 (J.stop i H/\D.nx σ H)\/(J.go i H/\∃N:St->Hp->Prop,(∀σ' H',N σ' H'->∃m',m'<m/\W (i+1) m' σ' H')/\∀x H',J.yld i H x H'->g x σ H' λa H2=>tb { D with nx:=N,ct:=N,bk:=D.nx } a H2)
def zuJ{tb:TS}(q:wi σ H λJ H1=>zny J g tb D σ H1):ztR wi g tb D σ H:=q
noncomputable def zmW (R:It->Hp->Prop) (vs:List V) (H:Hp):Prop:=∃j:Int,vs=[.int j]/\-(2 ^ 62)<=j/\j<2 ^ 62/\R (Itr 0 j.toNat) H
noncomputable def znq (R:It->Hp->Prop) (vs:List V) (H:Hp):Prop:=∃i j:Int,vs=[.int i,.int j]/\(-(2 ^ 62)<=i/\i<2 ^ 62/\-(2 ^ 62)<=j/\j<2 ^ 62)/\R (Itr i (j-i).toNat) H
noncomputable def zq1 (K:Fg) (R:It->Hp->Prop) (x:V) (H:Hp):Prop:=∃a,x=.ref a/\(∃xs,SqL K H a xs)/\R (Itl K a) H
def zuw{R:It->Hp->Prop}(q:tr σ H (zmW R)):zrG tr σ H R:=q
def ztr{R:It->Hp->Prop}(q:tr σ H (znq R)):zrm tr σ H R:=q
def zu0{R:It->Hp->Prop}(q:te σ H (zq1 K R)):zno K te σ H R:=q
def zsW{R:It->Hp->Prop}{j:Int}(h1:-4611686018427387904<=j)(h2:j<4611686018427387904)(q:R (Itr 0 j.toNat) H):zmW R [.int j] H:=⟨j,rfl,h1,h2,q⟩
def zsH{R:It->Hp->Prop}{i j:Int}(b:-4611686018427387904<=i)(a:i<4611686018427387904)(h1:-4611686018427387904<=j)(h2:j<4611686018427387904)(q:R (Itr i (j-i).toNat) H):znq R [.int i,.int j] H:=⟨i,j,rfl,⟨b,a,h1,h2⟩,q⟩
def zrx{R:It->Hp->Prop}(h:SqL K H a xs)(q:R (Itl K a) H):zq1 K R (.ref a) H:=⟨a,rfl,⟨xs,h⟩,q⟩
def zgz{R:St->Hp->Prop}(q:R (σ.set i (some v)) H):zbW i v σ H R:=q
def zcd{lo:Int}{n:Nat}{g:TG}{tb:TS}(a:Nat->St->Hp->Prop)(c:a 0 σ H)
  (hs:∀i σ H,i<n->a i σ H->g (.int (lo+i)) σ H λb H2=>tb { D with nx:=a (i+1),ct:=a (i+1),bk:=D.nx } b H2) (hd:∀σ H,a n σ H->D.nx σ H):zny (Itr lo n) g tb D σ H:=zpe a c hs hd
def zbR{g:TG}{tb:TS}(b:Nat->St->Hp->Prop)(d:b 0 σ H)(hl:∀i σ H,i<=xs.length->b i σ H->SqL K H a xs)
  (hs:∀i x σ H,xs[i]?=some x->b i σ H->g x σ H λc H2=>tb { D with nx:=b (i+1),ct:=b (i+1),bk:=D.nx } c H2) (hd:∀σ H,b xs.length σ H->D.nx σ H):zny (Itl K a) g tb D σ H:=zqM b d hl hs hd
def zvg{T:String}{r:V->List V->Hp->VK->Prop}(q:to σ H λx H1=>tyV K T x H1/\tr σ H1 λxs H2=>r x xs H2 Q):tBM K T r to tr σ H Q:=q
def zuQ{A:Prop}(h:H l=some (.lst xs))(q:A):tyV K "list" (.ref l) H/\A:=⟨.inl ⟨rfl,xs,SqL.of h⟩,q⟩
def zre(h:H l=some (.lst xs))(hl:xs.length<sizeLine)(q:Q .non (upd H l (.lst (xs++[y])))):zbO (.ref l) [y] H Q:=⟨l,xs,y,rfl,rfl,h,hl,q⟩
def zuc{k:Int}{R:Hp->Prop}(h:H l=some (.lst xs))(e:ixN xs.length k=some j)(q:R (upd H l (.lst (xs.set j v)))):zh8 (.ref l) (.int k) v H R:=⟨l,xs,k,j,rfl,rfl,h,e,q⟩
def zqD(h:SqL K H a xs)(q:∀l,H l=none->Q (.ref l) (upd H l (.lst xs))):zdO K [.ref a] H Q:=⟨a,xs,rfl,.inl h,q⟩
def zhB{i:Int}(h:H a=some (.lst xs))(e:atI xs i=some v)(q:Q v H):rIx K (.ref a) (.int i) H Q:=zke (.of h) e q
noncomputable def zry (R:Option Int->Hp->Prop) (x:V) (H:Hp):Prop:=∃i,x=.int i/\R (some i) H
def zud{R:Option Int->Hp->Prop}(q:te σ H (zry R)):zrD te σ H R:=q
def zrR{R:Option Int->Hp->Prop}{i:Int}(q:R (some i) H):zry R (.int i) H:=⟨i,rfl,q⟩
def zvd{lo hi:Option Int}(h:SqL K H a xs)(q:∀p,H p=none->Q (.ref p) (upd H p (.lst (zc9 xs lo hi)))):zfH K (.ref a) lo hi H Q:=⟨a,xs,rfl,h,q⟩
end
def Same.fresh(g:Same H H')(h:H' l=none):H l=none:=by
 cases e:H l with
 | none=>rfl
 | some o=>rw[g l o e]at h;cases h
def zkT(h:n<=100000):n<sizeLine:=yae h "0a"
def zcx(h:n<=100000):n<=sizeLine:=yaS (zkT h)
noncomputable def But (l:Addr) (H H':Hp):Prop:=∀b,b≠l->H' b=H b
theorem But.upd{H:Hp}{l:Addr}{o:HO}:But l H (Internal.upd H l o):=λ_ h=>zag h
def But.at(g:But l H H')(h:H a=some o)(n:a≠l):H' a=some o:=by rw[g a n];exact h
def But.same{a:Hp}(g:But l H H')(e:Same a H)(h:a l=none):Same a H':=λb o q=>by rw[g b (zQ q h)];exact e b o q
noncomputable def LBut (l:Addr) (H H':Hp):Prop:=But l H H'/\∃xs,H l=some (.lst xs)
theorem LBut.tup{l:Addr}{H H':Hp}(g:LBut l H H'){a:Addr}{xs:List V}(h:H a=some (.tup xs)):H' a=some (.tup xs):=by
 obtain⟨ys,e⟩:=g.2;exact g.1.at h (zu8 h e (by intro z;cases z))
def LBut.isQ(g:LBut l H H')(h:IsQ H a q):IsQ H' a q:=g.tup h
theorem LBut.isQs{l:Addr}{H H':Hp}(g:LBut l H H'):∀{vs:List V} {qs:List Rat},IsQs H vs qs->IsQs H' vs qs
 | [],[],_=>trivial
 | _ :: _,_ :: _,⟨⟨a,e,h⟩,r⟩=>⟨⟨a,e,g.isQ h⟩,g.isQs r⟩
def LBut.lst{l:Addr}{H H':Hp}(g:LBut l H H'){a:Addr}{o:HO}(h:H a=some o)(n:a≠l):H' a=some o:=g.1.at h n
theorem LBut.same{l:Addr}{a H H':Hp}(g:LBut l H H')(e:Same a H)(h:a l=none):Same a H':=g.1.same e h
def Same.at(e:Same H H')(h:H a=some o):H' a=some o:=e a o h
def Same.isQ(e:Same H H')(h:IsQ H a q):IsQ H' a q:=h.same e
def SqL.keep(h:SqL K H a xs)(e:Same H H'):SqL K H' a xs:=e.seq h
def Same.after{H1 H2:Hp}(b:Same H1 H2)(a:Same H H1):Same H H2:=a.trans b
theorem Same.none{H H':Hp}{l:Addr}(h:H' l=none)(g:Same H H'):H l=none:=g.fresh h
def zt3(h':H b=none)(h:H a=some o):a≠b:=zQ h h'
def zdN(h':H b=none)(h:H a=some o):b≠a:=(zQ h h').symm
section
variable {σ:St}{H:Hp}{Q:VK}{D:Ends}{t u:TS}{K:Fg}
def zdm(hl:xs.length<=100000)(q:∀p H',H p=none->Same H H'->H' p=some (.tup xs)->Q (.ref p) H'):zfM Q xs H:=⟨zcx hl,λp hp=>q p _ hp (Same.new hp _) zam⟩
def zt4(hl:xs.length<=100000)(q:∀p H',H p=none->Same H H'->H' p=some (.lst xs)->Q (.ref p) H'):zqp Q xs H:=⟨zcx hl,λp hp=>q p _ hp (Same.new hp _) zam⟩
def zax{x y:Int}(e:x=q.num/\y="0l")(k:NewQ H Q q):zfM Q [.int x,.int y] H:=NewQ.mk k e
def zfD(h:H l=some (.lst xs))(hl:xs.length<=100000)(q:∀H',LBut l H H'->H' l=some (.lst (xs++[y]))->Q .non H'):zbO (.ref l) [y] H Q:=
 zre h (zkT hl) (q _ ⟨But.upd,xs,h⟩ zam)
def zdo{k:Int}{R:Hp->Prop}(h:H l=some (.lst xs))(e:ixN xs.length k=some j)(q:∀H',LBut l H H'->H' l=some (.lst (xs.set j v))->R H'):zh8 (.ref l) (.int k) v H R:=
 zuc h e (q _ ⟨But.upd,xs,h⟩ zam)
def zpg(h:SqL K H a xs)(q:∀p H',H p=none->Same H H'->H' p=some (.lst xs)->Q (.ref p) H'):zdO K [.ref a] H Q:=zqD h λp hp=>q p _ hp (Same.new hp _) zam
def ztZ{lo hi:Option Int}(h:SqL K H a xs)(q:∀p H',H p=none->Same H H'->H' p=some (.lst (zc9 xs lo hi))->Q (.ref p) H'):zfH K (.ref a) lo hi H Q:=zvd h λp hp=>q p _ hp (Same.new hp _) zam
def zon(i:Nat)(P:V->Hp->Prop)(q:t { D with nx:=λa H'=>∃v,a=σ.set i (some v)/\P v H' } σ H)(r:∀v H',P v H'->u D (σ.set i (some v)) H'):zmV t u D σ H:=
 ⟨_,q,λa H' ⟨v,e,p⟩=>by subst e;exact r v H' p⟩
def zsc(i j:Nat)(P:V->V->Hp->Prop)(q:t { D with nx:=λa H'=>∃v w,a=(σ.set i (some v)).set j (some w)/\P v w H' } σ H)(r:∀v w H',P v w H'->u D ((σ.set i (some v)).set j (some w)) H'):zmV t u D σ H:=
 ⟨_,q,λa H' ⟨v,w,e,p⟩=>by subst e;exact r v w H' p⟩
end
def zdA{k:Int}(a:0<=k)(h:k<n):ixN n k=some k.toNat:=by unfold ixN;rw[if_pos a,if_pos h]
def zaZ{α:Type}{xs:List α}{k:Int}{v:α}(a:0<=k)(h:xs[k.toNat]?=some v):atI xs k=some v:=by
 have e:k=(k.toNat:Int):=by lia
 rw[e];exact zO h
section
variable {X:Cx}{pins:List (Addr × Obj)}{σ:St}{H:Hp}{s:Shared}{h':Heap}
def Inv.turnedL(I:Inv X pins σ H s)(k:∀b o,b∉fp->s.heap.get? b=some o->h'.get? b=some o)(f:∀b∈fp,zcU X pins H b):Inv X pins σ H { s with heap:=h',toks:=t' }:=by
 have d:∀b u,H b=some u->b∉fp:=λb u e z=>by rw[(f b z).1]at e;cases e
 refine I.step (g':=s.gens) (d':=s.drawn) (ch:=fp) (λb g=>⟨(f b g).2.2.2.1,(f b g).2.1,(f b g).2.2.2.2.1,(f b g).2.2.2.2.2⟩) (λb o _ _ a e _=>k b o a e) (λb o _ _ a e _=>⟨o.slots,k b o a e⟩) (λ_ _ _ _ n=>n)
  (λb o a e=>⟨o,k b o a e⟩) (λ_ _ e=>e) (λ_ _ _ e=>e) (λb ps e=>⟨#[],by rw[e];simp⟩) (λm i=>?_) (λb u e=>?_) I.bare
 ·obtain⟨o,es,h,j,r⟩:=i;exact⟨o,es,h,k _ o (λz=>(f _ z).2.1 rfl) j,r⟩
 ·refine(I.hok b u e).stay (λc v a q=>k c v ?_ q) (λ_ q=>q) λ_ _ q=>q;rcases a with z | z
  ·rw[z];exact d b u e
  ·exact d c _ z
def Inv.turnedNew{t':Nat}(I:Inv X pins σ H s)(k:∀b o,b∉fp->s.heap.get? b=some o->h'.get? b=some o)(f:∀b∈fp,zcU X pins H b)(hp:s.heap.objs.size<=p)(new:ObjOk X.prog X.w (upd H p o) h' p o) :
  Inv X pins σ (upd H p o) { s with heap:=h',toks:=t' }:=by
 have g:∀b u,H b=some u->b∉fp:=λb u e z=>by rw[(f b z).1]at e;cases e
 have h:H p=none:=I.hok.fresh hp;refine I.step (g':=s.gens) (d':=s.drawn) (ch:=fp) (λb a=>⟨(f b a).2.2.2.1,(f b a).2.1,(f b a).2.2.2.2.1,(f b a).2.2.2.2.2⟩) (λb o _ _ d e _=>k b o d e) (λb o _ _ d e _=>⟨o.slots,k b o d e⟩) (λb u _ e n=>?_)
  (λb o d e=>⟨o,k b o d e⟩) (λb xs e=>by rw[zag (zQ e h)];exact e) (λb u v e=>by rw[zag (zQ e h)];exact e) (λb ps e=>⟨#[],by rw[zag (zQ e h),e];simp⟩) (λm j=>?_) (λb u e=>?_) I.bare
 ·rw[zag (yv (yC (Heap.lt_size e) hp))];exact n
 ·obtain⟨o,es,i,l,r⟩:=j;exact⟨o,es,i,k _ o (λz=>(f _ z).2.1 rfl) l,r⟩
 ·by_cases a:b=p
  ·subst a;rw[zam]at e;cases e;exact new
  ·rw[zag a]at e;refine(I.hok b u e).stay (λc v d q=>k c v ?_ q) (λc q=>by rw[zag (zQ q h)];exact q) λc xs q=>by rw[zag (zQ q h)];exact q
   rcases d with z | z
   ·rw[z];exact g b u e
   ·exact g c _ z
end
def zbM{o o':Obj}{m n:String}(e:h.get? a=some o)(c:o.cls=.type m)(g:h.get? b=some o')(d:o'.cls=.type n)(f:(m == n)=false):a≠b:=by
 rintro rfl;rw[e]at g;cases g;rw[c]at d;cases d;rw[beq_self_eq_true]at f;cases f
def tup2{x:V}{v:Value}(e:h.get? p=some { cls:=.type "tuple",data:=.seq #[u,v] })(b:RelV x u)(a:RelV y v):ObjOk P w H h p (.tup [x,y]):=
 ⟨zcx (by simp),[u,v],.cons b (.cons a .nil),_,e,rfl,_,rfl⟩
noncomputable def Itn (K:Fg) (a:Addr):It:=
 ⟨λi H=>∃xs x,SqL K H a xs/\xs[i]?=some x,λi H v H'=>∃p x,H p=none/\v=.ref p/\(∀xs,SqL K H a xs->xs[i]?=some x)/\H'=upd H p (.tup [.int i,x]),λi H=>∃xs,SqL K H a xs/\xs.length<=i⟩
def zn0{es:List Expr}{kx:Nat}{tp:Pos}(a e it:Addr)(m:e≠it):Turn P w K (.Tuple es kx tp) (Itn K a) [e,it] e (λi h=>(∃old,IsEnum h e it i old)/\h.IsListIter it a i) where
 mem:=by simp
 obj:=λi h st b g=>by
  obtain⟨⟨old,h1⟩,o,h2,c,d⟩:=st;rcases yy.mp g with z | z
  ·subst z;exact⟨_,h1,λv z=>by cases z⟩
  ·have e:b=it:=by simpa using z
   subst e;exact⟨o,h2,λv z=>by rw[d]at z;cases z⟩
 keep:=λi h h' st k=>by
  obtain⟨⟨old,h1⟩,h2⟩:=st;exact⟨⟨old,k e (by simp) _ h1⟩,h2.at λo q=>k it (by simp) o q⟩
 item:=by
  intro X hP F L M i pins s σ H E I t st y;subst hP F L;obtain⟨⟨old,l⟩,j⟩:=st;obtain⟨xs,x,r,J⟩:=y;obtain⟨its,G,p,R⟩:=I.list r;obtain⟨u,hu,Y⟩:=G.get J;refine wpAny_pyNext_enum_item l j p.isList (x:=u) (by simpa using hu) m λh1 O C B T k1=>?_;refine⟨_,rfl,wpAny_letOwnedTupleGo_enum O λh2 U A=>?_⟩;have n:e≠s.heap.objs.size:=yv (Heap.lt_size l);have f:Heap.SameBut e h1 h2:=A;have S:h2.get? s.heap.objs.size=some { cls:=.type "tuple",data:=.seq #[.int i s.toks,u] }:=(f.2 _ (ya8 n)).trans B;have k2:∀b o,b∉[e,it]->s.heap.get? b=some o->h2.get? b=some o:=λb o g q=>by
   have N:b≠e:=λz=>g (by simp[z]);have W:b≠it:=λz=>g (by simp[z]);exact(f.2 b N).trans (k1 b o N W q)
  have Z:Inv X pins σ (upd H s.heap.objs.size (.tup [.int i,x])) { s with heap:=h2,toks:=s.toks+1 }:=I.turnedNew k2 t (yg _) (tup2 S ⟨_,rfl⟩ Y);have hn:H s.heap.objs.size=none:=I.hok.fresh (yg _);refine⟨.ref s.heap.objs.size,_,Z,rfl,⟨_,x,hn,rfl,λys V=>by rw[I.list_inj V r];exact J,rfl⟩,⟨⟨_,U⟩,C.at λo q=>(f.2 it (ya8 m)).trans q⟩,λb g=>?_⟩;have D:b≠s.heap.objs.size:=by
   rcases yy.mp g with z | z
   ·rw[z];exact n
   ·have e:b=it:=by simpa using z
    subst e;obtain⟨o,q,_⟩:=j;exact yv (Heap.lt_size q)
  rw[zag D];exact(t b g).1
 done:=by
  intro X hP F L M i pins s σ H E I t st y;subst hP F L;obtain⟨⟨old,l⟩,j⟩:=st;obtain⟨xs,r,J⟩:=y;obtain⟨its,G,p,R⟩:=I.list r;have hl:=G.length;refine wpAny_pyNext_enum_end (I.ok.hd M) l j p.isList (by simp;lia) λh1 Q=>⟨rfl,I.turnedL (t':=s.toks) (fp:=[e,it]) (λb o g q=>Q b o (λz=>g (by simp[z])) q) t⟩
 self:=λ_ _ _ _ _ st h=>by
  obtain⟨⟨old,l⟩,_⟩:=st;exact wpAny_pyIter_enum l h
noncomputable def Itz (K:Fg) (a b:Addr):It:=
 ⟨λi H=>∃xs ys x y,SqL K H a xs/\SqL K H b ys/\xs[i]?=some x/\ys[i]?=some y,λi H v H'=>∃p x y,H p=none/\v=.ref p/\(∀xs,SqL K H a xs->xs[i]?=some x)/\(∀ys,SqL K H b ys->ys[i]?=some y)/\H'=upd H p (.tup [x,y]),
  λi H=>∃xs ys,SqL K H a xs/\SqL K H b ys/\(xs.length<=i\/ys.length<=i)⟩
def zkS{z TI TO o p:Addr}{t s r u q:Value}{k1 k2:Nat}{xs ys:Array Value}(e:IsZip h z TI TO t)(d:IsPair h TI s r)(c:IsPair h TO u q)(h1:h.IsListIter o a k1)(h2:h.IsListIter p b k2)
  (l1:h.IsList a xs) (l2:h.IsList b ys) (nT:TI≠TO) (ni:o≠p):ZipApart z TI TO o p a b:=by
 obtain⟨y,j,g,_⟩:=h1;obtain⟨x,i,f,_⟩:=h2;obtain⟨w,l,m,_⟩:=l1;obtain⟨v,k,n,_⟩:=l2;exact⟨zbM d rfl e rfl "0a",zbM c rfl e rfl "0a",zbM j g e rfl "0a",zbM i f e rfl "0a",nT,zbM d rfl j g "0a",zbM d rfl i f "0a",zbM c rfl j g "0a",zbM c rfl i f "0a",ni,zbM l m e rfl "0a",zbM l m c rfl "0a",zbM l m j g "0a",zbM l m i f "0a",zbM k n e rfl "0a",zbM k n c rfl "0a",zbM k n j g "0a",zbM k n i f "0a"⟩
def zqA{es:List Expr}{kx:Nat}{tp:Pos}(a b z TI TO n m:Addr)(nT:TI≠TO)(ni:n≠m):Turn P w K (.Tuple es kx tp) (Itz K a b) [z,TI,TO,n,m] z
  (λi h=>IsZip h z TI TO .none/\IsPair h TI (.ref n) (.ref m)/\(∃x y,IsPair h TO x y)/\h.IsListIter n a i/\h.IsListIter m b i) where
 mem:=by simp
 obj:=λi h st c g=>by
  obtain⟨j,d,⟨x,y,e⟩,⟨o1,T,c1,d1⟩,⟨o2,Q,c2,d2⟩⟩:=st;simp only[yy,yap,or_false]at g;rcases g with rfl | rfl | rfl | rfl | rfl
  ·exact⟨_,j,λv q=>by cases q⟩
  ·exact⟨_,d,λv q=>by cases q⟩
  ·exact⟨_,e,λv q=>by cases q⟩
  ·exact⟨_,T,λv q=>by rw[d1]at q;cases q⟩
  ·exact⟨_,Q,λv q=>by rw[d2]at q;cases q⟩
 keep:=λi h h' st k=>by
  obtain⟨j,d,⟨x,y,e⟩,h1,h2⟩:=st;exact⟨k z (by simp) _ j,k TI (by simp) _ d,⟨x,y,k TO (by simp) _ e⟩,h1.at λo q=>k n (by simp) o q,h2.at λo q=>k m (by simp) o q⟩
 item:=by
  intro X hP Y hK hc i pins s σ H E I J st U;subst hP Y hK;obtain⟨j,d,⟨x0,y0,e⟩,h1,h2⟩:=st;obtain⟨xs,ys,x,y,F,l,L,hy⟩:=U;obtain⟨its,Z,p,M⟩:=I.list F;obtain⟨S,r,C,D⟩:=I.list l;obtain⟨u,hu,ru⟩:=Z.get L;obtain⟨u',N,R⟩:=r.get hy;have A:=zkS j d e h1 h2 p.isList C.isList nT ni;refine wpAny_pyNext_zip_item A j d e h1 h2 p.isList C.isList (x:=u) (y:=u') (by simpa using hu) (by simpa using N) λg1 z1 W j1 j2 t1 a0 k1=>?_;refine⟨_,rfl,wpAny_letOwnedTupleGo_zip z1 λG z2 V=>?_⟩;have f:Heap.SameBut z g1 G:=V;have B:z≠s.heap.objs.size:=yv (Heap.lt_size j);have t2:G.get? s.heap.objs.size=some { cls:=.type "tuple",data:=.seq #[u,u'] }:=(f.2 _ (ya8 B)).trans t1;have k2:∀c o,c∉[z,TI,TO,n,m]->s.heap.get? c=some o->G.get? c=some o:=λc o g q=>by
   have n1:c≠z:=λz=>g (by simp[z]);exact(f.2 c n1).trans (k1 c o n1 (λz=>g (by simp[z])) (λz=>g (by simp[z])) (λz=>g (by simp[z])) q)
  have I2:Inv X pins σ (upd H s.heap.objs.size (.tup [x,y])) { s with heap:=G,toks:=s.toks }:=I.turnedNew k2 J (yg _) (tup2 t2 ru R);have hn:H s.heap.objs.size=none:=I.hok.fresh (yg _);refine⟨.ref s.heap.objs.size,_,I2,rfl,⟨_,x,y,hn,rfl,λys t=>by rw[I.list_inj t F];exact L,λys t=>by rw[I.list_inj t l];exact hy,rfl⟩,
   ⟨z2,(f.2 TI A.TIz).trans (k1 TI _ A.TIz A.TITO A.TIi1 A.TIi2 d),⟨_,_,(f.2 TO A.TOz).trans W⟩,j1.at λo q=>(f.2 n A.i1z).trans q,j2.at λo q=>(f.2 m A.i2z).trans q⟩,λc g=>?_⟩
  have O:c≠s.heap.objs.size:=by
   simp only[yy,yap,or_false]at g;obtain⟨o1,T,_⟩:=h1;obtain⟨o2,Q,_⟩:=h2;rcases g with rfl | rfl | rfl | rfl | rfl
   ·exact B
   ·exact yv (Heap.lt_size d)
   ·exact yv (Heap.lt_size e)
   ·exact yv (Heap.lt_size T)
   ·exact yv (Heap.lt_size Q)
  rw[zag O];exact(J c g).1
 done:=by
  intro X hP Y hK hc i pins s σ H E I J st U;subst hP Y hK;obtain⟨j,d,⟨x0,y0,e⟩,h1,h2⟩:=st;obtain⟨xs,ys,F,l,L⟩:=U;obtain⟨its,Z,p,M⟩:=I.list F;obtain⟨S,r,C,D⟩:=I.list l;have hl:=Z.length;have a1:=r.length;have A:=zkS j d e h1 h2 p.isList C.isList nT ni;refine wpAny_pyNext_zip_end (I.ok.hd hc) A j d e h1 h2 p.isList C.isList ?_ λg1 k1=>⟨rfl,I.turnedL (t':=s.toks) (fp:=[z,TI,TO,n,m]) (λc o g q=>k1 c o (λz=>g (by simp[z])) (λz=>g (by simp[z])) (λz=>g (by simp[z])) (λz=>g (by simp[z])) q) J⟩
  rcases L with q | q
  ·exact .inl (by simp;lia)
  ·exact .inr (by simp;lia)
 self:=λ_ _ _ _ _ st h=>wpAny_pyIter_zip st.1 h
section
variable {X:Cx}{es:List Expr}{kx:Nat}{tp:Pos}
noncomputable def znh (K:Fg) (R:It->Hp->Prop) (vs:List V) (H:Hp):Prop:=∃a,vs=[.ref a]/\(∃xs,SqL K H a xs)/\R (Itn K a) H
noncomputable def zpN (K:Fg) (R:It->Hp->Prop) (vs:List V) (H:Hp):Prop:=∃a b,vs=[.ref a,.ref b]/\(∃xs,SqL K H a xs)/\(∃ys,SqL K H b ys)/\R (Itz K a b) H
abbrev zrA(K:Fg)(ta:TA):TI:=λσ H R=>ta σ H (znh K R)
abbrev zpB(K:Fg)(ta:TA):TI:=λσ H R=>ta σ H (zpN K R)
def zsB{a:Expr}{ta:TA}{p pos:Pos}(k:Gl X "enumerate")(w:X.mg "enumerate" = none)(ha:PA X [a] ta)(m:autoParam (starEach [a] X.env=[(false,eval a X.env)]) Internal.aut2._auto_1):PI X (.Tuple es kx tp) (.Call (.Name "enumerate" p) [a] [] pos) (zrA X.K ta):=by
 intro pins s σ H R I h;refine Call_ (zcL I k w boot_enumerate (yaA (thn (ha pos pins s σ H _ I h) λus c ⟨vs,H1,f,v,n⟩=>?_) m rfl));obtain⟨l,e,⟨xs,j⟩,q⟩:=n;subst e;obtain⟨u,rfl,r⟩:=vals1 v;cases r;obtain⟨its,z,pl,y⟩:=f.list j;refine call_enumerate_list pl.isList λh1 i t o k1=>?_;refine wpAny_pyIter_enum i ?_;have x:Inv X pins σ H1 { c with heap:=h1,toks:=c.toks }:=f.kept k1;refine⟨c.heap.objs.size+1,[c.heap.objs.size+1,c.heap.objs.size],_,_,H1,rfl,x,zn0 l _ _ (Nat.succ_ne_self _),⟨⟨_,i⟩,t⟩,λb g=>?_,q⟩;have d:c.heap.objs.size<=b:=by
  simp only[yy,yap,or_false]at g;rcases g with rfl | rfl<;>lia
 exact f.fpOk d (f.hok.fresh d)
def znR{a b:Expr}{ta:TA}{p pos:Pos}(v:Gl X "zip")(E:X.mg "zip" = none)(ha:PA X [a,b] ta)(x:autoParam (starEach [a,b] X.env=[(false,eval a X.env),(false,eval b X.env)]) Internal.aut2._auto_1)(f:autoParam (starEach [b] X.env=[(false,eval b X.env)]) Internal.aut2._auto_1) :
  PI X (.Tuple es kx tp) (.Call (.Name "zip" p) [a,b] [] pos) (zpB X.K ta):=by
 intro pins s σ H R I h;refine Call_ (zcL I v E boot_zip (yaA (thn (ha pos pins s σ H _ I h) λus c ⟨vs,H1,g,D,y⟩=>?_) (by rw[x,f]) (by rw[f];rfl)));obtain⟨l,m,e,⟨xs,t⟩,⟨ys,i⟩,q⟩:=y;subst e;obtain⟨u,L,rfl,r,o⟩:=vals2 D;cases r;cases o;obtain⟨its,M,pl,J⟩:=g.list t;obtain⟨G,z,j,C⟩:=g.list i;refine call_zip_2 pl.isList j.isList λh1 n ti to B w A k1=>?_;refine wpAny_pyIter_zip n ?_;have F:Inv X pins σ H1 { c with heap:=h1,toks:=c.toks }:=g.kept k1;refine⟨c.heap.objs.size+4,[c.heap.objs.size+4,c.heap.objs.size+2,c.heap.objs.size+3,c.heap.objs.size,c.heap.objs.size+1],_,_,H1,rfl,F,zqA l m _ _ _ _ _ (yv (yaU _)) (yv (yaU _)),⟨n,ti,⟨_,_,to⟩,B,w⟩,λb k=>?_,q⟩;have d:c.heap.objs.size<=b:=by
  simp only[yy,yap,or_false]at k;rcases k with rfl | rfl | rfl | rfl | rfl<;>lia
 exact g.fpOk d (g.hok.fresh d)
end
section
variable {X:Cx}
def Inv.walk(I:Inv X pins σ H s)(c:SqL X.K H a xs):∃its:List Value,Vals xs its/\s.heap.IsList a its.toArray/\its.length=xs.length/\a<s.heap.objs.size:=by
 obtain⟨its,b,pl,d⟩:=I.list c;obtain⟨o,e,_⟩:=id pl.isList;exact⟨its,b,pl.isList,b.length.symm,Heap.lt_size e⟩
noncomputable def zS (ns:List Int):Int:=ns.foldl (·+·) 0
def zdl(ns:List Int)(n:Int):zS (ns++[n])=zS ns+n:=by unfold zS;rw[yat];rfl
theorem zgX(ns:List Int):∀j,j<=ns.length->preSum (λi=>ns.getD i 0) j=zS (ns.take j)
 | 0,_=>rfl
 | j+1,h=>by
  have a:j<ns.length:=by lia
  rw[preSum,zgX ns j ⋯,yaV a,zdl];simp[List.getD,a]
noncomputable def znl (K:Fg):List V->Hp->VK->Prop:=λxs H Q=>∃a ns,xs=[.ref a]/\SqL K H a (List.map V.int ns)/\Q (.int (zS ns)) H
def zkN{v:Value}(a:Vals (ns.map V.int) its)(h:its.toArray[i]?=some v):∃t,v=.int (ns.getD i 0) t:=by
 have hl:=a.length;rw[ya]at hl;have hi:i<ns.length:=by
  have:=(Array.getElem?_eq_some_iff.mp h).1
  simp at this;lia
 obtain⟨u,b,r⟩:=a.get (show(ns.map V.int)[i]?=some (.int (ns.getD i 0)) by simp[List.getD,hi])
 have:v=u:=by
  have h':its[i]?=some v:=by simpa using h
  rw[b]at h';exact(yn h').symm
 obtain⟨t,rfl⟩:=r;exact⟨t,this⟩
def zpk(p:X.calm=true):CallR X (.builtin "sum") (znl X.K):=by
 intro pins s σ H xs us Q I r h;obtain⟨a,ns,rfl,m,q⟩:=h;obtain⟨u,rfl,x⟩:=vals1 r;cases x;obtain⟨its,t,pl,hl,c⟩:=I.walk m;refine call_sum_walkAnyS (wpAny_pyIter_list pl ?_);have f:a≠s.heap.objs.size:=yv c;refine⟨_,_,_,_,_,_,_,λi=>ns.getD i 0,rfl,(Walks.list (prog:=X.prog) (w:=X.w) (A:=X.A.in1) (I.ok.hd p) s.heap.objs.size a f its.toArray).toS,⟨⟨_,Heap.get?_push_size _ rfl,rfl,rfl⟩,pl.at λo e=>Heap.get?_push_of_some _ e⟩,λb j=>?_,λi v n=>zkN t n,λs' t' d=>?_⟩
 ·rw[Heap.size_push];simp only[yy,yap,or_false]at j;rcases j with rfl | rfl
  ·exact yaU _
  ·exact ybp c
 ·have y:(its.toArray).size=ns.length:=by rw[ya]at hl;simpa using hl
  rw[y,zgX ns _ (yg _),yw];have g:s'.gens=s.gens:=by have:=d.gens;first | exact this | exact this.symm
  have hd:=d.drawn;have l:=d.os;have k:Inv X pins σ H { s with heap:=s'.heap,toks:=s'.toks }:=I.kept λb o e=>d.heap b o (λz=>by
   simp only[yy,yap,or_false]at z;subst z;exact absurd (Heap.lt_size e) (yY _)) (Heap.get?_push_of_some _ e)
  have e:({ s with heap:=s'.heap,toks:=s'.toks }:Shared)=s':=by
   cases s';cases s;simp only at g hd l;subst g hd l;rfl
  rw[e]at k;exact⟨.int (zS ns),H,k,⟨t',rfl⟩,q⟩
end
def ObjOk.obj(x:ObjOk P w H h a o):∃u,h.get? a=some u:=by
 cases o with
 | lst xs=>exact⟨_,x.2.choose_spec.choose_spec.2⟩
 | tup xs=>obtain⟨_,_,_,b,e,_⟩:=x;exact⟨b,e⟩
 | dK kvs=>obtain⟨_,_,_,_,b,_,_,e,_⟩:=x;exact⟨b,e⟩
 | dT kvs=>obtain⟨_,_,_,_,b,_,_,e,_⟩:=x;exact⟨b,e⟩
 | set S n=>obtain⟨b,_,_,_,e,_⟩:=x;exact⟨b,e⟩
 | ins C dx fs=>exact⟨_,x.2.2.2.1⟩
 | own y=>exact x
 | xd fs=>obtain⟨_,⟨b,_,_,e,_⟩,_⟩:=x;exact⟨b,e⟩
 | rng lo hi=>obtain⟨_,_,_,e⟩:=x;exact⟨_,e⟩
 | frz b u=>exact⟨b,x.1⟩
 | tbl ps=>exact⟨_,show h.get? a=some _ from x⟩
 | met f y=>exact⟨_,show h.get? a=some _ from x⟩
 | ext φ=>exact x.2.1
noncomputable def DK {α:Type}:Sem α->Prop
 | .pure _=>True
 | .raise _=>True
 | .unsupported _=>True
 | .finish _=>True
 | .rule _ k=>DK (k ())
 | .at _ k=>DK (k ())
 | .load _ _ k=>∀o,DK (k o)
 | .update _ _ f k=>(∀o,(f o).dict=o.dict)/\DK (k ())
 | .alloc _ k=>∀a,DK (k a)
 | .loadIfAlive _ k=>∀o,DK (k o)
 | .point _ k=>DK (k ())
 | .fresh k=>∀t,DK (k t)
 | .ask k=>∀t,DK (k t)
 | .handled _ k=>∀t,DK (k t)
 | .stack k=>∀t,DK (k t)
 | .thread k=>∀t,DK (k t)
 | _=>False
theorem DK.bind{α β:Type}{m:Sem α}{f:α->Sem β}(b:DK m)(c:∀a,DK (f a)):DK (m >>= f):=by
 show DK (Sem.bind m f)
 induction m with
 | pure a=>exact c a
 | raise e=>trivial
 | unsupported w=>trivial
 | finish e=>trivial
 | rule t k ih=>exact ih () b
 | «at» p k ih=>exact ih () b
 | load a p k ih=>exact λo=>ih o (b o)
 | update a p g k ih=>exact⟨b.1,ih () b.2⟩
 | alloc o k ih=>exact λa=>ih a (b a)
 | loadIfAlive a k ih=>exact λa=>ih a (b a)
 | point l k ih=>exact ih () b
 | fresh k ih=>exact λa=>ih a (b a)
 | ask k ih=>exact λa=>ih a (b a)
 | handled o k ih=>exact λa=>ih a (b a)
 | stack k ih=>exact λa=>ih a (b a)
 | thread k ih=>exact λa=>ih a (b a)
 | _=>exact b.elim
noncomputable def Bare (er:Addr) (s:Shared):Prop:=∃o,s.heap.objs[er]?=some o/\o.dict=none
theorem DK.wp{α:Type}{M:Model}{Γ:PySem.Ctx}{er:Addr}{t:Sem α}(h:DK t):∀{Q:α->Pos->Shared->Prop} {E:Value->Pos->Shared->Prop} {p:Pos} {s:Shared},Bare er s->Sem.wp M Γ t Q E p s ->
  Sem.wp M Γ t (λa p s'=>Q a p s'/\Bare er s') (λe p s'=>E e p s'/\Bare er s') p s:=by
 induction t with
 | pure a=>intro Q E p s b w;rw[Sem.wp]at *;exact⟨w,b⟩
 | raise e=>intro Q E p s b w;rw[Sem.wp]at *;exact⟨w,b⟩
 | unsupported _=>intro Q E p s b w;rw[Sem.wp]at *;exact w
 | finish _=>intro Q E p s b w;rw[Sem.wp]at *;exact w
 | rule t k ih=>intro Q E p s b w;rw[Sem.wp]at *;exact ih () h b w
 | «at» q k ih=>intro Q E p s b w;rw[Sem.wp]at *;exact ih () h b w
 | load a q k ih=>
  intro Q E p s b w;rw[Sem.wp]at *
  obtain⟨o,e,w⟩:=w;exact⟨o,e,ih o (h o) b w⟩
 | update a q g k ih=>
  intro Q E p s b w;rw[Sem.wp]at *
  refine⟨w.1,ih () h.2 ?_ w.2⟩;obtain⟨o,e,d⟩:=b;by_cases c:a=er
  ·subst c;exact⟨g o,by simp[Heap.update,Array.getElem?_modify,e],by rw[h.1];exact d⟩
  ·exact⟨o,by simp[Heap.update,Array.getElem?_modify,c,e],d⟩
 | alloc o k ih=>
  intro Q E p s b w;rw[Sem.wp]at *
  refine ih _ (h _) ?_ w;obtain⟨o',e,d⟩:=b;refine⟨o',?_,d⟩;have hl:er<s.heap.objs.size:=(Array.getElem?_eq_some_iff.mp e).1
  show(s.heap.objs.push o)[er]?=some o'
  rw[Array.getElem?_push];rw[if_neg (yv hl)];exact e
 | loadIfAlive a k ih=>intro Q E p s b w;rw[Sem.wp]at *;exact ih _ (h _) b w
 | point l k ih=>intro Q E p s b w;rw[Sem.wp]at *;exact ih () h b w
 | fresh k ih=>intro Q E p s b w;rw[Sem.wp]at *;exact ih _ (h _) b w
 | ask k ih=>intro Q E p s b w;rw[Sem.wp]at *;exact ih _ (h _) b w
 | handled o k ih=>intro Q E p s b w;rw[Sem.wp]at *;exact ih _ (h _) b w
 | stack k ih=>intro Q E p s b w;rw[Sem.wp]at *;exact ih _ (h _) b w
 | thread k ih=>intro Q E p s b w;rw[Sem.wp]at *;exact ih _ (h _) b w
 | _=>exact h.elim
def DK.any{α:Type}{t:Sem α}{Q:α->Shared->Prop}{E:Value->Shared->Prop}(h:DK t)(b:Bare er s)(w:wpAny M A t Q E s):wpAny M A t (λa s'=>Q a s'/\Bare er s') (λe s'=>E e s'/\Bare er s') s:=
 λΓ p hΓ=>h.wp b (w Γ p hΓ)
theorem Bare.get{er:Addr}{s:Shared}{o:Obj}(b:Bare er s)(e:s.heap.get? er=some o):o.dict=none:=by
 obtain⟨o',c,d⟩:=b;obtain⟨a,_⟩:=Heap.get?_some_iff.mp e;rw[c]at a;cases a;exact d
def ziu(f:Array Value->Array Value)(o:Obj):(o.mapFields f).dict=o.dict:=by
 obtain⟨c,d,dt,a⟩:=o;cases dt<;>rfl
def zi7:DK (load a):=λ_=>trivial
def ze5(v:Value)(i:Nat):DK (field v i):=by
 unfold field fieldsOf;refine DK.bind ?_ λx=>?_
 ·cases v<;>try trivial
  refine DK.bind zi7 λo=>?_;split<;>trivial
 ·split<;>trivial
def zev(v:Value)(i:Nat)(x:Value):DK (setField v i x):=by
 unfold setField updateField;cases v<;>try trivial
 refine DK.bind zi7 λo=>?_;split
 ·split
  ·exact⟨λo=>ziu _ o,trivial⟩
  ·trivial
 ·trivial
def zeb(e:Value)(f:Option Addr):DK (setFlight e f):=by
 unfold setFlight;refine DK.bind (ze5 _ _) λtb=>?_;split
 ·exact zev _ _ _
 ·trivial
def zr6(env:Env)(i:Bool)(l:List Env):DK (keptBack env i l):=by
 unfold keptBack;cases l with
 | nil=>
  simp only;split
  ·trivial
  ·refine DK.bind ?_ λ_=>trivial;unfold underTheClaimsCaller;exact λ_=>trivial
 | cons c r=>trivial
def zpd(env:Env)(l:List Env):DK (behindIsImport env l):=by
 unfold behindIsImport;split
 ·trivial
 ·split
  ·trivial
  ·exact DK.bind (ze5 _ _) λ_=>trivial
theorem zkY:∀l:List Env,DK (readyFrames l)
 | []=>trivial
 | env :: outer=>by
  unfold readyFrames;split
  ·refine DK.bind zi7 λo=>?_;split
   ·trivial
   ·refine DK.bind (zpd _ _) λ_=>DK.bind (zr6 _ _ _) λ_=>DK.bind ⟨λ_=>rfl,trivial⟩ λ_=>zkY outer
  ·trivial
def ziv(l:List Env):DK (frameObject l):=by
 cases l with
 | nil=>trivial
 | cons env outer=>exact DK.bind (zkY _) λ_=>trivial
def znw(env:Env):DK (PySem.frameOf env):=by
 unfold PySem.frameOf frameEnvs;refine DK.bind (DK.bind (λ_=>trivial) λ_=>trivial) λ_=>DK.bind (ziv _) λo=>?_;split<;>trivial
def zqP(f:Addr)(b:Bool):DK (entryPlaceOf f b):=by
 unfold entryPlaceOf;refine DK.bind (λ_=>trivial) λa=>?_;split<;>trivial
def zmn(T:String)(d:Data):DK (newObjAsIs (.type T) d):=by
 unfold newObjAsIs;exact λ_=>trivial
def zuk(T:String)(vs:Array Value):DK (newObj (.type T) (.fields vs)):=by
 unfold newObj;simp only;split
 ·exact DK.bind (m:=unsupported "record:memory") trivial λ_=>zmn _ _
 ·exact zmn _ _
def zqr(a b c d e:Value)(pl:List Value):DK (EntryCells.newEntry a b c d e pl):=zuk _ _
def zmS(e:Value)(env:Env):DK (noteFrame e env):=by
 unfold noteFrame;have fin:∀(head:Value) (f:Addr),DK (do setField e 1 (<- EntryCells.newEntry head (<- frameOf env) .none (rawInt f) .none (<- entryPlaceOf f (head != .none)))):=λhead f=>
  DK.bind (znw _) λ_=>DK.bind (zqP _ _) λ_=>DK.bind (zqr _ _ _ _ _ _) λ_=>zev _ _ _
 split
 ·refine DK.bind (ze5 _ _) λhead=>?_;split
  ·refine DK.bind (ze5 _ _) λx=>?_;split
   ·trivial
   ·exact DK.bind (zev _ _ _) λ_=>fin _ _
  ·exact fin _ _
 ·trivial
def zil(env:Env)(e:Value):DK (leaving env e):=DK.bind (zmS _ _) λ_=>zeb _ _
set_option genInjectivity false in
set_option genSizeOf false in
structure Fly(P:Program)(w:World)(outer:List Env)(H:Hp)(s:Shared)(H':Hp)(er C t:Addr)(B:Heap)(s':Shared):Prop where
 os:s'.os=s.os
 bare:AllBare s'.gens
 un:Un (frs outer) [] H H' s.heap s'.heap
 hok:HOk P w H' s'.heap
 fly:Heap.FlyingW B outer er (.ref C) (.ref t) s'.heap
 old:∀b o,s.heap.get? b=some o->H b=none->b∉frs outer->B.get? b=some o
 has:∀b o,s.heap.get? b=some o->b∉frs outer->∃u,B.get? b=some u
 trk:∀b o u,H' b=some o->s'.heap.get? b=some u->B.get? b=some u
 nod:Bare er s'
noncomputable def CXF (P:Program) (w:World):CXT:=λouter H s E e s'=>∃er C t B H',e=.ref er/\Fly P w outer H s H' er C t B s'/\E (.ref C) none H'
def zrB:NoX (CXF P w):=λ_ _ _ _ _ ⟨_,_,_,_,_,_,_,h⟩=>h
section
variable {P:Program}{w:World}{outer:List Env}{H H':Hp}{s s':Shared}{er C t:Addr}{B h:Heap}
def Fly.noTrk(F:Fly P w outer H s H' er C t B s'):H' er=none:=by
 cases e:H' er with
 | none=>rfl
 | some o=>
  obtain⟨a,q,_⟩:=F.fly.there;have z:=F.trk er o a e q;rw[F.fly.2.1]at z;cases z
def Fly.unAt(F:Fly P w outer H s H' er C t B s')(k:s.heap.FunFrames base outer)(st:B.StaysIn h)(up:s'.heap.UpToSlots h):Un (frs outer) [] H H' s.heap h where
 keep:=λb o q n a _=>st b o (F.old b o q n a)
 slot:=λb o q n a _=>by
  obtain⟨l,f⟩:=F.un.slot b o q n a (by simp);obtain⟨_,o',g,i⟩:=k.mem a;rw[q]at g;cases g;obtain⟨c,d⟩:=up b _ f i;exact⟨c,d⟩
 free:=F.un.free
 there:=λb o q _=>by
  by_cases a:b∈frs outer
  ·obtain⟨_,o',g,i⟩:=k.mem a;rw[q]at g;cases g;cases hn:H b with
   | none=>
    obtain⟨l,f⟩:=F.un.slot b o q hn a (by simp);obtain⟨c,d⟩:=up b _ f i;exact⟨_,d⟩
   | some x=>
    obtain⟨_,m,f,j⟩:=F.fly.2.2.1.mem a;obtain⟨c,d⟩:=up b _ f j;exact⟨_,d⟩
  ·obtain⟨u,e⟩:=F.has b o q a;exact⟨u,st b u e⟩
 tups:=F.un.tups
 frzs:=F.un.frzs
 tbls:=F.un.tbls
def Fly.hokAt(F:Fly P w outer H s H' er C t B s')(st:B.StaysIn h):HOk P w H' h:=λa o e=>
 (F.hok a o e).stay (λb u c q=>st b u (by
  rcases c with rfl | c
  ·exact F.trk b o u e q
  ·exact F.trk b _ u c q)) (λ_ q=>q) λ_ _ q=>q
noncomputable def zhY (er C:Addr) (h:Heap):Prop:=∃oe:Obj,PySem.W.InstAt h er oe C none
noncomputable def zcY (er C:Addr):HO:=.ext (zhY er C)
def zpC{l:List Env}{g:Value}{B:Heap}(f:Heap.FlyingW B l er (.ref C) g h)(b:Bare er { s with heap:=h }):zhY er C h:=by
 obtain⟨a,vs,e,c,d,_⟩:=f.first;have nd:a.dict=none:=b.get e;exact⟨a,e,c,by unfold PySem.W.notCls;rw[d],by rw[nd];trivial⟩
def Fly.unEr(F:Fly P w outer H s H' er C t B s')(u:Un (frs outer) [] H H' s.heap h):Un (frs outer) [] H (upd H' er (zcY er C)) s.heap h:=by
 have ne:∀b o,s.heap.get? b=some o->b≠er:=λb o q z=>by
  subst z;by_cases g:b∈frs outer
  ·obtain⟨_,l,i,c⟩:=F.fly.2.2.1.mem g;obtain⟨k,vs,f,_,d,_⟩:=F.fly.first;rw[i]at f;cases f;exact c vs d
  ·obtain⟨u,e⟩:=F.has b o q g;rw[F.fly.2.1]at e;cases e
 have a:=F.noTrk;exact⟨u.keep,u.slot,λb o q n j=>by rw[zag (ne b o q)];exact u.free b o q n j,u.there,λb xs q=>by
   rw[zag (zQ (u.tups b xs q) a)];exact u.tups b xs q,λb o v q=>by
   rw[zag (zQ (u.frzs b o v q) a)];exact u.frzs b o v q,λb ps q=>by
   obtain⟨m,e⟩:=u.tbls b ps q;exact⟨m,by rw[zag (zQ e a)];exact e⟩⟩
def ztl(j:HOk P w H' h)(f:H' er=none)(l:zhY er C h):HOk P w (upd H' er (zcY er C)) h:=λa o e=>by
 by_cases ha:a=er
 ·subst ha;rw[zam]at e;cases e;obtain⟨g,i⟩:=l;refine⟨⟨g,i⟩,⟨g,i.at_⟩,λh1 h2 ⟨d,c⟩ k=>⟨d,k d c.at_,c.cls,c.no,?_⟩⟩;have z:=c.dict;cases hd:d.dict with
  | none=>trivial
  | some dx=>rw[hd]at z;exact z.elim
 ·rw[zag ha]at e;exact(j a o e).stay (λ_ _ _ q=>q) (λb q=>by rw[zag (zQ q f)];exact q) λb xs q=>by rw[zag (zQ q f)];exact q
end
noncomputable def bmV:List Value:=[.type "ValueError",.type "Exception",.type "BaseException",.type "object"]
noncomputable def OwnErr (K:Fg) (C:Addr):Prop:=PySem.W.excIn K C bmV "ValueError.__new__" = true
def OwnErr.obj(q:OwnErr K C)(X:K.In h):∃a N nm e bs hd sn sub ab col dd k0 k1 k2 k3 k5 mN,
  h.get? C=some (excClassObj nm e C N bs a hd sn sub ab col dd k0 k1 k2 k3 k5 "ValueError.__new__")/\h.Ns N mN/\mN "__init__" = none/\OwnTail h bmV a:=by
 have q':PySem.W.excIn K C bmV "ValueError.__new__" = true:=q;unfold PySem.W.excIn at q';split at q'
 ·rename_i dd j p m;split at q'
  ·rename_i r a k0 k1 k2 k3 d k5 em es;rw[y4,y4,y4,y4,y4]at q';obtain⟨⟨⟨⟨⟨a1,a2⟩,l⟩,s⟩,b⟩,k⟩:=q';have b1:r=C:=eq_of_beq a1;have b2:d = "ValueError.__new__" := eq_of_beq a2;have i:j.hasDel=false:=by simpa using l
   have f:=eq_of_beq k;have g:=X C _ m;obtain⟨nm,bs,n,ns,e,hd,sn,sub,ab,col,o⟩:=j;simp only at em i b f;subst em i b1 b2;have c:p=#[k0,k1,k2,k3,some (.builtin "ValueError.__new__"),k5]:=by
    rw[<- Array.toList_inj];exact es
   subst c;exact⟨a,ns,nm,e,bs,hd,sn,sub,ab,col,dd,k0,k1,k2,k3,k5,_,g,Heap.Ns.of_isNs (PySem.W.isNs_of_in X b),PySem.W.nsMap_none_of_in X b f,PySem.W.tail_of_in X s⟩
  ·cases q'
 ·cases q'
def zoh{prog:Program}{w:World}{A:Around}{E:Value->Shared->Prop}{s:Shared}{K:Fg}{er C:Addr}{j:Obj}{Q:Option Value->Shared->Prop}
  (ga:PySem.W.findIn K (.ref C) "__getattribute__" = some (some (.builtin "BaseException.__getattribute__"))) (gn:PySem.W.findIn K (.ref C) "__getattr__" = some none)
  (hf:PySem.W.findObj K C none "__class__" = some (.bind (.builtin "getset_descriptor.__get__") (.builtin "object.__class__"))) (mo:PySem.W.mroIn K C (.type "object")=some true) (be:PySem.W.mroIn K C (.type "BaseException")=some true)
  (X:K.In s.heap) (i:PySem.W.InstAt s.heap er j C none) (q:Q (some (.ref C)) { s with toks:=s.toks+1 }):wpAny (model prog w) A (getAttr? (.ref er) "__class__") Q E s:=by
 obtain⟨n,g,d,t,os⟩:=s;have c:=i.type (M:=model prog w);have m:=PySem.W.looks_findIn (M:=model prog w) X ga;have b:=PySem.W.looks_findIn (M:=model prog w) X gn;have l:=PySem.W.looks_find (M:=model prog w) X i hf;have k:=PySem.W.looks_mroIn (M:=model prog w) X be;have f:=PySem.F.attr_ValueError.ga.bind (.ref er);unfold getAttr? getAttrBy? getAttrBy;refine wpAny_bind (wpAny_mkText (wpAny_bind (wpAny_attempt (wpAny_holding (wpAny_bind (c.at (wpAny_bind (m.at ?_))))))));show wpAny _ _ (getAttrByItsOwn _ _ _ _ _ _) _ _ _;unfold getAttrByItsOwn hookBefore;refine wpAny_bind (b.at ?_);refine wpAny_bind (wpAny_attempt (wpAny_holding ?_));show wpAny _ _ (boundAndCalled _ _ _) _ _ _;unfold boundAndCalled;rw[f];refine wpAny_bind (wpAny_pure ?_);refine wpAny_call (codeAny_call_builtin PySem.F.attr_ValueError.ga.plain PySem.F.entry_bexc_ga ?_);have h:builtinKind "BaseException.__getattribute__" = some .slot:=by decide +kernel
 have e:splitId "BaseException.__getattribute__" = some ("BaseException", "__getattribute__"):=by decide +kernel
 simp only[checkBuiltinCall,h,e];unfold isInstance;refine wpAny_bind (wpAny_bind (c.at (k.at ?_)));simp only[Bool.not_true,ybJ,if_false];have ha:=PySem.F.args_bexc_ga (.ref er) (.str "__class__" t);unfold argsOk at ha;refine wpAny_of_eq (a:=()) ha ?_;show wpAny _ _ (Builtin.«object.__getattribute__» _) _ _ _;unfold Builtin.«object.__getattribute__»;refine wpAny_bind (wpAny_pure ?_);refine wpAny_bind (wpAny_pure ?_);refine wpAny_bind (c.at ?_);refine wpAny_bind (l.at ?_);show wpAny _ _ (Builtin.ObjectAttr.bindTo _ _ _ _) _ _ _;unfold Builtin.ObjectAttr.bindTo;refine wpAny_bind (wpAny_holding (wpAny_call (PySem.W.class_get X i mo ?_)));exact wpAny_pure (PySem.W.handed_on rfl (wpAny_pure q))
noncomputable def errOk (K:Fg) (C:Addr):Bool:=PySem.W.excIn K C bmV "ValueError.__new__" && (PySem.W.findIn K (.ref C) "__getattribute__" == some (some (.builtin "BaseException.__getattribute__")))&&(PySem.W.findIn K (.ref C) "__getattr__" == some none)&&(PySem.W.mroIn K C (.type "BaseException") == some true)&&(PySem.W.clsIn K C).isSome&&(PySem.W.findIn K (.ref C) "__class__" == some (some (.builtin "object.__class__"))) &&
 (PySem.W.specialIn K (.builtin "object.__class__") "__get__" == some (some (.builtin "getset_descriptor.__get__")))&&(PySem.W.takesIn K (.builtin "object.__class__") == some true)&&(PySem.W.mroIn K C (.type "object") == some true)
def errOk.own(h:errOk K C=true):OwnErr K C:=by
 unfold errOk at h;simp only[y4]at h;exact h.1.1.1.1.1.1.1.1
def zpR(h:errOk K C=true):PySem.W.KitX K (.ref er) (.ref C) (zhY er C):=by
 unfold errOk at h;simp only[y4,beq_iff_eq]at h;obtain⟨⟨⟨⟨⟨⟨⟨⟨_,ga⟩,p⟩,d⟩,cl⟩,u⟩,sn⟩,tk⟩,j⟩:=h;obtain⟨t,a⟩:=ybj.mp cl;have there:∃o:Obj,K.lookup C=some o/\o.data=.cls t:=by
  unfold PySem.W.clsIn at a;split at a
  ·rename_i b;cases a;exact⟨_,b,rfl⟩
  ·cases a
 obtain⟨o,b,dt⟩:=there;refine⟨λM h _ ⟨f,i⟩=>i.type,λM h X _ A Q E s k q=>?_,λh tp dd its n x X e=>?_,λ{prog w A E Q s} X ⟨f,i⟩ q=>?_⟩
 ·have g:=k _ _ (X _ _ b);obtain⟨v,y,c,r⟩:=o;simp only at dt;subst dt;unfold isType loadHead;exact wpAny_bind (wpAny_loadPart g (wpAny_pure q))
 ·rw[Bool.eq_false_iff];intro z;have l:C=tp:=Value.ref.inj (beq_iff_eq.mp z);subst l;have g:=X _ _ b;rw[e]at g;cases g;cases dt
 ·have m:PySem.W.findObj K C none "__class__" = some (.bind (.builtin "getset_descriptor.__get__") (.builtin "object.__class__")):=by
   unfold PySem.W.findObj;rw[a,Option.bind_some,u,Option.bind_some];simp[sn,tk]
  exact zoh ga p m j d X i q
noncomputable def zow (C:Addr) (a:XK) (ta:TA):TS:=λ_ σ H=>ta σ H λvs H1=>vs.length<=sizeLine/\a (.ref C) none H1
noncomputable def ztN (X:Cx) (C:Addr) (a:XK):Prop:=∀(pins:List (Addr × Obj)) (σ:St) (H:Hp) (s:Shared) (h':Heap) (er:Addr) (args:List Value),Inv X pins σ H s->Heap.MadeExcOf s.heap h' er (.ref C) args->a (.ref C) none H->X.xe (.ref er) { s with heap:=h' }
def zlh{g cpos pos:Pos}{es:List Expr}{ta:TA}{c:XK}(j:X.calm=true)(f:Gl X x)(n:X.mg x=some (.ref C))(l:OwnErr X.K C)(ha:PA X (e :: es) ta)(hl:ztN X C c)
  (hdb:autoParam ((x == ("__debug__" : Str))=false) Internal.aut1._auto_1) (he:autoParam "0g" Internal.aut2._auto_1) (hpl:autoParam ((backTo cpos (starEach es X.env)).any (·.1)=false) Internal.aut2._auto_1) :
  PS X (.Raise (some (.Call (.Name x g) (e :: es) [] cpos)) none pos) (zow C c ta):=by
 intro pins s σ H D I h;obtain⟨p,N,nm,o,bs,hd,sn,sub,ab,col,dd,k0,k1,k2,k3,k5,t,d,k,i,b⟩:=l.obj I.ok.mod.kin;have pl:(backTo cpos (starEach (e :: es) X.env)).any (·.1)=false:=by rw[he];exact hpl
 refine wpAny_Raise_call_subT PySem.F.excBase_ValueError (C:=C) (nm:=nm) (q:=o) (N:=N) (bs:=bs) (hdct:=hd) (sn:=sn) (sub:=sub) (ab:=ab) (col:=col) (dd:=dd) (k0:=k0) (k1:=k1) (k2:=k2) (k3:=k3) (k5:=k5) (b.hasType "0a") (I.ok.hd j) pl i (zeJ I f n ⟨rfl,?_⟩ hdb);have run:=ha cpos pins s σ H _ I h;rw[he]at run ⊢;refine Calls.evalArgs_plain (wpAny_mono run (λus m q=>?_) λ_ _ z=>z);obtain⟨vs,H1,a,r,z,ex⟩:=q;exact⟨rfl,by rw[<- r.length];exact z,a.bk _ _ d,k.keeps a.bk,b.keeps a.bk,λh' er mk=>hl pins σ H1 m h' er us a mk ex⟩
def zoM{P:Program}{w:World}{K:Fg}{mg:Str->Option Value}{base:Heap}{N:List Str}{qual:Str}{scope:Scope}{f:Addr}{i:Value}{A:Around}{outer:List Env}{s:Shared}{H:Hp}{E:XK}{C:Addr} :
  ztN (zaQ (CXF P w) P w K mg base N qual scope f i A outer s H E) C E:=by
 intro pins σ H1 m h' er args I mk ex;have G:=I.stack;have x:∀env∈(envOfC qual scope s.heap.objs.size f i :: outer),∀b,env.frame=some b->b∈frs (envOfC qual scope s.heap.objs.size f i :: outer):=λenv S b c=>ybI.mpr ⟨env,S,c⟩;have O:∀b o,(PySem.W.hideAll m.heap (frs (envOfC qual scope s.heap.objs.size f i :: outer))).get? b=some o->m.heap.get? b=some o:=λb o q=>PySem.W.of_hideAll _ q;have g:∀b o,m.heap.get? b=some o->b∉frs (envOfC qual scope s.heap.objs.size f i :: outer)->(PySem.W.hideAll m.heap (frs (envOfC qual scope s.heap.objs.size f i :: outer))).get? b=some o:=λb o q n=>PySem.W.hideAll_get _ q n;have l:∀b o,s.heap.get? b=some o->b∉frs outer->b∉frs (envOfC qual scope s.heap.objs.size f i :: outer):=λb o q n z=>by
  rcases yy.mp (show b∈s.heap.objs.size :: frs outer from z)with z | z
  ·exact yv (Heap.lt_size q) z
  ·exact n z
 have d:∀b o u,H1 b=some o->m.heap.get? b=some u->(PySem.W.hideAll m.heap (frs (envOfC qual scope s.heap.objs.size f i :: outer))).get? b=some u:=λb o u q e=>g b u e λz=>by
  have:=I.stkFree b z
  rw[q]at this;cases this
 show wpAny (model P w) (A.deeper (envOfC qual scope s.heap.objs.size f i)) (leaving (envOfC qual scope s.heap.objs.size f i) (.ref er)) _ _ _;have J:Bare er { m with heap:=h' }:=by
  obtain⟨t,e,_⟩:=mk.there;exact⟨_,(Heap.get?_some_iff.mp e).1,rfl⟩
 refine wpAny_mono (DK.any (E:=λ_ _=>False) (Q:=λ_ p=>Bare er p->CXF P w outer H s E (.ref er) p) (zil _ _) J ?_) (λ_ p q=>q.1 q.2) λ_ _ q=>q.1.elim;refine wpAny_leaves_madeW (L:=s.heap.objs.size) (base:=PySem.W.hideAll m.heap (frs (envOfC qual scope s.heap.objs.size f i :: outer))) (h:=m.heap) I.ok.frames rfl O (PySem.W.funFrames_hide G x) mk λr t fly _ _ up b1=>?_;refine⟨er,C,t,_,H1,rfl,⟨I.os,I.bare,⟨λb o q n c _=>?_,λb o q n c _=>?_,λb o q n _=>I.base.free b o q n (by simp[zaQ]),λb o q _=>?_,I.base.tups,I.base.frzs,I.base.tbls⟩,?_,fly,λb o q n c=>?_,λb o q c=>?_,?_,b1⟩,ex⟩
 ·exact fly.1 b o (g b o (I.base.keep b o q n c (by simp[zaQ])) (l b o q c))
 ·obtain⟨T,j⟩:=I.base.slot b o q n c (by simp[zaQ]);obtain⟨_,k,R,F⟩:=I.ok.funs.mem c;have y:s.heap.get? b=some k:=R;rw[q]at y;cases y;obtain⟨v,M⟩:=up b _ (mk.keeps b _ j) F;exact⟨v,M⟩
 ·by_cases c:b∈frs outer
  ·obtain⟨_,k,j,_⟩:=fly.2.2.1.mem c;exact⟨k,j⟩
  ·obtain⟨k,j⟩:=I.base.there b o q (by simp[zaQ]);exact⟨k,fly.1 b k (g b k j (l b o q c))⟩
 ·intro a o e;exact(I.hok a o e).stay (λb u c q=>fly.1 b u (by
   rcases c with rfl | c
   ·exact d b o u e q
   ·exact d b _ u c q)) (λ_ q=>q) λ_ _ q=>q
 ·exact g b o (I.base.keep b o q n c (by simp[zaQ])) (l b o q c)
 ·obtain⟨k,j⟩:=I.base.there b o q (by simp[zaQ]);exact⟨k,g b k j (l b o q c)⟩
 ·intro b o u q e;obtain⟨B,j⟩:=(I.hok b o q).obj;have z:=fly.1 b B (d b o B q j);have D:r.get? b=some u:=e;rw[z]at D;cases D;exact d b o _ q j
abbrev Cx.inH(X:Cx)(er:Addr):Cx:={ X with A:=X.A.mark (some (.ref er)),calm:=false,xe:=λ_ _=>False }
theorem Cx.Ok.inH{X:Cx}(ok:X.Ok)(er:Addr):(X.inH er).Ok:=
 ⟨ok.mod,ok.kind,ok.glob,ok.blt,ok.above,ok.inj,ok.has,ok.cab,λz=>(by cases z),ok.frames,ok.stk,ok.exf,ok.bs,ok.bsz,ok.noex,ok.exfs,ok.funs,ok.frf⟩
section
variable {X:Cx}{pins:List (Addr × Obj)}{σ:St}{H H':Hp}{s s':Shared}
theorem Inv.inH(I:Inv X pins σ H s)(er:Addr):Inv (X.inH er) pins σ H s:=⟨I.ok.inH er,I.os,I.bare,I.base,I.loc,I.cell,I.free,I.freeC,I.pin,I.hok,I.len⟩
def Inv.outH(ok:X.Ok)(I:Inv (X.inH er) pins σ H s):Inv X pins σ H s:=⟨ok,I.os,I.bare,I.base,I.loc,I.cell,I.free,I.freeC,I.pin,I.hok,I.len⟩
def zoH{n:Str}{pos:Pos}{Q:Unit->Shared->Prop}{E:Value->Shared->Prop}(I:Inv X pins σ H s)(G:X.N.Nodup)(hi:X.N[i]?=some n)(hl:X.env.kindOf n=some .local)(q:∀s2,Inv X pins (σ.set i none) H s2->Q () s2) :
  wpAny "0f" X.A (do bindName X.env n .none;unbindBehindTheSuite X.env n pos) Q E s:=by
 obtain⟨m,F,R⟩:=id I.loc;obtain⟨T,_,_,S,_⟩:=id F;refine wpAny_nameGoes_keeps hl F (by rw[I.ok.kind];rfl) λh' v D a=>q _ ?_;have l:∀b o,X.s₀.heap.get? b=some o->b≠X.env.locals:=λb o e=>yv (yC (Heap.lt_size e) I.ok.above);refine⟨I.ok,I.os,I.bare,⟨λb o e n t g=>(a.2 b (l b o e)).trans (I.base.keep b o e n t g),λb o e n t g=>?_,I.base.free,λb o e g=>?_,I.base.tups,I.base.frzs,I.base.tbls⟩,⟨_,D,λj y K f h O=>?_⟩,λy c e=>?_,I.free,I.freeC,λp hp=>?_,λb P e=>?_,by rw[yaw];exact I.len⟩
 ·obtain⟨L,f⟩:=I.base.slot b o e n t g;exact⟨L,(a.2 b (l b o e)).trans f⟩
 ·obtain⟨o',f⟩:=I.base.there b o e g;exact⟨o',(a.2 b (l b o e)).trans f⟩
 ·by_cases B:j=i
  ·subst B;have C:j < σ.length:=by rw[I.len];exact(yh.mp hi).1
   rw[ybq C]at h;cases h
  ·rw[ybx (ya8 B)]at h;obtain⟨u,r,z⟩:=R j y K f h O;refine⟨u,r,?_⟩;have M:y≠n:=λz=>B (zht G f (z▸hi));rcases z with⟨k,e⟩ | ⟨k,c,e,z⟩
   ·exact .inl ⟨k,by show(if y=n then v else m y)=some u;rw[if_neg M];exact e⟩
   ·exact .inr ⟨k,c,e,z.sameBut a (I.cne y c e)⟩
 ·obtain⟨u,z⟩:=I.cell y c e;exact⟨u,z.sameBut a (I.cne y c e)⟩
 ·obtain⟨e,n,ne,J,d⟩:=I.pin p hp;exact⟨(a.2 p.1 ne).trans e,n,ne,J,d⟩
 ·refine(I.hok b P e).stay (λc u x q=>(a.2 c ?_).trans q) (λ_ q=>q) λ_ _ q=>q;rintro rfl;rcases x with rfl | x
  ·have:=I.free;rw[e]at this;cases this
  ·have:=I.free;rw[x]at this;cases this
noncomputable def Ends.gone (D:Ends) (i:Nat):Ends:=⟨λσ H=>D.nx (σ.set i none) H,D.rt,λσ H=>D.bk (σ.set i none) H,λσ H=>D.ct (σ.set i none) H⟩
theorem SP.gone{i:Nat}{D:Ends}{f:Flow}{er:Addr}(ok:X.Ok)(h:SP (X.inH er) pins (D.gone i) f s):∃a H',Inv X pins a H' s/\∀b,Inv X pins (a.set i none) H' b->SP X pins D f b:=by
 cases f with
 | next=>obtain⟨a,H',I,q⟩:=h;exact⟨a,H',I.outH ok,λb J=>⟨_,_,J,q⟩⟩
 | brk=>obtain⟨a,H',I,q⟩:=h;exact⟨a,H',I.outH ok,λb J=>⟨_,_,J,q⟩⟩
 | cont=>obtain⟨a,H',I,q⟩:=h;exact⟨a,H',I.outH ok,λb J=>⟨_,_,J,q⟩⟩
 | ret u=>obtain⟨v,a,H',I,r,q⟩:=h;exact⟨a,H',I.outH ok,λb J=>⟨v,_,_,J,r,q⟩⟩
def taken{er C J t:Addr}{B:Heap}{l n:Str}{U hp:Pos}{L:Stmt}{c:List Stmt}{rest:List ExceptHandler}{i:Nat}{th:TS}{D:Ends}(f:X.stack=X.env :: X.outer/\X.env.frame=some X.env.locals)(I:Inv X pins σ H s)
  (F:Fly X.prog X.w X.stack H s H' er C t B s') (hg:Gl X l) (hm:X.mg l=some (.ref J)) (hx:PySem.W.exmOne X.K (.ref C) (.ref J)=some true) (hN:X.N.Nodup) (hi:X.N[i]?=some n) (hl:X.env.kindOf n=some .local)
  (hth:PSs (X.inH er) (L :: c) th) (q:th (D.gone i) (σ.set i (some (.ref er))) (upd H' er (zcY er C))) (hdb:(l == ("__debug__" : Str))=false) :
  wpAny "0f" X.A (noteFrame (.ref er) X.env) (λ_ P=>wpAny "0f" X.A (setFlight (.ref er) none) (λ_ s₃=>
   wpAny "0f" X.A (handleBy (.ref er) X.env (.ExceptHandler (some (.Name l U)) (some n) (L :: c) hp :: rest)) (SP X pins D) X.xe s₃) X.xe P) X.xe s':=by
 have G:X.A.frames=some (X.env :: X.outer):=by rw[I.ok.frames,f.1]
 have k:Heap.FlyingW B (X.env :: X.outer) er (.ref C) (.ref t) s'.heap:=f.1▸F.fly;have at':∀{h:Heap},B.StaysIn h->s'.heap.UpToSlots h->∀tk,Inv X pins σ H' { s' with heap:=h,toks:=tk }:=λ{h} st up tk=>
  I.call' (s':={ s' with heap:=h,toks:=tk }) (ch:=[]) F.os (F.unAt I.stack st up) (F.hokAt st) F.bare λ_ z=>nomatch z
 refine wpAny_mono (DK.any (E:=λ_ _=>False) (Q:=λ_ d=>Bare er d->_) (zmS _ _) F.nod (wpAny_looks_onW G f.2 k λh4 g p V=>?_)) (λ_ d q=>q.1 q.2) λ_ _ q=>q.1.elim;refine wpAny_mono (DK.any (E:=λ_ _=>False) (Q:=λ_ d=>Bare er d->_) (zeb _ _) V (wpAny_landsW g λM b m Y=>?_)) (λ_ d q=>q.1 q.2) λ_ _ q=>q.1.elim;have up:s'.heap.UpToSlots M:=p.trans m;have O:=(at' b.1 up s'.toks).inH er;obtain⟨ob,x,r⟩:=b.there;refine wpAny_handleBy_cons (codeAny_handlers_test (zeJ (X:=X.inH er) O hg hm ?_ hdb)) (by intro z;cases z);have LT:PySem.W.Looks "0f" M (typeOf (.ref er)) (.ref C):=r▸(PySem.W.Looks.ld x).andThen .now;refine(PySem.W.exm_one O.kIn LT hx) _ _ _ _ (λ_ _ e=>e) ?_;show codeAny _ _ _ _ _;refine codeAny_handlers_suite_as ?_;refine wpAny_mono (DK.any (E:=λ_ _=>False) (Q:=λ_ d=>Bare er d->_) (zeb _ _) Y (lands_againW b λu a j S=>?_)) (λ_ d q=>q.1 q.2) λ_ _ q=>q.1.elim;have J6:=at' a.1 (up.trans j) s'.toks;have u6:Un (frs X.stack) [] H (upd H' er (zcY er C)) s.heap u:=F.unEr (F.unAt I.stack a.1 (up.trans j));have Z:Inv X pins σ (upd H' er (zcY er C)) { s' with heap:=u }:=
  I.call' (s':={ s' with heap:=u }) (ch:=[]) F.os u6 (ztl (F.hokAt a.1) F.noTrk (zpC a S)) F.bare λ_ z=>nomatch z
 refine ze8 (X:=X.inH er) (i:=i) (v:=.ref er) (Z.inH er) hN hi (.inl hl) rfl (λs7 T=>?_) (.inr hl);refine wpAny_mono (hth pins s7 _ _ _ T q) (λfl s8 R=>?_) λ_ _ z=>z.elim;obtain⟨σ9,H9,I9,fin⟩:=SP.gone I.ok R;exact zoH I9 hN hi hl λy o=>fin y o
end
def Fun.okX{P:Program}{w:World}{mg:Str->Option Value}{base:Heap}{CX:CXT}{f:Addr}{k:Nat}(F:Fun K x qual st f fd)(S:FnScope N ps (zm st))(len:∀vs H Q E,sp vs H Q E->vs.length=ps.length)
  (body:∀(a:Value) (A:Around) (outer:List Env) (s:Shared) (H:Hp) (vs:List V) (Q:VK) (E:XK),Room k (A.deeper (envOfC qual (zm st) s.heap.objs.size f a))->sp vs H Q E ->
   ∃t,PSs (zaQ CX P w K mg base N qual (zm st) f a A outer s H E) (zcA st) t/\t { nx:=λ_ H'=>Q .non H',rt:=Q } (start N vs) H):FnOk P w K mg base CX (k+1) f fd ps sp:=by
 obtain⟨j,l,kV,h,i,an,a,ct,e,rfl,g,b⟩:=F.ex;exact zrl g b S len λA outer s H vs Q E d c=>body a A outer s H vs Q E d c
noncomputable def znj (K:Fg) (a:Addr) (i:Nat) (sp:Sp) (ta:TA) (th:TS):TS:=λD σ H=>ta σ H λvs H1=>sp vs H1 (λ_ H2=>D.nx σ H2) λcls _ H2=>
 ∃C,cls=.ref C/\PySem.W.exmOne K (.ref C) (.ref a)=some true/\∀er,H2 er=none->th (D.gone i) (σ.set i (some (.ref er))) (upd H2 er (zcY er C))
def zr3{X:Cx}{k:Nat}{f o:Addr}{fd:FuncData}{ps:List Str}{sp:Sp}{x l n:Str}{p j m L hp pos:Pos}{e:Expr}{es:List Expr}{ta:TA}{y:Stmt}{a:List Stmt}{i:Nat}{th:TS}
  (hst:X.stack=X.env :: X.outer/\X.env.frame=some X.env.locals) (F:FnOk X.prog X.w X.K X.mg X.base (CXF X.prog X.w) k f fd ps sp) (hr:Room k X.A) (hgf:Gl X x) (hmf:X.mg x=some (.ref f)) (hk:PySem.W.keepIn X.K (.ref f)=true) (hb:Binds X.K fd ps [])
  (ha:PA X.nox (e :: es) ta) (hg:Gl X l) (hm:X.mg l=some (.ref o)) (hN:X.N.Nodup) (hi:X.N[i]?=some n) (hl:X.env.kindOf n=some .local) (hth:∀er,PSs (X.inH er) (y :: a) th)
  (hdf:autoParam ((x == ("__debug__" : Str))=false) Internal.aut1._auto_1) (hdb:autoParam ((l == ("__debug__" : Str))=false) Internal.aut1._auto_1) (he:autoParam "0g" Internal.aut2._auto_1) (hpl:autoParam ((backTo j (starEach es X.env)).any (·.1)=false) Internal.aut2._auto_1)
  (hsw:autoParam (swapsWith (.Call (.Name x p) (e :: es) [] j) none m.line X.env=pure false) Internal.aut2._auto_1) :
  PS X (.Try [.Expr (.Call (.Name x p) (e :: es) [] j) m] [.ExceptHandler (some (.Name l L)) (some n) (y :: a) hp] [] [] pos) (znj X.K o i sp ta th):=by
 intro pins s σ H D I h;refine wpAny_Try_except (wpAny_execs_cons (wpAny_Expr_any ?_ I.quiet hsw));refine wpAny_Call_Name_kw (zeJ I hgf hmf ?_ hdf);refine PySem.W.callWith_K (h₀:=X.base) I.ok.mod.kin hk (wpAny_mono (ha j pins s σ H _ (I.wish _) h) (λus G q=>?_) λ_ _ z=>z.elim) he hpl;obtain⟨vs,H1,M,r,q⟩:=q;have g:=M.unwish;refine⟨g.kIn,?_⟩;have d:us.length=ps.length:=by rw[<- r.length];exact F.len _ _ _ _ q
 have c:=hb G us g.kIn (by rw[yag];exact d);rw[yag]at c;refine wpAny_call (codeAny_mono (F.run X.A X.stack G H1 ⟨us,[]⟩ us vs _ _ hr g.env0 c r q) λres s' b=>?_);cases res with
 | error er0=>
  obtain⟨er,C,t,B,H2,rfl,E,S,O,R,Q⟩:=b;cases O;exact taken hst g E hg hm R hN hi hl (hth er) (Q er E.noTrk) hdb
 | ok fw=>
  cases fw with
  | ret u=>
   obtain⟨v,H2,P,_,J⟩:=g.after b;exact wpAny_execs_nil (wpAny_execs_nil ⟨σ,H2,P,J⟩)
  | next=>exact b.elim
  | brk=>exact b.elim
  | cont=>exact b.elim
noncomputable def zc3 (K:Fg):List V->Hp->VK->Prop:=λxs H Q=>(∃er C c cv b,xs=[.ref er,c]/\RelV c cv/\H er=some (zcY er C)/\errOk K C=true/\PySem.W.kitOne K (.ref C) cv=some b/\Q (.bl b) H)\/zfg K xs H Q
def zn5:CallR X (.builtin "isinstance") (zc3 X.K):=by
 refine CallR.or ?_ zlN;intro pins s σ H xs us Q I r h;obtain⟨er,C,c,cv,b,rfl,e,l,ok,g,q⟩:=h;obtain⟨u,d,rfl,i,f⟩:=vals2 r;obtain rfl:u=Value.ref er:=i;have j:zhY er C s.heap:=(I.hok er _ l).1;have k:d=cv:=by
  cases c with
  | ty n=>exact(show d=_ from f).trans (show cv=_ from e).symm
  | ref a=>exact(show d=_ from f).trans (show cv=_ from e).symm
  | non=>exact(show d=_ from f).trans (show cv=_ from e).symm
  | bl b=>exact(show d=_ from f).trans (show cv=_ from e).symm
  | _=>obtain⟨_,rfl⟩:=e;simp[PySem.W.kitOne,PySem.W.kitCls]at g
 subst k;exact yaj (zpR ok) I.kIn j g (by intro z;cases z) λtk=>⟨.bl b,H,I.tok tk,rfl,q⟩
def zhQ(q:zfg K xs H Q):zc3 K xs H Q:=.inr q
def zri{c:V}{cv:Value}{b:Bool}(h:H er=some (zcY er C))(ok:errOk K C=true)(a:RelV c cv)(e:PySem.W.kitOne K (.ref C) cv=some b)(q:Q (.bl b) H):zc3 K [.ref er,c] H Q:=.inl ⟨er,C,c,cv,b,rfl,a,h,ok,e,q⟩
def zsl{a:XK}{ta:TA}{D:Ends}(q:ta σ H λvs H1=>vs.length<=sizeLine/\a (.ref C) none H1):zow C a ta D σ H:=q
def ztv{K:Fg}{a:Addr}{i:Nat}{ta:TA}{th:TS}{D:Ends} (q:ta σ H λvs H1=>sp vs H1 (λ_ H2=>D.nx σ H2) λcls _ H2=>
 ∃C,cls=.ref C/\PySem.W.exmOne K (.ref C) (.ref a)=some true/\∀er,H2 er=none->th (D.gone i) (σ.set i (some (.ref er))) (upd H2 er (zcY er C))):znj K a i sp ta th D σ H:=q
def zmT{a:Addr}{th:TS}{D:Ends}(c:PySem.W.exmOne K (.ref C) (.ref a)=some true)(q:∀er H',H er=none->Same H H'->H' er=some (zcY er C)->th D (σ.set i (some (.ref er))) H') :
  ∃C',Value.ref C=Value.ref C'/\PySem.W.exmOne K (.ref C') (.ref a)=some true/\∀er,H er=none->th D (σ.set i (some (.ref er))) (upd H er (zcY er C')):=⟨C,rfl,c,λer b=>q er _ b (Same.new b _) zam⟩
def zks{D:Addr}(h:PySem.W.hasDictIn K D=true):(PySem.W.clsIn K D).isSome=true:=by
 obtain⟨a,e,_⟩:=PySem.W.any_some h;rw[e];rfl
def errOk_mk(x:PySem.W.excIn K C [.type "ValueError",.type "Exception",.type "BaseException",.type "object"] "ValueError.__new__" = true)(ga:PySem.W.findIn K (.ref C) "__getattribute__" = some (some (.builtin "BaseException.__getattribute__")))(b:PySem.W.findIn K (.ref C) "__getattr__" = some none)(a:PySem.W.mroIn K C (.type "BaseException")=some true)(hd:PySem.W.hasDictIn K C=true)
  (fa:PySem.W.findIn K (.ref C) "__class__" = some (some (.builtin "object.__class__"))) (sn:PySem.W.specialIn K (.builtin "object.__class__") "__get__" = some (some (.builtin "getset_descriptor.__get__"))) (tk:PySem.W.takesIn K (.builtin "object.__class__")=some true)
  (mo:PySem.W.mroIn K C (.type "object")=some true):errOk K C=true:=by
 unfold errOk bmV;rw[x,ga,b,a,zks hd,fa,sn,tk,mo];simp
def zhD{t:Value}{D:Addr}{b:Bool}(hd:PySem.W.hasDictIn K D=true)(a:PySem.W.typeIn K (.ref D)=some (.type "type"))(c:PySem.W.subIn K t (.ref D)=some b):PySem.W.kitCls K t (.ref D)=some b:=by
 unfold PySem.W.kitCls;simp only;rw[zks hd,a,if_pos (by simp)];exact c
def kit_ne{D:Addr}{b:Bool}(h:C≠D)(hd:PySem.W.hasDictIn K D=true)(a:PySem.W.typeIn K (.ref D)=some (.type "type"))(c:PySem.W.subIn K (.ref C) (.ref D)=some b):PySem.W.kitOne K (.ref C) (.ref D)=some b:=by
 unfold PySem.W.kitOne;rw[if_neg (by intro z;exact h (Value.ref.inj (beq_iff_eq.mp z)))];exact zhD hd a c
def kit_self:PySem.W.kitOne K (.ref C) (.ref C)=some true:=by
 unfold PySem.W.kitOne;rw[if_pos (by simp)]
def exm_mk{D:Addr}{b:Bool}(d:PySem.W.subIn K (.ref D) (.type "BaseException")=some true)(hd:PySem.W.hasDictIn K D=true)(c:PySem.W.typeIn K (.ref D)=some (.type "type"))(a:PySem.W.subIn K (.ref C) (.ref D)=some b):PySem.W.exmOne K (.ref C) (.ref D)=some b:=by
 unfold PySem.W.exmOne;rw[d,if_pos (by simp)];exact zhD hd c a
section
variable {X:Cx}
def zcF:zf3 X (zdG X.K):=by
 intro pins s σ H x y v u Q I g k h;obtain⟨p,xs,i,z,rfl,rfl,e,m,q⟩:=h;cases g;obtain⟨t,rfl⟩:=k;obtain⟨its,r,pl,n⟩:=I.list e;obtain⟨j,h1,h2,A,l,f⟩:=zgB m;obtain⟨w,c,b⟩:=r.get h2;have hl:=r.length;have o:=line63;have fin:EP X pins σ Q w s:=⟨z,H,I,b,q⟩
 by_cases d:0<=i
 ·have a:i.toNat=j:=by
   rw[seqIndex_of d f]at h1;exact yn h1
  exact wpAny_getItem_list pl.isList d ⋯ (by rw[a];simpa using c) fin
 ·have a:(i+(its.toArray.size:Int)).toNat=j:=by
   rw[seqIndex_neg ⋯ l]at h1;rw[yp,<- hl];exact yn h1
  exact wpAny_getItem_list_neg pl.isList ⋯ (by rw[yp]<;>lia) ⋯ (by rw[a];simpa using c) fin
end
noncomputable def Src (J:It) (P:Hp->Prop) (n:Nat) (Y:Nat->V->Hp->Prop):Prop:=
 (∀i H,P H->i<n->J.go i H)/\(∀H,P H->J.stop n H)/\∀i H x H',P H->i<n->J.yld i H x H'->Same H H'/\Y i x H'
def zC{α:Type}{xs:List α}(h:i<xs.length):∃x,xs[i]?=some x:=⟨xs[i],by simp[h]⟩
def zW:Src (Itl K a) (λH=>SqL K H a xs) xs.length (λi x _=>xs[i]?=some x):=
 ⟨λi H h hi=>by obtain⟨x,b⟩:=zC hi;exact⟨xs,x,h,b⟩,λH h=>⟨xs,h,yg _⟩,λi H x H' h hi ⟨q,r⟩=>by subst q;exact⟨Same.refl _,r xs h⟩⟩
def zbw:Src (Itr lo n) (λ_=>True) n (λi x _=>x=.int (lo+i)):=
 ⟨λi H e hi=>hi,λH e=>yg _,λi H x H' e hi ⟨q,r⟩=>by subst q;exact⟨Same.refl _,r⟩⟩
def zab:Src (Itn K a) (λH=>SqL K H a xs) xs.length (λi x H=>∃p v,x=.ref p/\xs[i]?=some v/\H p=some (.tup [.int i,v])):=
 ⟨λi H h hi=>by obtain⟨x,b⟩:=zC hi;exact⟨xs,x,h,b⟩,λH h=>⟨xs,h,yg _⟩,λi H x H' h hi ⟨p,v,hp,q,r,z⟩=>by subst z;exact⟨Same.new hp _,p,v,q,r xs h,zam⟩⟩
def zmx{ys:List V}:Src (Itz K a b) (λH=>SqL K H a xs/\SqL K H b ys) (min xs.length ys.length) (λi x H=>∃p v w,x=.ref p/\xs[i]?=some v/\ys[i]?=some w/\H p=some (.tup [v,w])):=
 ⟨λi H h hi=>by
  obtain⟨x,e⟩:=zC (show i<xs.length by lia);obtain⟨y,d⟩:=zC (show i<ys.length by lia);exact⟨xs,ys,x,y,h.1,h.2,e,d⟩,λH h=>⟨xs,ys,h.1,h.2,⋯⟩,λi H x H' h hi ⟨p,v,w,hp,q,r,c,z⟩=>by subst z;exact⟨Same.new hp _,p,v,w,q,r xs h.1,c ys h.2,zam⟩⟩
section
variable {σ:St}{H:Hp}{Q:VK}{D:Ends}{ta tb tc te to ti:TE}{t u:TS}{K:Fg}
def zc1{P:Hp->Prop}{Y:Nat->V->Hp->Prop}{g:TG}{tb:TS}(S:Src J P n Y)(b:Nat->St->Hp->Prop)(h:b 0 σ H)(c:∀i σ H,b i σ H->P H)
  (hs:∀i x σ H H',i<n->b i σ H->Same H H'->Y i x H'->g x σ H' λd H2=>tb { D with nx:=b (i+1),ct:=b (i+1),bk:=D.nx } d H2) (hd:∀σ H,b n σ H->D.nx σ H):zny J g tb D σ H:=by
 refine⟨λi m σ H=>m=n-i/\i<=n/\b i σ H,⟨n,by simp,yW _,h⟩,?_⟩;rintro i m σ H ⟨rfl,hi,p⟩;by_cases a:i<n
 ·refine .inr ⟨S.1 i H (c i σ H p) a,b (i+1),λj H' q=>⟨n-(i+1),⋯,rfl,a,q⟩,λx H' y=>?_⟩;obtain⟨e,f⟩:=S.2.2 i H x H' (c i σ H p) a y;exact hs i x σ H H' a p e f
 ·have:i=n:=by lia
  subst this;exact .inl ⟨S.2.1 H (c i σ H p),hd σ H p⟩
noncomputable def zdj (J:It) (caps:List (Option Nat)) (g:TG) (tf:TT) (te:TE) (σ:St) (Q:VK) (H1:Hp):Prop:=∀D,H1 D=none ->
 ∃W:Nat->Nat->St->Hp->Prop,(∃m,W 0 m (zb8 caps σ) (upd H1 D (.lst [])))/\∀i m σ' H',W i m σ' H' ->
  (J.stop i H'/\Q (.ref D) H')\/(J.go i H'/\∃N:St->Hp->Prop,(∀σ2 H2,N σ2 H2->∃m',m'<m/\W (i+1) m' σ2 H2) /\
   ∀x H2,J.yld i H' x H2->g x σ' H2 λa d=>tf a d λb c=>if b=true then te a c λv e=>zbO (.ref D) [v] e λ_ f=>N a f else N a c)
def ztn{te:TE}(q:wi σ H λJ H1=>zdj J caps g tf te σ Q H1):zeR wi caps g tf te σ H Q:=q
def zj9{T:Bool->Hp->Prop}(q:T true H):zd8 σ H T:=q
noncomputable def CompN (H:Hp) (b:St->Prop) (a:Nat->List V->Hp->Prop) (D:Addr) (i:Nat) (c:St) (H':Hp):Prop:=b c/\Same H H'/\∃vs,H' D=some (.lst vs)/\vs.length<=i/\a i vs H'
def zmR{P:Hp->Prop}{Y:Nat->V->Hp->Prop}{g:TG}{tf:TT}{te:TE}(S:Src J P n Y)(k:∀H',Same H H'->P H')(f:St->Prop)(c:Nat->List V->Hp->Prop)(u:f (zb8 caps σ))(A:∀H',Same H H'->c 0 [] H')
  (hs:∀i x D vs d H' H2,i<n->H D=none->f d->Same H H'->H' D=some (.lst vs)->vs.length<=i->c i vs H'->Same H' H2->Y i x H2->g x d H2 λh r=>tf h r λb o=>if b=true then te h o λv w=>zbO (.ref D) [v] w λ_ z=>CompN H f c D (i+1) h z else CompN H f c D (i+1) h o)
  (hq:∀D H' vs,H D=none->Same H H'->H' D=some (.lst vs)->vs.length<=n->c n vs H'->Q (.ref D) H'):zdj J caps g tf te σ Q H:=by
 intro D j;refine⟨λi m d H'=>m=n-i/\i<=n/\CompN H f c D i d H',⟨n,by simp,yW _,u,Same.new j _,[],zam,yg _,A _ (Same.new j _)⟩,?_⟩;rintro i m d H' ⟨rfl,hi,B,e,vs,l,hl,p⟩;by_cases a:i<n
 ·refine .inr ⟨S.1 i H' (k _ e) a,CompN H f c D (i+1),λC H2 q=>⟨n-(i+1),⋯,rfl,a,q⟩,λx H2 y=>?_⟩;obtain⟨t,s⟩:=S.2.2 i H' x H2 (k _ e) a y;exact hs i x D vs d H' H2 a j B e l hl p t s
 ·have:i=n:=by lia
  subst this;exact .inl ⟨S.2.1 H' (k _ e),hq D H' vs j e l hl p⟩
def zN{P:Hp->Prop}{Y:Nat->V->Hp->Prop}{g:TG}{tf:TT}{te:TE}(S:Src J P n Y)(m:∀H',Same H H'->P H')(s:zb8 caps σ=none :: rest)(a:Nat->List V->Hp->Prop)(p:∀H',Same H H'->a 0 [] H')
  (hs:∀i x D vs o H' H2,i<n->H D=none->Same H H'->H' D=some (.lst vs)->vs.length<=i->a i vs H'->Same H' H2->Y i x H2->g x (o :: rest) H2 λd j=>tf d j λb e=>if b=true then te d e λv u=>zbO (.ref D) [v] u λ_ l=>CompN H (λc=>∃o,c=o :: rest) a D (i+1) d l else CompN H (λc=>∃o,c=o :: rest) a D (i+1) d e)
  (hq:∀D H' vs,H D=none->Same H H'->H' D=some (.lst vs)->vs.length<=n->a n vs H'->Q (.ref D) H'):zdj J caps g tf te σ Q H:=
 zmR S m (λc=>∃o,c=o :: rest) a ⟨_,s⟩ p (λi x D vs c H' H2 a1 a2 ⟨o,w⟩ r k h t f q=>by subst w;exact hs i x D vs o H' H2 a1 a2 r k h t f q) hq
def zaz{P:Hp->Prop}{Y:Nat->V->Hp->Prop}{g:TG}{tf:TT}{te:TE}(S:Src J P n Y)(m:∀H',Same H H'->P H')(s:zb8 caps σ=none :: none :: rest)(a:Nat->List V->Hp->Prop)(p:∀H',Same H H'->a 0 [] H')
  (hs:∀i x D vs o o' H' H2,i<n->H D=none->Same H H'->H' D=some (.lst vs)->vs.length<=i->a i vs H'->Same H' H2->Y i x H2->g x (o :: o' :: rest) H2 λd j=>tf d j λb e=>if b=true then te d e λv u=>zbO (.ref D) [v] u λ_ l=>CompN H (λc=>∃o o',c=o :: o' :: rest) a D (i+1) d l else CompN H (λc=>∃o o',c=o :: o' :: rest) a D (i+1) d e)
  (hq:∀D H' vs,H D=none->Same H H'->H' D=some (.lst vs)->vs.length<=n->a n vs H'->Q (.ref D) H'):zdj J caps g tf te σ Q H:=
 zmR S m (λc=>∃o o',c=o :: o' :: rest) a ⟨_,_,s⟩ p (λi x D vs c H' H2 a1 a2 ⟨o,o',w⟩ r k h t f q=>by subst w;exact hs i x D vs o o' H' H2 a1 a2 r k h t f q) hq
def zs6{R:It->Hp->Prop}(h:SqL K H a xs)(q:R (Itn K a) H):znh K R [.ref a] H:=⟨a,rfl,⟨xs,h⟩,q⟩
def zto{R:It->Hp->Prop}{ys:List V}(h:SqL K H a xs)(h':SqL K H b ys)(q:R (Itz K a b) H):zpN K R [.ref a,.ref b] H:=⟨a,b,rfl,⟨xs,h⟩,⟨ys,h'⟩,q⟩
def ztm{t:TGs}{R:St->Hp->Prop}(h:H a=some (.tup xs))(b:xs.length=n)(q:t xs σ H R):zbs K n t (.ref a) σ H R:=⟨a,xs,rfl,SqT.of h,b,q⟩
def zsk{r:List V}{t:TG}{u:TGs}{R:St->Hp->Prop}(q:t v σ H λa H'=>u r a H' R):zj8 t u (v :: r) σ H R:=⟨v,r,rfl,q⟩
def zup{R:St->Hp->Prop}(q:R σ H):zpX [] σ H R:=⟨rfl,q⟩
def zu2{x:V}{a:TIp}(e:σ[i]?=some (some x))(q:te σ H λy H1=>a x y H1 λz H2=>D.nx (σ.set i (some z)) H2):zpP i te a D σ H:=⟨x,e,q⟩
def zvq{f:Int->Int->Int}{i j:Int}(q:Q (.int (f i j)) H):ipI f (.int i) (.int j) H Q:=⟨i,j,rfl,rfl,q⟩
def zuh{b:V->V->Hp->VK->Prop}{c:TIp}{a:ziD}(q:to σ H λo H1=>ti σ H1 λi H2=>b o i H2 λx d=>te σ d λy e=>c x y e λz f=>a o i z f λg=>D.nx σ g):zro to ti te b c a D σ H:=q
def zou{i:Int}(h:SqL K H a xs)(e:atI xs i=some v)(q:Q v H):zdG K (.ref a) (.int i) H Q:=⟨a,xs,i,v,rfl,rfl,h,e,q⟩
def zkr{x:V}{k:Int}(h:H l=some (.lst [x]))(a:0<=k)(h1:k<=100000)(q:∀p H',H p=none->Same H H'->H' p=some (.lst (List.replicate k.toNat x))->Q (.ref p) H'):zek (.ref l) (.int k) H Q:=
 .inr ⟨l,k,[x],rfl,rfl,h,⋯,⋯,by have:=zcx (n:=k.toNat) ⋯;simpa using this,λp hp=>by
  have e:(List.replicate k.toNat [x]).flatten=List.replicate k.toNat x:=by
   generalize k.toNat=n
   induction n with
   | zero=>rfl
   | succ n ih=>rw[yaB,ya5,ih,yaB];rfl
  rw[e];exact q p _ hp (Same.new hp _) zam⟩
def zd0{zs:List V}(h:H l=some (.lst xs))(h':H b=some (.lst zs))(a:xs.length+zs.length<=100000)(q:∀p H',H p=none->Same H H'->H' p=some (.lst (xs++zs))->Q (.ref p) H'):zka K (.ref l) (.ref b) H Q:=
 .inr (.inl ⟨l,b,xs,zs,rfl,rfl,h,h',zcx a,λp hp=>q p _ hp (Same.new hp _) zam⟩)
def zrI(h:SqL K H a (ns.map V.int))(q:Q (.int (zS ns)) H):znl K [.ref a] H Q:=⟨a,ns,rfl,h,q⟩
end
def zux{p:Prop}[Decidable p]{A B:Prop}(h:p)(a:A):if decide p=true then A else B:=by rw[decide_eq_true h];exact zef a
def ztQ{p:Prop}[Decidable p]{A B:Prop}(h:¬p)(b:B):if decide p=true then A else B:=by rw[decide_eq_false h];exact zih b
def zsn{p:Prop}[Decidable p]{A B:Prop}(h:p)(b:B):if(!decide p)=true then A else B:=by rw[decide_eq_true h];exact zih b
section
variable {α:Type}{f:α->List V}
noncomputable def IsTs (f:α->List V) (H:Hp):List V->List α->Prop
 | [],[]=>True
 | v :: vs,x :: xs=>(∃a,v=.ref a/\H a=some (.tup (f x)))/\IsTs f H vs xs
 | _,_=>False
noncomputable def zqh (H H':Hp):Prop:=∀a xs,H a=some (.tup xs)->H' a=some (.tup xs)
def Same.tups(e:Same H H'):zqh H H':=λa xs h=>e a _ h
def LBut.tups(e:LBut l H H'):zqh H H':=λa xs h=>e.tup h
theorem IsTs.keep{H H':Hp}(e:zqh H H'):∀{vs:List V} {xs:List α},IsTs f H vs xs->IsTs f H' vs xs
 | [],[],_=>trivial
 | _ :: _,_ :: _,⟨⟨a,q,h⟩,r⟩=>⟨⟨a,q,e a _ h⟩,r.keep e⟩
def IsTs.same{xs:List α}(h:IsTs f H vs xs)(e:Same H H'):IsTs f H' vs xs:=h.keep e.tups
def Same.isTs{xs:List α}(e:Same H H')(h:IsTs f H vs xs):IsTs f H' vs xs:=h.keep e.tups
def LBut.isTs{xs:List α}(e:LBut l H H')(h:IsTs f H vs xs):IsTs f H' vs xs:=h.keep e.tups
theorem IsTs.length{H:Hp}:∀{vs:List V} {xs:List α},IsTs f H vs xs->vs.length=xs.length
 | [],[],_=>rfl
 | _ :: _,_ :: _,⟨_,r⟩=>by rw[yay,yay,r.length]
theorem IsTs.app{H:Hp}{a:Addr}{x:α}(h:H a=some (.tup (f x))):∀{vs:List V} {xs:List α},IsTs f H vs xs->IsTs f H (vs++[.ref a]) (xs++[x])
 | [],[],_=>⟨⟨a,rfl,h⟩,trivial⟩
 | _ :: _,_ :: _,⟨q,r⟩=>⟨q,r.app h⟩
theorem IsTs.get{H:Hp}:∀{vs:List V} {xs:List α} {i:Nat} {v:V},IsTs f H vs xs->vs[i]?=some v->∃a x,v=.ref a/\xs[i]?=some x/\H a=some (.tup (f x))
 | _ :: _,x :: _,0,_,⟨⟨a,q,h⟩,_⟩,e=>by cases e;exact⟨a,x,q,rfl,h⟩
 | _ :: _,_ :: _,i+1,_,⟨_,r⟩,e=>by obtain⟨a,x,q,b,h⟩:=r.get (i:=i) e;exact⟨a,x,q,b,h⟩
def IsTs.getI{xs:List α}{x:α}(h:IsTs f H vs xs)(e:xs[i]?=some x):∃a,vs[i]?=some (.ref a)/\H a=some (.tup (f x)):=by
 have hi:i<vs.length:=by rw[h.length];exact(yh.mp e).1
 obtain⟨v,b⟩:=zC hi;obtain⟨a,y,q,c,h'⟩:=h.get b;rw[e]at c;cases c;exact⟨a,by rw[b,q],h'⟩
theorem IsTs.rep{K:Fg}{H:Hp}{d:α->List PyData}(hd:∀x,RepAll K H (f x) (d x)):∀{vs:List V} {xs:List α},IsTs f H vs xs->RepAll K H vs (xs.map λx=>.tuple (d x))
 | [],[],_=>.nil
 | _ :: _,_ :: _,⟨⟨a,q,h⟩,r⟩=>by subst q;exact .cons (.tup (.of h) (hd _)) (r.rep hd)
end
noncomputable def vec (n:Nat) (f:Nat->Int):List Int:="0i".map f
def zG:(vec n f).length=n:=by simp[vec]
def zK(h:i<n):(vec n f)[i]?=some (f i):=by simp[vec,h]
def zbt{g:Nat->Int}(h:∀i,i<n->f i=g i):vec n f=vec n g:=by
 unfold vec;exact yK λi hi=>h i (yP.mp hi)
def zst{v:Int}:(vec n f).set j v=vec n (λi=>if i=j then v else f i):=by
 refine yab λi=>?_;rw[yaI];by_cases hi:i<n
 ·rw[zK hi,zK hi,zG];by_cases e:j=i
  ·subst e;simp[hi]
  ·rw[if_neg e,if_neg (ya8 e)]
 ·have h1:(vec n f)[i]?=none:=by rw[yaF,zG];lia
  have h2:∀g,(vec n g)[i]?=none:=λg=>by rw[yaF,zG];lia
  rw[h1,h2,zG];by_cases e:j=i
  ·subst e;simp[hi]
  ·rw[if_neg e]
def zaK:vec (n+1) f=vec n f++[f n]:=by unfold vec;rw[yA,yi];rfl
def zr9:List.replicate n (V.int c)=(vec n λ_=>c).map V.int:=by
 refine yab λi=>?_;rw[yaY,ye];by_cases hi:i<n
 ·rw[zK hi,if_pos hi];rfl
 ·have h2:(vec n λ_=>c)[i]?=none:=by rw[yaF,zG];lia
  rw[h2,if_neg hi];rfl
def ziW{k:Int}{v:Int}(a:0<=k)(h:ns[k.toNat]?=some v):atI (ns.map V.int) k=some (.int v):=zaZ a (by rw[ye,h];rfl)
def zpr{k:Int}(a:0<=k)(h:k<n):atI ((vec n f).map V.int) k=some (.int (f k.toNat)):=ziW a (zK ⋯)
def zpK{v:Int}:(ns.map V.int).set j (.int v)=(ns.set j v).map V.int:=by rw[ybW]
def zr2{v:Int}:((vec n f).map V.int).set j (.int v)=(vec n (λi=>if i=j then v else f i)).map V.int:=by rw[zpK,zst]
def zsI{k:Int}(a:0<=k)(h:k<n):ixN ((vec n f).map V.int).length k=some k.toNat:=by
 rw[ya,zG];exact zdA a h
theorem zbx{K:Fg}{H:Hp}:∀ns:List Int,RepAll K H (ns.map V.int) (ns.map PyData.int)
 | []=>.nil
 | n :: ns=>.cons (.int n) (zbx ns)
theorem zbX:∀ns:List Int,PyData.depthAll (ns.map PyData.int)=0
 | []=>by simp[PyData.depthAll]
 | n :: ns=>by rw[yam,PyData.depthAll,zbX ns];simp[PyData.depth]
theorem zk7:∀ns:List Int,PyData.canLayAll0 (ns.map PyData.int)=true
 | []=>by simp[PyData.canLayAll0]
 | n :: ns=>by rw[yam,PyData.canLayAll0,zk7 ns];simp[PyData.canLay0]
def zc2{ds:List PyData}:(PyData.list ds).depth=PyData.depthAll ds+1:=by simp[PyData.depth];try lia
section
variable {H:Hp}{Q:VK}{K:Fg}
def zjc{ms:List Int}(h:ns=ms):PyData.eqv (.list (ns.map PyData.int)) (.list (ms.map PyData.int))=true:=by
 subst h;exact ybA _ (by rw[PyData.canLay0];exact zk7 ns)
def zhm{ms:List Int}(h1:SqL K H a (ns.map V.int))(h2:SqL K H b (ms.map V.int))(e:ns=ms)(q:Q (.bl true) H):zd4 K (.ref a) (.ref b) H Q:=
 znB (.lst h1 (zbx ns)) (.lst h2 (zbx ms)) (by rw[zc2,zbX];lia) (by rw[zjc e];exact q)
def zhf{ms:List Int}(h1:SqL K H a (ns.map V.int))(h2:SqL K H b (ms.map V.int))(e:ns=ms)(q:Q (.bl false) H):zdX K (.ref a) (.ref b) H Q:=
 zhC (.lst h1 (zbx ns)) (.lst h2 (zbx ms)) (by rw[zc2,zbX];lia) (by rw[zjc e];exact q)
end
section
variable {σ:St}{H:Hp}{Q:VK}{D:Ends}{K:Fg}
def zqI{k:Int}(h:H l=some (.lst ((vec n f).map V.int)))(a:0<=k)(h1:k<n)(q:Q (.int (f k.toNat)) H):zdG K (.ref l) (.int k) H Q:=zou (.of h) (zpr a h1) q
def zmy{k:Int}(h:H l=some (.lst ((vec n f).map V.int)))(a:0<=k)(h1:k<n)(q:Q (.int (f k.toNat)) H):rIx K (.ref l) (.int k) H Q:=zhB h (zpr a h1) q
def zpU{k v:Int}{R:Hp->Prop}(h:H l=some (.lst ((vec n f).map V.int)))(a:0<=k)(h1:k<n)
  (q:∀H',LBut l H H'->H' l=some (.lst ((vec n λi=>if i=k.toNat then v else f i).map V.int))->R H'):zh8 (.ref l) (.int k) (.int v) H R:=by
 refine zdo h (zsI a h1) λH' b e=>q H' b ?_;rw[e,zr2]
def znZ{i:Int}(h:H a=some (.tup xs))(e:atI xs i=some v)(q:Q v H):rIx K (.ref a) (.int i) H Q:=zrs (.of h) e q
def zqX{k:Int}(h:H l=some (.lst [.int c]))(d:0<=k)(h1:k<=100000)(q:∀p H',H p=none->Same H H'->H' p=some (.lst ((vec k.toNat λ_=>c).map V.int))->Q (.ref p) H'):zek (.ref l) (.int k) H Q:=
 zkr h d h1 λp H' a b c=>q p H' a b (by rw[c,zr9])
theorem CompN.int{c:St->Prop}{D:Addr}{i:Nat}{b:St}{a:Hp}{f:Nat->Int}{v:Int}(d:c b)(e:Same H a)(h:a D=some (.lst ((vec i f).map V.int++[.int v])))(g:v=f i):CompN H c (λi vs _=>vs=(vec i f).map V.int) D (i+1) b a:=
 ⟨d,e,_,h,by simp[zG],by show _++[V.int v]=List.map V.int (vec (i+1) f);rw[g,zaK,yi];rfl⟩
end
def zsK(j:zb8 caps σ=none :: rest)(l:n<=100000)(q:∀p H',H p=none->Same H H'->H' p=some (.lst ((vec n λ_=>c).map V.int))->Q (.ref p) H'):zdj (Itr lo n) caps (zbW 0) zd8 (tC (.int c)) σ Q H:=by
 refine zN zbw (λ_ _=>trivial) j (λi vs _=>vs=(vec i λ_=>c).map V.int) (λ_ _=>rfl) ?_ ?_
 ·rintro i x D vs o H' H2 hi a e f d rfl g rfl;refine zgz (zj9 (zef (x_c (zfD (g.at f) ⋯ λk b h=>?_))));exact CompN.int ⟨_,rfl⟩ (b.same (e.trans g) a) h rfl
 ·rintro D H' vs a e f d rfl;exact q D H' a e f
noncomputable def zcz (H:Hp) (Q:VK) (ns:List Int):Prop:=∀p H',H p=none->Same H H'->H' p=some (.lst (ns.map V.int))->Q (.ref p) H'
set_option genInjectivity false in
set_option genSizeOf false in
structure Due where
 p:Int
 q:Int
 r:Int
 a:Int
variable {d:Due}{ds:List Due}
noncomputable def zdC (d:Due):List V:=[.int d.p,.int d.q,.int d.r,.int d.a]
noncomputable def zkK (d:Due):List PyData:=[.int d.p,.int d.q,.int d.r,.int d.a]
noncomputable def zo (n:Int) (d:Due):Prop:=0<=d.p/\d.p<n/\0<=d.q/\d.q<n/\d.p≠d.q/\0<=d.r/\d.r<3/\0<=d.a/\d.a<=100000000000000
noncomputable def IsSh (K:Fg) (H:Hp) (a:Addr) (ds:List Due):Prop:=∃vs,SqL K H a vs/\IsTs zdC H vs ds
theorem IsSh.same{K:Fg}{H H':Hp}{a:Addr}{ds:List Due}(h:IsSh K H a ds)(e:Same H H'):IsSh K H' a ds:=by
 obtain⟨vs,h1,h2⟩:=h;exact⟨vs,e.seq h1,h2.same e⟩
def Same.isSh(e:Same H H')(h:IsSh K H a ds):IsSh K H' a ds:=h.same e
theorem IsSh.of{K:Fg}{H:Hp}{a:Addr}{vs:List V}{ds:List Due}(h:H a=some (.lst vs))(t:IsTs zdC H vs ds):IsSh K H a ds:=⟨vs,.of h,t⟩
noncomputable def zvk (H:Hp) (Q:VK) (ds:List Due):Prop:=∀p H' vs,H p=none->Same H H'->H' p=some (.lst vs)->IsTs zdC H' vs ds->Q (.ref p) H'
def zpy(h:IsTs zdC H vs ds):RepAll K H vs (ds.map λd=>.tuple (zkK d)):=
 h.rep λd=>.cons (.int _) (.cons (.int _) (.cons (.int _) (.cons (.int _) .nil)))
def zpu(d:Due):(PyData.tuple (zkK d)).depth=1:=by simp[zkK,PyData.depth,PyData.depthAll]
theorem zii:∀ds:List Due,PyData.depthAll (ds.map λd=>.tuple (zkK d))<=1
 | []=>by simp[PyData.depthAll]
 | d :: ds=>by
  have:=zii ds
  rw[yam,PyData.depthAll,zpu];lia
noncomputable def zao (ds:List Due) (m:Nat):Int:=ds.foldl (fun(s:Int) (d:Due)=>if d.p=(m:Int)then s+d.a else s) 0
noncomputable def zaM (ds:List Due) (m:Nat):Int:=ds.foldl (fun(s:Int) (d:Due)=>if d.q=(m:Int)then s+d.a else s) 0
noncomputable def zan (ds:List Due) (m:Nat):Int:=zaM ds m-zao ds m
def zbh(ds:List Due)(d:Due)(m:Nat):zao (ds++[d]) m=if d.p=(m:Int)then zao ds m+d.a else zao ds m:=by unfold zao;rw[yat];rfl
def za7(ds:List Due)(d:Due)(m:Nat):zaM (ds++[d]) m=if d.q=(m:Int)then zaM ds m+d.a else zaM ds m:=by unfold zaM;rw[yat];rfl
def zai{α:Type}{xs:List α}{x:α}(h:xs[i]?=some x):xs.take (i+1)=xs.take i++[x]:=by
 obtain⟨hi,rfl⟩:=yh.mp h;exact yaV hi
noncomputable def zkO (K:Fg):Sp:=λvs H Q _=>∃n a ds,vs=[.int n,.ref a]/\IsSh K H a ds/\0<=n/\n<=1000/\(∀d∈ds,zo n d)/\zcz H Q (vec n.toNat (zao ds))
noncomputable def zli (K:Fg):Sp:=λvs H Q _=>∃n a ds,vs=[.int n,.ref a]/\IsSh K H a ds/\0<=n/\n<=1000/\(∀d∈ds,zo n d)/\zcz H Q (vec n.toNat (zan ds))
section
variable {K:Fg}{H:Hp}{Q:VK}{E:XK}{n:Int}{a:Addr}{ds:List Due}
def zqQ:=λh b h1 hd q=>@id (zkO K [.int n,.ref a] H Q E) ⟨n,a,ds,rfl,h,b,h1,hd,q⟩
def zpA:=λh b h1 hd q=>@id (zli K [.int n,.ref a] H Q E) ⟨n,a,ds,rfl,h,b,h1,hd,q⟩
end
noncomputable def zeQ (K:Fg):Sp:=λvs H Q _=>∃(a:Addr) (ns:List Int) (n:Int),vs=[.ref a,.int n]/\H a=some (.lst (ns.map V.int))/\Q (.bl (decide ((ns.length:Int)=n))) H
def zfd:=λ{K:Fg} {a:Addr} {ns:List Int} {n:Int} {H:Hp} {Q:VK} {E:XK} h q=>@id (zeQ K [.ref a,.int n] H Q E) ⟨a,ns,n,rfl,h,q⟩
def znE{n:Int}(h:H a=some (.lst ((vec n.toNat f).map V.int)))(b:0<=n)(q:Q (.bl true) H):zeQ K [.ref a,.int n] H Q E:=
 zfd h (by rw[decide_eq_true (by rw[zG];lia)];exact q)
noncomputable def Rows (H:Hp) (as:List Addr) (k:Nat) (F:Nat->Nat->Int):Prop:=as.Nodup/\∀i a,as[i]?=some a->H a=some (.lst ((vec k (F i)).map V.int))
section
variable {H H':Hp}{as bs:List Addr}{k:Nat}{F G:Nat->Nat->Int}{K:Fg}{Q:VK}
def Rows.same(h:Rows H as k F)(e:Same H H'):Rows H' as k F:=⟨h.1,λi a q=>e _ _ (h.2 i a q)⟩
def Rows.mem(h:Rows H as k F)(m:a∈as):∃i,i<as.length/\as[i]?=some a/\H a=some (.lst ((vec k (F i)).map V.int)):=by
 obtain⟨i,hi,e⟩:=yB m
 have:as[i]?=some a:=by rw[yh];exact⟨hi,e⟩
 exact⟨i,hi,this,h.2 i a this⟩
def Rows.but(h:Rows H as k F)(g:LBut l H H')(n:l∉as):Rows H' as k F:=
 ⟨h.1,λi a q=>g.lst (h.2 i a q) λz=>n (z▸yb q)⟩
def zbF(n:as.Nodup)(h:as[i]?=some a)(h':as[j]?=some a):i=j:=by
 obtain⟨hi,e⟩:=yh.mp h;obtain⟨c,b⟩:=yh.mp h';exact(ybU n).mp (e.trans b.symm)
def Rows.set(h:Rows H as k F)(g:LBut a H H')(ha:as[j]?=some a)(q:H' a=some (.lst ((vec k f).map V.int))):Rows H' as k (λi=>if i=j then f else F i):=by
 refine⟨h.1,λi b c=>?_⟩;by_cases e:i=j
 ·subst e;rw[ha]at c;cases c;show H' a=some (.lst ((vec k (if i=i then f else F i)).map V.int));rw[if_pos rfl];exact q
 ·show H' b=some (.lst ((vec k (if i=j then f else F i)).map V.int));rw[if_neg e];refine g.lst (h.2 i b c) λz=>e ?_;subst z;exact zbF h.1 c ha
def Rows.congr(h:Rows H as k F)(e:∀i,i<as.length->∀j,j<k->F i j=G i j):Rows H as k G:=by
 refine⟨h.1,λi a q=>?_⟩;have hi:i<as.length:=(yh.mp q).1;rw[h.2 i a q,zbt λj b=>e i hi j b]
def Rows.app(h:Rows H as k F)(n:p∉as)(hp:H p=some (.lst ((vec k (F as.length)).map V.int))):Rows H (as++[p]) k F:=by
 refine⟨yaz.mpr ⟨h.1,by simp,λa ha b d e=>n (by rw[yu]at d;subst d;subst e;exact ha)⟩,λi a q=>?_⟩;rw[yaH]at q;split at q
 ·exact h.2 i a q
 ·rename_i hi;have c:i-as.length=0:=by
   cases e:i-as.length with
   | zero=>rfl
   | succ m=>rw[e]at q;cases q
  rw[c]at q;cases q
  have:i=as.length:=by lia
  subst this;exact hp
def Rows.ne{D:Addr}(h:Rows H as k F)(c:0<k)(a:H D=some (.lst (as.map V.ref))):D∉as:=λm=>by
 obtain⟨i,hi,q,e⟩:=h.mem m;rw[a]at e;have b:as.map V.ref=(vec k (F i)).map V.int:=by simpa using e
 cases as with
 | nil=>cases m
 | cons x xs=>
  cases k with
  | zero=>lia
  | succ k=>
   have:=congrArg (·[0]?) b
   simp[vec]at this
def Rows.fresh(h:Rows H as k F)(hp:H p=none):p∉as:=λm=>by
 obtain⟨i,_,_,e⟩:=h.mem m;rw[hp]at e;cases e
def zr7{p:Int}(h:H l=some (.lst (as.map V.ref)))(b:0<=p)(e:as[p.toNat]?=some a)(q:Q (.ref a) H):rIx K (.ref l) (.int p) H Q:=zhB h (zaZ b (by rw[ye,e];rfl)) q
end
noncomputable def zA (ds:List Due) (m r:Nat):Int:=ds.foldl (fun(s:Int) (d:Due)=>if d.p=(m:Int)/\d.r=(r:Int)then s+d.a else s) 0
def zaL(ds:List Due)(d:Due)(m r:Nat):zA (ds++[d]) m r=if d.p=(m:Int)/\d.r=(r:Int)then zA ds m r+d.a else zA ds m r:=by unfold zA;rw[yat];rfl
def zo2(p0:0<=d.p)(c:0<=d.r)(m r:Nat):(if m=d.p.toNat then λi=>if i=d.r.toNat then zA ds d.p.toNat d.r.toNat+d.a else zA ds d.p.toNat i else zA ds m) r=zA (ds++[d]) m r:=by
 rw[zaL];by_cases e:m=d.p.toNat
 ·rw[if_pos e];by_cases b:r=d.r.toNat
  ·rw[if_pos (show d.p=(m:Int)/\d.r=(r:Int) by lia)]
   show(if r=d.r.toNat then _ else _)=_
   rw[if_pos b,e,b]
  ·rw[if_neg (show ¬(d.p=(m:Int)/\d.r=(r:Int)) by lia)]
   show(if r=d.r.toNat then _ else _)=_
   rw[if_neg b,e]
 ·rw[if_neg e,if_neg (show ¬(d.p=(m:Int)/\d.r=(r:Int)) by lia)]
noncomputable def zhk (K:Fg):Sp:=λvs H Q _=>∃n a ds,vs=[.int n,.ref a]/\IsSh K H a ds/\0<=n/\n<=1000/\(∀d∈ds,zo n d) /\
 ∀l H' as,H l=none->Same H H'->H' l=some (.lst (List.map V.ref as))->as.length=n.toNat->Rows H' as 3 (zA ds)->(∀b∈as,H b=none)->Q (.ref l) H'
def zng:=λ{K:Fg} {n:Int} {a:Addr} {ds:List Due} {H:Hp} {Q:VK} {E:XK} h h0 h1 hd q=>@id (zhk K [.int n,.ref a] H Q E) ⟨n,a,ds,rfl,h,h0,h1,hd,q⟩
noncomputable def zet (K:Fg):Sp:=λvs H Q _=>∃a ds,vs=[.ref a]/\IsSh K H a ds/\ds.length<=1000/\zcz H Q (ds.map Due.a)
def zjV:=λ{K:Fg} {a:Addr} {ds:List Due} {H:Hp} {Q:VK} {E:XK} h h1 q=>@id (zet K [.ref a] H Q E) ⟨a,ds,rfl,h,h1,q⟩
noncomputable def zk (ds:List Due) (m:Nat->Int):List Due:=ds.mapIdx λi d=>⟨d.p,d.q,d.r,m i⟩
def zU{m:Nat->Int}:(zk ds m).length=ds.length:=by simp[zk]
def za8{m:Nat->Int}(h:ds[i]?=some d):(zk ds m)[i]?=some ⟨d.p,d.q,d.r,m i⟩:=by simp[zk,h]
def zbf{m:Nat->Int}(h:ds[i]?=some d):(zk ds m).take (i+1)=(zk ds m).take i++[⟨d.p,d.q,d.r,m i⟩]:=zai (za8 h)
noncomputable def zk0 (K:Fg):Sp:=λvs H Q _=>∃(a b:Addr) (ds:List Due) (ms:List Int),vs=[.ref a,.ref b]/\IsSh K H a ds/\SqL K H b (List.map V.int ms)/\ds.length<=ms.length/\ds.length<=1000/\zvk H Q (zk ds λi=>ms.getD i 0)
def zqw:=λ{K:Fg} {a b:Addr} {ds:List Due} {ms:List Int} {H:Hp} {Q:VK} {E:XK} h h' hl h1 q=>@id (zk0 K [.ref a,.ref b] H Q E) ⟨a,b,ds,ms,rfl,h,h',hl,h1,q⟩
def ze6{ms:List Int}(h:i<ms.length):ms[i]?=some (ms.getD i 0):=by rw[yf,yk h];rfl
end Internal
namespace My
variable {c:Int}{f:Nat->Int}{n:Nat}
noncomputable def sumTo (f:Nat->Int):Nat->Int
 | 0=>0
 | n+1=>sumTo f n+f n
theorem sumTo_congr{f g:Nat->Int}:∀{n:Nat},(∀i,i<n->f i=g i)->sumTo f n=sumTo g n
 | 0,_=>rfl
 | n+1,h=>by rw[sumTo,sumTo,sumTo_congr λi hi=>h i ⋯,h n ⋯]
theorem sumTo_add(f g:Nat->Int):∀n,sumTo (λi=>f i+g i) n=sumTo f n+sumTo g n
 | 0=>rfl
 | n+1=>by rw[sumTo,sumTo,sumTo,sumTo_add f g n];lia
theorem zfA(c:Int)(f:Nat->Int):∀n,sumTo (λi=>c*f i) n=c*sumTo f n
 | 0=>by simp[sumTo]
 | n+1=>by rw[sumTo,sumTo,zfA c f n,ybe]
theorem sumTo_nonneg{f:Nat->Int}:∀{n:Nat},(∀i,i<n->0<=f i)->0<=sumTo f n
 | 0,_=>y6 _
 | n+1,h=>by have:=sumTo_nonneg (n:=n) λi hi=>h i ⋯;have:=h n ⋯;rw[sumTo];lia
theorem zle{f g:Nat->Int}:∀{n:Nat},(∀i,i<n->f i<=g i)->sumTo f n<=sumTo g n
 | 0,_=>y6 _
 | n+1,h=>by have:=zle (n:=n) λi hi=>h i ⋯;have:=h n ⋯;rw[sumTo,sumTo];lia
def sumTo_zero(a:∀i,i<n->0<=f i)(h:sumTo f n=0):∀i,i<n->f i=0:=by
 induction n with
 | zero=>intro i hi;lia
 | succ n ih=>
  rw[sumTo]at h;have h1:=sumTo_nonneg (n:=n) λi hi=>a i ⋯;have h2:=a n ⋯;intro i hi;by_cases e:i=n
  ·subst e;lia
  ·exact ih (λi hi=>a i ⋯) ⋯ i ⋯
section
variable (ch:Nat->Bool)(x:Nat->Int)(L:Int)
noncomputable def rest:Nat->Int
 | 0=>L
 | i+1=>if ch i=true/\rest i>0 then rest i-1 else rest i
noncomputable def more (i:Nat):Int:=if ch i=true/\rest ch L i>0 then x i+1 else x i
noncomputable def cnt:Nat->Int
 | 0=>0
 | i+1=>if ch i=true then cnt i+1 else cnt i
variable {ch x L}
theorem rest_nonneg(h:0<=L):∀n,0<=rest ch L n
 | 0=>h
 | n+1=>by have:=rest_nonneg h n;rw[rest];split<;>lia
theorem zju:∀(d n:Nat),rest ch L (n+d)<=rest ch L n
 | 0,n=>y6 _
 | d+1,n=>by
  have:=zju d n
  show rest ch L ((n+d)+1)<=_;rw[rest];split<;>lia
theorem zhg:∀n,rest ch L n>0->L-rest ch L n=cnt ch n
 | 0,_=>by show L-L=0;lia
 | n+1,h=>by
  rw[rest]at h ⊢;rw[cnt];split at h
  ·rename_i q
   have:=zhg n ⋯
   rw[if_pos q,if_pos q.1];lia
  ·rename_i q;have a:=zhg n h
   have:¬ch n=true:=λz=>q ⟨z,h⟩
   rw[if_neg q,if_neg this];exact a
theorem sum_more:∀n,sumTo (more ch x L) n=sumTo x n+(L-rest ch L n)
 | 0=>by show(0:Int)=0+(L-L);lia
 | n+1=>by
  rw[sumTo,sumTo,sum_more n,more,rest];split<;>lia
def rest_end(h:0<=L)(a:L<=cnt ch n):rest ch L n=0:=by
 have b:=rest_nonneg (ch:=ch) h n;by_cases e:rest ch L n>0
 ·have:=zhg n e
  lia
 ·lia
end
def left_le{b:Nat->Int}{B:Int}(f:0<B)(g:sumTo b n=B):c-sumTo (λi=>c*b i/B) n<=cnt (λi=>decide (c*b i%B>0)) n/\0<=c-sumTo (λi=>c*b i/B) n:=by
 have h1:sumTo (λi=>c*b i%B) n=B*(c-sumTo (λi=>c*b i/B) n):=by
  have e:sumTo (λi=>c*b i) n=sumTo (λi=>B*(c*b i/B)+c*b i%B) n:=sumTo_congr λi _=>(ya9 _ _).symm;rw[sumTo_add,zfA,zfA,g]at e;rw[Int.mul_sub,yan B c];lia
 have h2:sumTo (λi=>c*b i%B) n<=(B-1)*cnt (λi=>decide (c*b i%B>0)) n:=by
  have:∀m,sumTo (λi=>c*b i%B) m<=(B-1)*cnt (λi=>decide (c*b i%B>0)) m:=by
   intro m
   induction m with
   | zero=>simp[sumTo,cnt]
   | succ m ih=>
    rw[sumTo,cnt];have h:=yao (c*b m) (b:=B) ⋯;have p2:=yak (c*b m) f;split
    ·rw[ybe];lia
    ·rename_i q
     have:¬c*b m%B>0:=λz=>q (decide_eq_true z)
     lia
  exact this n
 have a:0<=sumTo (λi=>c*b i%B) n:=sumTo_nonneg λi _=>yao _ ⋯;have d:0<=cnt (λi=>decide (c*b i%B>0)) n:=by
  have:∀m,0<=cnt (λi=>decide (c*b i%B>0)) m:=by
   intro m
   induction m with
   | zero=>exact y6 _
   | succ m ih=>rw[cnt];split<;>lia
  exact this n
 generalize c-sumTo (λi=>c*b i/B) n=L at *
 generalize cnt (λi=>decide (c*b i%B>0)) n=k at *
 rw[h1]at h2 a;constructor
 ·refine Int.not_lt.mp λq=>?_;have a1:(B-1)*k<=B*k:=by rw[Int.sub_mul];lia
  have a2:B*(k+1)<=B*L:=ya4 ⋯ ⋯;rw[ybe]at a2;lia
 ·refine Int.not_lt.mp λq=>?_;have a1:B*L<=B*(-1):=ya4 ⋯ ⋯;lia
end My
namespace Internal
variable {C a b l p:Addr}{E:XK}{H:Hp}{K:Fg}{Q:VK}{as:List Addr}{c:Int}{caps:List (Option Nat)}{d:Due}{ds:List Due}{f:Nat->Int}{i j k m n r z:Nat}{ns:List Int}{q:Rat}{qs:List Rat}{rest σ:St}{vs xs:List V}
open PySem PySem.Spec PyProof.Rows
theorem zaI(f:Nat->Int):∀n,zS (vec n f)=My.sumTo f n
 | 0=>rfl
 | n+1=>by rw[zaK,zdl,zaI f n];rfl
def zrF{k m:Int}(a:0<=k)(h:k<=m):k*k<=m*m:=Int.mul_le_mul h h a ⋯
noncomputable def ziM (K:Fg):Sp:=λvs H Q _=>∃(a:Addr) (ns:List Int) (k:Int),vs=[.ref a,.int k]/\SqL K H a (ns.map V.int)/\0<=k/\∀i,Q (.int i) H
def zpv:=λ{K:Fg} {a:Addr} {ns:List Int} {k:Int} {H:Hp} {Q:VK} {E:XK} hS h0 q=>@id (ziM K [.ref a,.int k] H Q E) ⟨a,ns,k,rfl,hS,h0,q⟩
noncomputable def ziG (K:Fg):Sp:=λvs H Q _=>∃(a:Addr) (ns:List Int) (k m:Int),vs=[.ref a,.int k,.int m]/\SqL K H a (ns.map V.int)/\0<=k/\k<=10000/\1<=m/\∀i,0<=i->i<m->Q (.int i) H
def zoA:=λ{K:Fg} {a:Addr} {ns:List Int} {k m:Int} {H:Hp} {Q:VK} {E:XK} hS h0 h1 hm q=>@id (ziG K [.ref a,.int k,.int m] H Q E) ⟨a,ns,k,m,rfl,hS,h0,h1,hm,q⟩
noncomputable def big:Int:=1000000000000000000000000000000000000000000000000000000000000
noncomputable def zg5 (K:Fg):Sp:=λvs H Q _=>∃(a:Addr) (ns:List Int) (k m:Int),vs=[.ref a,.int k,.int m]/\SqL K H a (ns.map V.int)/\0<=k/\k<=10000/\1<=m/\m<=1000000000000000000000000000000000000000000000000000000000000/\∀i,0<=i->i<m->Q (.int i) H
def zm6:=λ{K:Fg} {a:Addr} {ns:List Int} {k m:Int} {H:Hp} {Q:VK} {E:XK} hS h0 h1 hm hm' q=>@id (zg5 K [.ref a,.int k,.int m] H Q E) ⟨a,ns,k,m,rfl,hS,h0,h1,hm,hm',q⟩
noncomputable def zfK (K:Fg):Sp:=λvs H Q _=>∃(a:Addr) (ns:List Int) (k m:Int),vs=[.ref a,.int k,.int m]/\SqL K H a (ns.map V.int)/\0<=k/\k<=5000/\8<=m/\m<1000000000000000000000000000000000000000000000000000000000000/\∀i,0<=i->i<=m->Q (.int i) H
def zlM:=λ{K:Fg} {a:Addr} {ns:List Int} {k m:Int} {H:Hp} {Q:VK} {E:XK} hS h0 h1 hm hm' q=>@id (zfK K [.ref a,.int k,.int m] H Q E) ⟨a,ns,k,m,rfl,hS,h0,h1,hm,hm',q⟩
noncomputable def zhj (K:Fg) (C:Addr):Sp:=λvs H Q E=>∃(c:Int) (a:Addr) (ns:List Int),vs=[.int c,.ref a]/\SqL K H a (ns.map V.int)/\((c<=zS ns/\Q .non H)\/(zS ns<c/\E (.ref C) none H))
def znp(h:SqL K H a (ns.map V.int))(b:c<=zS ns)(q:Q .non H):zhj K C [.int c,.ref a] H Q E:=⟨c,a,ns,rfl,h,.inl ⟨b,q⟩⟩
noncomputable def bls (n:Nat) (ch:Nat->Bool):List V:="0i".map λi=>V.bl (ch i)
def ze4{ch:Nat->Bool}:bls (n+1) ch=bls n ch++[.bl (ch n)]:=by unfold bls;rw[yA,yi];rfl
def zmP{ch:Nat->Bool}:(bls n ch).length=n:=by simp[bls]
def zeA{ch:Nat->Bool}(h:i<n):(bls n ch)[i]?=some (.bl (ch i)):=by simp[bls,h]
noncomputable def zkD (K:Fg):Sp:=λvs H Q _=>∃(a b:Addr) (n:Nat) (x:Nat->Int) (ch:Nat->Bool) (L:Int),vs=[.ref a,.ref b,.int L]/\SqL K H a ((vec n x).map V.int)/\SqL K H b (bls n ch)/\n<=1000/\zcz H Q (vec n (My.more ch x L))
def zqN:=λ{K:Fg} {a b:Addr} {n:Nat} {x:Nat->Int} {ch:Nat->Bool} {L:Int} {H:Hp} {Q:VK} {E:XK} h h' hn q=>@id (zkD K [.ref a,.ref b,.int L] H Q E) ⟨a,b,n,x,ch,L,rfl,h,h',hn,q⟩
noncomputable def zba (c:Int) (n:Nat) (b:Nat->Int):Nat->Int:=if My.sumTo b n=0 then λ_=>0 else My.more (λi=>decide (c*b i%My.sumTo b n>0)) (λi=>c*b i/My.sumTo b n) (c-My.sumTo (λi=>c*b i/My.sumTo b n) n)
noncomputable def zq2 (K:Fg) (C:Addr):Sp:=λvs H Q _=>∃(c:Int) (a:Addr) (n:Nat) (b:Nat->Int),vs=[.int c,.ref a]/\SqL K H a ((vec n b).map V.int)/\n<=1000/\(∀i,i<n->0<=b i/\sz (b i)<=300)/\(0<=c/\c<=My.sumTo b n)/\sz (My.sumTo b n)<=300/\zcz H Q (vec n (zba c n b))
def zes{b:Nat->Int}(h:My.sumTo b n=0):zba c n b=λ_=>0:=by unfold zba;rw[if_pos h]
def zeS{b:Nat->Int}(h:¬My.sumTo b n=0):zba c n b=My.more (λi=>decide (c*b i%My.sumTo b n>0)) (λi=>c*b i/My.sumTo b n) (c-My.sumTo (λi=>c*b i/My.sumTo b n) n):=by unfold zba;rw[if_neg h]
theorem zcT:∀n,My.sumTo (λ_=>0) n=0
 | 0=>rfl
 | n+1=>by rw[My.sumTo,zcT n];rfl
def zjo{b:Nat->Int}(a:∀i,i<n->0<=b i)(d:0<=c/\c<=My.sumTo b n):My.sumTo (zba c n b) n=c:=by
 have e:=My.sumTo_nonneg a;by_cases h:My.sumTo b n=0
 ·rw[zes h,zcT];lia
 ·obtain⟨h1,h2⟩:=My.left_le (c:=c) (show 0<My.sumTo b n by lia) rfl;rw[zeS h,My.sum_more,My.rest_end h2 h1];lia
noncomputable def zcW (c:Int) (n:Nat) (b:Nat->Int) (i:Nat):Int:=My.rest (λi=>decide (c*b i%My.sumTo b n>0)) (c-My.sumTo (λi=>c*b i/My.sumTo b n) n) i
def zl4{c:Int}{b:Nat->Int}(h:0<My.sumTo b n)(i:Nat) :
  -My.sumTo b n<zba c n b i*My.sumTo b n-c*b i/\zba c n b i*My.sumTo b n-c*b i<My.sumTo b n/\(0<zba c n b i*My.sumTo b n-c*b i->0<zcW c n b i)/\(zba c n b i*My.sumTo b n-c*b i<0->zcW c n b (i+1)=0)/\(zcW c n b i=0->zcW c n b (i+1)=0):=by
 have l:0<=c-My.sumTo (λi=>c*b i/My.sumTo b n) n:=(My.left_le (c:=c) h rfl).2;have a:=My.rest_nonneg (ch:=λi=>decide (c*b i%My.sumTo b n>0)) l i;have e:=zeS (c:=c) (show ¬My.sumTo b n=0 by lia);have j:zba c n b i=if(decide (c*b i%My.sumTo b n>0))=true/\zcW c n b i>0 then c*b i/My.sumTo b n+1 else c*b i/My.sumTo b n:=by rw[e];rfl
 have f:zcW c n b (i+1)=if(decide (c*b i%My.sumTo b n>0))=true/\zcW c n b i>0 then zcW c n b i-1 else zcW c n b i:=rfl
 have k:0<=zcW c n b i:=a;rw[j,f];generalize zcW c n b i=r at *
 have o:=yao (c*b i) (b:=My.sumTo b n) ⋯;have m:=yak (c*b i) h;have d:=ya9 (c*b i) (My.sumTo b n);generalize My.sumTo b n=S at *
 generalize c*b i=x at *
 rw[yan]at d;by_cases q:decide (x%S>0)=true/\r>0
 ·have p:=of_decide_eq_true q.1;rw[if_pos q,if_pos q,ybr];refine⟨⋯,⋯,⋯,⋯,⋯⟩
 ·rw[if_neg q,if_neg q];refine⟨⋯,⋯,⋯,λg=>?_,⋯⟩
  have:decide (x%S>0)=true:=decide_eq_true ⋯
  have:¬r>0:=λz=>q ⟨this,z⟩
  lia
def zqm(l:SqL K H a xs)(k:zb8 caps σ=none :: rest)(n:xs.length<=100000)(q:∀p H',H p=none->Same H H'->H' p=some (.lst ((vec xs.length λ_=>c).map V.int))->Q (.ref p) H'):zdj (Itl K a) caps (zbW 0) zd8 (tC (.int c)) σ Q H:=by
 refine zN (zW (K:=K) (a:=a) (xs:=xs)) (λH' e=>e.seq l) k (λi vs _=>vs=(vec i λ_=>c).map V.int) (λ_ _=>rfl) ?_ ?_
 ·rintro i x D vs o H' H2 hi d e g f rfl h r;refine zgz (zj9 (zef (x_c (zfD (h.at g) ⋯ λm b j=>?_))));exact CompN.int ⟨_,rfl⟩ (b.same (e.trans h) d) j rfl
 ·rintro D H' vs d e g f rfl;exact q D H' d e g
def zpq(ms:List Int):ms=vec ms.length λi=>ms.getD i 0:=by
 refine yab λi=>?_;by_cases h:i<ms.length
 ·rw[zK h];exact ze6 h
 ·rw[yG ⋯,yG (by rw[zG];lia)]
def zp8{ms:List Int}(h:i<ms.length):ms.getD i 0∈ms:=yb (ze6 h)
theorem zdh{b:Nat->Int}{M:Int}:∀{n:Nat},(∀i,i<n->b i<=M)->My.sumTo b n<=n*M
 | 0,_=>by simp[My.sumTo]
 | n+1,h=>by
  have:=zdh (n:=n) λi hi=>h i ⋯
  have:=h n ⋯
  have e:((n+1:Nat):Int)*M=n*M+M:=by rw[Int.natCast_succ,ybr,yb4]
  rw[My.sumTo,e];lia
def zcc:ns.map V.int++[.int c]=(ns++[c]).map V.int:=by rw[yi];rfl
def ztL{P:Program}{w:World}{K:Fg}{mg:Str->Option Value}{base:Heap}{N:List Str}{qual:Str}{scope:Scope}{f:Addr}{i:Value}{A:Around}{outer:List Env}{s:Shared}{H:Hp}{E:XK} :
  zib (CXF P w) (zaQ (CXF P w) P w K mg base N qual scope f i A outer s H E) E:=by
 intro pins σ H1 O e M I G;obtain⟨er,C,t,B,H',rfl,F,ex⟩:=G;have v:=I.stack;have g:∀b o,s.heap.get? b=some o->b∉frs outer->b∉frs (envOfC qual scope s.heap.objs.size f i :: outer):=λb o q n z=>by
  rcases yy.mp (show b∈s.heap.objs.size :: frs outer from z)with z | z
  ·exact yv (Heap.lt_size q) z
  ·exact n z
 have sub:∀b∈frs outer,b∈frs (envOfC qual scope s.heap.objs.size f i :: outer):=λb a=>yV _ a;show wpAny (model P w) (A.deeper (envOfC qual scope s.heap.objs.size f i)) (leaving (envOfC qual scope s.heap.objs.size f i) (.ref er)) _ _ _;refine wpAny_mono (DK.any (E:=λ_ _=>False) (Q:=λ_ d=>Bare er d->CXF P w outer H s E (.ref er) d) (zil _ _) F.nod ?_) (λ_ d q=>q.1 q.2) λ_ _ q=>q.1.elim;refine wpAny_leaves_onW (L:=s.heap.objs.size) I.ok.frames rfl F.fly λl fly up b1=>?_;have h:=F.unAt v fly.1 up;refine⟨er,C,t,B,H',rfl,⟨F.os.trans I.os,F.bare,⟨λb o q n a _=>?_,λb o q n a _=>?_,λb o q n _=>?_,λb o q _=>?_,λb xs q=>h.tups b xs (I.base.tups b xs q),λb o xs q=>h.frzs b o xs (I.base.frzs b o xs q),λb ps q=>?_⟩,F.hokAt fly.1,fly,λb o q n a=>?_,λb o q a=>?_,λb o u q e=>?_,b1⟩,ex⟩
 ·exact h.keep b o (I.base.keep b o q n a (by simp[zaQ])) (I.base.free b o q n (by simp[zaQ])) (g b o q a) (by simp)
 ·obtain⟨J,c⟩:=I.base.slot b o q n a (by simp[zaQ]);obtain⟨m,k⟩:=h.slot b _ c (I.base.free b o q n (by simp[zaQ])) (sub b a) (by simp);exact⟨m,k⟩
 ·obtain⟨j,c⟩:=I.base.there b o q (by simp[zaQ]);exact h.free b j c (I.base.free b o q n (by simp[zaQ])) (by simp)
 ·obtain⟨j,c⟩:=I.base.there b o q (by simp[zaQ]);exact h.there b j c (by simp)
 ·obtain⟨D,c⟩:=I.base.tbls b ps q;obtain⟨y,k⟩:=h.tbls b _ c;exact⟨D++y,by rw[k,Array.append_assoc]⟩
 ·exact F.old b o (I.base.keep b o q n a (by simp[zaQ])) (I.base.free b o q n (by simp[zaQ])) (g b o q a)
 ·obtain⟨j,c⟩:=I.base.there b o q (by simp[zaQ]);exact F.has b j c (g b o q a)
 ·obtain⟨p,c⟩:=(F.hok b o q).obj;have z:=F.trk b o p q c;have x:=fly.1 b p z;have r:l.get? b=some u:=e;rw[x]at r;cases r;exact z
abbrev TEr:=St->Hp->VK->(Addr->Hp->Prop)->Prop
abbrev TTr:=Ends->(Addr->St->Hp->Prop)->St->Hp->Prop
section
variable {X:Cx}{pos:Pos}
abbrev zvx(te:TEr):TTr:=λD Eh σ H=>te σ H (λ_ H2=>D.nx σ H2) λC H2=>Eh C σ H2
abbrev zvH(c:TT)(t u:TTr):TTr:=λD Eh σ H=>c σ H λb H1=>if b=true then t D Eh σ H1 else u D Eh σ H1
abbrev zvB:TTr:=λD _ σ H=>D.nx σ H
end
section
variable {σ:St}{H:Hp}{Q:VK}{D:Ends}{K:Fg}{Eh:Addr->Hp->Prop}{Eg:Addr->St->Hp->Prop}
end
noncomputable def zah (ds:List Due) (pf:Nat->Int) (m:Nat):Int:=if -zan ds m-pf m>0 then -zan ds m-pf m else 0
noncomputable def zko (K:Fg):Sp:=λvs H Q _=>∃(a b:Addr) (ds:List Due) (n:Nat) (pf:Nat->Int),vs=[.ref a,.ref b]/\IsSh K H a ds/\SqL K H b ((vec n pf).map V.int)/\n<=100/\(∀d∈ds,zo n d)/\zcz H Q (vec n (zah ds pf))
def zrc:=λ{K:Fg} {a b:Addr} {ds:List Due} {n:Nat} {pf:Nat->Int} {H:Hp} {Q:VK} {E:XK} h h' hn hd q=>@id (zko K [.ref a,.ref b] H Q E) ⟨a,b,ds,n,pf,rfl,h,h',hn,hd,q⟩
open PySem PySem.W PySem.Calls PyProof.Rows
open PySem PySem.Spec PyProof.Rows
noncomputable def Within (m:Int) (k:Nat) (f:Nat->Int):Prop:=∀j,j<k->-m<=f j/\f j<=m
def Rows.snoc{F:Nat->Nat->Int}(h:Rows H as k F)(n:p∉as)(hp:H p=some (.lst ((vec k f).map V.int))):Rows H (as++[p]) k (λi=>if i=as.length then f else F i):=by
 refine Rows.app (h.congr λi hi j _=>?_) n (by show H p=some (HO.lst ((vec k (if as.length=as.length then f else F as.length)).map V.int));rw[if_pos rfl];exact hp);show F i j=(if i=as.length then f else F i) j;rw[if_neg ⋯]
section
variable {X:Cx}
theorem zgd:∀ns:List Int,(ns.map V.int).all zdg=true
 | []=>rfl
 | n :: ns=>by rw[yam,ybP,zgd ns];rfl
noncomputable def znN:V->List V->Hp->VK->Prop:=λx vs H Q=>∃(l:Addr) (ns:List Int) (k:Int) (j:Nat),x=.ref l/\vs=[.int k]/\H l=some (.lst (ns.map V.int))/\ns[j]?=some k/\(∀m,m<j->ns[m]?≠some k)/\ns.length<=100000/\Q (.int j) H
def zq4:MtM X "list.index" znN:=by
 intro pins s σ H x vs v us Q I t D h;obtain⟨l,ns,k,j,rfl,rfl,C,b,g,G,q⟩:=h;cases t;obtain⟨u,rfl,A⟩:=D.one;obtain⟨z,its,n,r,hl,e⟩:=I.lstM C;have c:j<ns.length:=(yh.mp b).1;have p:its.length=ns.length:=by have:=r.length;rw[ya]at this;exact this.symm
 have at':∀m (a:m<its.length),eqU (.int k) its[m]=(ns[m]'(by lia) == k):=λm a=>by
  obtain⟨w,o,f⟩:=r.get (show(ns.map V.int)[m]?=some (.int (ns[m]'(by lia))) by simp[show m<ns.length by lia])
  have:its[m]=w:=by
   rw[yk a]at o;exact yn o
  rw[this,zkR f rfl];rfl
 refine call_meets F.slot_list_index ⟨_,e,rfl⟩ F.entry_list_index (F.args_list_index_2 _ _) (SeqAt.list_indexAt l its.toArray n none #[] u (eqU (.int k)) j (by simp;lia) ⋯ ?_ (λm a d=>?_)) ⟨e,λy B=>zde A rfl r (zgd ns) y (by simpa using B),⟨.int j,H,I.tok _,⟨_,rfl⟩,q⟩⟩
 ·have:=at' j ⋯
  simp only[List.getElem_toArray];rw[this];have E:ns[j]=k:=by rw[yk c]at b;exact yn b
  rw[E];simp
 ·have i:m<its.length:=by simpa using a
  simp only[List.getElem_toArray];rw[at' m i]
  have:ns[m]'(by lia)≠k:=λz=>g m d (by rw[yk ⋯,z])
  simp[this]
noncomputable def zgo (K:Fg):List V->Hp->VK->Prop:=λvs H Q=>∃(a:Addr) (ns:List Int),vs=[.ref a]/\SqL K H a (ns.map V.int)/\ns.length<64/\∀l ms,H l=none->List.Perm ms ns->ms.Pairwise (·<=·)->Q (.ref l) (upd H l (.lst (ms.map V.int)))
def zlm:CallR X (.builtin "sorted") (zgo X.K):=by
 intro pins s σ H xs us Q I r h;obtain⟨a,ns,rfl,f,hl,q⟩:=h;obtain⟨u,rfl,k⟩:=vals1 r;cases k;obtain⟨its,g,pl,d,m⟩:=I.walk f;rw[ya]at d;refine sorted_ints (vs:=its) pl (znu g) ⋯ λc ms p hp l=>?_;obtain⟨e,n⟩:=sortedAll_at s.heap its c;have i:=zf6 p;have j:ms.length=ns.length:=hp.length_eq;have J:Inv X pins σ (upd H (s.heap.objs.size+1) (.lst (ms.map V.int))) { s with heap:=sortedAll s.heap its c,toks:=s.toks }:=I.laid (λb o z=>sortedAll_old z) (Nat.le_succ _) ⟨by rw[ya];exact zcx ⋯,c.toList,e,i,n⟩;exact⟨.ref (s.heap.objs.size+1),_,J,rfl,q _ ms (I.hok.fresh (Nat.le_succ _)) hp l⟩
end
section
variable {H:Hp}{Q:VK}{K:Fg}
theorem zmm{i:Int}:∀ns:List Int,inV (.int i) (ns.map V.int)=decide (i∈ns)
 | []=>by simp[inV]
 | n :: ns=>by
  have a:=zmm (i:=i) ns;unfold inV at a ⊢;rw[yam,ybQ,a]
  show((n == i) || _)=_
  by_cases h:n=i
  ·subst h;simp
  ·have:¬i=n:=λz=>h z.symm
   simp[h,this]
def zs4{i:Int}(h:SqL K H a (ns.map V.int))(q:Q (.bl (!decide (i∈ns))) H):rIn K true (.int i) (.ref a) H Q:=
 ⟨a,_,rfl,.inl h,rfl,zgd ns,by rw[if_pos rfl,zmm];exact q⟩
def zuE{zs:List V}(h:H l=some (.lst xs))(h':H b=some (.lst zs))(a:xs.length+zs.length<=100000)(q:∀H',LBut l H H'->H' l=some (.lst (xs++zs))->Q .non H'):zmN (.ref l) [.ref b] H Q:=
 ⟨l,b,xs,zs,rfl,rfl,h,h',zcx a,q _ ⟨But.upd,xs,h⟩ zam⟩
def zsz(h:SqL K H a (ns.map V.int))(hl:ns.length<64)(q:∀l ms H',H l=none->Same H H'->List.Perm ms ns->ms.Pairwise (·<=·)->H' l=some (.lst (ms.map V.int))->Q (.ref l) H'):zgo K [.ref a] H Q:=
 ⟨a,ns,rfl,h,hl,λl ms b hp c=>q l ms _ b (Same.new b _) hp c zam⟩
def zsr{k:Int}(h:H l=some (.lst (ns.map V.int)))(c:ns[j]?=some k)(a:∀m,m<j->ns[m]?≠some k)(b:ns.length<=100000)(q:Q (.int j) H):znN (.ref l) [.int k] H Q:=⟨l,ns,k,j,rfl,rfl,h,c,a,b,q⟩
end
noncomputable def zb6:Option Nat->V
 | none=>.non
 | some i=>.int i
noncomputable def zak (n:Nat) (w:Nat->Option Nat):List V:="0i".map λm=>zb6 (w m)
def zbI{w:Nat->Option Nat}:(zak n w).length=n:=by simp[zak]
def zbd{w:Nat->Option Nat}(h:i<n):(zak n w)[i]?=some (zb6 (w i)):=by simp[zak,h]
def zeT{w v:Nat->Option Nat}(h:∀i,i<n->w i=v i):zak n w=zak n v:=by
 unfold zak;exact yK λi hi=>by rw[h i (yP.mp hi)]
def zqx{w:Nat->Option Nat}{o:Option Nat}:(zak n w).set j (zb6 o)=zak n λm=>if m=j then o else w m:=by
 refine yab λi=>?_;rw[yaI];by_cases hi:i<n
 ·rw[zbd hi,zbd hi,zbI];by_cases e:j=i
  ·subst e;simp[hi]
  ·rw[if_neg e,if_neg (ya8 e)]
 ·have h2:∀v,(zak n v)[i]?=none:=λv=>by rw[yaF,zbI];lia
  rw[h2,h2,zbI];by_cases e:j=i
  ·subst e;simp[hi]
  ·rw[if_neg e]
def zq8:List.replicate n V.non=zak n λ_=>none:=by
 refine yab λi=>?_;rw[yaY];by_cases hi:i<n
 ·rw[zbd hi,if_pos hi];rfl
 ·rw[if_neg hi,yG (by rw[zbI];lia)]
def zr8{b:Bool}:List.replicate n (V.bl b)=bls n λ_=>b:=by
 refine yab λi=>?_;rw[yaY];by_cases hi:i<n
 ·rw[zeA hi,if_pos hi]
 ·rw[if_neg hi,yG (by rw[zmP];lia)]
noncomputable def useful (g:Nat->Bool) (m:Nat) (d:Due):Prop:=d.p=(m:Int)/\0<d.a/\g d.p.toNat=true/\g d.q.toNat=true
instance {g:Nat->Bool} {m:Nat} {d:Due}:Decidable (useful g m d):=by unfold useful;infer_instance
noncomputable def zbe (ds:List Due) (g:Nat->Bool):Nat->Nat->Option Nat
 | 0,_=>none
 | i+1,m=>match ds[i]? with
  | some d=>if useful g m d then some i else zbe ds g i m
  | none=>zbe ds g i m
def znW{g:Nat->Bool}(h:ds[i]?=some d)(m:Nat):zbe ds g (i+1) m=if useful g m d then some i else zbe ds g i m:=by rw[zbe,h]
theorem zdx{ds:List Due}{g:Nat->Bool}{m j:Nat}:∀{i:Nat},zbe ds g i m=some j->∃d,ds[j]?=some d/\useful g m d
 | 0,h=>nomatch h
 | i+1,h=>by
  rw[zbe]at h;cases e:ds[i]? with
  | none=>rw[e]at h;exact zdx h
  | some d=>
   rw[e]at h;simp only at h;split at h
   ·rename_i u;cases h;exact⟨d,e,u⟩
   ·exact zdx h
theorem zfy{ds:List Due}{g:Nat->Bool}{m:Nat}:∀{i:Nat},zbe ds g i m=none->∀k d,k<i->ds[k]?=some d->¬useful g m d
 | 0,_,_,_,hk,_=>absurd hk (yaL _)
 | i+1,h,k,d,hk,hd=>by
  rw[zbe]at h;by_cases e:k=i
  ·subst e;rw[hd]at h;simp only at h;split at h
   ·cases h
   ·assumption
  ·cases e':ds[i]? with
   | none=>rw[e']at h;exact zfy h k d ⋯ hd
   | some d'=>
    rw[e']at h;simp only at h;split at h
    ·cases h
    ·exact zfy h k d ⋯ hd
def zqt{k:Int}(h:H l=some (.lst [.non]))(d:0<=k)(h1:k<=100000)(q:∀p H',H p=none->Same H H'->H' p=some (.lst (zak k.toNat λ_=>none))->Q (.ref p) H'):zek (.ref l) (.int k) H Q:=
 zkr h d h1 λp H' a b c=>q p H' a b (by rw[c,zq8])
def zrW{k:Int}{c:Bool}(h:H l=some (.lst [.bl c]))(d:0<=k)(h1:k<=100000)(q:∀p H',H p=none->Same H H'->H' p=some (.lst (bls k.toNat λ_=>c))->Q (.ref p) H'):zek (.ref l) (.int k) H Q:=
 zkr h d h1 λp H' a b c=>q p H' a b (by rw[c,zr8])
noncomputable def ziw (K:Fg):Sp:=λvs H Q _=>∃(a b:Addr) (ds:List Due) (n:Nat) (g:Nat->Bool),vs=[.ref a,.ref b]/\IsSh K H a ds/\SqL K H b (bls n g)/\n<=100/\ds.length<=1000/\(∀d∈ds,zo n d)/\∀p H',H p=none->Same H H'->H' p=some (.lst (zak n (zbe ds g ds.length)))->Q (.ref p) H'
def zoN:=λ{K:Fg} {a b:Addr} {ds:List Due} {n:Nat} {g:Nat->Bool} {H:Hp} {Q:VK} {E:XK} h h' hn hl hd q=>@id (ziw K [.ref a,.ref b] H Q E) ⟨a,b,ds,n,g,rfl,h,h',hn,hl,hd,q⟩
def zpY{A:Prop}(q:A):V.non=V.non/\A:=⟨rfl,q⟩
def zdV{o:Option Nat}:decide (zb6 o=V.non)=o.isNone:=by cases o with | none=>rfl | some i=>simp[zb6]
noncomputable def goF (ds:List Due):Nat->Nat->Bool
 | 0,_=>true
 | t+1,m=>(zbe ds (goF ds t) ds.length m).isSome
noncomputable def zaw (ds:List Due):Nat->Nat->Option Nat
 | 0,_=>none
 | t+1,m=>zbe ds (goF ds t) ds.length m
noncomputable def zlb (K:Fg):Sp:=λvs H Q _=>∃(n:Int) (a:Addr) (ds:List Due),vs=[.int n,.ref a]/\IsSh K H a ds/\1<=n/\n<=100/\ds.length<=1000/\(∀d∈ds,zo n d)/\∀p H',H p=none->Same H H'->H' p=some (.lst (zak n.toNat (zaw ds n.toNat)))->Q (.ref p) H'
def zqY:=λ{K:Fg} {n:Int} {a:Addr} {ds:List Due} {H:Hp} {Q:VK} {E:XK} h h0 h1 hl hd q=>@id (zlb K [.int n,.ref a] H Q E) ⟨n,a,ds,rfl,h,h0,h1,hl,hd,q⟩
theorem zfc:∀(n:Nat) (L:List Nat),L.Nodup->(∀x∈L,x<n)->L.length<=n
 | 0,L,_,h=>by
  cases L with
  | nil=>exact yg _
  | cons x xs=>exact absurd (h x (by simp)) (yaL _)
 | n+1,L,nd,h=>by
  have h1:(L.erase n).length<=n:=zfc n (L.erase n) (nd.erase n) λx c=>by
   have b:=nd.mem_erase_iff.mp c
   have:=h x b.2
   have:=b.1
   lia
  have h2:=List.length_erase (a:=n) (l:=L);split at h2<;>lia
set_option genInjectivity false in
set_option genSizeOf false in
structure Lined(n:Nat)(ds:List Due)(ls:List Int):Prop where
 nd:ls.Nodup
 lt:∀x∈ls,0<=x/\x<n
 up:∀d∈ds,0<d.a->∀j:Nat,ls[j]?=some d.q->∃i:Nat,i<j/\ls[i]?=some d.p
def zls(h1:SqL K H a (ns.map V.int))(h2:SqL K H b [])(c:ns≠[])(q:Q (.bl false) H):zd4 K (.ref a) (.ref b) H Q:=by
 refine znB (.lst h1 (zbx ns)) (.lst h2 .nil) (by rw[zc2,zbX];lia) ?_;cases ns with
 | nil=>exact absurd rfl c
 | cons n ns=>
  have:PyData.eqv (.list ((n :: ns).map PyData.int)) (.list [])=false:=by simp[PyData.eqv,PyData.eqvAll]
  rw[this];exact q
def zrg{ls:List Int}{x:Int}(nd:ls.Nodup)(h:ls[j]?=some x):∀m,m<j->ls[m]?≠some x:=λm c e=>by
 obtain⟨d,b⟩:=yh.mp h;obtain⟨a,em⟩:=yh.mp e
 have:=(ybU nd).mp (em.trans b.symm)
 lia
section
variable {X:Cx}{tg:Expr}
end
def zdc:∀(ds:List Due),(∀d∈ds,0<=d.a/\d.a<=1000000000000)->0<=zA ds m r/\zA ds m r<=1000000000000*(ds.length:Int):=by
 intro ds
 suffices h:∀t,t<=ds.length->(∀d∈ds,0<=d.a/\d.a<=1000000000000)->0<=zA (ds.take t) m r/\zA (ds.take t) m r<=1000000000000*(t:Int) by
  intro hd
  have:=h ds.length (yg _) hd
  rwa [yw]at this
 intro t
 induction t with
 | zero=>intro _ _;exact⟨y6 0,y6 0⟩
 | succ t ih=>
  intro c hd;obtain⟨d,b⟩:=zC (show t<ds.length by lia);have h1:=ih ⋯ hd;have h2:=hd d (yb b);rw[zai b,zaL];split<;>lia
noncomputable def zbA (f:Nat->Int):Nat->Int
 | 0=>0
 | r+1=>zbA f r+f r
noncomputable def zcb (f:Nat->Int) (q:Rat) (r:Nat):Prop:=q.num<zbA f (r+1)*"0l"
instance (f:Nat->Int) (q:Rat) (r:Nat):Decidable (zcb f q r):=inferInstanceAs (Decidable (_<_))
noncomputable def zaX (f:Nat->Int) (q:Rat):Nat->Option Nat
 | 0=>none
 | k+1=>match zaX f q k with
  | some r=>some r
  | none=>if zcb f q k then some k else none
theorem zhG{f:Nat->Int}{q:Rat}{k r:Nat}(h:zaX f q k=some r):∀j,zaX f q (k+j)=some r
 | 0=>h
 | j+1=>by show(match zaX f q (k+j)with | some r=>some r | none=>_)=_;rw[zhG h j]
theorem ziY{f:Nat->Int}(a:∀j,j<3->0<=f j/\f j<=100000000000000):∀i,i<=3->0<=zbA f i/\zbA f i<=100000000000000*(i:Int)
 | 0,_=>⟨y6 0,y6 0⟩
 | i+1,h=>by
  have h1:=ziY a i ⋯;have h2:=a i ⋯;show 0<=zbA f i+f i/\zbA f i+f i<=_;lia
theorem zdR(f:Nat->Int):∀n,zS (vec n f)=zbA f n
 | 0=>rfl
 | n+1=>by rw[zaK,zdl,zdR f n];rfl
def zjU{w:Nat->Option Nat}:zak (n+1) w=zak n w++[zb6 (w n)]:=by unfold zak;rw[yA,yi];rfl
def zs3{i:Int}(a:-1000000000000000<=i)(h1:i<=1000000000000000):SzQ ((i:Int):Rat) 60000 60000:=
 ⟨yj (sz200 (by show _<i;lia) (by show i<_;lia)) "0a",yj (sz200 (i:=1) "0a" "0a") "0a"⟩
def under_int:q<((zbA f (r+1):Int):Rat)↔zcb f q r:=by
 rw[Rat.lt_iff];show q.num*1<_↔_;rw[ya2];exact Iff.rfl
noncomputable def zg2 (K:Fg):Sp:=λvs H Q _=>∃(l y:Addr) (f:Nat->Int) (q:Rat),vs=[.ref l,.ref y]/\H l=some (.lst ((vec 3 f).map V.int))/\(∀j,j<3->0<=f j/\f j<=100000000000000)/\IsQ H y q/\SzQ q 60000 60000/\∀H',Same H H'->Q (zb6 (zaX f q 3)) H'
def znH:=λ{K:Fg} {l y:Addr} {f:Nat->Int} {q:Rat} {H:Hp} {Q:VK} {E:XK} hl hf hy hs k=>@id (zg2 K [.ref l,.ref y] H Q E) ⟨l,y,f,q,rfl,hl,hf,hy,hs,k⟩
abbrev zpi(ds:List Due)(qs:List Rat):List V:=zak qs.length λm=>zaX (zA ds m) (qs.getD m 0) 3
noncomputable def zin (K:Fg):Sp:=λvs H Q _=>∃(a y:Addr) (ds:List Due) (ws:List V) (qs:List Rat),vs=[.ref a,.ref y]/\IsSh K H a ds/\(∀d∈ds,zo qs.length d/\d.a<=1000000000000)/\ds.length<=64/\H y=some (.lst ws)/\IsQs H ws qs/\qs.length<=9/\(∀q∈qs,SzQ q 60000 60000)/\∀p H',H p=none->Same H H'->H' p=some (.lst (zpi ds qs))->Q (.ref p) H'
def zjg:=λ{K:Fg} {a y:Addr} {ds:List Due} {ws:List V} {qs:List Rat} {H:Hp} {Q:VK} {E:XK} h hy hq hd hl h9 hs k=>@id (zin K [.ref a,.ref y] H Q E) ⟨a,y,ds,ws,qs,rfl,h,hd,hl,hy,hq,h9,hs,k⟩
noncomputable def zaB (f:Nat->Int) (q:Rat):Nat->Rat
 | 0=>q
 | r+1=>zaB f q r-(if((f r:Int):Rat)<zaB f q r then((f r:Int):Rat)else zaB f q r)
noncomputable def zac (f:Nat->Int) (q:Rat) (r:Nat):Rat:=if((f r:Int):Rat)<zaB f q r then((f r:Int):Rat)else zaB f q r
noncomputable def zad (f:Nat->Int) (q:Rat) (r:Nat):Rat:=if 0<f r then zac f q r/((f r:Int):Rat)else 0
def zcX(f:Nat->Int)(q:Rat)(r:Nat):zaB f q (r+1)=zaB f q r-zac f q r:=rfl
section
variable {f:Nat->Int}{q:Rat}
def zau{i:Int}(h:0<=i):(0:Rat)<=(i:Rat):=by exact_mod_cast h
def zbu{i:Int}(h:0<i):(0:Rat)<(i:Rat):=by exact_mod_cast h
theorem zis(a:0<=q):∀r,0<=zaB f q r
 | 0=>a
 | r+1=>by
  have:=zis a r
  rw[zcX];unfold zac;split<;>grind
def zfh(b:0<=q)(a:0<=f r):0<=zac f q r/\zac f q r<=((f r:Int):Rat):=by
 have h1:=zis (f:=f) b r;have h2:=zau a;unfold zac;split<;>grind
theorem zmt(b:0<=q)(a:∀r,r<3->0<=f r):∀(k r:Nat),r+k<=3->zaB f q (r+k)<=zaB f q r
 | 0,r,_=>by show zaB f q r<=zaB f q r;grind
 | k+1,r,h=>by
  have h1:=zmt b a k r ⋯;have h2:=(zfh b (a (r+k) ⋯)).1;show zaB f q (r+k+1)<=_;rw[zcX];grind
def zcE(c:0<=q)(b:0<=f r):((f r:Int):Rat)*zad f q r=zac f q r:=by
 have h:=zfh c b;unfold zad;split
 ·rename_i a
  have:=zbu a
  grind
 ·rename_i a;have e:f r=0:=by lia
  rw[e]at h ⊢
  have:((0:Int):Rat)=0:=rfl
  grind
def zfC(d:0<=q)(a:0<=f r):0<=zad f q r/\zad f q r<=1:=by
 have h:=zfh d a;have e:=zcE d a;by_cases b:0<f r
 ·have hp:=zbu b;constructor
  ·refine ybh (c:=((f r:Int):Rat)) ?_ hp;grind
  ·refine ybh (c:=((f r:Int):Rat)) ?_ hp;grind
 ·unfold zad;rw[if_neg b];exact⟨by decide,by decide⟩
def znL(h:0<=q)(a:∀r,r<3->0<=f r)(j:q<=((f 0:Int):Rat)+((f 1:Int):Rat)+((f 2:Int):Rat)):zac f q 0+zac f q 1+zac f q 2=q:=by
 have i:=zau (a 0 ⋯);have h1:=zau (a 1 ⋯);have h2:=zau (a 2 ⋯);have e:zaB f q 1=q-zac f q 0:=rfl;have b:zaB f q 2=q-zac f q 0-zac f q 1:=rfl;have g:zac f q 0=if((f 0:Int):Rat)<q then((f 0:Int):Rat)else q:=rfl
 have d:zac f q 1=if((f 1:Int):Rat)<zaB f q 1 then((f 1:Int):Rat)else zaB f q 1:=rfl
 have c:zac f q 2=if((f 2:Int):Rat)<zaB f q 2 then((f 2:Int):Rat)else zaB f q 2:=rfl
 rw[e]at d;rw[b]at c;grind
end
def zt6(p:Rat):((p.num:Int):Rat)=p*((p.den:Int):Rat):=by
 have h:p=((p.num:Int):Rat)/((p.den:Int):Rat):=by
  rw[<- ya7,ybk]
 have:((p.den:Int):Rat)≠0:=by
  intro z
  have:(p.den:Int)=0:=by exact_mod_cast z
  have:=p.den_nz
  lia
 grind
def zjw{i j:Int}(h:(i:Rat)=(j:Rat)):i=j:=by exact_mod_cast h
noncomputable def zg3 (ds:List Due) (m:Nat) (S:Nat->Rat):Rat:=ds.foldl (fun(s:Rat) (d:Due)=>if d.p=(m:Int)then s+((d.a:Int):Rat)*S d.r.toNat else s) 0
def zjC(ds:List Due)(d:Due)(m:Nat)(S:Nat->Rat):zg3 (ds++[d]) m S=if d.p=(m:Int)then zg3 ds m S+((d.a:Int):Rat)*S d.r.toNat else zg3 ds m S:=by unfold zg3;rw[yat];rfl
theorem zh5{ds:List Due}{m:Nat}{S:Nat->Rat}(hd:∀d∈ds,0<=d.r/\d.r<3):∀t,t<=ds.length->zg3 (ds.take t) m S=((zA (ds.take t) m 0:Int):Rat)*S 0+((zA (ds.take t) m 1:Int):Rat)*S 1+((zA (ds.take t) m 2:Int):Rat)*S 2
 | 0,_=>by
  show(0:Rat)=((0:Int):Rat)*S 0+((0:Int):Rat)*S 1+((0:Int):Rat)*S 2
  have:((0:Int):Rat)=0:=rfl
  grind
 | t+1,ht=>by
  obtain⟨d,a⟩:=zC (show t<ds.length by lia);have b:=zh5 (m:=m) (S:=S) hd t ⋯;obtain⟨c,f⟩:=hd d (yb a);rw[zai a,zjC,zaL,zaL,zaL];by_cases e:d.p=(m:Int)
  ·rw[if_pos e];obtain h | h | h:d.r=0\/d.r=1\/d.r=2:=by lia
   ·rw[if_pos ⟨e,⋯⟩,if_neg (λz=>by have:=z.2;lia),if_neg (λz=>by have:=z.2;lia),h,b,yO];show _+_*S 0=_;grind
   ·rw[if_neg (λz=>by have:=z.2;lia),if_pos ⟨e,⋯⟩,if_neg (λz=>by have:=z.2;lia),h,b,yO];show _+_*S 1=_;grind
   ·rw[if_neg (λz=>by have:=z.2;lia),if_neg (λz=>by have:=z.2;lia),if_pos ⟨e,⋯⟩,h,b,yO];show _+_*S 2=_;grind
  ·rw[if_neg e,if_neg (λz=>e z.1),if_neg (λz=>e z.1),if_neg (λz=>e z.1),b]
noncomputable def zX (ds:List Due) (qs:List Rat) (d:Due):Rat:=((d.a:Int):Rat)*zad (zA ds d.p.toNat) (qs.getD d.p.toNat 0) d.r.toNat
def zfj{i:Int}(a:0<=i)(h1:i<=100000000000000):SzQ ((i:Int):Rat) 60 60:=by
 refine⟨zaH ?_,zaH ?_⟩
 ·show i.natAbs<2 ^ 60;lia
 ·show(1:Int).natAbs<2 ^ 60
  decide
def zn6{r:Rat}(h1:IsQ H a q)(h2:IsQ H b r)(e:SzQ q n n)(d:SzQ r n n)(k:∀c,IsQ H c (if r<q then r else q)->Q (.ref c) H):zgm n [.ref a,.ref b] H Q E:=by
 refine zjA h1 h2 e d ?_;by_cases h:r<q
 ·rw[if_pos h];exact k b (by rw[if_pos h];exact h2)
 ·rw[if_neg h];exact k a (by rw[if_neg h];exact h1)
noncomputable def ziH:Sp:=λvs H Q _=>∃(a b:Addr) (q r:Rat),vs=[.ref a,.ref b]/\IsQ H a q/\IsQ H b r/\OkQ q/\SzQ r 8999 8999/\r.num≠0/\NewQ H Q (q/r)
def zjQ:=λ{a b:Addr} {q r:Rat} {H:Hp} {Q:VK} {E:XK} h1 h2 s1 s2 h0 k=>@id (ziH [.ref a,.ref b] H Q E) ⟨a,b,q,r,rfl,h1,h2,s1,s2,h0,k⟩
def ztc(q:Rat):My.gc (if q.num<0 then -q.num else q.num) "0l"=1:=by
 have h:=My.gc_abs q.num "0l";rw[if_neg (show ¬("0l"<0) by lia)]at h;rw[h]
 have:=q.reduced
 unfold My.gc
 show((Nat.gcd q.num.natAbs "0l".natAbs:Nat):Int)=1
 rw[y9];exact congrArg _ this
set_option genInjectivity false in
set_option genSizeOf false in
structure PayOk(ds:List Due)(g:Due->Rat):Prop where
 nn:∀d∈ds,0<=g d
 le:∀d∈ds,g d<=((d.a:Int):Rat)
 sz:∀d∈ds,SzQ (g d) 1000 1000
 am:∀d∈ds,0<=d.a/\d.a<=100000000000000
noncomputable def zbP (ds:List Due) (m:Int) (g:Due->Rat):Rat:=ds.foldl (fun(s:Rat) (d:Due)=>if d.p=m then s+g d else s) 0
def zdr(ds:List Due)(d:Due)(m:Int)(g:Due->Rat):zbP (ds++[d]) m g=if d.p=m then zbP ds m g+g d else zbP ds m g:=by unfold zbP;rw[yat];rfl
section
variable {ds:List Due}{qs:List Rat}
end
section
variable {f:Nat->Int}{q:Rat}
theorem zhe(c:0<=q)(a:∀j,j<3->0<=f j):∀r,r<=3->zaB f q r=if((zbA f r:Int):Rat)<q then q-((zbA f r:Int):Rat)else 0
 | 0,_=>by
  show q=if((0:Int):Rat)<q then q-((0:Int):Rat)else 0
  have e:((0:Int):Rat)=0:=rfl;rw[e];split<;>grind
 | r+1,hr=>by
  have b:=zhe c a r ⋯;have d:=zau (a r ⋯);have e:((zbA f (r+1):Int):Rat)=((zbA f r:Int):Rat)+((f r:Int):Rat):=yO _ _;rw[zcX,e];unfold zac;rw[b];split<;>split<;>(try split)<;>grind
end
noncomputable def zby (ds:List Due) (g:Due->Rat) (m:Nat):List Rat:=(ds.filter λd=>decide (d.q=(m:Int))).map g
def zhF(ds:List Due)(d:Due)(g:Due->Rat)(m:Nat):zby (ds++[d]) g m=zby ds g m++if d.q=(m:Int) then[g d] else[]:=by
 unfold zby;rw[yaD,yi];congr 1;by_cases e:d.q=(m:Int)
 ·rw[if_pos e,ybn (p:=λd:Due=>decide (d.q=(m:Int))) (by simpa using e)];rfl
 ·rw[if_neg e,ybo (p:=λd:Due=>decide (d.q=(m:Int))) (by simpa using e)];rfl
def zfZ{g:Due->Rat}:(zby ds g m).length<=ds.length:=by
 unfold zby;rw[ya];exact ybv _ _
def zpc{g:Due->Rat}{x:Rat}(h:x∈zby ds g m):∃d∈ds,x=g d:=by
 obtain⟨d,hd,e⟩:=y8.mp h;exact⟨d,(yaG.mp hd).1,e.symm⟩
noncomputable def zL (ds:List Due) (g:Due->Rat) (m:Nat):Rat:=zbB (zby ds g m)
def za9(ds:List Due)(d:Due)(g:Due->Rat)(m:Nat):zL (ds++[d]) g m=zL ds g m+if d.q=(m:Int)then g d else 0:=by
 unfold zL;rw[zhF];split
 ·rw[zdu]
 ·rw[yag];grind
noncomputable def PRows (H:Hp) (as:List Addr) (F:Nat->List Rat):Prop:=as.Nodup/\∀(m:Nat) (a:Addr),as[m]?=some a->∃vs,H a=some (.lst vs)/\IsQs H vs (F m)
section
variable {H H':Hp}{as:List Addr}{F:Nat->List Rat}
theorem PRows.same(h:PRows H as F)(e:Same H H'):PRows H' as F:=⟨h.1,λm a q=>by obtain⟨vs,h1,h2⟩:=h.2 m a q;exact⟨vs,e.at h1,h2.same e⟩⟩
def PRows.but(h:PRows H as F)(g:LBut l H H')(n:l∉as):PRows H' as F:=
 ⟨h.1,λm a q=>by
  obtain⟨vs,h1,h2⟩:=h.2 m a q;exact⟨vs,g.lst h1 λz=>n (z▸yb q),LBut.isQs g h2⟩⟩
def PRows.fresh(h:PRows H as F)(hp:H p=none):p∉as:=λm=>by
 obtain⟨i,hi,e⟩:=yB m;obtain⟨vs,h1,_⟩:=h.2 i p (by rw[yk hi,e]);rw[hp]at h1;cases h1
def PRows.app(h:PRows H as F)(n:p∉as)(hp:H p=some (.lst []))(f:F as.length=[]):PRows H (as++[p]) F:=by
 refine⟨yaz.mpr ⟨h.1,by simp,λa ha b d e=>n (by rw[yu]at d;subst d;subst e;exact ha)⟩,λi a q=>?_⟩;rw[yaH]at q;split at q
 ·exact h.2 i a q
 ·rename_i hi;have c:i-as.length=0:=by
   cases e:i-as.length with
   | zero=>rfl
   | succ m=>rw[e]at q;cases q
  rw[c]at q;cases q
  have:i=as.length:=by lia
  subst this;exact⟨[],hp,by rw[f];trivial⟩
def PRows.set(h:PRows H as F)(g:LBut a H H')(ha:as[j]?=some a)(i:H a=some (.lst vs))(hp:IsQ H p q)(h':H' a=some (.lst (vs++[.ref p]))):PRows H' as (λm=>if m=j then F m++[q]else F m):=by
 refine⟨h.1,λm b c=>?_⟩;by_cases e:m=j
 ·subst e;rw[ha]at c;cases c;obtain⟨us,d,f⟩:=h.2 m a ha;rw[i]at d;cases d;show ∃vs,H' a=some (.lst vs)/\IsQs H' vs (if m=m then F m++[q]else F m);rw[if_pos rfl];exact⟨_,h',IsQs.app (LBut.isQ g hp) (LBut.isQs g f)⟩
 ·obtain⟨us,d,f⟩:=h.2 m b c;show ∃vs,H' b=some (.lst vs)/\IsQs H' vs (if m=j then F m++[q]else F m);rw[if_neg e];exact⟨us,g.lst d λz=>e (zbF h.1 c (z▸ha)),LBut.isQs g f⟩
end
noncomputable def zqc:Nat->(Nat->Rat)->Rat
 | 0,_=>0
 | n+1,F=>zqc n F+F n
theorem zic(F:Nat->Rat):∀n,zbB ("0i".map F)=zqc n F
 | 0=>rfl
 | n+1=>by rw[yA,yi,yM,zdu,zic F n];rfl
noncomputable def za5 (ds:List Due) (m:Nat):Rat:=((zS (vec 3 (zA ds m)):Int):Rat)
def zaE{i j:Int}(h:i<=j):((i:Int):Rat)<=((j:Int):Rat):=by exact_mod_cast h
noncomputable def Dv (D:Nat) (x:Rat):Prop:=∃t:Int,x*((D:Int):Rat)=(t:Rat)
section
variable {D E:Nat}{x y:Rat}
def Dv.add(h:Dv D x)(h':Dv D y):Dv D (x+y):=by
 obtain⟨t,e⟩:=h;obtain⟨u,a⟩:=h';exact⟨t+u,by rw[yO,<- e,<- a];grind⟩
def Dv.sub(h:Dv D x)(h':Dv D y):Dv D (x-y):=by
 obtain⟨t,e⟩:=h;obtain⟨u,a⟩:=h';exact⟨t-u,by rw[yb3,<- e,<- a];grind⟩
def Dv.int(i:Int):Dv D ((i:Int):Rat):=⟨i*(D:Int),by rw[yF]⟩
def Dv.mulI(i:Int)(h:Dv D x):Dv D (((i:Int):Rat)*x):=by
 obtain⟨t,e⟩:=h;exact⟨i*t,by rw[yF,<- e];grind⟩
def Dv.dvd(h:Dv D x)(hd:D∣E):Dv E x:=by
 obtain⟨k,rfl⟩:=hd;obtain⟨t,e⟩:=h;refine⟨t*(k:Int),?_⟩
 have:(((D*k:Nat):Int):Rat)=((D:Int):Rat)*((k:Int):Rat):=by
  rw[<- yF];congr 1
 rw[this,yF,<- e];grind
def Dv.div{f:Nat}(a:0<f)(h:Dv D x):Dv (D*f) (x/((f:Int):Rat)):=by
 obtain⟨t,e⟩:=h;refine⟨t,?_⟩
 have:(((D*f:Nat):Int):Rat)=((D:Int):Rat)*((f:Int):Rat):=by
  rw[<- yF];congr 1
 have hp:(0:Rat)<((f:Int):Rat):=zbu ⋯;rw[this,<- e];grind
theorem Dv.den(c:0<D)(h:Dv D x):x.den∣D:=by
 obtain⟨t,e⟩:=h;have a:x.num*(D:Int)=t*(x.den:Int):=by
  apply zjw;rw[yF,yF,zt6 x,<- e];grind
 have b:x.den∣x.num.natAbs*D:=by
  have:(x.den:Int)∣x.num*(D:Int):=⟨t,by rw[a,yan]⟩
  have:=Int.natAbs_dvd_natAbs.mpr this
  rwa [y9,ybF,y9]at this
 exact Nat.Coprime.dvd_of_dvd_mul_left (Nat.Coprime.symm x.reduced) b
end
noncomputable def DvB (D:Nat) (x:Rat):Prop:=0<=x/\x<=((100000000000000000:Int):Rat)/\Dv D x
theorem DvB.sz{D z:Nat}{x:Rat}(h:DvB D x)(b:0<D)(c:sz (D:Int)<=z):SzQ x (z+57) z:=by
 have h1:=Nat.le_of_dvd b (h.2.2.den b);have a:=sz_le.mp c;rw[y9]at a;have f:0<=x.num:=Rat.num_nonneg.mpr h.1;have k:x.num<=100000000000000000*(x.den:Int):=by
  have:=(Rat.le_iff _ _).mp h.2.1
  have e:((100000000000000000:Int):Rat).den=1:=rfl;have d:((100000000000000000:Int):Rat).num=100000000000000000:=rfl;rw[e,d]at this
  simpa using this
 refine⟨zaH ?_,zaH ?_⟩
 ·have g:x.num.natAbs<=100000000000000000*x.den:=by lia
  have i:100000000000000000*x.den<=100000000000000000*D:=yav _ h1;rw[ya3];have j:100000000000000000*D<2 ^ z*2 ^ 57:=by
   have:(2:Nat) ^ 57=144115188075855872:=by decide
   rw[this];lia
  lia
 ·rw[y9];lia
section
variable {f:Nat->Int}{q q':Rat}{D:Nat}
theorem ziR(h:Dv D q):∀r,Dv D (zaB f q r)
 | 0=>h
 | r+1=>by
  have a:=ziR h r;rw[zcX];unfold zac;split
  ·exact a.sub (Dv.int _)
  ·exact a.sub a
def zma(h:Dv D q)(r:Nat):Dv D (zac f q r):=by
 unfold zac;split
 ·exact Dv.int _
 ·exact ziR h r
noncomputable def rkN (t:Int):Nat:=if 0<t then t.toNat else 1
def zsy(t:Int):0<rkN t:=by unfold rkN;split<;>lia
def zku(h:Dv D q)(r:Nat):Dv (D*rkN (f r)) (zad f q r):=by
 unfold zad rkN;split
 ·rename_i a;have e:((f r:Int):Rat)=(((f r).toNat:Int):Rat):=by congr 1;lia
  rw[e];exact(zma h r).div ⋯
 ·exact Dv.int 0
def zol(b:0<=q)(a:∀r,r<3->0<=f r)(h:r<=3):zaB f q r<=q:=by
 have:=zmt b a r 0 ⋯
 rw[Nat.zero_add]at this;exact this
def zlG(h:DvB D q)(b:∀r,r<3->0<=f r)(a:r<=3):DvB D (zaB f q r):=⟨zis h.1 r,by have:=zol h.1 b a;have:=h.2.1;grind,ziR h.2.2 r⟩
def zqR(h:DvB D q)(b:∀r,r<3->0<=f r)(a:r<3):DvB D (zac f q r):=by
 have c:=zfh h.1 (b r a);have h1:=zlG h b (yaS a);refine⟨c.1,?_,zma h.2.2 r⟩
 have:=h1.2.1
 unfold zac;split<;>grind
def zn1(h:DvB D q)(b:∀r,r<3->0<=f r)(c:r<3):DvB (D*rkN (f r)) (zad f q r):=by
 have a:=zfC h.1 (b r c);refine⟨a.1,?_,zku h.2.2 r⟩
 have:(1:Rat)<=((100000000000000000:Int):Rat):=by decide
 have:=a.2
 grind
def znP(e:0<=q)(h:q<=q')(a:∀r,r<3->0<=f r)(b:r<3):zac f q r<=zac f q' r:=by
 have c:=zhe e a r ⋯;have d:=zhe (q:=q') (by grind) a r ⋯;have g:=zau (a r b);unfold zac;rw[c,d];grind
def zhA(d:0<=q)(h:q<=q')(b:∀r,r<3->0<=f r)(a:r<3):zad f q r<=zad f q' r:=by
 have e:=zcE d (b r a);have g:=zcE (q:=q') (by grind) (b r a);have hl:=znP d h b a;by_cases hp:0<f r
 ·refine ybh (c:=((f r:Int):Rat)) ?_ (zbu hp);rw[e,g];exact hl
 ·unfold zad;rw[if_neg hp,if_neg hp];exact yE
end
noncomputable def zid (F:Due->Int):List Due->Nat
 | []=>1
 | d :: ds=>rkN (F d)*zid F ds
theorem zjy(F:Due->Int):∀ds,0<zid F ds
 | []=>Nat.one_pos
 | d :: ds=>Nat.mul_pos (zsy _) (zjy F ds)
theorem zfG{F:Due->Int}:∀{ds:List Due} {d:Due},d∈ds->rkN (F d)∣zid F ds
 | e :: ds,d,h=>by
  rcases yy.mp h with rfl | h
  ·exact Nat.dvd_mul_right _ _
  ·exact Nat.dvd_trans (zfG h) (Nat.dvd_mul_left _ _)
theorem zlc{F:Due->Int}{z:Nat}(c:1<=z):∀{ds:List Due},(∀d∈ds,sz (F d)<=z)->zid F ds<=(2 ^ z) ^ ds.length
 | [],_=>yg _
 | d :: ds,h=>by
  have b:=zlc c (ds:=ds) λe a=>h e (yV _ a);have h1:=sz_le.mp (h d yai);have h2:rkN (F d)<=2 ^ z:=by
   unfold rkN;split
   ·lia
   ·exact Nat.one_le_two_pow
  rw[yay,ybz,Nat.mul_comm];exact ybm h2 b
noncomputable def rkD (ds:List Due) (d:Due):Int:=zA ds d.p.toNat d.r.toNat
noncomputable def zcf (ds:List Due):Nat:=zid (rkD ds) ds
def zkz(ds:List Due):0<zcf ds:=zjy _ _
def zsT{D:Nat}(c:∀q∈qs,DvB D q)(hd:d∈ds)(hp:d.p.toNat<qs.length):Dv (D*zcf ds) (zX ds qs d):=by
 obtain⟨q,a⟩:=zC hp;have b:qs.getD d.p.toNat 0=q:=by rw[yf,a];rfl
 unfold zX;rw[b];exact Dv.mulI _ ((zku (c q (yb a)).2.2 _).dvd (Nat.mul_dvd_mul_left _ (zfG (F:=rkD ds) hd)))
def zpM{D:Nat}(i:∀q∈qs,DvB D q)(g:∀r,r<3->0<=zA ds d.p.toNat r)(hp:d.p.toNat<qs.length)(h:d.r.toNat<3)(ha:0<=d.a):0<=zX ds qs d/\zX ds qs d<=((d.a:Int):Rat):=by
 obtain⟨q,b⟩:=zC hp;have c:qs.getD d.p.toNat 0=q:=by rw[yf,b];rfl
 unfold zX;rw[c];have f:=zfC (i q (yb b)).1 (g _ h);have e:=zau ha;constructor
 ·exact yI e f.1
 ·have:=yJ f.2 e
  grind
theorem zi6{E:Nat}:∀(i:Nat) {qs:List Rat},(∀q∈qs,Dv E q/\0<=q/\q<=((1000000000000:Int):Rat))->i<=qs.length->Dv E (zbB (qs.take i))/\0<=zbB (qs.take i)/\zbB (qs.take i)<=((1000000000000*i:Int):Rat)
 | 0,qs,_,_=>by
  rw[yba];exact⟨Dv.int 0,yE,yE⟩
 | i+1,qs,h,hi=>by
  obtain⟨q,a⟩:=zC (show i<qs.length by lia);obtain⟨h1,h2,b⟩:=zi6 i h ⋯;obtain⟨a1,a2,c⟩:=h q (yb a);rw[zai a,zdu];refine⟨h1.add a1,by grind,?_⟩;have e:((1000000000000*((i+1:Nat):Int):Int):Rat)=((1000000000000*(i:Int):Int):Rat)+((1000000000000:Int):Rat):=by
   rw[<- yO];congr 1
  rw[e];grind
def zqB{E:Nat}(h:∀q∈qs,Dv E q/\0<=q/\q<=((1000000000000:Int):Rat))(hl:qs.length<=64)(i:Nat):DvB E (zbB (qs.take i)):=by
 have a:∀j,j<=qs.length->DvB E (zbB (qs.take j)):=λj b=>by
  obtain⟨h1,h2,c⟩:=zi6 j h b;refine⟨h2,?_,h1⟩
  have:((1000000000000*(j:Int):Int):Rat)<=((100000000000000000:Int):Rat):=zaE ⋯
  grind
 by_cases hi:i<=qs.length
 ·exact a i hi
 ·rw[yaf ⋯,<- yw (l:=qs)];exact a _ (yg _)
set_option genInjectivity false in
set_option genSizeOf false in
structure Deep(ds:List Due)(qs:List Rat)(D:Nat):Prop where
 pos:0<D
 lay:∀q∈qs,DvB D q
 zs:sz ((D*zcf ds:Nat):Int)<=3000
noncomputable def zbG (ds:List Due) (ps:List Int) (qs:List Rat) (m:Nat):Rat:=
 if((ps.getD m 0:Int):Rat)+zL ds (zX ds qs) m<za5 ds m then((ps.getD m 0:Int):Rat)+zL ds (zX ds qs) m else za5 ds m
def zdM{g g':Due->Rat}(h:∀d∈ds,g d<=g' d)(m:Nat):zL ds g m<=zL ds g' m:=by
 have a:∀t,t<=ds.length->zL (ds.take t) g m<=zL (ds.take t) g' m:=by
  intro t
  induction t with
  | zero=>intro _;exact yE
  | succ t ih=>
   intro b;obtain⟨d,hd⟩:=zC (show t<ds.length by lia);have h1:=ih ⋯;have h2:=h d (yb hd);rw[zai hd,za9,za9];split<;>grind
 have:=a ds.length (yg _)
 rwa [yw]at this
def zsm{ps:List Int}(m:Nat):zbG ds ps qs m<=za5 ds m:=by
 unfold zbG;split<;>grind
def zpV{F:Nat->Rat}:("0i".map F).getD m 0=if m<n then F m else 0:=by
 rw[yf,ye];by_cases h:m<n
 ·rw[yU h,if_pos h];rfl
 ·rw[yG (by rw[yx];lia),if_neg h];rfl
def zdv{A:Int}:∀(ds:List Due),(∀d∈ds,0<=d.a/\d.a<=A)->0<=A->0<=zA ds m r/\zA ds m r<=A*(ds.length:Int):=by
 intro ds h f;have b:∀t,t<=ds.length->0<=zA (ds.take t) m r/\zA (ds.take t) m r<=A*(t:Int):=by
  intro t
  induction t with
  | zero=>intro _;rw[yba];exact⟨y6 _,by show(0:Int)<=A*0;lia⟩
  | succ t ih=>
   intro c;obtain⟨d,hd⟩:=zC (show t<ds.length by lia);have h1:=ih ⋯;have h2:=h d (yb hd);have e:A*((t+1:Nat):Int)=A*(t:Int)+A:=by push_cast;rw[ybe,ya2]
   rw[zai hd,zaL,e];split<;>lia
 have:=b ds.length (yg _)
 rwa [yw]at this
def zgK{c:Nat}(b:1<=z)(e:∀d∈ds,sz (rkD ds d)<=z)(a:ds.length<=c)(h:z*c*(n+1)<3000):sz ((zcf ds ^ (n+1):Nat):Int)<=3000:=by
 refine zaH ?_;rw[y9];have h1:zcf ds<=2 ^ (z*c):=by
  have:=zlc b e
  rw[<- Nat.pow_mul]at this;exact yj this (yaP "0a" (yav _ a))
 have h2:=Nat.pow_le_pow_left h1 (n+1);rw[<- Nat.pow_mul]at h2;exact yae h2 (ybb "0a" h)
noncomputable def Drawn (ds:List Due) (c m:Int):Prop:=(m=0->∀d∈ds,d.a<=12)/\(m≠0->c<17)/\ds.length=c.toNat
def zqZ{m n:Int}(h:Drawn ds c m)(hd:∀d∈ds,0<=d.a/\d.a<=1000000000000)(k:0<=c)(o:c<=57)(l:0<=m)(j:0<=n)(i:n<=8)(g:(0<m/\6<c\/16<c)->n<=3):sz ((zcf ds ^ (n.toNat+1):Nat):Int)<=3000:=by
 obtain⟨h1,h2,hl⟩:=h;by_cases e:m=0
 ·have ha:∀d∈ds,0<=d.a/\d.a<=12:=λd h=>⟨(hd d h).1,h1 e d h⟩
  by_cases b:16<c
  ·refine zgK (z:=10) (c:=57) "0a" (λd _=>?_) ⋯ ?_
   ·have:=zdv (m:=d.p.toNat) (r:=d.r.toNat) ds ha "0a"
    exact zaH (by unfold rkD;have:=(by decide:(2:Nat) ^ 10=1024);lia)
   ·have:=g (.inr b)
    have:n.toNat<=3:=by lia
    calc 10*57*(n.toNat+1)<=10*57*4:=yav _ ⋯
     _<3000:=by decide
  ·refine zgK (z:=8) (c:=16) "0a" (λd _=>?_) ⋯ ?_
   ·have:=zdv (m:=d.p.toNat) (r:=d.r.toNat) ds ha "0a"
    exact zaH (by unfold rkD;have:=(by decide:(2:Nat) ^ 8=256);lia)
   ·calc 8*16*(n.toNat+1)<=8*16*9:=yav _ ⋯
     _<3000:=by decide
 ·have f:=h2 e;by_cases b:6<c
  ·refine zgK (z:=44) (c:=16) "0a" (λd _=>?_) ⋯ ?_
   ·have:=zdv (m:=d.p.toNat) (r:=d.r.toNat) ds hd "0a"
    exact zaH (by unfold rkD;have:=(by decide:(2:Nat) ^ 44=17592186044416);lia)
   ·have:=g (.inl ⟨⋯,b⟩)
    have:n.toNat<=3:=by lia
    calc 44*16*(n.toNat+1)<=44*16*4:=yav _ ⋯
     _<3000:=by decide
  ·refine zgK (z:=43) (c:=6) "0a" (λd _=>?_) ⋯ ?_
   ·have:=zdv (m:=d.p.toNat) (r:=d.r.toNat) ds hd "0a"
    exact zaH (by unfold rkD;have:=(by decide:(2:Nat) ^ 43=8796093022208);lia)
   ·calc 43*6*(n.toNat+1)<=43*6*9:=yav _ ⋯
     _<3000:=by decide
def zm4(hd:∀d∈ds,0<=d.r/\d.r<3):zao ds m=zS (vec 3 (zA ds m)):=by
 have b:∀t,t<=ds.length->zao (ds.take t) m=zA (ds.take t) m 0+zA (ds.take t) m 1+zA (ds.take t) m 2:=by
  intro t
  induction t with
  | zero=>intro _;rfl
  | succ t ih=>
   intro c;obtain⟨d,a⟩:=zC (show t<ds.length by lia);have h1:=ih ⋯;obtain⟨g,f⟩:=hd d (yb a);rw[zai a,zbh,zaL,zaL,zaL];by_cases e:d.p=(m:Int)
   ·rw[if_pos e];obtain h | h | h:d.r=0\/d.r=1\/d.r=2:=by lia
    ·rw[if_pos ⟨e,⋯⟩,if_neg (λz=>by have:=z.2;lia),if_neg (λz=>by have:=z.2;lia)];lia
    ·rw[if_neg (λz=>by have:=z.2;lia),if_pos ⟨e,⋯⟩,if_neg (λz=>by have:=z.2;lia)];lia
    ·rw[if_neg (λz=>by have:=z.2;lia),if_neg (λz=>by have:=z.2;lia),if_pos ⟨e,⋯⟩];lia
   ·rw[if_neg e,if_neg (λz=>e z.1),if_neg (λz=>e z.1),if_neg (λz=>e z.1)];exact h1
 have:=b ds.length (yg _)
 rw[yw]at this;rw[this];show _=0+zA ds m 0+zA ds m 1+zA ds m 2;lia
noncomputable def zcC (ps:List Int):Prop:=∀p∈ps,0<=p/\p<=100000000000000
def PRows.snoc{F:Nat->List Rat}(h:PRows H as F)(n:p∉as)(hp:H p=some (.lst vs))(f:IsQs H vs (F as.length)):PRows H (as++[p]) F:=by
 refine⟨yaz.mpr ⟨h.1,by simp,λa ha b d e=>n (by rw[yu]at d;subst d;subst e;exact ha)⟩,λi a q=>?_⟩;rw[yaH]at q;split at q
 ·exact h.2 i a q
 ·rename_i hi;have c:i-as.length=0:=by
   cases e:i-as.length with
   | zero=>rfl
   | succ m=>rw[e]at q;cases q
  rw[c]at q;cases q
  have:i=as.length:=by lia
  subst this;exact⟨vs,hp,f⟩
def PRows.nil{F:Nat->List Rat}:PRows H [] F:=⟨yaE,λ_ _ h=>nomatch h⟩
def PRows.ne{F:Nat->List Rat}{D:Addr}(h:PRows H as F)(d:H D=some (.lst (as.map V.ref))):D∉as:=λz=>by
 obtain⟨i,hi,e⟩:=yB z;have k:as[i]?=some D:=by rw[yk hi,e]
 obtain⟨vs,h1,h2⟩:=h.2 i D k;rw[d]at h1;cases h1;obtain⟨c,b⟩:=zC (show 0<as.length by lia);obtain⟨v,q,g,_,j⟩:=h2.get (show(as.map V.ref)[0]?=some (.ref c) by rw[ye,b];rfl);obtain⟨ws,f,_⟩:=h.2 0 c b;cases g;have a:H c=some (.tup [.int q.num,.int "0l"]):=j;rw[f]at a;cases a
def PRows.congr{F G:Nat->List Rat}(h:PRows H as F)(e:∀m,m<as.length->F m=G m):PRows H as G:=
 ⟨h.1,λm a q=>by obtain⟨vs,h1,h2⟩:=h.2 m a q;exact⟨vs,h1,by rw[<- e m (yh.mp q).1];exact h2⟩⟩
end Internal
namespace Dt
variable {i k m n r:Nat}
noncomputable def sm (n:Nat) (f:Nat->Rat):Rat:=match n with
 | 0=>0
 | n+1=>sm n f+f n
theorem sm_congr{f g:Nat->Rat}:∀{n:Nat},(∀i,i<n->f i=g i)->sm n f=sm n g
 | 0,_=>rfl
 | n+1,h=>by unfold sm;rw[sm_congr λi hi=>h i ⋯,h n ⋯]
theorem sm_zero:∀{n:Nat} {f:Nat->Rat},(∀i,i<n->f i=0)->sm n f=0
 | 0,_,_=>rfl
 | n+1,f,h=>by unfold sm;rw[sm_zero λi hi=>h i ⋯,h n ⋯];grind
theorem sm_add{f g:Nat->Rat}:∀n:Nat,sm n (λi=>f i+g i)=sm n f+sm n g
 | 0=>by unfold sm;grind
 | n+1=>by unfold sm;rw[sm_add n];grind
theorem sm_mul{f:Nat->Rat}(a:Rat):∀n:Nat,sm n (λi=>a*f i)=a*sm n f
 | 0=>by unfold sm;grind
 | n+1=>by unfold sm;rw[sm_mul a n];grind
def sm_neg{f:Nat->Rat}(n:Nat):sm n (λi=>-f i)=-sm n f:=by
 have:=sm_mul (f:=f) (-1) n
 rw[sm_congr (g:=λi=>-1*f i) (λi _=>by grind),this];grind
def sm_lin{f g:Nat->Rat}(a b:Rat)(n:Nat):sm n (λi=>a*f i+b*g i)=a*sm n f+b*sm n g:=by
 rw[sm_add,sm_mul,sm_mul]
theorem sm_swap{F:Nat->Nat->Rat}(m:Nat):∀n:Nat,sm n (λi=>sm m (F i))=sm m (λj=>sm n λi=>F i j)
 | 0=>by
  show(0:Rat)=sm m λ_=>0
  rw[sm_zero λ_ _=>rfl]
 | n+1=>by
  show sm n (λi=>sm m (F i))+sm m (F n)=sm m λj=>sm n (λi=>F i j)+F n j;rw[sm_swap m n,sm_add]
def sm_one{f:Nat->Rat}(hi:i<n)(h:∀j,j<n->j≠i->f j=0):sm n f=f i:=by
 induction n with
 | zero=>lia
 | succ n ih=>
  unfold sm;by_cases e:i=n
  ·subst e;rw[sm_zero λj b=>h j ⋯ ⋯];grind
  ·rw[ih ⋯ λj b a=>h j ⋯ a,h n ⋯ (λz=>e z.symm)];grind
noncomputable def skip (i:Nat) (f:Nat->Rat):Nat->Rat:=λr=>if r<i then f r else f (r+1)
noncomputable def up (i k:Nat):Nat:=if k<i then k else k+1
def zew(i:Nat)(f:Nat->Rat)(k:Nat):skip i f k=f (up i k):=by unfold skip up;split<;>rfl
theorem zne{h:Nat->Rat}{i:Nat}:∀{n:Nat},i<n+1->sm n (λk=>h (up i k))=sm (n+1) (λj=>if j=i then 0 else h j)
 | 0,hi=>by
  have:i=0:=by lia
  subst this;unfold sm;unfold sm;rw[if_pos rfl];grind
 | n+1,hi=>by
  by_cases e:i=n+1
  ·subst e;rw[show sm (n+1+1) (λj=>if j=n+1 then 0 else h j)=sm (n+1) (λj=>if j=n+1 then 0 else h j)+(if n+1=n+1 then 0 else h (n+1))from rfl,if_pos rfl];rw[sm_congr (f:=λk=>h (up (n+1) k)) (g:=λj=>if j=n+1 then 0 else h j) λk b=>by
    show h (up (n+1) k)=if k=n+1 then 0 else h k
    rw[if_neg ⋯];unfold up;rw[if_pos ⋯]]
   grind
  ·have a:=zne (h:=h) (i:=i) (n:=n) ⋯;rw[show sm (n+1) (λk=>h (up i k))=sm n (λk=>h (up i k))+h (up i n)from rfl,a];rw[show sm (n+1+1) (λj=>if j=i then 0 else h j)=sm (n+1) (λj=>if j=i then 0 else h j)+(if n+1=i then 0 else h (n+1))from rfl,if_neg (λz=>e z.symm)];unfold up;rw[if_neg ⋯]
noncomputable def sgn:Nat->Rat
 | 0=>1
 | n+1=>-sgn n
noncomputable def det:Nat->(Nat->Nat->Rat)->Rat
 | 0,_=>1
 | n+1,c=>sm (n+1) λi=>sgn (n+i)*c n i*det n (λj=>skip i (c j))
theorem det_congr:∀{n:Nat} {c c':Nat->Nat->Rat},(∀j r,j<n->r<n->c j r=c' j r)->det n c=det n c'
 | 0,_,_,_=>rfl
 | n+1,c,c',h=>by
  unfold det;refine sm_congr λi hi=>?_;rw[h n i ⋯ hi,det_congr λj r b a=>?_];unfold skip;split
  ·exact h j r ⋯ ⋯
  ·exact h j (r+1) ⋯ ⋯
noncomputable def setc (c:Nat->Nat->Rat) (m:Nat) (u:Nat->Rat):Nat->Nat->Rat:=λj=>if j=m then u else c j
def zf5{c:Nat->Nat->Rat}{u:Nat->Rat}:(λj=>skip i (setc c m u j))=setc (λj=>skip i (c j)) m (skip i u):=by
 funext j;unfold setc;split<;>rfl
theorem zb3{m:Nat}(a b:Rat):∀{n:Nat} {c:Nat->Nat->Rat} {u v:Nat->Rat},m<n->det n (setc c m λr=>a*u r+b*v r)=a*det n (setc c m u)+b*det n (setc c m v)
 | 0,_,_,_,h=>by lia
 | n+1,c,u,v,h=>by
  unfold det;rw[<- sm_lin];refine sm_congr λi hi=>?_;by_cases e:m=n
  ·subst e;have d:∀w:Nat->Rat,setc c m w m=w:=λw=>by unfold setc;rw[if_pos rfl]
   have f:∀w:Nat->Rat,det m (λj=>skip i (setc c m w j))=det m (λj=>skip i (c j)):=λw=>det_congr λj r l k=>by
    unfold setc;rw[if_neg ⋯]
   rw[d,d,d,f,f,f];grind
  ·have d:∀w:Nat->Rat,setc c m w n=c n:=λw=>by unfold setc;rw[if_neg (λz=>e z.symm)]
   rw[d,d,d,zf5,zf5,zf5];have g:skip i (λr=>a*u r+b*v r)=λr=>a*skip i u r+b*skip i v r:=by
    funext r;unfold skip;split<;>rfl
   rw[g,zb3 a b ⋯];grind
def zdn{c:Nat->Nat->Rat}:setc c m (c m)=c:=by
 funext j;unfold setc;split
 ·rename_i h;rw[h]
 ·rfl
noncomputable def zkc (n:Nat) (c:Nat->Nat->Rat) (p q:Nat):Prop:=∀r,r<n->c p r=c q r
noncomputable def swapc (c:Nat->Nat->Rat) (p q:Nat):Nat->Nat->Rat:=λj=>if j=p then c q else if j=q then c p else c j
def zlY{p q:Nat}(f:∀c:Nat->Nat->Rat,zkc n c p q->det n c=0)(hp:p<n)(i:q<n)(e:p≠q)(c:Nat->Nat->Rat):det n (swapc c p q)=-det n c:=by
 have two:∀u v:Nat->Rat,det n (setc (setc c p u) q v)=-det n (setc (setc c p v) q u):=λu v=>by
  have k:=f (setc (setc c p λr=>1*u r+1*v r) q λr=>1*u r+1*v r) λr _=>by
   unfold setc;rw[if_neg e,if_pos rfl,if_pos rfl]
  have m:=f (setc (setc c p u) q u) λr _=>by unfold setc;rw[if_neg e,if_pos rfl,if_pos rfl]
  have o:=f (setc (setc c p v) q v) λr _=>by unfold setc;rw[if_neg e,if_pos rfl,if_pos rfl]
  have d:∀a b:Nat->Rat,setc (setc c p a) q b=setc (setc c q b) p a:=λa b=>by
   funext j;unfold setc;by_cases h1:j=q
   ·rw[if_pos h1,if_neg (λz=>e (z.symm.trans h1)),if_pos h1]
   ·rw[if_neg h1];by_cases h2:j=p
    ·rw[if_pos h2,if_pos h2]
    ·rw[if_neg h2,if_neg h2,if_neg h1]
  rw[zb3 1 1 i,d,zb3 1 1 hp,d,zb3 1 1 hp,<- d,<- d,<- d,<- d]at k;grind
 have h:=two (c q) (c p);have l:setc (setc c p (c q)) q (c p)=swapc c p q:=by
  funext j;unfold setc swapc;by_cases h1:j=q
  ·rw[if_pos h1,if_neg (λz=>e (z.symm.trans h1)),if_pos h1]
  ·rw[if_neg h1];by_cases h2:j=p
   ·rw[if_pos h2,if_pos h2]
   ·rw[if_neg h2,if_neg h2,if_neg h1]
 have g:setc (setc c p (c p)) q (c q)=c:=by rw[zdn];exact zdn
 rw[l,g]at h;exact h
def skip2{f:Nat->Rat}(h:i<=k):skip k (skip i f) r=skip i (skip (k+1) f) r:=by
 unfold skip;by_cases h1:r<i
 ·rw[if_pos ⋯,if_pos h1,if_pos h1,if_pos ⋯]
 ·by_cases h2:r<k
  ·rw[if_pos h2,if_neg h1,if_neg h1,if_pos ⋯]
  ·rw[if_neg h2,if_neg ⋯,if_neg h1,if_neg ⋯]
def zkX{c:Nat->Nat->Rat}(h:zkc (n+2) c n (n+1)):det (n+2) c=0:=by
 -- what two rows i,j bring
 let M:Nat->Nat->Rat:=λi k=>det n (λj=>skip k (skip i (c j)))
 let G:Nat->Nat->Rat:=λi j=>if j<i then sgn (n+1+i)*c (n+1) i*(sgn (n+j)*c (n+1) j*M i j)else sgn (n+1+i)*c (n+1) i*(sgn (n+(j-1))*c (n+1) j*M i (j-1))
 have s:det (n+2) c=sm (n+2) λi=>sm (n+2) λj=>if j=i then 0 else G i j:=by
  show sm (n+2) (λi=>sgn (n+1+i)*c (n+1) i*det (n+1) (λj=>skip i (c j)))=_;refine sm_congr λi hi=>?_;show sgn (n+1+i)*c (n+1) i*sm (n+1) (λk=>sgn (n+k)*skip i (c n) k*det n (λj=>skip k (skip i (c j))))=_;rw[<- sm_mul,<- zne (n:=n+1) hi];refine sm_congr λk w=>?_;show sgn (n+1+i)*c (n+1) i*(sgn (n+k)*skip i (c n) k*M i k)=G i (up i k);show _=if up i k<i then sgn (n+1+i)*c (n+1) i*(sgn (n+up i k)*c (n+1) (up i k)*M i (up i k))else sgn (n+1+i)*c (n+1) i*(sgn (n+(up i k-1))*c (n+1) (up i k)*M i (up i k-1))
  rw[zew];have t:up i k<n+2:=by unfold up;split<;>lia
  rw[h _ t];by_cases b:k<i
  ·have:up i k=k:=by unfold up;rw[if_pos b]
   rw[this,if_pos b]
  ·have:up i k=k+1:=by unfold up;rw[if_neg b]
   rw[this,if_neg ⋯,Nat.add_sub_cancel]
 have a:∀i j,i<n+2->j<n+2->i<j->G i j=-G j i:=λi j hi g d=>by
  show(if j<i then _ else _)=-(if i<j then _ else _)
  rw[if_neg ⋯,if_pos d];have o:M i (j-1)=M j i:=det_congr λl r hl v=>by
   have:=skip2 (f:=c l) (i:=i) (k:=j-1) (r:=r) ⋯
   rw[show j-1+1=j by lia]at this;exact this
  rw[o];have u:sgn (n+1+i)=-sgn (n+i):=by rw[show n+1+i=n+i+1 by lia];rfl
  have q:sgn (n+1+j)=sgn (n+(j-1)):=by
   rw[show n+1+j=n+(j-1)+1+1 by lia];show - -sgn (n+(j-1))=_;grind
  rw[u,q];grind
 have p:sm (n+2) (λi=>sm (n+2) λj=>if j=i then 0 else G i j)=-sm (n+2) (λi=>sm (n+2) λj=>if j=i then 0 else G i j):=by
  rw[<- sm_neg];rw[sm_swap];refine sm_congr λi hi=>?_;rw[<- sm_neg];refine sm_congr λj g=>?_;by_cases e:i=j
  ·rw[if_pos e,if_pos e.symm];grind
  ·rw[if_neg e,if_neg (λz=>e z.symm)];by_cases m:i<j
   ·have:=a i j hi g m;grind
   ·have:=a j i g hi ⋯;grind
 rw[s];grind
theorem zep:∀{n:Nat} {c:Nat->Nat->Rat} {p q:Nat},p<q->q<n->zkc n c p q->det n c=0
 | 0,_,_,_,_,h,_=>by lia
 | n+1,c,p,q,hpq,hq,h=>by
  by_cases e:q=n
  ·subst e;obtain⟨m,rfl⟩:∃m,q=m+1:=⟨q-1,⋯⟩
   by_cases a:p=m
   ·subst a;exact zkX h
   ·-- swap p and m among the first columns
    have l:det (m+2) (swapc c p m)=-det (m+2) c:=by
     show sm (m+2) _=-sm (m+2) _;rw[<- sm_neg];refine sm_congr λi hi=>?_;have g:swapc c p m (m+1)=c (m+1):=by unfold swapc;rw[if_neg ⋯,if_neg ⋯]
     have f:(λj=>skip i (swapc c p m j))=swapc (λj=>skip i (c j)) p m:=by
      funext j;unfold swapc;split
      ·rfl
      ·split<;>rfl
     have d:=zlY (n:=m+1) (p:=p) (q:=m) (λk h'=>zep ⋯ ⋯ h') ⋯ ⋯ a (λj=>skip i (c j));rw[g,f,d];grind
    have z:det (m+2) (swapc c p m)=0:=zkX λr b=>by
     have:=h r b
     unfold swapc;rw[if_neg (λz=>a z.symm),if_pos rfl,if_neg ⋯,if_neg ⋯];exact this
    grind
  ·unfold det;refine sm_zero λi hi=>?_;rw[zep (n:=n) (p:=p) (q:=q) hpq ⋯ λr b=>?_]
   ·grind
   ·show skip i (c p) r=skip i (c q) r;unfold skip;split
    ·exact h r ⋯
    ·exact h (r+1) ⋯
def zkt{c:Nat->Nat->Rat}{p q:Nat}(hp:p<n)(d:q<n)(a:p≠q)(h:zkc n c p q):det n c=0:=by
 rcases ybL a with z | z
 ·exact zep z d h
 ·exact zep z hp λr b=>(h r b).symm
def zqk{c:Nat->Nat->Rat}(h:∀r,r<n->c n r=0)(h1:c n n=1):det (n+1) c=det n c:=by
 show sm (n+1) (λi=>sgn (n+i)*c n i*det n (λj=>skip i (c j)))=_;rw[sm_one (i:=n) ⋯ λj d b=>by rw[h j ⋯];grind,h1]
 have:det n (λj=>skip n (c j))=det n c:=det_congr λj r d a=>by unfold skip;rw[if_pos a]
 rw[this];have s:∀k,sgn (k+k)=1:=λk=>by
  induction k with
  | zero=>rfl
  | succ k ih=>
   rw[show k+1+(k+1)=k+k+1+1 by lia];show - -sgn (k+k)=1;rw[ih];grind
 rw[s];grind
theorem zob{f:Nat->Rat}{a:Nat}:∀{n:Nat},a+1<n->sm n (λi=>if i=a then f (a+1)else if i=a+1 then f a else f i)=sm n f
 | 0,h=>by lia
 | n+1,h=>by
  by_cases e:a+1=n
  ·subst e;show sm a _+_+_=sm a f+f a+f (a+1);dsimp only;rw[if_pos rfl,if_neg ⋯,if_pos rfl,sm_congr (g:=f) λi hi=>by rw[if_neg ⋯,if_neg ⋯]];grind
  ·show sm n _+_=sm n f+f n;rw[zob ⋯];dsimp only;rw[if_neg ⋯,if_neg ⋯]
noncomputable def swapa (c:Nat->Nat->Rat) (a:Nat):Nat->Nat->Rat:=λj i=>if i=a then c j (a+1)else if i=a+1 then c j a else c j i
theorem zeg:∀{n:Nat} {c:Nat->Nat->Rat} {a:Nat},a+1<n->det n (swapa c a)=-det n c
 | 0,_,_,h=>by lia
 | n+1,c,a,h=>by
  show sm (n+1) (λi=>sgn (n+i)*swapa c a n i*det n (λj=>skip i (swapa c a j)))=-sm (n+1) λi=>sgn (n+i)*c n i*det n (λj=>skip i (c j));rw[<- sm_neg,<- zob (f:=λi=>-(sgn (n+i)*c n i*det n (λj=>skip i (c j)))) h];refine sm_congr λi hi=>?_;by_cases g:i=a
  ·subst g;rw[if_pos rfl];have h1:swapa c i n i=c n (i+1):=by unfold swapa;rw[if_pos rfl]
   have h2:det n (λj=>skip i (swapa c i j))=det n (λj=>skip (i+1) (c j)):=det_congr λj r k d=>by
    unfold swapa skip
    (dsimp only;(repeat' split)<;>first | rfl | (exfalso;lia) | (congr 1;lia))
   rw[h1,h2,show n+(i+1)=n+i+1 by lia];show _=-(-sgn (n+i)*_*_)
   grind
  ·rw[if_neg g];by_cases e:i=a+1
   ·subst e;rw[if_pos rfl];have h1:swapa c a n (a+1)=c n a:=by unfold swapa;rw[if_neg ⋯,if_pos rfl]
    have h2:det n (λj=>skip (a+1) (swapa c a j))=det n (λj=>skip a (c j)):=det_congr λj r k d=>by
     unfold swapa skip
     (dsimp only;(repeat' split)<;>first | rfl | (exfalso;lia) | (congr 1;lia))
    rw[h1,h2,show n+(a+1)=n+a+1 by lia];show -sgn (n+a)*_*_=_;grind
   ·rw[if_neg e];have h1:swapa c a n i=c n i:=by unfold swapa;rw[if_neg g,if_neg e]
    rw[h1];by_cases lt:i<a
    ·obtain⟨b,rfl⟩:∃b,a=b+1:=⟨a-1,⋯⟩
     have h2:(det n λj=>skip i (swapa c (b+1) j))=det n (swapa (λj=>skip i (c j)) b):=det_congr λj r k d=>by
      unfold swapa skip
      (dsimp only;(repeat' split)<;>first | rfl | (exfalso;lia) | (congr 1;lia))
     rw[h2,zeg ⋯];grind
    ·have h2:(det n λj=>skip i (swapa c a j))=det n (swapa (λj=>skip i (c j)) a):=det_congr λj r k d=>by
      unfold swapa skip
      (dsimp only;(repeat' split)<;>first | rfl | (exfalso;lia) | (congr 1;lia))
     rw[h2,zeg ⋯];grind
theorem zhp:∀(g:Nat) {n:Nat} {c:Nat->Nat->Rat} {p q:Nat},q=p+1+g->q<n->(∀j,j<n->c j p=c j q)->det n c=0
 | 0,n,c,p,q,e,hq,h=>by
  subst e
  have:=zeg (n:=n) (c:=c) (a:=p) ⋯
  have f:det n (swapa c p)=det n c:=det_congr λj r b d=>by
   unfold swapa;by_cases h1:r=p
   ·rw[if_pos h1,h1];exact(h j b).symm
   ·rw[if_neg h1];by_cases h2:r=p+1
    ·rw[if_pos h2,h2];exact h j b
    ·rw[if_neg h2]
  grind
 | g+1,n,c,p,q,e,hq,h=>by
  have h1:=zeg (n:=n) (c:=c) (a:=q-1) ⋯;have h2:=zhp g (n:=n) (c:=swapa c (q-1)) (p:=p) (q:=q-1) ⋯ ⋯ λj b=>by
   unfold swapa;rw[if_neg ⋯,if_neg ⋯,if_pos rfl,show q-1+1=q by lia];exact h j b
  grind
def zeO{c:Nat->Nat->Rat}{p q:Nat}(hp:p<n)(b:q<n)(a:p≠q)(h:∀j,j<n->c j p=c j q):det n c=0:=by
 rcases ybL a with z | z
 ·exact zhp (q-p-1) ⋯ b h
 ·exact zhp (p-q-1) ⋯ hp λj d=>(h j d).symm
noncomputable def setr (c:Nat->Nat->Rat) (r:Nat) (w:Nat->Rat):Nat->Nat->Rat:=λj i=>if i=r then w j else c j i
theorem zed(a b:Rat):∀{n:Nat} {c:Nat->Nat->Rat} {r:Nat} {u v:Nat->Rat},r<n->det n (setr c r λj=>a*u j+b*v j)=a*det n (setr c r u)+b*det n (setr c r v)
 | 0,_,_,_,_,h=>by lia
 | n+1,c,r,u,v,h=>by
  unfold det;rw[<- sm_lin];refine sm_congr λi hi=>?_;by_cases e:i=r
  ·subst e;have f:∀w:Nat->Rat,setr c i w n i=w n:=λw=>by unfold setr;rw[if_pos rfl]
   have d:∀w:Nat->Rat,det n (λj=>skip i (setr c i w j))=det n (λj=>skip i (c j)):=λw=>det_congr λj r g l=>by
    unfold setr skip
    (dsimp only;(repeat' split)<;>first | rfl | (exfalso;lia) | (congr 1;lia))
   rw[f,f,f,d,d,d];grind
  ·have f:∀w:Nat->Rat,setr c r w n i=c n i:=λw=>by unfold setr;rw[if_neg e]
   have d:∀w:Nat->Rat,det n (λj=>skip i (setr c r w j))=det n (setr (λj=>skip i (c j)) (if r<i then r else r-1) w):=λw=>det_congr λj k g m=>by
    unfold setr skip
    (dsimp only;(repeat' split)<;>first | rfl | (exfalso;lia) | (congr 1;lia))
   rw[f,f,f,d,d,d,zed a b (by split<;>lia)];grind
noncomputable def IsI (x:Rat):Prop:=∃z:Int,x=(z:Rat)
def IsI.add{x y:Rat}(h:IsI x)(h':IsI y):IsI (x+y):=by
 obtain⟨a,rfl⟩:=h;obtain⟨b,rfl⟩:=h';exact⟨a+b,by rw[yO]⟩
def IsI.mul{x y:Rat}(h:IsI x)(h':IsI y):IsI (x*y):=by
 obtain⟨a,rfl⟩:=h;obtain⟨b,rfl⟩:=h';exact⟨a*b,by rw[yF]⟩
theorem IsI.sm{f:Nat->Rat}:∀{n:Nat},(∀i,i<n->IsI (f i))->IsI (sm n f)
 | 0,_=>⟨0,rfl⟩
 | n+1,h=>(IsI.sm λi hi=>h i ⋯).add (h n ⋯)
theorem IsI.sgn:∀n,IsI (sgn n)
 | 0=>⟨1,rfl⟩
 | n+1=>by
  obtain⟨z,e⟩:=IsI.sgn n;exact⟨-z,by show -Dt.sgn n=_;rw[e,yaM]⟩
theorem IsI.det:∀{n:Nat} {c:Nat->Nat->Rat},(∀j r,j<n->r<n->IsI (c j r))->IsI (det n c)
 | 0,_,_=>⟨1,rfl⟩
 | n+1,c,h=>by
  refine IsI.sm λi hi=>((IsI.sgn _).mul (h n i ⋯ hi)).mul (IsI.det λj r b a=>?_);unfold skip;split
  ·exact h j r ⋯ ⋯
  ·exact h j (r+1) ⋯ ⋯
end Dt
namespace Dt
variable {i j n:Nat}
theorem zgv{n i:Nat}{c:Nat->Nat->Rat}(hi:i<n){a:Nat->Rat}{u:Nat->Nat->Rat}:∀K:Nat,det n (setc c i λr=>sm K λm=>a m*u m r)=sm K λm=>a m*det n (setc c i (u m))
 | 0=>by
  have:=zb3 (n:=n) (m:=i) (c:=c) (u:=λ_=>0) (v:=λ_=>0) 0 0 hi
  have e:(λr:Nat=>(0:Rat)*0+0*0)=λr=>sm 0 λm=>a m*u m r:=by funext r;show _=(0:Rat);grind
  rw[e]at this;rw[this];show _=(0:Rat)
  grind
 | K+1=>by
  have e:(λr=>sm (K+1) λm=>a m*u m r)=λr=>1*(sm K λm=>a m*u m r)+a K*u K r:=by
   funext r;show sm K (λm=>a m*u m r)+a K*u K r=_;grind
  rw[e,zb3 1 (a K) hi,zgv hi K];show _=sm K (λm=>a m*det n (setc c i (u m)))+a K*det n (setc c i (u K));grind
def zhI{c:Nat->Nat->Rat}(hi:i<n){a:Nat->Rat}:det n (setc c i λr=>sm n λm=>a m*c m r)=a i*det n c:=by
 rw[zgv hi,sm_one hi λm d b=>?_]
 ·rw[zdn]
 ·rw[zkt d hi b λr _=>?_]
  ·grind
  ·unfold setc;rw[if_neg b,if_pos rfl]
noncomputable def cl (A:Nat->Nat->Rat):Nat->Nat->Rat:=λj r=>A r j
set_option genInjectivity false in
set_option genSizeOf false in
structure Bar(n k:Nat)(A T:Nat->Nat->Rat)(d:Rat):Prop where
 d0:d≠0
 dd:d=det k (cl A)
 id1:∀i m,i<k->m<k->T i m=if i=m then d else 0
 id2:∀i m,k<=i->i<n->m<k->T i m=0
 rel:∀l j,l<n->j<=n->d*A l j=sm k (λm=>A l m*T m j)+(if k<=l then T l j else 0)
section
variable {n k:Nat}{A T:Nat->Nat->Rat}{d:Rat}
def bar_start:Bar n 0 A A 1:=⟨by decide,rfl,λi m h=>by lia,λi m _ _ h=>by lia,λl j _ _=>by
 rw[if_pos (yW _)];show _=(0:Rat)+A l j;grind⟩
def Bar.top(b:Bar n k A T d)(l:k<=n)(hi:i<k)(f:j<=n):T i j=det k (setc (cl A) i λr=>A r j):=by
 have h1:=zhI (n:=k) (i:=i) (c:=cl A) hi (a:=λm=>T m j);have h2:det k (setc (cl A) i λr=>sm k λm=>T m j*cl A m r)=det k (setc (cl A) i λr=>d*A r j+0*A r j):=det_congr λq r h g=>by
  unfold setc;split
  ·have:=b.rel r j ⋯ f
   rw[if_neg ⋯]at this;have e:sm k (λm=>T m j*cl A m r)=sm k (λm=>A r m*T m j):=sm_congr λm _=>by unfold cl;grind
   dsimp only;rw[e];grind
  ·rfl
 rw[h1,<- b.dd,zb3 d 0 hi]at h2
 have:=b.d0
 grind
noncomputable def bor (A:Nat->Nat->Rat) (k i j:Nat):Nat->Nat->Rat:=λq r=>A (if r<k then r else i) (if q<k then q else j)
def Bar.bot(b:Bar n k A T d)(hi:k<=i)(f:i<n)(o:j<=n):T i j=det (k+1) (bor A k i j):=by
 let C:=bor A k i j
 let e:Nat->Rat:=λr=>if r=k then 1 else 0
 have c:∀r,r<k+1->d*C k r=(sm k λm=>T m j*C m r)+T i j*e r:=λr a=>by
  show d*A (if r<k then r else i) (if k<k then k else j)=(sm k λm=>T m j*A (if r<k then r else i) (if m<k then m else j))+T i j*(if r=k then 1 else 0)
  rw[if_neg (show ¬k<k by lia),sm_congr (g:=λm=>A (if r<k then r else i) m*T m j) λm s=>by rw[if_pos s];grind];by_cases h:r<k
  ·rw[if_pos h,if_neg ⋯]
   have:=b.rel r j ⋯ o
   rw[if_neg ⋯]at this;grind
  ·rw[if_neg h,if_pos ⋯]
   have:=b.rel i j f o
   rw[if_pos hi]at this;grind
 have h1:d*det (k+1) C=det (k+1) (setc C k λr=>d*C k r+0*C k r):=by
  rw[zb3 d 0 ⋯,zdn];grind
 have h2:det (k+1) (setc C k λr=>d*C k r+0*C k r)=det (k+1) (setc C k λr=>1*(sm k λm=>T m j*C m r)+T i j*e r):=det_congr λq r l a=>by
  unfold setc;split
  ·have:=c r a
   grind
  ·rfl
 have u:det (k+1) (setc C k λr=>sm k λm=>T m j*C m r)=0:=by
  rw[zgv ⋯];refine sm_zero λm s=>?_;rw[zkt (p:=m) (q:=k) ⋯ ⋯ ⋯ λr _=>by unfold setc;rw[if_neg ⋯,if_pos rfl]];grind
 have v:det (k+1) (setc C k e)=d:=by
  have t:∀r,r<k->setc C k e k r=0:=λr a=>by unfold setc;rw[if_pos rfl];show(if r=k then(1:Rat)else 0)=0;rw[if_neg ⋯]
  have w:setc C k e k k=1:=by unfold setc;rw[if_pos rfl];show(if k=k then(1:Rat)else 0)=1;rw[if_pos rfl]
  rw[zqk t w,b.dd];refine det_congr λq r l a=>?_;unfold setc;rw[if_neg ⋯];show A (if r<k then r else i) (if q<k then q else j)=cl A q r;rw[if_pos a,if_pos l];rfl
 rw[h2,zb3 1 (T i j) ⋯,u,v]at h1
 have:=b.d0
 show T i j=det (k+1) C;grind
def Bar.whole(b:Bar n k A T d)(g:k<=n)(a:∀l j,l<n->j<=n->IsI (A l j))(hi:i<n)(c:j<=n):IsI (T i j):=by
 by_cases h:i<k
 ·rw[b.top g h c];refine IsI.det λq r f e=>?_;unfold setc;split
  ·exact a r j ⋯ c
  ·exact a r q ⋯ ⋯
 ·rw[b.bot ⋯ hi c];refine IsI.det λq r f e=>?_;show IsI (A (if r<k then r else i) (if q<k then q else j));exact a _ _ (by split<;>lia) (by split<;>lia)
noncomputable def nxt (T:Nat->Nat->Rat) (k:Nat) (d:Rat):Nat->Nat->Rat:=λi j=>if i=k then T k j else(T k k*T i j-T i k*T k j)/d
def Bar.step(b:Bar n k A T d)(c:k<n)(hp:T k k≠0):Bar n (k+1) A (nxt T k d) (T k k):=by
 have hd:=b.d0;refine⟨hp,?_,λi m hi h=>?_,λi m hi f h=>?_,λl j hl p=>?_⟩
 ·rw[b.bot (yg k) c (yaS c)];refine det_congr λq r v u=>?_;show A (if r<k then r else k) (if q<k then q else k)=A r q;congr 1
  ·split<;>lia
  ·split<;>lia
 ·unfold nxt;by_cases e:i=k
  ·rw[if_pos e];by_cases a:m=k
   ·rw[a,if_pos e]
   ·rw[if_neg (λz=>a (z.symm.trans e)),b.id2 k m (yg _) c ⋯]
  ·rw[if_neg e];by_cases a:m=k
   ·rw[a,if_neg e];grind
   ·rw[b.id1 i m ⋯ ⋯,b.id2 k m (yg _) c ⋯];split<;>grind
 ·unfold nxt;rw[if_neg ⋯];by_cases a:m=k
  ·rw[a];grind
  ·rw[b.id2 i m ⋯ f ⋯,b.id2 k m (yg _) c ⋯];grind
 ·have g:=b.rel l j hl p;have o:=b.rel l k hl ⋯;have t:sm (k+1) (λm=>A l m*nxt T k d m j)=sm k (λm=>(T k k/d)*(A l m*T m j)+(-(T k j/d))*(A l m*T m k))+A l k*T k j:=by
   show sm k (λm=>A l m*nxt T k d m j)+A l k*nxt T k d k j=_;congr 1
   ·refine sm_congr λm h=>?_;unfold nxt;rw[if_neg ⋯];grind
   ·unfold nxt;rw[if_pos rfl]
  rw[t,sm_lin];by_cases s:l<k
  ·rw[if_neg ⋯]at g o ⊢;grind
  ·rw[if_pos ⋯]at g o;by_cases e:l=k
   ·subst e;rw[if_neg ⋯];grind
   ·rw[if_pos ⋯];unfold nxt;rw[if_neg e];grind
noncomputable def swp {α:Type} (T:Nat->α) (a b:Nat):Nat->α:=λi=>if i=a then T b else if i=b then T a else T i
def Bar.swap(b:Bar n k A T d){p q:Nat}(hp:k<=p)(B:k<=q)(w:p<n)(v:q<n):Bar n k (swp A p q) (swp T p q) d:=by
 have a:∀{α:Type} (F:Nat->α) i,i<k->swp F p q i=F i:=λF i hi=>by unfold swp;rw[if_neg ⋯,if_neg ⋯]
 have at':∀i,∃c,(c<n↔i<n)/\(k<=c↔k<=i)/\swp A p q i=A c/\swp T p q i=T c:=λi=>by
  by_cases e:i=p
  ·exact⟨q,⋯,⋯,by unfold swp;rw[if_pos e],by unfold swp;rw[if_pos e]⟩
  ·by_cases h:i=q
   ·exact⟨p,⋯,⋯,by unfold swp;rw[if_neg e,if_pos h],by unfold swp;rw[if_neg e,if_pos h]⟩
   ·exact⟨i,Iff.rfl,Iff.rfl,by unfold swp;rw[if_neg e,if_neg h],by unfold swp;rw[if_neg e,if_neg h]⟩
 refine⟨b.d0,?_,λi m hi f=>?_,λi m hi s f=>?_,λl j hl t=>?_⟩
 ·rw[b.dd];refine det_congr λj r t u=>?_;show A r j=swp A p q r j;rw[a A r u]
 ·rw[a T i hi];exact b.id1 i m hi f
 ·obtain⟨c,h1,h2,_,o⟩:=at' i;rw[o];exact b.id2 c m (h2.mpr hi) (h1.mpr s) f
 ·obtain⟨l',h1,h2,x,o⟩:=at' l;rw[x,o,b.rel l' j (h1.mpr hl) t,sm_congr (g:=λm=>A l' m*swp T p q m j) λm f=>by rw[a T m f]];congr 1;by_cases z:k<=l
  ·rw[if_pos z,if_pos (h2.mpr z)]
  ·rw[if_neg z,if_neg (λy=>z (h2.mp y))]
def Bar.stuck(b:Bar n k A T d)(a:k<n)(h:∀i,k<=i->i<n->T i k=0):det n (cl A)=0:=by
 have h1:d*det n (cl A)=det n (setc (cl A) k λr=>d*cl A k r+0*cl A k r):=by
  rw[zb3 d 0 a,zdn];grind
 have h2:det n (setc (cl A) k λr=>d*cl A k r+0*cl A k r)=det n (setc (cl A) k λr=>sm k λm=>T m k*cl A m r):=det_congr λq r l c=>by
  unfold setc;split
  ·have:=b.rel r k c ⋯
   have e:(if k<=r then T r k else 0)=0:=by
    split
    ·rename_i z;exact h r z c
    ·rfl
   rw[e]at this;have g:sm k (λm=>T m k*cl A m r)=sm k (λm=>A r m*T m k):=sm_congr λm _=>by unfold cl;grind
   dsimp only;rw[g];show d*A r k+0*A r k=_;grind
  ·rfl
 have f:det n (setc (cl A) k λr=>sm k λm=>T m k*cl A m r)=0:=by
  rw[zgv a];refine sm_zero λm j=>?_;rw[zkt (p:=m) (q:=k) ⋯ a ⋯ λr _=>by unfold setc;rw[if_neg ⋯,if_pos rfl]];grind
 have:=b.d0
 rw[h2,f]at h1;grind
def Bar.meets(b:Bar n n A T d){l:Nat}(hl:l<n):sm n (λm=>A l m*(T m n/d))=A l n:=by
 have h:=b.rel l n hl (yg _);rw[if_neg ⋯]at h;have hd:=b.d0;have e:sm n (λm=>A l m*(T m n/d))=(1/d)*sm n (λm=>A l m*T m n):=by
  rw[<- sm_mul];exact sm_congr λm _=>by grind
 rw[e];grind
end
def zoj{p q:Nat}(hp:p<n)(f:q<n)(e:p≠q)(A:Nat->Nat->Rat):det n (cl (swp A p q))=-det n (cl A):=by
 have two:∀u v:Nat->Rat,det n (setr (setr (cl A) p u) q v)=-det n (setr (setr (cl A) p v) q u):=λu v=>by
  have k:=zeO (c:=setr (setr (cl A) p λr=>1*u r+1*v r) q λr=>1*u r+1*v r) hp f e λj _=>by
   unfold setr;rw[if_neg e,if_pos rfl,if_pos rfl]
  have m:=zeO (c:=setr (setr (cl A) p u) q u) hp f e λj _=>by unfold setr;rw[if_neg e,if_pos rfl,if_pos rfl]
  have o:=zeO (c:=setr (setr (cl A) p v) q v) hp f e λj _=>by unfold setr;rw[if_neg e,if_pos rfl,if_pos rfl]
  have d:∀a b:Nat->Rat,setr (setr (cl A) p a) q b=setr (setr (cl A) q b) p a:=λa b=>by
   funext j i;unfold setr;by_cases h1:i=q
   ·rw[if_pos h1,if_neg (λz=>e (z.symm.trans h1)),if_pos h1]
   ·rw[if_neg h1];by_cases h2:i=p
    ·rw[if_pos h2,if_pos h2]
    ·rw[if_neg h2,if_neg h2,if_neg h1]
  rw[zed 1 1 f,d,zed 1 1 hp,d,zed 1 1 hp,<- d,<- d,<- d,<- d]at k;grind
 have h:=two (A q) (A p);have l:setr (setr (cl A) p (A q)) q (A p)=cl (swp A p q):=by
  funext j i;unfold setr cl swp;by_cases h1:i=q
  ·rw[if_pos h1,if_neg (λz=>e (z.symm.trans h1)),if_pos h1]
  ·rw[if_neg h1];by_cases h2:i=p
   ·rw[if_pos h2,if_pos h2]
   ·rw[if_neg h2,if_neg h2,if_neg h1]
 have g:setr (setr (cl A) p (A p)) q (A q)=cl A:=by
  funext j i;unfold setr cl;by_cases h1:i=q
  ·rw[if_pos h1,h1]
  ·rw[if_neg h1];by_cases h2:i=p
   ·rw[if_pos h2,h2]
   ·rw[if_neg h2]
 rw[l,g]at h;exact h
end Dt
namespace Dt
variable {i j k n z:Nat}
noncomputable def Bd (b x:Rat):Prop:=-b<=x/\x<=b
def Bd.nn{b x:Rat}(h:Bd b x):0<=b:=by have:=h.1;have:=h.2;grind
def Bd.mul{a b x y:Rat}(h:Bd a x)(h':Bd b y):Bd (a*b) (x*y):=by
 have e:0<=(a-x)*(b+y):=yI (by have:=h.2;grind) (by have:=h'.1;grind);have p2:0<=(a+x)*(b-y):=yI (by have:=h.1;grind) (by have:=h'.2;grind);have d:0<=(a-x)*(b-y):=yI (by have:=h.2;grind) (by have:=h'.2;grind);have c:0<=(a+x)*(b+y):=yI (by have:=h.1;grind) (by have:=h'.1;grind);constructor<;>grind
def Bd.add{a b x y:Rat}(h:Bd a x)(h':Bd b y):Bd (a+b) (x+y):=by
 have:=h.1;have:=h.2;have:=h'.1;have:=h'.2
 constructor<;>grind
theorem Bd.sm{b:Rat}{f:Nat->Rat}:∀{n:Nat},(∀i,i<n->Bd b (f i))->Bd ((n:Nat)*b) (sm n f)
 | 0,_=>by
  show Bd _ (0:Rat)
  have:((0:Nat):Rat)=0:=rfl
  rw[this];constructor<;>grind
 | n+1,h=>by
  have h1:=(Bd.sm (n:=n) λi hi=>h i ⋯).add (h n ⋯);have e:(((n+1:Nat):Rat))*b=(n:Nat)*b+b:=by
   have:((n+1:Nat):Rat)=(n:Nat)+1:=by push_cast;rfl
   rw[this];grind
  rw[e];exact h1
theorem Bd.sgn:∀n,Bd 1 (sgn n)
 | 0=>by unfold Dt.sgn;constructor<;>grind
 | n+1=>by
  have:=Bd.sgn n
  have:=this.1;have:=(Bd.sgn n).2
  unfold Dt.sgn;constructor<;>grind
noncomputable def dN (M:Nat):Nat->Nat
 | 0=>1
 | n+1=>(n+1)*(M*dN M n)
theorem Bd.det{M:Nat}:∀{n:Nat} {c:Nat->Nat->Rat},(∀j r,j<n->r<n->Bd (M:Nat) (c j r))->Bd ((dN M n:Nat):Rat) (det n c)
 | 0,_,_=>by
  unfold Dt.det dN
  have:((1:Nat):Rat)=1:=rfl
  rw[this];constructor<;>grind
 | n+1,c,h=>by
  have a:Bd ((n+1:Nat)*((M:Nat)*((dN M n:Nat):Rat))) (Dt.det (n+1) c):=by
   unfold Dt.det;refine Bd.sm λi hi=>?_;have h1:=((Bd.sgn (n+i)).mul (h n i ⋯ hi)).mul (Bd.det (M:=M) (n:=n) (c:=λj=>skip i (c j)) λj r d b=>?_)
   ·have e:1*(M:Rat)*((dN M n:Nat):Rat)=(M:Rat)*((dN M n:Nat):Rat):=by grind
    rw[e]at h1;exact h1
   ·unfold skip;split
    ·exact h j r ⋯ ⋯
    ·exact h j (r+1) ⋯ ⋯
  have e:((dN M (n+1):Nat):Rat)=(n+1:Nat)*((M:Nat)*((dN M n:Nat):Rat)):=by
   show(((n+1)*(M*dN M n):Nat):Rat)=_
   push_cast
   rfl
  rw[e];exact a
theorem zop{z:Nat}:∀n,n<=15->dN (2 ^ z) n<=2 ^ (n*(z+4))
 | 0,_=>by show 1<=2 ^ (0*(z+4));rw[Nat.zero_mul];exact yg _
 | n+1,h=>by
  have b:=zop (z:=z) n ⋯
  show(n+1)*(2 ^ z*dN (2 ^ z) n)<=_
  have h1:(n+1)<=2 ^ 4:=by lia
  have h2:2 ^ z*dN (2 ^ z) n<=2 ^ z*2 ^ (n*(z+4)):=yav _ b;have a:=ybm h1 h2;have e:2 ^ 4*(2 ^ z*2 ^ (n*(z+4)))=2 ^ ((n+1)*(z+4)):=by
   rw[<- ya3,<- ya3];congr 1;rw[Nat.add_mul];lia
  rw[e]at a;exact a
def Bd.mono{a b:Nat}{x:Rat}(h:Bd (a:Nat) x)(c:a<=b):Bd (b:Nat) x:=by
 have h1:((a:Nat):Rat)<=((b:Nat):Rat):=by exact_mod_cast c
 have:=h.1;have:=h.2
 constructor<;>grind
def Bar.sz{A T:Nat->Nat->Rat}{d:Rat}(b:Bar n k A T d)(e:k<=n)(o:n<=15)(c:∀l j,l<n->j<=n->Bd ((2 ^ z:Nat):Rat) (A l j))(hi:i<n)(a:j<=n):Bd ((2 ^ (n*(z+4)):Nat):Rat) (T i j):=by
 have up:∀s,s<=n->dN (2 ^ z) s<=2 ^ (n*(z+4)):=λs m=>yj (zop s ⋯) (yaP "0a" (Nat.mul_le_mul_right _ m));by_cases h:i<k
 ·rw[b.top e h a];refine(Bd.det λq r g f=>?_).mono (up k e);unfold setc;split
  ·exact c r j ⋯ a
  ·exact c r q ⋯ ⋯
 ·rw[b.bot ⋯ hi a];refine(Bd.det λq r g f=>?_).mono (up (k+1) ⋯);show Bd _ (A (if r<k then r else i) (if q<k then q else j));exact c _ _ (by split<;>lia) (by split<;>lia)
theorem Bar.congr{n k:Nat}{A T e:Nat->Nat->Rat}{d:Rat}(b:Bar n k A T d)(o:k<=n)(h:∀i j,i<n->j<=n->e i j=T i j):Bar n k A e d:=
 ⟨b.d0,b.dd,λi m hi c=>by rw[h i m ⋯ ⋯];exact b.id1 i m hi c,λi m hi a c=>by rw[h i m a ⋯];exact b.id2 i m hi a c,λl j hl f=>by
  rw[b.rel l j hl f,sm_congr (g:=λm=>A l m*e m j) λm c=>by rw[h m j ⋯ f]];congr 1;split
  ·rw[h l j hl f]
  ·rfl⟩
noncomputable def castM (F:Nat->Nat->Int):Nat->Nat->Rat:=λi j=>((F i j:Int):Rat)
noncomputable def nxtI (T:Nat->Nat->Int) (k:Nat) (d:Int):Nat->Nat->Int:=λi j=>if i=k then T k j else(T k k*T i j-T i k*T k j).fdiv d
def Bar.stepI{A T:Nat->Nat->Int}{d:Int}(b:Bar n k (castM A) (castM T) ((d:Int):Rat))(q:k<n)(hp:T k k≠0):Bar n (k+1) (castM A) (castM (nxtI T k d)) ((T k k:Int):Rat)/\∀i j,i<n->j<=n->i≠k->nxtI T k d i j*d=T k k*T i j-T i k*T k j:=by
 have g:castM T k k≠0:=λz=>hp (by have:((T k k:Int):Rat)=((0:Int):Rat):=z;exact_mod_cast this);have s:=b.step q g;have f:d≠0:=λz=>b.d0 (by rw[z];rfl);have o:∀i j,i<n->j<=n->i≠k->nxtI T k d i j*d=T k k*T i j-T i k*T k j/\((nxtI T k d i j:Int):Rat)=nxt (castM T) k d i j:=λi j hi c a=>by
  obtain⟨z,p⟩:=s.whole ⋯ (λl j _ _=>⟨A l j,rfl⟩) hi c;have r:nxt (castM T) k ((d:Int):Rat) i j=(castM T k k*castM T i j-castM T i k*castM T k j)/((d:Int):Rat):=by unfold nxt;rw[if_neg a]
  have m:T k k*T i j-T i k*T k j=z*d:=by
   have h1:castM T k k*castM T i j-castM T i k*castM T k j=((z:Int):Rat)*((d:Int):Rat):=by
    rw[r]at p
    have:=b.d0
    grind
   have h2:((T k k*T i j-T i k*T k j:Int):Rat)=((z*d:Int):Rat):=by
    rw[yb3,yF,yF,yF];exact h1
   exact_mod_cast h2
  have h:nxtI T k d i j=z:=by
   unfold nxtI;rw[if_neg a,m,Int.mul_fdiv_cancel _ f]
  exact⟨by rw[h,m],by rw[h,p]⟩
 refine⟨s.congr ⋯ λi j hi c=>?_,λi j hi c a=>(o i j hi c a).1⟩;by_cases e:i=k
 ·show((nxtI T k d i j:Int):Rat)=_
  unfold nxtI nxt;rw[if_pos e,if_pos e];rfl
 ·exact(o i j hi c e).2
set_option genInjectivity false in
set_option genSizeOf false in
structure Eqv(n:Nat)(A B:Nat->Nat->Rat):Prop where
 dt:det n (cl A)=0↔det n (cl B)=0
 an:∀x:Nat->Rat,(∀l,l<n->sm n (λm=>A l m*x m)=A l n)↔∀l,l<n->sm n (λm=>B l m*x m)=B l n
def Eqv.refl(n:Nat)(A:Nat->Nat->Rat):Eqv n A A:=⟨Iff.rfl,λ_=>Iff.rfl⟩
theorem Eqv.trans{n:Nat}{A B C:Nat->Nat->Rat}(h:Eqv n A B)(h':Eqv n B C):Eqv n A C:=⟨h.dt.trans h'.dt,λx=>(h.an x).trans (h'.an x)⟩
def swp_at{α:Type}{p q:Nat}(hp:p<n)(b:q<n)(F:Nat->α)(l:Nat)(hl:l<n):∃l',l'<n/\swp F p q l=F l':=by
 unfold swp;by_cases e:l=p
 ·exact⟨q,b,by rw[if_pos e]⟩
 ·by_cases a:l=q
  ·exact⟨p,hp,by rw[if_neg e,if_pos a]⟩
  ·exact⟨l,hl,by rw[if_neg e,if_neg a]⟩
def zrf{α:Type}{p q:Nat}(hp:p<n)(b:q<n)(F:Nat->α)(l:Nat)(hl:l<n):∃l',l'<n/\swp F p q l'=F l:=by
 unfold swp;by_cases e:l=p
 ·refine⟨q,b,?_⟩;by_cases a:q=p
  ·rw[if_pos a,e,a]
  ·rw[if_neg a,if_pos rfl,e]
 ·by_cases a:l=q
  ·exact⟨p,hp,by rw[if_pos rfl,a]⟩
  ·exact⟨l,hl,by rw[if_neg e,if_neg a]⟩
def Eqv.swap{p q:Nat}(hp:p<n)(a:q<n)(A:Nat->Nat->Rat):Eqv n A (swp A p q):=by
 refine⟨?_,λx=>⟨λh l hl=>?_,λh l hl=>?_⟩⟩
 ·by_cases e:p=q
  ·subst e
   have:swp A p p=A:=by
    funext i;unfold swp;by_cases h:i=p
    ·rw[if_pos h,h]
    ·rw[if_neg h,if_neg h]
   rw[this]
  ·rw[zoj hp a e A];constructor<;>intro h<;>grind
 ·obtain⟨l',h1,h2⟩:=swp_at hp a A l hl;rw[h2];exact h l' h1
 ·obtain⟨l',h1,h2⟩:=zrf hp a A l hl
  have:=h l' h1
  rw[h2]at this;exact this
def det_scale{R:Nat->Nat->Rat}{L:Nat->Rat}(d:∀l,l<n->L l≠0):det n (cl R)=0↔det n (cl λl j=>L l*R l j)=0:=by
 have a:∀k,k<=n->(det n (cl R)=0↔det n (cl λl j=>(if l<k then L l else 1)*R l j)=0):=by
  intro k
  induction k with
  | zero=>
   intro _
   have:det n (cl λl j=>(if l<0 then L l else 1)*R l j)=det n (cl R):=det_congr λj r _ _=>by
    show(if r<0 then L r else 1)*R r j=R r j
    rw[if_neg ⋯];grind
   rw[this]
  | succ k ih=>
   intro f;rw[ih ⋯];have e:det n (cl λl j=>(if l<k+1 then L l else 1)*R l j)=det n (setr (cl λl j=>(if l<k then L l else 1)*R l j) k λj=>L k*(R k j)+0*R k j):=det_congr λj r _ _=>by
    unfold setr
    show(if r<k+1 then L r else 1)*R r j=if r=k then _ else(if r<k then L r else 1)*R r j
    by_cases h:r=k
    ·rw[if_pos h,if_pos ⋯,h];grind
    ·rw[if_neg h];by_cases h2:r<k
     ·rw[if_pos h2,if_pos ⋯]
     ·rw[if_neg h2,if_neg ⋯]
   have c:det n (setr (cl λl j=>(if l<k then L l else 1)*R l j) k λj=>R k j)=det n (cl λl j=>(if l<k then L l else 1)*R l j):=det_congr λj r _ _=>by
    unfold setr;by_cases h:r=k
    ·rw[if_pos h];show R k j=(if r<k then L r else 1)*R r j;rw[if_neg ⋯,h];grind
    ·rw[if_neg h]
   rw[e,zed (L k) 0 ⋯,c]
   have:=d k ⋯
   constructor<;>intro h<;>grind
 have h:=a n (yg _);have e:det n (cl λl j=>(if l<n then L l else 1)*R l j)=det n (cl λl j=>L l*R l j):=det_congr λj r _ b=>by
  show(if r<n then L r else 1)*R r j=L r*R r j
  rw[if_pos b]
 rw[e]at h;exact h
def meets_scale{R:Nat->Nat->Rat}{L:Nat->Rat}(a:∀l,l<n->L l≠0)(x:Nat->Rat):(∀l,l<n->sm n (λm=>R l m*x m)=R l n)↔∀l,l<n->sm n (λm=>(L l*R l m)*x m)=L l*R l n:=by
 constructor
 ·intro h l hl;rw[<- h l hl,<- sm_mul];exact sm_congr λm _=>by grind
 ·intro h l hl;have h1:=h l hl;have e:sm n (λm=>L l*R l m*x m)=L l*sm n (λm=>R l m*x m):=by rw[<- sm_mul];exact sm_congr λm _=>by grind
  rw[e]at h1
  have:=a l hl
  grind
end Dt
namespace Dt
variable {i k n:Nat}
theorem znV{f:Nat->Rat}{k:Nat}:∀{n:Nat},k<=n->(∀m,k<=m->m<n->f m=0)->sm n f=sm k f
 | 0,h,_=>by rw[show k=0 by lia]
 | n+1,h,hz=>by
  rcases yX h with g | g
  ·show sm n f+f n=sm k f;rw[znV (n:=n) ⋯ λm h1 h2=>hz m h1 ⋯,hz n ⋯ ⋯];grind
  ·rw[g]
def zm7{A T:Nat->Nat->Rat}{d:Rat}(b:Bar n k A T d)(c:k<n)(h:∀i,k<=i->i<n->T i k=0):∃x:Nat->Rat,(∃m,m<n/\x m≠0)/\∀l,l<n->sm n (λm=>A l m*x m)=0:=by
 refine⟨λm=>if m<k then -T m k else if m=k then d else 0,⟨k,c,by dsimp only;rw[if_neg ⋯,if_pos rfl];exact b.d0⟩,λl hl=>?_⟩;rw[znV (k:=k+1) ⋯ λm h1 h2=>by dsimp only;rw[if_neg ⋯,if_neg ⋯];grind];show sm k (λm=>A l m*if m<k then -T m k else if m=k then d else 0)+A l k*(if k<k then -T k k else if k=k then d else 0)=0;rw[if_neg (yY _),if_pos rfl];have e:sm k (λm=>A l m*if m<k then -T m k else if m=k then d else 0)=-sm k (λm=>A l m*T m k):=by
  rw[<- sm_neg];exact sm_congr λm a=>by rw[if_pos a];grind
 have r:=b.rel l k hl ⋯;have z:(if k<=l then T l k else 0)=0:=by
  split
  ·rename_i g;exact h l g hl
  ·rfl
 rw[z]at r;rw[e];grind
def null_of_det{A:Nat->Nat->Rat}(h:det n (cl A)=0):∃x:Nat->Rat,(∃m,m<n/\x m≠0)/\∀l,l<n->sm n (λm=>A l m*x m)=0:=by
 obtain⟨a,b⟩:∃a:Nat->Nat->Rat,a=λl j=>if j<n then A l j else 0:=⟨_,rfl⟩
 have hd:det n (cl a)=0:=by
  rw[<- h];exact det_congr λj r v _=>by show a r j=A r j;rw[b];exact if_pos v
 have u:∀l,a l n=0:=λl=>by rw[b];exact if_neg (yY _)
 have t:∀(x:Nat->Rat) (l:Nat),sm n (λm=>a l m*x m)=sm n (λm=>A l m*x m):=λx l=>sm_congr λm t=>by
  rw[show a l m=A l m by rw[b];exact if_pos t]
 have back:∀{B:Nat->Nat->Rat},Eqv n a B->(∀l,B l n=0)->(∃x:Nat->Rat,(∃m,m<n/\x m≠0)/\∀l,l<n->sm n (λm=>B l m*x m)=0)->∃x:Nat->Rat,(∃m,m<n/\x m≠0)/\∀l,l<n->sm n (λm=>A l m*x m)=0:=λ{B} e f ⟨x,hx,hl⟩=>⟨x,hx,λl c=>by
  have:=(e.an x).mpr (λl c=>by rw[hl l c,f l]) l c
  rw[u,t]at this;exact this⟩
 have go:∀k,k<=n->(∃x:Nat->Rat,(∃m,m<n/\x m≠0)/\∀l,l<n->sm n (λm=>A l m*x m)=0)\/∃(B M:Nat->Nat->Rat) (d:Rat),Bar n k B M d/\Eqv n a B/\∀l,B l n=0:=by
  intro k
  induction k with
  | zero=>exact λ_=>.inr ⟨a,a,1,bar_start,Eqv.refl _ _,u⟩
  | succ k ih=>
   intro w;rcases ih ⋯with g | ⟨B,M,d,o,e,f⟩
   ·exact .inl g
   rcases yaq (∃i,k<=i/\i<n/\M i k≠0) with⟨i,h1,h2,h3⟩ | z
   ·have s:=o.swap (p:=k) (q:=i) (yg _) h1 ⋯ h2;have hp:swp M k i k k≠0:=by unfold swp;rw[if_pos rfl];exact h3
    exact .inr ⟨_,_,_,s.step ⋯ hp,e.trans (Eqv.swap ⋯ h2 B),λl=>by
     unfold swp;split
     ·exact f i
     ·split
      ·exact f k
      ·exact f l⟩
   ·refine .inl (back e f (zm7 o ⋯ λi h1 h2=>?_));rcases yaq (M i k=0)with q | q
    ·exact q
    ·exact absurd ⟨i,h1,h2,q⟩ z
 rcases go n (yg _)with g | ⟨B,M,d,o,e,_⟩
 ·exact g
 ·exact absurd (by rw[o.dd];exact e.dt.mp hd) o.d0
theorem zoW{f:Nat->Rat}:∀{n:Nat},(∀i,i<n->f i<=0)->sm n f<=0
 | 0,_=>by show(0:Rat)<=0;decide
 | n+1,h=>by
  have h1:=zoW (n:=n) λi hi=>h i ⋯;have h2:=h n ⋯;show sm n f+f n<=0;grind
theorem zoV{f:Nat->Rat}{j:Nat}:∀{n:Nat},j<n->(∀i,i<n->f i<=0)->f j<0->sm n f<0
 | n+1,hj,h,hf=>by
  have h2:=h n ⋯;show sm n f+f n<0;rcases yX (yac hj)with g | g
  ·have:=zoV (n:=n) g (λi hi=>h i ⋯) hf
   grind
  ·have:=zoW (n:=n) λi hi=>h i ⋯
   rw[g]at hf;grind
theorem sm_ge0{f:Nat->Rat}:∀{n:Nat},(∀i,i<n->0<=f i)->0<=sm n f
 | 0,_=>by show(0:Rat)<=0;decide
 | n+1,h=>by
  have h1:=sm_ge0 (n:=n) λi hi=>h i ⋯;have h2:=h n ⋯;show 0<=sm n f+f n;grind
theorem sm_mono{f g:Nat->Rat}:∀{n:Nat},(∀i,i<n->f i<=g i)->sm n f<=sm n g
 | 0,_=>by show(0:Rat)<=0;decide
 | n+1,h=>by
  have h1:=sm_mono (n:=n) λi hi=>h i ⋯;have h2:=h n ⋯;show sm n f+f n<=sm n g+g n;grind
set_option genInjectivity false in
set_option genSizeOf false in
structure Leak(n:Nat)(f:Nat->Nat->Rat)(r:Nat->Rat):Prop where
 nn:∀j i,j<n->i<n->0<=f j i
 own:∀i,i<n->f i i=0
 le:∀j,j<n->sm n (f j)<=r j
 leak:∀S:Nat->Bool,(∃j,j<n/\S j=true)->∃j,j<n/\S j=true/\sm n (λi=>if S i then f j i else 0)<r j
def Leak.nonneg{f:Nat->Nat->Rat}{r s:Nat->Rat}(h:Leak n f r)(y:∀i,i<n->0<=r i*s i-sm n (λj=>f j i*s j)):∀i,i<n->0<=s i:=by
 intro q k;rcases yaq (0<=s q)with z | z
 ·exact z
 exfalso;obtain⟨S,A⟩:∃S:Nat->Bool,S=λi=>decide (s i<0):=⟨_,rfl⟩
 have St:∀i,S i=true↔s i<0:=λi=>by rw[A];exact decide_eq_true_iff
 obtain⟨b,p,d,m⟩:=h.leak S ⟨q,k,(St q).mpr (Rat.not_le.mp z)⟩;obtain⟨c,e⟩:∃c:Nat->Rat,c=λj=>sm n (λi=>if S i then f j i else 0):=⟨_,rfl⟩
 have x:∀j,j<n->0<=c j:=λj a=>by
  rw[e];refine sm_ge0 λi hi=>?_;split
  ·exact h.nn j i a hi
  ·exact yE
 have B:∀j,j<n->c j<=r j:=λj a=>by
  refine yR ?_ (h.le j a);rw[e];refine sm_mono λi hi=>?_;split
  ·exact yE
  ·exact h.nn j i a hi
 have o:sm n (λj=>(if S j then r j*s j else 0)-c j*s j)=sm n (λi=>if S i then r i*s i-sm n (λj=>f j i*s j)else 0):=by
  have a1:sm n (λj=>(if S j then r j*s j else 0)-c j*s j)=sm n (λj=>1*(if S j then r j*s j else 0)+(-1)*(c j*s j)):=sm_congr λj _=>by grind
  have a2:sm n (λi=>if S i then r i*s i-sm n (λj=>f j i*s j)else 0)=sm n (λi=>1*(if S i then r i*s i else 0)+(-1)*(if S i then sm n (λj=>f j i*s j)else 0)):=sm_congr λi _=>by split<;>grind
  have v:sm n (λj=>c j*s j)=sm n (λi=>if S i then sm n (λj=>f j i*s j)else 0):=by
   have b1:sm n (λj=>c j*s j)=sm n (λj=>sm n λi=>(if S i then f j i else 0)*s j):=sm_congr λj _=>by
    rw[e];dsimp only;rw[show sm n (λi=>if S i then f j i else 0)*s j=s j*sm n (λi=>if S i then f j i else 0) by grind,<- sm_mul];exact sm_congr λi _=>by grind
   rw[b1,sm_swap];refine sm_congr λi _=>?_;by_cases g:S i
   ·rw[if_pos g];exact sm_congr λj _=>by rw[if_pos g]
   ·rw[if_neg g];exact sm_zero λj _=>by rw[if_neg g];grind
  rw[a1,a2,sm_lin,sm_lin,v]
 have u:0<=sm n (λi=>if S i then r i*s i-sm n (λj=>f j i*s j)else 0):=sm_ge0 λi hi=>by
  split
  ·exact y i hi
  ·exact yE
 have lt:sm n (λj=>(if S j then r j*s j else 0)-c j*s j)<0:=by
  refine zoV p (λj a=>?_) ?_
  ·have w:=x j a;have h1:=B j a;by_cases g:S j
   ·rw[if_pos g];have l:=(St j).mp g;have t:0<=(r j-c j)*(-s j):=yI (by grind) (by grind);grind
   ·rw[if_neg g];have l:0<=s j:=yaZ.mp λz=>g ((St j).mpr z);have t:0<=c j*s j:=yI w l;grind
  ·rw[if_pos d];have l:=(St b).mp d;have h2:c b<r b:=by rw[e];exact m
   have t:0<(r b-c b)*(-s b):=ybs (by grind) (by grind);grind
 rw[o]at lt;exact absurd u (Rat.not_le.mpr lt)
noncomputable def bal (f:Nat->Nat->Rat) (r:Nat->Rat):Nat->Nat->Rat:=λi j=>if i=j then r i else -f j i
def bal_row{f:Nat->Nat->Rat}{r s:Nat->Rat}(hi:i<n)(b:f i i=0):sm n (λm=>bal f r i m*s m)=r i*s i-sm n (λj=>f j i*s j):=by
 have a:sm n (λm=>bal f r i m*s m)=sm n (λm=>1*(if m=i then r i*s i else 0)+(-1)*(f m i*s m)):=sm_congr λm _=>by
  unfold bal;by_cases g:i=m
  ·rw[if_pos g,if_pos g.symm,<- g,b];grind
  ·rw[if_neg g,if_neg λz=>g z.symm];grind
 rw[a,sm_lin,sm_one hi λj _ c=>if_neg c,if_pos rfl];grind
theorem Leak.det{n:Nat}{f:Nat->Nat->Rat}{r:Nat->Rat}(h:Leak n f r):det n (cl (bal f r))≠0:=λz=>by
 obtain⟨x,⟨m,a,d⟩,c⟩:=null_of_det z;have e:∀i,i<n->r i*x i-sm n (λj=>f j i*x j)=0:=λi hi=>by rw[<- bal_row hi (h.own i hi)];exact c i hi
 have g:=h.nonneg (s:=x) (λi hi=>by rw[e i hi];exact yE) m a;have p2:=h.nonneg (s:=λj=>-x j) (λi hi=>by
  have b:sm n (λj=>f j i * -x j)=-sm n (λj=>f j i*x j):=by
   rw[<- sm_neg];exact sm_congr λj _=>by grind
  rw[b]
  have:=e i hi
  grind) m a
 exact d (by grind)
end Dt
namespace Dt
variable {i n:Nat}
noncomputable def prodN (B:Nat->Rat):Nat->Rat
 | 0=>1
 | n+1=>prodN B n*B n
theorem prodN_nn{B:Nat->Rat}:∀{n:Nat},(∀j,j<n->0<=B j)->0<=prodN B n
 | 0,_=>by show(0:Rat)<=1;decide
 | n+1,h=>yI (prodN_nn λj a=>h j ⋯) (h n ⋯)
theorem Bd.sums{g f:Nat->Rat}:∀{n:Nat},(∀i,i<n->Bd (g i) (f i))->Bd (Dt.sm n g) (Dt.sm n f)
 | 0,_=>⟨by show -(0:Rat)<=0;decide,by show(0:Rat)<=0;decide⟩
 | n+1,h=>Bd.add (Bd.sums λi hi=>h i ⋯) (h n ⋯)
def Bd.wide{a b x:Rat}(h:Bd a x)(c:a<=b):Bd b x:=by
 obtain⟨h1,h2⟩:=h;exact⟨by grind,by grind⟩
def zrY{f:Nat->Rat}(hi:i<n+1)(a:∀j,j<n+1->0<=f j):Dt.sm n (skip i f)<=Dt.sm (n+1) f:=by
 have e:Dt.sm n (skip i f)=Dt.sm (n+1) (λj=>if j=i then 0 else f j):=by
  rw[<- zne hi];exact sm_congr λk _=>zew i f k
 rw[e];refine sm_mono λj b=>?_;split
 ·exact a j b
 ·exact yE
theorem Bd.det_col{B:Nat->Rat}:∀{n:Nat} {c b:Nat->Nat->Rat},(∀j r,j<n->r<n->Bd (b j r) (c j r))->(∀j,j<n->Dt.sm n (b j)<=B j)->Bd (prodN B n) (Dt.det n c)
 | 0,_,_,_,_=>⟨by show -(1:Rat)<=1;decide,by show(1:Rat)<=1;decide⟩
 | n+1,c,b,hb,hB=>by
  have g:∀j r,j<n+1->r<n+1->0<=b j r:=λj r d f=>(hb j r d f).nn;have h:∀j,j<n+1->0<=B j:=λj d=>yR (sm_ge0 λr f=>g j r d f) (hB j d);have k:0<=prodN B n:=prodN_nn λj d=>h j ⋯;have a:∀i,i<n+1->Bd (prodN B n) (Dt.det n λj=>skip i (c j)):=λi hi=>by
   refine Bd.det_col (b:=λj=>skip i (b j)) (λj r d f=>?_) λj d=>?_
   ·rw[zew,zew];exact hb j _ ⋯ (by unfold up;split<;>lia)
   ·exact yR (zrY hi λr f=>g j r ⋯ f) (hB j ⋯)
  have whole:Bd (Dt.sm (n+1) λi=>b n i*prodN B n) (Dt.det (n+1) c):=by
   unfold Dt.det;refine Bd.sums λi hi=>?_;have h1:=((Bd.sgn (n+i)).mul (hb n i ⋯ hi)).mul (a i hi);exact h1.wide (by grind)
  refine whole.wide ?_;have e:(Dt.sm (n+1) λi=>b n i*prodN B n)=prodN B n*Dt.sm (n+1) (b n):=by
   rw[<- sm_mul];exact sm_congr λi _=>by grind
  rw[e];exact yJ (hB n ⋯) k
end Dt
namespace Internal
variable {i j m n r ρ:Nat}
open PySem PySem.Spec PyProof.Rows
section
variable {f:Nat->Int}{q q':Rat}
noncomputable def zT (f:Nat->Int) (r:Nat):Rat:=((zbA f r:Int):Rat)
def zbD(f:Nat->Int)(r:Nat):zT f (r+1)=zT f r+((f r:Int):Rat):=by
 unfold zT
 show((zbA f r+f r:Int):Rat)=_
 rw[yO]
theorem zji(a:∀r,r<3->0<=f r):∀(k r:Nat),r+k<=3->zT f r<=zT f (r+k)
 | 0,r,_=>by show zT f r<=zT f r;grind
 | k+1,r,h=>by
  have h1:=zji a k r ⋯;have h2:=zau (a (r+k) ⋯);show zT f r<=zT f (r+k+1);rw[zbD];grind
def zcD(c:∀r,r<3->0<=f r){a b:Nat}(h:a<=b)(d:b<=3):zT f a<=zT f b:=by
 have:=zji c (b-a) a ⋯
 rwa [show a+(b-a)=b by lia]at this
theorem zmL(c:0<=q)(a:∀r,r<3->0<=f r):∀r,r<=3->zaB f q r=if q<=zT f r then 0 else q-zT f r
 | 0,_=>by
  have e:zT f 0=0:=rfl;show q=_;rw[e];split<;>grind
 | r+1,h=>by
  have b:=zmL c a r ⋯;have h1:=zau (a r ⋯);have h2:=zbD f r;rw[zcX];unfold zac;rw[b];split<;>split<;>split<;>grind
def zgG(d:0<=q)(a:∀r,r<3->0<=f r)(b:r<3):zac f q r=if q<=zT f r then 0 else if zT f (r+1)<=q then((f r:Int):Rat)else q-zT f r:=by
 have c:=zmL d a r ⋯;have h1:=zau (a r b);have h2:=zbD f r;unfold zac;rw[c];split<;>split<;>(try split)<;>grind
theorem zbC:∀{k ρ:Nat},zaX f q k=some ρ->ρ < k/\q<zT f (ρ+1)/\∀r,r < ρ->zT f (r+1)<=q
 | 0,_,h=>by cases h
 | k+1,ρ,h=>by
  have h':(match zaX f q k with | some r=>some r | none=>if zcb f q k then some k else none)=some ρ:=h;have nn:∀{k:Nat},zaX f q k=none->∀r,r<k->zT f (r+1)<=q:=by
   intro k
   induction k with
   | zero=>intro _ r b;lia
   | succ k ih=>
    intro c r b;have a:(match zaX f q k with | some r=>some r | none=>if zcb f q k then some k else none)=none:=c;cases e:zaX f q k with
    | some x=>rw[e]at a;cases a
    | none=>
     rw[e]at a;dsimp only at a;rcases yX (yac b)with g | g
     ·exact ih e r g
     ·subst g
      have:¬zcb f q r:=λz=>by rw[if_pos z]at a;cases a
      exact yaZ.mp λz=>this (under_int.mp z)
  cases e:zaX f q k with
  | some x=>
   rw[e]at h';cases h'
   have:=zbC (k:=k) e
   exact⟨⋯,this.2⟩
  | none=>
   rw[e]at h';dsimp only at h';by_cases g:zcb f q k
   ·rw[if_pos g]at h';cases h';exact⟨⋯,under_int.mpr g,nn e⟩
   ·rw[if_neg g]at h';cases h'
theorem zdz:∀{k:Nat},zaX f q k=none->∀r,r<k->zT f (r+1)<=q
 | 0,_,r,hr=>by lia
 | k+1,hk,r,hr=>by
  have a:(match zaX f q k with | some r=>some r | none=>if zcb f q k then some k else none)=none:=hk;cases e:zaX f q k with
  | some x=>rw[e]at a;cases a
  | none=>
   rw[e]at a;dsimp only at a;rcases yX (yac hr)with g | g
   ·exact zdz e r g
   ·subst g
    have:¬zcb f q r:=λz=>by rw[if_pos z]at a;cases a
    exact yaZ.mp λz=>this (under_int.mp z)
def zlf(b:0<=q)(h:zaX f q 3=some ρ):zT f ρ<=q:=by
 obtain⟨h1,h2,a⟩:=zbC h;rcases ya0 ρ with g | g
 ·rw[g];exact b
 ·have:=a (ρ - 1) ⋯
  rwa [show ρ - 1+1=ρ by lia]at this
def zcv(a:0<=q)(h:zaX f q 3=some ρ):0<f ρ:=by
 have h1:=zlf a h;have h2:=(zbC h).2.1;have b:=zbD f ρ
 have:(0:Rat)<((f ρ:Int):Rat):=by grind
 exact_mod_cast this
def zh2(a:0<=q)(b:∀r,r<3->0<=f r)(h:zaX f q 3=some ρ)(h1:q<=q')(h2:q'<=zT f (ρ+1))(c:r<3):zad f q' r=zad f q r+if r=ρ then(q'-q)/((f ρ:Int):Rat)else 0:=by
 have lo:=zlf a h;obtain⟨n,up,_⟩:=zbC h;have pos:=zbu (zcv a h);have i:0<=q':=yR a h1;have j:=zgG a b c;have d:=zgG i b c;have cs:=zbD f r;have m:=zau (b r c);unfold zad;by_cases e:r=ρ
 ·subst e;rw[if_pos rfl,if_pos (zcv a h),if_pos (zcv a h)];have l:zac f q r=q-zT f r:=by
   rw[j];split
   ·grind
   ·rw[if_neg (Rat.not_le.mpr up)]
  have k:zac f q' r=q'-zT f r:=by
   rw[d];split
   ·grind
   ·split<;>grind
  rw[l,k];generalize ((f r:Int):Rat)=x at *
  grind
 ·rw[if_neg e];have same:zac f q' r=zac f q r:=by
   rcases ybL e with g | g
   ·have:=zcD b (show r+1<=ρ by lia) ⋯
    rw[j,d];split<;>split<;>(try split)<;>(try split)<;>grind
   ·have:=zcD b (show ρ+1<=r by lia) ⋯
    rw[j,d,if_pos (by grind),if_pos (by grind)]
  rw[same];split<;>grind
end
noncomputable def zaA (ρ:Nat->Option Nat) (ds:List Due) (i j:Nat):Int:=ds.foldl (fun(s:Int) (d:Due)=>if d.p=(i:Int)/\d.q=(j:Int)/\ρ i=some d.r.toNat then s+d.a else s) 0
def zbr(ρ:Nat->Option Nat)(ds:List Due)(d:Due)(i j:Nat):zaA ρ (ds++[d]) i j=zaA ρ ds i j+if d.p=(i:Int)/\d.q=(j:Int)/\ρ i=some d.r.toNat then d.a else 0:=by
 have e:zaA ρ (ds++[d]) i j=if d.p=(i:Int)/\d.q=(j:Int)/\ρ i=some d.r.toNat then zaA ρ ds i j+d.a else zaA ρ ds i j:=by
  unfold zaA;rw[yat];rfl
 rw[e];split
 ·rfl
 ·exact(Int.add_zero _).symm
def zaO{P:List Due->Prop}(a:P [])(b:∀(es:List Due) (d:Due),P es->P (es++[d]))(ds:List Due):P ds:=by
 have:∀i,i<=ds.length->P (ds.take i):=by
  intro i
  induction i with
  | zero=>intro _;rw[yba];exact a
  | succ i ih=>
   intro hi;rw[List.take_succ,yk ⋯];exact b _ _ (ih ⋯)
 have h:=this ds.length (yg _)
 rwa [yw]at h
def zgp{ρ:Nat->Option Nat}(ds:List Due):(∀d∈ds,0<=d.a)->0<=zaA ρ ds i j:=
 zaO (P:=λds=>(∀d∈ds,0<=d.a)->0<=zaA ρ ds i j) (λ_=>y6 0) (λes d c h=>by
  have h1:=c λe b=>h e (yt _ b);have h2:=h d (yq _ (.head _));rw[zbr];split<;>lia) ds
def zpS{ρ:Nat->Option Nat}(ds:List Due):(∀d∈ds,d.p≠d.q)->zaA ρ ds i i=0:=
 zaO (P:=λds=>(∀d∈ds,d.p≠d.q)->zaA ρ ds i i=0) (λ_=>rfl) (λes d b h=>by
  have h1:=b λe a=>h e (yt _ a);have h2:=h d (yq _ (.head _));rw[zbr,h1,if_neg (λz=>h2 (z.1.trans z.2.1.symm))];rfl) ds
def zjI{ρ:Nat->Option Nat}(hi:ρ i=none)(ds:List Due):zaA ρ ds i j=0:=
 zaO (P:=λds=>zaA ρ ds i j=0) rfl (λes d a=>by
  rw[zbr,a,if_neg (λz=>by rw[hi]at z;cases z.2.2)];rfl) ds
def zlx{ρ:Nat->Option Nat}(hi:ρ i=some r)(ds:List Due):(∀d∈ds,0<=d.q/\d.q<n/\0<=d.r)->Dt.sm n (λj=>((zaA ρ ds i j:Int):Rat))=((zA ds i r:Int):Rat):=
 zaO (P:=λds=>(∀d∈ds,0<=d.q/\d.q<n/\0<=d.r)->Dt.sm n (λj=>((zaA ρ ds i j:Int):Rat))=((zA ds i r:Int):Rat)) (λ_=>Dt.sm_zero λ_ _=>rfl) (λes d k h=>by
  have h1:=k λe f=>h e (yt _ f);obtain⟨l,o,m⟩:=h d (yq _ (.head _));rw[zaL];have e:Dt.sm n (λj=>((zaA ρ (es++[d]) i j:Int):Rat))=Dt.sm n (λj=>((zaA ρ es i j:Int):Rat)+(if j=d.q.toNat then(if d.p=(i:Int)/\d.r=(r:Int) then((d.a:Int):Rat)else 0)else 0)):=Dt.sm_congr λj _=>by
   rw[zbr,yO];congr 1;by_cases g:j=d.q.toNat
   ·rw[if_pos g];by_cases c:d.p=(i:Int)/\d.r=(r:Int)
    ·rw[if_pos c,if_pos ⟨c.1,⋯,by rw[hi,c.2,ym]⟩]
    ·rw[if_neg c,if_neg (λz=>c ⟨z.1,by
      have:=z.2.2
      rw[hi]at this
      have:=yn this
      lia⟩)];rfl
   ·rw[if_neg g,if_neg (λz=>g (by have:=z.2.1;lia))];rfl
  rw[e,Dt.sm_add,h1,Dt.sm_one (i:=d.q.toNat) ⋯ λj _ b=>if_neg b,if_pos rfl];split
  ·rw[yO]
  ·grind) ds
def zqL{ρ:Nat->Option Nat}{s:Nat->Rat}{g:Due->Rat}(ds:List Due):(∀d∈ds,0<=d.p/\d.p<n)->zL ds (λd=>g d+if ρ d.p.toNat=some d.r.toNat then((d.a:Int):Rat)*s d.p.toNat else 0) m=zL ds g m+Dt.sm n (λi=>((zaA ρ ds i m:Int):Rat)*s i):=
 zaO (P:=λds=>(∀d∈ds,0<=d.p/\d.p<n)->zL ds (λd=>g d+if ρ d.p.toNat=some d.r.toNat then((d.a:Int):Rat)*s d.p.toNat else 0) m=zL ds g m+Dt.sm n (λi=>((zaA ρ ds i m:Int):Rat)*s i)) (λ_=>by
  have z:Dt.sm n (λi=>((zaA ρ [] i m:Int):Rat)*s i)=0:=Dt.sm_zero λi _=>by
   show((0:Int):Rat)*s i=0
   rw[show((0:Int):Rat)=0 from rfl];grind
  rw[z];show zL [] _ m=zL [] g m+0
  have:∀h:Due->Rat,zL [] h m=0:=λ_=>rfl
  rw[this,this];grind) (λes d o h=>by
  have h1:=o λe l=>h e (yt _ l);obtain⟨p0,t⟩:=h d (yq _ (.head _));rw[za9,za9,h1];have e:Dt.sm n (λi=>((zaA ρ (es++[d]) i m:Int):Rat)*s i)=Dt.sm n (λi=>((zaA ρ es i m:Int):Rat)*s i+(if i=d.p.toNat then(if d.q=(m:Int)/\ρ d.p.toNat=some d.r.toNat then((d.a:Int):Rat)*s d.p.toNat else 0)else 0)):=Dt.sm_congr λi _=>by
   rw[zbr,yO,Rat.add_mul];congr 1;by_cases g':i=d.p.toNat
   ·rw[if_pos g'];subst g';by_cases c:d.q=(m:Int)/\ρ d.p.toNat=some d.r.toNat
    ·rw[if_pos c,if_pos ⟨⋯,c⟩]
    ·rw[if_neg c,if_neg (λz=>c z.2)]
     show((0:Int):Rat)*_=0
     rw[show((0:Int):Rat)=0 from rfl];grind
   ·rw[if_neg g',if_neg (λz=>g' (by have:=z.1;lia))]
    show((0:Int):Rat)*_=0
    rw[show((0:Int):Rat)=0 from rfl];grind
  rw[e,Dt.sm_add,Dt.sm_one (i:=d.p.toNat) ⋯ λj _ k=>if_neg k,if_pos rfl];by_cases b:d.q=(m:Int)
  ·by_cases f:ρ d.p.toNat=some d.r.toNat
   ·rw[if_pos b,if_pos b,if_pos f,if_pos ⟨b,f⟩];grind
   ·rw[if_pos b,if_pos b,if_neg f,if_neg (λz=>f z.2)];grind
  ·rw[if_neg b,if_neg b,if_neg (λz=>b z.1)];grind) ds
end Internal
namespace Rc
variable {j k:Nat}{ls:List (List Nat)}
section
variable {n:Nat}{g:Nat->Nat->Bool}{i:Nat}
noncomputable def zhZ (n:Nat) (g:Nat->Nat->Bool) (j:Nat) (l:List Nat):List Nat:="0i".filter λk=>g j k&&!decide (k∈l)
def mem_next{l:List Nat}:k∈zhZ n g j l↔k<n/\g j k=true/\k∉l:=by
 unfold zhZ;rw[yaG,yP,y4,Bool.not_eq_true',decide_eq_false_iff_not]
def zmU{l:List Nat}:(zhZ n g j l).Nodup:=ybX.filter _
noncomputable def seqL (n:Nat) (g:Nat->Nat->Bool) (i:Nat):Nat->List Nat
 | 0=>[i]
 | k+1=>if k<(seqL n g i k).length then seqL n g i k++zhZ n g ((seqL n g i k).getD k 0) (seqL n g i k)else seqL n g i k
def seq_succ(h:k<(seqL n g i k).length):seqL n g i (k+1)=seqL n g i k++zhZ n g ((seqL n g i k).getD k 0) (seqL n g i k):=if_pos h
def zcu(h:¬k<(seqL n g i k).length):seqL n g i (k+1)=seqL n g i k:=if_neg h
theorem zgf:∀k,(seqL n g i k).Nodup
 | 0=>by show[i].Nodup;simp
 | k+1=>by
  have c:=zgf k;by_cases h:k<(seqL n g i k).length
  ·rw[seq_succ h];exact yaz.mpr ⟨c,zmU,λa ha b d e=>(mem_next.mp d).2.2 (e▸ha)⟩
  ·rw[zcu h];exact c
theorem seq_lt(hi:i<n):∀k x,x∈seqL n g i k->x<n
 | 0,x,h=>by rw[yu.mp h];exact hi
 | k+1,x,a=>by
  have b:=seq_lt hi k;by_cases h:k<(seqL n g i k).length
  ·rw[seq_succ h]at a;rcases yL.mp a with a | a
   ·exact b x a
   ·exact(mem_next.mp a).1
  ·rw[zcu h]at a;exact b x a
theorem zfS:∀k,i∈seqL n g i k
 | 0=>yu.mpr rfl
 | k+1=>by
  by_cases h:k<(seqL n g i k).length
  ·rw[seq_succ h];exact yt _ (zfS k)
  ·rw[zcu h];exact zfS k
theorem zo9{S:Nat->Prop}(c:S i)(d:∀j k,S j->k<n->g j k=true->S k):∀k x,x∈seqL n g i k->S x
 | 0,x,h=>by rw[yu.mp h];exact c
 | k+1,x,a=>by
  have b:=zo9 c d k;by_cases h:k<(seqL n g i k).length
  ·rw[seq_succ h]at a;rcases yL.mp a with a | a
   ·exact b x a
   ·obtain⟨h1,h2,_⟩:=mem_next.mp a;refine d _ x (b _ ?_) h1 h2;rw[yf,yk h];exact ybY h
  ·rw[zcu h]at a;exact b x a
def zs8{x:Nat}(a:x∈seqL n g i k):x∈seqL n g i (k+1):=by
 by_cases h:k<(seqL n g i k).length
 ·rw[seq_succ h];exact yt _ a
 ·rw[zcu h];exact a
theorem zho:∀(k p x y:Nat),p<k->(seqL n g i k)[p]?=some x->y<n->g x y=true->y∈seqL n g i k
 | 0,_,_,_,h,_,_,_=>absurd h (yaL _)
 | k+1,p,x,y,hp,hx,hy,hg=>by
  by_cases h:k<(seqL n g i k).length
  ·rcases yX (yac hp)with e | e
   ·have a:(seqL n g i k)[p]?=some x:=by
     rw[seq_succ h,yH ⋯]at hx;exact hx
    exact zs8 (zho k p x y e a hy hg)
   ·subst e;have a:(seqL n g i p)[p]?=some x:=by
     rw[seq_succ h,yH h]at hx;exact hx
    have hd:(seqL n g i p).getD p 0=x:=by rw[yf,a];rfl
    rw[seq_succ h,hd];rcases yaq (y∈seqL n g i p)with q | q
    ·exact yt _ q
    ·exact yq _ (mem_next.mpr ⟨hy,hg,q⟩)
  ·rw[zcu h]at hx ⊢;have hl:=(yh.mp hx).1;exact zho k p x y ⋯ hx hy hg
def len_le{l:List Nat}(nd:l.Nodup)(h:∀x∈l,x<n):l.length<=n:=by
 have h2:l.length<="0i".length:=ybB nd λx a=>yP.mpr (h x a)
 rwa [yx]at h2
noncomputable def reach (n:Nat) (g:Nat->Nat->Bool) (i:Nat):List Nat:=seqL n g i n
def zgU:(reach n g i).Nodup:=zgf n
def reach_lt(hi:i<n){x:Nat}(a:x∈reach n g i):x<n:=seq_lt hi n x a
def zlU:i∈reach n g i:=zfS n
def zlz{S:Nat->Prop}(c:S i)(b:∀j k,S j->k<n->g j k=true->S k){x:Nat}(a:x∈reach n g i):S x:=zo9 c b n x a
def seq_len(hi:i<n)(k:Nat):(seqL n g i k).length<=n:=len_le (zgf k) (seq_lt hi k)
def zlt(hi:i<n){x y:Nat}(c:x∈reach n g i)(a:y<n)(b:g x y=true):y∈reach n g i:=by
 obtain⟨p,hp,e⟩:=yB c;exact zho n p x y (yC hp (seq_len hi n)) (by rw[<- e];exact yk hp) a b
theorem zjE{k:Nat}(h:¬k<(seqL n g i k).length):∀m,seqL n g i (k+m)=seqL n g i k
 | 0=>rfl
 | m+1=>by
  have a:=zjE h m;show seqL n g i (k+m+1)=_;rw[zcu (by rw[a];lia),a]
def seq_end(hi:i<n)(a:k<=(seqL n g i k).length)(h:¬k<(seqL n g i k).length):seqL n g i k=reach n g i:=by
 have b:=seq_len (g:=g) hi k
 have:=zjE h (n-k)
 rw[show k+(n-k)=n by lia]at this;exact this.symm
noncomputable def minL:List (List Nat)->List Nat
 | []=>[]
 | l :: ls=>ls.foldl (λb c=>if c.length<b.length then c else b) l
theorem zjP:∀(ls:List (List Nat)) (l:List Nat),(ls.foldl (λb c=>if c.length<b.length then c else b) l∈l :: ls)/\∀c∈l :: ls,(ls.foldl (λb c=>if c.length<b.length then c else b) l).length<=c.length
 | [],l=>⟨yai,λc a=>by rw[yu.mp a];exact yg _⟩
 | d :: ls,l=>by
  show(ls.foldl _ (if d.length<l.length then d else l)∈l :: d :: ls)/\_
  have e:=zjP ls (if d.length<l.length then d else l);refine⟨?_,λc a=>?_⟩
  ·rcases yy.mp e.1 with h | h
   ·rw[h];split
    ·exact yV _ yai
    ·exact yai
   ·exact yV _ (yV _ h)
  ·have f:=e.2 _ yai
   show(ls.foldl _ (if d.length<l.length then d else l)).length<=c.length
   rcases yy.mp a with rfl | a
   ·refine yj f ?_;split<;>lia
   ·rcases yy.mp a with rfl | a
    ·refine yj f ?_;split<;>lia
    ·exact e.2 c (yV _ a)
def zkB(h:ls≠[]):minL ls∈ls/\∀c∈ls,(minL ls).length<=c.length:=by
 cases ls with
 | nil=>exact absurd rfl h
 | cons l ls=>exact zjP ls l
noncomputable def circles (n:Nat) (g:Nat->Nat->Bool) (sh:Nat->Bool):List (List Nat):=("0i".map (reach n g)).filter λl=>l.all sh
noncomputable def circle (n:Nat) (g:Nat->Nat->Bool) (sh:Nat->Bool):List Nat:=minL (circles n g sh)
variable {sh:Nat->Bool}
def mem_circles{c:List Nat}:c∈circles n g sh↔∃i,i<n/\c=reach n g i/\∀x∈c,sh x=true:=by
 unfold circles;rw[yaG,y8,ybV];constructor
 ·rintro⟨⟨i,hi,e⟩,h⟩;exact⟨i,yP.mp hi,e.symm,h⟩
 ·rintro⟨i,hi,e,h⟩;exact⟨⟨i,yP.mpr hi,e.symm⟩,h⟩
set_option genInjectivity false in
set_option genSizeOf false in
structure Cir(n:Nat)(g:Nat->Nat->Bool)(sh:Nat->Bool)(c:List Nat):Prop where
 nd:c.Nodup
 lt:∀x∈c,x<n
 sh:∀x∈c,sh x=true
 cl:∀x y,x∈c->y<n->g x y=true->y∈c
 ne:c≠[]
 small:∀S:Nat->Prop,(∀x,S x->x∈c)->(∀j k,S j->k<n->g j k=true->S k)->(∃j,S j)->∀x∈c,S x
def zm2(h:circle n g sh=[]):circles n g sh=[]:=by
 cases e:circles n g sh with
 | nil=>rfl
 | cons l ls=>
  have a:=zkB (ls:=circles n g sh) (by rw[e];exact List.cons_ne_nil _ _)
  have:circle n g sh∈circles n g sh:=a.1
  rw[h]at this;obtain⟨i,hi,b,_⟩:=mem_circles.mp this
  have:=zlU (n:=n) (g:=g) (i:=i)
  rw[<- b]at this;exact nomatch this
def circle_ok(h:circle n g sh≠[]):Cir n g sh (circle n g sh):=by
 have f:circles n g sh≠[]:=λz=>h (by unfold circle;rw[z];rfl);obtain⟨r,hl⟩:=zkB f;obtain⟨i,hi,e,m⟩:=mem_circles.mp r;have c:circle n g sh=reach n g i:=e;refine⟨by rw[c];exact zgU,λx b=>by rw[c]at b;exact reach_lt hi b,λx b=>m x b,λx y b a p=>?_,h,λS h1 h2 s x b=>?_⟩
 ·rw[c]at b ⊢;exact zlt hi b a p
 ·obtain⟨j,l⟩:=s;have d:j<n:=by have:=h1 j l;rw[c]at this;exact reach_lt hi this
  have sub:∀y∈reach n g j,S y:=λy a=>zlz l h2 a;have t:reach n g j∈circles n g sh:=mem_circles.mpr ⟨j,d,rfl,λy a=>m y (h1 y (sub y a))⟩;have o:(circle n g sh).length<=(reach n g j).length:=hl _ t;rcases yaq (x∈reach n g j)with q | q
  ·exact sub x q
  ·exfalso;have k:(x :: reach n g j).Nodup:=yaK.mpr ⟨q,zgU⟩
   have:=ybB k (l₂:=circle n g sh) (λy a=>by
    rcases yy.mp a with rfl | a
    ·exact b
    ·exact h1 y (sub y a))
   rw[yay]at this;lia
def no_circle(h:circle n g sh=[]){S:Nat->Prop}(h1:∀x,S x->x<n/\sh x=true)(h2:∀j k,S j->k<n->g j k=true->S k)(a:S j):False:=by
 have b:=zm2 h
 have:reach n g j∈circles n g sh:=mem_circles.mpr ⟨j,(h1 j a).1,rfl,λy c=>(h1 y (zlz a h2 c)).2⟩
 rw[b]at this;exact nomatch this
end
end Rc
namespace Dt
variable {k m n:Nat}
def zml{h:Nat->Rat}(a:k<n):sm n h=sm n (λx=>if x=k then 0 else h x)+h k:=by
 have e:sm n h=sm n (λx=>(if x=k then 0 else h x)+(if x=k then h k else 0)):=sm_congr λx _=>by
  by_cases g:x=k
  ·rw[if_pos g,if_pos g,g];grind
  ·rw[if_neg g,if_neg g];grind
 rw[e,sm_add,sm_one a λj _ b=>if_neg b,if_pos rfl]
theorem sm_some{n:Nat}{s:Nat->Nat}:∀(m:Nat) {h:Nat->Rat},(∀x,x<n->0<=h x)->(∀a,a<m->s a<n)->(∀a b,a<m->b<m->s a=s b->a=b)->sm m (λa=>h (s a))<=sm n h
 | 0,h,h0,_,_=>sm_ge0 h0
 | m+1,h,h0,h1,h2=>by
  have c:=h1 m ⋯;have f:=sm_some (n:=n) (s:=s) m (h:=λx=>if x=s m then 0 else h x) (λx d=>by
   (try dsimp only)
   split
   ·exact yE
   ·exact h0 x d) (λa ha=>h1 a ⋯) λa b ha g e=>h2 a b ⋯ ⋯ e
  have e:sm m (λa=>if s a=s m then 0 else h (s a))=sm m (λa=>h (s a)):=sm_congr λa ha=>if_neg λz=>by have:=h2 a m ⋯ ⋯ z;lia
  rw[e]at f;show sm m (λa=>h (s a))+h (s m)<=sm n h;rw[zml (h:=h) c];grind
def leak_of{s:Nat->Nat}{f:Nat->Nat->Rat}(d:∀i j,i<n->j<n->0<=f i j)(t:∀i,i<n->f i i=0)(h1:∀a,a<m->s a<n)(h2:∀a b,a<m->b<m->s a=s b->a=b)
  (h3:∀S:Nat->Prop,(∀x,S x->∃a,a<m/\x=s a)->(∃x,S x)->(∀x y,S x->y<n->0<f x y->S y)->False):Leak m (λa b=>f (s a) (s b)) (λa=>sm n (f (s a))) where
 nn:=λa b ha g=>d _ _ (h1 a ha) (h1 b g)
 own:=λa ha=>t _ (h1 a ha)
 le:=λa ha=>sm_some m (λx l=>d _ x (h1 a ha) l) h1 h2
 leak:=λT ⟨p,k,o⟩=>by
  rcases yaq (∃j,j<m/\T j=true/\sm m (λb=>if T b then f (s j) (s b)else 0)<sm n (f (s j)))with q | q
  ·exact q
  exfalso;refine h3 (λx=>∃a,a<m/\T a=true/\x=s a) (λx ⟨a,ha,_,e⟩=>⟨a,ha,e⟩) ⟨s p,p,k,o,rfl⟩ λx y ⟨a,ha,u,e⟩ r hp=>?_;subst e;rcases yaq (∃b,b<m/\T b=true/\y=s b)with z | z
  ·exact z
  exfalso;refine q ⟨a,ha,u,?_⟩;have b1:sm m (λb=>if T b then f (s a) (s b)else 0)<=sm m (λb=>(λx=>if x=y then 0 else f (s a) x) (s b)):=sm_mono λb g=>by
   dsimp only;by_cases c:T b=true
   ·rw[if_pos c,if_neg λw=>z ⟨b,g,c,w.symm⟩];exact yE
   ·rw[if_neg c];split
    ·exact yE
    ·exact d _ _ (h1 a ha) (h1 b g)
  have b2:sm m (λb=>(λx=>if x=y then 0 else f (s a) x) (s b))<=sm n (λx=>if x=y then 0 else f (s a) x):=sm_some m (h:=λx=>if x=y then 0 else f (s a) x) (λx l=>by
   (try dsimp only)
   split
   ·exact yE
   ·exact d _ x (h1 a ha) l) h1 h2
  have v:=zml (h:=f (s a)) r;grind
end Dt
namespace Internal
variable {i j m r ρ:Nat}
open PySem PySem.Spec PyProof.Rows
noncomputable def zaq (ds:List Due) (l:Nat->Rat) (d:Due):Rat:=((d.a:Int):Rat)*zad (zA ds d.p.toNat) (l d.p.toNat) d.r.toNat
noncomputable def stp (ds:List Due) (l:Nat->Rat) (i:Nat):Option Nat:=zaX (zA ds i) (l i) 3
noncomputable def flR (ds:List Due) (l:Nat->Rat) (i j:Nat):Rat:=((zaA (stp ds l) ds i j:Int):Rat)
noncomputable def zap (n:Nat) (ds:List Due) (l:Nat->Rat) (i:Nat):Rat:=Dt.sm n (flR ds l i)
def zeM{g g':Due->Rat}(ds:List Due):(∀d∈ds,g d=g' d)->zL ds g m=zL ds g' m:=
 zaO (P:=λds=>(∀d∈ds,g d=g' d)->zL ds g m=zL ds g' m) (λ_=>rfl) (λes d b h=>by
  rw[za9,za9,b λe a=>h e (yt _ a),h d (yq _ (.head _))]) ds
def zc8(ds:List Due):(∀d∈ds,0<=d.a)->0<=zA ds m r:=
 zaO (P:=λds=>(∀d∈ds,0<=d.a)->0<=zA ds m r) (λ_=>y6 0) (λes d c h=>by
  have h1:=c λe b=>h e (yt _ b);have h2:=h d (yq _ (.head _));rw[zaL];split<;>lia) ds
set_option genInjectivity false in
set_option genSizeOf false in
structure CInv(n:Nat)(ds:List Due)(p:Nat->Rat)(l:Nat->Rat)(t:Rat):Prop where
 lo:∀i,i<n->0<=l i
 hi:∀i,i<n->l i<=zT (zA ds i) 3
 sh:∀i,i<n->stp ds l i≠none->l i=t*p i+zL ds (zaq ds l) i
 fu:∀i,i<n->stp ds l i=none->zT (zA ds i) 3<=t*p i+zL ds (zaq ds l) i
section
variable {n:Nat}{ds:List Due}{p l s:Nat->Rat}{t x e:Rat}
def zee(hd:∀d∈ds,zo n d)(h:stp ds l i=some ρ):zap n ds l i=((zA ds i ρ:Int):Rat):=
 zlx h ds λd a=>⟨(hd d a).2.2.1,(hd d a).2.2.2.1,(hd d a).2.2.2.2.2.1⟩
def zgl(hd:∀d∈ds,zo n d)(a:0<=l i)(h:stp ds l i=some ρ):0<zap n ds l i:=by
 rw[zee hd h];exact zbu (zcv a h)
def zll(h:stp ds l i=none):zap n ds l i=0:=Dt.sm_zero λj _=>by
 unfold flR;rw[zjI h];rfl
def turn(hd:∀d∈ds,zo n d)(I:CInv n ds p l t)(A:∀i,i<n->0<=s i)(w:0<=x)(K:0<=e)(p0:∀i,i<n->0<=p i)
  (hb:∀i,i<n->stp ds l i≠none->zap n ds l i*s i-Dt.sm n (λj=>flR ds l j i*s j)=e*p i)
  (hr:∀i,i<n->∀ρ,stp ds l i=some ρ->l i+x*(s i*zap n ds l i)<=zT (zA ds i) (ρ+1)) :
  CInv n ds p (λi=>l i+x*(s i*zap n ds l i)) (t+x*e):=by
 have ha:∀d∈ds,0<=d.a:=λd o=>(hd d o).2.2.2.2.2.2.2.1;have B:∀i r,r<3->0<=zA ds i r:=λi r _=>zc8 ds ha;obtain⟨l',f⟩:∃l':Nat->Rat,l'=λi=>l i+x*(s i*zap n ds l i):=⟨_,rfl⟩
 rw[<- f];have v:∀i,i<n->0<=zap n ds l i:=λi hi=>Dt.sm_ge0 λj _=>by
  unfold flR;exact zau (zgp ds ha)
 have grow:∀i,i<n->l i<=l' i:=λi hi=>by
  rw[f];have h1:=yI w (yI (A i hi) (v i hi));grind
 have c:∀i,stp ds l i=none->l' i=l i:=λi h=>by
  rw[f];dsimp only;rw[zll h];grind
 have q:∀d∈ds,zaq ds l' d=zaq ds l d+if stp ds l d.p.toNat=some d.r.toNat then((d.a:Int):Rat)*(x*s d.p.toNat)else 0:=λd o=>by
  obtain⟨C,F,_,_,_,E,G,_,_⟩:=hd d o;have hi:d.p.toNat<n:=by lia
  have y:d.r.toNat<3:=by lia
  unfold zaq;cases b:stp ds l d.p.toNat with
  | none=>
   rw[c _ b,if_neg (by intro z;cases z)];grind
  | some ρ=>
   have up:=hr _ hi ρ b;have g:=zh2 (I.lo _ hi) (B d.p.toNat) b (grow _ hi) (by rw[f];exact up) y;rw[g];have pos:=zgl hd (I.lo _ hi) b;rw[zee hd b]at pos;have D:(l' d.p.toNat-l d.p.toNat)/((zA ds d.p.toNat ρ:Int):Rat)=x*s d.p.toNat:=by
    rw[f];dsimp only;rw[zee hd b];generalize ((zA ds d.p.toNat ρ:Int):Rat)=R at *
    have J:R≠0:=λz=>by rw[z]at pos;exact absurd pos "0a"
    have:l d.p.toNat+x*(s d.p.toNat*R)-l d.p.toNat=(x*s d.p.toNat)*R:=by grind
    rw[this,ybt,Rat.mul_assoc,Rat.mul_inv_cancel R J,Rat.mul_one]
   rw[D];by_cases er:d.r.toNat=ρ
   ·rw[if_pos er,if_pos (by rw[er])];grind
   ·rw[if_neg er,if_neg (λz=>er (yn z).symm)];grind
 have k:∀i,zL ds (zaq ds l') i=zL ds (zaq ds l) i+x*Dt.sm n (λj=>flR ds l j i*s j):=λi=>by
  rw[zeM ds q,zqL (ρ:=stp ds l) (s:=λj=>x*s j) (n:=n) ds λd o=>⟨(hd d o).1,(hd d o).2.1⟩];congr 1;rw[<- Dt.sm_mul];exact Dt.sm_congr λj _=>by unfold flR;grind
 have more:∀i,i<n->0<=Dt.sm n (λj=>flR ds l j i*s j):=λi _=>Dt.sm_ge0 λj H=>yI (by unfold flR;exact zau (zgp ds ha)) (A j H);have u:∀i,i<n->stp ds l i≠none->l' i=(t+x*e)*p i+zL ds (zaq ds l') i:=λi hi b=>by
  rw[k i];have h1:=I.sh i hi b;have h2:=hb i hi b;rw[f];dsimp only;grind
 refine⟨λi hi=>yR (I.lo i hi) (grow i hi),λi hi=>?_,λi hi m=>?_,λi hi m=>?_⟩
 ·cases b:stp ds l i with
  | none=>rw[c i b];exact I.hi i hi
  | some ρ=>
   have h1:=hr i hi ρ b;have h2:=zcD (B i) (show ρ+1<=3 by have:=(zbC b).1;lia) (yg 3);rw[f];exact yR h1 h2
 ·cases b:stp ds l i with
  | none=>exact absurd (show stp ds l' i=none by unfold stp;rw[c i b];exact b) m
  | some ρ=>exact u i hi (by rw[b];intro z;cases z)
 ·cases b:stp ds l i with
  | none=>
   have h1:=I.fu i hi b;rw[k i];have h2:=yI w (more i hi);have L:=yI (yI w K) (p0 i hi);grind
  | some ρ=>
   rw[<- u i hi (by rw[b];intro z;cases z)];exact zdz m 2 "0a"
end
open Dt (sm Leak bal)
noncomputable def sF (m:Nat) (s:Nat->Nat) (x:Nat->Rat) (i:Nat):Rat:=sm m (λa=>if s a=i then x a else 0)
section
variable {n m:Nat}{s:Nat->Nat}{x:Nat->Rat}
def zgF(inj:∀a b,a<m->b<m->s a=s b->a=b){a:Nat}(ha:a<m):sF m s x (s a)=x a:=by
 unfold sF;rw[Dt.sm_one (i:=a) ha λb d c=>if_neg λe=>c (inj b a d ha e),if_pos rfl]
def zhN(h:∀a,a<m->s a≠i):sF m s x i=0:=Dt.sm_zero λa ha=>if_neg (h a ha)
def znc(h1:∀a,a<m->s a<n)(F:Nat->Rat):sm n (λj=>F j*sF m s x j)=sm m (λa=>F (s a)*x a):=by
 have c:sm n (λj=>F j*sF m s x j)=sm n (λj=>sm m λa=>if s a=j then F j*x a else 0):=Dt.sm_congr λj _=>by
  unfold sF;rw[<- Dt.sm_mul];exact Dt.sm_congr λa _=>by split<;>grind
 rw[c,Dt.sm_swap];refine Dt.sm_congr λa ha=>?_;rw[Dt.sm_one (i:=s a) (h1 a ha) λj _ b=>if_neg λe=>b e.symm,if_pos rfl]
def zrt(h:∀a,a<m->0<=x a)(i:Nat):0<=sF m s x i:=Dt.sm_ge0 λa ha=>by
 split
 ·exact h a ha
 ·exact yE
end
section
variable {n:Nat}{ds:List Due}{p l:Nat->Rat}
noncomputable def gB (ds:List Due) (l:Nat->Rat) (i j:Nat):Bool:=decide (0<zaA (stp ds l) ds i j)
noncomputable def shB (ds:List Due) (l:Nat->Rat) (i:Nat):Bool:=(stp ds l i).isSome
def gB_iff:gB ds l i j=true↔0<flR ds l i j:=by
 unfold gB flR;rw[decide_eq_true_iff];constructor
 ·exact λh=>zbu h
 ·exact λh=>by exact_mod_cast h
def zcN(hd:∀d∈ds,zo n d)(i j:Nat):0<=flR ds l i j:=zau (zgp ds λd a=>(hd d a).2.2.2.2.2.2.2.1)
def zdS(hd:∀d∈ds,zo n d)(i:Nat):flR ds l i i=0:=by
 unfold flR;rw[zpS ds λd a=>(hd d a).2.2.2.2.1];rfl
def zej(hd:∀d∈ds,zo n d)(p:Rc.circle n (gB ds l) (shB ds l)=[]){s:Nat->Nat}(h1:∀a,a<m->s a<n/\shB ds l (s a)=true)(inj:∀a b,a<m->b<m->s a=s b->a=b):Leak m (λa b=>flR ds l (s a) (s b)) (λa=>zap n ds l (s a)):=
 Dt.leak_of (λi j _ _=>zcN hd i j) (λi _=>zdS hd i) (λa ha=>(h1 a ha).1) inj λS r ⟨x,q⟩ c=>
  Rc.no_circle p (S:=S) (λy f=>by obtain⟨a,ha,e⟩:=r y f;rw[e];exact h1 a ha) (λj k o g h=>c j k o g (gB_iff.mp h)) q
def zlL(hd:∀d∈ds,zo n d)(g:Rc.circle n (gB ds l) (shB ds l)=[]){s:Nat->Nat}{x:Nat->Rat}(p0:∀i,i<n->0<=p i)(h1:∀a,a<m->s a<n/\shB ds l (s a)=true)(inj:∀a b,a<m->b<m->s a=s b->a=b)(all:∀i,i<n->shB ds l i=true->∃a,a<m/\i=s a)
  (hx:∀a,a<m->sm m (λb=>bal (λa b=>flR ds l (s a) (s b)) (λa=>zap n ds l (s a)) a b*x b)=p (s a)) :
  (∀i,0<=sF m s x i)/\∀i,i<n->stp ds l i≠none->zap n ds l i*sF m s x i-sm n (λj=>flR ds l j i*sF m s x j)=1*p i:=by
 have L:=zej hd g h1 inj;have c:∀a,a<m->zap n ds l (s a)*x a-sm m (λb=>flR ds l (s b) (s a)*x b)=p (s a):=λa ha=>by
  have:=Dt.bal_row (n:=m) (f:=λa b=>flR ds l (s a) (s b)) (r:=λa=>zap n ds l (s a)) (s:=x) ha (zdS hd _)
  rw[hx a ha]at this;exact this.symm
 have nn:=L.nonneg (s:=x) λa ha=>by rw[c a ha];exact p0 _ (h1 a ha).1
 refine⟨zrt nn,λi hi e=>?_⟩;obtain⟨a,ha,rfl⟩:=all i hi (by unfold shB;cases h:stp ds l i with | none=>exact absurd h e | some r=>rfl);rw[zgF inj ha,znc (λa ha=>(h1 a ha).1) (λj=>flR ds l j (s a)),c a ha];grind
def zer(hd:∀d∈ds,zo n d){c:List Nat}(h:Rc.Cir n (gB ds l) (shB ds l) c)(v:c.length=m+1):Leak m (λa b=>flR ds l (c.getD (a+1) 0) (c.getD (b+1) 0)) (λa=>zap n ds l (c.getD (a+1) 0)):=by
 have get:∀a,a<m+1->c[a]?=some (c.getD a 0):=λa ha=>by
  rw[yf,yk ⋯];rfl
 have mem:∀a,a<m+1->c.getD a 0∈c:=λa ha=>yb (get a ha);have inj:∀a b,a<m+1->b<m+1->c.getD a 0=c.getD b 0->a=b:=λa b ha o e=>zbF h.nd (get a ha) (by rw[e];exact get b o);refine Dt.leak_of (s:=λa=>c.getD (a+1) 0) (λi j _ _=>zcN hd i j) (λi _=>zdS hd i) (λa ha=>h.lt _ (mem _ ⋯)) (λa b ha o e=>by have:=inj (a+1) (b+1) ⋯ ⋯ e;lia) λS p g f=>?_
 have:=h.small S (λy q=>by obtain⟨a,ha,e⟩:=p y q;rw[e];exact mem _ ⋯) (λj k u r t=>f j k u r (gB_iff.mp t)) g (c.getD 0 0) (mem 0 ⋯)
 obtain⟨a,ha,e⟩:=p _ this
 have:=inj 0 (a+1) ⋯ ⋯ e
 lia
end
end Internal
namespace Dt
theorem sm_front{f:Nat->Rat}:∀n:Nat,sm (n+1) f=f 0+sm n (λi=>f (i+1))
 | 0=>by show(0:Rat)+f 0=f 0+0;grind
 | n+1=>by
  have:=sm_front (f:=f) n
  rw[show sm (n+1+1) f=sm (n+1) f+f (n+1)from rfl,this];show f 0+sm n (λi=>f (i+1))+f (n+1)=f 0+(sm n (λi=>f (i+1))+f (n+1))
  grind
end Dt
namespace Internal
variable {ds:List Due}{i n ρ:Nat}
open PySem PySem.Spec PyProof.Rows
open Dt (sm Leak bal)
noncomputable def zcs (f:Nat->Nat->Rat) (r:Nat->Rat) (a b:Nat):Rat:=if a=0 then(if b=0 then 1 else 0)else bal f r a b
section
variable {n:Nat}{ds:List Due}{l:Nat->Rat}{c:List Nat}{m:Nat}
abbrev cF(ds:List Due)(l:Nat->Rat)(c:List Nat):Nat->Nat->Rat:=λa b=>flR ds l (c.getD a 0) (c.getD b 0)
abbrev cR(n:Nat)(ds:List Due)(l:Nat->Rat)(c:List Nat):Nat->Rat:=λa=>zap n ds l (c.getD a 0)
def zhi(x:Nat->Rat){f:Nat->Nat->Rat}{r:Nat->Rat}:sm (m+1) (λb=>zcs f r 0 b*x b)=x 0:=by
 rw[Dt.sm_one (i:=0) ⋯ λj _ a=>by unfold zcs;rw[if_pos rfl,if_neg a];grind];unfold zcs;rw[if_pos rfl,if_pos rfl];grind
def zg4(hd:∀d∈ds,zo n d)(x:Nat->Rat){a:Nat}(ha:a<m):sm (m+1) (λb=>zcs (cF ds l c) (cR n ds l c) (a+1) b*x b)=cR n ds l c (a+1)*x (a+1)-(cF ds l c 0 (a+1)*x 0+sm m (λb=>cF ds l c (b+1) (a+1)*x (b+1))):=by
 have e:sm (m+1) (λb=>zcs (cF ds l c) (cR n ds l c) (a+1) b*x b)=sm (m+1) (λb=>bal (cF ds l c) (cR n ds l c) (a+1) b*x b):=Dt.sm_congr λb _=>by
  unfold zcs;rw[if_neg ⋯]
 rw[e,Dt.bal_row (f:=cF ds l c) (r:=cR n ds l c) ⋯ (zdS hd _),Dt.sm_front]
def zmp(hd:∀d∈ds,zo n d)(p:Rc.Cir n (gB ds l) (shB ds l) c)(o:c.length=m+1):Dt.det (m+1) (Dt.cl (zcs (cF ds l c) (cR n ds l c)))≠0:=λz=>by
 obtain⟨x,⟨k,q,g⟩,e⟩:=Dt.null_of_det z;have h:x 0=0:=by rw[<- zhi (m:=m) x];exact e 0 ⋯
 have L:=zer hd p o;have f:∀a,a<m->cR n ds l c (a+1)*x (a+1)-sm m (λb=>cF ds l c (b+1) (a+1)*x (b+1))=0:=λa ha=>by
  have:=zg4 (n:=n) (l:=l) (c:=c) hd x ha
  rw[e (a+1) ⋯,h]at this;grind
 have j:=L.nonneg (s:=λa=>x (a+1)) λa ha=>by rw[f a ha];exact yE
 have p2:=L.nonneg (s:=λa=>-x (a+1)) λa ha=>by
  have i:sm m (λb=>cF ds l c (b+1) (a+1) * -x (b+1))=-sm m (λb=>cF ds l c (b+1) (a+1)*x (b+1)):=by
   rw[<- Dt.sm_neg];exact Dt.sm_congr λb _=>by grind
  show 0<=cR n ds l c (a+1) * -x (a+1)-sm m (λb=>cF ds l c (b+1) (a+1) * -x (b+1));rw[i]
  have:=f a ha
  grind
 cases k with
 | zero=>exact g h
 | succ k=>
  have h1:=j k ⋯;have h2:=p2 k ⋯;exact g (by grind)
def zmX(hd:∀d∈ds,zo n d)(t:Rc.Cir n (gB ds l) (shB ds l) c)(D:c.length=m+1){x:Nat->Rat}(A:∀a,a<m+1->sm (m+1) (λb=>zcs (cF ds l c) (cR n ds l c) a b*x b)=if a=0 then 1 else 0) :
  (∀i,0<=sF (m+1) (λa=>c.getD a 0) x i)/\(∀i,i<n->zap n ds l i*sF (m+1) (λa=>c.getD a 0) x i-sm n (λj=>flR ds l j i*sF (m+1) (λa=>c.getD a 0) x j)=0)/\sF (m+1) (λa=>c.getD a 0) x (c.getD 0 0)=1:=by
 have get:∀a,a<m+1->c[a]?=some (c.getD a 0):=λa ha=>by
  rw[yf,yk ⋯];rfl
 have mem:∀a,a<m+1->c.getD a 0∈c:=λa ha=>yb (get a ha);have inj:∀a b,a<m+1->b<m+1->c.getD a 0=c.getD b 0->a=b:=λa b ha u e=>zbF t.nd (get a ha) (by rw[e];exact get b u);have lt:∀a,a<m+1->c.getD a 0<n:=λa ha=>t.lt _ (mem a ha);have w:x 0=1:=by rw[<- zhi (m:=m) x (f:=cF ds l c) (r:=cR n ds l c),A 0 ⋯,if_pos rfl]
 have L:=zer hd t D;have B:∀a,a<m->cR n ds l c (a+1)*x (a+1)-(cF ds l c 0 (a+1)*x 0+sm m (λb=>cF ds l c (b+1) (a+1)*x (b+1)))=0:=λa ha=>by
  rw[<- zg4 (n:=n) hd x ha,A (a+1) ⋯,if_neg ⋯]
 have v:=L.nonneg (s:=λa=>x (a+1)) λa ha=>by
  have h1:=B a ha;have h2:=zcN (l:=l) hd (c.getD 0 0) (c.getD (a+1) 0);rw[w]at h1;show 0<=cR n ds l c (a+1)*x (a+1)-sm m (λb=>cF ds l c (b+1) (a+1)*x (b+1));have F:cF ds l c 0 (a+1)=flR ds l (c.getD 0 0) (c.getD (a+1) 0):=rfl;grind
 have nn:∀a,a<m+1->0<=x a:=λa ha=>by
  cases a with
  | zero=>rw[w];decide
  | succ a=>exact v a ⋯
 have o:∀a y,a<m+1->y<n->y∉c->flR ds l (c.getD a 0) y=0:=λa y ha C E=>by
  rcases yaq (0<flR ds l (c.getD a 0) y)with q | q
  ·exact absurd (t.cl _ y (mem a ha) C (gB_iff.mpr q)) E
  ·have:=zcN (l:=l) hd (c.getD a 0) y
   grind
 have one:∀j,j<n->j∈c->sF (m+1) (λa=>c.getD a 0) (λ_=>1) j=1:=λj _ h=>by
  obtain⟨a,ha,e⟩:=yB h;have g:j=c.getD a 0:=by rw[yf,yk ha,<- e];rfl
  rw[g,zgF (s:=λa=>c.getD a 0) inj ⋯]
 have whole:∀b,b<m+1->cR n ds l c b=sm (m+1) (λa=>cF ds l c b a):=λb u=>by
  have:=znc (n:=n) (m:=m+1) (s:=λa=>c.getD a 0) (x:=λ_=>1) lt (flR ds l (c.getD b 0))
  have p:sm n (λj=>flR ds l (c.getD b 0) j*sF (m+1) (λa=>c.getD a 0) (λ_=>1) j)=sm n (flR ds l (c.getD b 0)):=Dt.sm_congr λj h=>by
   rcases yaq (j∈c)with q | q
   ·rw[one j h q];grind
   ·rw[o b j u h q];grind
  rw[p]at this;show sm n (flR ds l (c.getD b 0))=_;rw[this];exact Dt.sm_congr λa _=>by grind
 have z:sm (m+1) (λa=>cR n ds l c a*x a-sm (m+1) (λb=>cF ds l c b a*x b))=0:=by
  have p:sm (m+1) (λa=>cR n ds l c a*x a-sm (m+1) (λb=>cF ds l c b a*x b))=sm (m+1) (λa=>1*(cR n ds l c a*x a)+(-1)*sm (m+1) (λb=>cF ds l c b a*x b)):=Dt.sm_congr λa _=>by grind
  rw[p,Dt.sm_lin,Dt.sm_swap];have g:sm (m+1) (λj=>sm (m+1) λi=>cF ds l c j i*x j)=sm (m+1) (λa=>cR n ds l c a*x a):=Dt.sm_congr λj h=>by
   rw[whole j h,show sm (m+1) (λa=>cF ds l c j a)*x j=x j*sm (m+1) (λa=>cF ds l c j a) by grind,<- Dt.sm_mul];exact Dt.sm_congr λa _=>by grind
  rw[g];grind
 have k:∀a,a<m+1->cR n ds l c a*x a-sm (m+1) (λb=>cF ds l c b a*x b)=0:=λa ha=>by
  have rest:∀a,a<m->cR n ds l c (a+1)*x (a+1)-sm (m+1) (λb=>cF ds l c b (a+1)*x b)=0:=λa ha=>by
   rw[Dt.sm_front];exact B a ha
  cases a with
  | succ a=>exact rest a ⋯
  | zero=>
   rw[Dt.sm_front,Dt.sm_zero (n:=m) rest]at z;grind
 refine⟨zrt nn,λi hi=>?_,by rw[zgF (s:=λa=>c.getD a 0) inj ⋯];exact w⟩;rw[znc (s:=λa=>c.getD a 0) lt (λj=>flR ds l j i)];rcases yaq (i∈c)with q | q
 ·obtain⟨a,ha,e⟩:=yB q;have g:i=c.getD a 0:=by rw[yf,yk ha,<- e];rfl
  rw[g,zgF (s:=λa=>c.getD a 0) inj ⋯];exact k a ⋯
 ·have p:sF (m+1) (λa=>c.getD a 0) x i=0:=zhN λa ha e=>q (by rw[<- e];exact mem a ha);have g:sm (m+1) (λa=>flR ds l (c.getD a 0) i*x a)=0:=Dt.sm_zero λa ha=>by rw[o a i ha hi q];grind
  rw[p,g];grind
end
open PySem PySem.Spec PyProof.Rows
open Dt (sm)
noncomputable def rkL (ds:List Due) (l:Nat->Rat) (i:Nat):Nat:=(stp ds l i).getD 3
section
variable {ds:List Due}{l l':Nat->Rat}{i:Nat}
end
noncomputable def nsum (f:Nat->Nat):Nat->Nat
 | 0=>0
 | n+1=>nsum f n+f n
theorem zcm{f g:Nat->Nat}:∀{n:Nat},(∀i,i<n->f i<=g i)->nsum f n<=nsum g n
 | 0,_=>yg _
 | n+1,h=>Nat.add_le_add (zcm λi hi=>h i ⋯) (h n ⋯)
theorem zi4{f g:Nat->Nat}{j:Nat}:∀{n:Nat},(∀i,i<n->f i<=g i)->j<n->f j<g j->nsum f n<nsum g n
 | n+1,h,hj,hl=>by
  have h1:=zcm (n:=n) λi hi=>h i ⋯;have h2:=h n ⋯;show nsum f n+f n<nsum g n+g n;rcases yX (yac hj)with g' | g'
  ·have:=zi4 (n:=n) (λi hi=>h i ⋯) g' hl
   lia
  ·rw[g']at hl;lia
noncomputable def zkl (ds:List Due) (l:Nat->Rat) (i:Nat):Nat:=nsum (λr=>if 0<zA ds i r/\zT (zA ds i) (r+1)<=l i then 1 else 0) 3
def zhb{l l':Nat->Rat}(h:l i<=l' i):zkl ds l i<=zkl ds l' i:=zcm λr _=>by
 by_cases g:0<zA ds i r/\zT (zA ds i) (r+1)<=l i
 ·rw[if_pos g,if_pos ⟨g.1,yR g.2 h⟩];exact yg _
 ·rw[if_neg g];exact yW _
def ztU{l l':Nat->Rat}(d:0<=l i)(h:l i<=l' i)(a:stp ds l i=some ρ)(c:zT (zA ds i) (ρ+1)<=l' i):zkl ds l i<zkl ds l' i:=by
 obtain⟨b,up,_⟩:=zbC a;refine zi4 (j:=ρ) (λr _=>?_) b ?_
 ·by_cases g:0<zA ds i r/\zT (zA ds i) (r+1)<=l i
  ·rw[if_pos g,if_pos ⟨g.1,yR g.2 h⟩];exact yg _
  ·rw[if_neg g];exact yW _
 ·rw[if_neg λz=>absurd z.2 (Rat.not_le.mpr up),if_pos ⟨zcv d a,c⟩];decide
noncomputable def zfJ (n:Nat) (ds:List Due) (l:Nat->Rat):Nat:=nsum (zkl ds l) n
noncomputable def zhn (ds:List Due) (i:Nat):Nat:=nsum (λr=>if 0<zA ds i r then 1 else 0) 3
noncomputable def zda (n:Nat) (ds:List Due):Nat:=nsum (zhn ds) n
def zt8{l:Nat->Rat}:zfJ n ds l<=zda n ds:=zcm λi _=>zcm λr _=>by
 by_cases g:0<zA ds i r/\zT (zA ds i) (r+1)<=l i
 ·rw[if_pos g,if_pos g.1];exact yg _
 ·rw[if_neg g];exact yW _
theorem zhl{f g:Nat->Nat}:∀{n:Nat},nsum (λi=>f i+g i) n=nsum f n+nsum g n
 | 0=>rfl
 | n+1=>by show nsum (λi=>f i+g i) n+(f n+g n)=nsum f n+f n+(nsum g n+g n);rw[zhl (n:=n)];lia
theorem zdq:∀{n:Nat} {f:Nat->Nat},(∀i,i<n->f i=0)->nsum f n=0
 | 0,_,_=>rfl
 | n+1,f,h=>by show nsum f n+f n=0;rw[zdq (n:=n) λi hi=>h i ⋯,h n ⋯]
theorem zgZ{f:Nat->Nat}{j:Nat}:∀{n:Nat},(∀i,i<n->i≠j->f i=0)->nsum f n<=f j
 | 0,_=>yW _
 | n+1,h=>by
  show nsum f n+f n<=f j;by_cases e:n=j
  ·rw[zdq λi hi=>h i ⋯ ⋯,e];lia
  ·rw[h n ⋯ e];exact zgZ (n:=n) λi hi=>h i ⋯
def zuy(ds:List Due):(∀d∈ds,0<=d.a)->zda n ds<=ds.length:=
 zaO (P:=λds=>(∀d∈ds,0<=d.a)->zda n ds<=ds.length) (λ_=>by
  show nsum (zhn []) n<=0;have z:nsum (zhn []) n=0:=zdq λi _=>by
   unfold zhn;exact zdq λr _=>if_neg (by show ¬(0:Int)<0;lia)
  rw[z];exact yg _) (λes d g h=>by
  have h1:=g λe b=>h e (yt _ b);have h2:=h d (yq _ (.head _));rw[yc,yah];have e:zda n (es++[d])<=nsum (λi=>zhn es i+nsum (λr=>if d.p=(i:Int)/\d.r=(r:Int)then 1 else 0) 3) n:=zcm λi _=>by
   unfold zhn;rw[<- zhl];refine zcm λr _=>?_;rw[zaL];have o:=zc8 (m:=i) (r:=r) es λe b=>h e (yt _ b);by_cases c:d.p=(i:Int)/\d.r=(r:Int)
   ·rw[if_pos c,if_pos c];split<;>split<;>lia
   ·rw[if_neg c,if_neg c];exact yg _
  rw[zhl]at e;have l:nsum (λi=>nsum (λr=>if d.p=(i:Int)/\d.r=(r:Int)then 1 else 0) 3) n<=1:=by
   refine yj (zgZ (j:=d.p.toNat) λi _ hi=>zdq λr _=>if_neg λz=>hi ⋯) ?_;refine yj (zgZ (j:=d.r.toNat) λr _ f=>if_neg λz=>f ⋯) ?_;split<;>lia
  have k:nsum (zhn es) n=zda n es:=rfl;lia) ds
noncomputable def zbL (ds:List Due) (l:Nat->Rat) (i:Nat):Rat:=zT (zA ds i) (rkL ds l i+1)
noncomputable def zav (ds:List Due) (l r:Nat->Rat) (i:Nat):Rat:=(zbL ds l i-l i)/r i
noncomputable def zas (ds:List Due) (l r:Nat->Rat):Nat->Option Rat
 | 0=>none
 | k+1=>if 0<r k then(match zas ds l r k with | none=>some (zav ds l r k) | some q=>some (if zav ds l r k<q then zav ds l r k else q))else zas ds l r k
section
variable {ds:List Due}{l r:Nat->Rat}
theorem zcB:∀{k:Nat},zas ds l r k=none->∀i,i<k->¬0<r i
 | 0,_,i,h=>absurd h (yaL _)
 | k+1,h,i,hi=>by
  have h':(if 0<r k then(match zas ds l r k with | none=>some (zav ds l r k) | some q=>some (if zav ds l r k<q then zav ds l r k else q))else zas ds l r k)=none:=h;by_cases g:0<r k
  ·rw[if_pos g]at h';split at h'<;>cases h'
  ·rw[if_neg g]at h';rcases yX (yac hi)with e | e
   ·exact zcB h' i e
   ·rw[e];exact g
theorem zbU:∀{k:Nat} {x:Rat},zas ds l r k=some x->(∃i,i<k/\0<r i/\x=zav ds l r i)/\∀i,i<k->0<r i->x<=zav ds l r i
 | 0,_,h=>by cases h
 | k+1,x,h=>by
  have h':(if 0<r k then(match zas ds l r k with | none=>some (zav ds l r k) | some q=>some (if zav ds l r k<q then zav ds l r k else q))else zas ds l r k)=some x:=h;by_cases g:0<r k
  ·rw[if_pos g]at h';cases e:zas ds l r k with
   | none=>
    rw[e]at h';cases h';refine⟨⟨k,⋯,g,rfl⟩,λi hi b=>?_⟩;rcases yX (yac hi)with q | q
    ·exact absurd b (zcB e i q)
    ·rw[q];exact yE
   | some q=>
    rw[e]at h';dsimp only at h';obtain⟨⟨j,m,d,f⟩,a⟩:=zbU (k:=k) e;by_cases c:zav ds l r k<q
    ·rw[if_pos c]at h';cases h';refine⟨⟨k,⋯,g,rfl⟩,λi hi b=>?_⟩;rcases yX (yac hi)with w | w
     ·have:=a i w b;grind
     ·rw[w];exact yE
    ·rw[if_neg c]at h';cases h';refine⟨⟨j,⋯,d,f⟩,λi hi b=>?_⟩;rcases yX (yac hi)with w | w
     ·exact a i w b
     ·rw[w];exact yaZ.mp c
  ·rw[if_neg g]at h';obtain⟨⟨j,m,d,f⟩,a⟩:=zbU (k:=k) h';refine⟨⟨j,⋯,d,f⟩,λi hi b=>?_⟩;rcases yX (yac hi)with w | w
   ·exact a i w b
   ·rw[w]at b;exact absurd b g
end
def zdF{a b:Rat}(h:0<b):a/b*b=a:=by
 have c:b≠0:=λz=>by rw[z]at h;exact absurd h "0a"
 exact ybM c
def zfO{l:Nat->Rat}(a:stp ds l i=some ρ):zbL ds l i=zT (zA ds i) (ρ+1):=by
 unfold zbL rkL;rw[a];rfl
section
variable {n:Nat}{ds:List Due}{l s:Nat->Rat}{x:Rat}
abbrev rtR(n:Nat)(ds:List Due)(l s:Nat->Rat)(i:Nat):Rat:=s i*zap n ds l i
def zfb(hd:∀d∈ds,zo n d)(h:0<rtR n ds l s i):∃ρ,stp ds l i=some ρ:=by
 cases hs:stp ds l i with
 | some ρ=>exact⟨ρ,rfl⟩
 | none=>
  unfold rtR at h;rw[zll hs]at h;exact absurd h (by rw[show s i*(0:Rat)=0 by grind];decide)
def zqd(hd:∀d∈ds,zo n d)(h:0<rtR n ds l s i):0<zav ds l (rtR n ds l s) i:=by
 obtain⟨ρ,a⟩:=zfb hd h;have up:=(zbC a).2.1;unfold zav;rw[zfO a,ybt];exact ybs (by grind) (Rat.inv_pos.mpr h)
def zsL(hd:∀d∈ds,zo n d)(f:∀i,i<n->0<=s i)(j:0<=x)(e:∀i,i<n->0<rtR n ds l s i->x<=zav ds l (rtR n ds l s) i)(hi:i<n)(a:stp ds l i=some ρ):l i+x*(s i*zap n ds l i)<=zT (zA ds i) (ρ+1):=by
 have up:=(zbC a).2.1;by_cases h:0<rtR n ds l s i
 ·have h1:=e i hi h;have h2:=yS h1 (Rat.le_of_lt h);unfold zav at h2;rw[zdF h,zfO a]at h2;unfold rtR at h2;grind
 ·have h1:=zee hd a;have h2:0<=zap n ds l i:=by
   rw[h1];exact zau (zc8 ds λd b=>(hd d b).2.2.2.2.2.2.2.1)
  have g:=yI (f i hi) h2;have c:s i*zap n ds l i=0:=by unfold rtR at h;grind
  rw[c];grind
def zo5(hd:∀d∈ds,zo n d)(h:0<rtR n ds l s i)(a:x=zav ds l (rtR n ds l s) i)(b:stp ds l i=some ρ):zT (zA ds i) (ρ+1)<=l i+x*(s i*zap n ds l i):=by
 have h2:x*rtR n ds l s i=zbL ds l i-l i:=by
  rw[a];unfold zav;exact zdF h
 rw[zfO b]at h2;unfold rtR at h2;grind
end
end Internal
namespace Dt
variable {n:Nat}
def Leak.uniq{f:Nat->Nat->Rat}{r d:Nat->Rat}(h:Leak n f r)(e:∀i,i<n->r i*d i-sm n (λj=>f j i*d j)=0):∀i,i<n->d i=0:=λm a=>by
 have c:=h.nonneg (s:=d) (λi hi=>by rw[e i hi];exact yE) m a;have p2:=h.nonneg (s:=λj=>-d j) (λi hi=>by
  have b:sm n (λj=>f j i * -d j)=-sm n (λj=>f j i*d j):=by
   rw[<- sm_neg];exact sm_congr λj _=>by grind
  show 0<=r i * -d i-sm n (λj=>f j i * -d j);rw[b]
  have:=e i hi
  grind) m a
 grind
def sm_sub{f g:Nat->Rat}(n:Nat):sm n (λi=>f i-g i)=sm n f-sm n g:=by
 have e:sm n (λi=>f i-g i)=sm n (λi=>1*f i+(-1)*g i):=sm_congr λi _=>by grind
 rw[e,sm_lin];grind
end Dt
namespace Internal
variable {i:Nat}
open PySem PySem.Spec PyProof.Rows
open Dt (sm Leak bal)
noncomputable def slL (n:Nat) (ds:List Due) (l:Nat->Rat):List Nat:="0i".filter (shB ds l)
abbrev crL(n:Nat)(ds:List Due)(l:Nat->Rat):List Nat:=Rc.circle n (gB ds l) (shB ds l)
noncomputable def zcG (n:Nat) (ds:List Due) (l:Nat->Rat) (c:List Nat) (x:Nat->Rat):Prop:=∀a,a<c.length->sm c.length (λb=>zcs (cF ds l c) (cR n ds l c) a b*x b)=if a=0 then 1 else 0
noncomputable def zdi (n:Nat) (ds:List Due) (p l:Nat->Rat) (c:List Nat) (x:Nat->Rat):Prop:=∀a,a<c.length->sm c.length (λb=>bal (cF ds l c) (cR n ds l c) a b*x b)=p (c.getD a 0)
noncomputable def zkp (n:Nat) (ds:List Due) (l:Nat->Rat) (c:List Nat):Nat->Rat:=Classical.epsilon (zcG n ds l c)
noncomputable def zix (n:Nat) (ds:List Due) (p l:Nat->Rat) (c:List Nat):Nat->Rat:=Classical.epsilon (zdi n ds p l c)
section
variable {n:Nat}{ds:List Due}{p l:Nat->Rat}{t:Rat}
def sl_mem:i∈slL n ds l↔i<n/\shB ds l i=true:=by
 unfold slL;rw[yaG,yP]
def zdW:(slL n ds l).Nodup:=ybX.filter _
def za0{c:List Nat}{a:Nat}(ha:a<c.length):c.getD a 0∈c:=by
 rw[yf,yk ha];exact ybY ha
def zbn{c:List Nat}(nd:c.Nodup)(a b:Nat)(ha:a<c.length)(d:b<c.length)(e:c.getD a 0=c.getD b 0):a=b:=by
 have g:∀a,a<c.length->c[a]?=some (c.getD a 0):=λa ha=>by rw[yf,yk ha];rfl
 exact zbF nd (g a ha) (by rw[e];exact g b d)
def zrd{c:List Nat}{x:Nat}(h:x∈c):∃a,a<c.length/\x=c.getD a 0:=by
 obtain⟨a,ha,e⟩:=yB h;exact⟨a,ha,by rw[yf,yk ha,<- e];rfl⟩
def zpZ(hd:∀d∈ds,zo n d)(c:crL n ds l=[]){x y:Nat->Rat}(g:zdi n ds p l (slL n ds l) x)(b:zdi n ds p l (slL n ds l) y):∀a,a<(slL n ds l).length->x a=y a:=λa ha=>by
 have L:=zej hd c (m:=(slL n ds l).length) (s:=λa=>(slL n ds l).getD a 0) (λa ha=>sl_mem.mp (za0 ha)) (zbn zdW)
 have:=L.uniq (d:=λa=>x a-y a) (λi hi=>by
  have h1:=g i hi;have h2:=b i hi;rw[Dt.bal_row (f:=cF ds l (slL n ds l)) (r:=cR n ds l (slL n ds l)) hi (zdS hd _)]at h1 h2;have e:sm (slL n ds l).length (λj=>cF ds l (slL n ds l) j i*(x j-y j))=sm (slL n ds l).length (λj=>cF ds l (slL n ds l) j i*x j)-sm (slL n ds l).length (λj=>cF ds l (slL n ds l) j i*y j):=by
   rw[<- Dt.sm_sub];exact Dt.sm_congr λj _=>by grind
  show cR n ds l (slL n ds l) i*(x i-y i)-sm (slL n ds l).length (λj=>cF ds l (slL n ds l) j i*(x j-y j))=0;rw[e];grind) a ha
 grind
def zqS(hd:∀d∈ds,zo n d){c:List Nat}(o:Rc.Cir n (gB ds l) (shB ds l) c){x y:Nat->Rat}(f:zcG n ds l c x)(b:zcG n ds l c y):∀a,a<c.length->x a=y a:=λa ha=>by
 obtain⟨m,g⟩:∃m,c.length=m+1:=⟨c.length-1,⋯⟩
 unfold zcG at f b;rw[g]at f b ha;have L:=zer hd o g;have k:x 0=y 0:=by
  have h1:=f 0 ⋯;have h2:=b 0 ⋯;rw[zhi]at h1 h2;rw[h1,h2]
 have:=L.uniq (d:=λa=>x (a+1)-y (a+1)) (λi hi=>by
  have h1:=f (i+1) ⋯;have h2:=b (i+1) ⋯;rw[zg4 hd _ hi,if_neg ⋯]at h1 h2;have e:sm m (λj=>cF ds l c (j+1) (i+1)*(x (j+1)-y (j+1)))=sm m (λj=>cF ds l c (j+1) (i+1)*x (j+1))-sm m (λj=>cF ds l c (j+1) (i+1)*y (j+1)):=by
   rw[<- Dt.sm_sub];exact Dt.sm_congr λj _=>by grind
  show cR n ds l c (i+1)*(x (i+1)-y (i+1))-sm m (λj=>cF ds l c (j+1) (i+1)*(x (j+1)-y (j+1)))=0;rw[e,k]at *
  grind)
 cases a with
 | zero=>exact k
 | succ a=>
  have h:=this a ⋯;grind
end
noncomputable def shF (n:Nat) (ds:List Due) (p l:Nat->Rat):Nat->Rat:=
 if crL n ds l=[]then sF (slL n ds l).length (λa=>(slL n ds l).getD a 0) (zix n ds p l (slL n ds l))else sF (crL n ds l).length (λa=>(crL n ds l).getD a 0) (zkp n ds l (crL n ds l))
noncomputable def rtF (n:Nat) (ds:List Due) (p l:Nat->Rat):Nat->Rat:=rtR n ds l (shF n ds p l)
noncomputable def stF (n:Nat) (ds:List Due) (p l:Nat->Rat) (t:Rat):Rat:=
 if crL n ds l=[] then(match zas ds l (rtF n ds p l) n with | none=>1-t | some q=>if 1-t<q then 1-t else q) else(zas ds l (rtF n ds p l) n).getD 0
noncomputable def nxL (n:Nat) (ds:List Due) (p l:Nat->Rat) (t:Rat):Nat->Rat:=λi=>l i+stF n ds p l t*rtF n ds p l i
noncomputable def nxT (n:Nat) (ds:List Due) (p l:Nat->Rat) (t:Rat):Rat:=if crL n ds l=[]then t+stF n ds p l t else t
noncomputable def Ans (n:Nat) (ds:List Due) (p l:Nat->Rat):Prop:=if crL n ds l=[]then ∃x,zdi n ds p l (slL n ds l) x else ∃x,zcG n ds l (crL n ds l) x
section
variable {n:Nat}{ds:List Due}{p l:Nat->Rat}{t:Rat}
def zkn(hd:∀d∈ds,zo n d)(p0:∀i,i<n->0<=p i)(ha:Ans n ds p l):(∀i,0<=shF n ds p l i)/\(∀i,i<n->stp ds l i≠none->zap n ds l i*shF n ds p l i-sm n (λj=>flR ds l j i*shF n ds p l j)=(if crL n ds l=[]then 1 else 0)*p i)/\(crL n ds l≠[]->∃i,i<n/\stp ds l i≠none/\0<shF n ds p l i):=by
 unfold shF;unfold Ans at ha;by_cases b:crL n ds l=[]
 ·rw[if_pos b]at ha;rw[if_pos b,if_pos b];have e:zdi n ds p l (slL n ds l) (zix n ds p l (slL n ds l)):=yar ha;obtain⟨a1,a2⟩:=zlL (x:=zix n ds p l (slL n ds l)) hd b p0 (m:=(slL n ds l).length) (s:=λa=>(slL n ds l).getD a 0) (λa ha=>sl_mem.mp (za0 ha)) (zbn zdW) (λi hi h=>zrd (sl_mem.mpr ⟨hi,h⟩)) e;exact⟨a1,a2,λz=>absurd b z⟩
 ·rw[if_neg b]at ha;rw[if_neg b,if_neg b];have f:=Rc.circle_ok b;obtain⟨m,c⟩:∃m,(crL n ds l).length=m+1:=⟨(crL n ds l).length-1,by
   have:(crL n ds l).length≠0:=λz=>b (yad z)
   lia⟩
  have e:zcG n ds l (crL n ds l) (zkp n ds l (crL n ds l)):=yar ha;unfold zcG at e;rw[c]at e;obtain⟨a1,a2,k⟩:=zmX hd f c e;rw[c];refine⟨a1,λi hi _=>by rw[a2 i hi];grind,λ_=>⟨(crL n ds l).getD 0 0,?_,?_,?_⟩⟩
  ·exact f.lt _ (za0 (show 0<(crL n ds l).length by rw[c];lia))
  ·have:=f.sh _ (za0 (show 0<(crL n ds l).length by rw[c];lia))
   intro z;have g:shB ds l ((crL n ds l).getD 0 0)=false:=by unfold shB;rw[show stp ds l ((crL n ds l).getD 0 0)=none from z];rfl
   exact absurd (this.symm.trans g) "0a"
  ·rw[k];decide
def zrV(hd:∀d∈ds,zo n d)(p0:∀i,i<n->0<=p i)(I:CInv n ds p l t)(t0:0<=t)(t1:t<=1)(ha:Ans n ds p l)(L:¬(crL n ds l=[]/\t=1)) :
  CInv n ds p (nxL n ds p l t) (nxT n ds p l t)/\0<=nxT n ds p l t/\nxT n ds p l t<=1/\t<=nxT n ds p l t/\(∀i,i<n->l i<=nxL n ds p l t i)/\0<=stF n ds p l t /\
  (zfJ n ds l<zfJ n ds (nxL n ds p l t)\/(zfJ n ds l<=zfJ n ds (nxL n ds p l t)/\t<1/\nxT n ds p l t=1)):=by
 obtain⟨D,H,w⟩:=zkn hd p0 ha;obtain⟨s,G⟩:∃s,s=shF n ds p l:=⟨_,rfl⟩
 have A:rtF n ds p l=rtR n ds l s:=by unfold rtF;rw[G]
 rw[<- G]at D H w
 -- the step
 have r:∀(x e:Rat),0<=x->(∀i,i<n->0<rtR n ds l s i->x<=zav ds l (rtR n ds l s) i)->(e=if crL n ds l=[]then 1 else 0)->CInv n ds p (λi=>l i+x*rtR n ds l s i) (t+x*e):=λx e a B J=>by
  refine turn hd I (λi _=>D i) a (by rw[J];split<;>decide) p0 (λi hi b=>by rw[J];exact H i hi b) (λi hi ρ b=>zsL hd (λi _=>D i) a B hi b)
 have N:∀i,0<=rtR n ds l s i:=λi=>yI (D i) (Dt.sm_ge0 λj _=>zcN hd i j);have grow:∀(x:Rat),0<=x->∀i,l i<=l i+x*rtR n ds l s i:=λx a i=>by
  have:=yI a (N i)
  grind
 have u:∀(x:Rat),0<=x->(∃i,i<n/\0<rtR n ds l s i/\x=zav ds l (rtR n ds l s) i)->zfJ n ds l<zfJ n ds (λi=>l i+x*rtR n ds l s i):=λx a ⟨i,hi,g,B⟩=>by
  obtain⟨ρ,b⟩:=zfb hd g;exact zi4 (λj O=>zhb (grow x a j)) hi (ztU (I.lo i hi) (grow x a i) b (zo5 hd g B b))
 have v:∀{x:Rat},(∃i,i<n/\0<rtR n ds l s i/\x=zav ds l (rtR n ds l s) i)->0<x:=λ{x} ⟨i,hi,g,B⟩=>by rw[B];exact zqd hd g
 have E:nxL n ds p l t=λi=>l i+stF n ds p l t*rtR n ds l s i:=by unfold nxL;rw[A]
 by_cases o:crL n ds l=[]
 ·have tl:t<1:=by
   rcases yaq (t=1)with z | z
   ·exact absurd ⟨o,z⟩ L
   ·grind
  have C:nxT n ds p l t=t+stF n ds p l t:=if_pos o;have f:stF n ds p l t=match zas ds l (rtR n ds l s) n with | none=>1-t | some q=>if 1-t<q then 1-t else q:=by unfold stF;rw[if_pos o,A]
  cases hq:zas ds l (rtR n ds l s) n with
  | none=>
   rw[hq]at f;dsimp only at f;have a:0<=stF n ds p l t:=by rw[f];grind
   have K:=r (stF n ds p l t) 1 a (λi hi g=>absurd g (zcB hq i hi)) (by rw[if_pos o]);rw[E,C];refine⟨by rw[show stF n ds p l t*1=stF n ds p l t by grind]at K;exact K,by grind,by grind,by grind,λi _=>grow _ a i,a,.inr ⟨zcm λj _=>zhb (grow _ a j),tl,by rw[f];grind⟩⟩
  | some q=>
   rw[hq]at f;dsimp only at f;obtain⟨m,k⟩:=zbU hq;have M:=v m;by_cases c:1-t<q
   ·rw[if_pos c]at f;have a:0<=stF n ds p l t:=by rw[f];grind
    have K:=r (stF n ds p l t) 1 a (λi hi g=>by have:=k i hi g;rw[f];grind) (by rw[if_pos o]);rw[E,C];refine⟨by rw[show stF n ds p l t*1=stF n ds p l t by grind]at K;exact K,by grind,by grind,by grind,λi _=>grow _ a i,a,.inr ⟨zcm λj _=>zhb (grow _ a j),tl,by rw[f];grind⟩⟩
   ·rw[if_neg c]at f;have a:0<=stF n ds p l t:=by rw[f];grind
    have K:=r (stF n ds p l t) 1 a (λi hi g=>by rw[f];exact k i hi g) (by rw[if_pos o]);rw[E,C];refine⟨by rw[show stF n ds p l t*1=stF n ds p l t by grind]at K;exact K,by grind,by grind,by grind,λi _=>grow _ a i,a,.inl (u _ a (by rw[f];exact m))⟩
 ·have C:nxT n ds p l t=t:=if_neg o;have f:stF n ds p l t=(zas ds l (rtR n ds l s) n).getD 0:=by unfold stF;rw[if_neg o,A]
  obtain⟨i,hi,b,F⟩:=w o;have g:0<rtR n ds l s i:=by
   cases h:stp ds l i with
   | none=>exact absurd h b
   | some ρ=>exact ybs F (zgl hd (I.lo i hi) h)
  cases hq:zas ds l (rtR n ds l s) n with
  | none=>exact absurd g (zcB hq i hi)
  | some q=>
   rw[hq]at f;have y:stF n ds p l t=q:=f;obtain⟨m,k⟩:=zbU hq;have M:=v m;have a:0<=stF n ds p l t:=by rw[y];grind
   have K:=r (stF n ds p l t) 0 a (λi hi g=>by rw[y];exact k i hi g) (by rw[if_neg o]);rw[E,C];refine⟨by rw[show t+stF n ds p l t*0=t by grind]at K;exact K,t0,t1,yE,λi _=>grow _ a i,a,.inl (u _ a (by rw[y];exact m))⟩
end
end Internal
namespace Dt
variable {i n:Nat}
noncomputable def Wh (q:Rat):Prop:=∃k:Int,q=(k:Rat)
def Wh.add{a b:Rat}(h:Wh a)(g:Wh b):Wh (a+b):=by
 obtain⟨k,rfl⟩:=h;obtain⟨j,rfl⟩:=g;exact⟨k+j,by rw[yO]⟩
def Wh.mul{a b:Rat}(h:Wh a)(g:Wh b):Wh (a*b):=by
 obtain⟨k,rfl⟩:=h;obtain⟨j,rfl⟩:=g;exact⟨k*j,by rw[yF]⟩
def Wh.neg{a:Rat}(h:Wh a):Wh (-a):=by
 obtain⟨k,rfl⟩:=h;exact⟨-k,by rw[yaM]⟩
def Wh.sub{a b:Rat}(h:Wh a)(g:Wh b):Wh (a-b):=by
 rw[show a-b=a + -b by grind];exact h.add g.neg
def Wh.zero:Wh 0:=⟨0,rfl⟩
def Wh.one:Wh 1:=⟨1,rfl⟩
theorem Wh.sums{f:Nat->Rat}:∀{n:Nat},(∀i,i<n->Wh (f i))->Wh (sm n f)
 | 0,_=>Wh.zero
 | n+1,h=>Wh.add (Wh.sums λi hi=>h i ⋯) (h n ⋯)
theorem Wh.sgn:∀k:Nat,Wh (Dt.sgn k)
 | 0=>Wh.one
 | k+1=>(Wh.sgn k).neg
theorem Wh.det:∀{n:Nat} {c:Nat->Nat->Rat},(∀j r,j<n->r<n->Wh (c j r))->Wh (Dt.det n c)
 | 0,_,_=>Wh.one
 | n+1,c,h=>by
  unfold Dt.det;refine Wh.sums λi hi=>?_;refine((Wh.sgn (n+i)).mul (h n i ⋯ hi)).mul (Wh.det λj r b a=>?_);rw[zew];exact h j _ ⋯ (by unfold up;split<;>lia)
def cram{A:Nat->Nat->Rat}{x b:Nat->Rat}(h:∀a,a<n->sm n (λm=>A a m*x m)=b a)(hi:i<n):x i*det n (cl A)=det n (setc (cl A) i b):=by
 rw[<- zhI (c:=cl A) (a:=x) hi];refine det_congr λj r f d=>?_;unfold setc;by_cases e:j=i
 ·rw[if_pos e,if_pos e,<- h r d];exact sm_congr λm _=>by show x m*A r m=A r m*x m;grind
 ·rw[if_neg e,if_neg e]
theorem zia{B C:Nat->Rat}:∀{n:Nat},(∀j,j<n->0<=B j/\B j<=C j)->prodN B n<=prodN C n
 | 0,_=>yE
 | n+1,h=>by
  have h1:=zia (n:=n) λj b=>h j ⋯;have h2:=h n ⋯;have a:0<=prodN B n:=prodN_nn λj b=>(h j ⋯).1;show prodN B n*B n<=prodN C n*C n;have a1:=yJ h2.2 a;have a2:=yS h1 (yR h2.1 h2.2);exact yR a1 a2
theorem zjn{W P:Rat}(hW:1<=W)(hP:1<=P){i:Nat}:∀{n:Nat},prodN (λj=>if j=i then P else W) n<=prodN (λ_=>W) n*P
 | 0=>by show(1:Rat)<=1*P;grind
 | n+1=>by
  have a:0<=prodN (λ_=>W) n:=prodN_nn λ_ _=>by grind
  show prodN (λj=>if j=i then P else W) n*(if n=i then P else W)<=prodN (λ_=>W) n*W*P;by_cases e:n=i
  ·rw[if_pos e];have h1:prodN (λj=>if j=i then P else W) n<=prodN (λ_=>W) n:=zia λj c=>by rw[if_neg ⋯];grind
   have h2:=yS h1 (show 0<=P by grind);have b:=yJ hW (yI a (show 0<=P by grind));grind
  ·rw[if_neg e];have h1:=yS (zjn hW hP (i:=i) (n:=n)) (show 0<=W by grind);grind
def sys_size{A bb:Nat->Nat->Rat}{x b pb:Nat->Rat}{W P:Rat}(h:∀a,a<n->sm n (λm=>A a m*x m)=b a)(p:∀a m,a<n->m<n->Wh (A a m))(s:∀a,a<n->Wh (b a))(o:∀a m,a<n->m<n->Bd (bb m a) (A a m))(l:∀m,m<n->sm n (bb m)<=W)(k:∀a,a<n->Bd (pb a) (b a))(g:sm n pb<=P)(hW:1<=W)(hP:1<=P) :
  Wh (det n (cl A))/\Bd (prodN (λ_=>W) n*P) (det n (cl A))/\∀i,i<n->Wh (x i*det n (cl A))/\Bd (prodN (λ_=>W) n*P) (x i*det n (cl A)):=by
 have q:0<=prodN (λ_=>W) n:=prodN_nn λ_ _=>by grind
 refine⟨Wh.det λj r f d=>p r j d f,?_,λi hi=>?_⟩
 ·have:=Bd.det_col (B:=λ_=>W) (n:=n) (c:=cl A) (b:=bb) (λj r f d=>o r j d f) l
  refine this.wide ?_
  have:=yJ hP q
  grind
 ·rw[cram h hi];refine⟨Wh.det λj r f d=>?_,?_⟩
  ·unfold setc;split
   ·exact s r d
   ·exact p r j d f
  ·have:=Bd.det_col (B:=λj=>if j=i then P else W) (n:=n) (c:=setc (cl A) i b) (b:=λj=>if j=i then pb else bb j) (λj r f d=>by
    unfold setc;by_cases e:j=i
    ·rw[if_pos e,if_pos e];exact k r d
    ·rw[if_neg e,if_neg e];exact o r j d f) (λj f=>by
    by_cases e:j=i
    ·rw[if_pos e,if_pos e];exact g
    ·rw[if_neg e,if_neg e];exact l j f)
   exact this.wide (zjn hW hP)
end Dt
namespace Internal
variable {i k m:Nat}
open PySem PySem.Spec PyProof.Rows
open Dt (sm Leak bal Wh Bd prodN)
section
variable {n:Nat}{ds:List Due}{p l:Nat->Rat}{t W P:Rat}
def zni(i j:Nat):Wh (flR ds l i j):=⟨_,rfl⟩
def zfw(i:Nat):Wh (zap n ds l i):=Wh.sums λj _=>zni i j
def zms(hd:∀d∈ds,zo n d)(i:Nat):0<=zap n ds l i:=Dt.sm_ge0 λj _=>zcN hd i j
set_option genInjectivity false in
set_option genSizeOf false in
structure ShW(n:Nat)(ds:List Due)(p l:Nat->Rat)(M:Rat)(Δ:Rat):Prop where
 w:Wh Δ
 ne:Δ≠0
 bd:Bd M Δ
 ws:∀i,i<n->Wh (shF n ds p l i*Δ)
 bs:∀i,i<n->Bd M (shF n ds p l i*Δ)
def zkf{s:Nat->Nat}{x:Nat->Rat}{Δ M:Rat}(c:0<=M)(inj:∀a b,a<m->b<m->s a=s b->a=b)(h:∀a,a<m->Wh (x a*Δ)/\Bd M (x a*Δ))(i:Nat):Wh (sF m s x i*Δ)/\Bd M (sF m s x i*Δ):=by
 rcases yaq (∃a,a<m/\s a=i) with⟨a,ha,e⟩ | z
 ·rw[<- e,zgF inj ha];exact h a ha
 ·rw[zhN λa ha e=>z ⟨a,ha,e⟩,show(0:Rat)*Δ=0 by grind];exact⟨Wh.zero,by constructor<;>grind⟩
def zkA(hd:∀d∈ds,zo n d){c:List Nat}(nd:c.Nodup)(lt:∀x∈c,x<n)(hW:∀i,i<n->2*zap n ds l i<=W)(b:m<c.length):sm c.length (λa=>if a=m then cR n ds l c a else cF ds l c m a)<=W:=by
 have f:c.getD m 0<n:=lt _ (za0 b);have h1:sm c.length (λa=>cF ds l c m a)<=zap n ds l (c.getD m 0):=Dt.sm_some (n:=n) (s:=λa=>c.getD a 0) c.length (h:=flR ds l (c.getD m 0)) (λx _=>zcN hd _ x) (λa ha=>lt _ (za0 ha)) (zbn nd);have e:sm c.length (λa=>if a=m then cR n ds l c a else cF ds l c m a)<=sm c.length (λa=>(if a=m then cR n ds l c m else 0)+cF ds l c m a):=Dt.sm_mono λa ha=>by
  by_cases g:a=m
  ·rw[if_pos g,if_pos g,g]
   have:cF ds l c m m=0:=zdS hd _
   rw[this];grind
  ·rw[if_neg g,if_neg g];grind
 rw[Dt.sm_add,Dt.sm_one (i:=m) b λj _ k=>if_neg k,if_pos rfl]at e
 have:=hW _ f
 have h2:cR n ds l c m=zap n ds l (c.getD m 0):=rfl;grind
def zoF(hd:∀d∈ds,zo n d){c:List Nat}(a m:Nat):Bd (if a=m then cR n ds l c a else cF ds l c m a) (bal (cF ds l c) (cR n ds l c) a m):=by
 unfold bal;have h1:=zms (n:=n) (l:=l) hd (c.getD a 0);have h2:=zcN (n:=n) (l:=l) hd (c.getD m 0) (c.getD a 0);by_cases g:a=m
 ·rw[if_pos g,if_pos g];show Bd (zap n ds l (c.getD a 0)) (zap n ds l (c.getD a 0));constructor<;>grind
 ·rw[if_neg g,if_neg g];show Bd (flR ds l (c.getD m 0) (c.getD a 0)) (-flR ds l (c.getD m 0) (c.getD a 0));constructor<;>grind
theorem ze3{k:Nat}(hW:1<=W):∀{n:Nat},k<=n->prodN (λ_=>W) k<=prodN (λ_=>W) n
 | 0,h=>by rw[show k=0 by lia];exact yE
 | n+1,h=>by
  have a:∀j,0<=prodN (λ_=>W) j:=λj=>Dt.prodN_nn λ_ _=>by grind
  rcases yX h with g | g
  ·have h1:=ze3 hW (k:=k) (n:=n) ⋯;have h2:=yJ hW (a n);show prodN (λ_=>W) k<=prodN (λ_=>W) n*W;grind
  ·rw[g];exact yE
def zoz(hd:∀d∈ds,zo n d)(p0:∀i,i<n->0<=p i)(D:∀i,i<n->Wh (p i))(lo:∀i,i<n->0<=l i)(ha:Ans n ds p l)(hW:∀i,i<n->2*zap n ds l i<=W)(W1:1<=W)(hP:sm n p<=P)(P1:1<=P):∃Δ,ShW n ds p l (prodN (λ_=>W) n*P) Δ:=by
 have q:∀j,0<=prodN (λ_=>W) j:=λj=>Dt.prodN_nn λ_ _=>by grind
 have G:0<=prodN (λ_=>W) n*P:=yI (q n) (by grind);have up:∀{k:Nat},k<=n->prodN (λ_=>W) k*P<=prodN (λ_=>W) n*P:=λy=>yS (ze3 W1 y) (by grind);by_cases f:crL n ds l=[]
 ·obtain⟨c,e⟩:∃c,c=slL n ds l:=⟨_,rfl⟩
  have nd:c.Nodup:=by rw[e];exact zdW
  have lt:∀x∈c,x<n:=λx o=>by rw[e]at o;exact(sl_mem.mp o).1
  have o:zdi n ds p l c (zix n ds p l c):=by
   unfold Ans at ha;rw[if_pos f]at ha;rw[e];exact yar ha
  have L:=zej hd f (m:=c.length) (s:=λa=>c.getD a 0) (λa ha=>by rw[e]at ha ⊢;exact sl_mem.mp (za0 ha)) (zbn nd);have v:c.length<=n:=Rc.len_le nd lt;obtain⟨a1,a2,t⟩:=Dt.sys_size (n:=c.length) (A:=bal (cF ds l c) (cR n ds l c)) (bb:=λm a=>if a=m then cR n ds l c a else cF ds l c m a) (x:=zix n ds p l c) (b:=λa=>p (c.getD a 0)) (pb:=λa=>p (c.getD a 0)) (W:=W) (P:=P) o (λa m _ _=>by
   unfold bal;split
   ·exact zfw _
   ·exact(zni _ _).neg) (λa ha=>D _ (lt _ (za0 ha))) (λa m _ _=>zoF hd a m) (λm w=>zkA hd nd lt hW w) (λa ha=>by have:=p0 _ (lt _ (za0 ha));constructor<;>grind) (yR (Dt.sm_some (n:=n) (s:=λa=>c.getD a 0) c.length (h:=p) p0 (λa ha=>lt _ (za0 ha)) (zbn nd)) hP) W1 P1
  refine⟨Dt.det c.length (Dt.cl (bal (cF ds l c) (cR n ds l c))),a1,L.det,a2.wide (up v),λi hi=>?_,λi hi=>?_⟩
  ·have:=zkf (i:=i) (yI (q c.length) (show 0<=P by grind)) (s:=λa=>c.getD a 0) (zbn nd) t
   unfold shF;rw[if_pos f,<- e];exact this.1
  ·have:=zkf (i:=i) (yI (q c.length) (show 0<=P by grind)) (s:=λa=>c.getD a 0) (zbn nd) t
   unfold shF;rw[if_pos f,<- e];exact this.2.wide (up v)
 ·obtain⟨c,e⟩:∃c,c=crL n ds l:=⟨_,rfl⟩
  have u:Rc.Cir n (gB ds l) (shB ds l) c:=by rw[e];exact Rc.circle_ok f
  have nd:=u.nd;have lt:=u.lt;obtain⟨m,w⟩:∃m,c.length=m+1:=⟨c.length-1,by
   have:c.length≠0:=λz=>u.ne (yad z)
   lia⟩
  have o:zcG n ds l c (zkp n ds l c):=by
   unfold Ans at ha;rw[if_neg f]at ha;rw[e];exact yar ha
  have r:=zmp hd u w;rw[<- w]at r;have v:c.length<=n:=Rc.len_le nd lt;have E:∀a,a<c.length->1<=cR n ds l c a:=λa ha=>by
   have B:=u.sh _ (za0 ha);cases h:stp ds l (c.getD a 0) with
   | none=>unfold shB at B;rw[h]at B;cases B
   | some ρ=>
    have hp:=zcv (lo _ (lt _ (za0 ha))) h;show 1<=zap n ds l (c.getD a 0);rw[zee hd h];exact_mod_cast hp
  obtain⟨a1,a2,t⟩:=Dt.sys_size (n:=c.length) (A:=zcs (cF ds l c) (cR n ds l c)) (bb:=λm a=>if a=0 then(if m=0 then 1 else 0)else if a=m then cR n ds l c a else cF ds l c m a) (x:=zkp n ds l c) (b:=λa=>if a=0 then 1 else 0) (pb:=λa=>if a=0 then 1 else 0) (W:=W) (P:=P) o (λa m _ _=>by
   unfold zcs;split
   ·split
    ·exact Wh.one
    ·exact Wh.zero
   ·unfold bal;split
    ·exact zfw _
    ·exact(zni _ _).neg) (λa _=>by
   split
   ·exact Wh.one
   ·exact Wh.zero) (λa m _ _=>by
   unfold zcs;by_cases g:a=0
   ·rw[if_pos g,if_pos g];split<;>(constructor<;>grind)
   ·rw[if_neg g,if_neg g];exact zoF hd a m) (λk y=>by
   have base:=zkA (W:=W) hd nd lt hW y;refine yR (Dt.sm_mono λa ha=>?_) base;by_cases g:a=0
   ·rw[if_pos g];by_cases C:k=0
    ·rw[if_pos C,if_pos ⋯];exact E a ha
    ·rw[if_neg C,if_neg ⋯];exact zcN hd _ _
   ·rw[if_neg g];exact yE) (λa _=>by split<;>(constructor<;>grind)) (by
   rw[Dt.sm_one (i:=0) ⋯ λj _ F=>if_neg F,if_pos rfl];exact P1) W1 P1
  refine⟨Dt.det c.length (Dt.cl (zcs (cF ds l c) (cR n ds l c))),a1,r,a2.wide (up v),λi hi=>?_,λi hi=>?_⟩
  ·have:=zkf (i:=i) (yI (q c.length) (show 0<=P by grind)) (s:=λa=>c.getD a 0) (zbn nd) t
   unfold shF;rw[if_neg f,<- e];exact this.1
  ·have:=zkf (i:=i) (yI (q c.length) (show 0<=P by grind)) (s:=λa=>c.getD a 0) (zbn nd) t
   unfold shF;rw[if_neg f,<- e];exact this.2.wide (up v)
end
open PySem PySem.Spec PyProof.Rows
open Dt (sm Leak bal Wh Bd prodN)
def dv_wh{D:Nat}{x:Rat}:Dv D x↔Wh (x*((D:Int):Rat)):=Iff.rfl
def zim{D:Nat}{x:Rat}{k:Int}(h:Wh (x*((D:Int):Rat)*((k:Int):Rat))):Dv (D*k.natAbs) x:=by
 refine dv_wh.mpr ?_;have e:(((D*k.natAbs:Nat):Int):Rat)=((D:Int):Rat)*((k.natAbs:Int):Rat):=by
  rw[<- yF];congr 1
 rw[e];rcases Int.natAbs_eq k with z | z
 ·rw[<- z];rw[show x*(((D:Int):Rat)*((k:Int):Rat))=x*((D:Int):Rat)*((k:Int):Rat) by grind];exact h
 ·have a:((k.natAbs:Int):Rat)=-((k:Int):Rat):=by rw[<- yaM];congr 1;lia
  rw[a,show x*(((D:Int):Rat) * -((k:Int):Rat))=-(x*((D:Int):Rat)*((k:Int):Rat)) by grind];exact h.neg
def zpp{k:Int}{M:Rat}(h:Bd M ((k:Int):Rat)):((k.natAbs:Int):Rat)<=M:=by
 rcases Int.natAbs_eq k with z | z
 ·rw[<- z];exact h.2
 ·have a:((k.natAbs:Int):Rat)=-((k:Int):Rat):=by rw[<- yaM];congr 1;lia
  have:=h.1
  rw[a];grind
section
variable {n:Nat}{ds:List Due}{p l:Nat->Rat}{t W M Δ:Rat}{D:Nat}
def zsP(hd:∀d∈ds,zo n d)(p0:∀i,i<n->0<=p i)(lo:∀i,i<n->0<=l i)(ha:Ans n ds p l)(U:¬(crL n ds l=[]/\t=1))(S:ShW n ds p l M Δ)(N:0<=M)(hW:∀i,i<n->2*zap n ds l i<=W)(W1:1<=W)(hl:∀i,i<n->Dv D (l i))(L:Dv D t) :
  ∃F:Nat,0<F/\((F:Int):Rat)<=M*W/\(∀i,i<n->Dv (D*F) (nxL n ds p l t i))/\Dv (D*F) (nxT n ds p l t):=by
 obtain⟨X,V,y⟩:=zkn hd p0 ha;obtain⟨kΔ,eΔ⟩:=S.w;have J:kΔ≠0:=λz=>S.ne (by rw[eΔ,z];rfl);have P:M<=M*W:=by have:=yJ W1 N;grind
 have A:rtF n ds p l=rtR n ds l (shF n ds p l):=rfl;have s:∀i,Wh (zbL ds l i):=λi=>⟨_,rfl⟩
 have B:Wh ((D:Int):Rat):=⟨_,rfl⟩
 -- to the end
 have shut:stF n ds p l t=1-t->crL n ds l=[]->∃F:Nat,0<F/\((F:Int):Rat)<=M*W/\(∀i,i<n->Dv (D*F) (nxL n ds p l t i))/\Dv (D*F) (nxT n ds p l t):=λe j=>by
  refine⟨kΔ.natAbs,Int.natAbs_pos.mpr J,yR (zpp (by rw[<- eΔ];exact S.bd)) P,λi hi=>zim ?_,zim ?_⟩
  ·rw[<- eΔ];unfold nxL;rw[e,A];have h1:Wh (l i*((D:Int):Rat)):=hl i hi;have h2:Wh (t*((D:Int):Rat)):=L;have H:=S.ws i hi;rw[show(l i+(1-t)*rtR n ds l (shF n ds p l) i)*((D:Int):Rat)*Δ=l i*((D:Int):Rat)*Δ+(((D:Int):Rat)-t*((D:Int):Rat))*((shF n ds p l i*Δ)*zap n ds l i) by unfold rtR;grind];exact(h1.mul S.w).add ((B.sub h2).mul (H.mul (zfw i)))
  ·unfold nxT;rw[if_pos j,e,show t+(1-t)=1 by grind,<- eΔ];exact(Wh.one.mul B).mul S.w
 -- a rank filled
 have r:∀(q:Rat),(∃i,i<n/\0<rtR n ds l (shF n ds p l) i/\q=zav ds l (rtR n ds l (shF n ds p l)) i)->stF n ds p l t=q->∃F:Nat,0<F/\((F:Int):Rat)<=M*W/\(∀i,i<n->Dv (D*F) (nxL n ds p l t i))/\Dv (D*F) (nxT n ds p l t):=λq ⟨m,C,u,o⟩ e=>by
  obtain⟨a,T⟩:=S.ws m C;obtain⟨b,O⟩:=zfw (n:=n) (ds:=ds) (l:=l) m;have G:(((a*b:Int):Int):Rat)=shF n ds p l m*Δ*zap n ds l m:=by rw[yF,<- T,<- O]
  have R:q*rtR n ds l (shF n ds p l) m=zbL ds l m-l m:=by
   rw[o];unfold zav;exact zdF u
  have Q:(a*b:Int)≠0:=λz=>by
   have:shF n ds p l m*Δ*zap n ds l m=0:=by rw[<- G,z];rfl
   have h2:rtR n ds l (shF n ds p l) m*Δ=0:=by unfold rtR;grind
   rcases Rat.mul_eq_zero.mp h2 with g | g
   ·rw[g]at u;exact absurd u "0a"
   ·exact S.ne g
  have v:q*(((a*b:Int):Int):Rat)=(zbL ds l m-l m)*Δ:=by
   rw[G,<- R];unfold rtR;grind
  have K:Bd W (zap n ds l m):=by
   have h1:=zms (n:=n) (l:=l) hd m;have h2:=hW m C;constructor<;>grind
  have x:Wh (l m*((D:Int):Rat)):=hl m C;refine⟨(a*b).natAbs,Int.natAbs_pos.mpr Q,zpp (by rw[G];exact(S.bs m C).mul K),λi hi=>zim ?_,zim ?_⟩
  ·unfold nxL;rw[e,A];have h1:Wh (l i*((D:Int):Rat)):=hl i hi;have H:=S.ws i hi;rw[show(l i+q*rtR n ds l (shF n ds p l) i)*((D:Int):Rat)*(((a*b:Int):Int):Rat)=l i*((D:Int):Rat)*(((a*b:Int):Int):Rat)+(q*(((a*b:Int):Int):Rat))*(shF n ds p l i*zap n ds l i)*((D:Int):Rat) by unfold rtR;grind,v,
    show(zbL ds l m-l m)*Δ*(shF n ds p l i*zap n ds l i)*((D:Int):Rat)=(zbL ds l m*((D:Int):Rat)-l m*((D:Int):Rat))*((shF n ds p l i*Δ)*zap n ds l i) by grind]
   exact(h1.mul ⟨_,rfl⟩).add ((((s m).mul B).sub x).mul (H.mul (zfw i)))
  ·have h2:Wh (t*((D:Int):Rat)):=L;unfold nxT;by_cases j:crL n ds l=[]
   ·rw[if_pos j,e,show(t+q)*((D:Int):Rat)*(((a*b:Int):Int):Rat)=t*((D:Int):Rat)*(((a*b:Int):Int):Rat)+(q*(((a*b:Int):Int):Rat))*((D:Int):Rat) by grind,v,
     show(zbL ds l m-l m)*Δ*((D:Int):Rat)=(zbL ds l m*((D:Int):Rat)-l m*((D:Int):Rat))*Δ by grind]
    exact(h2.mul ⟨_,rfl⟩).add ((((s m).mul B).sub x).mul S.w)
   ·rw[if_neg j];exact h2.mul ⟨_,rfl⟩
 by_cases j:crL n ds l=[]
 ·have f:stF n ds p l t=match zas ds l (rtR n ds l (shF n ds p l)) n with | none=>1-t | some q=>if 1-t<q then 1-t else q:=by unfold stF;rw[if_pos j];rfl
  cases o:zas ds l (rtR n ds l (shF n ds p l)) n with
  | none=>rw[o]at f;exact shut f j
  | some q=>
   rw[o]at f;dsimp only at f;by_cases c:1-t<q
   ·rw[if_pos c]at f;exact shut f j
   ·rw[if_neg c]at f;exact r q (zbU o).1 f
 ·have f:stF n ds p l t=(zas ds l (rtR n ds l (shF n ds p l)) n).getD 0:=by unfold stF;rw[if_neg j];rfl
  obtain⟨i,hi,I,E⟩:=y j;have u:0<rtR n ds l (shF n ds p l) i:=by
   cases h:stp ds l i with
   | none=>exact absurd h I
   | some ρ=>exact ybs E (zgl hd (lo i hi) h)
  cases o:zas ds l (rtR n ds l (shF n ds p l)) n with
  | none=>exact absurd u (zcB o i hi)
  | some q=>
   rw[o]at f;exact r q (zbU o).1 f
end
open PySem PySem.Spec PyProof.Rows
open Dt (sm Leak bal Wh Bd prodN)
noncomputable def cst (n:Nat) (ds:List Due) (p:Nat->Rat):Nat->(Nat->Rat) × Rat
 | 0=>(λ_=>0,0)
 | k+1=>(nxL n ds p (cst n ds p k).1 (cst n ds p k).2,nxT n ds p (cst n ds p k).1 (cst n ds p k).2)
noncomputable def zcw (n:Nat) (ds:List Due) (l:Nat->Rat) (t:Rat):Prop:=crL n ds l=[]/\t=1
section
variable {n:Nat}{ds:List Due}{p l:Nat->Rat}{t W P:Rat}
def zpO(ds:List Due):zL ds (λ_=>0) m=0:=
 zaO (P:=λds=>zL ds (λ_=>0) m=0) rfl (λes d a=>by
  rw[za9,a];split<;>grind) ds
def cinv0(hd:∀d∈ds,zo n d):CInv n ds p (λ_=>0) 0:=by
 have ha:∀d∈ds,0<=d.a:=λd e=>(hd d e).2.2.2.2.2.2.2.1;have j:∀i r,r<3->0<=zA ds i r:=λi r _=>zc8 ds ha;have g:∀i r,r<=3->0<=zT (zA ds i) r:=λi r c=>zcD (j i) (yW r) c;have b:∀d∈ds,zaq ds (λ_=>0) d=0:=λd e=>by
  obtain⟨_,_,_,_,_,l,m,_,_⟩:=hd d e;have c:d.r.toNat<3:=by lia
  have hl:zac (zA ds d.p.toNat) 0 d.r.toNat=0:=by
   rw[zgG yE (j _) c,if_pos (g _ _ ⋯)]
  unfold zaq zad;rw[hl];split<;>grind
 have h:∀i,zL ds (zaq ds (λ_=>0)) i=0:=λi=>by rw[zeM ds b];exact zpO ds
 refine⟨λ_ _=>yE,λi _=>g i 3 (yg _),λi _ _=>by rw[h];grind,λi _ k=>?_⟩
 have:=zdz (f:=zA ds i) (q:=0) k 2 "0a"
 rw[h];have h2:zT (zA ds i) 3<=0:=this;grind
def zut(I:CInv n ds p l 1)(hi:i<n)(b:∀r,r<3->0<=zA ds i r):l i=if zT (zA ds i) 3<=p i+zL ds (zaq ds l) i then zT (zA ds i) 3 else p i+zL ds (zaq ds l) i:=by
 cases hs:stp ds l i with
 | none=>
  have h1:=I.fu i hi hs;have h2:zT (zA ds i) 3<=l i:=zdz hs 2 "0a";have a:=I.hi i hi;rw[if_pos (by grind)];grind
 | some ρ=>
  have h1:=I.sh i hi (by rw[hs];intro z;cases z);obtain⟨a,up,_⟩:=zbC hs;have c:=zcD b (show ρ+1<=3 by lia) (yg 3);rw[if_neg (by grind)];grind
set_option genInjectivity false in
set_option genSizeOf false in
structure COk(n:Nat)(ds:List Due)(p:Nat->Rat)(B:Rat)(k:Nat)(l:Nat->Rat)(t:Rat):Prop where
 inv:CInv n ds p l t
 t0:0<=t
 t1:t<=1
 kk:k<=zfJ n ds l+(if t=1 then 1 else 0)
 dv:∃D:Nat,0<D/\((D:Int):Rat)<=prodN (λ_=>B) k/\(∀i,i<n->Dv D (l i))/\Dv D t
def cok0(hd:∀d∈ds,zo n d)(B:Rat):COk n ds p B 0 (λ_=>0) 0:=
 ⟨cinv0 hd,yE,by decide,yW _,1,by decide,by show((1:Int):Rat)<=1;decide,λ_ _=>⟨0,by show(0:Rat)*_=((0:Int):Rat);rw[show((0:Int):Rat)=0 from rfl];grind⟩,⟨0,by show(0:Rat)*_=((0:Int):Rat);rw[show((0:Int):Rat)=0 from rfl];grind⟩⟩
def COk.le{B:Rat}(h:COk n ds p B k l t):k<=zda n ds+1:=by
 have h1:=h.kk;have h2:=zt8 (n:=n) (ds:=ds) (l:=l);split at h1<;>lia
def COk.step(hd:∀d∈ds,zo n d)(p0:∀i,i<n->0<=p i)(w:∀i,i<n->Wh (p i))(hP:sm n p<=P)(P1:1<=P)(hW:∀i,i<n->2*zap n ds l i<=W)(W1:1<=W)(h:COk n ds p (prodN (λ_=>W) n*P*W) k l t)(ha:Ans n ds p l)(a:¬zcw n ds l t):COk n ds p (prodN (λ_=>W) n*P*W) (k+1) (nxL n ds p l t) (nxT n ds p l t):=by
 have r:∀j,0<=prodN (λ_=>W) j:=λj=>Dt.prodN_nn λ_ _=>by grind
 have b:0<=prodN (λ_=>W) n*P:=yI (r n) (by grind);have v:0<=prodN (λ_=>W) n*P*W:=yI b (by grind);obtain⟨G,A,c,m,I,J,H⟩:=zrV hd p0 h.inv h.t0 h.t1 ha a;obtain⟨Δ,S⟩:=zoz hd p0 w h.inv.lo ha hW W1 hP P1;obtain⟨D,C,s,o,E⟩:=h.dv;obtain⟨F,x,y,f,u⟩:=zsP hd p0 h.inv.lo ha a S b hW W1 o E;refine⟨G,A,c,?_,D*F,Nat.mul_pos C x,?_,f,u⟩
 ·have q:=h.kk;rcases H with g | ⟨g,tl,e⟩
  ·have:(if t=1 then 1 else 0)<=(if nxT n ds p l t=1 then 1 else 0):=by
    by_cases z:t=1
    ·rw[if_pos z,if_pos (by rw[z]at m;grind)];exact yg _
    ·rw[if_neg z];exact yW _
   lia
  ·have z:¬t=1:=λz=>by rw[z]at tl;exact absurd tl "0a"
   rw[if_neg z]at q;rw[if_pos e];lia
 ·have e:(((D*F:Nat):Int):Rat)=((D:Int):Rat)*((F:Int):Rat):=by
   rw[<- yF];congr 1
  rw[e];show _<=prodN (λ_=>prodN (λ_=>W) n*P*W) k*(prodN (λ_=>W) n*P*W)
  have a1:=yS s (show(0:Rat)<=((F:Int):Rat)from zau ⋯);have a2:=yJ y (Dt.prodN_nn (B:=λ_=>prodN (λ_=>W) n*P*W) (n:=k) λ_ _=>v);exact yR a1 a2
end
end Internal
set_option maxHeartbeats 4000000
namespace Internal.BT
open PySem
theorem all:bootBuiltins "all" = some (.builtin "all"):=by decide +kernel
end Internal.BT
namespace Internal
variable {H H':Hp}{K:Fg}{Q:VK}{X:Cx}{a b p:Addr}{as:List Addr}{c:Int}{d:Due}{ds es:List Due}{e:Expr}{f:Nat->Int}{i j k m n r z ρ:Nat}{ls:List (List Nat)}{ms:List Nat}{ns:List Int}{q:Rat}{qs:List Rat}{vs:List V}{x:Str}
open PySem PySem.Spec PyProof.Rows
section
variable {X:Cx}
noncomputable def zki (K:Fg):List V->Hp->VK->Prop:=λvs H Q=>∃(a:Addr) (bs:List Bool),vs=[.ref a]/\SqL K H a (bs.map V.bl)/\Q (.bl (bs.all id)) H
theorem zk5:∀{bs:List Bool} {its:List Value},Vals (bs.map V.bl) its->its=bs.map Value.bool
 | [],_,r=>by cases r;rfl
 | b :: bs,_,r=>by
  cases r with
  | cons h t=>rw[zk5 t,show _=Value.bool b from h];rfl
def zoZ(l:X.calm=true):CallR X (.builtin "all") (zki X.K):=by
 intro pins s σ H xs us Q I r h;obtain⟨a,bs,rfl,g,q⟩:=h;obtain⟨u,rfl,p⟩:=vals1 r;cases p;obtain⟨its,n,pl,hl,f⟩:=I.walk g;have k:=zk5 n;subst k;refine call_all_walk (wpAny_pyIter_list pl ?_);refine⟨s.heap.objs.size,[s.heap.objs.size,a],[s.heap.objs.size],(bs.map Value.bool).toArray.size,_,_,λi=>(bs[i]?).getD true,rfl,Walks.list (A:=X.A.in1) (I.ok.hd l) _ a (yv f) (bs.map Value.bool).toArray,
  ⟨⟨_,Heap.get?_push_size _ rfl,rfl,rfl⟩,pl.push _⟩,λi v s' x w hP d=>?_,λh' tk j=>?_⟩
 ·have c:(bs.map Value.bool)[i]?=some v:=by simpa using hP
  rw[ye]at c;cases e:bs[i]? with
  | none=>rw[e]at c;cases c
  | some b=>
   dsimp only at d;rw[e]at c d;cases c;exact wpAny_truthy_bool d
 ·have e:((List.range (bs.map Value.bool).toArray.size).all λi=>(bs[i]?).getD true)=bs.all id:=by
   rw[yp,ya];exact LSm.range_all bs
  rw[e];have m:Inv X pins σ H { s with heap:=h',toks:=tk }:=I.kept λb o z=>j b o (λt=>by rw[yu.mp t]at z;exact yY _ (Heap.lt_size z)) (Heap.get?_push_of_some _ z);exact⟨.bl _,H,m,rfl,q⟩
end
def zt7{bs:List Bool}(h:H a=some (.lst (bs.map V.bl)))(q:Q (.bl (bs.all id)) H):zki K [.ref a] H Q:=⟨a,bs,rfl,.of h,q⟩
open PySem PySem.W PySem.Spec PySem.Calls PyProof.Rows
section
variable {prog:Program}{w:World}{A:Around}{E:Value->Shared->Prop}{s:Shared}{l I S:Addr}{kid:String}{vs:List Value}{kw:List (Str × Value)}{R:Result->Shared->Prop}{Q:Value->Shared->Prop}
noncomputable def zeC (I S:Addr) (a h:Heap):Prop:=∀b o,b≠I->b≠S->a.get? b=some o->h.get? b=some o
def zss(kf:Nat->Int)(hh:A.handled=none)(hl:s.heap.IsList l vs.toArray)(J:l≠I)(u:S≠I)(a1:l≠S)
  (turn:∀(i:Nat) (v:Value),vs[i]?=some v->∀(h:Heap) (tk:Nat),zeC I S s.heap h ->
   wpAny (model prog w) A.in1 (call (.builtin kid) [v]) (λx F=>∃d t,x=.int (kf i) t/\F={ s with heap:=h,toks:=d }) (λ_ _=>False) { s with heap:=h,toks:=tk })
  (hR:∀i v h' d,vs[i]?=some v->(∀j,j<vs.length->kf i<=kf j/\(j<i->kf i<kf j))->zeC I S s.heap h'->R (.ok (.ret v)) { s with heap:=h',toks:=d }) :
  ∀(r j i:Nat) (h:Heap) (tk:Nat) (E:Value) (tb:Tok) (c:Nat),vs.length-(j+1)=r->j+1<=vs.length->zeC I S s.heap h ->
   h.get? S=some (seqObj "list" #[E,.int (kf i) tb] c)->h.IsListIter I l (j+1)->vs[i]?=some E->i<=j->(∀f,f<=j->kf i<=kf f/\(f<i->kf i<kf f)) ->
   codeAny (model prog w) A (.builtin "min.loop" ⟨[.ref I,.builtin kid,.ref S],kw⟩) R { s with heap:=h,toks:=tk }:=by
 have m:(toString "min" ++ toString ".loop" : String) = "min.loop" := by decide
 have W:=Walks.list (prog:=prog) (w:=w) (A:=A.in1) hh I l J vs.toArray;have O:vs.toArray.size=vs.length:=yp ..;have T:∀h,zeC I S s.heap h->h.IsList l vs.toArray:=λh k=>by
  obtain⟨o,e,r⟩:=hl;exact⟨o,k l o J a1 e,r⟩
 intro r
 induction r with
 | zero=>
  intro j i h tk E tb c hr hj K L C q a0 a;have Z:j+1=vs.length:=by lia
  refine codeAny_builtin ybu ?_;rw[Around.under_plainId yas _];show wpAny _ A.in1 (seqItems? (.ref S) >>= _) _ _ _;refine wpAny_bind (wpAny_seqItems L rfl ?_);show wpAny _ A.in1 (tryCatch (pyNext (.ref I)) _ >>= _) _ _ _;refine wpAny_bind (wpAny_tryCatch (W.done _ _ _ ⟨by rw[O,<- Z];exact C,T h K⟩ λh' d g=>?_));have a3:=g S _ (by simpa using u) L;have X:=Heap.SameBut.update h' S (Obj.mapSeq λ_=>(#[]:Array Value));show wpAny _ A.in1 (updateSeq S (λ_=>#[]) >>= _) _ _ _;refine wpAny_bind ?_;refine wpAny_updateSeq a3 rfl (wpAny_bind (wpAny_letGo (wpAny_pure ?_)));exact hR i E _ _ q (λf H=>a f ⋯) λb o z B e=>(X.2 b B).trans (g b o (by simpa using z) (K b o z B e))
 | succ r ih=>
  intro j i h tk E tb c hr hj K L C q a0 a;have y:j+1<vs.length:=by lia
  refine codeAny_builtin ybu ?_;rw[Around.under_plainId yas _];show wpAny _ A.in1 (seqItems? (.ref S) >>= _) _ _ _;refine wpAny_bind (wpAny_seqItems L rfl ?_);show wpAny _ A.in1 (tryCatch (pyNext (.ref I)) _ >>= _) _ _ _;refine wpAny_bind (wpAny_tryCatch (W.item (j+1) _ _ _ (by rw[O];exact y) ⟨C,T h K⟩ λv h' d hP U g=>?_));have hv:vs[j+1]?=some v:=by simpa using hP
  obtain⟨Q,p,N,G⟩:=id U.1;have K1:zeC I S s.heap h':=λb o z B e=>g b o (by simpa using z) (K b o z B e);have D:=g S _ (by simpa using u) L;show wpAny _ A.in1 (tryCatch (holding [v] (call (.builtin kid) [v])) _ >>= _) _ _ _;refine wpAny_bind (wpAny_tryCatch (wpAny_holding (wpAny_mono (turn (j+1) v hv h' d K1) (λx F he=>?_) λ_ _ hF=>hF.elim)));obtain⟨a6,n,rfl,rfl⟩:=he;have V:h'.IsListIter I l (j+1+1):=⟨Q,p,N,G⟩
  show wpAny _ A.in1 (tryCatch (holding [v,.int (kf (j+1)) n] (richCompare .Lt (.int (kf (j+1)) n) (.int (kf i) tb) >>= _)) _ >>= _) _ _ _;refine wpAny_bind (wpAny_tryCatch (wpAny_holding (wpAny_bind (CmpOf.ints_lt (prog:=prog) (w:=w) (A:=A.in1) (P:=λi v=>∃t,v=.int (kf i) t) kf (λi v h=>h) (j+1) i _ _ _ _ _ ⟨n,rfl⟩ ⟨tb,rfl⟩ ?_))));refine wpAny_bind (wpAny_holding (wpAny_truthy_bool ?_));refine wpAny_bind (wpAny_letGo (wpAny_pure ?_));by_cases M:kf (j+1)<kf i
  ·have X:=Heap.SameBut.update h' S (Obj.mapSeq λ_=>#[v,.int (kf (j+1)) n]);obtain⟨Y,a2⟩:∃Y,(h'.update S (Obj.mapSeq λ_=>#[v,.int (kf (j+1)) n])).get? S=some (seqObj "list" #[v,.int (kf (j+1)) n] Y):=⟨_,get?_update_seq D λ_=>#[v,.int (kf (j+1)) n]⟩
   simp only[M,decide_true,if_true];refine wpAny_bind ?_;refine wpAny_updateSeq D rfl (wpAny_bind (wpAny_letGo ?_));rw[m];refine wpAny_pure ⟨plainId_quiet yas _,ih (j+1) (j+1) _ _ v n Y ⋯ y (λb o z B e=>(X.2 b B).trans (K1 b o z B e)) a2 ⟨Q,(X.2 I u.symm).trans p,N,G⟩ hv (yg _) λf H=>?_⟩;by_cases e:f=j+1
   ·subst e;exact⟨⋯,λ_=>by lia⟩
   ·have a4:=a f ⋯;have a5:=a4.1;exact⟨⋯,λ_=>by lia⟩
  ·simp only[M,decide_false,ybJ,if_false];refine wpAny_bind (wpAny_letGo ?_);rw[m];refine wpAny_pure ⟨plainId_quiet yas _,ih (j+1) i _ _ E tb c ⋯ y K1 D V q ⋯ λf H=>?_⟩;by_cases e:f=j+1
   ·subst e;exact⟨⋯,λ_=>by lia⟩
   ·exact a f ⋯
def zl5(a v d:Value):argsOk "min" ⟨[a],[(Str.ofString "key",v),(Str.ofString "default",d)]⟩:=by unfold argsOk;kernel_rfl
def zsM(kf:Nat->Int){d:Value}(Y:A.handled=none)(hl:s.heap.IsList l vs.toArray)
  (turn:∀(i:Nat) (v:Value),vs[i]?=some v->∀(h:Heap) (tk:Nat),(∀b o,s.heap.get? b=some o->h.get? b=some o) ->
   wpAny (model prog w) A.in1 (call (.builtin kid) [v]) (λx n=>∃a t,x=.int (kf i) t/\n={ s with heap:=h,toks:=a }) (λ_ _=>False) { s with heap:=h,toks:=tk })
  (hQ:∀i v h' a,vs[i]?=some v->(∀j,j<vs.length->kf i<=kf j/\(j<i->kf i<kf j))->(∀b o,s.heap.get? b=some o->h'.get? b=some o)->Q v { s with heap:=h',toks:=a })
  (hD:vs=[]->∀h' a,(∀b o,s.heap.get? b=some o->h'.get? b=some o)->Q d { s with heap:=h',toks:=a }) :
  wpAny (model prog w) A (call (.builtin "min") [.ref l] [(Str.ofString "key",.builtin kid),(Str.ofString "default",d)]) Q E s:=by
 have c:(toString "min" ++ toString ".loop" : String) = "min.loop" := by decide
 obtain⟨ol,O,_⟩:=id hl;have B:l<s.heap.objs.size:=Heap.lt_size O;refine kmb_tree PySem.F.kind_min PySem.F.plain_min PySem.F.entry_min (zl5 _ _ _) ?_;show wpAny _ A.in1 (Builtin.Builtins.bindParams "min" ["key", "default"] 0 ⟨[],[(Str.ofString "key",.builtin kid),(Str.ofString "default",d)]⟩ >>= _) _ _ s;refine wpAny_bind (wpAny_of_eq (show Builtin.Builtins.bindParams "min" ["key", "default"] 0 ⟨[],[(Str.ofString "key",.builtin kid),(Str.ofString "default",d)]⟩=pure [some (.builtin kid),some d]from rfl) ?_);refine wpAny_bind (wpAny_pure ?_);refine wpAny_bind (wpAny_pyIter_list hl ?_);refine wpAny_bind (wpAny_newList ?_ (yW _));rw[c];have S:"0e".objs.size=s.heap.objs.size+1:=size_push' ..;have p:l≠s.heap.objs.size:=yv B;have m:"0e".objs.size≠s.heap.objs.size:=by rw[S];exact Nat.ne_of_gt (yaU _)
 have I:l≠"0e".objs.size:=by rw[S];exact yv (ybp B)
 refine wpAny_pure ⟨plainId_quiet yas _,?_⟩;have T:("0e".push (seqObj "list" #[] 0)).get? s.heap.objs.size=some { cls:=.type "list_iterator",data:=.fields #[.ref l,.int 0 0] }:=
  Heap.get?_push_of_some _ (Heap.get?_push_size _ rfl)
 have X:("0e".push (seqObj "list" #[] 0)).get? "0e".objs.size=some (seqObj "list" #[] 0):=Heap.get?_push_size _ rfl;have P:∀b o,s.heap.get? b=some o->("0e".push (seqObj "list" #[] 0)).get? b=some o:=λb o e=>Heap.get?_push_of_some _ (Heap.get?_push_of_some _ e);have y:("0e".push (seqObj "list" #[] 0)).IsList l vs.toArray:=by
  obtain⟨o,e,r⟩:=hl;exact⟨o,P l o e,r⟩
 have old:∀b o,s.heap.get? b=some o->b≠s.heap.objs.size/\b≠"0e".objs.size:=λb o e=>by
  have h1:=Heap.lt_size e;exact⟨yv h1,by rw[S];exact yv (ybp h1)⟩
 have W:=Walks.list (prog:=prog) (w:=w) (A:=A.in1) Y s.heap.objs.size l p vs.toArray;have M:vs.toArray.size=vs.length:=yp ..;generalize hSa:"0e".objs.size=Sa at *
 generalize hH2:"0e".push (seqObj "list" #[] 0)=H2 at *
 refine codeAny_builtin ybu ?_;rw[Around.under_plainId yas _];show wpAny _ A.in1 (seqItems? (.ref Sa) >>= _) _ _ _;refine wpAny_bind (wpAny_seqItems X rfl ?_);show wpAny _ A.in1 (tryCatch (pyNext (.ref s.heap.objs.size)) _ >>= _) _ _ _;by_cases q:vs=[]
 ·subst q;refine wpAny_bind (wpAny_tryCatch (W.done _ _ _ ⟨⟨_,T,rfl,rfl⟩,y⟩ λh' a f=>?_));refine wpAny_bind (wpAny_rule (wpAny_pure ?_));exact hD rfl h' a λb o e=>f b o (by simpa using(old b o e).1) (P b o e)
 have g:0<vs.length:=ybE.mpr q;refine wpAny_bind (wpAny_tryCatch (W.item 0 _ _ _ (by rw[M];exact g) ⟨⟨_,T,rfl,rfl⟩,y⟩ λv h' a hP z f=>?_));have U:vs[0]?=some v:=by simpa using hP
 obtain⟨N,D,J,G⟩:=id z.1;have V:∀b o,s.heap.get? b=some o->h'.get? b=some o:=λb o e=>f b o (by simpa using(old b o e).1) (P b o e);have C:=f Sa _ (by simpa using m) X;show wpAny _ A.in1 (tryCatch (holding [v] (call (.builtin kid) [v])) _ >>= _) _ _ _;refine wpAny_bind (wpAny_tryCatch (wpAny_holding (wpAny_mono (turn 0 v U h' a V) (λx n he=>?_) λ_ _ hF=>hF.elim)));obtain⟨a1,k,rfl,rfl⟩:=he;have Z:=Heap.SameBut.update h' Sa (Obj.mapSeq λ_=>#[v,.int (kf 0) k]);obtain⟨H,L⟩:∃H,(h'.update Sa (Obj.mapSeq λ_=>#[v,.int (kf 0) k])).get? Sa=some (seqObj "list" #[v,.int (kf 0) k] H):=⟨_,get?_update_seq C λ_=>#[v,.int (kf 0) k]⟩
 show wpAny _ A.in1 (updateSeq Sa (λ_=>#[v,.int (kf 0) k]) >>= _) _ _ _;refine wpAny_bind ?_;refine wpAny_updateSeq C rfl ?_;rw[c];have K2:zeC s.heap.objs.size Sa s.heap (h'.update Sa (Obj.mapSeq λ_=>#[v,.int (kf 0) k])):=λb o n1 n2 e=>(Z.2 b n2).trans (V b o e);refine wpAny_pure ⟨plainId_quiet yas _,zss (s:=s) kf Y hl p m I (λi v hi h tk K=>turn i v hi h tk λb o e=>K b o (old b o e).1 (old b o e).2 e) (λi v R u hi hb K=>hQ i v R u hi hb λb o e=>K b o (old b o e).1 (old b o e).2 e) _ 0 0 _ _ v k H rfl g K2 L ⟨N,(Z.2 _ m.symm).trans D,J,G⟩ U (yg _) λj' a0=>?_⟩;have e:j'=0:=by lia
 subst e;exact⟨⋯,λh=>absurd h (yY _)⟩
end
open PySem PySem.Spec PyProof.Rows
section
variable {K:Fg}{σ:St}{H:Hp}{Q:VK}{D:Ends}{a C dx:Addr}{fs:List (Str × V)}{f m:Str}
end
noncomputable def ztT (C:Addr) (m:Str) (sp:Sp) (t:TA) (σ:St) (Q:VK) (Eh:Addr->Hp->Prop) (x:V) (H:Hp):Prop:=∃a dx fs,x=.ref a/\H a=some (.ins C dx fs)/\fs.lookup m=none/\t σ H λvs H2=>sp (x :: vs) H2 Q λcls _ b=>∃C',cls=.ref C'/\Eh C' b
abbrev zvy(C:Addr)(m:Str)(sp:Sp)(ta:TE)(t:TA):TEr:=λσ H Q Eh=>ta σ H (ztT C m sp t σ Q Eh)
def zu7{y:Str}(q:Q (.bl (decide (x=y))) H):zd4 K (.str x) (.str y) H Q:=.inr ⟨rfl,by rw[show decide (V.str x=V.str y)=decide (x=y) by simp];exact q⟩
def zuI{y:Str}(q:Q (.bl (!decide (x=y))) H):zdX K (.str x) (.str y) H Q:=.inr ⟨rfl,by rw[show decide (V.str x=V.str y)=decide (x=y) by simp];exact q⟩
def zur(q:Q (.bl true) H):zc3 K [.str x,.ty "str"] H Q:=zhQ ⟨.str x,.ty "str",.type "str",true,.type "str",rfl,rfl,.str x,by rfl,q⟩
open PySem PySem.W PySem.Spec PySem.Calls PyProof.Rows
noncomputable def zmB (K:Fg) (Q:VK) (vs:List V) (H1:Hp):Prop:=∃(a:Addr) (ls:List Addr) (n:Nat->Nat),vs=[.ref a]/\SqL K H1 a (ls.map V.ref)/\(∀i b,ls[i]?=some b->∃xs,H1 b=some (.lst xs)/\xs.length=n i/\n i<=16000) /\
 ∀p H2,H1 p=none->Same H1 H2->H2 p=some (.lst [])->(ls=[]->Q (.ref p) H2)/\∀i b,ls[i]?=some b->(∀j,j<ls.length->n i<=n j/\(j<i->n i<n j))->Q (.ref b) H2
noncomputable def zmo (K:Fg) (ta:TA):TE:=λσ H Q=>ta σ H (zmB K Q)
def zoR{p pos kp T dp O:Pos}{ta:TA}(hc:X.calm=true)(hg:Gl X "min")(hm:X.mg "min" = none)(hv:bootBuiltins "min" = some (.builtin "min"))(B:Gl X "len")(G:X.mg "len" = none)(M:bootBuiltins "len" = some (.builtin "len"))(ha:PA X [e] ta)
  (he:autoParam (backTo pos (starEach [e] X.env)=(false,eval e X.env) :: backTo pos (starEach [] X.env)) Internal.aut2._auto_1)
  (hplain:autoParam ((backTo pos (starEach [e] X.env)).any (·.1)=false) Internal.aut2._auto_1):PE X (.Call (.Name "min" p) [e] [⟨some "key",.Name "len" T,kp⟩,⟨some "default",Expr.List [] dp,O⟩] pos) (zmo X.K ta):=by
 intro pins s σ H Q I h;refine wpAny_Call_Name_kw (zcL I hg hm hv ?_ "0a" "0a");refine PyProof.Rows.callWith_kw ?_ he hplain;refine thn (ha pos pins s σ H _ I h) λus R N=>?_;obtain⟨vs,H1,S,rv,a,ls,n,rfl,Y,hn,kk⟩:=N;obtain⟨u1,rfl,r1⟩:=vals1 rv;cases r1;show wpAny "0f" X.A (evalAll ((do let v <- eval (.Name "len" T) X.env;standAt pos;pure v) :: (backToKw pos (keywordEach [⟨some "default",Expr.List [] dp,O⟩] X.env)).map (·.2))) _ _ R;refine wpAny_evalAll_cons (wpAny_bind (zcL S B G M (wpAny_bind (wpAny_standAt (wpAny_pure ?_))) "0a" "0a"));refine thn (zrU (t:=zlK) (nm:=some "default") (kpos:=O) (zaa (ze (X:=X))) zua pos pins R σ H1 (λws H2=>∃p,ws=[.ref p]/\H1 p=none/\Same H1 H2/\H2 p=some (.lst [])) S ?_) λZ x N=>?_
 ·exact⟨yW _,λp hp=>⟨p,rfl,hp,Same.new hp _,zam⟩⟩
 obtain⟨ws,H2,l,D,p2,rfl,fp,F,hp⟩:=N;obtain⟨u2,rfl,r3⟩:=vals1 D;cases r3;show wpAny "0f" X.A (call (.builtin "min") [.ref a] [(Str.ofString "key",.builtin "len"),(Str.ofString "default",.ref p2)]) (EP X pins σ Q) X.xe x;obtain⟨its,L,pl,C,a2⟩:=l.walk (Y.keep F);have g:its.length=ls.length:=by rw[C,ya]
 have get:∀{i:Nat} {v:Value},its[i]?=some v->∃b,ls[i]?=some b/\v=.ref b:=λ{i v} hi=>by
  have a1:=(yh.mp hi).1;obtain⟨b,d⟩:=zC (show i<ls.length by lia);obtain⟨u,U,ru⟩:=L.get (show(ls.map V.ref)[i]?=some (.ref b) by rw[ye,d];rfl);rw[hi]at U;cases U;exact⟨b,d,ru⟩
 obtain⟨kd,kl⟩:=kk p2 H2 fp F hp;refine zsM (kf:=λi=>(n i:Int)) (l.ok.hd hc) pl (λi v hi h tk K=>?_) (λi v h' c hi d K=>?_) λm h' c K=>?_
 ·obtain⟨b,d,rfl⟩:=get hi;obtain⟨xs,hx,a3,P⟩:=hn i b d;obtain⟨f,rb,pb,a0,_⟩:=l.walk (SqL.of (F.at hx));have E:h.IsList b f.toArray:=by
   obtain⟨o,q,r⟩:=pb;exact⟨o,K b o q,r⟩
  refine PySem.W.kun_lenL (s:={ x with heap:=h,toks:=tk }) E (k:=(n i:Int)) (by rw[yp];lia) ⋯ ⟨_,_,rfl,rfl⟩
 ·obtain⟨b,y,rfl⟩:=get hi;have J:Inv X pins σ H2 { x with heap:=h',toks:=c }:=l.kept λb o z=>K b o z;refine⟨.ref b,H2,J,rfl,kl i b y λj hj=>?_⟩;have h3:=d j ⋯;exact⟨⋯,λz=>by have:=h3.2 z;lia⟩
 ·have J:Inv X pins σ H2 { x with heap:=h',toks:=c }:=l.kept λb o z=>K b o z;exact⟨.ref p2,H2,J,rfl,kd (by
   have:ls.length=0:=by rw[<- g,m];rfl
   exact yad this)⟩
open PySem PySem.Spec PyProof.Rows
noncomputable def bfl (m w y:Int) (d:Addr):List (Str × V):=zlB "deals" (.ref d) (zlB "day" (.int y) (zlB "wares" (.int w) (zlB "many" (.int m) [])))
section
variable {m w y:Int}{d:Addr}
end
set_option genInjectivity false in
set_option genSizeOf false in
structure T7 where
 p:Int
 q:Int
 w:Int
 u:Int
 a:Int
 y:Int
 r:Int
noncomputable def zuU (t:T7):List V:=[.int t.p,.int t.q,.int t.w,.int t.u,.int t.a,.int t.y,.int t.r]
noncomputable def zuM (x:T7 × Str):List V:=zuU x.1++[.str x.2]
set_option genInjectivity false in
set_option genSizeOf false in
structure TermOk(m w y:Int)(t:T7):Prop where
 p0:0<=t.p
 p1:t.p<m
 q0:0<=t.q
 q1:t.q<m
 pq:t.p≠t.q
 w0:0<=t.w
 w1:t.w<w
 u0:1<=t.u
 u1:t.u<=1000000
 a0:1<=t.a
 a1:t.a<=1000000000
 y0:0<=t.y
 y1:t.y<=1000000
 r0:0<=t.r
 r1:t.r<=2
 yd:y<=t.y
set_option genInjectivity false in
set_option genSizeOf false in
structure Bk(C:Addr)(H:Hp)(b d:Addr)(m w y:Int)(ts:List (T7 × Str)):Prop where
 ob:∃dx,H b=some (.ins C dx (bfl m w y d))
 ds:∃xs,H d=some (.lst xs)/\IsTs zuM H xs ts
section
variable {C:Addr}{H H':Hp}{b d:Addr}{m w y:Int}{ts:List (T7 × Str)}
end
noncomputable def stand (t:T7):T7 × Str:=(t,("standing" : Str))
abbrev TAr:=St->Hp->(List V->Hp->Prop)->(Addr->Hp->Prop)->Prop
section
variable {X:Cx}{pos:Pos}
abbrev zvz(te:TEr):TAr:=λσ H Q Eh=>te σ H (λy H2=>Q [y] H2) Eh
abbrev zvw(tc:TE)(t:TAr):TAr:=λσ H Q Eh=>tc σ H λx H1=>t σ H1 (λxs H2=>Q (x :: xs) H2) Eh
abbrev zvA(t:TAr):TEr:=λσ H Q Eh=>t σ H (λxs H1=>zfM Q xs H1) Eh
abbrev zvC(i:Nat)(te:TEr):TTr:=λD Eh σ H=>te σ H (λy H2=>D.nx (σ.set i (some y)) H2) λC H2=>Eh C σ H2
end
section
variable {σ:St}{H:Hp}{D:Ends}{Eh:Addr->Hp->Prop}{Eg:Addr->St->Hp->Prop}
end
def zm9{x:Int}(h:Dt.Bd ((2 ^ z:Nat):Rat) ((x:Int):Rat)):sz x<=z+1:=by
 have h1:((x:Int):Rat)<=(((2 ^ z:Nat):Int):Rat):=h.2;have h2:-((((2 ^ z:Nat):Int):Rat))<=((x:Int):Rat):=h.1;rw[<- yaM]at h2;have b:x<=((2 ^ z:Nat):Int):=by exact_mod_cast h1
 have a:-((2 ^ z:Nat):Int)<=x:=by exact_mod_cast h2
 refine zaH ?_;rw[ybz]
 have:0<2 ^ z:=ybg z
 lia
def zm5{x:Int}(h:sz x<=z):Dt.Bd ((2 ^ z:Nat):Rat) ((x:Int):Rat):=by
 have h1:=sz_le.mp h;have a1:((x:Int):Rat)<=(((2 ^ z:Nat):Int):Rat):=by
  have:x<=((2 ^ z:Nat):Int):=by lia
  exact_mod_cast this
 have a2:-((((2 ^ z:Nat):Int):Rat))<=((x:Int):Rat):=by
  rw[<- yaM]
  have:-((2 ^ z:Nat):Int)<=x:=by lia
  exact_mod_cast this
 exact⟨a2,a1⟩
def zp6{b:Int}(j:0<c)(f:0<b):0<c/My.gc c b*b/\c∣c/My.gc c b*b/\b∣c/My.gc c b*b/\c/My.gc c b*b<=c*b:=by
 have i:0<My.gc c b:=My.gc_pos_right ⋯;obtain⟨u,d⟩:=My.gc_dvd_left c b;obtain⟨v,g⟩:=My.gc_dvd_right c b;have e:c/My.gc c b=u:=by
  have:c/My.gc c b=(My.gc c b*u)/My.gc c b:=by rw[<- d]
  rw[this];exact yaa _ ⋯
 have a:0<u:=by
  rcases ybl 0 u with h | h
  ·exact h
  ·have:=yal (yaT i) h;lia
 rw[e];refine⟨yaR a f,⟨v,?_⟩,⟨u,yan _ _⟩,?_⟩
 ·calc u*b=u*(My.gc c b*v):=by rw[<- g]
   _=(My.gc c b*u)*v:=by rw[yan (My.gc c b) u,ybd]
   _=c*v:=by rw[<- d]
 ·have:u<=c:=by
   have h1:1*u<=My.gc c b*u:=yT ⋯ ⋯;lia
  exact yT this ⋯
noncomputable def zh3 (K:Fg) (c b:Nat):Sp:=λvs H Q _=>∃(a:Addr) (ws:List V) (qs:List Rat),vs=[.ref a]/\H a=some (.lst ws)/\IsQs H ws qs/\qs.length<=20/\(∀q∈qs,SzQ q c b)/\20*b<=8000/\c<=100000/\1<=b /\
 ∀p H' (F:Nat->Int) (L:Int),H p=none->Same H H'->0<L->(∀j q,qs[j]?=some q->((F j:Int):Rat)=((L:Int):Rat)*q/\sz (F j)<=c+qs.length*b)->H' p=some (.lst ((vec qs.length F).map V.int))->Q (.ref p) H'
def zlA:=λ{K:Fg} {z1 zb:Nat} {a:Addr} {ws:List V} {qs:List Rat} {H:Hp} {Q:VK} {E:XK} h hq hl hz h1 h2 h3 k=>@id (zh3 K z1 zb [.ref a] H Q E) ⟨a,ws,qs,rfl,h,hq,hl,hz,h1,h2,h3,k⟩
def zkL(h:∀i j,i<j->j<as.length->as[i]?≠as[j]?):as.Nodup:=by
 rw[List.Nodup,yaQ];intro i j hi b a e;exact h i j a b (by rw[yk hi,yk b,e])
noncomputable def ze0 (as:List Addr) (p q:Nat) (a b:Addr):List Addr:=(as.set p b).set q a
def znK{p q:Nat}{F:Nat->Nat->Int}(h:Rows H as k F)(ha:as[p]?=some a)(m:as[q]?=some b):Rows H (ze0 as p q a b) k (Dt.swp F p q):=by
 have hp:p<as.length:=(yh.mp ha).1;have n:q<as.length:=(yh.mp m).1;have get:∀i,(ze0 as p q a b)[i]?=if i=q then some a else if i=p then some b else as[i]?:=λi=>by
  unfold ze0;rw[yaI];by_cases e:q=i
  ·rw[if_pos e,if_pos e.symm,if_pos (by rw[yaw];exact n)]
  ·rw[if_neg e,if_neg (λz=>e z.symm),yaI];by_cases d:p=i
   ·rw[if_pos d,if_pos d.symm,if_pos hp]
   ·rw[if_neg d,if_neg (λz=>d z.symm)]
 refine⟨?_,λi c f=>?_⟩
 ·refine zkL ?_;intro i j s r;have o:(ze0 as p q a b).length=as.length:=by unfold ze0;rw[yaw,yaw]
  rw[o]at r;rw[get,get];have ne:∀x y,x≠y->x<as.length->y<as.length->as[x]?≠as[y]?:=λx y t A u w=>by
   obtain⟨c,f⟩:∃c,as[x]?=some c:=⟨_,yk A⟩
   exact t (zbF h.1 f (w▸f))
  have nd:∀x y,x<y->y<as.length->as[x]?≠as[y]?:=λx y h u=>ne x y ⋯ ⋯ u;by_cases l:i=q
  ·rw[if_pos l,if_neg ⋯];by_cases d:j=p
   ·rw[if_pos d,<- ha,<- m];by_cases g:p=q
    ·lia
    ·exact ne p q g hp n
   ·rw[if_neg d,<- ha];exact ne p j (λz=>d z.symm) hp r
  ·rw[if_neg l];by_cases d:i=p
   ·rw[if_pos d];by_cases g:j=q
    ·rw[if_pos g,<- ha,<- m];exact ne q p ⋯ n hp
    ·rw[if_neg g,if_neg ⋯,<- m];exact ne q j (λz=>g z.symm) n r
   ·rw[if_neg d];by_cases g:j=q
    ·rw[if_pos g,<- ha];exact ne i p d ⋯ hp
    ·rw[if_neg g];by_cases v:j=p
     ·rw[if_pos v,<- m];exact ne i q l ⋯ n
     ·rw[if_neg v];exact nd i j s r
 ·rw[get]at f;unfold Dt.swp;by_cases l:i=q
  ·rw[if_pos l]at f;cases f;by_cases d:i=p
   ·rw[if_pos d]
    have:p=q:=by lia
    subst this;exact h.2 _ _ ha
   ·rw[if_neg d,if_pos l];exact h.2 _ _ ha
  ·rw[if_neg l]at f;by_cases d:i=p
   ·rw[if_pos d]at f ⊢;cases f;exact h.2 _ _ m
   ·rw[if_neg d]at f ⊢;rw[if_neg l];exact h.2 _ _ f
noncomputable def zeP (K:Fg):Sp:=λvs H Q _=>∃(a b:Addr) (w:Nat) (f g:Nat->Int) (k d:Int),vs=[.ref a,.ref b,.int k,.int d]/\H a=some (.lst ((vec w f).map V.int))/\H b=some (.lst ((vec w g).map V.int))/\0<=k/\k<w/\w<=20/\d≠0/\sz d<=9000/\(∀j,j<w->sz (f j)<=9000/\sz (g j)<=9000) /\
 ∀p H',H p=none->Same H H'->H' p=some (.lst ((vec w λj=>(g k.toNat*f j-f k.toNat*g j).fdiv d).map V.int))->Q (.ref p) H'
def zk4:=λ{K:Fg} {a b:Addr} {w:Nat} {f g:Nat->Int} {k d:Int} {H:Hp} {Q:VK} {E:XK} h1 h2 k0 k1 hw d0 hd hz q=>@id (zeP K [.ref a,.ref b,.int k,.int d] H Q E) ⟨a,b,w,f,g,k,d,rfl,h1,h2,k0,k1,hw,d0,hd,hz,q⟩
noncomputable def zmD (K:Fg):Sp:=λvs H Q _=>∃(a:Addr) (as:List Addr) (w:Nat) (T:Nat->Nat->Int) (k d:Int),vs=[.ref a,.int k,.int d]/\H a=some (.lst (as.map V.ref))/\Rows H as w T/\0<=k/\k<as.length/\k<w/\w<=20/\as.length<=20/\d≠0/\sz d<=9000/\(∀i j,i<as.length->j<w->sz (T i j)<=9000) /\
 ∀p H' as',H p=none->Same H H'->H' p=some (.lst (as'.map V.ref))->as'.length=as.length->Rows H' as' w (Dt.nxtI T k.toNat d)->Q (.ref p) H'
def zn3:=λ{K:Fg} {a:Addr} {as:List Addr} {w:Nat} {T:Nat->Nat->Int} {k d:Int} {H:Hp} {Q:VK} {E:XK} h1 h2 k0 k1 k2 hw hl d0 hd hz q=>@id (zmD K [.ref a,.int k,.int d] H Q E) ⟨a,as,w,T,k,d,rfl,h1,h2,k0,k1,k2,hw,hl,d0,hd,hz,q⟩
set_option genInjectivity false in
set_option genSizeOf false in
structure Sys(H:Hp)(a b:Addr)(n:Nat)(R:Nat->Nat->Rat):Prop where
 rows:∃as:List Addr,H a=some (.lst (as.map V.ref))/\as.length=n/\∀(l:Nat) (c:Addr),as[l]?=some c->∃ws,H c=some (.lst ws)/\IsQs H ws ("0i".map (R l))
 side:∃ws,H b=some (.lst ws)/\IsQs H ws ("0i".map λl=>R l n)
section
variable {X:Cx}{pins:List (Addr × Obj)}{s s':Shared}{σ:St}{H H':Hp}{pos:Pos}
end
def zmb(q:Rat):((q.num:Int):Rat)=q*(((q.den:Nat):Int):Rat):=by
 have c:((q.num:Int):Rat)/(((q.den:Nat):Int):Rat)=q:=by rw[<- ya7];exact ybk q
 have b:(((q.den:Nat):Int):Rat)≠0:=λz=>by
  have h1:((q.den:Nat):Int)=0:=by exact_mod_cast z
  have:=zay q
  lia
 have:=ybM (a:=((q.num:Int):Rat)) b
 rw[c]at this;exact this.symm
def PRows.put{F:Nat->List Rat}{G:List Rat}(h:PRows H as F)(n:p∉as)(hp:H p=some (.lst vs))(q:IsQs H vs G):PRows H (as.set j p) (λm=>if m=j then G else F m):=by
 refine⟨zkL λx y o i=>?_,λm a b=>?_⟩
 ·rw[yaw]at i;have g:∀z,z<as.length->(as.set j p)[z]?=if j=z then some p else as[z]?:=λz r=>by
   rw[yaI];split
   ·rename_i e;rw[if_pos ⋯]
   ·rfl
  rw[g x ⋯,g y i];have d:x<as.length:=by lia
  by_cases l:j=x
  ·rw[if_pos l,if_neg ⋯];intro z;exact n (yb z.symm)
  ·rw[if_neg l];by_cases f:j=y
   ·rw[if_pos f];intro z;exact n (yb z)
   ·rw[if_neg f];intro z;obtain⟨c,k⟩:∃c,as[x]?=some c:=⟨_,yk d⟩
    have:=zbF h.1 k (z▸k)
    lia
 ·rw[yaI]at b;by_cases e:j=m
  ·rw[if_pos e]at b;split at b
   ·cases b;exact⟨vs,hp,by dsimp only;rw[if_pos e.symm];exact q⟩
   ·cases b
  ·rw[if_neg e]at b;dsimp only;rw[if_neg (λz=>e z.symm)];exact h.2 m a b
theorem IsQs.setQ{H:Hp}{p:Addr}{q:Rat}(hp:IsQ H p q):∀{vs:List V} {qs:List Rat} (j:Nat),IsQs H vs qs->IsQs H (vs.set j (.ref p)) (qs.set j q)
 | [],[],j,h=>by cases j<;>exact h
 | _ :: _,[],_,h=>by simp[IsQs]at h
 | [],_ :: _,_,h=>by simp[IsQs]at h
 | v :: vs,r :: rs,0,h=>⟨⟨p,rfl,hp⟩,h.2⟩
 | v :: vs,r :: rs,j+1,h=>⟨h.1,IsQs.setQ hp (vs:=vs) (qs:=rs) j h.2⟩
def zir{g:Nat->Rat}:("0i".map g).set j q="0i".map λm=>if m=j then q else g m:=by
 apply yab;intro i;rw[yaI,ye,ye,ya,yx];by_cases h:i<n
 ·rw[yU h];by_cases e:j=i
  ·subst e;rw[if_pos rfl,if_pos h];show _=some (if j=j then q else g j);rw[if_pos rfl]
  ·rw[if_neg e];show some (g i)=some (if i=j then q else g i);rw[if_neg (λz=>e z.symm)]
 ·rw[yG (by rw[yx];lia)];by_cases e:j=i
  ·rw[if_pos e,if_neg ⋯];rfl
  ·rw[if_neg e];rfl
def zr0{r:Int}{o:Option Nat}(h:0<=r)(q:Q (.bl (decide (o=some r.toNat))) H):zd4 K (.int r) (zb6 o) H Q:=by
 cases o with
 | none=>
  refine .inr ⟨rfl,?_⟩;have e:decide ((none:Option Nat)=some r.toNat)=false:=by simp
  rw[e]at q;have a:decide (V.int r=zb6 none)=false:=by simp[zb6]
  rw[a];exact q
 | some m=>
  refine zrp ?_;have e:decide (r=((m:Nat):Int))=decide (some m=some r.toNat):=by
   rw[decide_eq_decide];constructor
   ·intro h;congr 1;lia
   ·intro h;have:=yn h;lia
  rw[e];exact q
noncomputable def ziQ (K:Fg):Sp:=λvs H Q _=>∃(a b:Addr) (ds:List Due) (n:Nat) (ρ:Nat->Option Nat),vs=[.ref a,.ref b]/\IsSh K H a ds/\H b=some (.lst (zak n ρ))/\n<=9/\(∀d∈ds,zo n d) /\
 ∀l H' as,H l=none->Same H H'->H' l=some (.lst (List.map V.ref as))->as.length=n->Rows H' as n (zaA ρ ds)->(∀b∈as,H b=none)->Q (.ref l) H'
def zpo:=λ{K:Fg} {a b:Addr} {ds:List Due} {n:Nat} {ρ:Nat->Option Nat} {H:Hp} {Q:VK} {E:XK} h hb n1 hd q=>@id (ziQ K [.ref a,.ref b] H Q E) ⟨a,b,ds,n,ρ,rfl,h,hb,n1,hd,q⟩
abbrev znd(l:List Nat):List Int:=l.map fun(x:Nat)=>(x:Int)
abbrev zaN(l:List Nat):List V:=(znd l).map V.int
def intsN_mem{l:List Nat}{x:Nat}:((x:Int)∈znd l)↔x∈l:=by
 rw[y8];constructor
 ·rintro⟨y,h,e⟩;rw[<- Int.ofNat.inj e];exact h
 ·exact λh=>⟨x,h,rfl⟩
def zar{l:List Nat}:(zaN l).length=l.length:=by simp
def zgc{l l':List Nat}:zaN (l++l')=zaN l++zaN l':=by simp
def zb9{l:List Nat}(h:k<l.length):(zaN l)[k]?=some (.int ((l.getD k 0:Nat):Int)):=by
 rw[ye,ye,yk h,yf,yk h];rfl
def zdU{P:Nat->Bool}:(List.range (j+1)).filter P=(List.range j).filter P++if P j=true then[j] else[]:=by
 rw[yA,yaD];by_cases h:P j=true
 ·rw[if_pos h,ybn h];rfl
 ·rw[if_neg h,ybo h];rfl
def zsf{α:Type}{P:α->Bool}{x:α}:[x].filter P=if P x=true then[x] else[]:=by
 by_cases h:P x=true
 ·rw[if_pos h,ybn h];rfl
 ·rw[if_neg h,ybo h];rfl
theorem zgn:∀(ls:List (List Nat)) (l0 l:List Nat) (i:Nat),(l0 :: ls)[i]?=some l->(∀(j:Nat) (m:List Nat),(l0 :: ls)[j]?=some m->l.length<=m.length/\(j<i->l.length<m.length))->ls.foldl (λb c=>if c.length<b.length then c else b) l0=l
 | [],l0,l,0,h,_=>yn h
 | [],l0,l,i+1,h,_=>by cases h
 | d :: ls,l0,l,0,h,c=>by
  have e:l0=l:=yn h;subst e;have h1:=(c 1 d rfl).1;show ls.foldl _ (if d.length<l0.length then d else l0)=l0;rw[if_neg ⋯];refine zgn ls l0 l0 0 rfl λj m a=>?_;cases j with
  | zero=>cases a;exact⟨yg _,λz=>absurd z (yY _)⟩
  | succ j=>exact⟨(c (j+2) m a).1,λz=>absurd z (yaL _)⟩
 | d :: ls,l0,l,1,h,c=>by
  have e:d=l:=yn h;subst e;have h1:=(c 0 l0 rfl).2 ⋯;show ls.foldl _ (if d.length<l0.length then d else l0)=d;rw[if_pos h1];refine zgn ls d d 0 rfl λj m a=>?_;cases j with
  | zero=>cases a;exact⟨yg _,λz=>absurd z (yY _)⟩
  | succ j=>exact⟨(c (j+2) m a).1,λz=>absurd z (yaL _)⟩
 | d :: ls,l0,l,i+2,h,c=>by
  have f:=(c 0 l0 rfl).2 ⋯;have h1:=(c 1 d rfl).2 ⋯;show ls.foldl _ (if d.length<l0.length then d else l0)=l;refine zgn ls _ l (i+1) h λj m a=>?_;cases j with
  | zero=>
   have e:=yn a;have h2:l.length<m.length:=by
    rw[<- e];by_cases z:d.length<l0.length
    ·rw[if_pos z];exact h1
    ·rw[if_neg z];exact f
   exact⟨yaS h2,λ_=>h2⟩
  | succ j=>exact⟨(c (j+2) m a).1,λz=>(c (j+2) m a).2 ⋯⟩
def zsb{l:List Nat}(h:ls[i]?=some l)(c:∀(j:Nat) (m:List Nat),ls[j]?=some m->l.length<=m.length/\(j<i->l.length<m.length)):Rc.minL ls=l:=by
 cases ls with
 | nil=>cases h
 | cons l0 ls=>exact zgn ls l0 l i h c
def zbQ{l:List Nat}(h:k<l.length)(hl:∀x∈l,x<n):l.getD k 0<n:=by
 rw[yf,yk h];exact hl _ (ybY h)
noncomputable def LsOf (H:Hp) (as:List Addr) (ls:List (List Nat)):Prop:=as.length=ls.length/\∀(i:Nat) (a:Addr),as[i]?=some a->∃l,ls[i]?=some l/\H a=some (.lst (zaN l))
def LsOf.nil:LsOf H [] []:=⟨rfl,λ_ _ h=>nomatch h⟩
def LsOf.same(h:LsOf H as ls)(e:Same H H'):LsOf H' as ls:=⟨h.1,λi a q=>by obtain⟨l,h1,h2⟩:=h.2 i a q;exact⟨l,h1,e.at h2⟩⟩
def LsOf.but{D:Addr}(h:LsOf H as ls)(e:LBut D H H')(n:D∉as):LsOf H' as ls:=
 ⟨h.1,λi a q=>by obtain⟨l,h1,h2⟩:=h.2 i a q;exact⟨l,h1,e.lst h2 λz=>n (z▸yb q)⟩⟩
def LsOf.snoc{l:List Nat}(h:LsOf H as ls)(ha:H a=some (.lst (zaN l))):LsOf H (as++[a]) (ls++[l]):=
 ⟨by rw[yc,yc,h.1];rfl,λi b q=>by
  rcases Nat.lt_trichotomy i as.length with hi | hi | hi
  ·rw[yH hi]at q;rw[yH (by rw[<- h.1];exact hi)];exact h.2 i b q
  ·rw[hi,ybN]at q;cases q;exact⟨l,by rw[hi,h.1,ybN],ha⟩
  ·rw[yG (by rw[yc];simp only[yah];lia)]at q;cases q⟩
noncomputable def ziV (K:Fg):Sp:=λvs H Q _=>∃(a:Addr) (i n:Nat) (as:List Addr) (F:Nat->Nat->Int),vs=[.ref a,.int i]/\H a=some (.lst (as.map V.ref))/\as.length=n/\Rows H as n F/\n<=9/\i<n /\
 ∀p H',H p=none->Same H H'->H' p=some (.lst (zaN (Rc.reach n (λi j=>decide (0<F i j)) i)))->Q (.ref p) H'
def zn9:=λ{K:Fg} {a:Addr} {i n:Nat} {as:List Addr} {F:Nat->Nat->Int} {H:Hp} {Q:VK} {E:XK} h hl hR h9 hi q=>@id (ziV K [.ref a,.int i] H Q E) ⟨a,i,n,as,F,rfl,h,hl,hR,h9,hi,q⟩
noncomputable def zg6 (K:Fg):Sp:=λvs H Q _=>∃(a b:Addr) (n:Nat) (as:List Addr) (F:Nat->Nat->Int) (ρ:Nat->Option Nat),vs=[.ref a,.ref b]/\H a=some (.lst (as.map V.ref))/\as.length=n/\Rows H as n F/\H b=some (.lst (zak n ρ))/\n<=9 /\
 ∀p H',H p=none->Same H H'->H' p=some (.lst (zaN (Rc.circle n (λi j=>decide (0<F i j)) λi=>(ρ i).isSome)))->Q (.ref p) H'
def znF:=λ{K:Fg} {a b:Addr} {n:Nat} {as:List Addr} {F:Nat->Nat->Int} {ρ:Nat->Option Nat} {H:Hp} {Q:VK} {E:XK} h hl hR hb h9 q=>@id (zg6 K [.ref a,.ref b] H Q E) ⟨a,b,n,as,F,ρ,rfl,h,hl,hR,hb,h9,q⟩
def PRows.upd{F:Nat->List Rat}{G:List Rat}(h:PRows H as F)(g:LBut a H H')(ha:as[j]?=some a)(h':H' a=some (.lst vs))(f:IsQs H' vs G):PRows H' as (λm=>if m=j then G else F m):=by
 refine⟨h.1,λm b c=>?_⟩;by_cases e:m=j
 ·subst e;rw[ha]at c;cases c;show ∃vs,H' a=some (.lst vs)/\IsQs H' vs (if m=m then G else F m);rw[if_pos rfl];exact⟨_,h',f⟩
 ·obtain⟨us,i,d⟩:=h.2 m b c;show ∃vs,H' b=some (.lst vs)/\IsQs H' vs (if m=j then G else F m);rw[if_neg e];exact⟨us,g.lst i λz=>e (zbF h.1 c (z▸ha)),LBut.isQs g d⟩
noncomputable def zb5 (n:Nat) (F:Nat->Nat->Int) (c:List Nat) (a b:Nat):Int:=if a=b then zS (vec n (F (c.getD a 0)))else -F (c.getD b 0) (c.getD a 0)
noncomputable def zm3 (K:Fg):Sp:=λvs H Q _=>∃(a b:Addr) (n:Nat) (as:List Addr) (F:Nat->Nat->Int) (c:List Nat),vs=[.ref a,.ref b]/\H a=some (.lst (as.map V.ref))/\as.length=n/\Rows H as n F/\H b=some (.lst (zaN c))/\(∀x∈c,x<n)/\c.length<=9/\n<=9 /\
 ∀p H' bs,H p=none->Same H H'->H' p=some (.lst (List.map V.ref bs))->bs.length=c.length->PRows H' bs (λa=>(List.range c.length).map λb=>((zb5 n F c a b:Int):Rat))->(∀b∈bs,H b=none)->Q (.ref p) H'
def zr1:=λ{K:Fg} {a b:Addr} {n:Nat} {as:List Addr} {F:Nat->Nat->Int} {c:List Nat} {H:Hp} {Q:VK} {E:XK} h hl hR hb hc c9 h9 q=>@id (zm3 K [.ref a,.ref b] H Q E) ⟨a,b,n,as,F,c,rfl,h,hl,hR,hb,hc,c9,h9,q⟩
noncomputable def zgk (K:Fg):Sp:=λvs H Q _=>∃(a:Addr) (as:List Addr) (w:Nat) (T:Nat->Nat->Int) (k:Int),vs=[.ref a,.int k]/\H a=some (.lst (as.map V.ref))/\Rows H as w T/\0<=k/\k<as.length/\k<w/\as.length<=20/\(∃i,k.toNat<=i/\i<as.length/\T i k.toNat≠0) /\
 (∀p H' as' i,k.toNat<=i->i<as.length->T i k.toNat≠0->H p=none->Same H H'->H' p=some (.lst (as'.map V.ref))->as'.length=as.length->(∀b∈as',b∈as)->Rows H' as' w (Dt.swp T k.toNat i)->Q (.ref p) H')
def zi0:=λ{K:Fg} {a:Addr} {as:List Addr} {w:Nat} {T:Nat->Nat->Int} {k:Int} {H:Hp} {Q:VK} {E:XK} h1 h2 k0 k1 k2 hl q0 q1=>@id (zgk K [.ref a,.int k] H Q E) ⟨a,as,w,T,k,rfl,h1,h2,k0,k1,k2,hl,q0,q1⟩
noncomputable def zjk (K:Fg) (d c:Nat):Sp:=λvs H Q _=>∃(a b:Addr) (n:Nat) (R:Nat->Nat->Rat),vs=[.ref a,.ref b]/\Sys H a b n R/\n<=9/\(∀l j,l<n->j<=n->SzQ (R l j) d c)/\1<=c/\20*c<=8000/\d<=100000/\n*(d+(n+1)*c+4)<=8990/\Dt.det n (Dt.cl R)≠0 /\
 (∀p H' vs (x:Nat->Rat),H p=none->Same H H'->H' p=some (.lst vs)->IsQs H' vs ("0i".map x)->(∀l,l<n->Dt.sm n (λm=>R l m*x m)=R l n)->(∀m,m<n->SzQ (x m) (n*(d+(n+1)*c+4)+1) (n*(d+(n+1)*c+4)+1))->Q (.ref p) H')
def zgT:=λ{K:Fg} {z1 zb:Nat} {a b:Addr} {n:Nat} {R:Nat->Nat->Rat} {H:Hp} {Q:VK} {E:XK} h n1 hz h1 h2 h3 h4 q0 q1=>@id (zjk K z1 zb [.ref a,.ref b] H Q E) ⟨a,b,n,R,rfl,h,n1,hz,h1,h2,h3,h4,q0,q1⟩
noncomputable def zeu (n:Nat) (F:Nat->Nat->Int) (c:List Nat) (x:Nat->Rat) (i:Nat):Rat:=sF c.length (λa=>c.getD a 0) x i*((zS (vec n (F i)):Int):Rat)
noncomputable def zmK (K:Fg):Sp:=λvs H Q _=>∃(a b d:Addr) (n:Nat) (as:List Addr) (F:Nat->Nat->Int) (c:List Nat) (ws:List V) (x:Nat->Rat),vs=[.ref a,.ref b,.ref d]/\H a=some (.lst (as.map V.ref))/\as.length=n/\Rows H as n F/\H b=some (.lst (zaN c))/\(∀x∈c,x<n)/\c.Nodup/\c.length<=9/\n<=9/\H d=some (.lst ws)/\IsQs H ws ((List.range c.length).map x)/\(∀m,m<c.length->OkQ (x m))/\(∀i,i<n->OkQ ((zS (vec n (F i)):Int):Rat)) /\
 ∀p H' vs,H p=none->Same H H'->H' p=some (.lst vs)->IsQs H' vs ("0i".map (zeu n F c x))->Q (.ref p) H'
def zjl:=λ{K:Fg} {a b d:Addr} {n:Nat} {as:List Addr} {F:Nat->Nat->Int} {c:List Nat} {ws:List V} {x:Nat->Rat} {H:Hp} {Q:VK} {E:XK} h hl hR hb hc nd c9 h9 hd hx z1 z2 q=>@id (zmK K [.ref a,.ref b,.ref d] H Q E) ⟨a,b,d,n,as,F,c,ws,x,rfl,h,hl,hR,hb,hc,nd,c9,h9,hd,hx,z1,z2,q⟩
noncomputable def zcR (n:Nat) (F:Nat->Nat->Int) (c:List Nat) (a b:Nat):Rat:=if a=0 then(if b=0 then 1 else 0) else((zb5 n F c a b:Int):Rat)
noncomputable def FlOk (n:Nat) (F:Nat->Nat->Int):Prop:=(∀i j,i<n->j<n->sz (F i j)<=59)/\∀i,i<n->sz (zS (vec n (F i)))<=59
def FlOk.bal{F:Nat->Nat->Int}{c:List Nat}(h:FlOk n F)(d:∀x∈c,x<n){a b:Nat}(ha:a<c.length)(e:b<c.length):sz (zb5 n F c a b)<=60:=by
 unfold zb5;split
 ·exact yj (h.2 _ (zbQ ha d)) "0a"
 ·exact yj (zf1 _) (yj (h.1 _ _ (zbQ e d) (zbQ ha d)) "0a")
def zf4:sz (1:Int)<=1:=zaH "0a"
def FlOk.sum{F:Nat->Nat->Int}(h:FlOk n F)(hi:i<n):OkQ ((zS (vec n (F i)):Int):Rat):=by
 have:=h.2 i hi
 exact⟨yj (show sz (((zS (vec n (F i)):Int):Rat).num)<=59 from this) "0a",yj zf4 "0a"⟩
def zdL{x:Int}(h:sz x<=z):SzQ ((x:Int):Rat) z 1:=⟨h,zf4⟩
def zeE(h:n<=9):n*(60+(n+1)*1+4)+1<=667:=by
 have:=ybm h (show 60+(n+1)*1+4<=74 by lia)
 lia
noncomputable def znY (K:Fg):Sp:=λvs H Q _=>∃(a b:Addr) (n:Nat) (as:List Addr) (F:Nat->Nat->Int) (c:List Nat),vs=[.ref a,.ref b]/\H a=some (.lst (as.map V.ref))/\as.length=n/\Rows H as n F/\H b=some (.lst (zaN c))/\(∀x∈c,x<n)/\c.Nodup/\1<=c.length/\c.length<=9/\n<=9/\FlOk n F/\Dt.det c.length (Dt.cl (zcR n F c))≠0 /\
 ∀p H' vs (x:Nat->Rat),H p=none->Same H H'->H' p=some (.lst vs)->IsQs H' vs ("0i".map (zeu n F c x))->(∀l,l<c.length->Dt.sm c.length (λm=>zcR n F c l m*x m)=if l=0 then 1 else 0)->(∀m,m<c.length->SzQ (x m) 667 667)->Q (.ref p) H'
def zqU:=λ{K:Fg} {a b:Addr} {n:Nat} {as:List Addr} {F:Nat->Nat->Int} {c:List Nat} {H:Hp} {Q:VK} {E:XK} h hl hR hb hc nd c1 c9 h9 z q0 q=>@id (znY K [.ref a,.ref b] H Q E) ⟨a,b,n,as,F,c,rfl,h,hl,hR,hb,hc,nd,c1,c9,h9,z,q0,q⟩
noncomputable def shorts (n:Nat) (ρ:Nat->Option Nat):List Nat:="0i".filter λi=>(ρ i).isSome
def zpx{ρ:Nat->Option Nat}:∀x∈shorts n ρ,x<n:=λx h=>yP.mp (yaG.mp h).1
def zog{ρ:Nat->Option Nat}:(shorts n ρ).Nodup:=ybX.filter _
def znt{ρ:Nat->Option Nat}:(shorts n ρ).length<=n:=by
 have:=ybv (λi=>(ρ i).isSome) "0i"
 rw[yx]at this;exact this
noncomputable def zox (K:Fg):Sp:=λvs H Q _=>∃(a b d:Addr) (n:Nat) (as:List Addr) (F:Nat->Nat->Int) (ρ:Nat->Option Nat) (ps:List Int),vs=[.ref a,.ref b,.ref d]/\H a=some (.lst (as.map V.ref))/\as.length=n/\Rows H as n F/\H b=some (.lst (zak n ρ))/\H d=some (.lst (ps.map V.int))/\ps.length=n/\(∀p∈ps,sz p<=59)/\n<=9/\FlOk n F/\Dt.det (shorts n ρ).length (Dt.cl (λa b=>((zb5 n F (shorts n ρ) a b:Int):Rat)))≠0 /\
 ∀p H' vs (x:Nat->Rat),H p=none->Same H H'->H' p=some (.lst vs)->IsQs H' vs ("0i".map (zeu n F (shorts n ρ) x))->(∀l,l<(shorts n ρ).length->Dt.sm (shorts n ρ).length (λm=>((zb5 n F (shorts n ρ) l m:Int):Rat)*x m)=((ps.getD ((shorts n ρ).getD l 0) 0:Int):Rat))->(∀m,m<(shorts n ρ).length->SzQ (x m) 667 667)->Q (.ref p) H'
def zpz:=λ{K:Fg} {a b d:Addr} {n:Nat} {as:List Addr} {F:Nat->Nat->Int} {ρ:Nat->Option Nat} {ps:List Int} {H:Hp} {Q:VK} {E:XK} h hl hR hb hd pl pz h9 z q0 q=>@id (zox K [.ref a,.ref b,.ref d] H Q E) ⟨a,b,d,n,as,F,ρ,ps,rfl,h,hl,hR,hb,hd,pl,pz,h9,z,q0,q⟩
noncomputable def zo3 (K:Fg):Sp:=λvs H Q _=>∃(a b d e:Addr) (n:Nat) (as:List Addr) (ds:List Due) (l r:Nat->Rat) (us ws:List V),vs=[.ref a,.ref b,.ref d,.ref e]/\H a=some (.lst (as.map V.ref))/\as.length=n/\Rows H as 3 (zA ds)/\H b=some (.lst (zak n (stp ds l)))/\H d=some (.lst us)/\IsQs H us ("0i".map l)/\H e=some (.lst ws)/\IsQs H ws ("0i".map r)/\n<=9/\(∀i,i<n->0<r i->stp ds l i≠none/\OkQ (l i)/\OkQ (zbL ds l i)/\OkQ (zbL ds l i-l i)/\SzQ (r i) 8999 8999/\SzQ (zav ds l r i) 60000 60000) /\
 (zas ds l r n=none->∀H',Same H H'->Q .non H')/\(∀x,zas ds l r n=some x->∀p H',Same H H'->IsQ H' p x->Q (.ref p) H')
def zlr:=λ{K:Fg} {a b d e:Addr} {n:Nat} {as:List Addr} {ds:List Due} {l r:Nat->Rat} {us ws:List V} {H:Hp} {Q:VK} {E:XK} h hl hR hb hd hu he hw h9 z q1 q2=>@id (zo3 K [.ref a,.ref b,.ref d,.ref e] H Q E) ⟨a,b,d,e,n,as,ds,l,r,us,ws,rfl,h,hl,hR,hb,hd,hu,he,hw,h9,z,q1,q2⟩
noncomputable def zmh (K:Fg):Sp:=λvs H Q _=>∃(d e s:Addr) (n:Nat) (l r:Nat->Rat) (t:Rat) (us ws:List V),vs=[.ref d,.ref e,.ref s]/\H d=some (.lst us)/\IsQs H us ("0i".map l)/\H e=some (.lst ws)/\IsQs H ws ("0i".map r)/\IsQ H s t/\n<=9/\OkQ t/\(∀i,i<n->OkQ (l i)/\OkQ (r i)/\OkQ (r i*t)) /\
 ∀p H' vs,H p=none->Same H H'->H' p=some (.lst vs)->IsQs H' vs ("0i".map λi=>l i+r i*t)->Q (.ref p) H'
def zem:=λ{K:Fg} {d e s:Addr} {n:Nat} {l r:Nat->Rat} {t:Rat} {us ws:List V} {H:Hp} {Q:VK} {E:XK} hd hu he hw hs h9 z0 z q=>@id (zmh K [.ref d,.ref e,.ref s] H Q E) ⟨d,e,s,n,l,r,t,us,ws,rfl,hd,hu,he,hw,hs,h9,z0,z,q⟩
open PySem PySem.Spec PyProof.Rows Dt
def zi8{i j:Int}(h:((i:Int):Rat)<=((j:Int):Rat)):i<=j:=by exact_mod_cast h
theorem zkH(f:Nat->Int):∀n:Nat,((zS (vec n f):Int):Rat)=sm n (λj=>((f j:Int):Rat))
 | 0=>rfl
 | n+1=>by
  have a:=zkH f n;rw[zdR]at a ⊢
  show((zbA f n+f n:Int):Rat)=sm n (λj=>((f j:Int):Rat))+((f n:Int):Rat)
  rw[yO,a]
section
variable {n:Nat}{ds:List Due}{l p:Nat->Rat}{c:List Nat}{x:Nat->Rat}{t:Rat}
abbrev flI(ds:List Due)(l:Nat->Rat):Nat->Nat->Int:=zaA (stp ds l) ds
def zhv(i:Nat):((zS (vec n (flI ds l i)):Int):Rat)=zap n ds l i:=zkH _ n
def zkC(a b:Nat):((zb5 n (flI ds l) c a b:Int):Rat)=bal (cF ds l c) (cR n ds l c) a b:=by
 unfold zb5 bal;by_cases e:a=b
 ·rw[if_pos e,if_pos e];exact zhv _
 ·rw[if_neg e,if_neg e,yaM];rfl
def zoJ(a b:Nat):zcR n (flI ds l) c a b=zcs (cF ds l c) (cR n ds l c) a b:=by
 unfold zcR zcs;by_cases e:a=0
 ·rw[if_pos e,if_pos e]
 ·rw[if_neg e,if_neg e];exact zkC a b
def zps(i:Nat):zeu n (flI ds l) c x i=sF c.length (λa=>c.getD a 0) x i*zap n ds l i:=by
 unfold zeu;rw[zhv]
def zrH{s:Nat->Nat}{x y:Nat->Rat}(h:∀a,a<m->x a=y a)(i:Nat):sF m s x i=sF m s y i:=sm_congr λa ha=>by rw[h a ha]
def zkq(hd:∀d∈ds,zo n d)(a:crL n ds l≠[])(b:zcG n ds l (crL n ds l) x)(i:Nat):zeu n (flI ds l) (crL n ds l) x i=rtF n ds p l i:=by
 rw[zps];unfold rtF shF;rw[if_neg a];have c:zcG n ds l (crL n ds l) (zkp n ds l (crL n ds l)):=yar ⟨x,b⟩;show _*_=_*_;rw[zrH (zqS hd (Rc.circle_ok a) b c)]
def zjs(hd:∀d∈ds,zo n d)(a:crL n ds l=[])(b:zdi n ds p l (slL n ds l) x)(i:Nat):zeu n (flI ds l) (slL n ds l) x i=rtF n ds p l i:=by
 rw[zps];unfold rtF shF;rw[if_pos a];have c:zdi n ds p l (slL n ds l) (zix n ds p l (slL n ds l)):=yar ⟨x,b⟩;show _*_=_*_;rw[zrH (zpZ hd a b c)]
def zqi(hd:∀d∈ds,zo n d)(b:crL n ds l≠[]):det (crL n ds l).length (cl (zcR n (flI ds l) (crL n ds l)))≠0:=by
 obtain⟨m,a⟩:∃m,(crL n ds l).length=m+1:=⟨(crL n ds l).length-1,by
  have:(crL n ds l).length≠0:=λz=>b (yad z)
  lia⟩
 intro z;refine zmp hd (Rc.circle_ok b) a ?_;rw[a]at z;rw[<- z];exact det_congr λj r _ _=>(zoJ r j).symm
def zoo(hd:∀d∈ds,zo n d)(c:crL n ds l=[]):det (slL n ds l).length (cl (λa b=>((zb5 n (flI ds l) (slL n ds l) a b:Int):Rat)))≠0:=by
 have L:=zej hd c (m:=(slL n ds l).length) (s:=λa=>(slL n ds l).getD a 0) (λa ha=>sl_mem.mp (za0 ha)) (zbn zdW);intro z;refine L.det ?_;rw[<- z];exact det_congr λj r _ _=>(zkC r j).symm
def zq3(h:∀a,a<c.length->sm c.length (λb=>zcR n (flI ds l) c a b*x b)=if a=0 then 1 else 0):zcG n ds l c x:=λa ha=>by
 rw[<- h a ha];exact sm_congr λb _=>by rw[zoJ]
def zqy(h:∀a,a<c.length->sm c.length (λb=>((zb5 n (flI ds l) c a b:Int):Rat)*x b)=p (c.getD a 0)):zdi n ds p l c x:=λa ha=>by
 rw[<- h a ha];exact sm_congr λb _=>by rw[zkC]
def zta{ρ:Nat->Option Nat}{A:Int}(f:0<=A)(ds:List Due):(∀d∈ds,d.a<=A)->zaA ρ ds i j<=A*(ds.length:Int):=
 zaO (P:=λds=>(∀d∈ds,d.a<=A)->zaA ρ ds i j<=A*(ds.length:Int)) (λ_=>by show(0:Int)<=A*((0:Nat):Int);lia) (λes d c h=>by
  have h1:=c λe b=>h e (yt _ b);have h2:=h d (yq _ (.head _));rw[zbr,yc,yah];have e:A*((es.length+1:Nat):Int)=A*(es.length:Int)+A:=by rw[Int.natCast_add,ybe];lia
  rw[e];split<;>lia) ds
def zov{A:Int}(hd:∀d∈ds,zo n d)(g:∀d∈ds,d.a<=A)(f:0<=A)(i:Nat):0<=zS (vec n (flI ds l i))/\zS (vec n (flI ds l i))<=A*(ds.length:Int):=by
 have e:=zhv (n:=n) (ds:=ds) (l:=l) i;cases hs:stp ds l i with
 | none=>
  have:zap n ds l i=0:=sm_zero λj _=>by unfold flR;rw[zjI hs];rfl
  rw[this]at e;have c:zS (vec n (flI ds l i))=0:=by exact_mod_cast e
  rw[c];exact⟨y6 _,ybH f ⋯⟩
 | some r=>
  have h1:zap n ds l i=((zA ds i r:Int):Rat):=zlx hs ds λd b=>by
   have:=hd d b
   exact⟨this.2.2.1,this.2.2.2.1,this.2.2.2.2.2.1⟩
  rw[h1]at e;have c:zS (vec n (flI ds l i))=zA ds i r:=by exact_mod_cast e
  rw[c];exact zdv ds (λd b=>⟨(hd d b).2.2.2.2.2.2.2.1,g d b⟩) f
def zuF(hd:∀d∈ds,zo n d)(b:∀d∈ds,d.a<=1000000000000)(hl:ds.length<=64):FlOk n (flI ds l):=by
 have z:∀v:Int,0<=v->v<=1000000000000*(ds.length:Int)->sz v<=59:=λv e h1=>zaH (by
  have:v.natAbs<=64000000000000:=by lia
  exact yae this "0a")
 exact⟨λi j _ _=>z _ (zgp ds λd c=>(hd d c).2.2.2.2.2.2.2.1) (zta "0a" ds b),λi _=>by
  have:=zov (l:=l) hd b "0a" i
  exact z _ this.1 this.2⟩
def zoY(d:FlOk n (flI ds l))(nd:c.Nodup)(b:∀a,a<c.length->SzQ (x a) 667 667)(hi:i<n):SzQ (zeu n (flI ds l) c x i) 726 668:=by
 have h1:SzQ (sF c.length (λa=>c.getD a 0) x i) 667 667:=by
  rcases yaq (∃a,a<c.length/\c.getD a 0=i) with⟨a,ha,e⟩ | w
  ·rw[<- e,zgF (s:=λa=>c.getD a 0) (zbn nd) ha];exact b a ha
  ·rw[zhN λa ha e=>w ⟨a,ha,e⟩];exact zqq "0a"
 exact SzQ.mul h1 (zdL (d.2 i hi)) "0a" "0a"
def zn4{D:Nat}(c:0<D)(h:Dv D q)(a:D<=2 ^ 7000)(g:0<=q)(i:q<=((1000000000000000:Int):Rat)):SzQ q 7051 7001:=by
 have hle:q.den<=2 ^ 7000:=yj (Nat.le_of_dvd c (Dv.den c h)) a;refine⟨zaH ?_,zaH ?_⟩
 ·have j:0<=q.num:=Rat.num_nonneg.mpr g;have e:=zmb q;have b:(0:Rat)<=(((q.den:Nat):Int):Rat):=zau ⋯;have h1:((q.num:Int):Rat)<=((1000000000000000:Int):Rat)*(((q.den:Nat):Int):Rat):=by
   rw[e];exact yS i b
  rw[<- yF]at h1;have h2:q.num<=1000000000000000*((q.den:Nat):Int):=zi8 h1;have f:q.num.natAbs<=1000000000000000*q.den:=by clear hle a;lia
  have d:1000000000000000*q.den<=2 ^ 50*2 ^ 7000:=ybm "0a" hle;rw[<- ya3]at d;exact yae (yj f d) (ybb "0a" "0a")
 ·rw[y9];exact yae hle (ybb "0a" "0a")
end
abbrev pQ(ps:List Int)(i:Nat):Rat:=((ps.getD i 0:Int):Rat)
set_option genInjectivity false in
set_option genSizeOf false in
structure Clr(n:Nat)(ds:List Due)(ps:List Int)(W P:Rat):Prop where
 n9:n<=9
 hd:∀d∈ds,zo n d
 ha:∀d∈ds,d.a<=1000000000000
 hl:ds.length<=64
 pl:ps.length=n
 pz:∀p∈ps,0<=p/\p<=100000000000000
 hW:∀l i,i<n->2*zap n ds l i<=W
 W1:1<=W
 hP:sm n (pQ ps)<=P
 P1:1<=P
 big:prodN (λ_=>prodN (λ_=>W) n*P*W) (zda n ds+1)<=(((2 ^ 7000:Nat):Int):Rat)
section
variable {n:Nat}{ds:List Due}{ps:List Int}{W P:Rat}{l:Nat->Rat}{t:Rat}{k:Nat}
def Clr.p0(C:Clr n ds ps W P):∀i,i<n->0<=pQ ps i:=λi hi=>by
 obtain⟨p,hp⟩:=zC (show i<ps.length by rw[C.pl];exact hi);unfold pQ;rw[yf,hp];exact zau (C.pz p (yb hp)).1
def Clr.pz'(C:Clr n ds ps W P):∀p∈ps,sz p<=59:=λp hp=>zaH (by
 have:=C.pz p hp
 exact yae (show p.natAbs<=100000000000000 by lia) "0a")
def Clr.B1(C:Clr n ds ps W P):1<=prodN (λ_=>W) n*P*W:=by
 have h1:(1:Rat)<=prodN (λ_=>W) n:=ze3 (k:=0) C.W1 (yW _);have h2:=C.P1;have a:=C.W1;have b:(1:Rat)*1<=prodN (λ_=>W) n*P:=by
  refine yR (yS h1 "0a") (yJ h2 (by grind))
 have c:(1:Rat)*1<=prodN (λ_=>W) n*P*W:=by
  refine yR (yS (show(1:Rat)<=prodN (λ_=>W) n*P by grind) "0a") (yJ a (by grind))
 grind
theorem Clr.dv(C:Clr n ds ps W P)(h:COk n ds (pQ ps) (prodN (λ_=>W) n*P*W) k l t):∃D:Nat,0<D/\D<=2 ^ 7000/\(∀i,i<n->Dv D (l i))/\Dv D t:=by
 obtain⟨D,a,c,hl,b⟩:=h.dv;refine⟨D,a,?_,hl,b⟩;have h1:=yR (yR c (ze3 C.B1 h.le)) C.big;exact Int.ofNat_le.mp (zi8 h1)
def Clr.cum(C:Clr n ds ps W P)(i:Nat)(a:r<=3):0<=zbA (zA ds i) r/\zbA (zA ds i) r<=300000000000000:=by
 have b:∀j,j<3->0<=zA ds i j/\zA ds i j<=100000000000000:=λj _=>by
  have:=zdc (m:=i) (r:=j) ds λd h=>⟨(C.hd d h).2.2.2.2.2.2.2.1,C.ha d h⟩
  have:=C.hl
  lia
 have:=ziY b r a
 lia
def Clr.lay(C:Clr n ds ps W P)(h:COk n ds (pQ ps) (prodN (λ_=>W) n*P*W) k l t)(hi:i<n):SzQ (l i) 7051 7001:=by
 obtain⟨D,a,b,hl,_⟩:=C.dv h;refine zn4 a (hl i hi) b (h.inv.lo i hi) (yR (h.inv.hi i hi) (zaE ?_))
 have:=(C.cum i (yg 3)).2
 lia
def Clr.top(C:Clr n ds ps W P)(h:COk n ds (pQ ps) (prodN (λ_=>W) n*P*W) k l t):SzQ t 7051 7001:=by
 obtain⟨D,a,c,_,b⟩:=C.dv h;exact zn4 a b c h.t0 (yR h.t1 (show((1:Int):Rat)<=_ from zaE "0a"))
def Clr.shut(C:Clr n ds ps W P)(h:COk n ds (pQ ps) (prodN (λ_=>W) n*P*W) k l t):SzQ (1-t) 7053 7002:=by
 rw[ybO];exact SzQ.add (zdL (x:=1) zf4) (C.top h).neg (k:=7052) "0a" "0a" "0a"
def Clr.endz(C:Clr n ds ps W P)(c:stp ds l i≠none):SzQ (zbL ds l i) 50 1:=by
 obtain⟨ρ,a⟩:∃ρ,stp ds l i=some ρ:=by
  cases h:stp ds l i with
  | none=>exact absurd h c
  | some ρ=>exact⟨ρ,rfl⟩
 have b:ρ < 3:=(zbC a).1;rw[zfO a]
 have:=C.cum i (show ρ+1<=3 by lia)
 exact zdL (zaH (yae (show(zbA (zA ds i) (ρ+1)).natAbs<=300000000000000 by lia) "0a"))
def Clr.gap(C:Clr n ds ps W P)(h:COk n ds (pQ ps) (prodN (λ_=>W) n*P*W) k l t)(hi:i<n)(a:stp ds l i≠none):SzQ (zbL ds l i-l i) 7053 7002:=by
 rw[ybO];exact SzQ.add (C.endz a) (C.lay h hi).neg (k:=7052) "0a" "0a" "0a"
def Clr.room(C:Clr n ds ps W P)(h:COk n ds (pQ ps) (prodN (λ_=>W) n*P*W) k l t){r:Nat->Rat}(hi:i<n)(d:stp ds l i≠none)(b:SzQ (r i) 726 668)(a:0<r i):SzQ (zav ds l r i) 7721 7728:=by
 unfold zav;rw[ybt];have c:(r i).num≠0:=λz=>by
  have:r i=0:=Rat.num_eq_zero.mp z
  rw[this]at a;exact absurd a "0a"
 exact SzQ.mul (C.gap h hi d) (b.inv c) "0a" "0a"
end
section
variable {n:Nat}{ds:List Due}{ps:List Int}{W P:Rat}{l:Nat->Rat}{t:Rat}{k:Nat}
def Clr.rooms(C:Clr n ds ps W P)(h:COk n ds (pQ ps) (prodN (λ_=>W) n*P*W) k l t)(c:∀i,i<n->SzQ (rtF n ds (pQ ps) l i) 726 668):∀i,i<n->0<rtF n ds (pQ ps) l i->stp ds l i≠none/\OkQ (l i)/\OkQ (zbL ds l i)/\OkQ (zbL ds l i-l i)/\SzQ (rtF n ds (pQ ps) l i) 8999 8999/\SzQ (zav ds l (rtF n ds (pQ ps) l) i) 60000 60000:=λi hi b=>by
 obtain⟨ρ,d⟩:=zfb C.hd b;have a:stp ds l i≠none:=by rw[d];exact nofun
 exact⟨a,(C.lay h hi).ok "0a" "0a",(C.endz a).ok "0a" "0a",(C.gap h hi a).ok "0a" "0a",(c i hi).mono "0a" "0a",(C.room h hi a (c i hi) b).mono "0a" "0a"⟩
def Clr.stepz(C:Clr n ds ps W P)(h:COk n ds (pQ ps) (prodN (λ_=>W) n*P*W) k l t)(c:∀i,i<n->SzQ (rtF n ds (pQ ps) l i) 726 668){x:Rat}(d:zas ds l (rtF n ds (pQ ps) l) n=some x):SzQ x 7721 7728:=by
 obtain⟨⟨i,hi,a,rfl⟩,_⟩:=zbU d;obtain⟨ρ,b⟩:=zfb C.hd a;exact C.room h hi (by rw[b];exact nofun) (c i hi) a
def Clr.grow(C:Clr n ds ps W P)(h:COk n ds (pQ ps) (prodN (λ_=>W) n*P*W) k l t)(b:∀i,i<n->SzQ (rtF n ds (pQ ps) l i) 726 668){x:Rat}(a:SzQ x 7721 7728):OkQ x/\∀i,i<n->OkQ (l i)/\OkQ (rtF n ds (pQ ps) l i)/\OkQ (rtF n ds (pQ ps) l i*x):=
 ⟨a.ok "0a" "0a",λi hi=>⟨(C.lay h hi).ok "0a" "0a",(b i hi).ok "0a" "0a",SzQ.ok (SzQ.mul (b i hi) a (k:=8447) (l:=8396) "0a" "0a") "0a" "0a"⟩⟩
def Clr.cirRoom(C:Clr n ds ps W P)(h:COk n ds (pQ ps) (prodN (λ_=>W) n*P*W) k l t)(ha:Ans n ds (pQ ps) l)(e:crL n ds l≠[]):∃x,zas ds l (rtF n ds (pQ ps) l) n=some x:=by
 obtain⟨j,f,a⟩:=zkn C.hd C.p0 ha;obtain⟨i,hi,b,c⟩:=a e;have d:0<rtF n ds (pQ ps) l i:=by
  cases g:stp ds l i with
  | none=>exact absurd g b
  | some ρ=>exact ybs c (zgl C.hd (h.inv.lo i hi) g)
 cases hq:zas ds l (rtF n ds (pQ ps) l) n with
 | none=>exact absurd d (zcB hq i hi)
 | some q=>exact⟨q,rfl⟩
end
def zpI{p l:Nat->Rat}{t:Rat}(a:crL n ds l=[])(h:zas ds l (rtF n ds p l) n=none):stF n ds p l t=1-t:=by
 unfold stF;rw[if_pos a,h]
def zqE{p l:Nat->Rat}{t:Rat}(a:crL n ds l=[])(h:zas ds l (rtF n ds p l) n=some q):stF n ds p l t=if 1-t<q then 1-t else q:=by
 unfold stF;rw[if_pos a,h]
def zuK{r:Rat}(h1:IsQ H a q)(h2:IsQ H b r)(k:Q (.bl (decide (q=r))) H):zd4 K (.ref a) (.ref b) H Q:=by
 have c:(dQ q).depth<=1:=by simp[dQ,PyData.depth,PyData.depthAll]
 refine znB h1.rep h2.rep ⋯ ?_;rw[zve];exact k
noncomputable def zjN (K:Fg):Sp:=λvs H Q _=>∃(a u:Addr) (n:Nat) (ds:List Due) (ps:List Int) (W P:Rat),vs=[.ref a,.ref u]/\IsSh K H a ds/\H u=some (.lst (ps.map V.int))/\Clr n ds ps W P /\
 ∀p H' ws k,H p=none->Same H H'->H' p=some (.lst ws)->IsQs H' ws ("0i".map "0c".1)->zcw n ds "0c".1 "0c".2->(∀j,j<k->¬zcw n ds (cst n ds (pQ ps) j).1 (cst n ds (pQ ps) j).2)->COk n ds (pQ ps) (prodN (λ_=>W) n*P*W) k "0c".1 "0c".2->Q (.ref p) H'
def zgV:=λ{K:Fg} {a u:Addr} {n:Nat} {ds:List Due} {ps:List Int} {W P:Rat} {H:Hp} {Q:VK} {E:XK} h hu C q=>@id (zjN K [.ref a,.ref u] H Q E) ⟨a,u,n,ds,ps,W,P,rfl,h,hu,C,q⟩
def zso(h1:H a=some (.lst (ns.map V.int)))(h2:H b=some (.lst []))(q:Q (.bl (!decide (ns=[]))) H):zdX K (.ref a) (.ref b) H Q:=by
 cases ns with
 | nil=>
  refine zhf (ns:=[]) (ms:=[]) (SqL.of h1) (SqL.of h2) rfl ?_;exact q
 | cons x xs=>
  refine zhC (.lst (SqL.of h1) (zbx _)) (.lst (SqL.of h2) .nil) (by rw[zc2,zbX];lia) ?_;have e:PyData.eqv (.list ((x :: xs).map PyData.int)) (.list [])=false:=by
   rw[yam];simp[PyData.eqv,PyData.eqvAll]
  rw[e];exact q
abbrev zdH(w:Nat):Rat:=(((2 ^ w:Nat):Int):Rat)
def zhh(a b:Nat):zdH a*zdH b=zdH (a+b):=by
 show _=(((2 ^ (a+b):Nat):Int):Rat)
 rw[ya3,Int.natCast_mul,yF]
theorem zf8(w:Nat):∀n:Nat,prodN (λ_=>zdH w) n=zdH (w*n)
 | 0=>rfl
 | n+1=>by
  show prodN (λ_=>zdH w) n*zdH w=_;rw[zf8 w n,zhh,Nat.mul_succ]
def zmr{a b:Nat}(h:a<=b):zdH a<=zdH b:=zaE (Int.ofNat_le.mpr (yaP "0a" h))
def zkm(a:Nat):1<=zdH a:=zmr (yW a)
theorem zpb{f:Nat->Rat}{M:Int}:∀{n:Nat},(∀i,i<n->f i<=((M:Int):Rat))->sm n f<=(((n:Int)*M:Int):Rat)
 | 0,_=>by rw[show((0:Nat):Int)*M=0 by lia];exact yE
 | n+1,h=>by
  have h1:=zpb (n:=n) λi hi=>h i ⋯;have h2:=h n ⋯;have e:(((n+1:Nat):Int)*M)=(n:Int)*M+M:=by rw[Int.natCast_add,ybr];lia
  rw[e,yO];show sm n f+f n<=_;grind
def ztA{w:Nat}{ps:List Int}{A:Int}(n9:n<=9)(hd:∀d∈ds,zo n d/\d.a<=1000000000000)(hl:ds.length<=64)(pl:ps.length=n)(hp:zcC ps)(c:∀d∈ds,d.a<=A)(f:0<=A)(j:2*(A*(ds.length:Int))<=((2 ^ w:Nat):Int))(g:(w*n+50+w)*(zda n ds+1)<=7000):Clr n ds ps (zdH w) (zdH 50) where
 n9:=n9
 hd:=λd h=>(hd d h).1
 ha:=λd h=>(hd d h).2
 hl:=hl
 pl:=pl
 pz:=hp
 hW:=λl i _=>by
  have:=zov (l:=l) (λd h=>(hd d h).1) c f i
  rw[<- zhv];have e:(2:Rat)*((zS (vec n (flI ds l i)):Int):Rat)=((2*zS (vec n (flI ds l i)):Int):Rat):=by rw[yF];rfl
  rw[e];exact zaE ⋯
 W1:=zkm w
 hP:=by
  have h1:sm n (pQ ps)<=(((n:Int)*100000000000000:Int):Rat):=zpb λi hi=>by
   obtain⟨p,b⟩:=zC (show i<ps.length by rw[pl];exact hi);unfold pQ;rw[yf,b];exact zaE (hp p (yb b)).2
  refine yR h1 (zaE ?_)
  have:((2 ^ 50:Nat):Int)=1125899906842624:=by decide
  rw[this];lia
 P1:=zkm 50
 big:=by
  rw[zf8,zhh,zhh,zf8];exact zmr g
noncomputable def zrL (qs:List Rat):Prop:=∀q∈qs,0<=q/\SzQ q 7051 7001
section
variable {n:Nat}{ds:List Due}{ps:List Int}{W P:Rat}{k:Nat}
abbrev zal(n:Nat)(ds:List Due)(ps:List Int)(k:Nat):List Rat:="0i".map "0c".1
def zd2(hi:i<n):(zal n ds ps k).getD i 0="0c".1 i:=by
 rw[yf,ye,yU hi];rfl
def zdd:(zal n ds ps k).length=n:=by rw[ya,yx]
def Clr.wide(C:Clr n ds ps W P)(h:COk n ds (pQ ps) (prodN (λ_=>W) n*P*W) k "0c".1 "0c".2):zrL (zal n ds ps k):=λq b=>by
 obtain⟨i,hi,rfl⟩:=y8.mp b;have a:=yP.mp hi;exact⟨h.inv.lo i a,C.lay h a⟩
def zoI(hd:∀d∈ds,zo n d):∀d∈ds,zX ds (zal n ds ps k) d=zaq ds "0c".1 d:=λd a=>by
 have:=hd d a
 have b:=this.1;have h1:=this.2.1;unfold zX zaq;rw[zd2 ⋯]
def Clr.next(C:Clr n ds ps W P)(h:COk n ds (pQ ps) (prodN (λ_=>W) n*P*W) k "0c".1 "0c".2)(f:zcw n ds "0c".1 "0c".2):(List.range ps.length).map (zbG ds ps (zal n ds ps k))=zal n ds ps k:=by
 rw[C.pl];refine yK λi hi=>?_;have a:=yP.mp hi;have I:=h.inv;rw[f.2]at I;have e:=zut I a (λr _=>zc8 ds λd c=>(C.hd d c).2.2.2.2.2.2.2.1);have j:zL ds (zX ds (zal n ds ps k)) i=zL ds (zaq ds "0c".1) i:=zeM ds (zoI C.hd);unfold zbG;rw[j,e];have b:za5 ds i=zT (zA ds i) 3:=by
  unfold za5 zT;rw[zdR]
 rw[b];by_cases g:((ps.getD i 0:Int):Rat)+zL ds (zaq ds "0c".1) i<zT (zA ds i) 3
 ·rw[if_pos g,if_neg (by intro z;exact absurd g (yaZ.mpr z))]
 ·rw[if_neg g,if_pos (yaZ.mp g)]
end
noncomputable def dsum (g:Due->Rat) (ds:List Due):Rat:=ds.foldl (fun(s:Rat) (d:Due)=>s+g d) 0
def zbV(g:Due->Rat)(ds:List Due)(d:Due):dsum g (ds++[d])=dsum g ds+g d:=by unfold dsum;rw[yat];rfl
def zse{g h:Due->Rat}(ds:List Due):(∀d∈ds,g d=h d)->dsum g ds=dsum h ds:=
 zaO (P:=λds=>(∀d∈ds,g d=h d)->dsum g ds=dsum h ds) (λ_=>rfl) (λes d b k=>by
  rw[zbV,zbV,b λe a=>k e (yt _ a),k d (yq _ (.head _))]) ds
def zqg{g h:Due->Rat}(ds:List Due):dsum (λd=>g d+h d) ds=dsum g ds+dsum h ds:=
 zaO (P:=λds=>dsum (λd=>g d+h d) ds=dsum g ds+dsum h ds) (by show(0:Rat)=0+0;grind) (λes d a=>by
  rw[zbV,zbV,zbV,a];grind) ds
def znJ{g:Due->Rat}(ds:List Due):(∀d∈ds,0<=g d)->0<=dsum g ds/\(dsum g ds<=0->∀d∈ds,g d=0):=
 zaO (P:=λds=>(∀d∈ds,0<=g d)->0<=dsum g ds/\(dsum g ds<=0->∀d∈ds,g d=0)) (λ_=>⟨yE,λ_ _ h=>nomatch h⟩) (λes d b k=>by
  obtain⟨h1,h2⟩:=b λe a=>k e (yt _ a);have c:=k d (yq _ (.head _));rw[zbV];refine⟨by grind,λz e a=>?_⟩;rcases yL.mp a with h | h
  ·exact h2 (by grind) e h
  ·rw[yu.mp h];grind) ds
def zoi{D:Nat->Bool}{g:Due->Rat}(ds:List Due):(∀d∈ds,0<=d.q/\d.q<n)->sm n (λi=>if D i=true then zL ds g i else 0)=dsum (λd=>if D d.q.toNat=true then g d else 0) ds:=
 zaO (P:=λds=>(∀d∈ds,0<=d.q/\d.q<n)->sm n (λi=>if D i=true then zL ds g i else 0)=dsum (λd=>if D d.q.toNat=true then g d else 0) ds) (λ_=>sm_zero λi _=>by
  show(if D i=true then(0:Rat)else 0)=0
  split<;>rfl) (λes d b k=>by
  have h1:=b λe a=>k e (yt _ a);obtain⟨f,h⟩:=k d (yq _ (.head _));rw[zbV,<- h1];have e:sm n (λi=>if D i=true then zL (es++[d]) g i else 0)=sm n (λi=>(if D i=true then zL es g i else 0)+if i=d.q.toNat then(if D d.q.toNat=true then g d else 0)else 0):=sm_congr λi _=>by
   rw[za9];by_cases e:i=d.q.toNat
   ·rw[if_pos e,if_pos (show d.q=(i:Int) by lia),<- e];split<;>grind
   ·rw[if_neg e,if_neg (show ¬d.q=(i:Int) by lia)];split<;>grind
  rw[e,sm_add,sm_one (i:=d.q.toNat) ⋯ λj _ c=>if_neg c,if_pos rfl]) ds
def zmq{D:Nat->Bool}{g:Due->Rat}(ds:List Due):(∀d∈ds,0<=d.p/\d.p<n)->sm n (λi=>if D i=true then zbP ds (i:Int) g else 0)=dsum (λd=>if D d.p.toNat=true then g d else 0) ds:=
 zaO (P:=λds=>(∀d∈ds,0<=d.p/\d.p<n)->sm n (λi=>if D i=true then zbP ds (i:Int) g else 0)=dsum (λd=>if D d.p.toNat=true then g d else 0) ds) (λ_=>sm_zero λi _=>by
  show(if D i=true then(0:Rat)else 0)=0
  split<;>rfl) (λes d b k=>by
  have h1:=b λe a=>k e (yt _ a);obtain⟨f,h⟩:=k d (yq _ (.head _));rw[zbV,<- h1];have e:sm n (λi=>if D i=true then zbP (es++[d]) (i:Int) g else 0)=sm n (λi=>(if D i=true then zbP es (i:Int) g else 0)+if i=d.p.toNat then(if D d.p.toNat=true then g d else 0)else 0):=sm_congr λi _=>by
   rw[zdr];by_cases e:i=d.p.toNat
   ·rw[if_pos e,if_pos (show d.p=(i:Int) by lia),<- e];split<;>grind
   ·rw[if_neg e,if_neg (show ¬d.p=(i:Int) by lia)];split<;>grind
  rw[e,sm_add,sm_one (i:=d.p.toNat) ⋯ λj _ c=>if_neg c,if_pos rfl]) ds
def zpE{g h:Due->Rat}(ds:List Due):zL ds (λd=>g d-h d) m=zL ds g m-zL ds h m:=
 zaO (P:=λds=>zL ds (λd=>g d-h d) m=zL ds g m-zL ds h m) (by show(0:Rat)=0-0;grind) (λes d a=>by
  rw[za9,za9,za9,a];split<;>grind) ds
def zrb{g h:Due->Rat}{m:Int}(ds:List Due):zbP ds m (λd=>g d-h d)=zbP ds m g-zbP ds m h:=
 zaO (P:=λds=>zbP ds m (λd=>g d-h d)=zbP ds m g-zbP ds m h) (by show(0:Rat)=0-0;grind) (λes d a=>by
  rw[zdr,zdr,zdr,a];split<;>grind) ds
section
variable {n:Nat}{ds:List Due}{l x y p:Nat->Rat}
def zc7(hd:∀d∈ds,zo n d)(i r:Nat):0<=zA ds i r:=zc8 ds λd a=>(hd d a).2.2.2.2.2.2.2.1
def zoy:(∀d∈es,0<=d.p)->zbP es (m:Int) (zaq ds y)=zg3 es m (zad (zA ds m) (y m)):=
 zaO (P:=λes=>(∀d∈es,0<=d.p)->zbP es (m:Int) (zaq ds y)=zg3 es m (zad (zA ds m) (y m))) (λ_=>rfl) (λes d b h=>by
  rw[zdr,zjC,b λe a=>h e (yt _ a)];have p0:=h d (yq _ (.head _));by_cases e:d.p=(m:Int)
  ·rw[if_pos e,if_pos e];have c:d.p.toNat=m:=by lia
   unfold zaq;rw[c]
  ·rw[if_neg e,if_neg e]) es
def zhc(hd:∀d∈ds,zo n d)(a:0<=y m)(h1:y m<=zT (zA ds m) 3):zbP ds (m:Int) (zaq ds y)=y m:=by
 have b:∀j,j<3->0<=zA ds m j:=λj _=>zc7 hd m j;have h2:=zh5 (ds:=ds) (m:=m) (S:=zad (zA ds m) (y m)) (λd h=>⟨(hd d h).2.2.2.2.2.1,(hd d h).2.2.2.2.2.2.1⟩) ds.length (yg _);rw[yw]at h2;rw[zoy λd h=>(hd d h).1,h2,zcE a (b 0 ⋯),zcE a (b 1 ⋯),zcE a (b 2 ⋯)];refine znL a b ?_;have e:zT (zA ds m) 3=((zA ds m 0:Int):Rat)+((zA ds m 1:Int):Rat)+((zA ds m 2:Int):Rat):=by
  rw[zbD,zbD,zbD]
  show(0:Rat)+_+_+_=_
  grind
 rw[<- e];exact h1
def zjm(hd:∀d∈ds,zo n d)(f:∀i,i<n->0<=l i)(h:∀i,i<n->l i<=y i):∀d∈ds,zaq ds l d<=zaq ds y d:=λd b=>by
 have a:=hd d b;have c:=a.1;have e:=a.2.1;have hi:d.p.toNat<n:=by lia
 unfold zaq;refine yJ (zhA (f _ hi) (h _ hi) (λr _=>zc7 hd _ r) ?_) (zau a.2.2.2.2.2.2.2.1)
 have:=a.2.2.2.2.2.1
 have:=a.2.2.2.2.2.2.1
 lia
def zp2{ρ:Nat->Option Nat}(ds:List Due):(∀d∈ds,0<=d.a)->0<zaA ρ ds i j->∃d∈ds,d.p=(i:Int)/\d.q=(j:Int)/\ρ i=some d.r.toNat/\0<d.a:=
 zaO (P:=λds=>(∀d∈ds,0<=d.a)->0<zaA ρ ds i j->∃d∈ds,d.p=(i:Int)/\d.q=(j:Int)/\ρ i=some d.r.toNat/\0<d.a) (λ_ h=>absurd (show(0:Int)<0 from h) "0a") (λes d f h hp=>by
  rw[zbr]at hp;have g:=h d (yq _ (.head _));by_cases c:d.p=(i:Int)/\d.q=(j:Int)/\ρ i=some d.r.toNat
  ·by_cases z:0<d.a
   ·exact⟨d,yq _ (.head _),c.1,c.2.1,c.2.2,z⟩
   ·rw[if_pos c]at hp;obtain⟨e,b,k⟩:=f (λe b=>h e (yt _ b)) ⋯;exact⟨e,yt _ b,k⟩
  ·rw[if_neg c]at hp;obtain⟨e,b,k⟩:=f (λe b=>h e (yt _ b)) ⋯;exact⟨e,yt _ b,k⟩) ds
def zqW{q':Rat}(c:0<=q)(b:∀r,r<3->0<=f r)(h:zaX f q 3=some ρ)(h1:q<q'):zad f q ρ < zad f q' ρ:=by
 obtain⟨d,up,_⟩:=zbC h;have fp:=zbu (zcv c h);obtain⟨z,a⟩:∃z,z=if q'<=zT f (ρ+1)then q' else zT f (ρ+1):=⟨_,rfl⟩
 have j:q<z:=by rw[a];split<;>grind
 have i:z<=zT f (ρ+1):=by rw[a];split<;>grind
 have e:z<=q':=by rw[a];split<;>grind
 have g:=zh2 c b h (by grind:q<=z) i (r:=ρ) d;rw[if_pos rfl]at g;have m:=zhA (q:=z) (q':=q') (by grind) e b (r:=ρ) d;have d0:0<(z-q)/((f ρ:Int):Rat):=by
  rw[ybt];exact ybs (by grind) (Rat.inv_pos.mpr fp)
 grind
def greatest(hd:∀d∈ds,zo n d)(N:crL n ds l=[])(I:CInv n ds p l 1)(O:∀i,i<n->0<=x i)(v:∀i,i<n->x i<=zT (zA ds i) 3)(G:∀i,i<n->x i<=p i+zL ds (zaq ds x) i):∀i,i<n->x i<=l i:=by
 obtain⟨y,m⟩:∃y:Nat->Rat,y=λi=>if l i<x i then x i else l i:=⟨_,rfl⟩
 obtain⟨D,P⟩:∃D:Nat->Bool,D=λi=>decide (i<n/\l i<x i):=⟨_,rfl⟩
 have b:∀i,D i=true↔i<n/\l i<x i:=λi=>by rw[P];exact decide_eq_true_iff
 have B:∀i,l i<=y i:=λi=>by rw[m];dsimp only;split<;>grind
 have W:∀i,x i<=y i:=λi=>by rw[m];dsimp only;split<;>grind
 have R:∀i,i<n->y i<=zT (zA ds i) 3:=λi hi=>by rw[m];dsimp only;have:=v i hi;have:=I.hi i hi;split<;>grind
 have F:∀i,i<n->0<=y i:=λi hi=>by have:=I.lo i hi;have:=B i;grind
 have C:∀i,D i=true->y i=x i:=λi h=>by rw[m];exact if_pos ((b i).mp h).2
 have X:∀i,i<n->D i≠true->y i=l i:=λi hi h=>by rw[m];exact if_neg λz=>h ((b i).mpr ⟨hi,z⟩)
 have t:∀d∈ds,0<=d.q/\d.q<n:=λd a=>⟨(hd d a).2.2.1,(hd d a).2.2.2.1⟩
 have f:∀d∈ds,0<=d.p/\d.p<n:=λd a=>⟨(hd d a).1,(hd d a).2.1⟩
 obtain⟨e,o⟩:∃e:Due->Rat,e=λd=>zaq ds y d-zaq ds l d:=⟨_,rfl⟩
 have Y:∀d∈ds,0<=e d:=λd a=>by
  have:=zjm hd I.lo (λi _=>B i) d a
  rw[o];grind
 have L:∀d∈ds,D d.p.toNat≠true->e d=0:=λd a h=>by
  have:=f d a
  have:=X d.p.toNat ⋯ h
  rw[o];show zaq ds y d-zaq ds l d=0;unfold zaq;rw[this];grind
 have sh:∀i,D i=true->stp ds l i≠none:=λi h z=>by
  obtain⟨hi,c⟩:=(b i).mp h;have h2:zT (zA ds i) 3<=l i:=zdz z 2 "0a"
  have:=v i hi
  grind
 have row:∀i,D i=true->y i-l i<=zL ds e i:=λi h=>by
  obtain⟨hi,c⟩:=(b i).mp h;have h1:=I.sh i hi (sh i h);have h2:=G i hi;have h3:=zdM (zjm (l:=x) (y:=y) hd O (λi _=>W i)) i;have V:zL ds e i=zL ds (zaq ds y) i-zL ds (zaq ds l) i:=by rw[o,zpE]
  rw[C i h,V];grind
 have col:∀i,i<n->y i-l i=zbP ds (i:Int) e:=λi hi=>by
  rw[o,zrb,zhc hd (F i hi) (R i hi),zhc hd (I.lo i hi) (I.hi i hi)]
 have Q:sm n (λi=>if D i=true then y i-l i else 0)<=sm n (λi=>if D i=true then zL ds e i else 0):=sm_mono λi _=>by
  by_cases g:D i=true
  ·rw[if_pos g,if_pos g];exact row i g
  ·rw[if_neg g,if_neg g];exact yE
 have U:sm n (λi=>if D i=true then y i-l i else 0)=sm n (λi=>if D i=true then zbP ds (i:Int) e else 0):=sm_congr λi hi=>by rw[col i hi]
 rw[U,zoi ds t,zmq ds f]at Q;have s3:dsum (λd=>if D d.q.toNat=true then e d else 0) ds+dsum (λd=>if D d.p.toNat=true/\D d.q.toNat≠true then e d else 0) ds=dsum (λd=>if D d.p.toNat=true then e d else 0) ds:=by
  rw[<- zqg];refine zse ds λd a=>?_;by_cases g:D d.p.toNat=true
  ·rw[if_pos g];by_cases k:D d.q.toNat=true
   ·have z:¬(D d.p.toNat=true/\D d.q.toNat≠true):=λz=>z.2 k;rw[if_pos k,if_neg z];grind
   ·rw[if_neg k,if_pos ⟨g,k⟩];grind
  ·have z:¬(D d.p.toNat=true/\D d.q.toNat≠true):=λz=>g z.1;rw[if_neg g,if_neg z,L d a g];split<;>grind
 have H:=(znJ (g:=λd=>if D d.p.toNat=true/\D d.q.toNat≠true then e d else 0) ds λd a=>by
  split
  ·exact Y d a
  ·exact yE).2 (by grind)
 intro i hi;refine yaZ.mp λc=>?_;refine Rc.no_circle N (S:=λj=>D j=true) (λj h=>⟨((b j).mp h).1,?_⟩) (λj k h hk J=>?_) ((b i).mpr ⟨hi,c⟩)
 ·unfold shB;cases g:stp ds l j with
  | none=>exact absurd g (sh j h)
  | some _=>rfl
 ·obtain⟨T,u⟩:=(b j).mp h;have s:0<zaA (stp ds l) ds j k:=of_decide_eq_true J;obtain⟨d,a,dp,dq,E,Z⟩:=zp2 ds (λd a=>(hd d a).2.2.2.2.2.2.2.1) s;have w:d.p.toNat=j:=by lia
  have K:d.q.toNat=k:=by lia
  refine yz λM=>?_;have z:=H d a;rw[w,K,if_pos ⟨h,M⟩,o]at z;have A:zaq ds y d-zaq ds l d=0:=z;unfold zaq at A;rw[w]at A;have up:=zqW (I.lo j T) (λr _=>zc7 hd j r) (show zaX (zA ds j) (l j) 3=some d.r.toNat from E) (show l j<y j by rw[C j h];exact u)
  have:=Rat.mul_lt_mul_of_pos_left up (zbu Z)
  grind
end
noncomputable def LeL (rs a:List Rat):Prop:=∀m,m<rs.length->rs.getD m 0<=a.getD m 0
def zla{F:Nat->Rat}(h:m<n):("0i".map F).getD m 0=F m:=by rw[zpV,if_pos h]
section
variable {n:Nat}{ds:List Due}{ps:List Int}{W P:Rat}{k:Nat}
def Clr.great(C:Clr n ds ps W P)(h:COk n ds (pQ ps) (prodN (λ_=>W) n*P*W) k "0c".1 "0c".2)(c:zcw n ds "0c".1 "0c".2){s:List Rat}(f:s.length=n)(l:∀q∈s,0<=q)(sn:∀m,m<n->s.getD m 0<=zbG ds ps s m):LeL s (zal n ds ps k):=by
 have I:=h.inv;rw[c.2]at I;have a:∀d∈ds,zX ds s d=zaq ds (λm=>s.getD m 0) d:=λd _=>rfl;have g:=greatest (x:=λm=>s.getD m 0) C.hd c.1 I (λi hi=>by
  obtain⟨q,e⟩:=zC (show i<s.length by lia);show 0<=s.getD i 0;rw[yf,e];exact l q (yb e)) (λi hi=>by
  have h1:=sn i hi;have h2:=zsm (ds:=ds) (ps:=ps) (qs:=s) i;have j:za5 ds i=zT (zA ds i) 3:=by unfold za5 zT;rw[zdR]
  rw[j]at h2;exact yR h1 h2) (λi hi=>by
  have h1:=sn i hi;rw[<- zeM ds a];unfold zbG at h1;show s.getD i 0<=((ps.getD i 0:Int):Rat)+zL ds (zX ds s) i;split at h1<;>grind)
 intro m b;rw[f]at b;rw[zd2 b];exact g m b
end
abbrev zvF(n:Nat)(c:Int):List Rat:="0i".map λ_=>((c:Int):Rat)
noncomputable def zrq (ds:List Due) (ρ:Nat->Option Nat) (m i:Nat) (d:Due):Prop:=ds[i]?=some d/\d.p=(m:Int)/\0<d.a/\ρ m=some d.r.toNat
set_option genInjectivity false in
set_option genSizeOf false in
structure Arr(n:Nat)(ds:List Due)(ρ:Nat->Option Nat)(on:Nat->Option Nat)(arr:Nat->Bool)(τ:Nat->Nat):Prop where
 none:∀m,m<n->ρ m=Option.none->arr m=true/\on m=Option.none
 some:∀m i,m<n->on m=Option.some i->∃d,zrq ds ρ m i d/\arr m=true/\arr d.q.toNat=true/\τ d.q.toNat < τ m
 away:∀m,m<n->arr m=false->on m=Option.none
 here:∀m,m<n->arr m=true->ρ m=Option.none\/∃i,on m=Option.some i
section
variable {n:Nat}{ds:List Due}{ρ on:Nat->Option Nat}{arr:Nat->Bool}{τ:Nat->Nat}
noncomputable def above (τ:Nat->Nat):Nat->Nat
 | 0=>0
 | n+1=>max (above τ n) (τ n+1)
set_option genInjectivity false in
set_option genSizeOf false in
structure Pass(ds:List Due)(ρ:Nat->Option Nat)(arr arr':Nat->Bool)(i:Nat):Prop where
 up:∀m,arr m=true->arr' m=true
 all:∀j d m,j<i->zrq ds ρ m j d->arr d.q.toNat=true->arr' m=true
noncomputable def zvh (arr:Nat->Bool) (n:Nat):Nat:=nsum (λm=>if arr m=true then 1 else 0) n
end
section
variable {n:Nat}{ds:List Due}{l:Nat->Rat}{arr arr':Nat->Bool}
end
inductive Road(ds:List Due)(on:Nat->Option Nat):Nat->List Nat->Prop
 | nil {m:Nat}:on m=none->Road ds on m []
 | cons {m i:Nat} {d:Due} {is:List Nat}:on m=some i->ds[i]?=some d->Road ds on d.q.toNat is->Road ds on m (i :: is)
noncomputable def blL (n:Nat) (w:Nat->Bool):List V:="0i".map λm=>V.bl (w m)
def zsN{w:Nat->Bool}:(blL n w).length=n:=by simp[blL]
def zmO{w:Nat->Bool}(h:i<n):(blL n w)[i]?=some (V.bl (w i)):=by simp[blL,h]
def zk1{w:Nat->Bool}:blL (n+1) w=blL n w++[V.bl (w n)]:=by unfold blL;rw[yA,yi];rfl
set_option genInjectivity false
set_option genSizeOf false
structure ArrB(n:Nat)(ds:List Due)(ρ on:Nat->Option Nat)(arr:Nat->Bool)(τ:Nat->Nat):Prop where
 A:Arr n ds ρ on arr τ
 B:∀m,m<n->τ m<=zvh arr n
section
variable {n i:Nat}{ds:List Due}{ρ on:Nat->Option Nat}{arr arr':Nat->Bool}{τ:Nat->Nat}
end
def zoS{ps:List Int}:zpi ds (zal n ds ps k)=zak n (stp ds "0c".1):=by
 show zak (zal n ds ps k).length _=_;rw[zdd];exact zeT λi hi=>by rw[zd2 hi];rfl
structure Roads(n:Nat)(ds:List Due)(on:Nat->Option Nat)(rds:List (List Nat)):Prop where
 len:rds.length=n
 road:∀m rd,rds[m]?=some rd->Road ds on m rd/\rd.length<=9
structure DeepV(ds:List Due)(qs:List Rat)(D:Nat):Prop where
 pos:0<D
 lay:∀q∈qs,DvB D q
 zs:sz ((D*zcf ds:Nat):Int)<=7800
def DeepV.szD{D:Nat}(h:DeepV ds qs D):sz ((D:Nat):Int)<=7800:=by
 have:=sz_le.mp h.zs
 refine zaH ?_;rw[y9]at this ⊢;have h2:=Nat.le_mul_of_pos_right D (zkz ds);lia
def DeepV.up{D:Nat}(h:DeepV ds qs D){x:Rat}(a:DvB (D*zcf ds) x):SzQ x 7857 7800:=a.sz (Nat.mul_pos h.pos (zkz ds)) h.zs
def DeepV.pay{D:Nat}(h:DeepV ds qs D)(hd:∀d∈ds,zo qs.length d/\d.a<=1000000000000):∀d∈ds,Dv (D*zcf ds) (zX ds qs d)/\0<=zX ds qs d/\zX ds qs d<=((1000000000000:Int):Rat):=λd b=>by
 obtain⟨⟨p0,g,j,l,n,k,i,f,a1⟩,a2⟩:=hd d b;have e:∀r,r<3->0<=zA ds d.p.toNat r:=λr _=>(zdc (m:=d.p.toNat) (r:=r) ds λd h=>⟨(hd d h).1.2.2.2.2.2.2.2.1,(hd d h).2⟩).1;have c:=zpM h.lay e (show d.p.toNat<qs.length by lia) (show d.r.toNat<3 by lia) f;refine⟨zsT h.lay b ⋯,c.1,?_⟩
 have:((d.a:Int):Rat)<=((1000000000000:Int):Rat):=zaE a2
 have:=c.2
 grind
def DeepV.gain{D:Nat}(h:DeepV ds qs D)(hd:∀d∈ds,zo qs.length d/\d.a<=1000000000000)(m:Nat):∀q∈zby ds (zX ds qs) m,Dv (D*zcf ds) q/\0<=q/\q<=((1000000000000:Int):Rat):=λq c=>by
 obtain⟨d,b,e⟩:=zpc c;rw[e];exact h.pay hd d b
def DeepV.got{D:Nat}(h:DeepV ds qs D)(hd:∀d∈ds,zo qs.length d/\d.a<=1000000000000)(hl:ds.length<=64)(m:Nat):Dv (D*zcf ds) (zL ds (zX ds qs) m)/\0<=zL ds (zX ds qs) m/\zL ds (zX ds qs) m<=((64000000000000:Int):Rat):=by
 have b:(zby ds (zX ds qs) m).length<=64:=yj zfZ hl;have h1:=zi6 (zby ds (zX ds qs) m).length (h.gain hd m) (yg _);rw[yw]at h1;refine⟨h1.1,h1.2.1,?_⟩;have h2:=h1.2.2
 have:((1000000000000*((zby ds (zX ds qs) m).length:Int):Int):Rat)<=((64000000000000:Int):Rat):=zaE ⋯
 show zbB _<=_;grind
noncomputable def LayV (q:Rat):Prop:=∃D:Nat,0<D/\sz ((D:Nat):Int)<=7800/\DvB D q
noncomputable def DeepG (ds:List Due) (qs:List Rat):Prop:=∃D,DeepV ds qs D
def LayV.szq(h:LayV q):SzQ q 7857 7800:=by obtain⟨D,b,a,h⟩:=h;exact h.sz b a
def LayV.rest(h:LayV q)(a:∀j,j<3->0<=f j/\f j<=100000000000000)(b:r<=3):SzQ (zaB f q r) 7857 7800:=by
 obtain⟨D,d,c,h⟩:=h;exact(zlG h (λj e=>(a j e).1) b).sz d c
def LayV.laid(h:LayV q)(a:∀j,j<3->0<=f j/\f j<=100000000000000)(b:r<3):SzQ (zac f q r) 7857 7800:=by
 obtain⟨D,d,c,h⟩:=h;exact(zqR h (λj e=>(a j e).1) b).sz d c
theorem DeepG.lay{ds:List Due}{qs:List Rat}(h:DeepG ds qs){q:Rat}(a:q∈qs):LayV q:=by
 obtain⟨D,h⟩:=h;exact⟨D,h.pos,h.szD,h.lay q a⟩
def DeepG.share(h:DeepG ds qs)(hd:∀d∈ds,zo qs.length d/\d.a<=1000000000000)(b:d∈ds)(e:qs[d.p.toNat]?=some q):SzQ (zad (zA ds d.p.toNat) q d.r.toNat) 7857 7800:=by
 obtain⟨D,h⟩:=h;obtain⟨⟨p0,f,i,l,n,k,g,j,a1⟩,a2⟩:=hd d b;have c:∀r,r<3->0<=zA ds d.p.toNat r:=λr _=>(zdc (m:=d.p.toNat) (r:=r) ds λd h=>⟨(hd d h).1.2.2.2.2.2.2.2.1,(hd d h).2⟩).1;have h1:=zn1 (h.lay q (yb e)) c (show d.r.toNat<3 by lia);exact h.up ⟨h1.1,h1.2.1,h1.2.2.dvd (Nat.mul_dvd_mul_left _ (zfG (F:=rkD ds) b))⟩
theorem DeepG.gain{ds:List Due}{qs:List Rat}(h:DeepG ds qs)(hd:∀d∈ds,zo qs.length d/\d.a<=1000000000000)(m:Nat):∀q∈zby ds (zX ds qs) m,OkQ q:=λq b=>by
 obtain⟨D,h⟩:=h;obtain⟨h1,h2,c⟩:=h.gain hd m q b;exact(h.up ⟨h2,by have:((1000000000000:Int):Rat)<=((100000000000000000:Int):Rat):=zaE "0a";grind,h1⟩).ok "0a" "0a"
def DeepG.sums(h:DeepG ds qs)(hd:∀d∈ds,zo qs.length d/\d.a<=1000000000000)(hl:ds.length<=64)(m:Nat):∀i,OkQ (zbB ((zby ds (zX ds qs) m).take i)):=λi=>by
 obtain⟨D,h⟩:=h;exact(h.up (zqB (h.gain hd m) (yj zfZ hl) i)).ok "0a" "0a"
theorem DeepG.got{ds:List Due}{qs:List Rat}(h:DeepG ds qs)(hd:∀d∈ds,zo qs.length d/\d.a<=1000000000000)(hl:ds.length<=64)(m:Nat):SzQ (zL ds (zX ds qs) m) 7857 7800:=by
 obtain⟨D,h⟩:=h;have h1:=h.got hd hl m;exact h.up ⟨h1.2.1,by have:((64000000000000:Int):Rat)<=((100000000000000000:Int):Rat):=zaE "0a";grind,h1.1⟩
def DeepG.next{ps:List Int}(h:DeepG ds qs)(hd:∀d∈ds,zo qs.length d/\d.a<=1000000000000)(hl:ds.length<=64){p:Int}(p0:0<=p)(b:p<=100000000000000)(m:Nat):SzQ (((p:Int):Rat)+zL ds (zX ds qs) m) 7857 7800:=by
 obtain⟨D,h⟩:=h;have h1:=h.got hd hl m;have h2:=zau p0;have c:=zaE b;refine h.up ⟨by grind,?_,(Dv.int _).add h1.1⟩
 have:((100000000000000:Int):Rat)+((64000000000000:Int):Rat)<=((100000000000000000:Int):Rat):=by rw[<- yO];exact zaE "0a"
 grind
noncomputable def zfT (K:Fg):Sp:=λvs H Q _=>∃(l y:Addr) (f:Nat->Int) (q:Rat),vs=[.ref l,.ref y]/\H l=some (.lst ((vec 3 f).map V.int))/\(∀j,j<3->0<=f j/\f j<=100000000000000)/\IsQ H y q/\LayV q/\∀p H' vs,H p=none->Same H H'->H' p=some (.lst vs)->IsQs H' vs ((List.range 3).map (zad f q))->Q (.ref p) H'
def zlV:=λ{K:Fg} {l y:Addr} {f:Nat->Int} {q:Rat} {H:Hp} {Q:VK} {E:XK} hl hf hy hs k=>@id (zfT K [.ref l,.ref y] H Q E) ⟨l,y,f,q,rfl,hl,hf,hy,hs,k⟩
noncomputable def zi1 (K:Fg):Sp:=λvs H Q _=>∃(a y:Addr) (ds:List Due) (ws:List V) (qs:List Rat),vs=[.ref a,.ref y]/\IsSh K H a ds/\H y=some (.lst ws)/\IsQs H ws qs/\(∀d∈ds,zo qs.length d/\d.a<=1000000000000)/\ds.length<=64/\qs.length<=9/\DeepG ds qs/\∀p H' vs,H p=none->Same H H'->H' p=some (.lst vs)->IsQs H' vs (ds.map (zX ds qs))->Q (.ref p) H'
def zoO:=λ{K:Fg} {a y:Addr} {ds:List Due} {ws:List V} {qs:List Rat} {H:Hp} {Q:VK} {E:XK} h hy hq hd hl h9 hs k=>@id (zi1 K [.ref a,.ref y] H Q E) ⟨a,y,ds,ws,qs,rfl,h,hy,hq,hd,hl,h9,hs,k⟩
noncomputable def zlC (K:Fg):Sp:=λvs H Q _=>∃(a y:Addr) (ds:List Due) (ws:List V) (qs:List Rat),vs=[.ref a,.ref y]/\IsSh K H a ds/\H y=some (.lst ws)/\IsQs H ws qs/\(∀d∈ds,zo qs.length d/\d.a<=1000000000000)/\ds.length<=64/\qs.length<=9/\DeepG ds qs/\∀p H' vs,H p=none->Same H H'->H' p=some (.lst vs)->IsQs H' vs ((List.range qs.length).map (zL ds (zX ds qs)))->Q (.ref p) H'
def zp7:=λ{K:Fg} {a y:Addr} {ds:List Due} {ws:List V} {qs:List Rat} {H:Hp} {Q:VK} {E:XK} h hy hq hd hl h9 hs k=>@id (zlC K [.ref a,.ref y] H Q E) ⟨a,y,ds,ws,qs,rfl,h,hy,hq,hd,hl,h9,hs,k⟩
def zrS(h:sz ((zcf ds ^ (3+1):Nat):Int)<=3000):sz ((zcf ds:Nat):Int)<=750:=by
 have h1:=sz_le.mp h;rw[y9]at h1;refine zaH ?_;rw[y9];refine yz λz=>?_;have h2:=Nat.pow_le_pow_left (Nat.le_of_not_lt z) (3+1);rw[<- Nat.pow_mul]at h2;exact absurd (yae h2 h1) (yY _)
section
variable {n:Nat}{ds:List Due}{ps:List Int}{W P:Rat}{k:Nat}
def Clr.deep(C:Clr n ds ps W P)(f:sz ((zcf ds:Nat):Int)<=750)(h:COk n ds (pQ ps) (prodN (λ_=>W) n*P*W) k "0c".1 "0c".2):DeepG ds (zal n ds ps k):=by
 obtain⟨D,e,d,hl,_⟩:=C.dv h;refine⟨D,e,λq c=>?_,?_⟩
 ·obtain⟨i,hi,rfl⟩:=y8.mp c;have a:=yP.mp hi;refine⟨h.inv.lo i a,yR (h.inv.hi i a) (zaE ?_),hl i a⟩
  have:=(C.cum i (yg 3)).2
  lia
 ·rw[Int.natCast_mul];have b:sz ((D:Nat):Int)<=7001:=zaH (by
   rw[y9];exact yae d (ybb "0a" "0a"))
  exact yj (zcq b f) "0a"
end
noncomputable def zdE (ds:List Due) (ps:List Int) (qs:List Rat) (m:Nat):Rat:=((ps.getD m 0:Int):Rat)+zL ds (zX ds qs) m-qs.getD m 0
abbrev zcJ(ds:List Due)(ps:List Int)(qs:List Rat):List Rat:=(List.range ps.length).map (zdE ds ps qs)
noncomputable def zkx (K:Fg):Sp:=λvs H Q _=>∃(a u y:Addr) (ds:List Due) (ps:List Int) (ws:List V) (qs:List Rat),vs=[.ref a,.ref u,.ref y]/\IsSh K H a ds/\H u=some (.lst (ps.map V.int))/\H y=some (.lst ws)/\IsQs H ws qs/\(∀d∈ds,zo qs.length d/\d.a<=1000000000000)/\ds.length<=64/\qs.length<=9/\ps.length=qs.length/\zcC ps/\DeepG ds qs/\∀p H' vs,H p=none->Same H H'->H' p=some (.lst vs)->IsQs H' vs (zcJ ds ps qs)->Q (.ref p) H'
def zm0:=λ{K:Fg} {a u y:Addr} {ds:List Due} {ps:List Int} {ws:List V} {qs:List Rat} {H:Hp} {Q:VK} {E:XK} h hu hy hq hd hl h9 hpl hp hs k=>@id (zkx K [.ref a,.ref u,.ref y] H Q E) ⟨a,u,y,ds,ps,ws,qs,rfl,h,hu,hy,hq,hd,hl,h9,hpl,hp,hs,k⟩
section
variable {n:Nat}{ds:List Due}{ps ps':List Int}{W P W' P':Rat}{k k':Nat}
def ztx(C:Clr n ds ps W P)(s:sz ((zcf ds:Nat):Int)<=750)(h:COk n ds (pQ ps) (prodN (λ_=>W) n*P*W) k "0c".1 "0c".2)(j:zcw n ds "0c".1 "0c".2):∀q∈zcJ ds ps (zal n ds ps k),0<=q/\SzQ q 7857 7800:=λq l=>by
 obtain⟨m,o,rfl⟩:=y8.mp l;have b:m<n:=by have:=yP.mp o;rw[C.pl]at this;exact this
 obtain⟨D,dp⟩:=C.deep s h;have hd:∀d∈ds,zo (zal n ds ps k).length d/\d.a<=1000000000000:=by rw[zdd];exact λd i=>⟨C.hd d i,C.ha d i⟩
 have g:=dp.got hd C.hl m;have t:(zal n ds ps k).getD m 0=zbG ds ps (zal n ds ps k) m:=by
  rw[show(zal n ds ps k).getD m 0=((List.range ps.length).map (zbG ds ps (zal n ds ps k))).getD m 0 by rw[C.next h j],zla (by rw[C.pl];exact b)]
 have e:(zal n ds ps k).getD m 0∈zal n ds ps k:=by rw[zd2 b];exact y8.mpr ⟨m,yP.mpr b,rfl⟩
 have hl:=dp.lay _ e;have le:(zal n ds ps k).getD m 0<=((ps.getD m 0:Int):Rat)+zL ds (zX ds (zal n ds ps k)) m:=by
  rw[t];unfold zbG;split<;>grind
 obtain⟨p,c⟩:=zC (show m<ps.length by rw[C.pl];exact b);have f:ps.getD m 0=p:=by rw[yf,c];rfl
 have r:=zaE (C.pz p (yb c)).2;unfold zdE;refine⟨by grind,dp.up ⟨by grind,?_,((Dv.int _).add g.1).sub (hl.2.2.dvd (Nat.dvd_mul_right _ _))⟩⟩;rw[f]
 have:((100000000000000:Int):Rat)+((64000000000000:Int):Rat)<=((100000000000000000:Int):Rat):=by rw[<- yO];exact zaE "0a"
 have:=hl.1
 have:=g.2.2
 grind
end
def zsS(F:Nat->Rat):zbB ("0i".map F)=sm n F:=by
 rw[zic]
 induction n with
 | zero=>rfl
 | succ n ih=>show zqc n F+F n=sm n F+F n;rw[ih]
section
variable {n:Nat}{ds:List Due}{ps:List Int}{W P:Rat}{k:Nat}
def zqF(C:Clr n ds ps W P)(h:COk n ds (pQ ps) (prodN (λ_=>W) n*P*W) k "0c".1 "0c".2):zbB (zcJ ds ps (zal n ds ps k))=((zS ps:Int):Rat):=by
 rw[zsS,C.pl];obtain⟨l,hl⟩:∃l,l="0c".1:=⟨_,rfl⟩
 have I:=h.inv;rw[<- hl]at I;have v:sm n (zdE ds ps (zal n ds ps k))=sm n (λm=>(pQ ps m+zL ds (zaq ds l) m)+(-1)*l m):=sm_congr λm a=>by
  unfold zdE;rw[zd2 a,zeM ds (zoI C.hd),<- hl];grind
 have c:∀d∈ds,0<=d.q/\d.q<n:=λd a=>⟨(C.hd d a).2.2.1,(C.hd d a).2.2.2.1⟩
 have e:∀d∈ds,0<=d.p/\d.p<n:=λd a=>⟨(C.hd d a).1,(C.hd d a).2.1⟩
 have r:=zoi (n:=n) (D:=λ_=>true) (g:=zaq ds l) ds c;have j:=zmq (n:=n) (D:=λ_=>true) (g:=zaq ds l) ds e;have t:sm n (λm=>zL ds (zaq ds l) m)=sm n l:=by
  have a1:sm n (λm=>zL ds (zaq ds l) m)=sm n (λi=>if(λ_:Nat=>true) i=true then zL ds (zaq ds l) i else 0):=sm_congr λi _=>by rw[if_pos rfl]
  have a2:sm n l=sm n (λi=>if(λ_:Nat=>true) i=true then zbP ds (i:Int) (zaq ds l)else 0):=sm_congr λi hi=>by rw[if_pos rfl,zhc C.hd (I.lo i hi) (I.hi i hi)]
  rw[a1,a2,r,j]
 have s:sm n (λm=>(pQ ps m+zL ds (zaq ds l) m)+(-1)*l m)=sm n (pQ ps)+sm n (λm=>zL ds (zaq ds l) m)+sm n (λm=>(-1)*l m):=by rw[sm_add,sm_add]
 have o:sm n (λm=>(-1)*l m)=(-1)*sm n l:=by
  have:=sm_lin (f:=l) (g:=λ_=>0) (-1) 0 n
  have z:sm n (λm=>(-1)*l m)=sm n (λi=>(-1)*l i+0*(λ_=>(0:Rat)) i):=sm_congr λi _=>by grind
  rw[z,this];grind
 have u:sm n (pQ ps)=((zS ps:Int):Rat):=by
  have hp:=C.pl
  have:ps=vec n (λm=>ps.getD m 0):=by
   apply yab;intro i;by_cases hi:i<n
   ·rw[zK hi];obtain⟨p,b⟩:=zC (show i<ps.length by lia);rw[b,yf,b];rfl
   ·rw[yG ⋯,yG (by rw[zG];lia)]
  rw[this];rw[zkH]
  first | done | (refine sm_congr λi hi=>?_;unfold pQ;rw[<- this])
 rw[v,s,o,u,t];grind
end
section
variable {n:Nat}{ds:List Due}{ps:List Int}{W P:Rat}{k:Nat}
end
open PySem
theorem zfe{ds:List Due}{n:Nat}{g g':Nat->Bool}(hd:∀d∈ds,zo n d)(h:∀m,m<n->g m=g' m)(m:Nat):∀i,zbe ds g i m=zbe ds g' i m
 | 0=>rfl
 | i+1=>by
  rw[zbe,zbe];cases e:ds[i]? with
  | none=>exact zfe hd h m i
  | some d=>
   obtain⟨p0,f,b,c,_⟩:=hd d (yb e);have a:useful g m d↔useful g' m d:=by unfold useful;rw[h d.p.toNat ⋯,h d.q.toNat ⋯]
   simp only;by_cases u:useful g m d
   ·rw[if_pos u,if_pos (a.mp u)]
   ·rw[if_neg u,if_neg (λz=>u (a.mpr z))];exact zfe hd h m i
def zeX{t:Nat}(h:goF ds (t+1) m=true):goF ds t m=true:=by
 rw[goF]at h;cases e:zbe ds (goF ds t) ds.length m with
 | none=>rw[e]at h;cases h
 | some j=>
  obtain⟨d,_,b,_,a,_⟩:=zdx e
  rwa [show d.p.toNat=m by lia]at a
noncomputable def zbY (n:Nat) (g:Nat->Bool):Nat:=("0i".filter g).length
def zdw{g:Nat->Bool}:zbY (n+1) g=zbY n g+if g n=true then 1 else 0:=by
 unfold zbY;rw[yA,yaD,yc];congr 1;by_cases h:g n=true
 ·rw[if_pos h];simp[h]
 ·rw[if_neg h];simp[h]
def zrQ{p q:Nat->Bool}(h:∀m,m<n->q m=true->p m=true):zbY n q<=zbY n p:=by
 induction n with
 | zero=>exact yg _
 | succ n ih=>
  have:=ih λm b=>h m ⋯
  have a:=h n ⋯;rw[zdw,zdw];by_cases e:q n=true
  ·rw[if_pos e,if_pos (a e)];lia
  ·rw[if_neg e];split<;>lia
def ziP{p q:Nat->Bool}(h:∀m,m<n->q m=true->p m=true)(a:∃m,m<n/\p m=true/\q m=false):zbY n q<zbY n p:=by
 induction n with
 | zero=>obtain⟨m,b,_⟩:=a;lia
 | succ n ih=>
  obtain⟨m,b,h1,h2⟩:=a;rw[zdw,zdw];by_cases e:m=n
  ·subst e
   have:=zrQ (n:=m) λk d=>h k ⋯
   rw[if_pos h1,if_neg (by rw[h2];decide)];lia
  ·have:=ih (λk d=>h k ⋯) ⟨m,⋯,h1,h2⟩
   have c:=h n ⋯;by_cases e:q n=true
   ·rw[if_pos e,if_pos (c e)];lia
   ·rw[if_neg e];split<;>lia
def zql:zbY n (λ_=>true)=n:=by
 induction n with
 | zero=>rfl
 | succ n ih=>rw[zdw,ih,if_pos rfl]
theorem zlg{ds:List Due}{n:Nat}(hd:∀d∈ds,zo n d):∀t,(∀m,m<n->goF ds t m=goF ds (t+1) m)\/zbY n (goF ds (t+1))+(t+1)<=n
 | 0=>by
  by_cases s:∀m,m<n->goF ds 0 m=goF ds 1 m
  ·exact .inl s
  ·refine .inr ?_
   have:zbY n (goF ds 1)<zbY n (goF ds 0):=ziP (λm _=>zeX) (yz λz=>s λm a=>by
    cases e:goF ds 1 m with
    | true=>exact zeX e
    | false=>exact absurd ⟨m,a,rfl,e⟩ z)
   have b:zbY n (goF ds 0)=n:=zql;show zbY n (goF ds 1)+1<=n;lia
 | t+1=>by
  rcases zlg hd t with s | c
  ·refine .inl λm a=>?_
   show(zbe ds (goF ds t) ds.length m).isSome=(zbe ds (goF ds (t+1)) ds.length m).isSome
   rw[zfe hd s m ds.length]
  ·by_cases s:∀m,m<n->goF ds (t+1) m=goF ds (t+2) m
   ·exact .inl s
   ·refine .inr ?_
    have:zbY n (goF ds (t+2))<zbY n (goF ds (t+1)):=ziP (λm _=>zeX) (yz λz=>s λm a=>by
     cases e:goF ds (t+2) m with
     | true=>exact zeX e
     | false=>
      cases e':goF ds (t+1) m with
      | false=>rfl
      | true=>exact absurd ⟨m,a,e',e⟩ z)
    show zbY n (goF ds (t+2))+(t+2)<=n;lia
def ztO(hd:∀d∈ds,zo n d)(o:m<n)(h:zaw ds n m=some j):∃d,ds[j]?=some d/\d.p=(m:Int)/\0<d.a/\∃k,zaw ds n d.q.toNat=some k:=by
 obtain⟨t,rfl⟩:∃t,n=t+1:=⟨n-1,⋯⟩
 have g:goF ds (t+1) m=true:=by rw[zaw]at h;rw[goF,h];rfl
 obtain⟨d,b,i,r,w,l⟩:=zdx (show zbe ds (goF ds t) ds.length m=some j from h);obtain⟨p0,u,v,x,_⟩:=hd d (yb b);refine⟨d,b,i,r,?_⟩;have st:∀m,m<t+1->goF ds t m=goF ds (t+1) m:=by
  rcases zlg hd t with s | c
  ·exact s
  ·have:0<zbY (t+1) (goF ds (t+1)):=by
    have y:zbY (t+1) (λ_=>false)=0:=by unfold zbY;simp
    have:=ziP (n:=t+1) (p:=goF ds (t+1)) (q:=λ_=>false) (λ_ _ z=>by cases z) ⟨m,o,g,rfl⟩
    lia
   lia
 have f:goF ds (t+1) d.q.toNat=true:=by rw[<- st _ ⋯];exact l
 have e:(zaw ds (t+1) d.q.toNat).isSome=true:=f;exact ybj.mp e
noncomputable def zck (ds:List Due) (n m:Nat):Nat:=match zaw ds n m with
 | some j=>match ds[j]? with
  | some d=>d.q.toNat
  | none=>0
 | none=>0
noncomputable def zbE (ds:List Due) (n m:Nat):Int:=match zaw ds n m with
 | some j=>j
 | none=>0
def zeF(hd:∀d∈ds,zo n d)(c:m<n)(h:zaw ds n m≠none):∃j d,zaw ds n m=some j/\ds[j]?=some d/\d.p=(m:Int)/\0<d.a/\d.q=(zck ds n m:Int)/\zck ds n m<n/\zaw ds n (zck ds n m)≠none/\zbE ds n m=(j:Int):=by
 cases e:zaw ds n m with
 | none=>exact absurd e h
 | some j=>
  obtain⟨d,b,hp,ha,k,f⟩:=ztO hd c e;obtain⟨p0,o,i,l,_⟩:=hd d (yb b);have en:zck ds n m=d.q.toNat:=by unfold zck;rw[e];simp only;rw[b]
  have g:zbE ds n m=(j:Int):=by unfold zbE;rw[e]
  exact⟨j,d,rfl,b,hp,ha,by rw[en];lia,by rw[en];lia,by rw[en,f];exact Option.some_ne_none k,g⟩
noncomputable def goL (ds:List Due) (n i:Nat):List Nat:=(List.range i).filter λm=>(zaw ds n m).isSome
def zqG:goL ds n (i+1)=goL ds n i++if(zaw ds n i).isSome=true then[i] else[]:=by
 unfold goL;rw[yA,yaD];congr 1;by_cases h:(zaw ds n i).isSome=true
 ·rw[if_pos h];simp[h]
 ·rw[if_neg h];simp[h]
def mem_goL:m∈goL ds n i↔m<i/\(zaw ds n m).isSome=true:=by unfold goL;simp
structure Walked(ds:List Due)(n:Nat)(ms:List Nat)(x:Nat):Prop where
 nd:ms.Nodup
 ok:∀m∈ms,m<n/\zaw ds n m≠none
 at':x<n/\zaw ds n x≠none
 nx:∀(i m:Nat),ms[i]?=some m->zck ds n m=(ms++[x])[i+1]?.getD 0
def Walked.step{x:Nat}(hd:∀d∈ds,zo n d)(W:Walked ds n ms x)(o:x∉ms):Walked ds n (ms++[x]) (zck ds n x):=by
 obtain⟨j,d,h1,h2,p,q,r,l,k,s⟩:=zeF hd W.at'.1 W.at'.2;refine⟨yaz.mpr ⟨W.nd,by simp,λa ha b g e=>o (by rw[yu]at g;subst g;subst e;exact ha)⟩,λm c=>?_,⟨l,k⟩,λi m c=>?_⟩
 ·rcases yL.mp c with h | h
  ·exact W.ok m h
  ·rw[yu.mp h];exact W.at'
 ·by_cases hi:i<ms.length
  ·have e:=W.nx i m (by rw[yH hi]at c;exact c);rw[e,yH (l₁:=ms++[x]) (l₂:=[zck ds n x]) (by rw[yc];show _<_+1;lia)]
  ·have f:i=ms.length:=by
    have:=(yh.mp c).1
    rw[yc]at this
    have:i<ms.length+1:=this
    lia
   subst f;rw[yZ (yg _),Nat.sub_self]at c;cases c;rw[yZ (by rw[yc];exact yg _)]
   simp
noncomputable def zbK (ms:List Nat):List Int:=ms.map λm:Nat=>(m:Int)
def zlF(ms ks:List Nat):zbK (ms++ks)=zbK ms++zbK ks:=by unfold zbK;rw[yi]
def natI_mem{x:Nat}:(x:Int)∈zbK ms↔x∈ms:=by
 unfold zbK;rw[y8];exact⟨fun⟨y,hy,e⟩=>by rwa [show x=y by lia],λh=>⟨x,h,rfl⟩⟩
def zdT:(zbK ms).length=ms.length:=by unfold zbK;rw[ya]
def zg8(h:ms[i]?=some m):(zbK ms)[i]?=some (m:Int):=by unfold zbK;rw[ye,h];rfl
noncomputable def RingOf (ds:List Due) (n:Nat) (rs:List Int):Prop:=(rs=[]/\∀m,m<n->zaw ds n m=none)\/∃ms:List Nat,ms≠[]/\ms.Nodup/\(∀m∈ms,m<n/\zaw ds n m≠none)/\rs=ms.map (zbE ds n)/\∀(i m:Nat),ms[i]?=some m->zck ds n m=ms[(i+1)%ms.length]?.getD 0
def Walked.ring{x:Nat}(W:Walked ds n ms x)(b:ms[j]?=some x):RingOf ds n ((ms.drop j).map (zbE ds n)):=by
 have c:j<ms.length:=(yh.mp b).1;refine .inr ⟨ms.drop j,λz=>?_,W.nd.sublist (List.drop_sublist ..),λm a=>W.ok m (List.mem_of_mem_drop a),rfl,λi m a=>?_⟩
 ·have:=congrArg List.length z
  rw[y3,List.length_nil]at this;lia
 ·rw[ya1]at a;have hl:=(yh.mp a).1;rw[W.nx (j+i) m a,y3];by_cases e:j+i+1<ms.length
  ·rw[yH e,ybZ ⋯,ya1];rfl
  ·have d:j+i+1=ms.length:=by lia
   rw[d,yZ (yg _),Nat.sub_self,show i+1=ms.length-j by lia,Nat.mod_self,ya1,Nat.add_zero,b];rfl
noncomputable def zlJ (K:Fg):Sp:=λvs H Q _=>∃(n:Int) (a:Addr) (ds:List Due),vs=[.int n,.ref a]/\IsSh K H a ds/\1<=n/\n<=100/\ds.length<=1000/\(∀d∈ds,zo n d)/\∀p H' rs,H p=none->Same H H'->H' p=some (.lst (List.map V.int rs))->RingOf ds n.toNat rs->Q (.ref p) H'
def zra:=λ{K:Fg} {n:Int} {a:Addr} {ds:List Due} {H:Hp} {Q:VK} {E:XK} h h0 h1 hl hd q=>@id (zlJ K [.int n,.ref a] H Q E) ⟨n,a,ds,rfl,h,h0,h1,hl,hd,q⟩
def zp5{ms:List Int}(h:j<=ms.length):zc9 (ms.map V.int) (some (j:Int)) none=(ms.drop j).map V.int:=by
 unfold zc9;rw[HT.sIx_nat,HT.sIx_none,ya,Nat.min_eq_left h,<- List.map_drop,yaf (by rw[ya,y3];exact yg _)]
noncomputable def zrE (d:Due):Due:=⟨d.q,d.p,d.r,d.a⟩
noncomputable def ztY (ds:List Due):List Due:=ds.map zrE
noncomputable def zoc (ds:List Due) (S:Nat->Prop):Prop:=∀m,S m->∃d∈ds,d.p=(m:Int)/\0<d.a/\S d.q.toNat
def goF_step{t:Nat}:goF ds (t+1) m=true↔∃d∈ds,d.p=(m:Int)/\0<d.a/\goF ds t m=true/\goF ds t d.q.toNat=true:=by
 rw[goF];constructor
 ·intro h;cases e:zbe ds (goF ds t) ds.length m with
  | none=>rw[e]at h;cases h
  | some j=>
   obtain⟨d,hd,f,c,b,g⟩:=zdx e;rw[show d.p.toNat=m by lia]at b;exact⟨d,yb hd,f,c,b,g⟩
 ·rintro⟨d,hd,f,c,b,g⟩
  cases e:zbe ds (goF ds t) ds.length m with
  | some j=>rfl
  | none=>
   obtain⟨k,i,l⟩:=yB hd;exact absurd ⟨f,c,by rw[show d.p.toNat=m by lia];exact b,g⟩ (zfy e k d i (by rw[yk i,l]))
theorem zeN{ds:List Due}{S:Nat->Prop}(h:zoc ds S):∀t m,S m->goF ds t m=true
 | 0,_,_=>rfl
 | t+1,m,s=>by
  obtain⟨d,hd,c,a,b⟩:=h m s;exact goF_step.mpr ⟨d,hd,c,a,zeN h t m s,zeN h t _ b⟩
structure Round(ds:List Due)(n:Nat)(ms:List Nat):Prop where
 ne:ms≠[]
 nd:ms.Nodup
 ok:∀m∈ms,m<n/\zaw ds n m≠none
 nx:∀(i m:Nat),ms[i]?=some m->zck ds n m=ms[(i+1)%ms.length]?.getD 0
def RingOf.cases{rs:List Int}(h:RingOf ds n rs):(rs=[]/\∀m,m<n->zaw ds n m=none)\/∃ms,Round ds n ms/\rs=ms.map (zbE ds n):=by
 rcases h with h | ⟨ms,h1,h2,a,b,c⟩
 ·exact .inl h
 ·exact .inr ⟨ms,⟨h1,h2,a,c⟩,b⟩
def Round.back(R:Round ds n ms)(h:m∈ms):∃b∈ms,zck ds n b=m:=by
 obtain⟨i,hi,f⟩:=yB h;have d:ms[i]?=some m:=by rw[yk hi,f]
 have c:∃j,j<ms.length/\(j+1)%ms.length=i:=by
  by_cases e:i=0
  ·exact⟨ms.length-1,⋯,by rw[show ms.length-1+1=ms.length by lia,Nat.mod_self,e]⟩
  ·exact⟨i-1,⋯,by rw[show i-1+1=i by lia,ybZ hi]⟩
 obtain⟨j,g,k⟩:=c;obtain⟨b,a⟩:=zC g;exact⟨b,yb a,by rw[R.nx j b a,k,d];rfl⟩
def Round.closed(hd:∀d∈ds,zo n d)(R:Round ds n ms):zoc (ztY ds) λm=>m∈ms:=by
 intro m b;obtain⟨a,h',e⟩:=R.back b;obtain⟨j,d,h,f,i,g,c,k,l,o⟩:=zeF hd (R.ok a h').1 (R.ok a h').2;refine⟨zrE d,y8.mpr ⟨d,yb f,rfl⟩,by show d.q=_;rw[c,e],g,?_⟩;show d.p.toNat∈ms
 rwa [show d.p.toNat=a by lia]
noncomputable def zkh (ds:List Due) (n t:Nat):List Nat:="0i".filter λm=>goF (ztY ds) t m
noncomputable def Left (es:List Due) (ls:List Int) (ds:List Due):Prop:=ls.length=es.length/\ds=zk es λi=>ls.getD i 0
def Left.self(ds:List Due):Left ds (ds.map Due.a) ds:=by
 refine⟨ya ..,?_⟩;unfold zk;refine yab λi=>?_;rw[List.getElem?_mapIdx];cases e:ds[i]? with
 | none=>rfl
 | some d=>
  have:(ds.map Due.a).getD i 0=d.a:=by rw[yf,ye,e];rfl
  show some d=some (⟨d.p,d.q,d.r,(ds.map Due.a).getD i 0⟩:Due);rw[this]
open PySem PySem.Spec PyProof.Rows
section
variable {X:Cx}
noncomputable def zhw (K:Fg):List V->Hp->VK->Prop:=λxs H Q=>∃a ns,xs=[.ref a]/\SqL K H a (List.map V.int ns)/\ns≠[]/\∀x,x∈ns->(∀y∈ns,x<=y)->Q (.int x) H
def zjt(E:X.calm=true):CallR X (.builtin "min") (zhw X.K):=by
 intro pins s σ H xs us Q I r h;obtain⟨a,ns,rfl,D,c,q⟩:=h;obtain⟨u,rfl,J⟩:=vals1 r;cases J;obtain⟨its,B,pl,hl,d⟩:=I.walk D;refine call_min_walkS (wpAny_pyIter_list pl ?_);have k:a≠s.heap.objs.size:=yv d;have C:(its.toArray).size=ns.length:=by rw[ya]at hl;simpa using hl
 have f:0<ns.length:=ybE.mpr c;refine⟨_,_,_,_,_,_,_,_,rfl,(Walks.list (prog:=X.prog) (w:=X.w) (A:=X.A.in1) (I.ok.hd E) s.heap.objs.size a k its.toArray).toS,⟨⟨_,Heap.get?_push_size _ rfl,rfl,rfl⟩,pl.at λo e=>Heap.get?_push_of_some _ e⟩,λb n=>?_,by rw[C];exact f,CmpOf.ints_lt (λi=>ns.getD i 0) (λi v l=>zkN B l),λv s' l g=>?_⟩
 ·rw[Heap.size_push];simp only[yy,yap,or_false]at n;rcases n with rfl | rfl
  ·exact yaU _
  ·exact ybp d
 ·obtain⟨t,rfl⟩:=zkN B l;obtain⟨b1,b2⟩:=argBest_lt (λi=>ns.getD i 0) (its.toArray.size-1);rw[C]at b1 b2 ⊢;have m:s'.gens=s.gens:=by have:=g.gens;first | exact this | exact this.symm
  have hd:=g.drawn;have x:=g.os;have p:Inv X pins σ H { s with heap:=s'.heap,toks:=s'.toks }:=I.kept λb o e=>g.heap b o (λz=>by
   simp only[yy,yap,or_false]at z;subst z;exact absurd (Heap.lt_size e) (yY _)) (Heap.get?_push_of_some _ e)
  have e:({ s with heap:=s'.heap,toks:=s'.toks }:Shared)=s':=by
   cases s';cases s;simp only at m hd x;subst m hd x;rfl
  rw[e]at p;refine⟨.int (ns.getD (argBest (λi j=>decide (ns.getD i 0<ns.getD j 0)) (ns.length-1)) 0),H,p,⟨t,rfl⟩,q _ ?_ λy F=>?_⟩
  ·exact yb (ze6 ⋯)
  ·obtain⟨i,hi,G⟩:=yB F
   have:=b2 i ⋯
   rwa [show ns.getD i 0=y by rw[yf,yk hi,G];rfl]at this
end
def znS(h:SqL K H a (ns.map V.int))(ne:ns≠[])(q:∀x,x∈ns->(∀y∈ns,x<=y)->Q (.int x) H):zhw K [.ref a] H Q:=⟨a,ns,rfl,h,ne,q⟩
def zqa(h1:SqL K H a (ns.map V.int))(h2:SqL K H b [])(c:ns≠[])(q:Q (.bl true) H):zdX K (.ref a) (.ref b) H Q:=by
 refine zhC (.lst h1 (zbx ns)) (.lst h2 .nil) (by rw[zc2,zbX];lia) ?_;cases ns with
 | nil=>exact absurd rfl c
 | cons n ns=>
  have:PyData.eqv (.list ((n :: ns).map PyData.int)) (.list [])=false:=by simp[PyData.eqv,PyData.eqvAll]
  rw[this];exact q
def zbv{g:Nat->Int}(h:∀i,i<es.length->f i=g i):zk es f=zk es g:=by
 refine yab λi=>?_;by_cases hi:i<es.length
 ·obtain⟨d,hd⟩:=zC hi;rw[za8 hd,za8 hd,h i hi]
 ·rw[yG (by rw[zU];lia),yG (by rw[zU];lia)]
def zkk(es:List Due)(g:Nat->Int):Left es (vec es.length g) (zk es g):=by
 refine⟨zG,zbv λi hi=>?_⟩;rw[yf,zK hi];rfl
noncomputable def amF (es:List Due) (i:Nat):Int:=(es.map Due.a).getD i 0
def zmQ(es:List Due):es.map Due.a=vec es.length (amF es):=by
 have:=zpq (es.map Due.a)
 rw[ya]at this;exact this
def zeZ(es:List Due):zk es (amF es)=es:=(Left.self es).2.symm
def zbT(h:es[i]?=some d):amF es i=d.a:=by
 unfold amF;rw[yf,ye,h];rfl
def zly{g:Nat->Int}(hi:i<es.length):amF (zk es g) i=g i:=by
 obtain⟨d,hd⟩:=zC hi;exact zbT (za8 (m:=g) hd)
def zd6{n:Int}{g:Nat->Int}(hd:∀d∈es,zo n d)(b:∀i,i<es.length->0<=g i/\g i<=100000000000000):∀d∈zk es g,zo n d:=by
 intro d h;obtain⟨i,hi,f⟩:=yB h;have a:i<es.length:=by rw[zU]at hi;exact hi
 obtain⟨e,c⟩:=zC a;have h2:=za8 (m:=g) c;rw[yk hi,f]at h2;cases h2;obtain⟨p0,j,l,p,q,o,k,r,a1⟩:=hd e (yb c);exact⟨p0,j,l,p,q,o,k,(b i a).1,(b i a).2⟩
noncomputable def zaT (ds:List Due) (n m:Nat):Nat:=(zbE ds n m).toNat
def Round.num{g:Nat->Int}(hd:∀d∈zk es g,zo n d)(R:Round (zk es g) n ms)(b:m∈ms) :
  ∃e,es[zaT (zk es g) n m]?=some e/\0<g (zaT (zk es g) n m)/\e.p=(m:Int)/\e.q=(zck (zk es g) n m:Int)/\zbE (zk es g) n m=(zaT (zk es g) n m:Int):=by
 obtain⟨j,d,r,a,h,k,i,s,t,f⟩:=zeF hd (R.ok m b).1 (R.ok m b).2;have l:zaT (zk es g) n m=j:=by unfold zaT;rw[f];rfl
 have o:j<es.length:=by have:=(yh.mp a).1;rwa [zU]at this
 obtain⟨e,c⟩:=zC o;rw[za8 c]at a;cases a;rw[l];exact⟨e,c,k,h,i,f⟩
def Round.num_inj{g:Nat->Int}(hd:∀d∈zk es g,zo n d)(R:Round (zk es g) n ms){b:Nat}(f:m∈ms)(c:b∈ms)(e:zaT (zk es g) n m=zaT (zk es g) n b):m=b:=by
 obtain⟨d,h1,_,h2,_⟩:=R.num hd f;obtain⟨d',a,_,h,_⟩:=R.num hd c;rw[<- e,h1]at a;cases a;lia
def Round.num_new{g:Nat->Int}(hd:∀d∈zk es g,zo n d)(R:Round (zk es g) n ms){x:Nat}(e:ms[k]?=some x):zaT (zk es g) n x∉(ms.take k).map (zaT (zk es g) n):=by
 intro z;obtain⟨y,b,f⟩:=y8.mp z;have a:=List.mem_of_mem_take b
 have:=R.num_inj hd a (yb e) f
 subst this;obtain⟨u,h,c⟩:=yB b;rw[yaC]at h;rw[ybT]at c;have a1:ms[u]?=some y:=by rw[yk ⋯,c]
 have:u=k:=zbF R.nd a1 e
 lia
noncomputable def zcH (g:Nat->Int) (a:List Nat) (f:Int) (i:Nat):Int:=if i∈a then g i-f else g i
def zjR{g:Nat->Int}{b:List Nat}{f:Int}(h:j∉b)(i:Nat):zcH g (b++[j]) f i=if i=j then g j-f else zcH g b f i:=by
 unfold zcH;by_cases e:i=j
 ·subst e;rw[if_pos (by simp),if_pos rfl]
 ·rw[if_neg e];by_cases a:i∈b
  ·rw[if_pos (by simp[a]),if_pos a]
  ·rw[if_neg (by simp[e,a]),if_neg a]
def zhq{g:Nat->Int}{a:List Nat}{f:Int}(h:j∉a):zcH g a f j=g j:=if_neg h
structure CutAt(es:List Due)(n:Nat)(g:Nat->Int)(ms:List Nat)(f:Int)(g':Nat->Int):Prop where
 rd:Round (zk es g) n ms
 le:∀m∈ms,f<=g (zaT (zk es g) n m)
 at':∃m∈ms,f=g (zaT (zk es g) n m)
 eq:∀i,g' i=zcH g (ms.map (zaT (zk es g) n)) f i
section
variable {es:List Due}{n:Nat}{g g':Nat->Int}{ms:List Nat}{f:Int}
def CutAt.pos(hd:∀d∈zk es g,zo n d)(C:CutAt es n g ms f g'):0<f:=by
 obtain⟨m,a,e⟩:=C.at';obtain⟨_,_,h,_⟩:=C.rd.num hd a;lia
def CutAt.bnd(hd:∀d∈zk es g,zo n d)(C:CutAt es n g ms f g')(b:0<=g i):0<=g' i/\g' i<=g i:=by
 have hp:=C.pos hd;rw[C.eq i];unfold zcH;by_cases e:i∈ms.map (zaT (zk es g) n)
 ·rw[if_pos e];obtain⟨m,a,rfl⟩:=y8.mp e
  have:=C.le m a
  lia
 ·rw[if_neg e];lia
noncomputable def zcn:Nat->(Nat->Int)->Nat
 | 0,_=>0
 | k+1,g=>zcn k g+if 0<g k then 1 else 0
theorem zkF:∀k g,zcn k g<=k
 | 0,_=>yg _
 | k+1,g=>by have:=zkF k g;unfold zcn;split<;>lia
theorem zmI:∀k,(∀i,i<k->g' i<=g i)->zcn k g'<=zcn k g
 | 0,_=>yg _
 | k+1,h=>by
  have h1:=zmI k λi hi=>h i ⋯;have h2:=h k ⋯;unfold zcn;split<;>split<;>lia
theorem zmu:∀k,(∀i,i<k->g' i<=g i)->∀j,j<k->0<g j->g' j<=0->zcn k g'<zcn k g
 | 0,_,j,hj,_,_=>absurd hj ⋯
 | k+1,h,j,hj,h1,h2=>by
  have b:=h k ⋯;by_cases e:j=k
  ·subst e;have a:=zmI j λi hi=>h i ⋯;unfold zcn;rw[if_pos h1,if_neg ⋯];lia
  ·have a:=zmu k (λi hi=>h i ⋯) j ⋯ h1 h2;unfold zcn;split<;>split<;>lia
def CutAt.cnt(hd:∀d∈zk es g,zo n d)(C:CutAt es n g ms f g')(b:∀i,i<es.length->0<=g i):zcn es.length g'<zcn es.length g:=by
 obtain⟨m,a,e⟩:=C.at';obtain⟨d,h1,h2,_⟩:=C.rd.num hd a;have c:=(yh.mp h1).1;refine zmu _ (λi hi=>(C.bnd hd (b i hi)).2) _ c h2 ?_;rw[C.eq,zcH,if_pos (y8.mpr ⟨m,a,rfl⟩)];lia
theorem zkZ{es:List Due}{g:Nat->Int}{j:Nat}{e:Due}{v:Int}(f:es[j]?=some e)(m:Nat):∀t,t<=es.length->zao ((zk es λi=>if i=j then v else g i).take t) m=zao ((zk es g).take t) m+if j<t/\e.p=(m:Int)then v-g j else 0
 | 0,_=>by rw[if_neg ⋯];rfl
 | t+1,ht=>by
  obtain⟨d,b⟩:=zC (show t<es.length by lia);rw[zbf b,zbf b,zbh,zbh,zkZ f m t ⋯]
  show(if d.p=(m:Int)then _+(if t=j then v else g t)else _)=(if d.p=(m:Int)then _+g t else _)+_
  by_cases c:t=j
  ·subst c;rw[f]at b;cases b;by_cases a:e.p=(m:Int)
   ·rw[if_pos a,if_pos a,if_pos rfl,if_neg ⋯,if_pos ⟨⋯,a⟩];lia
   ·rw[if_neg a,if_neg a,if_neg ⋯,if_neg (λz=>a z.2)]
  ·by_cases a:d.p=(m:Int)
   ·rw[if_pos a,if_pos a,if_neg c];by_cases z:j<t/\e.p=(m:Int)
    ·rw[if_pos z,if_pos ⟨⋯,z.2⟩];lia
    ·rw[if_neg z,if_neg (λy=>z ⟨⋯,y.2⟩)];lia
   ·rw[if_neg a,if_neg a];by_cases z:j<t/\e.p=(m:Int)
    ·rw[if_pos z,if_pos ⟨⋯,z.2⟩]
    ·rw[if_neg z,if_neg (λy=>z ⟨⋯,y.2⟩)]
theorem zhT{es:List Due}{g:Nat->Int}{j:Nat}{e:Due}{v:Int}(f:es[j]?=some e)(m:Nat):∀t,t<=es.length->zaM ((zk es λi=>if i=j then v else g i).take t) m=zaM ((zk es g).take t) m+if j<t/\e.q=(m:Int)then v-g j else 0
 | 0,_=>by rw[if_neg ⋯];rfl
 | t+1,ht=>by
  obtain⟨d,b⟩:=zC (show t<es.length by lia);rw[zbf b,zbf b,za7,za7,zhT f m t ⋯]
  show(if d.q=(m:Int)then _+(if t=j then v else g t)else _)=(if d.q=(m:Int)then _+g t else _)+_
  by_cases c:t=j
  ·subst c;rw[f]at b;cases b;by_cases a:e.q=(m:Int)
   ·rw[if_pos a,if_pos a,if_pos rfl,if_neg ⋯,if_pos ⟨⋯,a⟩];lia
   ·rw[if_neg a,if_neg a,if_neg ⋯,if_neg (λz=>a z.2)]
  ·by_cases a:d.q=(m:Int)
   ·rw[if_pos a,if_pos a,if_neg c];by_cases z:j<t/\e.q=(m:Int)
    ·rw[if_pos z,if_pos ⟨⋯,z.2⟩];lia
    ·rw[if_neg z,if_neg (λy=>z ⟨⋯,y.2⟩)];lia
   ·rw[if_neg a,if_neg a];by_cases z:j<t/\e.q=(m:Int)
    ·rw[if_pos z,if_pos ⟨⋯,z.2⟩]
    ·rw[if_neg z,if_neg (λy=>z ⟨⋯,y.2⟩)]
def zqJ{g:Nat->Int}{e:Due}{v:Int}(d:es[j]?=some e)(m:Nat):zan (zk es λi=>if i=j then v else g i) m=zan (zk es g) m+(if e.q=(m:Int)then v-g j else 0)-(if e.p=(m:Int)then v-g j else 0):=by
 have c:=(yh.mp d).1;have h1:=zkZ (g:=g) (v:=v) d m es.length (yg _);have h2:=zhT (g:=g) (v:=v) d m es.length (yg _);have f:∀g:Nat->Int,(zk es g).take es.length=zk es g:=λg=>yaf (by rw[zU];exact yg _);rw[f,f]at h1 h2;unfold zan;rw[h1,h2];by_cases a:e.q=(m:Int)
 ·rw[if_pos a,if_pos ⟨c,a⟩];by_cases b:e.p=(m:Int)
  ·rw[if_pos b,if_pos ⟨c,b⟩];lia
  ·rw[if_neg b,if_neg λz=>b z.2];lia
 ·rw[if_neg a,if_neg λz=>a z.2];by_cases b:e.p=(m:Int)
  ·rw[if_pos b,if_pos ⟨c,b⟩];lia
  ·rw[if_neg b,if_neg λz=>b z.2];lia
theorem zjd(hd:∀d∈zk es g,zo n d)(R:Round (zk es g) n ms)(f:Int)(m:Nat){p:Nat}(o:ms[0]?=some p):∀k,1<=k->k<=ms.length ->
  zan (zk es (zcH g ((ms.take k).map (zaT (zk es g) n)) f)) m=zan (zk es g) m+(if p=m then f else 0)-(if ms[k%ms.length]?.getD 0=m then f else 0)
 | 0,h,_=>absurd h ⋯
 | k+1,_,hk=>by
  obtain⟨x,c⟩:=zC (show k<ms.length by lia);obtain⟨e,u,v,q,t,w⟩:=R.num hd (yb c);have l:=R.nx k x c;have b:=R.num_new hd c;have r:zk es (zcH g ((ms.take (k+1)).map (zaT (zk es g) n)) f)=zk es (λi=>if i=zaT (zk es g) n x then g (zaT (zk es g) n x)-f else zcH g ((ms.take k).map (zaT (zk es g) n)) f i):=by
   rw[zai c,yi];exact zbv λi _=>zjR b i
  rw[r,zqJ u,zhq b,q,t,l];have j:(if(x:Int)=(m:Int)then g (zaT (zk es g) n x)-f-g (zaT (zk es g) n x)else 0)=(if x=m then -f else 0):=by
   by_cases a:x=m
   ·subst a;rw[if_pos rfl,if_pos rfl];lia
   ·rw[if_neg a,if_neg ⋯]
  have next:(if((ms[(k+1)%ms.length]?.getD 0:Nat):Int)=(m:Int)then g (zaT (zk es g) n x)-f-g (zaT (zk es g) n x)else 0)=(if ms[(k+1)%ms.length]?.getD 0=m then -f else 0):=by
   by_cases a:ms[(k+1)%ms.length]?.getD 0=m
   ·rw[if_pos a,if_pos ⋯];lia
   ·rw[if_neg a,if_neg ⋯]
  rw[j,next];by_cases s:k=0
  ·subst s;rw[o]at c;cases c
   have:zk es (zcH g ((ms.take 0).map (zaT (zk es g) n)) f)=zk es g:=zbv λi _=>if_neg (by simp)
   rw[this];split<;>split<;>lia
  ·rw[zjd hd R f m o k ⋯ ⋯,ybZ (show k<ms.length by lia),c];show _+_-(if x=m then f else 0)+_-_=_;split<;>split<;>split<;>lia
def CutAt.nets(hd:∀d∈zk es g,zo n d)(C:CutAt es n g ms f g')(m:Nat):zan (zk es g') m=zan (zk es g) m:=by
 have hl:0<ms.length:=ybE.mpr C.rd.ne;obtain⟨b,a⟩:=zC hl
 have:=zjd hd C.rd f m a ms.length hl (yg _)
 rw[yw,Nat.mod_self,a]at this;rw[zbv (f:=g') λi _=>C.eq i,this];show _+_-(if b=m then f else 0)=_;lia
end
noncomputable def Cuts (es:List Due) (n:Nat) (L:Nat->Nat->Int) (cs:List (List Nat × Int)):Prop:=∀(t:Nat) (c:List Nat × Int),cs[t]?=some c->CutAt es n (L t) c.1 c.2 (L (t+1))
section
variable {es:List Due}{n:Nat}{L:Nat->Nat->Int}{cs:List (List Nat × Int)}
theorem Cuts.bnd(hd:∀d∈es,zo n d)(C:Cuts es n L cs)(b:∀i,i<es.length->L 0 i=amF es i):∀t,t<=cs.length->∀i,i<es.length->0<=L t i/\L t i<=amF es i
 | 0,_,i,hi=>by
  obtain⟨e,a⟩:=zC hi;obtain⟨_,_,_,_,_,_,_,f,_⟩:=hd e (yb a);rw[b i hi,zbT a];lia
 | t+1,ht,i,hi=>by
  have h1:=C.bnd hd b t ⋯ i hi;obtain⟨c,g⟩:=zC (show t<cs.length by lia);have h2:=(C t c g).bnd (zd6 hd λi hi=>by
   have:=C.bnd hd b t ⋯ i hi
   obtain⟨e,a⟩:=zC hi;obtain⟨_,_,_,_,_,_,_,f,a1⟩:=hd e (yb a);rw[zbT a]at this;lia) h1.1
  lia
def Cuts.ok(hd:∀d∈es,zo n d)(C:Cuts es n L cs)(c:∀i,i<es.length->L 0 i=amF es i){t:Nat}(b:t<=cs.length):∀d∈zk es (L t),zo n d:=
 zd6 hd λi hi=>by
  have:=C.bnd hd c t b i hi
  obtain⟨e,a⟩:=zC hi;obtain⟨_,_,_,_,_,_,_,f,a1⟩:=hd e (yb a);rw[zbT a]at this;lia
theorem Cuts.nets(hd:∀d∈es,zo n d)(C:Cuts es n L cs)(a:∀i,i<es.length->L 0 i=amF es i)(m:Nat):∀t,t<=cs.length->zan (zk es (L t)) m=zan es m
 | 0,_=>by rw[zbv a,zeZ]
 | t+1,ht=>by
  obtain⟨c,b⟩:=zC (show t<cs.length by lia);rw[(C t c b).nets (C.ok hd a ⋯),C.nets hd a m t ⋯]
def Cuts.snoc{f:Int}{g':Nat->Int}(C:Cuts es n L cs)(c:CutAt es n (L cs.length) ms f g'):Cuts es n (λt=>if t=cs.length+1 then g' else L t) (cs++[(ms,f)]):=by
 intro t d hd;rw[yaH]at hd;split at hd
 ·rename_i a;show CutAt es n (if t=cs.length+1 then g' else L t) d.1 d.2 (if t+1=cs.length+1 then g' else L (t+1));rw[if_neg ⋯,if_neg ⋯];exact C t d hd
 ·rename_i a;have b:t-cs.length=0:=by
   cases e:t-cs.length with
   | zero=>rfl
   | succ k=>rw[e]at hd;cases hd
  rw[b]at hd;cases hd;obtain rfl:t=cs.length:=by lia
  show CutAt es n (if cs.length=cs.length+1 then g' else L cs.length) ms f (if cs.length+1=cs.length+1 then g' else L (cs.length+1));rw[if_neg ⋯,if_pos rfl];exact c
end
noncomputable def IsCuts (es:List Due) (n:Nat) (L:Nat->Nat->Int) (bad:List Addr) (cs:List (List Nat × Int)) (H:Hp) (vs:List V):Prop:=
 vs.length=cs.length/\∀(t:Nat) (c:List Nat × Int),cs[t]?=some c->∃(b r:Addr),vs[t]?=some (V.ref b)/\H b=some (HO.tup [.ref r,.int c.2])/\H r=some (.lst ((c.1.map (zbE (zk es (L t)) n)).map V.int))/\r∉bad
section
variable {es:List Due}{n:Nat}{L L':Nat->Nat->Int}{cs:List (List Nat × Int)}{bad:List Addr}{H H':Hp}{vs:List V}
def IsCuts.same(h:IsCuts es n L bad cs H vs)(e:Same H H'):IsCuts es n L bad cs H' vs:=
 ⟨h.1,λt c f=>by obtain⟨b,r,h1,h2,a,d⟩:=h.2 t c f;exact⟨b,r,h1,e.at h2,e.at a,d⟩⟩
def IsCuts.but(h:IsCuts es n L bad cs H vs)(g:LBut a H H')(ha:a∈bad):IsCuts es n L bad cs H' vs:=
 ⟨h.1,λt c f=>by obtain⟨b,r,h1,h2,e,d⟩:=h.2 t c f;exact⟨b,r,h1,g.tup h2,g.lst e (λz=>d (z▸ha)),d⟩⟩
def IsCuts.congr(h:IsCuts es n L bad cs H vs)(e:∀t,t<cs.length->L t=L' t):IsCuts es n L' bad cs H vs:=
 ⟨h.1,λt c d=>by
  obtain⟨b,r,h1,h2,a,f⟩:=h.2 t c d;rw[e t (yh.mp d).1]at a;exact⟨b,r,h1,h2,a,f⟩⟩
def IsCuts.snoc{r:Addr}{f:Int}(h:IsCuts es n L bad cs H vs)(o:H b=some (.tup [.ref r,.int f]))(i:H r=some (.lst ((ms.map (zbE (zk es (L cs.length)) n)).map V.int)))(p:r∉bad):IsCuts es n L bad (cs++[(ms,f)]) H (vs++[.ref b]):=by
 refine⟨by rw[yc,yc,h.1];rfl,λt c a=>?_⟩;rw[yaH]at a;split at a
 ·rename_i d;obtain⟨l,g,h1,h2,j,m⟩:=h.2 t c a;exact⟨l,g,by rw[yH (by rw[h.1];exact d)];exact h1,h2,j,m⟩
 ·rename_i d;have q:t-cs.length=0:=by
   cases e:t-cs.length with
   | zero=>rfl
   | succ k=>rw[e]at a;cases a
  rw[q]at a;cases a;obtain rfl:t=cs.length:=by lia
  exact⟨b,r,by rw[yZ (by rw[h.1];exact yg _),h.1,Nat.sub_self];rfl,o,i,p⟩
end
def Round.rest(hd:∀d∈ds,zo n d)(R:Round ds n ms):zkh ds n n≠[]:=by
 intro e;obtain⟨x,a⟩:=List.exists_mem_of_ne_nil _ R.ne;have g:=zeN (R.closed hd) n x a
 have:x∈zkh ds n n:=yaG.mpr ⟨yP.mpr (R.ok x a).1,g⟩
 rw[e]at this;cases this
def Cuts.none{L:Nat->Nat->Int}{cs:List (List Nat × Int)}(hd:∀d∈es,zo n d)(C:Cuts es n L cs)(a:∀i,i<es.length->L 0 i=amF es i)(h:zkh es n n=[]):cs=[]:=by
 cases cs with
 | nil=>rfl
 | cons c cs=>
  have:=(C 0 c rfl).rd
  rw[zbv a,zeZ]at this;exact absurd h (this.rest hd)
noncomputable def zoU (es:List Due) (n:Int) (a l c:Addr) (H:Hp) (q:Nat) (σ:St) (H':Hp):Prop:=∃(r:Addr) (rs:List Int) (vs:List V) (L:Nat->Nat->Int) (cs:List (List Nat × Int)) (f5 f6:Option V),σ=[some (.int n),some (.ref a),some (.ref l),some (.ref c),some (.ref r),f5,f6]/\H' l=some (.lst ((vec es.length (L cs.length)).map V.int))/\H' c=some (.lst vs)/\H' r=some (.lst (rs.map V.int))/\r∉[l,c]/\IsCuts es n.toNat L [l,c] cs H' vs/\Cuts es n.toNat L cs/\(∀i,i<es.length->L 0 i=amF es i)/\RingOf (zk es (L cs.length)) n.toNat rs/\cs.length+zcn es.length (L cs.length)<=es.length/\Same H H'/\q=zcn es.length (L cs.length)
noncomputable def znm (K:Fg):Sp:=λvs H Q _=>∃(n:Int) (a:Addr) (es:List Due),vs=[.int n,.ref a]/\IsSh K H a es/\1<=n/\n<=100/\es.length<=1000/\(∀d∈es,zo n d) /\
 ∀p l c H' vs L cs,H p=none->H l=none->H c=none->Same H H'->H' p=some (.tup [.ref l,.ref c])->H' l=some (.lst ((vec es.length (L cs.length)).map V.int))->H' c=some (.lst vs)->IsCuts es n.toNat L [l,c] cs H' vs->Cuts es n.toNat L cs->(∀i,i<es.length->L 0 i=amF es i)->RingOf (zk es (L cs.length)) n.toNat []->cs.length<=es.length->Q (.ref p) H'
def zmc:=λ{K:Fg} {n:Int} {a:Addr} {es:List Due} {H:Hp} {Q:VK} {E:XK} h h0 h1 hl hd q=>@id (znm K [.int n,.ref a] H Q E) ⟨n,a,es,rfl,h,h0,h1,hl,hd,q⟩
open PySem PySem.Spec PyProof.Rows Dt
structure Gr(n:Nat)(ds:List Due)(ps:List Int)(qs:List Rat):Prop where
 len:qs.length=n
 nn:∀q∈qs,0<=q
 fix:∀m,m<n->qs.getD m 0=zbG ds ps qs m
 top:∀s:List Rat,s.length=n->(∀q∈s,0<=q)->(∀m,m<n->s.getD m 0<=zbG ds ps s m)->LeL s qs
def Clr.gr{ps:List Int}{W P:Rat}(C:Clr n ds ps W P)(h:COk n ds (pQ ps) (prodN (λ_=>W) n*P*W) k "0c".1 "0c".2)(a:zcw n ds "0c".1 "0c".2):Gr n ds ps (zal n ds ps k):=
 ⟨zdd,λq d=>(C.wide h q d).1,λm b=>by
  rw[show(zal n ds ps k).getD m 0=((List.range ps.length).map (zbG ds ps (zal n ds ps k))).getD m 0 by rw[C.next h a],zla (by rw[C.pl];exact b)],λs h1 h2 c=>C.great h a h1 h2 c⟩
section
variable {n:Nat}{ds:List Due}{g:Nat->Int}{ps:List Int}{qs qs':List Rat}{full:Nat->Bool}
def zqj(ds:List Due):(∀d∈ds,0<=d.a)->∀d∈ds,d.p=(m:Int)->d.r=(r:Int)->d.a<=zA ds m r:=
 zaO (P:=λds=>(∀d∈ds,0<=d.a)->∀d∈ds,d.p=(m:Int)->d.r=(r:Int)->d.a<=zA ds m r) (λ_ _ h=>nomatch h) (λes e g h d b hp c=>by
  have f:=λd b=>h d (yt _ b);have h1:=h e (yq _ (.head _));have h2:=zc8 (m:=m) (r:=r) es f;rw[zaL];rcases yL.mp b with z | z
  ·have:=g f d z hp c
   split<;>lia
  ·rw[yu]at z;subst z;rw[if_pos ⟨hp,c⟩];lia) ds
def zld(ds:List Due)(m:Nat):za5 ds m=zT (zA ds m) 3:=by unfold za5 zT;rw[zdR]
def zr4(hd:∀d∈ds,zo n d)(f:d∈ds)(h:qs.getD d.p.toNat 0=za5 ds d.p.toNat):zX ds qs d=((d.a:Int):Rat):=by
 obtain⟨p0,o,s,v,l,u,q,t,a1⟩:=hd d f;have c:∀r,r<3->0<=zA ds d.p.toNat r:=λr _=>zc7 hd _ r;have g:d.r.toNat<3:=by lia
 have j:=zqj (m:=d.p.toNat) (r:=d.r.toNat) ds (λd h=>(hd d h).2.2.2.2.2.2.2.1) d f ⋯ ⋯;have i:=zcD c (a:=d.r.toNat+1) (b:=3) ⋯ (yg _);have k:=zbD (zA ds d.p.toNat) d.r.toNat;have e:(0:Rat)<=zT (zA ds d.p.toNat) 3:=zcD c (a:=0) (b:=3) "0a" (yg _);unfold zX;rw[h,zld];unfold zad;by_cases z:0<zA ds d.p.toNat d.r.toNat
 ·have w:=zbu z;rw[if_pos z,zgG e c g,if_neg (by grind),if_pos i,ybt,Rat.mul_inv_cancel _ (by grind)];grind
 ·rw[if_neg z]
  have:d.a=0:=by lia
  rw[this];rw[show((0:Int):Rat)=0 from rfl];grind
structure SafeC(n:Nat)(ds:List Due)(full:Nat->Bool)(g:Nat->Int):Prop where
 bd:∀i,i<ds.length->0<=g i/\g i<=amF ds i
 off:∀i d,ds[i]?=some d->(full d.p.toNat=false\/full d.q.toNat=false)->g i=d.a
 net:∀m,m<n->zan (zk ds g) m=zan ds m
def SafeC.ok(S:SafeC n ds full g)(hd:∀d∈ds,zo n d/\d.a<=1000000000000):∀d∈zk ds g,zo n d/\d.a<=1000000000000:=λd l=>by
 obtain⟨i,hi,h⟩:=yB l;have b:i<ds.length:=by rw[zU]at hi;exact hi
 obtain⟨e,c⟩:=zC b;have h2:=za8 (m:=g) c;rw[yk hi,h]at h2;cases h2;obtain⟨⟨p0,j,o,q,r,p,k,s,a1⟩,a2⟩:=hd e (yb c);have f:=S.bd i b;rw[zbT c]at f;exact⟨⟨p0,j,o,q,r,p,k,f.1,by show g i<=_;lia⟩,by show g i<=_;lia⟩
abbrev zvI(n:Nat)(ds':List Due)(full:Nat->Bool)(qs:List Rat):List Rat:="0i".map λm=>if full m=true then za5 ds' m else qs.getD m 0
def zr5(hd:∀d∈ds,zo n d)(m:Nat):0<=za5 ds m:=by
 rw[zld];exact zcD (a:=0) (b:=3) (λr _=>zc7 hd _ r) "0a" (yg _)
def zsC(h:∀q∈qs,0<=q)(m:Nat):0<=qs.getD m 0:=by
 rw[yf];cases e:qs[m]? with
 | none=>exact yE
 | some q=>exact h q (yb e)
end
noncomputable def zgu (ds:List Due) (l:Nat->Rat) (m:Nat):Bool:=(stp ds l m).isNone
section
variable {n:Nat}{ds:List Due}{ps:List Int}{W P:Rat}{k:Nat}
end
section
variable {X:Cx}
end
section
variable {n:Nat}{ds:List Due}{ps:List Int}{W P:Rat}{k:Nat}
end
def zjf{g:Nat->Int}:zk (zk ds f) g=zk ds g:=by
 refine yab λi=>?_;cases e:ds[i]? with
 | none=>
  have:=yaF.mp e
  rw[yG (by rw[zU,zU];lia),yG (by rw[zU];lia)]
 | some d=>rw[za8 (za8 e),za8 e]
def zkw{x y z:Nat->Int}(h:∀i,i<ds.length->z i=x i+y i)(m:Nat):zan (zk ds z) m=zan (zk ds x) m+zan (zk ds y) m:=by
 have a:∀t,t<=ds.length->zaM ((zk ds z).take t) m=zaM ((zk ds x).take t) m+zaM ((zk ds y).take t) m/\zao ((zk ds z).take t) m=zao ((zk ds x).take t) m+zao ((zk ds y).take t) m:=by
  intro t
  induction t with
  | zero=>intro _;exact⟨rfl,rfl⟩
  | succ t ih=>
   intro c;obtain⟨d,hd⟩:=zC (show t<ds.length by lia);obtain⟨h1,h2⟩:=ih ⋯;have b:=h t ⋯;rw[zbf hd,zbf hd,zbf hd,za7,za7,za7,zbh,zbh,zbh,h1,h2];dsimp only;rw[b];constructor
   ·split<;>lia
   ·split<;>lia
 obtain⟨h1,h2⟩:=a ds.length (yg _);rw[yaf (by rw[zU];exact yg _),yaf (by rw[zU];exact yg _),yaf (by rw[zU];exact yg _)]at h1 h2;unfold zan;lia
noncomputable def zbq (ds:List Due) (full:Nat->Bool) (i:Nat):Bool:=match ds[i]? with
 | some d=>full d.p.toNat&&full d.q.toNat
 | none=>false
noncomputable def zbk (ds:List Due) (full:Nat->Bool) (g:Nat->Int) (i:Nat):Int:=if zbq ds full i=true then g i else 0
section
variable {n:Nat}{ds:List Due}{full:Nat->Bool}{L:Nat->Nat->Int}{cs:List (List Nat × Int)}{g:Nat->Int}
def zgh(h:ds[i]?=some d):zbq ds full i=(full d.p.toNat&&full d.q.toNat):=by unfold zbq;rw[h]
noncomputable def zcI (ds:List Due) (full:Nat->Bool) (g:Nat->Int) (i:Nat):Int:=if zbq ds full i=true then g i else amF ds i
def zh4(hd:∀d∈ds,zo n d)(hi:i<ds.length):0<=amF ds i/\amF ds i<=100000000000000:=by
 obtain⟨d,a⟩:=zC hi;obtain⟨_,_,_,_,_,_,_,b,a1⟩:=hd d (yb a);rw[zbT a];lia
def zeo(hd:∀d∈ds,zo n d):∀d∈zk ds (zbk ds full (amF ds)),zo n d:=zd6 hd λi hi=>by
 have:=zh4 hd hi
 unfold zbk;split<;>lia
def zsU(hd:∀d∈ds,zo n d)(C:Cuts (zk ds (zbk ds full (amF ds))) n L cs)(e:∀i,i<(zk ds (zbk ds full (amF ds))).length->L 0 i=amF (zk ds (zbk ds full (amF ds))) i):SafeC n ds full (zcI ds full (L cs.length))/\∀i,i<ds.length->zbk ds full (zcI ds full (L cs.length)) i=L cs.length i:=by
 have f:=C.bnd (zeo hd) e cs.length (yg _);have b:∀i,i<ds.length->0<=L cs.length i/\L cs.length i<=zbk ds full (amF ds) i:=λi hi=>by
  have:=f i (by rw[zU];exact hi)
  rwa [zly hi]at this
 have a:∀i,i<ds.length->zbq ds full i≠true->L cs.length i=0:=λi hi z=>by
  have:=b i hi
  unfold zbk at this;rw[if_neg z]at this;lia
 refine⟨⟨λi hi=>?_,λi d hi z=>?_,λm h=>?_⟩,λi hi=>?_⟩
 ·have h1:=b i hi;have h2:=zh4 hd hi;unfold zcI;unfold zbk at h1;split
  ·rename_i z;rw[if_pos z]at h1;exact h1
  ·lia
 ·unfold zcI;rw[zgh hi,if_neg (by rcases z with z | z<;>simp[z]),zbT hi]
 ·have h1:=C.nets (zeo hd) e m cs.length (yg _);rw[zjf]at h1;have g:=zkw (ds:=ds) (x:=L cs.length) (y:=λi=>if zbq ds full i=true then 0 else amF ds i) (z:=zcI ds full (L cs.length)) (λi hi=>by
   unfold zcI;by_cases z:zbq ds full i=true
   ·simp[z]
   ·have:=a i hi z
    simp[z,this]) m
  have c:=zkw (ds:=ds) (x:=zbk ds full (amF ds)) (y:=λi=>if zbq ds full i=true then 0 else amF ds i) (z:=amF ds) (λi hi=>by
   unfold zbk;by_cases z:zbq ds full i=true<;>simp[z]) m
  rw[zeZ]at c;rw[g,c,h1]
 ·unfold zbk zcI;by_cases z:zbq ds full i=true
  ·simp[z]
  ·have:=a i hi z
   simp[z,this]
end
noncomputable def zn8 (K:Fg):Sp:=λvs H Q _=>∃(a u:Addr) (n:Nat) (ds:List Due) (ps:List Int) (W P:Rat),vs=[.ref a,.ref u]/\IsSh K H a ds/\H u=some (.lst (ps.map V.int))/\Clr n ds ps W P/\1<=n /\
 ∀p H' g k,H p=none->Same H H'->H' p=some (.lst ((vec ds.length g).map V.int))->SafeC n ds (zgu ds "0c".1) g->RingOf (zk ds (zbk ds (zgu ds "0c".1) g)) n []->(zkh (zk ds (zbk ds (zgu ds "0c".1) (amF ds))) n n=[]->∀i,i<ds.length->g i=amF ds i)->zcw n ds "0c".1 "0c".2->(∀j,j<k->¬zcw n ds (cst n ds (pQ ps) j).1 (cst n ds (pQ ps) j).2)->COk n ds (pQ ps) (prodN (λ_=>W) n*P*W) k "0c".1 "0c".2->Q (.ref p) H'
def zqz:=λ{K:Fg} {a u:Addr} {n:Nat} {ds:List Due} {ps:List Int} {W P:Rat} {H:Hp} {Q:VK} {E:XK} h hu C n1 q=>@id (zn8 K [.ref a,.ref u] H Q E) ⟨a,u,n,ds,ps,W,P,rfl,h,hu,C,n1,q⟩
def zlo{ms:List Int}{g:Nat->Int}(h:ms=vec ds.length g):zk ds (λi=>ms.getD i 0)=zk ds g:=zbv λi hi=>by
 rw[h,yf,zK hi];rfl
section
variable {n:Nat}{ds:List Due}{ps:List Int}{W P W' P':Rat}{k k':Nat}{g:Nat->Int}
end
end Internal
namespace My
set_option genInjectivity false
set_option genSizeOf false
variable {c:Int}{i n:Nat}
noncomputable def mn (i j:Int):Int:=if j<i then j else i
def mn_le_l(i j:Int):mn i j<=i:=by unfold mn;split<;>lia
def mn_le_r(i j:Int):mn i j<=j:=by unfold mn;split<;>lia
def mn_nonneg{i j:Int}(hi:0<=i)(a:0<=j):0<=mn i j:=by unfold mn;split<;>lia
noncomputable def lvS (b:Nat->Int) (L:Int) (n:Nat):Int:=sumTo (λi=>mn (b i) L) n
structure IsLev(c:Int)(n:Nat)(b:Nat->Int)(L:Int):Prop where
 lo:lvS b L n<=c
 hi:c<lvS b (L+1) n
def zhr{b:Nat->Int}{L L':Int}(h:L<=L')(n:Nat):lvS b L n<=lvS b L' n:=zle λi _=>by unfold mn;split<;>split<;>lia
def IsLev.uniq{b:Nat->Int}{L L':Int}(h:IsLev c n b L)(h':IsLev c n b L'):L=L':=by
 refine yz λne=>?_;rcases Int.lt_or_gt_of_ne ne with q | q
 ·have:=zhr (b:=b) (show L+1<=L' by lia) n
  have:=h.hi;have:=h'.lo;lia
 ·have:=zhr (b:=b) (show L'+1<=L by lia) n
  have:=h.lo;have:=h'.hi;lia
noncomputable def lev (c:Int) (n:Nat) (b:Nat->Int):Int:=Classical.epsilon λL=>IsLev c n b L
def zuq{b:Nat->Int}{L:Int}(h:IsLev c n b L):lev c n b=L:=(yar (p:=λL=>IsLev c n b L) ⟨L,h⟩).uniq h
theorem zln(b:Nat->Int)(L:Int):∀n,lvS b (L+1) n=lvS b L n+cnt (λi=>decide (b i>L)) n
 | 0=>rfl
 | n+1=>by
  have d:=zln b L n;unfold lvS at d ⊢;rw[sumTo,sumTo,d,cnt];by_cases h:b n>L
  ·have a:mn (b n) (L+1)=L+1:=by unfold mn;split<;>lia
   have c:mn (b n) L=L:=by unfold mn;exact if_pos h
   rw[a,c,show(if decide (b n>L)=true then cnt (λi=>decide (b i>L)) n+1 else cnt (λi=>decide (b i>L)) n)=cnt (λi=>decide (b i>L)) n+1 from if_pos (decide_eq_true h)];lia
  ·have a:mn (b n) (L+1)=b n:=by unfold mn;split<;>lia
   have c:mn (b n) L=b n:=by unfold mn;exact if_neg h
   rw[a,c,show(if decide (b n>L)=true then cnt (λi=>decide (b i>L)) n+1 else cnt (λi=>decide (b i>L)) n)=cnt (λi=>decide (b i>L)) n from if_neg (λz=>h (of_decide_eq_true z))];lia
theorem zg1{b:Nat->Int}:∀{n:Nat},(∀i,i<n->0<=b i)->lvS b 0 n=0
 | 0,_=>rfl
 | n+1,h=>by
  have a:=zg1 (n:=n) λi hi=>h i ⋯
  have:=h n ⋯
  unfold lvS at a ⊢;rw[sumTo,a];unfold mn;split<;>lia
theorem zkM{b:Nat->Int}:∀{n:Nat},(∀i,i<n->0<=b i)->∀i,i<n->b i<=sumTo b n
 | 0,_,i,hi=>by lia
 | n+1,h,i,hi=>by
  have a:=sumTo_nonneg (n:=n) λi hi=>h i ⋯
  have:=h n ⋯
  rw[sumTo];by_cases e:i=n
  ·subst e;lia
  ·have:=zkM (n:=n) (λi hi=>h i ⋯) i ⋯;lia
def ztK{b:Nat->Int}(a:∀i,i<n->0<=b i)(d:0<=c)(f:c<sumTo b n):∃L,IsLev c n b L:=by
 refine yz λno=>?_;have all:∀k:Nat,lvS b (k:Int) n<=c:=by
  intro k
  induction k with
  | zero=>rw[show((0:Nat):Int)=0 from rfl,zg1 a];exact d
  | succ k ih=>
   refine yz λq=>no ⟨(k:Int),ih,?_⟩;rw[show((k:Nat):Int)+1=((k+1:Nat):Int) by lia];lia
 have h:=all (sumTo b n).toNat;have e:lvS b (((sumTo b n).toNat:Nat):Int) n=sumTo b n:=sumTo_congr λi hi=>by
  have:=zkM a i hi
  unfold mn;split<;>lia
 rw[e]at h;lia
noncomputable def levelF (c:Int) (n:Nat) (b:Nat->Int):Nat->Int:=
 if c=sumTo b n then b else more (λi=>decide (b i>lev c n b)) (λi=>mn (b i) (lev c n b)) (c-lvS b (lev c n b) n)
def levelF_all{b:Nat->Int}(h:c=sumTo b n):levelF c n b=b:=by unfold levelF;rw[if_pos h]
def levelF_lev{b:Nat->Int}{L:Int}(h:¬c=sumTo b n)(a:IsLev c n b L):levelF c n b=more (λi=>decide (b i>L)) (λi=>mn (b i) L) (c-lvS b L n):=by unfold levelF;rw[if_neg h,zuq a]
theorem zlq{ch:Nat->Bool}{L:Int}:∀m:Nat,(∀i,i<m->ch i=true->rest ch L i>0)->rest ch L m=L-cnt ch m
 | 0,_=>by show L=L-0;lia
 | m+1,h=>by
  have b:=zlq m λi hi=>h i ⋯;rw[rest,cnt];by_cases a:ch m=true
  ·rw[if_pos ⟨a,h m ⋯ a⟩,if_pos a];lia
  ·rw[if_neg λz=>a z.1,if_neg a];exact b
structure LevelOk(c:Int)(n:Nat)(b f:Nat->Int):Prop where
 sum:sumTo f n=c
 lo:∀i,i<n->0<=f i
 hi:∀i,i<n->f i<=b i
 lev:(∀i,i<n->f i=b i)\/∃L,(∃i,i<n/\f i=L/\L<b i)/\∀i,i<n->(b i<=L->f i=b i)/\(L<b i->f i=L\/f i=L+1)/\∀j,j<i->L<b j->f j=L->L<b i->f i=L
def level_ok{b:Nat->Int}(f:∀i,i<n->0<=b i)(s:0<=c)(x:c<=sumTo b n):LevelOk c n b (levelF c n b):=by
 by_cases h:c=sumTo b n
 ·rw[levelF_all h];exact⟨h.symm,f,λ_ _=>y6 _,.inl λ_ _=>rfl⟩
 obtain⟨L,k⟩:=ztK f s ⋯;rw[levelF_lev h k];have v:=zln b L n;have h1:=k.lo;have h2:=k.hi;have a:0<=c-lvS b L n:=by lia
 have o:c-lvS b L n<cnt (λi=>decide (b i>L)) n:=by lia
 have g:0<=L:=by
  refine yz λq=>?_
  have:=zhr (b:=b) (show L+1<=0 by lia) n
  rw[zg1 f]at this;lia
 have e:=rest_end (ch:=λi=>decide (b i>L)) (n:=n) a ⋯;have d:=rest_nonneg (ch:=λi=>decide (b i>L)) a;have em:∀i,more (λi=>decide (b i>L)) (λi=>mn (b i) L) (c-lvS b L n) i=if(decide (b i>L))=true/\rest (λi=>decide (b i>L)) (c-lvS b L n) i>0 then mn (b i) L+1 else mn (b i) L:=λi=>rfl
 have big:∀i,b i>L->mn (b i) L=L:=λi q=>by unfold mn;exact if_pos q
 have small:∀i,¬b i>L->mn (b i) L=b i:=λi q=>by unfold mn;exact if_neg q
 refine⟨?_,?_,?_,.inr ⟨L,?_,?_⟩⟩
 ·rw[sum_more,e];show lvS b L n+_=c;lia
 ·intro i hi
  have:=mn_nonneg (f i hi) g
  rw[em];split<;>lia
 ·intro i hi
  have:=mn_le_l (b i) L
  rw[em];split
  ·rename_i q;have t:=of_decide_eq_true q.1;rw[big i t];lia
  ·lia
 ·refine yz λno=>?_
  have:=zlq (ch:=λi=>decide (b i>L)) (L:=c-lvS b L n) n λi hi m=>by
   refine yz λq=>no ⟨i,hi,?_,of_decide_eq_true m⟩;rw[em,if_neg λz=>q z.2];exact big i (of_decide_eq_true m)
  have:=d n
  lia
 ·intro i hi;refine⟨λq=>?_,λq=>?_,λj w l r p=>?_⟩
  ·rw[em,if_neg λz=>by have:=of_decide_eq_true z.1;lia];exact small i ⋯
  ·rw[em];split
   ·rw[big i q];exact .inr rfl
   ·rw[big i q];exact .inl rfl
  ·have u:¬rest (λi=>decide (b i>L)) (c-lvS b L n) j>0:=λq=>by
    rw[em,if_pos ⟨decide_eq_true l,q⟩,big j l]at r;lia
   have:=zju (ch:=λi=>decide (b i>L)) (L:=c-lvS b L n) (i-j) j
   rw[show j+(i-j)=i by lia]at this
   have:=d i
   rw[em,if_neg λz=>by have:=z.2;lia];exact big i p
noncomputable def sumL:List Int->Int
 | []=>0
 | x :: xs=>x+sumL xs
theorem zeY:∀xs ys:List Int,sumL (xs++ys)=sumL xs+sumL ys
 | [],ys=>by show sumL ys=0+sumL ys;lia
 | x :: xs,ys=>by show x+sumL (xs++ys)=x+sumL xs+sumL ys;rw[zeY xs ys];lia
def sumL_perm{xs ys:List Int}(h:List.Perm xs ys):sumL xs=sumL ys:=by
 induction h with
 | nil=>rfl
 | cons x _ ih=>show x+_=x+_;rw[ih]
 | swap x y l=>show y+(x+sumL l)=x+(y+sumL l);lia
 | trans _ _ h1 h2=>exact h1.trans h2
theorem sumL_range(f:Nat->Int):∀n,sumL ("0i".map f)=sumTo f n
 | 0=>rfl
 | n+1=>by
  rw[yA,yi,zeY,sumL_range f n];show sumTo f n+(f n+0)=sumTo f n+f n;lia
theorem ziz{L:Int}:∀{xs:List Int},(∀x∈xs,x<=L)->sumL (xs.map λx=>mn x L)=sumL xs
 | [],_=>rfl
 | x :: xs,h=>by
  have:=h x (.head _)
  show mn x L+sumL (xs.map λx=>mn x L)=x+sumL xs;rw[ziz λy a=>h y (.tail _ a)];unfold mn;split<;>lia
theorem ziT{L:Int}:∀{xs:List Int},(∀x∈xs,L<=x)->sumL (xs.map λx=>mn x L)=xs.length*L
 | [],_=>by simp[sumL]
 | x :: xs,h=>by
  have:=h x (.head _)
  show mn x L+sumL (xs.map λx=>mn x L)=((xs.length+1:Nat):Int)*L;rw[ziT λy a=>h y (.tail _ a),show((xs.length+1:Nat):Int)*L=xs.length*L+L by rw[Int.natCast_succ,ybr,yb4]];unfold mn;split<;>lia
structure LvInv(c:Int)(ms:List Int)(i:Nat)(r:Int):Prop where
 rest:r=c-sumL (ms.take i)
 below:∀x∈ms.take i,x*((ms.length:Int)-(i:Int))<=r
def LvInv.step{ms:List Int}{r x:Int}(h:LvInv c ms i r)(k:ms.Pairwise (·<=·))(f:ms[i]?=some x)(hle:x*((ms.length:Int)-i)<=r):LvInv c ms (i+1) (r-x):=by
 obtain⟨hi,ex⟩:=yh.mp f;have e:ms.take (i+1)=ms.take i++[x]:=by rw[List.take_succ,f];rfl
 have a:x*((ms.length:Int)-((i+1:Nat):Int))<=r-x:=by
  have:x*((ms.length:Int)-((i+1:Nat):Int))=x*((ms.length:Int)-i)-x:=by
   rw[show(ms.length:Int)-((i+1:Nat):Int)=(ms.length:Int)-i-1 by lia,Int.mul_sub,ya2]
  lia
 refine⟨?_,λy d=>?_⟩
 ·rw[e,zeY,h.rest];show _=c-(sumL (ms.take i)+(x+0))
  lia
 ·rw[e]at d;rcases yL.mp d with q | q
  ·have b:y<=x:=by
    obtain⟨j,g,l⟩:=yB q;rw[ybT]at l;rw[yaC]at g
    have:=yaQ.mp k j i ⋯ hi ⋯
    lia
   have hp:(0:Int)<=(ms.length:Int)-((i+1:Nat):Int):=by lia
   exact yb0 (yT b hp) a
  ·rw[yu.mp q];exact a
def LvInv.done{ms:List Int}{r x:Int}(h:LvInv c ms i r)(s:ms.Pairwise (·<=·))(u:ms[i]?=some x)(m:x*((ms.length:Int)-i)>r){b:Nat->Int}(hp:List.Perm ms ("0i".map b)):IsLev c n b (r/((ms.length:Int)-i)):=by
 obtain⟨hi,ex⟩:=yh.mp u;have l:(0:Int)<(ms.length:Int)-i:=by lia
 generalize hkk:(ms.length:Int)-i=k at *
 have p:=ya9 r k;have A:=yao r (show k≠0 by lia);have w:=yak r l;generalize hL:r/k=L at *
 have z:L<x:=by
  refine yz λq=>?_
  have:x*k<=L*k:=yT ⋯ ⋯
  rw[yan]at p;lia
 have lo:∀y∈ms.take i,y<=L:=λy a=>by
  refine yz λq=>?_;have h1:=h.below y a;rw[hkk]at h1
  have:(L+1)*k<=y*k:=yT ⋯ ⋯
  rw[ybr,yb4,yan L k]at this;lia
 have d:∀y∈ms.drop i,L+1<=y:=λy a=>by
  obtain⟨j,o,g⟩:=yB a;rw[y3]at o;rw[List.getElem_drop]at g;by_cases e:j=0
  ·subst e
   have:x=y:=by rw[<- ex,<- g];rfl
   lia
  ·have:=yaQ.mp s i (i+j) hi ⋯ ⋯
   lia
 have f:∀M,lvS b M n=sumL ((ms.take i).map λx=>mn x M)+sumL ((ms.drop i).map λx=>mn x M):=λM=>by
  have t:lvS b M n=sumL (("0i".map b).map λx=>mn x M):=by rw[List.map_map];exact(sumL_range _ n).symm
  rw[t,<- sumL_perm (hp.map λx=>mn x M),<- zeY,<- yi,ybw]
 have ld:((ms.drop i).length:Int)=k:=by rw[y3];lia
 have v:=h.rest;constructor
 ·rw[f,ziz lo,ziT λy a=>by have:=d y a;lia,ld];lia
 ·rw[f,ziz λy a=>by have:=lo y a;lia,ziT d,ld,ybe,ya2];lia
def LvInv.zero{ms:List Int}:LvInv c ms 0 c:=⟨by rw[yba];show c=c-0;lia,λx h=>by rw[yba]at h;cases h⟩
def lv_nn{x m r:Int}(b:0<=x)(a:1<=m)(h:x*m<=r):0<=r-x:=by
 have:=ya4 a b
 rw[ya2]at this;lia
def LvInv.never{ms:List Int}{r:Int}(h:LvInv c ms ms.length r)(a:c<sumL ms)(b:0<=r):False:=by
 have:=h.rest
 rw[yw]at this;lia
end My
namespace Internal
set_option genInjectivity false
set_option genSizeOf false
variable {H H':Hp}{K:Fg}{N ws:List Str}{Q:VK}{R S:Nat->Int}{W:Nat->Bool}{X:Cx}{a b l p:Addr}{c own:Int}{caps:List (Option Nat)}{ds:List Due}{e elt iter tg:Expr}{i k m n:Nat}{q:Rat}{rest σ:St}{scope:Scope}{v y:V}{wi:TI}{x:Str}{xs:List V}
open PySem PySem.Spec PyProof.Rows
section
variable {H:Hp}{Q:VK}{K:Fg}
theorem zgH{w:Str}:∀ws:List Str,inV (.str w) (ws.map V.str)=decide (w∈ws)
 | []=>by simp[inV]
 | n :: ns=>by
  have a:=zgH (w:=w) ns;unfold inV at a ⊢;rw[yam,ybQ,a]
  show((n == w) || _)=_
  by_cases h:n=w
  ·subst h;simp
  ·have:¬w=n:=λz=>h z.symm
   simp[h,this]
theorem zel:∀ws:List Str,(ws.map V.str).all zdg=true
 | []=>rfl
 | w :: ws=>by rw[yam,ybP,zel ws];rfl
def zrn{w:Str}(h:SqT K H a (ws.map V.str))(q:Q (.bl (decide (w∈ws))) H):rIn K false (.str w) (.ref a) H Q:=
 ⟨a,_,rfl,.inr h,rfl,zel ws,by rw[if_neg yr,zgH];exact q⟩
def zqO{w:Str}(h:SqT K H a (ws.map V.str))(q:Q (.bl (!decide (w∈ws))) H):rIn K true (.str w) (.ref a) H Q:=
 ⟨a,_,rfl,.inr h,rfl,zel ws,by rw[if_pos rfl,zgH];exact q⟩
def ztt{w:Str}(h:SqL K H a (ws.map V.str))(q:Q (.bl (decide (w∈ws))) H):rIn K false (.str w) (.ref a) H Q:=
 ⟨a,_,rfl,.inl h,rfl,zel ws,by rw[if_neg yr,zgH];exact q⟩
end
def zpG:zc9 (xs++[y]) none (some (-1))=xs:=by
 unfold zc9;have e:HT.sIx (xs++[y]).length (xs++[y]).length (some (-1))=xs.length:=by
  show(if(-1:Int)<0 then(-1+(((xs++[y]).length:Nat):Int)).toNat else min (-1:Int).toNat (xs++[y]).length)=_
  rw[if_pos "0a",yc]
  show(-1+((xs.length+1:Nat):Int)).toNat=_
  lia
 rw[e,HT.sIx_none,List.drop_zero,Nat.sub_zero,List.take_append_of_le_length (yg _),yw]
def zp4:zc9 xs none (some (k:Int))=xs.take k:=by
 unfold zc9;have e:HT.sIx xs.length xs.length (some (k:Int))=min k xs.length:=by
  show(if(k:Int)<0 then((k:Int)+(xs.length:Int)).toNat else min (k:Int).toNat xs.length)=_
  rw[if_neg ⋯];rfl
 rw[e,HT.sIx_none,List.drop_zero,Nat.sub_zero];exact List.take_eq_take_min.symm
def zmj(h:(ws.map V.str)[i]?=some v):∃w,ws[i]?=some w/\v=.str w:=by
 rw[ye]at h;cases hw:ws[i]? with
 | none=>rw[hw]at h;cases h
 | some w=>rw[hw]at h;exact⟨w,rfl,(yn h).symm⟩
def zqf{w:Str}(nd:ws.Nodup)(h:ws[i]?=some w):w∉ws.take i:=λb=>by
 obtain⟨hi,c⟩:=yh.mp h;obtain⟨j,d,a⟩:=yB b;rw[yaC]at d;rw[ybT]at a;exact yaQ.mp nd j i ⋯ hi ⋯ (a.trans c.symm)
noncomputable def words5:List Str:=["pledge", "share", "own", "others", "level"]
def zqv{w:Str}(h:w∈words5):PyData.canLay0 (.str w)=true:=by
 unfold words5 at h;simp only[yy,yap,or_false]at h;rcases h with h | h | h | h | h<;>rw[h]<;>decide +kernel
noncomputable def Lit (n:Nat) (b:Nat->Int):Prop:=∀i,i<n->0<=b i/\b i<=100000000000000
def Lit.nn{b:Nat->Int}(h:Lit n b):∀i,i<n->0<=b i:=λi hi=>(h i hi).1
theorem Lit.sz{n:Nat}{b:Nat->Int}(h:Lit n b):∀i,i<n->0<=b i/\Internal.sz (b i)<=300:=λi hi=>⟨(h i hi).1,yj (sz200 (by have:=h i hi;lia) (by have:=h i hi;lia)) "0a"⟩
def Lit.sum{b:Nat->Int}(h:Lit n b):0<=My.sumTo b n/\My.sumTo b n<=n*100000000000000:=⟨My.sumTo_nonneg h.nn,zdh λi hi=>(h i hi).2⟩
def Lit.szS{b:Nat->Int}(h:Lit n b)(a:n<=9):Internal.sz (My.sumTo b n)<=300:=by
 have:=h.sum
 exact yj (sz200 ⋯ ⋯) "0a"
noncomputable def zoa (K:Fg):Sp:=λvs H Q _=>∃(c:Int) (a:Addr) (n:Nat) (b:Nat->Int),vs=[.int c,.ref a]/\SqL K H a ((vec n b).map V.int)/\n<=9/\Lit n b/\0<=c/\c<My.sumTo b n/\∀L H',Same H H'->My.IsLev c n b L->Q (.int L) H'
noncomputable def zqT (K:Fg):Sp:=λvs H Q _=>∃(c:Int) (a:Addr) (n:Nat) (b:Nat->Int),vs=[.int c,.ref a]/\SqL K H a ((vec n b).map V.int)/\n<=9/\Lit n b/\0<=c/\c<=My.sumTo b n/\zcz H Q (vec n (My.levelF c n b))
def zpQ(n:Nat)(b:Nat->Int):My.sumL (vec n b)=My.sumTo b n:=My.sumL_range b n
def ziy{b:Nat->Int}{x:Int}(h:x∈vec n b):∃i,i<n/\x=b i:=by
 obtain⟨i,hi,e⟩:=y8.mp h;exact⟨i,yP.mp hi,e.symm⟩
noncomputable def zca (S:Nat->Int) (W:Nat->Bool):Nat->Int:=λi=>if W i=true then S i else 0
def zgx(h:Lit n S):Lit n (zca S W):=λi hi=>by
 have:=h i hi
 unfold zca;split<;>lia
noncomputable def zea (n:Nat) (R S:Nat->Int) (W:Nat->Bool):Int:=My.mn (My.sumTo (zca S W) n) (My.sumTo R n)
noncomputable def zaR (w:Str) (n:Nat) (R P S:Nat->Int) (W:Nat->Bool):Nat->Int:=
 if w = "pledge" then λi=>My.mn (R i) (P i)else if w = "share" then λi=>My.mn (R i) (S i)else if w = "own" then λ_=>0
 else if w = "others" then zba (zea n R S W) n (zca S W)else My.levelF (zea n R S W) n (zca S W)
noncomputable def zbJ (w:Str) (n:Nat) (R:Nat->Int) (own:Int):Int:=if w = "own" then My.mn own (My.sumTo R n)else 0
noncomputable def zdD (w:Str) (n:Nat) (R P S:Nat->Int) (own:Int) (W:Nat->Bool):Nat->Int:=
 if w = "pledge" \/ w = "share" then zaR w n R P S W else zba (My.sumTo (zaR w n R P S W) n+zbJ w n R own) n R
def zfN{b:Nat->Int}(d:∀i,i<n->0<=b i)(e:0<=c/\c<=My.sumTo b n)(hi:i<n):0<=zba c n b i/\zba c n b i<=b i:=by
 have j:=My.sumTo_nonneg d;have a:=d i hi;by_cases h:My.sumTo b n=0
 ·rw[zes h];exact⟨y6 _,a⟩
 have hp:0<My.sumTo b n:=by lia
 obtain⟨g,f,_⟩:=zl4 (c:=c) hp i;generalize zba c n b i=x at *
 generalize My.sumTo b n=B at *
 have h1:0<=c*b i:=ybH e.1 a;have h2:c*b i<=B*b i:=yT e.2 a;constructor
 ·refine yz λq=>?_
  have:x*B<=-1*B:=yT ⋯ ⋯
  lia
 ·refine yz λq=>?_
  have:(b i+1)*B<=x*B:=yT ⋯ ⋯
  rw[ybr,yb4,yan (b i) B]at this;lia
def zgC(b:Lit n R)(a:Lit n S):0<=zea n R S W/\zea n R S W<=My.sumTo (zca S W) n/\zea n R S W<=My.sumTo R n:=
 ⟨My.mn_nonneg (zgx a).sum.1 b.sum.1,My.mn_le_l _ _,My.mn_le_r _ _⟩
def zns{w:Str}{P:Nat->Int}(h:¬w = "pledge")(e:Lit n R)(a:Lit n S)(hi:i<n):0<=zaR w n R P S W i/\zaR w n R P S W i<=S i:=by
 obtain⟨b,g,j⟩:=zgC (W:=W) e a;have d:=zgx (W:=W) a;have f:=(a i hi).1;have c:zca S W i<=S i:=by unfold zca;split<;>lia
 unfold zaR;rw[if_neg h];split
 ·exact⟨My.mn_nonneg (e i hi).1 f,My.mn_le_r _ _⟩
 ·split
  ·exact⟨y6 _,f⟩
  ·split
   ·obtain⟨h1,h2⟩:=zfN d.nn ⟨b,g⟩ hi;exact⟨h1,yb0 h2 c⟩
   ·have:=My.level_ok d.nn b g
    exact⟨this.lo i hi,yb0 (this.hi i hi) c⟩
def zsw{w:Str}{P:Nat->Int}(h1:¬w = "pledge")(h2:¬w = "share")(f:Lit n R)(d:Lit n S):My.sumTo (zaR w n R P S W) n+zbJ w n R own=if w = "own" then My.mn own (My.sumTo R n)else zea n R S W:=by
 obtain⟨b,e,g⟩:=zgC (W:=W) f d;have c:=zgx (W:=W) d;unfold zaR zbJ;rw[if_neg h1,if_neg h2];by_cases a:w = "own"
 ·rw[if_pos a,if_pos a,if_pos a,zcT];lia
 ·rw[if_neg a,if_neg a,if_neg a];split
  ·rw[zjo c.nn ⟨b,e⟩];lia
  ·rw[(My.level_ok c.nn b e).sum];lia
def zfi{w:Str}{P:Nat->Int}(h1:¬w = "pledge")(h2:¬w = "share")(a:Lit n R)(b:Lit n S)(e:0<=own):0<=My.sumTo (zaR w n R P S W) n+zbJ w n R own/\My.sumTo (zaR w n R P S W) n+zbJ w n R own<=My.sumTo R n:=by
 obtain⟨c,f,d⟩:=zgC (W:=W) a b;rw[zsw h1 h2 a b];split
 ·exact⟨My.mn_nonneg e a.sum.1,My.mn_le_r _ _⟩
 ·exact⟨c,d⟩
def ze2{w:Str}{P:Nat->Int}(a:Lit n R)(hP:Lit n P)(b:Lit n S)(c:0<=own)(hi:i<n):0<=zdD w n R P S own W i/\zdD w n R P S own W i<=R i:=by
 unfold zdD;by_cases h1:w = "pledge"
 ·rw[if_pos (.inl h1)];unfold zaR;rw[if_pos h1];exact⟨My.mn_nonneg (a i hi).1 (hP i hi).1,My.mn_le_l _ _⟩
 by_cases h2:w = "share"
 ·rw[if_pos (.inr h2)];unfold zaR;rw[if_neg h1,if_pos h2];exact⟨My.mn_nonneg (a i hi).1 (b i hi).1,My.mn_le_l _ _⟩
 rw[if_neg (λz=>z.elim h1 h2)];exact zfN a.nn (zfi h1 h2 a b c) hi
noncomputable def zsg (K:Fg):Sp:=λvs H Q _=>∃(w:Str) (r p s wh:Addr) (own:Int) (n:Nat) (R P S:Nat->Int) (W:Nat->Bool),vs=[.str w,.ref r,.ref p,.ref s,.int own,.ref wh]/\SqL K H r ((vec n R).map V.int)/\SqL K H p ((vec n P).map V.int)/\SqL K H s ((vec n S).map V.int)/\SqL K H wh (bls n W)/\n<=9/\Lit n R/\Lit n S/\w∈words5/\zcz H Q (vec n (zaR w n R P S W)++[zbJ w n R own])
noncomputable def zsA (K:Fg):Sp:=λvs H Q _=>∃(w:Str) (r b:Addr) (own:Int) (n:Nat) (R P S:Nat->Int) (W:Nat->Bool),vs=[.str w,.ref r,.ref b]/\SqL K H r ((vec n R).map V.int)/\SqL K H b ((vec n (zaR w n R P S W)++[zbJ w n R own]).map V.int)/\n<=9/\Lit n R/\Lit n S/\0<=own/\zcz H Q (vec n (zdD w n R P S own W))
noncomputable def zsF (K:Fg):Sp:=λvs H Q _=>∃(a o:Addr) (n:Nat) (A B:Nat->Int) (ns:List Int),vs=[.ref a,.ref o]/\SqL K H a ((vec n A).map V.int)/\SqL K H o (ns.map V.int)/\n<=100/\(∀i,i<n->ns[i]?=some (B i))/\zcz H Q (vec n λi=>A i-B i)
structure LRow where
 w:Str
 f:Nat->Int
 x:Int
 gv:Nat->Int
noncomputable def zg0 (n:Nat) (G P:Nat->Int) (own:Int) (w:Str) (R S:Nat->Int):LRow:=⟨w,zaR w n R P S (λi=>decide (G i=0)),zbJ w n R own,zdD w n R P S own (λi=>decide (G i=0))⟩
noncomputable def zh9 (r:LRow) (R:Nat->Int):Nat->Int:=λi=>R i-r.gv i
noncomputable def zhP (r:LRow) (S:Nat->Int):Nat->Int:=if r.w∈(["share", "others", "level"]:List Str)then λi=>S i-r.f i else S
noncomputable def lays (n:Nat) (G P:Nat->Int) (own:Int) (ws:List Str) (a:Nat->Int):Nat->(Nat->Int) × (Nat->Int)
 | 0=>(G,a)
 | i+1=>(zh9 (zg0 n G P own (ws.getD i "") (lays n G P own ws a i).1 (lays n G P own ws a i).2) (lays n G P own ws a i).1,zhP (zg0 n G P own (ws.getD i "") (lays n G P own ws a i).1 (lays n G P own ws a i).2) (lays n G P own ws a i).2)
noncomputable def zaC (n:Nat) (G P:Nat->Int) (own:Int) (ws:List Str) (a:Nat->Int) (i:Nat):LRow:=zg0 n G P own (ws.getD i "") (lays n G P own ws a i).1 (lays n G P own ws a i).2
def zdp{G P:Nat->Int}{a:Nat->Int}:lays n G P own ws a (i+1)=(zh9 (zaC n G P own ws a i) (lays n G P own ws a i).1,zhP (zaC n G P own ws a i) (lays n G P own ws a i).2):=rfl
theorem zb0{n:Nat}{G P:Nat->Int}{own:Int}{ws:List Str}{a:Nat->Int}(d:Lit n G)(hP:Lit n P)(g:Lit n a)(h:0<=own):∀i,Lit n (lays n G P own ws a i).1/\Lit n (lays n G P own ws a i).2
 | 0=>⟨d,g⟩
 | i+1=>by
  obtain⟨h1,h2⟩:=zb0 (ws:=ws) d hP g h i;rw[zdp];refine⟨λj b=>?_,λj b=>?_⟩
  ·have:=ze2 (w:=ws.getD i "") (own:=own) (W:=λi=>decide (G i=0)) h1 hP h2 h b
   have:=h1 j b
   have e:zh9 (zaC n G P own ws a i) (lays n G P own ws a i).1 j=(lays n G P own ws a i).1 j-zdD (ws.getD i "") n (lays n G P own ws a i).1 P (lays n G P own ws a i).2 own (λi=>decide (G i=0)) j:=rfl;show 0<=zh9 (zaC n G P own ws a i) (lays n G P own ws a i).1 j/\zh9 (zaC n G P own ws a i) (lays n G P own ws a i).1 j<=100000000000000;rw[e];lia
  ·show 0<=zhP (zaC n G P own ws a i) (lays n G P own ws a i).2 j/\zhP (zaC n G P own ws a i) (lays n G P own ws a i).2 j<=100000000000000;unfold zhP;split
   ·rename_i l;have k:¬ws.getD i "" = "pledge" := λe=>by
     have c:ws.getD i "" ∈ (["share", "others", "level"]:List Str):=l;rw[e]at c;revert c;decide +kernel
    have:=zns (P:=P) (W:=λi=>decide (G i=0)) k h1 h2 b
    have:=h2 j b
    have e:(zaC n G P own ws a i).f j=zaR (ws.getD i "") n (lays n G P own ws a i).1 P (lays n G P own ws a i).2 (λi=>decide (G i=0)) j:=rfl;show 0<=(lays n G P own ws a i).2 j-(zaC n G P own ws a i).f j/\(lays n G P own ws a i).2 j-(zaC n G P own ws a i).f j<=100000000000000;rw[e];lia
   ·exact h2 j b
noncomputable def LRs (H:Hp) (n:Nat) (row:Nat->LRow) (tr:List (Addr × Addr × Addr)):Prop:=∀(i:Nat) (t:Addr × Addr × Addr),tr[i]?=some t ->
 H t.1=some (.tup [.str (row i).w,.ref t.2.1,.ref t.2.2])/\H t.2.1=some (.lst ((vec n (row i).gv).map V.int))/\H t.2.2=some (.lst ((vec n (row i).f++[(row i).x]).map V.int))
def LRs.same{row:Nat->LRow}{tr:List (Addr × Addr × Addr)}(h:LRs H n row tr)(e:Same H H'):LRs H' n row tr:=λi t a=>⟨e.at (h i t a).1,e.at (h i t a).2.1,e.at (h i t a).2.2⟩
noncomputable def zbj (tr:List (Addr × Addr × Addr)):List Addr:=tr.flatMap λt=>[t.2.1,t.2.2]
def mem_flatA{tr:List (Addr × Addr × Addr)}:a∈zbj tr↔∃t∈tr,a=t.2.1\/a=t.2.2:=by
 unfold zbj;rw[List.mem_flatMap];constructor
 ·rintro⟨t,b,h⟩
  refine⟨t,b,?_⟩
  simpa using h
 ·rintro⟨t,b,h⟩
  exact⟨t,b,by simpa using h⟩
def zeV{tr:List (Addr × Addr × Addr)}{t:Addr × Addr × Addr}:zbj (tr++[t])=zbj tr++[t.2.1,t.2.2]:=by unfold zbj;rw[List.flatMap_append];simp
def LRs.flat{row:Nat->LRow}{tr:List (Addr × Addr × Addr)}(h:LRs H n row tr)(ha:a∈zbj tr):∃ns:List Int,H a=some (.lst (ns.map V.int)):=by
 obtain⟨t,b,e⟩:=mem_flatA.mp ha;obtain⟨i,hi,c⟩:=yB b
 have:=h i t (by rw[yk hi,c])
 rcases e with e | e<;>rw[e]
 ·exact⟨_,this.2.1⟩
 ·exact⟨_,this.2.2⟩
structure LTold(H H':Hp)(n:Nat)(row:Nat->LRow)(rests:Nat->Int)(m:Nat)(p rs re:Addr)(tr:List (Addr × Addr × Addr)):Prop where
 same:Same H H'
 hp:H' p=some (.tup [.ref rs,.ref re])
 hrs:H' rs=some (.lst (tr.map λt=>V.ref t.1))
 hre:H' re=some (.lst ((vec n rests).map V.int))
 len:tr.length=m
 rows:LRs H' n row tr
 fre:H re=none
 frs:H rs=none
 ffl:∀a∈zbj tr,H a=none
 nd:(zbj tr).Nodup
 nre:re∉zbj tr
 nrs:rs∉zbj tr
 ne:rs≠re
theorem zkG{K:Fg}{H:Hp}:∀{ws:List Str},(∀w∈ws,w∈words5)->RepAll K H (ws.map V.str) (ws.map PyData.str)
 | [],_=>.nil
 | w :: ws,h=>.cons (.str w (zqv (h w (.head _)))) (zkG λx a=>h x (.tail _ a))
theorem zhW:∀ws:List Str,PyData.depthAll (ws.map PyData.str)=0
 | []=>by simp[PyData.depthAll]
 | w :: ws=>by rw[yam,PyData.depthAll,zhW ws];simp[PyData.depth]
structure LT(H:Hp)(n:Nat)(row:Nat->LRow)(rests:Nat->Int)(m:Nat)(p rs re:Addr)(tr:List (Addr × Addr × Addr)):Prop where
 hp:H p=some (.tup [.ref rs,.ref re])
 hrs:H rs=some (.lst (tr.map λt=>V.ref t.1))
 hre:H re=some (.lst ((vec n rests).map V.int))
 len:tr.length=m
 rows:LRs H n row tr
def LTold.lt{row:Nat->LRow}{a:Nat->Int}{rs re:Addr}{tr:List (Addr × Addr × Addr)}(h:LTold H H' n row a m p rs re tr):LT H' n row a m p rs re tr:=⟨h.hp,h.hrs,h.hre,h.len,h.rows⟩
theorem LT.same{H H':Hp}{n:Nat}{row:Nat->LRow}{a:Nat->Int}{m:Nat}{p rs re:Addr}{tr:List (Addr × Addr × Addr)}(h:LT H n row a m p rs re tr)(e:Same H H'):LT H' n row a m p rs re tr:=⟨e.at h.hp,e.at h.hrs,e.at h.hre,h.len,h.rows.same e⟩
noncomputable def zsZ (K:Fg):Sp:=λvs H Q _=>∃(a:Addr) (ns:List Int) (k:Int),vs=[.ref a,.int k]/\SqL K H a (ns.map V.int)/\0<=k/\k<=1000/\∀p H' (ws:List Str),H p=none->Same H H'->H' p=some (.lst (ws.map V.str))->(∀w∈ws,w∈words5)->ws.Nodup->ws.length<=5->Q (.ref p) H'
def zk6:words5.Nodup:=by decide +kernel
def zth{i:Int}(h:H l=some (.lst xs))(b:0<=i)(hi:xs[i.toNat]?=some y)(c:xs.length<=1000)(q:∀H',LBut l H H'->H' l=some (.lst (xs.eraseIdx i.toNat))->Q y H'):zoP (.ref l) [.int i] H Q:=by
 have a:=(yh.mp hi).1;refine⟨l,xs,i,i.toNat,y,rfl,rfl,h,⋯,⋯,?_,hi,q _ ⟨But.upd,xs,h⟩ zam⟩;unfold seqIndex?;have h1:¬i<0:=by lia
 have h2:i<(xs.length:Int):=by lia
 simp[h1,b,h2]
structure LMore(H H':Hp)(n:Nat)(row:Nat->LRow)(tr:List (Addr × Addr × Addr))(i:Nat):Prop where
 tup:∀c xs,H c=some (.tup xs)->H' c=some (.tup xs)
 keep:∀c o,c∉zbj tr->H c=some o->H' c=some o
 rows:∀(j:Nat) (t:Addr × Addr × Addr),tr[j]?=some t->H' t.2.1=some (.lst ((vec n (row j).gv++if j<i then[3] else[]).map V.int))/\H' t.2.2=some (.lst ((vec n (row j).f++[(row j).x]++if j<i then[3] else[]).map V.int))
def zor(l:List Str)(i:Nat):(l.map V.str).eraseIdx i=(l.eraseIdx i).map V.str:=by rw[yaX,yaX,yi,List.map_take,List.map_drop]
def znz{l:List Str}{v:Str}(h:l[i]?=some v):List.Perm (v :: l.eraseIdx i) l:=by
 obtain⟨hi,e⟩:=yh.mp h;have b:l=l.take i++v :: l.drop (i+1):=by
  rw[<- e,<- List.drop_eq_getElem_cons hi];exact(ybw i l).symm
 rw[yaX];exact(List.perm_middle (a:=v) (l₁:=l.take i) (l₂:=l.drop (i+1))).symm.trans (.of_eq b.symm)
section
variable {X:Cx}
end
noncomputable def OkO (ws:List Str):Prop:=(∀w∈ws,w∈words5)/\ws.Nodup
noncomputable def zod (K:Fg) (C:Addr):Sp:=λvs H Q E=>∃(o:Addr) (ws:List Str),vs=[.ref o]/\SqL K H o (ws.map V.str)/\ws.length<=100/\((OkO ws/\∀H',Same H H'->Q .non H')\/(¬OkO ws/\∀H',Same H H'->E (.ref C) none H'))
noncomputable def znb (K:Fg) (C:Addr):Sp:=λvs H Q E=>∃(o g p s:Addr) (own:Int) (ws:List Str) (n:Nat) (G P S:Nat->Int),vs=[.ref o,.ref g,.ref p,.ref s,.int own]/\SqL K H o (ws.map V.str)/\SqL K H g ((vec n G).map V.int)/\SqL K H p ((vec n P).map V.int)/\SqL K H s ((vec n S).map V.int)/\n<=9/\Lit n G/\Lit n P/\Lit n S/\0<=own/\ws.length<=100 /\
 ((OkO ws/\∀pt rs re tr H',LTold H H' n (zaC n G P own ws S) (lays n G P own ws S ws.length).1 ws.length pt rs re tr->Q (.ref pt) H')\/(¬OkO ws/\∀H',Same H H'->E (.ref C) none H'))
def zpJ{w:Str}(h:OkO ws)(d:w∈words5)(c:w∉ws):OkO (ws++[w]):=⟨λu g=>by
 rcases yL.mp g with q | q
 ·exact h.1 u q
 ·rw[yu.mp q];exact d,yaz.mpr ⟨h.2,by simp,λa ha b f e=>by
 rw[yu.mp f]at e;exact c (e▸ha)⟩⟩
section
variable {X:Cx}{a b e:Expr}{es:List Expr}{ta tb te:TE}{t:TA}{p pos:Pos}
def qIx(K:Fg)(ha:PE X a ta)(d:PE X b tb)(e:autoParam (X.K=K) Internal.aut2._auto_1)(c:autoParam (zl9 b) Internal.aut5._auto_1):PE X (.Subscript a b pos) (tOp (rIx K) ta tb):=by
 subst e;exact zuZ ztC ha d c
def zat(K:Fg)(a:autoParam (X.K=K) Internal.aut2._auto_1):OpR X (binaryOp .Add) (zka K):=by subst a;exact zsD
def qEq(K:Fg)(a:X.A.units+64<cLine)(b:autoParam (X.K=K) Internal.aut2._auto_1):OpR X (compareOp .Eq) (zd4 K):=by subst b;exact zti a
def qNe(K:Fg)(a:X.A.units+64<cLine)(b:autoParam (X.K=K) Internal.aut2._auto_1):OpR X (compareOp .NotEq) (zdX K):=by subst b;exact zt1 a
def zaV(K:Fg)(ha:PE X a ta)(c:autoParam (X.K=K) Internal.aut2._auto_1)(b:autoParam (∀whole,isTrue a X.env whole=(do let v <- whole;standAt a.pos;holding [v] (truthy v))) Internal.aut6._auto_1):PT X a (ztw K ta):=by
 subst c;exact zoQ ha b
def ztz(K:Fg)(ha:PE X a ta)(b:autoParam (X.K=K) Internal.aut2._auto_1):PE X (.UnaryOp .Not a pos) (znf K ta):=by subst b;exact ztf ha
def z9(K:Fg){l:Expr}{tl:TE}(hl:PE X l tl)(a:autoParam (X.K=K) Internal.aut2._auto_1):PI X tg l (zno K tl):=by subst a;exact zsu hl
def zaW(K:Fg){es:List Expr}{kx:Nat}{tp:Pos}{ta:TA}(b:X.mg "enumerate" = none)(ha:PA X [a] ta)(d:autoParam (Gl X "enumerate") Internal.aut2._auto_1)(e:autoParam (starEach [a] X.env=[(false,eval a X.env)]) Internal.aut2._auto_1)(c:autoParam (X.K=K) Internal.aut2._auto_1):PI X (.Tuple es kx tp) (.Call (.Name "enumerate" p) [a] [] pos) (zrA K ta):=by
 subst c;exact zsB d b ha e
def zaU(K:Fg)(b:X.mg "len" = none)(ha:PA X (e :: es) t)(c:autoParam (Gl X "len") Internal.aut2._auto_1)(d:autoParam "0g" Internal.aut2._auto_1)(a:autoParam ((backTo pos (starEach es X.env)).any (·.1)=false) Internal.aut2._auto_1)(f:autoParam (X.K=K) Internal.aut2._auto_1):PE X (.Call (.Name "len" p) (e :: es) [] pos) (tCB (ziA K) t):=by
 subst f;exact zaP zo1 c b BT.len ha "0a" "0a" d a
def zb7(K:Fg)(b:X.mg "sum" = none)(ha:PA X (e :: es) t)(d:autoParam (Gl X "sum") Internal.aut2._auto_1)(c:autoParam (X.calm=true) Internal.aut2._auto_1)(f:autoParam "0g" Internal.aut2._auto_1)(a:autoParam ((backTo pos (starEach es X.env)).any (·.1)=false) Internal.aut2._auto_1)(g:autoParam (X.K=K) Internal.aut2._auto_1):PE X (.Call (.Name "sum" p) (e :: es) [] pos) (tCB (znl K) t):=by
 subst g;exact zaP (zpk c) d b BT.sum ha "0a" "0a" f a
def zdB(K:Fg)(b:X.mg "isinstance" = none)(ha:PA X (e :: es) t)(c:autoParam (Gl X "isinstance") Internal.aut2._auto_1)(d:autoParam "0g" Internal.aut2._auto_1)(a:autoParam ((backTo pos (starEach es X.env)).any (·.1)=false) Internal.aut2._auto_1)(f:autoParam (X.K=K) Internal.aut2._auto_1):PE X (.Call (.Name "isinstance" p) (e :: es) [] pos) (tCB (zc3 K) t):=by
 subst f;exact zaP zn5 c b BT.isinstance ha "0a" "0a" d a
def zco(K:Fg)(b:X.mg "list" = none)(ha:PA X (e :: es) t)(c:autoParam (Gl X "list") Internal.aut2._auto_1)(d:autoParam "0g" Internal.aut2._auto_1)(a:autoParam ((backTo pos (starEach es X.env)).any (·.1)=false) Internal.aut2._auto_1)(f:autoParam (X.K=K) Internal.aut2._auto_1):PE X (.Call (.Name "list" p) (e :: es) [] pos) (tCB (zdO K) t):=by
 subst f;exact znM znk c b BT.list ha "0a" "0a" d a
def zD{P:List Str}{c:Scope}{pos':Pos}(i:Nat)(S:FnScope N P c)(f:PE X e te)(hi:autoParam (X.N[i]?=some x) Internal.aut2._auto_1)(d:autoParam (Loc X.env.scope x) Internal.aut7._auto_1)(a:autoParam (X.N=N) Internal.aut2._auto_1)(g:autoParam (swapsWith e (some (.Name x pos')) pos.line X.env=pure false) Internal.aut2._auto_1)(b:autoParam (X.fn x=true\/X.env.scope.names.lookup x=some .local) Internal.aut8._auto_1) :
  PS X (.Assign [.Name x pos'] e pos) (zlv te (zbW i)):=ztP (a▸S.nd) hi d f g b
def qAp(K:Fg){o:Expr}{to:TE}{t:TA}{apos cpos:Pos}(a:PE X o to)(ha:PA X [e] t)(b:autoParam (X.K=K) Internal.aut2._auto_1)
  (hbase:autoParam (attributeBase o "append" X.env (eval o X.env)=eval o X.env) Internal.aut2._auto_1)
  (hfew:autoParam (((backTo cpos (starEach [e] X.env)).all (λx=>!x.1)&&(backToKw cpos (keywordEach [] X.env)).all (λx=>x.1.isSome)
   && decide (([e]:List Expr).length+([]:List Keyword).length+(if([]:List Keyword).isEmpty then 0 else 1)<30))=true) Internal.aut2._auto_1)
  (hline:autoParam ((apos.endLine == cpos.line)=true) Internal.aut2._auto_1) (hs:autoParam (starEach [e] X.env=(false,eval e X.env) :: starEach [] X.env) Internal.aut2._auto_1) (hplain:autoParam ((backTo cpos (starEach [] X.env)).any (·.1)=false) Internal.aut2._auto_1) :
  PE X (.Call (.Attribute o "append" apos) [e] [] cpos) (tBM K "list" zbO to t):=by
 subst b;exact zhE yaJ PySem.F.slot_list_append PySem.F.type_list_append zi9 a ha hbase hfew hline hs hplain
def qC1(Ni:List Str)(caps:List (Option Nat)){b:Pos}(hi:PI X (.Name x b) iter wi)(c:∀cs s₃ H₃ fp pins,PE (zbb X scope Ni cs s₃ H₃ fp pins) elt te)(f:autoParam (zeG X.env.scope X.N scope Ni caps=true) Internal.aut2._auto_1)(d:autoParam (X.calm=true) Internal.aut2._auto_1)(e:autoParam (scope.names.lookup x=some .local\/scope.names.lookup x=some .cell) Internal.aut7._auto_1)(a:autoParam (Ni[0]?=some x) Internal.aut2._auto_1)(g:autoParam (∀x,foldedSetIterable iter X.env x=pure x) Internal.aut3._auto_1):PE X (.ListComp elt [⟨.Name x b,iter,[],0⟩] scope pos) (zeR wi caps (zbW 0) zd8 te):=
 zgw d hi (zaJ f) (λS _ _ _ _ _=>zaF S e a) (λ_ _ _ _ _=>zeK) c g
def qS1(i:Nat){P:List Str}{m:Scope}{y:Str}{g a:Pos}(F:FnScope N P m)(Ni:List Str)(caps:List (Option Nat)){f:Pos}(hi:PI X (.Name x f) iter wi)(h:∀cs s₃ H₃ fp pins,PE (zbb X scope Ni cs s₃ H₃ fp pins) elt te)(e:autoParam (X.N[i]?=some y) Internal.aut2._auto_1)(j:autoParam (X.env.scope.names.lookup y=some .local) Internal.aut2._auto_1)(d:autoParam (X.N=N) Internal.aut2._auto_1)(o:autoParam (zeG X.env.scope X.N scope Ni caps=true) Internal.aut2._auto_1)(l:autoParam (X.calm=true) Internal.aut2._auto_1)(n:autoParam (scope.names.lookup x=some .local\/scope.names.lookup x=some .cell) Internal.aut7._auto_1)(b:autoParam (Ni[0]?=some x) Internal.aut2._auto_1)(c:autoParam (swapsWith (.ListComp elt [⟨.Name x f,iter,[],0⟩] scope pos) (some (.Name y g)) a.line X.env=pure true) Internal.aut2._auto_1)(k:autoParam (∀x,foldedSetIterable iter X.env x=pure x) Internal.aut3._auto_1):PS X (.Assign [.Name y g] (.ListComp elt [⟨.Name x f,iter,[],0⟩] scope pos) a) (zlv (zeR wi caps (zbW 0) zd8 te) (zbW i)):=
 zc6 (d▸F.nd) e j l hi (zaJ o) (λS _ _ _ _ _=>zaF S n b) (λ_ _ _ _ _=>zeK) h c k
def qC2(K:Fg)(Ni:List Str)(caps:List (Option Nat)){y:Str}{e c tp:Pos}{kx:Nat}(hi:PI X (.Tuple [.Name x e,.Name y c] kx tp) iter wi)(f:∀cs s₃ H₃ fp pins,PE (zbb X scope Ni cs s₃ H₃ fp pins) elt te)(j:autoParam (zeG X.env.scope X.N scope Ni caps=true) Internal.aut2._auto_1)(d:autoParam (X.calm=true) Internal.aut2._auto_1)(i:autoParam (scope.names.lookup x=some .local\/scope.names.lookup x=some .cell) Internal.aut7._auto_1)(g:autoParam (scope.names.lookup y=some .local\/scope.names.lookup y=some .cell) Internal.aut7._auto_1)(b:autoParam (Ni[0]?=some x) Internal.aut2._auto_1)(a:autoParam (Ni[1]?=some y) Internal.aut2._auto_1)(k:autoParam (X.K=K) Internal.aut2._auto_1)(h:autoParam (∀x,foldedSetIterable iter X.env x=pure x) Internal.aut3._auto_1):PE X (.ListComp elt [⟨.Tuple [.Name x e,.Name y c] kx tp,iter,[],0⟩] scope pos) (zeR wi caps (zbs K 2 (zj8 (zbW 0) (zj8 (zbW 1) zpX))) zd8 te):=by
 subst k;exact zgw d hi (zaJ j) (λS _ _ _ _ _=>zaS (n:=2) d (zH (zaF S i b) (zH (zaF S g a) zaD))) (λ_ _ _ _ _=>zeK) f h
end
open PySem PySem.Spec PyProof.Rows Dt
noncomputable def zue:V->List V->Hp->VK->Prop:=λx vs H Q=>∃l xs i y,x=.ref l/\vs=[.int i,y]/\H l=some (.lst xs)/\0<=i/\i<=xs.length/\xs.length<=1000/\Q .non (upd H l (.lst (xs.take i.toNat++y :: xs.drop i.toNat)))
def zoT:MtM X "list.insert" zue:=by
 intro pins s σ H x vs v us Q I c d h;obtain⟨l,xs,i,y,rfl,rfl,b,k,h1,j,q⟩:=h;cases c;obtain⟨u,w,rfl,g,a⟩:=d.two;obtain⟨t,rfl⟩:=g;obtain⟨z,its,n,r,hl,e⟩:=I.lstM b;have hi:i.toNat<=its.length:=by lia
 refine call_meets F.slot_list_insert ⟨_,e,rfl⟩ F.entry_list_insert (F.args_list_insert_3 _ _ _) (PySem.AutoListH.list_insert_list_int_val_1 l its.toArray n i t w (by rw[fitsIndex_both ⋯ ⋯];decide) (by rw[yp];lia)) ⟨e,?_⟩;refine⟨.non,_,I.lset (its':=its.take i.toNat++w :: its.drop i.toNat) b e ?_ ((r.take _).append (.cons a (r.drop _))) ?_,rfl,q⟩
 ·have f:(if i<0 then(i+((its.toArray.size:Nat):Int)).toNat else min i.toNat its.toArray.size)=i.toNat:=by
   rw[if_neg ⋯,yp];lia
  simp only[f];apply Array.toList_inj.mp
  simp
  exact yaf (by rw[y3];lia)
 ·rw[yc,yay,yaC,y3]
  have:=j
  show _<=sizeLine;rw[sizeLine_eq];lia
def zu1{i:Int}(h:H l=some (.lst xs))(b:0<=i)(h1:i<=xs.length)(a:xs.length<=1000)(q:∀H',LBut l H H'->H' l=some (.lst (xs.take i.toNat++y :: xs.drop i.toNat))->Q .non H'):zue (.ref l) [.int i,y] H Q:=⟨l,xs,i,y,rfl,rfl,h,b,h1,a,q _ ⟨But.upd,xs,h⟩ zam⟩
noncomputable def zct (row:Nat->LRow) (m i:Nat):Int:=My.sumTo (λj=>(row j).gv i) m
theorem zec{n:Nat}{G P:Nat->Int}{own:Int}{ws:List Str}{S:Nat->Int}{i:Nat}:∀m,(lays n G P own ws S m).1 i=G i-zct (zaC n G P own ws S) m i
 | 0=>by show G i=G i-0;lia
 | m+1=>by
  rw[zdp]
  show(lays n G P own ws S m).1 i-(zaC n G P own ws S m).gv i=G i-(zct (zaC n G P own ws S) m i+(zaC n G P own ws S m).gv i)
  rw[zec m];lia
def zp1{G P:Nat->Int}{w:Str}(b:Lit n R)(c:Lit n S)(d:0<=own):My.sumTo (zg0 n G P own w R S).gv n=My.sumTo (zg0 n G P own w R S).f n+(zg0 n G P own w R S).x:=by
 show My.sumTo (zdD w n R P S own _) n=My.sumTo (zaR w n R P S _) n+zbJ w n R own;by_cases h1:w = "pledge" \/ w = "share"
 ·have a:¬w = "own" := by rcases h1 with h | h<;>rw[h]<;>decide +kernel
  unfold zdD zbJ;rw[if_pos h1,if_neg a];lia
 ·have h2:¬w = "pledge" := λz=>h1 (.inl z);have a:¬w = "share" := λz=>h1 (.inr z);unfold zdD;rw[if_neg h1,zjo b.nn (zfi h2 a b c d)]
section
variable {n:Nat}{ds:List Due}{ps:List Int}{qs:List Rat}
def zhy(ds:List Due)(m:Nat):zL ds (λd=>((d.a:Int):Rat)) m=((zaM ds m:Int):Rat):=
 zaO (P:=λds=>zL ds (λd=>((d.a:Int):Rat)) m=((zaM ds m:Int):Rat)) rfl (λes d b=>by
  rw[za9,za7,b];split
  ·rw[yO]
  ·exact Rat.add_zero _) ds
def zds(hd:∀d∈ds,zo n d)(m:Nat):za5 ds m=((zao ds m:Int):Rat):=by
 unfold za5;rw[zm4 λd h=>⟨(hd d h).2.2.2.2.2.1,(hd d h).2.2.2.2.2.2.1⟩]
def zpT(hd:∀d∈ds,zo n d)(h:∀q∈qs,0<=q)(m:Nat):zL ds (zX ds qs) m<=((zaM ds m:Int):Rat):=by
 rw[<- zhy];refine zdM (λd c=>?_) m;have e:=(hd d c).2.2.2.2.2.2.2.1
 have:=(zfC (zsC h d.p.toNat) (zc7 hd d.p.toNat d.r.toNat)).2
 have b:(0:Rat)<=((d.a:Int):Rat):=zaE e;unfold zX
 have:=yJ this b
 rwa [Rat.mul_one]at this
def Gr.end0(hd:∀d∈ds,zo n d)(G:Gr n ds ps qs)(a:m<n)(h:ps.getD m 0+zan ds m<=0):zdE ds ps qs m=0:=by
 have f:=G.fix m a;have g:=zpT hd G.nn m;have h':((ps.getD m 0:Int):Rat)+(((zaM ds m:Int):Rat)-((zao ds m:Int):Rat))<=0:=by
  have:=zaE h
  rw[yO]at this;unfold zan at this;rw[yb3]at this;exact this
 rw[<- zds hd]at h';unfold zdE;rw[f];unfold zbG;split
 ·grind
 ·grind
def Gr.all(hd:∀d∈ds,zo n d)(G:Gr n ds ps qs):(∀m,m<n->0<=ps.getD m 0+zan ds m)↔∀m,m<n->za5 ds m<=qs.getD m 0:=by
 have full:∀s:List Rat,(∀m,m<n->s.getD m 0=za5 ds m)->∀m,zL ds (zX ds s) m=((zaM ds m:Int):Rat):=λs g m=>by
  rw[<- zhy];refine Rat.le_antisymm (zdM (λd a=>?_) m) (zdM (λd a=>?_) m)
  all_goals
   obtain⟨p0,j,_⟩:=hd d a;rw[zr4 hd a (g _ ⋯)];exact yE
 have e:∀m,(0<=ps.getD m 0+zan ds m)↔za5 ds m<=((ps.getD m 0:Int):Rat)+((zaM ds m:Int):Rat):=λm=>by
  rw[zds hd,<- yO,Rat.intCast_le_intCast];unfold zan;lia
 constructor
 ·intro h;have hl:("0i".map (za5 ds)).length=n:=by rw[ya,yx]
  have c:∀m,m<n->("0i".map (za5 ds)).getD m 0=za5 ds m:=λm a=>by
   rw[yf,ye,yU a];rfl
  have:=G.top ("0i".map (za5 ds)) hl (λq b=>by
   obtain⟨i,_,rfl⟩:=y8.mp b;exact zr5 hd i) λm a=>by
   rw[c m a];unfold zbG;split
   ·rw[full _ c m];exact(e m).mp (h m a)
   ·exact yE
  intro m a
  have:=this m (by rw[hl];exact a)
  rwa [c m a]at this
 ·intro h m a;have b:∀m,m<n->qs.getD m 0=za5 ds m:=λm a=>by
   have f:=G.fix m a
   have:=h m a
   unfold zbG at f;split at f<;>grind
  rw[e m];have f:=G.fix m a;rw[b m a]at f;unfold zbG at f;rw[full _ b m]at f;split at f<;>grind
end
def ziJ{n:Int}(ds:List Due):(∀d∈ds,zo n d/\d.a<=1000000000000)->0<=zao ds m/\zao ds m<=1000000000000*(ds.length:Int)/\0<=zaM ds m:=
 zaO (P:=λds=>(∀d∈ds,zo n d/\d.a<=1000000000000)->0<=zao ds m/\zao ds m<=1000000000000*(ds.length:Int)/\0<=zaM ds m) (λ_=>⟨y6 _,y6 _,y6 _⟩) (λes d c h=>by
  have h1:=c λx b=>h x (yt _ b);obtain⟨h2,e⟩:=h d (yq _ (.head _));have f:=h2.2.2.2.2.2.2.2.1;rw[zbh,za7,yc,yah];split<;>split<;>lia) ds
abbrev zpw(n:Nat)(ds:List Due)(pf P S:Nat->Int)(own:Int)(ws:List Str)(i:Nat):Int:=pf i+zct (zaC n (zah ds pf) P own ws S) ws.length i
abbrev zae(n:Nat)(ds:List Due)(pf P S:Nat->Int)(own:Int)(ws:List Str):List Int:=vec n (zpw n ds pf P S own ws)
noncomputable def zsx (K:Fg):Sp:=λvs H Q _=>∃(u r:Addr) (n:Nat) (pf:Nat->Int) (row:Nat->LRow) (tr:List (Addr × Addr × Addr)),vs=[.ref u,.ref r]/\H u=some (.lst ((vec n pf).map V.int))/\H r=some (.lst (tr.map λt=>V.ref t.1))/\LRs H n row tr/\n<=9/\tr.length<=100/\zcz H Q (vec n λi=>pf i+zct row tr.length i)
abbrev zcM(n:Nat)(es:List Due)(qs:List Rat):List Nat:="0i".filter λm=>decide (qs.getD m 0<za5 es m)
abbrev zbz(n:Nat)(es:List Due)(qs:List Rat):List Int:=(zcM n es qs).map λm=>((m:Nat):Int)
noncomputable def ztF (K:Fg):Sp:=λvs H Q _=>∃(a y:Addr) (es:List Due) (wl:List V) (qs:List Rat),vs=[.ref a,.ref y]/\IsSh K H a es/\H y=some (.lst wl)/\IsQs H wl qs/\(∀d∈es,zo qs.length d/\d.a<=1000000000000)/\es.length<=64/\qs.length<=9/\(∀q∈qs,SzQ q 60000 60000)/\zcz H Q (zbz qs.length es qs)
noncomputable def ClrAt (n:Nat) (ds:List Due) (ps:List Int) (k:Nat):Prop:=∃W P,Clr n ds ps W P/\zcw n ds "0c".1 "0c".2/\(∀j,j<k->¬zcw n ds (cst n ds (pQ ps) j).1 (cst n ds (pQ ps) j).2)/\COk n ds (pQ ps) (prodN (λ_=>W) n*P*W) k "0c".1 "0c".2
theorem ClrAt.gr{n:Nat}{ds:List Due}{ps:List Int}{k:Nat}(h:ClrAt n ds ps k):Gr n ds ps (zal n ds ps k):=by
 obtain⟨W,P,C,a,_,ok⟩:=h;exact C.gr ok a
theorem ClrAt.wide{n:Nat}{ds:List Due}{ps:List Int}{k:Nat}(h:ClrAt n ds ps k):zrL (zal n ds ps k):=by
 obtain⟨W,P,C,a,_,ok⟩:=h;exact C.wide ok
def ClrAt.ends{ps:List Int}(h:ClrAt n ds ps k)(b:sz ((zcf ds:Nat):Int)<=750):(∀q∈zcJ ds ps (zal n ds ps k),0<=q/\SzQ q 7857 7800)/\zbB (zcJ ds ps (zal n ds ps k))=((zS ps:Int):Rat):=by
 obtain⟨W,P,C,a,_,ok⟩:=h;exact⟨ztx C b ok a,zqF C ok⟩
noncomputable def Clears (n:Nat) (ds:List Due):Prop:=∀(g:Nat->Int) (ms:List Int),(∀i,i<ds.length->0<=g i/\g i<=amF ds i)->ms.length=n->zcC ms->(∃W P,Clr n (zk ds g) ms W P)/\sz ((zcf (zk ds g):Nat):Int)<=750
structure STold(H:Hp)(n:Nat)(ds:List Due)(pf P S:Nat->Int)(own:Int)(ws:List Str)(pt ga p0 rs re le la en ou:Addr)(tr:List (Addr × Addr × Addr))(g:Nat->Int)(wl we:List V)(k0 k1:Nat):Prop where
 hpt:H pt=some (.tup [.ref ga,.ref rs,.ref re,.ref le,.ref la,.ref en,.ref ou])
 hga:H ga=some (.lst ((vec n (zah ds pf)).map V.int))
 lt:LT H n (zaC n (zah ds pf) P own ws S) (lays n (zah ds pf) P own ws S ws.length).1 ws.length p0 rs re tr
 hle:H le=some (.lst ((vec ds.length g).map V.int))
 hla:H la=some (.lst wl)
 iwl:IsQs H wl (zal n (zk ds g) "0j" k1)
 hen:H en=some (.lst we)
 iwe:IsQs H we (zcJ (zk ds g) "0j" (zal n (zk ds g) "0j" k1))
 hou:H ou=some (.lst ((zbz n (zk ds g) (zal n (zk ds g) "0j" k1)).map V.int))
 safe:SafeC n ds (zgu ds (cst n ds (pQ "0j") k0).1) g
 ring:RingOf (zk ds (zbk ds (zgu ds (cst n ds (pQ "0j") k0).1) g)) n []
 at0:ClrAt n ds "0j" k0
 at1:ClrAt n (zk ds g) "0j" k1
noncomputable def znD (K:Fg) (C:Addr):Sp:=λvs H Q E=>∃(a u p s o:Addr) (own:Int) (ws:List Str) (n:Nat) (ds:List Due) (pf P S:Nat->Int),vs=[.ref a,.ref u,.ref p,.ref s,.int own,.ref o]/\IsSh K H a ds/\H u=some (.lst ((vec n pf).map V.int))/\H p=some (.lst ((vec n P).map V.int))/\H s=some (.lst ((vec n S).map V.int))/\H o=some (.lst (ws.map V.str))/\1<=n/\n<=9/\ds.length<=64/\(∀d∈ds,zo n d/\d.a<=1000000000000)/\(∀i,i<n->0<=pf i/\pf i<=1000000000000)/\Lit n P/\Lit n S/\0<=own/\ws.length<=100/\Clears n ds /\
 ((OkO ws/\∀pt ga p0 rs re le la en ou tr g wl we k0 k1 H',Same H H'->STold H' n ds pf P S own ws pt ga p0 rs re le la en ou tr g wl we k0 k1->Q (.ref pt) H')\/(¬OkO ws/\∀H',Same H H'->E (.ref C) none H'))
section
variable {n:Nat}{ds:List Due}{pf P S:Nat->Int}{own:Int}{ws:List Str}
def ztG(m:Nat):0<=zah ds pf m:=by unfold zah;split<;>lia
def zmf(hl:ds.length<=64)(hd:∀d∈ds,zo n d/\d.a<=1000000000000)(hp:∀i,i<n->0<=pf i/\pf i<=1000000000000):∀i,i<n->0<=zah ds pf i/\zah ds pf i<=64000000000000:=λi hi=>by
 have h1:=ziJ (m:=i) ds hd;have h2:=hp i hi;refine⟨ztG i,?_⟩;unfold zah zan;split<;>lia
def zlj(e:Lit n (zah ds pf))(a:∀i,i<n->zah ds pf i<=64000000000000)(hp:∀i,i<n->0<=pf i/\pf i<=1000000000000)(b:Lit n P)(d:Lit n S)(c:0<=own):zcC "0j":=λx f=>by
 obtain⟨i,hi,rfl⟩:=ziy f;have h1:=zec (n:=n) (G:=zah ds pf) (P:=P) (own:=own) (ws:=ws) (S:=S) (i:=i) ws.length;have h2:=((zb0 (ws:=ws) e b d c ws.length).1 i hi).1;have g:=hp i hi;have h:=a i hi;have k:0<=zct (zaC n (zah ds pf) P own ws S) ws.length i:=My.sumTo_nonneg λj _=>by
  obtain⟨h1,h2⟩:=zb0 (ws:=ws) e b d c j;exact(ze2 (w:=ws.getD j "") (own:=own) (W:=λi=>decide (zah ds pf i=0)) h1 b h2 c hi).1
 show 0<=pf i+_/\pf i+_<=_;lia
def ze9:zk ds (amF ds)=ds:=by
 apply yab;intro i;by_cases h:i<ds.length
 ·obtain⟨d,hd⟩:=zC h;rw[za8 hd,hd,zbT hd]
 ·rw[yG (by rw[zU];lia),yG ⋯]
def Clears.self(h:Clears n ds)(hd:∀d∈ds,zo n d){ms:List Int}(hl:ms.length=n)(hp:zcC ms):∃W P,Clr n ds ms W P:=by
 have:=(h (amF ds) ms (λi hi=>⟨(zh4 hd hi).1,y6 _⟩) hl hp).1
 rwa [ze9]at this
end
def zuv{g:Nat->Int}{A:Int}(l:∀i,i<ds.length->0<=g i/\g i<=amF ds i)(h:∀d∈ds,d.a<=A):∀d∈zk ds g,d.a<=A:=λd f=>by
 obtain⟨i,hi,k⟩:=yB f;have b:i<ds.length:=by rw[zU]at hi;exact hi
 obtain⟨e,c⟩:=zC b;have h2:=za8 (m:=g) c;rw[yk hi,k]at h2;cases h2;have j:=l i b;rw[zbT c]at j
 have:=h e (yb c)
 show g i<=A;lia
def zrO{g:Nat->Int}(a:∀i,i<ds.length->0<=g i/\g i<=amF ds i)(h:∀d∈ds,zo n d):∀d∈zk ds g,zo n d:=zd6 h λi hi=>by
 have h1:=a i hi;have h2:=zh4 h hi;lia
def zoC(p:n<=7)(hd:∀d∈ds,zo n d/\d.a<=1000000000)(hl:ds.length<=14):Clears n ds:=λg ms k j f=>by
 have l:=zuv k λd h=>(hd d h).2;have e:=zrO k λd h=>(hd d h).1;have o:(zk ds g).length<=14:=by rw[zU];exact hl
 have b:∀d∈zk ds g,zo n d/\d.a<=1000000000000:=λd h=>⟨e d h,by have:=l d h;lia⟩
 have t1:=zuy (n:=n) (zk ds g) λd h=>(e d h).2.2.2.2.2.2.2.1;have i:((2 ^ 35:Nat):Int)=34359738368:=by decide
 refine⟨⟨_,_,ztA (w:=35) (A:=1000000000) ⋯ b ⋯ j f l "0a" (by rw[i];lia) ?_⟩,?_⟩
 ·exact yj (ybm (show 35*n+50+35<=330 by lia) (show zda n (zk ds g)+1<=15 by lia)) "0a"
 ·exact zrS (zqZ (n:=3) (c:=((zk ds g).length:Int)) (m:=1) ⟨λz=>absurd z "0a",λ_=>by lia,⋯⟩ (λd h=>⟨(e d h).2.2.2.2.2.2.2.1,(b d h).2⟩) ⋯ ⋯ "0a" "0a" "0a" (λ_=>by decide))
def zqe(h:H a=some (.tup xs))(q:∀p H',H p=none->Same H H'->H' p=some (.lst xs)->Q (.ref p) H'):zdO K [.ref a] H Q:=⟨a,xs,rfl,.inr (.of h),λp hp=>q p _ hp (Same.new hp _) zam⟩
noncomputable def zpm (K:Fg):Sp:=λvs H Q _=>∃(a:Addr) (ns:List Int) (st n c:Int),vs=[.ref a,.int st,.int n,.int c]/\SqL K H a (ns.map V.int)/\0<=st/\st<=1000/\1<=n/\n<=9/\0<=c/\c<=64/\(n=1->c=0)/\∀p H' vs ds,H p=none->Same H H'->H' p=some (.lst vs)->IsTs zdC H' vs ds->(∀d∈ds,zo n d/\d.a<=1000000000)->(ds.length:Int)=c->Q (.ref p) H'
noncomputable def zq5:Sp:=λvs H Q _=>∃(a b:Int),vs=[.int a,.int b]/\0<=a/\0<b/\My.gc a b=1/\Q (.bl true) H
noncomputable def zoE (K:Fg):Sp:=λvs H Q _=>∃(y:Addr) (ws:List V) (qs:List Rat) (m:Int),vs=[.ref y,.int m]/\H y=some (.lst ws)/\IsQs H ws qs/\(qs.length:Int)=m/\(∀q∈qs,0<=q)/\∀H',Same H H'->Q (.bl true) H'
noncomputable def zpH (K:Fg):Sp:=λvs H Q _=>∃(n:Int) (a l:Addr) (ds:List Due) (g:Nat->Int),vs=[.int n,.ref a,.ref l]/\IsSh K H a ds/\H l=some (.lst ((vec ds.length g).map V.int))/\ds.length<=64/\0<=n/\n<=1000/\(∀d∈ds,zo n d)/\zcz H Q (vec n.toNat (zao (zk ds g)))
noncomputable def zsa (K:Fg):Sp:=λvs H Q _=>∃(n:Int) (a l:Addr) (ds:List Due) (g:Nat->Int),vs=[.int n,.ref a,.ref l]/\IsSh K H a ds/\H l=some (.lst ((vec ds.length g).map V.int))/\ds.length<=64/\0<=n/\n<=1000/\(∀d∈ds,zo n d)/\zcz H Q (vec n.toNat (zan (zk ds g)))
noncomputable def zn7 (K:Fg):Sp:=λvs H Q _=>∃(r o:Addr) (n:Nat) (row:Nat->LRow) (tr:List (Addr × Addr × Addr)) (ws:List Str),vs=[.ref r,.ref o,.int (n:Int)]/\H r=some (.lst (tr.map λt=>V.ref t.1))/\LRs H n row tr/\tr.length=ws.length/\H o=some (.lst (ws.map V.str))/\n<=9/\ws.length<=100/\(∀i,i<ws.length->ws[i]?=some (row i).w/\My.sumTo (row i).gv n=My.sumTo (row i).f n+(row i).x)/\zcz H Q (vec n (zct row ws.length))
noncomputable def zmH (K:Fg):Sp:=λvs H Q _=>∃(y:Addr) (ws:List V) (qs:List Rat) (c:Int),vs=[.ref y,.int c]/\H y=some (.lst ws)/\IsQs H ws qs/\qs.length<=9/\(∀q∈qs,SzQ q 7857 7800)/\sz c<=200/\zbB qs=((c:Int):Rat)/\Q (.bl true) H
noncomputable def zrZ (K:Fg):Sp:=λvs H Q _=>∃(n:Int) (a l:Addr) (ds:List Due) (g:Nat->Int),vs=[.ref l,.ref a,.int n]/\IsSh K H a ds/\H l=some (.lst ((vec ds.length g).map V.int))/\ds.length<=64/\0<=n/\n<=9/\(∀d∈ds,zo n d)/\(∀i,i<ds.length->0<=g i/\g i<=amF ds i)/\(∀m,m<n.toNat->zan (zk ds g) m=zan ds m)/\∀H',Same H H'->Q (.bl true) H'
noncomputable def zlR (K:Fg):Sp:=λvs H Q _=>∃(a u p s o:Addr) (own:Int) (ws:List Str) (n:Nat) (ds:List Due) (pf P S:Nat->Int),vs=[.ref a,.ref u,.ref p,.ref s,.int own,.ref o]/\IsSh K H a ds/\H u=some (.lst ((vec n pf).map V.int))/\H p=some (.lst ((vec n P).map V.int))/\H s=some (.lst ((vec n S).map V.int))/\H o=some (.lst (ws.map V.str))/\1<=n/\n<=9/\ds.length<=64/\(∀d∈ds,zo n d/\d.a<=1000000000000)/\(∀i,i<n->0<=pf i/\pf i<=1000000000000)/\Lit n P/\Lit n S/\0<=own/\ws.length<=100/\Clears n ds/\¬OkO ws/\∀H',Same H H'->Q (.bl true) H'
noncomputable def zsj (K:Fg):Sp:=λvs H Q _=>∃(pt a u o:Addr) (own:Int) (ws:List Str) (n:Nat) (ds:List Due) (pf P S:Nat->Int) (ga p0 rs re le la en ou:Addr) (tr:List (Addr × Addr × Addr)) (g:Nat->Int) (wl we:List V) (k0 k1:Nat),vs=[.ref pt,.ref a,.ref u,.ref o]/\IsSh K H a ds/\H u=some (.lst ((vec n pf).map V.int))/\H o=some (.lst (ws.map V.str))/\1<=n/\n<=9/\ds.length<=64/\(∀d∈ds,zo n d/\d.a<=1000000000000)/\(∀i,i<n->0<=pf i/\pf i<=1000000000000)/\Lit n P/\Lit n S/\0<=own/\ws.length<=100/\Clears n ds/\STold H n ds pf P S own ws pt ga p0 rs re le la en ou tr g wl we k0 k1/\∀H',Q (.bl true) H'
def ziB{H:Hp}{Q:VK}{lo:Int}{te:TE}(B:Int)(t:zb8 caps σ=none :: rest)(w:n<=1000)
  (hs:∀(i:Nat) (o:Option V) (H':Hp) (R:VK),i<n->Same H H'->(∀y H'',0<=y->y<=B->Same H' H''->R (.int y) H'')->te ((o :: rest).set 0 (some (.int (lo+i)))) H' R)
  (q:∀p H' (F:Nat->Int),H p=none->Same H H'->H' p=some (.lst ((vec n F).map V.int))->(∀i,i<n->0<=F i/\F i<=B)->Q (.ref p) H'):zdj (Itr lo n) caps (zbW 0) zd8 te σ Q H:=by
 refine zN zbw (λ_ _=>trivial) t (λi vs _=>∃ms:List Int,vs=ms.map V.int/\ms.length=i/\∀x∈ms,0<=x/\x<=B) (λ_ _=>⟨[],rfl,rfl,λ_ h=>nomatch h⟩) ?_ ?_
 ·rintro i x D vs o H' H2 hi g e f d ⟨ms,rfl,c,a⟩ j rfl;refine zgz (zj9 (zef ?_));refine hs i o H2 _ hi (e.trans j) λy u l r k=>?_;refine zfD ((j.trans k).at f) ⋯ λv b s=>?_;refine⟨⟨_,rfl⟩,b.same ((e.trans j).trans k) g,_,s,by rw[yc];exact yl d,ms++[y],by rw[yi];rfl,by rw[yc,c];rfl,λz m=>?_⟩;rcases yL.mp m with h | h
  ·exact a z h
  ·rw[yu.mp h];exact⟨l,r⟩
 ·rintro D H' vs g e f d ⟨ms,rfl,c,a⟩;rw[zpq ms,c]at f;exact q D H' _ g e f λi hi=>a _ (zp8 ⋯)
def zmG{Q:VK}(v:zb8 caps σ=none :: rest)(g:IsSh K H a ds)(hl:ds.length<=64)
  (q:∀p H',H p=none->Same H H'->H' p=some (.lst ((vec ds.length (amF ds)).map V.int))->Q (.ref p) H'):zdj (Itl K a) caps (zbW 0) zd8 (tOp (rIx K) (zkv 0) (tC (.int 3))) σ Q H:=by
 obtain⟨xs,w,n⟩:=g;have j:=n.length;refine zN (zW (K:=K) (a:=a) (xs:=xs)) (λH' e=>w.keep e) v (λi vs _=>vs=(vec i (amF ds)).map V.int) (λH' _=>rfl) ?_ ?_
 ·rintro i x D vs o y A hi f m c h rfl l t;obtain⟨b,d,rfl,k,s⟩:=(n.same (m.trans l)).get t;refine zgz (zj9 (zef (zrM rfl (zrs (.of s) rfl (zfD (l.at c) ⋯ λz r u=>?_)))));exact CompN.int ⟨_,rfl⟩ (r.same (m.trans l) f) u (by rw[zbT k])
 ·rintro D H' vs f e c h rfl;rw[j]at c;exact q D H' f e c
def zpl{K:Fg}{Q:VK}{i e f l n m j p2 h k:Addr}{ds:List Due}{U P S:List Int}(h1:H a=some (.lst [.ref i,.ref e,.ref f,.ref l,.ref n]))(h2:H b=some (.lst [.ref m,.ref j,.ref p2,.ref h,.ref k]))(r:∀w∈ws,w∈words5)
  (hd1:IsSh K H i ds) (hu1:H e=some (.lst (U.map V.int))) (hp1:H f=some (.lst (P.map V.int))) (hs1:H l=some (.lst (S.map V.int))) (ho1:H n=some (.lst (ws.map V.str)))
  (hd2:IsSh K H m ds) (hu2:H j=some (.lst (U.map V.int))) (hp2:H p2=some (.lst (P.map V.int))) (hs2:H h=some (.lst (S.map V.int))) (ho2:H k=some (.lst (ws.map V.str))) (q:Q (.bl false) H):zdX K (.ref a) (.ref b) H Q:=by
 have c:∀{d u p s o:Addr},IsSh K H d ds->H u=some (.lst (U.map V.int))->H p=some (.lst (P.map V.int))->H s=some (.lst (S.map V.int))->H o=some (.lst (ws.map V.str))->RepAll K H [.ref d,.ref u,.ref p,.ref s,.ref o] [.list (ds.map λd=>.tuple (zkK d)),.list (U.map PyData.int),.list (P.map PyData.int),.list (S.map PyData.int),.list (ws.map PyData.str)]:=fun⟨xs,hS,hT⟩ hu hp hs ho=>.cons (.lst hS (zpy hT)) (.cons (.lst (.of hu) (zbx U)) (.cons (.lst (.of hp) (zbx P)) (.cons (.lst (.of hs) (zbx S)) (.cons (.lst (.of ho) (zkG r)) .nil))));have g:=c hd1 hu1 hp1 hs1 ho1;have t:=c hd2 hu2 hp2 hs2 ho2
 have:=zii ds
 refine zhC (.lst (.of h1) g) (.lst (.of h2) t) (by simp only[PyData.depth,PyData.depthAll,zbX,zhW];lia) ?_;rw[ybA _ (by rw[PyData.canLay0];exact g.lay)];exact q
noncomputable def bad4:List Str:=["none", "Share", "", "level "]
def zs5{y:Str}(h:y∈ws++bad4):¬OkO (ws.take i++y :: ws.drop i):=fun⟨h5,nd⟩=>by
 rcases yL.mp h with b | b
 ·have:=(List.perm_middle (a:=y) (l₁:=ws.take i) (l₂:=ws.drop i)).nodup_iff.mp nd
  rw[ybw]at this;exact(yaK.mp this).1 b
 ·have c:=h5 y (yq _ (.head _));revert c;unfold bad4 at b;simp only[yy,yap,or_false]at b;rcases b with b | b | b | b<;>rw[b]<;>decide +kernel
def zvm{x:Int}:q<((x:Int):Rat)↔q.num<x*"0l":=by
 rw[Rat.lt_iff];show q.num*((1:Nat):Int)<x*_↔_;rw[Int.natCast_one,ya2]
def q_le{x:Int}:q<=((x:Int):Rat)↔q.num<=x*"0l":=by
 rw[Rat.le_iff];show q.num*((1:Nat):Int)<=x*_↔_;rw[Int.natCast_one,ya2]
def zus(h1:IsQ H a q)(h2:IsQ H b q)(k:Q (.bl false) H):zdX K (.ref a) (.ref b) H Q:=by
 have rep:RepAll K H [.int q.num,.int "0l"] [.int q.num,.int "0l"]:=.cons (.int _) (.cons (.int _) .nil);refine zhC (.tup (.of h1) rep) (.tup (.of h2) rep) (by simp[PyData.depth,PyData.depthAll]) ?_;rw[ybA _ (by rw[PyData.canLay0];exact rep.lay)];exact k
section
variable {H:Hp}{n:Nat}{ds:List Due}{pf P S:Nat->Int}{own:Int}{ws:List Str}{pt ga p0 rs re le la en ou:Addr}{tr:List (Addr × Addr × Addr)}{g:Nat->Int}{wl we:List V}{k0 k1:Nat}
theorem STold.same{H':Hp}(St:STold H n ds pf P S own ws pt ga p0 rs re le la en ou tr g wl we k0 k1)(e:Same H H'):STold H' n ds pf P S own ws pt ga p0 rs re le la en ou tr g wl we k0 k1:=⟨e.at St.hpt,e.at St.hga,St.lt.same e,e.at St.hle,e.at St.hla,St.iwl.same e,e.at St.hen,St.iwe.same e,e.at St.hou,St.safe,St.ring,St.at0,St.at1⟩
def zkQ(d:Lit n (zah ds pf))(a:Lit n P)(c:Lit n S)(b:0<=own)(hi:i<n):0<=zct (zaC n (zah ds pf) P own ws S) ws.length i/\zct (zaC n (zah ds pf) P own ws S) ws.length i<=zah ds pf i:=by
 have h1:=zec (n:=n) (G:=zah ds pf) (P:=P) (own:=own) (ws:=ws) (S:=S) (i:=i) ws.length;have h2:=((zb0 (ws:=ws) d a c b ws.length).1 i hi).1;refine⟨My.sumTo_nonneg λj _=>?_,⋯⟩;obtain⟨h1,h2⟩:=zb0 (ws:=ws) d a c b j;exact(ze2 (w:=ws.getD j "") (own:=own) (W:=λi=>decide (zah ds pf i=0)) h1 a h2 b hi).1
def zjM(hi:i<n):"0j".getD i 0=zpw n ds pf P S own ws i:=by
 rw[yf,zK hi];rfl
def STold.lay(St:STold H n ds pf P S own ws pt ga p0 rs re le la en ou tr g wl we k0 k1)(hd:∀d∈ds,zo n d/\d.a<=1000000000000)(c:m<n):(zal n (zk ds g) "0j" k1).getD m 0<=((zao (zk ds g) m:Int):Rat):=by
 have b:=St.safe.ok hd;rw[<- zds λd h=>(b d h).1,St.at1.gr.fix m c];unfold zbG;split
 ·rename_i h;exact Rat.le_of_lt h
 ·exact yE
theorem STold.end0(St:STold H n ds pf P S own ws pt ga p0 rs re le la en ou tr g wl we k0 k1)(hd:∀d∈ds,zo n d/\d.a<=1000000000000)(j:Lit n (zah ds pf))(k:Lit n P)(i:Lit n S)(f:0<=own){m:Nat}(b:m<n)(e:0<zah ds pf m):zdE (zk ds g) "0j" (zal n (zk ds g) "0j" k1) m=0:=by
 have c:=St.safe.ok hd;refine Gr.end0 (λd h=>(c d h).1) St.at1.gr b ?_;rw[zjM b,St.safe.net m b];have h1:=(zkQ (ws:=ws) j k i f b).2;have h2:zah ds pf m=-zan ds m-pf m:=by
  unfold zah at e ⊢;split at e
  ·rename_i h;rw[if_pos h]
  ·lia
 show pf m+_+_<=0;lia
def STold.outs(St:STold H n ds pf P S own ws pt ga p0 rs re le la en ou tr g wl we k0 k1)(hd:∀d∈ds,zo n d/\d.a<=1000000000000)(k:Lit n (zah ds pf))(f:Lit n P)(l:Lit n S)(o:0<=own):zcM n (zk ds g) (zal n (zk ds g) "0j" k1)=[]↔My.sumTo (lays n (zah ds pf) P own ws S ws.length).1 n=0:=by
 have e:=St.safe.ok hd;have c:=(zb0 (ws:=ws) k f l o ws.length).1;have p:zcM n (zk ds g) (zal n (zk ds g) "0j" k1)=[]↔∀m,m<n->za5 (zk ds g) m<=(zal n (zk ds g) "0j" k1).getD m 0:=by
  unfold zcM;rw[List.filter_eq_nil_iff];constructor
  ·intro h m b
   have:=h m (yP.mpr b)
   rw[decide_eq_true_eq]at this;exact yaZ.mp this
  ·intro h m b;rw[decide_eq_true_eq];exact yaZ.mpr (h m (yP.mp b))
 rw[p,<- Gr.all (λd h=>(e d h).1) St.at1.gr];have j:∀m,m<n->(0<="0j".getD m 0+zan (zk ds g) m↔(lays n (zah ds pf) P own ws S ws.length).1 m=0):=λm b=>by
  rw[zjM b,St.safe.net m b];obtain⟨q,h1⟩:=zkQ (ws:=ws) k f l o b;have r:=zec (n:=n) (G:=zah ds pf) (P:=P) (own:=own) (ws:=ws) (S:=S) (i:=m) ws.length;have s:=(c m b).1;show 0<=pf m+_+_↔_;by_cases h:-zan ds m-pf m>0
  ·have h2:zah ds pf m=-zan ds m-pf m:=by unfold zah;rw[if_pos h]
   lia
  ·have h2:zah ds pf m=0:=by unfold zah;rw[if_neg h]
   lia
 constructor
 ·intro h;rw[My.sumTo_congr (g:=λ_=>0) λm b=>(j m b).mp (h m b)];exact zcT n
 ·intro h m b;exact(j m b).mpr (My.sumTo_zero c.nn h m b)
def STold.sum(St:STold H n ds pf P S own ws pt ga p0 rs re le la en ou tr g wl we k0 k1)(a:Clears n ds)(b:Lit n (zah ds pf))(hp:zcC "0j"):(∀q∈zcJ (zk ds g) "0j" (zal n (zk ds g) "0j" k1),0<=q/\SzQ q 7857 7800)/\zbB (zcJ (zk ds g) "0j" (zal n (zk ds g) "0j" k1))=((My.sumTo pf n+My.sumTo (zct (zaC n (zah ds pf) P own ws S) ws.length) n:Int):Rat):=by
 have h:=St.at1.ends (a g _ St.safe.bd zG hp).2;refine⟨h.1,?_⟩;rw[h.2,zaI];congr 1;exact My.sumTo_add _ _ n
end
end Internal
namespace Internal.K
set_option genInjectivity false
set_option genSizeOf false
variable {A:Around}{E:XK}{H:Hp}{K:Fg}{N ps:List Str}{P:Program}{X:Cx}{base:Heap}{e:Expr}{j k n:Nat}{mg:Str->Option Value}{qual x:Str}{s:Shared}{scope:Scope}{sp:Sp}{st:Stmt}{w:World}
open PySem Internal
local macro_rules | `(tactic| walk_at "s")=>`(tactic| exact ⟨rfl,rfl,rfl,by decide +kernel,rfl,by decide +kernel,by decide +kernel⟩)
local macro_rules | `(tactic| walk_at "l1")=>`(tactic| (rename_i h; first | (obtain ⟨h,_⟩:=h; subst h; rfl) | (obtain ⟨_,h⟩:=h; walk_at "l1")))
local macro_rules | `(tactic| walk_at "l")=>`(tactic| (intro _ _ _ _ h; first | (obtain ⟨h,_⟩:=h; subst h; rfl) | (obtain ⟨_,h⟩:=h; walk_at "l1")))
local macro_rules | `(tactic| walk_at "z")=>`(tactic| first
 | assumption
 | exact sz200 (by lia) (by lia)
 | ((with_reducible apply zcq);(focus walk_at "z");walk_at "z")
 | exact szL (by decide) (by lia) (by lia)
 | ((with_reducible apply yj (m:=_));(focus assumption);lia))
local macro_rules | `(tactic| walk_at "h")=>`(tactic| first
 | assumption
 | (with_reducible exact Same.refl _)
 | ((with_reducible apply Same.isQ);(focus assumption);walk_at "h")
 | ((with_reducible apply LBut.isQ);(focus assumption);walk_at "h")
 | ((with_reducible apply IsQs.same);(focus assumption);walk_at "h")
 | ((with_reducible apply LBut.isQs);(focus assumption);walk_at "h")
 | ((with_reducible apply Same.at);(focus assumption);walk_at "h")
 | ((with_reducible apply LBut.tup);(focus assumption);walk_at "h")
 | ((with_reducible apply LBut.lst);(focus assumption);(focus walk_at "h");walk_at "h")
 | ((with_reducible apply SqL.keep);(focus (show SqL _ _ _ _;assumption));walk_at "h")
 | ((with_reducible apply SqL.of);walk_at "h")
 | ((with_reducible apply Same.after);(focus assumption);walk_at "h")
 | ((with_reducible apply LBut.same);(focus assumption);(focus walk_at "h");walk_at "h")
 | ((with_reducible apply Same.none);(focus assumption);walk_at "h")
 | ((with_reducible apply Same.isTs);(focus assumption);walk_at "h")
 | ((with_reducible apply LBut.isTs);(focus assumption);walk_at "h")
 | ((with_reducible apply Same.isSh);(focus assumption);walk_at "h")
 | ((with_reducible apply IsSh.of);(focus walk_at "h");walk_at "h")
 | ((with_reducible apply zt3);(focus assumption);walk_at "h")
 | ((with_reducible apply zdN);(focus assumption);walk_at "h"))
local macro_rules | `(tactic| walk_at "x1")=>`(tactic| first
 | ((with_reducible apply zrM);(focus (exact rfl)))
 | (with_reducible (first
   | apply zvv
   | apply zuj
   | apply zrp
   | apply zuP
   | apply zuH
   | apply zuW
   | apply zvr
   | apply zuO
   | apply zum
   | apply zu3
   | apply zvb
   | apply zuT
   | apply zt9
   | apply zuA
   | apply zef
   | apply zih
   | apply zsp
   | apply zrX))
 | (with_reducible refine zux (by assumption) ?_)
 | (with_reducible refine ztQ (by assumption) ?_)
 | (with_reducible refine zsn (by assumption) ?_)
 | (with_reducible refine zuR (λ_=>?_) (λ_=>?_))
 | (with_reducible refine ztS (λ_=>?_) (λ_=>?_))
 | (with_reducible refine zuu (λ_=>?_) (λ_=>?_))
 | (with_reducible refine ztV (λ_=>?_) (λ_=>?_))
 | (with_reducible (first
   | apply zuG
   | apply zuY))
 | ((with_reducible show rIx _ (V.ref _) (V.int _) _ _);first
   | refine znZ (by assumption) (by rfl) ?_
   | refine zmy (by assumption) (by lia) (by lia) ?_
   | refine zr7 (by assumption) (by lia) (by assumption) ?_
   | refine znZ (by walk_at "h") (by rfl) ?_
   | refine zmy (by walk_at "h") (by lia) (by lia) ?_
   | refine zhB (by walk_at "h") (by assumption) ?_
   | refine zke (by walk_at "h") (by assumption) ?_
   | refine zhB (by walk_at "h") (by rfl) ?_)
 | ((with_reducible show zc3 _ [V.int _,_] _ _);refine zhQ ?_)
 | ((with_reducible show zc3 _ [V.bl _,_] _ _);refine zhQ ?_)
 | (with_reducible (first
   | apply zui
   | apply zuD))
 | ((with_reducible show zc3 _ [V.ref _,V.ty "tuple"] _ _);refine zhQ ?_;first | refine IsQ.isT (by walk_at "h") ?_ | refine zof (by walk_at "h") ?_ | refine x_isLT (by walk_at "h") ?_)
 | ((with_reducible show zc3 _ [V.ref _,V.ty "list"] _ _);refine zhQ ?_;first | refine zt5 (by walk_at "h") ?_ | refine x_isTL (by walk_at "h") ?_)
 | ((with_reducible show zc3 _ [V.ref _,V.ref _] _ _);refine zri (by walk_at "h") (by assumption) rfl (by assumption) ?_)
 | ((with_reducible show zc3 _ [V.ref _,V.ty "ValueError"] _ _);refine zri (by walk_at "h") (by assumption) rfl (by assumption) ?_)
 | (with_reducible refine zmT (by assumption) (λ_ _ _ _ _=>?_))
 | ((with_reducible show zfM _ [] _);refine zdm (by first | decide | simp) (λ_ _ _ _ _=>?_))
 | ((with_reducible show zfM _ [_] _);refine zdm (by first | decide | simp) (λ_ _ _ _ _=>?_))
 | ((with_reducible show zfM _ (_ :: _ :: _ :: _) _);refine zdm (by first | decide | simp) (λ_ _ _ _ _=>?_))
 | (with_reducible (first
   | apply zsl
   | apply ztv))
 | ((with_reducible show ziA _ [V.ref _] _ _);first | refine IsQ.len (by walk_at "h") ?_ | refine ztI (by walk_at "h") ?_ | refine zsQ (by walk_at "h") ?_)
 | (with_reducible refine zsJ ?_)
 | ((with_reducible show zkU _ _ _ _);refine zp3 (by walk_at "h") (by walk_at "h") (by walk_at "h") (by walk_at "h") ?_)
 | ((with_reducible show ziZ _ _ _ _);refine zoK (by walk_at "h") (by walk_at "h") (by walk_at "h") (by walk_at "h") ?_)
 | ((with_reducible show ziC _ _ _ _);refine zn2 (by walk_at "h") (by walk_at "h") (by walk_at "h") (by walk_at "h") ?_)
 | (with_reducible (first
   | apply zuJ
   | apply ztn
   | apply zpY
   | apply zuh
   | apply zvq))
 | ((with_reducible show zpP _ _ _ _ _ _);refine zu2 rfl ?_)
 | (with_reducible (first
   | apply zup
   | apply zsk))
 | ((with_reducible show zbs _ _ _ (V.ref _) _ _ _);refine ztm (by assumption) rfl ?_)
 | ((with_reducible show zdG _ (V.ref _) (V.int _) _ _);first
   | refine zqI (by walk_at "h") (by lia) (by lia) ?_
   | refine zou (by walk_at "h") (by assumption) ?_)
 | ((with_reducible show zh8 (V.ref _) (V.int _) (V.int _) _ _);refine zpU (by walk_at "h") (by lia) (by lia) (λ_ _ _=>?_))
 | ((with_reducible show zek (V.ref _) (V.int _) _ _);first | refine zqX (by walk_at "h") (by lia) (by lia) (λ_ _ _ _ _=>?_) | refine zqt (by walk_at "h") (by lia) (by lia) (λ_ _ _ _ _=>?_) | refine zrW (by walk_at "h") (by lia) (by lia) (λ_ _ _ _ _=>?_))
 | ((with_reducible show rIn _ true (V.int _) (V.ref _) _ _);refine zs4 (by walk_at "h") ?_)
 | ((with_reducible show zgo _ [V.ref _] _ _);refine zsz (by walk_at "h") (by lia) (λ_ _ _ _ _ _ _ _=>?_))
 | ((with_reducible show zlb _ _ _ _ _);refine zqY (by walk_at "h") (by lia) (by lia) (by lia) (by assumption) (λ_ _ _ _ _=>?_))
 | ((with_reducible show zlJ _ _ _ _ _);refine zra (by walk_at "h") (by lia) (by lia) (by lia) (by assumption) (λ_ _ _ _ _ _ _=>?_))
 | ((with_reducible show znm _ _ _ _ _);refine zmc (by walk_at "h") (by lia) (by lia) (by lia) (by assumption) (λ_ _ _ _ _ _ _ _ _ _ _ _ _ _ _ _ _ _ _=>?_))
 | ((with_reducible show zhw _ [V.ref _] _ _);first | refine x_minK (by walk_at "h") (by assumption) ?_ | refine znS (by walk_at "h") (by assumption) (λ_ _ _=>?_))
 | ((with_reducible show zg2 _ _ _ _ _);refine znH (by walk_at "h") (by assumption) (by walk_at "h") (by assumption) (λ_ _=>?_))
 | ((with_reducible show ziQ _ _ _ _ _);refine zpo (by walk_at "h") (by walk_at "h") (by lia) (by assumption) (λ_ _ _ _ _ _ _ _ _=>?_))
 | ((with_reducible show ziV _ _ _ _ _);refine zn9 (by walk_at "h") (by assumption) (by walk_at "h") (by lia) (by lia) (λ_ _ _ _ _=>?_))
 | ((with_reducible show zg6 _ _ _ _ _);refine znF (by walk_at "h") (by assumption) (by walk_at "h") (by walk_at "h") (by lia) (λ_ _ _ _ _=>?_))
 | ((with_reducible show zki _ _ _ _);refine zt7 (by walk_at "h") ?_)
 | ((with_reducible show zm3 _ _ _ _ _);refine zr1 (by walk_at "h") (by assumption) (by walk_at "h") (by walk_at "h") (by assumption) (by lia) (by lia) (λ_ _ _ _ _ _ _ _ _=>?_))
 | ((with_reducible show zin _ _ _ _ _);refine zjg (by walk_at "h") (by walk_at "h") (by walk_at "h") (by assumption) (by lia) (by lia) (by assumption) (λ_ _ _ _ _=>?_))
 | ((with_reducible show ziH _ _ _ _);refine zjQ (by walk_at "h") (by walk_at "h") (by assumption) (by assumption) (by assumption) ?_)
 | ((with_reducible show zfT _ _ _ _ _);refine zlV (by walk_at "h") (by assumption) (by walk_at "h") (by assumption) (λ_ _ _ _ _ _ _=>?_))
 | ((with_reducible show zi1 _ _ _ _ _);refine zoO (by walk_at "h") (by walk_at "h") (by walk_at "h") (by assumption) (by lia) (by lia) (by assumption) (λ_ _ _ _ _ _ _=>?_))
 | ((with_reducible show zlC _ _ _ _ _);refine zp7 (by walk_at "h") (by walk_at "h") (by walk_at "h") (by assumption) (by lia) (by lia) (by assumption) (λ_ _ _ _ _ _ _=>?_))
 | (with_reducible (first
   | apply zu7
   | apply zuI
   | apply zur))
 | ((with_reducible show ziS _ _ _ _ _);refine zo7 (by walk_at "h") (by walk_at "h") (by assumption) (by assumption) ?_)
 | ((with_reducible show ziw _ _ _ _ _);refine zoN (by walk_at "h") (by walk_at "h") (by lia) (by lia) (by assumption) (λ_ _ _ _ _=>?_))
 | ((with_reducible show znl _ [V.ref _] _ _);refine zrI (by walk_at "h") ?_)
 | ((with_reducible show zmW _ [V.int _] _);refine zsW (by lia) (by lia) ?_)
 | ((with_reducible show znq _ [V.int _,V.int _] _);refine zsH (by lia) (by lia) (by lia) (by lia) ?_)
 | ((with_reducible show zq1 _ _ (V.ref _) _);refine zrx (by walk_at "h") ?_)
 | ((with_reducible show znh _ _ [V.ref _] _);refine zs6 (by walk_at "h") ?_)
 | ((with_reducible show zpN _ _ [V.ref _,V.ref _] _);refine zto (by walk_at "h") (by walk_at "h") ?_)
 | ((with_reducible show zkO _ _ _ _ _);refine zqQ (by walk_at "h") (by lia) (by lia) (by assumption) (λ_ _ _ _ _=>?_))
 | ((with_reducible show zli _ _ _ _ _);refine zpA (by walk_at "h") (by lia) (by lia) (by assumption) (λ_ _ _ _ _=>?_))
 | ((with_reducible show zhk _ _ _ _ _);refine zng (by walk_at "h") (by lia) (by lia) (by assumption) (λ_ _ _ _ _ _ _ _ _=>?_))
 | ((with_reducible show zet _ _ _ _ _);refine zjV (by walk_at "h") (by lia) (λ_ _ _ _ _=>?_))
 | ((with_reducible show zk0 _ _ _ _ _);refine zqw (by walk_at "h") (by walk_at "h") (by lia) (by lia) (λ_ _ _ _ _ _ _=>?_))
 | ((with_reducible show zhj _ _ _ _ _ _);refine znp (by walk_at "h") (by assumption) ?_)
 | ((with_reducible show zkD _ _ _ _ _);refine zqN (by walk_at "h") (by walk_at "h") (by lia) (λ_ _ _ _ _=>?_))
 | ((with_reducible show zko _ _ _ _ _);refine zrc (by walk_at "h") (by walk_at "h") (by lia) (by assumption) (λ_ _ _ _ _=>?_))
 | ((with_reducible show ziM _ _ _ _ _);refine zpv (by walk_at "h") (by lia) (λ_=>?_))
 | ((with_reducible show ziG _ _ _ _ _);refine zoA (by walk_at "h") (by lia) (by lia) (by lia) (λ_ _ _=>?_))
 | ((with_reducible show zg5 _ _ _ _ _);refine zm6 (by walk_at "h") (by lia) (by lia) (by lia) (by lia) (λ_ _ _=>?_))
 | ((with_reducible show zfK _ _ _ _ _);refine zlM (by walk_at "h") (by lia) (by lia) (by lia) (by lia) (λ_ _ _=>?_))
 | ((with_reducible show zeQ _ _ _ _ _);first | refine znE (by walk_at "h") (by lia) ?_ | refine zfd (by walk_at "h") ?_)
 | ((with_reducible show zdj (Itr _ _) _ _ zd8 (tC (V.int _)) _ _ _);refine zsK rfl (by lia) (λ_ _ _ _ _=>?_))
 | ((with_reducible show zdj (Itl _ _) _ _ zd8 (tC (V.int _)) _ _ _);refine zqm (by walk_at "h") rfl (by first | lia | (simp only[ya,zG];lia)) (λ_ _ _ _ _=>?_))
 | ((with_reducible show zd4 _ (V.ref _) (V.ref _) _ _);first | refine zhm (by walk_at "h") (by walk_at "h") rfl ?_ | refine x_eqSh (by walk_at "h") (by walk_at "h") rfl ?_ | refine x_eqQs (by walk_at "h") (by walk_at "h") (by walk_at "h") (by walk_at "h") ?_)
 | ((with_reducible show zdX _ (V.ref _) (V.ref _) _ _);first | refine zhf (by walk_at "h") (by walk_at "h") rfl ?_ | refine x_neRows (by walk_at "h") (by walk_at "h") (by walk_at "h") (by walk_at "h") (by lia) (λ_ _ _ _=>rfl) ?_ | refine x_neSh (by walk_at "h") (by walk_at "h") rfl ?_ | refine x_neQs (by walk_at "h") (by walk_at "h") (by walk_at "h") (by walk_at "h") ?_)
 | (with_reducible (first
   | apply zuw
   | apply ztr
   | apply zu0
   | apply zvg
   | apply zud
   | apply zrR))
 | ((with_reducible show tyV _ "list" (V.ref _) _/\_);refine zuQ (by walk_at "h") ?_)
 | ((with_reducible show zbO (V.ref _) [_] _ _);refine zfD (by walk_at "h") (by lia) (λ_ _ _=>?_))
 | ((with_reducible show zeP _ _ _ _ _);refine zk4 (by walk_at "h") (by walk_at "h") (by lia) (by lia) (by lia) (by assumption) (by assumption) (by assumption) (λ_ _ _ _ _=>?_))
 | ((with_reducible show zlI _ _ _ _);refine zqs (by lia) (by walk_at "z") ?_)
 | ((with_reducible show NewQ _ _ _);intro _ _ _ _)
 | ((with_reducible show zqp _ _ _);refine zt4 (by first | decide | simp) (λ_ _ _ _ _=>?_))
 | ((with_reducible show zdO _ _ _ _);refine zpg (by walk_at "h") (λ_ _ _ _ _=>?_))
 | ((with_reducible show zfH _ _ _ _ _ _);refine ztZ (by walk_at "h") (λ_ _ _ _ _=>?_))
 | ((with_reducible show zi3 _ _ _ _ _);refine zjq (by walk_at "h") (by walk_at "h") (by walk_at "h") (by walk_at "h") ?_)
 | ((with_reducible show zgm _ _ _ _ _);refine zjA (by walk_at "h") (by walk_at "h") (by walk_at "h") (by walk_at "h") ?_)
 | ((with_reducible show znn _ _ _ _);refine zu9 (by first | decide | lia) ?_)
 | ((with_reducible show zek _ _ _ _);refine znA (by first | assumption | (apply CMulS.of;(focus walk_at "z");(focus walk_at "z");first | decide | lia)) ?_)
 | ((with_reducible show zkd _ _ _ _);refine zrJ (by first | walk_at "h" | decide) (by first | walk_at "h" | exact szL (by decide) (by decide) (by decide)) ?_)
 | ((with_reducible show rI znG _ _ _ _ _);refine zuN ⟨by decide,by decide,by decide⟩ rfl ?_;(try simp only[Int.reduceToNat,Int.reducePow]))
 | ((with_reducible show Ends.nx _ _ _);dsimp only[List.set,Ends.gone]))
local macro_rules | `(tactic| walk_at "x")=>`(tactic| repeat' (walk_at "x1"))
local macro_rules|`(∅)=>`(by walk_at "h")
noncomputable def top (i:Nat):Stmt:=PySem.Challenge.pw_quits_k74_a_day_settled.main.body.getD i (.Pass ⟨0,0,0,0⟩)
abbrev zjr:Stmt:=top 8
abbrev zoD:Stmt:=top 10
abbrev zom:Stmt:=top 11
abbrev zme:Stmt:=top 12
abbrev zmk:Stmt:=top 13
abbrev znX:Stmt:=top 14
abbrev zmM:Stmt:=top 15
abbrev zmC:Stmt:=top 16
abbrev zmw:Stmt:=top 17
abbrev zoX:Stmt:=top 19
abbrev zoG:Stmt:=top 20
abbrev zkI:Stmt:=top 21
abbrev zfP:Stmt:=top 22
abbrev zeH:Stmt:=top 23
abbrev znQ:Stmt:=top 25
abbrev zfu:Stmt:=top 26
abbrev zjT:Stmt:=top 27
abbrev zrz:Stmt:=top 28
abbrev zk9:Stmt:=top 30
abbrev zgW:Stmt:=top 31
abbrev zfF:Stmt:=top 32
abbrev zmi:Stmt:=top 33
abbrev zgO:Stmt:=top 34
abbrev zjG:Stmt:=top 36
abbrev zhM:Stmt:=top 37
abbrev zei:Stmt:=top 38
abbrev zif:Stmt:=top 39
abbrev zhJ:Stmt:=top 40
abbrev zdZ:Stmt:=top 41
abbrev zeh:Stmt:=top 42
abbrev zhR:Stmt:=top 43
abbrev zfY:Stmt:=top 44
abbrev zmg:Stmt:=top 45
abbrev zjz:Stmt:=top 46
abbrev zgP:Stmt:=top 48
abbrev zhO:Stmt:=top 49
abbrev zfs:Stmt:=top 50
abbrev zij:Stmt:=top 51
abbrev zen:Stmt:=top 52
abbrev zjp:Stmt:=top 55
abbrev zjv:Stmt:=top 56
abbrev zft:Stmt:=top 57
abbrev zig:Stmt:=top 58
abbrev zhH:Stmt:=top 59
abbrev zpf:Stmt:=top 60
abbrev zlH:Stmt:=top 62
abbrev zfk:Stmt:=top 63
abbrev zgj:Stmt:=top 64
abbrev zrj:Stmt:=top 66
abbrev zmd:Stmt:=top 68
abbrev zhx:Stmt:=top 70
abbrev zfr:Stmt:=top 72
abbrev zhU:Stmt:=top 73
abbrev zjB:Stmt:=top 74
abbrev zgM:Stmt:=top 76
abbrev zgS:Stmt:=top 77
abbrev zgb:Stmt:=top 78
abbrev zfq:Stmt:=top 79
abbrev zga:Stmt:=top 80
abbrev zfR:Stmt:=top 81
abbrev zfv:Stmt:=top 82
abbrev zfo:Stmt:=top 83
abbrev zfW:Stmt:=top 84
abbrev zgR:Stmt:=top 85
abbrev zh7:Stmt:=top 86
abbrev zfx:Stmt:=top 87
abbrev zfn:Stmt:=top 88
abbrev zdJ:Stmt:=top 89
abbrev zdI:Stmt:=top 90
abbrev zeB:Stmt:=top 91
abbrev zrw:Stmt:=top 92
def zci:FnScope ["one", "other", "kept", "rest", "further"] ["one", "other"] (zm zjr):=by walk_at "s"
def ziE:FnScope ["top", "bottom", "common"] ["top", "bottom"] (zm zoD):=by walk_at "s"
def zgy:FnScope ["one", "other", "shared", "top", "common"] ["one", "other"] (zm zom):=by walk_at "s"
def zpD:FnScope ["one", "other"] ["one", "other"] (zm zme):=by walk_at "s"
def zdY:FnScope ["one", "other", "down", "across", "top", "bottom"] ["one", "other"] (zm zmk):=by walk_at "s"
def zsX:FnScope ["one", "other"] ["one", "other"] (zm znX):=by walk_at "s"
def zq0:FnScope ["one", "other"] ["one", "other"] (zm zmM):=by walk_at "s"
def zqK:FnScope ["one", "other"] ["one", "other"] (zm zmC):=by walk_at "s"
def sc_total:FnScope ["some", "added", "each"] ["some"] (zm zmw):=by walk_at "s"
def sc_owes:FnScope ["many", "sheet", "sums", "payer", "payee", "rank", "amount"] ["many", "sheet"] (zm zoX):=by walk_at "s"
def sc_nets:FnScope ["many", "sheet", "sums", "payer", "payee", "rank", "amount"] ["many", "sheet"] (zm zoG):=by walk_at "s"
def sc_ranked:FnScope ["many", "sheet", "sums", "payer", "payee", "rank", "amount"] ["many", "sheet"] (zm zkI):=by walk_at "s"
def zj0:FnScope ["sheet"] ["sheet"] (zm zfP):=by walk_at "s"
def zie:FnScope ["sheet", "amounts"] ["sheet", "amounts"] (zm zeH):=by walk_at "s"
def zio:FnScope ["sheet", "lays", "owed", "shares"] ["sheet", "lays"] (zm znQ):=by walk_at "s"
def sc_shares_paid:FnScope ["owed", "lay", "shares", "rest", "here", "laid"] ["owed", "lay"] (zm zfu):=by walk_at "s"
def sc_stop_of:FnScope ["owed", "lay", "end", "rank", "here"] ["owed", "lay"] (zm zjT):=by walk_at "s"
def sc_got:FnScope ["sheet", "lays", "gains", "number", "gain"] ["sheet", "lays"] (zm zrz):=by walk_at "s"
def sc_solved:FnScope ["rows", "right", "count", "table", "before", "place"] ["rows", "right"] (zm zk9):=by walk_at "s"
def sc_whole_row:FnScope ["row", "common", "top", "bottom"] ["row"] (zm zgW):=by walk_at "s"
def sc_with_first:FnScope ["table", "place", "found", "swapped"] ["table", "place"] (zm zfF):=by walk_at "s"
def sc_swept:FnScope ["table", "place", "before", "sweeper", "made", "number", "row"] ["table", "place", "before"] (zm zmi):=by walk_at "s"
def zd7:FnScope ["row", "sweeper", "place", "before", "keep", "take"] ["row", "sweeper", "place", "before"] (zm zgO):=by walk_at "s"
def sc_cleared:FnScope ["sheet", "purses", "owed", "lays", "opened", "ranks", "flows", "circle", "rates", "step", "shut"] ["sheet", "purses"] (zm zjG):=by walk_at "s"
def sc_flows_of:FnScope ["sheet", "ranks", "flows", "payer", "payee", "rank", "amount"] ["sheet", "ranks"] (zm zhM):=by walk_at "s"
def sc_closed_circle:FnScope ["flows", "ranks", "circles", "member", "reached"] ["flows", "ranks"] (zm zei):=by walk_at "s"
def sc_reach_of:FnScope ["flows", "member", "reached", "place", "here"] ["flows", "member"] (zm zif):=by walk_at "s"
def sc_balances:FnScope ["flows", "members", "rows", "place", "member"] ["flows", "members"] (zm zhJ):=by walk_at "s"
def zcp:FnScope ["flows", "circle", "rows", "right"] ["flows", "circle"] (zm zdZ):=by walk_at "s"
def sc_opening_rates:FnScope ["flows", "ranks", "purses", "short", "right"] ["flows", "ranks", "purses"] (zm zeh):=by walk_at "s"
def sc_rates_of:FnScope ["flows", "members", "shares", "rates", "place", "member"] ["flows", "members", "shares"] (zm zhR):=by walk_at "s"
def sc_least_room:FnScope ["owed", "ranks", "lays", "rates", "room", "member", "rate", "end", "here"] ["owed", "ranks", "lays", "rates"] (zm zfY):=by walk_at "s"
def zq9:FnScope ["lays", "rates", "step"] ["lays", "rates", "step"] (zm zmg):=by walk_at "s"
def zhX:FnScope ["sheet", "purses", "lays", "gains"] ["sheet", "purses", "lays"] (zm zjz):=by walk_at "s"
def zcP:FnScope ["coins", "bounds", "together", "borne", "broken"] ["coins", "bounds"] (zm zgP):=by walk_at "s"
def zdf:FnScope ["coins", "bounds", "level", "borne", "above"] ["coins", "bounds"] (zm zhO):=by walk_at "s"
def ziI:FnScope ["coins", "bounds"] ["coins", "bounds"] (zm zfs):=by walk_at "s"
def sc_level_of:FnScope ["coins", "bounds", "rest", "bearers", "bound"] ["coins", "bounds"] (zm zij):=by walk_at "s"
def sc_with_one_more:FnScope ["borne", "chosen", "left_over", "made", "rest", "number", "coins"] ["borne", "chosen", "left_over"] (zm zen):=by walk_at "s"
def zhV:FnScope ["sheet", "purses", "sums"] ["sheet", "purses"] (zm zjp):=by walk_at "s"
def sc_layered:FnScope ["order", "gaps", "pledges", "shares", "own", "rests", "shares_left", "rows", "word", "borne", "given"] ["order", "gaps", "pledges", "shares", "own"] (zm zjv):=by walk_at "s"
def sc_check_order:FnScope ["order", "place", "word"] ["order"] (zm zft):=by walk_at "s"
def sc_borne_in:FnScope ["word", "rests", "pledges", "shares", "own", "whole", "bounds", "coins"] ["word", "rests", "pledges", "shares", "own", "whole"] (zm zig):=by walk_at "s"
def zlW:FnScope ["word", "rests", "borne"] ["word", "rests", "borne"] (zm zhH):=by walk_at "s"
def ztd:FnScope ["some", "off"] ["some", "off"] (zm zpf):=by walk_at "s"
def sc_a_ring:FnScope ["many", "sheet", "onward", "going", "payers", "member"] ["many", "sheet"] (zm zlH):=by walk_at "s"
def sc_ways_onward:FnScope ["many", "sheet", "going", "onward", "turn"] ["many", "sheet"] (zm zfk):=by walk_at "s"
def sc_dues_among:FnScope ["sheet", "going", "onward", "number", "due"] ["sheet", "going"] (zm zgj):=by walk_at "s"
def sc_cut:FnScope ["many", "sheet", "left", "cuts", "ring", "fewest", "number"] ["many", "sheet"] (zm zrj):=by walk_at "s"
def zkV:FnScope ["sheet", "lays", "owed"] ["sheet", "lays"] (zm zmd):=by walk_at "s"
def sc_safe_cut:FnScope ["sheet", "purses", "ranks", "free", "amounts", "within", "left"] ["sheet", "purses"] (zm zhx):=by walk_at "s"
def za2:FnScope ["sheet", "purses", "pledges", "shares", "own", "order", "gaps", "told", "means", "left", "after", "lays", "ends"] ["sheet", "purses", "pledges", "shares", "own", "order"] (zm zfr):=by walk_at "s"
def zl3:FnScope ["purses", "rows"] ["purses", "rows"] (zm zhU):=by walk_at "s"
def zhu:FnScope ["sheet", "lays", "owed"] ["sheet", "lays"] (zm zjB):=by walk_at "s"
def zlw:FnScope ["_law_script", "_law_k"] ["_law_script", "_law_k"] (zm zgM):=by walk_at "s"
def zlu:FnScope ["_law_script", "_law_k", "_law_many"] ["_law_script", "_law_k", "_law_many"] (zm zgS):=by walk_at "s"
def zjY:FnScope ["_law_script", "_law_k", "_law_many"] ["_law_script", "_law_k", "_law_many"] (zm zgb):=by walk_at "s"
def zex:FnScope ["_law_script", "_law_k", "_law_most", "_law_way"] ["_law_script", "_law_k", "_law_most"] (zm zfq):=by walk_at "s"
def sc__law_order:FnScope ["_law_script", "_law_start", "_law_words", "_law_order_here", "_law_k"] ["_law_script", "_law_start"] (zm zga):=by walk_at "s"
def sc__law_sheet:FnScope ["_law_script", "_law_start", "_law_many", "_law_count", "_law_sheet_here", "_law_k", "_law_at", "_law_payer", "_law_payee"] ["_law_script", "_law_start", "_law_many", "_law_count"] (zm zfR):=by walk_at "s"
def sc__law_wholes:FnScope ["_law_told", "_law_many", "_law_one"] ["_law_told", "_law_many"] (zm zfv):=by walk_at "s"
def zch:FnScope ["_law_top", "_law_bottom", "_law_rest"] ["_law_top", "_law_bottom"] (zm zfo):=by walk_at "s"
def sc__law_parts:FnScope ["_law_told", "_law_many", "_law_one"] ["_law_told", "_law_many"] (zm zfW):=by walk_at "s"
def sc__law_owed:FnScope ["_law_many", "_law_sheet_here", "_law_amounts", "_law_owed_here", "_law_k"] ["_law_many", "_law_sheet_here", "_law_amounts"] (zm zgR):=by walk_at "s"
def sc__law_net:FnScope ["_law_many", "_law_sheet_here", "_law_amounts", "_law_net_here", "_law_k"] ["_law_many", "_law_sheet_here", "_law_amounts"] (zm zh7):=by walk_at "s"
def sc__law_given:FnScope ["_law_told", "_law_order_here", "_law_many", "_law_given_here", "_law_k", "_law_row"] ["_law_told", "_law_order_here", "_law_many"] (zm zfx):=by walk_at "s"
def sc__law_sum_is:FnScope ["_law_parts_here", "_law_due", "_law_top", "_law_bottom", "_law_one"] ["_law_parts_here", "_law_due"] (zm zfn):=by walk_at "s"
def sc__law_left_right:FnScope ["_law_left", "_law_sheet_here", "_law_many", "_law_amounts", "_law_k"] ["_law_left", "_law_sheet_here", "_law_many"] (zm zdJ):=by walk_at "s"
def sc__law_told_right:FnScope ["_law_told", "_law_sheet_here", "_law_purses", "_law_order_here", "_law_many", "_law_net_here", "_law_gaps", "_law_given_here", "_law_owed_here", "_law_k", "_law_outs"] ["_law_told", "_law_sheet_here", "_law_purses", "_law_order_here"] (zm zdI):=by walk_at "s"
def sc__law_refused:FnScope ["_law_sheet_here", "_law_purses", "_law_pledges", "_law_shares", "_law_own", "_law_order_here", "_law_right", "e"] ["_law_sheet_here", "_law_purses", "_law_pledges", "_law_shares", "_law_own", "_law_order_here"] (zm zeB):=by walk_at "s"
def zbi:FnScope ["_law_script", "_law_many", "_law_count", "_law_sheet_here", "_law_part_of", "_law_purses", "_law_pledges", "_law_shares", "_law_own", "_law_order_here", "_law_bad", "_law_asked", "_law_handed", "_law_told"] ["_law_script"] (zm zrw):=by walk_at "s"
def ziK{α:Type}{us:List α}(h:us.length=0):us=[]:=yad h
def zbH{α:Type}{us:List α}(h:us.length=n+1):∃a vs,us=a :: vs/\vs.length=n:=by
 cases us with
 | nil=>cases h
 | cons a vs=>exact⟨a,vs,rfl,Nat.succ.inj h⟩
def len1{α:Type}{us:List α}(h:us.length=1):∃a,us=[a]:=by
 obtain⟨a,b,rfl,c⟩:=zbH h;obtain rfl:=ziK c;exact⟨a,rfl⟩
def len2{α:Type}{us:List α}(h:us.length=2):∃a a1,us=[a,a1]:=by
 obtain⟨a,c,rfl,d⟩:=zbH h;obtain⟨a1,b,rfl,h1⟩:=zbH d;obtain rfl:=ziK h1;exact⟨a,a1,rfl⟩
def len3{α:Type}{us:List α}(h:us.length=3):∃a a1 a2,us=[a,a1,a2]:=by
 obtain⟨a,d,rfl,e⟩:=zbH h;obtain⟨a1,b,rfl,h1⟩:=zbH e;obtain⟨a2,c,rfl,h2⟩:=zbH h1;obtain rfl:=ziK h2;exact⟨a,a1,a2,rfl⟩
def len4{α:Type}{us:List α}(h:us.length=4):∃a a1 a2 b,us=[a,a1,a2,b]:=by
 obtain⟨a,f,rfl,i⟩:=zbH h;obtain⟨a1,d,rfl,h1⟩:=zbH i;obtain⟨a2,e,rfl,h2⟩:=zbH h1;obtain⟨b,g,rfl,c⟩:=zbH h2;obtain rfl:=ziK c;exact⟨a,a1,a2,b,rfl⟩
def len5{α:Type}{us:List α}(h:us.length=5):∃a a1 a2 c b,us=[a,a1,a2,c,b]:=by
 obtain⟨a,k,rfl,e⟩:=zbH h;obtain⟨a1,i,rfl,h1⟩:=zbH e;obtain⟨a2,j,rfl,h2⟩:=zbH h1;obtain⟨c,l,rfl,f⟩:=zbH h2;obtain⟨b,d,rfl,g⟩:=zbH f;obtain rfl:=ziK g;exact⟨a,a1,a2,c,b,rfl⟩
def len6{α:Type}{us:List α}(h:us.length=6):∃b a1 a2 d c a,us=[b,a1,a2,d,c,a]:=by
 obtain⟨b,n,rfl,g⟩:=zbH h;obtain⟨a1,l,rfl,h1⟩:=zbH g;obtain⟨a2,m,rfl,h2⟩:=zbH h1;obtain⟨d,o,rfl,i⟩:=zbH h2;obtain⟨c,e,rfl,j⟩:=zbH i;obtain⟨a,f,rfl,k⟩:=zbH j;obtain rfl:=ziK k;exact⟨b,a1,a2,d,c,a,rfl⟩
structure Dfn(K:Fg)(mg:Str->Option Value)(x qual:Str)(st:Stmt)(ps:List Str) where
 a:Addr
 fd:FuncData
 F:Fun K x qual st a fd
 b:Binds K fd ps []
 m:mg x=some (.ref a)
abbrev Dfn.Ok(D:Dfn K mg x qual st ps)(P:Program)(w:World)(base:Heap)(k:Nat)(sp:Sp):Prop:=FnOk P w K mg base (CXF P w) k D.a D.fd ps sp
def qD{es:List Expr}{t:TA}{p pos:Pos}(D:Dfn X.K X.mg x qual st ps)(F:FnOk X.prog X.w X.K X.mg X.base (CXF X.prog X.w) k D.a D.fd ps sp)(f:Room j X.A)(ha:PA X (e :: es) t)(hle:autoParam (k<=j) Internal.aut1._auto_1)(g:autoParam (Gl X x) Internal.aut2._auto_1)(c:autoParam ((x == ("__debug__" : Str))=false) Internal.aut1._auto_1)(h:autoParam "0g" Internal.aut2._auto_1)(d:autoParam ((backTo pos (starEach es X.env)).any (·.1)=false) Internal.aut2._auto_1):PE X (.Call (.Name x p) (e :: es) [] pos) (zhz sp [] E0 t):=zmE F (f.mono hle) g D.m D.F.kp D.b .nil (zu6 zrB) ha c h d
def qE{d:Fg}{c:Str}{f:Addr}{g:Value}{outer:List Env}{es:List Expr}{t:TA}{p pos:Pos}(D:Dfn d mg x qual st ps)(F:FnOk P w d mg base (CXF P w) k D.a D.fd ps sp)(l:Room j (zaQ (CXF P w) P w d mg base N c scope f g A outer s H E).A)(ha:PA (zaQ (CXF P w) P w d mg base N c scope f g A outer s H E) (e :: es) t)(hle:autoParam (k<=j) Internal.aut1._auto_1)(n:autoParam (Gl (zaQ (CXF P w) P w d mg base N c scope f g A outer s H E) x) Internal.aut2._auto_1)(h:autoParam ((x == ("__debug__" : Str))=false) Internal.aut1._auto_1)(o:autoParam (starEach (e :: es) (zaQ (CXF P w) P w d mg base N c scope f g A outer s H E).env=(false,eval e (zaQ (CXF P w) P w d mg base N c scope f g A outer s H E).env) :: starEach es (zaQ (CXF P w) P w d mg base N c scope f g A outer s H E).env) Internal.aut2._auto_1)(i:autoParam ((backTo pos (starEach es (zaQ (CXF P w) P w d mg base N c scope f g A outer s H E).env)).any (·.1)=false) Internal.aut2._auto_1):PE (zaQ (CXF P w) P w d mg base N c scope f g A outer s H E) (.Call (.Name x p) (e :: es) [] pos) (zhz sp [] E t):=zmE F (l.mono hle) n D.m D.F.kp D.b .nil ztL ha h o i
structure Txt(K:Fg)(mg:Str->Option Value) where
 c_NoAnswer:Addr
 m_NoAnswer:mg "NoAnswer" = some (.ref c_NoAnswer)
 c_NoLayer:Addr
 m_NoLayer:mg "NoLayer" = some (.ref c_NoLayer)
 c_NoPart:Addr
 m_NoPart:mg "NoPart" = some (.ref c_NoPart)
 c_NoRule:Addr
 m_NoRule:mg "NoRule" = some (.ref c_NoRule)
 c_QuitsError:Addr
 m_QuitsError:mg "QuitsError" = some (.ref c_QuitsError)
 c_TooMuch:Addr
 m_TooMuch:mg "TooMuch" = some (.ref c_TooMuch)
 e_NoAnswer:errOk K c_NoAnswer=true
 i_NoAnswer_NoAnswer:PySem.W.kitOne K (.ref c_NoAnswer) (.ref c_NoAnswer)=some true
 i_NoAnswer_NoLayer:PySem.W.kitOne K (.ref c_NoAnswer) (.ref c_NoLayer)=some false
 i_NoAnswer_NoPart:PySem.W.kitOne K (.ref c_NoAnswer) (.ref c_NoPart)=some false
 i_NoAnswer_NoRule:PySem.W.kitOne K (.ref c_NoAnswer) (.ref c_NoRule)=some false
 i_NoAnswer_QuitsError:PySem.W.kitOne K (.ref c_NoAnswer) (.ref c_QuitsError)=some true
 i_NoAnswer_TooMuch:PySem.W.kitOne K (.ref c_NoAnswer) (.ref c_TooMuch)=some false
 q_NoAnswer_QuitsError:PySem.W.exmOne K (.ref c_NoAnswer) (.ref c_QuitsError)=some true
 e_NoLayer:errOk K c_NoLayer=true
 i_NoLayer_NoAnswer:PySem.W.kitOne K (.ref c_NoLayer) (.ref c_NoAnswer)=some false
 i_NoLayer_NoLayer:PySem.W.kitOne K (.ref c_NoLayer) (.ref c_NoLayer)=some true
 i_NoLayer_NoPart:PySem.W.kitOne K (.ref c_NoLayer) (.ref c_NoPart)=some false
 i_NoLayer_NoRule:PySem.W.kitOne K (.ref c_NoLayer) (.ref c_NoRule)=some false
 i_NoLayer_QuitsError:PySem.W.kitOne K (.ref c_NoLayer) (.ref c_QuitsError)=some true
 i_NoLayer_TooMuch:PySem.W.kitOne K (.ref c_NoLayer) (.ref c_TooMuch)=some false
 q_NoLayer_QuitsError:PySem.W.exmOne K (.ref c_NoLayer) (.ref c_QuitsError)=some true
 e_NoPart:errOk K c_NoPart=true
 i_NoPart_NoAnswer:PySem.W.kitOne K (.ref c_NoPart) (.ref c_NoAnswer)=some false
 i_NoPart_NoLayer:PySem.W.kitOne K (.ref c_NoPart) (.ref c_NoLayer)=some false
 i_NoPart_NoPart:PySem.W.kitOne K (.ref c_NoPart) (.ref c_NoPart)=some true
 i_NoPart_NoRule:PySem.W.kitOne K (.ref c_NoPart) (.ref c_NoRule)=some false
 i_NoPart_QuitsError:PySem.W.kitOne K (.ref c_NoPart) (.ref c_QuitsError)=some true
 i_NoPart_TooMuch:PySem.W.kitOne K (.ref c_NoPart) (.ref c_TooMuch)=some false
 q_NoPart_QuitsError:PySem.W.exmOne K (.ref c_NoPart) (.ref c_QuitsError)=some true
 e_TooMuch:errOk K c_TooMuch=true
 i_TooMuch_NoAnswer:PySem.W.kitOne K (.ref c_TooMuch) (.ref c_NoAnswer)=some false
 i_TooMuch_NoLayer:PySem.W.kitOne K (.ref c_TooMuch) (.ref c_NoLayer)=some false
 i_TooMuch_NoPart:PySem.W.kitOne K (.ref c_TooMuch) (.ref c_NoPart)=some false
 i_TooMuch_NoRule:PySem.W.kitOne K (.ref c_TooMuch) (.ref c_NoRule)=some false
 i_TooMuch_QuitsError:PySem.W.kitOne K (.ref c_TooMuch) (.ref c_QuitsError)=some true
 i_TooMuch_TooMuch:PySem.W.kitOne K (.ref c_TooMuch) (.ref c_TooMuch)=some true
 q_TooMuch_QuitsError:PySem.W.exmOne K (.ref c_TooMuch) (.ref c_QuitsError)=some true
 a_WORDS:Addr
 g_WORDS:mg "WORDS" = some (.ref a_WORDS)
 q_WORDS:∀H:Hp,SqT K H a_WORDS [.str "pledge",.str "share",.str "own",.str "others",.str "level"]
 d_divisor:Dfn K mg "divisor" "divisor" zjr ["one", "other"]
 d_part:Dfn K mg "part" "part" zoD ["top", "bottom"]
 d_plus:Dfn K mg "plus" "plus" zom ["one", "other"]
 d_minus:Dfn K mg "minus" "minus" zme ["one", "other"]
 d_times:Dfn K mg "times" "times" zmk ["one", "other"]
 d_over:Dfn K mg "over" "over" znX ["one", "other"]
 d_under:Dfn K mg "under" "under" zmM ["one", "other"]
 d_least:Dfn K mg "least" "least" zmC ["one", "other"]
 d_total:Dfn K mg "total" "total" zmw ["some"]
 d_owes:Dfn K mg "owes" "owes" zoX ["many", "sheet"]
 d_nets:Dfn K mg "nets" "nets" zoG ["many", "sheet"]
 d_ranked:Dfn K mg "ranked" "ranked" zkI ["many", "sheet"]
 d_amounts_of:Dfn K mg "amounts_of" "amounts_of" zfP ["sheet"]
 d_with_amounts:Dfn K mg "with_amounts" "with_amounts" zeH ["sheet", "amounts"]
 d_paid:Dfn K mg "paid" "paid" znQ ["sheet", "lays"]
 d_shares_paid:Dfn K mg "shares_paid" "shares_paid" zfu ["owed", "lay"]
 d_stop_of:Dfn K mg "stop_of" "stop_of" zjT ["owed", "lay"]
 d_got:Dfn K mg "got" "got" zrz ["sheet", "lays"]
 d_solved:Dfn K mg "solved" "solved" zk9 ["rows", "right"]
 d_whole_row:Dfn K mg "whole_row" "whole_row" zgW ["row"]
 d_with_first:Dfn K mg "with_first" "with_first" zfF ["table", "place"]
 d_swept:Dfn K mg "swept" "swept" zmi ["table", "place", "before"]
 d_swept_row:Dfn K mg "swept_row" "swept_row" zgO ["row", "sweeper", "place", "before"]
 d_cleared:Dfn K mg "cleared" "cleared" zjG ["sheet", "purses"]
 d_flows_of:Dfn K mg "flows_of" "flows_of" zhM ["sheet", "ranks"]
 d_closed_circle:Dfn K mg "closed_circle" "closed_circle" zei ["flows", "ranks"]
 d_reach_of:Dfn K mg "reach_of" "reach_of" zif ["flows", "member"]
 d_balances:Dfn K mg "balances" "balances" zhJ ["flows", "members"]
 d_circling_rates:Dfn K mg "circling_rates" "circling_rates" zdZ ["flows", "circle"]
 d_opening_rates:Dfn K mg "opening_rates" "opening_rates" zeh ["flows", "ranks", "purses"]
 d_rates_of:Dfn K mg "rates_of" "rates_of" zhR ["flows", "members", "shares"]
 d_least_room:Dfn K mg "least_room" "least_room" zfY ["owed", "ranks", "lays", "rates"]
 d_grown:Dfn K mg "grown" "grown" zmg ["lays", "rates", "step"]
 d_ends_by:Dfn K mg "ends_by" "ends_by" zjz ["sheet", "purses", "lays"]
 d_by_shares:Dfn K mg "by_shares" "by_shares" zgP ["coins", "bounds"]
 d_by_level:Dfn K mg "by_level" "by_level" zhO ["coins", "bounds"]
 d_check_coins:Dfn K mg "check_coins" "check_coins" zfs ["coins", "bounds"]
 d_level_of:Dfn K mg "level_of" "level_of" zij ["coins", "bounds"]
 d_with_one_more:Dfn K mg "with_one_more" "with_one_more" zen ["borne", "chosen", "left_over"]
 d_gaps_of:Dfn K mg "gaps_of" "gaps_of" zjp ["sheet", "purses"]
 d_layered:Dfn K mg "layered" "layered" zjv ["order", "gaps", "pledges", "shares", "own"]
 d_check_order:Dfn K mg "check_order" "check_order" zft ["order"]
 d_borne_in:Dfn K mg "borne_in" "borne_in" zig ["word", "rests", "pledges", "shares", "own", "whole"]
 d_given_in:Dfn K mg "given_in" "given_in" zhH ["word", "rests", "borne"]
 d_less:Dfn K mg "less" "less" zpf ["some", "off"]
 d_a_ring:Dfn K mg "a_ring" "a_ring" zlH ["many", "sheet"]
 d_ways_onward:Dfn K mg "ways_onward" "ways_onward" zfk ["many", "sheet"]
 d_dues_among:Dfn K mg "dues_among" "dues_among" zgj ["sheet", "going"]
 d_cut:Dfn K mg "cut" "cut" zrj ["many", "sheet"]
 d_stops:Dfn K mg "stops" "stops" zmd ["sheet", "lays"]
 d_safe_cut:Dfn K mg "safe_cut" "safe_cut" zhx ["sheet", "purses"]
 d_settled_day:Dfn K mg "settled_day" "settled_day" zfr ["sheet", "purses", "pledges", "shares", "own", "order"]
 d_means_of:Dfn K mg "means_of" "means_of" zhU ["purses", "rows"]
 d_outs_of:Dfn K mg "outs_of" "outs_of" zjB ["sheet", "lays"]
 d__law_cell:Dfn K mg "_law_cell" "_law_cell" zgM ["_law_script", "_law_k"]
 d__law_draw:Dfn K mg "_law_draw" "_law_draw" zgS ["_law_script", "_law_k", "_law_many"]
 d__law_great:Dfn K mg "_law_great" "_law_great" zgb ["_law_script", "_law_k", "_law_many"]
 d__law_amount:Dfn K mg "_law_amount" "_law_amount" zfq ["_law_script", "_law_k", "_law_most"]
 d__law_order:Dfn K mg "_law_order" "_law_order" zga ["_law_script", "_law_start"]
 d__law_sheet:Dfn K mg "_law_sheet" "_law_sheet" zfR ["_law_script", "_law_start", "_law_many", "_law_count"]
 d__law_wholes:Dfn K mg "_law_wholes" "_law_wholes" zfv ["_law_told", "_law_many"]
 d__law_lowest:Dfn K mg "_law_lowest" "_law_lowest" zfo ["_law_top", "_law_bottom"]
 d__law_parts:Dfn K mg "_law_parts" "_law_parts" zfW ["_law_told", "_law_many"]
 d__law_owed:Dfn K mg "_law_owed" "_law_owed" zgR ["_law_many", "_law_sheet_here", "_law_amounts"]
 d__law_net:Dfn K mg "_law_net" "_law_net" zh7 ["_law_many", "_law_sheet_here", "_law_amounts"]
 d__law_given:Dfn K mg "_law_given" "_law_given" zfx ["_law_told", "_law_order_here", "_law_many"]
 d__law_sum_is:Dfn K mg "_law_sum_is" "_law_sum_is" zfn ["_law_parts_here", "_law_due"]
 d__law_left_right:Dfn K mg "_law_left_right" "_law_left_right" zdJ ["_law_left", "_law_sheet_here", "_law_many"]
 d__law_told_right:Dfn K mg "_law_told_right" "_law_told_right" zdI ["_law_told", "_law_sheet_here", "_law_purses", "_law_order_here"]
 d__law_refused:Dfn K mg "_law_refused" "_law_refused" zeB ["_law_sheet_here", "_law_purses", "_law_pledges", "_law_shares", "_law_own", "_law_order_here"]
 d_law:Dfn K mg "law" "law" zrw ["_law_script"]
 bl_law:∀(s:Shared) (v:Value),BindsTo s d_law.fd ⟨[v],[]⟩ [("_law_script",v)]
 z_abs:mg "abs" = none
 z_all:mg "all" = none
 z_bool:mg "bool" = none
 z_enumerate:mg "enumerate" = none
 z_int:mg "int" = none
 z_isinstance:mg "isinstance" = none
 z_len:mg "len" = none
 z_list:mg "list" = none
 z_max:mg "max" = none
 z_min:mg "min" = none
 z_range:mg "range" = none
 z_sorted:mg "sorted" = none
 z_str:mg "str" = none
 z_sum:mg "sum" = none
 z_tuple:mg "tuple" = none
 z_zip:mg "zip" = none
noncomputable def mkD {K:Fg} {h:Heap} {mg:Str->Option Value} (X:K.In h) (G:h.Ns mainGlobals mg) {x qual:Str} {st:Stmt} {ps:List Str} {f:Addr} {g kV i d e ct:Value} {j an:Option Addr} {n:Array (Option Value)} (a:PySem.W.nsIn K mainGlobals x=some (some (.ref f))) (l:K.lookup f=some ⟨g,j,.func (PySem.W.fnOf x qual (zdQ st) (zcA st) (zm st) .none kV i d an e ct),n⟩) (c:PySem.W.codeIn K e qual=true) (k:PySem.W.keepIn K (.ref f)=true) (b:∀(kV doc d:Value) (an:Option Addr) (cdv ct:Value) (us:List Value),us.length=ps.length->bindArgs (PySem.W.fnOf x qual (zdQ st) (zcA st) (zm st) .none kV doc d an cdv ct) ⟨us,[]⟩=pure (ps.zip us)):Dfn K mg x qual st ps:={ a:=f,fd:=_,F:=zo4 (st:=st) l c k,b:=(zo4 (st:=st) l c k).binds b,m:=yaN X G a }
def mkQ_WORDS{w:Addr}{a:Option Addr}{c:Array (Option Value)}{k0 k1 k2 k3 b:Tok}(o:K.lookup w=some ⟨.type "tuple",a,.seq #[.str "pledge" k0,.str "share" k1,.str "own" k2,.str "others" k3,.str "level" b] n,c⟩)(H:Hp):SqT K H w [.str "pledge",.str "share",.str "own",.str "others",.str "level"]:=.inr ⟨_,_,_,o,rfl,rfl,(by show 5<=_;rw[sizeLine_eq];decide),(.cons ⟨_,rfl⟩ (.cons ⟨_,rfl⟩ (.cons ⟨_,rfl⟩ (.cons ⟨_,rfl⟩ (.cons ⟨_,rfl⟩ .nil)))))⟩
abbrev sZ:Nat:=60
abbrev sB:Nat:=1
section
variable {P:Program}{w:World}{K:Fg}{mg:Str->Option Value}{base:Heap}
def zeI(T:Txt K mg):T.d_check_coins.Ok P w base 1 (zhj K T.c_TooMuch):=by
 refine T.d_check_coins.F.okX ziI (λvs H Q E h=>?_) (λb A outer s H vs Q E d h=>?_)
 ·obtain⟨c,a,ns,rfl,_⟩:=h;rfl
 obtain⟨c,a,ns,rfl,e,k⟩:=h;refine⟨_,(zj (zP (zF zcl (pv 0) (zb7 K T.z_sum "0k") (nomark _))
 (zj (zlh rfl rfl T.m_TooMuch (errOk.own T.e_TooMuch) (za za3 ze) zoM))
 zJ)),?_⟩
 refine zE (σ0:=[some (.int c),some (.ref a)]) rfl ?_;walk_at "x"
 ·rename_i h;rcases k with⟨h1,_⟩ | ⟨_,k⟩
  ·lia
  ·exact⟨by decide,k⟩
 ·rename_i h;rcases k with⟨_,k⟩ | ⟨h1,_⟩
  ·exact k
  ·lia
def zd1(T:Txt K mg):T.d_with_one_more.Ok P w base 1 (zkD K):=by
 refine T.d_with_one_more.F.okN sc_with_one_more (by walk_at "l") λC A outer s H vs Q E O h=>?_;obtain⟨a,b,n,x,ch,L,rfl,I,u,W,k⟩:=h;refine⟨_,(zh (zD 3 sc_with_one_more (zaa ze))
 (zh (zD 4 sc_with_one_more (pv 2))
 (zh (zaf PassesOwn.never rfl (zaW K T.z_enumerate (za (pv 0) ze)) (show PG _ _ (zbs K 2 _)from zaS (n:=2) rfl (zH (zI (i:=5) sc_with_one_more.nd rfl (Or.inl rfl)) (zH (zI (i:=6) sc_with_one_more.nd rfl (Or.inl rfl)) zaD)))
 (zj (zP (PW.pt (zgg (zaV K (qIx K (pv 1) (pv 5))) (zgD (zF zcl (pv 4) zi (nomark _)))))
 (zh (za4 (qAp K (pv 3) (za (zw (zat K) (pv 6) zi) ze)))
 (zj (zf7 (i:=4) sc_with_one_more.nd rfl (Or.inl rfl) zi zge)))
 (zj (za4 (qAp K (pv 3) (za (pv 6) ze)))))))
 (zj (zy (pv 3)))))),?_⟩
 refine zE (σ0:=[some (.ref a),some (.ref b),some (.int L),none,none,none,none]) rfl ?_;walk_at "x";rename_i l H1 S N hl;refine zc1 (zab (K:=K) (a:=a) (xs:=(vec n x).map V.int)) (λi g H'=>∃m o,g=[some (.ref a),some (.ref b),some (.int L),some (.ref l),some (.int (My.rest ch L i)),m,o]/\H' l=some (.lst ((vec i (My.more ch x L)).map V.int))/\Same H H') ?_ ?_ ?_ ?_
 ·exact⟨_,_,rfl,hl,N⟩
 ·rintro i g H' ⟨_,_,_,_,e⟩;exact e.seq I
 ·rintro i y g B U hi ⟨m,o,rfl,c,j⟩ D ⟨t,v,rfl,p,R⟩;have f:i<n:=by simpa[zG]using hi
  have G:((vec i (My.more ch x L)).map V.int).length<=100000:=by rw[ya,zG];lia
  rw[ye,zK f]at p;cases p;have J:atI (bls n ch) (i:Int)=some (.bl (ch i)):=zO (zeA f);have M:=(j.trans D).seq u;have er:My.rest ch L (i+1)=if ch i=true/\My.rest ch L i>0 then My.rest ch L i-1 else My.rest ch L i:=rfl
  have em:My.more ch x L i=if ch i=true/\My.rest ch L i>0 then x i+1 else x i:=rfl
  walk_at "x"
  ·rename_i h1 h2 q r d;rw[if_pos ⟨h1,h2⟩]at er em;rw[er];refine⟨_,_,rfl,?_,∅⟩;rw[d,zaK,yi,em];rfl
  ·rename_i h1 h2 q r d;rw[if_neg (λz=>h2 z.2)]at er em;rw[er];refine⟨_,_,rfl,?_,∅⟩;rw[d,zaK,yi,em];rfl
  ·rename_i h1 q r d;rw[if_neg (λz=>by rw[h1]at z;cases z.1)]at er em;rw[er];refine⟨_,_,rfl,?_,∅⟩;rw[d,zaK,yi,em];rfl
 ·rintro g B ⟨m,o,rfl,c,j⟩;rw[ya,zG]at c;walk_at "x";exact k _ _ ∅ j c
def zfV(T:Txt K mg):T.d_by_shares.Ok P w base 2 (zq2 K T.c_TooMuch):=by
 refine T.d_by_shares.F.okN zcP "0d" λL A outer s H vs Q E m h=>?_;obtain⟨c,a,n,b,rfl,I,hn,t,U,M,k⟩:=h;have h0:=My.sumTo_nonneg λi hi=>(t i hi).1;have j:=zaI b n;have G:c<=zS (vec n b):=by rw[j];exact U.2
 have g:((vec n b).map V.int).length=n:=by rw[ya,zG]
 have zc:sz c<=300:=yj (zgA ⋯) M;have zB:sz (zS (vec n b))<=9000:=by rw[j];lia
 refine⟨_,(zh (za4 (qD T.d_check_coins (zeI T) m (za (pv 0) "0k")))
 (zh (zD 2 zcP (zb7 K T.z_sum "0k"))
 (zh (zP (zF (qEq K m.units) (pv 2) zi (nomark _))
 (zj (zy (qC1 ["bound"] [none] (z9 K (pv 1)) (λ_ _ _ _ _=>zi))))
 zJ)
 (zh (qS1 3 zcP ["bound", "coins", "together"] [none,some 0,some 2] (z9 K (pv 1)) (λ_ _ _ _ _=>(zw zaG (zw zR (pv 1) (pv 0)) (pv 2))))
 (zh (qS1 4 zcP ["bound", "coins", "together"] [none,some 0,some 2] (z9 K (pv 1)) (λ_ _ _ _ _=>(zbl zcl (zw zb2 (zw zR (pv 1) (pv 0)) (pv 2)) zi (nomark _))))
 (zj (zy (qD T.d_with_one_more (zd1 T) m (za (pv 3) (za (pv 4) (za (zw zce (pv 0) (zb7 K T.z_sum (za (pv 3) ze))) ze))))))))))),?_⟩
 refine zE (σ0:=[some (.int c),some (.ref a),none,none,none]) rfl ?_;walk_at "x"
 ·rename_i r p H1 fp e1 hp;rw[g]at hp;refine k p H1 fp e1 ?_;rw[zes (by rw[<- j];exact r)];exact hp
 ·rename_i r;have J:0<zS (vec n b):=by lia
  have Z:=zeS (c:=c) (n:=n) (b:=b) (by rw[<- j];exact r);refine zN (zW (K:=K) (a:=a) (xs:=(vec n b).map V.int)) (λH' e=>e.seq I) rfl (λi vs _=>vs=(vec i λi=>c*b i/zS (vec n b)).map V.int) (λH' _=>rfl) ?_ ?_
  ·rintro i x D vs o z v hi W C N f rfl B l;have d:i<n:=by lia
   rw[ye,zK d]at l;cases l;have zb:=(t i d).2;walk_at "x";rename_i Y R u;exact CompN.int ⟨_,rfl⟩ ∅ u rfl
  rintro bo H2 vs O X y f rfl;rw[g]at y;walk_at "x";refine zN (zW (K:=K) (a:=a) (xs:=(vec n b).map V.int)) (λH' e=>e.seq (X.seq I)) rfl (λi vs _=>vs=bls i λi=>decide (c*b i%zS (vec n b)>0)) (λH' _=>rfl) ?_ ?_
  ·rintro i x D vs o z v hi W C N f rfl B l;have d:i<n:=by lia
   rw[ye,zK d]at l;cases l;have zb:=(t i d).2;walk_at "x";rename_i Y R u;exact⟨⟨_,rfl⟩,∅,_,u,by rw[yc];exact yl f,by show _=bls (i+1) _;rw[ze4]⟩
  rintro br z vs S C q f rfl;rw[g]at q;walk_at "x";rename_i p v fp B hp;refine k p v ∅ ∅ ?_;rw[Z,hp,j,zaI]
def zlZ(T:Txt K mg):T.d_level_of.Ok P w base 1 (zoa K):=by
 refine T.d_level_of.F.okN sc_level_of "0d" λB A outer s H vs Q E U h=>?_;obtain⟨c,a,n,b,rfl,hS,Z,v,M,S,k⟩:=h;have J:(vec n b).length=n:=zG;have D:((vec n b).map V.int).length=n:=by rw[ya,zG]
 have R:=v.sum;refine⟨_,(zh (zD 2 sc_level_of (pv 0))
 (zh (zD 3 sc_level_of (zaU K T.z_len "0k"))
 (zh (zaf PassesOwn.never rfl (z9 K (zaP (show CallR _ _ (zgo K)from zlm) rfl T.z_sorted BT.sorted "0k")) (zI (i:=4) sc_level_of.nd rfl (Or.inl rfl))
 (zh (zP (zF zcl (zw zR (pv 4) (pv 3)) (pv 2) (nomark _))
 (zj zrh)
 zJ)
 (zh (zf7 (i:=2) sc_level_of.nd rfl (Or.inl rfl) (pv 4) zge)
 (zj (zf7 (i:=3) sc_level_of.nd rfl (Or.inl rfl) zi zge)))))
 (zj (zy (zw zaG (pv 2) (pv 3))))))),?_⟩
 refine zE (σ0:=[some (.int c),some (.ref a),none,none,none]) rfl ?_;walk_at "x";rename_i l ms H1 W O hp u hl;have C:ms.length=n:=by rw[hp.length_eq,zG]
 have t:∀x∈ms,0<=x/\x<=100000000000000:=λx d=>by
  obtain⟨i,hi,e⟩:=ziy (hp.mem_iff.mp d);rw[e];exact v i hi
 refine zbR (xs:=ms.map V.int) (λi j H'=>∃(r m:Int) (q:Option V),j=[some (.int c),some (.ref a),some (.int r),some (.int m),q]/\H'=H1/\My.LvInv c ms i r/\m=(ms.length:Int)-(i:Int)/\0<=r/\r<=c) ⟨c,_,_,rfl,rfl,My.LvInv.zero,⋯,M,y6 _⟩ ?_ ?_ ?_
 ·rintro i j H' _ ⟨_,_,_,_,rfl,_⟩;exact SqL.of hl
 ·rintro i x j H' d ⟨r,m,q,rfl,rfl,f,p,y,L⟩;obtain⟨z,o,ex⟩:∃z,ms[i]?=some z/\x=.int z:=by
   rw[ye]at d;cases h:ms[i]? with
   | none=>rw[h]at d;cases d
   | some n=>rw[h]at d;exact⟨n,rfl,(yn d).symm⟩
  subst ex;obtain⟨G,z1⟩:=t z (yb o);have I:i<ms.length:=(yh.mp o).1;have N:1<=m:=by lia
  have X:m<=9:=by lia
  have m0:0<m:=by lia
  have Y:sz m<=9000:=yj (sz200 ⋯ ⋯) "0a";walk_at "x"
  ·rename_i g
   have:=f.done u o (by rw[<- p];exact g) hp
   rw[<- p]at this;exact k _ _ O this
  ·rename_i g;have hle:z*m<=r:=by lia
   exact⟨r-z,m-1,_,rfl,rfl,f.step u o (by rw[<- p];exact hle),⋯,My.lv_nn G N hle,⋯⟩
 ·rintro j H' ⟨r,m,q,rfl,rfl,f,p,y,L⟩;rw[ya]at f;exact(f.never (by rw[My.sumL_perm hp,zpQ];exact S) y).elim
def zl7(T:Txt K mg):T.d_by_level.Ok P w base 2 (zqT K):=by
 refine T.d_by_level.F.okN zdf "0d" λM A outer s H vs Q E l h=>?_;obtain⟨c,a,n,b,rfl,v,hn,W,c0,c1,k⟩:=h;have z:=zaI b n;have J:c<=zS (vec n b):=by rw[z];exact c1
 have g:((vec n b).map V.int).length=n:=by rw[ya,zG]
 refine⟨_,(zh (za4 (qD T.d_check_coins (zeI T) l (za (pv 0) "0k")))
 (zh (zP (zF (qEq K l.units) (pv 0) (zb7 K T.z_sum "0k") (nomark _))
 (zj (zy (zco K T.z_list "0k")))
 zJ)
 (zh (zD 2 zdf (qD T.d_level_of (zlZ T) l (za (pv 0) "0k")))
 (zh (qS1 3 zdf ["bound", "level"] [none,some 2] (z9 K (pv 1)) (λ_ _ _ _ _=>(zaP (zdy rfl) rfl T.z_min BT.min (za (pv 0) "0k"))))
 (zh (qS1 4 zdf ["bound", "level"] [none,some 2] (z9 K (pv 1)) (λ_ _ _ _ _=>(zbl zcl (pv 0) (pv 1) (nomark _))))
 (zj (zy (qD T.d_with_one_more (zd1 T) l (za (pv 3) (za (pv 4) (za (zw zce (pv 0) (zb7 K T.z_sum (za (pv 3) ze))) ze))))))))))),?_⟩
 refine zE (σ0:=[some (.int c),some (.ref a),none,none,none]) rfl ?_;walk_at "x"
 ·rename_i r p H1 fp m h1;refine k p H1 fp m ?_;rw[My.levelF_all (by rw[<- z];exact r)];exact h1
 ·rename_i r;have y:¬c=My.sumTo b n:=by rw[<- z];exact r
  refine⟨c,a,n,b,rfl,v,hn,W,c0,⋯,λL H1 m R=>?_⟩;have eF:=My.levelF_lev y R;walk_at "x";refine zN (zW (K:=K) (a:=a) (xs:=(vec n b).map V.int)) (λH' e=>e.seq (m.seq v)) rfl (λi vs _=>vs=(vec i λi=>My.mn (b i) L).map V.int) (λH' _=>rfl) ?_ ?_
  ·rintro i x D vs o C u hi X I N d rfl G j;have f:i<n:=by lia
   rw[ye,zK f]at j;cases j;walk_at "x";rename_i Z S t;exact CompN.int ⟨_,rfl⟩ ∅ t rfl
  rintro bo H2 vs O Y B d rfl;rw[g]at B;walk_at "x";refine zN (zW (K:=K) (a:=a) (xs:=(vec n b).map V.int)) (λH' e=>e.seq (Y.seq (m.seq v))) rfl (λi vs _=>vs=bls i λi=>decide (b i>L)) (λH' _=>rfl) ?_ ?_
  ·rintro i x D vs o C u hi X I N d rfl G j;have f:i<n:=by lia
   rw[ye,zK f]at j;cases j;walk_at "x";rename_i Z S t;exact⟨⟨_,rfl⟩,∅,_,t,by rw[yc];exact yl d,by show _=bls (i+1) _;rw[ze4]⟩
  rintro br C vs U I q d rfl;rw[g]at q;walk_at "x";rename_i p u fp G hp;refine k p u ∅ ∅ ?_;rw[eF,hp,zaI];rfl
def zit(T:Txt K mg):T.d_check_order.Ok P w base 1 (zod K T.c_NoLayer):=by
 refine T.d_check_order.F.okX sc_check_order (λvs H Q E h=>?_) (λB A outer s H vs Q E R h=>?_)
 ·obtain⟨o,ws,rfl,_⟩:=h;rfl
 obtain⟨o,ws,rfl,x,hl,k⟩:=h;have D:=T.q_WORDS;refine⟨_,(zj (zaf PassesOwn.leaving rfl (zaW K T.z_enumerate (za (pv 0) ze)) (show PG _ _ (zbs K 2 _)from zaS (n:=2) rfl (zH (zI (i:=1) sc_check_order.nd rfl (Or.inl rfl)) (zH (zI (i:=2) sc_check_order.nd rfl (Or.inl rfl)) zaD)))
 (zj (zP (PW.pt (za6 (zF (show OpR _ (compareOp .NotIn) (rIn K true)from zd5) (pv 2) (zgI (v:=.ref T.a_WORDS) rfl T.g_WORDS rfl) (by with_unfolding_all rfl)) (zbp (zF (show OpR _ (compareOp .In) (rIn K false)from zf9) (pv 2) (ze7 (show SlR _ (zfH K)from zgt) (pv 0) zgr (zgE (pv 1))) (by with_unfolding_all rfl)))))
 (zj (zlh rfl rfl T.m_NoLayer (errOk.own T.e_NoLayer) (za za3 ze) zoM))
 zJ)))),?_⟩
 refine zE (σ0:=[some (.ref o),none,none]) rfl ?_;walk_at "x";refine zc1 (zab (K:=K) (a:=o) (xs:=ws.map V.str)) (λi m H'=>∃q p:Option V,m=[some (.ref o),q,p]/\Same H H'/\OkO (ws.take i)) ⟨_,_,rfl,Same.refl _,by rw[yba];exact⟨(λ_ z=>nomatch z),yaE⟩⟩ ?_ ?_ ?_
 ·rintro i m H' ⟨_,_,_,e,_⟩;exact e.seq x
 ·rintro i y m S r hi ⟨q,p,rfl,G,l⟩ C ⟨t,v,rfl,b,M⟩;obtain⟨w,d,rfl⟩:=zmj b;have c:Same H r:=G.trans C;have I:=c.seq x;have N:r t=some (.tup [.int (i:Int),.str w]):=M;have bad:¬(w∈words5/\w∉ws.take i)->¬OkO ws:=λz b=>z ⟨b.1 w (yb d),zqf b.2 d⟩;walk_at "x";refine zqO (ws:=words5) (D _) ?_;by_cases g:w∈words5
  ·rw[decide_eq_true g];walk_at "x";rename_i U O J u f;rw[zp4,<- List.map_take]at f;refine ztt (ws:=ws.take i) (SqL.of f) ?_;by_cases j:w∈ws.take i
   ·rw[decide_eq_true j];walk_at "x";rcases k with⟨b,_⟩ | ⟨_,k⟩
    ·exact absurd b (bad λz=>z.2 j)
    ·exact⟨by decide,k _ (c.trans u)⟩
   ·rw[decide_eq_false j];walk_at "x";refine⟨_,_,rfl,c.trans u,?_⟩;rw[List.take_succ,d];exact zpJ l g j
  ·rw[decide_eq_false g];walk_at "x";rcases k with⟨b,_⟩ | ⟨_,k⟩
   ·exact absurd b (bad λz=>g z.1)
   ·exact⟨by decide,k _ c⟩
 ·rintro m H1 ⟨q,p,rfl,L,l⟩;rw[ya,yw]at l;walk_at "x";rcases k with⟨_,k⟩ | ⟨b,_⟩
  ·exact k _ L
  ·exact absurd l b
def zlX(T:Txt K mg):T.d_borne_in.Ok P w base 3 (zsg K):=by
 refine T.d_borne_in.F.okN sc_borne_in "0d" λa4 A outer s H vs Q E L h=>?_;obtain⟨w,r,p,sh,wh,own,n,R,P,S,W,rfl,hR,hP,hS,hW,hn,lR,lS,hw,k⟩:=h;have J:((vec n R).map V.int).length=n:=by rw[ya,zG]
 have a1:((vec n S).map V.int).length=n:=by rw[ya,zG]
 refine⟨_,(zh (zP (zF (qEq K L.units) (pv 0) za3 (nomark _))
 (zj (zy (zw (zat K) (qC2 K ["member", "rest", "pledges"] [none,none,some 2] (zaW K T.z_enumerate "0k") (λ_ _ _ _ _=>(zaP (zdy rfl) rfl T.z_min BT.min (za (pv 1) (za (qIx K (pv 2) (pv 0)) ze))))) (zaa (za zi ze)))))
 zJ)
 (zh (zP (zF (qEq K L.units) (pv 0) za3 (nomark _))
 (zj (zy (zw (zat K) (qC2 K ["member", "rest", "shares"] [none,none,some 3] (zaW K T.z_enumerate "0k") (λ_ _ _ _ _=>(zaP (zdy rfl) rfl T.z_min BT.min (za (pv 1) (za (qIx K (pv 2) (pv 0)) ze))))) (zaa (za zi ze)))))
 zJ)
 (zh (zP (zF (qEq K L.units) (pv 0) za3 (nomark _))
 (zj (zy (zw (zat K) (qC1 ["rest"] [none] (z9 K (pv 1)) (λ_ _ _ _ _=>zi)) (zaa (za (zaP (zdy rfl) rfl T.z_min BT.min (za (pv 4) (za (zb7 K T.z_sum "0k") ze))) ze)))))
 zJ)
 (zh (zc6 (i:=6) sc_borne_in.nd rfl rfl rfl (zaW K T.z_enumerate (za (pv 3) ze)) (zaJ (Ni:=["member", "share", "whole"]) (caps:=[none,none,some 5]) (by rfl)) "0h" (λ_ _ _ _ _=>zeK) (λ_ _ _ _ _=>(zcy (zaV K (qIx K (pv 2) (pv 0))) (pv 1) zi)))
 (zh (zD 7 sc_borne_in (zaP (zdy rfl) rfl T.z_min BT.min (za (zb7 K T.z_sum (za (pv 6) ze)) (za (zb7 K T.z_sum "0k") ze))))
 (zh (zP (zF (qEq K L.units) (pv 0) za3 (nomark _))
 (zj (zy (zw (zat K) (qD T.d_by_shares (zfV T) L (za (pv 7) (za (pv 6) ze))) (zaa (za zi ze)))))
 zJ)
 (zj (zy (zw (zat K) (qD T.d_by_level (zl7 T) L (za (pv 7) (za (pv 6) ze))) (zaa (za zi ze))))))))))),?_⟩
 refine zE (σ0:=[some (.str w),some (.ref r),some (.ref p),some (.ref sh),some (.int own),some (.ref wh),none,none]) rfl ?_;by_cases h1:w = "pledge"
 ·have B:zaR w n R P S W=λi=>My.mn (R i) (P i):=by unfold zaR;rw[if_pos h1]
  have ex:zbJ w n R own=0:=by unfold zbJ;rw[h1];exact if_neg (by decide +kernel)
  rw[B,ex]at k;walk_at "x";refine zaz (zab (K:=K) (a:=r) (xs:=(vec n R).map V.int)) (λH' e=>e.seq hR) rfl (λi vs _=>vs=(vec i λi=>My.mn (R i) (P i)).map V.int) (λH' _=>rfl) ?_ ?_
  ·rintro i x D vs o o' H2 d hi hD m hv b rfl l ⟨t,v,rfl,C,j⟩;have c:i<n:=by lia
   rw[ye,zK c]at C;cases C;have O:d t=some (.tup [.int (i:Int),.int (R i)]):=j;have a0:=(m.trans l).seq hP;have M:atI ((vec n P).map V.int) (i:Int)=some (.int (P i)):=zO (by rw[ye,zK c];rfl);walk_at "x";rename_i H6 b6 G;refine⟨⟨_,_,rfl⟩,∅,_,G,by rw[yc];exact yl b,?_⟩;show _=(vec (i+1) _).map V.int;rw[zaK,yi];rfl
  rintro Y H1 vs y Z f b rfl;rw[J]at f;walk_at "x";rename_i z H2 X m u;refine zd0 ∅ u (by rw[ya,zG];show n+1<=_;lia) λq d U l g=>?_;rw[zcc]at g;exact k q d ∅ ∅ g
 by_cases h2:w = "share"
 ·have B:zaR w n R P S W=λi=>My.mn (R i) (S i):=by unfold zaR;rw[if_neg h1,if_pos h2]
  have ex:zbJ w n R own=0:=by unfold zbJ;rw[h2];exact if_neg (by decide +kernel)
  rw[B,ex]at k;walk_at "x";refine zaz (zab (K:=K) (a:=r) (xs:=(vec n R).map V.int)) (λH' e=>e.seq hR) rfl (λi vs _=>vs=(vec i λi=>My.mn (R i) (S i)).map V.int) (λH' _=>rfl) ?_ ?_
  ·rintro i x D vs o o' H2 d hi hD m hv b rfl l ⟨t,v,rfl,C,j⟩;have c:i<n:=by lia
   rw[ye,zK c]at C;cases C;have O:d t=some (.tup [.int (i:Int),.int (R i)]):=j;have a0:=(m.trans l).seq hS;have M:atI ((vec n S).map V.int) (i:Int)=some (.int (S i)):=zO (by rw[ye,zK c];rfl);walk_at "x";rename_i H6 b6 G;refine⟨⟨_,_,rfl⟩,∅,_,G,by rw[yc];exact yl b,?_⟩;show _=(vec (i+1) _).map V.int;rw[zaK,yi];rfl
  rintro Y H1 vs y Z f b rfl;rw[J]at f;walk_at "x";rename_i z H2 X m u;refine zd0 ∅ u (by rw[ya,zG];show n+1<=_;lia) λq d U l g=>?_;rw[zcc]at g;exact k q d ∅ ∅ g
 by_cases N:w = "own"
 ·have B:zaR w n R P S W=λ_=>0:=by unfold zaR;rw[if_neg h1,if_neg h2,if_pos N]
  have ex:zbJ w n R own=My.mn own (zS (vec n R)):=by unfold zbJ;rw[if_pos N,zaI]
  rw[B,ex]at k;walk_at "x";rename_i Y H1 y Z f z H2 X m u;rw[J]at f;refine zd0 ∅ u (by rw[ya,zG];show n+1<=_;lia) λq d U l g=>?_;rw[zcc]at g;exact k q d ∅ ∅ g
 have ex:zbJ w n R own=0:=by unfold zbJ;exact if_neg N
 rw[ex]at k;obtain⟨c0,c1,c2⟩:=zgC (W:=W) lR lS;have lB:=zgx (W:=W) lS;walk_at "x";refine zaz (zab (K:=K) (a:=sh) (xs:=(vec n S).map V.int)) (λH' e=>e.seq hS) rfl (λi vs _=>vs=(vec i (zca S W)).map V.int) (λH' _=>rfl) ?_ ?_
 ·rintro i x D vs o o' H2 d hi hD m hv b rfl l ⟨t,v,rfl,C,j⟩;have c:i<n:=by lia
  rw[ye,zK c]at C;cases C;have O:d t=some (.tup [.int (i:Int),.int (S i)]):=j;have M:atI (bls n W) (i:Int)=some (.bl (W i)):=zO (zeA c);have a6:=(m.trans l).seq hW;walk_at "x"
  ·rename_i hc H6 b6 G;refine⟨⟨_,_,rfl⟩,∅,_,G,by rw[yc];exact yl b,?_⟩;show _=(vec (i+1) _).map V.int;rw[zaK,yi,show zca S W i=S i from if_pos hc];rfl
  ·rename_i hc H6 b6 G;refine⟨⟨_,_,rfl⟩,∅,_,G,by rw[yc];exact yl b,?_⟩;show _=(vec (i+1) _).map V.int;rw[zaK,yi,show zca S W i=0 from if_neg (by rw[hc];exact yr)];rfl
 rintro bd H1 vs a7 Z I b rfl;rw[a1]at I;have a5:=Z.seq hR;have eC:(if zS (vec n R)<zS (vec n (zca S W))then zS (vec n R)else zS (vec n (zca S W)))=zea n R S W:=by rw[zaI,zaI];rfl
 by_cases h4:w = "others"
 ·have B:zaR w n R P S W=zba (zea n R S W) n (zca S W):=by unfold zaR;rw[if_neg h1,if_neg h2,if_neg N,if_pos h4]
  rw[B]at k;walk_at "x";rw[eC];refine⟨zea n R S W,bd,n,zca S W,rfl,SqL.of I,⋯,lB.sz,⟨c0,c1⟩,lB.szS hn,λY a3 y a2 f=>?_⟩;walk_at "x";rename_i z H2 X m u;refine zd0 ∅ u (by rw[ya,zG];show n+1<=_;lia) λq d U l g=>?_;rw[zcc]at g;exact k q d ∅ ∅ g
 ·have B:zaR w n R P S W=My.levelF (zea n R S W) n (zca S W):=by unfold zaR;rw[if_neg h1,if_neg h2,if_neg N,if_neg h4]
  rw[B]at k;walk_at "x";rw[eC];refine⟨zea n R S W,bd,n,zca S W,rfl,SqL.of I,hn,lB,c0,c1,λY a3 y a2 f=>?_⟩;walk_at "x";rename_i z H2 X m u;refine zd0 ∅ u (by rw[ya,zG];show n+1<=_;lia) λq d U l g=>?_;rw[zcc]at g;exact k q d ∅ ∅ g
def zlQ(T:Txt K mg):T.d_given_in.Ok P w base 3 (zsA K):=by
 refine T.d_given_in.F.okN zlW "0d" λl A outer s H vs Q E j h=>?_;obtain⟨w,r,b,own,n,R,P,S,W,rfl,B,p,y,g,C,G,k⟩:=h;refine⟨_,(zh (zP (zF (show OpR _ (compareOp .In) (rIn K false)from zf9) (pv 0) (zV (za za3 (za za3 ze))) (by with_unfolding_all rfl))
 (zj (zy (ze7 (show SlR _ (zfH K)from zgt) (pv 2) zgr (zgE (zeW zd3 zi)))))
 zJ)
 (zj (zy (qD T.d_by_shares (zfV T) j (za (zb7 K T.z_sum (za (pv 2) ze)) "0k"))))),?_⟩
 refine zE (σ0:=[some (.str w),some (.ref r),some (.ref b)]) rfl ?_;walk_at "x";refine zdm (by first | decide | simp) λt H1 J i m=>?_;refine zrn (ws:=["pledge", "share"]) (.of m) ?_;have a:w∈(["pledge", "share"]:List Str)↔(w = "pledge" \/ w = "share"):=by simp
 have D:=i.seq p;have e:=i.seq B;by_cases c:w = "pledge" \/ w = "share"
 ·rw[decide_eq_true (a.mpr c)];have f:zdD w n R P S own W=zaR w n R P S W:=if_pos c;rw[f]at k;walk_at "x";rename_i u H2 x v d;rw[<- zcc,zpG]at d;exact k u H2 ∅ ∅ d
 ·rw[decide_eq_false λz=>c (a.mp z)];have h1:¬w = "pledge" := λz=>c (.inl z);have h2:¬w = "share" := λz=>c (.inr z);have f:zdD w n R P S own W=zba (My.sumTo (zaR w n R P S W) n+zbJ w n R own) n R:=if_neg c;rw[f]at k;have es:zS (vec n (zaR w n R P S W)++[zbJ w n R own])=My.sumTo (zaR w n R P S W) n+zbJ w n R own:=by rw[zdl,zaI]
  walk_at "x";rw[es];refine⟨_,r,n,R,rfl,e,⋯,g.sz,zfi h1 h2 g C G,g.szS y,λq H2 I v o=>?_⟩;exact k q H2 ∅ ∅ o
def zmF(T:Txt K mg):T.d_less.Ok P w base 1 (zsF K):=by
 refine T.d_less.F.okN ztd "0d" λp A outer s H vs Q E O h=>?_;obtain⟨a,of,n,d,B,ns,rfl,J,m,X,r,k⟩:=h;have g:((vec n d).map V.int).length=n:=by rw[ya,zG]
 refine⟨_,(zj (zy (qC2 K ["place", "number", "off"] [none,none,some 1] (zaW K T.z_enumerate (za (pv 0) ze)) (λ_ _ _ _ _=>(zw zce (pv 1) (qIx K (pv 2) (pv 0))))))),?_⟩;refine zE (σ0:=[some (.ref a),some (.ref of)]) rfl ?_;walk_at "x";refine zaz (zab (K:=K) (a:=a) (xs:=(vec n d).map V.int)) (λH' e=>e.seq J) rfl (λi vs _=>vs=(vec i λi=>d i-B i).map V.int) (λH' _=>rfl) ?_ ?_
 ·rintro i x D vs o o' H2 u hi U I R b rfl G ⟨t,v,rfl,l,f⟩;have c:i<n:=by lia
  rw[ye,zK c]at l;cases l;have C:u t=some (.tup [.int (i:Int),.int (d i)]):=f;have L:atI (ns.map V.int) (i:Int)=some (.int (B i)):=zO (by rw[ye,r i c];rfl);have M:=(I.trans G).seq m;walk_at "x";rename_i W S z;refine⟨⟨_,_,rfl⟩,∅,_,z,by rw[yc];exact yl b,?_⟩;show _=(vec (i+1) _).map V.int;rw[zaK,yi];rfl
 rintro q H1 vs y N j b rfl;rw[g]at j;exact k q H1 y N j
def zm1(T:Txt K mg):T.d_layered.Ok P w base 4 (znb K T.c_NoLayer):=by
 refine T.d_layered.F.okX sc_layered (λvs H Q E h=>?_) (λcg A outer s H vs Q E hr h=>?_)
 ·obtain⟨o,g,p,sh,own,ws,n,G,P,S,rfl,_⟩:=h;rfl
 obtain⟨o,g,p,sh,own,ws,n,G,P,S,rfl,hO,hG,hP,hS,hn,lG,lP,lS,o0,b5,k⟩:=h;have bn:((vec n G).map V.int).length=n:=by rw[ya,zG]
 have bw:=zb0 (own:=own) (ws:=ws) lG lP lS o0;refine⟨_,(zh (za4 (qE T.d_check_order (zit T) hr (za (pv 0) ze)))
 (zh (zD 5 sc_layered (zco K T.z_list "0k"))
 (zh (zD 6 sc_layered (zco K T.z_list (za (pv 3) ze)))
 (zh (zD 7 sc_layered (zaa ze))
 (zh (zaf PassesOwn.leaving rfl (z9 K (pv 0)) (zI (i:=8) sc_layered.nd rfl (Or.inl rfl))
 (zh (zD 9 sc_layered (qE T.d_borne_in (zlX T) hr (za (pv 8) (za (pv 5) (za (pv 2) (za (pv 6) (za (pv 4) (za (qC1 ["gap"] [none] (z9 K (pv 1)) (λ_ _ _ _ _=>(zbl (qEq K hr.units) (pv 0) zi (nomark _)))) ze))))))))
 (zh (zD 10 sc_layered (qE T.d_given_in (zlQ T) hr (za (pv 8) (za (pv 5) (za (pv 9) ze)))))
 (zh (za4 (qAp K (pv 7) (za (zV (za (pv 8) (za (pv 10) (za (pv 9) ze)))) ze)))
 (zh (zD 5 sc_layered (qD T.d_less (zmF T) hr (za (pv 5) (za (pv 10) ze))))
 (zj (zP (zF (show OpR _ (compareOp .In) (rIn K false)from zf9) (pv 8) (zV (za za3 (za za3 (za za3 ze)))) (by with_unfolding_all rfl))
 (zj (zD 6 sc_layered (qD T.d_less (zmF T) hr (za (pv 6) (za (pv 9) ze)))))
 zJ)))))))
 (zj (zy (zV (za (pv 7) (za (pv 5) ze)))))))))),?_⟩
 refine zE (σ0:=[some (.ref o),some (.ref g),some (.ref p),some (.ref sh),some (.int own),none,none,none,none,none,none]) rfl ?_;rcases k with⟨⟨hw5,nd⟩,k⟩ | ⟨hv,k⟩
 case inr=>
  walk_at "x";exact⟨o,ws,rfl,hO,b5,.inr ⟨hv,k⟩⟩
 walk_at "x";refine⟨o,ws,rfl,hO,b5,.inl ⟨⟨hw5,nd⟩,λH1 e1=>?_⟩⟩;have cf:=e1.seq hG;have cm:=e1.seq hS;walk_at "x";rename_i re H2 bp e2 hre sl H3 cc e3 bf rs H4 frs e4 hrs;have c0:Same H H4:=e1.trans (e2.trans (e3.trans e4));have b9:H re=none:=Same.none bp e1;have ag:H rs=none:=Same.none frs (e1.trans (e2.trans e3));have ca:re≠rs:=zQ (e3.at hre) frs;have c4:sl≠rs:=zQ bf frs;refine zbR (xs:=ws.map V.str) (λi σ' H'=>∃(re sl:Addr) (tr:List (Addr × Addr × Addr)) (f8 f9 b0:Option V),σ'=[some (.ref o),some (.ref g),some (.ref p),some (.ref sh),some (.int own),some (.ref re),some (.ref sl),some (.ref rs),f8,f9,b0] /\
  Same H H'/\H' rs=some (.lst (tr.map λt=>V.ref t.1))/\H' re=some (.lst ((vec n (lays n G P own ws S i).1).map V.int))/\H' sl=some (.lst ((vec n (lays n G P own ws S i).2).map V.int))/\tr.length=i/\LRs H' n (zaC n G P own ws S) tr/\H re=none/\(∀a∈zbj tr,H a=none)/\(zbj tr).Nodup/\re∉zbj tr/\rs∉zbj tr/\rs≠re/\rs≠sl)
  ⟨re,sl,[],_,_,_,rfl,c0,hrs,e4.at (e3.at hre),e4.at bf,rfl,(λi t z=>nomatch z),b9,(λa z=>nomatch z),yaE,(λz=>nomatch z),(λz=>nomatch z),ca.symm,c4.symm⟩ ?_ ?_ ?_
 ·rintro i σ' H' _ ⟨_,_,_,_,_,_,_,e,_⟩;exact e.seq hO
 ·rintro i x σ' H5 hx ⟨a5,ae,tr,f8,f9,b0,rfl,e5,u,d,U,M,af,aq,as,b2,ak,v,b1,a0⟩;obtain⟨w,ay,rfl⟩:=zmj hx;have ch:i<ws.length:=(yh.mp ay).1;have bq:=hw5 w (yb ay);have bv:ws.getD i "" = w:=by rw[yf,ay];rfl
  obtain⟨lR,lT⟩:=bw i;have C:zaC n G P own ws S i=zg0 n G P own w (lays n G P own ws S i).1 (lays n G P own ws S i).2:=by unfold zaC;rw[bv]
  have c8:=e5.seq hG;have br:=e5.seq hP;walk_at "x";refine zN (zW (K:=K) (a:=g) (xs:=(vec n G).map V.int)) (λH' e=>e.seq c8) rfl (λi vs _=>vs=bls i λi=>decide (G i=0)) (λH' _=>rfl) ?_ ?_
  ·rintro j x D vs o' H3 H4 N hD e3 hv bj rfl e4 hx;have c3:j<n:=by lia
   rw[ye,zK c3]at hx;cases hx;walk_at "x";rename_i H6 b6 h6;exact⟨⟨_,rfl⟩,∅,_,h6,by rw[yc];exact yl bj,by show _=bls (j+1) _;rw[ze4]⟩
  rintro wh H6 vs ck O ba bj rfl;rw[bn]at ba;refine⟨w,a5,p,ae,wh,own,n,_,P,_,_,rfl,SqL.of (O.at d),O.seq br,SqL.of (O.at U),SqL.of ba,hn,lR,lT,bq,λr H7 bm e7 ax=>?_⟩;walk_at "x";refine⟨w,a5,r,own,n,_,P,_,_,rfl,SqL.of (e7.at (O.at d)),SqL.of ax,hn,lR,lT,o0,λgi H8 au e8 bx=>?_⟩;have R:Same H5 H8:=O.trans (e7.trans e8);have bh:=R.at u;have bc:=R.at d;have b4:=R.at U;have b7:=e8.at ax;have be:=af.same R;have L:H5 r=none:=Same.none bm O;have J:H5 gi=none:=Same.none au (O.trans e7);have bt:gi≠r:=λz=>by rw[z,ax]at au;cases au
  have ci:(tr.map λt=>V.ref t.1).length<=1000:=by rw[ya];lia
  have b8:H r=none:=Same.none L e5;have bg:H gi=none:=Same.none J e5;have an:r≠rs:=λz=>by rw[z,u]at L;cases L
  have ap:gi≠rs:=λz=>by rw[z,u]at J;cases J
  have bl:Same H H8:=e5.trans R;clear O e7 e8 R;walk_at "x";rename_i tp H9 bd e9 c9 ar l bz;have cb:tp≠rs:=λz=>by rw[z,bh]at bd;cases bd
  have b3:=l.lst (e9.at bc) b1.symm;have av:=l.lst (e9.at b4) a0.symm;have X:=l.lst (e9.at bx) ap;have Z:=l.lst (e9.at b7) an;have aw:=l.tup c9;have al:Same H ar:=λc oo q=>l.lst (e9.at (bl c oo q)) (zQ q ag);have Y:LRs ar n (zaC n G P own ws S) (tr++[(tp,gi,r)]):=λj t N=>by
   by_cases c7:j<tr.length
   ·rw[yH c7]at N;obtain⟨a1,a2,a3⟩:=be j t N;have I:=yb N;exact⟨l.tup (e9.at a1),l.lst (e9.at a2) (λz=>v (mem_flatA.mpr ⟨t,I,.inl z.symm⟩)),l.lst (e9.at a3) (λz=>v (mem_flatA.mpr ⟨t,I,.inr z.symm⟩))⟩
   ·rw[yZ ⋯]at N;have c5:j-tr.length=0:=by
     have:=(yh.mp N).1
     have e:([(tp,gi,r)]:List (Addr × Addr × Addr)).length=1:=rfl;lia
    rw[c5]at N;cases N;obtain rfl:j=i:=by lia
    rw[C];exact⟨aw,X,Z⟩
  have W:∀a∈zbj (tr++[(tp,gi,r)]),H a=none:=λa ha=>by
   rw[zeV]at ha;rcases yL.mp ha with z | z
   ·exact as a z
   ·rcases yy.mp z with z | z
    ·rw[z];exact bg
    ·rw[yu.mp z];exact b8
  have bb:∀c,H5 c=none->c∉zbj tr:=λc hc I=>by
   obtain⟨ns,q⟩:=af.flat I;rw[hc]at q;cases q
  have aa:(zbj (tr++[(tp,gi,r)])).Nodup:=by
   rw[zeV];refine yaz.mpr ⟨b2,by simp[bt],λa ha b hb e=>?_⟩;subst e;rcases yy.mp hb with z | z
   ·have z':a=gi:=z;exact bb gi J (z'▸ha)
   ·have z':a=r:=yu.mp z;exact bb r L (z'▸ha)
  have ab:rs∉zbj (tr++[(tp,gi,r)]):=λI=>by
   rw[zeV]at I;rcases yL.mp I with z | z
   ·exact v z
   ·rcases yy.mp z with z | z
    ·exact ap z.symm
    ·exact an (yu.mp z).symm
  have am:ar rs=some (.lst ((tr++[(tp,gi,r)]).map λt=>V.ref t.1)):=by rw[yi];exact bz
  refine⟨a5,gi,n,_,_,_,rfl,SqL.of b3,SqL.of X,⋯,λj N=>zK N,λad bu a8 a7 a4=>?_⟩;have B:=a7.at am;have y:=a7.at av;have az:=a7.at Z;have ac:=Y.same a7;have ah:Same H bu:=al.trans a7;have aj:H ad=none:=Same.none a8 al;have a6:ad∉zbj (tr++[(tp,gi,r)]):=λI=>by
   obtain⟨ns,q⟩:=Y.flat I;rw[a8]at q;cases q
  have ai:rs≠ad:=zQ am a8;have eR:(lays n G P own ws S (i+1)).1=λj=>(lays n G P own ws S i).1 j-zdD w n (lays n G P own ws S i).1 P (lays n G P own ws S i).2 own (λi=>decide (G i=0)) j:=by rw[zdp,C];rfl
  have a9:(tr++[(tp,gi,r)]).length=i+1:=by rw[yc,M];rfl
  rw[<- eR]at a4;walk_at "x";rename_i t3 ce cd f c6;refine zrn (ws:=["share", "others", "level"]) (.of c6) ?_;by_cases I:w∈(["share", "others", "level"]:List Str)
  ·rw[decide_eq_true I];walk_at "x";refine⟨ae,r,n,_,zaR w n (lays n G P own ws S i).1 P (lays n G P own ws S i).2 (λi=>decide (G i=0)),_,rfl,SqL.of (f.at y),SqL.of (f.at az),⋯,λj N=>by rw[yH (by rw[zG];exact N)];exact zK N,λc1 cn bi c2 ao=>?_⟩;have eS:(lays n G P own ws S (i+1)).2=λj=>(lays n G P own ws S i).2 j-zaR w n (lays n G P own ws S i).1 P (lays n G P own ws S i).2 (λi=>decide (G i=0)) j:=by
    rw[zdp,C];exact if_pos I
   rw[<- eS]at ao;walk_at "x";have m:=f.trans c2;exact⟨ad,c1,tr++[(tp,gi,r)],_,_,_,rfl,ah.trans m,m.at B,m.at a4,ao,a9,ac.same m,aj,W,aa,a6,ab,ai,zQ (f.at B) bi⟩
  ·rw[decide_eq_false I];have eS:(lays n G P own ws S (i+1)).2=(lays n G P own ws S i).2:=by
    rw[zdp,C];exact if_neg I
   rw[<- eS]at y;walk_at "x";exact⟨ad,ae,tr++[(tp,gi,r)],_,_,_,rfl,ah.trans f,f.at B,f.at a4,f.at y,a9,ac.same f,aj,W,aa,a6,ab,ai,a0⟩
 ·rintro σ' H5 ⟨a5,ae,tr,f8,f9,b0,rfl,e5,u,d,U,M,af,aq,as,b2,ak,v,b1,a0⟩;rw[ya]at d M;walk_at "x";refine zdm (by first | decide | simp) λpt H6 cj O hpt=>?_;exact k pt rs a5 tr H6 ⟨e5.trans O,hpt,O.at u,O.at d,M,af.same O,aq,ag,as,b2,ak,v,b1⟩
def zsY(T:Txt K mg):T.d_nets.Ok P w base 1 (zli K):=by
 refine T.d_nets.F.okN sc_nets "0d" λC A outer s H vs Q E N h=>?_;obtain⟨n,a,ds,rfl,⟨xs,M,B⟩,n0,n1,hd,k⟩:=h;refine⟨_,(zh (zD 2 sc_nets (zw zR (zaa (za zi ze)) (pv 0)))
 (zh (zaf PassesOwn.never rfl (z9 K (pv 1)) (show PG _ _ (zbs K 4 _)from zaS (n:=4) rfl (zH (zI (i:=3) sc_nets.nd rfl (Or.inl rfl)) (zH (zI (i:=4) sc_nets.nd rfl (Or.inl rfl)) (zH (zI (i:=5) sc_nets.nd rfl (Or.inl rfl)) (zH (zI (i:=6) sc_nets.nd rfl (Or.inl rfl)) zaD)))))
 (zh (zdP (pv 2) (pv 3) (show zf3 _ (zdG K)from zcF) (pv 6) zge zaY)
 (zj (zdP (pv 2) (pv 4) (show zf3 _ (zdG K)from zcF) (pv 6) zeD zaY))))
 (zj (zy (pv 2))))),?_⟩
 refine zE (σ0:=[some (.int n),some (.ref a),none,none,none,none,none]) rfl ?_;walk_at "x";rename_i l H2 S e2 hl;refine zbR (xs:=xs) (λi g H'=>∃u o y z,g=[some (.int n),some (.ref a),some (.ref l),u,o,y,z]/\H' l=some (.lst ((vec n.toNat (zan (ds.take i))).map V.int))/\Same H H') ?_ ?_ ?_ ?_
 ·exact⟨_,_,_,_,rfl,hl,∅⟩
 ·rintro i g H' _ ⟨_,_,_,_,_,_,e⟩;exact e.seq M
 ·rintro i x g J L ⟨u,o,y,z,rfl,c,v⟩;obtain⟨b,d,rfl,f,G⟩:=(B.same v).get L;have D:J b=some (.tup [.int d.p,.int d.q,.int d.r,.int d.a]):=G;obtain⟨p0,p1,q0,X,Z,r0,r1,W,a1⟩:=hd d (yb f);walk_at "x";rename_i Y b5 U H6 R I;refine⟨_,_,_,_,rfl,?_,∅⟩;rw[I,zai f];congr 3;refine zbt λm hm=>?_;unfold zan;rw[zbh,za7];by_cases e:d.p=m
  ·have:¬d.q=m:=by lia
   rw[if_pos e,if_neg this,if_neg ⋯,if_pos ⋯];have j:d.p.toNat=m:=by lia
   rw[j];lia
  ·by_cases j:d.q=m
   ·rw[if_neg e,if_pos j,if_pos ⋯,if_neg ⋯];have t:d.q.toNat=m:=by lia
    rw[t];lia
   ·rw[if_neg e,if_neg j,if_neg ⋯,if_neg ⋯]
 ·rintro g O ⟨u,o,y,z,rfl,c,v⟩;rw[B.length,yw]at c;walk_at "x";exact k _ _ ∅ v c
def znx(T:Txt K mg):T.d_gaps_of.Ok P w base 2 (zko K):=by
 refine T.d_gaps_of.F.okN zhV "0d" λu A outer s H vs Q E r h=>?_;obtain⟨a,b,ds,n,pf,rfl,U,y,W,hd,k⟩:=h;have c:((vec n pf).map V.int).length=n:=by rw[ya,zG]
 have I:∀d∈ds,zo (((vec n pf).map V.int).length:Int) d:=by rw[c];exact hd
 refine⟨_,(zh (zD 2 zhV (qD T.d_nets (zsY T) r (za (zaU K T.z_len "0k") (za (pv 0) ze))))
 (zj (zy (qC2 K ["member", "purse", "sums"] [none,none,some 2] (zaW K T.z_enumerate "0k") (λ_ _ _ _ _=>(zaP (zjK rfl) rfl T.z_max BT.max (za zi (za (zw zce (zeW zd3 (qIx K (pv 2) (pv 0))) (pv 1)) ze)))))))),?_⟩
 refine zE (σ0:=[some (.ref a),some (.ref b),none]) rfl ?_;walk_at "x";rename_i l H1 O M hl;rw[ym,c]at hl;have g:=M.seq y;refine zaz (zab (K:=K) (a:=b) (xs:=(vec n pf).map V.int)) (λH' e=>e.seq g) rfl (λi vs _=>vs=(vec i (zah ds pf)).map V.int) (λH' _=>rfl) ?_ ?_
 ·rintro i x D vs o o' p C hi G J f j rfl R ⟨t,v,rfl,q,z⟩;have m:i<n:=by lia
  rw[ye,zK m]at q;cases q;have L:C l=some (.lst ((vec n (zan ds)).map V.int)):=by walk_at "h"
  walk_at "x";rename_i S N B;exact CompN.int ⟨_,_,rfl⟩ ∅ B (by rw[ym];rfl)
 ·rintro D p vs G J f j rfl;rw[c]at f;exact k D p ∅ ∅ f
def zsO(T:Txt K mg):T.d_owes.Ok P w base 1 (zkO K):=by
 refine T.d_owes.F.okN sc_owes "0d" λz A outer s H vs Q E L h=>?_;obtain⟨n,a,ds,rfl,⟨xs,J,y⟩,Z,W,hd,k⟩:=h;refine⟨_,(zh (zD 2 sc_owes (zw zR (zaa (za zi ze)) (pv 0)))
 (zh (zaf PassesOwn.never rfl (z9 K (pv 1)) (show PG _ _ (zbs K 4 _)from zaS (n:=4) rfl (zH (zI (i:=3) sc_owes.nd rfl (Or.inl rfl)) (zH (zI (i:=4) sc_owes.nd rfl (Or.inl rfl)) (zH (zI (i:=5) sc_owes.nd rfl (Or.inl rfl)) (zH (zI (i:=6) sc_owes.nd rfl (Or.inl rfl)) zaD)))))
 (zj (zdP (pv 2) (pv 3) (show zf3 _ (zdG K)from zcF) (pv 6) zeD zaY)))
 (zj (zy (pv 2))))),?_⟩
 refine zE (σ0:=[some (.int n),some (.ref a),none,none,none,none,none]) rfl ?_;walk_at "x";rename_i l H2 N X hl;refine zbR (xs:=xs) (λi g H'=>∃o j u v,g=[some (.int n),some (.ref a),some (.ref l),o,j,u,v]/\H' l=some (.lst ((vec n.toNat (zao (ds.take i))).map V.int))/\Same H H') ?_ ?_ ?_ ?_
 ·exact⟨_,_,_,_,rfl,hl,∅⟩
 ·rintro i g H' _ ⟨_,_,_,_,_,_,e⟩;exact e.seq J
 ·rintro i x g G I ⟨o,j,u,v,rfl,c,t⟩;obtain⟨b,d,rfl,f,D⟩:=(y.same t).get I;have B:G b=some (.tup [.int d.p,.int d.q,.int d.r,.int d.a]):=D;obtain⟨p0,p1,q0,R,U,r0,r1,O,a1⟩:=hd d (yb f);walk_at "x";rename_i S Y C;refine⟨_,_,_,_,rfl,?_,∅⟩;rw[C,zai f];congr 3;refine zbt λm hm=>?_;rw[zbh];by_cases e:d.p=m
  ·rw[if_pos e,if_pos ⋯];congr 2;lia
  ·rw[if_neg e,if_neg ⋯]
 ·rintro g M ⟨o,j,u,v,rfl,c,t⟩;rw[y.length,yw]at c;walk_at "x";exact k _ _ ∅ t c
def zj2(T:Txt K mg):T.d_dues_among.Ok P w base 1 (ziw K):=by
 refine T.d_dues_among.F.okN sc_dues_among "0d" λO A outer s H vs Q E hr h=>?_;obtain⟨a,b,ds,n,g,rfl,⟨xs,hS,M⟩,N,hn,hl,hd,k⟩:=h;have G:=M.length;have D:(bls n g).length=n:=zmP;refine⟨_,(zh (zD 2 sc_dues_among (zw zR (zaa (za zbo ze)) (zaU K T.z_len "0k")))
 (zh (zaf PassesOwn.never rfl (zaW K T.z_enumerate (za (pv 0) ze)) (show PG _ _ (zbs K 2 _)from zaS (n:=2) rfl (zH (zI (i:=3) sc_dues_among.nd rfl (Or.inl rfl)) (zH (zI (i:=4) sc_dues_among.nd rfl (Or.inl rfl)) zaD)))
 (zj (zP (PW.pt (zgg (zF zcl (qIx K (pv 4) zi) zi (nomark _)) (zgg (zaV K (qIx K (pv 1) (qIx K (pv 4) zi))) (zgD (zaV K (qIx K (pv 1) (qIx K (pv 4) zi)))))))
 (zj (zcO (pv 3) (zc0 (pv 2) (qIx K (pv 4) zi) zaY)))
 zJ)))
 (zj (zy (pv 2))))),?_⟩
 refine zE (σ0:=[some (.ref a),some (.ref b),none,none,none]) rfl ?_;walk_at "x";rename_i l0 H0 a4 e0 a2 l H1 fl e1 j;rw[ym,D]at j;refine zc1 (zab (K:=K) (a:=a) (xs:=xs)) (λi x H'=>∃C I,x=[some (.ref a),some (.ref b),some (.ref l),C,I]/\H' l=some (.lst (zak n (zbe ds g i)))/\Same H H') ?_ ?_ ?_ ?_
 ·exact⟨_,_,rfl,j,∅⟩
 ·rintro i x H' ⟨_,_,_,_,e⟩;exact e.seq hS
 ·rintro i y x X H4 hi ⟨C,I,rfl,f,u⟩ B ⟨t,v,rfl,R,ht⟩;obtain⟨c,d,rfl,o,Z⟩:=(M.same (u.trans B)).get R;have a3:H4 c=some (.tup [.int d.p,.int d.q,.int d.r,.int d.a]):=Z;obtain⟨p0,p1,V,q1,pq,r0,r1,a0,a1⟩:=hd d (yb o);have L:atI (bls n g) d.p=some (.bl (g d.p.toNat)):=zaZ p0 (zeA ⋯);have J:atI (bls n g) d.q=some (.bl (g d.q.toNat)):=zaZ V (zeA ⋯);have W:=(u.trans B).seq N;have es:∀m,zbe ds g (i+1) m=if useful g m d then some i else zbe ds g i m:=znW o
  walk_at "x"
  ·rename_i h1 h2 Y;refine zdo ∅ (show ixN (zak n (zbe ds g i)).length d.p=some d.p.toNat by rw[zbI];exact zdA p0 ⋯) λH5 b5 S=>?_;refine⟨_,_,rfl,?_,∅⟩;rw[S];show some (HO.lst ((zak n (zbe ds g i)).set d.p.toNat (zb6 (some i))))=_;rw[zqx];congr 2;refine zeT λm U=>?_;rw[es m];by_cases e:m=d.p.toNat
   ·rw[if_pos e,if_pos ⟨⋯,h1,h2,Y⟩]
   ·rw[if_neg e,if_neg (λz=>e (by have:=z.1;lia))]
  all_goals
   refine⟨_,_,rfl,?_,∅⟩;rw[B.at f];congr 2;refine zeT λm U=>?_;rw[es m,if_neg]
   rintro⟨z1,z2,z3,z4⟩
   simp_all
 ·rintro x X ⟨C,I,rfl,f,u⟩;rw[G]at f;walk_at "x";exact k _ _ ∅ u f
def ziq(T:Txt K mg):T.d_ways_onward.Ok P w base 2 (zlb K):=by
 refine T.d_ways_onward.F.okN sc_ways_onward "0d" λB A outer s H vs Q E M h=>?_;obtain⟨n,a,ds,rfl,hS,n0,n1,hl,hd,k⟩:=h;have z:∀d∈ds,zo (n.toNat:Int) d:=by rw[show(n.toNat:Int)=n by lia];exact hd
 refine⟨_,(zh (zD 2 sc_ways_onward (zw zR (zaa (za zbm ze)) (pv 0)))
 (zh (zD 3 sc_ways_onward (zw zR (zaa (za zbo ze)) (pv 0)))
 (zh (zaf PassesOwn.never rfl (zZ rfl T.z_range (za (pv 0) ze)) (zI (i:=4) sc_ways_onward.nd rfl (Or.inl rfl))
 (zh (zD 3 sc_ways_onward (qD T.d_dues_among (zj2 T) M (za (pv 1) (za (pv 2) ze))))
 (zj (qS1 2 sc_ways_onward ["number"] [none] (z9 K (pv 3)) (λ_ _ _ _ _=>(zbl zgs (pv 0) zbo (nomark _)))))))
 (zj (zy (pv 3)))))),?_⟩
 refine zE (σ0:=[some (.int n),some (.ref a),none,none,none]) rfl ?_;walk_at "x";rename_i l0 H0 Y e0 S go H1 W e1 X l1 H2 J e2 U on H3 C e3 q;refine zcd (λi m H'=>∃(g o:Addr) (l:Option V),m=[some (.int n),some (.ref a),some (.ref g),some (.ref o),l]/\H' g=some (.lst (bls n.toNat (goF ds i)))/\H' o=some (.lst (zak n.toNat (zaw ds i)))/\Same H H'/\H o=none) ?_ ?_ ?_
 ·exact⟨_,_,_,rfl,∅,q,∅,∅⟩
 ·rintro i m O hi ⟨g,o,l,rfl,N,v,r,y⟩;walk_at "x";rename_i p H5 fp e5 hp;refine zN (zW (K:=K) (a:=p) (xs:=zak n.toNat (zaw ds (i+1)))) (λH' e=>SqL.of (e.at hp)) rfl (λj vs _=>vs=bls j (goF ds (i+1))) (λH' _=>rfl) ?_ ?_
  ·rintro j x D vs o2 I Z t R G f b rfl e7 u;have c:j<n.toNat:=by rw[zbI]at t;exact t
   rw[zbd c]at u;cases u;walk_at "x";rename_i H8 b8 L;refine⟨⟨_,rfl⟩,∅,_,L,by rw[yc];exact yl b,?_⟩;show _=bls (j+1) _;rw[ze4,zdV];congr 2;show V.bl (!(zaw ds (i+1) j).isNone)=V.bl ((zaw ds (i+1) j).isSome);cases zaw ds (i+1) j<;>rfl
  ·rintro D I vs R G f b rfl;rw[zbI]at f;exact⟨_,_,_,rfl,f,∅,∅,∅⟩
 ·rintro m O ⟨g,o,l,rfl,N,v,r,y⟩;walk_at "x";exact k _ _ y r v
def zjD(T:Txt K mg):T.d_a_ring.Ok P w base 3 (zlJ K):=by
 refine T.d_a_ring.F.okN sc_a_ring "0d" λak A outer s H vs Q E hr h=>?_;obtain⟨n,a,ds,rfl,hS,n0,n1,hl,hd,k⟩:=h;have l:∀d∈ds,zo (n.toNat:Int) d:=by rw[show(n.toNat:Int)=n by lia];exact hd
 refine⟨_,(zh (zD 2 sc_a_ring (qD T.d_ways_onward (ziq T) hr (za (pv 0) "0k")))
 (zh (zc6 (i:=3) sc_a_ring.nd rfl rfl rfl (zZ rfl T.z_range (za (pv 0) ze)) (zaJ (Ni:=["member", "onward"]) (caps:=[none,some 2]) (by rfl)) (λS _ _ _ _ _=>(zaF (gi:=0) S (Or.inl rfl) rfl)) (λ_ _ _ _ _=>(zfE (zF zgs (qIx K (pv 1) (pv 0)) zbo (nomark _)))) (λ_ _ _ _ _=>(pv 0)))
 (zh (zP (zF (qEq K hr.units) (pv 3) (zaa ze) (nomark _))
 (zj (zy (zaa ze)))
 zJ)
 (zh (zD 4 sc_a_ring (zaa ze))
 (zh (zD 5 sc_a_ring (qIx K (pv 3) zi))
 (zh (zdb PassesOwn.never (zF (show OpR _ (compareOp .NotIn) (rIn K true)from zd5) (pv 5) (pv 4) (by with_unfolding_all rfl))
 (zh (za4 (qAp K (pv 4) (za (pv 5) ze)))
 (zj (zD 5 sc_a_ring (qIx K (qIx K (pv 1) (qIx K (pv 2) (pv 5))) zi)))))
 (zj (zy (qC1 ["payer", "onward"] [none,some 2] (z9 K (ze7 (show SlR _ (zfH K)from zgt) (pv 4) (zgE (show PE _ _ (tBM K _ _ _ _)from zhE yaJ PySem.F.slot_list_index PySem.F.type_list_index zq4 (pv 4) (za (pv 5) ze))) zgr)) (λ_ _ _ _ _=>(qIx K (pv 1) (pv 0)))))))))))),?_⟩
 refine zE (σ0:=[some (.int n),some (.ref a),none,none,none,none]) rfl ?_;walk_at "x";rename_i on H1 al e1 a7;refine zN zbw (λ_ _=>trivial) rfl (λj vs _=>vs=(zbK (goL ds n.toNat j)).map V.int) (λH' _=>rfl) ?_ ?_
 ·rintro j x D vs o2 H6 H7 hj hD Z X f rfl e7 rfl;have ej:(0:Int)+(j:Int)=j:=by lia
  have ao:atI (zak n.toNat (zaw ds n.toNat)) ((0:Int)+(j:Int))=some (zb6 (zaw ds n.toNat j)):=zaZ ⋯ (by rw[show((0:Int)+(j:Int)).toNat=j by lia,zbd hj]);have es:=zqG (ds:=ds) (n:=n.toNat) (i:=j);walk_at "x"
  ·rename_i h H8 b8 h8;have G:(zaw ds n.toNat j).isSome=true:=by
    cases e:zaw ds n.toNat j with
    | none=>rw[e]at h;exact absurd rfl h
    | some _=>rfl
   rw[if_pos G]at es;rw[ej]at h8;refine⟨⟨_,rfl⟩,∅,_,h8,by rw[yc];exact yl f,?_⟩;show _=(zbK (goL ds n.toNat (j+1))).map V.int;rw[es,zlF,yi];rfl
  ·rename_i h;have hn:¬(zaw ds n.toNat j).isSome=true:=by
    cases e:zaw ds n.toNat j with
    | none=>simp
    | some i=>rw[e]at h;cases h
   rw[if_neg hn,yag]at es;exact⟨⟨_,rfl⟩,∅,_,∅,⋯,by show _=(zbK (goL ds n.toNat (j+1))).map V.int;rw[es]⟩
 rintro gl H2 vs am e2 t f rfl;walk_at "x";rename_i l0 H3 au N U;by_cases hg:goL ds n.toNat n.toNat=[]
 ·rw[hg]at t;refine zhm (ns:=[]) (ms:=[]) (SqL.of (N.at t)) (SqL.of U) rfl ?_;walk_at "x";rename_i l1 H4 an e4 aa;refine k _ _ [] ∅ ∅ aa (.inl ⟨rfl,λm hm=>?_⟩);cases e:zaw ds n.toNat m with
  | none=>rfl
  | some i=>
   have:=mem_goL.mpr ⟨hm,show(zaw ds n.toNat m).isSome=true by rw[e];rfl⟩
   rw[hg]at this;cases this
 obtain⟨J,gs,eg⟩:∃J gs,goL ds n.toNat n.toNat=J :: gs:=by
  cases e:goL ds n.toNat n.toNat with
  | nil=>exact absurd e hg
  | cons x xs=>exact⟨x,xs,rfl⟩
 have a0:J<n.toNat/\zaw ds n.toNat J≠none:=by
  have:=mem_goL.mp (show J∈goL ds n.toNat n.toNat by rw[eg];simp)
  exact⟨this.1,λz=>by rw[z]at this;cases this.2⟩
 refine zls (SqL.of (N.at t)) (SqL.of U) (by rw[eg];exact λz=>nomatch z) ?_;have af:atI ((zbK (goL ds n.toNat n.toNat)).map V.int) 0=some (.int J):=zaZ "0a" (by rw[eg];rfl);walk_at "x";rename_i M H4 a6 e4 a4;obtain⟨xs,aj,a9⟩:=hS;refine⟨λm σ H'=>∃(ms:List Nat) (x:Nat),σ=[some (.int n),some (.ref a),some (.ref on),some (.ref gl),some (.ref M),some (.int (x:Int))]/\H' M=some (.lst ((zbK ms).map V.int))/\Walked ds n.toNat ms x/\Same H3 H'/\m=n.toNat-ms.length,⟨_,[],J,rfl,a4,⟨yaE,(λ_ h=>nomatch h),a0,λi m h=>nomatch h⟩,e4,rfl⟩,?_⟩;rintro m σ H5 ⟨ms,x,rfl,ar,hW,e5,rfl⟩;have ab:=zfc n.toNat ms hW.nd λy L=>(hW.ok y L).1;obtain⟨j,d,w1,w2,w3,w4,w5,w6,w7,w8⟩:=zeF l hW.at'.1 hW.at'.2;have ai:atI (zak n.toNat (zaw ds n.toNat)) (x:Int)=some (.int (j:Int)):=zO (by rw[zbd hW.at'.1,w1];rfl);have I:Same H H5:=e1.trans (e2.trans (N.trans e5));obtain⟨c,a3,a8⟩:=(a9.same I).getI w2;have as:H5 c=some (.tup [.int d.p,.int d.q,.int d.r,.int d.a]):=a8;have ad:atI xs (j:Int)=some (.ref c):=zO a3;have ae:((zbK ms).map V.int).length<=100000:=by rw[ya,zdT];lia
 have non:on≠M:=by walk_at "h"
 have W:H5 on=some (.lst (zak n.toNat (zaw ds n.toNat))):=e5.at (N.at (e2.at a7));have ah:H M=none:=Same.none a6 (e1.trans (e2.trans N));walk_at "x"
 ·rename_i h;have hx:x∉ms:=λz=>h (natI_mem.mpr z);have W2:=hW.step l hx;refine⟨λσ' H'=>∃(b:List Nat) (Y:Nat),σ'=[some (.int n),some (.ref a),some (.ref on),some (.ref gl),some (.ref M),some (.int (Y:Int))]/\H' M=some (.lst ((zbK b).map V.int))/\Walked ds n.toNat b Y/\Same H3 H'/\ms.length<b.length,?_,?_⟩
  ·rintro σ' H' ⟨b,Y,rfl,h1,h2,h3,h4⟩
   have:=zfc n.toNat b h2.nd λy L=>(h2.ok y L).1
   exact⟨_,⋯,b,Y,rfl,h1,h2,h3,rfl⟩
  ·walk_at "x";rename_i H6 b6 h6;rw[zcc]at h6;refine⟨ms++[x],zck ds n.toNat x,by rw[<- w5],by rw[zlF];exact h6,W2,∅,by rw[yc];exact yaU _⟩
 ·rename_i h;have hx:x∈ms:=natI_mem.mp h;obtain⟨i,hi,ei⟩:=yB hx;have B:ms[i]?=some x:=by rw[yk hi,ei]
  have a2:(zbK ms).Nodup:=List.pairwise_map.mpr (List.Pairwise.imp (λa5 e=>a5 ⋯) hW.nd);refine zsr ∅ (zg8 B) (zrg a2 (zg8 B)) (by rw[zdT];lia) ?_;walk_at "x";rename_i cl H6 aq Z O;rw[zp5 (by rw[zdT];lia)]at O;have R:H6 on=some (.lst (zak n.toNat (zaw ds n.toNat))):=Z.at W;refine zN (zW (K:=K) (a:=cl) (xs:=((zbK ms).drop i).map V.int)) (λH' e=>SqL.of (e.at O)) rfl (λu vs _=>vs=(((ms.drop i).take u).map (zbE ds n.toNat)).map V.int) (λH' _=>rfl) ?_ ?_
  ·rintro u y D vs o H7 H8 hu hD e7 X f rfl e8 L;have a1:u<(ms.drop i).length:=by
    rw[ya,y3,zdT]at hu;rw[y3];exact hu
   have ap:(ms.drop i).length<=100000:=by rw[y3];lia
   obtain⟨C,g⟩:=zC a1;have v:=List.mem_of_mem_drop (yb g);obtain⟨j2,d2,v1,_,_,_,_,_,_,v8⟩:=zeF l (hW.ok C v).1 (hW.ok C v).2;have ey:y=.int (C:Int):=by
    have:(((zbK ms).drop i).map V.int)[u]?=some (.int (C:Int)):=by
     rw[ye,ya1];rw[ya1]at g;rw[zg8 g];rfl
    rw[this]at L;exact(yn L).symm
   subst ey;have ag:atI (zak n.toNat (zaw ds n.toNat)) (C:Int)=some (.int (zbE ds n.toNat C)):=zO (by rw[zbd (hW.ok C v).1,v1,v8];rfl);have ac:H8 on=some (.lst (zak n.toNat (zaw ds n.toNat))):=e8.at (e7.at R);walk_at "x";rename_i H9 b9 h9;refine⟨⟨_,rfl⟩,∅,_,h9,by rw[yc];exact yl f,?_⟩;show _=(((ms.drop i).take (u+1)).map (zbE ds n.toNat)).map V.int;rw[zai g,yi,yi];rfl
  ·rintro D H7 vs hD e7 X f rfl;rw[show(((zbK ms).drop i).map V.int).length=(ms.drop i).length by rw[ya,y3,y3,zdT],yw]at X;exact k _ _ _ (Same.none hD (I.trans Z)) (I.trans (Z.trans e7)) X (hW.ring B)
def zfp(T:Txt K mg):T.d_amounts_of.Ok P w base 1 (zet K):=by
 refine T.d_amounts_of.F.okN zj0 "0d" λu A outer s H vs Q E J h=>?_;obtain⟨a,ds,rfl,⟨xs,I,t⟩,h1,k⟩:=h;have j:=t.length;refine⟨_,(zj (zy (qC1 ["due"] [none] (z9 K (pv 0)) (λ_ _ _ _ _=>(qIx K (pv 0) zi))))),?_⟩;refine zE (σ0:=[some (.ref a)]) rfl ?_;walk_at "x";refine zN (zW (K:=K) (a:=a) (xs:=xs)) (λH' e=>e.seq I) rfl (λi vs _=>vs=((ds.take i).map Due.a).map V.int) (λH' _=>rfl) ?_ ?_
 ·rintro i x D vs o m C hi n g f c rfl z G;obtain⟨b,d,rfl,l,y⟩:=(t.same (g.trans z)).get G;have v:C b=some (.tup [.int d.p,.int d.q,.int d.r,.int d.a]):=y;walk_at "x";rename_i M L B;exact⟨⟨_,rfl⟩,∅,_,B,by rw[yc];exact yl c,by show _=((ds.take (i+1)).map Due.a).map V.int;rw[zai l,yi,yi];rfl⟩
 ·rintro D m vs n g f c rfl;rw[j,yw]at f;exact k D m n g f
def zcQ(T:Txt K mg):T.d_with_amounts.Ok P w base 1 (zk0 K):=by
 refine T.d_with_amounts.F.okN zie (by walk_at "l") λJ A outer s H vs Q E hr h=>?_;obtain⟨a,b,ds,ms,rfl,⟨xs,hS,I⟩,hM,hl,h1,k⟩:=h;have n:=I.length;refine⟨_,(zj (zy (qC2 K ["number", "due", "amounts"] [none,none,some 1] (zaW K T.z_enumerate (za (pv 0) ze)) (λ_ _ _ _ _=>(zV (za (qIx K (pv 1) zi) (za (qIx K (pv 1) zi) (za (qIx K (pv 1) zi) (za (qIx K (pv 2) (pv 0)) ze))))))))),?_⟩;refine zE (σ0:=[some (.ref a),some (.ref b)]) rfl ?_;walk_at "x";refine zaz (zab (K:=K) (a:=a) (xs:=xs)) (λH' e=>e.seq hS) rfl (λi vs H'=>IsTs zdC H' vs ((zk ds λi=>ms.getD i 0).take i)) (λH' _=>trivial) ?_ ?_
 ·rintro i x D vs o o' B U hi G l C g j O ⟨t,v,rfl,hx,L⟩;obtain⟨c,d,rfl,y,S⟩:=(I.same (l.trans O)).get hx;have Y:U c=some (.tup [.int d.p,.int d.q,.int d.r,.int d.a]):=S;have u:i<ms.length:=by lia
  have Z:atI (ms.map V.int) (i:Int)=some (.int (ms.getD i 0)):=ziW ⋯ (by rw[ym];exact ze6 u);walk_at "x";rename_i t W ft e5 N X M R;have z:W t=some (.tup (zdC ⟨d.p,d.q,d.r,ms.getD i 0⟩)):=N;refine⟨⟨_,_,rfl⟩,∅,_,R,by rw[yc];exact yl g,?_⟩;show IsTs zdC X _ (List.take (i+1) _);rw[zbf y];exact IsTs.app (f:=zdC) (M.tup z) ∅
 ·rintro D B vs G l C g j;rw[n,<- zU (m:=λi=>ms.getD i 0),yw]at j;exact k D B vs G l C j
def zug(T:Txt K mg):T.d_cut.Ok P w base 4 (znm K):=by
 refine T.d_cut.F.okN sc_cut "0d" λbh A outer s H vs Q E hr h=>?_;obtain⟨n,a,es,rfl,hS,n0,n1,hl,hd,k⟩:=h;have a9:∀d∈es,zo (n.toNat:Int) d:=by rw[show(n.toNat:Int)=n by lia];exact hd
 refine⟨_,(zh (zD 2 sc_cut (qD T.d_amounts_of (zfp T) hr "0k"))
 (zh (zD 3 sc_cut (zaa ze))
 (zh (zD 4 sc_cut (qD T.d_a_ring (zjD T) hr (za (pv 0) "0k")))
 (zh (zdb PassesOwn.never (zF (qNe K hr.units) (pv 4) (zaa ze) (nomark _))
 (zh (zD 5 sc_cut (zaP (show CallR _ _ (zhw K)from zjt rfl) rfl T.z_min BT.min (za (qC1 ["number", "left"] [none,some 2] (z9 K (pv 4)) (λ_ _ _ _ _=>(qIx K (pv 1) (pv 0)))) ze)))
 (zh (zaf PassesOwn.never rfl (z9 K (pv 4)) (zI (i:=6) sc_cut.nd rfl (Or.inl rfl))
 (zj (zdP (pv 2) (pv 6) (show zf3 _ (zdG K)from zcF) (pv 5) zge zaY)))
 (zh (za4 (qAp K (pv 3) (za (zV (za (pv 4) (za (pv 5) ze))) ze)))
 (zj (zD 4 sc_cut (qD T.d_a_ring (zjD T) hr (za (pv 0) (za (qD T.d_with_amounts (zcQ T) hr (za (pv 1) (za (pv 2) ze))) ze)))))))))
 (zj (zy (zV (za (pv 2) (za (pv 3) ze))))))))),?_⟩
 refine zE (σ0:=[some (.int n),some (.ref a),none,none,none,none,none]) rfl ?_;walk_at "x";rename_i l H1 fl e1 U c H2 fc e2 be r H3 rs fr e3 ay hR;rw[zmQ]at U;have b1:H l=none:=fl;have ah:H c=none:=by walk_at "h"
 have aa:l≠c:=λz=>by rw[z]at U;rw[U]at fc;cases fc
 refine⟨λm σ H'=>zoU es n a l c H m σ H',⟨_,r,rs,[],λ_=>amF es,[],_,_,rfl,∅,∅,ay,?_,⟨rfl,λt c h=>nomatch h⟩,(λt c h=>nomatch h),(λ_ _=>rfl),by rw[zeZ];exact hR,by have:=zkF es.length (amF es);simpa using this,∅,rfl⟩,?_⟩
 ·have n1:r≠l:=by walk_at "h"
  have n2:r≠c:=by walk_at "h"
  simp[n1,n2]
 rintro m σ H4 ⟨r,rs,vs,L,cs,f5,f6,rfl,af,au,B,X,hI,hC,J,a4,a8,e4,rfl⟩;have v:=hC.ok a9 J (yg _);walk_at "x";rename_i z H5 fz N hz;rcases a4.cases with⟨rfl,hno⟩ | ⟨ms,R,ers⟩
 ·refine zhf (ns:=[]) (ms:=[]) (SqL.of (N.at B)) (SqL.of hz) rfl ?_;walk_at "x";refine zdm (by first | decide | simp) λp H6 fp e6 ap=>?_;walk_at "x";exact k p l c H6 vs L cs ∅ b1 ah ∅ ap ∅ ∅ (hI.same (N.trans e6)) hC J a4 ⋯
 subst ers;obtain⟨g,C⟩:∃g,L cs.length=g:=⟨_,rfl⟩
 rw[C]at v af a4 a8 R B;have aj:ms.map (zbE (zk es g) n.toNat)≠[]:=λz=>R.ne (ybf.mp z);refine zqa (SqL.of (N.at B)) (SqL.of hz) aj ?_;have bm:=zfc n.toNat ms R.nd λy hy=>(R.ok y hy).1;have Z:∀i,i<es.length->0<=g i/\g i<=amF es i:=by rw[<- C];exact hC.bnd a9 J _ (yg _)
 walk_at "x";refine⟨λS H'=>∃q,q<zcn es.length (L cs.length)/\zoU es n a l c H q S H',λS H' ⟨q,h1,h2⟩=>⟨q,h1,h2⟩,?_⟩;walk_at "x";refine zN (zW (K:=K) (a:=r) (xs:=(ms.map (zbE (zk es g) n.toNat)).map V.int)) (λH' e=>SqL.of (e.at (N.at B))) rfl (λi vs _=>vs=((ms.take i).map λm=>g (zaT (zk es g) n.toNat m)).map V.int) (λH' _=>rfl) ?_ ?_
 ·rintro i x D ai o H6 H7 hi hD e6 hv aw rfl e7 hx;rw[ya,ya]at hi;obtain⟨m,G⟩:=zC hi;obtain⟨e,u1,u2,u3,u4,u5⟩:=R.num v (yb G);have hj:=(yh.mp u1).1;have ex:x=.int (zaT (zk es g) n.toNat m:Int):=by
   rw[ye,ye,G]at hx;rw[<- u5];exact(yn hx).symm
  subst ex;have j:H7 l=some (.lst ((vec es.length g).map V.int)):=by walk_at "h"
  walk_at "x";rename_i H8 b8 h8;refine⟨⟨_,rfl⟩,∅,_,h8,by rw[yc];exact yl aw,?_⟩;show _=((ms.take (i+1)).map λm=>g (zaT (zk es g) n.toNat m)).map V.int;rw[zai G,yi,yi];rfl
 rintro ml H6 ai bl e6 an b4 rfl;rw[ya,ya,yw]at an;have b6:(ms.map λm=>g (zaT (zk es g) n.toNat m))≠[]:=λz=>R.ne (ybf.mp z);walk_at "x";rename_i f b2 am;obtain⟨m0,ar,ef⟩:=y8.mp b2;have hle:∀m∈ms,f<=g (zaT (zk es g) n.toNat m):=λm G=>am _ (y8.mpr ⟨m,G,rfl⟩);have aq:Same H H6:=by walk_at "h"
 refine zbR (xs:=(ms.map (zbE (zk es g) n.toNat)).map V.int) (λi S H'=>∃f6:Option V,S=[some (.int n),some (.ref a),some (.ref l),some (.ref c),some (.ref r),some (.int f),f6]/\H' l=some (.lst ((vec es.length (zcH g ((ms.take i).map (zaT (zk es g) n.toNat)) f)).map V.int))/\H' c=some (.lst vs)/\H' r=some (.lst ((ms.map (zbE (zk es g) n.toNat)).map V.int))/\IsCuts es n.toNat L [l,c] cs H' vs/\Same H H') ⟨_,rfl,?_,e6.at (N.at au),e6.at (N.at B),hI.same (N.trans e6),aq⟩ ?_ ?_ ?_
 ·have e0:vec es.length (zcH g ((ms.take 0).map (zaT (zk es g) n.toNat)) f)=vec es.length g:=zbt λi _=>zhq (by simp);rw[e0];exact e6.at (N.at af)
 ·rintro i S H' _ ⟨_,_,_,_,h,_⟩;exact SqL.of h
 ·rintro i x S H7 hx ⟨ax,rfl,j,a3,a2,a5,e7⟩;have hi:i<ms.length:=by
   have:=(yh.mp hx).1
   rwa [ya,ya]at this
  obtain⟨m,G⟩:=zC hi;obtain⟨e,u1,u2,u3,u4,u5⟩:=R.num v (yb G);have hj:=(yh.mp u1).1;have ex:x=.int (zaT (zk es g) n.toNat m:Int):=by
   rw[ye,ye,G]at hx;rw[<- u5];exact(yn hx).symm
  subst ex;have M:=R.num_new v G;have av:r≠l:=λz=>X (by simp[z]);walk_at "x";rename_i H8 b8 h8;refine⟨_,rfl,?_,b8.lst a3 aa.symm,b8.lst a2 av,a5.but b8 (by simp),∅⟩;rw[h8];congr 3;refine zbt λt ht=>?_;rw[zai G,yi];refine Eq.trans ?_ (zjR M t).symm;rw[ym,zhq M]
 ·rintro S H7 ⟨ax,rfl,j,a3,a2,a5,e7⟩;rw[ya,ya,yw]at j;have bj:=hI.1;obtain⟨g',ac⟩:∃g',g'=zcH g (ms.map (zaT (zk es g) n.toNat)) f:=⟨_,rfl⟩
  rw[<- ac]at j;have CA:CutAt es n.toNat (L cs.length) ms f g':=by rw[C,ac];exact⟨R,hle,⟨m0,ar,ef.symm⟩,λ_=>rfl⟩
  have O:∀d∈zk es (L cs.length),zo (n.toNat:Int) d:=by rw[C];exact v
  have u:=CA.cnt O (λi hi=>by rw[C];exact(Z i hi).1);have ae:∀i,i<es.length->0<=g' i/\g' i<=amF es i:=λi hi=>by
   have h1:=CA.bnd O (i:=i) (by rw[C];exact(Z i hi).1);have h2:=Z i hi;rw[C]at h1;lia
  walk_at "x";refine zdm (by first | decide | simp) λtp H8 bf e8 b0=>?_;have bn:=e8.at a3;have b7:vs.length<=1000:=by lia
  walk_at "x";rename_i H9 b9 h9;have e9:Same H H9:=by walk_at "h"
  have a7:H9 l=some (.lst ((vec es.length g').map V.int)):=b9.lst (e8.at j) aa;have al:r≠c:=λz=>X (by simp[z]);have bi:∀d∈zk es (λi=>(vec es.length g').getD i 0),zo n d:=by
   rw[<- (zkk es g').2];refine zd6 hd λi hi=>?_;obtain⟨e,he⟩:=zC hi;obtain⟨_,_,_,_,_,_,_,a0,a1⟩:=hd e (yb he)
   have:=ae i hi
   rw[zbT he]at this;lia
  have bd:(zk es (λi=>(vec es.length g').getD i 0)).length=es.length:=zU;have b5:(vec es.length g').length=es.length:=zG;walk_at "x";rename_i ws bb ys bc a6 bg ba r2 ao ak ab as b3 ag;rw[<- (zkk es g').2]at ag;obtain⟨L',Y⟩:∃L':Nat->Nat->Int,L'=λt=>if t=cs.length+1 then g' else L t:=⟨_,rfl⟩
  have I:L' (cs++[(ms,f)]).length=g':=by rw[Y,yc];exact if_pos rfl
  have W:∀t,t<cs.length+1->L' t=L t:=by intro t ht;rw[Y];exact if_neg ⋯
  have az:Cuts es n.toNat L' (cs++[(ms,f)]):=by rw[Y];exact hC.snoc CA
  have b:=a6.trans as;have ad:IsCuts es n.toNat L' [l,c] cs ao vs:=(((a5.congr λt ht=>(W t ⋯).symm).same e8).but b9 (by simp)).same b;have n1:r2≠l:=λz=>by
   have:=a6.at a7
   rw[<- z,ab]at this;cases this
  have n2:r2≠c:=λz=>by
   have:=a6.at h9
   rw[<- z,ab]at this;cases this
  rw[C]at u;refine⟨zcn es.length g',by rw[C];exact u,r2,ak,vs++[.ref tp],L',cs++[(ms,f)],_,_,rfl,by rw[I];exact b.at a7,b.at h9,b3,by simp[n1,n2],ad.snoc (b.at (b9.tup b0)) ?_ X,az,λi hi=>by rw[W 0 ⋯];exact J i hi,by rw[I];exact ag,by rw[I,yc];show cs.length+1+_<=_;lia,e9.trans b,by rw[I]⟩;rw[W cs.length ⋯,C];exact b.at (b9.lst (e8.at a2) al)
def zcj(T:Txt K mg):T.d_divisor.Ok P w base 1 zrC:=by
 refine T.d_divisor.F.okN zci "0d" λj A outer s H vs Q E i h=>?_;obtain⟨a,b,rfl,q⟩:=h;refine⟨_,(zh (zD 2 zci (zaP zja rfl T.z_abs BT.abs (za (pv 0) ze)))
 (zh (zD 3 zci (zaP zja rfl T.z_abs BT.abs "0k"))
 (zh (zdb PassesOwn.never (zF (qNe K i.units) (pv 3) zi (nomark _))
 (zh (zD 4 zci (zw zb2 (pv 2) (pv 3)))
 (zh (zD 2 zci (pv 3))
 (zj (zD 3 zci (pv 4))))))
 (zj (zy (pv 2)))))),?_⟩
 refine zE (σ0:=[some (.int a),some (.int b),none,none,none]) rfl ?_;walk_at "x";refine⟨λm σ H'=>∃k r f,σ=[some (.int a),some (.int b),some (.int k),some (.int r),f]/\H'=H/\0<=k/\0<=r/\My.gc k r=My.gc a b/\m=r.toNat,⟨_,_,_,_,rfl,rfl,zos a,zos b,My.gc_abs a b,rfl⟩,?_⟩;rintro m σ H' ⟨k,r,f,rfl,rfl,l,e,d,rfl⟩;walk_at "x"
 ·rename_i n;refine⟨λg c=>g=[some (.int a),some (.int b),some (.int r),some (.int (k%r)),some (.int (k%r))]/\c=H',?_,?_⟩
  ·rintro g c ⟨rfl,rfl⟩;have h1:=yao k (b:=r) ⋯;have h2:=yak k (b:=r) ⋯;exact⟨_,⋯,_,_,_,rfl,rfl,e,h1,by rw[My.gc_step];exact d,rfl⟩
  ·walk_at "x";exact⟨rfl,rfl⟩
 ·rename_i o;rw[o,My.gc_zero_right l]at d;rw[d];exact q
def zey(T:Txt K mg):T.d_plus.Ok P w base 2 zkU:=by
 refine T.d_plus.F.okN zgy "0d" λg A outer s H vs Q E e h=>?_;obtain⟨a,b,q,r,rfl,h1,h2,d,c,k⟩:=h;refine⟨_,(zh (zD 2 zgy (qD T.d_divisor (zcj T) e (za (qIx K (pv 0) zi) (za (qIx K (pv 1) zi) ze))))
 (zh (zD 3 zgy (zw (zat K) (zw zR (qIx K (pv 0) zi) (zw zaG (qIx K (pv 1) zi) (pv 2))) (zw zR (qIx K (pv 1) zi) (zw zaG (qIx K (pv 0) zi) (pv 2)))))
 (zh (zD 4 zgy (qD T.d_divisor (zcj T) e (za (pv 3) (za (pv 2) ze))))
 (zj (zy (zV (za (zw zaG (pv 3) (pv 4)) (za (zw zR (zw zaG (qIx K (pv 0) zi) (pv 2)) (zw zaG (qIx K (pv 1) zi) (pv 4))) ze)))))))),?_⟩
 refine zE (σ0:=[some (.ref a),some (.ref b),none,none,none]) rfl ?_;have f:0<My.gc "0l" (r.den:Int):=My.gc_pos_right (yax (zay r));have i:sz (My.gc "0l" (r.den:Int))<=9000:=yj (zb4 (yax (zay r)) c.2) "0a";have l:CMulS q.num ((r.den:Int)/My.gc "0l" (r.den:Int)):=CMulS.of d.1 (yj (zb1 _ _) c.2) "0a";have j:CMulS r.num ("0l"/My.gc "0l" (r.den:Int)):=CMulS.of c.1 (yj (zb1 _ _) d.2) "0a";have n:0<My.gc (q.num*((r.den:Int)/My.gc "0l" (r.den:Int))+r.num*("0l"/My.gc "0l" (r.den:Int))) (My.gc "0l" (r.den:Int)):=My.gc_pos_right (yax f);have o:sz (My.gc (q.num*((r.den:Int)/My.gc "0l" (r.den:Int))+r.num*("0l"/My.gc "0l" (r.den:Int))) (My.gc "0l" (r.den:Int)))<=9000:=zb4 (yax f) i;have m:CMulS ("0l"/My.gc "0l" (r.den:Int)) ((r.den:Int)/My.gc (q.num*((r.den:Int)/My.gc "0l" (r.den:Int))+r.num*("0l"/My.gc "0l" (r.den:Int))) (My.gc "0l" (r.den:Int))):=CMulS.of (yj (zb1 _ _) d.2) (yj (zb1 _ _) c.2) "0a";walk_at "x";exact NewQ.mk k (znI q r)
def zfa(T:Txt K mg):T.d_minus.Ok P w base 3 ziZ:=by
 refine T.d_minus.F.okN zpD "0d" λe A outer s H vs Q E d h=>?_;obtain⟨a,b,q,r,rfl,h1,h2,l,f,k⟩:=h;refine⟨_,(zj (zy (qD T.d_plus (zey T) d (za (pv 0) (za (zV (za (zeW zd3 (qIx K (pv 1) zi)) (za (qIx K (pv 1) zi) ze))) ze))))),?_⟩;refine zE (σ0:=[some (.ref a),some (.ref b)]) rfl ?_;have g:OkQ (-r):=SzQ.neg f;walk_at "x";refine zax (q:=-r) (zl6 r) ?_;walk_at "x";rename_i i H1 j c;rw[<- ybO]at c;exact k _ _ ∅ c
def zd9(T:Txt K mg):T.d_times.Ok P w base 2 ziC:=by
 refine T.d_times.F.okN zdY "0d" λf A outer s H vs Q E e h=>?_;obtain⟨a,b,q,r,rfl,h1,h2,d,c,k⟩:=h;refine⟨_,(zh (zD 2 zdY (qD T.d_divisor (zcj T) e (za (qIx K (pv 0) zi) (za (qIx K (pv 1) zi) ze))))
 (zh (zD 3 zdY (qD T.d_divisor (zcj T) e (za (qIx K (pv 1) zi) (za (qIx K (pv 0) zi) ze))))
 (zh (zD 4 zdY (zw zR (zw zaG (qIx K (pv 0) zi) (pv 2)) (zw zaG (qIx K (pv 1) zi) (pv 3))))
 (zh (zD 5 zdY (zw zR (zw zaG (qIx K (pv 0) zi) (pv 3)) (zw zaG (qIx K (pv 1) zi) (pv 2))))
 (zj (zy (zV (za (pv 4) (za (pv 5) ze))))))))),?_⟩
 refine zE (σ0:=[some (.ref a),some (.ref b),none,none,none,none]) rfl ?_;have i:0<My.gc q.num (r.den:Int):=My.gc_pos_right (yax (zay r));have n:sz (My.gc q.num (r.den:Int))<=9000:=yj (zb4 (yax (zay r)) c.2) "0a";have l:0<My.gc r.num "0l":=My.gc_pos_right (yax (zay q));have m:sz (My.gc r.num "0l")<=9000:=yj (zb4 (yax (zay q)) d.2) "0a";have j:CMulS (q.num/My.gc q.num (r.den:Int)) (r.num/My.gc r.num "0l"):=CMulS.of (yj (zb1 _ _) d.1) (yj (zb1 _ _) c.1) "0a";have g:CMulS ("0l"/My.gc r.num "0l") ((r.den:Int)/My.gc q.num (r.den:Int)):=CMulS.of (yj (zb1 _ _) d.2) (yj (zb1 _ _) c.2) "0a";walk_at "x";exact NewQ.mk k (zl0 q r)
def zmv(T:Txt K mg):T.d_over.Ok P w base 3 ziH:=by
 refine T.d_over.F.okN zsX "0d" λe A outer s H vs Q E c h=>?_;obtain⟨a,b,q,r,rfl,h1,h2,j,f,g,k⟩:=h;refine⟨_,(zh (zP (zF (qEq K c.units) (qIx K (pv 1) zi) zi (nomark _))
 (zj zg7)
 zJ)
 (zh (zP (zF zcV (qIx K (pv 1) zi) zi (nomark _))
 (zj (zy (qD T.d_times (zd9 T) c (za (pv 0) (za (zV (za (zeW zd3 (qIx K (pv 1) zi)) (za (zeW zd3 (qIx K (pv 1) zi)) ze))) ze)))))
 zJ)
 (zj (zy (qD T.d_times (zd9 T) c (za (pv 0) (za (zV (za (qIx K (pv 1) zi) (za (qIx K (pv 1) zi) ze))) ze))))))),?_⟩
 refine zE (σ0:=[some (.ref a),some (.ref b)]) rfl ?_;rw[ybt]at k;have i:OkQ r⁻¹:=(f.inv g).mono "0a" "0a";walk_at "x"
 all_goals first | (exfalso;contradiction) | skip
 ·rename_i d;refine zax (q:=r⁻¹) (zsd d) ?_;walk_at "x";exact k _ _ ∅ ∅
 ·rename_i d;refine zax (q:=r⁻¹) (inv_pos ⋯) ?_;walk_at "x";exact k _ _ ∅ ∅
def zg9(T:Txt K mg):T.d_under.Ok P w base 1 (zi3 60000):=by
 refine T.d_under.F.okN zq0 "0d" λf A outer s H vs Q E g h=>?_;obtain⟨a,b,q,r,rfl,h1,h2,d,c,k⟩:=h;refine⟨_,(zj (zy (zbl zcV (zw zR (qIx K (pv 0) zi) (qIx K (pv 1) zi)) (zw zR (qIx K (pv 1) zi) (qIx K (pv 0) zi)) (nomark _)))),?_⟩;refine zE (σ0:=[some (.ref a),some (.ref b)]) rfl ?_;have e:decide (q<r)=decide (q.num*(r.den:Int)<r.num*"0l"):=decide_eq_decide.mpr (Rat.lt_iff q r);rw[e]at k;walk_at "x";refine znA (CMulS.of d.1 c.2 "0a") ?_;walk_at "x";refine znA (CMulS.of c.1 d.2 "0a") ?_;walk_at "x";exact k
def zha(T:Txt K mg):T.d_least.Ok P w base 2 (zgm 60000):=by
 refine T.d_least.F.okN zqK "0d" λd A outer s H vs Q E c h=>?_;obtain⟨a,b,q,r,rfl,h1,h2,f,e,k⟩:=h;refine⟨_,(zh (zP (zaV K (qD T.d_under (zg9 T) c (za (pv 1) (za (pv 0) ze))))
 (zj (zy (pv 1)))
 zJ)
 (zj (zy (pv 0)))),?_⟩
 refine zE (σ0:=[some (.ref a),some (.ref b)]) rfl ?_;walk_at "x"
 ·rename_i h;rw[if_pos h]at k;exact k
 ·rename_i h;rw[if_neg h]at k;exact k
def ztb(T:Txt K mg):T.d_part.Ok P w base 2 zlI:=by
 refine T.d_part.F.okN ziE "0d" λf A outer s H vs Q E c h=>?_;obtain⟨t,b,rfl,a,g,k⟩:=h;refine⟨_,(zh (zP (zF (qEq K c.units) (pv 1) zi (nomark _))
 (zj zg7)
 zJ)
 (zh (zD 2 ziE (qD T.d_divisor (zcj T) c (za (pv 0) "0k")))
 (zgJ (zP (zF zcV (pv 1) zi (nomark _))
 (zj (zD 2 ziE (zeW zd3 (pv 2))))
 zJ)
 (zj (zy (zV (za (zw zaG (pv 0) (pv 2)) (za (zw zaG (pv 1) (pv 2)) ze)))))))),?_⟩
 refine zE (σ0:=[some (.int t),some (.int b),none]) rfl ?_;walk_at "x"
 ·have e:=a;have j:0<My.gc t b:=My.gc_pos_right e;have i:sz (My.gc t b)<=9000:=yj (zb4 e g) "0a";refine zon 2 (λv H'=>H'=H/\((b<0/\v=.int (-My.gc t b))\/(0<b/\v=.int (My.gc t b)))) ?_ ?_
  ·walk_at "x"
   ·rename_i h2;exact⟨_,rfl,rfl,.inl ⟨h2,rfl⟩⟩
   ·rename_i h2;exact⟨_,rfl,rfl,.inr ⟨⋯,rfl⟩⟩
  rintro v H' ⟨rfl,h2⟩;rcases h2 with⟨hn,rfl⟩ | ⟨hp,rfl⟩
  ·have d:sz (-My.gc t b)<=9000:=yj (zf1 _) i;walk_at "x";refine zk8 ⋯ d ?_;walk_at "x";refine zk8 ⋯ d ?_;walk_at "x";exact NewQ.mk k (My.part_neg hn)
  ·walk_at "x";exact NewQ.mk k (My.part_pos hp)
def zlD(T:Txt K mg):T.d_whole_row.Ok P w base 2 (zh3 K sZ sB):=by
 refine T.d_whole_row.F.okN sc_whole_row "0d" λa3 A outer s H vs Q E p h=>?_;obtain⟨a,ws,qs,rfl,ha,L,hl,R,h1,h2,h3,k⟩:=h;have m:=L.length;have t:∀i:Nat,i<=20->i*sB<=8000:=λi hi=>yj (Nat.mul_le_mul_right _ hi) h1;refine⟨_,(zh (zD 1 sc_whole_row zi)
 (zh (zaf PassesOwn.never rfl (z9 K (pv 0)) (show PG _ _ (zbs K 2 _)from zaS (n:=2) rfl (zH (zI (i:=2) sc_whole_row.nd rfl (Or.inl rfl)) (zH (zI (i:=3) sc_whole_row.nd rfl (Or.inl rfl)) zaD)))
 (zj (zD 1 sc_whole_row (zw zR (zw zaG (pv 1) (qD T.d_divisor (zcj T) p (za (pv 1) (za (pv 3) ze)))) (pv 3)))))
 (zj (zy (qC2 K ["top", "bottom", "common"] [none,none,some 1] (z9 K (pv 0)) (λ_ _ _ _ _=>(zw zR (pv 0) (zw zaG (pv 2) (pv 1))))))))),?_⟩
 refine zE (σ0:=[some (.ref a),none,none,none]) rfl ?_;walk_at "x";refine zbR (xs:=ws) (λi G H'=>∃(c:Int) (C v:Option V),G=[some (.ref a),some (.int c),C,v]/\0<c/\c<=((2 ^ (i*sB):Nat):Int)/\(∀j q,j<i->qs[j]?=some q->"0l"∣c)/\H'=H) ⟨1,_,_,rfl,by decide,by rw[Nat.zero_mul];decide,λj q g _=>by lia,rfl⟩ ?_ ?_ ?_
 ·rintro i G H' _ ⟨c,C,v,rfl,_,_,_,rfl⟩;exact SqL.of ha
 ·rintro i x G H' X ⟨c,C,v,rfl,U,c1,I,rfl⟩;obtain⟨b,q,rfl,f,Z⟩:=L.get X;have O:H' b=some (.tup [.int q.num,.int "0l"]):=Z;have hi:i<qs.length:=(yh.mp f).1;have d:=R q (yb f);have y:=zay q;have ls:=zp6 U y;have hg:0<My.gc c "0l":=My.gc_pos_right ⋯;have J:sz "0l"<=8999:=yj d.2 (by have:=t 1 ⋯;lia);have zg:sz (My.gc c "0l")<=9000:=yj (zb4 ⋯ J) "0a";have zc:sz c<=8001:=zaH (by
   have hp:2 ^ (i*sB)<=2 ^ 8000:=yaP "0a" (t i ⋯);have h2:(2:Nat) ^ 8001=2 ^ 8000*2:=ybz ..;have h0:0<(2:Nat) ^ 8000:=ybg _;rw[h2];generalize (2:Nat) ^ 8000=B at *
   lia)
  have m1:CMulS (c/My.gc c "0l") "0l":=CMulS.of (yj (zb1 _ _) zc) J "0a";walk_at "x";refine⟨_,_,_,rfl,ls.1,?_,?_,rfl⟩
  ·have hd:"0l"<=((2 ^ sB:Nat):Int):=by
    have:=sz_le.mp d.2
    lia
   have h5:c*"0l"<=((2 ^ (i*sB):Nat):Int)*((2 ^ sB:Nat):Int):=Int.mul_le_mul c1 hd ⋯ (by exact_mod_cast yW _);rw[Nat.succ_mul,ya3]
   push_cast at h5 ⊢
   exact yb0 ls.2.2.2 h5
  ·intro j r g p;rcases yX (yac g)with h | h
   ·exact Int.dvd_trans (I j r h p) ls.2.1
   ·subst h;rw[f]at p;cases p;exact ls.2.2.1
 ·rintro G H' ⟨c,C,v,rfl,U,c1,I,rfl⟩;rw[m]at c1 I;obtain⟨F,hF⟩:∃F:Nat->Int,F=λj=>(qs.getD j 0).num*(c/((qs.getD j 0).den:Int)):=⟨_,rfl⟩
  have zc:sz c<=8001:=zaH (by
   have hp:2 ^ (qs.length*sB)<=2 ^ 8000:=yaP "0a" (t _ hl);have h2:(2:Nat) ^ 8001=2 ^ 8000*2:=ybz ..;have h0:0<(2:Nat) ^ 8000:=ybg _;rw[h2];generalize (2:Nat) ^ 8000=B at *
   lia)
  walk_at "x";refine zaz (zW (K:=K) (a:=a) (xs:=ws)) (λH2 e=>SqL.of (e.at ha)) rfl (λi vs H2=>vs=(vec i F).map V.int) (λH2 _=>rfl) ?_ ?_
  ·rintro i x D vs o o' H1 H2 hi hD Y M l rfl S X;obtain⟨b,q,rfl,f,Z⟩:=(L.same (Y.trans S)).get X;have O:H2 b=some (.tup [.int q.num,.int "0l"]):=Z;have d:=R q (yb f);have y:=zay q;have J:sz "0l"<=9000:=yj d.2 (by have:=t 1 ⋯;lia);have m1:CMulS q.num (c/"0l"):=CMulS.of d.1 (yj (zb1 _ _) zc) ⋯;walk_at "x";rename_i H3 b3 a0;refine⟨⟨_,_,rfl⟩,∅,_,a0,by rw[yc];exact yl l,?_⟩
   show(vec i F).map V.int++_=(vec (i+1) F).map V.int
   rw[zaK,yi,hF]
   have:qs.getD i 0=q:=by rw[yf,f];rfl
   dsimp only;rw[this];rfl
  ·rintro D H2 vs hD e M l rfl;refine k D H2 F c hD e U (λj q g=>?_) (by rw[m]at M;exact M);have W:j<qs.length:=(yh.mp g).1;have d:=R q (yb g)
   have:qs.getD j 0=q:=by rw[yf,g];rfl
   have y:=zay q;rw[hF];dsimp only;rw[this];obtain⟨u,hu⟩:=I j q W g;have ed:c/"0l"=u:=by rw[hu];exact yaa _ ⋯
   have u0:0<u:=by
    rcases ybl 0 u with h | h
    ·exact h
    ·have:=yal (yaT y) h;lia
   have uc:u<=c:=by
    have h1:1*u<="0l"*u:=yT ⋯ ⋯;lia
   rw[ed];refine⟨?_,?_⟩
   ·rw[hu,yF,yF];have Y:((q.num:Int):Rat)/(((q.den:Nat):Int):Rat)=q:=by rw[<- ya7];exact ybk q
    have N:(((q.den:Nat):Int):Rat)≠0:=λz=>by
     have:((q.den:Nat):Int)=0:=by exact_mod_cast z
     lia
    have S:((q.num:Int):Rat)=q*(((q.den:Nat):Int):Rat):=by
     have:=ybM (a:=((q.num:Int):Rat)) N
     rw[Y]at this;exact this.symm
    rw[S];grind
   ·refine zaH ?_;rw[ybF,ya3];have a1:=sz_le.mp d.1;have a2:u.natAbs<=2 ^ (qs.length*sB):=by lia
    exact yae (yav _ a2) (Nat.mul_lt_mul_of_pos_right a1 (ybg _))
def zj4(T:Txt K mg):T.d_with_first.Ok P w base 1 (zgk K):=by
 refine T.d_with_first.F.okN sc_with_first (by walk_at "l") λO A outer s H vs Q E L h=>?_;obtain⟨a,as,w,M,k,rfl,ha,v,k0,k1,k2,hl,⟨iN,x,N,o⟩,U⟩:=h;have f:(as.map V.ref).length=as.length:=ya ..;obtain⟨b1,d⟩:=zC (show k.toNat<as.length by lia);have I:atI (as.map V.ref) k=some (.ref b1):=zaZ k0 (by rw[ye,d];rfl);refine⟨_,(zh (zaf PassesOwn.never rfl (zoq rfl T.z_range (za (pv 1) (za (zaU K T.z_len (za (pv 0) ze)) ze))) (zI (i:=2) sc_with_first.nd rfl (Or.inl rfl))
 (zj (zP (zF (qNe K L.units) (qIx K (qIx K (pv 0) (pv 2)) (pv 1)) zi (nomark _))
 (zh (zD 3 sc_with_first (zco K T.z_list (za (pv 0) ze)))
 (zh (zcO (qIx K (pv 0) (pv 2)) (zc0 (pv 3) (pv 1) zaY))
 (zh (zcO (qIx K (pv 0) (pv 1)) (zc0 (pv 3) (pv 2) zaY))
 (zj (zy (pv 3))))))
 zJ)))
 (zj zg7)),?_⟩
 refine zE (σ0:=[some (.ref a),some (.int k),none,none]) rfl ?_;walk_at "x";refine zcd (λi n H'=>∃u t:Option V,n=[some (.ref a),some (.int k),u,t]/\(∀j,k.toNat<=j->j<k.toNat+i->M j k.toNat=0)/\H'=H) ⟨_,_,rfl,λj h1 h2=>by lia,rfl⟩ ?_ ?_
 ·rintro i n H' hi ⟨u,t,rfl,m,rfl⟩;rw[f]at hi;have G:(k+(i:Int)).toNat=k.toNat+i:=by lia
  obtain⟨b2,b⟩:=zC (show k.toNat+i<as.length by lia);have B:atI (as.map V.ref) (k+(i:Int))=some (.ref b2):=zaZ ⋯ (by rw[G,ye,b];rfl);have W:=v.2 _ _ b;have X:atI ((vec w (M (k.toNat+i))).map V.int) k=some (.int (M (k.toNat+i) k.toNat)):=zaZ k0 (by rw[ye,zK ⋯];rfl);walk_at "x"
  ·rename_i q p H1 fp J hp;have Y:p∉as:=v.fresh fp;have y:a≠p:=λz=>by rw[z,fp]at ha;cases ha
   refine zdo (j:=k.toNat) hp (zdA k0 ⋯) ?_;intro H2 g r;have a0:H2 a=some (.lst (as.map V.ref)):=g.lst (J.at ha) y;walk_at "x";refine zdo (j:=k.toNat+i) r (by rw[<- G];exact zdA ⋯ (by rw[yaw];lia)) ?_;intro C Z R;walk_at "x";have l:Same H' C:=Z.same (g.same J fp) fp;refine U p C (ze0 as k.toNat (k.toNat+i) b1 b2) (k.toNat+i) ⋯ ⋯ q fp l ?_ ?_ ?_ ?_
   ·rw[R];unfold ze0;rw[ybW,ybW]
   ·unfold ze0;rw[yaw,yaw]
   ·intro c D;unfold ze0 at D;rcases ybi D with h | h
    ·rcases ybi h with h | h
     ·exact h
     ·rw[h];exact yb b
    ·rw[h];exact yb d
   ·exact znK (v.same l) d b
  ·rename_i S;refine⟨_,_,rfl,λj h1 h2=>?_,rfl⟩;by_cases e:j=k.toNat+i
   ·rw[e];exact S
   ·exact m j h1 ⋯
 ·rintro n H' ⟨u,t,rfl,m,rfl⟩;rw[f]at m;exact absurd (m iN x ⋯) o
def zkP(T:Txt K mg):T.d_swept_row.Ok P w base 1 (zeP K):=by
 refine T.d_swept_row.F.okN zd7 "0d" λG A outer s H vs Q E L h=>?_;obtain⟨a,b,w,f,g,k,d,rfl,ha,I,k0,k1,R,d0,hd,t,q⟩:=h;have C:atI ((vec w f).map V.int) k=some (.int (f k.toNat)):=zaZ k0 (by rw[ye,zK ⋯];rfl);have J:atI ((vec w g).map V.int) k=some (.int (g k.toNat)):=zaZ k0 (by rw[ye,zK ⋯];rfl);refine⟨_,(zh (zD 4 zd7 (qIx K (pv 1) (pv 2)))
 (zh (zD 5 zd7 (qIx K (pv 0) (pv 2)))
 (zj (zy (qC2 K ["mine", "other", "keep", "take", "before"] [none,none,some 4,some 5,some 3] (show PI _ _ _ (zpB K _)from znR rfl T.z_zip (za (pv 0) "0k")) (λ_ _ _ _ _=>(zw zaG (zw zce (zw zR (pv 2) (pv 0)) (zw zR (pv 3) (pv 1))) (pv 4)))))))),?_⟩
 refine zE (σ0:=[some (.ref a),some (.ref b),some (.int k),some (.int d),none,none]) rfl ?_;walk_at "x";have z:min ((vec w f).map V.int).length ((vec w g).map V.int).length=w:=by rw[ya,ya,zG,zG,Nat.min_self]
 refine zaz (zmx (K:=K) (a:=a) (b:=b) (xs:=(vec w f).map V.int) (ys:=(vec w g).map V.int)) (λH2 e=>⟨SqL.of (e.at ha),SqL.of (e.at I)⟩) rfl (λi vs H2=>vs=(vec i λj=>(g k.toNat*f j-f k.toNat*g j).fdiv d).map V.int) (λH2 _=>rfl) ?_ ?_
 ·rintro i x D vs o o' H1 H2 hi y X n l rfl S ⟨p,v,N,rfl,c,m,hp⟩;rw[z]at hi;rw[ye,zK hi]at c m;cases c;cases m;have B:=t i hi;have u:=t k.toNat ⋯;have U:CMulS (g k.toNat) (f i):=CMulS.of u.2 B.1 "0a";have O:CMulS (f k.toNat) (g i):=CMulS.of u.1 B.2 "0a";walk_at "x";refine zk8 d0 hd ?_;walk_at "x";rename_i M W r;refine⟨⟨_,_,rfl⟩,∅,_,r,by rw[yc];exact yl l,?_⟩;show _=(vec (i+1) _).map V.int;rw[zaK,yi];rfl
 ·rintro D H2 vs y e n l rfl;rw[z]at n;exact q D H2 y e n
def zqo(T:Txt K mg):T.d_swept.Ok P w base 2 (zmD K):=by
 refine T.d_swept.F.okN sc_swept "0d" λaa A outer s H vs Q E hr h=>?_;obtain⟨a,as,w,M,k,d,rfl,ha,Z,k0,k1,k2,hw,hl,d0,hd,hz,q⟩:=h;have G:(as.map V.ref).length=as.length:=ya ..;obtain⟨b,W⟩:=zC (show k.toNat<as.length by lia);have ab:atI (as.map V.ref) k=some (.ref b):=zaZ k0 (by rw[ye,W];rfl);have a3:=Z.2 _ _ W;refine⟨_,(zh (zD 3 sc_swept (qIx K (pv 0) (pv 1)))
 (zh (zD 4 sc_swept (zaa ze))
 (zh (zaf PassesOwn.never rfl (zaW K T.z_enumerate (za (pv 0) ze)) (show PG _ _ (zbs K 2 _)from zaS (n:=2) rfl (zH (zI (i:=5) sc_swept.nd rfl (Or.inl rfl)) (zH (zI (i:=6) sc_swept.nd rfl (Or.inl rfl)) zaD)))
 (zj (zP (zF (qEq K hr.units) (pv 5) (pv 1) (nomark _))
 (zj (za4 (qAp K (pv 4) (za (pv 6) ze))))
 (zj (za4 (qAp K (pv 4) (za (qD T.d_swept_row (zkP T) hr (za (pv 6) (za (pv 3) (za (pv 1) (za (pv 2) ze))))) ze)))))))
 (zj (zy (pv 4)))))),?_⟩
 refine zE (σ0:=[some (.ref a),some (.int k),some (.int d),none,none,none,none]) rfl ?_;walk_at "x";rename_i D H1 R e1 hD;refine zc1 (zab (K:=K) (a:=a) (xs:=as.map V.ref)) (λi O H'=>∃(Y N:Option V) (bs:List Addr),O=[some (.ref a),some (.int k),some (.int d),some (.ref b),some (.ref D),Y,N]/\H' D=some (.lst (bs.map V.ref))/\bs.length=i/\Same H H'/\Rows H' bs w (Dt.nxtI M k.toNat d)/\(k.toNat<i->bs[k.toNat]?=some b)/\∀j c,bs[j]?=some c->c∈as->c=b/\j=k.toNat) ⟨_,_,[],rfl,hD,rfl,e1,⟨yaE,λ_ _ h=>nomatch h⟩,λh=>by lia,λ_ _ h=>nomatch h⟩ ?_ ?_ ?_
 ·rintro i O H' ⟨Y,N,bs,rfl,r,g,e,_⟩;exact SqL.of (e.at ha)
 ·rintro i x O H2 H3 hi ⟨Y,N,bs,rfl,r,g,e,B,L,l⟩ C ⟨p,v,rfl,hv,hp⟩;rw[G]at hi;obtain⟨c,X⟩:=zC hi;have ev:v=.ref c:=by rw[ye,X]at hv;exact(yn hv).symm
  subst ev;have a2:=C.at r;have o:=e.trans C;have ac:=o.at (Z.2 _ _ X);have J:=o.at a3;have nD:D∉bs:=B.ne ⋯ r;have a4:D∉as:=Z.fresh R;have a9:(bs.map V.ref).length<=20:=by rw[ya];lia
  have ad:∀j,j<w->sz (M i j)<=9000/\sz (M k.toNat j)<=9000:=λj f=>⟨hz i j hi f,hz _ j ⋯ f⟩
  walk_at "x"
  ·rename_i I H4 b4 h4;have ek:i=k.toNat:=by lia
   have a0:c=b:=by rw[ek,W]at X;exact(yn X).symm
   subst a0;have cm:c∈as:=yb W;have a5:c∉bs:=λz=>by
    obtain⟨j,f,ej⟩:=yB z
    have:=(l j c (by rw[yk f,ej]) cm).2
    lia
   have a8:c≠D:=λz=>a4 (z▸cm);refine⟨_,_,bs++[c],rfl,by rw[h4,yi];rfl,by rw[yc,g];rfl,b4.same o R,?_,?_,?_⟩
   ·refine Rows.app ((B.same C).but b4 nD) a5 ?_;rw[b4.lst J a8,g];refine congrArg (λz=>some (HO.lst (z.map V.int))) (zbt λj _=>?_);unfold Dt.nxtI;rw[if_pos ek]
   ·intro _;rw[yZ ⋯,show k.toNat-bs.length=0 by lia];rfl
   ·intro j U f u;rcases Nat.lt_or_ge j bs.length with h | h
    ·rw[yH h]at f;exact l j U f u
    ·rw[yZ h]at f;have y:j-bs.length=0:=by
      rcases ya0 (j-bs.length)with z | z
      ·exact z
      ·rw[yG (by simp only[yah];lia)]at f;cases f
     rw[y]at f;exact⟨(yn f).symm,⋯⟩
  ·rename_i I S H4 t e4 a7 H5 b5 h5;have nk:i≠k.toNat:=λz=>I ⋯;have a6:S∉bs:=(B.same C).fresh t;have a1:S≠D:=λz=>by rw[z,a2]at t;cases t
   refine⟨_,_,bs++[S],rfl,by rw[h5,yi];rfl,by rw[yc,g];rfl,b5.same (o.trans e4) R,?_,?_,?_⟩
   ·refine Rows.app (((B.same C).same e4).but b5 nD) a6 ?_;rw[b5.lst a7 a1,g];refine congrArg (λz=>some (HO.lst (z.map V.int))) (zbt λj _=>?_);unfold Dt.nxtI;rw[if_neg nk]
   ·intro h;rw[yH ⋯];exact L ⋯
   ·intro j U f u;rcases Nat.lt_or_ge j bs.length with h | h
    ·rw[yH h]at f;exact l j U f u
    ·rw[yZ h]at f;have y:j-bs.length=0:=by
      rcases ya0 (j-bs.length)with z | z
      ·exact z
      ·rw[yG (by simp only[yah];lia)]at f;cases f
     rw[y]at f;have ec:U=S:=(yn f).symm;obtain⟨m,_,_,hm⟩:=(Z.same o).mem u;rw[ec,t]at hm;cases hm
 ·rintro O H2 ⟨Y,N,bs,rfl,r,g,e,B,L,l⟩;walk_at "x";rw[G]at g;exact q D H2 bs R e r g B
def zjx(T:Txt K mg):T.d_solved.Ok P w base 3 (zjk K sZ sB):=by
 refine T.d_solved.F.okN sc_solved "0d" λbz A outer s H vs Q E hr h=>?_;obtain⟨a,b,n,R,rfl,⟨⟨as,ha,b1,ay⟩,⟨ws,hb,S⟩⟩,n1,hz,h1,h2,h3,h4,ag,q1⟩:=h;have bj:(as.map V.ref).length=n:=by rw[ya];exact b1
 have bv:ws.length=n:=by rw[S.length,ya,yx]
 refine⟨_,(zh (zD 2 sc_solved (zaU K T.z_len (za (pv 0) ze)))
 (zh (qS1 3 sc_solved ["place", "rows", "right"] [none,some 0,some 1] (zZ rfl T.z_range (za (pv 2) ze)) (λ_ _ _ _ _=>(qD T.d_whole_row (zlD T) hr (za (zw (zat K) (zco K T.z_list (za (qIx K (pv 1) (pv 0)) ze)) (zaa (za (qIx K (pv 2) (pv 0)) ze))) ze))))
 (zh (zD 4 sc_solved zi)
 (zh (zaf PassesOwn.never rfl (zZ rfl T.z_range (za (pv 2) ze)) (zI (i:=5) sc_solved.nd rfl (Or.inl rfl))
 (zh (zD 3 sc_solved (qD T.d_with_first (zj4 T) hr (za (pv 3) (za (pv 5) ze))))
 (zh (zD 3 sc_solved (qD T.d_swept (zqo T) hr (za (pv 3) (za (pv 5) (za (pv 4) ze)))))
 (zj (zD 4 sc_solved (qIx K (qIx K (pv 3) (pv 5)) (pv 5)))))))
 (zj (zy (qC1 ["row", "count", "before"] [none,some 2,some 4] (z9 K (pv 3)) (λ_ _ _ _ _=>(qD T.d_part (ztb T) hr (za (qIx K (pv 0) (pv 1)) (za (pv 2) ze))))))))))),?_⟩
 refine zE (σ0:=[some (.ref a),some (.ref b),none,none,none,none]) rfl ?_;walk_at "x";refine zN (zbw (lo:=0) (n:=((as.map V.ref).length:Int).toNat)) (λ_ _=>trivial) rfl (λi vs H'=>∃(bs:List Addr) (F:Nat->Nat->Int) (L:Nat->Int),vs=bs.map V.ref/\bs.length=i/\Rows H' bs (n+1) F/\∀l,l<i->0<L l/\∀j,j<=n->((F l j:Int):Rat)=((L l:Int):Rat)*R l j/\sz (F l j)<=sZ+(n+1)*sB) (λH' _=>⟨[],λ_ _=>0,λ_=>0,rfl,rfl,⟨yaE,λ_ _ h=>nomatch h⟩,λl h=>by lia⟩) ?_ ?_
 ·rintro i x D vs o H1 H2 hi hD e1 hv a0 ⟨bs,F,L,rfl,W,hR,hF⟩ e2 rfl;rw[bj]at hi;have aq:i<n:=by lia
  obtain⟨c,hc⟩:=zC (show i<as.length by lia);obtain⟨us,bf,av⟩:=ay i c hc;obtain⟨v,aj⟩:=zC (show i<ws.length by lia);obtain⟨g,q,rfl,hq,hg⟩:=S.get aj;have ei:((0:Int)+(i:Int)).toNat=i:=by lia
  have br:atI (as.map V.ref) ((0:Int)+(i:Int))=some (.ref c):=zaZ ⋯ (by rw[ei,ye,hc];rfl);have bp:atI ws ((0:Int)+(i:Int))=some (.ref g):=zaZ ⋯ (by rw[ei];exact aj);have a1:=e1.trans e2;have c4:=a1.at ha;have bu:=a1.at hb;have a6:=a1.at bf;walk_at "x";rename_i l1 H3 f1 X b4 l2 H4 f2 e4 b5;have bi:us.length=n:=by rw[av.length,ya,yx]
  have eq:q=R i n:=by
   rw[ye,yU aq]at hq;exact(yn hq).symm
  refine zd0 (e4.at b4) b5 (by rw[bi];simp only[yah];lia) ?_;intro p H5 fp e5 bn;have ae:Same H H5:=((a1.trans X).trans e4).trans e5;have bc:IsQs H5 (us++[.ref g]) ((List.range (n+1)).map (R i)):=by
   rw[yA,yi,yM,<- eq];exact IsQs.app (ae.isQ hg) (av.same ae)
  have am:((List.range (n+1)).map (R i)).length=n+1:=by rw[ya,yx]
  walk_at "x";refine zlA bn bc (by rw[am];lia) (λr hr=>?_) h2 h3 h1 ?_
  ·obtain⟨j,O,rfl⟩:=y8.mp hr;exact hz i j aq (by have:=yP.mp O;lia)
  intro p' H6 f L' aa e6 L0 hf ai;rw[am]at ai hf;have c5:H6 D=some (.lst (bs.map V.ref)):=(((e2.trans X).trans e4).trans (e5.trans e6)).at hv;have bq:(bs.map V.ref).length<=20:=by lia
  walk_at "x";rename_i H7 b7 h7;have au:Same H1 H6:=((e2.trans X).trans e4).trans (e5.trans e6);have az:Same H1 H5:=((e2.trans X).trans e4).trans e5;have b8:p'∉bs:=(hR.same az).fresh aa;have bd:D∉bs:=hR.ne ⋯ hv;have bg:p'≠D:=λz=>by rw[z,az.at hv]at aa;cases aa
  refine⟨⟨_,rfl⟩,b7.same (e1.trans au) hD,_,h7,by rw[yc];exact yl a0,bs++[p'],(λl=>if l=bs.length then f else F l),(λl=>if l=i then L' else L l),by rw[yi];rfl,by rw[yc,W];rfl,Rows.snoc ((hR.same au).but b7 bd) b8 (b7.lst ai bg),λl hl=>?_⟩;rw[W];dsimp only;by_cases e:l=i
  ·subst e;rw[if_pos rfl,if_pos rfl];refine⟨L0,λj O=>hf j _ ?_⟩;rw[ye,yU ⋯];rfl
  ·rw[if_neg e,if_neg e];exact hF l ⋯
 ·rintro t H1 vs ft e1 ht a0 ⟨bs,F,L,rfl,W,hR,hF⟩;have a3:((as.map V.ref).length:Int).toNat=n:=by lia
  rw[a3]at W hF;obtain⟨z,ez⟩:∃z,z=sZ+(n+1)*sB:=⟨_,rfl⟩
  rw[<- ez]at hF h4;have ao:∀l,l<n->((L l:Int):Rat)≠0:=λl hl w=>by
   have:L l=0:=by exact_mod_cast w
   have:=(hF l hl).1
   lia
  have a4:Dt.det n (Dt.cl R)=0↔Dt.det n (Dt.cl (Dt.castM F))=0:=by
   rw[Dt.det_scale ao]
   have:Dt.det n (Dt.cl (λl j=>((L l:Int):Rat)*R l j))=Dt.det n (Dt.cl (Dt.castM F)):=Dt.det_congr λj r O hr=>(((hF r hr).2 j ⋯).1).symm
   rw[this]
  have a8:∀x:Nat->Rat,(∀l,l<n->Dt.sm n (λm=>Dt.castM F l m*x m)=Dt.castM F l n)->∀l,l<n->Dt.sm n (λm=>R l m*x m)=R l n:=λx hx=>by
   rw[Dt.meets_scale ao];intro l hl;have h0:=hx l hl;have e1:Dt.castM F l n=((L l:Int):Rat)*R l n:=((hF l hl).2 n ⋯).1;rw[e1]at h0;rw[<- h0];refine Dt.sm_congr λm hm=>?_;rw[show Dt.castM F l m=((L l:Int):Rat)*R l m from((hF l hl).2 m ⋯).1]
  walk_at "x";refine zcd (λk σ' H'=>∃(f5:Option V) (t':Addr) (G:List Addr) (B M:Nat->Nat->Int) (d:Int),σ'=[some (.ref a),some (.ref b),some (.int ((as.map V.ref).length:Int)),some (.ref t'),some (.int d),f5]/\Same H H'/\H t'=none/\H' t'=some (.lst (G.map V.ref))/\G.length=n/\Rows H' G (n+1) M/\Dt.Bar n k (Dt.castM B) (Dt.castM M) ((d:Int):Rat)/\Dt.Eqv n (Dt.castM F) (Dt.castM B)/\∀l j,l<n->j<=n->sz (B l j)<=z) ⟨_,t,bs,F,F,1,rfl,e1,ft,ht,W,hR,Dt.bar_start,Dt.Eqv.refl _ _,λl j hl O=>((hF l hl).2 j O).2⟩ ?_ ?_
  ·rintro k σ' H2 hk ⟨f5,t',G,B,M,d,rfl,e2,b9,a7,J,ad,C,Z,U⟩;rw[a3]at hk;have ek:((0:Int)+(k:Int)).toNat=k:=by lia
   have big:∀(B' M':Nat->Nat->Int) (d':Int) (k':Nat),Dt.Bar n k' (Dt.castM B') (Dt.castM M') ((d':Int):Rat)->k'<=n->(∀l j,l<n->j<=n->sz (B' l j)<=z)->∀i j,i<n->j<=n->sz (M' i j)<=9000:=λB' M' d' k' hb b3 hs i j hi O=>by
    have:=zm9 (x:=M' i j) (hb.sz b3 ⋯ (λl m hl hm=>zm5 (hs l m hl hm)) hi O)
    lia
   walk_at "x";have ar:∃i,((0:Int)+(k:Int)).toNat<=i/\i<G.length/\M i ((0:Int)+(k:Int)).toNat≠0:=by
    rw[ek,J];refine yz λz=>ag (a4.mpr (Z.dt.mpr (C.stuck hk λi h1 h2=>?_)))
    show((M i k:Int):Rat)=0
    have:M i k=0:=yz λy=>z ⟨i,h1,h2,y⟩
    rw[this];rfl
   refine zi0 a7 ad ⋯ ⋯ ⋯ ⋯ ar ?_;intro p1 H3 bx I ap a2 af c0 X b2 ah c3 al;rw[ek]at ap af al;rw[J]at a2 ah;have Y:Dt.Bar n k (Dt.castM (Dt.swp B k I)) (Dt.castM (Dt.swp M k I)) ((d:Int):Rat):=by
    have:=C.swap (p:=k) (q:=I) (yg _) ap hk a2
    have c1:∀N:Nat->Nat->Int,Dt.castM (Dt.swp N k I)=Dt.swp (Dt.castM N) k I:=λN=>by
     funext u v;unfold Dt.castM Dt.swp;split
     ·rfl
     ·split<;>rfl
    rw[c1,c1];exact this
   have ak:Dt.Eqv n (Dt.castM F) (Dt.castM (Dt.swp B k I)):=by
    have c1:Dt.castM (Dt.swp B k I)=Dt.swp (Dt.castM B) k I:=by
     funext u v;unfold Dt.castM Dt.swp;split
     ·rfl
     ·split<;>rfl
    rw[c1];exact Z.trans (Dt.Eqv.swap hk a2 _)
   have a5:∀l j,l<n->j<=n->sz (Dt.swp B k I l j)<=z:=λl j hl O=>by
    obtain⟨l',bh,e⟩:=Dt.swp_at hk a2 B l hl;rw[e];exact U l' j bh O
   have bb:=big _ _ _ k Y ⋯ a5;have hp:Dt.swp M k I k k≠0:=by
    unfold Dt.swp;rw[if_pos rfl];exact af
   have a9:d≠0:=λw=>C.d0 (by rw[w];rfl);have aw:sz d<=9000:=by
    rcases ya0 k with h0 | h0
    ·have h1:((d:Int):Rat)=1:=by rw[C.dd,h0];rfl
     have:d=1:=by exact_mod_cast h1
     rw[this];exact szL "0a" "0a" "0a"
    ·have h1:=C.id1 0 0 h0 h0;rw[if_pos rfl]at h1
     have:M 0 0=d:=by exact_mod_cast (show((M 0 0:Int):Rat)=((d:Int):Rat)from h1)
     rw[<- this];exact big _ _ _ k C ⋯ U 0 0 ⋯ ⋯
   have st:=Y.stepI hk hp;walk_at "x";refine zn3 b2 al ⋯ ⋯ ⋯ ⋯ ⋯ a9 aw (λi j hi O=>bb i j ⋯ ⋯) ?_;intro p2 H4 ab ba e4 bl bo ac;rw[ek]at ac;obtain⟨c2,a6⟩:=zC (show k<ab.length by lia);have bw:atI (ab.map V.ref) ((0:Int)+(k:Int))=some (.ref c2):=zaZ ⋯ (by rw[ek,ye,a6];rfl);have c6:=ac.2 _ _ a6;have be:Same H H4:=(e2.trans X).trans e4;walk_at "x";refine⟨_,p2,ab,Dt.swp B k I,Dt.nxtI (Dt.swp M k I) k d,_,rfl,be,Same.none ba (e2.trans X),bl,⋯,ac,?_,ak,a5⟩
   have:Dt.nxtI (Dt.swp M k I) k d k ((0:Int)+(k:Int)).toNat=Dt.swp M k I k k:=by
    rw[ek];unfold Dt.nxtI;rw[if_pos rfl]
   rw[this];exact st.1
  ·rintro σ' H2 ⟨f5,t',G,B,M,d,rfl,e2,b9,a7,J,ad,C,Z,U⟩;rw[a3]at C;have a9:d≠0:=λw=>C.d0 (by rw[w];rfl);have aw:sz d<=8999:=by
    rcases ya0 n with n0 | n0
    ·have h1:((d:Int):Rat)=1:=by rw[C.dd,n0];rfl
     have:d=1:=by exact_mod_cast h1
     rw[this];exact szL "0a" "0a" "0a"
    have h1:=C.id1 0 0 n0 n0;rw[if_pos rfl]at h1
    have:M 0 0=d:=by exact_mod_cast (show((M 0 0:Int):Rat)=((d:Int):Rat)from h1)
    rw[<- this]
    have:=zm9 (x:=M 0 0) (C.sz (yg _) ⋯ (λl m hl hm=>zm5 (U l m hl hm)) n0 (yW _))
    lia
   have bt:Dt.det n (Dt.cl R)≠0:=λw=>C.d0 (by rw[C.dd];exact Z.dt.mp (a4.mp w));have ax:=Z.an (λm=>Dt.castM M m n/((d:Int):Rat));have b0:=a8 _ (ax.mpr λl hl=>C.meets hl);walk_at "x";refine zN (zW (K:=K) (a:=t') (xs:=G.map V.ref)) (λH' e=>SqL.of (e.at a7)) rfl (λi vs H'=>IsQs H' vs ((List.range i).map λm=>Dt.castM M m n/((d:Int):Rat))) (λH' _=>trivial) ?_ ?_
   ·rintro i x D vs o H3 H4 hi hD X hv a0 hI e4 hx;rw[ya]at hi;obtain⟨c,hc⟩:=zC hi;have ev:x=.ref c:=by rw[ye,hc]at hx;exact(yn hx).symm
    subst ev;have hr:=(X.trans e4).at (ad.2 _ _ hc);walk_at "x";rename_i p H5 e5 hq H6 b6 h6;rw[a3]at hq;refine⟨⟨_,rfl⟩,∅,_,h6,by rw[yc];exact yl a0,?_⟩;show IsQs H6 _ ((List.range (i+1)).map _);rw[yA,yi,yM];refine IsQs.app ?_ (LBut.isQs b6 (hI.same (e4.trans e5)))
    have:Dt.castM M i n/((d:Int):Rat)=Rat.divInt (M i n) d:=by rw[ya7];rfl
    rw[this];exact LBut.isQ b6 hq
   ·rintro D H3 vs hD X hv a0 hI;rw[ya,J]at hI;refine q1 D H3 vs _ (Same.none hD e2) (e2.trans X) hv hI b0 λm hm=>?_;have n0:0<n:=by lia
    show SzQ (((M m n:Int):Rat)/((d:Int):Rat)) _ _;rw[<- ya7,<- ez];have sM:∀i j,i<n->j<=n->sz (M i j)<=n*(z+4)+1:=λi j hi O=>zm9 (x:=M i j) (C.sz (yg _) ⋯ (λl m hl hm=>zm5 (U l m hl hm)) hi O);have h1:=C.id1 0 0 n0 n0;rw[if_pos rfl]at h1;have bm:M 0 0=d:=by exact_mod_cast (show((M 0 0:Int):Rat)=((d:Int):Rat)from h1)
    exact zkj a9 (sM m n hm (yg _)) (bm▸sM 0 0 n0 (yW _))
def zfX(T:Txt K mg):T.d_ranked.Ok P w base 1 (zhk K):=by
 refine T.d_ranked.F.okN sc_ranked "0d" λa3 A outer s H vs Q E hr h=>?_;obtain⟨n,a,ds,rfl,⟨xs,hS,hT⟩,n0,n1,hd,k⟩:=h;refine⟨_,(zh (qS1 2 sc_ranked ["member"] [none] (zZ rfl T.z_range (za (pv 0) ze)) (λ_ _ _ _ _=>(zaa (za zi (za zi (za zi ze))))))
 (zh (zaf PassesOwn.never rfl (z9 K (pv 1)) (show PG _ _ (zbs K 4 _)from zaS (n:=4) rfl (zH (zI (i:=3) sc_ranked.nd rfl (Or.inl rfl)) (zH (zI (i:=4) sc_ranked.nd rfl (Or.inl rfl)) (zH (zI (i:=5) sc_ranked.nd rfl (Or.inl rfl)) (zH (zI (i:=6) sc_ranked.nd rfl (Or.inl rfl)) zaD)))))
 (zj (zdP (qIx K (pv 2) (pv 3)) (pv 5) (show zf3 _ (zdG K)from zcF) (pv 6) zeD zaY)))
 (zj (zy (pv 2))))),?_⟩
 refine zE (σ0:=[some (.int n),some (.ref a),none,none,none,none,none]) rfl ?_;walk_at "x";refine zN zbw (λ_ _=>trivial) rfl (λi vs H'=>∃as,vs=as.map V.ref/\as.length=i/\Rows H' as 3 (λ_ _=>0)/\∀b∈as,H b=none) (λH' _=>⟨[],rfl,rfl,⟨yaE,λi a h=>nomatch h⟩,λ_ h=>nomatch h⟩) ?_ ?_
 ·rintro i x D vs o H2 S hi hD L Z u ⟨as,rfl,v,t,G⟩ g rfl;walk_at "x";rename_i p H4 fp e4 hp H5 b5 h5;have R:D∉as:=t.ne "0a" Z;have U:p≠D:=zdN fp (g.at Z);have N:H5 p=some (.lst ((vec 3 λ_=>0).map V.int)):=b5.lst hp U;refine⟨⟨_,rfl⟩,∅,_,h5,by rw[yc];exact yl u,as++[p],by rw[yi];rfl,by rw[yc,v];rfl,Rows.app ((t.same (g.trans e4)).but b5 R) ((t.same g).fresh fp) N,λb W=>?_⟩;rcases yL.mp W with h | h
  ·exact G b h
  ·rw[yu.mp h];exact Same.none fp (L.trans g)
 ·rintro l H2 vs fl L hl u ⟨as,rfl,v,t,G⟩;walk_at "x";have hla:l∉as:=t.ne "0a" hl;refine zbR (xs:=xs) (λi C H'=>∃J O Y M,C=[some (.int n),some (.ref a),some (.ref l),J,O,Y,M]/\H' l=some (.lst (as.map V.ref))/\Rows H' as 3 (zA (ds.take i))/\Same H H') ?_ ?_ ?_ ?_
  ·exact⟨_,_,_,_,rfl,hl,t,L⟩
  ·rintro i C H' _ ⟨_,_,_,_,_,_,_,e⟩;exact e.seq hS
  ·rintro i x C S hx ⟨J,O,Y,M,rfl,j,f,g⟩;obtain⟨b,d,rfl,B,W⟩:=(hT.same g).get hx;have a4:S b=some (.tup [.int d.p,.int d.q,.int d.r,.int d.a]):=W;obtain⟨p0,p1,q0,q1,pq,r0,r1,a0,a1⟩:=hd d (yb B);obtain⟨c,X⟩:=zC (show d.p.toNat<as.length by lia);have a2:=f.2 _ _ X;have y:=yb X;have I:l≠c:=λz=>hla (z▸y);have fc:=G c y;walk_at "x";rename_i H4 b4 h4;refine⟨_,_,_,_,rfl,b4.lst j I,(f.set b4 X h4).congr λm hm r hr=>?_,∅⟩;rw[zai B];exact zo2 p0 r0 m r
  ·rintro C S ⟨J,O,Y,M,rfl,j,f,g⟩;rw[hT.length,yw]at f;walk_at "x";exact k _ _ _ fl g j ⋯ f G
def zhS(T:Txt K mg):T.d_stop_of.Ok P w base 2 (zg2 K):=by
 refine T.d_stop_of.F.okN sc_stop_of "0d" λN A outer s H vs Q E L h=>?_;obtain⟨l,y,f,q,rfl,hl,W,Y,R,k⟩:=h;refine⟨_,(zh (zD 2 sc_stop_of zi)
 (zh (zaf PassesOwn.never rfl (zaW K T.z_enumerate (za (pv 0) ze)) (show PG _ _ (zbs K 2 _)from zaS (n:=2) rfl (zH (zI (i:=3) sc_stop_of.nd rfl (Or.inl rfl)) (zH (zI (i:=4) sc_stop_of.nd rfl (Or.inl rfl)) zaD)))
 (zh (zf7 (i:=2) sc_stop_of.nd rfl (Or.inl rfl) (pv 4) zeD)
 (zj (zP (zaV K (qD T.d_under (zg9 T) L (za (pv 1) (za (zV (za (pv 2) (za zi ze))) ze))))
 (zj (zy (pv 3)))
 zJ))))
 (zj (zy zbo)))),?_⟩
 refine zE (σ0:=[some (.ref l),some (.ref y),none,none,none]) rfl ?_;walk_at "x";refine zc1 (zab (K:=K) (a:=l) (xs:=(vec 3 f).map V.int)) (λi g H'=>∃D m:Option V,g=[some (.ref l),some (.ref y),some (.int (zbA f i)),D,m]/\zaX f q i=none/\Same H H') ⟨_,_,rfl,rfl,Same.refl _⟩ ?_ ?_ ?_
 ·rintro i g H' ⟨_,_,_,_,e⟩;exact SqL.of (e.at hl)
 ·rintro i x g H1 H2 hi ⟨D,m,rfl,c,G⟩ X ⟨t,v,rfl,J,M⟩;rw[ya,zG]at hi;rw[ye,zK hi]at J;cases J;have S:H2 t=some (.tup [.int (i:Int),.int (f i)]):=M;have Z:=ziY W (i+1) ⋯;have B:SzQ ((zbA f (i+1):Int):Rat) 60000 60000:=zs3 ⋯ ⋯;walk_at "x";refine zdm (by first | decide | simp) λtp p O U u=>?_;have o:IsQ p tp ((zbA f (i+1):Int):Rat):=u;have d:Same H p:=G.trans (X.trans U);have C:IsQ p y q:=d.at Y;refine zbN ?_;refine zjq C o R B ?_;have b:zaX f q (i+1)=if zcb f q i then some i else none:=by show(match zaX f q i with | some r=>some r | none=>_)=_;rw[c]
  by_cases j:zcb f q i
  ·rw[decide_eq_true (under_int.mpr j)];rw[if_pos j]at b;have I:=zhG b (3-(i+1));rw[show i+1+(3-(i+1))=3 by lia]at I;rw[I]at k;walk_at "x";exact k _ d
  ·rw[decide_eq_false λz=>j (under_int.mp z)];rw[if_neg j]at b;walk_at "x";exact⟨_,_,rfl,b,d⟩
 ·rintro g H1 ⟨D,m,rfl,c,G⟩;rw[ya,zG]at c;rw[c]at k;walk_at "x";exact k _ G
def zlP(T:Txt K mg):T.d_flows_of.Ok P w base 1 (ziQ K):=by
 refine T.d_flows_of.F.okN sc_flows_of "0d" λa9 A outer s H vs Q E hr h=>?_;obtain⟨a,b,ds,n,ρ,rfl,⟨xs,hS,hT⟩,O,n1,hd,k⟩:=h;have R:(zak n ρ).length=n:=zbI;refine⟨_,(zh (qS1 2 sc_flows_of ["rank", "ranks"] [none,some 1] (z9 K (pv 1)) (λ_ _ _ _ _=>(zw zR (zaa (za zi ze)) (zaU K T.z_len "0k"))))
 (zh (zaf PassesOwn.never rfl (z9 K (pv 0)) (show PG _ _ (zbs K 4 _)from zaS (n:=4) rfl (zH (zI (i:=3) sc_flows_of.nd rfl (Or.inl rfl)) (zH (zI (i:=4) sc_flows_of.nd rfl (Or.inl rfl)) (zH (zI (i:=5) sc_flows_of.nd rfl (Or.inl rfl)) (zH (zI (i:=6) sc_flows_of.nd rfl (Or.inl rfl)) zaD)))))
 (zj (zP (zF (qEq K hr.units) (pv 5) (qIx K (pv 1) (pv 3)) (nomark _))
 (zj (zdP (qIx K (pv 2) (pv 3)) (pv 4) (show zf3 _ (zdG K)from zcF) (pv 6) zeD zaY))
 zJ)))
 (zj (zy (pv 2))))),?_⟩
 refine zE (σ0:=[some (.ref a),some (.ref b),none,none,none,none,none]) rfl ?_;walk_at "x";refine zN (zW (K:=K) (a:=b) (xs:=zak n ρ)) (λH' e=>SqL.of (e.at O)) rfl (λi vs H'=>∃as,vs=as.map V.ref/\as.length=i/\Rows H' as n (λ_ _=>0)/\∀b∈as,H b=none) (λH' _=>⟨[],rfl,rfl,⟨yaE,λi a h=>nomatch h⟩,λ_ h=>nomatch h⟩) ?_ ?_
 ·rintro i x D vs o H2 N hi hD v hv L ⟨as,rfl,u,I,X⟩ t hx;have a7:=(v.trans t).at O;walk_at "x";rename_i z1 ac ad J ae p H4 fp a4 U H5 b5 h5;have e4:Same N H4:=J.trans a4;rw[ym,R]at U;have B:N p=none:=Same.none fp J;have a5:p≠D:=zdN B (t.at hv);have a2:H5 p=some (.lst ((vec n λ_=>0).map V.int)):=b5.lst U a5;have a3:D∉as:=λz=>by
   obtain⟨m,hm,a6,f⟩:=I.mem z;rw[hv]at f;have hn:n≠0:=by lia
   cases as with
   | nil=>cases z
   | cons z0 zs=>
    obtain⟨S,rfl⟩:∃S,n=S+1:=⟨n-1,⋯⟩
    unfold vec at f;rw[List.range_succ_eq_map]at f;cases f
  refine⟨⟨_,rfl⟩,∅,_,h5,by rw[yc];exact yl L,as++[p],by rw[yi];rfl,by rw[yc,u];rfl,Rows.app ((I.same (t.trans e4)).but b5 a3) ((I.same t).fresh B) a2,λb O=>?_⟩;rcases yL.mp O with h | h
  ·exact X b h
  ·rw[yu.mp h];exact Same.none B (v.trans t)
 ·rintro l H2 vs fl v hl L ⟨as,rfl,u,I,X⟩;rw[R]at u;walk_at "x";have hla:l∉as:=λz=>by
   obtain⟨m,hm,a6,f⟩:=I.mem z;rw[hl]at f;cases as with
   | nil=>cases z
   | cons z0 zs=>
    obtain⟨S,rfl⟩:∃S,n=S+1:=⟨n-1,by simp only[yay]at u;lia⟩
    unfold vec at f;rw[List.range_succ_eq_map]at f;cases f
  refine zbR (xs:=xs) (λi W H'=>∃f3 f4 f5 f6,W=[some (.ref a),some (.ref b),some (.ref l),f3,f4,f5,f6]/\H' l=some (.lst (as.map V.ref))/\Rows H' as n (zaA ρ (ds.take i))/\Same H H') ?_ ?_ ?_ ?_
  ·exact⟨_,_,_,_,rfl,hl,I,v⟩
  ·rintro i W H' _ ⟨_,_,_,_,_,_,_,e⟩;exact e.seq hS
  ·rintro i x W N hx ⟨f3,f4,f5,f6,rfl,y,g,t⟩;obtain⟨b',d,rfl,C,Z⟩:=(hT.same t).get hx;have aa:N b'=some (.tup [.int d.p,.int d.q,.int d.r,.int d.a]):=Z;obtain⟨p0,p1,q0,q1,pq,r0,r1,a0,a1⟩:=hd d (yb C);obtain⟨c,hc⟩:=zC (show d.p.toNat<as.length by lia);have a8:=g.2 _ _ hc;have M:=yb hc;have Y:l≠c:=λz=>hla (z▸M);have fc:=X c M;have a7:=t.at O;have ab:atI (zak n ρ) d.p=some (zb6 (ρ d.p.toNat)):=zaZ ⋯ (zbd ⋯);walk_at "x";refine zr0 r0 ?_;walk_at "x"
   ·rename_i hρ H4 b4 h4;refine⟨_,_,_,_,rfl,b4.lst y Y,(g.set b4 hc h4).congr λm hm j hj=>?_,∅⟩;rw[zai C,zbr];by_cases G:m=d.p.toNat
    ·rw[if_pos G];by_cases v:j=d.q.toNat
     ·rw[if_pos v,if_pos ⟨⋯,⋯,by rw[G];exact hρ⟩,G,v]
     ·rw[if_neg v,if_neg (λz=>v ⋯),G];lia
    ·rw[if_neg G,if_neg (λz=>G ⋯)];lia
   ·rename_i hρ;refine⟨_,_,_,_,rfl,y,g.congr λm hm j hj=>?_,t⟩;rw[zai C,zbr,if_neg (λz=>hρ (by rw[show d.p.toNat=m by lia];exact z.2.2))];lia
  ·rintro W N ⟨f3,f4,f5,f6,rfl,y,g,t⟩;rw[hT.length,yw]at g;walk_at "x";exact k _ _ _ fl t y u g X
def zl2(T:Txt K mg):T.d_reach_of.Ok P w base 1 (ziV K):=by
 refine T.d_reach_of.F.okN sc_reach_of "0d" λX A outer s H vs Q E hr h=>?_;obtain⟨a,i,n,as,F,rfl,ha,a1,hR,h9,hi,k⟩:=h;refine⟨_,(zh (zD 2 sc_reach_of (zaa "0k"))
 (zh (zD 3 sc_reach_of zi)
 (zh (zdb PassesOwn.never (zF zcV (pv 3) (zaU K T.z_len (za (pv 2) ze)) (nomark _))
 (zh (zD 4 sc_reach_of (qIx K (pv 0) (qIx K (pv 2) (pv 3))))
 (zh (za4 (show PE _ _ (tBM K _ _ _ _)from zhE yaJ PySem.F.slot_list_extend PySem.F.type_list_extend zo6 (pv 2) (za (zgw rfl (zaW K T.z_enumerate (za (pv 4) ze)) (zaJ (Ni:=["other", "flow", "reached"]) (caps:=[none,none,some 2]) (by rfl)) "0h" (λ_ _ _ _ _=>(zfE (PW.pt (zgg (zF zcl (pv 1) zi (nomark _)) (zgD (zF (show OpR _ (compareOp .NotIn) (rIn K true)from zd5) (pv 0) (pv 2) (by with_unfolding_all rfl))))))) (λ_ _ _ _ _=>(pv 0))) ze)))
 (zj (zf7 (i:=3) sc_reach_of.nd rfl (Or.inl rfl) zi zeD)))))
 (zj (zy (pv 2)))))),?_⟩
 refine zE (σ0:=[some (.ref a),some (.int (i:Int)),none,none,none]) rfl ?_;walk_at "x";rename_i p H1 fp e1 hp;generalize hg:(λi j=>decide (0<F i j))=g at k;have r:∀i j,g i j=decide (0<F i j):=λi j=>by rw[<- hg]
 refine⟨λm σ H'=>∃(t:Nat) (B:Option V),σ=[some (.ref a),some (.int (i:Int)),some (.ref p),some (.int (t:Int)),B]/\t<=(Rc.seqL n g i t).length/\H' p=some (.lst (zaN (Rc.seqL n g i t)))/\Same H H'/\m=n-t,⟨_,0,_,rfl,yW _,hp,e1,rfl⟩,?_⟩;rintro m σ H2 ⟨t,B,rfl,ht,d,G,rfl⟩;have Z:=zar (l:=Rc.seqL n g i t);have a0:=Rc.seq_len (g:=g) hi t;walk_at "x"
 ·rename_i I;have b:t<(Rc.seqL n g i t).length:=by lia
  refine⟨λR H'=>∃B:Option V,R=[some (.ref a),some (.int (i:Int)),some (.ref p),some (.int ((t+1:Nat):Int)),B]/\H' p=some (.lst (zaN (Rc.seqL n g i (t+1))))/\Same H H',?_,?_⟩
  ·rintro R H' ⟨f5,rfl,q,u⟩;refine⟨n-(t+1),⋯,t+1,f5,rfl,?_,q,u,rfl⟩;rw[Rc.seq_succ b,yc];lia
  ·generalize hs:Rc.seqL n g i t=sl at *
   have a4:sl.getD t 0<n:=zbQ b (by rw[<- hs];exact λx y=>Rc.seq_lt hi t x y);obtain⟨c,U⟩:=zC (show sl.getD t 0<as.length by lia);have a2:atI (zaN sl) (t:Int)=some (.int ((sl.getD t 0:Nat):Int)):=zO (zb9 b);have O:atI (as.map V.ref) ((sl.getD t 0:Nat):Int)=some (.ref c):=zO (by rw[ye,U];rfl);have a7:=G.at ha;have L:=(hR.same G).2 _ _ U;walk_at "x";refine zaz (zab (K:=K) (a:=c) (xs:=(vec n (F (sl.getD t 0))).map V.int)) (λH' e=>SqL.of (e.at L)) rfl (λj vs _=>vs=zaN ((List.range j).filter λk=>g (sl.getD t 0) k&&!decide (k∈sl))) (λH' _=>rfl) ?_ ?_
   ·rintro j x D vs o o' H3 W N hD u C f rfl e4 ⟨tt,v,rfl,y,J⟩;rw[ya,zG]at N;rw[ye,zK N]at y;cases y;have a5:W tt=some (.tup [.int (j:Int),.int (F (sl.getD t 0) j)]):=J;have a6:=(u.trans e4).at d;walk_at "x"
    ·rename_i h1 h2 H5 b5 Y;refine⟨⟨_,_,rfl⟩,∅,_,Y,by rw[yc];exact yl f,?_⟩;dsimp only;rw[zdU,if_pos (by rw[r,decide_eq_true h1,decide_eq_false (λz=>h2 (intsN_mem.mpr z))];rfl),zgc];rfl
    ·rename_i h1 h2;refine⟨⟨_,_,rfl⟩,∅,_,∅,yaO f,?_⟩;dsimp only;rw[zdU,if_neg (by rw[decide_eq_true (intsN_mem.mp h2)];simp),yag]
    ·rename_i h1;refine⟨⟨_,_,rfl⟩,∅,_,∅,yaO f,?_⟩;dsimp only;rw[zdU,if_neg (by rw[r,decide_eq_false h1];simp),yag]
   ·rintro D H3 vs hD u C f rfl;rw[ya,zG]at C;have q:=u.at d;have M:=ybv (λk=>g (sl.getD t 0) k&&!decide (k∈sl)) "0i";rw[yx]at M;have a3:=zar (l:="0i".filter λk=>g (sl.getD t 0) k&&!decide (k∈sl));walk_at "x";refine zuE q C ⋯ λW b4 h4=>?_;walk_at "x";refine⟨_,rfl,?_,∅⟩;rw[Rc.seq_succ (by rw[hs];exact b),hs,zgc];exact h4
 ·rename_i I
  have:=Rc.seq_end (g:=g) hi ht ⋯
  rw[this]at d;walk_at "x";exact k p _ fp G d
def zhd(T:Txt K mg):T.d_closed_circle.Ok P w base 2 (zg6 K):=by
 refine T.d_closed_circle.F.okN sc_closed_circle "0d" λa7 A outer s H vs Q E hr h=>?_;obtain⟨a,b,n,as,F,ρ,rfl,ha,a9,hR,hb,h9,k⟩:=h;have O:(zak n ρ).length=n:=zbI;refine⟨_,(zh (zD 2 sc_closed_circle (zaa ze))
 (zh (zaf PassesOwn.never rfl (zZ rfl T.z_range (za (zaU K T.z_len "0k") ze)) (zI (i:=3) sc_closed_circle.nd rfl (Or.inl rfl))
 (zh (zD 4 sc_closed_circle (qD T.d_reach_of (zl2 T) hr (za (pv 0) (za (pv 3) ze))))
 (zj (zP (zaV K (zaP (show CallR _ _ (zki K)from zoZ rfl) rfl T.z_all BT.all (za (qC1 ["other", "ranks"] [none,some 1] (z9 K (pv 4)) (λ_ _ _ _ _=>(zbl zgs (qIx K (pv 1) (pv 0)) zbo (nomark _)))) ze)))
 (zj (za4 (qAp K (pv 2) (za (pv 4) ze))))
 zJ))))
 (zj (zy (show PE _ _ (zmo K _)from zoR rfl (by rfl) T.z_min BT.min (by rfl) T.z_len BT.len (za (pv 2) ze)))))),?_⟩
 refine zE (σ0:=[some (.ref a),some (.ref b),none,none,none]) rfl ?_;walk_at "x";rename_i cs H1 a8 e1 a0;generalize hg:(λi j=>decide (0<F i j))=g at k;have ac:∀i j,g i j=decide (0<F i j):=λi j=>by rw[<- hg]
 refine zcd (n:=((zak n ρ).length:Int).toNat) (λi σ' H'=>∃(Y f4:Option V) (ls:List Addr),σ'=[some (.ref a),some (.ref b),some (.ref cs),Y,f4]/\H' cs=some (.lst (ls.map V.ref))/\cs∉ls/\(∀c∈ls,H c=none)/\ls.length<=i/\LsOf H' ls (((List.range i).map (Rc.reach n g)).filter λl=>l.all λi=>(ρ i).isSome)/\Same H H') ⟨_,_,[],rfl,a0,(λz=>nomatch z),(λ_ z=>nomatch z),yg _,LsOf.nil,e1⟩ ?_ ?_
 ·rintro i σ' H2 hi ⟨Y,f4,ls,rfl,d,f,q,W,t,r⟩;have ei:(0:Int)+(i:Int)=i:=by lia
  rw[ym,O]at hi;have ab:=r.at ha;have ae:=hR.same r;have Z:=r.at hb;rw[ei];walk_at "x";rename_i p1 H3 M y B;rw[hg]at B;have er:((List.range (i+1)).map (Rc.reach n g)).filter (λl=>l.all λi=>(ρ i).isSome)=((List.range i).map (Rc.reach n g)).filter (λl=>l.all λi=>(ρ i).isSome)++if((Rc.reach n g i).all λi=>(ρ i).isSome)=true then[Rc.reach n g i] else[]:=by
   rw[yA,yi,yaD,yM,zsf]
  rw[er];have a4:∀x∈Rc.reach n g i,x<n:=λx X=>Rc.reach_lt hi X;have af:(Rc.reach n g i).length<=n:=Rc.seq_len (g:=g) hi n;generalize Rc.reach n g i=rl at *
  have a2:=y.at Z;refine zN (zW (K:=K) (a:=p1) (xs:=zaN rl)) (λH' e=>SqL.of (e.at B)) rfl (λj vs _=>vs=((rl.take j).map λx=>(ρ x).isSome).map V.bl) (λH' _=>rfl) ?_ ?_
  ·rintro j x D vs o H4 H5 I hD S hv U rfl e5 X;rw[zar]at I;rw[zb9 I]at X;cases X;have a1:=zbQ I a4;have aa:=(S.trans e5).at a2;have ad:atI (zak n ρ) ((rl.getD j 0:Nat):Int)=some (zb6 (ρ (rl.getD j 0))):=zO (zbd a1);walk_at "x";rename_i H6 b6 h6;rw[zdV,show(!(ρ (rl.getD j 0)).isNone)=(ρ (rl.getD j 0)).isSome by cases ρ (rl.getD j 0)<;>rfl]at h6;refine⟨⟨_,rfl⟩,∅,_,h6,by rw[yc];exact yl U,?_⟩;dsimp only;have a6:rl[j]?=some (rl.getD j 0):=by rw[yf,yk I];rfl
   rw[zai a6,yi,yi];rfl
  ·rintro D H4 vs hD S hv U rfl;rw[zar,yw]at hv;have ag:(ls.map V.ref).length<=100000:=by rw[ya];lia
   have ea:((rl.map λx=>(ρ x).isSome).all id)=rl.all λi=>(ρ i).isSome:=by rw[List.all_map];rfl
   have N:H4 cs=some (.lst (ls.map V.ref)):=(y.trans S).at d;have G:=y.trans S;walk_at "x"
   ·rename_i u H5 b5 h5;rw[ea]at u;have L:p1≠cs:=zdN M d;refine⟨_,_,ls++[p1],rfl,by rw[h5,yi];rfl,λz=>?_,λc v=>?_,by rw[yc];simp only[yah];lia,?_,∅⟩
    ·rcases yL.mp z with h | h
     ·exact f h
     ·exact L (yu.mp h).symm
    ·rcases yL.mp v with h | h
     ·exact q c h
     ·rw[yu.mp h];exact Same.none M r
    ·rw[if_pos u];exact((t.same G).but b5 f).snoc (b5.lst (S.at B) L)
   ·rename_i R;rw[ea]at R;rw[if_neg (by rw[R];decide),yag];exact⟨_,_,ls,rfl,N,f,q,yaO W,t.same G,r.trans G⟩
 ·rintro σ' H2 ⟨Y,f4,ls,rfl,d,f,q,W,t,r⟩;rw[ym,O]at t;have a5:∀c∈("0i".map (Rc.reach n g)).filter (λl=>l.all λi=>(ρ i).isSome),c.length<=n:=λc v=>by
   obtain⟨i,hi,rfl,_⟩:=Rc.mem_circles.mp v;exact Rc.seq_len (g:=g) hi n
  have a3:Rc.circle n g (λi=>(ρ i).isSome)=Rc.minL (("0i".map (Rc.reach n g)).filter λl=>l.all λi=>(ρ i).isSome):=rfl;rw[a3]at k;generalize (("0i".map (Rc.reach n g)).filter λl=>l.all λi=>(ρ i).isSome)=C at *
  show(znv (zkv 2) zlK) _ _ (zmB K _)
  walk_at "x";refine⟨cs,ls,λi=>(C.getD i []).length,rfl,SqL.of d,λi c v=>?_,λp H3 fp y hp=>⟨λhn=>?_,λi c v J=>?_⟩⟩
  ·obtain⟨l,h1,h2⟩:=t.2 i c v;have e:C.getD i []=l:=by rw[yf,h1];rfl
   have:=a5 l (yb h1)
   exact⟨_,h2,by rw[zar];exact(congrArg List.length e).symm,by show(C.getD i []).length<=16000;rw[e];lia⟩
  ·have hC:C=[]:=yad (by rw[<- t.1,hn];rfl);rw[hC]at k;exact k p H3 (Same.none fp r) (r.trans y) hp
  ·obtain⟨l,h1,h2⟩:=t.2 i c v;have e:C.getD i []=l:=by rw[yf,h1];rfl
   have em:=zsb h1 λj m hm=>by
    have I:j<ls.length:=by rw[t.1];exact(yh.mp hm).1
    have:=J j I
    dsimp only at this;rw[e,show C.getD j []=m by rw[yf,hm];rfl]at this;exact this
   rw[em]at k;exact k c H3 (q c (yb v)) (r.trans y) (y.at h2)
def zgQ(T:Txt K mg):T.d_balances.Ok P w base 1 (zm3 K):=by
 refine T.d_balances.F.okN sc_balances "0d" λag A outer s H vs Q E hr h=>?_;obtain⟨a,b,n,as,F,c,rfl,ha,aj,hR,hb,hc,c9,h9,k⟩:=h;refine⟨_,(zh (qS1 2 sc_balances ["member", "members", "flows"] [none,some 1,some 0] (z9 K (pv 1)) (λ_ _ _ _ _=>(qC1 ["other", "flows", "member"] [none,some 2,some 0] (z9 K (pv 1)) (λ_ _ _ _ _=>(zV (za (zeW zd3 (qIx K (qIx K (pv 1) (pv 0)) (pv 2))) (za zi ze)))))))
 (zh (zaf PassesOwn.never rfl (zaW K T.z_enumerate "0k") (show PG _ _ (zbs K 2 _)from zaS (n:=2) rfl (zH (zI (i:=3) sc_balances.nd rfl (Or.inl rfl)) (zH (zI (i:=4) sc_balances.nd rfl (Or.inl rfl)) zaD)))
 (zj (zcO (zV (za (zb7 K T.z_sum (za (qIx K (pv 0) (pv 4)) ze)) (za zi ze))) (zc0 (qIx K (pv 2) (pv 3)) (pv 3) zaY))))
 (zj (zy (pv 2))))),?_⟩
 refine zE (σ0:=[some (.ref a),some (.ref b),none,none,none]) rfl ?_;walk_at "x";refine zN (zW (K:=K) (a:=b) (xs:=zaN c)) (λH' e=>SqL.of (e.at hb)) rfl (λi vs H'=>∃bs:List Addr,vs=bs.map V.ref/\bs.length=i/\PRows H' bs (λa=>(List.range c.length).map λb=>((-F (c.getD b 0) (c.getD a 0):Int):Rat))/\∀b∈bs,H b=none) (λH' _=>⟨[],rfl,rfl,PRows.nil,λ_ h=>nomatch h⟩) ?_ ?_
 ·rintro i x D vs o H2 H3 hi hD L hv Y ⟨bs,rfl,B,hP,hF⟩ d N;rw[zar]at hi;rw[zb9 hi]at N;cases N;have a0:=zbQ hi hc;have ac:=(L.trans d).at hb;have ab:=(L.trans d).at ha;have a8:=hR.same (L.trans d);walk_at "x";refine zN (zW (K:=K) (a:=b) (xs:=zaN c)) (λH' e=>SqL.of (e.at ac)) rfl (λj vs H'=>IsQs H' vs ((List.range j).map λb=>((-F (c.getD b 0) (c.getD i 0):Int):Rat))) (λH' _=>trivial) ?_ ?_
  ·rintro j x D2 vs o2 H4 H5 S u f O M hQ G N;rw[zar]at S;rw[zb9 S]at N;cases N;have ap:=zbQ S hc;obtain⟨r,C⟩:=zC (show c.getD j 0<as.length by lia);have aq:=(a8.same (f.trans G)).2 _ _ C;have ak:=(f.trans G).at ab;have a5:atI (as.map V.ref) ((c.getD j 0:Nat):Int)=some (.ref r):=zO (by rw[ye,C];rfl);have Z:atI ((vec n (F (c.getD j 0))).map V.int) ((c.getD i 0:Nat):Int)=some (.int (F (c.getD j 0) (c.getD i 0))):=zO (by rw[ye,zK a0];rfl);walk_at "x";refine zax (q:=((-F (c.getD j 0) (c.getD i 0):Int):Rat)) ⟨rfl,rfl⟩ ?_;intro p H6 e6 hp;have am:=(G.trans e6).at O;walk_at "x";rename_i H7 b7 h7;refine⟨⟨_,rfl⟩,b7.same ((f.trans G).trans e6) u,_,h7,by rw[yc];exact yl M,?_⟩;show IsQs H7 _ ((List.range (j+1)).map _);rw[yA,yi,yM];exact IsQs.app (LBut.isQ b7 hp) (LBut.isQs b7 (hQ.same (G.trans e6)))
  ·rintro D2 H4 vs u f O M hQ;rw[zar]at hQ;have ah:=(d.trans f).at hv;walk_at "x";rename_i H5 b5 h5;have a1:D∉bs:=hP.ne hv;have ae:D2∉bs:=(hP.same d).fresh u;have af:D2≠D:=λz=>by rw[z,d.at hv]at u;cases u
   refine⟨⟨_,rfl⟩,b5.same ((L.trans d).trans f) hD,_,h5,by rw[yc];exact yl Y,bs++[D2],by rw[yi];rfl,by rw[yc,B];rfl,PRows.snoc ((hP.same (d.trans f)).but b5 a1) ae (b5.lst O af) (by rw[B];exact LBut.isQs b5 hQ),λy hy=>?_⟩;rcases yL.mp hy with h | h
   ·exact hF y h
   ·rw[yu.mp h];exact Same.none u (L.trans d)
 ·rintro l H2 vs fl L hl Y ⟨bs,rfl,B,hP,hF⟩;rw[zar]at B;walk_at "x";have ad:l∉bs:=hP.ne hl;have ai:=L.at hb;refine zc1 (zab (K:=K) (a:=b) (xs:=zaN c)) (λi σ' H'=>∃f3 f4:Option V,σ'=[some (.ref a),some (.ref b),some (.ref l),f3,f4]/\H' l=some (.lst (bs.map V.ref))/\PRows H' bs (λa=>(List.range c.length).map λb=>(((if a<i then zb5 n F c a b else -F (c.getD b 0) (c.getD a 0)):Int):Rat))/\Same H H') ⟨_,_,rfl,hl,hP.congr λm hm=>(by simp),L⟩ ?_ ?_ ?_
  ·rintro i σ' H' ⟨_,_,_,_,_,e⟩;exact SqL.of (e.at hb)
  ·rintro i x σ' H3 H4 hi ⟨f3,f4,rfl,R,I,d⟩ f ⟨t,v,rfl,N,a9⟩;rw[zar]at hi;rw[zb9 hi]at N;cases N;have an:H4 t=some (.tup [.int (i:Int),.int ((c.getD i 0:Nat):Int)]):=a9;have a0:=zbQ hi hc;have al:=(d.trans f).at ha;obtain⟨r,C⟩:=zC (show c.getD i 0<as.length by lia);have ao:=(hR.same (d.trans f)).2 _ _ C;have a5:atI (as.map V.ref) ((c.getD i 0:Nat):Int)=some (.ref r):=zO (by rw[ye,C];rfl);obtain⟨s1,J⟩:=zC (show i<bs.length by lia);have Z:atI (bs.map V.ref) (i:Int)=some (.ref s1):=zO (by rw[ye,J];rfl);have a4:=f.at R;obtain⟨ws,a7,W⟩:=(I.same f).2 _ _ J;have a6:=W.length;rw[ya,yx]at a6;walk_at "x";refine zax (q:=((zS (vec n (F (c.getD i 0))):Int):Rat)) ⟨rfl,rfl⟩ ?_;intro p H5 G hp;have a3:=G.at a4;have aa:=G.at a7;walk_at "x";refine zdo (j:=((i:Int)).toNat) aa (zdA ⋯ ⋯) ?_;intro H6 U h6;rw[ym]at h6;walk_at "x";have X:s1∈bs:=yb J;have a2:l≠s1:=λz=>ad (z▸X);refine⟨_,_,rfl,U.lst a3 a2,((((I.same f).same G).upd U J h6 (IsQs.setQ (LBut.isQ U hp) i (LBut.isQs U (W.same G)))).congr λm hm=>?_),U.same ((d.trans f).trans G) (hF _ X)⟩;dsimp only;by_cases e:m=i
   ·subst e;rw[if_pos rfl,zir];refine yK λj S=>?_;unfold zb5;by_cases g:j=m
    ·rw[if_pos g,if_pos ⋯,if_pos g.symm]
    ·rw[if_neg g,if_neg ⋯,if_pos ⋯,if_neg (λz=>g z.symm)]
   ·rw[if_neg e];refine yK λj S=>?_;by_cases g:m<i
    ·rw[if_pos g,if_pos ⋯]
    ·rw[if_neg g,if_neg ⋯]
  ·rintro σ' H3 ⟨f3,f4,rfl,R,I,d⟩;walk_at "x";exact k l H3 bs fl d R B (I.congr λm hm=>yK λj S=>(by rw[zar,if_pos ⋯])) hF
def zgN(T:Txt K mg):T.d_rates_of.Ok P w base 3 (zmK K):=by
 refine T.d_rates_of.F.okN sc_rates_of "0d" λa9 A outer s H vs Q E hr h=>?_;obtain⟨a,b,d,n,as,F,c,ws,x,rfl,ha,Z,hR,hb,hc,nd,c9,h9,hd,hx,z1,z2,k⟩:=h;refine⟨_,(zh (qS1 3 sc_rates_of ["flow"] [none] (z9 K (pv 0)) (λ_ _ _ _ _=>(zV (za zi (za zi ze)))))
 (zh (zaf PassesOwn.never rfl (zaW K T.z_enumerate "0k") (show PG _ _ (zbs K 2 _)from zaS (n:=2) rfl (zH (zI (i:=4) sc_rates_of.nd rfl (Or.inl rfl)) (zH (zI (i:=5) sc_rates_of.nd rfl (Or.inl rfl)) zaD)))
 (zj (zcO (qD T.d_times (zd9 T) hr (za (qIx K (pv 2) (pv 4)) (za (zV (za (zb7 K T.z_sum (za (qIx K (pv 0) (pv 5)) ze)) (za zi ze))) ze))) (zc0 (pv 3) (pv 5) zaY))))
 (zj (zy (pv 3))))),?_⟩
 refine zE (σ0:=[some (.ref a),some (.ref b),some (.ref d),none,none,none]) rfl ?_;walk_at "x";refine zN (zW (K:=K) (a:=a) (xs:=as.map V.ref)) (λH' e=>SqL.of (e.at ha)) rfl (λi vs H'=>IsQs H' vs ((List.range i).map λ_=>(0:Rat))) (λH' _=>trivial) ?_ ?_
 ·rintro i x D vs o H2 H3 hi hD N hv O U B hx;rw[ya]at hi;walk_at "x";refine zax (q:=(0:Rat)) ⟨rfl,rfl⟩ ?_;intro p H4 G hp;have aa:=(B.trans G).at hv;walk_at "x";rename_i H5 Y h5;refine⟨⟨_,rfl⟩,Y.same ((N.trans B).trans G) hD,_,h5,by rw[yc];exact yl O,?_⟩;show IsQs H5 _ ((List.range (i+1)).map _);rw[yA,yi,yM];exact IsQs.app (LBut.isQ Y hp) (LBut.isQs Y (U.same (B.trans G)))
 ·rintro l H2 vs fl N hl O U;rw[ya,Z]at U;walk_at "x";refine zc1 (zab (K:=K) (a:=b) (xs:=zaN c)) (λi R H'=>∃(f4 f5:Option V) (us:List V),R=[some (.ref a),some (.ref b),some (.ref d),some (.ref l),f4,f5]/\H' l=some (.lst us)/\IsQs H' us ("0i".map λj=>sF i (λa=>c.getD a 0) x j*((zS (vec n (F j)):Int):Rat))/\Same H H') ⟨_,_,vs,rfl,hl,by rw[show"0i".map (λj=>sF 0 (λa=>c.getD a 0) x j*((zS (vec n (F j)):Int):Rat))="0i".map (λ_=>(0:Rat))from yK λj _=>by show(0:Rat)*_=0;grind];exact U,N⟩ ?_ ?_ ?_
  ·rintro i R H' ⟨_,_,_,_,_,_,e⟩;exact SqL.of (e.at hb)
  ·rintro i y R H3 H4 hi ⟨f4,f5,us,rfl,C,J,B⟩ G ⟨t,v,rfl,hy,a6⟩;rw[zar]at hi;rw[zb9 hi]at hy;cases hy;have ab:H4 t=some (.tup [.int (i:Int),.int ((c.getD i 0:Nat):Int)]):=a6;have a3:=zbQ hi hc;have f:=B.trans G;have ad:=f.at ha;have ae:=f.at hd;obtain⟨r,M⟩:=zC (show c.getD i 0<as.length by lia);have ag:=(hR.same f).2 _ _ M;have ac:atI (as.map V.ref) ((c.getD i 0:Nat):Int)=some (.ref r):=zO (by rw[ye,M];rfl);have a1:=hx.length;rw[ya,yx]at a1;have a4:=J.length;rw[ya,yx]at a4;obtain⟨v,I⟩:=zC (show i<ws.length by lia);obtain⟨g,q,rfl,L,a2⟩:=hx.get I;rw[ye,yU hi]at L;cases L;have a8:atI ws (i:Int)=some (.ref g):=zO I;have a0:=f.isQ a2;have zx:=z1 i hi;have zs:=z2 _ a3;walk_at "x";refine zax (q:=((zS (vec n (F (c.getD i 0))):Int):Rat)) ⟨rfl,rfl⟩ ?_;intro p H5 S hp;have af:=S.isQ a0;have a5:=(G.trans S).at C;walk_at "x";rename_i t2 H6 X a7;have W:=X.at a5;refine zdo (j:=((c.getD i 0:Nat):Int).toNat) W (zdA ⋯ ⋯) ?_;intro H7 b7 h7;rw[ym]at h7;walk_at "x";refine⟨_,_,_,rfl,h7,?_,b7.same ((f.trans S).trans X) fl⟩;have u:=IsQs.setQ (LBut.isQ b7 a7) (c.getD i 0) (LBut.isQs b7 (J.same ((G.trans S).trans X)));rw[zir]at u;have e:"0i".map (λm=>if m=c.getD i 0 then x i*((zS (vec n (F (c.getD i 0))):Int):Rat)else sF i (λa=>c.getD a 0) x m*((zS (vec n (F m)):Int):Rat))="0i".map λj=>sF (i+1) (λa=>c.getD a 0) x j*((zS (vec n (F j)):Int):Rat):=by
    refine yK λm _=>?_;have es:sF (i+1) (λa=>c.getD a 0) x m=sF i (λa=>c.getD a 0) x m+(if c.getD i 0=m then x i else 0):=rfl;rw[es];by_cases e:m=c.getD i 0
    ·rw[if_pos e,if_pos e.symm,e,zhN λa ha N=>absurd (zbn nd a i ⋯ hi N) ⋯];grind
    ·rw[if_neg e,if_neg λz=>e z.symm];grind
   rw[<- e];exact u
  ·rintro R H3 ⟨f4,f5,us,rfl,C,J,B⟩;rw[zar]at J;walk_at "x";exact k l H3 us fl B C J
def zgL(T:Txt K mg):T.d_circling_rates.Ok P w base 4 (znY K):=by
 refine T.d_circling_rates.F.okN zcp "0d" λay A outer s H vs Q E hr h=>?_;obtain⟨a,b,n,as,F,c,rfl,ha,ag,hR,hb,hc,nd,c1,c9,h9,hz,U,k⟩:=h;refine⟨_,(zh (zD 2 zcp (qD T.d_balances (zgQ T) hr (za (pv 0) "0k")))
 (zh (qS1 3 zcp ["member"] [none] (z9 K (pv 1)) (λ_ _ _ _ _=>(zV (za zi (za zi ze)))))
 (zh (zcO (qC1 ["place"] [none] (zZ rfl T.z_range (za (zaU K T.z_len "0k") ze)) (λ_ _ _ _ _=>(zV (za (zcy (zF (qEq K hr.units) (pv 0) zi (nomark _)) zi zi) (za zi ze))))) (zc0 (pv 2) zi zaY))
 (zh (zcO (zV (za zi (za zi ze))) (zc0 (pv 3) zi zaY))
 (zj (zy (qD T.d_rates_of (zgN T) hr (za (pv 0) (za (pv 1) (za (qD T.d_solved (zjx T) hr (za (pv 2) (za (pv 3) ze))) ze)))))))))),?_⟩
 refine zE (σ0:=[some (.ref a),some (.ref b),none,none]) rfl ?_;walk_at "x";rename_i ro H1 bs a9 e1 G af hP hF;have a6:=e1.at hb;refine zN (zW (K:=K) (a:=b) (xs:=zaN c)) (λH' e=>SqL.of (e.at a6)) rfl (λi vs H'=>IsQs H' vs ((List.range i).map λ_=>(0:Rat))) (λH' _=>trivial) ?_ ?_
 ·rintro i x D vs o H2 H3 hi O J hv v hQ t hx;rw[zar]at hi;walk_at "x";refine zax (q:=(0:Rat)) ⟨rfl,rfl⟩ ?_;intro p H4 C hp;have az:=(t.trans C).at hv;walk_at "x";rename_i H5 b5 h5;refine⟨⟨_,rfl⟩,b5.same ((J.trans t).trans C) O,_,h5,by rw[yc];exact yl v,?_⟩;show IsQs H5 _ ((List.range (i+1)).map _);rw[yA,yi,yM];exact IsQs.app (LBut.isQ b5 hp) (LBut.isQs b5 (hQ.same (t.trans C)))
 rintro S H2 vs I J a2 v hQ;rw[zar]at hQ;have b0:=J.at a6;have b1:=zar (l:=c);walk_at "x";refine zN (zbw (lo:=0) (n:=((zaN c).length:Int).toNat)) (λ_ _=>trivial) rfl (λi vs H'=>IsQs H' vs ((List.range i).map λm=>if m=0 then(1:Rat)else 0)) (λH' _=>trivial) ?_ ?_
 ·rintro i x D us o H3 H4 hi O t hv v Z C rfl;have ei:(0:Int)+(i:Int)=i:=by lia
  rw[ei];walk_at "x"
  ·refine zax (q:=(1:Rat)) ⟨rfl,rfl⟩ ?_;rename_i a7;intro p H5 f hp;have aq:=(C.trans f).at hv;walk_at "x";rename_i N d M;refine⟨⟨_,rfl⟩,d.same ((t.trans C).trans f) O,_,M,by rw[yc];exact yl v,?_⟩;show IsQs N _ ((List.range (i+1)).map _);rw[yA,yi,yM,if_pos ⋯];exact IsQs.app (LBut.isQ d hp) (LBut.isQs d (Z.same (C.trans f)))
  ·refine zax (q:=(0:Rat)) ⟨rfl,rfl⟩ ?_;rename_i a7;intro p H5 f hp;have aq:=(C.trans f).at hv;walk_at "x";rename_i N d M;refine⟨⟨_,rfl⟩,d.same ((t.trans C).trans f) O,_,M,by rw[yc];exact yl v,?_⟩;show IsQs N _ ((List.range (i+1)).map _);rw[yA,yi,yM,if_neg ⋯];exact IsQs.app (LBut.isQ d hp) (LBut.isQs d (Z.same (C.trans f)))
 rintro D H3 us X t O b2 Z;rw[ym,zar]at Z;have W:=(J.trans t).at G;have aw:ro∉bs:=hP.ne G;have nD:D∉bs:=(hP.same J).fresh X;have a1:ro≠D:=λz=>by rw[<- z,J.at G]at X;cases X
 have au:S∉bs:=hP.fresh I;have u:S≠ro:=λz=>by rw[z,G]at I;cases I
 have a5:S≠D:=λz=>by rw[<- z,a2]at X;cases X
 have a0:∀y∈bs.set 0 D,y∈bs\/y=D:=λy hy=>ybi hy;walk_at "x";refine zdo (j:=(0:Int).toNat) W (zdA ⋯ (by rw[ya];lia)) ?_;intro H4 b4 h4;rw[show(0:Int).toNat=0 from rfl,<- ybW]at h4;have ab:Same H H4:=b4.same ((e1.trans J).trans t) a9;have ax:=((hP.same (J.trans t)).put (j:=0) nD O Z).but b4 (λz=>(a0 ro z).elim aw a1);have a4:H4 S=some (.lst vs):=b4.lst (t.at a2) u;have ai:=LBut.isQs b4 (hQ.same t);have Y:=hQ.length;rw[ya,yx]at Y;walk_at "x";refine zax (q:=(1:Rat)) ⟨rfl,rfl⟩ ?_;intro p5 H5 f ar;walk_at "x";refine zdo (j:=(0:Int).toNat) (f.at a4) (zdA ⋯ ⋯) ?_;intro N d M;rw[show(0:Int).toNat=0 from rfl]at M;have a3:=IsQs.setQ (LBut.isQ d ar) 0 (LBut.isQs d (ai.same f));rw[zir]at a3;have B:Same H N:=d.same (ab.trans f) (Same.none I e1);have ah:N ro=some (.lst ((bs.set 0 D).map V.ref)):=d.lst (f.at h4) (λz=>u z.symm);have ap:=(ax.same f).but d (λz=>(a0 S z).elim au a5);have al:=B.at ha;have ae:=hR.same B;have ac:=B.at hb;walk_at "x";refine zgT (n:=c.length) (R:=λl j=>if j=c.length then(if l=0 then 1 else 0)else zcR n F c l j) ⟨⟨bs.set 0 D,ah,by rw[yaw];exact af,λl g hg=>?_⟩,⟨_,M,?_⟩⟩ c9 (λl j hl hj=>?_) "0a" "0a" "0a" ?_ ?_ ?_
 ·obtain⟨ws,w1,w2⟩:=ap.2 l g hg;refine⟨ws,w1,?_⟩;dsimp only at w2;have e:∀j∈List.range c.length,(if j=c.length then(if l=0 then(1:Rat)else 0)else zcR n F c l j)=zcR n F c l j:=λj hj=>if_neg (by have:=yP.mp hj;lia);rw[yK e];by_cases e:l=0
  ·rw[if_pos e]at w2;rw[show(List.range c.length).map (zcR n F c l)=(List.range c.length).map (λm=>if m=0 then(1:Rat)else 0)from yK λj _=>if_pos e];exact w2
  ·rw[if_neg e]at w2;rw[show(List.range c.length).map (zcR n F c l)=(List.range c.length).map (λb=>((zb5 n F c l b:Int):Rat))from yK λj _=>if_neg e];exact w2
 ·rw[show(λl=>if c.length=c.length then(if l=0 then(1:Rat)else 0)else zcR n F c l c.length)=λl=>if l=0 then(1:Rat)else 0 from funext λl=>if_pos rfl];exact a3
 ·have z1:SzQ (1:Rat) 60 1:=zdL (x:=1) (yj zf4 "0a");have z0:SzQ (0:Rat) 60 1:=zdL (x:=0) (zaH "0a");split
  ·split
   ·exact z1
   ·exact z0
  ·unfold zcR;split
   ·split
    ·exact z1
    ·exact z0
   ·exact zdL (hz.bal hc hl ⋯)
 ·have:=zeE (n:=c.length) ⋯
  show c.length*(60+(c.length+1)*1+4)<=8990;lia
 ·intro z;refine U (z▸Dt.det_congr λj r hj hr=>?_);show zcR n F c r j=if j=c.length then _ else _
  rw[if_neg ⋯]
 intro p H7 ws x fp e7 hp hx a8 ad;have an:=e7.at al;have ao:=ae.same e7;have ak:=e7.at ac;have L:∀m,m<c.length->SzQ (x m) 667 667:=λm hm=>(ad m hm).mono (zeE c9) (zeE c9);walk_at "x";refine zjl an ag ao ak hc nd c9 h9 hp hx (λm hm=>(L m hm).mono "0a" "0a") (λi hi=>hz.sum hi) ?_;intro p' H8 aj aa e8 am av;refine k p' H8 aj x (Same.none aa (B.trans e7)) ((B.trans e7).trans e8) am av (λl hl=>?_) L
 have:=a8 l hl
 rw[if_pos rfl]at this;rw[<- this];refine Dt.sm_congr λm hm=>?_;rw[if_neg ⋯]
def zgY(T:Txt K mg):T.d_opening_rates.Ok P w base 4 (zox K):=by
 refine T.d_opening_rates.F.okN sc_opening_rates "0d" λag A outer s H vs Q E hr h=>?_;obtain⟨a,b,d,n,as,F,ρ,ps,rfl,ha,a7,hR,hb,hd,am,a3,h9,hz,N,k⟩:=h;have X:(zak n ρ).length=n:=zbI;refine⟨_,(zh (zc6 (i:=3) sc_opening_rates.nd rfl rfl rfl (zaW K T.z_enumerate "0k") (zaJ (Ni:=["member", "rank"]) (caps:=[none,none]) (by rfl)) "0h" (λ_ _ _ _ _=>(zfE (zF zgs (pv 1) zbo (nomark _)))) (λ_ _ _ _ _=>(pv 0)))
 (zh (qS1 4 sc_opening_rates ["member", "purses"] [none,some 2] (z9 K (pv 3)) (λ_ _ _ _ _=>(zV (za (qIx K (pv 1) (pv 0)) (za zi ze)))))
 (zj (zy (qD T.d_rates_of (zgN T) hr (za (pv 0) (za (pv 3) (za (qD T.d_solved (zjx T) hr (za (qD T.d_balances (zgQ T) hr (za (pv 0) (za (pv 3) ze))) (za (pv 4) ze))) ze)))))))),?_⟩
 refine zE (σ0:=[some (.ref a),some (.ref b),some (.ref d),none,none]) rfl ?_;walk_at "x";refine zaz (zab (K:=K) (a:=b) (xs:=zak n ρ)) (λH' e=>SqL.of (e.at hb)) rfl (λj vs _=>vs=zaN ((List.range j).filter λi=>(ρ i).isSome)) (λH' _=>rfl) ?_ ?_
 ·rintro j x D vs o o' H3 H4 B hD f hv t rfl y ⟨tt,v,rfl,M,ac⟩;rw[X]at B;rw[zbd B]at M;cases M;have ar:H4 tt=some (.tup [.int (j:Int),zb6 (ρ j)]):=ac;walk_at "x"
  ·rename_i h1 Z b5 h5;refine⟨⟨_,_,rfl⟩,∅,_,h5,by rw[yc];exact yl t,?_⟩;dsimp only;rw[zdU,if_pos (by cases B:ρ j with | none=>rw[B]at h1;exact absurd rfl h1 | some _=>rfl),zgc];rfl
  ·rename_i h1;refine⟨⟨_,_,rfl⟩,∅,_,∅,yaO t,?_⟩;dsimp only;rw[zdU,if_neg (by cases B:ρ j with | none=>decide | some _=>rw[B]at h1;cases h1),yag]
 rintro sh H1 vs aq U J t rfl;rw[X]at J;have hc:=zpx (n:=n) (ρ:=ρ);have nd:=zog (n:=n) (ρ:=ρ);have ak:=znt (n:=n) (ρ:=ρ);have G:H1 sh=some (.lst (zaN (shorts n ρ))):=J;generalize shorts n ρ=c at *
 clear J;walk_at "x";refine zN (zW (K:=K) (a:=sh) (xs:=zaN c)) (λH' e=>SqL.of (e.at G)) rfl (λi vs H'=>IsQs H' vs ((List.range i).map λl=>((ps.getD (c.getD l 0) 0:Int):Rat))) (λH' _=>trivial) ?_ ?_
 ·rintro i x D vs o H2 H3 hi hD C hv t hQ f M;rw[zar]at hi;rw[zb9 hi]at M;cases M;have ap:=zbQ hi hc;obtain⟨p0,u⟩:=zC (show c.getD i 0<ps.length by lia);have L:ps.getD (c.getD i 0) 0=p0:=by rw[yf,u];rfl
  have al:atI (ps.map V.int) ((c.getD i 0:Nat):Int)=some (.int p0):=zO (by rw[ye,u];rfl);have an:=((U.trans C).trans f).at hd;walk_at "x";refine zax (q:=((p0:Int):Rat)) ⟨rfl,rfl⟩ ?_;intro p H4 y hp;have aj:=(f.trans y).at hv;walk_at "x";rename_i Z b5 h5;refine⟨⟨_,rfl⟩,b5.same ((C.trans f).trans y) hD,_,h5,by rw[yc];exact yl t,?_⟩;show IsQs Z _ ((List.range (i+1)).map _);rw[yA,yi,yM,L];exact IsQs.app (LBut.isQ b5 hp) (LBut.isQs b5 (hQ.same (f.trans y)))
 rintro ri H2 vs ai C ad t hQ;rw[zar]at hQ;have af:=(U.trans C).at ha;have a8:=hR.same (U.trans C);have Y:=C.at G;walk_at "x";rename_i ro H3 bs ah f a1 a5 hP hF;have W:=f.at ad;have eR:∀l,(List.range c.length).map (λj=>if j=c.length then((ps.getD (c.getD l 0) 0:Int):Rat) else((zb5 n F c l j:Int):Rat))=(List.range c.length).map λj=>((zb5 n F c l j:Int):Rat):=λl=>yK λj B=>by
  have:=yP.mp B
  rw[if_neg ⋯]
 refine zbN ?_;refine zgT (n:=c.length) (R:=λl j=>if j=c.length then((ps.getD (c.getD l 0) 0:Int):Rat) else((zb5 n F c l j:Int):Rat)) ⟨⟨bs,a1,a5,λl g hg=>?_⟩,⟨vs,W,?_⟩⟩ ⋯ (λl j hl B=>?_) "0a" "0a" "0a" ?_ ?_ ?_
 ·obtain⟨us,u1,u2⟩:=hP.2 l g hg;exact⟨us,u1,by rw[eR];exact u2⟩
 ·have:=hQ.same f
  rw[show(λl=>if c.length=c.length then((ps.getD (c.getD l 0) 0:Int):Rat) else((zb5 n F c l c.length:Int):Rat))=λl=>((ps.getD (c.getD l 0) 0:Int):Rat)from funext λl=>if_pos rfl];exact this
 ·split
  ·have ao:=zbQ hl hc;obtain⟨p0,u⟩:=zC (show c.getD l 0<ps.length by lia);have L:ps.getD (c.getD l 0) 0=p0:=by rw[yf,u];rfl
   rw[L];exact zdL (yj (a3 p0 (yb u)) "0a")
  ·exact zdL (hz.bal hc hl ⋯)
 ·have:=zeE (n:=c.length) ⋯
  show c.length*(60+(c.length+1)*1+4)<=8990;lia
 ·intro z;refine N (z▸Dt.det_congr λj r B hr=>?_)
  show((zb5 n F c r j:Int):Rat)=if j=c.length then _ else _
  rw[if_neg ⋯]
 intro p H4 us x fp y hp M a0 a4;have ab:=(f.trans y).at af;have a6:=a8.same (f.trans y);have O:=(f.trans y).at Y;have I:∀m,m<c.length->SzQ (x m) 667 667:=λm hm=>(a4 m hm).mono (zeE ⋯) (zeE ⋯);walk_at "x";refine zjl ab a7 a6 O hc nd ⋯ h9 hp M (λm hm=>(I m hm).mono "0a" "0a") (λi hi=>hz.sum hi) ?_;intro p' Z a9 a2 e5 aa ae;refine k p' Z a9 x ?_ ((((U.trans C).trans f).trans y).trans e5) aa ae (λl hl=>?_) I
 ·exact Same.none a2 (((U.trans C).trans f).trans y)
 ·have:=a0 l hl
  rw[if_pos rfl]at this;rw[<- this];refine Dt.sm_congr λm hm=>?_;rw[if_neg ⋯]
def zfm(T:Txt K mg):T.d_least_room.Ok P w base 4 (zo3 K):=by
 refine T.d_least_room.F.okN sc_least_room "0d" λab A outer s H vs Q E hr h=>?_;obtain⟨a,b,d,e,n,as,ds,l,r,us,ws,rfl,ha,af,hR,hb,hd,hu,he,hw,h9,hz,q1,q2⟩:=h;have U:=hw.length;rw[ya,yx]at U;have a6:=hu.length;rw[ya,yx]at a6;refine⟨_,(zh (zD 4 sc_least_room zbo)
 (zh (zaf PassesOwn.never rfl (zaW K T.z_enumerate (za (pv 3) ze)) (show PG _ _ (zbs K 2 _)from zaS (n:=2) rfl (zH (zI (i:=5) sc_least_room.nd rfl (Or.inl rfl)) (zH (zI (i:=6) sc_least_room.nd rfl (Or.inl rfl)) zaD)))
 (zj (zP (zF zcl (qIx K (pv 6) zi) zi (nomark _))
 (zh (zD 7 sc_least_room (zb7 K T.z_sum (za (ze7 (show SlR _ (zfH K)from zgt) (qIx K (pv 0) (pv 5)) zgr (zgE (zw (zat K) (qIx K (pv 1) (pv 5)) zi))) ze)))
 (zh (zD 8 sc_least_room (qD T.d_over (zmv T) hr (za (qD T.d_minus (zfa T) hr (za (zV (za (pv 7) (za zi ze))) (za (qIx K (pv 2) (pv 5)) ze))) (za (pv 6) ze))))
 (zj (zD 4 sc_least_room (zcy (zF zgi (pv 4) zbo (nomark _)) (pv 8) (qD T.d_least (zha T) hr (za (pv 4) (za (pv 8) ze))))))))
 zJ)))
 (zj (zy (pv 4))))),?_⟩
 refine zE (σ0:=[some (.ref a),some (.ref b),some (.ref d),some (.ref e),none,none,none,none,none]) rfl ?_;walk_at "x";refine zc1 (zab (K:=K) (a:=e) (xs:=ws)) (λi σ' H'=>∃(v:V) (f5 f6 f7 f8:Option V),σ'=[some (.ref a),some (.ref b),some (.ref d),some (.ref e),some v,f5,f6,f7,f8]/\(match zas ds l r i with | none=>v=.non | some x=>∃p,v=.ref p/\IsQ H' p x)/\Same H H') ⟨_,_,_,_,_,rfl,rfl,Same.refl _⟩ ?_ ?_ ?_
 ·rintro i σ' H' ⟨_,_,_,_,_,_,_,e⟩;exact SqL.of (e.at he)
 ·rintro i y σ' H3 H4 hi ⟨v,f5,f6,f7,f8,rfl,m,J⟩ O ⟨t,v',rfl,hy,a3⟩;obtain⟨g,q,rfl,W,a2⟩:=hw.get hy;rw[ye,yU ⋯]at W;cases W;have al:H4 t=some (.tup [.int (i:Int),.ref g]):=a3;have a0:=(J.trans O).isQ a2;have en:(0:Rat)<r i↔0<(r i).num:=by rw[Rat.lt_iff];show(0:Int)*_<_*(1:Int)↔_;lia
  have k:zas ds l r (i+1)=if 0<r i then(match zas ds l r i with | none=>some (zav ds l r i) | some q=>some (if zav ds l r i<q then zav ds l r i else q))else zas ds l r i:=rfl
  walk_at "x"
  ·rename_i u;have o:=en.mpr u;obtain⟨z1,z2,z3,z4,z5,z6⟩:=hz i ⋯ o;rw[if_pos o]at k;obtain⟨ρ,hρ⟩:∃ρ,stp ds l i=some ρ:=by
    cases h:stp ds l i with
    | none=>exact absurd h z1
    | some ρ=>exact⟨ρ,rfl⟩
   have ai:ρ < 3:=(zbC hρ).1;have f:=J.trans O;obtain⟨c,hc⟩:=zC (show i<as.length by lia);have ah:=f.at ha;have ac:=f.at hb;have a4:=f.at hd;have aa:=(hR.same f).2 _ _ hc;have a9:atI (as.map V.ref) (i:Int)=some (.ref c):=zO (by rw[ye,hc];rfl);have a7:atI (zak n (stp ds l)) (i:Int)=some (.int (ρ:Int)):=by rw[<- show zb6 (stp ds l i)=.int (ρ:Int) by rw[hρ];rfl];exact zO (zbd ⋯)
   obtain⟨v2,Z⟩:=zC (show i<us.length by lia);obtain⟨g2,y2,rfl,h1,h2⟩:=(hu.same f).get Z;rw[ye,yU ⋯]at h1;cases h1;have a8:atI us (i:Int)=some (.ref g2):=zO Z;walk_at "x";rename_i sl H5 ag Y N;have S:zc9 ((vec 3 (zA ds i)).map V.int) none (some ((ρ:Int)+1))=(vec (ρ+1) (zA ds i)).map V.int:=by
    obtain rfl | rfl | rfl:ρ=0\/ρ=1\/ρ=2:=by lia
    all_goals rfl
   rw[S]at N;refine zrI (SqL.of N) ?_;rw[zdR];have G:zbL ds l i=((zbA (zA ds i) (ρ+1):Int):Rat):=zfO hρ;have am:(r i).num≠0:=by lia
   walk_at "x";refine zax (q:=zbL ds l i) ⟨by rw[G];rfl,by rw[G];rfl⟩ ?_;intro t2 H6 R aj;have D:=Y.trans R;have ae:=D.at a4;have an:=D.isQ h2;have ak:=D.isQ a0;clear D;cases hro:zas ds l r i with
   | none=>
    rw[hro]at m k;subst m;have z7:SzQ ((zbL ds l i-l i)/r i) 60000 60000:=z6;walk_at "x"
    all_goals first | (exfalso;contradiction) | skip
    ·rename_i p1 H7 L X p2 H8 M C _;refine⟨_,_,_,_,_,rfl,?_,((f.trans Y).trans R).trans (L.trans M)⟩;rw[k];exact⟨_,rfl,C⟩
   | some x=>
    rw[hro]at m k;obtain⟨p,rfl,hp⟩:=m;have a5:=((O.trans Y).trans R).isQ hp;have ad:SzQ x 60000 60000:=by
     obtain⟨⟨j,hj,a1,rfl⟩,_⟩:=zbU hro;exact(hz j ⋯ a1).2.2.2.2.2
    have z7:SzQ ((zbL ds l i-l i)/r i) 60000 60000:=z6;walk_at "x"
    all_goals first | (exfalso;contradiction) | skip
    ·rename_i p1 H7 L X p2 H8 M C _ I;refine⟨_,_,_,_,_,rfl,?_,((f.trans Y).trans R).trans (L.trans M)⟩;have B:zav ds l r i<x:=I;rw[k];dsimp only;rw[if_pos B];exact⟨_,rfl,C⟩
    ·rename_i p1 H7 L X p2 H8 M C _ I;refine⟨_,_,_,_,_,rfl,?_,((f.trans Y).trans R).trans (L.trans M)⟩;have B:¬zav ds l r i<x:=I;rw[k];dsimp only;rw[if_neg B];exact⟨_,rfl,(L.trans M).isQ a5⟩
  ·rename_i u;rw[if_neg λz=>u (en.mp z)]at k;refine⟨_,_,_,_,_,rfl,?_,J.trans O⟩;rw[k];cases hro:zas ds l r i with
   | none=>rw[hro]at m;exact m
   | some x=>rw[hro]at m;obtain⟨p,rfl,hp⟩:=m;exact⟨p,rfl,O.isQ hp⟩
 ·rintro σ' H3 ⟨v,f5,f6,f7,f8,rfl,m,J⟩;rw[U]at m;walk_at "x";cases hro:zas ds l r n with
  | none=>rw[hro]at m;rw[show v=.non from m];exact q1 hro H3 J
  | some x=>rw[hro]at m;obtain⟨p,rfl,hp⟩:=m;exact q2 x hro p H3 J hp
def zlp(T:Txt K mg):T.d_grown.Ok P w base 3 (zmh K):=by
 refine T.d_grown.F.okN zq9 "0d" λS A outer s H vs Q E I h=>?_;obtain⟨d,e,s,n,l,r,t,us,ws,rfl,hd,O,he,M,Z,h9,z0,U,k⟩:=h;have u:=M.length;rw[ya,yx]at u;have B:=O.length;rw[ya,yx]at B;refine⟨_,(zj (zy (qC2 K ["lay", "rate", "step"] [none,none,some 2] (show PI _ _ _ (zpB K _)from znR rfl T.z_zip (za (pv 0) "0k")) (λ_ _ _ _ _=>(qD T.d_plus (zey T) I (za (pv 0) (za (qD T.d_times (zd9 T) I (za (pv 1) (za (pv 2) ze))) ze))))))),?_⟩;refine zE (σ0:=[some (.ref d),some (.ref e),some (.ref s)]) rfl ?_;walk_at "x";refine zaz (zmx (K:=K) (a:=d) (b:=e) (xs:=us) (ys:=ws)) (λH' e=>⟨SqL.of (e.at hd),SqL.of (e.at he)⟩) rfl (λi vs H'=>IsQs H' vs ((List.range i).map λi=>l i+r i*t)) (λH' _=>trivial) ?_ ?_
 ·rintro i x D vs o o' J H4 hi z c C g m f ⟨p,v,w',rfl,W,hy,X⟩;have j:i<n:=by lia
  obtain⟨g1,y1,rfl,h1,h2⟩:=(O.same (c.trans f)).get W;obtain⟨g2,y2,rfl,L,h4⟩:=(M.same (c.trans f)).get hy;rw[ye,yU j]at h1 L;cases h1;cases L;have Y:=(c.trans f).isQ Z;obtain⟨o1,o2,o3⟩:=U i j;walk_at "x";rename_i p1 H5 N a0 p2 H6 G q R y V;refine⟨⟨_,_,rfl⟩,y.same (((c.trans f).trans N).trans G) z,_,V,by rw[yc];exact yl g,?_⟩;show IsQs R _ ((List.range (i+1)).map _);rw[yA,yi,yM];exact IsQs.app (LBut.isQ y q) (LBut.isQs y (m.same ((f.trans N).trans G)))
 ·rintro D J vs z c C g m;rw[show min us.length ws.length=n by lia]at m;exact k D J vs z c C m
def zh6(T:Txt K mg):T.d_cleared.Ok P w base 5 (zjN K):=by
 refine T.d_cleared.F.okN sc_cleared "0d" λcx A outer s H vs Q E hr h=>?_;obtain⟨a,u,n,ds,ps,W,P,rfl,hS,hu,C,k⟩:=h;have aj:(ps.map V.int).length=n:=by rw[ya];exact C.pl
 have d1:∀d∈ds,zo ((ps.map V.int).length:Int) d:=by rw[aj];exact C.hd
 have h9:=C.n9;refine⟨_,(zh (zD 2 sc_cleared (qD T.d_ranked (zfX T) hr (za (zaU K T.z_len "0k") (za (pv 0) ze))))
 (zh (qS1 3 sc_cleared ["purse"] [none] (z9 K (pv 1)) (λ_ _ _ _ _=>(zV (za zi (za zi ze)))))
 (zh (zD 4 sc_cleared (zV (za zi (za zi ze))))
 (zj (zdb PassesOwn.never (zaV K zbm)
 (zh (zc6 (i:=5) sc_cleared.nd rfl rfl rfl (zaW K T.z_enumerate (za (pv 3) ze)) (zaJ (Ni:=["member", "lay", "owed"]) (caps:=[none,none,some 2]) (by rfl)) "0h" (λ_ _ _ _ _=>zeK) (λ_ _ _ _ _=>(qD T.d_stop_of (zhS T) hr (za (qIx K (pv 2) (pv 0)) "0k"))))
 (zh (zD 6 sc_cleared (qD T.d_flows_of (zlP T) hr (za (pv 0) (za (pv 5) ze))))
 (zh (zD 7 sc_cleared (qD T.d_closed_circle (zhd T) hr (za (pv 6) (za (pv 5) ze))))
 (zj (zP (zF (qNe K hr.units) (pv 7) (zaa ze) (nomark _))
 (zh (zD 8 sc_cleared (qD T.d_circling_rates (zgL T) hr (za (pv 6) (za (pv 7) ze))))
 (zj (zD 3 sc_cleared (qD T.d_grown (zlp T) hr (za (pv 3) (za (pv 8) (za (qD T.d_least_room (zfm T) hr (za (pv 2) (za (pv 5) (za (pv 3) (za (pv 8) ze))))) ze)))))))
 (zj (zP (zF (qEq K hr.units) (pv 4) (zV (za zi (za zi ze))) (nomark _))
 (zj (zy (pv 3)))
 (zh (zD 8 sc_cleared (qD T.d_opening_rates (zgY T) hr (za (pv 6) (za (pv 5) "0k"))))
 (zh (zD 9 sc_cleared (qD T.d_least_room (zfm T) hr (za (pv 2) (za (pv 5) (za (pv 3) (za (pv 8) ze))))))
 (zh (zD 10 sc_cleared (qD T.d_minus (zfa T) hr (za (zV (za zi (za zi ze))) (za (pv 4) ze))))
 (zh (zD 9 sc_cleared (zcy (zF zgi (pv 9) zbo (nomark _)) (pv 10) (qD T.d_least (zha T) hr (za (pv 9) (za (pv 10) ze)))))
 (zh (zD 3 sc_cleared (qD T.d_grown (zlp T) hr (za (pv 3) (za (pv 8) (za (pv 9) ze)))))
 (zj (zD 4 sc_cleared (qD T.d_plus (zey T) hr (za (pv 4) (za (pv 9) ze)))))))))))))))))))))),?_⟩
 refine zE (σ0:=[some (.ref a),some (.ref u),none,none,none,none,none,none,none,none,none]) rfl ?_;walk_at "x";rename_i ow H1 as cv e1 c7 b1 hR hF;have br:=e1.at hu;rw[ym,aj]at b1;refine zN (zW (K:=K) (a:=u) (xs:=ps.map V.int)) (λH' e=>SqL.of (e.at br)) rfl (λi vs H'=>IsQs H' vs ((List.range i).map λ_=>(0:Rat))) (λH' _=>trivial) ?_ ?_
 ·rintro i x D vs o H2 H3 hi hD e2 hv a8 hQ e3 hx;rw[aj]at hi;walk_at "x";refine zax (q:=(0:Rat)) ⟨rfl,rfl⟩ ?_;intro p H4 e4 hp;have cy:=(e3.trans e4).at hv;walk_at "x";rename_i H5 b5 h5;refine⟨⟨_,rfl⟩,b5.same ((e2.trans e3).trans e4) hD,_,h5,by rw[yc];exact yl a8,?_⟩;show IsQs H5 _ ((List.range (i+1)).map _);rw[yA,yi,yM];exact IsQs.app (LBut.isQ b5 hp) (LBut.isQs b5 (hQ.same (e3.trans e4)))
 rintro la H2 vs al e2 hla a8 hQ;rw[aj]at hQ;walk_at "x";refine zax (q:=(0:Rat)) ⟨rfl,rfl⟩ ?_;intro op H3 e3 ag;walk_at "x";have L:∀d∈ds,zo (n:Int) d:=C.hd;refine⟨λm σ H'=>∃(k:Nat) (la op:Addr) (ws:List V) (f5 f6 f7 f8 f9 O:Option V),σ=[some (.ref a),some (.ref u),some (.ref ow),some (.ref la),some (.ref op),f5,f6,f7,f8,f9,O]/\H' la=some (.lst ws)/\IsQs H' ws ("0i".map "0c".1)/\IsQ H' op "0c".2/\H la=none/\Same H1 H'/\COk n ds (pQ ps) (Dt.prodN (λ_=>W) n*P*W) k "0c".1 "0c".2/\(∀j,j<k->¬zcw n ds (cst n ds (pQ ps) j).1 (cst n ds (pQ ps) j).2)/\m=zda n ds+1-k,⟨_,0,la,op,vs,_,_,_,_,_,_,rfl,e3.at hla,hQ.same e3,ag,Same.none al e1,e2.trans e3,cok0 L _,λj hj=>absurd hj (yaL _),rfl⟩,?_⟩;clear ag hla hQ a8 e3 e2 al la op vs H2 H3;rintro m σ H2 ⟨kk,la,op,ws,f5,f6,f7,f8,f9,O,rfl,hla,hQ,ag,al,e2,Y,c2,rfl⟩;obtain⟨l,hl⟩:∃l,(cst n ds (pQ ps) kk).1=l:=⟨_,rfl⟩
 obtain⟨t,ht⟩:∃t,(cst n ds (pQ ps) kk).2=t:=⟨_,rfl⟩
 rw[hl]at hQ Y;rw[ht]at ag Y;have bj:=hQ.length;rw[ya,yx]at bj;have bz:=hR.same e2;have au:=e2.at c7;walk_at "x";have next:∀σ' H',(∃(la op:Addr) (ws:List V) (f5 f6 f7 f8 f9 O:Option V),σ'=[some (.ref a),some (.ref u),some (.ref ow),some (.ref la),some (.ref op),f5,f6,f7,f8,f9,O]/\H' la=some (.lst ws)/\IsQs H' ws ("0i".map (nxL n ds (pQ ps) l t))/\IsQ H' op (nxT n ds (pQ ps) l t)/\H la=none/\Same H1 H'/\Ans n ds (pQ ps) l/\¬zcw n ds l t)->∃m',m'<zda n ds+1-kk/\∃(k:Nat) (la op:Addr) (ws:List V) (f5 f6 f7 f8 f9 O:Option V),σ'=[some (.ref a),some (.ref u),some (.ref ow),some (.ref la),some (.ref op),f5,f6,f7,f8,f9,O]/\H' la=some (.lst ws)/\IsQs H' ws ("0i".map "0c".1)/\IsQ H' op "0c".2/\H la=none/\Same H1 H'/\COk n ds (pQ ps) (Dt.prodN (λ_=>W) n*P*W) k "0c".1 "0c".2/\(∀j,j<k->¬zcw n ds (cst n ds (pQ ps) j).1 (cst n ds (pQ ps) j).2)/\m'=zda n ds+1-k:=by
  rintro σ' H' ⟨la,op,ws,f5,f6,f7,f8,f9,O,rfl,i1,i2,i3,i4,i5,i6,i7⟩;have bu:(cst n ds (pQ ps) (kk+1)).1=nxL n ds (pQ ps) l t:=by show nxL n ds (pQ ps) (cst n ds (pQ ps) kk).1 (cst n ds (pQ ps) kk).2=_;rw[hl,ht]
  have bx:(cst n ds (pQ ps) (kk+1)).2=nxT n ds (pQ ps) l t:=by show nxT n ds (pQ ps) (cst n ds (pQ ps) kk).1 (cst n ds (pQ ps) kk).2=_;rw[hl,ht]
  have c1:=COk.step L C.p0 (λi _=>⟨ps.getD i 0,rfl⟩) C.hP C.P1 (λi hi=>C.hW l i hi) C.W1 Y i6 i7;have hle:=c1.le;refine⟨zda n ds+1-(kk+1),⋯,kk+1,la,op,ws,f5,f6,f7,f8,f9,O,rfl,i1,by rw[bu];exact i2,by rw[bx];exact i3,i4,i5,by rw[bu,bx];exact c1,λj hj=>?_,rfl⟩;rcases yX (yac hj)with h | h
  ·exact c2 j h
  ·rw[h,hl,ht];exact i7
 refine⟨_,next,?_⟩;clear next;have av:=hla;walk_at "x";refine zaz (zab (K:=K) (a:=la) (xs:=ws)) (λH' e=>SqL.of (e.at av)) rfl (λj vs _=>vs=zak j (stp ds l)) (λH' _=>rfl) ?_ ?_
 ·rintro j x D vs o o' H3 H4 hj hD e3 hv a8 rfl e4 ⟨tt,v,rfl,hx,cd⟩;obtain⟨g,q,rfl,bv,cm⟩:=(hQ.same (e3.trans e4)).get hx;rw[ye,yU ⋯]at bv;cases bv;have co:H4 tt=some (.tup [.int (j:Int),.ref g]):=cd;obtain⟨c,I⟩:=zC (show j<as.length by lia);have cs:atI (as.map V.ref) (j:Int)=some (.ref c):=zO (by rw[ye,I];rfl);have cj:=(e3.trans e4).at au;have cz:=(bz.same (e3.trans e4)).2 _ _ I;have cu:∀r,r<3->0<=zA ds j r/\zA ds j r<=100000000000000:=λr _=>by
   have:=zdc (m:=j) (r:=r) ds λd h=>⟨(L d h).2.2.2.2.2.2.2.1,C.ha d h⟩
   have:=C.hl
   lia
  have zq:SzQ (l j) 60000 60000:=(C.lay Y ⋯).mono "0a" "0a";walk_at "x";rename_i H5 e5 H6 b6 h6;refine⟨⟨_,_,rfl⟩,∅,_,h6,by rw[yc];exact yl a8,?_⟩;dsimp only;rw[zjU];rfl
 rintro ra H3 vs d0 e3 bq a8 rfl;rw[bj]at bq;have cr:IsSh K H3 a ds:=by walk_at "h"
 walk_at "x";rename_i fl H4 bs ck e4 cg bl ce cp ci H5 ct e5 bm em H6 cq e6 c6;have aq:H5 ci=some (.lst (zaN (crL n ds l))):=bm;clear bm;refine zso (e6.at aq) c6 ?_;have c0:znd (crL n ds l)=[]↔crL n ds l=[]:=ybf;have ap:=zuF (l:=l) L C.ha C.hl;have ak:=e5.trans e6;have ba:=e4.trans ak;have a2:=e3.trans ba;have am:=e2.trans a2;have ay:=ak.at cg;have az:=ce.same ak;have bi:=e6.at aq;have ab:=ba.at bq;have a5:=a2.at av;have an:=hQ.same a2;have aa:=a2.isQ ag;have ar:=a2.at au;have bt:=bz.same a2;have cb:=am.at br;have bf:=e1.trans am;clear ak ba a2;by_cases I:crL n ds l=[]
 ·rw[decide_eq_true (c0.mpr I)];walk_at "x";refine zax (q:=(1:Rat)) ⟨rfl,rfl⟩ ?_;intro t1 H7 X cc;refine zuK (X.isQ aa) cc ?_;walk_at "x"
  ·rename_i h1;refine k la H7 ws kk al (bf.trans X) (X.at a5) (by rw[hl];exact an.same X) ?_ c2 (by rw[hl,ht];exact Y);rw[hl,ht];exact⟨I,h1⟩
  ·rename_i h1;have ac:¬zcw n ds l t:=λz=>h1 z.2;walk_at "x";refine zbN ?_;refine zpz (X.at ay) bl (az.same X) (X.at ab) (X.at cb) C.pl C.pz' h9 ap (zoo L I) ?_;intro rt H8 rs x cf e8 a1 hrs b8 bc;have b4:zdi n ds (pQ ps) l (slL n ds l) x:=zqy b8;have M:Ans n ds (pQ ps) l:=by unfold Ans;rw[if_pos I];exact⟨x,b4⟩
   have er:"0i".map (zeu n (flI ds l) (slL n ds l) x)="0i".map (rtF n ds (pQ ps) l):=yK λi _=>zjs L I b4 i;have N:∀i,i<n->SzQ (rtF n ds (pQ ps) l i) 726 668:=λi hi=>by rw[<- zjs (p:=pQ ps) L I b4 i];exact zoY ap zdW bc hi
   have J:IsQs H8 rs ("0i".map (rtF n ds (pQ ps) l)):=by rw[<- er];exact hrs
   have be:=C.rooms Y N;have f:=X.trans e8;have a4:=f.at a5;have ai:=an.same f;have U:=f.isQ aa;have b0:=bf.trans f;have b7:=am.trans f;have cw:OkQ (1:Rat):=(zdL (x:=1) zf4).ok "0a" "0a";have d2:OkQ t:=(C.top Y).ok "0a" "0a";have b2:=C.shut Y;have ch:SzQ (1-t) 60000 60000:=b2.mono "0a" "0a";have bn:=f.at ar;have c4:=bt.same f;have bh:=f.at ab;clear f;walk_at "x";refine zbN ?_;refine zlr bn b1 c4 bh a4 ai a1 J h9 be ?_ ?_
   ·intro ca H9 e9;have G:stF n ds (pQ ps) l t=1-t:=zpI I ca;have ae:=e9.isQ U;walk_at "x";refine zax (q:=(1:Rat)) ⟨rfl,rfl⟩ ?_;intro t2 c3 a3 c8;have bg:=a3.isQ ae;walk_at "x"
    ·rename_i sh bp a7 a6 _;have b:=(e9.trans a3).trans a7;have B:=C.grow Y N (b2.mono "0a" "0a");walk_at "x";refine zem (b.at a4) (ai.same b) (b.at a1) (J.same b) a6 h9 B.1 B.2 ?_;intro gr Ha gs a0 ea R Z;have ax:=(b.trans ea).isQ U;have aw:=ea.isQ a6;have bo:=B.1;walk_at "x";rename_i np Hb eb a9;refine⟨gr,np,gs,_,_,_,_,_,_,rfl,eb.at R,?_,?_,Same.none a0 (b0.trans b),b7.trans ((b.trans ea).trans eb),M,ac⟩
     ·rw[show"0i".map (nxL n ds (pQ ps) l t)="0i".map (λi=>l i+rtF n ds (pQ ps) l i*(1-t))from yK λi _=>by unfold nxL;rw[G,yb1]];exact Z.same eb
     ·rw[show nxT n ds (pQ ps) l t=t+(1-t) by unfold nxT;rw[if_pos I,G]];exact a9
    ·contradiction
   ·intro q hq sp H9 e9 b9;have ao:=zqE (t:=t) I hq;have zq:=C.stepz Y N hq;have cn:SzQ q 60000 60000:=zq.mono "0a" "0a";have ae:=e9.isQ U;walk_at "x";refine zax (q:=(1:Rat)) ⟨rfl,rfl⟩ ?_;intro t2 c3 a3 c8;have bg:=a3.isQ ae;have b3:=a3.isQ b9;walk_at "x"
    ·contradiction
    ·rename_i sh bp a7 a6 _ bd;have b:=(e9.trans a3).trans a7;have G:stF n ds (pQ ps) l t=1-t:=by rw[ao,if_pos bd]
     have B:=C.grow Y N (b2.mono "0a" "0a");walk_at "x";refine zem (b.at a4) (ai.same b) (b.at a1) (J.same b) a6 h9 B.1 B.2 ?_;intro gr Ha gs a0 ea R Z;have ax:=(b.trans ea).isQ U;have aw:=ea.isQ a6;have bo:=B.1;walk_at "x";rename_i np Hb eb a9;refine⟨gr,np,gs,_,_,_,_,_,_,rfl,eb.at R,?_,?_,Same.none a0 (b0.trans b),b7.trans ((b.trans ea).trans eb),M,ac⟩
     ·rw[show"0i".map (nxL n ds (pQ ps) l t)="0i".map (λi=>l i+rtF n ds (pQ ps) l i*(1-t))from yK λi _=>by unfold nxL;rw[G,yb1]];exact Z.same eb
     ·rw[show nxT n ds (pQ ps) l t=t+(1-t) by unfold nxT;rw[if_pos I,G]];exact a9
    ·rename_i sh bp a7 a6 _ bd;have b:=(e9.trans a3).trans a7;have G:stF n ds (pQ ps) l t=q:=by rw[ao,if_neg bd]
     have af:=a7.isQ b3;have B:=C.grow Y N (zq);walk_at "x";refine zem (b.at a4) (ai.same b) (b.at a1) (J.same b) af h9 B.1 B.2 ?_;intro gr Ha gs a0 ea R Z;have ax:=(b.trans ea).isQ U;have aw:=ea.isQ af;have bo:=B.1;walk_at "x";rename_i np Hb eb a9;refine⟨gr,np,gs,_,_,_,_,_,_,rfl,eb.at R,?_,?_,Same.none a0 (b0.trans b),b7.trans ((b.trans ea).trans eb),M,ac⟩
     ·rw[show"0i".map (nxL n ds (pQ ps) l t)="0i".map (λi=>l i+rtF n ds (pQ ps) l i*(q))from yK λi _=>by unfold nxL;rw[G,yb1]];exact Z.same eb
     ·rw[show nxT n ds (pQ ps) l t=t+(q) by unfold nxT;rw[if_pos I,G]];exact a9
 ·rw[decide_eq_false (λz=>I (c0.mp z))];have ad:=Rc.circle_ok I;have c9:1<=(crL n ds l).length:=by
   have:(crL n ds l).length≠0:=λz=>I (yad z)
   lia
  have c5:(crL n ds l).length<=9:=yj (Rc.len_le ad.nd ad.lt) h9;walk_at "x";refine zqU ay bl az bi ad.lt ad.nd c9 c5 h9 ap (zqi L I) ?_;intro rt H7 rs x cf X a1 hrs b8 bc;have bb:=zq3 b8;have M:Ans n ds (pQ ps) l:=by unfold Ans;rw[if_neg I];exact⟨x,bb⟩
  have er:"0i".map (zeu n (flI ds l) (crL n ds l) x)="0i".map (rtF n ds (pQ ps) l):=yK λi _=>zkq L I bb i;have N:∀i,i<n->SzQ (rtF n ds (pQ ps) l i) 726 668:=λi hi=>by rw[<- zkq (p:=pQ ps) L I bb i];exact zoY ap ad.nd bc hi
  have J:IsQs H7 rs ("0i".map (rtF n ds (pQ ps) l)):=by rw[<- er];exact hrs
  have be:=C.rooms Y N;obtain⟨st,ah⟩:=C.cirRoom Y M I;have B:=C.grow Y N (C.stepz Y N ah);have ao:stF n ds (pQ ps) l t=st:=by unfold stF;rw[if_neg I,ah];rfl
  walk_at "x";refine zbN ?_;refine zlr (X.at ar) b1 (bt.same X) (X.at ab) (X.at a5) (an.same X) a1 J h9 be (λz=>by rw[ah]at z;cases z) ?_;intro y hy sp H8 e8 b9;rw[ah]at hy;cases hy;have f:=X.trans e8;walk_at "x";refine zem (f.at a5) (an.same f) (e8.at a1) (J.same e8) b9 h9 B.1 B.2 ?_;intro gr H9 gs a0 e9 bw Z;walk_at "x";refine⟨gr,op,gs,_,_,_,_,_,_,rfl,bw,?_,?_,Same.none a0 (bf.trans f),am.trans (f.trans e9),M,λz=>I z.1⟩
  ·rw[show"0i".map (nxL n ds (pQ ps) l t)="0i".map (λi=>l i+rtF n ds (pQ ps) l i*st)from yK λi _=>by unfold nxL;rw[ao,yb1]];exact Z
  ·rw[show nxT n ds (pQ ps) l t=t from if_neg I];exact(f.trans e9).isQ aa
def zpW(T:Txt K mg):T.d_stops.Ok P w base 3 (zin K):=by
 refine T.d_stops.F.okN zkV "0d" λU A outer s H vs Q E O h=>?_;obtain⟨a,y,ds,ws,qs,rfl,h,hd,hl,hy,N,h9,hs,k⟩:=h;have n:=N.length;have X:∀d∈ds,zo (ws.length:Int) d:=by rw[n];exact λd h=>(hd d h).1
 refine⟨_,(zh (zD 2 zkV (qD T.d_ranked (zfX T) O (za (zaU K T.z_len "0k") (za (pv 0) ze))))
 (zj (zy (qC2 K ["member", "lay", "owed"] [none,none,some 2] (zaW K T.z_enumerate "0k") (λ_ _ _ _ _=>(qD T.d_stop_of (zhS T) O (za (qIx K (pv 2) (pv 0)) "0k"))))))),?_⟩
 refine zE (σ0:=[some (.ref a),some (.ref y),none]) rfl ?_;walk_at "x";rename_i Y H1 as a2 u z I hR hF;rw[ym]at I;have J:=N.same u;have B:=u.at hy;refine zaz (zab (K:=K) (a:=y) (xs:=ws)) (λH' e=>SqL.of (e.at B)) rfl (λi vs _=>vs=zak i λm=>zaX (zA ds m) (qs.getD m 0) 3) (λH' _=>rfl) ?_ ?_
 ·rintro i x D vs o o' H2 R hi S f C g rfl G ⟨t,v,rfl,Z,ht⟩;obtain⟨b,q,rfl,p,hb⟩:=(J.same (f.trans G)).get Z;have a1:R t=some (.tup [.int (i:Int),.ref b]):=ht;obtain⟨c,hc⟩:=zC (show((i:Int)).toNat<as.length by lia);have l:=(hR.same (f.trans G)).2 _ _ hc;rw[ym]at l;have hf:∀j,j<3->0<=zA ds i j/\zA ds i j<=100000000000000:=λj _=>by
   have:=zdc (m:=i) (r:=j) ds λd h=>⟨(hd d h).1.2.2.2.2.2.2.2.1,(hd d h).2⟩
   lia
  have a0:=hs q (yb p);have M:R Y=some (.lst (as.map V.ref)):=(f.trans G).at z;have L:qs.getD i 0=q:=by rw[yf,p];rfl
  walk_at "x";rename_i H4 e4 H5 b5 W;refine⟨⟨_,_,rfl⟩,∅,_,W,by rw[yc];exact yl g,?_⟩;dsimp only;rw[zjU,L]
 ·rintro D H2 vs S f C g rfl;rw[n]at C;exact k D H2 (Same.none S u) (u.trans f) C
def zl1(T:Txt K mg):T.d_safe_cut.Ok P w base 6 (zn8 K):=by
 refine T.d_safe_cut.F.okN sc_safe_cut "0d" λb3 A outer s H vs Q E l h=>?_;obtain⟨a,u,n,ds,ps,W,P,rfl,⟨xs,hS,hT⟩,hu,C,n1,k⟩:=h;have aj:=hT.length;have Y:IsSh K H a ds:=⟨xs,hS,hT⟩
 have ac:=C.hl;have n9:=C.n9;have g:=C.pl;have j:=C.hd;refine⟨_,(zh (zD 2 sc_safe_cut (qD T.d_stops (zpW T) l (za (pv 0) (za (qD T.d_cleared (zh6 T) l (za (pv 0) "0k")) ze))))
 (zh (zD 3 sc_safe_cut (qC1 ["due", "ranks"] [none,some 2] (z9 K (pv 0)) (λ_ _ _ _ _=>(zh0 (zbl zgi (qIx K (pv 1) (qIx K (pv 0) zi)) zbo (nomark _)) (zk2 (zbl zgi (qIx K (pv 1) (qIx K (pv 0) zi)) zbo (nomark _)))))))
 (zh (zD 4 sc_safe_cut (qD T.d_amounts_of (zfp T) l (za (pv 0) ze)))
 (zh (zc6 (i:=5) sc_safe_cut.nd rfl rfl rfl (zaW K T.z_enumerate (za (pv 4) ze)) (zaJ (Ni:=["number", "amount", "free"]) (caps:=[none,none,some 3]) (by rfl)) "0h" (λ_ _ _ _ _=>zeK) (λ_ _ _ _ _=>(zcy (zaV K (qIx K (pv 2) (pv 0))) (pv 1) zi)))
 (zh (zD 6 sc_safe_cut (qIx K (qD T.d_cut (zug T) l (za (zaU K T.z_len "0k") (za (qD T.d_with_amounts (zcQ T) l (za (pv 0) (za (pv 5) ze))) ze))) zi))
 (zj (zy (qC2 K ["number", "amount", "free", "left"] [none,none,some 3,some 6] (zaW K T.z_enumerate (za (pv 4) ze)) (λ_ _ _ _ _=>(zcy (zaV K (qIx K (pv 2) (pv 0))) (qIx K (pv 3) (pv 0)) (pv 1))))))))))),?_⟩
 refine zE (σ0:=[some (.ref a),some (.ref u),none,none,none,none,none]) rfl ?_;walk_at "x";refine zgV Y hu C ?_;intro la H1 wl kk b8 e1 hla ab a3 ap hok;have I:=C.wide hok;have ai:(zal n ds ps kk).length=n:=zdd;have ah:∀d∈ds,zo ((zal n ds ps kk).length:Int) d/\d.a<=1000000000000:=by rw[ai];exact λd h=>⟨C.hd d h,C.ha d h⟩
 have ao:∀q∈zal n ds ps kk,SzQ q 60000 60000:=λq hq=>(I q hq).2.mono "0a" "0a";have a8:=Y.same e1;walk_at "x"
 first | (refine zjg a8 hla ab ah ac (show(zal n ds ps kk).length<=9 by lia) ao ?_;intro st H2 ak e2 f) | rename_i st H2 ak e2 f
 rw[zoS]at f;obtain⟨ρ,eρ⟩:∃ρ,ρ=stp ds (cst n ds (pQ ps) kk).1:=⟨_,rfl⟩
 obtain⟨full,ef⟩:∃full,full=zgu ds (cst n ds (pQ ps) kk).1:=⟨_,rfl⟩
 have R:∀m,(ρ m).isNone=full m:=λm=>by rw[eρ,ef];rfl
 rw[<- eρ]at f;have al:SqL K H2 a xs:=hS.keep (e1.trans e2);have a9:=hT.same (e1.trans e2);walk_at "x";refine zN (zW (K:=K) (a:=a) (xs:=xs)) (λH' e=>al.keep e) rfl (λi vs _=>vs=blL i (zbq ds full)) (λH' _=>rfl) ?_ ?_
 ·rintro i x D vs o H3 H4 hi hD e3 hv c rfl y B;obtain⟨b,d,rfl,Z,hb⟩:=(a9.same (e3.trans y)).get B;have bb:H4 b=some (.tup [.int d.p,.int d.q,.int d.r,.int d.a]):=hb;obtain⟨p0,p1,q0,q1,pq,r0,r1,a0,a1⟩:=j d (yb Z);have ar:=(e3.trans y).at f;have at1:atI (zak n ρ) d.p=some (zb6 (ρ d.p.toNat)):=zaZ p0 (zbd ⋯);have bf:atI (zak n ρ) d.q=some (zb6 (ρ d.q.toNat)):=zaZ q0 (zbd ⋯);walk_at "x"
  ·rename_i hp H5 b5 h5;have J:(ρ d.p.toNat).isNone=true:=by rw[<- zdV];exact decide_eq_true hp
   have el:zbq ds full i=(ρ d.q.toNat).isNone:=by rw[zgh Z,<- R,<- R,J,Bool.true_and]
   rw[zdV]at h5;refine⟨⟨_,rfl⟩,∅,_,h5,by rw[yc];exact yl c,?_⟩;dsimp only;rw[zk1,el]
  ·rename_i hp H5 b5 h5;have J:(ρ d.p.toNat).isNone=false:=by rw[<- zdV];exact decide_eq_false hp
   have el:zbq ds full i=false:=by rw[zgh Z,<- R,J,Bool.false_and]
   refine⟨⟨_,rfl⟩,∅,_,h5,by rw[yc];exact yl c,?_⟩;dsimp only;rw[zk1,el]
 rintro fr H3 vs ay e3 G c rfl;rw[aj]at G;have a7:IsSh K H3 a ds:=(Y.same (e1.trans e2)).same e3;walk_at "x";rename_i am H4 be y M;rw[zmQ]at M;have b1:(blL ds.length (zbq ds full)).length=ds.length:=zsN;refine zaz (zab (K:=K) (a:=am) (xs:=(vec ds.length (amF ds)).map V.int)) (λH' e=>SqL.of (e.at M)) rfl (λi vs _=>vs=(vec i (zbk ds full (amF ds))).map V.int) (λH' _=>rfl) ?_ ?_
 ·rintro i x D vs o o' H5 H6 hi hD e5 hv c rfl e6 ⟨t,v,rfl,B,ht⟩;rw[ya,zG]at hi;rw[ye,zK hi]at B;cases B;have ad:H6 t=some (.tup [.int (i:Int),.int (amF ds i)]):=ht;have av:=(y.trans (e5.trans e6)).at G;have af:atI (blL ds.length (zbq ds full)) (i:Int)=some (.bl (zbq ds full i)):=zO (zmO hi);walk_at "x"
  ·rename_i hp H7 b7 h7;refine⟨⟨_,_,rfl⟩,∅,_,h7,by rw[yc];exact yl c,?_⟩;dsimp only;rw[zaK,yi,show zbk ds full (amF ds) i=amF ds i from if_pos hp];rfl
  ·rename_i hp H7 b7 h7;refine⟨⟨_,_,rfl⟩,∅,_,h7,by rw[yc];exact yl c,?_⟩;dsimp only;rw[zaK,yi,show zbk ds full (amF ds) i=0 from if_neg (by rw[hp];decide)];rfl
 rintro wi H5 vs ba e5 ag c rfl;rw[ya,zG]at ag;have aq:IsSh K H5 a ds:=(a7.same y).same e5;have b9:H5 u=some (.lst (ps.map V.int)):=(((e1.trans e2).trans e3).trans (y.trans e5)).at hu;have as:(vec ds.length (zbk ds full (amF ds))).length=ds.length:=zG;walk_at "x";rename_i wa H6 us b4 e6 an a4;rw[zlo rfl]at a4;refine zbN ?_;refine zmc (es:=zk ds (zbk ds full (amF ds))) ⟨us,SqL.of an,a4⟩ (by rw[ya,g];lia) (by rw[ya,g];lia) (by rw[zU];lia) (by rw[ya,g];exact zeo j) ?_;intro tp le cu H7 vs L cs b2 az b0 e7 bd hle b6 hI hC O hR bc;rw[ya,g,ym]at hC hR;rw[zU]at hle;have X:=zsU j hC O;rw[zjf]at hR;have U:Same H4 H7:=e5.trans (e6.trans e7);have a5:=U.at M;have a6:H7 fr=some (.lst (blL ds.length (zbq ds full))):=(y.trans U).at G;walk_at "x";refine zaz (zab (K:=K) (a:=am) (xs:=(vec ds.length (amF ds)).map V.int)) (λH' e=>SqL.of (e.at a5)) rfl (λi vs _=>vs=(vec i (zcI ds full (L cs.length))).map V.int) (λH' _=>rfl) ?_ ?_
 ·rintro i x D vs o o' H8 H9 hi hD e8 hv c rfl e9 ⟨t,v,rfl,B,ht⟩;rw[ya,zG]at hi;rw[ye,zK hi]at B;cases B;have ad:H9 t=some (.tup [.int (i:Int),.int (amF ds i)]):=ht;have ax:=(e8.trans e9).at a6;have aw:=(e8.trans e9).at hle;have af:atI (blL ds.length (zbq ds full)) (i:Int)=some (.bl (zbq ds full i)):=zO (zmO hi);have au:atI ((vec ds.length (L cs.length)).map V.int) (i:Int)=some (.int (L cs.length i)):=zO (by rw[ye,zK hi];rfl);walk_at "x"
  ·rename_i hp aa ae N;refine⟨⟨_,_,rfl⟩,∅,_,N,by rw[yc];exact yl c,?_⟩;dsimp only;rw[zaK,yi,show zcI ds full (L cs.length) i=L cs.length i from if_pos hp];rfl
  ·rename_i hp aa ae N;refine⟨⟨_,_,rfl⟩,∅,_,N,by rw[yc];exact yl c,?_⟩;dsimp only;rw[zaK,yi,show zcI ds full (L cs.length) i=amF ds i from if_neg (by rw[hp];decide)];rfl
 rintro D H8 vs hD e8 hv c rfl;rw[ya,zG]at hv;have a2:Same H H7:=((e1.trans e2).trans e3).trans (y.trans U);rw[ef]at hv X;refine k D H8 _ kk (Same.none hD a2) (a2.trans e8) hv X.1 ?_ ?_ a3 ap hok
 ·rw[zbv X.2];exact hR
 ·intro l i hi;rw[<- ef]at l
  have:=hC.none (zeo j) O l
  subst this;unfold zcI;split
  ·rename_i z;show L 0 i=_;rw[O i (by rw[zU];exact hi),zly hi];rw[<- ef]at z;exact if_pos z
  ·rfl
def zp0(T:Txt K mg):T.d_total.Ok P w base 3 (ziS K):=by
 refine T.d_total.F.okN sc_total "0d" λo A outer s H vs Q E n h=>?_;obtain⟨a,xs,qs,rfl,m,j,hok,c,k⟩:=h;refine⟨_,(zh (zD 1 sc_total (zV (za zi (za zi ze))))
 (zh (zaf PassesOwn.never rfl (z9 K (pv 0)) (zI (i:=2) sc_total.nd rfl (Or.inl rfl))
 (zj (zD 1 sc_total (qD T.d_plus (zey T) n (za (pv 1) (za (pv 2) ze))))))
 (zj (zy (pv 1))))),?_⟩
 refine zE (σ0:=[some (.ref a),none,none]) rfl ?_;walk_at "x";refine zax (q:=0) ⟨rfl,rfl⟩ ?_;intro p H1 l u;walk_at "x"
 try refine zrx (l.seq m) ?_
 refine zbR (xs:=xs) (λi d H'=>∃p f,d=[some (.ref a),some (.ref p),f]/\IsQ H' p (zbB (qs.take i))/\Same H H') ⟨p,_,rfl,u,l⟩ ?_ ?_ ?_
 ·rintro i d H' _ ⟨p,f,rfl,_,e⟩;exact e.seq m
 ·rintro i x d H' v ⟨p,f,rfl,hp,e⟩;obtain⟨b,q,rfl,g,B⟩:=(j.same e).get v;have z:OkQ q:=hok q (yb g);have y:=c i;walk_at "x";rename_i p2 H2 t r;refine⟨p2,_,rfl,?_,e.trans t⟩
  have:qs.take (i+1)=qs.take i++[q]:=by
   obtain⟨hi,rfl⟩:=yh.mp g;exact yaV hi
  rw[this,zdu];exact r
 ·rintro d H' ⟨p,f,rfl,hp,e⟩;rw[j.length,yw]at hp;walk_at "x";exact k _ _ e hp
def ziX(T:Txt K mg):T.d_shares_paid.Ok P w base 4 (zfT K):=by
 refine T.d_shares_paid.F.okN sc_shares_paid "0d" λa0 A outer s H vs Q E C h=>?_;obtain⟨l,y,f,q,rfl,hl,u,hy,hs,k⟩:=h;refine⟨_,(zh (zD 2 sc_shares_paid (zaa ze))
 (zh (zD 3 sc_shares_paid (pv 1))
 (zh (zaf PassesOwn.never rfl (z9 K (pv 0)) (zI (i:=4) sc_shares_paid.nd rfl (Or.inl rfl))
 (zh (zD 5 sc_shares_paid (qD T.d_least (zha T) C (za (pv 3) (za (zV (za (pv 4) (za zi ze))) ze))))
 (zh (zD 3 sc_shares_paid (qD T.d_minus (zfa T) C (za (pv 3) (za (pv 5) ze))))
 (zj (za4 (qAp K (pv 2) (za (zcy (zF zcl (pv 4) zi (nomark _)) (qD T.d_over (zmv T) C (za (pv 5) (za (zV (za (pv 4) (za zi ze))) ze))) (zV (za zi (za zi ze)))) ze)))))))
 (zj (zy (pv 2)))))),?_⟩
 refine zE (σ0:=[some (.ref l),some (.ref y),none,none,none,none]) rfl ?_;walk_at "x";rename_i sh H0 L e0 o;refine zbR (xs:=(vec 3 f).map V.int) (λi m H'=>∃(p:Addr) (vs:List V) (D M:Option V),m=[some (.ref l),some (.ref y),some (.ref sh),some (.ref p),D,M]/\IsQ H' p (zaB f q i)/\H' sh=some (.lst vs)/\IsQs H' vs ((List.range i).map (zad f q))/\Same H H') ⟨y,[],_,_,rfl,e0.at hy,o,trivial,e0⟩ ?_ ?_ ?_
 ·rintro i m H' _ ⟨_,_,_,_,_,_,_,_,e⟩;exact SqL.of (e.at hl)
 ·rintro i x m H1 z ⟨p,vs,D,M,rfl,hp,b,a,Y⟩;have hi:i<3:=by
   have:=(yh.mp z).1
   rwa [ya,zG]at this
  have ex:x=.int (f i):=by rw[ye,zK hi]at z;exact(yn z).symm
  subst ex;obtain⟨f0,f1⟩:=u i hi;have Z:=hs.rest u (yaS hi);have zl:=hs.laid u hi;have X:=zfj f0 f1;have o1:OkQ (zaB f q i):=Z.ok "0a" "0a";have o2:OkQ (zac f q i):=zl.ok "0a" "0a";have z8:SzQ ((f i:Int):Rat) 8999 8999:=X.mono "0a" "0a";have a2:vs.length<=3:=by have:=a.length;rw[ya,yx]at this;lia
  walk_at "x";refine zax (q:=((f i:Int):Rat)) ⟨rfl,rfl⟩ ?_;intro t H2 j ht;refine zbN ?_;refine zn6 (j.at hp) ht (Z.mono "0a" "0a") (X.mono "0a" "0a") λc hc=>?_;have N:IsQ H2 c (zac f q i):=hc;have a1:IsQ H2 p (zaB f q i):=j.at hp;walk_at "x"
  ·rename_i d H3 g B O;refine zax (q:=((f i:Int):Rat)) ⟨rfl,rfl⟩ ?_;intro t2 H4 U J;have R:((f i:Int):Rat).num≠0:=by show f i≠0;lia
   have n:IsQ H4 c (zac f q i):=U.at (g.at N);have I:H4 sh=some (.lst vs):=U.at (g.at (j.at b));refine zbN ?_;refine zjQ n J o2 z8 R ?_;intro G W e5 S;walk_at "x";rename_i v b6 r;refine⟨d,vs++[.ref G],_,_,rfl,?_,r,?_,∅⟩
   ·show IsQ v d (zaB f q i-zac f q i);walk_at "h"
   ·rw[yA,yi,yM,show zad f q i=zac f q i/((f i:Int):Rat)from if_pos O];exact IsQs.app ∅ ∅
  ·rename_i d H3 g B O;refine zax (q:=(0:Rat)) ⟨rfl,rfl⟩ ?_;intro G W e5 S;have I:W sh=some (.lst vs):=e5.at (g.at (j.at b));walk_at "x";rename_i v b6 r;refine⟨d,vs++[.ref G],_,_,rfl,?_,r,?_,∅⟩
   ·show IsQ v d (zaB f q i-zac f q i);walk_at "h"
   ·rw[yA,yi,yM,show zad f q i=0 from if_neg O];exact IsQs.app ∅ ∅
 ·rintro m H1 ⟨p,vs,D,M,rfl,hp,b,a,Y⟩;rw[ya,zG]at a;walk_at "x";exact k _ _ _ L Y b a
def zsG(T:Txt K mg):T.d_paid.Ok P w base 5 (zi1 K):=by
 refine T.d_paid.F.okN zio "0d" λaq A outer s H vs Q E hr h=>?_;obtain⟨a,y,ds,ws,qs,rfl,⟨xs,hS,hT⟩,hy,hq,hd,hl,h9,hs,k⟩:=h;have ab:=hq.length;have aw:∀d∈ds,zo (ws.length:Int) d:=by rw[ab];exact λd h=>(hd d h).1
 have b1:IsSh K H a ds:=⟨xs,hS,hT⟩
 refine⟨_,(zh (zD 2 zio (qD T.d_ranked (zfX T) hr (za (zaU K T.z_len "0k") (za (pv 0) ze))))
 (zh (zD 3 zio (qC2 K ["member", "lay", "owed"] [none,none,some 2] (zaW K T.z_enumerate "0k") (λ_ _ _ _ _=>(qD T.d_shares_paid (ziX T) hr (za (qIx K (pv 2) (pv 0)) "0k")))))
 (zj (zy (qC1 ["due", "shares"] [none,some 3] (z9 K (pv 0)) (λ_ _ _ _ _=>(qD T.d_times (zd9 T) hr (za (zV (za (qIx K (pv 0) zi) (za zi ze))) (za (qIx K (qIx K (pv 1) (qIx K (pv 0) zi)) (qIx K (pv 0) zi)) ze))))))))),?_⟩
 refine zE (σ0:=[some (.ref a),some (.ref y),none,none]) rfl ?_;walk_at "x";rename_i su H1 as av J ag a8 hR hF;rw[ym]at a8;have ac:=hq.same J;have ah:=J.at hy;have U:∀i j,j<3->0<=zA ds i j/\zA ds i j<=100000000000000:=λi j _=>by
  have:=zdc (m:=i) (r:=j) ds λd h=>⟨(hd d h).1.2.2.2.2.2.2.2.1,(hd d h).2⟩
  lia
 refine zaz (zab (K:=K) (a:=y) (xs:=ws)) (λH' e=>SqL.of (e.at ah)) rfl (λi vs H'=>∃as:List Addr,vs=as.map V.ref/\as.length=i/\∀(m:Nat) (b:Addr),as[m]?=some b->∃us,H' b=some (.lst us)/\H1 b=none/\IsQs H' us ((List.range 3).map (zad (zA ds m) (qs.getD m 0)))) (λH' _=>⟨[],rfl,rfl,λm b h=>nomatch h⟩) ?_ ?_
 ·rintro i x D vs o o' H2 H3 hi hD u S l ⟨bs,rfl,X,n⟩ g ⟨t,v,rfl,hx,ht⟩;obtain⟨b,q,rfl,a3,hb⟩:=(ac.same (u.trans g)).get hx;have ar:H3 t=some (.tup [.int (i:Int),.ref b]):=ht;obtain⟨c,hc⟩:=zC (show((i:Int)).toNat<as.length by lia);have Y:=(hR.same (u.trans g)).2 _ _ hc;rw[ym]at Y;have hf:=U i;have b0:=hs.lay (yb a3);have ap:H3 su=some (.lst (as.map V.ref)):=(u.trans g).at ag;have G:qs.getD i 0=q:=by rw[yf,a3];rfl
  walk_at "x";rename_i sp H4 us Z B ae aj H5 b5 h5;have O:sp≠D:=zdN Z (g.at S);refine⟨⟨_,_,rfl⟩,∅,_,h5,by rw[yc];exact yl l,bs++[sp],by rw[yi];rfl,by rw[yc,X];rfl,λm b' f=>?_⟩;rw[yaH]at f;split at f
  ·obtain⟨al,u1,u2,R⟩:=n m b' f;have ai:b'≠D:=λz=>by
    subst z;rw[S]at u1;cases u1;cases bs with
    | nil=>cases f
    | cons z0 zs=>
     obtain⟨az,w1,_,_⟩:=n 0 z0 rfl;have am:IsQs H2 (V.ref z0 :: zs.map V.ref) (zad (zA ds m) (qs.getD m 0) 0 :: [zad (zA ds m) (qs.getD m 0) 1,zad (zA ds m) (qs.getD m 0) 2]):=R;obtain⟨⟨a0,w2,w3⟩,_⟩:=am;cases w2;have M:H2 z0=some (.tup _):=w3;rw[w1]at M;cases M
   exact⟨al,b5.lst (B.at (g.at u1)) ai,u2,LBut.isQs b5 (R.same (g.trans B))⟩
  ·rename_i hm;have e0:m-bs.length=0:=by
    cases e:m-bs.length with
    | zero=>rfl
    | succ k=>rw[e]at f;cases f
   rw[e0]at f;cases f;obtain rfl:m=i:=by lia
   rw[G];exact⟨us,b5.lst ae O,Same.none (Same.none Z g) u,LBut.isQs b5 aj⟩
 rintro a7 H2 vs ao u W l ⟨bs,rfl,X,n⟩;walk_at "x";have a6:=hT.same (J.trans u);have aa:SqL K H2 a xs:=(J.trans u).seq hS;have a9:=hT.length;refine zN (zW (K:=K) (a:=a) (xs:=xs)) (λH' e=>e.seq aa) rfl (λi vs H'=>IsQs H' vs ((ds.take i).map (zX ds qs))) (λH' _=>trivial) ?_ ?_
 ·rintro i x D vs o H3 H4 hi hD g S l C B hx;obtain⟨b,d,rfl,I,hb⟩:=(a6.same (g.trans B)).get hx;have f:H4 b=some (.tup [.int d.p,.int d.q,.int d.r,.int d.a]):=hb;obtain⟨⟨p0,p1,q0,q1,pq,r0,r1,a0,a1⟩,a2⟩:=hd d (yb I);obtain⟨c,hc⟩:=zC (show d.p.toNat<bs.length by lia);obtain⟨us,u1,u2,R⟩:=n _ _ hc;have ul:=R.length;rw[ya,yx]at ul;obtain⟨v,a4⟩:=zC (show d.r.toNat<us.length by lia);obtain⟨e,s,rfl,a5,ad⟩:=(R.same (g.trans B)).get a4;have ak:d.r.toNat<3:=by lia
  have es:s=zad (zA ds d.p.toNat) (qs.getD d.p.toNat 0) d.r.toNat:=by
   rw[ye,yU ak]at a5;exact(yn a5).symm
  have ay:atI us d.r=some (.ref e):=zaZ r0 a4;have af:H4 c=some (.lst us):=(g.trans B).at u1;have L:H4 a7=some (.lst (bs.map V.ref)):=(g.trans B).at W;obtain⟨lq,N⟩:=zC (show d.p.toNat<qs.length by lia);have G:qs.getD d.p.toNat 0=lq:=by rw[yf,N];rfl
  have zs:=hs.share hd (yb I) N;rw[<- G,<- es]at zs;have o1:OkQ ((d.a:Int):Rat):=(zfj a0 a1).ok "0a" "0a";have o2:OkQ s:=zs.ok "0a" "0a";walk_at "x";refine zax (q:=((d.a:Int):Rat)) ⟨rfl,rfl⟩ ?_;intro t H5 e5 ht;have ax:IsQ H5 e s:=e5.at ad;have b2:=e5.at af;have an:=e5.at L;have au:=e5.at f;walk_at "x";rename_i p H6 e6 b3 H7 b7 h7;refine⟨⟨_,rfl⟩,∅,_,h7,by rw[yc];exact yl l,?_⟩;show IsQs H7 _ ((ds.take (i+1)).map (zX ds qs));rw[zai I,yi,yM,show zX ds qs d=((d.a:Int):Rat)*s by rw[es];rfl];exact IsQs.app ∅ ∅
 ·rintro D H3 vs hD g S l C;rw[a9,yw]at C;exact k _ _ _ (Same.none (Same.none hD u) J) (J.trans (u.trans g)) S C
def zty(T:Txt K mg):T.d_got.Ok P w base 6 (zlC K):=by
 refine T.d_got.F.okN sc_got "0d" λak A outer s H vs Q E hr h=>?_;obtain⟨a,y,ds,ws,qs,rfl,⟨xs,hS,hT⟩,hy,hq,hd,hl,h9,hs,k⟩:=h;have ab:=hq.length;have ao:=hT.length;have ar:IsSh K H a ds:=⟨xs,hS,hT⟩
 refine⟨_,(zh (qS1 2 sc_got ["lay"] [none] (z9 K (pv 1)) (λ_ _ _ _ _=>(zaa ze)))
 (zh (zaf PassesOwn.never rfl (zaW K T.z_enumerate (za (qD T.d_paid (zsG T) hr (za (pv 0) "0k")) ze)) (show PG _ _ (zbs K 2 _)from zaS (n:=2) rfl (zH (zI (i:=3) sc_got.nd rfl (Or.inl rfl)) (zH (zI (i:=4) sc_got.nd rfl (Or.inl rfl)) zaD)))
 (zj (za4 (qAp K (qIx K (pv 2) (qIx K (qIx K (pv 0) (pv 3)) zi)) (za (pv 4) ze)))))
 (zj (zy (qC1 ["some"] [none] (z9 K (pv 2)) (λ_ _ _ _ _=>(qD T.d_total (zp0 T) hr (za (pv 0) ze)))))))),?_⟩
 refine zE (σ0:=[some (.ref a),some (.ref y),none,none,none]) rfl ?_;walk_at "x";refine zN (zW (K:=K) (a:=y) (xs:=ws)) (λH' e=>SqL.of (e.at hy)) rfl (λi vs H'=>∃as:List Addr,vs=as.map V.ref/\as.length=i/\PRows H' as (λ_=>[])/\(∀b∈as,H b=none)/\∀b∈as,H' b=some (.lst [])) (λH' _=>⟨[],rfl,rfl,⟨yaE,λi a h=>nomatch h⟩,(λ_ h=>nomatch h),λ_ h=>nomatch h⟩) ?_ ?_
 ·rintro i x D vs o H2 H3 hi hD e2 X G ⟨as,rfl,R,hR,hF,hE⟩ B hx;walk_at "x";rename_i p W fp f hp H5 L h5;have a4:D∉as:=λz=>by
   have:=hE D z
   rw[X]at this;cases as with
   | nil=>cases z
   | cons z0 zs=>cases this
  have a6:p≠D:=zdN fp (B.at X);refine⟨⟨_,rfl⟩,∅,_,h5,by rw[yc];exact yl G,as++[p],by rw[yi];rfl,by rw[yc,R];rfl,PRows.app ((hR.same (B.trans f)).but L a4) ((hR.same B).fresh fp) (L.lst hp a6) rfl,λb hb=>?_,λb hb=>?_⟩
  ·rcases yL.mp hb with h | h
   ·exact hF b h
   ·rw[yu.mp h];exact Same.none fp (e2.trans B)
  ·rcases yL.mp hb with h | h
   ·exact L.lst ((B.trans f).at (hE b h)) λz=>a4 (z▸h)
   ·rw[yu.mp h];exact L.lst hp a6
 rintro ga H1 vs an e1 hga G ⟨as,rfl,R,hR,hF,hE⟩;walk_at "x";rename_i pl H2 us a8 e2 af Z;have a7:=Z.length;rw[ya]at a7;have aj:pl∉as:=hR.fresh a8;have a9:ga∉as:=λz=>by
  have:=hE ga z
  rw[hga]at this;cases as with
  | nil=>cases z
  | cons z0 zs=>cases this
 refine zc1 (zab (K:=K) (a:=pl) (xs:=us)) (λi σ' H'=>∃f3 f4:Option V,σ'=[some (.ref a),some (.ref y),some (.ref ga),f3,f4]/\H' pl=some (.lst us)/\IsQs H' us (ds.map (zX ds qs))/\H' ga=some (.lst (as.map V.ref))/\PRows H' as (zby (ds.take i) (zX ds qs))/\Same H H') ⟨_,_,rfl,af,Z,e2.at hga,hR.same e2,e1.trans e2⟩ ?_ ?_ ?_
 ·rintro i σ' H' ⟨_,_,_,h,_⟩;exact SqL.of h
 ·rintro i x σ' H3 W hi ⟨f3,f4,rfl,N,I,C,J,B⟩ f ⟨t,v,rfl,hx,ag⟩;obtain⟨d,M⟩:=zC (show i<ds.length by lia);obtain⟨⟨p0,p1,q0,q1,pq,r0,r1,a0,a1⟩,a2⟩:=hd d (yb M);obtain⟨b,r,rfl,a5,hb⟩:=(I.same f).get hx;have er:r=zX ds qs d:=by rw[ye,M]at a5;exact(yn a5).symm
  subst er;have aq:W t=some (.tup [.int (i:Int),.ref b]):=ag;obtain⟨c,aa,ah⟩:=(hT.same (B.trans f)).getI M;have au:W c=some (.tup [.int d.p,.int d.q,.int d.r,.int d.a]):=ah;have ap:atI xs (i:Int)=some (.ref c):=zO aa;obtain⟨l,j⟩:=zC (show d.q.toNat<as.length by lia);obtain⟨zs,z1,z2⟩:=(J.same f).2 _ _ j;have al:=z2.length;have a3:=zfZ (ds:=ds.take i) (g:=zX ds qs) (m:=d.q.toNat);rw[yaC]at a3;have U:=yb j;have fl:=hF l U;have Y:=f.at C;have am:SqL K W a xs:=(B.trans f).seq hS;walk_at "x";rename_i H5 L h5;have ae:pl≠l:=λz=>aj (z▸U);have ac:ga≠l:=λz=>a9 (z▸U);have R5:=(J.same f).set L j z1 hb h5;refine⟨_,_,rfl,L.lst (f.at N) ae,LBut.isQs L (I.same f),L.lst Y ac,?_,∅⟩;refine⟨R5.1,λm bb ad=>?_⟩;obtain⟨S,w1,w2⟩:=R5.2 m bb ad;refine⟨S,w1,?_⟩;rw[zai M,zhF];by_cases e:d.q=(m:Int)
  ·rw[if_pos e];have u:IsQs H5 S (if m=d.q.toNat then zby (ds.take i) (zX ds qs) m++[zX ds qs d]else zby (ds.take i) (zX ds qs) m):=w2;rw[if_pos ⋯]at u;exact u
  ·rw[if_neg e,yag];have u:IsQs H5 S (if m=d.q.toNat then zby (ds.take i) (zX ds qs) m++[zX ds qs d]else zby (ds.take i) (zX ds qs) m):=w2;rw[if_neg ⋯]at u;exact u
 ·rintro σ' H3 ⟨f3,f4,rfl,N,I,C,J,B⟩;rw[a7,yw]at J;walk_at "x";refine zN (zW (K:=K) (a:=ga) (xs:=as.map V.ref)) (λH' e=>SqL.of (e.at C)) rfl (λi vs H'=>IsQs H' vs ((List.range i).map (zL ds (zX ds qs)))) (λH' _=>trivial) ?_ ?_
  ·rintro i x D vs o W H5 hi hD f X G O e5 hx;rw[ya]at hi;obtain⟨l,j⟩:=zC hi;have ex:x=.ref l:=by rw[ye,j]at hx;exact(yn hx).symm
   subst ex;obtain⟨zs,z1,z2⟩:=(J.same (f.trans e5)).2 _ _ j;have o1:=hs.gain hd i;have o2:=hs.sums hd hl i;walk_at "x";rename_i p H6 e6 ai H7 b7 h7;refine⟨⟨_,rfl⟩,∅,_,h7,by rw[yc];exact yl G,?_⟩;show IsQs H7 _ ((List.range (i+1)).map (zL ds (zX ds qs)));rw[yA,yi,yM];exact IsQs.app (LBut.isQ b7 ai) ∅
  ·rintro D W vs hD f X G O;rw[ya,R,ab]at O;exact k D W vs (Same.none hD B) (B.trans f) X O
def zmZ(T:Txt K mg):T.d_ends_by.Ok P w base 7 (zkx K):=by
 refine T.d_ends_by.F.okN zhX "0d" λa5 A outer s H vs Q E hr h=>?_;obtain⟨a,u,y,ds,ps,ws,qs,rfl,ae,hu,hy,hq,hd,hl,h9,a8,hp,hs,k⟩:=h;have a7:=hq.length;refine⟨_,(zh (zD 3 zhX (qD T.d_got (zty T) hr (za (pv 0) (za (pv 2) ze))))
 (zj (zy (qC2 K ["member", "purse", "gains", "lays"] [none,none,some 3,some 2] (zaW K T.z_enumerate "0k") (λ_ _ _ _ _=>(qD T.d_minus (zfa T) hr (za (qD T.d_plus (zey T) hr (za (zV (za (pv 1) (za zi ze))) (za (qIx K (pv 2) (pv 0)) ze))) (za (qIx K (pv 3) (pv 0)) ze)))))))),?_⟩
 refine zE (σ0:=[some (.ref a),some (.ref u),some (.ref y),none]) rfl ?_;walk_at "x";rename_i ga H2 us a6 B hga z;have W:=z.length;rw[ya,yx]at W;have R:=B.at hu;refine zaz (zab (K:=K) (a:=u) (xs:=ps.map V.int)) (λH' e=>SqL.of (e.at R)) rfl (λi vs H'=>IsQs H' vs ((List.range i).map (zdE ds ps qs))) (λH' _=>trivial) ?_ ?_
 ·rintro i x D vs o o' H3 H4 hi hD j hv C Y I ⟨t,v,rfl,hx,ht⟩;rw[ya]at hi;obtain⟨p,c⟩:=zC hi;have ex:v=.int p:=by rw[ye,c]at hx;exact(yn hx).symm
  subst ex;have S:H4 t=some (.tup [.int (i:Int),.int p]):=ht;obtain⟨p0,U⟩:=hp p (yb c);have N:ps.getD i 0=p:=by rw[yf,c];rfl
  obtain⟨v,f⟩:=zC (show i<us.length by lia);obtain⟨g,r,rfl,l,hg⟩:=(z.same (j.trans I)).get f;have a4:atI us (i:Int)=some (.ref g):=zO f;have er:r=zL ds (zX ds qs) i:=by rw[ye,yU ⋯]at l;exact(yn l).symm
  subst er;have b:=j.trans I;have n:H4 ga=some (.lst us):=b.at hga;obtain⟨v,m⟩:=zC (show i<ws.length by lia);obtain⟨gl,J,rfl,G,L⟩:=(hq.same (B.trans b)).get m;have a3:atI ws (i:Int)=some (.ref gl):=zO m;have a0:qs.getD i 0=J:=by rw[yf,G];rfl
  have O:=(B.trans b).at hy;have o1:OkQ ((p:Int):Rat):=(zfj p0 U).ok "0a" "0a";have o2:OkQ (zL ds (zX ds qs) i):=(hs.got hd hl i).ok "0a" "0a";have o3:OkQ (((p:Int):Rat)+zL ds (zX ds qs) i):=(hs.next (ps:=ps) hd hl p0 U i).ok "0a" "0a";have o4:OkQ J:=(hs.lay (yb G)).szq.ok "0a" "0a";clear b;walk_at "x";refine zax (q:=((p:Int):Rat)) ⟨rfl,rfl⟩ ?_;intro t2 H6 d ad;have a2:=d.at n;have ab:=d.at S;have aa:IsQ H6 g (zL ds (zX ds qs) i):=d.at hg;have a1:IsQ H6 gl J:=d.at L;have ac:=d.at O;walk_at "x";rename_i U H7 e7 a9 p2 H8 e8 Z H9 M X;refine⟨⟨_,_,rfl⟩,M.same ((((j.trans I).trans d).trans e7).trans e8) hD,_,X,by rw[yc];exact yl C,?_⟩;show IsQs H9 _ ((List.range (i+1)).map (zdE ds ps qs));rw[yA,yi,yM,show zdE ds ps qs i=((p:Int):Rat)+zL ds (zX ds qs) i-J by unfold zdE;rw[N,a0]];exact IsQs.app (LBut.isQ M Z) (LBut.isQs M (Y.same (((I.trans d).trans e7).trans e8)))
 ·rintro D H3 vs hD j hv C hQ;rw[ya]at hQ;exact k D H3 vs (Same.none hD B) (B.trans j) hv hQ
def zlO(T:Txt K mg):T.d_means_of.Ok P w base 1 (zsx K):=by
 refine T.d_means_of.F.okN zl3 "0d" λR A outer s H vs Q E hr h=>?_;obtain⟨u,r,n,pf,row,tr,rfl,hu,J,S,n9,t9,k⟩:=h;refine⟨_,(zj (zy (qC2 K ["member", "purse", "rows"] [none,none,some 1] (zaW K T.z_enumerate (za (pv 0) ze)) (λ_ _ _ _ _=>(zw (zat K) (pv 1) (zb7 K T.z_sum (za (qC1 ["row", "member"] [none,some 0] (z9 K (pv 2)) (λ_ _ _ _ _=>(qIx K (qIx K (pv 0) zi) (pv 1)))) ze))))))),?_⟩;refine zE (σ0:=[some (.ref u),some (.ref r)]) rfl ?_;walk_at "x";refine zaz (zab (K:=K) (a:=u) (xs:=(vec n pf).map V.int)) (λH' e=>SqL.of (e.at hu)) rfl (λi vs _=>vs=(vec i λi=>pf i+zct row tr.length i).map V.int) (λH' _=>rfl) ?_ ?_
 ·rintro i x D vs o o' L Y hi N C d G rfl p ⟨t,v,rfl,m,y⟩;rw[ya,zG]at hi;rw[ye,zK hi]at m;cases m;have b:=C.trans p;have B:=b.at J;have I:=S.same b;have a0:Y t=some (.tup [.int (i:Int),.int (pf i)]):=y;clear b;walk_at "x";refine zN (zW (K:=K) (a:=r) (xs:=tr.map λt=>V.ref t.1)) (λH' e=>SqL.of (e.at B)) rfl (λj vs _=>vs=(vec j λj=>(row j).gv i).map V.int) (λH' _=>rfl) ?_ ?_
  ·rintro j x M vs o2 Z H6 O c q f g rfl e6 m;rw[ya]at O;obtain⟨X,l⟩:=zC O;rw[ye,l]at m;cases m;obtain⟨h1,h2,h3⟩:=(I.same (q.trans e6)) j X l;have a2:atI ((vec n (row j).gv).map V.int) (i:Int)=some (.int ((row j).gv i)):=zO (by rw[ye,zK hi];rfl);walk_at "x";rename_i H7 b7 h7;exact CompN.int ⟨_,rfl⟩ ∅ h7 rfl
  ·rintro M Z vs c q f g rfl;rw[ya]at f;have a1:=(p.trans q).at d;have a3:M≠D:=λz=>by rw[z,p.at d]at c;cases c
   walk_at "x";rename_i H6 U W;exact CompN.int ⟨_,_,rfl⟩ (U.same ((C.trans p).trans q) N) W (by rw[zaI];rfl)
 ·rintro D L vs N C d G rfl;rw[ya,zG]at d;exact k D L ∅ ∅ d
def zm8(T:Txt K mg):T.d_outs_of.Ok P w base 2 (ztF K):=by
 refine T.d_outs_of.F.okN zhu "0d" λY A outer s H vs Q E R h=>?_;obtain⟨a,y,es,wl,qs,rfl,hS,hy,M,hd,a4,n9,Z,k⟩:=h;have c:=M.length;have a0:∀d∈es,zo (wl.length:Int) d:=by rw[c];exact λd h=>(hd d h).1
 refine⟨_,(zh (zD 2 zhu (qD T.d_owes (zsO T) R (za (zaU K T.z_len "0k") (za (pv 0) ze))))
 (zj (zy (zgw rfl (zaW K T.z_enumerate "0k") (zaJ (Ni:=["member", "lay", "owed"]) (caps:=[none,none,some 2]) (by rfl)) "0h" (λ_ _ _ _ _=>(zfE (zaV K (qD T.d_under (zg9 T) R (za (pv 1) (za (zV (za (qIx K (pv 2) (pv 0)) (za zi ze))) ze)))))) (λ_ _ _ _ _=>(pv 0)))))),?_⟩
 refine zE (σ0:=[some (.ref a),some (.ref y),none]) rfl ?_;walk_at "x";rename_i ow H1 X O p;rw[ym,c]at p;have C:=O.at hy;refine zaz (zab (K:=K) (a:=y) (xs:=wl)) (λH' e=>SqL.of (e.at C)) rfl (λi vs _=>vs=(zbz i es qs).map V.int) (λH' _=>rfl) ?_ ?_
 ·rintro i x D vs o o' U H4 hi W r z b rfl j ⟨t,v,rfl,hx,I⟩;have G:i<qs.length:=by lia
  obtain⟨g,q,rfl,u,hg⟩:=(M.same (O.trans (r.trans j))).get hx;have L:H4 t=some (.tup [.int (i:Int),.ref g]):=I;have N:=(r.trans j).at p;have hb:=ziJ (m:=i) es hd;have J:qs.getD i 0=q:=by rw[yf,u];rfl
  have s1:=Z q (yb u);have s2:SzQ (((zao es i:Int)):Rat) 60000 60000:=(zfj ⋯ ⋯).mono "0a" "0a";have a1:atI ((vec qs.length (zao es)).map V.int) (i:Int)=some (.int (zao es i)):=zO (by rw[ye,zK G];rfl);walk_at "x";refine zax (q:=((zao es i:Int):Rat)) ⟨rfl,rfl⟩ ?_;intro t2 H6 l a3;have a5:IsQ H6 g q:=l.at hg;have a2:=l.at L;walk_at "x"
  all_goals
   have B:zcM (i+1) es qs=zcM i es qs++if q<((zao es i:Int):Rat) then[i] else[]:=by
    unfold zcM;rw[yA,yaD];congr 1;rw[List.filter_cons,List.filter_nil,J,zds λd h=>(hd d h).1];simp only[decide_eq_true_eq]
  ·rename_i f H7 b7 h7;rw[if_pos f]at B;refine⟨⟨_,_,rfl⟩,b7.same ((r.trans j).trans l) W,_,h7,by rw[yc];exact yl b,?_⟩;show _=(zbz (i+1) es qs).map V.int;unfold zbz;rw[B,yi,yi];rfl
  ·rename_i f;rw[if_neg f,yag]at B;refine⟨⟨_,_,rfl⟩,(r.trans j).trans l,_,(j.trans l).at z,yaO b,?_⟩;show _=(zbz (i+1) es qs).map V.int;unfold zbz;rw[B]
 ·rintro D U vs W r z b rfl;rw[c]at z;exact k D U ∅ ∅ z
def zez(T:Txt K mg):T.d_settled_day.Ok P w base 8 (znD K T.c_NoLayer):=by
 refine T.d_settled_day.F.okX za2 (λvs H Q E h=>?_) (λau A outer s H vs Q E B h=>?_)
 ·obtain⟨a,u,p,s,o,own,ws,n,ds,pf,P,S,rfl,_⟩:=h;rfl
 obtain⟨a,u,p,sh,o,own,ws,n,ds,pf,P,S,rfl,al,hu,hp,hs,ho,n1,n9,hl,hd,a3,lP,lS,o0,hw,hC,k⟩:=h;have ah:∀d∈ds,zo (n:Int) d:=λd h=>(hd d h).1;have D:=zmf hl hd a3;have lG:Lit n (zah ds pf):=λi hi=>⟨(D i hi).1,by have:=(D i hi).2;lia⟩
 have N:zcC "0j":=zlj lG (λi hi=>(D i hi).2) a3 lP lS o0;have J:"0j".length=n:=zG;refine⟨_,(zh (zD 6 za2 (qD T.d_gaps_of (znx T) B (za (pv 0) "0k")))
 (zh (zD 7 za2 (qE T.d_layered (zm1 T) B (za (pv 5) (za (pv 6) (za (pv 2) (za (pv 3) (za (pv 4) ze)))))))
 (zh (zD 8 za2 (qD T.d_means_of (zlO T) B (za (pv 1) (za (qIx K (pv 7) zi) ze))))
 (zh (zD 9 za2 (qE T.d_safe_cut (zl1 T) B (za (pv 0) (za (pv 8) ze))))
 (zh (zD 10 za2 (qD T.d_with_amounts (zcQ T) B (za (pv 0) (za (pv 9) ze))))
 (zh (zD 11 za2 (qE T.d_cleared (zh6 T) B (za (pv 10) (za (pv 8) ze))))
 (zh (zD 12 za2 (qE T.d_ends_by (zmZ T) B (za (pv 10) (za (pv 8) (za (pv 11) ze)))))
 (zj (zy (zV (za (pv 6) (za (qIx K (pv 7) zi) (za (qIx K (pv 7) zi) (za (pv 9) (za (pv 11) (za (pv 12) (za (qD T.d_outs_of (zm8 T) B (za (pv 10) (za (pv 11) ze))) ze))))))))))))))))),?_⟩
 refine zE (σ0:=[some (.ref a),some (.ref u),some (.ref p),some (.ref sh),some (.int own),some (.ref o),none,none,none,none,none,none,none]) rfl ?_;walk_at "x";rename_i ga H1 aw z hga;have aj:=z.at ho;have ac:=z.at hp;have am:=z.at hs;refine zbN ?_;refine⟨o,ga,p,sh,own,ws,n,zah ds pf,P,S,rfl,SqL.of aj,SqL.of hga,SqL.of ac,SqL.of am,n9,lG,lP,lS,o0,hw,?_⟩;rcases k with⟨hv,k⟩ | ⟨hv,k⟩
 case inr=>exact .inr ⟨hv,λH' e=>k H' (z.trans e)⟩
 refine .inl ⟨hv,λp0 rs re tr H2 U=>?_⟩;have e2:=U.same;have aq:=U.lt;have ae:=U.hp;have hrs:=U.hrs;have ab:=(z.trans e2).at hu;walk_at "x";refine⟨u,rs,n,pf,_,tr,rfl,ab,hrs,U.rows,n9,by rw[U.len];exact hw,λme H3 b3 V O=>?_⟩;rw[U.len]at O;have t:=al.same ((z.trans e2).trans V);obtain⟨W,P',C⟩:=hC.self ah J N;walk_at "x";refine zqz t O C n1 ?_;intro le H4 g k0 az M hle Sf R ak Y ao hok;have ar:=t.same M;have a6:=M.at O;have b2:(vec ds.length g).length=ds.length:=zG;walk_at "x";rename_i af H5 us av G ai a5;rw[zlo rfl]at a5;have y:=G.at a6;obtain⟨⟨W',aa,C'⟩,ad⟩:=hC g _ Sf.bd J N;have ap:=Sf.ok hd;have Z:(zk ds g).length<=64:=by rw[zU];exact hl
 have v:IsSh K H5 af (zk ds g):=⟨us,SqL.of ai,a5⟩
 walk_at "x";refine zgV v y C' ?_;intro la H6 wl k1 ay m hla a0 L a4 f;have l:=v.same m;have X:=m.at y;have c:(zal n (zk ds g) "0j" k1).length=n:=zdd;have a7:∀d∈zk ds g,zo ((zal n (zk ds g) "0j" k1).length:Int) d/\d.a<=1000000000000:=by rw[c];exact ap
 have dp:=C'.deep ad f;have I:=C'.wide f;walk_at "x";refine zm0 l X hla a0 a7 Z (by rw[c];exact n9) (by rw[J,c]) N dp ?_;intro en H7 we b0 j hen a9;have a1:=(((((e2.trans V).trans M).trans G).trans m).trans j).at hga;have as:=((((V.trans M).trans G).trans m).trans j).at ae;have ag:=aq.same ((((V.trans M).trans G).trans m).trans j);have a8:=((G.trans m).trans j).at hle;have x:=j.at hla;have r:=a0.same j;have a2:=l.same j;have an:Same H H7:=(((((z.trans e2).trans V).trans M).trans G).trans m).trans j;clear z e2 V M G m j;walk_at "x";refine⟨af,la,zk ds g,wl,_,rfl,a2,x,r,a7,Z,by rw[c];exact n9,λq hq=>(I q hq).2.mono "0a" "0a",λou H8 ax e8 hou=>?_⟩;rw[c]at hou;walk_at "x";rename_i pt H9 b1 e9 hpt;have b:=e8.trans e9;exact k pt ga p0 rs re le la en ou tr g wl we k0 k1 H9 (an.trans b) ⟨hpt,b.at a1,ag.same b,b.at a8,b.at x,r.same b,b.at hen,a9.same b,e9.at hou,Sf,R,⟨W,P',C,Y,ao,hok⟩,⟨W',aa,C',L,a4,f⟩⟩
def zfz(T:Txt K mg):T.d__law_cell.Ok P w base 1 (ziM K):=by
 refine T.d__law_cell.F.okN zlw "0d" λd A outer s H vs Q E c h=>?_;obtain⟨a,ns,k,rfl,g,i,q⟩:=h;have hl:(ns.map V.int).length=ns.length:=ya ..;refine⟨_,(zh (zP (zF (qEq K c.units) (zaU K T.z_len (za (pv 0) ze)) zi (nomark _))
 (zj (zy zi))
 zJ)
 (zj (zy (qIx K (pv 0) (zw zb2 (pv 1) (zaU K T.z_len (za (pv 0) ze))))))),?_⟩
 refine zE (σ0:=[some (.ref a),some (.int k)]) rfl ?_;walk_at "x"
 ·exact q _
 ·rename_i h;have e:(0:Int)<((ns.map V.int).length:Int):=by lia
  have f:=yao k (b:=((ns.map V.int).length:Int)) ⋯;have j:=yak k e;exact zke g (ziW f (v:=ns.getD (k%((ns.map V.int).length:Int)).toNat 0) (by rw[yf];rw[yk ⋯];rfl)) (q _)
def zY(T:Txt K mg):T.d__law_draw.Ok P w base 2 (ziG K):=by
 refine T.d__law_draw.F.okN zlu "0d" λd A outer s H vs Q E c h=>?_;obtain⟨a,ns,k,m,rfl,i,b,h1,g,q⟩:=h;have f:=zrF b h1;have e:=ybH b b;refine⟨_,(zj (zy (zw zb2 (zw zb2 (zw zR (zw (zat K) (zw (zat K) (zw zb2 (qD T.d__law_cell (zfz T) c (za (pv 0) "0k")) zi) (zw zR (pv 1) (pv 1))) zi) zi) zi) (pv 2)))),?_⟩;refine zE (σ0:=[some (.ref a),some (.int k),some (.int m)]) rfl ?_;walk_at "x";exact q _ (yao _ ⋯) (yak _ ⋯)
def zj5(T:Txt K mg):T.d__law_great.Ok P w base 2 (zg5 K):=by
 refine T.d__law_great.F.okN zjY "0d" λe A outer s H vs Q E d h=>?_;obtain⟨a,ns,k,m,rfl,p,b,h1,n,j,q⟩:=h;have l:=zrF b h1;have g:=ybH b b;have c:∀i:Int,0<=i%m/\i%m<m:=λi=>⟨yao _ ⋯,yak _ ⋯⟩
 have f:∀i:Int,sz (i%m)<=200:=λi=>sz200 (by have:=c i;lia) (by have:=c i;lia);refine⟨_,(zj (zy (zw zb2 (zw (zat K) (zw (zat K) (zw zR (zw zb2 (qD T.d__law_cell (zfz T) d (za (pv 0) "0k")) (pv 2)) zi) (zw zR (zw zR (pv 1) (pv 1)) zi)) zi) (pv 2)))),?_⟩;refine zE (σ0:=[some (.ref a),some (.int k),some (.int m)]) rfl ?_;walk_at "x";rename_i x;have r:=f x;have o:sz k<=200:=sz200 ⋯ ⋯;walk_at "x";exact q _ (yao _ ⋯) (yak _ ⋯)
def zbS(T:Txt K mg):T.d__law_amount.Ok P w base 3 (zfK K):=by
 refine T.d__law_amount.F.okN zex "0d" λc A outer s H vs Q E b h=>?_;obtain⟨a,ns,k,m,rfl,g,e,h1,f,d,q⟩:=h;refine⟨_,(zh (zD 3 zex (qD T.d__law_draw (zY T) b (za (pv 0) (za (pv 1) (za zi ze)))))
 (zh (zP (zF zcV (pv 3) zi (nomark _))
 (zj (zy (pv 3)))
 zJ)
 (zh (zP (zF zcV (pv 3) zi (nomark _))
 (zj (zy (qD T.d__law_draw (zY T) b (za (pv 0) (za (zw (zat K) (pv 1) zi) (za zi ze))))))
 zJ)
 (zh (zP (zF (qEq K b.units) (pv 3) zi (nomark _))
 (zj (zy (zw zce (pv 2) (qD T.d__law_draw (zY T) b (za (pv 0) (za (zw (zat K) (pv 1) zi) (za zi ze)))))))
 zJ)
 (zj (zy (qD T.d__law_great (zj5 T) b (za (pv 0) (za (zw (zat K) (pv 1) zi) (za (zw (zat K) (pv 2) zi) ze)))))))))),?_⟩
 refine zE (σ0:=[some (.ref a),some (.int k),some (.int m),none]) rfl ?_;walk_at "x"
 all_goals exact q _ ⋯ ⋯
def zj3(T:Txt K mg):T.d__law_order.Ok P w base 3 (zsZ K):=by
 refine T.d__law_order.F.okN sc__law_order "0d" λG A outer s H vs Q E t h=>?_;obtain⟨a,ns,st,rfl,X,s0,s1,k⟩:=h;refine⟨_,(zh (zD 2 sc__law_order (zaa (za za3 (za za3 (za za3 (za za3 (za za3 ze)))))))
 (zh (zD 3 sc__law_order (zaa ze))
 (zh (zaf PassesOwn.never rfl (zZ rfl T.z_range (za (qD T.d__law_draw (zY T) t (za (pv 0) (za (pv 1) (za zi ze)))) ze)) (zI (i:=4) sc__law_order.nd rfl (Or.inl rfl))
 (zj (za4 (qAp K (pv 3) (za (show PE _ _ (tBM K _ _ _ _)from zhE yaJ PySem.F.slot_list_pop PySem.F.type_list_pop zq7 (pv 2) (za (qD T.d__law_draw (zY T) t (za (pv 0) (za (zw (zat K) (zw (zat K) (pv 1) zi) (pv 4)) (za (zaU K T.z_len (za (pv 2) ze)) ze)))) ze)) ze)))))
 (zj (zy (pv 3)))))),?_⟩
 refine zE (σ0:=[some (.ref a),some (.int st),none,none,none]) rfl ?_;walk_at "x";rename_i wl H1 p D l d H2 j B q x x0 Z;have g:H2 wl=some (.lst (words5.map V.str)):=B.at l;have m:wl≠d:=zQ l j;have b:H d=none:=Same.none j D;refine zcd (λi o H'=>∃(us vs:List Str) (n:Option V),o=[some (.ref a),some (.int st),some (.ref wl),some (.ref d),n]/\H' wl=some (.lst (vs.map V.str))/\H' d=some (.lst (us.map V.str))/\List.Perm (us++vs) words5/\us.length=i/\Same H H') ⟨[],words5,_,rfl,g,q,.refl _,rfl,D.trans B⟩ ?_ ?_
 ·rintro i o H' hi ⟨us,vs,n,rfl,u,r,hp,hl,e⟩;have f:us.length+vs.length=5:=by have:=hp.length_eq;rw[yc]at this;exact this
  have R:(vs.map V.str).length=vs.length:=ya ..;have W:(us.map V.str).length=us.length:=ya ..;have M:=e.seq X;walk_at "x";rename_i y I y1;obtain⟨v,c⟩:=zC (show y.toNat<vs.length by lia);obtain⟨J,O⟩:=yh.mp c;refine zth u I (y:=.str v) (by rw[ye,c];rfl) ⋯ λY C L=>?_;have S:=C.lst r m.symm;walk_at "x";rename_i H4 z U;refine⟨us++[v],vs.eraseIdx y.toNat,_,rfl,?_,by rw[yi];exact U,?_,by rw[yc,hl];rfl,z.same (C.same e p) b⟩
  ·rw[<- zor];exact z.lst L m
  ·refine List.Perm.trans ?_ hp;rw[ybR];refine List.Perm.append_left us ?_;exact znz c
 ·rintro o H' ⟨us,vs,n,rfl,u,r,hp,hl,e⟩;have f:us.length+vs.length=5:=by have:=hp.length_eq;rw[yc]at this;exact this
  walk_at "x";exact k d H' us b e r (λw N=>hp.mem_iff.mp (yt _ N)) (yaz.mp (hp.nodup_iff.mpr zk6)).1 ⋯
def zbc(T:Txt K mg):T.d__law_wholes.Ok P w base 1 (zeQ K):=by
 refine T.d__law_wholes.F.okN sc__law_wholes "0d" λf A outer s H vs Q E e h=>?_;obtain⟨a,ns,n,rfl,g,q⟩:=h;have hl:(ns.map V.int).length=ns.length:=ya ..;refine⟨_,(zh (zP (PW.pt (za6 (za1 (zaV K (zdB K T.z_isinstance (za (pv 0) (za (zcg (v:=.ty "list") rfl T.z_list BT.list rfl) ze))))) (zbp (zF (qNe K e.units) (zaU K T.z_len (za (pv 0) ze)) (pv 1) (nomark _)))))
 (zj (zy zbm))
 zJ)
 (zh (zaf PassesOwn.never rfl (z9 K (pv 0)) (zI (i:=2) sc__law_wholes.nd rfl (Or.inl rfl))
 (zj (zP (PW.pt (za6 (za1 (zaV K (zdB K T.z_isinstance (za (pv 2) (za (zcg (v:=.ty "int") rfl T.z_int BT.int rfl) ze))))) (zbp (zaV K (zdB K T.z_isinstance (za (pv 2) (za (zcg (v:=.ty "bool") rfl T.z_bool BT.bool rfl) ze)))))))
 (zj (zy zbm))
 zJ)))
 (zj (zy zbm)))),?_⟩
 refine zE (σ0:=[some (.ref a),some (.int n),none]) rfl ?_;walk_at "x"
 ·rename_i h;rw[decide_eq_false ⋯]at q;exact q
 ·rename_i h;rw[decide_eq_true ⋯]at q;refine zbR (xs:=ns.map V.int) (λi c H'=>∃d,c=[some (.ref a),some (.int n),d]/\H'=H) ⟨_,rfl,rfl⟩ ?_ ?_ ?_
  ·rintro i c H' _ ⟨_,_,rfl⟩;exact SqL.of g
  ·rintro i x c H' b ⟨d,rfl,rfl⟩;rw[ye]at b;cases hn:ns[i]? with
   | none=>rw[hn]at b;cases b
   | some m=>
    rw[hn]at b;cases b;walk_at "x";exact⟨_,rfl,rfl⟩
  ·rintro c j ⟨d,rfl,rfl⟩;walk_at "x";exact q
def zj7(T:Txt K mg):T.d__law_sheet.Ok P w base 4 (zpm K):=by
 refine T.d__law_sheet.F.okN sc__law_sheet "0d" λR A outer s H vs Q E m h=>?_;obtain⟨a,ns,st,n,c,rfl,hS,X,O,n0,n1,c0,c1,Y,q⟩:=h;refine⟨_,(zh (zD 4 sc__law_sheet (zaa ze))
 (zh (zaf PassesOwn.never rfl (zZ rfl T.z_range (za (pv 3) ze)) (zI (i:=5) sc__law_sheet.nd rfl (Or.inl rfl))
 (zh (zD 6 sc__law_sheet (zw (zat K) (pv 1) (zw zR zi (pv 5))))
 (zh (zD 7 sc__law_sheet (qD T.d__law_draw (zY T) m (za (pv 0) (za (pv 6) (za (pv 2) ze)))))
 (zh (zD 8 sc__law_sheet (zw zb2 (zw (zat K) (zw (zat K) (pv 7) zi) (qD T.d__law_draw (zY T) m (za (pv 0) (za (zw (zat K) (pv 6) zi) (za (zw zce (pv 2) zi) ze))))) (pv 2)))
 (zj (za4 (qAp K (pv 4) (za (zV (za (pv 7) (za (pv 8) (za (qD T.d__law_draw (zY T) m (za (pv 0) (za (zw (zat K) (pv 6) zi) (za zi ze)))) (za (qD T.d__law_amount (zbS T) m (za (pv 0) (za (zw (zat K) (pv 6) zi) (za (zw zfQ zi zi) ze)))) ze))))) ze))))))))
 (zj (zy (pv 4))))),?_⟩
 refine zE (σ0:=[some (.ref a),some (.int st),some (.int n),some (.int c),none,none,none,none,none]) rfl ?_;walk_at "x";rename_i l H1 W e1 hl;refine zcd (λi o H'=>∃vs ds J L u y,o=[some (.ref a),some (.int st),some (.int n),some (.int c),some (.ref l),J,L,u,y]/\H' l=some (.lst vs)/\IsTs zdC H' vs ds/\vs.length=i/\(∀d∈ds,zo n d/\d.a<=1000000000)/\Same H H') ?_ ?_ ?_
 ·exact⟨[],[],_,_,_,_,rfl,hl,trivial,rfl,(λ_ h=>nomatch h),e1⟩
 ·rintro i o H2 hi ⟨vs,ds,J,L,u,y,rfl,j,e,k,hd,M⟩;have a2:2<=n:=by
   refine Int.not_lt.mp λz=>?_
   have:=Y ⋯
   lia
  walk_at "x";rename_i b v I g a0 V N p B r x G t S ft e3 U H4 b4 h4;have q0:0<=(b+1+g)%n:=yao _ ⋯;have Z:(b+1+g)%n<n:=yak _ ⋯;have pq:b≠(b+1+g)%n:=by
   by_cases h:b+1+g<n
   ·rw[Int.emod_eq_of_lt ⋯ h];lia
   ·rw[<- Int.sub_emod_right,Int.emod_eq_of_lt ⋯ ⋯];lia
  have C:S t=some (.tup (zdC ⟨b,(b+1+g)%n,N,r⟩)):=U;refine⟨_,ds++[⟨b,(b+1+g)%n,N,r⟩],_,_,_,_,rfl,h4,IsTs.app (f:=zdC) (b4.tup C) ∅,by rw[yc,k];rfl,λd D=>?_,∅⟩;rcases yL.mp D with h | h
  ·exact hd d h
  ·rw[yu.mp h];exact⟨⟨v,I,q0,Z,pq,p,B,x,by show r<=_;lia⟩,G⟩
 ·rintro o H2 ⟨vs,ds,J,L,u,y,rfl,j,e,k,hd,M⟩;have a1:=e.length;walk_at "x";exact q _ _ vs ds W M j e hd ⋯
def ziO(T:Txt K mg):T.d__law_lowest.Ok P w base 1 zq5:=by
 refine T.d__law_lowest.F.okN zch "0d" λl A outer s H vs Q E j h=>?_;obtain⟨a,b,rfl,p,t,c,q⟩:=h;refine⟨_,(zh (zdb PassesOwn.never (zF zcl (pv 0) zi (nomark _))
 (zh (zD 2 zch (zw zb2 (pv 1) (pv 0)))
 (zh (zD 1 zch (pv 0))
 (zj (zD 0 zch (pv 2))))))
 (zj (zy (zbl (qEq K j.units) (pv 1) zi (nomark _))))),?_⟩
 refine zE (σ0:=[some (.int a),some (.int b),none]) rfl ?_;walk_at "x";refine⟨λm σ H'=>∃r k f,σ=[some (.int r),some (.int k),f]/\H'=H/\0<=k/\0<=r/\My.gc k r=1/\m=r.toNat,⟨_,_,_,_,rfl,rfl,⋯,p,by rw[My.gc_comm];exact c,rfl⟩,?_⟩;rintro m σ H' ⟨r,k,f,rfl,rfl,n,g,c,rfl⟩;walk_at "x"
 ·rename_i o;refine⟨λi d=>i=[some (.int (k%r)),some (.int r),some (.int (k%r))]/\d=H',?_,?_⟩
  ·rintro i d ⟨rfl,rfl⟩;have h1:=yao k (b:=r) ⋯;have h2:=yak k (b:=r) ⋯;exact⟨_,⋯,_,_,_,rfl,rfl,g,h1,by rw[My.gc_step];exact c,rfl⟩
  ·walk_at "x";exact⟨rfl,rfl⟩
 ·rename_i u;have e:r=0:=by lia
  rw[e,My.gc_zero_right n]at c;subst c;walk_at "x";exact q
def zfl(T:Txt K mg):T.d__law_parts.Ok P w base 2 (zoE K):=by
 refine T.d__law_parts.F.okN sc__law_parts "0d" λy A outer s H vs Q E g h=>?_;obtain⟨a,ws,qs,n,rfl,ha,r,M,C,k⟩:=h;have G:=r.length;refine⟨_,(zh (zP (PW.pt (za6 (za1 (zaV K (zdB K T.z_isinstance (za (pv 0) (za (zcg (v:=.ty "list") rfl T.z_list BT.list rfl) ze))))) (zbp (zF (qNe K g.units) (zaU K T.z_len (za (pv 0) ze)) (pv 1) (nomark _)))))
 (zj (zy zbm))
 zJ)
 (zh (zaf PassesOwn.never rfl (z9 K (pv 0)) (zI (i:=2) sc__law_parts.nd rfl (Or.inl rfl))
 (zh (zP (PW.pt (za6 (za1 (zaV K (zdB K T.z_isinstance (za (pv 2) (za (zcg (v:=.ty "tuple") rfl T.z_tuple BT.tuple rfl) ze))))) (zbp (za1 (zaV K (qD T.d__law_wholes (zbc T) g (za (zco K T.z_list (za (pv 2) ze)) (za zi ze))))))))
 (zj (zy zbm))
 zJ)
 (zj (zP (PW.pt (za6 (zF zcV (qIx K (pv 2) zi) zi (nomark _)) (za6 (zF zcV (qIx K (pv 2) zi) zi (nomark _)) (zbp (za1 (zaV K (qD T.d__law_lowest (ziO T) g (za (qIx K (pv 2) zi) (za (qIx K (pv 2) zi) ze)))))))))
 (zj (zy zbm))
 zJ))))
 (zj (zy zbm)))),?_⟩
 refine zE (σ0:=[some (.ref a),some (.int n),none]) rfl ?_;walk_at "x"
 ·exfalso;lia
 refine zbR (xs:=ws) (λi f H'=>∃p:Option V,f=[some (.ref a),some (.int n),p]/\Same H H') ⟨_,rfl,Same.refl _⟩ ?_ ?_ ?_
 ·rintro i f H' _ ⟨_,_,e⟩;exact SqL.of (e.at ha)
 ·rintro i x f H' I ⟨p,rfl,u⟩;obtain⟨b,q,rfl,j,z⟩:=(r.same u).get I;have l:=zay q;have m:0<=q.num:=Rat.num_nonneg.mpr (C q (yb j));have d:=ztc q;have c:H' b=some (.tup [.int q.num,.int "0l"]):=z;walk_at "x";refine zbN ?_;refine zqe c λL H2 D t o=>?_;have B:=t.at c;refine zfd (ns:=[q.num,"0l"]) o ?_;rw[decide_eq_true (show(([q.num,"0l"].length:Nat):Int)=2 from rfl)];rw[if_neg ⋯]at d;walk_at "x"
  all_goals first | (exfalso;lia) | skip
  refine⟨q.num,q.den,rfl,m,l,d,?_⟩;walk_at "x";exact⟨_,rfl,u.trans t⟩
 ·rintro f J ⟨p,rfl,e⟩;walk_at "x";exact k _ e
def zfL(T:Txt K mg):T.d__law_owed.Ok P w base 1 (zpH K):=by
 refine T.d__law_owed.F.okN sc__law_owed "0d" λL A outer s H vs Q E Z h=>?_;obtain⟨n,a,l,ds,g,rfl,⟨xs,J,I⟩,hl,O,n0,n1,hd,k⟩:=h;have B:=I.length;refine⟨_,(zh (qS1 3 sc__law_owed ["_law_k"] [none] (zZ rfl T.z_range (za (pv 0) ze)) (λ_ _ _ _ _=>zi))
 (zh (zaf PassesOwn.never rfl (zZ rfl T.z_range (za (zaU K T.z_len "0k") ze)) (zI (i:=4) sc__law_owed.nd rfl (Or.inl rfl))
 (zj (zcO (zw (zat K) (qIx K (pv 3) (qIx K (qIx K (pv 1) (pv 4)) zi)) (qIx K (pv 2) (pv 4))) (zc0 (pv 3) (qIx K (qIx K (pv 1) (pv 4)) zi) zaY))))
 (zj (zy (pv 3))))),?_⟩
 refine zE (σ0:=[some (.int n),some (.ref a),some (.ref l),none,none]) rfl ?_;walk_at "x";rename_i t H2 f R x;refine zcd (λi v H'=>∃u:Option V,v=[some (.int n),some (.ref a),some (.ref l),some (.ref t),u]/\H' t=some (.lst ((vec n.toNat (zao ((zk ds g).take i))).map V.int))/\Same H H') ⟨_,rfl,x,R⟩ ?_ ?_
 ·rintro i v D hi ⟨u,rfl,c,o⟩;obtain⟨d,j⟩:=zC (show i<ds.length by lia);obtain⟨b,C,y⟩:=(I.same o).getI j;have M:D b=some (.tup [.int d.p,.int d.q,.int d.r,.int d.a]):=y;obtain⟨p0,p1,q0,q1,pq,r0,r1,a0,a1⟩:=hd d (yb j);have U:(0:Int)+(i:Int)=i:=by lia
  rw[U];have Y:atI xs (i:Int)=some (.ref b):=zO C;have W:SqL K D a xs:=J.keep o;have X:=o.at hl;have G:atI ((vec ds.length g).map V.int) (i:Int)=some (.int (g i)):=zO (by rw[ye,zK ⋯];rfl);have nl:l≠t:=λz=>by rw[z,f]at hl;cases hl
  walk_at "x";rename_i H5 S N;refine⟨_,rfl,?_,S.same o f⟩;rw[N,zbf j];congr 3;refine zbt λm hm=>?_;rw[zbh];dsimp only;by_cases e:d.p=m
  ·rw[if_pos e,if_pos (show m=d.p.toNat by lia),show d.p.toNat=m by lia];rfl
  ·rw[if_neg e,if_neg (show ¬m=d.p.toNat by lia)]
 ·rintro v H3 ⟨u,rfl,c,o⟩;rw[ym,B,yaf (by rw[zU];exact yg _)]at c;walk_at "x";exact k _ _ f o c
def zeq(T:Txt K mg):T.d__law_net.Ok P w base 2 (zsa K):=by
 refine T.d__law_net.F.okN sc__law_net "0d" λa3 A outer s H vs Q E hr h=>?_;obtain⟨n,a,l,ds,g,rfl,⟨xs,B,W⟩,hl,S,n0,n1,hd,k⟩:=h;have M:=W.length;refine⟨_,(zh (qS1 3 sc__law_net ["_law_owed_here"] [none] (z9 K (qD T.d__law_owed (zfL T) hr (za (pv 0) (za (pv 1) (za (pv 2) ze))))) (λ_ _ _ _ _=>(zw zce zi (pv 0))))
 (zh (zaf PassesOwn.never rfl (zZ rfl T.z_range (za (zaU K T.z_len "0k") ze)) (zI (i:=4) sc__law_net.nd rfl (Or.inl rfl))
 (zj (zcO (zw (zat K) (qIx K (pv 3) (qIx K (qIx K (pv 1) (pv 4)) zi)) (qIx K (pv 2) (pv 4))) (zc0 (pv 3) (qIx K (qIx K (pv 1) (pv 4)) zi) zaY))))
 (zj (zy (pv 3))))),?_⟩
 refine zE (σ0:=[some (.int n),some (.ref a),some (.ref l),none,none]) rfl ?_;walk_at "x";refine⟨n,a,l,ds,g,rfl,⟨xs,B,W⟩,hl,S,n0,n1,hd,λow H1 a2 e1 I=>?_⟩;walk_at "x";have C:((vec n.toNat (zao (zk ds g))).map V.int).length=n.toNat:=by rw[ya,zG]
 refine zN (zW (K:=K) (a:=ow) (xs:=(vec n.toNat (zao (zk ds g))).map V.int)) (λH' e=>SqL.of (e.at I)) rfl (λi vs _=>vs=(vec i λi=>0-zao (zk ds g) i).map V.int) (λH' _=>rfl) ?_ ?_
 ·rintro i x D vs o H3 U hi hD f hv L rfl e4 Z;have N:i<n.toNat:=by lia
  rw[ye,zK N]at Z;cases Z;walk_at "x";rename_i H6 b6 h6;exact CompN.int ⟨_,rfl⟩ ∅ h6 rfl
 rintro y H2 vs G e2 u L rfl;rw[C]at u;have c:H y=none:=Same.none G e1;have v:=e1.trans e2;have a8:SqL K H2 a xs:=B.keep v;walk_at "x";refine zcd (λi R H'=>∃O:Option V,R=[some (.int n),some (.ref a),some (.ref l),some (.ref y),O]/\H' y=some (.lst ((vec n.toNat λm=>zaM ((zk ds g).take i) m-zao (zk ds g) m).map V.int))/\Same H H') ⟨_,rfl,u,v⟩ ?_ ?_
 ·rintro i R U hi ⟨O,rfl,j,f⟩;obtain⟨d,t⟩:=zC (show i<ds.length by lia);obtain⟨b,X,J⟩:=(W.same f).getI t;have a4:U b=some (.tup [.int d.p,.int d.q,.int d.r,.int d.a]):=J;obtain⟨p0,p1,q0,q1,pq,r0,r1,a0,a1⟩:=hd d (yb t);have ei:(0:Int)+(i:Int)=i:=by lia
  rw[ei];have a7:atI xs (i:Int)=some (.ref b):=zO X;have a5:SqL K U a xs:=B.keep f;have a6:=f.at hl;have Y:atI ((vec ds.length g).map V.int) (i:Int)=some (.int (g i)):=zO (by rw[ye,zK ⋯];rfl);have nl:l≠y:=λz=>by rw[z,c]at hl;cases hl
  walk_at "x";rename_i H5 b5 h5;refine⟨_,rfl,?_,b5.same f c⟩;rw[h5,zbf t];congr 3;refine zbt λm hm=>?_;rw[za7];dsimp only;by_cases e:d.q=m
  ·rw[if_pos e,if_pos (show m=d.q.toNat by lia),show d.q.toNat=m by lia,ym];lia
  ·rw[if_neg e,if_neg (show ¬m=d.q.toNat by lia)]
 ·rintro R H3 ⟨O,rfl,j,f⟩;rw[ym,M,yaf (by rw[zU];exact yg _)]at j;walk_at "x";exact k _ _ c f j
def zj1(T:Txt K mg):T.d__law_given.Ok P w base 2 (zn7 K):=by
 refine T.d__law_given.F.okN sc__law_given "0d" λW A outer s H vs Q E c h=>?_;obtain⟨r,o,n,row,tr,ws,rfl,hR,Z,O,ho,n9,w9,m,k⟩:=h;have a4:(ws.map V.str).length=ws.length:=ya ..;have ab:(tr.map λt=>V.ref t.1).length=ws.length:=by rw[ya,O]
 refine⟨_,(zh (zD 3 sc__law_given (qC1 ["_law_k"] [none] (zZ rfl T.z_range (za (pv 2) ze)) (λ_ _ _ _ _=>zi)))
 (zh (zP (PW.pt (za6 (za1 (zaV K (zdB K T.z_isinstance (za (pv 0) (za (zcg (v:=.ty "list") rfl T.z_list BT.list rfl) ze))))) (zbp (zF (qNe K c.units) (zaU K T.z_len (za (pv 0) ze)) (zaU K T.z_len "0k") (nomark _)))))
 (zj (zy zbo))
 zJ)
 (zh (zaf PassesOwn.never rfl (zZ rfl T.z_range (za (zaU K T.z_len "0k") ze)) (zI (i:=4) sc__law_given.nd rfl (Or.inl rfl))
 (zh (zD 5 sc__law_given (qIx K (pv 0) (pv 4)))
 (zh (zP (PW.pt (za6 (za1 (zaV K (zdB K T.z_isinstance (za (pv 5) (za (zcg (v:=.ty "tuple") rfl T.z_tuple BT.tuple rfl) ze))))) (za6 (zF (qNe K c.units) (zaU K T.z_len (za (pv 5) ze)) zi (nomark _)) (za6 (za1 (zaV K (zdB K T.z_isinstance (za (qIx K (pv 5) zi) (za (zcg (v:=.ty "str") rfl T.z_str BT.str rfl) ze))))) (zbp (zF (qNe K c.units) (qIx K (pv 5) zi) (qIx K (pv 1) (pv 4)) (nomark _)))))))
 (zj (zy zbo))
 zJ)
 (zh (zP (PW.pt (za6 (za1 (zaV K (qD T.d__law_wholes (zbc T) c (za (qIx K (pv 5) zi) (za (pv 2) ze))))) (za6 (za1 (zaV K (qD T.d__law_wholes (zbc T) c (za (qIx K (pv 5) zi) (za (zw (zat K) (pv 2) zi) ze))))) (zbp (zF (qNe K c.units) (zb7 K T.z_sum (za (qIx K (pv 5) zi) ze)) (zb7 K T.z_sum (za (qIx K (pv 5) zi) ze)) (nomark _))))))
 (zj (zy zbo))
 zJ)
 (zj (zD 3 sc__law_given (qC1 ["_law_m", "_law_given_here", "_law_row"] [none,some 3,some 5] (zZ rfl T.z_range (za (pv 2) ze)) (λ_ _ _ _ _=>(zw (zat K) (qIx K (pv 1) (pv 0)) (qIx K (qIx K (pv 2) zi) (pv 0)))))))))))
 (zj (zy (pv 3)))))),?_⟩
 refine zE (σ0:=[some (.ref r),some (.ref o),some (.int (n:Int)),none,none,none]) rfl ?_;walk_at "x"
 ·exfalso;lia
 rename_i gi H2 C e2 q ae;rw[ym]at q;refine zcd (λi B H'=>∃(gi:Addr) (L M:Option V),B=[some (.ref r),some (.ref o),some (.int (n:Int)),some (.ref gi),L,M]/\H' gi=some (.lst ((vec n (zct row i)).map V.int))/\H gi=none/\Same H H') ⟨gi,_,_,rfl,q,C,e2⟩ ?_ ?_
 ·rintro i B R hi ⟨S,L,M,rfl,a,g,b⟩;have z:i<ws.length:=by lia
  obtain⟨u,p⟩:=zC (show i<tr.length by lia);obtain⟨h1,h2,h3⟩:=(Z.same b) i u p;obtain⟨J,N⟩:=m i z;have ei:(0:Int)+(i:Int)=i:=by lia
  rw[ei];have a2:=b.at hR;have ad:=b.at ho;have aa:atI (tr.map λt=>V.ref t.1) (i:Int)=some (.ref u.1):=zO (by rw[ye,p];rfl);have U:atI (ws.map V.str) (i:Int)=some (.str (row i).w):=zO (by rw[ye,J];rfl);have a5:(vec n (row i).gv).length=n:=zG;have a8:(vec n (row i).f++[(row i).x]).length=n+1:=by rw[yc,zG];rfl
  have a0:(row i).w=(row i).w:=rfl;have a3:(((vec n (row i).f++[(row i).x]).length:Nat):Int)=(n:Int)+1:=by lia
  have a1:zS (vec n (row i).gv)=zS (vec n (row i).f++[(row i).x]):=by rw[zdl,zaI,zaI];exact N
  have a7:((([V.str (row i).w,V.ref u.2.1,V.ref u.2.2]:List V).length:Nat):Int)=3:=rfl;walk_at "x";refine zN zbw (λ_ _=>trivial) rfl (λj vs _=>vs=(vec j (zct row (i+1))).map V.int) (λ_ _=>rfl) ?_ ?_
  ·rintro j x D vs o' H4 H5 hj hD l hv I rfl G rfl;have e:j<n:=by lia
   have ej:(0:Int)+(j:Int)=j:=by lia
   have ac:=(l.trans G).at a;have X:=(l.trans G).at h1;have a9:=(l.trans G).at h2;have Y:atI ((vec n (zct row i)).map V.int) (j:Int)=some (.int (zct row i j)):=zO (by rw[ye,zK e];rfl);have a6:atI ((vec n (row i).gv).map V.int) (j:Int)=some (.int ((row i).gv j)):=zO (by rw[ye,zK e];rfl);rw[ej];walk_at "x";rename_i H6 b6 h6;exact CompN.int ⟨_,rfl⟩ ∅ h6 rfl
  ·rintro g4 H4 vs y l d I rfl;rw[ym]at d;exact⟨g4,_,_,rfl,d,Same.none y b,b.trans l⟩
 ·rintro B R ⟨S,L,M,rfl,a,g,b⟩;rw[show(((ws.map V.str).length:Nat):Int).toNat=ws.length by lia]at a;walk_at "x";exact k S R g b a
def ziN(T:Txt K mg):T.d__law_sum_is.Ok P w base 1 (zmH K):=by
 refine T.d__law_sum_is.F.okN sc__law_sum_is "0d" λu A outer s H vs Q E r h=>?_;obtain⟨y,ws,qs,c,rfl,J,n,M,C,G,D,k⟩:=h;have m:=n.length;refine⟨_,(zh (zD 2 sc__law_sum_is zi)
 (zh (zD 3 sc__law_sum_is zi)
 (zh (zaf PassesOwn.never rfl (z9 K (pv 0)) (zI (i:=4) sc__law_sum_is.nd rfl (Or.inl rfl))
 (zh (zD 2 sc__law_sum_is (zw (zat K) (zw zR (pv 2) (qIx K (pv 4) zi)) (zw zR (qIx K (pv 4) zi) (pv 3))))
 (zj (zD 3 sc__law_sum_is (zw zR (pv 3) (qIx K (pv 4) zi))))))
 (zj (zy (zbl (qEq K r.units) (pv 2) (zw zR (pv 1) (pv 3)) (nomark _))))))),?_⟩
 refine zE (σ0:=[some (.ref y),some (.int c),none,none,none]) rfl ?_;walk_at "x";refine zbR (xs:=ws) (λi e H'=>∃(t b:Int) (j:Option V),e=[some (.ref y),some (.int c),some (.int t),some (.int b),j]/\0<b/\((t:Int):Rat)=zbB (qs.take i)*((b:Int):Rat)/\sz t<=8000*i+1/\sz b<=7800*i+1/\H'=H) ⟨0,1,_,rfl,by decide,by show((0:Int):Rat)=0*((1:Int):Rat);rw[show((0:Int):Rat)=0 from rfl];grind,zaH "0a",zaH "0a",rfl⟩ ?_ ?_ ?_
 ·rintro i e H' _ ⟨_,_,_,rfl,_,_,_,_,rfl⟩;exact SqL.of J
 ·rintro i x e H' p ⟨t,b,j,rfl,o,f,l,a,rfl⟩;obtain⟨g,q,rfl,d,v⟩:=n.get p;have hi:i<ws.length:=(yh.mp p).1;have I:H' g=some (.tup [.int q.num,.int "0l"]):=v;have z:=C q (yb d);have L:CMulS t "0l":=CMulS.of l z.2 ⋯;have N:CMulS q.num b:=CMulS.of z.1 a ⋯;have O:CMulS b "0l":=CMulS.of a z.2 ⋯;walk_at "x";refine⟨_,_,_,rfl,yaR o (zay q),?_,?_,?_,rfl⟩
  ·rw[zai d,zdu,yO,yF,yF,yF,f,zmb q];grind
  ·exact yj (zph (yj (zcq l z.2) (show _<=8000*i+7900 by lia)) (yj (zcq z.1 a) ⋯)) ⋯
  ·exact yj (zcq a z.2) ⋯
 ·rintro e H' ⟨t,b,j,rfl,o,f,l,a,rfl⟩;rw[m,yw,D,<- yF]at f;have B:t=c*b:=zjw f;have L:CMulS c b:=CMulS.of G a ⋯;walk_at "x";rw[decide_eq_true B];exact k
def zfU(T:Txt K mg):T.d__law_left_right.Ok P w base 3 (zrZ K):=by
 refine T.d__law_left_right.F.okN sc__law_left_right "0d" λI A outer s H vs Q E f h=>?_;obtain⟨n,a,l,ds,g,rfl,⟨xs,G,x⟩,hl,c,C,n9,hd,L,Y,k⟩:=h;have X:=x.length;refine⟨_,(zh (qS1 3 sc__law_left_right ["_law_one"] [none] (z9 K (pv 1)) (λ_ _ _ _ _=>(qIx K (pv 0) zi)))
 (zh (zP (za1 (zaV K (qD T.d__law_wholes (zbc T) f (za (pv 0) (za (zaU K T.z_len "0k") ze)))))
 (zj (zy zbm))
 zJ)
 (zh (zaf PassesOwn.never rfl (zZ rfl T.z_range (za (zaU K T.z_len "0k") ze)) (zI (i:=4) sc__law_left_right.nd rfl (Or.inl rfl))
 (zj (zP (PW.pt (za6 (zF zcV (qIx K (pv 0) (pv 4)) zi (nomark _)) (zbp (zF zcl (qIx K (pv 0) (pv 4)) (qIx K (pv 3) (pv 4)) (nomark _)))))
 (zj (zy zbm))
 zJ)))
 (zj (zy (zbl (qEq K f.units) (qD T.d__law_net (zeq T) f (za (pv 2) (za (pv 1) (za (pv 0) ze)))) (qD T.d__law_net (zeq T) f (za (pv 2) (za (pv 1) (za (pv 3) ze)))) (nomark _))))))),?_⟩
 refine zE (σ0:=[some (.ref l),some (.ref a),some (.int n),none,none]) rfl ?_;walk_at "x";refine zmG rfl ⟨xs,G,x⟩ c λB H1 R j r=>?_;have u:=j.at hl;have t:=G.keep j;have M:(vec ds.length g).length=ds.length:=zG;have b:IsSh K H1 a ds:=⟨xs,t,x.same j⟩
 walk_at "x"
 ·exfalso;lia
 refine zcd (λi o H'=>∃m:Option V,o=[some (.ref l),some (.ref a),some (.int n),some (.ref B),m]/\H'=H1) ⟨_,rfl,rfl⟩ ?_ ?_
 ·rintro i o J hi ⟨m,rfl,rfl⟩;have v:i<ds.length:=by lia
  have Z:=L i v;have S:(0:Int)+(i:Int)=i:=by lia
  rw[S];have W:¬g ((i:Int)).toNat<0:=by rw[ym];lia
  have N:¬amF ds ((i:Int)).toNat<g ((i:Int)).toNat:=by rw[ym];lia
  walk_at "x";exact⟨_,rfl,rfl⟩
 ·rintro o J ⟨m,rfl,rfl⟩;walk_at "x";refine⟨n,a,l,ds,g,rfl,b,u,c,C,⋯,hd,λne H4 U q p=>?_⟩;have d:=b.same q;have e:=q.at r;walk_at "x";refine⟨n,a,B,ds,amF ds,rfl,d,e,c,C,⋯,hd,λnf H5 O D y=>?_⟩;rw[ze9,<- zbt Y]at y;have z:=D.at p;walk_at "x";exact k _ (j.trans (q.trans D))
def zh1(T:Txt K mg):T.d__law_refused.Ok P w base 9 (zlR K):=by
 refine T.d__law_refused.F.okN sc__law_refused "0d" λe A outer s H vs Q E q h=>?_;obtain⟨a,u,p,sh,o,own,ws,n,ds,pf,P,S,rfl,d,D,hp,r,t,x,n9,hl,hd,c,l,C,G,y,B,f,k⟩:=h;have e_NoAnswer:=T.e_NoAnswer;have i_NoAnswer_NoAnswer:=T.i_NoAnswer_NoAnswer;have i_NoAnswer_NoLayer:=T.i_NoAnswer_NoLayer;have i_NoAnswer_NoPart:=T.i_NoAnswer_NoPart;have i_NoAnswer_NoRule:=T.i_NoAnswer_NoRule;have i_NoAnswer_QuitsError:=T.i_NoAnswer_QuitsError;have i_NoAnswer_TooMuch:=T.i_NoAnswer_TooMuch;have q_NoAnswer_QuitsError:=T.q_NoAnswer_QuitsError;have e_NoLayer:=T.e_NoLayer;have i_NoLayer_NoAnswer:=T.i_NoLayer_NoAnswer;have i_NoLayer_NoLayer:=T.i_NoLayer_NoLayer;have i_NoLayer_NoPart:=T.i_NoLayer_NoPart;have i_NoLayer_NoRule:=T.i_NoLayer_NoRule;have i_NoLayer_QuitsError:=T.i_NoLayer_QuitsError;have i_NoLayer_TooMuch:=T.i_NoLayer_TooMuch;have q_NoLayer_QuitsError:=T.q_NoLayer_QuitsError;have e_NoPart:=T.e_NoPart;have i_NoPart_NoAnswer:=T.i_NoPart_NoAnswer;have i_NoPart_NoLayer:=T.i_NoPart_NoLayer;have i_NoPart_NoPart:=T.i_NoPart_NoPart;have i_NoPart_NoRule:=T.i_NoPart_NoRule;have i_NoPart_QuitsError:=T.i_NoPart_QuitsError;have i_NoPart_TooMuch:=T.i_NoPart_TooMuch;have q_NoPart_QuitsError:=T.q_NoPart_QuitsError;have e_TooMuch:=T.e_TooMuch;have i_TooMuch_NoAnswer:=T.i_TooMuch_NoAnswer;have i_TooMuch_NoLayer:=T.i_TooMuch_NoLayer;have i_TooMuch_NoPart:=T.i_TooMuch_NoPart;have i_TooMuch_NoRule:=T.i_TooMuch_NoRule;have i_TooMuch_QuitsError:=T.i_TooMuch_QuitsError;have i_TooMuch_TooMuch:=T.i_TooMuch_TooMuch;have q_TooMuch_QuitsError:=T.q_TooMuch_QuitsError;refine⟨_,(zh (zD 6 sc__law_refused zbm)
 (zh (show PS _ _ (znj K _ _ _ _ _)from zr3 (i:=7) ⟨rfl,rfl⟩ (zez T) (q.mono "0a") rfl T.d_settled_day.m T.d_settled_day.F.kp T.d_settled_day.b (za (pv 0) (za (pv 1) (za (pv 2) (za (pv 3) (za (pv 4) (za (pv 5) ze)))))) rfl T.m_QuitsError sc__law_refused.nd rfl rfl (λ_=>(zj (zD 6 sc__law_refused (zh0 (zdB K T.z_isinstance (za (pv 7) (za (zgI (v:=.ref T.c_NoLayer) rfl T.m_NoLayer rfl) ze))) (zh0 (ztz K (zdB K T.z_isinstance (za (pv 7) (za (zgI (v:=.ref T.c_NoRule) rfl T.m_NoRule rfl) ze)))) (zk2 (ztz K (zdB K T.z_isinstance (za (pv 7) (za (zgI (v:=.ref T.c_TooMuch) rfl T.m_TooMuch rfl) ze)))))))))))
 (zj (zy (pv 6))))),?_⟩
 refine zE (σ0:=[some (.ref a),some (.ref u),some (.ref p),some (.ref sh),some (.int own),some (.ref o),none,none]) rfl ?_;walk_at "x";refine⟨a,u,p,sh,o,own,ws,n,ds,pf,P,S,rfl,d,D,hp,r,t,x,n9,hl,hd,c,l,C,G,y,B,.inr ⟨f,λJ z=>?_⟩⟩;refine zmT q_NoLayer_QuitsError λer j L g I=>?_;walk_at "x";exact k j (z.trans g)
def zf2(T:Txt K mg):T.d__law_told_right.Ok P w base 4 (zsj K):=by
 refine T.d__law_told_right.F.okN sc__law_told_right "0d" λd9 A outer s H vs Q E r h=>?_;obtain⟨pt,a,u,o,own,ws,n,ds,pf,P,S,ga,p0,rs,re,le,la,en,ou,tr,g,wl,we,k0,k1,rfl,⟨xs,hS,hT⟩,hu,ho,n1,n9,hl,hd,a0,lP,lS,o0,hw,hC,St,k⟩:=h;have al:∀d∈ds,zo (n:Int) d:=λd h=>(hd d h).1;have dc:=hT.length;have ap:IsSh K H a ds:=⟨xs,hS,hT⟩
 have c6:((vec n pf).map V.int).length=n:=by rw[ya,zG]
 refine⟨_,(zh (zD 4 sc__law_told_right (zaU K T.z_len (za (pv 2) ze)))
 (zh (zD 5 sc__law_told_right (qD T.d__law_net (zeq T) r (za (pv 4) (za (pv 1) (za (qC1 ["_law_one"] [none] (z9 K (pv 1)) (λ_ _ _ _ _=>(qIx K (pv 0) zi))) ze)))))
 (zh (zD 6 sc__law_told_right (qC1 ["_law_k", "_law_net_here", "_law_purses"] [none,some 5,some 2] (zZ rfl T.z_range (za (pv 4) ze)) (λ_ _ _ _ _=>(zaP (zjK rfl) rfl T.z_max BT.max (za zi (za (zw zce (zw zce zi (qIx K (pv 1) (pv 0))) (qIx K (pv 2) (pv 0))) ze))))))
 (zh (zP (PW.pt (za6 (za1 (zaV K (zdB K T.z_isinstance (za (pv 0) (za (zcg (v:=.ty "tuple") rfl T.z_tuple BT.tuple rfl) ze))))) (za6 (zF (qNe K r.units) (zaU K T.z_len (za (pv 0) ze)) zi (nomark _)) (za6 (za1 (zaV K (qD T.d__law_wholes (zbc T) r (za (qIx K (pv 0) zi) (za (pv 4) ze))))) (zbp (zF (qNe K r.units) (qIx K (pv 0) zi) (pv 6) (nomark _)))))))
 (zj (zy zbm))
 zJ)
 (zh (zD 7 sc__law_told_right (qD T.d__law_given (zj1 T) r (za (qIx K (pv 0) zi) (za (pv 3) (za (pv 4) ze)))))
 (zh (zP (PW.pt (za6 (zF zgi (pv 7) zbo (nomark _)) (za6 (za1 (zaV K (qD T.d__law_wholes (zbc T) r (za (qIx K (pv 0) zi) (za (pv 4) ze))))) (zbp (za1 (zaV K (qD T.d__law_left_right (zfU T) r (za (qIx K (pv 0) zi) (za (pv 1) (za (pv 4) ze))))))))))
 (zj (zy zbm))
 zJ)
 (zh (zP (PW.pt (za6 (zF (qNe K r.units) (qIx K (pv 0) zi) (qC1 ["_law_k", "_law_gaps", "_law_given_here"] [none,some 6,some 7] (zZ rfl T.z_range (za (pv 4) ze)) (λ_ _ _ _ _=>(zw zce (qIx K (pv 1) (pv 0)) (qIx K (pv 2) (pv 0))))) (nomark _)) (zbp (zF zcV (zaP (show CallR _ _ (zhw K)from zjt rfl) rfl T.z_min BT.min (za (qIx K (pv 0) zi) ze)) zi (nomark _)))))
 (zj (zy zbm))
 zJ)
 (zh (zP (PW.pt (za6 (za1 (zaV K (qD T.d__law_parts (zfl T) r (za (qIx K (pv 0) zi) (za (pv 4) ze))))) (zbp (za1 (zaV K (qD T.d__law_parts (zfl T) r (za (qIx K (pv 0) zi) (za (pv 4) ze))))))))
 (zj (zy zbm))
 zJ)
 (zh (zD 8 sc__law_told_right (qD T.d__law_owed (zfL T) r (za (pv 4) (za (pv 1) (za (qIx K (pv 0) zi) ze)))))
 (zh (zaf PassesOwn.never rfl (zZ rfl T.z_range (za (pv 4) ze)) (zI (i:=9) sc__law_told_right.nd rfl (Or.inl rfl))
 (zj (zP (PW.pt (za6 (zF zcl (qIx K (qIx K (qIx K (pv 0) zi) (pv 9)) zi) (zw zR (qIx K (pv 8) (pv 9)) (qIx K (qIx K (qIx K (pv 0) zi) (pv 9)) zi)) (nomark _)) (zbp (PW.pt (zgg (zF zcl (qIx K (pv 6) (pv 9)) zi (nomark _)) (zgD (zF (qNe K r.units) (qIx K (qIx K (pv 0) zi) (pv 9)) (zV (za zi (za zi ze))) (nomark _))))))))
 (zj (zy zbm))
 zJ)))
 (zh (zc6 (i:=10) sc__law_told_right.nd rfl rfl rfl (zZ rfl T.z_range (za (pv 4) ze)) (zaJ (Ni:=["_law_k", "_law_told", "_law_owed_here"]) (caps:=[none,some 0,some 8]) (by rfl)) (λS _ _ _ _ _=>(zaF (gi:=0) S (Or.inl rfl) rfl)) (λ_ _ _ _ _=>(zfE (zF zcV (qIx K (qIx K (qIx K (pv 1) zi) (pv 0)) zi) (zw zR (qIx K (pv 2) (pv 0)) (qIx K (qIx K (qIx K (pv 1) zi) (pv 0)) zi)) (nomark _)))) (λ_ _ _ _ _=>(pv 0)))
 (zh (zP (PW.pt (za6 (za1 (zaV K (qD T.d__law_wholes (zbc T) r (za (qIx K (pv 0) zi) (za (zaU K T.z_len (za (pv 10) ze)) ze))))) (zbp (zF (qNe K r.units) (qIx K (pv 0) zi) (pv 10) (nomark _)))))
 (zj (zy zbm))
 zJ)
 (zj (zy (zh0 (zbl (qEq K r.units) (zbl (qEq K r.units) (pv 10) (zaa ze) (nomark _)) (zbl (qEq K r.units) (zb7 K T.z_sum (za (qIx K (pv 0) zi) ze)) zi (nomark _)) (nomark _)) (zk2 (qD T.d__law_sum_is (ziN T) r (za (qIx K (pv 0) zi) (za (zw (zat K) (zb7 K T.z_sum (za (pv 2) ze)) (zb7 K T.z_sum (za (pv 7) ze))) ze))))))))))))))))))),?_⟩
 refine zE (σ0:=[some (.ref pt),some (.ref a),some (.ref u),some (.ref o),none,none,none,none,none,none,none]) rfl ?_;have Z:=zmf hl hd a0;have lG:Lit n (zah ds pf):=λi hi=>⟨(Z i hi).1,by have:=(Z i hi).2;lia⟩
 have ca:zcC "0j":=zlj lG (λi hi=>(Z i hi).2) a0 lP lS o0;have fl:=λm hm=>St.lay hd (m:=m) hm;have fe:=λm hm hg=>St.end0 hd lG lP lS o0 (m:=m) hm hg;have fo:=St.outs hd lG lP lS o0;have fs:=St.sum hC lG ca;have fw:=St.at1.wide;have a3:=St.iwl;have t:=St.iwe;have Y:=St.hou;have bl:(zal n (zk ds g) "0j" k1).length=n:=zdd;obtain⟨qs,c5⟩:∃qs,qs=zal n (zk ds g) "0j" k1:=⟨_,rfl⟩
 rw[<- c5]at fl fe fo fs fw a3 t Y bl;have ac:(zcJ (zk ds g) "0j" qs).length=n:=by rw[ya,yx];exact zG
 have b3:∀m,m<n->(zcJ (zk ds g) "0j" qs)[m]?=some (zdE (zk ds g) "0j" qs m):=λm hm=>by rw[ye,yU (by rw[zG];exact hm)];rfl
 obtain⟨aq,ck⟩:∃q,q=zcJ (zk ds g) "0j" qs:=⟨_,rfl⟩
 rw[<- ck]at fs t ac b3;have ah:=λm=>ziJ (m:=m) (zk ds g) (St.safe.ok hd);rw[zU]at ah;walk_at "x";rw[c6];refine zmG rfl ap hl λam H1 dj e1 cg=>?_;have c1:=ap.same e1;have ch:=e1.at hu;refine⟨_,a,am,ds,amF ds,rfl,c1,cg,hl,⋯,⋯,al,λne H2 da e2 b4=>?_⟩;rw[ym,ze9]at b4;have cj:=e2.at ch;walk_at "x";refine zN zbw (λ_ _=>trivial) rfl (λi vs _=>vs=(vec i (zah ds pf)).map V.int) (λ_ _=>rfl) ?_ ?_
 ·rintro j x D vs o' H4 H5 hj hD J hv C rfl B rfl;have cm:j<n:=by lia
  have ej:(0:Int)+(j:Int)=j:=by lia
  rw[ej];have cv:=(J.trans B).at b4;have de:=(J.trans B).at cj;walk_at "x";rename_i H6 b6 h6;refine CompN.int ⟨_,rfl⟩ ∅ h6 ?_;rw[ym];unfold zah;rw[show 0-zan ds j-pf j=-zan ds j-pf j by lia]
 rintro gp H3 vs d3 e3 ak C rfl;rw[ym]at ak;have c:=(e1.trans e2).trans e3;have hpt:=c.at St.hpt;have hga:=c.at St.hga;have lt:=St.lt.same c;have hle:=c.at St.hle;have hla:=c.at St.hla;have iwl:=a3.same c;have hen:=c.at St.hen;have iwe:=t.same c;have hou:=c.at Y;have cb:=c.at hu;have cp:=c.at ho;have ad:=ap.same c;clear c e1 e2 e3;have dd:((([V.ref ga,V.ref rs,V.ref re,V.ref le,V.ref la,V.ref en,V.ref ou]:List V).length:Nat):Int)=7:=rfl;have bz:∀i,i<ws.length->ws[i]?=some (zaC n (zah ds pf) P own ws S i).w/\My.sumTo (zaC n (zah ds pf) P own ws S i).gv n=My.sumTo (zaC n (zah ds pf) P own ws S i).f n+(zaC n (zah ds pf) P own ws S i).x:=λi hi=>by
  obtain⟨h1,h2⟩:=zb0 (ws:=ws) lG lP lS o0 i;refine⟨?_,zp1 h1 h2 o0⟩;show ws[i]?=some (ws.getD i "");rw[yf,yk hi];rfl
 obtain⟨R,eR⟩:∃R,R=(lays n (zah ds pf) P own ws S ws.length).1:=⟨_,rfl⟩
 obtain⟨V',eV⟩:∃V',V'=zct (zaC n (zah ds pf) P own ws S) ws.length:=⟨_,rfl⟩
 have b5:∀i,zah ds pf i-V' i=R i:=λi=>by rw[eR,eV,zec]
 have bj:∀i,i<n->0<=R i:=λi hi=>by rw[eR];exact((zb0 (ws:=ws) lG lP lS o0 ws.length).1 i hi).1
 have hre:=lt.hre;rw[<- eR]at hre;walk_at "x";refine zbN ?_;refine⟨rs,o,n,_,tr,ws,rfl,lt.hrs,lt.rows,lt.len,cp,n9,hw,bz,λgi H4 d1 J aj=>?_⟩;rw[<- eV]at aj;have dg:¬V.ref gi=V.non:=λz=>nomatch z;have bq:=J.at hpt;have bw:=J.at hre;have ar:=J.at hle;have bo:=J.at ak;have bi:=ad.same J;walk_at "x";refine zbN ?_;refine⟨(n:Int),a,le,ds,g,rfl,bi,ar,hl,⋯,⋯,al,St.safe.bd,λm hm=>St.safe.net m ⋯,λH5 B=>?_⟩;have ay:=B.at bq;have az:=B.at bw;have bh:=B.at bo;have c0:=B.at aj;walk_at "x";refine zN zbw (λ_ _=>trivial) rfl (λi vs _=>vs=(vec i R).map V.int) (λ_ _=>rfl) ?_ ?_
 ·rintro j x D vs o' H6 H7 hj hD e6 hv C rfl y rfl;have cm:j<n:=by lia
  have ej:(0:Int)+(j:Int)=j:=by lia
  rw[ej];have h1:=(e6.trans y).at bh;have h2:=(e6.trans y).at c0;walk_at "x";rename_i H8 b8 h8;exact CompN.int ⟨_,rfl⟩ ∅ h8 (by rw[ym];exact b5 j)
 rintro rc H6 vs d7 e6 cd C rfl;rw[ym]at cd;have W:=e6.at ay;have a1:=e6.at az;have p:=(J.trans B).trans e6;have ag:=p.at hla;have ab:=iwl.same p;have a6:=p.at hen;have a8:=iwe.same p;have bc:=p.at hle;have b1:=p.at hou;have bp:=ad.same p;have bb:=p.at ak;have bx:=(B.trans e6).at aj;have co:=p.at cb;clear p J B e6;walk_at "x";refine zbN ?_;refine znS (SqL.of a1) (λz=>by have:=zG (n:=n) (f:=R);rw[z]at this;change 0=n at this;lia) λx hx d5=>?_;have d6:¬x<0:=by
  obtain⟨i,hi,rfl⟩:=ziy hx
  have:=bj i hi
  lia
 walk_at "x";refine zbN ?_;refine⟨la,wl,qs,(n:Int),rfl,ag,ab,by rw[bl],λq hq=>(fw q hq).1,λH7 y=>?_⟩;have ba:=y.at W;have ax:=y.at a6;have br:=a8.same y;walk_at "x";refine zbN ?_;refine⟨en,we,aq,(n:Int),rfl,ax,br,by rw[ac],λq hq=>(fs.1 q hq).1,λH8 e8=>?_⟩;have X:=y.trans e8;have cu:=X.at W;have bv:=bp.same X;have be:=X.at bc;walk_at "x";refine zbN ?_;refine⟨(n:Int),a,le,ds,g,rfl,bv,be,hl,⋯,⋯,al,λow H9 d8 e9 ai=>?_⟩;rw[ym]at ai;have l:=X.trans e9;have L:=l.at W;have ae:=l.at ag;have aa:=ab.same l;have a7:=l.at a6;have O:=a8.same l;have au:=l.at b1;have bt:=l.at bb;have aw:=l.at bx;have bu:=l.at a1;have c3:=l.at co;clear l X y e8 e9;have d0:=aa.length;have cz:=O.length;have a5:∀i,i<n->∃b q,atI wl (i:Int)=some (.ref b)/\IsQ H9 b q/\qs.getD i 0=q/\SzQ q 7051 7001:=λi hi=>by
  obtain⟨v,hv⟩:=zC (show i<wl.length by lia);obtain⟨b,q,rfl,bg,hb⟩:=aa.get hv;exact⟨b,q,zO hv,hb,by rw[yf,bg];rfl,(fw q (yb bg)).2⟩
 walk_at "x";refine zcd (λi σ' H'=>∃f9:Option V,σ'=[some (.ref pt),some (.ref a),some (.ref u),some (.ref o),some (.int (n:Int)),some (.ref ne),some (.ref gp),some (.ref gi),some (.ref ow),f9,none]/\Same H9 H') ⟨_,rfl,Same.refl _⟩ ?_ ?_
 ·rintro i σ' H' hi ⟨f9,rfl,e⟩;have I:i<n:=by lia
  have ei:(0:Int)+(i:Int)=i:=by lia
  rw[ei];obtain⟨b,q,cc,hb,ao,hz⟩:=a5 i I;have cn:IsQ H' b q:=e.at hb;obtain⟨v,hv⟩:=zC (show i<we.length by lia);obtain⟨b2,q2,rfl,af,c4⟩:=(O.same e).get hv;have ct:atI we (i:Int)=some (.ref b2):=zO hv;have a9:=e.at L;have a2:=e.at ae;have cr:=e.at bt;have cy:=e.at a7;have a4:=e.at ai;have m1:CMulS (zao (zk ds g) ((i:Int)).toNat) "0l":=by
   rw[ym]
   have:=ah i
   exact CMulS.of (sz200 ⋯ ⋯) hz.2 "0a"
  have db:¬zao (zk ds g) ((i:Int)).toNat*"0l"<q.num:=by
   rw[ym]
   have:=fl i I
   rw[ao]at this;exact Int.not_lt.mpr (q_le.mp this)
  have c7:0<zah ds pf ((i:Int)).toNat->q2=0:=λhg=>by
   rw[ym]at hg;have h1:=fe i I hg;have h2:=b3 i I;rw[h1]at h2;rw[h2]at af;exact(yn af).symm
  walk_at "x"
  ·rename_i hg;obtain rfl:=c7 hg;refine zax (q:=(0:Rat)) ⟨rfl,rfl⟩ ?_;intro t2 H2 e2 cf;refine zus (e2.at c4) cf ?_;walk_at "x";exact⟨_,rfl,e.trans e2⟩
  ·exact⟨_,rfl,e⟩
 ·rintro σ' H' ⟨f9,rfl,e⟩;have a9:=e.at L;have a2:=e.at ae;have a4:=e.at ai;walk_at "x";refine zN zbw (λ_ _=>trivial) rfl (λi vs _=>vs=(zbz i (zk ds g) qs).map V.int) (λ_ _=>rfl) ?_ ?_
  ·rintro i x D vs o' H4 H5 hi hD J hv C rfl B rfl;have I:i<n:=by lia
   have ei:(0:Int)+(i:Int)=i:=by lia
   rw[ei];have U:=J.trans B;obtain⟨b,q,cc,hb,ao,hz⟩:=a5 i I;have cn:IsQ H5 b q:=(e.trans U).at hb;have dk:=U.at a9;have dh:=U.at a2;have df:=U.at a4;have m1:CMulS (zao (zk ds g) ((i:Int)).toNat) "0l":=by
    rw[ym]
    have:=ah i
    exact CMulS.of (sz200 ⋯ ⋯) hz.2 "0a"
   have eo:zcM (i+1) (zk ds g) qs=zcM i (zk ds g) qs++if q.num<zao (zk ds g) ((i:Int)).toNat*"0l" then[i] else[]:=by
    unfold zcM;rw[yA,yaD];congr 1;rw[List.filter_cons,List.filter_nil,ao,zds λd h=>(St.safe.ok hd d h).1,ym];simp only[decide_eq_true_eq,zvm]
   have cq:=B.at hv;clear U;walk_at "x"
   ·rename_i an H7 b7 h7;rw[if_pos an]at eo;refine⟨⟨_,rfl⟩,∅,_,h7,by rw[yc];exact yl C,?_⟩;show _=(zbz (i+1) _ qs).map V.int;unfold zbz;rw[eo,yi,yi];rfl
   ·rename_i an;rw[if_neg an,yag]at eo;refine⟨⟨_,rfl⟩,J.trans B,_,cq,yaO C,?_⟩;show _=(zbz (i+1) _ qs).map V.int;unfold zbz;rw[eo]
  rintro oc H5 vs d2 B bm C rfl;rw[ym]at bm;have ee:=e.trans B;have bf:=ee.at L;have Y:=ee.at au;have b0:=ee.at bu;have bn:=ee.at a7;have t:=O.same ee;have c2:=ee.at aw;have ce:=ee.at c3;clear ee;have cx:(((zbz n (zk ds g) qs).length:Nat):Int)=(((zbz n (zk ds g) qs).map V.int).length:Nat):=congrArg (λx:Nat=>(x:Int)) (ya (f:=V.int) (as:=zbz n (zk ds g) qs)).symm;have c8:sz (My.sumTo pf n+My.sumTo V' n)<=200:=by
   have h1:=zdh (n:=n) (b:=pf) (M:=1000000000000) λi hi=>(a0 i hi).2;have h2:=My.sumTo_nonneg (n:=n) (f:=pf) λi hi=>(a0 i hi).1;have h3:=zdh (n:=n) (b:=V') (M:=64000000000000) λi hi=>by
    have:=b5 i
    have:=bj i hi
    have:=(Z i hi).2
    lia
   have h4:=My.sumTo_nonneg (n:=n) (f:=V') λi hi=>by rw[eV];exact(zkQ (ws:=ws) lG lP lS o0 hi).1
   exact sz200 ⋯ ⋯
  have av:zbB aq=((My.sumTo pf n+My.sumTo V' n:Int):Rat):=by rw[eV];exact fs.2
  rw[<- eR]at fo;have tail:∀Hx,Same H5 Hx->zmH K [.ref en,.int (zS (vec n pf)+zS (vec n V'))] Hx (λx H1=>Q x H1) E0:=λHx ex=>by
   rw[zaI,zaI];exact⟨en,we,aq,_,rfl,ex.at bn,t.same ex,⋯,λq hq=>(fs.1 q hq).2,c8,av,k _⟩
  walk_at "x";rename_i em H7 d4 y b9;have N:=y.at bm;have ba:=y.at bf;have cs:=y.at b0;have di:=y.at ce;have cw:=y.at c2;by_cases G:zcM n (zk ds g) qs=[]
  ·have hs:zS (vec n R)=0:=by rw[zaI];exact fo.mp G
   have c9:zbz n (zk ds g) qs=[]:=by unfold zbz;rw[G];rfl
   rw[c9]at N;refine zhm (ns:=[]) (ms:=[]) (SqL.of N) (SqL.of b9) rfl ?_;have ci:true=decide (zS (vec n R)=0):=(decide_eq_true hs).symm;walk_at "x";exact tail _ y
  ·have hs:¬zS (vec n R)=0:=by rw[zaI];exact λz=>G (fo.mpr z)
   refine zls (ns:=zbz n (zk ds g) qs) (SqL.of N) (SqL.of b9) (λz=>G (ybf.mp z)) ?_;have ci:false=decide (zS (vec n R)=0):=(decide_eq_false hs).symm;walk_at "x";exact tail _ y
noncomputable def zkg (K:Fg):Sp:=λvs H Q _=>∃(a:Addr) (ns:List Int),vs=[.ref a]/\SqL K H a (ns.map V.int)/\ns.length<=63/\∀H',Q (.bl true) H'
def ztH(T:Txt K mg):T.d_law.Ok P w base 10 (zkg K):=by
 refine T.d_law.F.okN zbi "0d" λc6 A outer s H vs Q E l h=>?_;obtain⟨a,ns,rfl,hS,ci,k⟩:=h;refine⟨_,(zh (zD 1 zbi (zw (zat K) zi (qD T.d__law_draw (zY T) l (za (pv 0) (za zi (za zi ze))))))
 (zh (zD 2 zbi (qD T.d__law_draw (zY T) l (za (pv 0) (za zi (za zi ze)))))
 (zgJ (zP (zF (qEq K l.units) (qD T.d__law_draw (zY T) l (za (pv 0) (za zi (za zi ze)))) zi (nomark _))
 (zh (zD 1 zbi (zw (zat K) zi (qD T.d__law_draw (zY T) l (za (pv 0) (za zi (za zi ze))))))
 (zj (zD 2 zbi (qD T.d__law_draw (zY T) l (za (pv 0) (za zi (za zi ze)))))))
 zJ)
 (zgJ (zP (zF (qEq K l.units) (pv 1) zi (nomark _))
 (zj (zD 2 zbi zi))
 zJ)
 (zh (zD 3 zbi (qD T.d__law_sheet (zj7 T) l (za (pv 0) (za zi (za (pv 1) (za (pv 2) ze))))))
 (zh (zD 4 zbi (zw (zat K) zi (zw zR zi (qD T.d__law_draw (zY T) l (za (pv 0) (za zi (za zi ze)))))))
 (zh (qS1 5 zbi ["_law_k", "_law_script", "_law_part_of"] [none,some 0,some 4] (zZ rfl T.z_range "0k") (λ_ _ _ _ _=>(zw zaG (qD T.d__law_amount (zbS T) l (za (pv 1) (za (zw (zat K) zi (zw zR zi (pv 0))) (za (zw zfQ zi zi) ze)))) (pv 2))))
 (zh (qS1 6 zbi ["_law_k", "_law_script"] [none,some 0] (zZ rfl T.z_range "0k") (λ_ _ _ _ _=>(zw zaG (qD T.d__law_amount (zbS T) l (za (pv 1) (za (zw (zat K) zi (zw zR zi (pv 0))) (za (zw zfQ zi zi) ze)))) zi)))
 (zh (qS1 7 zbi ["_law_k", "_law_script"] [none,some 0] (zZ rfl T.z_range "0k") (λ_ _ _ _ _=>(zw zaG (qD T.d__law_amount (zbS T) l (za (pv 1) (za (zw (zat K) zi (zw zR zi (pv 0))) (za (zw zfQ zi zi) ze)))) zi)))
 (zh (zD 8 zbi (zw zaG (qD T.d__law_amount (zbS T) l (za (pv 0) (za zi (za (zw zfQ zi zi) ze)))) zi))
 (zh (zD 9 zbi (qD T.d__law_order (zj3 T) l (za (pv 0) (za zi ze))))
 (zgJ (zP (zF (qEq K l.units) (qD T.d__law_draw (zY T) l (za (pv 0) (za zi (za zi ze)))) zi (nomark _))
 (zh (zD 10 zbi (qIx K (zw (zat K) (pv 9) (zaa (za za3 (za za3 (za za3 (za za3 ze)))))) (qD T.d__law_draw (zY T) l (za (pv 0) (za zi (za (zw (zat K) (zaU K T.z_len (za (pv 9) ze)) zi) ze))))))
 (zh (zD 11 zbi (zco K T.z_list (za (pv 9) ze)))
 (zh (za4 (show PE _ _ (tBM K _ _ _ _)from zhE yaJ PySem.F.slot_list_insert PySem.F.type_list_insert zoT (pv 11) (za (qD T.d__law_draw (zY T) l (za (pv 0) (za zi (za (zw (zat K) (zaU K T.z_len (za (pv 9) ze)) zi) ze)))) (za (pv 10) ze))))
 (zj (zP (za1 (zaV K (qD T.d__law_refused (zh1 T) l (za (zco K T.z_list (za (pv 3) ze)) (za (zco K T.z_list (za (pv 5) ze)) (za (zco K T.z_list (za (pv 6) ze)) (za (zco K T.z_list (za (pv 7) ze)) (za (pv 8) (za (pv 11) ze)))))))))
 (zj (zy zbm))
 zJ)))))
 zJ)
 (zh (zD 12 zbi (zaa (za (zco K T.z_list (za (pv 3) ze)) (za (zco K T.z_list (za (pv 5) ze)) (za (zco K T.z_list (za (pv 6) ze)) (za (zco K T.z_list (za (pv 7) ze)) (za (zco K T.z_list (za (pv 9) ze)) ze)))))))
 (zh (zD 13 zbi (qD T.d_settled_day (zez T) l (za (qIx K (pv 12) zi) (za (qIx K (pv 12) zi) (za (qIx K (pv 12) zi) (za (qIx K (pv 12) zi) (za (pv 8) (za (qIx K (pv 12) zi) ze))))))))
 (zh (zP (zF (qNe K l.units) (pv 12) (zaa (za (pv 3) (za (pv 5) (za (pv 6) (za (pv 7) (za (pv 9) ze)))))) (nomark _))
 (zj (zy zbm))
 zJ)
 (zj (zy (qD T.d__law_told_right (zf2 T) l (za (pv 13) (za (pv 3) (za (pv 5) (za (pv 9) ze)))))))))))))))))))))),?_⟩
 refine zE (σ0:=[some (.ref a),none,none,none,none,none,none,none,none,none,none,none,none,none]) rfl ?_;walk_at "x";rename_i x x0 x1 c' bf b7;refine zsc 1 2 (λv w H'=>∃n c:Int,v=.int n/\w=.int c/\1<=n/\n<=7/\0<=c/\c<=14/\H'=H) ?_ ?_
 ·walk_at "x"
  ·exact⟨_,_,rfl,_,_,rfl,rfl,⋯,⋯,⋯,⋯,rfl⟩
  ·exact⟨_,_,rfl,_,_,rfl,rfl,⋯,⋯,⋯,⋯,rfl⟩
 rintro v w H0 ⟨n,c2,rfl,rfl,n0,n7,bj,bp,rfl⟩;refine zon 2 (λv H'=>∃c:Int,v=.int c/\0<=c/\c<=14/\(n=1->c=0)/\H'=H0) ?_ ?_
 ·walk_at "x"
  ·exact⟨_,rfl,_,rfl,⋯,⋯,λ_=>rfl,rfl⟩
  ·rename_i h;exact⟨_,rfl,_,rfl,⋯,⋯,λz=>absurd z h,rfl⟩
 rintro v cp ⟨c,rfl,c0,c1,b6,rfl⟩;clear x0 x1 bf b7 bj bp;obtain⟨N,rfl⟩:∃N:Nat,n=(N:Int):=⟨n.toNat,⋯⟩
 walk_at "x";refine⟨a,ns,70,_,c,rfl,hS,by decide,by decide,n0,⋯,c0,⋯,b6,λsh H1 xs ds cs e1 b1 ht a7 cd=>?_⟩;have hd:∀d∈ds,zo (N:Int) d/\d.a<=1000000000000:=λd h=>⟨(a7 d h).1,by have:=(a7 d h).2;lia⟩
 have hC:Clears N ds:=zoC ⋯ a7 ⋯;have B:ds.length<=64:=by lia
 have az:=hS.keep e1;clear e1;walk_at "x";rename_i po ch cb;have a9:((N:Nat):Int).toNat=N:=ym N;have bw:(0:Int)<1+2*po:=by lia
 refine ziB 1000000000 rfl ⋯ (λi o' H' R hi e kR=>?_) λpu H2 pf cq e2 ao a5=>?_
 ·have am:=az.keep e;walk_at "x";rename_i y y0 y1;have d0:0<=y/(1+2*po):=Int.ediv_nonneg y0 ⋯;have d1:y/(1+2*po)<=y:=Int.ediv_le_self _ y0;refine zrJ bw (yj (sz200 ⋯ ⋯) "0a") ?_;exact kR _ _ d0 ⋯ (Same.refl _)
 have ah:=az.keep e2;rw[a9]at ao a5;walk_at "x";refine ziB 1000000000 rfl ⋯ (λi o' H' R hi e kR=>?_) λpl H3 P c8 e3 al hP=>?_
 ·have am:=ah.keep e;walk_at "x";rename_i y y0 y1;exact kR _ _ ⋯ ⋯ (Same.refl _)
 have au:=ah.keep e3;rw[a9]at al hP;walk_at "x";refine ziB 1000000000 rfl ⋯ (λi o' H' R hi e kR=>?_) λsr H4 S cj e4 ak a6=>?_
 ·have am:=au.keep e;walk_at "x";rename_i y y0 y1;exact kR _ _ ⋯ ⋯ (Same.refl _)
 have ad:=au.keep e4;rw[a9]at ak a6;walk_at "x";rename_i ow ce co;refine⟨a,ns,60,rfl,ad,by decide,by decide,λod H5 ws cr e5 a4 ay bv cf=>?_⟩;have ab:=((e2.trans e3).trans e4).trans e5;have M:=ab.at b1;have aq:=ht.same ab;have W:=((e3.trans e4).trans e5).at ao;have J:=(e4.trans e5).at al;have L:=e5.at ak;have bd:=ad.keep e5;have lP:Lit N P:=λi hi=>⟨(hP i hi).1,by have:=(hP i hi).2;lia⟩
 have lS:Lit N S:=λi hi=>⟨(a6 i hi).1,by have:=(a6 i hi).2;lia⟩
 have D:∀i,i<N->0<=pf i/\pf i<=1000000000000:=λi hi=>⟨(a5 i hi).1,by have:=(a5 i hi).2;lia⟩
 have bn:(ws.map V.str).length=ws.length:=ya ..;clear e2 e3 e4 e5 ab;walk_at "x";refine zvc (λσ' H'=>∃ac ap:Option V,σ'=[some (.ref a),some (.int (N:Int)),some (.int c),some (.ref sh),some (.int (1+2*po)),some (.ref pu),some (.ref pl),some (.ref sr),some (.int (ow/2)),some (.ref od),ac,ap,none,none]/\Same H5 H') ?_ ?_
 ·walk_at "x"
  ·rename_i y y0 y1 z ba H6 cg r be;refine zd0 (r.at a4) be (by rw[bn];show _+4<=_;lia) λcc H7 c7 e7 bt=>?_;have an:H7 cc=some (.lst ((ws++bad4).map V.str)):=by rw[yi];exact bt
   have C:=r.trans e7;have bx:=C.at a4;have ck:=bd.keep C;clear r e7;walk_at "x";rename_i i8 bl cm;obtain⟨w,hw⟩:=zC (show i8.toNat<(ws++bad4).length by rw[yc];show _<_+4;lia);refine zke (SqL.of an) (zaZ bl (by rw[ye,hw];rfl)) ?_;walk_at "x";rename_i as H8 bm e8 has i7 bb cn;refine zu1 has bb ⋯ ⋯ λH9 b9 h9=>?_;have q:Same H5 H9:=b9.same (C.trans e8) (Same.none bm C);have bh:H9 as=some (.lst ((ws.take i7.toNat++w :: ws.drop i7.toNat).map V.str)):=by
    rw[yi,yam,List.map_take,List.map_drop];exact h9
   have bz:=q.at M;have bq:=aq.same q;have c5:=q.at W;have c4:=q.at J;have c3:=q.at L;clear e8 C;walk_at "x";rename_i s1 b2 bi o aa u1 br b3 j a0 p1 I b4 b a2 r1 bu bg m a1;refine⟨s1,u1,p1,r1,as,_,_,N,ds,pf,P,S,rfl,⟨xs,SqL.of ((j.trans (b.trans m)).at aa),bq.same (o.trans (j.trans (b.trans m)))⟩,(b.trans m).at a0,m.at a2,a1,(o.trans (j.trans (b.trans m))).at bh,⋯,⋯,B,hd,D,lP,lS,⋯,by rw[yc,yay,yaC,y3];lia,hC,zs5 (yb hw),λb8 G=>?_⟩;walk_at "x";exact⟨_,_,rfl,q.trans (o.trans (j.trans (b.trans (m.trans G))))⟩
  ·exact⟨_,_,rfl,Same.refl _⟩
 rintro σ' H6 ⟨ac,ap,rfl,r⟩;have ag:=r.at M;have aw:=aq.same r;have ar:=r.at W;have ae:=r.at J;have b0:=r.at L;have ai:=r.at a4;clear r;walk_at "x";rename_i s1 H7 bi e7 aa u1 H8 b3 e8 a0 p1 H9 b4 e9 a2 r1 b2 bg o a1 o1 br ct j bo hn I c9 b ax;have f:Same H6 I:=e7.trans (e8.trans (e9.trans (o.trans (j.trans b))));have av:=(e8.trans (e9.trans (o.trans (j.trans b)))).at aa;have Y:=(e9.trans (o.trans (j.trans b))).at a0;have X:=(o.trans (j.trans b)).at a2;have O:=(j.trans b).at a1;have Z:=b.at bo;have aj:IsSh K I s1 ds:=⟨xs,SqL.of av,aw.same f⟩
 have af:IsSh K I sh ds:=⟨xs,SqL.of (f.at ag),aw.same f⟩
 have u:=f.at ar;have a8:=f.at ae;have a3:=f.at b0;have t:=f.at ai;clear e7 e8 e9 o j b f;refine⟨s1,u1,p1,r1,o1,_,ws,N,ds,pf,P,S,rfl,aj,Y,X,O,Z,⋯,⋯,B,hd,D,lP,lS,⋯,⋯,hC,.inl ⟨⟨ay,bv⟩,λpt ga p0 rs re le la en ou tr g wl we k0 k1 bu m St=>?_⟩⟩;have bc:=m.at ax;walk_at "x";rename_i ls b8 ca G b5;have p:=m.trans G;refine zpl (ws:=ws) (ds:=ds) (U:=vec N pf) (P:=vec N P) (S:=vec N S) (p.at ax) b5 ay (aj.same p) (p.at Y) (p.at X) (p.at O) (p.at Z) (af.same p) (p.at u) (p.at a8) (p.at a3) (p.at t) ?_;walk_at "x";refine⟨pt,sh,pu,od,_,ws,N,ds,pf,P,S,ga,p0,rs,re,le,la,en,ou,tr,g,wl,we,k0,k1,rfl,af.same p,p.at u,p.at t,⋯,⋯,B,hd,D,lP,lS,(show(0:Int)<=ow/2 by lia),⋯,hC,St.same G,k⟩
end
def fin{P:Program}{w:World}{b:Addr}(T:Txt K mg)(a:mg "law" = some (.ref b)) :
  ∃fd:FuncData,(∀(s:Shared) (v:Value),BindsTo s fd ⟨[v],[]⟩ [("_law_script",v)])/\∀base:Heap,K.In base->base.Ns mainGlobals mg->FnOk P w K mg base (CXF P w) 10 b fd ["_law_script"] (zkg K):=by
 have e:=a.symm.trans T.d_law.m;cases e;exact⟨_,T.bl_law,λbase _ _=>ztH T⟩
def walk{l:PySem.W.OpenLaw}{q:Program}{b:List Str}{j:(Str->Option Value)->Heap->Prop}{g:World->Heap->Prop}{d:DefRec}{K:Params->Fg}(i:l.most=some 63)(c:d.params.defaults=[])
  (hY:∀(w:World) (h:Heap),g w h->(K w.params).In h)
  (F:∀(w:World) (mg:Str->Option Value) (fa:Addr) (h:Heap),(K w.params).In h->h.Ns mainGlobals mg->mg d.name=some (.ref fa) ->
   ∃fd:FuncData,(∀(s:Shared) (u:Value),BindsTo s fd ⟨[u],[]⟩ [("_law_script",u)])/\∀base:Heap,(K w.params).In base->base.Ns mainGlobals mg->FnOk l.prog w (K w.params) mg base (CXF l.prog w) 10 fa fd ["_law_script"] (zkg (K w.params))) :
  PySem.W.WalkO q b j g l.row.toRowW d [] (λf vs=>PySem.call f vs):=
 Internal.walk_of (n:=63) (k:=10) (x := "_law_script") (CX:=λw=>CXF l.prog w) (sp:=λw=>zkg (K w.params)) i "0a" c ⟨rfl,by decide,by decide⟩ hY F (λ_ _ a ns hl _ m=>⟨a,ns,rfl,m,hl,λ_=>rfl⟩) λ_ H s e s' z=>zrB _ H s e s' z
end Internal.K
open PySem PySem.W PyProof.Rows
set_option maxRecDepth 100000 in
set_option maxHeartbeats 0 in
theorem PySem.Challenge.cw_quits_k74_a_day_settled_holds : PySem.Challenge.rw_quits_k74_a_day_settled.Holds := by
 refine pre0 ?_
 k_fill
 refine Internal.K.walk (l:=PySem.Challenge.rw_quits_k74_a_day_settled) rfl rfl (λw h Y=>PySem.W.kIn_of Y) ?F
 case F=>
  intro w mg fa h KX G hmg;refine Internal.K.fin ?T hmg
  case T=>
   refine' (⟨_,yaN KX G (by k_is),_,yaN KX G (by k_is),_,yaN KX G (by k_is),_,yaN KX G (by k_is),_,yaN KX G (by k_is),_,yaN KX G (by k_is),?_,?_,?_,?_,?_,?_,?_,?_,?_,?_,?_,?_,?_,?_,?_,?_,?_,?_,?_,?_,?_,?_,?_,?_,?_,?_,?_,?_,?_,?_,?_,?_,_,yaN KX G (by k_is),?_,?_,?_,?_,?_,?_,?_,?_,?_,?_,?_,?_,?_,?_,?_,?_,?_,?_,?_,?_,?_,?_,?_,?_,?_,?_,?_,?_,?_,?_,?_,?_,?_,?_,?_,?_,?_,?_,?_,?_,?_,?_,?_,?_,?_,?_,?_,?_,?_,?_,?_,?_,?_,?_,?_,?_,?_,?_,?_,?_,?_,?_,?_,?_,?_,?_,?_,?_,?_,?_,?_,?_,?_,?_,?_,?_,?_,?_,?_,?_,?_,?_,?_,?_,?_,?_,?_,?_,?_⟩:Internal.K.Txt _ _)
   all_goals first | k_is | exact PySem.W.mg_none_of KX G (by k_is) | exact Internal.K.mkD KX G (by k_is) (by k_is) (by k_is) (by k_is) (by intro _ _ _ _ _ _ us hl;first | (obtain⟨_,rfl⟩:=Internal.K.len1 hl;rfl) | (obtain⟨_,_,rfl⟩:=Internal.K.len2 hl;rfl) | (obtain⟨_,_,_,rfl⟩:=Internal.K.len3 hl;rfl) | (obtain⟨_,_,_,_,rfl⟩:=Internal.K.len4 hl;rfl) | (obtain⟨_,_,_,_,_,rfl⟩:=Internal.K.len5 hl;rfl) | (obtain⟨_,_,_,_,_,_,rfl⟩:=Internal.K.len6 hl;rfl)) | exact Internal.kit_self | exact Internal.kit_ne "0a" (by k_is) (by k_is) (by k_is) | exact Internal.kit_V (by k_is) | exact Internal.exm_mk (by k_is) (by k_is) (by k_is) (by k_is) | exact Internal.errOk_mk (by k_exc) (by k_is) (by k_is) (by k_is) (by k_is) (by k_is) (by k_is) (by k_is) (by k_is) | exact Internal.K.mkQ_WORDS (by k_is) | exact λs v=>.of_eq rfl | skip
