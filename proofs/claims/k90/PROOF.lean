import PyProof.Rows.All
import KE.KTryMore
import KE.KSortTup
import KE.KLam
import KE.LcSums
import KE.KMinBuiltin
import KE.RegKLenAny
import KE.KFromBytes
import KE.KDictOf
import KE.KNestM
import OpenK.ZGo
import OpenK.KSplit
import OpenK.KApp
import Wide.FinOn
import PySem.Challenge.RW_quits_k90_whole_netted_and_cleared
set_option compiler.extract_closed false
set_option bootstrap.genMatcherCode false
set_option Elab.async false
set_option linter.all false
set_option maxRecDepth 100000
set_option genInjectivity false
set_option genSizeOf false
noncomputable section
local macro_rules|`(tactic|lia)=>`(tactic|first|lia -verbose|omega)
set_option hygiene false in
set_option maxHeartbeats 0 in
local macro_rules
|`("0a")=>`((by decide))
|`("0b")=>`((s.heap.push { cls:=.type "list_iterator",data:=.fields #[.ref l,.int 0 0] }))
|`("0c")=>`((k == NameKind.free&&env.scope.kind == .function&&env.kindOf n == some .cell))
|`("0d")=>`((cst n ds (pQ ps) k))
|`("0e")=>`((List.range n))
|`("0f")=>`((by walk_at "l"))
|`("0g")=>`((model X.prog X.w))
|`("0h")=>`((.tup [.int d.p,.int d.q,.int d.r,.int d.a]))
|`("0i")=>`((starEach (e :: es) X.env=(false,eval e X.env) :: starEach es X.env))
|`("0j")=>`((Or.inl rfl))
|`("0k")=>`((q.den:Int))
|`("0l")=>`((Addr × Obj))
structure PySem.W.Fast:Prop where
(tw10039353202287340748
tw10101414927763820834
tw10533871838807224180
tw10544187622351446446
tw10557161593373856825
tw10713303129690336355
tw10729083146693244037
tw10818492705372503518
tw10841791538346894879
tw10881306541906792131
tw10966061949020207680
tw10997530848727437374
tw10999788096802866496
tw11016680530008172754
tw11060191638178962467
tw1132622701496735965
tw1132935678054140305
tw11382586242292254799
tw11392663375849243373
tw11476207161142598282
tw11506877026336371966
tw11557914037125894209
tw11561784388085948640
tw11574789135339929434
tw11706409469741099932
tw1172184148177182558
tw11846318300120448159
tw11870069921780192342
tw11914202496187104414
tw11976742192167811311
tw12078983364574276484
tw12179622705851268647
tw12231800517537442522
tw12326251817606489373
tw12411887122679779391
tw12469783376986944507
tw12510046371389599653
tw12514387076126639913
tw12543261176468571241
tw12630514029283511947
tw1263368094543422349
tw12684590291474284301
tw12698831699883053280
tw12702072209415851217
tw12735612587408754804
tw12749403292630883089
tw12754545551241635381
tw12872294399007369422
tw12883011822537243508
tw12952973030934739615
tw13015672261066147611
tw1303005785081444530
tw13050379318441805307
tw13171953245944320231
tw13221746560786598644
tw13297110047767485466
tw13312456631258947441
tw13324875424687561434
tw13330198066666916711
tw13384995359511317360
tw13486404129039370840
tw13512783606007616177
tw13547083663794582619
tw13601404899292810717
tw13700442987325750306
tw13739546523959171138
tw14103437295087880872
tw14121178686222881567
tw14188049642227299692
tw14247684549748426273
tw14253059905692469869
tw14387724045345468064
tw14427436227411493429
tw14440525412341324220
tw14538015329350351157
tw14581732869513819609
tw1467512483242396037
tw14676588712764694435
tw14717128439793039697
tw14719684742948691252
tw14748317303014204584
tw14803496872385088358
tw14815523962888372970
tw14882725961013110813
tw14905899647044621059
tw14919463926490895749
tw1496379985207311978
tw14995879170566922458
tw15056520284842394617
tw15108594107052420631
tw15113415289820680740
tw1512966399390170248
tw15215776506450695292
tw15233578667331382155
tw15264839851759785547
tw15494539837484399300
tw15525977110318109808
tw15672886070870817354
tw15673398157292336287
tw15686657733269026226
tw1582669696462148425
tw15844842560737935799
tw15875942759021865026
tw15982831151466266711
tw16017063774237557902
tw1604262625589468252
tw16061916838401212760
tw16143326047488463546
tw16147716050204050311
tw16154854977527942779
tw163122811285197958
tw16317226374232854912
tw16346361805006744608
tw16466593342240783312
tw16534493593874454220
tw16569625892912267131
tw16623624338227458803
tw16627433384481738978
tw16712412797042790127
tw16817399705584171305
tw1682934887148921879
tw16842539334736120707
tw16859010445254819107
tw16860263052866979530
tw16876413287792896628
tw16931745230999146948
tw1707564725628439106
tw17078788717425236764
tw17084066902941705257
tw17134127834920583702
tw17216746822345058785
tw1726912909927362723
tw17358440765928837004
tw17364861936233432805
tw17377886355514408432
tw17410027440446950932
tw17460457328510045571
tw17519597774653922057
tw17531521049167335732
tw17610379119217256261
tw17679583818111673661
tw17726374304169739905
tw1774037239648586845
tw17754067508169035278
tw17754281187208123672
tw1779441703595516097
tw17887506169908439035
tw17934874354249615207
tw18077846558273063754
tw18143717355937005145
tw18171777356149273632
tw18323064569129816334
tw18359068204300065782
tw18363267946794742644
tw189764979331366923
tw1902480528258493502
tw1919385877481256148
tw1932100902058660021
tw1940212209815119545
tw1977740534653317252
tw1978443281339978996
tw1984616890509993748
tw2011731123914943862
tw201845415392850228
tw2119248878948457685
tw2142221664721379683
tw2308374257761676998
tw231327845775030720
tw2371457983451710362
tw244785301046938329
tw2522170813883277695
tw2630366932891246821
tw2703381156039357797
tw2756385042637321253
tw2863465431880541081
tw2918834532502736127
tw2933472766745857828
tw2956870908540507062
tw312265520026966071
tw3151681379364046349
tw3227577043822634044
tw3232428167785089708
tw3349913437772987334
tw3382446529120142536
tw34694368104313211
tw3487051286046089730
tw3501726698967766228
tw3536854640095229948
tw3556803291971448633
tw3644424904317154819
tw369680261487037627
tw374082702607552942
tw3807546404697149081
tw3831288248951015181
tw3905833133895157534
tw4025691008325576338
tw4034193859651004141
tw4085318021378500045
tw4139261319430975843
tw4158480183393850629
tw4159361716194692784
tw4183377620173523325
tw4216902445777261920
tw4267960573204043157
tw4274816142859957164
tw4276799189446948828
tw4340575238866080379
tw4441539181720020192
tw4473139738102761798
tw4596642586645573368
tw4804032438374535763
tw5088067279029924398
tw5115774518680897119
tw5190827414445491820
tw5195821787429244859
tw5204612808467039543
tw5240402924189734350
tw5425784038110999519
tw557034914185646060
tw5648912188858080129
tw5765454529138792835
tw5921053171156116668
tw5946489803316852064
tw5997179356126710368
tw6052141182521161841
tw6195413194586547913
tw6276494868745498197
tw6340446084000880155
tw6409668059256471445
tw642750872574314946
tw6565584731860343284
tw665428421237825750
tw6683221514765628373
tw6719464348919504628
tw6829425027088015892
tw6969370189390660015
tw7037197336355780116
tw7086347641725695433
tw720709791292288739
tw7276468624719728480
tw7423733519232042601
tw7630967213433897288
tw7806303989397248541
tw7838619679848034970
tw7879185918117255750
tw7905965269632110908
tw7991292924066967884
tw8044232388417630137
tw8071663855501038978
tw8187932538213393387
tw8305545352542334710
tw8512011854769623327
tw8522031711563743606
tw8691213151922518439
tw8722886427923492459
tw8889599042825129292
tw8891529934363401236
tw9028985922101446785
tw9165591246979894863
tw9205913051577224146
tw9285644455182881572
tw9307945559413009623
tw9326975322251447770
tw9497406251139965039
tw956241545871040181
tw9688903434127330102
tw9758213031926700221
tw9760552654208120079
tw9847366870319684779
tw9866332571047238081
tw9883224412427628051
tw9925341739822434552:True)
open PySem PySem.W PyProof.Rows in
set_option maxRecDepth 100000 in
set_option maxHeartbeats 0 in
open_top pre0 for PySem.Challenge.rw_quits_k90_whole_netted_and_cleared
local macro_rules|`(⋯)=>`(by lia)
abbrev Fg:=PySem.W.Frag
abbrev ya:=@List.mem_of_getElem?
abbrev yb:=@List.length_append
abbrev yc:=@Nat.le_refl
abbrev ye:=@List.length_map
abbrev yf:=@List.getD_eq_getElem?_getD
abbrev yg:=@List.getElem?_map
abbrev yh:=@Int.toNat_natCast
abbrev yi:=@Nat.le_trans
abbrev yj:=@List.getElem?_eq_some_iff
abbrev yk:=@List.map_append
abbrev yl:=@List.getElem?_eq_getElem
abbrev ym:=@List.mem_singleton
abbrev yn:=@Nat.succ_le_succ
abbrev yp:=@List.size_toArray
abbrev yq:=@List.mem_append_right
abbrev yr:=@List.take_length
abbrev yt:=@Option.some.inj
abbrev yu:=@Bool.false_ne_true
abbrev yv:=@List.mem_append_left
abbrev yw:=@Nat.ne_of_lt
abbrev yx:=@Nat.lt_of_lt_of_le
abbrev yy:=@List.range_succ
abbrev yz:=@List.lookup_cons
abbrev yA:=@List.mem_cons
abbrev yB:=@List.length_range
abbrev yC:=@Int.le_refl
abbrev yE:=@Rat.le_refl
abbrev yF:=@List.mem_range
abbrev yG:=@List.getElem?_eq_none
abbrev yH:=@List.mem_append
abbrev yI:=@List.map_congr_left
abbrev yJ:=@Rat.mul_nonneg
abbrev yK:=@Rat.intCast_mul
abbrev yL:=@Rat.le_trans
abbrev yM:=@Nat.zero_le
abbrev yO:=@List.getElem?_append_left
abbrev yP:=@Nat.lt_or_eq_of_le
abbrev yQ:=@List.getElem?_range
abbrev yR:=@List.mem_cons_of_mem
abbrev yS:=@Rat.mul_le_mul_of_nonneg_left
abbrev yT:=@PySem.F.plain_min_loop
abbrev yU:=@List.map_singleton
abbrev yV:=@Rat.intCast_add
abbrev yW:=@Nat.lt_irrefl
abbrev yX:=@List.mem_map
abbrev yY:=@Nat.le_of_lt_succ
abbrev yZ:=@List.mem_cons_self
abbrev y3:=@List.append_nil
abbrev y4:=@Rat.mul_le_mul_of_nonneg_right
abbrev y6:=@List.getElem_of_mem
abbrev y8:=@List.length_singleton
abbrev y9:=@List.length_cons
abbrev yaa:=@List.getElem?_append_right
abbrev yab:=@Int.natAbs_natCast
abbrev yac:=@Int.emod_lt_of_pos
abbrev yad:=@Nat.lt_of_le_of_lt
abbrev yae:=@Int.mul_ediv_cancel_left
abbrev yaf:=@List.foldl_append
abbrev yag:=@List.ext_getElem?
abbrev yah:=@List.eq_nil_of_length_eq_zero
abbrev yai:=@Classical.byContradiction
abbrev yaj:=@List.take_of_length_le
abbrev yak:=@Int.emod_nonneg
abbrev yal:=@Bool.and_eq_true
abbrev yam:=@PySem.W.kia_one
abbrev yan:=@Nat.not_lt_zero
abbrev yao:=@List.length_drop
abbrev yap:=@Int.ediv_mul_cancel
abbrev yaq:=@Int.mul_nonpos_of_nonneg_of_nonpos
abbrev yar:=@List.length_set
abbrev yas:=@List.length_take
abbrev yat:=@Classical.em
abbrev yau:=@List.getElem?_set
abbrev yav:=@Int.mul_le_mul_of_nonneg_right
abbrev yaw:=@Nat.le_of_lt
abbrev yax:=@Int.ne_of_gt
abbrev yay:=@Nat.lt_succ_self
abbrev yaz:=@List.map_cons
abbrev yaA:=@List.filter_cons_of_pos
abbrev yaB:=@List.filter_cons_of_neg
abbrev yaC:=@List.mem_filter
abbrev yaD:=@PyProof.Rows.callWith_type1
abbrev yaE:=@List.replicate_succ
abbrev yaF:=@Classical.epsilon_spec
abbrev yaG:=@PySem.F.entry_min_loop
abbrev yaH:=@List.not_mem_nil
abbrev yaI:=@List.nodup_nil
abbrev yaJ:=@List.nodup_cons
abbrev yaK:=@List.getElem?_append
abbrev yaL:=@List.append_assoc
abbrev yaM:=@Nat.le_succ_of_le
abbrev yaN:=@Int.le_of_lt
abbrev yaO:=@Int.mul_comm
abbrev yaP:=@List.filter_append
abbrev yaQ:=@Rat.intCast_neg
abbrev yaR:=@Rat.divInt_eq_div
abbrev yaS:=@List.getElem?_eq_none_iff
abbrev yaT:=@Nat.pow_le_pow_right
abbrev yaU:=@Nat.pow_lt_pow_right
abbrev yaV:=@List.mem_or_eq_of_mem_set
abbrev yaW:=@Int.mul_pos
abbrev yaX:=@List.take_succ_eq_append_getElem
abbrev yaY:=@PySem.mem_of_lookup
abbrev yaZ:=@Nat.mul_le_mul_left
abbrev ya0:=@List.length_pos_iff
abbrev ya1:=@PyProof.Rows.slot_tuple_getitem
abbrev ya2:=@List.getElem?_replicate
abbrev ya3:=@Nat.eq_zero_or_pos
abbrev ya4:=@List.getElem?_drop
abbrev ya5:=@Nat.pow_add
abbrev ya6:=@List.flatten_cons
abbrev ya7:=@Int.mul_left_comm
abbrev ya8:=@List.nodup_append
abbrev ya9:=@Ne.symm
abbrev yba:=@List.length_filter_le
abbrev ybb:=@Nat.mul_le_mul
abbrev ybc:=@Int.ofNat_nonneg
abbrev ybd:=@Int.ediv_pos_of_pos_of_dvd
abbrev ybe:=@Int.mul_assoc
abbrev ybf:=@Rat.div_def
abbrev ybg:=@List.flatMap_append
abbrev ybh:=@Nat.two_pow_pos
abbrev ybi:=@Rat.le_of_mul_le_mul_left
abbrev ybj:=@Option.isSome_iff_exists
abbrev ybk:=@Bool.false_eq_true
abbrev ybl:=@Rat.num_divInt_den
abbrev ybm:=@Int.lt_or_le
abbrev ybn:=@Nat.lt_or_ge
abbrev ybo:=@Rat.not_lt
abbrev ybp:=@PySem.F.plainAttrs_list
abbrev ybq:=@Nat.lt_succ_of_lt
abbrev ybr:=@Rat.mul_pos
abbrev ybs:=@Int.add_mul
abbrev ybt:=@Int.add_mul_ediv_right
abbrev ybu:=@Int.ediv_eq_zero_of_lt
abbrev ybv:=@List.all_eq_true
abbrev ybw:=@Bool.eq_iff_iff
abbrev ybx:=@Nat.pow_succ
abbrev yby:=@List.Nodup.length_le_of_subset
abbrev ybz:=@List.mem_of_mem_take
abbrev ybA:=@List.filterMap_cons
abbrev ybB:=@Array.length_toList
abbrev ybC:=@Rat.divInt_mul_left
abbrev ybD:=@Int.toNat_of_nonneg
abbrev ybE:=@List.map_eq_nil_iff
abbrev ybF:=@Int.natAbs_mul
abbrev ybG:=@Int.gcd_eq_natAbs_gcd_natAbs
abbrev ybH:=@Rat.neg_divInt_neg
abbrev ybI:=@Nat.add_sub_cancel
abbrev ybJ:=@Nat.lt_or_gt_of_ne
abbrev ybK:=@Rat.mul_inv_cancel
abbrev ybL:=@Rat.div_mul_cancel
abbrev ybM:=@List.getElem?_concat_length
abbrev ybN:=@Rat.sub_eq_add_neg
abbrev ybO:=@List.all_cons
abbrev ybP:=@Nat.le_of_succ_le
abbrev ybQ:=@Nat.dvd_mul_right
abbrev ybR:=@Nat.not_lt
abbrev ybS:=@List.getElem_inj
abbrev ybT:=@Nat.ne_of_gt
abbrev ybU:=@List.map_set
abbrev ybV:=@List.nodup_range
abbrev ybW:=@List.getElem_mem
abbrev ybX:=@Nat.sub_self
abbrev ybY:=@List.mem_flatMap
abbrev ybZ:=@Int.le_trans
abbrev yb0:=@Rat.mul_comm
abbrev yb1:=@List.of_mem_zip
abbrev yb2:=@Rat.intCast_sub
abbrev yb3:=@Int.natCast_add
abbrev yb4:=@Int.natCast_mul
abbrev yb5:=@Rat.le_antisymm
abbrev yb6:=@Int.mul_one
abbrev yb7:=@Int.mul_add
abbrev yb8:=@Nat.mul_pos
namespace Internal
variable {A:Around}{C a b:Addr}{K:Fg}{M:Model}{N ps:List Str}{P:Program}{fd:FuncData}{fp:List Addr}{h:Heap}{i j k n t':Nat}{iter tg:Expr}{its us:List Value}{lo:Int}{pins:List (Addr × Obj)}{s:Shared}{u:Value}{w:World}{x:Str}
theorem aut0(h:True:=by first | exact .inl rfl | exact .inr rfl | assumption):True:=h
theorem aut1(h:True:=by decide):True:=h
theorem aut2(h:True:=by rfl):True:=h
theorem aut3(h:True:=by intro _;rfl):True:=h
theorem aut4(h:True:=by intros;rfl):True:=h
theorem aut5(h:True:=by exact λ_ _ _ _ _=>rfl):True:=h
theorem aut6(h:True:=by exact λ_ _=>rfl):True:=h
theorem aut7(h:True:=by exact λ_=>rfl):True:=h
theorem aut8(h:True:=by first | exact Or.inl rfl | exact Or.inr rfl):True:=h
theorem aut9(h:True:=by first | exact .inl rfl | exact .inr rfl):True:=h
open PySem PySem.Spec PyProof.Rows
abbrev Key:=Sum Int Str
noncomputable def zrw:Key->Value->Bool
 | .inl k,v=>Value.isInt k v
 | .inr x,v=>Value.isStrOf x v
noncomputable def zvz (w:World):Key->Int
 | .inl k=>hashInt k
 | .inr x=>hashStr w x
def zaZ:∀{k:Key} {v:Value},zrw k v=true->(∃i t,k=Sum.inl i/\v=Value.int i t)\/(∃x t,k=Sum.inr x/\v=Value.str x t)
 | .inl i,v,h=>by
  obtain⟨t,e⟩:=Value.isInt_shape (k:=i) (v:=v) h;exact .inl ⟨i,t,rfl,e⟩
 | .inr x,v,h=>by
  obtain⟨t,e⟩:=Value.isStrOf_shape (x:=x) (v:=v) h;exact .inr ⟨x,t,rfl,e⟩
def ztf(a b:Int):decide ((Sum.inl a:Key)=Sum.inl b)=(a == b):=by
 by_cases e:a=b
 ·subst e;simp
 ·have h:¬(Sum.inl a:Key)=Sum.inl b:=λq=>e (Sum.inl.inj q);rw[decide_eq_false h];exact(beq_eq_false_iff_ne.mpr e).symm
def zuB(a b:Str):decide ((Sum.inr a:Key)=Sum.inr b)=decide (a=b):=by
 by_cases e:a=b
 ·subst e;simp
 ·have h:¬(Sum.inr a:Key)=Sum.inr b:=λq=>e (Sum.inr.inj q);rw[decide_eq_false h,decide_eq_false e]
def ztE(a:Int)(b:Str):decide ((Sum.inl a:Key)=Sum.inr b)=false:=decide_eq_false (λq=>nomatch q)
def ztQ(a:Str)(b:Int):decide ((Sum.inr a:Key)=Sum.inl b)=false:=decide_eq_false (λq=>nomatch q)
noncomputable def zig (prog:Program) (w:World):PySem.KeyKind prog w Key where
 is:=zrw
 hash:=zvz w
 inj:=λv a b ha f=>by
  rcases zaZ ha with⟨i,t,rfl,rfl⟩ | ⟨x,t,rfl,rfl⟩
  ·rcases zaZ f with⟨j,u,rfl,e⟩ | ⟨y,u,rfl,e⟩
   ·injection e with c _;rw[c]
   ·exact nomatch e
  ·rcases zaZ f with⟨j,u,rfl,e⟩ | ⟨y,u,rfl,e⟩
   ·exact nomatch e
   ·injection e with c _;rw[c]
 byValue:=λk v h=>by
  rcases zaZ h with⟨i,t,rfl,rfl⟩ | ⟨x,t,rfl,rfl⟩<;>rfl
 pyHash:=λd h=>by
  rcases zaZ d with⟨i,t,rfl,rfl⟩ | ⟨x,t,rfl,rfl⟩
  ·exact wpAny_pyHash_int h
  ·exact wpAny_pyHash_str h
 eqBool:=λg d h=>by
  rcases zaZ g with⟨i,t,rfl,rfl⟩ | ⟨x,t,rfl,rfl⟩
  ·rcases zaZ d with⟨j,u,rfl,rfl⟩ | ⟨y,u,rfl,rfl⟩
   ·rw[ztf]at h;exact wpAny_eqBool_int h
   ·rw[ztE]at h;exact SeqAt.EqAt.int_str i t y u _ _ _ _ h
  ·rcases zaZ d with⟨j,u,rfl,rfl⟩ | ⟨y,u,rfl,rfl⟩
   ·rw[ztQ]at h;exact SeqAt.EqAt.str_int x t j u _ _ _ _ h
   ·rw[zuB]at h;exact wpAny_eqBool_str h
 «strs»:=λk x t v h=>by
  rcases zaZ h with⟨i,u,rfl,e⟩ | ⟨y,u,rfl,e⟩
  ·exact nomatch e
  ·injection e with c _
   subst c;cases v<;>rfl
set_option genInjectivity true in
set_option genSizeOf true in
inductive V where
 | non | bl (b:Bool) | int (i:Int) | str (x:Str) | byt (b:Array UInt8) | flt (b:UInt64) | ref (a:Addr) | ty (n:String)
 deriving DecidableEq
variable {v y:V}{xs:List V}
noncomputable def RelV:V->Value->Prop
 | .non,u=>u=Value.none
 | .bl b,u=>u=Value.bool b
 | .int i,u=>∃t,u=Value.int i t
 | .str x,u=>∃t,u=Value.str x t
 | .byt b,u=>∃t,u=Value.bytes b t
 | .flt b,u=>∃t,u=Value.float b t
 | .ref a,u=>u=Value.ref a
 | .ty n,u=>u=Value.type n
abbrev Vals:List V->List Value->Prop:=Paired RelV
theorem Vals.length{xs:List V}{us:List Value}(r:Vals xs us):xs.length=us.length:=Paired.length r
theorem Vals.get:∀{xs:List V} {us:List Value} {i:Nat} {x:V},Vals xs us->xs[i]?=some x->∃u,us[i]?=some u/\RelV x u
 | _,_,_,_,.nil,e=>by simp at e
 | _,_,0,_,.cons r _,e=>by simp at e;subst e;exact⟨_,rfl,r⟩
 | _,_,i+1,x,.cons _ t,e=>by
  obtain⟨u,h1,h2⟩:=Vals.get (i:=i) (x:=x) t (by simpa using e);exact⟨u,by simpa using h1,h2⟩
theorem Vals.set{x:V}{u:Value}(r:RelV x u):∀{xs:List V} {us:List Value} (i:Nat),Vals xs us->Vals (xs.set i x) (us.set i u)
 | _,_,_,.nil=>.nil
 | _,_,0,.cons _ t=>.cons r t
 | _,_,i+1,.cons q t=>.cons q (Vals.set r i t)
theorem Vals.append:∀{xs ys:List V} {us ws:List Value},Vals xs us->Vals ys ws->Vals (xs++ys) (us++ws)
 | _,_,_,_,.nil,s=>s
 | _,_,_,_,.cons r t,s=>.cons r (Vals.append t s)
theorem Vals.take:∀{xs:List V} {us:List Value} (n:Nat),Vals xs us->Vals (xs.take n) (us.take n)
 | _,_,0,_=>.nil
 | _,_,_+1,.nil=>.nil
 | _,_,n+1,.cons r t=>.cons r (Vals.take n t)
theorem Vals.drop:∀{xs:List V} {us:List Value} (n:Nat),Vals xs us->Vals (xs.drop n) (us.drop n)
 | _,_,0,r=>r
 | _,_,_+1,.nil=>.nil
 | _,_,n+1,.cons _ t=>Vals.drop n t
noncomputable def zpO:Option V->Option Value->Prop
 | some v,some u=>RelV v u
 | none,none=>True
 | _,_=>False
noncomputable def KV {κ:Type}:List (κ × V)->List (κ × Value)->Prop:=Paired fun(p:κ × V) (q:κ × Value)=>p.1=q.1/\RelV p.2 q.2
noncomputable def kV:Key->V
 | .inl i=>.int i
 | .inr x=>.str x
set_option genInjectivity true in
set_option genSizeOf true in
inductive HO where
 /-- a list -/
 | lst (xs:List V)
 /-- a tuple (never changes) -/
 | tup (xs:List V)
 /-- a dict whose keys are ints and texts;one whose keys are tuples of ints and texts (the empty one is both) -/
 | dK (kvs:List (Key × V)) | dT (kvs:List (List Key × V))
 /-- a set of ints: its members,its size -/
 | set (S:Int->Bool) (n:Nat)
 /-- an instance of the class at C,its dict at dx,its attributes -/
 | ins (C dx:Addr) (fs:List (Str × V))
 /-- the dict of the instance at x -/
 | own (x:Addr)
 /-- the dict of an exception -/
 | xd (fs:List (Str × V))
 /-- a bound method,f of x -/
 | met (f x:Addr)
 /-- a range object lo,lo+1,.. below hi -/
 | rng (lo hi:Int)
 /-- a thing that is known to the object (the script;a dict while a loop walks it): read,never written while it is so -/
 | frz (o:Obj) (u:HO)
 /-- a code object's table -/
 | tbl (ps:Array Value)
 /-- any other thing,by what is true of its one object (a def of one's own: SetO a S n:=HO.ext λh=>..) -/
 | ext (φ:Heap->Prop)
variable {o:HO}
abbrev Hp:=Addr->Option HO
variable {H H':Hp}
noncomputable def upd (H:Hp) (a:Addr) (o:HO):Hp:=λb=>if b=a then some o else H b
def zaa:upd H a o a=some o:=by unfold upd;rw[if_pos rfl]
def zZ(h:b≠a):upd H a o b=H b:=by unfold upd;rw[if_neg h]
def zrv{u:HO}(h:H a=some o)(h':H b=some u)(d:o≠u):a≠b:=by
 intro e;subst e;rw[h]at h';exact d (yt h')
def zV(h:H a=some o)(h':H b=none):a≠b:=by
 intro e;subst e;rw[h]at h';cases h'
section
variable (P:Program)(w:World)
noncomputable def ObjOk (H:Hp) (h:Heap) (a:Addr):HO->Prop
 | .lst xs=>xs.length<=sizeLine/\∃(its:List Value) (n:Nat),Vals xs its/\h.get? a=some { cls:=.type "list",data:=.seq its.toArray n }
 | .tup xs=>xs.length<=sizeLine/\∃its:List Value,Vals xs its/\IsTup h a its.toArray
 | .dK kvs=>kvs.length<=sizeLine/\(a == sysModules)=false/\∃vs,KV kvs vs/\h.DictOf (zig P w) a vs
 | .dT kvs=>kvs.length<=sizeLine/\(a == sysModules)=false/\∃xs:List (List Key × Addr × Value),
   Paired (fun(p:List Key × V) (q:List Key × Addr × Value)=>p.1=q.1/\H q.2.1=some (.tup (p.1.map kV))/\RelV p.2 q.2.2) kvs xs /\
   ∃o es ep,h.get? a=some o/\o.ExactDict/\o.data=.dict es ep/\es.toList=xs.map (entryOfKey (tupleKind (zig P w)))/\(xs.map (·.1)).Nodup
 | .set S n=>h.SetOf (intKind P w) a S n
 | .ins C dx fs=>H dx=some (.own a)/\fs.length<=1000/\dx≠a/\h.get? a=some (PySem.W.instObj C dx) /\
   ∃mA,h.Ns1 dx mA/\(∀f,zpO (fs.lookup f) (mA f))/\PySem.Within mA (fs.map (·.1))
 | .own _=>∃o,h.get? a=some o
 | .xd fs=>∃mA,h.Ns1 a mA/\∀f,zpO (fs.lookup f) (mA f)
 | .rng lo hi=>∃t u v,h.get? a=some { cls:=.type "range",data:=.fields #[.int lo t,.int hi u,.int 1 v] }
 | .frz o u=>h.get? a=some o/\ObjOk H h a u
 | .tbl ps=>h.get? a=some { cls:=.none,data:=.fields ps }
 | .met f x=>h.get? a=some (PySem.W.methodObj (.ref f) (.ref x))
 | .ext φ=>φ h/\(∃o,h.get? a=some o)/\∀h1 h2:Heap,φ h1->(∀o,h1.get? a=some o->h2.get? a=some o)->φ h2
noncomputable def HOk (H:Hp) (h:Heap):Prop:=∀a o,H a=some o->ObjOk P w H h a o
end
section
variable {P:Program}{w:World}{H H':Hp}{h h':Heap}{a:Addr}{o:HO}
theorem ObjOk.lt(x:ObjOk P w H h a o):a<h.objs.size:=by
 cases o with
 | lst xs=>obtain⟨_,_,_,_,e⟩:=x;exact Heap.lt_size e
 | tup xs=>obtain⟨_,_,_,p⟩:=x;exact p.lt
 | dK kvs=>obtain⟨_,_,_,_,o,_,_,e,_⟩:=x;exact Heap.lt_size e
 | dT kvs=>obtain⟨_,_,_,_,o,_,_,e,_⟩:=x;exact Heap.lt_size e
 | set S n=>obtain⟨o,_,_,_,e,_⟩:=x;exact Heap.lt_size e
 | ins C dx fs=>obtain⟨_,_,_,e,_⟩:=x;exact Heap.lt_size e
 | own y=>obtain⟨_,e⟩:=x;exact Heap.lt_size e
 | xd fs=>obtain⟨_,⟨_,_,_,e,_⟩,_⟩:=x;exact Heap.lt_size e
 | rng lo hi=>obtain⟨_,_,_,e⟩:=x;exact Heap.lt_size e
 | frz ob u=>obtain⟨e,_⟩:=x;exact Heap.lt_size e
 | tbl ps=>exact Heap.lt_size (show h.get? a=some _ from x)
 | met f y=>exact Heap.lt_size (show h.get? a=some _ from x)
 | ext φ=>obtain⟨_,⟨_,e⟩,_⟩:=x;exact Heap.lt_size e
theorem Paired.mapP{α β:Type}{F G:α->β->Prop}:∀{l₁:List α} {l₂:List β},Paired F l₁ l₂->(∀a b,F a b->G a b)->Paired G l₁ l₂
 | _,_,.nil,_=>.nil
 | _,_,.cons r t,f=>.cons (f _ _ r) (Paired.mapP t f)
def ObjOk.stay(x:ObjOk P w H h a o)(k:∀b u,(b=a\/H b=some (.own a))->h.get? b=some u->h'.get? b=some u)
  (ho:∀b,H b=some (.own a)->H' b=some (.own a)) (ht:∀b xs,H b=some (.tup xs)->H' b=some (.tup xs)):ObjOk P w H' h' a o:=by
 induction o with
 | lst xs=>obtain⟨z,its,n,r,e⟩:=x;exact⟨z,its,n,r,k _ _ (.inl rfl) e⟩
 | tup xs=>obtain⟨z,its,r,g,e,c⟩:=x;exact⟨z,its,r,g,k _ _ (.inl rfl) e,c⟩
 | dK kvs=>obtain⟨z,y,vs,r,g,es,i,e,c⟩:=x;exact⟨z,y,vs,r,g,es,i,k _ _ (.inl rfl) e,c⟩
 | dT kvs=>
  obtain⟨z,y,xs,r,g,es,i,e,c⟩:=x;exact⟨z,y,xs,Paired.mapP r λp q z=>⟨z.1,ht _ _ z.2.1,z.2.2⟩,g,es,i,k _ _ (.inl rfl) e,c⟩
 | set S n=>obtain⟨g,es,i,t,e,c⟩:=x;exact⟨g,es,i,t,k _ _ (.inl rfl) e,c⟩
 | ins C dx fs=>
  obtain⟨d,z,ne,e,mA,⟨j,es,i,l,c⟩,r⟩:=x;exact⟨ho _ d,z,ne,k _ _ (.inl rfl) e,mA,⟨j,es,i,k _ _ (.inr d) l,c⟩,r⟩
 | own y=>obtain⟨g,e⟩:=x;exact⟨g,k _ _ (.inl rfl) e⟩
 | xd fs=>obtain⟨mA,⟨j,es,i,e,c⟩,r⟩:=x;exact⟨mA,⟨j,es,i,k _ _ (.inl rfl) e,c⟩,r⟩
 | rng lo hi=>obtain⟨t,u,v,e⟩:=x;exact⟨t,u,v,k _ _ (.inl rfl) e⟩
 | frz g u ih=>obtain⟨e,q⟩:=x;exact⟨k _ _ (.inl rfl) e,ih q⟩
 | tbl ps=>
  have e:h.get? a=some { cls:=.none,data:=.fields ps }:=x;show h'.get? a=some { cls:=.none,data:=.fields ps };exact k a _ (.inl rfl) e
 | met f y=>
  have e:h.get? a=some (PySem.W.methodObj (.ref f) (.ref y)):=x;show h'.get? a=some (PySem.W.methodObj (.ref f) (.ref y));exact k a _ (.inl rfl) e
 | ext φ=>obtain⟨p,⟨o,e⟩,st⟩:=x;exact⟨st _ _ p λo q=>k _ _ (.inl rfl) q,⟨o,k _ _ (.inl rfl) e⟩,st⟩
theorem HOk.lt(x:HOk P w H h)(e:H a=some o):a<h.objs.size:=(x a o e).lt
def HOk.fresh(x:HOk P w H h)(e:h.objs.size<=a):H a=none:=by
 cases q:H a with
 | none=>rfl
 | some u=>exact absurd (yx (x.lt q) e) (yW _)
def HOk.kept(x:HOk P w H h)(k:∀b u,h.get? b=some u->h'.get? b=some u):HOk P w H h':=λa o e=>
 (x a o e).stay (λb u _ q=>k b u q) (λ_ q=>q) λ_ _ q=>q
def HOk.laid(x:HOk P w H h)(k:∀b u,h.get? b=some u->h'.get? b=some u)(g:h.objs.size<=a)(new:ObjOk P w (upd H a o) h' a o):HOk P w (upd H a o) h':=λb u e=>by
 have d:=x.fresh g;by_cases f:b=a
 ·subst f;rw[zaa]at e;cases e;exact new
 ·rw[zZ f]at e;exact(x b u e).stay (λc v _ q=>k c v q) (λc q=>by rw[zZ (zV q d)];exact q) λc xs q=>by rw[zZ (zV q d)];exact q
end
noncomputable def Rd (H:Hp) (a:Addr) (u:HO):Prop:=H a=some u\/∃o,H a=some (.frz o u)
def Rd.ok{u:HO}(r:Rd H a u)(x:HOk P w H h):ObjOk P w H h a u:=by
 rcases r with r | ⟨o,r⟩
 ·exact x a u r
 ·obtain⟨_,q⟩:=x a _ r;exact q
noncomputable def Mut:Option HO->Prop
 | some (.lst _)=>True
 | some (.dK _)=>True
 | some (.dT _)=>True
 | some (.set _ _)=>True
 | some (.ins _ _ _)=>True
 | some (.ext _)=>True
 | _=>False
section
variable {P:Program}{w:World}{H:Hp}{h h':Heap}{x e:Addr}{o':HO}
def HOk.write(ok:HOk P w H h)(i:Mut (H x))(m:e=x\/H e=some (.own x))(k:∀b u,b≠e->h.get? b=some u->h'.get? b=some u)(l:∃u,h'.get? e=some u)
  (new:ObjOk P w (upd H x o') h' x o'):HOk P w (upd H x o') h':=λb u q=>by
 have d:∀c y,H c=some (.own y)->c≠x:=λc y r z=>by subst z;rw[r]at i;exact i
 have f:∀c xs,H c=some (.tup xs)->c≠x:=λc xs r z=>by subst z;rw[r]at i;exact i
 by_cases j:b=x
 ·subst j;rw[zaa]at q;cases q;exact new
 ·rw[zZ j]at q;by_cases a:b=e
  ·have q':H b=some (.own x):=by
    rcases m with z | z
    ·exact absurd (a.trans z) j
    ·rw[a];exact z
   rw[q]at q';cases q';obtain⟨v,n⟩:=l;exact⟨v,by rw[a];exact n⟩
  ·refine(ok b u q).stay (λc v g r=>k c v ?_ r) (λc r=>by rw[zZ (d c b r)];exact r) λc xs r=>by rw[zZ (f c xs r)];exact r
   rcases g with rfl | g
   ·exact a
   ·rintro rfl;rcases m with z | z
    ·exact d c b g z
    ·rw[g]at z;cases z;exact j rfl
end
structure Un(fs ex:List Addr)(H H':Hp)(h h':Heap):Prop where
 keep:∀b o,h.get? b=some o->H b=none->b∉fs->b∉ex->h'.get? b=some o
 slot:∀b o,h.get? b=some o->H b=none->b∈fs->b∉ex->∃sl,h'.get? b=some { o with slots:=sl }
 free:∀b o,h.get? b=some o->H b=none->b∉ex->H' b=none
 there:∀b o,h.get? b=some o->b∉ex->∃o',h'.get? b=some o'
 tups:∀b xs,H b=some (.tup xs)->H' b=some (.tup xs)
 frzs:∀b o u,H b=some (.frz o u)->H' b=some (.frz o u)
 tbls:∀b ps,H b=some (.tbl ps)->∃more,H' b=some (.tbl (ps++more))
section
variable {fs fs' ex ex':List Addr}{H H1 H2:Hp}{h h1 h2 h':Heap}{a x e:Addr}{o:HO}
def Un.any(u:Un fs ex H H1 h h1){a:Obj}(q:h.get? b=some a)(n:H b=none)(d:b∉ex):∃sl,h1.get? b=some { a with slots:=sl }:=by
 by_cases c:b∈fs
 ·exact u.slot b a q n c d
 ·exact⟨a.slots,u.keep b a q n c d⟩
def Un.kept(k:∀b u,h.get? b=some u->h'.get? b=some u):Un fs ex H H h h':=
 ⟨λb a q _ _ _=>k b a q,λb a q _ _ _=>⟨a.slots,k b a q⟩,λ_ _ _ n _=>n,λb a q _=>⟨a,k b a q⟩,λ_ _ q=>q,λ_ _ _ q=>q,λ_ ps q=>⟨#[],by rw[q];simp⟩⟩
def Un.refl:Un fs ex H H h h:=Un.kept λ_ _ q=>q
def Un.laid(k:∀b u,h.get? b=some u->h'.get? b=some u)(d:h.objs.size<=a)(c:H a=none):Un fs ex H (upd H a o) h h' where
 keep:=λb u q _ _ _=>k b u q
 slot:=λb u q _ _ _=>⟨u.slots,k b u q⟩
 free:=λb u q n _=>by rw[zZ (yw (yx (Heap.lt_size q) d))];exact n
 there:=λb u q _=>⟨u,k b u q⟩
 tups:=λb xs q=>by rw[zZ (zV q c)];exact q
 frzs:=λb u xs q=>by rw[zZ (zV q c)];exact q
 tbls:=λb ps q=>⟨#[],by rw[zZ (zV q c),q];simp⟩
def Un.write(c:Mut (H x))(j:e=x\/H e=some (.own x))(k:∀b u,b≠e->h.get? b=some u->h'.get? b=some u)(f:∃u,h'.get? e=some u):Un fs ex H (upd H x o) h h':=by
 have g:∀b,H b=none->b≠x:=λb n z=>by subst z;rw[n]at c;exact c
 have i:∀b,H b=none->b≠e:=λb n z=>by
  subst z;rcases j with r | r
  ·exact g b n r
  ·rw[n]at r;cases r
 have d:∀b u,H b=some u->¬Mut (some u)->b≠x:=λb u q nm z=>by subst z;rw[q]at c;exact nm c
 refine⟨λb u q n _ _=>k b u (i b n) q,λb u q n _ _=>⟨u.slots,k b u (i b n) q⟩,λb u q n _=>by rw[zZ (g b n)];exact n,λb u q _=>?_,
  λb xs q=>by rw[zZ (d b _ q λz=>z)];exact q,λb u xs q=>by rw[zZ (d b _ q λz=>z)];exact q,λb ps q=>⟨#[],by rw[zZ (d b _ q λz=>z),q];simp⟩⟩
 by_cases a:b=e
 ·subst a;exact f
 ·exact⟨u,k b u a q⟩
end
noncomputable def trk (h:Heap) (H:Hp):List Addr:=(List.range h.objs.size).filter λa=>(H a).isSome
noncomputable def zdS (h:Heap) (H:Hp):Heap:=PySem.W.hideAll h (trk h H)
def zor(h:Heap)(H:Hp):(zdS h H).objs.size=h.objs.size:=PySem.W.hideAll_size _ _
def zqQ{o:Obj}(e:h.get? b=some o)(n:H b=none):(zdS h H).get? b=some o:=
 PySem.W.hideAll_get _ e λa=>by
  have q:(H b).isSome=true:=(yaC.mp a).2;rw[n]at q;simp at q
def zsQ{o:Obj}(e:(zdS h H).get? b=some o):h.get? b=some o/\H b=none:=by
 have a:h.get? b=some o:=PySem.W.of_hideAll (trk h H) e;refine⟨a,?_⟩;cases q:H b with
 | none=>rfl
 | some x=>
  have c:b∈trk h H:=yaC.mpr ⟨yF.mpr (Heap.lt_size a),by simp[q]⟩;have z:(zdS h H).get? b=none:=PySem.W.hideAll_none (trk h H) c;rw[z]at e;cases e
noncomputable def zsm (g h:Heap) (L:Addr):List "0l":=(List.range h.objs.size).filterMap λa=>if a=L\/(g.get? a).isSome=true then none else(h.get? a).map λo=>(a,o)
noncomputable def rest (g h:Heap) (L d:Addr):List "0l":=(zsm g h L).filter λp=>decide (p.1≠d)
structure Mod(K:Fg)(mg:Str->Option Value)(base:Heap):Prop where
 kin:K.In base
 glob:base.Ns mainGlobals mg
 blt:∃mb,base.Ns builtinsNs mb/\∀x:Str,x ≠ "__name__" -> mb x=bootBuiltins x
 nolimit:base.NoLimit
set_option genInjectivity true in
structure Cx where
 prog:Program
 w:World
 K:Fg
 mg:Str->Option Value
 base:Heap
 A:Around
 N:List Str
 s₀:Shared
 H₀:Hp
 env:Env
 outer:List Env
 stack:List Env
 ex:List Addr
 fn:Str->Bool
 calm:Bool
 pn:List "0l"
 xe:Value->Shared->Prop
variable {X:Cx}
noncomputable def frs (l:List Env):List Addr:=l.filterMap (·.frame)
abbrev Cx.fs(X:Cx):List Addr:=frs X.outer
noncomputable def Vis (a:Scope) (x:Str):Prop:=a.names.lookup x=some .local\/a.names.lookup x=some .cell\/a.names.lookup x=some .free
noncomputable def Loc (a:Scope) (x:Str):Prop:=a.names.lookup x=some .local\/a.names.lookup x=some .cell
noncomputable def zvt (env:Env) (h:Heap) (m:Str->Option Value) (x:Str) (u:Value):Prop:=
 (env.kindOf x=some .local/\m x=some u)\/((env.kindOf x=some .cell\/env.kindOf x=some .free)/\∃c,env.cells.lookup x=some c/\h.IsCell c (some u))
structure Cx.Ok(X:Cx):Prop where
 mod:Mod X.K X.mg X.base
 kind:X.env.scope.kind=.function
 glob:X.env.globals=mainGlobals
 blt:X.env.builtins=builtinsNs
 above:X.s₀.heap.objs.size<=X.env.locals
 inj:∀x y c,X.env.cells.lookup x=some c->X.env.cells.lookup y=some c->x=y
 has:∀x,(X.env.kindOf x=some .cell\/X.env.kindOf x=some .free)->∃c,X.env.cells.lookup x=some c
 cab:∀x c,X.fn x=true->X.env.cells.lookup x=some c->X.s₀.heap.objs.size<=c
 hd:X.calm=true->X.A.handled=none
 frames:X.A.frames=some X.stack
 stk:X.stack=X.outer\/(X.stack=X.env :: X.outer/\X.env.frame=some X.env.locals)
 exf:∀b∈X.ex,b≠X.env.locals/\∀x c,X.env.cells.lookup x=some c->c≠b
 bs:∀b o,X.base.get? b=some o->X.s₀.heap.get? b=some o/\X.H₀ b=none
 bsz:X.base.objs.size<=X.s₀.heap.objs.size
 noex:∀b o,X.base.get? b=some o->b∉X.ex
 exfs:∀b∈X.ex,b∉X.fs
 funs:X.s₀.heap.FunFrames X.base X.outer
 frf:∀b∈X.fs,X.H₀ b=none
structure Inv(X:Cx)(pins:List "0l")(σ:List (Option V))(H:Hp)(s:Shared):Prop where
 ok:X.Ok
 os:s.os=X.s₀.os
 bare:AllBare s.gens
 base:Un X.fs X.ex X.H₀ H X.s₀.heap s.heap
 loc:∃m,s.heap.Ns X.env.locals m/\∀(i:Nat) (x:Str) (v:V),X.N[i]?=some x->σ[i]?=some (some v)->Vis X.env.scope x->∃u,RelV v u/\zvt X.env s.heap m x u
 cell:∀x c,X.env.cells.lookup x=some c->∃v,s.heap.IsCell c v
 free:H X.env.locals=none
 freeC:∀x c,X.env.cells.lookup x=some c->H c=none
 pin:∀p∈X.pn++pins,s.heap.get? p.1=some p.2/\H p.1=none/\p.1≠X.env.locals/\p.1∉X.fs/\∀v,p.2.data≠.cell v
 hok:HOk X.prog X.w H s.heap
 len:σ.length=X.N.length
section
variable {X:Cx}{pins:List (Addr × Obj)}{σ:List (Option V)}{H H':Hp}{s:Shared}{h':Heap}
def Cx.Ok.nofr(ok:X.Ok){o:Obj}(e:X.base.get? b=some o):b∉X.fs:=λa=>by
 have:=(ok.funs.mem a).1
 rw[e]at this;cases this
theorem Inv.bs(I:Inv X pins σ H s):∀b o,X.base.get? b=some o->s.heap.get? b=some o/\H b=none:=λb o e=>
 ⟨I.base.keep b o (I.ok.bs b o e).1 (I.ok.bs b o e).2 (I.ok.nofr e) (I.ok.noex b o e),I.base.free b o (I.ok.bs b o e).1 (I.ok.bs b o e).2 (I.ok.noex b o e)⟩
def Inv.bk(I:Inv X pins σ H s):∀b o,X.base.get? b=some o->s.heap.get? b=some o:=λb o e=>(I.bs b o e).1
theorem Inv.mod(I:Inv X pins σ H s):Mod X.K X.mg X.base:=I.ok.mod
def Inv.kIn(I:Inv X pins σ H s):X.K.In s.heap:=I.ok.mod.kin.keeps I.bk
theorem Inv.lt(I:Inv X pins σ H s):X.env.locals<s.heap.objs.size:=let ⟨_,hn,_⟩:=I.loc;hn.lt
def Inv.sz(I:Inv X pins σ H s):X.s₀.heap.objs.size<=s.heap.objs.size:=yi I.ok.above (yaw I.lt)
def Inv.nofs(I:Inv X pins σ H s)(h:s.heap.objs.size<=a):a∉X.fs:=λb=>by
 obtain⟨_,o,c,_⟩:=I.ok.funs.mem b;exact absurd (yx (Heap.lt_size c) (yi I.sz h)) (yW _)
def Inv.cne(I:Inv X pins σ H s):∀x c,X.env.cells.lookup x=some c->c≠X.env.locals:=λx c e z=>by
 obtain⟨v,o,d,hd⟩:=I.cell x c e;obtain⟨m,⟨o',es,f,a,b,_⟩,_⟩:=I.loc;rw[z,a]at d;cases d;rw[b]at hd;cases hd
theorem Inv.funs(I:Inv X pins σ H s):s.heap.FunFrames X.base X.outer:=by
 have all:∀(l:List Env),(∀b∈frs l,b∈X.fs)->X.s₀.heap.FunFrames X.base l->s.heap.FunFrames X.base l:=by
  intro l
  induction l with
  | nil=>intro _ _;trivial
  | cons env r ih=>
   intro f hl;obtain⟨i,⟨L,o,c,g,h,hd⟩,j⟩:=hl;have d:L∈X.fs:=f L (by unfold frs;rw[ybA,c];exact yZ);obtain⟨k,e⟩:=I.base.slot L o h (I.ok.frf L d) d λz=>I.ok.exfs L z d;exact⟨i,⟨L,_,c,g,e,hd⟩,ih (λb a=>f b (by unfold frs;rw[ybA,c];exact yR _ a)) j⟩
 exact all X.outer (λ_ a=>a) I.ok.funs
theorem Inv.stack(I:Inv X pins σ H s):s.heap.FunFrames X.base X.stack:=by
 rcases I.ok.stk with e | ⟨e,b⟩
 ·rw[e];exact I.funs
 ·rw[e];obtain⟨m,a,_⟩:=I.loc;refine .cons (by rw[I.ok.kind];decide) b a ?_ I.funs;exact Heap.get?_none_of_le (yi I.ok.bsz I.ok.above)
def Inv.stkSub(I:Inv X pins σ H s):∀b∈frs X.stack,b∈X.env.locals :: X.fs:=λb a=>by
 rcases I.ok.stk with e | ⟨e,c⟩
 ·rw[e]at a;exact yR _ a
 ·rw[e]at a;unfold frs at a;rw[ybA,c]at a;exact a
def Inv.stkFree(I:Inv X pins σ H s):∀b∈frs X.stack,H b=none:=λb a=>by
 rcases yA.mp (I.stkSub b a)with e | a
 ·rw[e];exact I.free
 ·obtain⟨_,o,c,_⟩:=I.ok.funs.mem a;exact I.base.free b o c (I.ok.frf b a) λz=>I.ok.exfs b z a
def Inv.step{g':Array GenState}{t':Nat}{d':Drawn}{ch:List Addr}(I:Inv X pins σ H s)
  (hch:∀b∈ch,(b∈X.ex\/X.s₀.heap.objs.size<=b)/\b≠X.env.locals/\(∀x c,X.env.cells.lookup x=some c->c≠b)/\∀p∈X.pn++pins,p.1≠b)
  (keep:∀b o,b≠X.env.locals->b∉X.fs->b∉ch->s.heap.get? b=some o->H b=none->h'.get? b=some o)
  (slot:∀b o,b≠X.env.locals->b∈X.fs->b∉ch->s.heap.get? b=some o->H b=none->∃D,h'.get? b=some { o with slots:=D }) (free:∀b o,b∉ch->s.heap.get? b=some o->H b=none->H' b=none)
  (there:∀b o,b∉ch->s.heap.get? b=some o->∃o',h'.get? b=some o')
  (tups:∀b xs,H b=some (.tup xs)->H' b=some (.tup xs)) (frzs:∀b o u,H b=some (.frz o u)->H' b=some (.frz o u)) (tbls:∀b ps,H b=some (.tbl ps)->∃more,H' b=some (.tbl (ps++more)))
  (ns:∀m,s.heap.Ns X.env.locals m->h'.Ns X.env.locals m) (hok:HOk X.prog X.w H' h') (hg:AllBare g') :
  Inv X pins σ H' { s with heap:=h',gens:=g',drawn:=d',toks:=t' }:=by
 have A:∀b o,X.s₀.heap.get? b=some o->b≠X.env.locals:=λb o e=>yw (yx (Heap.lt_size e) I.ok.above);have h:∀b o,X.s₀.heap.get? b=some o->b∉X.ex->b∉ch:=λb o e a t=>by
  rcases(hch b t).1 with z | z
  ·exact a z
  ·exact absurd (yx (Heap.lt_size e) z) (yW _)
 have f:∀x c,X.env.cells.lookup x=some c->∀v,s.heap.IsCell c v->h'.IsCell c v:=λx c e v ⟨o,y,hd⟩=>by
  have g:c∉ch:=λz=>(hch c z).2.2.1 x c e rfl;by_cases F:c∈X.fs
  ·obtain⟨D,q⟩:=slot c o (I.cne x c e) F g y (I.freeC x c e);exact⟨_,q,hd⟩
  ·exact⟨o,keep c o (I.cne x c e) F g y (I.freeC x c e),hd⟩
 refine⟨I.ok,I.os,hg,⟨λb o e n t a=>?_,λb o e n t a=>?_,λb o e n a=>?_,λb o e a=>?_,λb xs e=>tups b xs (I.base.tups b xs e),λb o xs e=>frzs b o xs (I.base.frzs b o xs e),λb ps e=>?_⟩,?_,λx c e=>?_,?_,λx c e=>?_,λp G=>?_,hok,I.len⟩
 ·exact keep b o (A b o e) t (h b o e a) (I.base.keep b o e n t a) (I.base.free b o e n a)
 ·obtain⟨D,j⟩:=I.base.slot b o e n t a;obtain⟨C,B⟩:=slot b _ (A b o e) t (h b o e a) j (I.base.free b o e n a);exact⟨C,B⟩
 ·obtain⟨o',j⟩:=I.base.there b o e a;exact free b o' (h b o e a) j (I.base.free b o e n a)
 ·obtain⟨o',j⟩:=I.base.there b o e a;exact there b o' (h b o e a) j
 ·obtain⟨L,j⟩:=I.base.tbls b ps e;obtain⟨J,B⟩:=tbls b _ j;exact⟨L++J,by rw[B,Array.append_assoc]⟩
 ·obtain⟨m,K,hl⟩:=I.loc;refine⟨m,ns m K,λi x v j B M=>?_⟩;obtain⟨u,r,l⟩:=hl i x v j B M;refine⟨u,r,?_⟩;rcases l with l | ⟨k,c,e,z⟩
  ·exact .inl l
  ·exact .inr ⟨k,c,e,f x c e _ z⟩
 ·obtain⟨v,z⟩:=I.cell x c e;exact⟨v,f x c e v z⟩
 ·obtain⟨m,⟨o,_,_,y,_⟩,_⟩:=I.loc;exact free _ o (λz=>(hch _ z).2.1 rfl) y I.free
 ·obtain⟨v,o,y,hd⟩:=I.cell x c e;exact free c o (λz=>(hch c z).2.2.1 x c e rfl) y (I.freeC x c e)
 ·obtain⟨e,n,ne,E,d⟩:=I.pin p G;have g:p.1∉ch:=λz=>(hch p.1 z).2.2.2 p G rfl;exact⟨keep p.1 p.2 ne E g e n,free p.1 p.2 g e n,ne,E,d⟩
def Inv.un(I:Inv X pins σ H s)(u:Un X.fs [] H H' s.heap h')(hok:HOk X.prog X.w H' h'):Inv X pins σ H' { s with heap:=h',toks:=t' }:=by
 obtain⟨m,⟨o,es,l,g,r⟩,_⟩:=id I.loc;obtain⟨p,j⟩:=u.any g I.free (by simp);exact I.step (g':=s.gens) (d':=s.drawn) (ch:=[]) (λ_ z=>nomatch z) (λb o _ f _ e n=>u.keep b o e n f (by simp)) (λb o _ f _ e n=>u.slot b o e n f (by simp)) (λb o _ e n=>u.free b o e n (by simp)) (λb o _ e=>u.there b o e (by simp)) u.tups u.frzs u.tbls (λk i=>by
  obtain⟨o',d,c,a,h⟩:=i;rw[g]at a;cases a;exact⟨_,d,c,j,h⟩) hok I.bare
def Inv.call{g':Array GenState}{t':Nat}{d':Drawn}{ch:List Addr}(I:Inv X pins σ H s)(u:Un (frs X.stack) ch H H' s.heap h')(hok:HOk X.prog X.w H' h')(j:AllBare g')
  (hch:∀b∈ch,(b∈X.ex\/X.s₀.heap.objs.size<=b)/\b≠X.env.locals/\(∀x c,X.env.cells.lookup x=some c->c≠b)/\∀p∈X.pn++pins,p.1≠b) :
  Inv X pins σ H' { s with heap:=h',gens:=g',drawn:=d',toks:=t' }:=by
 obtain⟨m,⟨o,es,v,i,r⟩,_⟩:=id I.loc;obtain⟨y,h⟩:=u.any i I.free λz=>(hch _ z).2.1 rfl;exact I.step (ch:=ch) hch (λb o h q a e n=>u.keep b o e n (λz=>(yA.mp (I.stkSub b z)).elim h q) a) (λb o _ _ a e n=>u.any e n a) (λb o a e n=>u.free b o e n a) (λb o a e=>u.there b o e a) u.tups u.frzs u.tbls (λt l=>by
  obtain⟨o',g,f,d,k⟩:=l;rw[i]at d;cases d;exact⟨_,g,f,h,k⟩) hok j
def Inv.turned{t':Nat}{it:Addr}(I:Inv X pins σ H s)(k:∀b o,b≠it->s.heap.get? b=some o->h'.get? b=some o)(g:H it=none)(f:it≠X.env.locals)
  (h1:it∈X.ex\/X.s₀.heap.objs.size<=it) (h2:∀x c,X.env.cells.lookup x=some c->c≠it) (h3:∀p∈X.pn++pins,p.1≠it):Inv X pins σ H { s with heap:=h',toks:=t' }:=by
 have d:∀b u,H b=some u->b≠it:=λb u e z=>by rw[z,g]at e;cases e
 refine I.step (g':=s.gens) (d':=s.drawn) (ch:=[it]) (λb l=>?_) (λb o _ _ a e _=>k b o (λz=>a (by simp[z])) e) (λb o _ _ a e _=>⟨o.slots,k b o (λz=>a (by simp[z])) e⟩) (λ_ _ _ _ n=>n)
  (λb o a e=>⟨o,k b o (λz=>a (by simp[z])) e⟩) (λ_ _ e=>e) (λ_ _ _ e=>e) (λb ps e=>⟨#[],by rw[e];simp⟩) (λm j=>?_) (λb u e=>?_) I.bare
 ·have e:b=it:=by simpa using l
  subst e;exact⟨h1,f,h2,h3⟩
 ·obtain⟨o,es,i,h,r⟩:=j;exact⟨o,es,i,k _ o (ya9 f) h,r⟩
 ·refine(I.hok b u e).stay (λc v a q=>k c v ?_ q) (λ_ q=>q) λ_ _ q=>q;rcases a with z | z
  ·rw[z];exact d b u e
  ·exact d c _ z
def Inv.tok(I:Inv X pins σ H s)(t:Nat):Inv X pins σ H { s with toks:=t }:=I.un (h':=s.heap) (t':=t) Un.refl I.hok
theorem Inv.kept{t':Nat}(I:Inv X pins σ H s)(k:∀b u,s.heap.get? b=some u->h'.get? b=some u):Inv X pins σ H { s with heap:=h',toks:=t' }:=I.un (Un.kept k) (I.hok.kept k)
theorem Inv.laid{a:Addr}{o:HO}{t':Nat}(I:Inv X pins σ H s)(k:∀b u,s.heap.get? b=some u->h'.get? b=some u)(c:s.heap.objs.size<=a)(new:ObjOk X.prog X.w (upd H a o) h' a o) :
  Inv X pins σ (upd H a o) { s with heap:=h',toks:=t' }:=I.un (Un.laid k c (I.hok.fresh c)) (I.hok.laid k c new)
theorem Inv.write{x e:Addr}{o:HO}{t':Nat}(I:Inv X pins σ H s)(c:Mut (H x))(d:e=x\/H e=some (.own x))(k:∀b u,b≠e->s.heap.get? b=some u->h'.get? b=some u)(a:∃u,h'.get? e=some u)
  (new:ObjOk X.prog X.w (upd H x o) h' x o):Inv X pins σ (upd H x o) { s with heap:=h',toks:=t' }:=I.un (Un.write c d k a) (I.hok.write c d k a new)
def Inv.pins_of{a:List "0l"}(I:Inv X pins σ H s)(h:∀p∈a,s.heap.get? p.1=some p.2/\H p.1=none/\p.1≠X.env.locals/\p.1∉X.fs/\∀v,p.2.data≠.cell v):Inv X a σ H s:=
 ⟨I.ok,I.os,I.bare,I.base,I.loc,I.cell,I.free,I.freeC,λp b=>(yH.mp b).elim (λz=>I.pin p (yv _ z)) (h p),I.hok,I.len⟩
def zko(d:N.Nodup)(a:N[i]?=some x)(b:N[j]?=some x):i=j:=by
 obtain⟨h1,e⟩:=yj.mp a;obtain⟨h2,c⟩:=yj.mp b;exact(ybS d).mp (e.trans c.symm)
def zjI{M:Model}{A:Around}{E:Value->Shared->Prop}{Q:Unit->Shared->Prop}(I:Inv X pins σ H s)(hN:X.N.Nodup)(hi:X.N[i]?=some x)(B:Loc X.env.scope x)(r:RelV v u)
  (h:∀s',Inv X pins (σ.set i (some v)) H s'->(∃a,Heap.SameBut a s.heap s'.heap/\(a=X.env.locals\/X.env.cells.lookup x=some a))->Q () s') (hf:autoParam (X.fn x=true\/X.env.scope.names.lookup x=some .local) Internal.aut0._auto_1):wpAny M A (storeName X.env x u) Q E s:=by
 obtain⟨m,Y,hl⟩:=id I.loc;have L:(X.env.scope.kind == .class || (X.env.scope.kind == .module&&X.env.locals != X.env.globals))=false:=by rw[I.ok.kind];rfl
 have O:i < σ.length:=by rw[I.len];exact(yj.mp hi).1
 have cne:=I.cne;have g:∀{a:Addr} {h':Heap},(∃o,s.heap.get? a=some o/\H a=none)->Heap.SameBut a s.heap h'->HOk X.prog X.w H h':=λ{a h'} ha f b ob e=>by
  obtain⟨_,_,C⟩:=ha;refine(I.hok b ob e).stay (λc U t q=>(f.2 c ?_).trans q) (λ_ q=>q) λ_ _ q=>q;rintro rfl;rcases t with rfl | t
  ·rw[C]at e;cases e
  ·rw[C]at t;cases t
 rcases B with F | F
 ·refine wpAny_storeName_local F Y (λh' Z f=>?_) L;obtain⟨oL,_,_,a0,_⟩:=id Y;refine h _ ⟨I.ok,I.os,I.bare,⟨λb o e n J B=>?_,λb o e n J B=>?_,I.base.free,λb o e B=>?_,I.base.tups,I.base.frzs,I.base.tbls⟩,⟨_,Z,λj y v' l D e3=>?_⟩,λy c e=>?_,I.free,I.freeC,λp hp=>?_,g ⟨oL,a0,I.free⟩ f,by simpa using I.len⟩ ⟨_,f,.inl rfl⟩
  ·exact(f.2 b (yw (yx (Heap.lt_size e) I.ok.above))).trans (I.base.keep b o e n J B)
  ·obtain⟨sl,l⟩:=I.base.slot b o e n J B;exact⟨sl,(f.2 b (yw (yx (Heap.lt_size e) I.ok.above))).trans l⟩
  ·obtain⟨o',l⟩:=I.base.there b o e B;exact⟨o',(f.2 b (yw (yx (Heap.lt_size e) I.ok.above))).trans l⟩
  ·by_cases G:j=i
   ·subst G;rw[hi]at l;cases l;rw[List.getElem?_set_self O]at D;cases D;exact⟨u,r,.inl ⟨F,by simp⟩⟩
   ·rw[List.getElem?_set_ne (ya9 G)]at D;obtain⟨W,r',q⟩:=hl j y v' l D e3;refine⟨W,r',?_⟩;rcases q with⟨k,e⟩ | ⟨k,c,e,z⟩
    ·refine .inl ⟨k,?_⟩
     have:y≠x:=λe=>G (zko hN l (e▸hi))
     simp[this,e]
    ·exact .inr ⟨k,c,e,z.sameBut f (cne y c e)⟩
  ·obtain⟨U,z⟩:=I.cell y c e;exact⟨U,z.sameBut f (cne y c e)⟩
  ·obtain⟨e,n,ne,nf,d⟩:=I.pin p hp;exact⟨(f.2 p.1 ne).trans e,n,ne,nf,d⟩
 ·have K:X.fn x=true:=by
   rcases hf with z | z
   ·exact z
   ·rw[z]at F;cases F
  obtain⟨c,t⟩:=I.ok.has x (.inl F);obtain⟨U,z⟩:=I.cell x c t;refine wpAny_storeName_cell I.ok.kind F t z (λh' R f=>?_);obtain⟨oc,S,T⟩:=id z;refine h { s with heap:=h' } ⟨I.ok,I.os,I.bare,⟨λb o e n J B=>?_,λb o e n J B=>?_,I.base.free,λb o e B=>?_,I.base.tups,I.base.frzs,I.base.tbls⟩,⟨m,Y.sameBut f (ya9 (cne x c t)),λj y v' l D e3=>?_⟩,λy V e=>?_,I.free,I.freeC,λp hp=>?_,g ⟨oc,S,I.freeC x c t⟩ f,by simpa using I.len⟩ ⟨c,f,.inr t⟩
  ·exact(f.2 b (yw (yx (Heap.lt_size e) (I.ok.cab x c K t)))).trans (I.base.keep b o e n J B)
  ·obtain⟨sl,l⟩:=I.base.slot b o e n J B;exact⟨sl,(f.2 b (yw (yx (Heap.lt_size e) (I.ok.cab x c K t)))).trans l⟩
  ·obtain⟨o',l⟩:=I.base.there b o e B;exact⟨o',(f.2 b (yw (yx (Heap.lt_size e) (I.ok.cab x c K t)))).trans l⟩
  ·by_cases G:j=i
   ·subst G;rw[hi]at l;cases l;rw[List.getElem?_set_self O]at D;cases D;exact⟨u,r,.inr ⟨.inl F,c,t,R⟩⟩
   ·rw[List.getElem?_set_ne (ya9 G)]at D;obtain⟨W,r',q⟩:=hl j y v' l D e3;refine⟨W,r',?_⟩;rcases q with q | ⟨k,V,e,z'⟩
    ·exact .inl q
    ·refine .inr ⟨k,V,e,z'.sameBut f ?_⟩;rintro rfl;exact G (zko hN l (I.ok.inj _ _ _ e t▸hi))
  ·by_cases P:V=c
   ·subst P;exact⟨_,R⟩
   ·obtain⟨w2,z2⟩:=I.cell y V e;exact⟨w2,z2.sameBut f P⟩
  ·obtain⟨e,n,ne,nf,d⟩:=I.pin p hp;refine⟨(f.2 p.1 ?_).trans e,n,ne,nf,d⟩;intro q;rw[q,S]at e;have q':oc=p.2:=yt e;exact d U (by rw[<- q'];exact T)
def zg9{M:Model}{A:Around}{E:Value->Shared->Prop}{Q:Unit->Shared->Prop}(I:Inv X pins σ H s)(a:X.N.Nodup)(hi:X.N[i]?=some x)(b:Loc X.env.scope x)(r:RelV v u)
  (h:∀s',Inv X pins (σ.set i (some v)) H s'->Q () s') (hf:autoParam (X.fn x=true\/X.env.scope.names.lookup x=some .local) Internal.aut0._auto_1):wpAny M A (storeName X.env x u) Q E s:=
 zjI I a hi b r (λs' c _=>h s' c) hf
end
abbrev XK:=Value->Option Addr->Hp->Prop
abbrev St:=List (Option V)
variable {σ:St}
abbrev VK:=V->Hp->Prop
variable {Q:VK}
abbrev TE:=St->Hp->VK->Prop
abbrev TT:=St->Hp->(Bool->Hp->Prop)->Prop
abbrev TA:=St->Hp->(List V->Hp->Prop)->Prop
structure Ends where
 nx:St->Hp->Prop
 rt:VK
 bk:St->Hp->Prop:=λ_ _=>False
 ct:St->Hp->Prop:=λ_ _=>False
abbrev TS:=Ends->St->Hp->Prop
noncomputable def EP (X:Cx) (pins:List "0l") (σ:St) (Q:VK) (u:Value) (s':Shared):Prop:=∃v H',Inv X pins σ H' s'/\RelV v u/\Q v H'
noncomputable def TP (X:Cx) (pins:List "0l") (σ:St) (Q:Bool->Hp->Prop) (b:Bool) (s':Shared):Prop:=∃H',Inv X pins σ H' s'/\Q b H'
noncomputable def AP (X:Cx) (pins:List "0l") (σ:St) (Q:List V->Hp->Prop) (us:List Value) (s':Shared):Prop:=∃vs H',Inv X pins σ H' s'/\Vals vs us/\Q vs H'
noncomputable def SP (X:Cx) (pins:List "0l") (D:Ends) (f:Flow) (s':Shared):Prop:=
 match f with
 | .next=>∃σ' H',Inv X pins σ' H' s'/\D.nx σ' H'
 | .brk=>∃σ' H',Inv X pins σ' H' s'/\D.bk σ' H'
 | .cont=>∃σ' H',Inv X pins σ' H' s'/\D.ct σ' H'
 | .ret u=>∃v σ' H',Inv X pins σ' H' s'/\RelV v u/\D.rt v H'
noncomputable def PE (X:Cx) (e:Expr) (t:TE):Prop:=
 ∀(pins:List "0l") (s:Shared) (σ:St) (H:Hp) (Q:VK),Inv X pins σ H s->t σ H Q->wpAny "0g" X.A (eval e X.env) (EP X pins σ Q) X.xe s
noncomputable def PT (X:Cx) (e:Expr) (t:TT):Prop:=
 ∀(pins:List "0l") (s:Shared) (σ:St) (H:Hp) (Q:Bool->Hp->Prop),Inv X pins σ H s->t σ H Q->wpAny "0g" X.A (isTrue e X.env (eval e X.env)) (TP X pins σ Q) X.xe s
noncomputable def PW (X:Cx) (e:Expr) (t:TT):Prop:=
 ∀(whole:Sem Value) (pins:List "0l") (s:Shared) (σ:St) (H:Hp) (Q:Bool->Hp->Prop),Inv X pins σ H s->t σ H Q->wpAny "0g" X.A (isTrue e X.env whole) (TP X pins σ Q) X.xe s
def PW.pt{e:Expr}{t:TT}(h:PW X e t):PT X e t:=h _
noncomputable def PA (X:Cx) (es:List Expr) (t:TA):Prop:=
 ∀(pos:Pos) (pins:List "0l") (s:Shared) (σ:St) (H:Hp) (Q:List V->Hp->Prop),Inv X pins σ H s->t σ H Q->wpAny "0g" X.A (spliced (backTo pos (starEach es X.env))) (AP X pins σ Q) X.xe s
noncomputable def PS (X:Cx) (st:Stmt) (t:TS):Prop:=
 ∀(pins:List "0l") (s:Shared) (σ:St) (H:Hp) (D:Ends),Inv X pins σ H s->t D σ H->wpAny "0g" X.A (exec st X.env) (SP X pins D) X.xe s
noncomputable def PSs (X:Cx) (st:List Stmt) (t:TS):Prop:=
 ∀(pins:List "0l") (s:Shared) (σ:St) (H:Hp) (D:Ends),Inv X pins σ H s->t D σ H->wpAny "0g" X.A (execs st X.env) (SP X pins D) X.xe s
def thn{α:Type}{t:Sem α}{Q b:α->Shared->Prop}{E:Value->Shared->Prop}(h:wpAny M A t Q E s)(c:∀a s,Q a s->b a s):wpAny M A t b E s:=wpAny_mono h c λ_ _ x=>x
section
variable {X:Cx}
noncomputable def zm0 (i:Nat):TE:=λσ H Q=>∃v,σ[i]?=some (some v)/\Q v H
abbrev tC(v:V):TE:=λ_ H Q=>Q v H
def zuf{pos:Pos}(f:X.N[i]?=some x)(g:Vis X.env.scope x)(hd:autoParam ((x == ("__debug__" : Str))=false) Internal.aut1._auto_1)(b:autoParam ((x == ("__classdict__" : Str))=false) Internal.aut1._auto_1):PE X (.Name x pos) (zm0 i):=by
 intro pins s σ H Q I h;obtain⟨v,e,h⟩:=h;obtain⟨m,d,hl⟩:=I.loc;obtain⟨u,r,l⟩:=hl i x v f e g;have fin:EP X pins σ Q u s:=⟨v,H,I,r,h⟩
 rcases l with⟨a,hm⟩ | ⟨a,c,hc,hcell⟩
 ·exact wpAny_Name (wpAny_loadName_local I.ok.kind a d hm fin) hd
 ·rcases a with a | a
  ·exact wpAny_Name (wpAny_loadName_cell I.ok.kind a hc hcell fin) hd
  ·exact wpAny_Name (wpAny_loadName_free I.ok.kind a hc hcell fin b) hd
def ze{i j pos}:PE X (.Constant (.int i) j pos) (tC (.int i)):=λ_ _ _ H _ I h=>wpAny_Constant_int ⟨.int i,H,I.tok _,⟨_,rfl⟩,h⟩
def zc8{b j pos}:PE X (.Constant (.bool b) j pos) (tC (.bl b)):=λ_ _ _ H _ I h=>Constant_bool ⟨.bl b,H,I,rfl,h⟩
def zbc{j pos}:PE X (.Constant .none j pos) (tC .non):=λ_ _ _ H _ I h=>Constant_none ⟨.non,H,I,rfl,h⟩
noncomputable def Gl (X:Cx) (x:Str):Prop:=X.env.kindOf x=some .globalImplicit
def zsk{E:Value->Shared->Prop}{pos:Pos}{Q:Value->Shared->Prop}(I:Inv X pins σ H s)(b:Gl X x)(a:X.mg x=some u)(h:Q u s)
  (hd:autoParam ((x == ("__debug__" : Str))=false) Internal.aut1._auto_1):wpAny "0g" X.A (eval (.Name x pos) X.env) Q E s:=
 Calls.Name_function_global I.ok.kind b (Calls.loadGlobal_global (by rw[I.ok.glob];exact I.mod.glob.keeps I.bk) a h) hd
def zck{E:Value->Shared->Prop}{pos:Pos}{Q:Value->Shared->Prop}(I:Inv X pins σ H s)(a:Gl X x)(b:X.mg x=none)(c:bootBuiltins x=some u)(h:Q u s)
  (hn:autoParam (x ≠ "__name__") Internal.aut1._auto_1) (hd:autoParam ((x == ("__debug__" : Str))=false) Internal.aut1._auto_1):wpAny "0g" X.A (eval (.Name x pos) X.env) Q E s:=by
 obtain⟨d,h1,h2⟩:=I.mod.blt;exact Calls.Name_function_global I.ok.kind a (Calls.loadGlobal_builtin (by rw[I.ok.glob];exact I.mod.glob.keeps I.bk) b (by rw[I.ok.blt];exact h1.keeps I.bk) ((h2 x hn).trans c) h) hd
def zgd{pos:Pos}(b:Gl X x)(c:X.mg x=none)(d:bootBuiltins x=some u)(r:RelV v u)(a:autoParam (x ≠ "__name__") Internal.aut1._auto_1)(hd:autoParam ((x == ("__debug__" : Str))=false) Internal.aut1._auto_1):PE X (.Name x pos) (tC v):=
 λ_ _ _ H _ I h=>zck I b c d ⟨v,H,I,r,h⟩ a hd
noncomputable def t2I (ta tb:TE) (k:Int->Int->Hp->Prop):St->Hp->Prop:=λσ H=>ta σ H λx H1=>tb σ H1 λy H2=>∃i j,x=.int i/\y=.int j/\k i j H2
variable {a b:Expr}{ta tb:TE}{pos:Pos}
noncomputable def ziT (p:Int->Int->Bool) (ta tb:TE):TE:=λσ H Q=>t2I ta tb (λi j H2=>Q (.bl (p i j)) H2) σ H
abbrev tLt:TE->TE->TE:=ziT λi j=>decide (i<j)
abbrev tLe:TE->TE->TE:=ziT λi j=>decide (i<=j)
abbrev tGt:TE->TE->TE:=ziT λi j=>decide (j<i)
abbrev tGe:TE->TE->TE:=ziT λi j=>decide (j<=i)
abbrev zvN:TE->TE->TE:=ziT λi j=>decide (i=j)
abbrev zvR:TE->TE->TE:=ziT λi j=>!decide (i=j)
variable {tA tB':TT}{rest:List Expr}
abbrev zvq(t u:TT):TT:=λσ H Q=>t σ H λc H1=>if c=true then u σ H1 Q else Q false H1
abbrev tOr(t u:TT):TT:=λσ H Q=>t σ H λc H1=>if c=true then Q true H1 else u σ H1 Q
abbrev zvB(t:TT):TT:=λσ H Q=>t σ H λc H1=>Q (!c) H1
def zey(ha:PT X a tA):PW X (.BoolOp .And [a] pos) tA:=by
 intro b pins s σ H Q I h;refine isTrue_and (thn (ha pins s σ H Q I h) λc d e=>?_);cases c with
 | true=>exact isTrue_and_nil e
 | false=>exact e
def zer(ha:PT X a tA):PW X (.BoolOp .Or [a] pos) tA:=by
 intro b pins s σ H Q I h;refine isTrue_or (thn (ha pins s σ H Q I h) λc d e=>?_);cases c with
 | false=>exact isTrue_or_nil e
 | true=>exact e
def zet(ha:PT X a tA)(f:PW X (.BoolOp .And (b :: rest) pos) tB'):PW X (.BoolOp .And (a :: b :: rest) pos) (zvq tA tB'):=by
 intro g pins s σ H Q I h;refine isTrue_and (thn (ha pins s σ H _ I h) λc i ⟨H1,e,d⟩=>?_);cases c with
 | true=>exact f g pins i σ H1 Q e d
 | false=>exact⟨H1,e,d⟩
def zdd(ha:PT X a tA)(f:PW X (.BoolOp .Or (b :: rest) pos) tB'):PW X (.BoolOp .Or (a :: b :: rest) pos) (tOr tA tB'):=by
 intro g pins s σ H Q I h;refine isTrue_or (thn (ha pins s σ H _ I h) λc i ⟨H1,e,d⟩=>?_);cases c with
 | true=>exact⟨H1,e,d⟩
 | false=>exact f g pins i σ H1 Q e d
def zdR(ha:PT X a tA):PT X (.UnaryOp .Not a pos) (zvB tA):=by
 intro pins s σ H Q I h;exact isTrue_not (ha pins s σ H (λc H1=>Q (!c) H1) I h)
noncomputable def zrK (ta tb:TE):TE:=λσ H Q=>ta σ H λx H1=>∃c,x=.bl c/\if c=true then tb σ H1 Q else Q (.bl false) H1
noncomputable def ztC (ta tb:TE):TE:=λσ H Q=>ta σ H λx H1=>∃c,x=.bl c/\if c=true then Q (.bl true) H1 else tb σ H1 Q
def zox{op}{t:TE}(h:PE X a t):PE X (.BoolOp op [a] pos) t:=λpins s σ H Q I b=>BoolOp_one (h pins s σ H Q I b)
def ztv(ha:PE X a ta)(i:PE X (.BoolOp .And (b :: rest) pos) tb):PE X (.BoolOp .And (a :: b :: rest) pos) (zrK ta tb):=by
 intro pins s σ H Q I h;refine BoolOp_and (thn (ha pins s σ H _ I h) λv j g=>?_);obtain⟨x,H1,e,f,d⟩:=g;obtain⟨c,rfl,d⟩:=d;cases f;refine wpAny_truthy_bool ?_;cases c with
 | true=>exact i pins j σ H1 Q e d
 | false=>exact⟨.bl false,H1,e,rfl,d⟩
def zvc(ha:PE X a ta)(i:PE X (.BoolOp .Or (b :: rest) pos) tb):PE X (.BoolOp .Or (a :: b :: rest) pos) (ztC ta tb):=by
 intro pins s σ H Q I h;refine BoolOp_or (thn (ha pins s σ H _ I h) λv j g=>?_);obtain⟨x,H1,e,f,d⟩:=g;obtain⟨c,rfl,d⟩:=d;cases f;refine wpAny_truthy_bool ?_;cases c with
 | false=>exact i pins j σ H1 Q e d
 | true=>exact⟨.bl true,H1,e,rfl,d⟩
abbrev tIf(t:TT)(ta tb:TE):TE:=λσ H Q=>t σ H λc H1=>if c=true then ta σ H1 Q else tb σ H1 Q
def zdZ{c:Expr}(i:PT X c tA)(ha:PE X a ta)(j:PE X b tb):PE X (.IfExp c a b pos) (tIf tA ta tb):=by
 intro pins s σ H Q I h;refine wpAny_IfExp (thn (i pins s σ H _ I h) λd g ⟨H1,f,e⟩=>?_);cases d with
 | true=>exact ha pins g σ H1 Q f e
 | false=>exact j pins g σ H1 Q f e
end
noncomputable def SqL (K:Fg) (H:Hp) (a:Addr) (xs:List V):Prop:=
 Rd H a (.lst xs) \/
  ∃(o:Obj) (its:Array Value) (n:Nat),K.lookup a=some o/\o.cls=.type "list" /\ o.dict=none/\o.data=.seq its n/\its.size<=sizeLine/\Vals xs its.toList
noncomputable def SqT (K:Fg) (H:Hp) (a:Addr) (xs:List V):Prop:=
 Rd H a (.tup xs) \/
  ∃(o:Obj) (its:Array Value) (n:Nat),K.lookup a=some o/\o.cls=.type "tuple" /\ o.data=.seq its n/\its.size<=sizeLine/\Vals xs its.toList
noncomputable def zvm:Value->Option V
 | .none=>some .non
 | .bool b=>some (.bl b)
 | .int i _=>some (.int i)
 | .str x _=>some (.str x)
 | .bytes b _=>some (.byt b)
 | .float b _=>some (.flt b)
 | .ref a=>some (.ref a)
 | .type n=>some (.ty n)
 | _=>none
def RelV.abs{x:V}(r:RelV x u):zvm u=some x:=by
 cases x with
 | non=>cases r;rfl
 | bl _=>cases r;rfl
 | int _=>obtain⟨t,rfl⟩:=r;rfl
 | str _=>obtain⟨t,rfl⟩:=r;rfl
 | byt _=>obtain⟨t,rfl⟩:=r;rfl
 | flt _=>obtain⟨t,rfl⟩:=r;rfl
 | ref _=>cases r;rfl
 | ty _=>cases r;rfl
def RelV.inj{x:V}(r:RelV x u)(q:RelV y u):x=y:=yt (r.abs.symm.trans q.abs)
theorem Vals.inj:∀{xs ys:List V} {us:List Value},Vals xs us->Vals ys us->xs=ys
 | _,_,_,.nil,.nil=>rfl
 | _,_,_,.cons r t,.cons r' t'=>by rw[r.inj r',Vals.inj t t']
section
variable {X:Cx}{pins:List (Addr × Obj)}{σ:St}{H:Hp}{s:Shared}{a:Addr}{xs ys:List V}
def SqL.of(h:H a=some (.lst xs)):SqL K H a xs:=.inl (.inl h)
def SqT.of(h:H a=some (.tup xs)):SqT K H a xs:=.inl (.inl h)
def Inv.list(I:Inv X pins σ H s)(h:SqL X.K H a xs):∃its:List Value,Vals xs its/\PlainL s.heap a its.toArray/\xs.length<=sizeLine:=by
 rcases h with h | ⟨o,its,n,c,b,hd,d,f,r⟩
 ·obtain⟨z,its,n,r,e⟩:=h.ok I.hok;exact⟨its,r,⟨_,n,e,rfl,rfl,rfl⟩,z⟩
 ·refine⟨its.toList,r,⟨o,n,I.kIn a o c,b,hd,by simpa using d⟩,?_⟩;have e:=r.length;simp only[ybB]at e;lia
def Inv.tuple(I:Inv X pins σ H s)(h:SqT X.K H a xs):∃its:List Value,Vals xs its/\IsTup s.heap a its.toArray/\xs.length<=sizeLine:=by
 rcases h with h | ⟨o,its,n,c,b,d,f,r⟩
 ·obtain⟨z,its,r,p⟩:=h.ok I.hok;exact⟨its,r,p,z⟩
 ·refine⟨its.toList,r,⟨o,I.kIn a o c,b,n,by simpa using d⟩,?_⟩;have e:=r.length;simp only[ybB]at e;lia
def Inv.list_inj(I:Inv X pins σ H s)(h:SqL X.K H a xs)(h':SqL X.K H a ys):xs=ys:=by
 obtain⟨its,r,⟨o,n,e,_,_,d⟩,_⟩:=I.list h;obtain⟨its',f,⟨o',g,b,_,_,d'⟩,_⟩:=I.list h';rw[e]at b;cases b;rw[d]at d';injection d' with c _
 have:its=its':=by simpa using congrArg Array.toList c
 subst this;exact r.inj f
end
abbrev Cx.wish(X:Cx)(E:Value->Shared->Prop):Cx:={ X with xe:=E }
abbrev Cx.nox(X:Cx):Cx:=X.wish λ_ _=>False
theorem Cx.Ok.wish{X:Cx}(ok:X.Ok)(E:Value->Shared->Prop):(X.wish E).Ok:=
 ⟨ok.mod,ok.kind,ok.glob,ok.blt,ok.above,ok.inj,ok.has,ok.cab,ok.hd,ok.frames,ok.stk,ok.exf,ok.bs,ok.bsz,ok.noex,ok.exfs,ok.funs,ok.frf⟩
def Cx.Ok.unwish{E:Value->Shared->Prop}(ok:(X.wish E).Ok):X.Ok:=
 ⟨ok.mod,ok.kind,ok.glob,ok.blt,ok.above,ok.inj,ok.has,ok.cab,ok.hd,ok.frames,ok.stk,ok.exf,ok.bs,ok.bsz,ok.noex,ok.exfs,ok.funs,ok.frf⟩
section
variable {X:Cx}{pins:List (Addr × Obj)}{σ:St}{H:Hp}{s:Shared}{E:Value->Shared->Prop}
theorem Inv.wish(I:Inv X pins σ H s)(E:Value->Shared->Prop):Inv (X.wish E) pins σ H s:=⟨I.ok.wish E,I.os,I.bare,I.base,I.loc,I.cell,I.free,I.freeC,I.pin,I.hok,I.len⟩
theorem Inv.unwish(I:Inv (X.wish E) pins σ H s):Inv X pins σ H s:=⟨I.ok.unwish,I.os,I.bare,I.base,I.loc,I.cell,I.free,I.freeC,I.pin,I.hok,I.len⟩
theorem SP.unwish{D:Ends}{f:Flow}{s':Shared}(h:SP (X.wish E) pins D f s'):SP X pins D f s':=by
 cases f with
 | next=>obtain⟨a,H',I,q⟩:=h;exact⟨a,H',I.unwish,q⟩
 | brk=>obtain⟨a,H',I,q⟩:=h;exact⟨a,H',I.unwish,q⟩
 | cont=>obtain⟨a,H',I,q⟩:=h;exact⟨a,H',I.unwish,q⟩
 | ret u=>obtain⟨v,a,H',I,r,q⟩:=h;exact⟨v,a,H',I.unwish,r,q⟩
theorem PSs.nox{st:List Stmt}{t:TS}(h:PSs X.nox st t):PSs X st t:=λpins s σ H D I a=>
 wpAny_mono (h pins s σ H D (I.wish _) a) (λ_ _ q=>q.unwish) λ_ _ z=>False.elim z
end
section
variable {X:Cx}{st:Stmt}{rest:List Stmt}{t u:TS}{e:Expr}{te:TE}{pos:Pos}
abbrev zuR:TS:=λD σ H=>D.nx σ H
abbrev ztW(t u:TS):TS:=λD σ H=>t { D with nx:=u D } σ H
def zJ:PSs X [] zuR:=λ_ _ σ H _ I h=>wpAny_execs_nil ⟨σ,H,I,h⟩
def zj(h1:PS X st t)(h2:PSs X rest u):PSs X (st :: rest) (ztW t u):=by
 intro pins s σ H D I h;refine wpAny_execs_cons (thn (h1 pins s σ H { D with nx:=u D } I h) λf c q=>?_);cases f with
 | next=>
  obtain⟨b,H',a,q⟩:=q;exact h2 pins c b H' D a q
 | ret v=>exact q
 | brk=>exact q
 | cont=>exact q
def zk(h1:PS X st t):PSs X [st] t:=by
 intro pins s σ H D I h;refine wpAny_execs_cons (thn (h1 pins s σ H D I h) λf a q=>?_);cases f with
 | next=>exact wpAny_execs_nil q
 | ret v=>exact q
 | brk=>exact q
 | cont=>exact q
abbrev zvC:TS:=λD σ H=>D.bk σ H
abbrev zvL:TS:=λD σ H=>D.ct σ H
def Inv.quiet(I:Inv X pins σ H s):interactive X.env=false:=by simp[interactive,I.ok.kind]
abbrev zuN(te:TE):TS:=λD σ H=>te σ H λ_ H1=>D.nx σ H1
def zaO(d:PE X e te)(c:autoParam (swapsWith e none pos.line X.env=pure false) Internal.aut2._auto_1):PS X (.Expr e pos) (zuN te):=by
 intro pins s σ H D I h;exact wpAny_Expr_any (thn (d pins s σ H _ I h) λv g ⟨x,H1,b,f,a⟩=>⟨σ,H1,b,a⟩) I.quiet c
abbrev zvr(te:TE):TS:=λD σ H=>te σ H D.rt
def zB(d:PE X e te):PS X (.Return (some e) pos) (zvr te):=by
 intro pins s σ H D I h;exact wpAny_Return_some (thn (d pins s σ H _ I h) λv f ⟨x,H1,b,c,a⟩=>⟨x,σ,H1,b,c,a⟩)
abbrev zvM:TS:=λD _ H=>D.rt .non H
abbrev zvl(c:TT)(t u:TS):TS:=λD σ H=>c σ H λb H1=>if b=true then t D σ H1 else u D σ H1
def zQ{c:Expr}{a b:List Stmt}{tc:TT}(i:PT X c tc)(ha:PSs X a t)(j:PSs X b u):PS X (.If c a b pos) (zvl tc t u):=by
 intro pins s σ H D I h;refine wpAny_If (thn (i pins s σ H _ I h) λd g ⟨H1,f,e⟩=>?_);cases d with
 | true=>exact ha pins g σ H1 D f e
 | false=>exact j pins g σ H1 D f e
noncomputable def ztt:TS:=λ_ _ _=>False
def zhl:PS X st ztt:=λ_ _ _ _ _ _ h=>h.elim
end
abbrev TG:=V->St->Hp->(St->Hp->Prop)->Prop
variable {g:TG}
abbrev TGs:=List V->St->Hp->(St->Hp->Prop)->Prop
noncomputable def PG (X:Cx) (a:Expr) (t:TG):Prop:=
 ∀(pins:List "0l") (s:Shared) (σ:St) (H:Hp) (v:V) (u:Value) (Q:St->Hp->Prop),Inv X pins σ H s->RelV v u->t v σ H Q ->
  wpAny "0g" X.A (assign a X.env u) (λ_ s'=>∃σ' H',Inv X pins σ' H' s'/\Q σ' H') X.xe s
noncomputable def PGs (X:Cx) (ts:List Expr) (t:TGs):Prop:=
 ∀(pins:List "0l") (s:Shared) (σ:St) (H:Hp) (vs:List V) (us:List Value) (Q:St->Hp->Prop),Inv X pins σ H s->Vals vs us->t vs σ H Q ->
  wpAny "0g" X.A (assignInOrder ((assignEach ts X.env).map (·.2)) us) (λ_ s'=>∃σ' H',Inv X pins σ' H' s'/\Q σ' H') X.xe s
abbrev ziC:=V->V->V->Hp->(Hp->Prop)->Prop
noncomputable def zqh (X:Cx) (t:ziC):Prop:=
 ∀(pins:List "0l") (s:Shared) (σ:St) (H:Hp) (o i v:V) (ov iv u:Value) (Q:Hp->Prop),Inv X pins σ H s->RelV o ov->RelV i iv->RelV v u->t o i v H Q ->
  wpAny "0g" X.A (setItem ov iv u) (λ_ s'=>∃H',Inv X pins σ H' s'/\Q H') X.xe s
abbrev TIp:=V->V->Hp->VK->Prop
noncomputable def PIp (X:Cx) (a:Operator) (t:TIp):Prop:=
 ∀(pins:List "0l") (s:Shared) (σ:St) (H:Hp) (x y:V) (v u:Value) (Q:VK),Inv X pins σ H s->RelV x v->RelV y u->t x y H Q ->
  wpAny "0g" X.A (inplaceOp a v u) (EP X pins σ Q) X.xe s
section
variable {X:Cx}{pos:Pos}
abbrev zbU(i:Nat):TG:=λv σ H Q=>Q (σ.set i (some v)) H
def zG(a:X.N.Nodup)(hi:X.N[i]?=some x)(b:Loc X.env.scope x)(d:autoParam (X.fn x=true\/X.env.scope.names.lookup x=some .local) Internal.aut0._auto_1):PG X (.Name x pos) (zbU i):=by
 intro pins s σ H v u Q I r h;exact wpAny_assign_Name (zg9 I a hi b r (λs' c=>⟨_,H,c,h⟩) d)
noncomputable def zqD:TGs:=λvs σ H Q=>vs=[]/\Q σ H
noncomputable def zkf (t:TG) (u:TGs):TGs:=λvs σ H Q=>∃v r,vs=v :: r/\t v σ H λa H'=>u r a H' Q
def zaL:PGs X [] zqD:=by
 intro pins s σ H vs us Q I r h;obtain⟨e,h⟩:=h;subst e;cases r;exact assignInOrder_nil ⟨σ,H,I,h⟩
def zI{e:Expr}{es:List Expr}{t:TG}{u:TGs}(h1:PG X e t)(h2:PGs X es u)
  (hs:autoParam ((assignEach (e :: es) X.env).map (·.2)=assign e X.env :: (assignEach es X.env).map (·.2)) Internal.aut2._auto_1):PGs X (e :: es) (zkf t u):=by
 intro pins s σ H vs us Q I r h;obtain⟨v,i,c,h⟩:=h;subst c;cases r with
 | cons r rr=>
  rw[hs];refine assignInOrder_cons (thn (h1 pins s σ H _ _ _ I r h) λ_ g f=>?_);obtain⟨d,H1,b,a⟩:=f;exact h2 pins g d H1 _ _ Q b rr a
noncomputable def zbB (K:Fg) (n:Nat) (t:TGs):TG:=λv σ H Q=>∃a xs,v=.ref a/\SqT K H a xs/\xs.length=n/\t xs σ H Q
def za5{es:List Expr}{k:Nat}{t:TGs}{n:Nat}(f:X.calm=true)(h:PGs X es t)
  (hn:autoParam ((assignEach es X.env).length=n) Internal.aut2._auto_1) (hst:autoParam ((assignEach es X.env).findIdx? (·.1)=none) Internal.aut2._auto_1):PG X (.Tuple es k pos) (zbB X.K n t):=by
 intro pins s σ H v u Q I r c;obtain⟨a,xs,l,m,hl,c⟩:=c;subst l;cases r;obtain⟨its,d,g,p⟩:=I.tuple m;refine assign_Tuple_tuple (I.ok.hd f) g (by simp[hn,<- hl,d.length]) hst λh' i=>?_;have j:Inv X pins σ H { s with heap:=h' }:=I.kept (t':=s.toks) λb o e=>i b o (yw (Heap.lt_size e)) e;exact h pins _ σ H xs _ Q j (by simpa using d) c
abbrev zvn(to ti:TE)(t:ziC):TG:=λv σ H Q=>to σ H λo H1=>ti σ H1 λi H2=>t o i v H2 λH3=>Q σ H3
def za6{o i:Expr}{to ti:TE}{t:ziC}(d:PE X o to)(hi:PE X i ti)(k:zqh X t)
  (ha:autoParam (∀v,assign (.Subscript o i pos) X.env v=(do
   let a <- holding [v] (eval o X.env)
   let b <- holding [v,a] (eval i X.env)
   standAt pos
   holding [v,a,b] (setItem a b v)
   release [v,a,b] [])) Internal.aut3._auto_1):PG X (.Subscript o i pos) (zvn to ti t):=by
 intro pins s σ H v u Q I r h;rw[ha];refine wpAny_bind (wpAny_holding (thn (d pins s σ H _ I h) λa z c=>?_));obtain⟨x,H1,e,f,m⟩:=c;refine wpAny_bind (wpAny_holding (thn (hi pins z σ H1 _ e m) λb q c=>?_));obtain⟨y,H2,j,g,p⟩:=c;refine wpAny_bind (wpAny_standAt (wpAny_bind (wpAny_holding (thn (k pins q σ H2 x y v a b u _ j f g r p) λ_ A ⟨n,w,l⟩=>?_))));exact wpAny_release ⟨σ,n,w,l⟩
abbrev zlh(te:TE)(g:TG):TS:=λD σ H=>te σ H λx H1=>g x σ H1 D.nx
def za1{e:Expr}{te:TE}(i:PE X e te)(c:PG X tg g)(k:autoParam (swapsWithSole [tg] e pos.line X.env=pure false) Internal.aut2._auto_1)(f:autoParam (swappedStores [tg] e X.env=pure none) Internal.aut2._auto_1)
  (h1:autoParam ((assignEach [tg] X.env).map (·.2)=[assign tg X.env]) Internal.aut2._auto_1):PS X (.Assign [tg] e pos) (zlh te g):=by
 intro pins s σ H D I h;refine wpAny_Assign_stores (thn (i pins s σ H _ I h) λv l j=>?_) k f;obtain⟨x,H1,b,d,a⟩:=j;rw[h1];exact thn (c pins l σ H1 x v _ b d a) λ_ m q=>q
def ztj{e:Expr}{te:TE}{pos':Pos}(a:X.N.Nodup)(hi:X.N[i]?=some x)(b:Loc X.env.scope x)(g:PE X e te)(m:autoParam (swapsWith e (some (.Name x pos')) pos.line X.env=pure false) Internal.aut2._auto_1)(j:autoParam (X.fn x=true\/X.env.scope.names.lookup x=some .local) Internal.aut0._auto_1) :
  PS X (.Assign [.Name x pos'] e pos) (zlh te (zbU i)):=by
 intro pins s σ H D I h;refine wpAny_Assign_Name (thn (g pins s σ H _ I h) λv o k=>?_) m;obtain⟨y,H1,d,f,c⟩:=k;exact zg9 d a hi b f (λn l=>⟨_,H1,l,c⟩) j
noncomputable def zqp (i:Nat) (te:TE) (ti:TIp):TS:=λD σ H=>∃x,σ[i]?=some (some x)/\te σ H λy H1=>ti x y H1 λz H2=>D.nx (σ.set i (some z)) H2
def zpn{e:Expr}{te:TE}{g:Operator}{ti:TIp}{pos':Pos}(n:X.N.Nodup)(hi:X.N[i]?=some x)(f:Loc X.env.scope x)(C:PE X e te)(o:PIp X g ti)(E:autoParam (X.fn x=true\/X.env.scope.names.lookup x=some .local) Internal.aut0._auto_1) :
  PS X (.AugAssign (.Name x pos') g e pos) (zqp i te ti):=by
 intro pins s σ H D I h;obtain⟨v,J,h⟩:=h;obtain⟨m,j,hl⟩:=I.loc;have d:Vis X.env.scope x:=by rcases f with k | k;exact .inl k;exact .inr (.inl k)
 obtain⟨u,r,l⟩:=hl i x v hi J d;refine wpAny_AugAssign_Name ?_;have go:wpAny "0g" X.A (eval e X.env) (λw q=>wpAny "0g" X.A (inplaceOp g u w) (λr L=>wpAny "0g" X.A (storeName X.env x r) (λ_=>SP X pins D .next) X.xe L) X.xe q) X.xe s:=by
  refine thn (C pins s σ H _ I h) λw O b=>?_;obtain⟨y,H1,p,t,G⟩:=b;refine thn (o pins O σ H1 v y u w _ p r t G) λz R b=>?_;obtain⟨P,H2,F,B,K⟩:=b;exact zg9 F n hi f B (λQ M=>⟨_,H2,M,K⟩) E
 rcases l with⟨a,hm⟩ | ⟨a,c,hc,hcell⟩
 ·exact wpAny_loadName_local I.ok.kind a j hm go
 ·rcases a with a | a
  ·exact wpAny_loadName_cell I.ok.kind a hc hcell go
  ·rcases f with k | k
   ·have:X.env.scope.names.lookup x=some .free:=a
    rw[k]at this;cases this
   ·have:X.env.scope.names.lookup x=some .free:=a
    rw[k]at this;cases this
noncomputable def zrt (to ti te:TE) (a:V->V->Hp->VK->Prop) (c:TIp) (b:ziC):TS:=λD σ H=>to σ H λo H1=>ti σ H1 λi H2=>a o i H2 λx f=>te σ f λy e=>c x y e λz d=>b o i z d λg=>D.nx σ g
noncomputable def zdU (X:Cx) (t:V->V->Hp->VK->Prop):Prop:=
 ∀(pins:List "0l") (s:Shared) (σ:St) (H:Hp) (o i:V) (ov iv:Value) (Q:VK),Inv X pins σ H s->RelV o ov->RelV i iv->t o i H Q ->
  wpAny "0g" X.A (getItem ov iv) (EP X pins σ Q) X.xe s
def zb5{o i e:Expr}{to ti te:TE}{b:V->V->Hp->VK->Prop}{g:TIp}{c:ziC}{p:Operator}{tpos:Pos}(q:PE X o to)(hi:PE X i ti)(y:zdU X b)(A:PE X e te)(W:PIp X p g)(E:zqh X c)
  (ha:autoParam (∀d f new,augStore i d f new=(do holding [new,d,f] (setItem d f new);release [new,d,f] [];pure .next)) Internal.aut4._auto_1):PS X (.AugAssign (.Subscript o i tpos) p e pos) (zrt to ti te b g c):=by
 intro pins s σ H D I h;refine wpAny_AugAssign_SubscriptAny (thn (q pins s σ H _ I h) λd s1 a=>?_) ha;obtain⟨m,H1,u,k,K⟩:=a;refine thn (hi pins s1 σ H1 _ u K) λf T a=>?_;obtain⟨n,H2,C,l,Q⟩:=a;refine thn (y pins T σ H2 m n d f _ C k l Q) λj B a=>?_;obtain⟨R,O,I3,M,J⟩:=a;refine thn (A pins B σ O _ I3 J) λv G a=>?_;obtain⟨S,N,I4,F,L⟩:=a;refine thn (W pins G σ N R S j v _ I4 M F L) λnew w a=>?_;obtain⟨Z,t,U,P,r⟩:=a;exact thn (E pins w σ t m n Z d f new _ U k l P r) λ_ s6 ⟨Y,z,x⟩=>⟨σ,Y,z,x⟩
noncomputable def ipI (f:Int->Int->Int):TIp:=λx y H Q=>∃i j,x=.int i/\y=.int j/\Q (.int (f i j)) H
def zdj:PIp X .Add (ipI λi j=>i+j):=by
 intro pins s σ H x y v u Q I b c h;obtain⟨i,j,a,d,q⟩:=h;subst a;subst d;obtain⟨t,rfl⟩:=b;obtain⟨t',rfl⟩:=c;exact iadd_int ⟨.int _,H,I.tok _,⟨_,rfl⟩,q⟩
def zle:PIp X .Sub (ipI λi j=>i-j):=by
 intro pins s σ H x y v u Q I b c h;obtain⟨i,j,a,d,q⟩:=h;subst a;subst d;obtain⟨t,rfl⟩:=b;obtain⟨t',rfl⟩:=c;exact isub_int ⟨.int _,H,I.tok _,⟨_,rfl⟩,q⟩
end
section
variable {X:Cx}{pos:Pos}
noncomputable def ztN (c:TT) (tb:TS):TS:=λD σ H=>∃W:Nat->St->Hp->Prop,(∃m,W m σ H)/\∀m σ H,W m σ H ->
 c σ H λb H1=>if b=true then ∃N:St->Hp->Prop,(∀σ' H',N σ' H'->∃m',m'<m/\W m' σ' H')/\tb { D with nx:=N,ct:=N,bk:=D.nx } σ H1 else D.nx σ H1
def zb1{c:Expr}{body:List Stmt}{tc:TT}{tb:TS}(r:PassesOwn "0g" X.A X.env X.xe)(y:PT X c tc)(C:PSs X body tb):PS X (.While c body [] pos) (ztN tc tb):=by
 intro pins s σ H D I h;obtain⟨W,⟨t,u⟩,turn⟩:=h;refine wpAny_While (codeAny_whileLoop (λn s'=>∃σ' H',Inv X pins σ' H' s'/\W n σ' H') ?_ t ⟨σ,H,I,u⟩);rintro n E ⟨e,H1,x,z⟩;refine wpAny_passesOwn r (thn (y pins E e H1 _ x (turn n e H1 z)) λb B ⟨H2,q,i⟩=>?_);cases b with
 | true=>
  obtain⟨N,p,i⟩:=i;rw[if_pos rfl];refine wpAny_passesOwn r (thn (C pins B e H2 _ q i) λf F g=>?_);cases f with
  | next=>
   obtain⟨a,d,k,j⟩:=g;obtain⟨l,o,m⟩:=p a d j;exact⟨l,o,a,d,k,m⟩
  | cont=>
   obtain⟨a,d,k,j⟩:=g;obtain⟨l,o,m⟩:=p a d j;exact⟨l,o,a,d,k,m⟩
  | brk=>exact g
  | ret v=>exact g
 | false=>
  rw[if_neg yu];exact wpAny_execs_nil ⟨e,H2,q,i⟩
end
structure It where
 go:Nat->Hp->Prop
 yld:Nat->Hp->V->Hp->Prop
 stop:Nat->Hp->Prop
noncomputable def zcJ (X:Cx) (pins:List "0l") (H:Hp) (b:Addr):Prop:=
 H b=none/\b≠X.env.locals/\b∉X.fs/\(b∈X.ex\/X.s₀.heap.objs.size<=b)/\(∀x c,X.env.cells.lookup x=some c->c≠b)/\∀p∈X.pn++pins,p.1≠b
def Inv.fpOk(I:Inv X pins σ H s)(a:s.heap.objs.size<=b)(d:H' b=none):zcJ X pins H' b:=by
 refine⟨d,ybT (yx I.lt a),I.nofs a,.inr (yi I.sz a),λx c e z=>?_,λp f z=>?_⟩
 ·obtain⟨v,q⟩:=I.cell x c e;exact absurd (yx q.lt (by rw[z];exact a)) (yW _)
 ·exact absurd (yx (Heap.lt_size (I.pin p f).1) (by rw[z];exact a)) (yW _)
structure Turn(P:Program)(w:World)(K:Fg)(tg:Expr)(J:It)(fp:List Addr)(it:Addr)(tn:Nat->Heap->Prop):Prop where
 mem:it∈fp
 obj:∀i h,tn i h->∀b∈fp,∃o,h.get? b=some o/\∀v,o.data≠.cell v
 keep:∀i h h',tn i h->(∀b∈fp,∀o,h.get? b=some o->h'.get? b=some o)->tn i h'
 item:∀(X:Cx),X.prog=P->X.w=w->X.K=K->X.calm=true->∀(i:Nat) (pins:List "0l") (s:Shared) (σ:St) (H:Hp) (E:Value->Shared->Prop),Inv X pins σ H s->(∀b∈fp,zcJ X pins H b)->tn i s.heap->J.go i H ->
  wpAny (model P w) X.A (pyNext (.ref it)) (λr s1=>∃u,r=some u /\
   wpAny (model P w) X.A (letOwnedTupleGo tg (.ref it) u) (λ_ s2=>∃x H',Inv X pins σ H' s2/\RelV x u/\J.yld i H x H'/\tn (i+1) s2.heap/\∀b∈fp,H' b=none) E s1) E s
 done:∀(X:Cx),X.prog=P->X.w=w->X.K=K->X.calm=true->∀(i:Nat) (pins:List "0l") (s:Shared) (σ:St) (H:Hp) (E:Value->Shared->Prop),Inv X pins σ H s->(∀b∈fp,zcJ X pins H b)->tn i s.heap->J.stop i H ->
  wpAny (model P w) X.A (pyNext (.ref it)) (λr s1=>r=none/\Inv X pins σ H s1) E s
 self:∀(A:Around) (i:Nat) (s:Shared) (Q:Value->Shared->Prop) (E:Value->Shared->Prop),tn i s.heap->Q (.ref it) s->wpAny (model P w) A (pyIter (.ref it)) Q E s
abbrev TI:=St->Hp->(It->Hp->Prop)->Prop
variable {wi:TI}
noncomputable def PIE (X:Cx) (pins:List "0l") (σ:St) (tg:Expr) (R:It->Hp->Prop) (a:Value) (c:Shared):Prop:=
 ∃(it:Addr) (fp:List Addr) (tn:Nat->Heap->Prop) (J:It) (H':Hp),a=.ref it/\Inv X pins σ H' c/\Turn X.prog X.w X.K tg J fp it tn/\tn 0 c.heap/\(∀b∈fp,zcJ X pins H' b)/\R J H'
noncomputable def PI (X:Cx) (tg iter:Expr) (wi:TI):Prop:=
 ∀(pins:List "0l") (s:Shared) (σ:St) (H:Hp) (R:It->Hp->Prop),Inv X pins σ H s->wi σ H R ->
  wpAny "0g" X.A (eval iter X.env) (λv a=>wpAny "0g" X.A (pyIter v) (PIE X pins σ tg R) X.xe a) X.xe s
def zrE{M:Model}{A:Around}{E:Value->Shared->Prop}{tg:Expr}{it:Addr}{u:Value}{o:Obj}{n:String}{vs:Array Value}{Q:Unit->Shared->Prop}(b:s.heap.get? it=some o)(a:o.cls=.type n)(hd:o.data=.fields vs)
  (hn:["enumerate", "zip", "dict_itemiterator", "dict_reverseitemiterator", "odict_iterator", "itertools.zip_longest", "itertools.pairwise"].contains n=false) (hQ:Q () s):wpAny M A (letOwnedTupleGo tg (.ref it) u) Q E s:=by
 unfold letOwnedTupleGo;cases tg<;>first
  | exact wpAny_pure hQ
  | (cases u<;>first
    | exact wpAny_pure hQ
    | (refine wpAny_bind (wpAny_load b ?_)
       rw[a,hd];show wpAny M A (if(["enumerate", "zip", "dict_itemiterator", "dict_reverseitemiterator", "odict_iterator", "itertools.zip_longest", "itertools.pairwise"].contains n&&vs[0]? == some (rawInt _))=true then _ else _) Q E s;rw[if_neg (by intro h;rw[hn,Bool.false_and]at h;cases h)];exact wpAny_pure hQ))
noncomputable def Itl (K:Fg) (a:Addr):It:=
 ⟨λi H=>∃xs x,SqL K H a xs/\xs[i]?=some x,λi H x H'=>H'=H/\∀xs,SqL K H a xs->xs[i]?=some x,λi H=>∃xs,SqL K H a xs/\xs.length<=i⟩
noncomputable def Itr (lo:Int) (n:Nat):It:=⟨λi _=>i<n,λi H x H'=>H'=H/\x=.int (lo+i),λi _=>n<=i⟩
def zoQ(a it:Addr):Turn P w K tg (Itl K a) [it] it (λi h=>h.IsListIter it a i) where
 mem:=by simp
 obj:=λi h st b f=>by
  have e:b=it:=by simpa using f
  subst e;obtain⟨o,e,c,d⟩:=st;exact⟨o,e,λv z=>by rw[d]at z;cases z⟩
 keep:=λi h h' st k=>st.at λo e=>k it (by simp) o e
 item:=by
  intro X hP B t F i pins s σ H E I l st m;subst hP B t;obtain⟨xs,x,j,y⟩:=m;obtain⟨its,q,p,O⟩:=I.list j;obtain⟨u,L,R⟩:=q.get y;obtain⟨D,C,Q,A,n,r⟩:=l it (by simp);refine wpAny_pyNext_list_item st p.isList (x:=u) (by simpa using L) λh' g J=>?_;have G:Inv X pins σ H { s with heap:=h' }:=I.turned (t':=s.toks) (λb o f e=>(J.2 b f).trans e) D C A n r;obtain⟨o,e,c,d⟩:=id g;exact⟨u,rfl,zrE (s:={ s with heap:=h' }) e c d "0a" ⟨x,H,G,R,⟨rfl,λys M=>by rw[I.list_inj M j];exact y⟩,g,λb f=>(l b f).1⟩⟩
 done:=by
  intro X hP B t F i pins s σ H E I l st m;subst hP B t;obtain⟨xs,j,y⟩:=m;obtain⟨its,q,p,O⟩:=I.list j;obtain⟨D,C,Q,A,n,r⟩:=l it (by simp);have hl:=q.length;exact wpAny_pyNext_list_end (I.ok.hd F) st p.isList (by simp;lia) λh' N=>⟨rfl,I.turned (t':=s.toks) (λb o f e=>N b o f e) D C A n r⟩
 self:=λ_ _ _ _ _ st h=>wpAny_pyIter_listiter st h
def znz(it:Addr)(lo:Int)(n:Nat):Turn P w K tg (Itr lo n) [it] it (λi h=>IsRangeIter h it (lo+(i:Nat)*1) ((n:Int)-(i:Nat)) 1) where
 mem:=by simp
 obj:=λi h st b a=>by
  have e:b=it:=by simpa using a
  subst e;exact⟨_,st,λv z=>by
   have B:Data.fields _=Data.cell v:=z;cases B⟩
 keep:=λi h h' st k=>k it (by simp) _ st
 item:=by
  intro X hP q l m i pins s σ H E I d st f;subst hP q l;obtain⟨u,r,C,p,g,j⟩:=d it (by simp);have W:=Walks.range (prog:=X.prog) (w:=X.w) (I.ok.hd m) it lo 1 n;refine W.item i s _ _ f st λv h' tk y c kk=>?_;obtain⟨t,rfl⟩:=y;have x:Inv X pins σ H { s with heap:=h',toks:=tk }:=I.turned (λb o a e=>kk b o (by simpa using a) e) u r p g j;refine⟨_,rfl,zrE (s:={ s with heap:=h',toks:=tk }) (n := "range_iterator") c rfl rfl "0a" ⟨.int (lo+i),H,x,⟨t,?_⟩,⟨rfl,rfl⟩,c,λb a=>(d b a).1⟩⟩;rw[yb6]
 done:=by
  intro X hP q l m i pins s σ H E I d st f;subst hP q l;obtain⟨u,r,C,p,g,j⟩:=d it (by simp);exact wpAny_pyNext_range_end (I.ok.hd m) st (by have:n<=i:=f;lia) λh' A=>⟨rfl,I.turned (t':=s.toks) (λb o a e=>A b o a e) u r p g j⟩
 self:=λ_ _ _ _ _ st h=>wpAny_pyIter_rangeiter st h
section
variable {X:Cx}{tg:Expr}
noncomputable def znD (K:Fg) (tl:TE):TI:=λσ H R=>tl σ H λx H1=>∃a,x=.ref a/\(∃xs,SqL K H1 a xs)/\R (Itl K a) H1
def zs4{l:Expr}{tl:TE}(hl:PE X l tl):PI X tg l (znD X.K tl):=by
 intro pins s σ H R I h;refine thn (hl pins s σ H _ I h) λv d i=>?_;obtain⟨x,H1,c,g,f⟩:=i;obtain⟨a,e,⟨xs,j⟩,q⟩:=f;subst e;cases g;obtain⟨its,m,p,n⟩:=c.list j;refine wpAny_pyIter_list p.isList ?_;refine⟨d.heap.objs.size,[d.heap.objs.size],_,_,H1,rfl,c.kept (t':=d.toks) λb o e=>Heap.get?_push_of_some _ e,zoQ a _,⟨_,Heap.get?_push_size _ rfl,rfl,rfl⟩,λb k=>?_,q⟩;have e:b=d.heap.objs.size:=by simpa using k
 subst e;exact c.fpOk (yc _) (c.hok.fresh (yc _))
def zk4{R:It->Hp->Prop}{E:Value->Shared->Prop}{hi:Int}{t u v:Tok}{tk:Nat}(I:Inv X pins σ H s)(h1:-(2 ^ 62)<=lo)(h2:lo<2 ^ 62)(d:-(2 ^ 62)<=hi)(f:hi<2 ^ 62)
  (q:R (Itr lo (hi-lo).toNat) H):wpAny "0g" X.A (pyIter (.ref s.heap.objs.size)) (PIE X pins σ tg R) E { s with heap:=s.heap.push { cls:=.type "range",data:=.fields #[.int lo t,.int hi u,.int 1 v] },toks:=tk }:=by
 refine wpAny_pyIter_range (IsRange.new ..) (small_one h1 h2 d f) ?_;have a:Inv X pins σ H { s with heap:=s.heap.push { cls:=.type "range",data:=.fields #[.int lo t,.int hi u,.int 1 v] },toks:=tk }:=I.kept λb o e=>Heap.get?_push_of_some _ e;refine⟨(s.heap.push { cls:=.type "range",data:=.fields #[.int lo t,.int hi u,.int 1 v] }).objs.size,[(s.heap.push { cls:=.type "range",data:=.fields #[.int lo t,.int hi u,.int 1 v] }).objs.size],_,_,H,rfl,
  a.kept (t':=tk) λb o e=>Heap.get?_push_of_some _ e,znz _ lo (hi-lo).toNat,?_,λb h=>?_,q⟩
 ·have c:lo+((0:Nat):Int)*1=lo:=by simp
  have g:(((hi-lo).toNat:Nat):Int)-((0:Nat):Int)=Builtin.Range.rangeSize lo hi 1:=by rw[rangeSize_one];split<;>lia
  show IsRangeIter _ _ (lo+((0:Nat):Int)*1) ((((hi-lo).toNat:Nat):Int)-((0:Nat):Int)) 1;rw[c,g];exact Heap.get?_push_size _ rfl
 ·have e:b=(s.heap.push { cls:=.type "range",data:=.fields #[.int lo t,.int hi u,.int 1 v] }).objs.size:=by simpa using h
  subst e;exact a.fpOk (yc _) (a.hok.fresh (yc _))
noncomputable def zrF (ta:TA):TI:=λσ H R=>ta σ H λvs H1=>∃j:Int,vs=[.int j]/\-(2 ^ 62)<=j/\j<2 ^ 62/\R (Itr 0 j.toNat) H1
noncomputable def zrC (ta:TA):TI:=λσ H R=>ta σ H λvs H1=>∃i j:Int,vs=[.int i,.int j]/\(-(2 ^ 62)<=i/\i<2 ^ 62/\-(2 ^ 62)<=j/\j<2 ^ 62)/\R (Itr i (j-i).toNat) H1
def zac{a:Expr}{ta:TA}{p pos:Pos}(d:Gl X "range")(i:X.mg "range" = none)(ha:PA X [a] ta)(k:autoParam (starEach [a] X.env=[(false,eval a X.env)]) Internal.aut2._auto_1):PI X tg (.Call (.Name "range" p) [a] [] pos) (zrF ta):=by
 intro pins s σ H R I h;refine Call_ (zck I d i boot_range (yaD (thn (ha pos pins s σ H _ I h) λus l ⟨vs,H1,c,f,b⟩=>?_) k rfl));obtain⟨j,e,b,g,q⟩:=b;subst e;cases f with
 | cons r rr=>
  cases rr;obtain⟨t,rfl⟩:=r;exact call_range_1 (zk4 c ⋯ ⋯ b g (by simpa using q))
def zjb{a b:Expr}{ta:TA}{p pos:Pos}(k:Gl X "range")(o:X.mg "range" = none)(ha:PA X [a,b] ta)(u:autoParam (starEach [a,b] X.env=[(false,eval a X.env),(false,eval b X.env)]) Internal.aut2._auto_1)(c:autoParam (starEach [b] X.env=[(false,eval b X.env)]) Internal.aut2._auto_1) :
  PI X tg (.Call (.Name "range" p) [a,b] [] pos) (zrC ta):=by
 intro pins s σ H R I h;refine Call_ (zck I k o boot_range (yaD (thn (ha pos pins s σ H _ I h) λus v ⟨vs,H1,g,m,d⟩=>?_) (by rw[u,c]) (by rw[c];rfl)));obtain⟨i,j,e,⟨d,n,f,l⟩,q⟩:=d;subst e;cases m with
 | cons r rr=>
  cases rr with
  | cons r' rr=>
   cases rr;obtain⟨t,rfl⟩:=r;obtain⟨t',rfl⟩:=r';exact call_range_2 (zk4 g d n f l q)
noncomputable def ztA (wi:TI) (g:TG) (tb:TS):TS:=λD σ H=>wi σ H λJ H1=>∃W:Nat->Nat->St->Hp->Prop,(∃m,W 0 m σ H1)/\∀i m σ H,W i m σ H ->
 (J.stop i H/\D.nx σ H)\/(J.go i H/\∃N:St->Hp->Prop,(∀σ' H',N σ' H'->∃m',m'<m/\W (i+1) m' σ' H')/\∀x H',J.yld i H x H'->g x σ H' λa H2=>tb { D with nx:=N,ct:=N,bk:=D.nx } a H2)
noncomputable def zfS (fp:List Addr) (h:Heap):List "0l":=fp.filterMap λb=>(h.get? b).map λo=>(b,o)
def zdu{o:Obj}(a:b∈fp)(e:h.get? b=some o):(b,o)∈zfS fp h:=List.mem_filterMap.mpr ⟨b,a,by rw[e];rfl⟩
def zoE{p:Addr × Obj}(d:p∈zfS fp h):p.1∈fp/\h.get? p.1=some p.2:=by
 obtain⟨b,a,e⟩:=List.mem_filterMap.mp d;cases q:h.get? b with
 | none=>rw[q]at e;cases e
 | some o=>
  rw[q]at e;have c:(b,o)=p:=yt e;subst c;exact⟨a,q⟩
def Inv.pinned(I:Inv X pins σ H s)(k:∀b∈fp,zcJ X pins H b)(f:∀b∈fp,∃o,s.heap.get? b=some o/\∀v,o.data≠.cell v):Inv X (pins++zfS fp s.heap) σ H s:=
 I.pins_of λp h=>(yH.mp h).elim (λz=>I.pin p (yq _ z)) λz=>by
  obtain⟨a,e⟩:=zoE z;obtain⟨i,j,g,_⟩:=k p.1 a;obtain⟨o,c,d⟩:=f p.1 a;rw[e]at c;cases c;exact⟨e,i,j,g,d⟩
def Inv.unpinned{pl:List "0l"}(I:Inv X (pins++pl) σ H s):Inv X pins σ H s:=I.pins_of λp a=>I.pin p (yq _ (yv _ a))
def zU{body:List Stmt}{tb:TS}{pos:Pos}(E:PassesOwn "0g" X.A X.env X.xe)(Y:X.calm=true)(hi:PI X tg iter wi)(hg:PG X tg g)(k:PSs X body tb)
  (hs:autoParam (∀x,foldedSetIterable iter X.env x=pure x) Internal.aut3._auto_1):PS X (.For tg iter body [] pos) (ztA wi g tb):=by
 intro pins s σ H D I h;refine wpAny_For (thn (hi pins s σ H _ I h) λv s1 h1=>thn h1 λa0 s2 h2=>?_) hs;obtain⟨it,fp,V,J,H2,e,I2,T,K,R,W,⟨m0,w0⟩,turn⟩:=h2;subst e
 -- what stays true of the iterator's objects through the loop
 have l:∀{H':Hp},(∀b∈fp,H' b=none)->∀b∈fp,zcJ X pins H' b:=λhn b k=>⟨hn b k,(R b k).2⟩
 refine codeAny_forLoop_any (λn s'=>∃i σ' H',Inv X pins σ' H' s'/\V i s'.heap/\(∀b∈fp,H' b=none)/\W i n σ' H') ?_ m0 ⟨0,σ,H2,I2,K,λb k=>(R b k).1,w0⟩;rintro n U ⟨i,C,F,Z,z,y,w3⟩;rcases turn i n C F w3 with⟨stop,qn⟩ | ⟨go,N,hN,step⟩
 ·refine wpAny_passesOwn E (thn (T.done X rfl rfl rfl Y i pins U C F X.xe Z (l y) z stop) λr s4 ⟨M,I4⟩=>?_);subst M;exact wpAny_execs_nil ⟨C,F,I4,qn⟩
 ·refine wpAny_passesOwn E (thn (T.item X rfl rfl rfl Y i pins U C F X.xe Z (l y) z go) λr s4 ⟨u,M,h4⟩=>?_);subst M;refine wpAny_passesOwn E (thn h4 λ_ S O=>?_);obtain⟨x,Q,I5,r5,y5,t,G⟩:=O;have L:=I5.pinned (l G) (T.obj _ _ t);refine wpAny_passesOwn E (thn (hg _ S C Q x u _ L r5 (step x Q y5)) λ_ s6 O=>?_);obtain⟨σ6,H6,I6,q6⟩:=O;refine wpAny_passesOwn E (thn (k _ s6 σ6 H6 _ I6 q6) λf P q=>?_);have c:∀{a:St} {p:Hp},Inv X (pins++zfS fp S.heap) a p P->N a p->∃m,m<n/\∃i σ' H',Inv X pins σ' H' P/\V i P.heap/\(∀b∈fp,H' b=none)/\W i m σ' H':=λ{a p} j B=>by
   obtain⟨m',hm,w7⟩:=hN a p B;refine⟨m',hm,i+1,a,p,j.unpinned,T.keep _ _ _ t λb k o e=>(j.pin (b,o) (yq _ (yq _ (zdu k e)))).1,λb k=>?_,w7⟩;obtain⟨o,e,d⟩:=T.obj _ _ t b k;exact(j.pin (b,o) (yq _ (yq _ (zdu k e)))).2.1
  cases f with
  | next=>obtain⟨a,p,j,B⟩:=q;exact c j B
  | cont=>obtain⟨a,p,j,B⟩:=q;exact c j B
  | brk=>obtain⟨a,p,j,q⟩:=q;exact⟨a,p,j.unpinned,q⟩
  | ret v=>obtain⟨x7,a,p,j,r7,q⟩:=q;exact⟨x7,a,p,j.unpinned,r7,q⟩
end
def zrj{g:TG}{tb:TS}{D:Ends}(b:Nat->St->Hp->Prop)(h:b 0 σ H)(hl:∀i σ H,i<=xs.length->b i σ H->SqL K H a xs)
  (hs:∀i x σ H,xs[i]?=some x->b i σ H->g x σ H λf H2=>tb { D with nx:=b (i+1),ct:=b (i+1),bk:=D.nx } f H2) (hd:∀σ H,b xs.length σ H->D.nx σ H) :
  ∃W:Nat->Nat->St->Hp->Prop,(∃m,W 0 m σ H)/\∀i m σ H,W i m σ H ->
   ((Itl K a).stop i H/\D.nx σ H)\/((Itl K a).go i H/\∃N:St->Hp->Prop,(∀d H',N d H'->∃m',m'<m/\W (i+1) m' d H')/\∀x H',(Itl K a).yld i H x H'->g x σ H' λf H2=>tb { D with nx:=N,ct:=N,bk:=D.nx } f H2):=by
 refine⟨λi m σ H=>m=xs.length-i/\i<=xs.length/\b i σ H,⟨xs.length,by simp,yM _,h⟩,?_⟩;rintro i m σ H ⟨rfl,hi,p⟩;have q:=hl i σ H hi p;by_cases c:i<xs.length
 ·refine .inr ⟨⟨xs,xs[i],q,by simp[c]⟩,b (i+1),λd H' j=>⟨xs.length-(i+1),⋯,rfl,c,j⟩,λx H' y=>?_⟩;obtain⟨e,y⟩:=y;subst e;exact hs i x σ _ (y xs q) p
 ·have e:i=xs.length:=by lia
  subst e;exact .inl ⟨⟨xs,q,yc _⟩,hd σ H p⟩
def zo7{lo:Int}{n:Nat}{g:TG}{tb:TS}{D:Ends}(b:Nat->St->Hp->Prop)(f:b 0 σ H)
  (hs:∀i σ H,i<n->b i σ H->g (.int (lo+i)) σ H λd H2=>tb { D with nx:=b (i+1),ct:=b (i+1),bk:=D.nx } d H2) (hd:∀σ H,b n σ H->D.nx σ H) :
  ∃W:Nat->Nat->St->Hp->Prop,(∃m,W 0 m σ H)/\∀i m σ H,W i m σ H ->
   ((Itr lo n).stop i H/\D.nx σ H)\/((Itr lo n).go i H/\∃N:St->Hp->Prop,(∀c H',N c H'->∃m',m'<m/\W (i+1) m' c H')/\∀x H',(Itr lo n).yld i H x H'->g x σ H' λd H2=>tb { D with nx:=N,ct:=N,bk:=D.nx } d H2):=by
 refine⟨λi m σ H=>m=n-i/\i<=n/\b i σ H,⟨n,by simp,yM _,f⟩,?_⟩;rintro i m σ H ⟨rfl,hi,p⟩;by_cases a:i<n
 ·refine .inr ⟨a,b (i+1),λc H' h=>⟨n-(i+1),⋯,rfl,a,h⟩,λx H' y=>?_⟩;obtain⟨e,y⟩:=y;subst e y;exact hs i σ _ a p
 ·have e:i=n:=by lia
  subst e;exact .inl ⟨yc _,hd σ H p⟩
abbrev R2:=V->V->Hp->VK->Prop
noncomputable def OpR (X:Cx) (f:Value->Value->Sem Value) (r:R2):Prop:=
 ∀(pins:List "0l") (s:Shared) (σ:St) (H:Hp) (x y:V) (v u:Value) (Q:VK),Inv X pins σ H s->RelV x v->RelV y u->r x y H Q ->
  wpAny "0g" X.A (f v u) (EP X pins σ Q) X.xe s
noncomputable def UnR (X:Cx) (f:Value->Sem Value) (r:V->Hp->VK->Prop):Prop:=
 ∀(pins:List "0l") (s:Shared) (σ:St) (H:Hp) (x:V) (v:Value) (Q:VK),Inv X pins σ H s->RelV x v->r x H Q ->
  wpAny "0g" X.A (f v) (EP X pins σ Q) X.xe s
noncomputable def CallR (X:Cx) (f:Value) (r:List V->Hp->VK->Prop):Prop:=
 ∀(pins:List "0l") (s:Shared) (σ:St) (H:Hp) (xs:List V) (us:List Value) (Q:VK),Inv X pins σ H s->Vals xs us->r xs H Q ->
  wpAny "0g" X.A (call f us) (EP X pins σ Q) X.xe s
noncomputable def zvu (X:Cx) (r:V->Hp->(Bool->Hp->Prop)->Prop):Prop:=
 ∀(pins:List "0l") (s:Shared) (σ:St) (H:Hp) (x:V) (v:Value) (Q:Bool->Hp->Prop),Inv X pins σ H s->RelV x v->r x H Q ->
  wpAny "0g" X.A (truthy v) (TP X pins σ Q) X.xe s
abbrev tOp(r:R2)(ta tb:TE):TE:=λσ H Q=>ta σ H λx H1=>tb σ H1 λy H2=>r x y H2 Q
abbrev tUn(r:V->Hp->VK->Prop)(ta:TE):TE:=λσ H Q=>ta σ H λx H1=>r x H1 Q
noncomputable def rI (C:Int->Int->Prop) (g:Int->Int->V):R2:=λx y H Q=>∃i j,x=.int i/\y=.int j/\C i j/\Q (g i j) H
noncomputable def rI0 (g:Int->Int->V):R2:=λx y H Q=>∃i j,x=.int i/\y=.int j/\Q (g i j) H
noncomputable def rU (g:Int->V):V->Hp->VK->Prop:=λx H Q=>∃i,x=.int i/\Q (g i) H
section
variable {X:Cx}{a b c:Expr}{ta tb tc:TE}{pos:Pos}
def zpN(ha:PE X a ta)(n:PE X b tb){R:V->V->Hp->Prop}(I:Inv X pins σ H s)
  (h:ta σ H λx H1=>tb σ H1 λy H2=>R x y H2) {Q:Value->Shared->Prop} {f:Value->Value->Sem Value}
  (hf:∀v u c x y H2,Inv X pins σ H2 c->RelV x v->RelV y u->R x y H2->wpAny "0g" X.A (f v u) Q X.xe c) :
  wpAny "0g" X.A (eval a X.env) (λv e=>wpAny "0g" X.A (eval b X.env) (λu j=>wpAny "0g" X.A (f v u) Q X.xe j) X.xe e) X.xe s:=by
 refine thn (ha pins s σ H _ I h) λv p d=>?_;obtain⟨x,H1,i,k,g⟩:=d;refine thn (n pins p σ H1 _ i g) λu c d=>?_;obtain⟨y,H2,o,l,m⟩:=d;exact hf v u c x y H2 o k l m
def zo{c:Operator}{r:R2}(d:OpR X (binaryOp c) r)(ha:PE X a ta)(g:PE X b tb):PE X (.BinOp a c b pos) (tOp r ta tb):=by
 intro pins s σ H Q I h;exact wpAny_BinOp (zpN ha g I h λv u f x y H2 i e j q=>d pins f σ H2 x y v u Q i e j q)
def zcI{b:UnaryOp}{r:V->Hp->VK->Prop}(c:UnR X (unaryOp b) r)(ha:PE X a ta):PE X (.UnaryOp b a pos) (tUn r ta):=by
 intro pins s σ H Q I h;exact UnaryOp_ (thn (ha pins s σ H _ I h) λv g ⟨x,H1,e,f,d⟩=>c pins g σ H1 x v Q e f d)
def opI{f:Value->Value->Sem Value}{C:Int->Int->Prop}{g:Int->Int->Int}
  (rule:∀(i j:Int) (t u:Tok) (s:Shared) (Q:Value->Shared->Prop) (E:Value->Shared->Prop),C i j->Q (.int (g i j) s.toks) { s with toks:=s.toks+1 }->wpAny "0g" X.A (f (.int i t) (.int j u)) Q E s) :
  OpR X f (rI C λi j=>.int (g i j)):=by
 intro pins s σ H x y v u Q I b c h;obtain⟨i,j,rfl,rfl,a,q⟩:=h;obtain⟨t,rfl⟩:=b;obtain⟨t',rfl⟩:=c;exact rule i j t t' s _ _ a ⟨.int (g i j),H,I.tok _,⟨_,rfl⟩,q⟩
def zt8{f:Value->Value->Sem Value}{g:Int->Int->Int}
  (rule:∀(i j:Int) (t u:Tok) (s:Shared) (Q:Value->Shared->Prop) (E:Value->Shared->Prop),Q (.int (g i j) s.toks) { s with toks:=s.toks+1 }->wpAny "0g" X.A (f (.int i t) (.int j u)) Q E s) :
  OpR X f (rI0 λi j=>.int (g i j)):=by
 intro pins s σ H x y v u Q I a b h;obtain⟨i,j,rfl,rfl,q⟩:=h;obtain⟨t,rfl⟩:=a;obtain⟨t',rfl⟩:=b;exact rule i j t t' s _ _ ⟨.int (g i j),H,I.tok _,⟨_,rfl⟩,q⟩
def zt1{f:Value->Value->Sem Value}{g:Int->Int->Bool}
  (rule:∀(i j:Int) (t u:Tok) (s:Shared) (Q:Value->Shared->Prop) (E:Value->Shared->Prop),Q (.bool (g i j)) s->wpAny "0g" X.A (f (.int i t) (.int j u)) Q E s) :
  OpR X f (rI0 λi j=>.bl (g i j)):=by
 intro pins s σ H x y v u Q I a b h;obtain⟨i,j,rfl,rfl,q⟩:=h;obtain⟨t,rfl⟩:=a;obtain⟨t',rfl⟩:=b;exact rule i j t t' s _ _ ⟨.bl (g i j),H,I,rfl,q⟩
noncomputable def zno (i j:Int):Prop:=0<=j/\j<=1000000/\i.natAbs<2 ^ 64
def op_add:OpR X (binaryOp .Add) (rI0 λi j=>.int (i+j)):=zt8 λ_ _ _ _ _ _ _ q=>add_int q
def zb4:OpR X (binaryOp .Sub) (rI0 λi j=>.int (i-j)):=zt8 λ_ _ _ _ _ _ _ q=>sub_int q
def zsW:OpR X (binaryOp .Mod) (rI (λ_ j=>j≠0) λi j=>.int (i.fmod j)):=opI λ_ _ _ _ _ _ _ a q=>mod_int' a q
def zez:OpR X (binaryOp .Pow) (rI zno λi j=>.int (i ^ j.toNat)):=opI λ_ _ _ _ _ _ _ a q=>pow_int_small a.1 a.2.1 a.2.2 q
def unI{f:Value->Sem Value}{g:Int->Int}
  (rule:∀(i:Int) (t:Tok) (s:Shared) (Q:Value->Shared->Prop) (E:Value->Shared->Prop),Q (.int (g i) s.toks) { s with toks:=s.toks+1 }->wpAny "0g" X.A (f (.int i t)) Q E s) :
  UnR X f (rU λi=>.int (g i)):=by
 intro pins s σ H x v Q I a h;obtain⟨i,rfl,q⟩:=h;obtain⟨t,rfl⟩:=a;exact rule i t s _ _ ⟨.int (g i),H,I.tok _,⟨_,rfl⟩,q⟩
def zb2:UnR X (unaryOp .USub) (rU λi=>.int (-i)):=unI λ_ _ _ _ _ q=>neg_int q
end
noncomputable def scal:V->V->Bool
 | .non,.non=>true | .non,.int _=>true | .int _,.non=>true | .non,.bl _=>true | .bl _,.non=>true | .non,.str _=>true | .str _,.non=>true
 | .int _,.int _=>true | .bl _,.bl _=>true | .str _,.str _=>true | .byt _,.byt _=>true
 | .int _,.str _=>true | .str _,.int _=>true | .bl _,.str _=>true | .str _,.bl _=>true
 | _,_=>false
noncomputable def rEq:R2:=λx y H Q=>scal x y=true/\Q (.bl (decide (x=y))) H
noncomputable def rNe:R2:=λx y H Q=>scal x y=true/\Q (.bl (!decide (x=y))) H
def zma{i j:Int}:decide (V.int i=V.int j)=(i == j):=by
 rw[ybw]
 simp
def zou{i j:Bool}:decide (V.bl i=V.bl j)=(i == j):=by
 rw[ybw]
 simp
def zmq{i j:Str}:decide (V.str i=V.str j)=(i == j):=by
 rw[ybw]
 simp
def zmv{i j:Array UInt8}:decide (V.byt i=V.byt j)=(i.toList == j.toList):=by
 rw[ybw];cases i;cases j
 simp
section
variable {X:Cx}{a b c:Expr}{ta tb tc:TE}{pos:Pos}
def zab{k k':Bool}(I:Inv X pins σ H s)(q:Q (.bl k) H)(e:k=k'):EP X pins σ Q (.bool k') s:=by
 subst e;exact⟨.bl k,H,I,rfl,q⟩
def zu9:OpR X (compareOp .Eq) rEq:=by
 intro pins s σ H x y v u Q I c a h;obtain⟨b,q⟩:=h;cases x with
 | non=>
  cases c;cases y with
  | non=>cases a;exact PySem.EqNone.eq_none_none (zab I q (by simp))
  | bl j=>cases a;exact PySem.EqNone.eq_none_bool (zab I q (by simp))
  | int j=>obtain⟨t',rfl⟩:=a;exact PySem.EqNone.eq_none_int (zab I q (by simp))
  | str j=>obtain⟨t',rfl⟩:=a;exact PySem.EqNone.eq_none_str (zab I q (by simp))
  | _=>exact absurd (show false=true from b) yu
 | bl i=>
  cases c;cases y with
  | non=>cases a;exact PySem.EqNone.eq_bool_none (zab I q (by simp))
  | bl j=>cases a;exact eq_bool (zab I q zou)
  | str j=>obtain⟨t',rfl⟩:=a;exact PySem.EqMixed.eq_bool_str (zab I q (by simp))
  | _=>exact absurd (show false=true from b) yu
 | int i=>
  obtain⟨t,rfl⟩:=c;cases y with
  | non=>cases a;exact PySem.EqNone.eq_int_none (zab I q (by simp))
  | int j=>obtain⟨t',rfl⟩:=a;exact eq_int (zab I q zma)
  | str j=>obtain⟨t',rfl⟩:=a;exact PySem.EqMixed.eq_int_str (zab I q (by simp))
  | _=>exact absurd (show false=true from b) yu
 | str i=>
  obtain⟨t,rfl⟩:=c;cases y with
  | non=>cases a;exact PySem.EqNone.eq_str_none (zab I q (by simp))
  | bl j=>cases a;exact PySem.EqMixed.eq_str_bool (zab I q (by simp))
  | int j=>obtain⟨t',rfl⟩:=a;exact PySem.EqMixed.eq_str_int (zab I q (by simp))
  | str j=>obtain⟨t',rfl⟩:=a;exact eq_str (zab I q zmq)
  | _=>exact absurd (show false=true from b) yu
 | byt i=>
  obtain⟨t,rfl⟩:=c;cases y with
  | byt j=>obtain⟨t',rfl⟩:=a;exact PySem.W.eq_bytes (zab I q zmv)
  | _=>exact absurd (show false=true from b) yu
 | _=>cases y<;>exact absurd (show false=true from b) yu
def zu3:OpR X (compareOp .NotEq) rNe:=by
 intro pins s σ H x y v u Q I c a h;obtain⟨b,q⟩:=h;cases x with
 | non=>
  cases c;cases y with
  | non=>cases a;exact PySem.EqNone.ne_none_none (zab I q (by simp))
  | bl j=>cases a;exact PySem.EqNone.ne_none_bool (zab I q (by simp))
  | int j=>obtain⟨t',rfl⟩:=a;exact PySem.EqNone.ne_none_int (zab I q (by simp))
  | str j=>obtain⟨t',rfl⟩:=a;exact PySem.EqNone.ne_none_str (zab I q (by simp))
  | _=>exact absurd (show false=true from b) yu
 | bl i=>
  cases c;cases y with
  | non=>cases a;exact PySem.EqNone.ne_bool_none (zab I q (by simp))
  | bl j=>cases a;exact ne_bool (zab I q (congrArg not zou))
  | str j=>obtain⟨t',rfl⟩:=a;exact PySem.EqMixed.ne_bool_str (zab I q (by simp))
  | _=>exact absurd (show false=true from b) yu
 | int i=>
  obtain⟨t,rfl⟩:=c;cases y with
  | non=>cases a;exact PySem.EqNone.ne_int_none (zab I q (by simp))
  | int j=>obtain⟨t',rfl⟩:=a;exact ne_int (zab I q (congrArg not zma))
  | str j=>obtain⟨t',rfl⟩:=a;exact PySem.EqMixed.ne_int_str (zab I q (by simp))
  | _=>exact absurd (show false=true from b) yu
 | str i=>
  obtain⟨t,rfl⟩:=c;cases y with
  | non=>cases a;exact PySem.EqNone.ne_str_none (zab I q (by simp))
  | bl j=>cases a;exact PySem.EqMixed.ne_str_bool (zab I q (by simp))
  | int j=>obtain⟨t',rfl⟩:=a;exact PySem.EqMixed.ne_str_int (zab I q (by simp))
  | str j=>obtain⟨t',rfl⟩:=a;exact ne_str (zab I q (congrArg not zmq))
  | _=>exact absurd (show false=true from b) yu
 | byt i=>
  obtain⟨t,rfl⟩:=c;cases y with
  | byt j=>obtain⟨t',rfl⟩:=a;exact PySem.W.ne_bytes (zab I q (congrArg not zmv))
  | _=>exact absurd (show false=true from b) yu
 | _=>cases y<;>exact absurd (show false=true from b) yu
def zcp:OpR X (compareOp .Lt) (rI0 λi j=>.bl (decide (i<j))):=zt1 λ_ _ _ _ _ _ _ q=>lt_int q
def zcQ:OpR X (compareOp .Gt) (rI0 λi j=>.bl (decide (j<i))):=zt1 λ_ _ _ _ _ _ _ q=>gt_int q
def zkR:OpR X (compareOp .Is) (λx y H Q=>y=.non/\Q (.bl (decide (x=.non))) H):=by
 intro pins s σ H x y v u Q I a b h;obtain⟨rfl,q⟩:=h;cases b;refine is_none_gen (zab I q ?_);cases x<;>first
  | (cases a;rfl)
  | (obtain⟨t,rfl⟩:=a;rfl)
def zc0:OpR X (compareOp .IsNot) (λx y H Q=>y=.non/\Q (.bl (!decide (x=.non))) H):=by
 intro pins s σ H x y v u Q I a b h;obtain⟨rfl,q⟩:=h;cases b;refine isnot_none_gen (zab I q ?_);cases x<;>first
  | (cases a;rfl)
  | (obtain⟨t,rfl⟩:=a;rfl)
def OpR.or{f:Value->Value->Sem Value}{r c:R2}(h:OpR X f r)(h':OpR X f c):OpR X f (λx y H Q=>r x y H Q\/c x y H Q):=by
 intro pins s σ H x y v u Q I a b q;rcases q with q | q
 ·exact h pins s σ H x y v u Q I a b q
 ·exact h' pins s σ H x y v u Q I a b q
def nomark(b:Expr){a:CmpOp}(h:autoParam (a≠.In) Internal.aut1._auto_1)(h2:autoParam (a≠.NotIn) Internal.aut1._auto_1):behindInMarks a b=false:=by
 have d:(a == CmpOp.In)=false:=by cases a<;>first | rfl | exact absurd rfl h
 have c:(a == CmpOp.NotIn)=false:=by cases a<;>first | rfl | exact absurd rfl h2
 cases b<;>simp[behindInMarks,d,c]
def zc3{c:CmpOp}{r:R2}(d:OpR X (compareOp c) r)(ha:PE X a ta)(i:PE X b tb)(g:behindInMarks c b=false):PE X (.Compare a [c] [b] pos) (tOp r ta tb):=by
 intro pins s σ H Q I h;exact wpAny_Compare1 (zpN ha i I h λv u f x y H2 j e k q=>d pins f σ H2 x y v u Q j e k q) g
abbrev zu8(t:TE):TT:=λσ H Q=>t σ H λx H'=>∃k,x=.bl k/\Q k H'
def zD{d:CmpOp}{r:R2}(l:OpR X (compareOp d) r)(ha:PE X a ta)(B:PE X b tb)(w:behindInMarks d b=false):PT X (.Compare a [d] [b] pos) (zu8 (tOp r ta tb)):=by
 intro pins s σ H Q I h;refine wpAny_isTrue_Compare1 (thn (ha pins s σ H _ I h) λv C ⟨x,H1,j,m,g⟩=>thn (B pins C σ H1 _ j g) λu t ⟨y,H2,A,o,q⟩=>
  thn (l pins t σ H2 x y v u _ A m o q) λc D ⟨z,p,i,n,k,e,f⟩=>?_) w
 subst e;cases n;exact wpAny_truthy_bool ⟨p,i,f⟩
noncomputable def ziW (K:Fg) (x:V) (H:Hp) (k:Bool):Prop:=
 match x with
 | .non=>k=false
 | .bl b=>k=b
 | .int i=>k=(i != 0)
 | .str y=>y.length<=sizeLine/\k=((y.length:Int) != 0)
 | .byt y=>y.size<=sizeLine/\k=((y.size:Int) != 0)
 | .ref p=>(∃xs,SqL K H p xs/\k=!xs.isEmpty)\/(∃xs,SqT K H p xs/\k=!xs.isEmpty)\/∃kvs,H p=some (.dK kvs)/\k=!kvs.isEmpty
 | _=>False
def zne{κ:Type}{a:List (κ × V)}{vs:List (κ × Value)}(r:KV a vs):(!vs.isEmpty)=!a.isEmpty:=by
 cases r<;>rfl
def zhT(r:Vals xs its):(!its.toArray.isEmpty)=!xs.isEmpty:=by
 cases r<;>simp
def line63:(sizeLine:Nat)<2 ^ 63:=by rw[sizeLine_eq];decide
def zpl:zvu X (λx H Q=>∃k,ziW X.K x H k/\Q k H):=by
 intro pins s σ H x v Q I d h;obtain⟨k,e,q⟩:=h;have hl:=line63;have l:sizeLine=16777216:=sizeLine_eq;cases x with
 | non=>
  cases d;have a:k=false:=e;subst a;exact truthy_none ⟨H,I,q⟩
 | bl b=>
  cases d;have a:k=b:=e;subst a;exact wpAny_truthy_bool ⟨H,I,q⟩
 | int i=>
  obtain⟨t,rfl⟩:=d;have a:k=(i != 0):=e;subst a;exact PySem.P.truthy_int ⟨H,I,q⟩
 | str y=>
  obtain⟨t,rfl⟩:=d;obtain⟨j,a⟩:y.length<=sizeLine/\k=((y.length:Int) != 0):=e;subst a;exact PySem.P.truthy_str ⋯ ⟨H,I.tok _,q⟩
 | byt y=>
  obtain⟨t,rfl⟩:=d;obtain⟨j,a⟩:y.size<=sizeLine/\k=((y.size:Int) != 0):=e;subst a;exact PySem.W.truthy_bytes ⋯ ⟨H,I.tok _,q⟩
 | ref p=>
  cases d;have a:(∃xs,SqL X.K H p xs/\k=!xs.isEmpty)\/(∃xs,SqT X.K H p xs/\k=!xs.isEmpty)\/∃kvs,H p=some (.dK kvs)/\k=!kvs.isEmpty:=e;rcases a with⟨xs,hx,a⟩ | ⟨xs,hx,a⟩ | ⟨kvs,hx,a⟩
  ·subst a;obtain⟨its,r,pl,f⟩:=I.list hx;have c:=r.length;exact wpAny_truthy_list pl.isList (by simp only[yp];lia) ⟨H,I.tok _,by rw[zhT r];exact q⟩
  ·subst a;obtain⟨its,r,pl,f⟩:=I.tuple hx;have c:=r.length;exact truthy_tuple pl (by simp only[yp];lia) ⟨H,I.tok _,by rw[zhT r];exact q⟩
  ·subst a;obtain⟨f,g,vs,r,m⟩:kvs.length<=sizeLine/\(p == sysModules)=false/\∃vs,KV kvs vs/\s.heap.DictOf (zig X.prog X.w) p vs:=I.hok p _ hx;have c:kvs.length=vs.length:=Paired.length r;exact wpAny_truthy_dict g m ⋯ ⟨H,I.tok _,by rw[zne r];exact q⟩
 | _=>exact(show False from e).elim
def zp0(ha:PE X a ta)(e:∀whole,isTrue a X.env whole=(do let v <- whole;standAt a.pos;holding [v] (truthy v))) :
  PT X a (λσ H Q=>ta σ H λx H'=>∃k,ziW X.K x H' k/\Q k H'):=by
 intro pins s σ H Q I h;exact isTrue_plain (thn (ha pins s σ H _ I h) λv f ⟨x,H1,c,d,b⟩=>zpl pins f σ H1 x v Q c d b) (e _)
def vals1{x:V}(r:Vals [x] us):∃u,us=[u]/\RelV x u:=by
 cases r with
 | cons r1 r2=>cases r2;exact⟨_,rfl,r1⟩
def vals2{x:V}(r:Vals [x,y] us):∃u w',us=[u,w']/\RelV x u/\RelV y w':=by
 cases r with
 | cons r1 r2=>
  cases r2 with
  | cons r3 r4=>cases r4;exact⟨_,_,rfl,r1,r3⟩
def zqg:CallR X (.builtin "abs") (λxs H Q=>∃i,xs=[.int i]/\Q (.int (if i<0 then -i else i)) H):=by
 intro pins s σ H xs us Q I r h;obtain⟨i,rfl,q⟩:=h;obtain⟨u,rfl,t,rfl⟩:=vals1 r;exact call_abs_int λu tk=>⟨.int (if i<0 then -i else i),H,I.tok _,⟨_,rfl⟩,q⟩
def zpr(b:X.calm=true):CallR X (.builtin "max") (λxs H Q=>∃i j,xs=[.int i,.int j]/\Q (.int (if j>i then j else i)) H):=by
 intro pins s σ H xs us Q I r h;obtain⟨i,j,rfl,q⟩:=h;obtain⟨u,c,rfl,⟨t,rfl⟩,⟨t',rfl⟩⟩:=vals2 r;refine max_two_ints (I.ok.hd b) λh' tk k=>⟨_,H,I.kept k,?_,q⟩
 by_cases a:j>i
 ·rw[if_pos a,if_pos a];exact⟨_,rfl⟩
 ·rw[if_neg a,if_neg a];exact⟨_,rfl⟩
def znX(b:X.calm=true):CallR X (.builtin "min") (λxs H Q=>∃i j,xs=[.int i,.int j]/\Q (.int (if j<i then j else i)) H):=by
 intro pins s σ H xs us Q I r h;obtain⟨i,j,rfl,q⟩:=h;obtain⟨u,c,rfl,⟨t,rfl⟩,⟨t',rfl⟩⟩:=vals2 r;refine min_two_ints (I.ok.hd b) λh' tk k=>⟨_,H,I.kept k,?_,q⟩
 by_cases a:j<i
 ·rw[if_pos a,if_pos a];exact⟨_,rfl⟩
 ·rw[if_neg a,if_neg a];exact⟨_,rfl⟩
end
structure ObjM(h:Heap)(x dx C:Addr)(mA:Str->Option Value):Prop where
 obj:h.get? x=some (PySem.W.instObj C dx)
 ns:h.Ns1 dx mA
 ne:dx≠x
def zob{dx:Addr}{mA:Str->Option Value}(n:h.Ns1 dx mA):∃od,h.get? dx=some od/\∀name,PySem.W.lookIn name od=some (mA name):=by
 obtain⟨o,es,j,c,hd,d,_,g⟩:=n;refine⟨o,c,λname=>?_⟩;have e:=g name;unfold nsFind findBy at e;rw[<- Array.find?_toList]at e;unfold PySem.W.lookIn;rw[hd];dsimp only;split
 ·rename_i y q;rw[q]at e;exact congrArg some e
 ·rename_i q;rw[q]at e;have a:es.toList.any (·.refKey)=false:=by
   rw[List.any_eq_false];intro y f;obtain⟨z,t,b⟩:=d y (Array.mem_toList_iff.mp f);simp[DictEntry.refKey,b]
  have i:¬es.toList.any (·.refKey)=true:=by rw[a];exact yu
  rw[if_neg i];exact congrArg some e
def ObjM.look{x dx:Addr}{mA:Str->Option Value}(I:ObjM h x dx C mA):∃od,PySem.W.InstAt h x (PySem.W.instObj C dx) C (some od)/\∀name,PySem.W.lookIn name od=some (mA name):=
 let ⟨od,ho,hl⟩:=zob I.ns
 ⟨od,⟨I.obj,rfl,rfl,ho⟩,hl⟩
section
variable {prog:Program}{w:World}{A:Around}{E:Value->Shared->Prop}{s:Shared}{K:Fg}{x dx C f:Addr}{mA:Str->Option Value}{name:Str}{v:Value}
end
noncomputable def zlE (f:Str) (v:V):List (Str × V)->List (Str × V)
 | []=>[(f,v)]
 | (g,x) :: r=>if g=f then(g,v) :: r else(g,x) :: zlE f v r
section
variable {P:Program}{w:World}{H H':Hp}{h h':Heap}{a C dx:Addr}{fs fs':List (Str × V)}
def zsq(hok:HOk P w H h)(e:H a=some (.ins C dx fs)):∃mA,ObjM h a dx C mA/\(∀f,zpO (fs.lookup f) (mA f))/\PySem.Within mA (fs.map (·.1))/\fs.length<=1000/\H dx=some (.own a):=by
 obtain⟨d,z,ne,b,mA,n,r,q⟩:=(show ObjOk P w H h a (.ins C dx fs)from hok a _ e)
 exact⟨mA,⟨b,n,ne⟩,r,q,z,d⟩
end
structure Cls(K:Fg)(C:Addr):Prop where
 pg:PySem.W.plainGet K C Str.empty=true
 hd:PySem.W.hasDictIn K C=true
 po:PySem.W.plainOver K C=true
 sa:PySem.W.findIn K (.ref C) "__setattr__" = some (some (.builtin "object.__setattr__"))
def Cls.get(c:Cls K C)(f:Str):PySem.W.plainGet K C f=true:=c.pg
structure Con(K:Fg)(C:Addr)(f:Str)(v:V)(u:Value):Prop where
 at_:PySem.W.findIn K (.ref C) f=some (some u)
 rel:RelV v u
 get:PySem.W.specialIn K u "__get__" = some none
 cp:PySem.W.copiedNames.contains f=false
structure Meth(K:Fg)(C:Addr)(m:Str)(f:Addr):Prop where
 at_:PySem.W.findIn K (.ref C) m=some (some (.ref f))
 fn:PySem.W.isFn K (.ref f)=true
 kp:PySem.W.keepIn K (.ref f)=true
section
variable {X:Cx}{pins:List (Addr × Obj)}{σ:St}{H:Hp}{s:Shared}{a C dx:Addr}{fs:List (Str × V)}{f:Str}{v:V}{A:Around}{E:Value->Shared->Prop}
end
section
variable {X:Cx}{o e value:Expr}{f:Str}{pos pos' tpos:Pos}{ta tv:TE}
end
section
variable {X:Cx}{pins:List (Addr × Obj)}{σ:St}{H:Hp}{s:Shared}{A:Around}{E:Value->Shared->Prop}{Q:Value->Shared->Prop}{c:Value}{b:Bool}
inductive TyOf(K:Fg)(H:Hp):V->Value->Prop where
 | non:TyOf K H .non (.type "NoneType")
 | bl (x:Bool):TyOf K H (.bl x) (.type "bool")
 | int (i:Int):TyOf K H (.int i) (.type "int")
 | str (x:Str):TyOf K H (.str x) (.type "str")
 | flt (x:UInt64):TyOf K H (.flt x) (.type "float")
 | lst {a:Addr} {xs:List V} (e:H a=some (.lst xs)):TyOf K H (.ref a) (.type "list")
 | frz {a:Addr} {o:Obj} {xs:List V} (e:H a=some (.frz o (.lst xs))):TyOf K H (.ref a) (.type "list")
 | tup {a:Addr} {xs:List V} (e:H a=some (.tup xs)):TyOf K H (.ref a) (.type "tuple")
 | dK {a:Addr} {kvs:List (Key × V)} (e:H a=some (.dK kvs)):TyOf K H (.ref a) (.type "dict")
 | dT {a:Addr} {kvs:List (List Key × V)} (e:H a=some (.dT kvs)):TyOf K H (.ref a) (.type "dict")
 | ins {a C dx:Addr} {fs:List (Str × V)} (e:H a=some (.ins C dx fs)) (cl:Cls K C) (ha:PySem.W.findIn K (.ref C) "__class__" = some (some (.builtin "object.__class__")))
   (hn:PySem.W.specialIn K (.builtin "object.__class__") "__get__" = some (some (.builtin "getset_descriptor.__get__"))) (htk:PySem.W.takesIn K (.builtin "object.__class__")=some true)
   (hm:PySem.W.mroIn K C (.type "object")=some true):TyOf K H (.ref a) (.ref C)
def zo4{x:V}{t:Value}(I:Inv X pins σ H s)(d:RelV x u)(ty:TyOf X.K H x t)(e:PySem.W.kitOne X.K t c=some b)(h:∀tk,Q (.bool b) { s with toks:=tk }) :
  wpAny "0g" A (call (.builtin "isinstance") [u,c]) Q E s:=by
 cases ty with
 | non=>cases(show u=Value.none from d);exact yam PySem.W.kitx_none I.kIn True.intro e (λz=>nomatch z) h
 | bl y=>cases(show u=Value.bool y from d);exact yam PySem.W.kitx_bool I.kIn True.intro e (λz=>nomatch z) h
 | int i=>obtain⟨t,q⟩:=(show ∃t,u=Value.int i t from d);cases q;exact yam PySem.W.kitx_int I.kIn True.intro e (λz=>nomatch z) h
 | str y=>obtain⟨t,q⟩:=(show ∃t,u=Value.str y t from d);cases q;exact yam PySem.W.kitx_str I.kIn True.intro e (λz=>nomatch z) h
 | flt y=>obtain⟨t,q⟩:=(show ∃t,u=Value.float y t from d);cases q;exact yam PySem.W.kitx_float I.kIn True.intro e (λz=>nomatch z) h
 | @lst a xs ea=>
  cases(show u=Value.ref a from d)
  obtain⟨_,_,n,_,h1⟩:=(show ObjOk X.prog X.w H s.heap a (.lst xs)from I.hok a _ ea)
  exact yam PySem.W.kitx_list I.kIn ⟨_,h1,rfl⟩ e (λz=>nomatch z) h
 | @frz a ob xs ea=>
  cases(show u=Value.ref a from d)
  obtain⟨_,_,_,n,_,h1⟩:=(show ObjOk X.prog X.w H s.heap a (.frz ob (.lst xs))from I.hok a _ ea)
  exact yam PySem.W.kitx_list I.kIn ⟨_,h1,rfl⟩ e (λz=>nomatch z) h
 | @tup a xs ea=>
  cases(show u=Value.ref a from d)
  obtain⟨_,_,_,p⟩:=(show ObjOk X.prog X.w H s.heap a (.tup xs)from I.hok a _ ea)
  obtain⟨o,h1,h2,_⟩:=p;exact yam PySem.W.kitx_tuple I.kIn ⟨o,h1,h2⟩ e (λz=>nomatch z) h
 | @dK a kvs ea=>
  cases(show u=Value.ref a from d)
  obtain⟨_,_,vs,_,p⟩:=(show ObjOk X.prog X.w H s.heap a (.dK kvs)from I.hok a _ ea)
  obtain⟨o,es,f,h1,h2,_⟩:=p;exact yam PySem.W.kitx_dict I.kIn ⟨o,h1,h2.1⟩ e (λz=>nomatch z) h
 | @dT a kvs ea=>
  cases(show u=Value.ref a from d)
  obtain⟨_,_,xs,_,o,es,f,h1,h2,_⟩:=(show ObjOk X.prog X.w H s.heap a (.dT kvs)from I.hok a _ ea)
  exact yam PySem.W.kitx_dict I.kIn ⟨o,h1,h2.1⟩ e (λz=>nomatch z) h
 | @ins a C dx fs ea cl ha hn htk hm=>
  cases(show u=Value.ref a from d)
  obtain⟨mA,O,_⟩:=zsq I.hok ea;obtain⟨g,J,_⟩:=O.look;exact yam (PySem.W.kitx_own (cl.get _) cl.hd ha hn htk hm) I.kIn J e (λz=>nomatch z) h
end
structure Room(k:Nat)(A:Around):Prop where
 hd:A.handled=none
 dp:A.depth+3*k+5<recursionLimit
 un:A.units+16*k+200<cLine
def Room.mono(r:Room k A)(h:j<=k):Room j A:=⟨r.hd,by have:=r.dp;lia,by have:=r.un;lia⟩
theorem Room.deeper{k:Nat}{A:Around}(r:Room (k+1) A)(env:Env):Room k (A.deeper env):=
 ⟨r.hd,by have:=r.dp;show A.depth+1+3*k+5<_;lia,by have:=r.un;show A.units+3+16*k+200<_;lia⟩
theorem Room.depth{k:Nat}{A:Around}(r:Room k A):A.depth<recursionLimit:=by have:=r.dp;lia
theorem Room.units{k:Nat}{A:Around}(r:Room k A):A.units+64<cLine:=by have:=r.un;lia
abbrev ziq:TA:=λ_ H Q=>Q [] H
abbrev zj5(ta:TE)(tr:TA):TA:=λσ H Q=>ta σ H λx H1=>tr σ H1 λxs H2=>Q (x :: xs) H2
section
variable {X:Cx}{e:Expr}{es:List Expr}{te:TE}{t:TA}{pos:Pos}
def zh:PA X [] ziq:=λ_ _ _ _ H Q I h=>Calls.spliced_nil ⟨[],H,I,.nil,h⟩
def za(ha:PE X e te)(d:PA X es t)(k:autoParam "0i" Internal.aut2._auto_1):PA X (e :: es) (zj5 te t):=by
 intro pos pins s σ H Q I h;rw[k];show wpAny _ _ (spliced ((false,eval e X.env) :: backTo pos (starEach es X.env))) _ _ s;refine Calls.spliced_cons (thn (ha pins s σ H _ I h) λu l i=>?_);obtain⟨x,H1,b,c,a⟩:=i;exact thn (d pos pins l σ H1 _ b a) λus m ⟨xs,H2,j,f,g⟩=>⟨x :: xs,H2,j,.cons c f,g⟩
noncomputable def ztF (t:TA):TE:=λσ H Q=>t σ H λxs H1=>xs.length<=sizeLine/\∀p,H1 p=none->Q (.ref p) (upd H1 p (.tup xs))
noncomputable def zuE (t:TA):TE:=λσ H Q=>t σ H λxs H1=>xs.length<=sizeLine/\∀p,H1 p=none->Q (.ref p) (upd H1 p (.lst xs))
def zN{x1}(h:PA X es t):PE X (.Tuple es x1 pos) (ztF t):=by
 intro pins s σ H Q I d;refine wpAny_Tuple_spliced (thn (h pos pins s σ H _ I d) λus a ⟨xs,H1,c,r,z,q⟩=>⟨by rw[<- r.length];exact z,?_⟩);have f:H1 a.heap.objs.size=none:=c.hok.fresh (yc _);refine⟨.ref a.heap.objs.size,upd H1 a.heap.objs.size (.tup xs),c.laid (t':=a.toks) (λb u e=>Heap.get?_push_of_some _ e) (yc _) ?_,rfl,q _ f⟩;exact⟨z,us,r,⟨_,Heap.get?_push_size _ rfl,rfl,_,rfl⟩⟩
def zam(h:PA X es t):PE X (.List es pos) (zuE t):=by
 intro pins s σ H Q I d;refine wpAny_List_spliced (thn (h pos pins s σ H _ I d) λus a ⟨xs,H1,c,r,z,q⟩=>⟨by rw[<- r.length];exact z,?_⟩);have f:H1 a.heap.objs.size=none:=c.hok.fresh (yc _);refine⟨.ref a.heap.objs.size,upd H1 a.heap.objs.size (.lst xs),c.laid (t':=a.toks) (λb u e=>Heap.get?_push_of_some _ e) (yc _) ?_,rfl,q _ f⟩;exact⟨z,us,0,r,Heap.get?_push_size _ rfl⟩
end
abbrev Sp:=List V->Hp->VK->XK->Prop
abbrev CXT:=List Env->Hp->Shared->XK->Value->Shared->Prop
structure Env0(P:Program)(w:World)(K:Fg)(mg:Str->Option Value)(base:Heap)(A:Around)(outer:List Env)(s:Shared)(H:Hp):Prop where
 frames:A.frames=some outer
 mod:Mod K mg base
 bs:∀b o,base.get? b=some o->s.heap.get? b=some o/\H b=none
 bsz:base.objs.size<=s.heap.objs.size
 funs:s.heap.FunFrames base outer
 frf:∀b∈frs outer,H b=none
 hok:HOk P w H s.heap
 bare:AllBare s.gens
noncomputable def CE (outer:List Env) (P:Program) (w:World) (H:Hp) (s:Shared) (Q:VK) (u:Value) (s':Shared):Prop:=
 ∃v H',s'.os=s.os/\AllBare s'.gens/\Un (frs outer) [] H H' s.heap s'.heap/\HOk P w H' s'.heap/\RelV v u/\Q v H'
noncomputable def CR (CX:CXT) (outer:List Env) (P:Program) (w:World) (H:Hp) (s:Shared) (Q:VK) (E:XK) (r:Result) (s':Shared):Prop:=
 match r with
 | .ok (.ret u)=>CE outer P w H s Q u s'
 | .ok _=>False
 | .error e=>CX outer H s E e s'
structure FnOk(P:Program)(w:World)(K:Fg)(mg:Str->Option Value)(base:Heap)(CX:CXT)(k:Nat)(f:Addr)(fd:FuncData)(ps:List Str)(sp:Sp):Prop where
 len:∀vs H Q E,sp vs H Q E->vs.length=ps.length
 run:∀(A:Around) (outer:List Env) (s:Shared) (H:Hp) (args:Args) (us:List Value) (vs:List V) (Q:VK) (E:XK),Room k A->Env0 P w K mg base A outer s H->BindsTo s fd args (ps.zip us)->Vals vs us->sp vs H Q E ->
  codeAny (model P w) A (.call (.ref f) args) (CR CX outer P w H s Q E) s
theorem Env0.in1{P:Program}{w:World}{K:Fg}{mg:Str->Option Value}{base:Heap}{A:Around}{outer:List Env}{s:Shared}{H:Hp}(e:Env0 P w K mg base A outer s H) :
  Env0 P w K mg base A.in1 outer s H:=⟨e.frames,e.mod,e.bs,e.bsz,e.funs,e.frf,e.hok,e.bare⟩
section
variable {X:Cx}{pins:List (Addr × Obj)}{σ:St}{H:Hp}{s s':Shared}
def Inv.env0(I:Inv X pins σ H s):Env0 X.prog X.w X.K X.mg X.base X.A X.stack s H:=
 ⟨I.ok.frames,I.ok.mod,I.bs,yi I.ok.bsz I.sz,I.stack,I.stkFree,I.hok,I.bare⟩
def Inv.after(I:Inv X pins σ H s)(h:CE X.stack X.prog X.w H s Q u s'):EP X pins σ Q u s':=by
 obtain⟨v,H',os,bare,un,hok,r,q⟩:=h;obtain⟨c,g,d,t,a⟩:=s';obtain rfl:a=s.os:=os;exact⟨v,H',I.call (h':=c) (g':=g) (d':=d) (t':=t) (ch:=[]) un hok bare (λb z=>absurd z (by simp)),r,q⟩
end
noncomputable def zkb (sp:Sp) (dvs:List V) (E:XK) (t:TA):TE:=λσ H Q=>t σ H λvs H1=>sp (vs++dvs) H1 Q E
noncomputable def Binds (K:Fg) (fd:FuncData) (ps:List Str) (ds:List Value):Prop:=
 ∀(s:Shared) (us:List Value),K.In s.heap->(us++ds).length=ps.length->BindsTo s fd ⟨us,[]⟩ (ps.zip (us++ds))
def Binds.all(h:∀us:List Value,us.length=ps.length->bindArgs fd ⟨us,[]⟩=pure (ps.zip us)):Binds K fd ps []:=λs us _ hl=>by
 rw[y3]at hl ⊢;exact .of_eq (h us hl)
noncomputable def zk9 (CX:CXT) (X:Cx) (E:XK):Prop:=∀(pins:List "0l") (σ:St) (H:Hp) (s:Shared) (e:Value) (s':Shared),Inv X pins σ H s->CX X.stack H s E e s'->X.xe e s'
section
variable {X:Cx}{CX:CXT}{k:Nat}{f C:Addr}{fd:FuncData}{ps:List Str}{sp:Sp}{dvs:List V}{ds:List Value}{E:XK}{x m:Str}{p pos apos:Pos}{e o:Expr}{es:List Expr}{ta:TE}{t:TA}
def zug{pins:List "0l"}{σ:St}{H:Hp}{s:Shared}{Q:VK}{us:List Value}{vs:List V}(F:FnOk X.prog X.w X.K X.mg X.base CX k f fd ps sp)(c:Room k X.A)(g:Binds X.K fd ps ds)(hd:Vals dvs ds)(d:zk9 CX X E)
  (I:Inv X pins σ H s) (r:Vals vs us) (h:sp (vs++dvs) H Q E):wpAny "0g" X.A (call (.ref f) us) (EP X pins σ Q) X.xe s:=by
 have b:Vals (vs++dvs) (us++ds):=r.append hd;have hl:(us++ds).length=ps.length:=by rw[<- b.length];exact F.len _ _ _ _ h
 refine wpAny_call (codeAny_mono (F.run X.A X.stack s H ⟨us,[]⟩ (us++ds) (vs++dvs) Q E c I.env0 (g s us I.kIn hl) b h) λr s' a=>?_);cases r with
 | error e=>exact d pins σ H s e s' I a
 | ok fl=>
  cases fl with
  | ret u=>exact I.after a
  | next=>exact False.elim a
  | brk=>exact False.elim a
  | cont=>exact False.elim a
def zr8(F:FnOk X.prog X.w X.K X.mg X.base CX k f fd ps sp)(g:Room k X.A)(c:Gl X x)(i:X.mg x=some (.ref f))(d:PySem.W.keepIn X.K (.ref f)=true)(j:Binds X.K fd ps ds)(hd:Vals dvs ds)(b:zk9 CX X E)
  (ha:PA X (e :: es) t) (hdb:autoParam ((x == ("__debug__" : Str))=false) Internal.aut1._auto_1) (he:autoParam "0i" Internal.aut2._auto_1) (hpl:autoParam ((backTo pos (starEach es X.env)).any (·.1)=false) Internal.aut2._auto_1) :
  PE X (.Call (.Name x p) (e :: es) [] pos) (zkb sp dvs E t):=by
 intro pins s σ H Q I h;refine wpAny_Call_Name_kw (zsk I c i ?_ hdb);refine PySem.W.callWith_K (h₀:=X.base) I.ok.mod.kin d (thn (ha pos pins s σ H _ I h) λus l ⟨vs,H1,a,r,q⟩=>⟨a.kIn,?_⟩) he hpl;exact zug F g j hd b a r q
structure Mk(K:Fg)(C f:Addr):Prop where
 makes:PySem.W.makesIn K C=true
 init:PySem.W.findIn K (.ref C) "__init__" = some (some (.ref f))
 fn:PySem.W.isFn K (.ref f)=true
 kp:PySem.W.keepIn K (.ref C)=true
end
noncomputable def PK (X:Cx) (kws:List Keyword) (t:TA):Prop:=
 ∀(pos:Pos) (pins:List "0l") (s:Shared) (σ:St) (H:Hp) (Q:List V->Hp->Prop),Inv X pins σ H s->t σ H Q->wpAny "0g" X.A (evalAll ((backToKw pos (keywordEach kws X.env)).map (·.2))) (AP X pins σ Q) X.xe s
section
variable {X:Cx}{CX:CXT}{k:Nat}{f C:Addr}{fd:FuncData}{ps ks:List Str}{sp:Sp}{E:XK}{x m:Str}{p pos apos kpos:Pos}{e o:Expr}{es:List Expr}{kws:List Keyword}{te ta:TE}{t tk:TA}{nm:Option Str}
def zpD:PK X [] ziq:=λ_ _ _ _ H Q I h=>wpAny_evalAll_nil ⟨[],H,I,.nil,h⟩
def zl6(ha:PE X e te)(g:PK X kws t):PK X (⟨nm,e,kpos⟩ :: kws) (zj5 te t):=by
 intro pos pins s σ H Q I h;show wpAny _ _ (evalAll ((do let v <- eval e X.env;standAt pos;pure v) :: (backToKw pos (keywordEach kws X.env)).map (·.2))) _ _ s;refine wpAny_evalAll_cons (wpAny_bind (thn (ha pins s σ H _ I h) λu j ⟨x,H1,b,c,a⟩=>wpAny_bind (wpAny_standAt (wpAny_pure ?_))));exact thn (g pos pins j σ H1 _ b a) λus k ⟨xs,H2,i,d,f⟩=>⟨x :: xs,H2,i,.cons c d,f⟩
structure KBinds(K:Fg)(fd:FuncData)(ps ks:List Str)(g:List Value->List Value->List Value)(gV:List V->List V->List V):Prop where
 to:∀(s:Shared) (us ws:List Value),K.In s.heap->(g us ws).length=ps.length->BindsTo s fd ⟨us,ks.zip ws⟩ (ps.zip (g us ws))
 rel:∀{vs:List V} {us:List Value} {zs:List V} {ws:List Value},Vals vs us->Vals zs ws->Vals (gV vs zs) (g us ws)
variable {g:List Value->List Value->List Value}{gV:List V->List V->List V}
end
structure FnScope(N P:List Str)(sc:Scope):Prop where
 kind:sc.kind=.function
 co:sc.isCoroutine=false
 gen:sc.isGenerator=false
 nd:N.Nodup
 pre:N.take P.length=P
 par:∀x∈P,sc.names.lookup x=some .local\/sc.names.lookup x=some .cell
 nofree:∀y∈sc.names,y.2≠.free
theorem zjD{kindOf:Str->Option NameKind}{x:Str}:∀{binds:List (Str × Value)} {m:Str->Option Value},(∀v,(x,v)∉binds)->bindL kindOf binds m x=m x
 | [],_,_=>rfl
 | (n,v) :: r,m,h=>by
  unfold bindL;rw[zjD λw a=>h w (yR _ a)];split
  ·have:x≠n:=by rintro rfl;exact h v yZ
   simp[this]
  ·rfl
theorem zjF{kindOf:Str->Option NameKind}{x:Str}:∀{binds:List (Str × Value)} {m:Str->Option Value},(∀v,(x,v)∉binds)->bindC kindOf binds m x=m x
 | [],_,_=>rfl
 | (n,v) :: r,m,h=>by
  unfold bindC;rw[zjF λw a=>h w (yR _ a)];split
  ·rfl
  ·have:x≠n:=by rintro rfl;exact h v yZ
   simp[this]
theorem zjj{kindOf:Str->Option NameKind}{x:Str}{v:Value}:∀{P:List Str} {vs:List Value} {i:Nat} {m:Str->Option Value},P.Nodup->P[i]?=some x->vs[i]?=some v->kindOf x=some .local ->
  bindL kindOf (P.zip vs) m x=some v
 | [],_,_,_,_,h,_,_=>by simp at h
 | _ :: _,[],_,_,_,_,h,_=>by simp at h
 | p :: P,w :: vs,0,m,nd,h1,h2,hk=>by
  simp at h1 h2;subst h1;subst h2;show bindL kindOf ((p,w) :: P.zip vs) m p=_;unfold bindL;rw[zjD λv a=>(yaJ.mp nd).1 (yb1 a).1,if_pos hk]
  simp
 | p :: P,w :: vs,i+1,m,nd,h1,h2,hk=>by
  show bindL kindOf ((p,w) :: P.zip vs) m x=_;unfold bindL;exact zjj (i:=i) (yaJ.mp nd).2 (by simpa using h1) (by simpa using h2) hk
theorem zjG{kindOf:Str->Option NameKind}{x:Str}{v:Value}:∀{P:List Str} {vs:List Value} {i:Nat} {m:Str->Option Value},P.Nodup->P[i]?=some x->vs[i]?=some v->kindOf x≠some .local ->
  bindC kindOf (P.zip vs) m x=some v
 | [],_,_,_,_,h,_,_=>by simp at h
 | _ :: _,[],_,_,_,_,h,_=>by simp at h
 | p :: P,w :: vs,0,m,nd,h1,h2,hk=>by
  simp at h1 h2;subst h1;subst h2;show bindC kindOf ((p,w) :: P.zip vs) m p=_;unfold bindC;rw[zjF λv a=>(yaJ.mp nd).1 (yb1 a).1,if_neg hk]
  simp
 | p :: P,w :: vs,i+1,m,nd,h1,h2,hk=>by
  show bindC kindOf ((p,w) :: P.zip vs) m x=_;unfold bindC;exact zjG (i:=i) (yaJ.mp nd).2 (by simpa using h1) (by simpa using h2) hk
noncomputable def start (N:List Str) (vs:List V):St:=vs.map some++List.replicate (N.length-vs.length) none
noncomputable def zg1 (CX:CXT) (P:Program) (w:World) (K:Fg) (mg:Str->Option Value) (base:Heap) (N:List Str) (qual:Str) (scope:Scope) (f:Addr) (b:Value) (A:Around) (outer:List Env) (s:Shared) (H:Hp) (E:XK):Cx where
 prog:=P
 w:=w
 K:=K
 mg:=mg
 base:=base
 A:=A.deeper (envOfC qual scope s.heap.objs.size f b)
 N:=N
 s₀:=s
 H₀:=H
 env:=envOfC qual scope s.heap.objs.size f b
 outer:=outer
 stack:=envOfC qual scope s.heap.objs.size f b :: outer
 ex:=[]
 calm:=true
 fn:=λ_=>true
 pn:=[]
 xe:=λe s'=>wpAny (model P w) (A.deeper (envOfC qual scope s.heap.objs.size f b)) (leaving (envOfC qual scope s.heap.objs.size f b) e) (λ_ a=>CX outer H s E e a) (λc a=>CX outer H s E c a) s'
def zeV{a:Scope}(h:a.names.lookup x=some .cell):∃c,(cellsFrom n a.names []).lookup x=some c:=by
 have q:=PySem.W.cellsFrom_some a.names n [] (.inl h);exact ybj.mp q
def zpk{CX:CXT}{P:Program}{w:World}{K:Fg}{mg:Str->Option Value}{base:Heap}{N ps:List Str}{qual:Str}{scope:Scope}{f:Addr}{m:Value}{A:Around}{outer:List Env}{s B:Shared}{H:Hp}{E:XK}{us:List Value}{vs:List V}
  (S:FnScope N ps scope) (hd:A.handled=none) (e0:Env0 P w K mg base A outer s H) (hl:vs.length=ps.length) (r:Vals vs us)
  (x:InCallC s s.heap.objs.size (bindL (envOfC qual scope s.heap.objs.size f m).kindOf (ps.zip us) λ_=>none) (cellsFrom (s.heap.objs.size+1) scope.names []) (bindC (envOfC qual scope s.heap.objs.size f m).kindOf (ps.zip us) λ_=>none) B) :
  Inv (zg1 CX P w K mg base N qual scope f m A outer s H E) [] (start N vs) H B:=by
 have D:ps.length<=N.length:=by have:=congrArg List.length S.pre;rw[yas]at this;lia
 obtain⟨h1,tk,rfl,t⟩:=x.done;have g:∀b:Addr,b∉(zg1 CX P w K mg base N qual scope f m A outer s H E).ex:=λb z=>absurd (show b∈([]:List Addr)from z) (by simp);refine⟨⟨e0.mod,S.kind,rfl,rfl,yc _,λy z c h1 h2=>?_,λy d=>?_,λy c _ h=>?_,λ_=>hd,Around.frames_deeper e0.frames,.inr ⟨rfl,rfl⟩,λb z=>absurd z (g b),e0.bs,e0.bsz,λb _ _=>g b,λb z=>absurd z (g b),e0.funs,e0.frf⟩,
  rfl,e0.bare,Un.kept t,⟨_,x.toInCall.ns,λi y v h1 h2 F=>?_⟩,λy c h=>⟨_,x.cell y c h⟩,e0.hok.fresh (yc _),λy c h=>?_,λp l=>absurd (show p∈([]:List "0l")from l) (by simp),e0.hok.kept t,?_⟩
 ·exact name_of_addr x.apart (yaY h1) (yaY h2)
 ·have d:scope.names.lookup y=some .cell\/scope.names.lookup y=some .free:=d;rcases d with d | d
  ·exact zeV d
  ·exact absurd rfl (S.nofree _ (yaY d))
 ·exact yaw (x.above y c (yaY h))
 ·have hi:i<vs.length:=by
   unfold start at h2;by_cases hi:i<vs.length
   ·exact hi
   ·rw[yaa (by simpa using hi)]at h2;rw[ya2]at h2;split at h2<;>cases h2
  have ha:vs[i]?=some v:=by
   unfold start at h2;rw[yO (by simpa using hi),yg]at h2;cases e:vs[i]? with
   | none=>rw[e]at h2;cases h2
   | some a=>rw[e]at h2;cases h2;rfl
  obtain⟨u,o,C⟩:=r.get ha;have l:ps[i]?=some y:=by
   rw[<- S.pre,List.getElem?_take_of_lt ⋯];exact h1
  have j:ps.Nodup:=by rw[<- S.pre];exact S.nd.sublist (List.take_sublist _ _)
  refine⟨u,C,?_⟩;rcases S.par y (ya l)with k | k
  ·exact .inl ⟨k,zjj j l o k⟩
  ·obtain⟨c,e⟩:=zeV (n:=s.heap.objs.size+1) k;refine .inr ⟨.inl k,c,e,?_⟩;have q:=x.cell y c e;rw[zjG j l o (by show scope.names.lookup y≠_;rw[k];decide)]at q;exact q
 ·exact e0.hok.fresh (yaw (x.above y c (yaY h)))
 ·unfold start;show _=N.length;rw[yb,ye,List.length_replicate];lia
def zry{CX:CXT}{P:Program}{w:World}{K:Fg}{mg:Str->Option Value}{base:Heap}{k:Nat}{f:Addr}{name qual:Str}{params:Arguments}{body:List Stmt}{scope:Scope}{C kV i B a ct L:Value}{an T:Option Addr}
  {osl:Array (Option Value)} {N ps:List Str} {sp:Sp} (lk:K.lookup f=some ⟨L,T,.func (PySem.W.fnOf name qual params body scope C kV i B an a ct),osl⟩) (hcd:PySem.W.codeIn K a qual=true) (S:FnScope N ps scope)
  (len:∀vs H Q E,sp vs H Q E->vs.length=ps.length)
  (hbody:∀(A:Around) (outer:List Env) (s:Shared) (H:Hp) (vs:List V) (Q:VK) (E:XK),Room k (A.deeper (envOfC qual scope s.heap.objs.size f a))->sp vs H Q E ->
   ∃t,PSs (zg1 CX P w K mg base N qual scope f a A outer s H E) body t/\t { nx:=λ_ H'=>Q .non H',rt:=Q } (start N vs) H) :
  FnOk P w K mg base CX (k+1) f (PySem.W.fnOf name qual params body scope C kV i B an a ct) ps sp:=by
 refine⟨len,λA outer s H args us vs Q E m g R r h=>?_⟩;have hl:=len _ _ _ _ h;have z:K.In s.heap:=g.mod.kin.keeps λb o e=>(g.bs b o e).1;have p:s.heap.NoLimit:=g.mod.nolimit.keeps λb o e=>(g.bs b o e).1;have c:∀y∈ps.zip us,scope.names.lookup y.1=some .local\/(scope.names.lookup y.1=some .cell/\((cellsFrom (s.heap.objs.size+1) scope.names []).lookup y.1).isSome=true):=fun⟨n,v⟩ hy=>by
  rcases S.par n (yb1 hy).1 with q | q
  ·exact .inl q
  ·exact .inr ⟨q,PySem.W.cellsFrom_some _ _ _ (.inl q)⟩
 refine codeAny_call_function m.depth (z _ _ lk) rfl S.co S.gen rfl (PySem.W.codeRec_of z hcd) (R _ _ _ _ ?_);refine wpAny_newFunctionEnv_cells S.kind c λenv M D x=>?_;subst M;refine⟨p.keeps x.toInCall.keep,codeAny_func ?_⟩;obtain⟨t,F,O⟩:=hbody A outer s H vs Q E (m.deeper _) h;have I:Inv (zg1 CX P w K mg base N qual scope f a A outer s H E) [] (start N vs) H D:=zpk S m.hd g hl r x;refine wpAny_mono (F [] D (start N vs) H _ I O) (λG s' d=>?_) λe s' d=>d;have fin:∀{j:St} {H':Hp} {v:V} {u:Value},Inv (zg1 CX P w K mg base N qual scope f a A outer s H E) [] j H' s'->RelV v u->Q v H'->CE outer P w H s Q u s':=
  λ{j H' v u} J l q=>⟨v,H',J.os,J.bare,J.base,J.hok,l,q⟩
 cases G with
 | ret u=>
  obtain⟨v,j,H',J,l,q⟩:=d;exact fin J l q
 | next=>
  obtain⟨j,H',J,q⟩:=d;exact fin (v:=V.non) (u:=Value.none) J rfl q
 | brk=>
  obtain⟨_,_,_,q⟩:=d;exact False.elim q
 | cont=>
  obtain⟨_,_,_,q⟩:=d;exact False.elim q
section
variable {X:Cx}{x:Str}{p pos:Pos}{e:Expr}{es:List Expr}{t:TA}{id T:String}{r:List V->Hp->VK->Prop}
abbrev tCB(r:List V->Hp->VK->Prop)(t:TA):TE:=λσ H Q=>t σ H λvs H1=>r vs H1 Q
def zaA(c:CallR X (.builtin id) r)(g:Gl X x)(k:X.mg x=none)(j:bootBuiltins x=some (.builtin id))(ha:PA X (e :: es) t)(b:autoParam (x ≠ "__name__") Internal.aut1._auto_1)(a:autoParam ((x == ("__debug__" : Str))=false) Internal.aut1._auto_1)
  (he:autoParam "0i" Internal.aut2._auto_1) (hpl:autoParam ((backTo pos (starEach es X.env)).any (·.1)=false) Internal.aut2._auto_1):PE X (.Call (.Name x p) (e :: es) [] pos) (tCB r t):=by
 intro pins s σ H Q I h;refine wpAny_Call_Name_kw (zck I g k j ?_ b a);exact PyProof.Rows.callWith_builtin1 (thn (ha pos pins s σ H _ I h) λus l ⟨vs,H1,f,i,d⟩=>c pins l σ H1 vs us Q f i d) he hpl
def zn1(c:CallR X (.type T) r)(g:Gl X x)(k:X.mg x=none)(j:bootBuiltins x=some (.type T))(ha:PA X (e :: es) t)(b:autoParam (x ≠ "__name__") Internal.aut1._auto_1)(a:autoParam ((x == ("__debug__" : Str))=false) Internal.aut1._auto_1)
  (he:autoParam "0i" Internal.aut2._auto_1) (hpl:autoParam ((backTo pos (starEach es X.env)).any (·.1)=false) Internal.aut2._auto_1):PE X (.Call (.Name x p) (e :: es) [] pos) (tCB r t):=by
 intro pins s σ H Q I h;refine wpAny_Call_Name_kw (zck I g k j ?_ b a);exact yaD (thn (ha pos pins s σ H _ I h) λus l ⟨vs,H1,f,i,d⟩=>c pins l σ H1 vs us Q f i d) he hpl
end
end Internal
namespace HT
variable {b:Addr}{hi:Option Int}
open PySem PyProof.Rows
section
open PySem.SeqAt
open PySem.AutoSeq1 (wpAny_loadPart')
open PySem.MeetsSeq PySem.MeetsSeq2 PySem.MeetsSeq3
end
section
variable {prog:Program}{w:World}{A:Around}{E:Value->Shared->Prop}{s:Shared}
def cat_tup{t:Addr}{vs ws:List Value}{Q:Value->Shared->Prop}(q:IsTup s.heap t vs.toArray)(r:IsTup s.heap b ws.toArray)(l:vs≠[])
  (h1:ws=[]->Q (.ref t) s) (h2:ws≠[]->Q (.ref s.heap.objs.size) { s with heap:=s.heap.push { cls:=.type "tuple",data:=.seq (vs++ws).toArray } })
  (hsz:vs.length+ws.length<=sizeLine):wpAny (model prog w) A (binaryOp .Add (.ref t) (.ref b)) Q E s:=by
 obtain⟨⟨cls,dd,data,o⟩,h,k,n,hd⟩:=id q;obtain⟨⟨p,d,j,c⟩,a,g,m,f⟩:=id r;simp only at k hd g f;subst k hd g f;have e:vs.toArray++ws.toArray=(vs++ws).toArray:=by simp
 by_cases i:ws=[]
 ·exact concat_meets ⟨_,h,rfl⟩ ⟨_,a,rfl⟩ noFill_tuple_add seq_tuple_add PySem.F.slot_tuple_add PySem.F.entry_tuple_add (PySem.F.args_tuple_add_2 _ _)
   (tuple_addW1 t b vs.toArray ws.toArray n m dd d o c (by simpa using l) (by simp[i])) ⟨h,a,h1 i⟩
 ·refine concat_meets ⟨_,h,rfl⟩ ⟨_,a,rfl⟩ noFill_tuple_add seq_tuple_add PySem.F.slot_tuple_add PySem.F.entry_tuple_add (PySem.F.args_tuple_add_2 _ _)
   (tuple_addW2 t b vs.toArray ws.toArray n m dd d o c (by simpa using l) (by simpa using i) (by rw[yp,yp];exact hsz)) ⟨h,a,?_⟩
  rw[e];exact h2 i
noncomputable def sIx (n d:Nat):Option Int->Nat
 | none=>d
 | some v=>if v<0 then(v+(n:Int)).toNat else min v.toNat n
def sIx_none(n d:Nat):sIx n d none=d:=rfl
def sIx_nat(n d k:Nat):sIx n d (some (k:Int))=min k n:=by
 show(if(k:Int)<0 then((k:Int)+(n:Int)).toNat else min (k:Int).toNat n)=min k n
 rw[if_neg ⋯,yh]
def zuz(n d:Nat)(hd:d<=n)(o:Option Int):sIx n d o<=n:=by
 cases o with
 | none=>exact hd
 | some v=>
  show(if v<0 then(v+(n:Int)).toNat else min v.toNat n)<=n
  by_cases a:v<0
  ·rw[if_pos a];lia
  ·rw[if_neg a];exact Nat.min_le_right _ _
def zmt(v:Int)(n d:Nat):(if v<0 then max (v+(n:Int)) 0 else min v (n:Int))=((sIx n d (some v):Nat):Int):=by
 show(if v<0 then max (v+(n:Int)) 0 else min v (n:Int))=(((if v<0 then(v+(n:Int)).toNat else min v.toNat n):Nat):Int)
 by_cases a:v<0
 ·simp only[if_pos a];lia
 ·simp only[if_neg a];lia
def znx(lo hi:Option Int)(n:Nat):Builtin.Slice.sliceAdjust lo hi 1 (n:Int)=(((sIx n 0 lo:Nat):Int),((sIx n n hi:Nat):Int)):=by
 have h1:¬((1:Int)<0):=by lia
 unfold Builtin.Slice.sliceAdjust;simp only[h1,if_false];refine Prod.ext ?_ ?_
 ·cases lo with
  | none=>rfl
  | some v=>exact zmt v n 0
 ·cases hi with
  | none=>rfl
  | some v=>exact zmt v n n
def znI(i j:Nat):Builtin.Slice.slicePlaces (i:Int) (j:Int) 1=j-i:=by
 unfold Builtin.Slice.slicePlaces;have h1:(1:Int)>0:=by lia
 simp only[h1,if_true,Int.ediv_one];split<;>lia
def zhn{v:Value}{o:Option Int}{Q:Option Int->Shared->Prop}(p:IsPart v o)(h:Q o s):wpAny (model prog w) A (Builtin.Slice.slicePartIndex v) Q E s:=by
 cases p with
 | none=>exact slicePart_none h
 | int i t=>exact slicePart_int h
def zgY{e:Addr}{c d:Value}{lo:Option Int}{n:Nat}{Q:Int × Int × Nat->Shared->Prop}(i:s.heap.IsSliceOf e c d .none)(pl:IsPart c lo)(g:IsPart d hi)
  (h:Q (((sIx n 0 lo:Nat):Int),1,sIx n n hi-sIx n 0 lo) s):wpAny (model prog w) A (Builtin.Slice.sliceApplied (.ref e) (pure (n:Int))) Q E s:=by
 obtain⟨os,a,f,b⟩:=id i;unfold Builtin.Slice.sliceApplied Builtin.Slice.sliceFields;refine wpAny_bind (wpAny_bind (wpAny_field a b (x:=c) rfl (wpAny_bind (wpAny_field a b (x:=d) rfl (wpAny_bind (wpAny_field a b (x:=.none) rfl (wpAny_pure ?_)))))));refine wpAny_bind (slicePart_none ?_);show wpAny _ _ (if((1:Int) == 0)=true then _ else _) _ _ s;rw[if_neg "0a"];refine wpAny_bind (zhn pl (wpAny_bind (zhn g (wpAny_bind (wpAny_pure ?_)))));show wpAny _ _ (match Builtin.Slice.sliceAdjust lo hi 1 (n:Int)with | (lo,hi)=>pure (lo,(1:Int),Builtin.Slice.slicePlaces lo hi 1)) _ _ s;rw[znx lo hi n];show wpAny _ _ (pure (((sIx n 0 lo:Nat):Int),(1:Int),Builtin.Slice.slicePlaces ((sIx n 0 lo:Nat):Int) ((sIx n n hi:Nat):Int) 1)) _ _ s;rw[znI];exact wpAny_pure h
def zp6(xs:Array Value)(i k:Nat):((List.range k).filterMap fun(m:Nat)=>xs[((i:Int)+(m:Int)*1).toNat]?).toArray=((xs.toList.drop i).take k).toArray:=by
 have e:(fun(m:Nat)=>xs[((i:Int)+(m:Int)*1).toNat]?)=λm=>xs[i+m]?:=by
  funext m
  have:((i:Int)+(m:Int)*1).toNat=i+m:=by lia
  rw[this]
 rw[e]
 have:=pick_run xs i k
 rw[List.filterMap_map]at this;have a:((λx=>xs[x]?)∘λx=>i+x)=λm=>xs[i+m]?:=rfl;rw[a]at this;rw[this]
def getItem_tuple_cut{t e:Addr}{a:Array Value}{k j:Value}{lo:Option Int}{Q:Value->Shared->Prop}(c:IsTup s.heap t a)(l:s.heap.IsSliceOf e k j .none)(pl:IsPart k lo)(n:IsPart j hi)
  (hw:¬(sIx a.size 0 lo=0/\sIx a.size a.size hi=a.size))
  (h:Q (.ref s.heap.objs.size) { s with heap:=s.heap.push { cls:=.type "tuple",data:=.seq ((a.toList.drop (sIx a.size 0 lo)).take (sIx a.size a.size hi-sIx a.size 0 lo)).toArray } })
  (hsz:a.size<=sizeLine):wpAny (model prog w) A (getItem (.ref t) (.ref e)) Q E s:=by
 have b:sizeOk (.seq ((a.toList.drop (sIx a.size 0 lo)).take (sIx a.size a.size hi-sIx a.size 0 lo)).toArray):=by
  show((a.toList.drop (sIx a.size 0 lo)).take (sIx a.size a.size hi-sIx a.size 0 lo)).toArray.size<=sizeLine
  rw[yp,yas,yao,ybB];lia
 have r:sIx a.size a.size hi<=a.size:=zuz _ _ (yc _) hi;obtain⟨os,f,d,o⟩:=id l;have g:s.TypeIs (.ref e) "slice" := ⟨os,f,d⟩
 unfold getItem
 try with_reducible refine wpAny_holding ?_
 first | refine wpAny_bind (wpAny_pure ?_) | skip
 refine wpAny_bind (wpAny_sequenceKey c.typeIs "0a" ?_);refine wpAny_bind (wpAny_callSpecial?_slot (name:=Str.ofString "__getitem__") c.typeIs ya1
  (wpAny_call_entry ya1 c.typeIs entry_tuple_getitem ?_ (args_tuple_getitem _ _)))
 show wpAny _ _ (Builtin.Tuple.tupleItemsOf (.ref t) >>= _) _ _ s;refine wpAny_bind (tupleItemsOf_ c ?_);refine wpAny_bind (wpAny_typeOf g ?_);rw[if_pos "0a"];refine wpAny_bind (zgY l pl n ?_);have i:¬((((sIx a.size 0 lo:Nat):Int) == 0&&(1:Int) == 1&&(sIx a.size a.size hi-sIx a.size 0 lo) == a.size)=true):=by
  intro q;rw[yal,yal]at q;have p:((sIx a.size 0 lo:Nat):Int)=0:=eq_of_beq q.1.1;have u:sIx a.size a.size hi-sIx a.size 0 lo=a.size:=eq_of_beq q.2;exact hw ⟨⋯,⋯⟩
 show wpAny _ _ (if(((sIx a.size 0 lo:Nat):Int) == 0&&(1:Int) == 1&&(sIx a.size a.size hi-sIx a.size 0 lo) == a.size)=true then _ else _) _ _ s;rw[if_neg i,zp6]
 first
  | exact wpAny_bind (m:=Builtin.Tuple.tupleExact _) (wpAny_newObj_type (wpAny_pure ⟨_,rfl,wpAny_pure h⟩) b)
  | exact wpAny_bind (m:=Builtin.Tuple.tupleExact _) (wpAny_newObj_type (wpAny_bind (wpAny_pure (wpAny_pure ⟨_,rfl,wpAny_pure h⟩))) b)
  | exact wpAny_bind (wpAny_bind (m:=Builtin.Tuple.tupleExact _) (wpAny_newObj_type (wpAny_pure (wpAny_pure ⟨_,rfl,wpAny_pure h⟩)) b))
  | exact wpAny_bind (wpAny_bind (m:=Builtin.Tuple.tupleExact _) (wpAny_newObj_type (wpAny_pure ⟨_,rfl,wpAny_pure h⟩) b))
end
end HT
namespace Internal
variable {A:Around}{H:Hp}{its us:List Value}{j n:Nat}{p:Addr}{pins:List (Addr × Obj)}{s:Shared}{u:Value}{xs:List V}{y:V}{σ:St}
open PySem PySem.Spec PyProof.Rows
abbrev TO:=St->Hp->(Option Int->Hp->Prop)->Prop
noncomputable def PO (X:Cx) (e:Option Expr) (t:TO):Prop:=
 ∀(pins:List "0l") (s:Shared) (σ:St) (H:Hp) (Q:Option Int->Hp->Prop),Inv X pins σ H s->t σ H Q ->
  wpAny "0g" X.A (evalPart e X.env) (λu s'=>∃o H',Inv X pins σ H' s'/\IsPart u o/\Q o H') X.xe s
abbrev zsB:TO:=λ_ H Q=>Q none H
noncomputable def zrI (t:TE):TO:=λσ H Q=>t σ H λx H1=>∃i,x=.int i/\Q (some i) H1
section
variable {X:Cx}{e:Expr}{te:TE}{lo hi:Option Expr}{tl th:TO}{pos p2:Pos}
def zgk:PO X none zsB:=by
 intro pins s σ H Q I h;rw[evalPart_none];exact wpAny_pure ⟨none,H,I,.none,h⟩
def zdA(h:PE X e te):PO X (some e) (zrI te):=by
 intro pins s σ H Q I c;rw[evalPart_some];refine thn (h pins s σ H _ I c) λu g f=>?_;obtain⟨x,H1,b,d,a⟩:=f;obtain⟨i,rfl,q⟩:=a;obtain⟨t,rfl⟩:=d;exact⟨some i,H1,b,.int i t,q⟩
noncomputable def SlR (X:Cx) (r:V->Option Int->Option Int->Hp->VK->Prop):Prop:=
 ∀(pins:List "0l") (s:Shared) (σ:St) (H:Hp) (x:V) (v vl vu:Value) (lo hi:Option Int) (sl:Addr) (Q:VK),Inv X pins σ H s->RelV x v->s.heap.IsSliceOf sl vl vu .none->IsPart vl lo->IsPart vu hi->r x lo hi H Q ->
  ∃T id,typeLookup (.type T) "__getitem__" = pure (some (.builtin id))/\s.TypeIs v T/\wpAny "0g" X.A (getItem v (.ref sl)) (EP X pins σ Q) X.xe s
abbrev tSl(r:V->Option Int->Option Int->Hp->VK->Prop)(te:TE)(tl th:TO):TE:=λσ H Q=>te σ H λx H1=>tl σ H1 λl H2=>th σ H2 λu H3=>r x l u H3 Q
def zd2{r:V->Option Int->Option Int->Hp->VK->Prop}(y:SlR X r)(p:PE X e te)(hl:PO X lo tl)(t:PO X hi th):PE X (.Subscript e (.Slice lo hi none p2) pos) (tSl r te tl th):=by
 intro pins s σ H Q I h;refine Subscript_ (thn (p pins s σ H _ I h) λv J f=>?_);obtain⟨x,H1,k,n,C⟩:=f;refine wpAny_Slice (thn (hl pins J σ H1 _ k C) λd F ⟨l,H2,z,pl,E⟩=>thn (t pins F σ H2 _ z E) λc a f=>?_);obtain⟨u,g,j,D,B⟩:=f;rw[evalPart_none];refine wpAny_pure ?_;have G:Inv X pins σ g { a with heap:=a.heap.push { cls:=.type "slice",data:=.fields #[d,c,.none] } }:=j.kept (t':=a.toks) λb K q=>Heap.get?_push_of_some _ q;obtain⟨T,id,o,i,m⟩:=y pins { a with heap:=a.heap.push { cls:=.type "slice",data:=.fields #[d,c,.none] } } σ g x v d c l u a.heap.objs.size Q G n (Heap.IsSliceOf.new ..) pl D B;show wpAny "0g" X.A (subscriptTail e (.Slice lo hi none p2) v (.ref a.heap.objs.size)) (EP X pins σ Q) X.xe { a with heap:=a.heap.push { cls:=.type "slice",data:=.fields #[d,c,.none] } };exact tail_any (ops:=[.ref a.heap.objs.size,v]) i o m (by with_unfolding_all rfl)
noncomputable def zbS (xs:List V) (lo hi:Option Int):List V:=(xs.drop (HT.sIx xs.length 0 lo)).take (HT.sIx xs.length xs.length hi-HT.sIx xs.length 0 lo)
def zgw(xs:List V)(lo hi:Option Int):(zbS xs lo hi).length<=xs.length:=by
 unfold zbS;rw[yas,yao];lia
noncomputable def zqY (K:Fg):V->Option Int->Option Int->Hp->VK->Prop:=λx lo hi H Q=>∃a xs,x=.ref a/\SqT K H a xs /\
 ¬(HT.sIx xs.length 0 lo=0/\HT.sIx xs.length xs.length hi=xs.length)/\∀p,H p=none->Q (.ref p) (upd H p (.tup (zbS xs lo hi)))
def zt0:SlR X (zqY X.K):=by
 intro pins s σ H x v p m lo hi n Q I j k pl g h;obtain⟨a,xs,rfl,f,i,q⟩:=h;cases j;obtain⟨its,r,d,e⟩:=I.tuple f;have c:its.toArray.size=xs.length:=by rw[yp];exact r.length.symm
 refine⟨"tuple",_,ya1.lookup,d.typeIs,?_⟩;refine HT.getItem_tuple_cut d k pl g (by rw[c];exact i) ?_ (by rw[c];exact e);rw[c];refine⟨.ref s.heap.objs.size,_,I.laid (t':=s.toks) (o:=.tup (zbS xs lo hi)) (λb l q=>Heap.get?_push_of_some _ q) (yc _) ?_,rfl,q _ (I.hok.fresh (yc _))⟩;exact⟨yi (zgw xs lo hi) e,_,(r.drop (HT.sIx xs.length 0 lo)).take (HT.sIx xs.length xs.length hi-HT.sIx xs.length 0 lo),IsTup.new _ _⟩
noncomputable def zrn (K:Fg):R2:=λx y H Q=>∃a b xs ys,x=.ref a/\y=.ref b/\SqT K H a xs/\SqT K H b ys/\xs≠[]/\xs.length+ys.length<=sizeLine /\
 (ys=[]->Q (.ref a) H)/\(ys≠[]->∀p,H p=none->Q (.ref p) (upd H p (.tup (xs++ys))))
def Vals.nil_iff(r:Vals xs us):us=[]↔xs=[]:=by
 cases r with
 | nil=>simp
 | cons _ _=>simp
def zrV:OpR X (binaryOp .Add) (zrn X.K):=by
 intro pins s σ H x y v u Q I l n h;obtain⟨a,b,xs,ys,rfl,rfl,ha,m,g,f,i,k⟩:=h;cases l;cases n;obtain⟨its,d,j,_⟩:=I.tuple ha;obtain⟨e,c,p2,_⟩:=I.tuple m;refine HT.cat_tup j p2 (λz=>g (d.nil_iff.mp z)) (λz=>⟨.ref a,H,I,rfl,i (c.nil_iff.mp z)⟩) (λz=>?_) (by rw[<- d.length,<- c.length];exact f);refine⟨.ref s.heap.objs.size,_,I.laid (t':=s.toks) (o:=.tup (xs++ys)) (λb p q=>Heap.get?_push_of_some _ q) (yc _) ?_,rfl,k (λw=>z (c.nil_iff.mpr w)) _ (I.hok.fresh (yc _))⟩;exact⟨by rw[yb];exact f,_,d.append c,IsTup.new _ _⟩
end
noncomputable def ixN (n:Nat) (i:Int):Option Nat:=if 0<=i then(if i<n then some i.toNat else none)else if -(n:Int)<=i then some (i+n).toNat else none
noncomputable def atI {α:Type} (xs:List α) (i:Int):Option α:=(ixN xs.length i).bind λj=>xs[j]?
def zl9{i:Int}(h:ixN n i=some j):seqIndex? i n=some j/\j<n/\-(n:Int)<=i/\i<n:=by
 unfold ixN at h;by_cases a:0<=i
 ·rw[if_pos a]at h;by_cases h1:i<n
  ·rw[if_pos h1]at h;have e:i.toNat=j:=yt h;exact⟨by rw[seqIndex_of a h1,e],⋯,⋯,h1⟩
  ·rw[if_neg h1]at h;cases h
 ·rw[if_neg a]at h;by_cases h1:-(n:Int)<=i
  ·rw[if_pos h1]at h;have e:(i+n).toNat=j:=yt h;exact⟨by rw[seqIndex_neg ⋯ h1,e],⋯,h1,⋯⟩
  ·rw[if_neg h1]at h;cases h
def zga{α:Type}{xs:List α}{i:Int}{v:α}(h:atI xs i=some v):∃j,seqIndex? i xs.length=some j/\xs[j]?=some v/\j<xs.length/\-(xs.length:Int)<=i/\i<xs.length:=by
 unfold atI at h;cases e:ixN xs.length i with
 | none=>rw[e]at h;cases h
 | some j=>
  rw[e]at h;obtain⟨h1,h2,b,a⟩:=zl9 e;exact⟨j,h1,h,h2,b,a⟩
def zal{α:Type}{xs:List α}{v:α}(h:xs[j]?=some v):atI xs (j:Int)=some v:=by
 have a:j<xs.length:=(yj.mp h).1;have e:ixN xs.length (j:Int)=some j:=by
  unfold ixN;rw[if_pos ⋯,if_pos ⋯];simp
 unfold atI;rw[e];exact h
noncomputable def zl5 (b:Expr):Prop:=∀o i,subscripted b false o i=operate [o,i] (getItem o i)
noncomputable def IxR (X:Cx) (r:R2):Prop:=
 ∀(value slice:Expr) (pins:List "0l") (s:Shared) (σ:St) (H:Hp) (x y:V) (v u:Value) (Q:VK),Inv X pins σ H s->RelV x v->RelV y u->r x y H Q ->
  subscripted slice false v u=operate [v,u] (getItem v u)->wpAny "0g" X.A (subscriptTail value slice v u) (EP X pins σ Q) X.xe s
noncomputable def MtR (X:Cx) (id:String) (r:V->List V->Hp->VK->Prop):Prop:=
 ∀(pins:List "0l") (s:Shared) (σ:St) (H:Hp) (x:V) (xs:List V) (v:Value) (us:List Value) (Q:VK),Inv X pins σ H s->RelV x v->Vals xs us->r x xs H Q ->
  wpAny "0g" X.A (call (.builtin id) (v :: us)) (EP X pins σ Q) X.xe s
section
variable {X:Cx}{a b:Expr}{ta tb:TE}{pos:Pos}
def IxR.or{r b:R2}(h:IxR X r)(h':IxR X b):IxR X (λx y H Q=>r x y H Q\/b x y H Q):=by
 intro value a pins s σ H x y v u Q I c d q e;rcases q with q | q
 ·exact h value a pins s σ H x y v u Q I c d q e
 ·exact h' value a pins s σ H x y v u Q I c d q e
def zu6{r:R2}(c:IxR X r)(ha:PE X a ta)(f:PE X b tb)(j:zl5 b):PE X (.Subscript a b pos) (tOp r ta tb):=by
 intro pins s σ H Q I h;exact Subscript_ (zpN ha f I h λv u e x y H2 g d i q=>c a b pins e σ H2 x y v u Q g d i q (j _ _))
noncomputable def zcs (K:Fg):R2:=λx y H Q=>∃p xs i v,x=.ref p/\y=.int i/\SqL K H p xs/\atI xs i=some v/\Q v H
noncomputable def zto (K:Fg):R2:=λx y H Q=>∃p xs i v,x=.ref p/\y=.int i/\SqT K H p xs/\atI xs i=some v/\Q v H
noncomputable def zus:R2:=λx y H Q=>∃z i c,x=.str z/\y=.int i/\z.length<=sizeLine/\atI z.cps.toList i=some c/\Q (.str ⟨#[c]⟩) H
def ix_list:IxR X (zcs X.K):=by
 intro value b pins s σ H x y v u Q I l n h f;obtain⟨p,xs,i,z,rfl,rfl,m,k,q⟩:=h;cases l;obtain⟨t,rfl⟩:=n;obtain⟨its,r,pl,C⟩:=I.list m;obtain⟨j,h1,h2,B,o,g⟩:=zga k;obtain⟨w,e,c⟩:=r.get h2;have hl:=r.length;have A:=line63;have fin:EP X pins σ Q w s:=⟨z,H,I,c,q⟩
 by_cases d:0<=i
 ·have a:i.toNat=j:=by
   rw[seqIndex_of d g]at h1;exact yt h1
  exact item_listR pl.isList d ⋯ (by rw[a];simpa using e) fin f
 ·have a:(i+(its.toArray.size:Int)).toNat=j:=by
   rw[seqIndex_neg ⋯ o]at h1;rw[yp,<- hl];exact yt h1
  exact subscriptTail_builtinR (x:=w) pl.isList.typeIs slot_list_getitem.lookup
   (wpAny_getItem_list_neg (Q:=λr s'=>r=w/\EP X pins σ Q r s') pl.isList ⋯ (by rw[yp]<;>lia) ⋯ (by rw[a];simpa using e) ⟨rfl,fin⟩) f
def ix_tup:IxR X (zto X.K):=by
 intro value a pins s σ H x y v u Q I e g h k;obtain⟨p,xs,i,z,rfl,rfl,f,c,q⟩:=h;cases e;obtain⟨t,rfl⟩:=g;obtain⟨its,r,pl,A⟩:=I.tuple f;obtain⟨j,h1,h2,m,o,n⟩:=zga c;obtain⟨w,d,b⟩:=r.get h2;have hl:=r.length;have l:=line63;have fin:EP X pins σ Q w s:=⟨z,H,I,b,q⟩
 exact subscriptTail_builtinR (x:=w) pl.typeIs slot_tuple_getitem.lookup
  (getItem_tuple (j:=j) (Q:=λr s'=>r=w/\EP X pins σ Q r s') pl ⋯ ⋯ (by rw[yp,<- hl];exact h1) (by simpa using d) ⟨rfl,fin⟩) k
def ztL:IxR X zus:=by
 intro value a pins s σ H x y v u Q I g l h m;obtain⟨z,i,c,rfl,rfl,p,f,q⟩:=h;obtain⟨t,rfl⟩:=g;obtain⟨t',rfl⟩:=l;obtain⟨j,h1,h2,o,b,e⟩:=zga f;have hl:z.cps.toList.length=z.length:=by simp[Str.length]
 rw[hl]at h1 b e;have n:=line63;exact tail_any (typeIs_str s z t) slot_str_getitem.lookup (getItem_str (c:=c) (by
  have d:decide (i < -(2 ^ 63:Int))=false:=decide_eq_false ⋯;have k:decide (i≥2 ^ 63)=false:=decide_eq_false ⋯;rw[d,k,Bool.or_false]) (by rw[h1];simpa using h2) ⟨.str ⟨#[c]⟩,H,I.tok _,⟨_,rfl⟩,q⟩) m
noncomputable def rIx (K:Fg):R2:=λx y H Q=>zcs K x y H Q\/zto K x y H Q\/zus x y H Q
def zut:IxR X (rIx X.K):=ix_list.or (ix_tup.or ztL)
def znb(its:List Value)(n j:Nat)(u:Value):Obj.mapSeq (·.setIfInBounds j u) { cls:=.type "list",data:=.seq its.toArray n }={ cls:=.type "list",data:=.seq (its.set j u).toArray n }:=by
 simp[Obj.mapSeq]
theorem Inv.lst{pins:List "0l"}{σ:St}{H:Hp}{s:Shared}{p:Addr}{xs:List V}(I:Inv X pins σ H s)(h:H p=some (.lst xs)) :
  ∃(its:List Value) (n:Nat),Vals xs its/\s.heap.get? p=some { cls:=.type "list",data:=.seq its.toArray n }/\xs.length<=sizeLine:=by
 obtain⟨z,its,n,r,e⟩:=I.hok p _ h;exact⟨its,n,r,e,z⟩
def Inv.lstUpd{ys:List V}{its its':List Value}{n a:Nat}{f:Obj->Obj}(I:Inv X pins σ H s)(h:H p=some (.lst xs))
  (ho:s.heap.get? p=some { cls:=.type "list",data:=.seq its.toArray n }) (hf:f { cls:=.type "list",data:=.seq its.toArray n }={ cls:=.type "list",data:=.seq its'.toArray a }) (r:Vals ys its') (hz:ys.length<=sizeLine) (t:Nat) :
  Inv X pins σ (upd H p (.lst ys)) { s with heap:=s.heap.update p f,toks:=t }:=by
 have e:(s.heap.update p f).get? p=some { cls:=.type "list",data:=.seq its'.toArray a }:=by
  rw[Heap.get?_update_self f ho (by rw[hf]<;>rfl),hf]
 refine I.write (x:=p) (e:=p) (by rw[h];trivial) (.inl rfl) (λb u c q=>(Heap.get?_update_other _ _ (ya9 c)).trans q) ⟨_,e⟩ ?_;exact⟨hz,its',a,r,e⟩
noncomputable def zhU:V->V->V->Hp->(Hp->Prop)->Prop:=λo i v H Q=>∃p xs k j,o=.ref p/\i=.int k/\H p=some (.lst xs)/\ixN xs.length k=some j/\Q (upd H p (.lst (xs.set j v)))
def zT:zqh X zhU:=by
 intro pins s σ H o i v A B u Q I x l m h;obtain⟨p,xs,k,j,rfl,rfl,g,w,q⟩:=h;cases x;obtain⟨t,rfl⟩:=l;obtain⟨its,n,r,b,y⟩:=I.lst g;obtain⟨h1,h2,d,e⟩:=zl9 w;have hl:=r.length;have z:=line63;have f:Inv X pins σ (upd H p (.lst (xs.set j v))) { s with heap:=s.heap.update p (Obj.mapSeq (·.setIfInBounds j u)) }:=
  I.lstUpd g b (znb its n j u) (r.set m j) (by rw[yar];exact y) s.toks
 by_cases c:0<=k
 ·have a:k.toNat=j:=by
   rw[seqIndex_of c e]at h1;exact yt h1
  exact PySem.W.ki_setAt b c ⋯ (by rw[yp,<- hl];exact e) (by rw[a];exact⟨_,f,q⟩)
 ·have a:(k+(its.toArray.size:Int)).toNat=j:=by
   rw[seqIndex_neg ⋯ d]at h1;rw[yp,<- hl];exact yt h1
  exact PySem.W.ki_setBack b ⋯ (by rw[yp,<- hl];exact d) ⋯ (by rw[a];exact⟨_,f,q⟩)
def zlI(lo hi:Option Int)(n:Nat):(sliceBounds lo hi none n).1=((HT.sIx n 0 lo:Nat):Int)/\(sliceBounds lo hi none n).2.1=((HT.sIx n n hi:Nat):Int)/\(sliceBounds lo hi none n).2.2=1:=by
 refine⟨?_,?_,rfl⟩
 ·cases lo with
  | none=>simp[sliceBounds,HT.sIx]
  | some i=>
   simp only[sliceBounds,HT.sIx,Option.getD_none,show(1:Int)>0 by decide,if_true];by_cases h:i<0
   ·simp only[h,if_true]<;>lia
   ·simp only[h,if_false]<;>lia
 ·cases hi with
  | none=>simp[sliceBounds,HT.sIx]
  | some i=>
   simp only[sliceBounds,HT.sIx,Option.getD_none,show(1:Int)>0 by decide,if_true];by_cases h:i<0
   ·simp only[h,if_true]<;>lia
   ·simp only[h,if_false]<;>lia
def zjU(its:List Value)(lo hi:Option Int):slicePick its.toArray lo hi none=((its.drop (HT.sIx its.length 0 lo)).take (HT.sIx its.length its.length hi-HT.sIx its.length 0 lo)).toArray:=by
 obtain⟨h1,h2,a⟩:=zlI lo hi its.toArray.size;unfold slicePick;rw[h1,h2,a];simp only[sliceRange_one,pick_run,yp]<;>rfl
noncomputable def zfM (K:Fg):V->Option Int->Option Int->Hp->VK->Prop:=λx lo hi H Q=>∃a xs,x=.ref a/\SqL K H a xs/\∀p,H p=none->Q (.ref p) (upd H p (.lst (zbS xs lo hi)))
def zgj:SlR X (zfM X.K):=by
 intro pins s σ H x v n l lo hi m Q I i j pl f h;obtain⟨a,xs,rfl,e,q⟩:=h;cases i;obtain⟨its,r,d,g⟩:=I.list e;have c:=r.length;refine⟨"list",_,slot_list_getitem.lookup,d.isList.typeIs,?_⟩;refine wpAny_getItem_list_slice d.isList j pl f .none (by simp) ?_ (by rw[yp]<;>lia);rw[zjU,<- c];refine⟨.ref s.heap.objs.size,_,I.laid (t':=s.toks) (o:=.lst (zbS xs lo hi)) (λb k q=>Heap.get?_push_of_some _ q) (yc _) ?_,rfl,q _ (I.hok.fresh (yc _))⟩;exact⟨yi (zgw xs lo hi) g,_,0,(r.drop (HT.sIx xs.length 0 lo)).take (HT.sIx xs.length xs.length hi-HT.sIx xs.length 0 lo),Heap.get?_push_size _ rfl⟩
noncomputable def zds:V->Bool
 | .non=>true
 | .bl _=>true
 | .int _=>true
 | .str _=>true
 | _=>false
noncomputable def eqV:V->V->Bool
 | .non,.non=>true
 | .bl a,.bl b=>a == b
 | .bl a,.int b=>(if a then 1 else 0) == b
 | .int a,.bl b=>a == (if b then 1 else 0)
 | .int a,.int b=>a == b
 | .str a,.str b=>a == b
 | _,_=>false
def zuk{x:V}{v:Value}(d:RelV y u)(c:RelV x v)(f:zds y=true)(e:zds x=true):SeqAt.EqAt A s u v (eqV y x):=by
 cases y with
 | non=>
  cases d;cases x with
  | non=>cases c;exact SeqAt.EqAt.same _
  | bl b=>cases c;exact SeqAt.EqAt.none_bool b
  | int b=>obtain⟨t,rfl⟩:=c;exact SeqAt.EqAt.none_int b t
  | str b=>obtain⟨t,rfl⟩:=c;exact SeqAt.EqAt.none_str b t
  | _=>exact absurd (show false=true from e) yu
 | bl a=>
  cases d;cases x with
  | non=>cases c;exact SeqAt.EqAt.bool_none a
  | bl b=>cases c;exact SeqAt.EqAt.bool_bool a b
  | int b=>obtain⟨t,rfl⟩:=c;exact SeqAt.EqAt.bool_int a b t
  | str b=>obtain⟨t,rfl⟩:=c;exact SeqAt.EqAt.bool_str a b t
  | _=>exact absurd (show false=true from e) yu
 | int a=>
  obtain⟨t',rfl⟩:=d;cases x with
  | non=>cases c;exact SeqAt.EqAt.int_none a t'
  | bl b=>cases c;exact SeqAt.EqAt.int_bool a t' b
  | int b=>obtain⟨t,rfl⟩:=c;exact SeqAt.EqAt.int_int a t' b t
  | str b=>obtain⟨t,rfl⟩:=c;exact SeqAt.EqAt.int_str a t' b t
  | _=>exact absurd (show false=true from e) yu
 | str a=>
  obtain⟨t',rfl⟩:=d;cases x with
  | non=>cases c;exact SeqAt.EqAt.str_none a t'
  | bl b=>cases c;exact SeqAt.EqAt.str_bool a t' b
  | int b=>obtain⟨t,rfl⟩:=c;exact SeqAt.EqAt.str_int a t' b t
  | str b=>obtain⟨t,rfl⟩:=c;exact SeqAt.EqAt.str_str a t' b t
  | _=>exact absurd (show false=true from e) yu
 | _=>exact absurd (show false=true from f) yu
noncomputable def eqU (x:V) (u:Value):Bool:=match u with
 | .none=>eqV .non x
 | .bool b=>eqV (.bl b) x
 | .int i _=>eqV (.int i) x
 | .str z _=>eqV (.str z) x
 | _=>false
def zkq{x:V}(r:RelV y u)(f:zds y=true):eqU x u=eqV y x:=by
 cases y with
 | non=>cases r;rfl
 | bl b=>cases r;rfl
 | int i=>obtain⟨t,rfl⟩:=r;rfl
 | str z=>obtain⟨t,rfl⟩:=r;rfl
 | _=>exact absurd (show false=true from f) yu
theorem ziE{x:V}:∀{xs:List V} {us:List Value},Vals xs us->xs.all zds=true->us.any (eqU x)=xs.any λy=>eqV y x
 | _,_,.nil,_=>rfl
 | y :: xs,u :: us,.cons r t,f=>by
  rw[ybO,yal]at f;rw[List.any_cons,List.any_cons,zkq r f.1,ziE t f.2]
theorem zeW{A:Around}{s:Shared}{x:V}{v:Value}(b:RelV x v)(c:zds x=true):∀{xs:List V} {us:List Value},Vals xs us->xs.all zds=true->∀u∈us,SeqAt.EqAt A s u v (eqU x u)
 | _,_,.nil,_=>λu a=>by cases a
 | y :: xs,u :: us,.cons r t,f=>λd a=>by
  rw[ybO,yal]at f;rcases yA.mp a with rfl | a
  ·rw[zkq r f.1];exact zuk r b f.1 c
  ·exact zeW b c t f.2 d a
noncomputable def inV (x:V) (xs:List V):Bool:=xs.any λy=>eqV y x
noncomputable def rIn (K:Fg) (neg:Bool):R2:=λx y H Q=>∃p xs,y=.ref p/\(SqL K H p xs\/SqT K H p xs)/\zds x=true/\xs.all zds=true/\Q (.bl (if neg then !inV x xs else inV x xs)) H
def zfp:OpR X (compareOp .NotIn) (rIn X.K true):=by
 intro pins s σ H x y v u Q I d f h;obtain⟨p,xs,rfl,a,c,fs,q⟩:=h;cases f;rcases a with a | a
 ·obtain⟨its,r,pl,e⟩:=I.list a;refine SeqAt.notIn_listAt (eqU x) pl.isList (λw b=>zeW d c r fs w (by simpa using b)) ⟨.bl _,H,I,rfl,?_⟩;rw[show its.toArray.any (eqU x)=its.any (eqU x) by simp,ziE r fs];exact q
 ·obtain⟨its,r,pl,e⟩:=I.tuple a;refine SeqAt.notIn_tupleAt (eqU x) pl (λw b=>zeW d c r fs w (by simpa using b)) ⟨.bl _,H,I,rfl,?_⟩;rw[show its.toArray.any (eqU x)=its.any (eqU x) by simp,ziE r fs];exact q
def zk6:CallR X (.builtin "len") (λxs H Q=>∃p ys,xs=[.ref p]/\(SqL X.K H p ys\/SqT X.K H p ys)/\Q (.int ys.length) H):=by
 intro pins s σ H xs us Q I r h;obtain⟨p,ys,rfl,b,q⟩:=h;obtain⟨u,rfl,e⟩:=vals1 r;cases e;have f:=line63;rcases b with b | b
 ·obtain⟨its,c,pl,d⟩:=I.list b;have a:=c.length;exact Calls.call_len_list pl.isList (by simp only[yp]<;>lia) ⟨.int ys.length,H,I.tok _,⟨s.toks+1,by rw[yp,a]⟩,q⟩
 ·obtain⟨its,c,pl,d⟩:=I.tuple b;have a:=c.length;exact len_tuple pl (by simp only[yp]<;>lia) ⟨.int ys.length,H,I.tok _,⟨s.toks+1,by rw[yp,a]⟩,q⟩
def CallR.or{f:Value}{r a:List V->Hp->VK->Prop}(h:CallR X f r)(h':CallR X f a):CallR X f (λxs H Q=>r xs H Q\/a xs H Q):=by
 intro pins s σ H xs us Q I b q;rcases q with q | q
 ·exact h pins s σ H xs us Q I b q
 ·exact h' pins s σ H xs us Q I b q
def zk8:CallR X (.type "list") (λxs H Q=>∃p ys,xs=[.ref p]/\(SqL X.K H p ys\/SqT X.K H p ys)/\∀l,H l=none->Q (.ref l) (upd H l (.lst ys))):=by
 intro pins s σ H xs us Q I r h;obtain⟨p,ys,rfl,g,q⟩:=h;obtain⟨u,rfl,k⟩:=vals1 r;cases k;have fin:∀(its:List Value),Vals ys its->ys.length<=sizeLine->∀(h':Heap) (c:Nat),(∀b o',s.heap.get? b=some o'->h'.get? b=some o') ->
   h'.get? s.heap.objs.size=some { cls:=.type "list",dict:=none,data:=.seq its.toArray c,slots:=#[] }->EP X pins σ Q (.ref s.heap.objs.size) { s with heap:=h' }:=λits a f h' c kp e=>
  ⟨.ref s.heap.objs.size,_,I.laid (t':=s.toks) kp (yc _) (show ObjOk X.prog X.w _ h' _ (.lst ys) from⟨f,its,c,a,e⟩),rfl,q _ (I.hok.fresh (yc _))⟩
 rcases g with g | g
 ·obtain⟨its,a,pl,f⟩:=I.list g;have d:=a.length;obtain⟨o,j,i,n,hd⟩:=pl.isList;exact call_list_seq p (.inl rfl) j i hd (λh' c kp e=>fin its a f h' c kp e) (by simp only[yp]<;>lia)
 ·obtain⟨its,a,pl,f⟩:=I.tuple g;have d:=a.length;obtain⟨o,j,i,n,hd⟩:=pl;exact call_list_seq p (.inr rfl) j i hd (λh' c kp e=>fin its a f h' c kp e) (by simp only[yp]<;>lia)
noncomputable def tyV (K:Fg) (T:String) (x:V) (H:Hp):Prop:=match x with
 | .str _=>T = "str"
 | .int _=>T = "int"
 | .ref p=>(T = "list" /\ ∃xs,SqL K H p xs)\/(T = "tuple" /\ ∃o,K.lookup p=some o/\o.cls=.type "tuple" /\ o.dict=none) \/
   (T = "dict" /\ ((∃kvs,H p=some (.dK kvs))\/∃kvs,H p=some (.dT kvs)))\/(T = "set" /\ ∃S n,H p=some (.set S n))
 | _=>False
def zue{T:String}{x:V}{v:Value}(I:Inv X pins σ H s)(r:RelV x v)(ty:tyV X.K T x H) :
  s.TypeIs v T/\∀a,v=.ref a->∃ob,s.heap.get? a=some ob/\ob.dict=none:=by
 cases x with
 | str z=>
  obtain⟨t,rfl⟩:=r
  cases(show T = "str" from ty)
  exact⟨typeIs_str s z t,λ_ e=>nomatch e⟩
 | int i=>
  obtain⟨t,rfl⟩:=r
  cases(show T = "int" from ty)
  exact⟨typeIs_int s i t,λ_ e=>nomatch e⟩
 | ref p=>
  cases r;rcases ty with⟨rfl,xs,hq⟩ | ⟨rfl,o,hk,hc,hd⟩ | ⟨rfl,hk⟩ | ⟨rfl,S,n,hk⟩
  ·obtain⟨its,_,pl,_⟩:=I.list hq;refine⟨pl.isList.typeIs,λa e=>?_⟩;cases e;obtain⟨o,n,e,c,hd,_⟩:=pl;exact⟨o,e,hd⟩
  ·refine⟨⟨o,I.kIn p o hk,hc⟩,λa e=>?_⟩;cases e;exact⟨o,I.kIn _ o hk,hd⟩
  ·have z:∃o,s.heap.get? p=some o/\o.ExactDict:=by
    rcases hk with⟨kvs,hk⟩ | ⟨kvs,hk⟩
    ·obtain⟨_,_,_,_,o,_,_,e,ex,_⟩:=I.hok p _ hk;exact⟨o,e,ex⟩
    ·obtain⟨_,_,_,_,o,_,_,e,ex,_⟩:=I.hok p _ hk;exact⟨o,e,ex⟩
   obtain⟨o,e,ex⟩:=z;refine⟨⟨o,e,ex.1⟩,λa b=>?_⟩;cases b;exact⟨o,e,ex.2.1⟩
  ·obtain⟨o,_,_,_,e,ex,_⟩:=I.hok p _ hk;refine⟨⟨o,e,ex.1⟩,λa b=>?_⟩;cases b;exact⟨o,e,ex.2.1⟩
 | _=>exact False.elim ty
noncomputable def tBM (K:Fg) (T:String) (r:V->List V->Hp->VK->Prop) (to:TE) (t:TA):TE:=λσ H Q=>to σ H λx H1=>tyV K T x H1/\t σ H1 λxs H2=>r x xs H2 Q
variable {o e:Expr}{es:List Expr}{to:TE}{t:TA}{name:Str}{apos cpos:Pos}{T id:String}{r:V->List V->Hp->VK->Prop}
def znH(f:PlainAttrs T)(slot:Slot T name id)(a:typeOf (.builtin id)=pure (.type "method_descriptor"))(n:MtR X id r)(i:PE X o to)(ha:PA X (e :: es) t)
  (hbase:autoParam (attributeBase o name X.env (eval o X.env)=eval o X.env) Internal.aut2._auto_1)
  (hfew:autoParam (((backTo cpos (starEach (e :: es) X.env)).all (λx=>!x.1)&&(backToKw cpos (keywordEach [] X.env)).all (λx=>x.1.isSome)
   && decide ((e :: es).length+([]:List Keyword).length+(if([]:List Keyword).isEmpty then 0 else 1)<30))=true) Internal.aut2._auto_1)
  (hline:autoParam ((apos.endLine == cpos.line)=true) Internal.aut2._auto_1) (hs:autoParam "0i" Internal.aut2._auto_1) (hplain:autoParam ((backTo cpos (starEach es X.env)).any (·.1)=false) Internal.aut2._auto_1) :
  PE X (.Call (.Attribute o name apos) (e :: es) [] cpos) (tBM X.K T r to t):=by
 intro pins s σ H Q I h;refine wpAny_Call_method_late hbase hfew hline rfl (thn (i pins s σ H _ I h) λv q l=>?_);obtain⟨x,H1,b,c,ty,g⟩:=l;obtain⟨h1,h2⟩:=zue b c ty;refine⟨T,id,f,slot,a,h1,h2,?_⟩;have d:=ha cpos pins q σ H1 _ b g;rw[hs]at d ⊢;refine Calls.callWith_builtin (by show(false || (backTo cpos (starEach es X.env)).any (·.1))=false;rw[hplain]<;>rfl) (Calls.evalArgs_plain ?_);exact thn d λus m ⟨vs,H2,p,j,k⟩=>n pins m σ H2 x vs v us Q p c j k
/- xs.append(e),list.index on a module's tuple .. are MtR facts of 06m -/
end
noncomputable def MtM (X:Cx) (id:String) (r:V->List V->Hp->VK->Prop):Prop:=
 ∀(pins:List "0l") (s:Shared) (σ:St) (H:Hp) (x:V) (xs:List V) (v:Value) (us:List Value) (Q:VK),Inv X pins σ H s->RelV x v->Vals xs us->r x xs H Q ->
  wpAny "0g" X.A (call (.builtin id) (v :: us)) (EP X pins σ Q) X.xe s
def Vals.one:∀{x:V} {us:List Value},Vals [x] us->∃u,us=[u]/\RelV x u
 | _,_,h=>by
  cases h with
  | cons r t=>cases t;exact⟨_,rfl,r⟩
theorem Vals.rep{xs:List V}{us:List Value}(h:Vals xs us):∀k:Nat,Vals (List.replicate k xs).flatten (List.replicate k us).flatten
 | 0=>.nil
 | k+1=>by
  rw[yaE,yaE,ya6,ya6];exact Vals.append h (Vals.rep h k)
theorem zjp(its:List Value):∀(k:Nat) (acc:List Value),
  List.foldl (λc b=>c++b) acc.toArray (List.replicate k its.toArray)=(acc++(List.replicate k its).flatten).toArray
 | 0,acc=>by simp
 | k+1,acc=>by
  have e:acc.toArray++its.toArray=(acc++its).toArray:=by simp
  have a:(acc++its)++(List.replicate k its).flatten=acc++(List.replicate (k+1) its).flatten:=by
   rw[yaE,ya6,yaL]
  rw[<- a,<- zjp its k (acc++its),<- e,yaE,List.foldl_cons]
section
variable {X:Cx}{pins:List (Addr × Obj)}{σ:St}{H:Hp}{s:Shared}{l b:Addr}{xs ys zs:List V}
def Inv.lset{its its':List Value}{n:Nat}{f:Array Value->Array Value}{t':Nat}(I:Inv X pins σ H s)(a:H l=some (.lst xs))
  (e:s.heap.get? l=some { cls:=.type "list",data:=.seq its.toArray n }) (hf:f its.toArray=its'.toArray) (hv:Vals ys its') (hz:ys.length<=sizeLine) :
  Inv X pins σ (upd H l (.lst ys)) { s with heap:=s.heap.update l (Obj.mapSeq f),toks:=t' }:=by
 have q:=PySem.IsL.update e f;rw[hf]at q;refine I.write (x:=l) (e:=l) (by rw[a];exact trivial) (.inl rfl) (λd u b c=>(Heap.get?_update_other s.heap (Obj.mapSeq f) (ya9 b)).trans c) ⟨_,q⟩ ?_;exact⟨hz,its',_,hv,q⟩
def Inv.lnew{t':Nat}(I:Inv X pins σ H s)(a:Vals ys its)(b:ys.length<=sizeLine) :
  Inv X pins σ (upd H s.heap.objs.size (.lst ys)) { s with heap:=s.heap.push { cls:=.type "list",data:=.seq its.toArray },toks:=t' }:=
 I.laid (λ_ _ q=>Heap.get?_push_of_some _ q) (yc _) ⟨b,its,0,a,Heap.get?_push_size _ rfl⟩
theorem Inv.fresh(I:Inv X pins σ H s):H s.heap.objs.size=none:=I.hok.fresh (yc _)
def Inv.lstM(I:Inv X pins σ H s)(a:H l=some (.lst xs)):xs.length<=sizeLine/\∃(its:List Value) (n:Nat),Vals xs its/\xs.length=its.length/\s.heap.get? l=some { cls:=.type "list",data:=.seq its.toArray n }:=by
 obtain⟨z,its,n,r,e⟩:=I.hok l _ a;exact⟨z,its,n,r,r.length,e⟩
def zkY(h:n<=sizeLine):Builtin.List.listTooLong n=false:=by
 unfold Builtin.List.listTooLong;exact decide_eq_false ⋯
end
section
variable {X:Cx}
noncomputable def zbz:V->List V->Hp->VK->Prop:=λx vs H Q=>∃l xs y,x=.ref l/\vs=[y]/\H l=some (.lst xs)/\xs.length<sizeLine/\Q .non (upd H l (.lst (xs++[y])))
def zi8:MtM X "list.append" zbz:=by
 intro pins s σ H x vs v us Q I c b h;obtain⟨l,xs,y,rfl,rfl,a,f,q⟩:=h;cases c;obtain⟨u,rfl,d⟩:=b.one;obtain⟨z,its,n,r,hl,e⟩:=I.lstM a;refine call_meets F.slot_list_append ⟨_,e,rfl⟩ F.entry_list_append (F.args_list_append_2 _ _) (PySem.list_append l its.toArray n u (by rw[yp];lia)) ⟨e,?_⟩;refine⟨.non,_,I.lset (its':=its++[u]) a e (by simp) (r.append (.cons d .nil)) ?_,rfl,q⟩;rw[yb,y8];lia
noncomputable def zmG:V->List V->Hp->VK->Prop:=λx vs H Q=>∃l b xs zs,x=.ref l/\vs=[.ref b]/\H l=some (.lst xs)/\H b=some (.lst zs)/\xs.length+zs.length<=sizeLine/\Q .non (upd H l (.lst (xs++zs)))
def zoD:MtM X "list.extend" zmG:=by
 intro pins s σ H x vs v us Q I g p h;obtain⟨l,b,xs,zs,rfl,rfl,f,i,y,q⟩:=h;cases g;obtain⟨u,rfl,m⟩:=p.one;cases m;obtain⟨z,its,n,r,hl,e⟩:=I.lstM f;obtain⟨w,a,k,o,t,j⟩:=I.lstM i;have d:its.toArray.size+a.toArray.size<=sizeLine:=by rw[yp,yp];lia
 have c:¬(!its.toArray.isEmpty&&Builtin.List.listTooLong (its.toArray.size+a.toArray.size))=true:=by
  rw[zkY d,Bool.and_false];exact yu
 refine call_meets F.slot_list_extend ⟨_,e,rfl⟩ F.entry_list_extend (F.args_list_extend_2 _ _)
  (AutoSeq1.list_extend_list_list_0 l its.toArray n b a.toArray k c (by rw[yp];lia) ⋯) ⟨e,j,?_⟩
 refine⟨.non,_,I.lset (its':=its++a) f e (by simp) (r.append o) ?_,rfl,q⟩;rw[yb];lia
noncomputable def zui:R2:=λx y H Q=>∃l b xs zs,x=.ref l/\y=.ref b/\H l=some (.lst xs)/\H b=some (.lst zs)/\xs.length+zs.length<=sizeLine/\∀p,H p=none->Q (.ref p) (upd H p (.lst (xs++zs)))
def op_cat:OpR X (binaryOp .Add) zui:=by
 intro pins s σ H x y v u Q I g k h;obtain⟨l,b,xs,zs,rfl,rfl,i,j,t,q⟩:=h;cases g;cases k;obtain⟨z,its,n,r,hl,e⟩:=I.lstM i;obtain⟨p,a,o,d,c,m⟩:=I.lstM j;refine PySem.P.add_list e m ?_ (by rw[yp,yp];lia);have f:its.toArray++a.toArray=(its++a).toArray:=by simp
 rw[f];exact⟨.ref _,_,I.lnew (t':=s.toks) (r.append d) (by rw[yb];lia),rfl,q _ I.fresh⟩
noncomputable def zux:R2:=λx y H Q=>∃l k xs,x=.ref l/\y=.int k/\H l=some (.lst xs)/\-(2 ^ 63)<=k/\k<2 ^ 63/\xs.length*k.toNat<=sizeLine /\
 ∀p,H p=none->Q (.ref p) (upd H p (.lst (List.replicate k.toNat xs).flatten))
def zsD{α:Type}(xs:List α)(k:Nat):(List.replicate k xs).flatten.length=k*xs.length:=by
 induction k with
 | zero=>simp
 | succ k ih=>rw[yaE,ya6,yb,ih,Nat.succ_mul,Nat.add_comm]
def zur:OpR X (binaryOp .Mult) zux:=by
 intro pins s σ H x y v u Q I p w h;obtain⟨l,k,xs,rfl,rfl,A,h1,h2,o,q⟩:=h;cases p;obtain⟨t,rfl⟩:=w;obtain⟨z,its,n,r,hl,e⟩:=I.lstM A;have f:its.toArray.size*k.toNat<=sizeLine:=by rw[yp,<- hl];exact o
 have g:¬its.toArray.size*k.toNat>(2 ^ 63-1)/8:=by
  have:(sizeLine:Nat)<=(2 ^ 63-1)/8:=by decide
  lia
 have c:¬(!Builtin.List.listFitsIndex k)=true:=by
  rw[fitsIndex_both h1 h2];exact yu
 have b:¬Builtin.List.listTooLong (its.toArray.size*k.toNat)=true:=by
  rw[zkY f];exact yu
 have d:List.foldl (λi j=>i++j) #[] (List.replicate (if its.toArray.isEmpty=true then 0 else k.toNat) its.toArray)=(List.replicate k.toNat its).flatten.toArray:=by
  have B:∀m:Nat,List.foldl (λi j=>i++j) #[] (List.replicate m its.toArray)=(List.replicate m its).flatten.toArray:=λm=>by
   have:=zjp its m []
   rw[List.nil_append]at this;exact this
  rw[B];cases its with
  | nil=>simp
  | cons a r'=>rw[if_neg (by simp)]
 refine wpAny_binaryOp_repeat_ref (T := "list") (U := "int") "0a" ⟨_,e,rfl⟩ (λs'=>typeIs_int s' k t) noFill_list_mul F.fills_int_mul F.slot_int_rmul repeat_list F.slot_int_index.lookup
  (call_meets F.slot_int_rmul (typeIs_int s k t) F.entry_int_rmul (F.args_int_rmul_2 _ _) (int___rmul___int_list k t l its.toArray n)
   ⟨e,rfl,⟨_,e,rfl⟩,call_meets F.slot_list_mul ⟨_,e,rfl⟩ F.entry_list_mul (F.args_list_mul_2 _ _) (AutoListH.list___mul___list_int_3 l its.toArray n k t c g b) ⟨e,?_⟩⟩)
 rw[d];exact⟨.ref _,_,I.lnew (t':=s.toks) (r.rep k.toNat) (by rw[zsD,Nat.mul_comm];exact o),rfl,q _ I.fresh⟩
end
section
variable {prog:Program}{w:World}{A:Around}{E:Value->Shared->Prop}{s:Shared}
end
section
variable {X:Cx}
end
end Internal
namespace Att
variable {h:Heap}{n:Nat}
open PySem PySem.W PySem.Calls PyProof.Rows
def zhQ{P:Params}:∀(ns:List Int) (vs:List Value),WellAll P h vs (ns.map WData.int)->IntsAre vs ns:=by
 intro ns
 induction ns with
 | nil=>
  intro vs w;rw[List.map_nil]at w;cases w;exact .nil
 | cons n ns ih=>
  intro vs w;rw[yaz]at w;cases w with
  | cons a b=>
   cases a;exact .cons _ _ (ih _ b)
def script_of{l:OpenLaw}(j:l.most=some n){P:Params}{h:Heap}{args:List WData}{b:List Value}
  (hpre:l.row.toRowW.claim.pre args=true) (hwl:WellAll P h b args) :
  ∃a vs ns,b=[Value.ref a]/\args=[WData.list (ns.map WData.int)]/\h.get? a=some { cls:=.type "list",data:=.seq vs.toArray }/\IntsAre vs ns/\ns.length<=n:=by
 have g:WShape.hasAll [] args [.list .int]=true:=(pre_splitW hpre).1;have i:l.pre.holds [] { args:=args }=true:=(pre_splitW hpre).2;obtain⟨d,r,rfl,h1,h2⟩:=hasAllW_cons g;obtain rfl:=hasAllW_nil h2;obtain⟨xs,rfl,k⟩:=hasW_list h1;obtain⟨ns,rfl⟩:=items_int k;have c:ns.length<=n:=by
  unfold OpenLaw.pre at i;have e:(WTm.not (.lt (.lit (.int (n:Int))) (.len (.arg 0)))).holds [] { args:=[.list (ns.map .int)] }=true:=by
   have e:=(holds_andW i).1;rw[j]at e;exact e
  have f:=condW_of e (w_not (w_lt w_lit (w_len_list (w_arg rfl))));rw[ye]at f;refine Nat.le_of_not_lt λq=>?_;have q':(n:Int)<((ns.length:Nat):Int):=by lia
  first
   | (rw[decide_eq_true q']at f;exact absurd f (by decide))
   | (simp at f;lia)
 cases hwl with
 | cons w1 w2=>
  cases w2;cases w1 with
  | list ho hall=>exact⟨_,_,ns,rfl,rfl,ho,zhQ ns _ hall,c⟩
def post_true(l:OpenLaw)(args:List WData):l.row.toRowW.claim.post args (.bool true) args=true:=
 postW_of (r:=l.row.toRowW) (X:=(true == true))
  (show WShape.has [] (.bool true) .bool=true by first | rfl | decide | simp[WShape.has,WShape.arms,WShape.armsAll])
  (show(WTm.eq .res (.lit (.bool true))).value [] { args:=args,res:=some (.bool true),after:=args }=some (.bool (true == true))from w_eq_bool (w_res rfl) w_lit) rfl
section
variable {prog:Program}{w:World}{A:Around}{E:Value->Shared->Prop}{s:Shared}{K:Frag}
noncomputable def ledger (h:Heap) (L d:Addr):List "0l":=(List.range h.objs.size).filterMap λa=>if a=L\/a=d then none else(h.get? a).map λo=>(a,o)
end
end Att
namespace Internal
variable {H H' H1 H2:Hp}{K:Fg}{a:Addr}{fd:FuncData}{h:Heap}{m n:Nat}{qual x:Str}{st:Stmt}{xs:List V}
open PySem PySem.Spec PyProof.Rows
theorem zja:∀{vs:List Value} {ns:List Int},IntsAre vs ns->Vals (ns.map V.int) vs
 | _,_,.nil=>.nil
 | _,_,.cons n t h=>.cons ⟨t,rfl⟩ (zja h)
noncomputable def zvp (H:Hp):Prop:=∀b,H b=none\/∃o xs,H b=some (.frz o (.lst xs))
abbrev KOf(_:K.In h):Fg:=K
noncomputable def zdx (s:Stmt):Arguments:=match s with
 | .FunctionDef _ a _ _ _ _ _ _ _ _=>a
 | _=>{ posonlyargs:=[],args:=[],vararg:=none,kwonlyargs:=[],kw_defaults:=[],kwarg:=none,defaults:=[] }
noncomputable def zcz (s:Stmt):List Stmt:=match s with
 | .FunctionDef _ _ b _ _ _ _ _ _ _=>b
 | _=>[]
noncomputable def zt (s:Stmt):Scope:=match s with
 | .FunctionDef _ _ _ _ _ _ sc _ _ _=>sc
 | _=>{ kind:=.function,names:=[],isGenerator:=false,isCoroutine:=false }
abbrev CX0:CXT:=λ_ _ _ _ _ _=>False
abbrev E0:XK:=λ_ _ _=>False
structure Fun(K:Fg)(x qual:Str)(st:Stmt)(f:Addr)(fd:FuncData):Prop where
 ex:∃(oc:Value) (od:Option Addr) (kV doc pm:Value) (an:Option Addr) (cdv ct:Value) (osl:Array (Option Value)),
  fd=PySem.W.fnOf x qual (zdx st) (zcz st) (zt st) .none kV doc pm an cdv ct/\K.lookup f=some ⟨oc,od,.func fd,osl⟩/\PySem.W.codeIn K cdv qual=true
 kp:PySem.W.keepIn K (.ref f)=true
section
variable {P:Program}{w:World}{K:Fg}{mg:Str->Option Value}{base:Heap}
def Fun.binds{f:Addr}{ps:List Str}(F:Fun K x qual st f fd)
  (h:∀(kV a c:Value) (an:Option Addr) (b ct:Value) (us:List Value),us.length=ps.length->bindArgs (PySem.W.fnOf x qual (zdx st) (zcz st) (zt st) .none kV a c an b ct) ⟨us,[]⟩=pure (ps.zip us)):Binds K fd ps []:=by
 obtain⟨g,j,kV,a,c,an,b,ct,e,rfl,i,d⟩:=F.ex;exact .all (h kV a c an b ct)
def zon{f:Addr}{g:Value}{h an:Option Addr}{d:Array (Option Value)}{kV b e a ct:Value}(l:K.lookup f=some ⟨g,h,.func (PySem.W.fnOf x qual (zdx st) (zcz st) (zt st) .none kV b e an a ct),d⟩)
  (c:PySem.W.codeIn K a qual=true) (k:PySem.W.keepIn K (.ref f)=true):Fun K x qual st f (PySem.W.fnOf x qual (zdx st) (zcz st) (zt st) .none kV b e an a ct):=⟨⟨g,h,kV,b,e,an,a,ct,d,rfl,l,c⟩,k⟩
end
section
variable {X:Cx}
def pv(i:Nat){pos:Pos}(a:autoParam (X.N[i]?=some x) Internal.aut2._auto_1)(b:Vis X.env.scope x:=by first | exact Or.inl rfl | exact Or.inr "0j" | exact Or.inr (Or.inr rfl))(hd:autoParam ((x == ("__debug__" : Str))=false) Internal.aut1._auto_1)
  (hcd:autoParam ((x == ("__classdict__" : Str))=false) Internal.aut1._auto_1):PE X (.Name x pos) (zm0 i):=zuf a b hd hcd
end
noncomputable def Same (H H':Hp):Prop:=∀b o,H b=some o->H' b=some o
def Same.refl(H:Hp):Same H H:=λ_ _ h=>h
def Same.trans(a:Same H H1)(b:Same H1 H2):Same H H2:=λc o h=>b c o (a c o h)
def Same.seq(e:Same H H')(h:SqL K H a xs):SqL K H' a xs:=by
 rcases h with(h | ⟨o,h⟩) | h
 ·exact .inl (.inl (e _ _ h))
 ·exact .inl (.inr ⟨o,e _ _ h⟩)
 ·exact .inr h
namespace BT
theorem abs:bootBuiltins "abs" = some (.builtin "abs"):=by decide +kernel
theorem len:bootBuiltins "len" = some (.builtin "len"):=by decide +kernel
theorem max:bootBuiltins "max" = some (.builtin "max"):=by decide +kernel
theorem min:bootBuiltins "min" = some (.builtin "min"):=by decide +kernel
theorem sum:bootBuiltins "sum" = some (.builtin "sum"):=by decide +kernel
theorem isinstance:bootBuiltins "isinstance" = some (.builtin "isinstance"):=by decide +kernel
theorem int:bootBuiltins "int" = some (.type "int"):=by decide +kernel
theorem bool:bootBuiltins "bool" = some (.type "bool"):=by decide +kernel
theorem list:bootBuiltins "list" = some (.type "list"):=by decide +kernel
theorem tuple:bootBuiltins "tuple" = some (.type "tuple"):=by decide +kernel
end BT
noncomputable def sz (i:Int):Nat:=Builtin.Int.intBits i
def sz_le{i:Int}:sz i<=n↔i.natAbs<2 ^ n:=by
 unfold sz Builtin.Int.intBits;by_cases h:i=0
 ·subst h;simp;exact ybh n
 ·have h':(i == 0)=false:=by simp[h]
  rw[h',if_neg "0a"];have a:i.natAbs≠0:=by lia
  rw[<- Nat.log2_lt a];lia
def zuP(i:Int):i.natAbs<2 ^ sz i:=sz_le.mp (yc _)
def ziB{i j:Int}(h:i.natAbs<=j.natAbs):sz i<=sz j:=sz_le.mpr (yad h (zuP j))
def zfG(i:Int):sz (-i)<=sz i:=ziB ⋯
def zpq{i j:Int}(h1:sz i<=n)(h2:sz j<=n):sz (i+j)<=n+1:=by
 rw[sz_le]at *;rw[ybx];lia
def zcl{i j:Int}(h1:sz i<=n)(h2:sz j<=m):sz (i*j)<=n+m:=by
 rw[sz_le]at *
 rw[ybF,ya5];exact Nat.mul_lt_mul'' h1 h2
def ziM(i j:Int):(i/j).natAbs<=i.natAbs:=Int.natAbs_ediv_le_natAbs i j
def zbO(i j:Int):sz (i/j)<=sz i:=ziB (ziM i j)
def zaJ{i:Int}(h:i.natAbs<2 ^ n):sz i<=n:=sz_le.mpr h
def sz200{i:Int}(h1:-1606938044258990275541962092341162602522202993782792835301376<i)(h2:i<1606938044258990275541962092341162602522202993782792835301376):sz i<=200:=zaJ (by
 have:(2:Nat) ^ 200=1606938044258990275541962092341162602522202993782792835301376:=by decide
 lia)
section
variable {X:Cx}
noncomputable def CMulS (i j:Int):Prop:=sz i+sz j<=134217728
def CMulS.ok{i j:Int}(h:CMulS i j):IntMulOk i j:=by
 unfold IntMulOk;have e:Builtin.Int.intTooBig (((Builtin.Int.intBits i:Nat):Int)+((Builtin.Int.intBits j:Nat):Int))=false:=by
  unfold Builtin.Int.intTooBig;have a:bitsLine=134217728:=by decide
  rw[decide_eq_false];rw[a];unfold CMulS sz at h;lia
 rw[e];simp
def CMulS.of{i j:Int}(h1:sz i<=n)(h2:sz j<=m)(h:n+m<=134217728):CMulS i j:=by unfold CMulS;lia
def op_mulS:OpR X (binaryOp .Mult) (rI CMulS λi j=>.int (i*j)):=opI λ_ _ _ _ _ _ _ a q=>mul_int q a.ok
noncomputable def zeb:R2:=λx y H Q=>rI CMulS (λi j=>.int (i*j)) x y H Q\/zux x y H Q
def zL:OpR X (binaryOp .Mult) zeb:=op_mulS.or zur
noncomputable def zia (K:Fg):R2:=λx y H Q=>rI0 (λi j=>.int (i+j)) x y H Q\/zui x y H Q\/zrn K x y H Q
def zrU:OpR X (binaryOp .Add) (zia X.K):=op_add.or (op_cat.or zrV)
noncomputable def zuI (i j:Int):Prop:=j≠0/\(sz j<=9000\/sz i<=sz j+4500)
noncomputable def zhC:R2:=rI zuI λi j=>.int (i.fdiv j)
def znT{j:Int}(h:j≠0):sz j=j.natAbs.log2+1:=by
 have a:j.natAbs≠0:=by lia
 have h1:sz j<=j.natAbs.log2+1:=sz_le.mpr (Nat.lt_log2_self);have h2:¬sz j<=j.natAbs.log2:=λz=>by
  have:=sz_le.mp z
  have:=Nat.log2_self_le a
  lia
 lia
def zjZ{i j:Int}(b:j≠0)(h:sz i<=sz j+4500):Builtin.divisionGoesByPylong i j=false:=by
 have d:(j == 0)=false:=by simpa using b
 have a:(if i == 0 then 0 else i.natAbs.log2/30+1)<=(if j == 0 then 0 else j.natAbs.log2/30+1)+150:=by
  rw[d];by_cases hi:i=0
  ·have:(i == 0)=true:=by simpa using hi
   rw[this];exact yM _
  ·have c:(i == 0)=false:=by simpa using hi
   rw[c];rw[znT hi,znT b]at h;show i.natAbs.log2/30+1<=j.natAbs.log2/30+1+150;lia
 show(decide (_>300)&&decide ((if i == 0 then 0 else i.natAbs.log2/30+1)>(if j == 0 then 0 else j.natAbs.log2/30+1)+150))=false
 rw[decide_eq_false (ybR.mpr a),Bool.and_false]
def zaG:OpR X (binaryOp .FloorDiv) zhC:=opI λi j _ _ _ _ _ a q=>floordiv_int a.1 q (.inl (a.2.elim (λh=>PyProof.noPylong_of_log2 (by
 have h1:=sz_le.mp h;by_cases b:j.natAbs=0
 ·rw[b];decide
 ·exact(Nat.log2_lt b).mpr h1)) (zjZ a.1)))
noncomputable def zm3:R2:=rI (λ_ j=>j≠0) λi j=>.int (i.fmod j)
def zP:OpR X (binaryOp .Mod) zm3:=zsW
mutual
inductive RepD(K:Fg)(H:Hp):V->PyData->Prop
 | non:RepD K H .non .none
 | bl (b:Bool):RepD K H (.bl b) (.bool b)
 | int (i:Int):RepD K H (.int i) (.int i)
 | str (x:Str) (ok:PyData.canLay0 (.str x)=true):RepD K H (.str x) (.str x)
 | lst {a:Addr} {vs:List V} {ds:List PyData}:SqL K H a vs->RepAll K H vs ds->RepD K H (.ref a) (.list ds)
 | tup {a:Addr} {vs:List V} {ds:List PyData}:SqT K H a vs->RepAll K H vs ds->RepD K H (.ref a) (.tuple ds)
inductive RepAll(K:Fg)(H:Hp):List V->List PyData->Prop
 | nil:RepAll K H [] []
 | cons {v:V} {d:PyData} {vs:List V} {ds:List PyData}:RepD K H v d->RepAll K H vs ds->RepAll K H (v :: vs) (d :: ds)
end
mutual
theorem RepD.reads{pins:List "0l"}{σ:St}{H:Hp}{s:Shared}(I:Inv X pins σ H s):∀{v:V} {d:PyData} {u:Value},RepD X.K H v d->RelV v u->∃as,Reads s.heap u d as
 | _,_,_,.non,r=>by cases(show _=Value.none from r);exact⟨_,.none⟩
 | _,_,_,.bl b,r=>by cases(show _=Value.bool b from r);exact⟨_,.bool b⟩
 | _,_,_,.int i,r=>by obtain⟨t,rfl⟩:=(show ∃t,_=Value.int i t from r);exact⟨_,.int i t⟩
 | _,_,_,.str x _,r=>by obtain⟨t,rfl⟩:=(show ∃t,_=Value.str x t from r);exact⟨_,.str x t⟩
 | _,_,_,.lst h k,r=>by
  cases(show _=Value.ref _ from r)
  obtain⟨its,c,⟨o,n,h1,h2,_,a⟩,_⟩:=I.list h;obtain⟨as,q⟩:=RepAll.reads I k c;exact⟨_,.list h1 h2 a (by simpa using q)⟩
 | _,_,_,.tup h k,r=>by
  cases(show _=Value.ref _ from r)
  obtain⟨its,c,⟨o,h1,h2,n,a⟩,_⟩:=I.tuple h;obtain⟨as,q⟩:=RepAll.reads I k c;exact⟨_,.tuple h1 h2 a (by simpa using q)⟩
theorem RepAll.reads{pins:List "0l"}{σ:St}{H:Hp}{s:Shared}(I:Inv X pins σ H s):∀{vs:List V} {ds:List PyData} {us:List Value},RepAll X.K H vs ds->Vals vs us->∃as,ReadsAll s.heap us ds as
 | _,_,_,.nil,.nil=>⟨_,.nil⟩
 | _,_,_,.cons h k,.cons r t=>by
  obtain⟨as,q⟩:=RepD.reads I h r;obtain⟨bs,p⟩:=RepAll.reads I k t;exact⟨_,.cons q p⟩
end
mutual
theorem RepD.lay{K:Fg}{H:Hp}:∀{v:V} {d:PyData},RepD K H v d->d.canLay0=true
 | _,_,.non=>rfl
 | _,_,.bl _=>rfl
 | _,_,.int _=>rfl
 | _,_,.str _ ok=>ok
 | _,_,.lst _ k=>by rw[PyData.canLay0];exact RepAll.lay k
 | _,_,.tup _ k=>by rw[PyData.canLay0];exact RepAll.lay k
theorem RepAll.lay{K:Fg}{H:Hp}:∀{vs:List V} {ds:List PyData},RepAll K H vs ds->PyData.canLayAll0 ds=true
 | _,_,.nil=>rfl
 | _,_,.cons h k=>by rw[PyData.canLayAll0,RepD.lay h,RepAll.lay k];rfl
end
def Same.seqT{K:Fg}{H H':Hp}{a:Addr}{xs:List V}(e:Same H H')(h:SqT K H a xs):SqT K H' a xs:=by
 rcases h with(h | ⟨o,h⟩) | h
 ·exact .inl (.inl (e _ _ h))
 ·exact .inl (.inr ⟨o,e _ _ h⟩)
 ·exact .inr h
mutual
theorem Same.rep{K:Fg}{H H':Hp}(e:Same H H'):∀{v:V} {d:PyData},RepD K H v d->RepD K H' v d
 | _,_,.non=>.non
 | _,_,.bl b=>.bl b
 | _,_,.int i=>.int i
 | _,_,.str x ok=>.str x ok
 | _,_,.lst h k=>.lst (e.seq h) (e.repAll k)
 | _,_,.tup h k=>.tup (e.seqT h) (e.repAll k)
theorem Same.repAll{K:Fg}{H H':Hp}(e:Same H H'):∀{vs:List V} {ds:List PyData},RepAll K H vs ds->RepAll K H' vs ds
 | _,_,.nil=>.nil
 | _,_,.cons h k=>.cons (e.rep h) (e.repAll k)
end
noncomputable def zem (K:Fg):R2:=λx y H Q=>(∃d e,RepD K H x d/\RepD K H y e/\min d.depth e.depth<=60/\Q (.bl (PyData.eqv d e)) H)\/rEq x y H Q
noncomputable def zeo (K:Fg):R2:=λx y H Q=>(∃d e,RepD K H x d/\RepD K H y e/\min d.depth e.depth<=60/\Q (.bl (!PyData.eqv d e)) H)\/rNe x y H Q
def zty(g:X.A.units+64<cLine):OpR X (compareOp .Eq) (zem X.K):=by
 refine OpR.or ?_ zu9;intro pins s σ H x y v u Q I c f h;obtain⟨d,e,h1,h2,hd,q⟩:=h;obtain⟨as,a⟩:=h1.reads I c;obtain⟨bs,b⟩:=h2.reads I f;exact PySem.SeqAt.compareEq_reads a b h1.lay h2.lay ⋯ ⟨.bl _,H,I,rfl,q⟩
def ztX(g:X.A.units+64<cLine):OpR X (compareOp .NotEq) (zeo X.K):=by
 refine OpR.or ?_ zu3;intro pins s σ H x y v u Q I c f h;obtain⟨d,e,h1,h2,hd,q⟩:=h;obtain⟨as,a⟩:=h1.reads I c;obtain⟨bs,b⟩:=h2.reads I f;exact PySem.SeqAt.compareNe_reads a b h1.lay h2.lay ⋯ ⟨.bl _,H,I,rfl,q⟩
noncomputable def zeQ (K:Fg):List V->Hp->VK->Prop:=λxs H Q=>∃x c t b cv,xs=[x,c]/\RelV c cv/\TyOf K H x t/\PySem.W.kitOne K t cv=some b/\Q (.bl b) H
def zlR:CallR X (.builtin "isinstance") (zeQ X.K):=by
 intro pins s σ H xs us Q I r h;obtain⟨x,c,t,b,cv,rfl,f,ty,e,q⟩:=h;obtain⟨u,d,rfl,i,g⟩:=vals2 r;have j:d=cv:=by
  cases c with
  | ty n=>exact(show d=_ from g).trans (show cv=_ from f).symm
  | ref a=>exact(show d=_ from g).trans (show cv=_ from f).symm
  | non=>exact(show d=_ from g).trans (show cv=_ from f).symm
  | bl b=>exact(show d=_ from g).trans (show cv=_ from f).symm
  | _=>obtain⟨_,rfl⟩:=f;simp[PySem.W.kitOne,PySem.W.kitCls]at e;cases ty<;>simp at e
 subst j;exact zo4 I i ty e λtk=>⟨.bl b,H,I.tok tk,rfl,q⟩
noncomputable def zmY (K:Fg) (ta:TE):TE:=λσ H Q=>ta σ H λx H1=>∃k,ziW K x H1 k/\Q (.bl (!k)) H1
def zr9{a:Expr}{ta:TE}{pos:Pos}(ha:PE X a ta):PE X (.UnaryOp .Not a pos) (zmY X.K ta):=by
 intro pins s σ H Q I h;refine UnaryOp_ (thn (ha pins s σ H _ I h) λv l i=>?_);obtain⟨x,H1,d,e,k,f,b⟩:=i;exact not_of (thn (zpl pins l σ H1 x v (λc H2=>Q (.bl (!c)) H2) d e ⟨k,f,b⟩) λc m ⟨H2,j,g⟩=>⟨.bl (!c),H2,j,rfl,g⟩)
end
noncomputable def zuC:List V->Hp->VK->Prop:=λxs H Q=>∃i,xs=[.int i]/\Q (.int (if i<0 then -i else i)) H
noncomputable def zis (K:Fg):List V->Hp->VK->Prop:=λxs H Q=>∃p ys,xs=[.ref p]/\(SqL K H p ys\/SqT K H p ys)/\Q (.int ys.length) H
noncomputable def zrA:List V->Hp->VK->Prop:=λxs H Q=>∃i j,xs=[.int i,.int j]/\Q (.int (if j>i then j else i)) H
noncomputable def zrH:List V->Hp->VK->Prop:=λxs H Q=>∃i j,xs=[.int i,.int j]/\Q (.int (if j<i then j else i)) H
noncomputable def zeC (K:Fg):List V->Hp->VK->Prop:=λxs H Q=>∃p ys,xs=[.ref p]/\(SqL K H p ys\/SqT K H p ys)/\∀l,H l=none->Q (.ref l) (upd H l (.lst ys))
section
variable {X:Cx}
def zfA:CallR X (.builtin "abs") zuC:=zqg
def zoc:CallR X (.builtin "len") (zis X.K):=zk6
def zd3(a:X.calm=true):CallR X (.builtin "max") zrA:=zpr a
def zed(a:X.calm=true):CallR X (.builtin "min") zrH:=znX a
def znc:CallR X (.type "list") (zeC X.K):=zk8
abbrev zuj(K:Fg)(ta:TE):TT:=λσ H Q=>ta σ H λx H'=>∃k,ziW K x H' k/\Q k H'
def zoO{a:Expr}{ta:TE}(ha:PE X a ta)(b:∀whole,isTrue a X.env whole=(do let v <- whole;standAt a.pos;holding [v] (truthy v))):PT X a (zuj X.K ta):=zp0 ha b
end
noncomputable def zqx (t u:TS):TS:=λD σ H=>∃M:St->Hp->Prop,t { D with nx:=M } σ H/\∀σ' H',M σ' H'->u D σ' H'
def zca{X:Cx}{st:Stmt}{rest:List Stmt}{t u:TS}(h1:PS X st t)(h2:PSs X rest u):PSs X (st :: rest) (zqx t u):=by
 intro pins s σ H D I h;obtain⟨M,c,b⟩:=h;refine wpAny_execs_cons (thn (h1 pins s σ H _ I c) λf e q=>?_);cases f with
 | next=>
  obtain⟨a,H',d,q'⟩:=q;exact h2 pins e a H' D d (b a H' q')
 | brk=>exact q
 | cont=>exact q
 | ret u=>exact q
noncomputable def NoX (CX:CXT):Prop:=∀(outer:List Env) (H:Hp) (s:Shared) (e:Value) (s':Shared),CX outer H s E0 e s'->False
def zu0{CX:CXT}{X:Cx}(h:NoX CX):zk9 CX X E0:=λ_ _ H s e s' _ q=>(h _ H s e s' q).elim
def Fun.okN{P:Program}{w:World}{K:Fg}{mg:Str->Option Value}{base:Heap}{CX:CXT}{x qual:Str}{st:Stmt}{f:Addr}{fd:FuncData}{N ps:List Str}{k:Nat}{sp:Sp}(F:Fun K x qual st f fd)(S:FnScope N ps (zt st))(len:∀vs H Q E,sp vs H Q E->vs.length=ps.length)
  (hbody:∀(a:Value) (A:Around) (outer:List Env) (s:Shared) (H:Hp) (vs:List V) (Q:VK) (E:XK),Room k (A.deeper (envOfC qual (zt st) s.heap.objs.size f a))->sp vs H Q E ->
   ∃t,PSs (zg1 CX P w K mg base N qual (zt st) f a A outer s H E).nox (zcz st) t/\t { nx:=λ_ H'=>Q .non H',rt:=Q } (start N vs) H):FnOk P w K mg base CX (k+1) f fd ps sp:=by
 obtain⟨j,m,kV,i,l,an,a,ct,e,rfl,g,b⟩:=F.ex;refine zry g b S len λA outer s H vs Q E d c=>?_;obtain⟨t,h,q⟩:=hbody a A outer s H vs Q E d c;exact⟨t,h.nox,q⟩
section
variable {σ:St}{H:Hp}{Q:VK}{D:Ends}{ta tb tc te:TE}{t u:TS}{K:Fg}
def zu7{i:Nat}{v:V}(e:σ[i]?=some (some v))(q:Q v H):zm0 i σ H Q:=⟨v,e,q⟩
def x_c{v:V}(q:Q v H):tC v σ H Q:=q
def zvw{g:Int->Int->V}{i j:Int}(q:Q (g i j) H):rI0 g (.int i) (.int j) H Q:=⟨i,j,rfl,rfl,q⟩
def zuX{i j:Int}(q:Q (.int (i+j)) H):zia K (.int i) (.int j) H Q:=.inl ⟨i,j,rfl,rfl,q⟩
def znL{i j:Int}(c:CMulS i j)(q:Q (.int (i*j)) H):zeb (.int i) (.int j) H Q:=.inl ⟨i,j,rfl,rfl,c,q⟩
def zuW{i j:Int}(a:0<j)(b:sz j<=9000)(q:Q (.int (i/j)) H):zhC (.int i) (.int j) H Q:=
 ⟨i,j,rfl,rfl,⟨⋯,.inl b⟩,by show Q (.int (i.fdiv j)) H;rw[Int.fdiv_eq_ediv_of_nonneg _ (yaN a)];exact q⟩
def zky{i j:Int}(a:j≠0)(b:sz j<=9000)(q:Q (.int (i.fdiv j)) H):zhC (.int i) (.int j) H Q:=⟨i,j,rfl,rfl,⟨a,.inl b⟩,q⟩
def zos{i j:Int}(a:0<j)(b:sz i<=sz j+4500)(q:Q (.int (i/j)) H):zhC (.int i) (.int j) H Q:=
 ⟨i,j,rfl,rfl,⟨⋯,.inr b⟩,by show Q (.int (i.fdiv j)) H;rw[Int.fdiv_eq_ediv_of_nonneg _ (yaN a)];exact q⟩
def zu1{i j:Int}(a:0<j)(q:Q (.int (i%j)) H):zm3 (.int i) (.int j) H Q:=
 ⟨i,j,rfl,rfl,⋯,by show Q (.int (i.fmod j)) H;rw[Int.fmod_eq_emod_of_nonneg _ (yaN a)];exact q⟩
def zvk{i j k:Int}(c:zno i j)(e:i ^ j.toNat=k)(q:Q (.int k) H):rI zno (λi j=>.int (i ^ j.toNat)) (.int i) (.int j) H Q:=⟨i,j,rfl,rfl,c,by show Q (.int (i ^ j.toNat)) H;rw[e];exact q⟩
def zuJ{i:Int}(q:Q (.int (-i)) H):rU (λi=>.int (-i)) (.int i) H Q:=⟨i,rfl,q⟩
def dI{i j:Int}:decide (V.int i=V.int j)=decide (i=j):=by simp
def dB{i j:Bool}:decide (V.bl i=V.bl j)=decide (i=j):=by simp
def zro{i j:Int}(q:Q (.bl (decide (i=j))) H):zem K (.int i) (.int j) H Q:=.inr ⟨rfl,by rw[dI];exact q⟩
def zuQ{i j:Int}(q:Q (.bl (!decide (i=j))) H):zeo K (.int i) (.int j) H Q:=.inr ⟨rfl,by rw[dI];exact q⟩
def zvj{i j:Bool}(q:Q (.bl (!decide (i=j))) H):zeo K (.bl i) (.bl j) H Q:=.inr ⟨rfl,by rw[dB];exact q⟩
def zj7{x y:V}{d e:PyData}(h1:RepD K H x d)(h2:RepD K H y e)(hd:min d.depth e.depth<=60)(q:Q (.bl (PyData.eqv d e)) H):zem K x y H Q:=.inl ⟨d,e,h1,h2,hd,q⟩
def zj8{x y:V}{d e:PyData}(h1:RepD K H x d)(h2:RepD K H y e)(hd:min d.depth e.depth<=60)(q:Q (.bl (!PyData.eqv d e)) H):zeo K x y H Q:=.inl ⟨d,e,h1,h2,hd,q⟩
def znM{a:Addr}{xs:List V}{i:Int}{v:V}(h:SqL K H a xs)(e:atI xs i=some v)(q:Q v H):rIx K (.ref a) (.int i) H Q:=.inl ⟨a,xs,i,v,rfl,rfl,h,e,q⟩
def zuO{a:Addr}{xs:List V}{i:Int}{v:V}(h:SqT K H a xs)(e:atI xs i=some v)(q:Q v H):rIx K (.ref a) (.int i) H Q:=.inr (.inl ⟨a,xs,i,v,rfl,rfl,h,e,q⟩)
def zvA{T:Bool->Prop}{b:Bool}(q:T b):∃k,V.bl b=.bl k/\T k:=⟨b,rfl,q⟩
def ztV{T:Bool->Prop}{b:Bool}(q:T b):∃k,ziW K (.bl b) H k/\T k:=⟨b,rfl,q⟩
def ztp(q:ta σ H λx H1=>∃c,x=.bl c/\if c=true then tb σ H1 Q else Q (.bl false) H1):zrK ta tb σ H Q:=q
def zu5(q:ta σ H λx H1=>∃c,x=.bl c/\if c=true then Q (.bl true) H1 else tb σ H1 Q):ztC ta tb σ H Q:=q
def zuh(q:ta σ H λx H1=>∃k,ziW K x H1 k/\Q (.bl (!k)) H1):zmY K ta σ H Q:=q
def zvd{p:Prop}[Decidable p]{A B:Prop}(h1:p->A)(h2:¬p->B):if decide p=true then A else B:=by
 by_cases h:p
 ·rw[if_pos (decide_eq_true h)];exact h1 h
 ·rw[if_neg (by rw[decide_eq_false h];exact yu)];exact h2 h
def zub{p:Prop}[Decidable p]{A B:Prop}(h1:¬p->A)(h2:p->B):if(!decide p)=true then A else B:=by
 by_cases h:p
 ·rw[if_neg (by rw[decide_eq_true h];exact yu)];exact h2 h
 ·rw[if_pos (by rw[decide_eq_false h];rfl)];exact h1 h
def zeE{A B:Prop}(h:A):if true=true then A else B:=by rw[if_pos rfl];exact h
def zh6{A B:Prop}(h:B):if false=true then A else B:=by rw[if_neg yu];exact h
def zrW{A B:Prop}(h:B):if(!true)=true then A else B:=zh6 h
def zsU{A B:Prop}(h:A):if(!false)=true then A else B:=zeE h
def zuZ(q:t { D with nx:=u D } σ H):ztW t u D σ H:=q
def znq(M:St->Hp->Prop)(q:t { D with nx:=M } σ H)(r:∀σ' H',M σ' H'->u D σ' H'):zqx t u D σ H:=⟨M,q,r⟩
def zay{R:List V->Hp->Prop}(q:R [] H):ziq σ H R:=q
def ztM{tr:TA}{R:List V->Hp->Prop}(q:ta σ H λx H1=>tr σ H1 λxs H2=>R (x :: xs) H2):zj5 ta tr σ H R:=q
def zth{sp:Sp}{E:XK}{tr:TA}(q:tr σ H λvs H1=>sp vs H1 Q E):zkb sp [] E tr σ H Q:=by unfold zkb;simp only[y3];exact q
noncomputable def zf3 (Q:VK) (xs:List V) (H:Hp):Prop:=xs.length<=sizeLine/\∀p,H p=none->Q (.ref p) (upd H p (.tup xs))
noncomputable def zqU (Q:VK) (xs:List V) (H:Hp):Prop:=xs.length<=sizeLine/\∀p,H p=none->Q (.ref p) (upd H p (.lst xs))
def zvg{tr:TA}(q:tr σ H (zf3 Q)):ztF tr σ H Q:=q
def zvi{tr:TA}(q:tr σ H (zqU Q)):zuE tr σ H Q:=q
def zuM{i:Int}(q:Q (.int (if i<0 then -i else i)) H):zuC [.int i] H Q:=⟨i,rfl,q⟩
def zuo{a:Addr}{xs:List V}(h:SqL K H a xs)(q:Q (.int xs.length) H):zis K [.ref a] H Q:=⟨a,xs,rfl,.inl h,q⟩
def ztT{a:Addr}{xs:List V}(h:SqT K H a xs)(q:Q (.int xs.length) H):zis K [.ref a] H Q:=⟨a,xs,rfl,.inr h,q⟩
def zuV{i j:Int}(q:Q (.int (if j>i then j else i)) H):zrA [.int i,.int j] H Q:=⟨i,j,rfl,q⟩
def zu4{i j:Int}(q:Q (.int (if j<i then j else i)) H):zrH [.int i,.int j] H Q:=⟨i,j,rfl,q⟩
def zE{N:List Str}{vs:List V}{σ0:St}(e:start N vs=σ0)(q:t D σ0 H):t D (start N vs) H:=by rw[e];exact q
def zkc{x c:V}{t' cv:Value}{b:Bool}(a:RelV c cv)(ty:TyOf K H x t')(e:PySem.W.kitOne K t' cv=some b)(q:Q (.bl b) H):zeQ K [x,c] H Q:=⟨x,c,t',b,cv,rfl,a,ty,e,q⟩
end
def Same.new{H:Hp}{p:Addr}(h:H p=none)(o:HO):Same H (upd H p o):=λb u q=>by rw[zZ (zV q h)];exact q
open PySem PySem.Spec PyProof.Rows
def ziG{env:Env}{scope:Scope}(h:∀y∈scope.names,y.2=.free->∃c,env.cells.lookup y.1=some c) :
  ∃cl,closureFor scope env=pure cl/\(∀x c,cl.lookup x=some c->env.cells.lookup x=some c)/\∀y∈scope.names,y.2=.free->cl.lookup y.1=env.cells.lookup y.1:=by
 unfold closureFor;have o:∀(names:List (Str × NameKind)) (b:List (Str × Addr)),(∀y∈names,y.2=.free->∃c,env.cells.lookup y.1=some c)->(∀x c,b.lookup x=some c->env.cells.lookup x=some c) ->
   ∃cl,(forIn (m:=Sem) names b fun(x:Str × NameKind) r=>if(x.2 == .free)=true then(do let a <- cellOf env x.1;pure (ForInStep.yield ((x.1,a) :: r)))else pure (ForInStep.yield r))=pure cl /\
    (∀x c,cl.lookup x=some c->env.cells.lookup x=some c)/\(∀y∈names,y.2=.free->cl.lookup y.1=env.cells.lookup y.1)/\(∀x,(∃c,b.lookup x=some c)->cl.lookup x=env.cells.lookup x):=by
  intro names
  induction names with
  | nil=>intro b _ ha;exact⟨b,rfl,ha,λ_ d=>(nomatch d),λx ⟨c,e⟩=>by rw[e,ha x c e]⟩
  | cons y r ih=>
   intro b s ha;obtain⟨n,k⟩:=y;have u:∀y∈r,y.2=.free->∃c,env.cells.lookup y.1=some c:=λy d=>s y (yR _ d);by_cases q:k=.free
   ·subst q;obtain⟨c,t⟩:=s (n,.free) yZ rfl;have p:∀x f,List.lookup x ((n,c) :: b)=some f->env.cells.lookup x=some f:=λx f e=>by
     rw[yz]at e;cases g:x == n with
     | true=>rw[g]at e;cases e;rw[beq_iff_eq.mp g];exact t
     | false=>rw[g]at e;exact ha x f e
    obtain⟨cl,e,h1,h2,i⟩:=ih ((n,c) :: b) u p;refine⟨cl,?_,h1,λy d l=>?_,λx v=>?_⟩
    ·rw[List.forIn_cons];simp only[cellOf,t,beq_self_eq_true,if_true];exact e
    ·rcases yA.mp d with rfl | d
     ·exact i n ⟨c,by rw[yz];simp⟩
     ·exact h2 y d l
    ·refine i x ?_;obtain⟨f,j⟩:=v;rw[yz];cases g:x == n with
     | true=>exact⟨c,rfl⟩
     | false=>exact⟨f,j⟩
   ·obtain⟨cl,e,h1,h2,i⟩:=ih b u ha;refine⟨cl,?_,h1,λy d l=>?_,i⟩
    ·rw[List.forIn_cons];have g:(k == NameKind.free)=false:=by simpa using q
     simp only[g,ybk,if_false];exact e
    ·rcases yA.mp d with rfl | d
     ·exact absurd l q
     ·exact h2 y d l
 obtain⟨cl,e,h1,h2,_⟩:=o scope.names [] h (λ_ _ z=>by simp at z);refine⟨cl,?_,h1,h2⟩
 show(forIn scope.names [] _ >>= λr=>pure r)=pure cl
 have j:(forIn (m:=Sem) scope.names [] fun(x:Str × NameKind) (r:List (Str × Addr))=>match x with | (name,kind)=>if(kind == .free)=true then(do let a <- cellOf env name;pure (ForInStep.yield ((name,a) :: r)))else pure (ForInStep.yield r))=pure cl:=e
 first
  | (rw[j];rfl)
  | (simp only[j];rfl)
theorem zcn:∀(names:List (Str × NameKind)) (n:Nat) (acc:List (Str × Addr)),cellsFrom n names acc=cellsFrom n names []++acc
 | [],_,_=>rfl
 | (name,kind) :: r,n,acc=>by
  unfold cellsFrom;split
  ·rw[zcn r (n+1) ((name,n) :: acc),zcn r (n+1) [(name,n)],yaL];rfl
  ·exact zcn r n acc
theorem zcT{α:Type}{x:Str}:∀{l r:List (Str × α)},(l++r).lookup x=match l.lookup x with | some c=>some c | none=>r.lookup x
 | [],_=>rfl
 | (k,v) :: l,r=>by
  rw[List.cons_append,yz,yz];cases x == k with
  | true=>rfl
  | false=>exact zcT (l:=l)
noncomputable def zsw (scope:Scope) (cs:List (Str × Addr)) (C:Addr) (env:Env):Env:=
 { scope:=relabel scope env,locals:=C,globals:=env.globals,cells:=cs,qual:=env.qual,func:=none,code:=env.code,frame:=env.frame,builtins:=env.builtins }
def zjQ{M:Model}{A:Around}{E:Value->Shared->Prop}{s:Shared}{scope:Scope}{globals:Addr}{cl:List (Str × Addr)}{qual:Str}{env:Env}{Q:Env->Shared->Prop}
  (hQ:∀(own:List (Str × Addr)) (s':Shared),own=cellsFrom (s.heap.objs.size+1) scope.names []->s'={ s with heap:=s'.heap }->(∀b o,s.heap.get? b=some o->s'.heap.get? b=some o) ->
   s'.heap.Ns s.heap.objs.size (λ_=>none)->(∀n c,(n,c)∈own->s'.heap.IsCell c none/\s.heap.objs.size+1<=c)->(own.Pairwise λx y=>x.2≠y.2) ->
   Q { scope:=scope,locals:=s.heap.objs.size,globals:=globals,cells:=own++cl,qual:=qual,func:=none,code:=env.code,frame:=env.frame,builtins:=env.builtins } s') :
  wpAny M A (newFunctionEnv scope globals cl [] qual none .none (some env)) Q E s:=by
 simp only[newFunctionEnv,Option.isSome_some,if_true];refine wpAny_bind (wpAny_alloc ?_);refine wpAny_bind (wpAny_layCells _ (λname kind cells=>by cases hkc:kind == NameKind.cell<;>simp[hkc]) _ _ _ _ ?_);have ok:=cellsFrom_ok scope.names (s.heap.push { cls:=.type "dict",data:=.dict #[] }) (s.heap.objs.size+1) [] ⟨λ_ _ a=>(nomatch a),List.Pairwise.nil⟩ (by rw[Heap.size_push];exact yc _);rw[Heap.size_push]at ok;rw[show({ s with heap:=s.heap.push { cls:=.type "dict",data:=.dict #[] } }:Shared).heap.objs.size=s.heap.objs.size+1 from Heap.size_push ..];rw[zcn];have fin:=hQ _ { s with heap:=pushCells (s.heap.push { cls:=.type "dict",data:=.dict #[] }) scope.names } rfl rfl (λb o e=>pushCells_keeps _ _ b o (Heap.get?_push_of_some _ e))
  ((Heap.Ns.new s.heap (.type "dict")).keeps (pushCells_keeps _ _)) ok.empty ok.apart
 exact wpAny_bind (wpAny_pure (wpAny_pure fin))
theorem zcY{env:Env}:∀{names:List (Str × NameKind)} {x:Str},names.lookup x=some .free ->
  (names.map fun(n,k)=>if"0c" then(n,NameKind.cell) else(n,k)).lookup x=some .cell \/
  (names.map fun(n,k)=>if"0c" then(n,NameKind.cell) else(n,k)).lookup x=some .free
 | [],_,h=>by simp at h
 | (n,k) :: r,x,h=>by
  have b:=@zcY env r x;show List.lookup x ((if"0c"=true then(n,NameKind.cell) else(n,k)) :: _)=_\/List.lookup x ((if"0c"=true then(n,NameKind.cell) else(n,k)) :: _)=_;by_cases a:"0c"=true
  ·rw[if_pos a];cases hx:x == n with
   | true=>left;simp[yz,hx]
   | false=>simp only[yz,hx]at h ⊢;exact b h
  ·rw[if_neg a];cases hx:x == n with
   | true=>simp only[yz,hx]at h ⊢;exact .inr h
   | false=>simp only[yz,hx]at h ⊢;exact b h
theorem zcZ{env:Env}:∀{names:List (Str × NameKind)} {x:Str},(names.map fun(n,k)=>if"0c" then(n,NameKind.cell) else(n,k)).lookup x=some .cell \/
  (names.map fun(n,k)=>if"0c" then(n,NameKind.cell) else(n,k)).lookup x=some .free->names.lookup x=some .cell\/names.lookup x=some .free
 | [],_,h=>by simp at h
 | (n,k) :: r,x,h=>by
  have b:=@zcZ env r x;have h':List.lookup x ((if"0c"=true then(n,NameKind.cell) else(n,k)) :: (r.map fun(n,k)=>if"0c" then(n,NameKind.cell) else(n,k)))=some .cell \/
   List.lookup x ((if"0c"=true then(n,NameKind.cell) else(n,k)) :: (r.map fun(n,k)=>if"0c" then(n,NameKind.cell) else(n,k)))=some .free:=h
  clear h;by_cases a:"0c"=true
  ·have c:k=.free:=by
    rw[yal,yal]at a;exact beq_iff_eq.mp a.1.1
   subst c;rw[if_pos a]at h';cases hx:x == n with
   | true=>right;simp[yz,hx]
   | false=>simp only[yz,hx]at h' ⊢;exact b h'
  ·rw[if_neg a]at h';cases hx:x == n with
   | true=>simp only[yz,hx]at h' ⊢;exact h'
   | false=>simp only[yz,hx]at h' ⊢;exact b h'
theorem zdf{env:Env}:∀{names:List (Str × NameKind)} {x:Str},names.lookup x=some .cell ->
  (names.map fun(n,k)=>if"0c" then(n,NameKind.cell) else(n,k)).lookup x=some .cell
 | [],_,h=>by simp at h
 | (n,k) :: r,x,h=>by
  have b:=@zdf env r x;show List.lookup x ((if"0c"=true then(n,NameKind.cell) else(n,k)) :: _)=_;by_cases a:"0c"=true
  ·rw[if_pos a];cases hx:x == n with
   | true=>simp[yz,hx]
   | false=>simp only[yz,hx]at h ⊢;exact b h
  ·rw[if_neg a];cases hx:x == n with
   | true=>simp only[yz,hx]at h ⊢;exact h
   | false=>simp only[yz,hx]at h ⊢;exact b h
def zst{names:List (Str × NameKind)}:∀{n:Nat} {a:List (Str × Addr)} {x:Str} {c:Addr},(x,c)∈cellsFrom n names a->(x,.cell)∈names\/(x,c)∈a:=by
 induction names with
 | nil=>intro n a x c h;exact .inr h
 | cons y r ih=>
  intro n a x c h;obtain⟨nm,k⟩:=y;unfold cellsFrom at h;split at h
  ·rename_i b;rcases ih h with h | h
   ·exact .inl (yR _ h)
   ·rcases yA.mp h with e | h
    ·cases e;rw[beq_iff_eq.mp b];exact .inl yZ
    ·exact .inr h
  ·rcases ih h with h | h
   ·exact .inl (yR _ h)
   ·exact .inr h
def zfw{names:List (Str × NameKind)}(nd:(names.map (·.1)).Nodup){x:Str}{k:NameKind}(h:(x,k)∈names):names.lookup x=some k:=by
 induction names with
 | nil=>cases h
 | cons y r ih=>
  obtain⟨n,k'⟩:=y;rw[yaz,yaJ]at nd;rw[yz];rcases yA.mp h with e | b
  ·cases e;simp
  ·have a:x≠n:=λe=>nd.1 (yX.mpr ⟨(x,k),b,e⟩);have c:(x == n)=false:=by simpa using a
   rw[c];exact ih nd.2 b
noncomputable def zaY (X:Cx) (scope:Scope) (Ni:List Str) (cs:List (Str × Addr)) (a:Shared) (b:Hp) (fp:List Addr) (pins:List "0l"):Cx:=
 { X with N:=Ni,s₀:=a,H₀:=b,env:=zsw scope cs a.heap.objs.size X.env,outer:=X.stack,stack:=X.stack,ex:=fp,fn:=λy=>decide (scope.names.lookup y=some .cell),pn:=X.pn++pins,xe:=λ_ _=>False }
structure CompScope(X:Cx)(scope:Scope)(Ni:List Str)(caps:List (Option Nat)):Prop where
 kind:scope.kind=.function
 ndn:(scope.names.map (·.1)).Nodup
 free:∀y∈scope.names,y.2=.free->X.env.kindOf y.1=some .cell\/X.env.kindOf y.1=some .free
 nd:Ni.Nodup
 len:caps.length=Ni.length
 cap:∀(i:Nat) (y:Str) (j:Nat),Ni[i]?=some y->caps[i]?=some (some j)->X.N[j]?=some y/\scope.names.lookup y=some .free
noncomputable def zex (a:Scope) (b:List Str) (scope:Scope) (Ni:List Str) (caps:List (Option Nat)):Bool:=
 (scope.kind == .function)&&decide ((scope.names.map (·.1)).Nodup)&&(scope.names.all λy=>y.2 != .free || a.names.lookup y.1 == some .cell || a.names.lookup y.1 == some .free) &&
 decide Ni.Nodup&&(caps.length == Ni.length)&&((Ni.zip caps).all λp=>match p.2 with | none=>true | some j=>b[j]? == some p.1&&scope.names.lookup p.1 == some .free)
def za7{X:Cx}{scope:Scope}{Ni:List Str}{caps:List (Option Nat)}(h:zex X.env.scope X.N scope Ni caps=true):CompScope X scope Ni caps:=by
 unfold zex at h;simp only[yal]at h;obtain⟨⟨⟨⟨⟨h1,h2⟩,b⟩,a⟩,d⟩,e⟩:=h;refine⟨beq_iff_eq.mp h1,of_decide_eq_true h2,λy f l=>?_,of_decide_eq_true a,beq_iff_eq.mp d,λi y j c k=>?_⟩
 ·have q:=ybv.mp b y f;rw[Bool.or_eq_true,Bool.or_eq_true]at q;rcases q with(q | q) | q
  ·rw[l]at q;simp at q
  ·exact .inl (beq_iff_eq.mp q)
  ·exact .inr (beq_iff_eq.mp q)
 ·have g:(y,some j)∈Ni.zip caps:=by
   refine ya (i:=i) ?_;rw[List.getElem?_zip_eq_some];exact⟨c,k⟩
  have q:=ybv.mp e _ g;simp only[yal]at q;exact⟨beq_iff_eq.mp q.1,beq_iff_eq.mp q.2⟩
noncomputable def zcc (caps:List (Option Nat)) (σ:St):St:=caps.map λo=>match o with | some j=>(σ[j]?).getD none | none=>none
section
variable {X:Cx}
structure CompAt(X:Cx)(scope:Scope)(own cl:List (Str × Addr))(s₃:Shared):Prop where
 oeq:own=cellsFrom (s₃.heap.objs.size+1) scope.names []
 apart:own.Pairwise λx y=>x.2≠y.2
 above:∀n c,(n,c)∈own->s₃.heap.objs.size+1<=c
 sub:∀x c,cl.lookup x=some c->X.env.cells.lookup x=some c
 all:∀y∈scope.names,y.2=.free->cl.lookup y.1=X.env.cells.lookup y.1
def CompAt.look{scope:Scope}{own cl:List (Str × Addr)}{a:Shared}(T:CompAt X scope own cl a){x:Str}{c:Addr}(h:(own++cl).lookup x=some c):(x,c)∈own\/X.env.cells.lookup x=some c:=by
 rw[zcT]at h;cases e:own.lookup x with
 | some c'=>rw[e]at h;cases h;exact .inl (mem_of_lookup e)
 | none=>rw[e]at h;exact .inr (T.sub x c h)
def zgL{pins:List "0l"}{σ:St}{H:Hp}{s:Shared}(I:Inv X pins σ H s){x:Str}{c:Addr}(h:X.env.cells.lookup x=some c):c<s.heap.objs.size:=by
 obtain⟨v,o,a,_⟩:=I.cell x c h;exact Heap.lt_size a
def zsI{scope:Scope}{Ni:List Str}{caps:List (Option Nat)}{own cl:List (Str × Addr)}{pins:List "0l"}{σ:St}{l:Hp}{i:Shared}{fp:List Addr}
  (S:CompScope X scope Ni caps) (T:CompAt X scope own cl i) (I:Inv X pins σ l i) (f:∀b∈fp,zcJ X pins l b) (hf:∀b∈fp,b<i.heap.objs.size):(zaY X scope Ni (own++cl) i l fp pins).Ok where
 mod:=I.ok.mod
 kind:=S.kind
 glob:=I.ok.glob
 blt:=I.ok.blt
 above:=yc _
 inj:=λx y c h1 h2=>by
  rcases T.look h1 with a | a
  ·rcases T.look h2 with b | b
   ·exact name_of_addr T.apart a b
   ·exact absurd (yx (zgL I b) (ybP (T.above x c a))) (yW _)
  ·rcases T.look h2 with b | b
   ·exact absurd (yx (zgL I a) (ybP (T.above y c b))) (yW _)
   ·exact I.ok.inj x y c a b
 has:=λx h=>by
  have h':=zcZ (env:=X.env) (names:=scope.names) (x:=x) h;show ∃c,(own++cl).lookup x=some c;rw[zcT];cases e:own.lookup x with
  | some c=>exact⟨c,rfl⟩
  | none=>
   rcases h' with h' | h'
   ·obtain⟨c,g⟩:=zeV (n:=i.heap.objs.size+1) h';rw[<- T.oeq,e]at g;cases g
   ·have k:=mem_of_lookup h';obtain⟨c,g⟩:=I.ok.has x (S.free _ k rfl);exact⟨c,(T.all _ k rfl).trans g⟩
 cab:=λx c h1 h2=>by
  have m:scope.names.lookup x=some .cell:=of_decide_eq_true h1;obtain⟨p,g⟩:=zeV (n:=i.heap.objs.size+1) m;rw[<- T.oeq]at g;have j:(own++cl).lookup x=some c:=h2;rw[zcT,g]at j;cases j
  have:=T.above x _ (mem_of_lookup g)
  show i.heap.objs.size<=_;lia
 hd:=I.ok.hd
 frames:=I.ok.frames
 stk:=.inl rfl
 exf:=λb d=>⟨yw (hf b d),λx c h=>by
  rcases T.look h with a | a
  ·exact λe=>absurd (yx (hf b d) (ybP (e▸T.above x c a))) (yW _)
  ·exact(f b d).2.2.2.2.1 x c a⟩
 bs:=I.bs
 bsz:=yi I.ok.bsz I.sz
 noex:=λb o e d=>by
  rcases(f b d).2.2.2.1 with z | z
  ·exact I.ok.noex b o e z
  ·have h1:b<X.base.objs.size:=Heap.lt_size e;have h2:=I.ok.bsz;exact absurd (yx h1 (yi h2 z)) (yW _)
 exfs:=λb d k=>by
  rcases yA.mp (I.stkSub b k)with z | z
  ·exact(f b d).2.1 z
  ·exact(f b d).2.2.1 z
 funs:=I.stack
 frf:=I.stkFree
def znn{scope:Scope}{Ni:List Str}{caps:List (Option Nat)}{own cl:List (Str × Addr)}{pins:List "0l"}{σ:St}{A:Hp}{t w:Shared}{fp:List Addr}
  (S:CompScope X scope Ni caps) (T:CompAt X scope own cl t) (I:Inv X pins σ A t) (f:∀b∈fp,zcJ X pins A b) (hf:∀b∈fp,b<t.heap.objs.size)
  (e4:w={ t with heap:=w.heap }) (k:∀b o,t.heap.get? b=some o->w.heap.get? b=some o) (ns:w.heap.Ns t.heap.objs.size λ_=>none) (oc:∀n c,(n,c)∈own->w.heap.IsCell c none) :
  Inv (zaY X scope Ni (own++cl) t A fp pins) [] (zcc caps σ) A w where
 ok:=zsI S T I f hf
 os:=by rw[e4];rfl
 bare:=by rw[e4];exact I.bare
 base:=Un.kept k
 loc:=by
  refine⟨_,ns,λi x v h1 h2 C=>?_⟩;have d:(zcc caps σ)[i]?=some (some v):=h2;unfold zcc at d;rw[yg]at d;cases ec:caps[i]? with
  | none=>rw[ec]at d;cases d
  | some o=>
   cases o with
   | none=>rw[ec]at d;cases d
   | some j=>
    rw[ec]at d;have g:(σ[j]?).getD none=some v:=yt d;have J:σ[j]?=some (some v):=by
     cases e:σ[j]? with
     | none=>rw[e]at g;cases g
     | some z=>rw[e]at g;exact congrArg some g
    obtain⟨G,s⟩:=S.cap i x j h1 ec;have F:=mem_of_lookup s;have E:=S.free _ F rfl;obtain⟨m,_,hl⟩:=I.loc;obtain⟨u,r,l⟩:=hl j x v G J (by rcases E with z | z;exact .inr (.inl z);exact .inr (.inr z));refine⟨u,r,.inr ⟨zcY s,?_⟩⟩;rcases l with⟨z,_⟩ | ⟨_,c,hc,q⟩
    ·have L:X.env.kindOf x=some .local:=z;rcases E with y | y<;>(have D:X.env.kindOf x=_:=y;rw[L]at D;cases D)
    ·refine⟨c,?_,q.keeps k⟩
     show(own++cl).lookup x=some c
     rw[zcT];cases eo:own.lookup x with
     | some c'=>
      rw[T.oeq]at eo;rcases zst (mem_of_lookup eo)with y | y
      ·have:=zfw S.ndn y
       rw[s]at this;cases this
      ·cases y
     | none=>exact(T.all _ F rfl).trans hc
 cell:=λx c h=>by
  rcases T.look h with a | a
  ·exact⟨_,oc x c a⟩
  ·obtain⟨v,q⟩:=I.cell x c a;exact⟨v,q.keeps k⟩
 free:=I.hok.fresh (yc _)
 freeC:=λx c h=>by
  rcases T.look h with a | a
  ·exact I.hok.fresh (by have:=T.above x c a;lia)
  ·exact I.freeC x c a
 pin:=λp M=>by
  have B:p∈X.pn++pins:=by
   have:p∈(X.pn++pins)++[]:=M
   simpa using this
  obtain⟨h1,h2,C,K,H⟩:=I.pin p B;refine⟨k _ _ h1,h2,yw (Heap.lt_size h1),λz=>?_,H⟩;rcases yA.mp (I.stkSub _ z)with y | y
  ·exact C y
  ·exact K y
 hok:=I.hok.kept k
 len:=by
  show(zcc caps σ).length=Ni.length
  unfold zcc;rw[ye];exact S.len
def zqG{scope:Scope}{Ni:List Str}{cs:List (Str × Addr)}{pins:List "0l"}{σ g:St}{c H':Hp}{a s':Shared}{fp:List Addr}(I:Inv X pins σ c a)(f:∀b∈fp,zcJ X pins c b)
  (J:Inv (zaY X scope Ni cs a c fp pins) [] g H' s'):Inv X pins σ H' s':=by
 have u:Un (frs X.stack) fp c H' a.heap s'.heap:=J.base;have q:=I.call (g':=s'.gens) (t':=s'.toks) (d':=s'.drawn) (ch:=fp) u J.hok J.bare λb d=>⟨(f b d).2.2.2.1,(f b d).2.1,(f b d).2.2.2.2.1,(f b d).2.2.2.2.2⟩
 have e:({ a with heap:=s'.heap,gens:=s'.gens,drawn:=s'.drawn,toks:=s'.toks }:Shared)=s':=by
  have h1:s'.os=a.os:=J.os;cases s';cases a;simp only at h1;subst h1;rfl
 rw[e]at q;exact q
noncomputable def PF (Y:Cx) (a:List Expr) (t:TT):Prop:=∀(pins:List "0l") (s:Shared) (σ:St) (H:Hp) (Q:Bool->Hp->Prop),Inv Y pins σ H s->t σ H Q ->
 wpAny (model Y.prog Y.w) Y.A (forIn a true λc r=>if r=true then do let ok <- isTrue c Y.env (eval c Y.env);pure (ForInStep.yield ok)else pure (ForInStep.yield r)) (TP Y pins σ Q) Y.xe s
abbrev zep:TT:=λ_ H T=>T true H
def zhZ{Y:Cx}:PF Y [] zep:=λpins s σ H Q I h=>wpAny_tests_nil ⟨H,I,h⟩
def zh7{Y:Cx}{c:Expr}{t:TT}(h:PT Y c t):PF Y [c] t:=λpins s σ H Q I q=>wpAny_tests_one (h pins s σ H Q I q)
noncomputable def zeP (wi:TI) (caps:List (Option Nat)) (g:TG) (tf:TT) (te:TE):TE:=λσ H Q=>wi σ H λJ H1=>∀D,H1 D=none ->
 ∃W:Nat->Nat->St->Hp->Prop,(∃m,W 0 m (zcc caps σ) (upd H1 D (.lst [])))/\∀i m σ' H',W i m σ' H' ->
  (J.stop i H'/\Q (.ref D) H')\/(J.go i H'/\∃N:St->Hp->Prop,(∀σ2 H2,N σ2 H2->∃m',m'<m/\W (i+1) m' σ2 H2) /\
   ∀x H2,J.yld i H' x H2->g x σ' H2 λa f=>tf a f λb c=>if b=true then te a c λv d=>zbz (.ref D) [v] d λ_ e=>N a e else N a c)
def zkl{P:Program}{w:World}{A:Around}{R:Result->Shared->Prop}{t:Shared}{elt tg iter:Expr}{a:List Expr}{p:Scope}{ps:Pos}{d f:Value}{b:Env}(J:Nat->Shared->Prop)
  (turn:∀n s,J n s->wpAny (model P w) A (pyNext d) (λr j=>match r with | none=>R (.ok .next) j | some v=>wpAny (model P w) A (letOwnedTupleGo tg d v) (λ_ g=>wpAny (model P w) A (assign tg b v) (λ_ q=>
   wpAny (model P w) A (forIn a true λc r=>if r=true then do let ok <- isTrue c b (eval c b);pure (ForInStep.yield ok)else pure (ForInStep.yield r)) (λok h=>if ok=true then wpAny (model P w) A (eval elt b) (λx o=>
    wpAny (model P w) A (call (.builtin "list.append") [f,x]) (λ_ k=>∃m,m<n/\J m k) (notedBy (model P w) A b λe s'=>R (.error e) s') o) (notedBy (model P w) A b λe s'=>R (.error e) s') h
     else ∃m,m<n/\J m h) (notedBy (model P w) A b λe s'=>R (.error e) s') q) (notedBy (model P w) A b λe s'=>R (.error e) s') g) (notedBy (model P w) A b λe s'=>R (.error e) s') j) (notedBy (model P w) A b λe s'=>R (.error e) s') s)
  (n0:Nat) (j0:J n0 t):codeAny (model P w) A (.compLoop (.ListComp elt [⟨tg,iter,a,0⟩] p ps) 0 d f b) R t:=by
 refine codeAny_loop rfl J (λn s y=>?_) n0 j0;show wpAny _ A ((compTurn (.ListComp elt [⟨tg,iter,a,0⟩] p ps) 0 d f b).onRaise (λx=>do noteFrame x b;theTreesLotGoes x)) _ _ s;refine wpAny_noted ?_;rw[compTurn_list];refine wpAny_bind (wpAny_standAt (wpAny_bind (wpAny_mono (turn n s y) (λr j h1=>?_) λ_ _ z=>z)));cases r with
 | none=>exact wpAny_pure h1
 | some v=>
  refine wpAny_bind (wpAny_mono h1 (λ_ g i=>wpAny_bind (wpAny_mono i (λ_ q h2=>wpAny_bind (wpAny_mono h2 (λok h l=>?_) λ_ _ z=>z)) λ_ _ z=>z)) λ_ _ z=>z);cases ok with
  | false=>exact wpAny_pure ⟨rfl,l⟩
  | true=>
   exact wpAny_bind (wpAny_bind (wpAny_mono l (λx o B=>wpAny_bind (wpAny_mono B (λ_ k u=>wpAny_pure (wpAny_pure ⟨rfl,u⟩)) λ_ _ z=>z)) λ_ _ z=>z))
def zn3{Y:Cx}{elt iter:Expr}{tg:Expr}{E:List Expr}{scope:Scope}{pos:Pos}{it D:Addr}{fp:List Addr}{L:Nat->Heap->Prop}{J:It}{g:TG}{tf:TT}{te:TE}{Q:VK}{R:Result->Shared->Prop}
  (T:Turn Y.prog Y.w Y.K tg J fp it L) (hc:Y.calm=true) (gY:PG Y tg g) (hF:PF Y E tf) (hE:PE Y elt te) (fpY:∀{H':Hp},(∀b∈fp,H' b=none)->∀b∈fp,zcJ Y [] H' b) (hx:∀e s,¬Y.xe e s)
  {W:Nat->Nat->St->Hp->Prop} (turn:∀i m σ' H',W i m σ' H' ->
   (J.stop i H'/\Q (.ref D) H')\/(J.go i H'/\∃N:St->Hp->Prop,(∀σ2 H2,N σ2 H2->∃M,M<m/\W (i+1) M σ2 H2) /\
    ∀x H2,J.yld i H' x H2->g x σ' H2 λH H3=>tf H H3 λb H4=>if b=true then te H H4 λv k=>zbz (.ref D) [v] k λ_ H6=>N H H6 else N H H4))
  (fin:∀σ' H' s',Inv Y [] σ' H' s'->Q (.ref D) H'->R (.ok .next) s') {m0:Nat} {σ0:St} {H0:Hp} {s0:Shared} (I0:Inv Y [] σ0 H0 s0) (st0:L 0 s0.heap) (fr0:∀b∈fp,H0 b=none) (w0:W 0 m0 σ0 H0) :
  codeAny (model Y.prog Y.w) Y.A (.compLoop (.ListComp elt [⟨tg,iter,E,0⟩] scope pos) 0 (.ref it) (.ref D) Y.env) R s0:=by
 refine zkl (λn s'=>∃i σ' H',Inv Y [] σ' H' s'/\L i s'.heap/\(∀b∈fp,H' b=none)/\W i n σ' H') ?_ m0 ⟨0,_,_,I0,st0,fr0,w0⟩;rintro n s5 ⟨i,F,k,I5,G,C,w5⟩;have c:∀{α:Type} {t:Sem α} {Q1:α->Shared->Prop} {E2:Value->Shared->Prop} {s1:Shared},wpAny (model Y.prog Y.w) Y.A t Q1 Y.xe s1->wpAny (model Y.prog Y.w) Y.A t Q1 E2 s1:=
  λh=>wpAny_mono h (λ_ _ q=>q) λe s z=>(hx e s z).elim
 rcases turn i n F k w5 with⟨stop,qn⟩ | ⟨go,N,hN,step⟩
 ·refine thn (T.done Y rfl rfl rfl hc i [] s5 F k _ I5 (fpY C) G stop) λr s6 ⟨hr,I6⟩=>?_;subst hr;exact fin F k s6 I6 qn
 ·refine thn (T.item Y rfl rfl rfl hc i [] s5 F k _ I5 (fpY C) G go) λr s6 ⟨u,hr,h6⟩=>?_;subst hr;refine thn h6 λ_ s7 j=>?_;obtain⟨x7,H7,I7,r7,y7,f,S⟩:=j;have a2:=I7.pinned (fpY S) (T.obj _ _ f);have a:∀{σ9:St} {p:Hp} {B:Shared},Inv Y ([]++zfS fp s7.heap) σ9 p B->N σ9 p->∃m,m<n/\∃i σ' H',Inv Y [] σ' H' B/\L i B.heap/\(∀b∈fp,H' b=none)/\W i m σ' H':=λ{σ9 p B} l n9=>by
   obtain⟨M,hm,w9⟩:=hN σ9 p n9;refine⟨M,hm,i+1,σ9,p,l.unpinned,T.keep _ _ _ f λb I o e=>(l.pin (b,o) (yq _ (yq _ (zdu I e)))).1,λb I=>?_,w9⟩;obtain⟨o,e,d⟩:=T.obj _ _ f b I;exact(l.pin (b,o) (yq _ (yq _ (zdu I e)))).2.1
  refine c (thn (gY _ s7 F H7 x7 u _ a2 r7 (step x7 _ y7)) λ_ s8 j=>?_);obtain⟨σ8,H8,I8,q8⟩:=j;refine c (thn (hF _ s8 _ _ _ I8 q8) λb B ⟨p,l,q9⟩=>?_);cases b with
  | false=>exact a l q9
  | true=>
   refine c (thn (hE _ B _ _ _ l q9) λy P j=>?_);obtain⟨a1,a4,Z,a0,U⟩:=j;refine c (thn (zi8 (X:=Y) _ P _ _ (.ref D) [a1] (.ref D) [y] _ Z rfl (.cons a0 .nil) U) λ_ a6 j=>?_);obtain⟨a3,a5,O,_,V⟩:=j;exact a O V
def zbb{scope:Scope}{Ni:List Str}{caps:List (Option Nat)}{x:Str}{b:Pos}{gi:Nat}{cs:List (Str × Addr)}{d:Shared}{c:Hp}{fp:List Addr}{pins:List "0l"}
  (S:CompScope X scope Ni caps) (a:scope.names.lookup x=some .local\/scope.names.lookup x=some .cell) (hgi:Ni[gi]?=some x):PG (zaY X scope Ni cs d c fp pins) (.Name x b) (zbU gi):=by
 rcases a with a | a
 ·exact zG S.nd hgi (.inl (lookup_relabel_local a)) (.inr (lookup_relabel_local a))
 ·refine zG S.nd hgi ?_ (.inl (decide_eq_true a))
  have:(relabel scope X.env).names.lookup x=some .cell:=zdf a
  exact .inr this
def zi6{elt iter:Expr}{tg:Expr}{t:List Expr}{scope:Scope}{pos pos':Pos}{wi:TI}{Ni:List Str}{caps:List (Option Nat)}{g:TG}{tf:TT}{te:TE}
  (hc:X.calm=true) (hi:PI X tg iter wi) (S:CompScope X scope Ni caps) (hG:CompScope X scope Ni caps->∀cs s₃ H₃ fp pins,PG (zaY X scope Ni cs s₃ H₃ fp pins) tg g)
  (hF:∀cs s₃ H₃ fp pins,PF (zaY X scope Ni cs s₃ H₃ fp pins) t tf) (hE:∀cs s₃ H₃ fp pins,PE (zaY X scope Ni cs s₃ H₃ fp pins) elt te)
  (hs:∀x,foldedSetIterable iter X.env x=pure x)
  {pins:List "0l"} {s:Shared} {σ:St} {H:Hp} {Q:VK} (I:Inv X pins σ H s) (h:zeP wi caps g tf te σ H Q) {use:Option (Value->Sem Unit)} {R:Value->Shared->Prop}
  (fin:∀(D C:Addr) (H':Hp) (s':Shared) (m:Str->Option Value),Inv X pins σ H' s'->Q (.ref D) H'->s'.heap.Ns C m->H' C=none->X.s₀.heap.objs.size<=C->C≠X.env.locals->(∀y c,X.env.cells.lookup y=some c->c≠C)->(∀p∈X.pn++pins,p.1≠C) ->
   compPost "0g" X.A X.xe use R (.ref D) C (.ok .next) s') :
  wpAny "0g" X.A (comprehension (.ListComp elt [⟨tg,iter,t,0⟩] scope pos) scope X.env pos' (newList []) false (eval iter X.env) use) R X.xe s:=by
 obtain⟨cl,Z,l,q⟩:=ziG (env:=X.env) (scope:=scope) λy V hf=>I.ok.has y.1 (S.free y V hf);refine wpAny_comprehension_free rfl hs Z S.kind (λy V hl=>by obtain⟨n,k⟩:=y;cases hl;exact zfw S.ndn V) (thn (hi pins s σ H _ I h) λv s1 h1=>thn h1 λa1 a h2=>?_);obtain⟨it,fp,tn,J,H2,e,I2,T,r,f2,hW⟩:=h2;subst e;have j:Inv X pins σ (upd H2 a.heap.objs.size (.lst [])) { a with heap:=a.heap.push { cls:=.type "list",dict:=none,data:=.seq ([]:List Value).toArray },toks:=a.toks }:=
  I2.laid (λb u e=>Heap.get?_push_of_some _ e) (yc _) ⟨yM _,[],_,.nil,Heap.get?_push_size _ rfl⟩
 have hD:H2 a.heap.objs.size=none:=I2.hok.fresh (yc _);obtain⟨W,⟨m0,w0⟩,turn⟩:=hW a.heap.objs.size hD;have i:tn 0 (a.heap.push { cls:=.type "list",dict:=none,data:=.seq ([]:List Value).toArray }):=T.keep _ _ _ r λb _ o e=>Heap.get?_push_of_some _ e;have G:∀b∈fp,zcJ X pins (upd H2 a.heap.objs.size (.lst [])) b:=λb d=>by
  obtain⟨o,e,_⟩:=T.obj _ _ r b d;exact⟨by rw[zZ (yw (Heap.lt_size e))];exact(f2 b d).1,(f2 b d).2⟩
 refine wpAny_newObj_type ?_;generalize hs3:({ a with heap:=a.heap.push { cls:=.type "list",dict:=none,data:=.seq ([]:List Value).toArray },toks:=a.toks }:Shared)=s3 at j;have eh:a.heap.push { cls:=.type "list",dict:=none,data:=.seq ([]:List Value).toArray }=s3.heap:=by rw[<- hs3]
 rw[eh]at i;have B:∀b∈fp,b<s3.heap.objs.size:=λb d=>by
  obtain⟨o,e,_⟩:=T.obj _ _ i b d;exact Heap.lt_size e
 refine zjQ λown s4 eo e4 k4 a0 E M=>?_;have T4:CompAt X scope own cl s3:=⟨eo,M,λn c hm=>(E n c hm).2,l,q⟩
 have I4:=znn (Ni:=Ni) (caps:=caps) S T4 j G B e4 k4 a0 λn c hm=>(E n c hm).1;have F:tn 0 s4.heap:=T.keep _ _ _ i λb _ o e=>k4 b o e;have P:∀{H':Hp},(∀b∈fp,H' b=none)->∀b∈fp,zcJ (zaY X scope Ni (own++cl) s3 (upd H2 a.heap.objs.size (.lst [])) fp pins) [] H' b:=λhn b d=>
  ⟨hn b d,yw (B b d),I4.ok.exfs b d,.inl d,(I4.ok.exf b d).2,λp hp=>by
   have K:p∈X.pn++pins:=by
    have:p∈(X.pn++pins)++[]:=hp
    simpa using this
   exact(G b d).2.2.2.2.2 p K⟩
 have f:=zn3 (Q:=Q) (elt:=elt) (iter:=iter) (scope:=scope) (pos:=pos) (R:=compPost "0g" X.A X.xe use R (.ref a.heap.objs.size) s3.heap.objs.size) (Y:=zaY X scope Ni (own++cl) s3 (upd H2 a.heap.objs.size (.lst [])) fp pins)
  T hc (hG S _ _ _ _ _) (hF _ _ _ _ _) (hE _ _ _ _ _) P (λ_ _ z=>z) turn (λσ' H' s' N qn=>by
   have O:=zqG j G N;obtain⟨m6,U,_⟩:=N.loc;exact fin _ _ H' s' m6 O qn U N.free j.sz (ybT j.lt) (λy c L=>yw (zgL j L)) λp hp=>yw (Heap.lt_size (j.pin p hp).1)) I4 F (λb d=>(G b d).1) w0
 exact codeAny_compStart_list f (T.self _ _ _ _ _ F f)
def zio{elt iter:Expr}{tg:Expr}{a:List Expr}{scope:Scope}{pos:Pos}{wi:TI}{Ni:List Str}{caps:List (Option Nat)}{g:TG}{tf:TT}{te:TE}
  (hc:X.calm=true) (hi:PI X tg iter wi) (S:CompScope X scope Ni caps) (hG:CompScope X scope Ni caps->∀cs s₃ H₃ fp pins,PG (zaY X scope Ni cs s₃ H₃ fp pins) tg g)
  (hF:∀cs s₃ H₃ fp pins,PF (zaY X scope Ni cs s₃ H₃ fp pins) a tf) (hE:∀cs s₃ H₃ fp pins,PE (zaY X scope Ni cs s₃ H₃ fp pins) elt te)
  (hs:autoParam (∀x,foldedSetIterable iter X.env x=pure x) Internal.aut3._auto_1):PE X (.ListComp elt [⟨tg,iter,a,0⟩] scope pos) (zeP wi caps g tf te):=by
 intro pins s σ H Q I h;rw[eval_ListComp];refine zi6 hc hi S hG hF hE hs I h λD C H' s' m j q ns c i h1 h2 d=>?_;refine⟨m,ns,λh' f=>?_⟩;exact⟨.ref D,H',j.turned (t':=s'.toks) (it:=C) (λb o k e=>(f.2 b k).trans e) c h1 (.inr i) h2 d,rfl,q⟩
def zeB{i:Nat}{y:Str}{f:Pos}{elt iter:Expr}{tg:Expr}{c:List Expr}{scope:Scope}{pos d:Pos}{wi:TI}{Ni:List Str}{caps:List (Option Nat)}{g:TG}{tf:TT}{te:TE}
  (hN:X.N.Nodup) (hyi:X.N[i]?=some y) (hy:X.env.scope.names.lookup y=some .local) (hc:X.calm=true) (hi:PI X tg iter wi) (S:CompScope X scope Ni caps) (hG:CompScope X scope Ni caps->∀cs s₃ H₃ fp pins,PG (zaY X scope Ni cs s₃ H₃ fp pins) tg g)
  (hF:∀cs s₃ H₃ fp pins,PF (zaY X scope Ni cs s₃ H₃ fp pins) c tf) (hE:∀cs s₃ H₃ fp pins,PE (zaY X scope Ni cs s₃ H₃ fp pins) elt te)
  (hsw:autoParam (swapsWith (.ListComp elt [⟨tg,iter,c,0⟩] scope pos) (some (.Name y f)) d.line X.env=pure true) Internal.aut2._auto_1)
  (hs:autoParam (∀x,foldedSetIterable iter X.env x=pure x) Internal.aut3._auto_1):PS X (.Assign [.Name y f] (.ListComp elt [⟨tg,iter,c,0⟩] scope pos) d) (zlh (zeP wi caps g tf te) (zbU i)):=by
 intro pins s σ H D I h;rw[exec_Assign_Name_used _ _ _ _ hsw];refine wpAny_bind (wpAny_standAt (wpAny_bind ?_));show wpAny _ X.A (do let _ <- comprehension (.ListComp elt [⟨tg,iter,c,0⟩] scope pos) scope X.env _ (newList []) false (eval iter X.env) (some (assign (.Name y f) X.env))) _ _ s;refine wpAny_bind (wpAny_mono (zi6 (R:=λ_ s'=>SP X pins D .next s') hc hi S hG hF hE hs I h λL C H' s' m B q ns n u h1 h2 r=>?_) (λ_ s' w=>wpAny_pure (wpAny_pure w)) λ_ _ e=>e);show wpAny _ X.A (assign (.Name y f) X.env (.ref L)) _ _ _;refine wpAny_assign_Name (zjI (v:=.ref L) B hN hyi (.inl hy) rfl (λF E k=>?_) (.inr hy));obtain⟨a,t,ha⟩:=k;have j:C≠a:=by
  rcases ha with z | z
  ·rw[z];exact h1
  ·exact λp=>h2 y a z p.symm
 refine⟨m,ns.sameBut t j,λh' l=>?_⟩;exact⟨_,H',E.turned (t':=F.toks) (it:=C) (λb o G e=>(l.2 b G).trans e) n h1 (.inr u) h2 r,q⟩
end
end Internal
namespace My
variable {q:Rat}
noncomputable def gc (a b:Int):Int:=(Int.gcd a b:Int)
def zju(a b:Int):0<=gc a b:=Int.natCast_nonneg _
def gc_comm(a b:Int):gc a b=gc b a:=by unfold gc;rw[Int.gcd_comm]
def gc_dvd_left(a b:Int):gc a b∣a:=Int.gcd_dvd_left a b
def gc_dvd_right(a b:Int):gc a b∣b:=Int.gcd_dvd_right a b
def zkF{k a b:Int}(h1:k∣a)(h2:k∣b):k∣gc a b:=Int.dvd_coe_gcd h1 h2
def gc_pos_right{a b:Int}(h:b≠0):0<gc a b:=by
 have:=Int.gcd_pos_of_ne_zero_right a h
 unfold gc;lia
def zlT{a b:Int}(h:a≠0):0<gc a b:=by rw[gc_comm];exact gc_pos_right h
def gc_zero_right{a:Int}(h:0<=a):gc a 0=a:=by unfold gc;rw[Int.gcd_zero_right];lia
def gc_abs(a b:Int):gc (if a<0 then -a else a) (if b<0 then -b else b)=gc a b:=by
 unfold gc;split<;>split<;>simp[Int.gcd]
def gc_step{a b:Int}:gc b (a%b)=gc a b:=by
 rw[gc_comm a b];refine Int.dvd_antisymm (zju _ _) (zju _ _) ?_ ?_
 ·refine zkF (gc_dvd_left b (a%b)) ?_;have e:a=b*(a/b)+a%b:=(Int.mul_ediv_add_emod a b).symm
  have:=Int.dvd_add (Int.dvd_mul_of_dvd_left (c:=a/b) (gc_dvd_left b (a%b))) (gc_dvd_right b (a%b))
  rwa [<- e]at this
 ·refine zkF (gc_dvd_left b a) ?_;rw[Int.emod_def];exact Int.dvd_sub (gc_dvd_right b a) (Int.dvd_mul_of_dvd_left (gc_dvd_left b a))
def zt6{a b:Int}(h:∀c,c∣a->c∣b->c∣1):gc a b=1:=by
 unfold gc;rw[Int.gcd_eq_one_iff.mpr h];rfl
def zsL{a b:Int}(h:gc a b=1){c:Int}(h1:c∣a)(h2:c∣b):c∣1:=h▸zkF h1 h2
def ze2{a b:Int}(h:gc a b=1):a.gcd b=1:=by unfold gc at h;lia
def zjc{a b:Int}(h:a.gcd b=1):gc a b=1:=by unfold gc;lia
def low_unique{x y:Int}(b:0<y)(c:gc x y=1)(e:Rat.divInt x y=q):x=q.num/\y="0k":=by
 obtain⟨d,rfl⟩:=Int.eq_ofNat_of_zero_le (yaN b);have a:x.natAbs.Coprime d:=by
  have:=ze2 c
  rw[ybG]at this;exact this
 have hd:d≠0:=by lia
 have:Rat.mk' x d hd a=q:=by rw[Rat.mk_eq_divInt];exact e
 subst this;exact⟨rfl,rfl⟩
def rat_low(q:Rat):gc q.num "0k"=1:=by
 refine zjc ?_;rw[ybG];exact q.reduced
def rat_den_pos(q:Rat):0<"0k":=by have:=q.den_nz;lia
def rat_self(q:Rat):Rat.divInt q.num "0k"=q:=ybl q
def zfq{a b:Int}(h:b≠0):gc (a/gc a b) (b/gc a b)=1:=by
 have e:=gc_pos_right (a:=a) h;unfold gc
 have:=Int.gcd_ediv (a:=a) (b:=b) (c:=(a.gcd b:Int)) (gc_dvd_left a b) (gc_dvd_right a b)
 rw[this];have d:0<a.gcd b:=by unfold gc at e;lia
 rw[yab,Nat.div_self d];rfl
def zjO{a b c:Int}(f:b≠0)(ha:c∣a)(e:c∣b):Rat.divInt (a/c) (b/c)=Rat.divInt a b:=by
 obtain⟨x,rfl⟩:=ha;obtain⟨y,rfl⟩:=e;have d:c≠0:=by rintro rfl;simp at f
 rw[yae _ d,yae _ d,ybC d]
def part_pos{t b:Int}(c:0<b):t/gc t b=(Rat.divInt t b).num/\b/gc t b=((Rat.divInt t b).den:Int):=by
 have d:=gc_pos_right (a:=t) (b:=b) ⋯;refine low_unique ?_ (zfq ⋯) (zjO ⋯ (gc_dvd_left _ _) (gc_dvd_right _ _));exact ybd c ⋯ (gc_dvd_right _ _)
def part_neg{t b:Int}(d:b<0):t.fdiv (-gc t b)=(Rat.divInt t b).num/\b.fdiv (-gc t b)=((Rat.divInt t b).den:Int):=by
 have a:-gc t b∣t:=Int.neg_dvd.mpr (gc_dvd_left _ _);have c:-gc t b∣b:=Int.neg_dvd.mpr (gc_dvd_right _ _);rw[Int.fdiv_eq_ediv_of_dvd a,Int.fdiv_eq_ediv_of_dvd c];have e:=part_pos (t:=-t) (b:=-b) ⋯;have g:gc (-t) (-b)=gc t b:=by unfold gc;simp[Int.gcd]
 rw[g,ybH]at e;rw[Int.ediv_neg,Int.ediv_neg];rw[Int.neg_ediv_of_dvd (gc_dvd_left _ _),Int.neg_ediv_of_dvd (gc_dvd_right _ _)]at e;exact e
def zda{a b m:Int}(h1:gc a m=1)(h2:gc b m=1):gc (a*b) m=1:=by
 refine zjc ?_;rw[Int.gcd_mul_right_left_of_gcd_eq_one (ze2 h1)];exact ze2 h2
def zcD{a b m:Int}(h1:gc m a=1)(h2:gc m b=1):gc m (a*b)=1:=by
 rw[gc_comm]at *;exact zda h1 h2
def zcU{a b m:Int}(h:gc b m=1)(d:a∣b):gc a m=1:=
 zt6 λ_ h1 h2=>zsL h (Int.dvd_trans h1 d) h2
def zbM{a b m:Int}(h:gc m b=1)(d:a∣b):gc m a=1:=by
 rw[gc_comm]at *;exact zcU h d
def zhB(m n k:Int):gc (n+k*m) m=gc n m:=by
 rw[gc_comm,gc_comm n m];unfold gc;rw[Int.gcd_add_mul_right_right]
def plus_low{a1 b1 a2 b2:Int}(h1:0<b1)(h2:0<b2)(M:gc a1 b1=1)(L:gc a2 b2=1) :
  let s:=gc b1 b2
  let t:=a1*(b2/s)+a2*(b1/s)
  let c:=gc t s
  0<(b1/s)*(b2/c)/\gc (t/c) ((b1/s)*(b2/c))=1/\Rat.divInt (t/c) ((b1/s)*(b2/c))=Rat.divInt a1 b1+Rat.divInt a2 b2:=by
 intro s t c;have z:0<s:=zlT ⋯;obtain⟨u,B⟩:=gc_dvd_left b1 b2;obtain⟨v,A⟩:=gc_dvd_right b1 b2;have o:b1/s=u:=by rw[show b1=s*u from B];exact yae _ ⋯
 have E:b2/s=v:=by rw[show b2=s*v from A];exact yae _ ⋯
 have i:b1=s*u:=B;have e:b2=s*v:=A;have j:gc u v=1:=by
  have:=zfq (a:=b1) (b:=b2) ⋯
  change gc (b1/s) (b2/s)=1 at this
  rwa [o,E]at this
 have m:0<u:=by
  rcases ybm 0 u with h | h
  ·exact h
  ·have:=yaq (yaN z) h;lia
 have k:0<v:=by
  rcases ybm 0 v with h | h
  ·exact h
  ·have:=yaq (yaN z) h;lia
 have y:t=a1*v+a2*u:=by show a1*(b2/s)+a2*(b1/s)=_;rw[o,E]
 have C:0<c:=gc_pos_right ⋯;obtain⟨x,H⟩:=gc_dvd_left t s;obtain⟨w,I⟩:=gc_dvd_right t s;have f:t=c*x:=H;have g:s=c*w:=I;have ex:t/c=x:=by rw[f];exact yae _ ⋯
 have l:0<w:=by
  rcases ybm 0 w with h | h
  ·exact h
  ·have:=yaq (yaN C) h;lia
 have F:b2/c=w*v:=by rw[e,g,ybe];exact yae _ ⋯
 have r:gc x w=1:=by
  have:=zfq (a:=t) (b:=s) ⋯
  change gc (t/c) (s/c)=1 at this;rw[ex,show s/c=w by rw[g];exact yae _ ⋯]at this;exact this
 have D:x∣t:=⟨c,by rw[f,yaO]⟩
 have q:gc t u=1:=by
  rw[y,zhB];exact zda (zbM M ⟨s,by rw[i,yaO]⟩) (by rw[gc_comm];exact j)
 have p:gc t v=1:=by
  rw[y,Int.add_comm,zhB];exact zda (zbM L ⟨s,by rw[e,yaO]⟩) j
 rw[ex,o,F];refine⟨yaW m (yaW l k),?_,?_⟩
 ·exact zcD (zcU q D) (zcD r (zcU p D))
 ·rw[Rat.divInt_add_divInt _ _ ⋯ ⋯];have K:s*c≠0:=yax (yaW z C);rw[<- ybC (n:=x) (d:=u*(w*v)) K];have J:s*c*x=a1*b2+a2*b1:=by
   have:s*c*x=s*(c*x):=by rw[ybe]
   rw[this,<- f,y,i,e,yb7];rw[ya7 s a1 v,ya7 s a2 u]
  have G:s*c*(u*(w*v))=b1*b2:=by
   have:b1*b2=s*u*(c*w*v):=by rw[i,e,<- g]
   rw[this];simp only[ybe,ya7,yaO]
  rw[J,G]
def times_low{a1 b1 a2 b2:Int}(h1:0<b1)(h2:0<b2)(u:gc a1 b1=1)(s:gc a2 b2=1) :
  let d:=gc a1 b2
  let x:=gc a2 b1
  0<(b1/x)*(b2/d)/\gc ((a1/d)*(a2/x)) ((b1/x)*(b2/d))=1/\Rat.divInt ((a1/d)*(a2/x)) ((b1/x)*(b2/d))=Rat.divInt a1 b1*Rat.divInt a2 b2:=by
 intro d x;have hd:0<d:=gc_pos_right ⋯;have l:0<x:=gc_pos_right ⋯;have h:gc (a1/d) (b2/d)=1:=zfq ⋯;have i:gc (a2/x) (b1/x)=1:=zfq ⋯;have c:d∣a1:=gc_dvd_left _ _;have b:d∣b2:=gc_dvd_right _ _;have e:x∣a2:=gc_dvd_left _ _;have a:x∣b1:=gc_dvd_right _ _;have m:a1/d∣a1:=⟨d,(yap c).symm⟩
 have t:b1/x∣b1:=⟨x,(yap a).symm⟩
 have o:a2/x∣a2:=⟨x,(yap e).symm⟩
 have q:b2/d∣b2:=⟨d,(yap b).symm⟩
 have j:0<b1/x:=ybd h1 ⋯ a;have p2:0<b2/d:=ybd h2 ⋯ b;refine⟨yaW j p2,?_,?_⟩
 ·refine zda (zcD ?_ h) (zcD i ?_)
  ·exact zbM (zcU u m) t
  ·exact zbM (zcU s o) q
 ·rw[Rat.divInt_mul_divInt];have r:d*x≠0:=yax (yaW hd l);rw[<- ybC (n:=(a1/d)*(a2/x)) (d:=(b1/x)*(b2/d)) r];have p:d*x*((a1/d)*(a2/x))=a1*a2:=by
   have f:=yap c;have g:=yap e;generalize a1/d=z1 at *
   generalize a2/x=z2 at *
   rw[<- f,<- g];simp only[ybe,ya7,yaO]
  have k:d*x*((b1/x)*(b2/d))=b1*b2:=by
   have f:=yap a;have g:=yap b;generalize b1/x=z1 at *
   generalize b2/d=z2 at *
   rw[<- f,<- g];simp only[ybe,ya7,yaO]
  rw[p,k]
end My
namespace Internal
variable {C a b l p:Addr}{E:XK}{H H' H1 H2:Hp}{J:It}{K:Fg}{P:Program}{Q:VK}{X:Cx}{caps:List (Option Nat)}{f:Nat->Int}{fp:List Addr}{g:TG}{h:Heap}{hi:Option Int}{i j k m n t':Nat}{its:List Value}{lo:Int}{ns:List Int}{o:HO}{pins:List (Addr × Obj)}{q:Rat}{s:Shared}{tf:TT}{tr:TA}{u:Value}{v y:V}{vs xs ys:List V}{w:World}{wi:TI}{σ:St}
open PySem PySem.Spec PyProof.Rows
def ztx{b:Bool}{A B:Prop}(h1:b=true->A)(h2:b=false->B):if b=true then A else B:=by
 cases b with
 | true=>rw[if_pos rfl];exact h1 rfl
 | false=>rw[if_neg yu];exact h2 rfl
def ztG{p:Prop}[Decidable p]{A B:Prop}(h1:p->A)(h2:¬p->B):if p then A else B:=by
 by_cases h:p
 ·rw[if_pos h];exact h1 h
 ·rw[if_neg h];exact h2 h
section
variable {K:Fg}{H:Hp}{Q:VK}
def zt7{i:Int}(q:Q (.bl true) H):zeQ K [.int i,.ty "int"] H Q:=zkc (t':=.type "int") (cv:=.type "int") (b:=true) rfl (.int i) (by with_unfolding_all rfl) q
def zuG{i:Int}(q:Q (.bl false) H):zeQ K [.int i,.ty "bool"] H Q:=zkc (t':=.type "int") (cv:=.type "bool") (b:=false) rfl (.int i) (by with_unfolding_all rfl) q
def zoW(h:H a=some (.tup xs))(q:Q (.bl true) H):zeQ K [.ref a,.ty "tuple"] H Q:=zkc (t':=.type "tuple") (cv:=.type "tuple") (b:=true) rfl (.tup h) (by with_unfolding_all rfl) q
def zuw(h:H a=some (.lst xs))(q:Q (.bl true) H):zeQ K [.ref a,.ty "list"] H Q:=zkc (t':=.type "list") (cv:=.type "list") (b:=true) rfl (.lst h) (by with_unfolding_all rfl) q
end
noncomputable def zrx:Sp:=λvs H Q _=>∃a b:Int,vs=[.int a,.int b]/\Q (.int (My.gc a b)) H
def zsZ{a b:Int}(q:Q (.int (My.gc a b)) H):zrx [.int a,.int b] H Q E:=⟨a,b,rfl,q⟩
def zlr(a:Int):0<=if a<0 then -a else a:=by split<;>lia
def zbQ{a b:Int}(h:b≠0)(g:sz b<=n):sz (My.gc a b)<=n:=by
 refine yi (ziB ?_) g;have h1:=My.gc_pos_right (a:=a) h;obtain⟨c,d⟩:=My.gc_dvd_right a b;have f:c≠0:=by rintro rfl;rw[Int.mul_zero]at d;exact h d
 have e:b.natAbs=(My.gc a b).natAbs*c.natAbs:=by rw[<- ybF,<- d]
 rw[e];exact Nat.le_mul_of_pos_right _ ⋯
noncomputable def cell (ns:List Int) (k:Int):Int:=ns.getD k.toNat 0
noncomputable def zkz (K:Fg):Sp:=λvs H Q _=>∃(a:Addr) (ns:List Int) (k:Int),vs=[.ref a,.int k]/\SqL K H a (ns.map V.int)/\0<=k/\Q (.int (cell ns k)) H
def zsp{k:Int}(c:0<=k)(h:k<((ns.map V.int).length:Int)):atI (ns.map V.int) k=some (.int (cell ns k)):=by
 rw[ye]at h;have a:k.toNat<ns.length:=by lia
 have b:k=((k.toNat:Nat):Int):=by lia
 have q:atI (ns.map V.int) ((k.toNat:Nat):Int)=some (.int ns[k.toNat]):=zal (by rw[yg,yl a];rfl);rw[<- b]at q;rw[q];unfold cell;rw[yf,yl a];rfl
def zqf{k:Int}(h:¬k<((ns.map V.int).length:Int)):cell ns k=0:=by
 rw[ye]at h;unfold cell;rw[yf,yG ⋯];rfl
def zp4:=λ{K:Fg} {a:Addr} {ns:List Int} {k:Int} {H:Hp} {Q:VK} {E:XK} hS h0 q=>@id (zkz K [.ref a,.int k] H Q E) ⟨a,ns,k,rfl,hS,h0,q⟩
noncomputable def zmu:Sp:=λvs H Q _=>∃i:Int,vs=[.int i]/\Q (.bl true) H
def zoS{a:Int}(q:Q (.bl true) H):zmu [.int a] H Q E:=⟨a,rfl,q⟩
noncomputable def IsQ (H:Hp) (a:Addr) (q:Rat):Prop:=H a=some (.tup [.int q.num,.int "0k"])
def IsQ.sq(h:IsQ H a q):SqT K H a [.int q.num,.int "0k"]:=SqT.of h
noncomputable def dQ (q:Rat):PyData:=.tuple [.int q.num,.int "0k"]
def IsQ.len(h:IsQ H a q)(k:Q (.int 2) H):zis K [.ref a] H Q:=ztT h.sq k
def IsQ.isT(h:IsQ H a q)(k:Q (.bl true) H):zeQ K [.ref a,.ty "tuple"] H Q:=zoW h k
def IsQ.rep(h:IsQ H a q):RepD K H (.ref a) (dQ q):=.tup h.sq (.cons (.int _) (.cons (.int _) .nil))
def IsQ.same(h:IsQ H a q)(e:Same H H'):IsQ H' a q:=e _ _ h
def zti(q:Rat):(dQ q).depth=1:=by simp[dQ,PyData.depth,PyData.depthAll]
def zap(q:Rat):0<"0k":=My.rat_den_pos q
def zrT{r:Rat}(h1:q.num=r.num)(h2:"0k"=(r.den:Int)):q=r:=by
 rw[<- My.rat_self q,<- My.rat_self r,h1,h2]
def ztm(q r:Rat):PyData.eqv (dQ q) (dQ r)=decide (q=r):=by
 have e:PyData.eqv (dQ q) (dQ r)=((q.num == r.num)&&("0k" == (r.den:Int))):=by simp[dQ,PyData.eqv,PyData.eqvAll]
 rw[e];by_cases h:q=r
 ·subst h;simp
 ·rw[decide_eq_false h];cases h1:(q.num == r.num) with
  | false=>rfl
  | true=>
   cases h2:("0k" == (r.den:Int)) with
   | false=>rfl
   | true=>exact absurd (zrT (eq_of_beq h1) (eq_of_beq h2)) h
noncomputable def NewQ (H:Hp) (Q:VK) (q:Rat):Prop:=∀p H',Same H H'->IsQ H' p q->Q (.ref p) H'
def NewQ.mk{x y:Int}(k:NewQ H Q q)(e:x=q.num/\y="0k"):zf3 Q [.int x,.int y] H:=by
 refine⟨by show 2<=sizeLine;decide,λp a=>k p _ (Same.new a _) ?_⟩;rw[e.1,e.2];exact zaa
noncomputable def SzQ (q:Rat) (n m:Nat):Prop:=sz q.num<=n/\sz "0k"<=m
def SzQ.mono{a b:Nat}(h:SzQ q n m)(h1:n<=a)(h2:m<=b):SzQ q a b:=⟨yi h.1 h1,yi h.2 h2⟩
def zgc{t b:Int}(a:0<b)(h1:sz t<=n)(h2:sz b<=m):SzQ (Rat.divInt t b) n m:=by
 have e:=My.part_pos (t:=t) a;unfold SzQ;rw[<- e.1,<- e.2];exact⟨yi (zbO _ _) h1,yi (zbO _ _) h2⟩
def zkG{t b:Int}(a:b≠0)(h1:sz t<=n)(h2:sz b<=m):SzQ (Rat.divInt t b) n m:=by
 rcases ybm 0 b with h | h
 ·exact zgc h h1 h2
 ·rw[<- ybH];exact zgc ⋯ (yi (zfG _) h1) (yi (zfG _) h2)
noncomputable def zlk:Sp:=λvs H Q _=>∃t b:Int,vs=[.int t,.int b]/\b≠0/\sz b<=8999/\NewQ H Q (Rat.divInt t b)
def zpL{t b:Int}(a:b≠0)(c:sz b<=8999)(q:NewQ H Q (Rat.divInt t b)):zlk [.int t,.int b] H Q E:=⟨t,b,rfl,a,c,q⟩
noncomputable def ziv (n:Nat):Sp:=λvs H Q _=>∃(a b:Addr) (q r:Rat),vs=[.ref a,.ref b]/\IsQ H a q/\IsQ H b r/\SzQ q n n/\SzQ r n n/\Q (.bl (decide (q<r))) H
def zi1:=λ{n:Nat} {a b:Addr} {q r:Rat} {H:Hp} {Q:VK} {E:XK} h1 h2 s1 s2 k=>@id (ziv n [.ref a,.ref b] H Q E) ⟨a,b,q,r,rfl,h1,h2,s1,s2,k⟩
noncomputable def zgm (n:Nat):Sp:=λvs H Q _=>∃(a b:Addr) (q r:Rat),vs=[.ref a,.ref b]/\IsQ H a q/\IsQ H b r/\SzQ q n n/\SzQ r n n/\(if r<q then Q (.ref b) H else Q (.ref a) H)
def zjk:=λ{n:Nat} {a b:Addr} {q r:Rat} {H:Hp} {Q:VK} {E:XK} h1 h2 s1 s2 k=>@id (zgm n [.ref a,.ref b] H Q E) ⟨a,b,q,r,rfl,h1,h2,s1,s2,k⟩
noncomputable def OkQ (q:Rat):Prop:=SzQ q 1000000 8999
def SzQ.ok(h:SzQ q n m)(h1:n<=1000000)(h2:m<=8999):OkQ q:=h.mono h1 h2
def zmP(q r:Rat):(q.num*((r.den:Int)/My.gc q.den r.den)+r.num*("0k"/My.gc q.den r.den))/My.gc (q.num*((r.den:Int)/My.gc q.den r.den)+r.num*("0k"/My.gc q.den r.den)) (My.gc q.den r.den)=(q+r).num /\
  ("0k"/My.gc q.den r.den)*((r.den:Int)/My.gc (q.num*((r.den:Int)/My.gc q.den r.den)+r.num*("0k"/My.gc q.den r.den)) (My.gc q.den r.den))=((q+r).den:Int):=by
 have h:=My.plus_low (a1:=q.num) (b1:=q.den) (a2:=r.num) (b2:=r.den) (zap q) (zap r) (My.rat_low q) (My.rat_low r);refine My.low_unique h.1 h.2.1 ?_;have e:=h.2.2;rw[My.rat_self,My.rat_self]at e;exact e
def zlP(q r:Rat):(q.num/My.gc q.num r.den)*(r.num/My.gc r.num q.den)=(q*r).num/\("0k"/My.gc r.num q.den)*((r.den:Int)/My.gc q.num r.den)=((q*r).den:Int):=by
 have h:=My.times_low (a1:=q.num) (b1:=q.den) (a2:=r.num) (b2:=r.den) (zap q) (zap r) (My.rat_low q) (My.rat_low r);refine My.low_unique h.1 h.2.1 ?_;have e:=h.2.2;rw[My.rat_self,My.rat_self]at e;exact e
def zs3(q r:Rat):q+r=Rat.divInt (q.num*r.den+r.num*q.den) ("0k"*r.den):=by
 have h:=Rat.divInt_add_divInt q.num r.num (d₁:=q.den) (d₂:=r.den) (yax (zap q)) (yax (zap r));rw[My.rat_self,My.rat_self]at h;exact h
def zsN(q r:Rat):q*r=Rat.divInt (q.num*r.num) ("0k"*r.den):=by
 have h:=Rat.divInt_mul_divInt q.num r.num (d₁:=q.den) (d₂:=r.den);rw[My.rat_self,My.rat_self]at h;exact h
def SzQ.add{r:Rat}{c a l:Nat}(h:SzQ q n m)(h':SzQ r c a)(d:n+a<=k)(b:c+m<=k)(hl:m+a<=l):SzQ (q+r) (k+1) l:=by
 rw[zs3];exact zgc (yaW (zap q) (zap r)) (zpq (yi (zcl h.1 h'.2) d) (yi (zcl h'.1 h.2) b)) (yi (zcl h.2 h'.2) hl)
def SzQ.mul{r:Rat}{a b l:Nat}(h:SzQ q n m)(h':SzQ r a b)(c:n+a<=k)(hl:m+b<=l):SzQ (q*r) k l:=by
 rw[zsN];exact zgc (yaW (zap q) (zap r)) (yi (zcl h.1 h'.1) c) (yi (zcl h.2 h'.2) hl)
def SzQ.neg(h:SzQ q n m):SzQ (-q) n m:=⟨by rw[Rat.neg_num];exact yi (zfG _) h.1,by rw[Rat.neg_den];exact h.2⟩
def zpW(a:1<=m):SzQ 0 n m:=⟨yi (zaJ (n:=0) "0a") (yM _),yi (zaJ (n:=1) "0a") a⟩
noncomputable def zkU:Sp:=λvs H Q _=>∃(a b:Addr) (q r:Rat),vs=[.ref a,.ref b]/\IsQ H a q/\IsQ H b r/\OkQ q/\OkQ r/\NewQ H Q (q+r)
def zrd:=λ{a b:Addr} {q r:Rat} {H:Hp} {Q:VK} {E:XK} h1 h2 s1 s2 k=>@id (zkU [.ref a,.ref b] H Q E) ⟨a,b,q,r,rfl,h1,h2,s1,s2,k⟩
noncomputable def ziL:Sp:=λvs H Q _=>∃(a b:Addr) (q r:Rat),vs=[.ref a,.ref b]/\IsQ H a q/\IsQ H b r/\OkQ q/\OkQ r/\NewQ H Q (q-r)
def zph:=λ{a b:Addr} {q r:Rat} {H:Hp} {Q:VK} {E:XK} h1 h2 s1 s2 k=>@id (ziL [.ref a,.ref b] H Q E) ⟨a,b,q,r,rfl,h1,h2,s1,s2,k⟩
noncomputable def zim:Sp:=λvs H Q _=>∃(a b:Addr) (q r:Rat),vs=[.ref a,.ref b]/\IsQ H a q/\IsQ H b r/\OkQ q/\OkQ r/\NewQ H Q (q*r)
def zpw:=λ{a b:Addr} {q r:Rat} {H:Hp} {Q:VK} {E:XK} h1 h2 s1 s2 k=>@id (zim [.ref a,.ref b] H Q E) ⟨a,b,q,r,rfl,h1,h2,s1,s2,k⟩
def zlS(r:Rat):-r.num=(-r).num/\(r.den:Int)=((-r).den:Int):=⟨by rw[Rat.neg_num],by rw[Rat.neg_den]⟩
def inv_pos{r:Rat}(h:0<r.num):(r.den:Int)=(r⁻¹).num/\r.num=((r⁻¹).den:Int):=
 My.low_unique h (by rw[My.gc_comm];exact My.rat_low r) (Rat.inv_def r).symm
def zsO{r:Rat}(h:r.num<0):-(r.den:Int)=(r⁻¹).num/\-r.num=((r⁻¹).den:Int):=
 My.low_unique ⋯ (by
  have g:=My.rat_low r;have e:My.gc (-(r.den:Int)) (-r.num)=My.gc r.num r.den:=by
   rw[My.gc_comm];unfold My.gc;simp[Int.gcd]
  rw[e];exact g) (by rw[ybH];exact(Rat.inv_def r).symm)
def SzQ.inv{r:Rat}(a:r.num≠0)(h:SzQ r n m):SzQ r⁻¹ m n:=by
 rw[Rat.inv_def];exact zkG a h.2 h.1
noncomputable def IsQs (H:Hp):List V->List Rat->Prop
 | [],[]=>True
 | v :: vs,q :: qs=>(∃a,v=.ref a/\IsQ H a q)/\IsQs H vs qs
 | _,_=>False
theorem IsQs.same{H H':Hp}(e:Same H H'):∀{vs:List V} {qs:List Rat},IsQs H vs qs->IsQs H' vs qs
 | [],[],_=>trivial
 | _ :: _,_ :: _,⟨⟨a,e1,h⟩,r⟩=>⟨⟨a,e1,h.same e⟩,r.same e⟩
theorem IsQs.length{H:Hp}:∀{vs:List V} {qs:List Rat},IsQs H vs qs->vs.length=qs.length
 | [],[],_=>rfl
 | _ :: _,_ :: _,⟨_,r⟩=>by rw[y9,y9,r.length]
theorem IsQs.app{H:Hp}{a:Addr}{q:Rat}(h:IsQ H a q):∀{vs:List V} {qs:List Rat},IsQs H vs qs->IsQs H (vs++[.ref a]) (qs++[q])
 | [],[],_=>⟨⟨a,rfl,h⟩,trivial⟩
 | _ :: _,_ :: _,⟨x,r⟩=>⟨x,IsQs.app h r⟩
theorem IsQs.get{H:Hp}:∀{vs:List V} {qs:List Rat} {i:Nat} {v:V},IsQs H vs qs->vs[i]?=some v->∃a q,v=.ref a/\qs[i]?=some q/\IsQ H a q
 | _ :: _,_ :: _,0,_,⟨⟨a,e,h⟩,_⟩,rfl=>⟨a,_,e,rfl,h⟩
 | _ :: _,_ :: _,i+1,_,⟨_,r⟩,e=>r.get (i:=i) (by simpa using e)
 | [],[],_,_,_,e=>by simp at e
theorem IsQs.rep{K:Fg}{H:Hp}:∀{vs:List V} {qs:List Rat},IsQs H vs qs->RepAll K H vs (qs.map dQ)
 | [],[],_=>.nil
 | _ :: _,_ :: _,⟨⟨a,e,h⟩,r⟩=>by subst e;exact .cons h.rep r.rep
noncomputable def zaX (qs:List Rat):Rat:=qs.foldl (·+·) 0
def zbr(qs:List Rat)(q:Rat):zaX (qs++[q])=zaX qs+q:=by unfold zaX;rw[yaf];rfl
theorem zjr:∀qs:List Rat,PyData.depthAll (qs.map dQ)<=1
 | []=>by simp[PyData.depthAll]
 | q :: qs=>by
  have h:=zjr qs;have h1:=zti q;simp only[yaz,PyData.depthAll];lia
def zrO(qs:List Rat):(PyData.list (qs.map dQ)).depth<=2:=by
 have h:=zjr qs;simp only[PyData.depth];lia
def szL{i:Int}(a:200<=n)(h1:-1606938044258990275541962092341162602522202993782792835301376<i)(h2:i<1606938044258990275541962092341162602522202993782792835301376):sz i<=n:=yi (sz200 h1 h2) a
noncomputable def ziP (K:Fg):Sp:=λvs H Q _=>∃(a:Addr) (xs:List V) (qs:List Rat),vs=[.ref a]/\SqL K H a xs/\IsQs H xs qs/\(∀q∈qs,OkQ q)/\(∀i,OkQ (zaX (qs.take i)))/\NewQ H Q (zaX qs)
def zpj:=λ{K:Fg} {a:Addr} {xs:List V} {qs:List Rat} {H:Hp} {Q:VK} {E:XK} h hq h1 h2 k=>@id (ziP K [.ref a] H Q E) ⟨a,xs,qs,rfl,h,hq,h1,h2,k⟩
section
variable {σ:St}{H:Hp}{Q:VK}{D:Ends}{ta tb tc te to:TE}{t u:TS}{K:Fg}
noncomputable def zm2 (J:It) (g:TG) (tb:TS):TS:=λD σ H=>∃W:Nat->Nat->St->Hp->Prop,(∃m,W 0 m σ H)/\∀i m σ H,W i m σ H ->
 (J.stop i H/\D.nx σ H)\/(J.go i H/\∃N:St->Hp->Prop,(∀σ' H',N σ' H'->∃m',m'<m/\W (i+1) m' σ' H')/\∀x H',J.yld i H x H'->g x σ H' λa H2=>tb { D with nx:=N,ct:=N,bk:=D.nx } a H2)
def zuK{tb:TS}(q:wi σ H λJ H1=>zm2 J g tb D σ H1):ztA wi g tb D σ H:=q
noncomputable def znG (R:It->Hp->Prop) (vs:List V) (H:Hp):Prop:=∃j:Int,vs=[.int j]/\-(2 ^ 62)<=j/\j<2 ^ 62/\R (Itr 0 j.toNat) H
noncomputable def znQ (R:It->Hp->Prop) (vs:List V) (H:Hp):Prop:=∃i j:Int,vs=[.int i,.int j]/\(-(2 ^ 62)<=i/\i<2 ^ 62/\-(2 ^ 62)<=j/\j<2 ^ 62)/\R (Itr i (j-i).toNat) H
noncomputable def zrc (K:Fg) (R:It->Hp->Prop) (x:V) (H:Hp):Prop:=∃a,x=.ref a/\(∃xs,SqL K H a xs)/\R (Itl K a) H
def zt2{R:It->Hp->Prop}(q:tr σ H (znG R)):zrF tr σ H R:=q
def ztR{R:It->Hp->Prop}(q:tr σ H (znQ R)):zrC tr σ H R:=q
def zuT{R:It->Hp->Prop}(q:te σ H (zrc K R)):znD K te σ H R:=q
def zsa{R:It->Hp->Prop}{j:Int}(h1:-4611686018427387904<=j)(h2:j<4611686018427387904)(q:R (Itr 0 j.toNat) H):znG R [.int j] H:=⟨j,rfl,h1,h2,q⟩
def zr3{R:It->Hp->Prop}{i j:Int}(b:-4611686018427387904<=i)(a:i<4611686018427387904)(h1:-4611686018427387904<=j)(h2:j<4611686018427387904)(q:R (Itr i (j-i).toNat) H):znQ R [.int i,.int j] H:=⟨i,j,rfl,⟨b,a,h1,h2⟩,q⟩
def zrr{R:It->Hp->Prop}(h:SqL K H a xs)(q:R (Itl K a) H):zrc K R (.ref a) H:=⟨a,rfl,⟨xs,h⟩,q⟩
def zix{R:St->Hp->Prop}(q:R (σ.set i (some v)) H):zbU i v σ H R:=q
def zcE{lo:Int}{n:Nat}{g:TG}{tb:TS}(a:Nat->St->Hp->Prop)(b:a 0 σ H)
  (hs:∀i σ H,i<n->a i σ H->g (.int (lo+i)) σ H λc H2=>tb { D with nx:=a (i+1),ct:=a (i+1),bk:=D.nx } c H2) (hd:∀σ H,a n σ H->D.nx σ H):zm2 (Itr lo n) g tb D σ H:=zo7 a b hs hd
def za4{g:TG}{tb:TS}(b:Nat->St->Hp->Prop)(c:b 0 σ H)(hl:∀i σ H,i<=xs.length->b i σ H->SqL K H a xs)
  (hs:∀i x σ H,xs[i]?=some x->b i σ H->g x σ H λd H2=>tb { D with nx:=b (i+1),ct:=b (i+1),bk:=D.nx } d H2) (hd:∀σ H,b xs.length σ H->D.nx σ H):zm2 (Itl K a) g tb D σ H:=zrj b c hl hs hd
def zvy{T:String}{r:V->List V->Hp->VK->Prop}(q:to σ H λx H1=>tyV K T x H1/\tr σ H1 λxs H2=>r x xs H2 Q):tBM K T r to tr σ H Q:=q
def zuL{A:Prop}(h:H l=some (.lst xs))(q:A):tyV K "list" (.ref l) H/\A:=⟨.inl ⟨rfl,xs,SqL.of h⟩,q⟩
def zpR(h:H l=some (.lst xs))(hl:xs.length<sizeLine)(q:Q .non (upd H l (.lst (xs++[y])))):zbz (.ref l) [y] H Q:=⟨l,xs,y,rfl,rfl,h,hl,q⟩
def zuu{k:Int}{R:Hp->Prop}(h:H l=some (.lst xs))(e:ixN xs.length k=some j)(q:R (upd H l (.lst (xs.set j v)))):zhU (.ref l) (.int k) v H R:=⟨l,xs,k,j,rfl,rfl,h,e,q⟩
def zpP(h:SqL K H a xs)(q:∀l,H l=none->Q (.ref l) (upd H l (.lst xs))):zeC K [.ref a] H Q:=⟨a,xs,rfl,.inl h,q⟩
def zh9{i:Int}(h:H a=some (.lst xs))(e:atI xs i=some v)(q:Q v H):rIx K (.ref a) (.int i) H Q:=znM (.of h) e q
noncomputable def zrB (R:Option Int->Hp->Prop) (x:V) (H:Hp):Prop:=∃i,x=.int i/\R (some i) H
def ztz{R:Option Int->Hp->Prop}(q:te σ H (zrB R)):zrI te σ H R:=q
def zs0{R:Option Int->Hp->Prop}{i:Int}(q:R (some i) H):zrB R (.int i) H:=⟨i,rfl,q⟩
def zvb{lo:Option Int}(h:SqL K H a xs)(q:∀p,H p=none->Q (.ref p) (upd H p (.lst (zbS xs lo hi)))):zfM K (.ref a) lo hi H Q:=⟨a,xs,rfl,h,q⟩
end
def Same.fresh(g:Same H H')(h:H' l=none):H l=none:=by
 cases e:H l with
 | none=>rfl
 | some o=>rw[g l o e]at h;cases h
def zlm(h:n<=100000):n<sizeLine:=yad h "0a"
def zct(h:n<=100000):n<=sizeLine:=yaw (zlm h)
noncomputable def But (l:Addr) (H H':Hp):Prop:=∀b,b≠l->H' b=H b
theorem But.upd{H:Hp}{l:Addr}{o:HO}:But l H (Internal.upd H l o):=λ_ h=>zZ h
def But.at(g:But l H H')(h:H a=some o)(n:a≠l):H' a=some o:=by rw[g a n];exact h
def But.same{a:Hp}(g:But l H H')(e:Same a H)(h:a l=none):Same a H':=λb o q=>by rw[g b (zV q h)];exact e b o q
noncomputable def LBut (l:Addr) (H H':Hp):Prop:=But l H H'/\∃xs,H l=some (.lst xs)
theorem LBut.tup{l:Addr}{H H':Hp}(g:LBut l H H'){a:Addr}{xs:List V}(h:H a=some (.tup xs)):H' a=some (.tup xs):=by
 obtain⟨ys,e⟩:=g.2;exact g.1.at h (zrv h e (by intro z;cases z))
def LBut.isQ(g:LBut l H H')(h:IsQ H a q):IsQ H' a q:=g.tup h
theorem LBut.isQs{l:Addr}{H H':Hp}(g:LBut l H H'):∀{vs:List V} {qs:List Rat},IsQs H vs qs->IsQs H' vs qs
 | [],[],_=>trivial
 | _ :: _,_ :: _,⟨⟨a,e,h⟩,r⟩=>⟨⟨a,e,g.isQ h⟩,g.isQs r⟩
def LBut.lst{l:Addr}{H H':Hp}(g:LBut l H H'){a:Addr}{o:HO}(h:H a=some o)(n:a≠l):H' a=some o:=g.1.at h n
theorem LBut.same{l:Addr}{a H H':Hp}(g:LBut l H H')(e:Same a H)(h:a l=none):Same a H':=g.1.same e h
def Same.at(e:Same H H')(h:H a=some o):H' a=some o:=e a o h
def Same.isQ(e:Same H H')(h:IsQ H a q):IsQ H' a q:=h.same e
def SqL.keep(h:SqL K H a xs)(e:Same H H'):SqL K H' a xs:=e.seq h
def Same.after(b:Same H1 H2)(a:Same H H1):Same H H2:=a.trans b
theorem Same.none{H H':Hp}{l:Addr}(h:H' l=none)(g:Same H H'):H l=none:=g.fresh h
def ztn(h':H b=none)(h:H a=some o):a≠b:=zV h h'
def zb8(h':H b=none)(h:H a=some o):b≠a:=(zV h h').symm
section
variable {σ:St}{H:Hp}{Q:VK}{D:Ends}{t u:TS}{K:Fg}
def zdI(hl:xs.length<=100000)(q:∀p H',H p=none->Same H H'->H' p=some (.tup xs)->Q (.ref p) H'):zf3 Q xs H:=⟨zct hl,λp a=>q p _ a (Same.new a _) zaa⟩
def ztO(hl:xs.length<=100000)(q:∀p H',H p=none->Same H H'->H' p=some (.lst xs)->Q (.ref p) H'):zqU Q xs H:=⟨zct hl,λp a=>q p _ a (Same.new a _) zaa⟩
def zan{x y:Int}(e:x=q.num/\y="0k")(k:NewQ H Q q):zf3 Q [.int x,.int y] H:=NewQ.mk k e
def zfN(h:H l=some (.lst xs))(hl:xs.length<=100000)(q:∀H',LBut l H H'->H' l=some (.lst (xs++[y]))->Q .non H'):zbz (.ref l) [y] H Q:=
 zpR h (zlm hl) (q _ ⟨But.upd,xs,h⟩ zaa)
def zbA{k:Int}{R:Hp->Prop}(h:H l=some (.lst xs))(e:ixN xs.length k=some j)(q:∀H',LBut l H H'->H' l=some (.lst (xs.set j v))->R H'):zhU (.ref l) (.int k) v H R:=
 zuu h e (q _ ⟨But.upd,xs,h⟩ zaa)
def zog(h:SqL K H a xs)(q:∀p H',H p=none->Same H H'->H' p=some (.lst xs)->Q (.ref p) H'):zeC K [.ref a] H Q:=zpP h λp b=>q p _ b (Same.new b _) zaa
def ztr{lo:Option Int}(h:SqL K H a xs)(q:∀p H',H p=none->Same H H'->H' p=some (.lst (zbS xs lo hi))->Q (.ref p) H'):zfM K (.ref a) lo hi H Q:=zvb h λp b=>q p _ b (Same.new b _) zaa
def zeq(i:Nat)(P:V->Hp->Prop)(q:t { D with nx:=λa H'=>∃v,a=σ.set i (some v)/\P v H' } σ H)(r:∀v H',P v H'->u D (σ.set i (some v)) H'):zqx t u D σ H:=
 ⟨_,q,λa H' ⟨v,e,p⟩=>by subst e;exact r v H' p⟩
end
def zbF{k:Int}(a:0<=k)(h:k<n):ixN n k=some k.toNat:=by unfold ixN;rw[if_pos a,if_pos h]
def zav{α:Type}{xs:List α}{k:Int}{v:α}(a:0<=k)(h:xs[k.toNat]?=some v):atI xs k=some v:=by
 have e:k=(k.toNat:Int):=by lia
 rw[e];exact zal h
section
variable {X:Cx}{pins:List (Addr × Obj)}{σ:St}{H:Hp}{s:Shared}{h':Heap}
def Inv.turnedL(I:Inv X pins σ H s)(k:∀b o,b∉fp->s.heap.get? b=some o->h'.get? b=some o)(f:∀b∈fp,zcJ X pins H b):Inv X pins σ H { s with heap:=h',toks:=t' }:=by
 have d:∀b u,H b=some u->b∉fp:=λb u e z=>by rw[(f b z).1]at e;cases e
 refine I.step (g':=s.gens) (d':=s.drawn) (ch:=fp) (λb g=>⟨(f b g).2.2.2.1,(f b g).2.1,(f b g).2.2.2.2.1,(f b g).2.2.2.2.2⟩) (λb o _ _ a e _=>k b o a e) (λb o _ _ a e _=>⟨o.slots,k b o a e⟩) (λ_ _ _ _ n=>n)
  (λb o a e=>⟨o,k b o a e⟩) (λ_ _ e=>e) (λ_ _ _ e=>e) (λb ps e=>⟨#[],by rw[e];simp⟩) (λm j=>?_) (λb u e=>?_) I.bare
 ·obtain⟨o,es,i,h,r⟩:=j;exact⟨o,es,i,k _ o (λz=>(f _ z).2.1 rfl) h,r⟩
 ·refine(I.hok b u e).stay (λc v a q=>k c v ?_ q) (λ_ q=>q) λ_ _ q=>q;rcases a with z | z
  ·rw[z];exact d b u e
  ·exact d c _ z
def Inv.turnedNew{t':Nat}(I:Inv X pins σ H s)(k:∀b o,b∉fp->s.heap.get? b=some o->h'.get? b=some o)(f:∀b∈fp,zcJ X pins H b)(i:s.heap.objs.size<=p)(new:ObjOk X.prog X.w (upd H p o) h' p o) :
  Inv X pins σ (upd H p o) { s with heap:=h',toks:=t' }:=by
 have h:∀b u,H b=some u->b∉fp:=λb u e z=>by rw[(f b z).1]at e;cases e
 have g:H p=none:=I.hok.fresh i;refine I.step (g':=s.gens) (d':=s.drawn) (ch:=fp) (λb d=>⟨(f b d).2.2.2.1,(f b d).2.1,(f b d).2.2.2.2.1,(f b d).2.2.2.2.2⟩) (λb o _ _ a e _=>k b o a e) (λb o _ _ a e _=>⟨o.slots,k b o a e⟩) (λb u _ e n=>?_)
  (λb o a e=>⟨o,k b o a e⟩) (λb xs e=>by rw[zZ (zV e g)];exact e) (λb u v e=>by rw[zZ (zV e g)];exact e) (λb ps e=>⟨#[],by rw[zZ (zV e g),e];simp⟩) (λm t=>?_) (λb u e=>?_) I.bare
 ·rw[zZ (yw (yx (Heap.lt_size e) i))];exact n
 ·obtain⟨o,es,l,j,r⟩:=t;exact⟨o,es,l,k _ o (λz=>(f _ z).2.1 rfl) j,r⟩
 ·by_cases d:b=p
  ·subst d;rw[zaa]at e;cases e;exact new
  ·rw[zZ d]at e;refine(I.hok b u e).stay (λc v a q=>k c v ?_ q) (λc q=>by rw[zZ (zV q g)];exact q) λc xs q=>by rw[zZ (zV q g)];exact q
   rcases a with z | z
   ·rw[z];exact h b u e
   ·exact h c _ z
end
def zby{o o':Obj}{m n:String}(e:h.get? a=some o)(c:o.cls=.type m)(g:h.get? b=some o')(f:o'.cls=.type n)(d:(m == n)=false):a≠b:=by
 rintro rfl;rw[e]at g;cases g;rw[c]at f;cases f;rw[beq_self_eq_true]at d;cases d
def tup2{x:V}{v:Value}(e:h.get? p=some { cls:=.type "tuple",data:=.seq #[u,v] })(b:RelV x u)(a:RelV y v):ObjOk P w H h p (.tup [x,y]):=
 ⟨zct (by simp),[u,v],.cons b (.cons a .nil),_,e,rfl,_,rfl⟩
noncomputable def Itn (K:Fg) (a:Addr):It:=
 ⟨λi H=>∃xs x,SqL K H a xs/\xs[i]?=some x,λi H v H'=>∃p x,H p=none/\v=.ref p/\(∀xs,SqL K H a xs->xs[i]?=some x)/\H'=upd H p (.tup [.int i,x]),λi H=>∃xs,SqL K H a xs/\xs.length<=i⟩
def zoJ{es:List Expr}{kx:Nat}{tp:Pos}(a e it:Addr)(r:e≠it):Turn P w K (.Tuple es kx tp) (Itn K a) [e,it] e (λi h=>(∃f,IsEnum h e it i f)/\h.IsListIter it a i) where
 mem:=by simp
 obj:=λi h st b l=>by
  obtain⟨⟨f,h1⟩,o,h2,c,d⟩:=st;rcases yA.mp l with z | z
  ·subst z;exact⟨_,h1,λv z=>by cases z⟩
  ·have e:b=it:=by simpa using z
   subst e;exact⟨o,h2,λv z=>by rw[d]at z;cases z⟩
 keep:=λi h h' st k=>by
  obtain⟨⟨f,h1⟩,h2⟩:=st;exact⟨⟨f,k e (by simp) _ h1⟩,h2.at λo q=>k it (by simp) o q⟩
 item:=by
  intro X hP G D O i pins s σ H E I y st A;subst hP G D;obtain⟨⟨f,m⟩,j⟩:=st;obtain⟨xs,x,t,F⟩:=A;obtain⟨its,C,p,hz⟩:=I.list t;obtain⟨u,V,ru⟩:=C.get F;refine wpAny_pyNext_enum_item m j p.isList (x:=u) (by simpa using V) r λh1 W B L S T=>?_;refine⟨_,rfl,wpAny_letOwnedTupleGo_enum W λh2 e2 M=>?_⟩;have n:e≠s.heap.objs.size:=yw (Heap.lt_size m);have g:Heap.SameBut e h1 h2:=M;have R:h2.get? s.heap.objs.size=some { cls:=.type "tuple",data:=.seq #[.int i s.toks,u] }:=(g.2 _ (ya9 n)).trans L;have U:∀b o,b∉[e,it]->s.heap.get? b=some o->h2.get? b=some o:=λb o l q=>by
   have N:b≠e:=λz=>l (by simp[z]);have n2:b≠it:=λz=>l (by simp[z]);exact(g.2 b N).trans (T b o N n2 q)
  have I2:Inv X pins σ (upd H s.heap.objs.size (.tup [.int i,x])) { s with heap:=h2,toks:=s.toks+1 }:=I.turnedNew U y (yc _) (tup2 R ⟨_,rfl⟩ ru);have Q:H s.heap.objs.size=none:=I.hok.fresh (yc _);refine⟨.ref s.heap.objs.size,_,I2,rfl,⟨_,x,Q,rfl,λys Y=>by rw[I.list_inj Y t];exact F,rfl⟩,⟨⟨_,e2⟩,B.at λo q=>(g.2 it (ya9 r)).trans q⟩,λb l=>?_⟩;have J:b≠s.heap.objs.size:=by
   rcases yA.mp l with z | z
   ·rw[z];exact n
   ·have e:b=it:=by simpa using z
    subst e;obtain⟨o,q,_⟩:=j;exact yw (Heap.lt_size q)
  rw[zZ J];exact(y b l).1
 done:=by
  intro X hP G D O i pins s σ H E I y st A;subst hP G D;obtain⟨⟨f,m⟩,j⟩:=st;obtain⟨xs,t,F⟩:=A;obtain⟨its,C,p,hz⟩:=I.list t;have hl:=C.length;refine wpAny_pyNext_enum_end (I.ok.hd O) m j p.isList (by simp;lia) λh1 Z=>⟨rfl,I.turnedL (t':=s.toks) (fp:=[e,it]) (λb o l q=>Z b o (λz=>l (by simp[z])) q) y⟩
 self:=λ_ _ _ _ _ st h=>by
  obtain⟨⟨f,m⟩,_⟩:=st;exact wpAny_pyIter_enum m h
noncomputable def Itz (K:Fg) (a b:Addr):It:=
 ⟨λi H=>∃xs ys x y,SqL K H a xs/\SqL K H b ys/\xs[i]?=some x/\ys[i]?=some y,λi H v H'=>∃p x y,H p=none/\v=.ref p/\(∀xs,SqL K H a xs->xs[i]?=some x)/\(∀ys,SqL K H b ys->ys[i]?=some y)/\H'=upd H p (.tup [x,y]),
  λi H=>∃xs ys,SqL K H a xs/\SqL K H b ys/\(xs.length<=i\/ys.length<=i)⟩
def zkA{z TI TO o p:Addr}{v w t r u:Value}{q s:Nat}{xs ys:Array Value}(e:IsZip h z TI TO v)(d:IsPair h TI w t)(c:IsPair h TO r u)(h1:h.IsListIter o a q)(h2:h.IsListIter p b s)
  (l1:h.IsList a xs) (l2:h.IsList b ys) (nT:TI≠TO) (ni:o≠p):ZipApart z TI TO o p a b:=by
 obtain⟨B,f,g,_⟩:=h1;obtain⟨A,j,i,_⟩:=h2;obtain⟨y,n,k,_⟩:=l1;obtain⟨x,m,l,_⟩:=l2;exact⟨zby d rfl e rfl "0a",zby c rfl e rfl "0a",zby f g e rfl "0a",zby j i e rfl "0a",nT,zby d rfl f g "0a",zby d rfl j i "0a",zby c rfl f g "0a",zby c rfl j i "0a",ni,zby n k e rfl "0a",zby n k c rfl "0a",zby n k f g "0a",zby n k j i "0a",zby m l e rfl "0a",zby m l c rfl "0a",zby m l f g "0a",zby m l j i "0a"⟩
def zqT{es:List Expr}{kx:Nat}{tp:Pos}(a b z TI TO m n:Addr)(nT:TI≠TO)(ni:m≠n):Turn P w K (.Tuple es kx tp) (Itz K a b) [z,TI,TO,m,n] z
  (λi h=>IsZip h z TI TO .none/\IsPair h TI (.ref m) (.ref n)/\(∃x y,IsPair h TO x y)/\h.IsListIter m a i/\h.IsListIter n b i) where
 mem:=by simp
 obj:=λi h st c g=>by
  obtain⟨j,d,⟨x,y,e⟩,⟨o1,Z,c1,d1⟩,⟨o2,R,c2,d2⟩⟩:=st;simp only[yA,yaH,or_false]at g;rcases g with rfl | rfl | rfl | rfl | rfl
  ·exact⟨_,j,λv q=>by cases q⟩
  ·exact⟨_,d,λv q=>by cases q⟩
  ·exact⟨_,e,λv q=>by cases q⟩
  ·exact⟨_,Z,λv q=>by rw[d1]at q;cases q⟩
  ·exact⟨_,R,λv q=>by rw[d2]at q;cases q⟩
 keep:=λi h h' st k=>by
  obtain⟨j,d,⟨x,y,e⟩,h1,h2⟩:=st;exact⟨k z (by simp) _ j,k TI (by simp) _ d,⟨x,y,k TO (by simp) _ e⟩,h1.at λo q=>k m (by simp) o q,h2.at λo q=>k n (by simp) o q⟩
 item:=by
  intro X hP T Y hc i pins s σ H E I M st O;subst hP T Y;obtain⟨j,d,⟨x0,y0,e⟩,h1,h2⟩:=st;obtain⟨xs,ys,x,y,J,l,F,hy⟩:=O;obtain⟨its,W,p,N⟩:=I.list J;obtain⟨V,t,B,C⟩:=I.list l;obtain⟨u,hu,ru⟩:=W.get F;obtain⟨u',U,Q⟩:=t.get hy;have A:=zkA j d e h1 h2 p.isList B.isList nT ni;refine wpAny_pyNext_zip_item A j d e h1 h2 p.isList B.isList (x:=u) (y:=u') (by simpa using hu) (by simpa using U) λg1 z1 S j1 j2 t1 a2 G=>?_;refine⟨_,rfl,wpAny_letOwnedTupleGo_zip z1 λL z2 a1=>?_⟩;have f:Heap.SameBut z g1 L:=a1;have D:z≠s.heap.objs.size:=yw (Heap.lt_size j);have t2:L.get? s.heap.objs.size=some { cls:=.type "tuple",data:=.seq #[u,u'] }:=(f.2 _ (ya9 D)).trans t1;have k2:∀c o,c∉[z,TI,TO,m,n]->s.heap.get? c=some o->L.get? c=some o:=λc o g q=>by
   have n1:c≠z:=λz=>g (by simp[z]);exact(f.2 c n1).trans (G c o n1 (λz=>g (by simp[z])) (λz=>g (by simp[z])) (λz=>g (by simp[z])) q)
  have I2:Inv X pins σ (upd H s.heap.objs.size (.tup [x,y])) { s with heap:=L,toks:=s.toks }:=I.turnedNew k2 M (yc _) (tup2 t2 ru Q);have hn:H s.heap.objs.size=none:=I.hok.fresh (yc _);refine⟨.ref s.heap.objs.size,_,I2,rfl,⟨_,x,y,hn,rfl,λys r=>by rw[I.list_inj r J];exact F,λys r=>by rw[I.list_inj r l];exact hy,rfl⟩,
   ⟨z2,(f.2 TI A.TIz).trans (G TI _ A.TIz A.TITO A.TIi1 A.TIi2 d),⟨_,_,(f.2 TO A.TOz).trans S⟩,j1.at λo q=>(f.2 m A.i1z).trans q,j2.at λo q=>(f.2 n A.i2z).trans q⟩,λc g=>?_⟩
  have a0:c≠s.heap.objs.size:=by
   simp only[yA,yaH,or_false]at g;obtain⟨o1,Z,_⟩:=h1;obtain⟨o2,R,_⟩:=h2;rcases g with rfl | rfl | rfl | rfl | rfl
   ·exact D
   ·exact yw (Heap.lt_size d)
   ·exact yw (Heap.lt_size e)
   ·exact yw (Heap.lt_size Z)
   ·exact yw (Heap.lt_size R)
  rw[zZ a0];exact(M c g).1
 done:=by
  intro X hP T Y hc i pins s σ H E I M st O;subst hP T Y;obtain⟨j,d,⟨x0,y0,e⟩,h1,h2⟩:=st;obtain⟨xs,ys,J,l,F⟩:=O;obtain⟨its,W,p,N⟩:=I.list J;obtain⟨V,t,B,C⟩:=I.list l;have hl:=W.length;have a3:=t.length;have A:=zkA j d e h1 h2 p.isList B.isList nT ni;refine wpAny_pyNext_zip_end (I.ok.hd hc) A j d e h1 h2 p.isList B.isList ?_ λg1 G=>⟨rfl,I.turnedL (t':=s.toks) (fp:=[z,TI,TO,m,n]) (λc o g q=>G c o (λz=>g (by simp[z])) (λz=>g (by simp[z])) (λz=>g (by simp[z])) (λz=>g (by simp[z])) q) M⟩
  rcases F with q | q
  ·exact .inl (by simp;lia)
  ·exact .inr (by simp;lia)
 self:=λ_ _ _ _ _ st h=>wpAny_pyIter_zip st.1 h
section
variable {X:Cx}{es:List Expr}{kx:Nat}{tp:Pos}
noncomputable def zni (K:Fg) (R:It->Hp->Prop) (vs:List V) (H:Hp):Prop:=∃a,vs=[.ref a]/\(∃xs,SqL K H a xs)/\R (Itn K a) H
noncomputable def zqL (K:Fg) (R:It->Hp->Prop) (vs:List V) (H:Hp):Prop:=∃a b,vs=[.ref a,.ref b]/\(∃xs,SqL K H a xs)/\(∃ys,SqL K H b ys)/\R (Itz K a b) H
abbrev zrm(K:Fg)(ta:TA):TI:=λσ H R=>ta σ H (zni K R)
abbrev zqF(K:Fg)(ta:TA):TI:=λσ H R=>ta σ H (zqL K R)
def zr4{a:Expr}{ta:TA}{p pos:Pos}(k:Gl X "enumerate")(y:X.mg "enumerate" = none)(ha:PA X [a] ta)(w:autoParam (starEach [a] X.env=[(false,eval a X.env)]) Internal.aut2._auto_1):PI X (.Tuple es kx tp) (.Call (.Name "enumerate" p) [a] [] pos) (zrm X.K ta):=by
 intro pins s σ H R I h;refine Call_ (zck I k y boot_enumerate (yaD (thn (ha pos pins s σ H _ I h) λus c ⟨vs,H1,f,m,x⟩=>?_) w rfl));obtain⟨l,e,⟨xs,t⟩,q⟩:=x;subst e;obtain⟨u,rfl,r⟩:=vals1 m;cases r;obtain⟨its,z,pl,A⟩:=f.list t;refine call_enumerate_list pl.isList λh1 g j o n=>?_;refine wpAny_pyIter_enum g ?_;have v:Inv X pins σ H1 { c with heap:=h1,toks:=c.toks }:=f.kept n;refine⟨c.heap.objs.size+1,[c.heap.objs.size+1,c.heap.objs.size],_,_,H1,rfl,v,zoJ l _ _ (Nat.succ_ne_self _),⟨⟨_,g⟩,j⟩,λb i=>?_,q⟩;have d:c.heap.objs.size<=b:=by
  simp only[yA,yaH,or_false]at i;rcases i with rfl | rfl<;>lia
 exact f.fpOk d (f.hok.fresh d)
def znZ{a b:Expr}{ta:TA}{p pos:Pos}(t:Gl X "zip")(J:X.mg "zip" = none)(ha:PA X [a,b] ta)(D:autoParam (starEach [a,b] X.env=[(false,eval a X.env),(false,eval b X.env)]) Internal.aut2._auto_1)(f:autoParam (starEach [b] X.env=[(false,eval b X.env)]) Internal.aut2._auto_1) :
  PI X (.Tuple es kx tp) (.Call (.Name "zip" p) [a,b] [] pos) (zqF X.K ta):=by
 intro pins s σ H R I h;refine Call_ (zck I t J boot_zip (yaD (thn (ha pos pins s σ H _ I h) λus c ⟨vs,H1,d,v,E⟩=>?_) (by rw[D,f]) (by rw[f];rfl)));obtain⟨l,m,e,⟨xs,B⟩,⟨ys,i⟩,q⟩:=E;subst e;obtain⟨u,L,rfl,r,F⟩:=vals2 v;cases r;cases F;obtain⟨its,M,pl,N⟩:=d.list B;obtain⟨z,x,j,G⟩:=d.list i;refine call_zip_2 pl.isList j.isList λh1 k ti to o A w y=>?_;refine wpAny_pyIter_zip k ?_;have C:Inv X pins σ H1 { c with heap:=h1,toks:=c.toks }:=d.kept y;refine⟨c.heap.objs.size+4,[c.heap.objs.size+4,c.heap.objs.size+2,c.heap.objs.size+3,c.heap.objs.size,c.heap.objs.size+1],_,_,H1,rfl,C,zqT l m _ _ _ _ _ (yw (yay _)) (yw (yay _)),⟨k,ti,⟨_,_,to⟩,o,A⟩,λb n=>?_,q⟩;have g:c.heap.objs.size<=b:=by
  simp only[yA,yaH,or_false]at n;rcases n with rfl | rfl | rfl | rfl | rfl<;>lia
 exact d.fpOk g (d.hok.fresh g)
end
section
variable {X:Cx}
def Inv.walk(I:Inv X pins σ H s)(c:SqL X.K H a xs):∃its:List Value,Vals xs its/\s.heap.IsList a its.toArray/\its.length=xs.length/\a<s.heap.objs.size:=by
 obtain⟨its,b,pl,d⟩:=I.list c;obtain⟨o,e,_⟩:=id pl.isList;exact⟨its,b,pl.isList,b.length.symm,Heap.lt_size e⟩
noncomputable def zak (ns:List Int):Int:=ns.foldl (·+·) 0
def zef(ns:List Int)(n:Int):zak (ns++[n])=zak ns+n:=by unfold zak;rw[yaf];rfl
theorem zgp(ns:List Int):∀j,j<=ns.length->preSum (λi=>ns.getD i 0) j=zak (ns.take j)
 | 0,_=>rfl
 | j+1,h=>by
  have a:j<ns.length:=by lia
  rw[preSum,zgp ns j ⋯,yaX a,zef];simp[List.getD,a]
noncomputable def znv (K:Fg):List V->Hp->VK->Prop:=λxs H Q=>∃a ns,xs=[.ref a]/\SqL K H a (List.map V.int ns)/\Q (.int (zak ns)) H
def zfr{v:Value}(a:Vals (ns.map V.int) its)(h:its.toArray[i]?=some v):∃t,v=.int (ns.getD i 0) t:=by
 have hl:=a.length;rw[ye]at hl;have hi:i<ns.length:=by
  have:=(Array.getElem?_eq_some_iff.mp h).1
  simp at this;lia
 obtain⟨u,b,r⟩:=a.get (show(ns.map V.int)[i]?=some (.int (ns.getD i 0)) by simp[List.getD,hi])
 have:v=u:=by
  have h':its[i]?=some v:=by simpa using h
  rw[b]at h';exact(yt h').symm
 obtain⟨t,rfl⟩:=r;exact⟨t,this⟩
def zoM(y:X.calm=true):CallR X (.builtin "sum") (znv X.K):=by
 intro pins s σ H xs us Q I r h;obtain⟨a,ns,rfl,x,q⟩:=h;obtain⟨u,rfl,n⟩:=vals1 r;cases n;obtain⟨its,t,pl,hl,c⟩:=I.walk x;refine call_sum_walkAnyS (wpAny_pyIter_list pl ?_);have f:a≠s.heap.objs.size:=yw c;refine⟨_,_,_,_,_,_,_,λi=>ns.getD i 0,rfl,(Walks.list (prog:=X.prog) (w:=X.w) (A:=X.A.in1) (I.ok.hd y) s.heap.objs.size a f its.toArray).toS,⟨⟨_,Heap.get?_push_size _ rfl,rfl,rfl⟩,pl.at λo e=>Heap.get?_push_of_some _ e⟩,λb l=>?_,λi v p=>zfr t p,λs' t' d=>?_⟩
 ·rw[Heap.size_push];simp only[yA,yaH,or_false]at l;rcases l with rfl | rfl
  ·exact yay _
  ·exact ybq c
 ·have m:(its.toArray).size=ns.length:=by rw[ye]at hl;simpa using hl
  rw[m,zgp ns _ (yc _),yr];have k:s'.gens=s.gens:=by have:=d.gens;first | exact this | exact this.symm
  have hd:=d.drawn;have g:=d.os;have j:Inv X pins σ H { s with heap:=s'.heap,toks:=s'.toks }:=I.kept λb o e=>d.heap b o (λz=>by
   simp only[yA,yaH,or_false]at z;subst z;exact absurd (Heap.lt_size e) (yW _)) (Heap.get?_push_of_some _ e)
  have e:({ s with heap:=s'.heap,toks:=s'.toks }:Shared)=s':=by
   cases s';cases s;simp only at k hd g;subst k hd g;rfl
  rw[e]at j;exact⟨.int (zak ns),H,j,⟨t',rfl⟩,q⟩
end
noncomputable def zvv (er:Addr) (s:Shared):Prop:=∃o,s.heap.objs[er]?=some o/\o.dict=none
structure Fly(P:Program)(w:World)(outer:List Env)(H:Hp)(s:Shared)(H':Hp)(er C t:Addr)(B:Heap)(s':Shared):Prop where
 os:s'.os=s.os
 bare:AllBare s'.gens
 un:Un (frs outer) [] H H' s.heap s'.heap
 hok:HOk P w H' s'.heap
 fly:Heap.FlyingW B outer er (.ref C) (.ref t) s'.heap
 old:∀b o,s.heap.get? b=some o->H b=none->b∉frs outer->B.get? b=some o
 has:∀b o,s.heap.get? b=some o->b∉frs outer->∃u,B.get? b=some u
 trk:∀b o u,H' b=some o->s'.heap.get? b=some u->B.get? b=some u
 nod:zvv er s'
noncomputable def CXF (P:Program) (w:World):CXT:=λouter H s E e s'=>∃er C t B H',e=.ref er/\Fly P w outer H s H' er C t B s'/\E (.ref C) none H'
def zrq:NoX (CXF P w):=λ_ _ _ _ _ ⟨_,_,_,_,_,_,_,h⟩=>h
section
variable {P:Program}{w:World}{outer:List Env}{H H':Hp}{s s':Shared}{er C t:Addr}{B h:Heap}
noncomputable def znN (er C:Addr) (h:Heap):Prop:=∃oe:Obj,PySem.W.InstAt h er oe C none
noncomputable def zva (er C:Addr):HO:=.ext (znN er C)
end
noncomputable def bmV:List Value:=[.type "ValueError",.type "Exception",.type "BaseException",.type "object"]
def zpc{prog:Program}{w:World}{A:Around}{E:Value->Shared->Prop}{s:Shared}{K:Fg}{er C:Addr}{l:Obj}{Q:Option Value->Shared->Prop}
  (ga:PySem.W.findIn K (.ref C) "__getattribute__" = some (some (.builtin "BaseException.__getattribute__"))) (gn:PySem.W.findIn K (.ref C) "__getattr__" = some none)
  (hf:PySem.W.findObj K C none "__class__" = some (.bind (.builtin "getset_descriptor.__get__") (.builtin "object.__class__"))) (mo:PySem.W.mroIn K C (.type "object")=some true) (be:PySem.W.mroIn K C (.type "BaseException")=some true)
  (X:K.In s.heap) (i:PySem.W.InstAt s.heap er l C none) (q:Q (some (.ref C)) { s with toks:=s.toks+1 }):wpAny (model prog w) A (getAttr? (.ref er) "__class__") Q E s:=by
 obtain⟨n,g,d,t,os⟩:=s;have e:=i.type (M:=model prog w);have j:=PySem.W.looks_findIn (M:=model prog w) X ga;have b:=PySem.W.looks_findIn (M:=model prog w) X gn;have f:=PySem.W.looks_find (M:=model prog w) X i hf;have m:=PySem.W.looks_mroIn (M:=model prog w) X be;have h:=PySem.F.attr_ValueError.ga.bind (.ref er);unfold getAttr? getAttrBy? getAttrBy;refine wpAny_bind (wpAny_mkText (wpAny_bind (wpAny_attempt (wpAny_holding (wpAny_bind (e.at (wpAny_bind (j.at ?_))))))));show wpAny _ _ (getAttrByItsOwn _ _ _ _ _ _) _ _ _;unfold getAttrByItsOwn hookBefore;refine wpAny_bind (b.at ?_);refine wpAny_bind (wpAny_attempt (wpAny_holding ?_));show wpAny _ _ (boundAndCalled _ _ _) _ _ _;unfold boundAndCalled;rw[h];refine wpAny_bind (wpAny_pure ?_);refine wpAny_call (codeAny_call_builtin PySem.F.attr_ValueError.ga.plain PySem.F.entry_bexc_ga ?_);have k:builtinKind "BaseException.__getattribute__" = some .slot:=by decide +kernel
 have c:splitId "BaseException.__getattribute__" = some ("BaseException", "__getattribute__"):=by decide +kernel
 simp only[checkBuiltinCall,k,c];unfold isInstance;refine wpAny_bind (wpAny_bind (e.at (m.at ?_)));simp only[Bool.not_true,ybk,if_false];have ha:=PySem.F.args_bexc_ga (.ref er) (.str "__class__" t);unfold argsOk at ha;refine wpAny_of_eq (a:=()) ha ?_;show wpAny _ _ (Builtin.«object.__getattribute__» _) _ _ _;unfold Builtin.«object.__getattribute__»;refine wpAny_bind (wpAny_pure ?_);refine wpAny_bind (wpAny_pure ?_);refine wpAny_bind (e.at ?_);refine wpAny_bind (f.at ?_);show wpAny _ _ (Builtin.ObjectAttr.bindTo _ _ _ _) _ _ _;unfold Builtin.ObjectAttr.bindTo;refine wpAny_bind (wpAny_holding (wpAny_call (PySem.W.class_get X i mo ?_)));exact wpAny_pure (PySem.W.handed_on rfl (wpAny_pure q))
noncomputable def zeX (K:Fg) (C:Addr):Bool:=PySem.W.excIn K C bmV "ValueError.__new__" && (PySem.W.findIn K (.ref C) "__getattribute__" == some (some (.builtin "BaseException.__getattribute__")))&&(PySem.W.findIn K (.ref C) "__getattr__" == some none)&&(PySem.W.mroIn K C (.type "BaseException") == some true)&&(PySem.W.clsIn K C).isSome&&(PySem.W.findIn K (.ref C) "__class__" == some (some (.builtin "object.__class__"))) &&
 (PySem.W.specialIn K (.builtin "object.__class__") "__get__" == some (some (.builtin "getset_descriptor.__get__")))&&(PySem.W.takesIn K (.builtin "object.__class__") == some true)&&(PySem.W.mroIn K C (.type "object") == some true)
def zp2{er:Addr}(h:zeX K C=true):PySem.W.KitX K (.ref er) (.ref C) (znN er C):=by
 unfold zeX at h;simp only[yal,beq_iff_eq]at h;obtain⟨⟨⟨⟨⟨⟨⟨⟨_,ga⟩,u⟩,f⟩,cl⟩,j⟩,c⟩,tk⟩,r⟩:=h;obtain⟨d,a⟩:=ybj.mp cl;have there:∃o:Obj,K.lookup C=some o/\o.data=.cls d:=by
  unfold PySem.W.clsIn at a;split at a
  ·rename_i b;cases a;exact⟨_,b,rfl⟩
  ·cases a
 obtain⟨o,b,dt⟩:=there;refine⟨λM h _ ⟨t,i⟩=>i.type,λM h X _ A Q E s k q=>?_,λh tp dd its n y X e=>?_,λ{prog w A E Q s} X ⟨t,i⟩ q=>?_⟩
 ·have g:=k _ _ (X _ _ b);obtain⟨x,B,l,p⟩:=o;simp only at dt;subst dt;unfold isType loadHead;exact wpAny_bind (wpAny_loadPart g (wpAny_pure q))
 ·rw[Bool.eq_false_iff];intro z;have m:C=tp:=Value.ref.inj (beq_iff_eq.mp z);subst m;have g:=X _ _ b;rw[e]at g;cases g;cases dt
 ·have v:PySem.W.findObj K C none "__class__" = some (.bind (.builtin "getset_descriptor.__get__") (.builtin "object.__class__")):=by
   unfold PySem.W.findObj;rw[a,Option.bind_some,j,Option.bind_some];simp[c,tk]
  exact zpc ga u v r f X i q
abbrev Cx.inH(X:Cx)(er:Addr):Cx:={ X with A:=X.A.mark (some (.ref er)),calm:=false,xe:=λ_ _=>False }
section
variable {X:Cx}{pins:List (Addr × Obj)}{σ:St}{H H':Hp}{s s':Shared}
noncomputable def Ends.gone (D:Ends) (i:Nat):Ends:=⟨λσ H=>D.nx (σ.set i none) H,D.rt,λσ H=>D.bk (σ.set i none) H,λσ H=>D.ct (σ.set i none) H⟩
end
noncomputable def ze4 (K:Fg):List V->Hp->VK->Prop:=λxs H Q=>(∃er C c cv b,xs=[.ref er,c]/\RelV c cv/\H er=some (zva er C)/\zeX K C=true/\PySem.W.kitOne K (.ref C) cv=some b/\Q (.bl b) H)\/zeQ K xs H Q
def zpu:CallR X (.builtin "isinstance") (ze4 X.K):=by
 refine CallR.or ?_ zlR;intro pins s σ H xs us Q I r h;obtain⟨er,C,c,cv,b,rfl,e,k,ok,g,q⟩:=h;obtain⟨u,d,rfl,i,f⟩:=vals2 r;obtain rfl:u=Value.ref er:=i;have j:znN er C s.heap:=(I.hok er _ k).1;have l:d=cv:=by
  cases c with
  | ty n=>exact(show d=_ from f).trans (show cv=_ from e).symm
  | ref a=>exact(show d=_ from f).trans (show cv=_ from e).symm
  | non=>exact(show d=_ from f).trans (show cv=_ from e).symm
  | bl b=>exact(show d=_ from f).trans (show cv=_ from e).symm
  | _=>obtain⟨_,rfl⟩:=e;simp[PySem.W.kitOne,PySem.W.kitCls]at g
 subst l;exact yam (zp2 ok) I.kIn j g (by intro z;cases z) λtk=>⟨.bl b,H,I.tok tk,rfl,q⟩
def zj6(q:zeQ K xs H Q):ze4 K xs H Q:=.inr q
def zkn{D:Addr}(h:PySem.W.hasDictIn K D=true):(PySem.W.clsIn K D).isSome=true:=by
 obtain⟨a,e,_⟩:=PySem.W.any_some h;rw[e];rfl
def errOk_mk(x:PySem.W.excIn K C [.type "ValueError",.type "Exception",.type "BaseException",.type "object"] "ValueError.__new__" = true)(ga:PySem.W.findIn K (.ref C) "__getattribute__" = some (some (.builtin "BaseException.__getattribute__")))(a:PySem.W.findIn K (.ref C) "__getattr__" = some none)(b:PySem.W.mroIn K C (.type "BaseException")=some true)(hd:PySem.W.hasDictIn K C=true)
  (fa:PySem.W.findIn K (.ref C) "__class__" = some (some (.builtin "object.__class__"))) (sn:PySem.W.specialIn K (.builtin "object.__class__") "__get__" = some (some (.builtin "getset_descriptor.__get__"))) (tk:PySem.W.takesIn K (.builtin "object.__class__")=some true)
  (mo:PySem.W.mroIn K C (.type "object")=some true):zeX K C=true:=by
 unfold zeX bmV;rw[x,ga,a,b,zkn hd,fa,sn,tk,mo];simp
def zhq{t:Value}{D:Addr}{b:Bool}(hd:PySem.W.hasDictIn K D=true)(a:PySem.W.typeIn K (.ref D)=some (.type "type"))(c:PySem.W.subIn K t (.ref D)=some b):PySem.W.kitCls K t (.ref D)=some b:=by
 unfold PySem.W.kitCls;simp only;rw[zkn hd,a,if_pos (by simp)];exact c
def kit_ne{D:Addr}{b:Bool}(h:C≠D)(hd:PySem.W.hasDictIn K D=true)(a:PySem.W.typeIn K (.ref D)=some (.type "type"))(c:PySem.W.subIn K (.ref C) (.ref D)=some b):PySem.W.kitOne K (.ref C) (.ref D)=some b:=by
 unfold PySem.W.kitOne;rw[if_neg (by intro z;exact h (Value.ref.inj (beq_iff_eq.mp z)))];exact zhq hd a c
def kit_self:PySem.W.kitOne K (.ref C) (.ref C)=some true:=by
 unfold PySem.W.kitOne;rw[if_pos (by simp)]
def kit_V{b:Bool}(a:PySem.W.subIn K (.ref C) (.type "ValueError")=some b):PySem.W.kitOne K (.ref C) (.type "ValueError")=some b:=by
 unfold PySem.W.kitOne;rw[if_neg (by intro z;cases beq_iff_eq.mp z)];unfold PySem.W.kitCls;simp only;rw[if_pos (by decide +kernel)];exact a
def exm_mk{D:Addr}{b:Bool}(a:PySem.W.subIn K (.ref D) (.type "BaseException")=some true)(hd:PySem.W.hasDictIn K D=true)(c:PySem.W.typeIn K (.ref D)=some (.type "type"))(d:PySem.W.subIn K (.ref C) (.ref D)=some b):PySem.W.exmOne K (.ref C) (.ref D)=some b:=by
 unfold PySem.W.exmOne;rw[a,if_pos (by simp)];exact zhq hd c d
section
variable {X:Cx}
def zbs:zdU X (zcs X.K):=by
 intro pins s σ H x y v u Q I e f h;obtain⟨p,xs,i,z,rfl,rfl,m,l,q⟩:=h;cases e;obtain⟨t,rfl⟩:=f;obtain⟨its,r,pl,A⟩:=I.list m;obtain⟨j,h1,h2,o,g,k⟩:=zga l;obtain⟨w,d,b⟩:=r.get h2;have hl:=r.length;have n:=line63;have fin:EP X pins σ Q w s:=⟨z,H,I,b,q⟩
 by_cases c:0<=i
 ·have a:i.toNat=j:=by
   rw[seqIndex_of c k]at h1;exact yt h1
  exact wpAny_getItem_list pl.isList c ⋯ (by rw[a];simpa using d) fin
 ·have a:(i+(its.toArray.size:Int)).toNat=j:=by
   rw[seqIndex_neg ⋯ g]at h1;rw[yp,<- hl];exact yt h1
  exact wpAny_getItem_list_neg pl.isList ⋯ (by rw[yp]<;>lia) ⋯ (by rw[a];simpa using d) fin
end
noncomputable def Src (J:It) (P:Hp->Prop) (n:Nat) (Y:Nat->V->Hp->Prop):Prop:=
 (∀i H,P H->i<n->J.go i H)/\(∀H,P H->J.stop n H)/\∀i H x H',P H->i<n->J.yld i H x H'->Same H H'/\Y i x H'
def zw{α:Type}{xs:List α}(h:i<xs.length):∃x,xs[i]?=some x:=⟨xs[i],by simp[h]⟩
def z9:Src (Itl K a) (λH=>SqL K H a xs) xs.length (λi x _=>xs[i]?=some x):=
 ⟨λi H h hi=>by obtain⟨x,b⟩:=zw hi;exact⟨xs,x,h,b⟩,λH h=>⟨xs,h,yc _⟩,λi H x H' h hi ⟨q,r⟩=>by subst q;exact⟨Same.refl _,r xs h⟩⟩
def zbg:Src (Itr lo n) (λ_=>True) n (λi x _=>x=.int (lo+i)):=
 ⟨λi H e hi=>hi,λH e=>yc _,λi H x H' e hi ⟨q,r⟩=>by subst q;exact⟨Same.refl _,r⟩⟩
def zaK:Src (Itn K a) (λH=>SqL K H a xs) xs.length (λi x H=>∃p v,x=.ref p/\xs[i]?=some v/\H p=some (.tup [.int i,v])):=
 ⟨λi H h hi=>by obtain⟨x,b⟩:=zw hi;exact⟨xs,x,h,b⟩,λH h=>⟨xs,h,yc _⟩,λi H x H' h hi ⟨p,v,c,q,r,z⟩=>by subst z;exact⟨Same.new c _,p,v,q,r xs h,zaa⟩⟩
def zmI:Src (Itz K a b) (λH=>SqL K H a xs/\SqL K H b ys) (min xs.length ys.length) (λi x H=>∃p v w,x=.ref p/\xs[i]?=some v/\ys[i]?=some w/\H p=some (.tup [v,w])):=
 ⟨λi H h hi=>by
  obtain⟨x,c⟩:=zw (show i<xs.length by lia);obtain⟨y,e⟩:=zw (show i<ys.length by lia);exact⟨xs,ys,x,y,h.1,h.2,c,e⟩,λH h=>⟨xs,ys,h.1,h.2,⋯⟩,λi H x H' h hi ⟨p,v,w,f,q,r,d,z⟩=>by subst z;exact⟨Same.new f _,p,v,w,q,r xs h.1,d ys h.2,zaa⟩⟩
section
variable {σ:St}{H:Hp}{Q:VK}{D:Ends}{ta tb tc te to ti:TE}{t u:TS}{K:Fg}
def zcM{P:Hp->Prop}{Y:Nat->V->Hp->Prop}{g:TG}{tb:TS}(S:Src J P n Y)(b:Nat->St->Hp->Prop)(d:b 0 σ H)(c:∀i σ H,b i σ H->P H)
  (hs:∀i x σ H H',i<n->b i σ H->Same H H'->Y i x H'->g x σ H' λh H2=>tb { D with nx:=b (i+1),ct:=b (i+1),bk:=D.nx } h H2) (hd:∀σ H,b n σ H->D.nx σ H):zm2 J g tb D σ H:=by
 refine⟨λi m σ H=>m=n-i/\i<=n/\b i σ H,⟨n,by simp,yM _,d⟩,?_⟩;rintro i m σ H ⟨rfl,hi,p⟩;by_cases a:i<n
 ·refine .inr ⟨S.1 i H (c i σ H p) a,b (i+1),λj H' q=>⟨n-(i+1),⋯,rfl,a,q⟩,λx H' y=>?_⟩;obtain⟨e,f⟩:=S.2.2 i H x H' (c i σ H p) a y;exact hs i x σ H H' a p e f
 ·have:i=n:=by lia
  subst this;exact .inl ⟨S.2.1 H (c i σ H p),hd σ H p⟩
noncomputable def zdt (J:It) (caps:List (Option Nat)) (g:TG) (tf:TT) (te:TE) (σ:St) (Q:VK) (H1:Hp):Prop:=∀D,H1 D=none ->
 ∃W:Nat->Nat->St->Hp->Prop,(∃m,W 0 m (zcc caps σ) (upd H1 D (.lst [])))/\∀i m σ' H',W i m σ' H' ->
  (J.stop i H'/\Q (.ref D) H')\/(J.go i H'/\∃N:St->Hp->Prop,(∀σ2 H2,N σ2 H2->∃m',m'<m/\W (i+1) m' σ2 H2) /\
   ∀x H2,J.yld i H' x H2->g x σ' H2 λa f=>tf a f λb c=>if b=true then te a c λv d=>zbz (.ref D) [v] d λ_ e=>N a e else N a c)
def ztP{te:TE}(q:wi σ H λJ H1=>zdt J caps g tf te σ Q H1):zeP wi caps g tf te σ H Q:=q
def zmW{T:Bool->Hp->Prop}(q:T true H):zep σ H T:=q
noncomputable def CompN (H:Hp) (a:St->Prop) (b:Nat->List V->Hp->Prop) (D:Addr) (i:Nat) (c:St) (H':Hp):Prop:=a c/\Same H H'/\∃vs,H' D=some (.lst vs)/\vs.length<=i/\b i vs H'
def zmx{P:Hp->Prop}{Y:Nat->V->Hp->Prop}{g:TG}{tf:TT}{te:TE}(S:Src J P n Y)(k:∀H',Same H H'->P H')(f:St->Prop)(c:Nat->List V->Hp->Prop)(w:f (zcc caps σ))(s:∀H',Same H H'->c 0 [] H')
  (hs:∀i x D vs d H' H2,i<n->H D=none->f d->Same H H'->H' D=some (.lst vs)->vs.length<=i->c i vs H'->Same H' H2->Y i x H2->g x d H2 λj z=>tf j z λb o=>if b=true then te j o λv r=>zbz (.ref D) [v] r λ_ B=>CompN H f c D (i+1) j B else CompN H f c D (i+1) j o)
  (hq:∀D H' vs,H D=none->Same H H'->H' D=some (.lst vs)->vs.length<=n->c n vs H'->Q (.ref D) H'):zdt J caps g tf te σ Q H:=by
 intro D h;refine⟨λi m d H'=>m=n-i/\i<=n/\CompN H f c D i d H',⟨n,by simp,yM _,w,Same.new h _,[],zaa,yc _,s _ (Same.new h _)⟩,?_⟩;rintro i m d H' ⟨rfl,hi,t,e,vs,l,hl,p⟩;by_cases a:i<n
 ·refine .inr ⟨S.1 i H' (k _ e) a,CompN H f c D (i+1),λC H2 q=>⟨n-(i+1),⋯,rfl,a,q⟩,λx H2 y=>?_⟩;obtain⟨A,u⟩:=S.2.2 i H' x H2 (k _ e) a y;exact hs i x D vs d H' H2 a h t e l hl p A u
 ·have:i=n:=by lia
  subst this;exact .inl ⟨S.2.1 H' (k _ e),hq D H' vs h e l hl p⟩
def zM{P:Hp->Prop}{Y:Nat->V->Hp->Prop}{g:TG}{tf:TT}{te:TE}{rest:St}(S:Src J P n Y)(k:∀H',Same H H'->P H')(f:zcc caps σ=none :: rest)(c:Nat->List V->Hp->Prop)(l:∀H',Same H H'->c 0 [] H')
  (hs:∀i x D vs o H' H2,i<n->H D=none->Same H H'->H' D=some (.lst vs)->vs.length<=i->c i vs H'->Same H' H2->Y i x H2->g x (o :: rest) H2 λd q=>tf d q λb e=>if b=true then te d e λv j=>zbz (.ref D) [v] j λ_ r=>CompN H (λa=>∃o,a=o :: rest) c D (i+1) d r else CompN H (λa=>∃o,a=o :: rest) c D (i+1) d e)
  (hq:∀D H' vs,H D=none->Same H H'->H' D=some (.lst vs)->vs.length<=n->c n vs H'->Q (.ref D) H'):zdt J caps g tf te σ Q H:=
 zmx S k (λa=>∃o,a=o :: rest) c ⟨_,f⟩ l (λi x D vs a H' H2 a1 a2 ⟨o,h⟩ s t w m p u=>by subst h;exact hs i x D vs o H' H2 a1 a2 s t w m p u) hq
def zbL{P:Hp->Prop}{Y:Nat->V->Hp->Prop}{g:TG}{tf:TT}{te:TE}{rest:St}(S:Src J P n Y)(k:∀H',Same H H'->P H')(f:zcc caps σ=none :: none :: rest)(c:Nat->List V->Hp->Prop)(l:∀H',Same H H'->c 0 [] H')
  (hs:∀i x D vs o o' H' H2,i<n->H D=none->Same H H'->H' D=some (.lst vs)->vs.length<=i->c i vs H'->Same H' H2->Y i x H2->g x (o :: o' :: rest) H2 λd p=>tf d p λb e=>if b=true then te d e λv j=>zbz (.ref D) [v] j λ_ r=>CompN H (λa=>∃o o',a=o :: o' :: rest) c D (i+1) d r else CompN H (λa=>∃o o',a=o :: o' :: rest) c D (i+1) d e)
  (hq:∀D H' vs,H D=none->Same H H'->H' D=some (.lst vs)->vs.length<=n->c n vs H'->Q (.ref D) H'):zdt J caps g tf te σ Q H:=
 zmx S k (λa=>∃o o',a=o :: o' :: rest) c ⟨_,_,f⟩ l (λi x D vs a H' H2 a1 a2 ⟨o,o',h⟩ s t w m q u=>by subst h;exact hs i x D vs o o' H' H2 a1 a2 s t w m q u) hq
def zrX{R:It->Hp->Prop}(h:SqL K H a xs)(q:R (Itn K a) H):zni K R [.ref a] H:=⟨a,rfl,⟨xs,h⟩,q⟩
def zuA{R:It->Hp->Prop}(h:SqL K H a xs)(h':SqL K H b ys)(q:R (Itz K a b) H):zqL K R [.ref a,.ref b] H:=⟨a,b,rfl,⟨xs,h⟩,⟨ys,h'⟩,q⟩
def zuD{t:TGs}{R:St->Hp->Prop}(h:H a=some (.tup xs))(b:xs.length=n)(q:t xs σ H R):zbB K n t (.ref a) σ H R:=⟨a,xs,rfl,SqT.of h,b,q⟩
def zsr{r:List V}{t:TG}{u:TGs}{R:St->Hp->Prop}(q:t v σ H λa H'=>u r a H' R):zkf t u (v :: r) σ H R:=⟨v,r,rfl,q⟩
def ztU{R:St->Hp->Prop}(q:R σ H):zqD [] σ H R:=⟨rfl,q⟩
def zu2{x:V}{a:TIp}(e:σ[i]?=some (some x))(q:te σ H λy H1=>a x y H1 λz H2=>D.nx (σ.set i (some z)) H2):zqp i te a D σ H:=⟨x,e,q⟩
def zvs{f:Int->Int->Int}{i j:Int}(q:Q (.int (f i j)) H):ipI f (.int i) (.int j) H Q:=⟨i,j,rfl,rfl,q⟩
def zuH{a:V->V->Hp->VK->Prop}{c:TIp}{b:ziC}(q:to σ H λo H1=>ti σ H1 λi H2=>a o i H2 λx g=>te σ g λy e=>c x y e λz d=>b o i z d λf=>D.nx σ f):zrt to ti te a c b D σ H:=q
def zof{i:Int}(h:SqL K H a xs)(e:atI xs i=some v)(q:Q v H):zcs K (.ref a) (.int i) H Q:=⟨a,xs,i,v,rfl,rfl,h,e,q⟩
def zkJ{x:V}{k:Int}(h:H l=some (.lst [x]))(b:0<=k)(h1:k<=100000)(q:∀p H',H p=none->Same H H'->H' p=some (.lst (List.replicate k.toNat x))->Q (.ref p) H'):zeb (.ref l) (.int k) H Q:=
 .inr ⟨l,k,[x],rfl,rfl,h,⋯,⋯,by have:=zct (n:=k.toNat) ⋯;simpa using this,λp a=>by
  have e:(List.replicate k.toNat [x]).flatten=List.replicate k.toNat x:=by
   generalize k.toNat=n
   induction n with
   | zero=>rfl
   | succ n ih=>rw[yaE,ya6,ih,yaE];rfl
  rw[e];exact q p _ a (Same.new a _) zaa⟩
def zo0{zs:List V}(h:H l=some (.lst xs))(h':H b=some (.lst zs))(c:xs.length+zs.length<=100000)(q:∀p H',H p=none->Same H H'->H' p=some (.lst (xs++zs))->Q (.ref p) H'):zia K (.ref l) (.ref b) H Q:=
 .inr (.inl ⟨l,b,xs,zs,rfl,rfl,h,h',zct c,λp a=>q p _ a (Same.new a _) zaa⟩)
def zrz(h:SqL K H a (ns.map V.int))(q:Q (.int (zak ns)) H):znv K [.ref a] H Q:=⟨a,ns,rfl,h,q⟩
end
def zuv{p:Prop}[Decidable p]{A B:Prop}(h:p)(a:A):if decide p=true then A else B:=by rw[decide_eq_true h];exact zeE a
def zuq{p:Prop}[Decidable p]{A B:Prop}(h:¬p)(b:B):if decide p=true then A else B:=by rw[decide_eq_false h];exact zh6 b
def zsY{p:Prop}[Decidable p]{A B:Prop}(h:p)(b:B):if(!decide p)=true then A else B:=by rw[decide_eq_true h];exact zh6 b
section
variable {α:Type}{f:α->List V}
noncomputable def IsTs (f:α->List V) (H:Hp):List V->List α->Prop
 | [],[]=>True
 | v :: vs,x :: xs=>(∃a,v=.ref a/\H a=some (.tup (f x)))/\IsTs f H vs xs
 | _,_=>False
noncomputable def ziR (H H':Hp):Prop:=∀a xs,H a=some (.tup xs)->H' a=some (.tup xs)
def Same.tups(e:Same H H'):ziR H H':=λa xs h=>e a _ h
def LBut.tups(e:LBut l H H'):ziR H H':=λa xs h=>e.tup h
theorem IsTs.keep{H H':Hp}(e:ziR H H'):∀{vs:List V} {xs:List α},IsTs f H vs xs->IsTs f H' vs xs
 | [],[],_=>trivial
 | _ :: _,_ :: _,⟨⟨a,q,h⟩,r⟩=>⟨⟨a,q,e a _ h⟩,r.keep e⟩
def IsTs.same{xs:List α}(h:IsTs f H vs xs)(e:Same H H'):IsTs f H' vs xs:=h.keep e.tups
def IsTs.but{xs:List α}(h:IsTs f H vs xs)(e:LBut l H H'):IsTs f H' vs xs:=h.keep e.tups
def Same.isTs{xs:List α}(e:Same H H')(h:IsTs f H vs xs):IsTs f H' vs xs:=h.keep e.tups
def LBut.isTs{xs:List α}(e:LBut l H H')(h:IsTs f H vs xs):IsTs f H' vs xs:=h.keep e.tups
theorem IsTs.length{H:Hp}:∀{vs:List V} {xs:List α},IsTs f H vs xs->vs.length=xs.length
 | [],[],_=>rfl
 | _ :: _,_ :: _,⟨_,r⟩=>by rw[y9,y9,r.length]
theorem IsTs.app{H:Hp}{a:Addr}{x:α}(h:H a=some (.tup (f x))):∀{vs:List V} {xs:List α},IsTs f H vs xs->IsTs f H (vs++[.ref a]) (xs++[x])
 | [],[],_=>⟨⟨a,rfl,h⟩,trivial⟩
 | _ :: _,_ :: _,⟨q,r⟩=>⟨q,r.app h⟩
theorem IsTs.cat{H:Hp}{ws:List V}{ys:List α}(h:IsTs f H ws ys):∀{vs:List V} {xs:List α},IsTs f H vs xs->IsTs f H (vs++ws) (xs++ys)
 | [],[],_=>h
 | _ :: _,_ :: _,⟨q,r⟩=>⟨q,IsTs.cat h r⟩
theorem IsTs.get{H:Hp}:∀{vs:List V} {xs:List α} {i:Nat} {v:V},IsTs f H vs xs->vs[i]?=some v->∃a x,v=.ref a/\xs[i]?=some x/\H a=some (.tup (f x))
 | _ :: _,x :: _,0,_,⟨⟨a,q,h⟩,_⟩,e=>by cases e;exact⟨a,x,q,rfl,h⟩
 | _ :: _,_ :: _,i+1,_,⟨_,r⟩,e=>by obtain⟨a,x,q,b,h⟩:=r.get (i:=i) e;exact⟨a,x,q,b,h⟩
def IsTs.getI{xs:List α}{x:α}(h:IsTs f H vs xs)(e:xs[i]?=some x):∃a,vs[i]?=some (.ref a)/\H a=some (.tup (f x)):=by
 have hi:i<vs.length:=by rw[h.length];exact(yj.mp e).1
 obtain⟨v,b⟩:=zw hi;obtain⟨a,y,q,c,h'⟩:=h.get b;rw[e]at c;cases c;exact⟨a,by rw[b,q],h'⟩
end
noncomputable def vec (n:Nat) (f:Nat->Int):List Int:="0e".map f
def zO:(vec n f).length=n:=by simp[vec]
def zae(h:i<n):(vec n f)[i]?=some (f i):=by simp[vec,h]
def zaN{g:Nat->Int}(h:∀i,i<n->f i=g i):vec n f=vec n g:=by
 unfold vec;exact yI λi hi=>h i (yF.mp hi)
def zrL{v:Int}:(vec n f).set j v=vec n (λi=>if i=j then v else f i):=by
 refine yag λi=>?_;rw[yau];by_cases hi:i<n
 ·rw[zae hi,zae hi,zO];by_cases e:j=i
  ·subst e;simp[hi]
  ·rw[if_neg e,if_neg (ya9 e)]
 ·have h1:(vec n f)[i]?=none:=by rw[yaS,zO];lia
  have h2:∀g,(vec n g)[i]?=none:=λg=>by rw[yaS,zO];lia
  rw[h1,h2,zO];by_cases e:j=i
  ·subst e;simp[hi]
  ·rw[if_neg e]
def zdY:vec (n+1) f=vec n f++[f n]:=by unfold vec;rw[yy,yk];rfl
def zrS{c:Int}:List.replicate n (V.int c)=(vec n λ_=>c).map V.int:=by
 refine yag λi=>?_;rw[ya2,yg];by_cases hi:i<n
 ·rw[zae hi,if_pos hi];rfl
 ·have h2:(vec n λ_=>c)[i]?=none:=by rw[yaS,zO];lia
  rw[h2,if_neg hi];rfl
def zmw{k:Int}{v:Int}(a:0<=k)(h:ns[k.toNat]?=some v):atI (ns.map V.int) k=some (.int v):=zav a (by rw[yg,h];rfl)
def zpI{k:Int}(a:0<=k)(h:k<n):atI ((vec n f).map V.int) k=some (.int (f k.toNat)):=zmw a (zae ⋯)
def zqS{v:Int}:(ns.map V.int).set j (.int v)=(ns.set j v).map V.int:=by rw[ybU]
def zrP{v:Int}:((vec n f).map V.int).set j (.int v)=(vec n (λi=>if i=j then v else f i)).map V.int:=by rw[zqS,zrL]
def zrQ{k:Int}(a:0<=k)(h:k<n):ixN ((vec n f).map V.int).length k=some k.toNat:=by
 rw[ye,zO];exact zbF a h
theorem zb3{K:Fg}{H:Hp}:∀ns:List Int,RepAll K H (ns.map V.int) (ns.map PyData.int)
 | []=>.nil
 | n :: ns=>.cons (.int n) (zb3 ns)
theorem zcb:∀ns:List Int,PyData.depthAll (ns.map PyData.int)=0
 | []=>by simp[PyData.depthAll]
 | n :: ns=>by rw[yaz,PyData.depthAll,zcb ns];simp[PyData.depth]
theorem zkE:∀ns:List Int,PyData.canLayAll0 (ns.map PyData.int)=true
 | []=>by simp[PyData.canLayAll0]
 | n :: ns=>by rw[yaz,PyData.canLayAll0,zkE ns];simp[PyData.canLay0]
def zcK{ds:List PyData}:(PyData.list ds).depth=PyData.depthAll ds+1:=by simp[PyData.depth];try lia
section
variable {H:Hp}{Q:VK}{K:Fg}
def zji{ms:List Int}(h:ns=ms):PyData.eqv (.list (ns.map PyData.int)) (.list (ms.map PyData.int))=true:=by
 subst h;exact PySem.SeqAt.eqv_refl _ (by rw[PyData.canLay0];exact zkE ns)
def zkO{ms:List Int}(h1:SqL K H a (ns.map V.int))(h2:SqL K H b (ms.map V.int))(e:ns=ms)(q:Q (.bl true) H):zem K (.ref a) (.ref b) H Q:=
 zj7 (.lst h1 (zb3 ns)) (.lst h2 (zb3 ms)) (by rw[zcK,zcb];lia) (by rw[zji e];exact q)
def zhd{ms:List Int}(h1:SqL K H a (ns.map V.int))(h2:SqL K H b (ms.map V.int))(e:ns=ms)(q:Q (.bl false) H):zeo K (.ref a) (.ref b) H Q:=
 zj8 (.lst h1 (zb3 ns)) (.lst h2 (zb3 ms)) (by rw[zcK,zcb];lia) (by rw[zji e];exact q)
end
section
variable {σ:St}{H:Hp}{Q:VK}{D:Ends}{K:Fg}
def zqP{k:Int}(h:H l=some (.lst ((vec n f).map V.int)))(a:0<=k)(h1:k<n)(q:Q (.int (f k.toNat)) H):zcs K (.ref l) (.int k) H Q:=zof (.of h) (zpI a h1) q
def zmJ{k:Int}(h:H l=some (.lst ((vec n f).map V.int)))(a:0<=k)(h1:k<n)(q:Q (.int (f k.toNat)) H):rIx K (.ref l) (.int k) H Q:=zh9 h (zpI a h1) q
def zq9{k v:Int}{R:Hp->Prop}(h:H l=some (.lst ((vec n f).map V.int)))(a:0<=k)(h1:k<n)
  (q:∀H',LBut l H H'->H' l=some (.lst ((vec n λi=>if i=k.toNat then v else f i).map V.int))->R H'):zhU (.ref l) (.int k) (.int v) H R:=by
 refine zbA h (zrQ a h1) λH' b e=>q H' b ?_;rw[e,zrP]
def znU{i:Int}(h:H a=some (.tup xs))(e:atI xs i=some v)(q:Q v H):rIx K (.ref a) (.int i) H Q:=zuO (.of h) e q
def zqz{c k:Int}(h:H l=some (.lst [.int c]))(d:0<=k)(h1:k<=100000)(q:∀p H',H p=none->Same H H'->H' p=some (.lst ((vec k.toNat λ_=>c).map V.int))->Q (.ref p) H'):zeb (.ref l) (.int k) H Q:=
 zkJ h d h1 λp H' a b c=>q p H' a b (by rw[c,zrS])
theorem CompN.int{b:St->Prop}{D:Addr}{i:Nat}{c:St}{a:Hp}{f:Nat->Int}{v:Int}(d:b c)(e:Same H a)(h:a D=some (.lst ((vec i f).map V.int++[.int v])))(g:v=f i):CompN H b (λi vs _=>vs=(vec i f).map V.int) D (i+1) c a:=
 ⟨d,e,_,h,by simp[zO],by show _++[V.int v]=List.map V.int (vec (i+1) f);rw[g,zdY,yk];rfl⟩
end
def zsE{c:Int}{rest:St}(h:zcc caps σ=none :: rest)(k:n<=100000)(q:∀p H',H p=none->Same H H'->H' p=some (.lst ((vec n λ_=>c).map V.int))->Q (.ref p) H'):zdt (Itr lo n) caps (zbU 0) zep (tC (.int c)) σ Q H:=by
 refine zM zbg (λ_ _=>trivial) h (λi vs _=>vs=(vec i λ_=>c).map V.int) (λ_ _=>rfl) ?_ ?_
 ·rintro i x D vs o H' H2 hi a e f d rfl g rfl;refine zix (zmW (zeE (x_c (zfN (g.at f) ⋯ λl b j=>?_))));exact CompN.int ⟨_,rfl⟩ (b.same (e.trans g) a) j rfl
 ·rintro D H' vs a e f d rfl;exact q D H' a e f
noncomputable def zmZ (H:Hp) (Q:VK) (ns:List Int):Prop:=∀p H',H p=none->Same H H'->H' p=some (.lst (ns.map V.int))->Q (.ref p) H'
structure Due where
 p:Int
 q:Int
 r:Int
 a:Int
variable {d:Due}{ds:List Due}
noncomputable def zad (d:Due):List V:=[.int d.p,.int d.q,.int d.r,.int d.a]
noncomputable def zm (n:Int) (d:Due):Prop:=0<=d.p/\d.p<n/\0<=d.q/\d.q<n/\d.p≠d.q/\0<=d.r/\d.r<3/\0<=d.a/\d.a<=100000000000000
noncomputable def IsSh (K:Fg) (H:Hp) (a:Addr) (ds:List Due):Prop:=∃vs,SqL K H a vs/\IsTs zad H vs ds
theorem IsSh.same{K:Fg}{H H':Hp}{a:Addr}{ds:List Due}(h:IsSh K H a ds)(e:Same H H'):IsSh K H' a ds:=by
 obtain⟨vs,h1,h2⟩:=h;exact⟨vs,e.seq h1,h2.same e⟩
def Same.isSh(e:Same H H')(h:IsSh K H a ds):IsSh K H' a ds:=h.same e
theorem IsSh.of{K:Fg}{H:Hp}{a:Addr}{vs:List V}{ds:List Due}(h:H a=some (.lst vs))(t:IsTs zad H vs ds):IsSh K H a ds:=⟨vs,.of h,t⟩
noncomputable def zri (H:Hp) (Q:VK) (ds:List Due):Prop:=∀p H' vs,H p=none->Same H H'->H' p=some (.lst vs)->IsTs zad H' vs ds->Q (.ref p) H'
noncomputable def zaE (ds:List Due) (m:Nat):Int:=ds.foldl (fun(s:Int) (d:Due)=>if d.p=(m:Int)then s+d.a else s) 0
noncomputable def zaC (ds:List Due) (m:Nat):Int:=ds.foldl (fun(s:Int) (d:Due)=>if d.q=(m:Int)then s+d.a else s) 0
noncomputable def zF (ds:List Due) (m:Nat):Int:=zaC ds m-zaE ds m
def za0(ds:List Due)(d:Due)(m:Nat):zaE (ds++[d]) m=if d.p=(m:Int)then zaE ds m+d.a else zaE ds m:=by unfold zaE;rw[yaf];rfl
def zaU(ds:List Due)(d:Due)(m:Nat):zaC (ds++[d]) m=if d.q=(m:Int)then zaC ds m+d.a else zaC ds m:=by unfold zaC;rw[yaf];rfl
def zH{α:Type}{xs:List α}{x:α}(h:xs[i]?=some x):xs.take (i+1)=xs.take i++[x]:=by
 obtain⟨hi,rfl⟩:=yj.mp h;exact yaX hi
noncomputable def zhP (K:Fg):Sp:=λvs H Q _=>∃n a ds,vs=[.int n,.ref a]/\IsSh K H a ds/\0<=n/\n<=1000/\(∀d∈ds,zm n d)/\zmZ H Q (vec n.toNat (zF ds))
section
variable {K:Fg}{H:Hp}{Q:VK}{E:XK}{n:Int}{a:Addr}{ds:List Due}
def zqH:=λh b h1 hd q=>@id (zhP K [.int n,.ref a] H Q E) ⟨n,a,ds,rfl,h,b,h1,hd,q⟩
end
noncomputable def zgI:Sp:=λvs H Q _=>∃(i seed:Int),vs=[.int i,.int seed]/\1<=i/\i<=1000000000000000/\0<=seed/\seed<1000000000/\∀x,0<=x->x<=1000000000000->Q (.int x) H
def zmV:=λ{i seed:Int} {H:Hp} {Q:VK} {E:XK} h0 h1 s0 s1 q=>@id (zgI [.int i,.int seed] H Q E) ⟨i,seed,rfl,h0,h1,s0,s1,q⟩
noncomputable def zm9:Sp:=λvs H Q _=>∃(i n seed:Int),vs=[.int i,.int n,.int seed]/\1<=i/\i<=1000000000000000/\2<=n/\n<=1000/\0<=seed/\seed<1000000000/\∀p H' d,H p=none->Same H H'->H' p=some (.tup (zad d))->zm n d/\d.a<=1000000000000->Q (.ref p) H'
def zsu{i n b:Int}(e:1<=i)(h1:i<=1000000000000000)(g:2<=n)(c:n<=1000)(f:0<=b)(h:b<1000000000)(q:∀p H' d,H p=none->Same H H'->H' p=some (.tup (zad d))->zm n d/\d.a<=1000000000000->Q (.ref p) H'):zm9 [.int i,.int n,.int b] H Q E:=
 ⟨i,n,b,rfl,e,h1,g,c,f,h,q⟩
noncomputable def zbd (n:Int) (m:Nat) (x:Int):List Due:=if x<0 then[⟨m,n,0,-x⟩]else if 0<x then[⟨n,m,0,x⟩] else[]
noncomputable def zbi (n:Int) (f:Nat->Int):Nat->List Due
 | 0=>[]
 | i+1=>zbi n f i++zbd n i (f i)
theorem zej(n:Int)(f:Nat->Int):∀i,(zbi n f i).length<=i
 | 0=>yc _
 | i+1=>by
  have:=zej n f i
  have h:(zbd n i (f i)).length<=1:=by unfold zbd;split;exact yc _;split;exact yc _;exact yM _
  rw[zbi,yb];lia
noncomputable def zgR (K:Fg):Sp:=λvs H Q _=>∃n a ds,vs=[.int n,.ref a]/\IsSh K H a ds/\0<=n/\n<=1000/\(∀d∈ds,zm n d)/\zri H Q (zbi n (zF ds) n.toNat)
def znK:=λ{K:Fg} {n:Int} {a:Addr} {ds:List Due} {H:Hp} {Q:VK} {E:XK} h h0 h1 hd q=>@id (zgR K [.int n,.ref a] H Q E) ⟨n,a,ds,rfl,h,h0,h1,hd,q⟩
theorem IsTs.take{α:Type}{f:α->List V}{H:Hp}:∀{vs:List V} {xs:List α} (n:Nat),IsTs f H vs xs->IsTs f H (vs.take n) (xs.take n)
 | [],[],_,_=>by simp[IsTs]
 | _ :: _,_ :: _,0,_=>trivial
 | _ :: _,_ :: _,n+1,⟨q,r⟩=>⟨q,r.take n⟩
noncomputable def Rows (H:Hp) (as:List Addr) (k:Nat) (F:Nat->Nat->Int):Prop:=as.Nodup/\∀i a,as[i]?=some a->H a=some (.lst ((vec k (F i)).map V.int))
section
variable {H H':Hp}{as bs:List Addr}{k:Nat}{F G:Nat->Nat->Int}{K:Fg}{Q:VK}
def Rows.same(h:Rows H as k F)(e:Same H H'):Rows H' as k F:=⟨h.1,λi a q=>e _ _ (h.2 i a q)⟩
def Rows.mem(h:Rows H as k F)(m:a∈as):∃i,i<as.length/\as[i]?=some a/\H a=some (.lst ((vec k (F i)).map V.int)):=by
 obtain⟨i,hi,e⟩:=y6 m
 have:as[i]?=some a:=by rw[yj];exact⟨hi,e⟩
 exact⟨i,hi,this,h.2 i a this⟩
def Rows.but(h:Rows H as k F)(g:LBut l H H')(n:l∉as):Rows H' as k F:=
 ⟨h.1,λi a q=>g.lst (h.2 i a q) λz=>n (z▸ya q)⟩
def zbq(n:as.Nodup)(h:as[i]?=some a)(h':as[j]?=some a):i=j:=by
 obtain⟨hi,e⟩:=yj.mp h;obtain⟨c,b⟩:=yj.mp h';exact(ybS n).mp (e.trans b.symm)
def Rows.set(h:Rows H as k F)(g:LBut a H H')(ha:as[j]?=some a)(q:H' a=some (.lst ((vec k f).map V.int))):Rows H' as k (λi=>if i=j then f else F i):=by
 refine⟨h.1,λi b c=>?_⟩;by_cases e:i=j
 ·subst e;rw[ha]at c;cases c;show H' a=some (.lst ((vec k (if i=i then f else F i)).map V.int));rw[if_pos rfl];exact q
 ·show H' b=some (.lst ((vec k (if i=j then f else F i)).map V.int));rw[if_neg e];refine g.lst (h.2 i b c) λz=>e ?_;subst z;exact zbq h.1 c ha
def Rows.congr(h:Rows H as k F)(e:∀i,i<as.length->∀j,j<k->F i j=G i j):Rows H as k G:=by
 refine⟨h.1,λi a q=>?_⟩;have hi:i<as.length:=(yj.mp q).1;rw[h.2 i a q,zaN λj b=>e i hi j b]
def Rows.app(h:Rows H as k F)(n:p∉as)(f:H p=some (.lst ((vec k (F as.length)).map V.int))):Rows H (as++[p]) k F:=by
 refine⟨ya8.mpr ⟨h.1,by simp,λa ha b d e=>n (by rw[ym]at d;subst d;subst e;exact ha)⟩,λi a q=>?_⟩;rw[yaK]at q;split at q
 ·exact h.2 i a q
 ·rename_i hi;have c:i-as.length=0:=by
   cases e:i-as.length with
   | zero=>rfl
   | succ m=>rw[e]at q;cases q
  rw[c]at q;cases q
  have:i=as.length:=by lia
  subst this;exact f
def Rows.ne{D:Addr}(h:Rows H as k F)(c:0<k)(a:H D=some (.lst (as.map V.ref))):D∉as:=λm=>by
 obtain⟨i,hi,q,e⟩:=h.mem m;rw[a]at e;have b:as.map V.ref=(vec k (F i)).map V.int:=by simpa using e
 cases as with
 | nil=>cases m
 | cons x xs=>
  cases k with
  | zero=>lia
  | succ k=>
   have:=congrArg (·[0]?) b
   simp[vec]at this
def Rows.fresh(h:Rows H as k F)(a:H p=none):p∉as:=λm=>by
 obtain⟨i,_,_,e⟩:=h.mem m;rw[a]at e;cases e
def zrN{p:Int}(h:H l=some (.lst (as.map V.ref)))(b:0<=p)(e:as[p.toNat]?=some a)(q:Q (.ref a) H):rIx K (.ref l) (.int p) H Q:=zh9 h (zav b (by rw[yg,e];rfl)) q
end
noncomputable def zA (ds:List Due) (m r:Nat):Int:=ds.foldl (fun(s:Int) (d:Due)=>if d.p=(m:Int)/\d.r=(r:Int)then s+d.a else s) 0
def zaB(ds:List Due)(d:Due)(m r:Nat):zA (ds++[d]) m r=if d.p=(m:Int)/\d.r=(r:Int)then zA ds m r+d.a else zA ds m r:=by unfold zA;rw[yaf];rfl
def zn4(p0:0<=d.p)(c:0<=d.r)(m r:Nat):(if m=d.p.toNat then λi=>if i=d.r.toNat then zA ds d.p.toNat d.r.toNat+d.a else zA ds d.p.toNat i else zA ds m) r=zA (ds++[d]) m r:=by
 rw[zaB];by_cases e:m=d.p.toNat
 ·rw[if_pos e];by_cases b:r=d.r.toNat
  ·rw[if_pos (show d.p=(m:Int)/\d.r=(r:Int) by lia)]
   show(if r=d.r.toNat then _ else _)=_
   rw[if_pos b,e,b]
  ·rw[if_neg (show ¬(d.p=(m:Int)/\d.r=(r:Int)) by lia)]
   show(if r=d.r.toNat then _ else _)=_
   rw[if_neg b,e]
 ·rw[if_neg e,if_neg (show ¬(d.p=(m:Int)/\d.r=(r:Int)) by lia)]
noncomputable def zg7 (K:Fg):Sp:=λvs H Q _=>∃n a ds,vs=[.int n,.ref a]/\IsSh K H a ds/\0<=n/\n<=1000/\(∀d∈ds,zm n d) /\
 ∀l H' as,H l=none->Same H H'->H' l=some (.lst (List.map V.ref as))->as.length=n.toNat->Rows H' as 3 (zA ds)->(∀b∈as,H b=none)->Q (.ref l) H'
def zny:=λ{K:Fg} {n:Int} {a:Addr} {ds:List Due} {H:Hp} {Q:VK} {E:XK} h h0 h1 hd q=>@id (zg7 K [.int n,.ref a] H Q E) ⟨n,a,ds,rfl,h,h0,h1,hd,q⟩
noncomputable def zek (K:Fg):Sp:=λvs H Q _=>∃a ds,vs=[.ref a]/\IsSh K H a ds/\ds.length<=1000/\zmZ H Q (ds.map Due.a)
def zjR:=λ{K:Fg} {a:Addr} {ds:List Due} {H:Hp} {Q:VK} {E:XK} h h1 q=>@id (zek K [.ref a] H Q E) ⟨a,ds,rfl,h,h1,q⟩
noncomputable def zy (ds:List Due) (m:Nat->Int):List Due:=ds.mapIdx λi d=>⟨d.p,d.q,d.r,m i⟩
def zbf{m:Nat->Int}:(zy ds m).length=ds.length:=by simp[zy]
def zcA{m:Nat->Int}(h:ds[i]?=some d):(zy ds m)[i]?=some ⟨d.p,d.q,d.r,m i⟩:=by simp[zy,h]
def zb6{m:Nat->Int}(h:ds[i]?=some d):(zy ds m).take (i+1)=(zy ds m).take i++[⟨d.p,d.q,d.r,m i⟩]:=zH (zcA h)
noncomputable def zlt (K:Fg):Sp:=λvs H Q _=>∃(a b:Addr) (ds:List Due) (ms:List Int),vs=[.ref a,.ref b]/\IsSh K H a ds/\SqL K H b (List.map V.int ms)/\ds.length<=ms.length/\ds.length<=1000/\zri H Q (zy ds λi=>ms.getD i 0)
def zhi:=λ{K:Fg} {a b:Addr} {ds:List Due} {ms:List Int} {H:Hp} {Q:VK} {E:XK} h h' hl h1 q=>@id (zlt K [.ref a,.ref b] H Q E) ⟨a,b,ds,ms,rfl,h,h',hl,h1,q⟩
def zc4{ms:List Int}(h:i<ms.length):ms[i]?=some (ms.getD i 0):=by rw[yf,yl h];rfl
end Internal
namespace My
noncomputable def sumTo (f:Nat->Int):Nat->Int
 | 0=>0
 | n+1=>sumTo f n+f n
theorem sumTo_congr{f g:Nat->Int}:∀{n:Nat},(∀i,i<n->f i=g i)->sumTo f n=sumTo g n
 | 0,_=>rfl
 | n+1,h=>by rw[sumTo,sumTo,sumTo_congr λi hi=>h i ⋯,h n ⋯]
theorem sumTo_add(f g:Nat->Int):∀n,sumTo (λi=>f i+g i) n=sumTo f n+sumTo g n
 | 0=>rfl
 | n+1=>by rw[sumTo,sumTo,sumTo,sumTo_add f g n];lia
theorem sumTo_le{f g:Nat->Int}:∀{n:Nat},(∀i,i<n->f i<=g i)->sumTo f n<=sumTo g n
 | 0,_=>yC _
 | n+1,h=>by have:=sumTo_le (n:=n) λi hi=>h i ⋯;have:=h n ⋯;rw[sumTo,sumTo];lia
section
variable (ch:Nat->Bool)(x:Nat->Int)(L:Int)
noncomputable def rest:Nat->Int
 | 0=>L
 | i+1=>if ch i=true/\rest i>0 then rest i-1 else rest i
noncomputable def more (i:Nat):Int:=if ch i=true/\rest ch L i>0 then x i+1 else x i
noncomputable def cnt:Nat->Int
 | 0=>0
 | i+1=>if ch i=true then cnt i+1 else cnt i
variable {ch x L}
end
end My
namespace Internal
variable {E:XK}{H:Hp}{K:Fg}{Q:VK}{a b l p:Addr}{as:List Addr}{caps:List (Option Nat)}{d:Due}{ds:List Due}{f:Nat->Int}{i j k m n r z:Nat}{ns:List Int}{q:Rat}{qs:List Rat}{vs xs:List V}{σ:St}
open PySem PySem.Spec PyProof.Rows
noncomputable def big:Int:=1000000000000000000000000000000000000000000000000000000000000
noncomputable def bls (n:Nat) (ch:Nat->Bool):List V:="0e".map λi=>V.bl (ch i)
def zrb{ch:Nat->Bool}:bls (n+1) ch=bls n ch++[.bl (ch n)]:=by unfold bls;rw[yy,yk];rfl
def zme{ch:Nat->Bool}:(bls n ch).length=n:=by simp[bls]
def zir{ch:Nat->Bool}(h:i<n):(bls n ch)[i]?=some (.bl (ch i)):=by simp[bls,h]
theorem zdF:∀n,My.sumTo (λ_=>0) n=0
 | 0=>rfl
 | n+1=>by rw[My.sumTo,zdF n];rfl
def zp9{c:Int}{rest:St}(j:SqL K H a xs)(k:zcc caps σ=none :: rest)(m:xs.length<=100000)(q:∀p H',H p=none->Same H H'->H' p=some (.lst ((vec xs.length λ_=>c).map V.int))->Q (.ref p) H'):zdt (Itl K a) caps (zbU 0) zep (tC (.int c)) σ Q H:=by
 refine zM (z9 (K:=K) (a:=a) (xs:=xs)) (λH' e=>e.seq j) k (λi vs _=>vs=(vec i λ_=>c).map V.int) (λ_ _=>rfl) ?_ ?_
 ·rintro i x D vs o H' H2 hi d e g f rfl h n;refine zix (zmW (zeE (x_c (zfN (h.at g) ⋯ λr b l=>?_))));exact CompN.int ⟨_,rfl⟩ (b.same (e.trans h) d) l rfl
 ·rintro D H' vs d e g f rfl;exact q D H' d e g
def zpd(ms:List Int):ms=vec ms.length λi=>ms.getD i 0:=by
 refine yag λi=>?_;by_cases h:i<ms.length
 ·rw[zae h];exact zc4 h
 ·rw[yG ⋯,yG (by rw[zO];lia)]
def zqe{ms:List Int}(h:i<ms.length):ms.getD i 0∈ms:=ya (zc4 h)
def zoi{c:Int}:ns.map V.int++[.int c]=(ns++[c]).map V.int:=by rw[yk];rfl
abbrev TEr:=St->Hp->VK->(Addr->Hp->Prop)->Prop
abbrev TTr:=Ends->(Addr->St->Hp->Prop)->St->Hp->Prop
section
variable {X:Cx}{pos:Pos}
abbrev zvG(te:TEr):TTr:=λD Eh σ H=>te σ H (λ_ H2=>D.nx σ H2) λC H2=>Eh C σ H2
abbrev zvP(c:TT)(t u:TTr):TTr:=λD Eh σ H=>c σ H λb H1=>if b=true then t D Eh σ H1 else u D Eh σ H1
abbrev zvK:TTr:=λD _ σ H=>D.nx σ H
end
section
variable {σ:St}{H:Hp}{Q:VK}{D:Ends}{K:Fg}{Eh:Addr->Hp->Prop}{Eg:Addr->St->Hp->Prop}
end
noncomputable def zc2 (ds:List Due) (pf:Nat->Int) (m:Nat):Int:=if -zF ds m-pf m>0 then -zF ds m-pf m else 0
open PySem PySem.W PySem.Calls PyProof.Rows
theorem zhR{n:Nat}:∀(ns:List Int),WData.weightAll (ns.map WData.int)<=n->∀i∈ns,sz i<=n
 | [],_,_,h=>nomatch h
 | j :: r,h,i,hi=>by
  rw[yaz,WData.weightAll]at h;rcases yA.mp hi with rfl | hi
  ·have:WData.weight (.int i)=sz i:=by rw[WData.weight];rfl
   lia
  ·exact zhR r ⋯ i hi
noncomputable def zkh (ns:List Int):Prop:=∀i∈ns,sz i<=1048576
def zre(h:WData.layableAll [WData.list (ns.map WData.int)]=true):zkh ns:=by
 unfold WData.layableAll at h;rw[ybO,List.all_nil,Bool.and_true]at h;unfold WData.layable at h;rw[yal,decide_eq_true_eq]at h;have h2:=h.2;rw[WData.weight]at h2;exact zhR ns (yi h2 "0a")
def zln{l:OpenLaw}{n:Nat}{q:Program}{b:List Str}{u:(Str->Option Value)->Heap->Prop}{t:World->Heap->Prop}{d:DefRec}
  (hn:l.most=some n) (hdf:d.params.defaults=[])
  (call:∀(w:World) (s₀ c:Shared) (mg m:Str->Option Value) (k:Addr) (a:Addr) (vs:List Value) (ns:List Int),
   Ground q b [] u w s₀ mg m c.heap->t w c.heap->mg d.name=some (.ref k) ->
   c.heap.get? a=some { cls:=.type "list",data:=.seq vs.toArray }->IntsAre vs ns->ns.length<=n->zkh ns->c.gens=#[] ->
   codeAny (model l.prog w) callerA (.call (.ref k) ⟨[.ref a],[]⟩) (λr s'=>r=.ok (.ret (.bool true))/\OldK c.heap s'.heap/\s'.os=c.os/\AllBare s'.gens) c) :
  WalkO q b u t l.row.toRowW d [] (λf vs=>PySem.call f vs):=by
 intro w s₀ c mg m G Y k o K J E L kV I hd B H s x args v as j i C p z;obtain⟨a,vs,ns,rfl,rfl,g,e,h⟩:=Att.script_of hn j p;refine enter_call (codeAny_mono (call w s₀ c mg m k a vs ns G Y s g e h (zre i) x) λr s' A=>?_);obtain⟨rfl,h2,y,D⟩:=A;exact⟨.inl ⟨.bool true,.bool true,[],rfl,λ_=>rfl,.bool true,Att.post_true l _,λ_=>⟨List.Pairwise.nil,λ_ F=>(nomatch F)⟩⟩,h2,y,D⟩
open PySem PySem.Spec PyProof.Rows
noncomputable def Within (m:Int) (k:Nat) (f:Nat->Int):Prop:=∀j,j<k->-m<=f j/\f j<=m
def Rows.snoc{F:Nat->Nat->Int}(h:Rows H as k F)(n:p∉as)(a:H p=some (.lst ((vec k f).map V.int))):Rows H (as++[p]) k (λi=>if i=as.length then f else F i):=by
 refine Rows.app (h.congr λi hi j _=>?_) n (by show H p=some (HO.lst ((vec k (if as.length=as.length then f else F as.length)).map V.int));rw[if_pos rfl];exact a);show F i j=(if i=as.length then f else F i) j;rw[if_neg ⋯]
section
variable {X:Cx}
theorem zfB:∀ns:List Int,(ns.map V.int).all zds=true
 | []=>rfl
 | n :: ns=>by rw[yaz,ybO,zfB ns];rfl
noncomputable def zoZ:V->List V->Hp->VK->Prop:=λx vs H Q=>∃(l:Addr) (ns:List Int) (k:Int) (j:Nat),x=.ref l/\vs=[.int k]/\H l=some (.lst (ns.map V.int))/\ns[j]?=some k/\(∀m,m<j->ns[m]?≠some k)/\ns.length<=100000/\Q (.int j) H
def zqq:MtM X "list.index" zoZ:=by
 intro pins s σ H x vs v us Q I p C h;obtain⟨l,ns,k,j,rfl,rfl,E,f,b,G,q⟩:=h;cases p;obtain⟨u,rfl,B⟩:=C.one;obtain⟨z,its,n,r,hl,e⟩:=I.lstM E;have c:j<ns.length:=(yj.mp f).1;have A:its.length=ns.length:=by have:=r.length;rw[ye]at this;exact this.symm
 have at':∀m (a:m<its.length),eqU (.int k) its[m]=(ns[m]'(by lia) == k):=λm a=>by
  obtain⟨w,o,i⟩:=r.get (show(ns.map V.int)[m]?=some (.int (ns[m]'(by lia))) by simp[show m<ns.length by lia])
  have:its[m]=w:=by
   rw[yl a]at o;exact yt o
  rw[this,zkq i rfl];rfl
 refine call_meets F.slot_list_index ⟨_,e,rfl⟩ F.entry_list_index (F.args_list_index_2 _ _) (SeqAt.list_indexAt l its.toArray n none #[] u (eqU (.int k)) j (by simp;lia) ⋯ ?_ (λm a g=>?_)) ⟨e,λy D=>zeW B rfl r (zfB ns) y (by simpa using D),⟨.int j,H,I.tok _,⟨_,rfl⟩,q⟩⟩
 ·have:=at' j ⋯
  simp only[List.getElem_toArray];rw[this];have t:ns[j]=k:=by rw[yl c]at f;exact yt f
  rw[t];simp
 ·have d:m<its.length:=by simpa using a
  simp only[List.getElem_toArray];rw[at' m d]
  have:ns[m]'(by lia)≠k:=λz=>b m g (by rw[yl ⋯,z])
  simp[this]
end
section
variable {H:Hp}{Q:VK}{K:Fg}
theorem zmb{i:Int}:∀ns:List Int,inV (.int i) (ns.map V.int)=decide (i∈ns)
 | []=>by simp[inV]
 | n :: ns=>by
  have a:=zmb (i:=i) ns;unfold inV at a ⊢;rw[yaz,List.any_cons,a]
  show((n == i) || _)=_
  by_cases h:n=i
  ·subst h;simp
  ·have:¬i=n:=λz=>h z.symm
   simp[h,this]
def zsd{i:Int}(h:SqL K H a (ns.map V.int))(q:Q (.bl (!decide (i∈ns))) H):rIn K true (.int i) (.ref a) H Q:=
 ⟨a,_,rfl,.inl h,rfl,zfB ns,by rw[if_pos rfl,zmb];exact q⟩
def ztB{zs:List V}(h:H l=some (.lst xs))(h':H b=some (.lst zs))(a:xs.length+zs.length<=100000)(q:∀H',LBut l H H'->H' l=some (.lst (xs++zs))->Q .non H'):zmG (.ref l) [.ref b] H Q:=
 ⟨l,b,xs,zs,rfl,rfl,h,h',zct a,q _ ⟨But.upd,xs,h⟩ zaa⟩
def zs2{k:Int}(h:H l=some (.lst (ns.map V.int)))(c:ns[j]?=some k)(a:∀m,m<j->ns[m]?≠some k)(b:ns.length<=100000)(q:Q (.int j) H):zoZ (.ref l) [.int k] H Q:=⟨l,ns,k,j,rfl,rfl,h,c,a,b,q⟩
end
noncomputable def zcj:Option Nat->V
 | none=>.non
 | some i=>.int i
noncomputable def zaj (n:Nat) (w:Nat->Option Nat):List V:="0e".map λm=>zcj (w m)
def zbk{w:Nat->Option Nat}:(zaj n w).length=n:=by simp[zaj]
def za8{w:Nat->Option Nat}(h:i<n):(zaj n w)[i]?=some (zcj (w i)):=by simp[zaj,h]
def zhF{w v:Nat->Option Nat}(h:∀i,i<n->w i=v i):zaj n w=zaj n v:=by
 unfold zaj;exact yI λi hi=>by rw[h i (yF.mp hi)]
def zq7{w:Nat->Option Nat}{o:Option Nat}:(zaj n w).set j (zcj o)=zaj n λm=>if m=j then o else w m:=by
 refine yag λi=>?_;rw[yau];by_cases hi:i<n
 ·rw[za8 hi,za8 hi,zbk];by_cases e:j=i
  ·subst e;simp[hi]
  ·rw[if_neg e,if_neg (ya9 e)]
 ·have h2:∀v,(zaj n v)[i]?=none:=λv=>by rw[yaS,zbk];lia
  rw[h2,h2,zbk];by_cases e:j=i
  ·subst e;simp[hi]
  ·rw[if_neg e]
def zqc:List.replicate n V.non=zaj n λ_=>none:=by
 refine yag λi=>?_;rw[ya2];by_cases hi:i<n
 ·rw[za8 hi,if_pos hi];rfl
 ·rw[if_neg hi,yG (by rw[zbk];lia)]
def zse{b:Bool}:List.replicate n (V.bl b)=bls n λ_=>b:=by
 refine yag λi=>?_;rw[ya2];by_cases hi:i<n
 ·rw[zir hi,if_pos hi]
 ·rw[if_neg hi,yG (by rw[zme];lia)]
noncomputable def useful (g:Nat->Bool) (m:Nat) (d:Due):Prop:=d.p=(m:Int)/\0<d.a/\g d.p.toNat=true/\g d.q.toNat=true
instance {g:Nat->Bool} {m:Nat} {d:Due}:Decidable (useful g m d):=by unfold useful;infer_instance
noncomputable def zbj (ds:List Due) (g:Nat->Bool):Nat->Nat->Option Nat
 | 0,_=>none
 | i+1,m=>match ds[i]? with
  | some d=>if useful g m d then some i else zbj ds g i m
  | none=>zbj ds g i m
def zpe{g:Nat->Bool}(h:ds[i]?=some d)(m:Nat):zbj ds g (i+1) m=if useful g m d then some i else zbj ds g i m:=by rw[zbj,h]
theorem zd7{ds:List Due}{g:Nat->Bool}{m j:Nat}:∀{i:Nat},zbj ds g i m=some j->∃d,ds[j]?=some d/\useful g m d
 | 0,h=>nomatch h
 | i+1,h=>by
  rw[zbj]at h;cases e:ds[i]? with
  | none=>rw[e]at h;exact zd7 h
  | some d=>
   rw[e]at h;simp only at h;split at h
   ·rename_i u;cases h;exact⟨d,e,u⟩
   ·exact zd7 h
def zqR{k:Int}(h:H l=some (.lst [.non]))(d:0<=k)(h1:k<=100000)(q:∀p H',H p=none->Same H H'->H' p=some (.lst (zaj k.toNat λ_=>none))->Q (.ref p) H'):zeb (.ref l) (.int k) H Q:=
 zkJ h d h1 λp H' a b c=>q p H' a b (by rw[c,zqc])
def zs7{k:Int}{c:Bool}(h:H l=some (.lst [.bl c]))(d:0<=k)(h1:k<=100000)(q:∀p H',H p=none->Same H H'->H' p=some (.lst (bls k.toNat λ_=>c))->Q (.ref p) H'):zeb (.ref l) (.int k) H Q:=
 zkJ h d h1 λp H' a b c=>q p H' a b (by rw[c,zse])
noncomputable def ziy (K:Fg):Sp:=λvs H Q _=>∃(a b:Addr) (ds:List Due) (n:Nat) (g:Nat->Bool),vs=[.ref a,.ref b]/\IsSh K H a ds/\SqL K H b (bls n g)/\n<=100/\ds.length<=1000/\(∀d∈ds,zm n d)/\∀p H',H p=none->Same H H'->H' p=some (.lst (zaj n (zbj ds g ds.length)))->Q (.ref p) H'
def zoX:=λ{K:Fg} {a b:Addr} {ds:List Due} {n:Nat} {g:Nat->Bool} {H:Hp} {Q:VK} {E:XK} h h' hn hl hd q=>@id (ziy K [.ref a,.ref b] H Q E) ⟨a,b,ds,n,g,rfl,h,h',hn,hl,hd,q⟩
def zrk{A:Prop}(q:A):V.non=V.non/\A:=⟨rfl,q⟩
def zld{o:Option Nat}:decide (zcj o=V.non)=o.isNone:=by cases o with | none=>rfl | some i=>simp[zcj]
noncomputable def goF (ds:List Due):Nat->Nat->Bool
 | 0,_=>true
 | t+1,m=>(zbj ds (goF ds t) ds.length m).isSome
noncomputable def zas (ds:List Due):Nat->Nat->Option Nat
 | 0,_=>none
 | t+1,m=>zbj ds (goF ds t) ds.length m
noncomputable def zkv (K:Fg):Sp:=λvs H Q _=>∃(n:Int) (a:Addr) (ds:List Due),vs=[.int n,.ref a]/\IsSh K H a ds/\1<=n/\n<=100/\ds.length<=1000/\(∀d∈ds,zm n d)/\∀p H',H p=none->Same H H'->H' p=some (.lst (zaj n.toNat (zas ds n.toNat)))->Q (.ref p) H'
def zqJ:=λ{K:Fg} {n:Int} {a:Addr} {ds:List Due} {H:Hp} {Q:VK} {E:XK} h h0 h1 hl hd q=>@id (zkv K [.int n,.ref a] H Q E) ⟨n,a,ds,rfl,h,h0,h1,hl,hd,q⟩
theorem zdD:∀(n:Nat) (L:List Nat),L.Nodup->(∀x∈L,x<n)->L.length<=n
 | 0,L,_,h=>by
  cases L with
  | nil=>exact yc _
  | cons x xs=>exact absurd (h x (by simp)) (yan _)
 | n+1,L,nd,h=>by
  have h1:(L.erase n).length<=n:=zdD n (L.erase n) (nd.erase n) λx c=>by
   have b:=nd.mem_erase_iff.mp c
   have:=h x b.2
   have:=b.1
   lia
  have h2:=List.length_erase (a:=n) (l:=L);split at h2<;>lia
structure Lined(n:Nat)(ds:List Due)(ls:List Int):Prop where
 nd:ls.Nodup
 lt:∀x∈ls,0<=x/\x<n
 up:∀d∈ds,0<d.a->∀j:Nat,ls[j]?=some d.q->∃i:Nat,i<j/\ls[i]?=some d.p
def zqE(h1:SqL K H a (ns.map V.int))(h2:SqL K H b [])(c:ns≠[])(q:Q (.bl false) H):zem K (.ref a) (.ref b) H Q:=by
 refine zj7 (.lst h1 (zb3 ns)) (.lst h2 .nil) (by rw[zcK,zcb];lia) ?_;cases ns with
 | nil=>exact absurd rfl c
 | cons n ns=>
  have:PyData.eqv (.list ((n :: ns).map PyData.int)) (.list [])=false:=by simp[PyData.eqv,PyData.eqvAll]
  rw[this];exact q
def zqi{ls:List Int}{x:Int}(nd:ls.Nodup)(h:ls[j]?=some x):∀m,m<j->ls[m]?≠some x:=λm d e=>by
 obtain⟨c,b⟩:=yj.mp h;obtain⟨a,em⟩:=yj.mp e
 have:=(ybS nd).mp (em.trans b.symm)
 lia
section
variable {X:Cx}{tg:Expr}
end
noncomputable def zlc:Sp:=λvs H Q _=>∃a b:Int,vs=[.int a,.int b]/\0<=a/\0<=b/\Q (.int (My.gc a b)) H
def zrh{a b:Int}(c:0<=a)(h1:0<=b)(q:Q (.int (My.gc a b)) H):zlc [.int a,.int b] H Q E:=⟨a,b,rfl,c,h1,q⟩
def zdE:∀(ds:List Due),(∀d∈ds,0<=d.a/\d.a<=10000000000000)->0<=zA ds m r/\zA ds m r<=10000000000000*(ds.length:Int):=by
 intro ds
 suffices h:∀t,t<=ds.length->(∀d∈ds,0<=d.a/\d.a<=10000000000000)->0<=zA (ds.take t) m r/\zA (ds.take t) m r<=10000000000000*(t:Int) by
  intro hd
  have:=h ds.length (yc _) hd
  rwa [yr]at this
 intro t
 induction t with
 | zero=>intro _ _;exact⟨yC 0,yC 0⟩
 | succ t ih=>
  intro c hd;obtain⟨d,b⟩:=zw (show t<ds.length by lia);have h1:=ih ⋯ hd;have h2:=hd d (ya b);rw[zH b,zaB];split<;>lia
noncomputable def zbn (f:Nat->Int):Nat->Int
 | 0=>0
 | r+1=>zbn f r+f r
noncomputable def zb0 (f:Nat->Int) (q:Rat) (r:Nat):Prop:=q.num<zbn f (r+1)*"0k"
instance (f:Nat->Int) (q:Rat) (r:Nat):Decidable (zb0 f q r):=inferInstanceAs (Decidable (_<_))
noncomputable def zaQ (f:Nat->Int) (q:Rat):Nat->Option Nat
 | 0=>none
 | k+1=>match zaQ f q k with
  | some r=>some r
  | none=>if zb0 f q k then some k else none
theorem zh1{f:Nat->Int}{q:Rat}{k r:Nat}(h:zaQ f q k=some r):∀j,zaQ f q (k+j)=some r
 | 0=>h
 | j+1=>by show(match zaQ f q (k+j)with | some r=>some r | none=>_)=_;rw[zh1 h j]
theorem zin{f:Nat->Int}(a:∀j,j<3->0<=f j/\f j<=100000000000000):∀i,i<=3->0<=zbn f i/\zbn f i<=100000000000000*(i:Int)
 | 0,_=>⟨yC 0,yC 0⟩
 | i+1,h=>by
  have h1:=zin a i ⋯;have h2:=a i ⋯;show 0<=zbn f i+f i/\zbn f i+f i<=_;lia
theorem zdB(f:Nat->Int):∀n,zak (vec n f)=zbn f n
 | 0=>rfl
 | n+1=>by rw[zdY,zef,zdB f n];rfl
def zpp{w:Nat->Option Nat}:zaj (n+1) w=zaj n w++[zcj (w n)]:=by unfold zaj;rw[yy,yk];rfl
def zr1{i:Int}(a:-1000000000000000<=i)(h1:i<=1000000000000000):SzQ ((i:Int):Rat) 60000 60000:=
 ⟨yi (sz200 (by show _<i;lia) (by show i<_;lia)) "0a",yi (sz200 (i:=1) "0a" "0a") "0a"⟩
def under_int:q<((zbn f (r+1):Int):Rat)↔zb0 f q r:=by
 rw[Rat.lt_iff];show q.num*1<_↔_;rw[yb6];exact Iff.rfl
noncomputable def zgK (K:Fg):Sp:=λvs H Q _=>∃(l y:Addr) (f:Nat->Int) (q:Rat),vs=[.ref l,.ref y]/\H l=some (.lst ((vec 3 f).map V.int))/\(∀j,j<3->0<=f j/\f j<=100000000000000)/\IsQ H y q/\SzQ q 60000 60000/\∀H',Same H H'->Q (zcj (zaQ f q 3)) H'
def znd:=λ{K:Fg} {l y:Addr} {f:Nat->Int} {q:Rat} {H:Hp} {Q:VK} {E:XK} hl hf hy hs k=>@id (zgK K [.ref l,.ref y] H Q E) ⟨l,y,f,q,rfl,hl,hf,hy,hs,k⟩
abbrev zvF(ds:List Due)(qs:List Rat):List V:=zaj qs.length λm=>zaQ (zA ds m) (qs.getD m 0) 3
noncomputable def zaw (f:Nat->Int) (q:Rat):Nat->Rat
 | 0=>q
 | r+1=>zaw f q r-(if((f r:Int):Rat)<zaw f q r then((f r:Int):Rat)else zaw f q r)
noncomputable def zX (f:Nat->Int) (q:Rat) (r:Nat):Rat:=if((f r:Int):Rat)<zaw f q r then((f r:Int):Rat)else zaw f q r
noncomputable def zY (f:Nat->Int) (q:Rat) (r:Nat):Rat:=if 0<f r then zX f q r/((f r:Int):Rat)else 0
def zcP(f:Nat->Int)(q:Rat)(r:Nat):zaw f q (r+1)=zaw f q r-zX f q r:=rfl
section
variable {f:Nat->Int}{q:Rat}
def zaq{i:Int}(h:0<=i):(0:Rat)<=(i:Rat):=by exact_mod_cast h
def za3{i:Int}(h:0<i):(0:Rat)<(i:Rat):=by exact_mod_cast h
theorem ziN(a:0<=q):∀r,0<=zaw f q r
 | 0=>a
 | r+1=>by
  have:=ziN a r
  rw[zcP];unfold zX;split<;>grind
def ze0(a:0<=q)(b:0<=f r):0<=zX f q r/\zX f q r<=((f r:Int):Rat):=by
 have h1:=ziN (f:=f) a r;have h2:=zaq b;unfold zX;split<;>grind
theorem zl8(a:0<=q)(b:∀r,r<3->0<=f r):∀(k r:Nat),r+k<=3->zaw f q (r+k)<=zaw f q r
 | 0,r,_=>by show zaw f q r<=zaw f q r;grind
 | k+1,r,h=>by
  have h1:=zl8 a b k r ⋯;have h2:=(ze0 a (b (r+k) ⋯)).1;show zaw f q (r+k+1)<=_;rw[zcP];grind
def zcy(b:0<=q)(c:0<=f r):((f r:Int):Rat)*zY f q r=zX f q r:=by
 have h:=ze0 b c;unfold zY;split
 ·rename_i a
  have:=za3 a
  grind
 ·rename_i a;have e:f r=0:=by lia
  rw[e]at h ⊢
  have:((0:Int):Rat)=0:=rfl
  grind
def zjf(a:0<=q)(e:0<=f r):0<=zY f q r/\zY f q r<=1:=by
 have h:=ze0 a e;have g:=zcy a e;by_cases b:0<f r
 ·have d:=za3 b;constructor
  ·refine ybi (c:=((f r:Int):Rat)) ?_ d;grind
  ·refine ybi (c:=((f r:Int):Rat)) ?_ d;grind
 ·unfold zY;rw[if_neg b];exact⟨by decide,by decide⟩
def zoA(i:0<=q)(a:∀r,r<3->0<=f r)(j:q<=((f 0:Int):Rat)+((f 1:Int):Rat)+((f 2:Int):Rat)):zX f q 0+zX f q 1+zX f q 2=q:=by
 have g:=zaq (a 0 ⋯);have h1:=zaq (a 1 ⋯);have h2:=zaq (a 2 ⋯);have b:zaw f q 1=q-zX f q 0:=rfl;have e:zaw f q 2=q-zX f q 0-zX f q 1:=rfl;have h:zX f q 0=if((f 0:Int):Rat)<q then((f 0:Int):Rat)else q:=rfl
 have c:zX f q 1=if((f 1:Int):Rat)<zaw f q 1 then((f 1:Int):Rat)else zaw f q 1:=rfl
 have d:zX f q 2=if((f 2:Int):Rat)<zaw f q 2 then((f 2:Int):Rat)else zaw f q 2:=rfl
 rw[b]at c;rw[e]at d;grind
end
def ztK(p:Rat):((p.num:Int):Rat)=p*((p.den:Int):Rat):=by
 have h:p=((p.num:Int):Rat)/((p.den:Int):Rat):=by
  rw[<- yaR,ybl]
 have:((p.den:Int):Rat)≠0:=by
  intro z
  have:(p.den:Int)=0:=by exact_mod_cast z
  have:=p.den_nz
  lia
 grind
def znY{i j:Int}(h:(i:Rat)=(j:Rat)):i=j:=by exact_mod_cast h
noncomputable def zhm (ds:List Due) (m:Nat) (S:Nat->Rat):Rat:=ds.foldl (fun(s:Rat) (d:Due)=>if d.p=(m:Int)then s+((d.a:Int):Rat)*S d.r.toNat else s) 0
def zjH(ds:List Due)(d:Due)(m:Nat)(S:Nat->Rat):zhm (ds++[d]) m S=if d.p=(m:Int)then zhm ds m S+((d.a:Int):Rat)*S d.r.toNat else zhm ds m S:=by unfold zhm;rw[yaf];rfl
theorem zhO{ds:List Due}{m:Nat}{S:Nat->Rat}(hd:∀d∈ds,0<=d.r/\d.r<3):∀t,t<=ds.length->zhm (ds.take t) m S=((zA (ds.take t) m 0:Int):Rat)*S 0+((zA (ds.take t) m 1:Int):Rat)*S 1+((zA (ds.take t) m 2:Int):Rat)*S 2
 | 0,_=>by
  show(0:Rat)=((0:Int):Rat)*S 0+((0:Int):Rat)*S 1+((0:Int):Rat)*S 2
  have:((0:Int):Rat)=0:=rfl
  grind
 | t+1,ht=>by
  obtain⟨d,a⟩:=zw (show t<ds.length by lia);have b:=zhO (m:=m) (S:=S) hd t ⋯;obtain⟨c,f⟩:=hd d (ya a);rw[zH a,zjH,zaB,zaB,zaB];by_cases e:d.p=(m:Int)
  ·rw[if_pos e];obtain h | h | h:d.r=0\/d.r=1\/d.r=2:=by lia
   ·rw[if_pos ⟨e,⋯⟩,if_neg (λz=>by have:=z.2;lia),if_neg (λz=>by have:=z.2;lia),h,b,yV];show _+_*S 0=_;grind
   ·rw[if_neg (λz=>by have:=z.2;lia),if_pos ⟨e,⋯⟩,if_neg (λz=>by have:=z.2;lia),h,b,yV];show _+_*S 1=_;grind
   ·rw[if_neg (λz=>by have:=z.2;lia),if_neg (λz=>by have:=z.2;lia),if_pos ⟨e,⋯⟩,h,b,yV];show _+_*S 2=_;grind
  ·rw[if_neg e,if_neg (λz=>e z.1),if_neg (λz=>e z.1),if_neg (λz=>e z.1),b]
noncomputable def zS (ds:List Due) (qs:List Rat) (d:Due):Rat:=((d.a:Int):Rat)*zY (zA ds d.p.toNat) (qs.getD d.p.toNat 0) d.r.toNat
def zg5{i:Int}(a:0<=i)(h1:i<=100000000000000):SzQ ((i:Int):Rat) 60 60:=by
 refine⟨zaJ ?_,zaJ ?_⟩
 ·show i.natAbs<2 ^ 60;lia
 ·show(1:Int).natAbs<2 ^ 60
  decide
def zoa{r:Rat}(h1:IsQ H a q)(h2:IsQ H b r)(e:SzQ q n n)(d:SzQ r n n)(k:∀c,IsQ H c (if r<q then r else q)->Q (.ref c) H):zgm n [.ref a,.ref b] H Q E:=by
 refine zjk h1 h2 e d ?_;by_cases h:r<q
 ·rw[if_pos h];exact k b (by rw[if_pos h];exact h2)
 ·rw[if_neg h];exact k a (by rw[if_neg h];exact h1)
noncomputable def zit:Sp:=λvs H Q _=>∃(a b:Addr) (q r:Rat),vs=[.ref a,.ref b]/\IsQ H a q/\IsQ H b r/\OkQ q/\SzQ r 8999 8999/\r.num≠0/\NewQ H Q (q/r)
def zjg:=λ{a b:Addr} {q r:Rat} {H:Hp} {Q:VK} {E:XK} h1 h2 s1 s2 h0 k=>@id (zit [.ref a,.ref b] H Q E) ⟨a,b,q,r,rfl,h1,h2,s1,s2,h0,k⟩
def zs8(q:Rat):My.gc (if q.num<0 then -q.num else q.num) "0k"=1:=by
 have h:=My.gc_abs q.num "0k";rw[if_neg (show ¬("0k"<0) by lia)]at h;rw[h]
 have:=q.reduced
 unfold My.gc
 show((Nat.gcd q.num.natAbs "0k".natAbs:Nat):Int)=1
 rw[yab];exact congrArg _ this
structure PayOk(ds:List Due)(g:Due->Rat):Prop where
 nn:∀d∈ds,0<=g d
 le:∀d∈ds,g d<=((d.a:Int):Rat)
 sz:∀d∈ds,SzQ (g d) 1000 1000
 am:∀d∈ds,0<=d.a/\d.a<=100000000000000
noncomputable def zbE (ds:List Due) (m:Int) (g:Due->Rat):Rat:=ds.foldl (fun(s:Rat) (d:Due)=>if d.p=m then s+g d else s) 0
def zdk(ds:List Due)(d:Due)(m:Int)(g:Due->Rat):zbE (ds++[d]) m g=if d.p=m then zbE ds m g+g d else zbE ds m g:=by unfold zbE;rw[yaf];rfl
section
variable {ds:List Due}{qs:List Rat}
end
section
variable {f:Nat->Int}{q:Rat}
theorem zg0(b:0<=q)(a:∀j,j<3->0<=f j):∀r,r<=3->zaw f q r=if((zbn f r:Int):Rat)<q then q-((zbn f r:Int):Rat)else 0
 | 0,_=>by
  show q=if((0:Int):Rat)<q then q-((0:Int):Rat)else 0
  have e:((0:Int):Rat)=0:=rfl;rw[e];split<;>grind
 | r+1,hr=>by
  have c:=zg0 b a r ⋯;have d:=zaq (a r ⋯);have e:((zbn f (r+1):Int):Rat)=((zbn f r:Int):Rat)+((f r:Int):Rat):=yV _ _;rw[zcP,e];unfold zX;rw[c];split<;>split<;>(try split)<;>grind
end
noncomputable def zbl (ds:List Due) (g:Due->Rat) (m:Nat):List Rat:=(ds.filter λd=>decide (d.q=(m:Int))).map g
def zh2(ds:List Due)(d:Due)(g:Due->Rat)(m:Nat):zbl (ds++[d]) g m=zbl ds g m++if d.q=(m:Int) then[g d] else[]:=by
 unfold zbl;rw[yaP,yk];congr 1;by_cases e:d.q=(m:Int)
 ·rw[if_pos e,yaA (p:=λd:Due=>decide (d.q=(m:Int))) (by simpa using e)];rfl
 ·rw[if_neg e,yaB (p:=λd:Due=>decide (d.q=(m:Int))) (by simpa using e)];rfl
def zfs{g:Due->Rat}:(zbl ds g m).length<=ds.length:=by
 unfold zbl;rw[ye];exact yba _ _
def zo9{g:Due->Rat}{x:Rat}(h:x∈zbl ds g m):∃d∈ds,x=g d:=by
 obtain⟨d,hd,e⟩:=yX.mp h;exact⟨d,(yaC.mp hd).1,e.symm⟩
noncomputable def zK (ds:List Due) (g:Due->Rat) (m:Nat):Rat:=zaX (zbl ds g m)
def zaW(ds:List Due)(d:Due)(g:Due->Rat)(m:Nat):zK (ds++[d]) g m=zK ds g m+if d.q=(m:Int)then g d else 0:=by
 unfold zK;rw[zh2];split
 ·rw[zbr]
 ·rw[y3];grind
noncomputable def PRows (H:Hp) (as:List Addr) (F:Nat->List Rat):Prop:=as.Nodup/\∀(m:Nat) (a:Addr),as[m]?=some a->∃vs,H a=some (.lst vs)/\IsQs H vs (F m)
section
variable {H H':Hp}{as:List Addr}{F:Nat->List Rat}
theorem PRows.same(h:PRows H as F)(e:Same H H'):PRows H' as F:=⟨h.1,λm a q=>by obtain⟨vs,h1,h2⟩:=h.2 m a q;exact⟨vs,e.at h1,h2.same e⟩⟩
def PRows.but(h:PRows H as F)(g:LBut l H H')(n:l∉as):PRows H' as F:=
 ⟨h.1,λm a q=>by
  obtain⟨vs,h1,h2⟩:=h.2 m a q;exact⟨vs,g.lst h1 λz=>n (z▸ya q),LBut.isQs g h2⟩⟩
def PRows.fresh(h:PRows H as F)(a:H p=none):p∉as:=λm=>by
 obtain⟨i,hi,e⟩:=y6 m;obtain⟨vs,h1,_⟩:=h.2 i p (by rw[yl hi,e]);rw[a]at h1;cases h1
def PRows.app(h:PRows H as F)(n:p∉as)(f:H p=some (.lst []))(g:F as.length=[]):PRows H (as++[p]) F:=by
 refine⟨ya8.mpr ⟨h.1,by simp,λa ha b d e=>n (by rw[ym]at d;subst d;subst e;exact ha)⟩,λi a q=>?_⟩;rw[yaK]at q;split at q
 ·exact h.2 i a q
 ·rename_i hi;have c:i-as.length=0:=by
   cases e:i-as.length with
   | zero=>rfl
   | succ m=>rw[e]at q;cases q
  rw[c]at q;cases q
  have:i=as.length:=by lia
  subst this;exact⟨[],f,by rw[g];trivial⟩
def PRows.set(h:PRows H as F)(g:LBut a H H')(ha:as[j]?=some a)(k:H a=some (.lst vs))(i:IsQ H p q)(h':H' a=some (.lst (vs++[.ref p]))):PRows H' as (λm=>if m=j then F m++[q]else F m):=by
 refine⟨h.1,λm b d=>?_⟩;by_cases e:m=j
 ·subst e;rw[ha]at d;cases d;obtain⟨us,c,f⟩:=h.2 m a ha;rw[k]at c;cases c;show ∃vs,H' a=some (.lst vs)/\IsQs H' vs (if m=m then F m++[q]else F m);rw[if_pos rfl];exact⟨_,h',IsQs.app (LBut.isQ g i) (LBut.isQs g f)⟩
 ·obtain⟨us,c,f⟩:=h.2 m b d;show ∃vs,H' b=some (.lst vs)/\IsQs H' vs (if m=j then F m++[q]else F m);rw[if_neg e];exact⟨us,g.lst c λz=>e (zbq h.1 d (z▸ha)),LBut.isQs g f⟩
end
noncomputable def zqb:Nat->(Nat->Rat)->Rat
 | 0,_=>0
 | n+1,F=>zqb n F+F n
theorem zib(F:Nat->Rat):∀n,zaX ("0e".map F)=zqb n F
 | 0=>rfl
 | n+1=>by rw[yy,yk,yU,zbr,zib F n];rfl
noncomputable def zaP (ds:List Due) (m:Nat):Rat:=((zak (vec 3 (zA ds m)):Int):Rat)
def zax{i j:Int}(h:i<=j):((i:Int):Rat)<=((j:Int):Rat):=by exact_mod_cast h
noncomputable def Dv (D:Nat) (x:Rat):Prop:=∃t:Int,x*((D:Int):Rat)=(t:Rat)
section
variable {D E:Nat}{x y:Rat}
def Dv.add(h:Dv D x)(h':Dv D y):Dv D (x+y):=by
 obtain⟨t,e⟩:=h;obtain⟨u,a⟩:=h';exact⟨t+u,by rw[yV,<- e,<- a];grind⟩
def Dv.sub(h:Dv D x)(h':Dv D y):Dv D (x-y):=by
 obtain⟨t,e⟩:=h;obtain⟨u,a⟩:=h';exact⟨t-u,by rw[yb2,<- e,<- a];grind⟩
def Dv.int(i:Int):Dv D ((i:Int):Rat):=⟨i*(D:Int),by rw[yK]⟩
def Dv.mulI(i:Int)(h:Dv D x):Dv D (((i:Int):Rat)*x):=by
 obtain⟨t,e⟩:=h;exact⟨i*t,by rw[yK,<- e];grind⟩
def Dv.dvd(h:Dv D x)(hd:D∣E):Dv E x:=by
 obtain⟨k,rfl⟩:=hd;obtain⟨t,e⟩:=h;refine⟨t*(k:Int),?_⟩
 have:(((D*k:Nat):Int):Rat)=((D:Int):Rat)*((k:Int):Rat):=by
  rw[<- yK];congr 1
 rw[this,yK,<- e];grind
def Dv.div{f:Nat}(b:0<f)(h:Dv D x):Dv (D*f) (x/((f:Int):Rat)):=by
 obtain⟨t,e⟩:=h;refine⟨t,?_⟩
 have:(((D*f:Nat):Int):Rat)=((D:Int):Rat)*((f:Int):Rat):=by
  rw[<- yK];congr 1
 have a:(0:Rat)<((f:Int):Rat):=za3 ⋯;rw[this,<- e];grind
theorem Dv.den(c:0<D)(h:Dv D x):x.den∣D:=by
 obtain⟨t,e⟩:=h;have b:x.num*(D:Int)=t*(x.den:Int):=by
  apply znY;rw[yK,yK,ztK x,<- e];grind
 have a:x.den∣x.num.natAbs*D:=by
  have:(x.den:Int)∣x.num*(D:Int):=⟨t,by rw[b,yaO]⟩
  have:=Int.natAbs_dvd_natAbs.mpr this
  rwa [yab,ybF,yab]at this
 exact Nat.Coprime.dvd_of_dvd_mul_left (Nat.Coprime.symm x.reduced) a
end
noncomputable def DvB (D:Nat) (x:Rat):Prop:=0<=x/\x<=((100000000000000000:Int):Rat)/\Dv D x
theorem DvB.sz{D z:Nat}{x:Rat}(h:DvB D x)(b:0<D)(c:sz (D:Int)<=z):SzQ x (z+57) z:=by
 have h1:=Nat.le_of_dvd b (h.2.2.den b);have a:=sz_le.mp c;rw[yab]at a;have d:0<=x.num:=Rat.num_nonneg.mpr h.1;have g:x.num<=100000000000000000*(x.den:Int):=by
  have:=(Rat.le_iff _ _).mp h.2.1
  have e:((100000000000000000:Int):Rat).den=1:=rfl;have f:((100000000000000000:Int):Rat).num=100000000000000000:=rfl;rw[e,f]at this
  simpa using this
 refine⟨zaJ ?_,zaJ ?_⟩
 ·have i:x.num.natAbs<=100000000000000000*x.den:=by lia
  have j:100000000000000000*x.den<=100000000000000000*D:=yaZ _ h1;rw[ya5];have k:100000000000000000*D<2 ^ z*2 ^ 57:=by
   have:(2:Nat) ^ 57=144115188075855872:=by decide
   rw[this];lia
  lia
 ·rw[yab];lia
section
variable {f:Nat->Int}{q q':Rat}{D:Nat}
theorem zie(h:Dv D q):∀r,Dv D (zaw f q r)
 | 0=>h
 | r+1=>by
  have a:=zie h r;rw[zcP];unfold zX;split
  ·exact a.sub (Dv.int _)
  ·exact a.sub a
def zmo(h:Dv D q)(r:Nat):Dv D (zX f q r):=by
 unfold zX;split
 ·exact Dv.int _
 ·exact zie h r
noncomputable def rkN (t:Int):Nat:=if 0<t then t.toNat else 1
def zsM(t:Int):0<rkN t:=by unfold rkN;split<;>lia
def zlu(h:Dv D q)(r:Nat):Dv (D*rkN (f r)) (zY f q r):=by
 unfold zY rkN;split
 ·rename_i a;have e:((f r:Int):Rat)=(((f r).toNat:Int):Rat):=by congr 1;lia
  rw[e];exact(zmo h r).div ⋯
 ·exact Dv.int 0
def zpx(a:0<=q)(b:∀r,r<3->0<=f r)(h:r<=3):zaw f q r<=q:=by
 have:=zl8 a b r 0 ⋯
 rw[Nat.zero_add]at this;exact this
def zkj(h:DvB D q)(a:∀r,r<3->0<=f r)(b:r<=3):DvB D (zaw f q r):=⟨ziN h.1 r,by have:=zpx h.1 a b;have:=h.2.1;grind,zie h.2.2 r⟩
def zp1(h:DvB D q)(b:∀r,r<3->0<=f r)(a:r<3):DvB D (zX f q r):=by
 have c:=ze0 h.1 (b r a);have h1:=zkj h b (yaw a);refine⟨c.1,?_,zmo h.2.2 r⟩
 have:=h1.2.1
 unfold zX;split<;>grind
def zol(h:DvB D q)(b:∀r,r<3->0<=f r)(c:r<3):DvB (D*rkN (f r)) (zY f q r):=by
 have a:=zjf h.1 (b r c);refine⟨a.1,?_,zlu h.2.2 r⟩
 have:(1:Rat)<=((100000000000000000:Int):Rat):=by decide
 have:=a.2
 grind
def zpt(d:0<=q)(h:q<=q')(a:∀r,r<3->0<=f r)(c:r<3):zX f q r<=zX f q' r:=by
 have e:=zg0 d a r ⋯;have b:=zg0 (q:=q') (by grind) a r ⋯;have g:=zaq (a r c);unfold zX;rw[e,b];grind
def zhp(e:0<=q)(h:q<=q')(d:∀r,r<3->0<=f r)(b:r<3):zY f q r<=zY f q' r:=by
 have i:=zcy e (d r b);have g:=zcy (q:=q') (by grind) (d r b);have hl:=zpt e h d b;by_cases a:0<f r
 ·refine ybi (c:=((f r:Int):Rat)) ?_ (za3 a);rw[i,g];exact hl
 ·unfold zY;rw[if_neg a,if_neg a];exact yE
end
noncomputable def zhy (F:Due->Int):List Due->Nat
 | []=>1
 | d :: ds=>rkN (F d)*zhy F ds
theorem zi5(F:Due->Int):∀ds,0<zhy F ds
 | []=>Nat.one_pos
 | d :: ds=>yb8 (zsM _) (zi5 F ds)
theorem zfY{F:Due->Int}:∀{ds:List Due} {d:Due},d∈ds->rkN (F d)∣zhy F ds
 | e :: ds,d,h=>by
  rcases yA.mp h with rfl | h
  ·exact ybQ _ _
  ·exact Nat.dvd_trans (zfY h) (Nat.dvd_mul_left _ _)
theorem zkB{F:Due->Int}{z:Nat}(a:1<=z):∀{ds:List Due},(∀d∈ds,sz (F d)<=z)->zhy F ds<=(2 ^ z) ^ ds.length
 | [],_=>yc _
 | d :: ds,h=>by
  have c:=zkB a (ds:=ds) λe b=>h e (yR _ b);have h1:=sz_le.mp (h d yZ);have h2:rkN (F d)<=2 ^ z:=by
   unfold rkN;split
   ·lia
   ·exact Nat.one_le_two_pow
  rw[y9,ybx,Nat.mul_comm];exact ybb h2 c
noncomputable def rkD (ds:List Due) (d:Due):Int:=zA ds d.p.toNat d.r.toNat
noncomputable def zbD (ds:List Due):Nat:=zhy (rkD ds) ds
def zgS(ds:List Due):0<zbD ds:=zi5 _ _
def zrR{D:Nat}(c:∀q∈qs,DvB D q)(hd:d∈ds)(e:d.p.toNat<qs.length):Dv (D*zbD ds) (zS ds qs d):=by
 obtain⟨q,a⟩:=zw e;have b:qs.getD d.p.toNat 0=q:=by rw[yf,a];rfl
 unfold zS;rw[b];exact Dv.mulI _ ((zlu (c q (ya a)).2.2 _).dvd (Nat.mul_dvd_mul_left _ (zfY (F:=rkD ds) hd)))
def zqN{D:Nat}(j:∀q∈qs,DvB D q)(g:∀r,r<3->0<=zA ds d.p.toNat r)(h:d.p.toNat<qs.length)(i:d.r.toNat<3)(ha:0<=d.a):0<=zS ds qs d/\zS ds qs d<=((d.a:Int):Rat):=by
 obtain⟨q,b⟩:=zw h;have c:qs.getD d.p.toNat 0=q:=by rw[yf,b];rfl
 unfold zS;rw[c];have f:=zjf (j q (ya b)).1 (g _ i);have e:=zaq ha;constructor
 ·exact yJ e f.1
 ·have:=yS f.2 e
  grind
theorem ziw{E:Nat}:∀(i:Nat) {qs:List Rat},(∀q∈qs,Dv E q/\0<=q/\q<=((10000000000000:Int):Rat))->i<=qs.length->Dv E (zaX (qs.take i))/\0<=zaX (qs.take i)/\zaX (qs.take i)<=((10000000000000*i:Int):Rat)
 | 0,qs,_,_=>by
  rw[List.take_zero];exact⟨Dv.int 0,yE,yE⟩
 | i+1,qs,h,hi=>by
  obtain⟨q,a⟩:=zw (show i<qs.length by lia);obtain⟨h1,h2,c⟩:=ziw i h ⋯;obtain⟨a1,a2,b⟩:=h q (ya a);rw[zH a,zbr];refine⟨h1.add a1,by grind,?_⟩;have e:((10000000000000*((i+1:Nat):Int):Int):Rat)=((10000000000000*(i:Int):Int):Rat)+((10000000000000:Int):Rat):=by
   rw[<- yV];congr 1
  rw[e];grind
def zpU{E:Nat}(h:∀q∈qs,Dv E q/\0<=q/\q<=((10000000000000:Int):Rat))(hl:qs.length<=10)(i:Nat):DvB E (zaX (qs.take i)):=by
 have a:∀j,j<=qs.length->DvB E (zaX (qs.take j)):=λj b=>by
  obtain⟨h1,h2,c⟩:=ziw j h b;refine⟨h2,?_,h1⟩
  have:((10000000000000*(j:Int):Int):Rat)<=((100000000000000000:Int):Rat):=zax ⋯
  grind
 by_cases hi:i<=qs.length
 ·exact a i hi
 ·rw[yaj ⋯,<- yr (l:=qs)];exact a _ (yc _)
structure Deep(ds:List Due)(qs:List Rat)(D:Nat):Prop where
 pos:0<D
 lay:∀q∈qs,DvB D q
 zs:sz ((D*zbD ds:Nat):Int)<=3000
noncomputable def zbN (ds:List Due) (ps:List Int) (qs:List Rat) (m:Nat):Rat:=
 if((ps.getD m 0:Int):Rat)+zK ds (zS ds qs) m<zaP ds m then((ps.getD m 0:Int):Rat)+zK ds (zS ds qs) m else zaP ds m
def zcS{g g':Due->Rat}(h:∀d∈ds,g d<=g' d)(m:Nat):zK ds g m<=zK ds g' m:=by
 have a:∀t,t<=ds.length->zK (ds.take t) g m<=zK (ds.take t) g' m:=by
  intro t
  induction t with
  | zero=>intro _;exact yE
  | succ t ih=>
   intro b;obtain⟨d,hd⟩:=zw (show t<ds.length by lia);have h1:=ih ⋯;have h2:=h d (ya hd);rw[zH hd,zaW,zaW];split<;>grind
 have:=a ds.length (yc _)
 rwa [yr]at this
def zmf{ps:List Int}(m:Nat):zbN ds ps qs m<=zaP ds m:=by
 unfold zbN;split<;>grind
def zpT{F:Nat->Rat}:("0e".map F).getD m 0=if m<n then F m else 0:=by
 rw[yf,yg];by_cases h:m<n
 ·rw[yQ h,if_pos h];rfl
 ·rw[yG (by rw[yB];lia),if_neg h];rfl
def zjz{A:Int}:∀(ds:List Due),(∀d∈ds,0<=d.a/\d.a<=A)->0<=A->0<=zA ds m r/\zA ds m r<=A*(ds.length:Int):=by
 intro ds h f;have b:∀t,t<=ds.length->0<=zA (ds.take t) m r/\zA (ds.take t) m r<=A*(t:Int):=by
  intro t
  induction t with
  | zero=>intro _;rw[List.take_zero];exact⟨yC _,by show(0:Int)<=A*0;lia⟩
  | succ t ih=>
   intro c;obtain⟨d,hd⟩:=zw (show t<ds.length by lia);have h1:=ih ⋯;have h2:=h d (ya hd);have e:A*((t+1:Nat):Int)=A*(t:Int)+A:=by push_cast;rw[yb7,yb6]
   rw[zH hd,zaB,e];split<;>lia
 have:=b ds.length (yc _)
 rwa [yr]at this
def ztb{c:Nat}(b:1<=z)(e:∀d∈ds,sz (rkD ds d)<=z)(a:ds.length<=c)(h:z*c*(n+1)<3000):sz ((zbD ds ^ (n+1):Nat):Int)<=3000:=by
 refine zaJ ?_;rw[yab];have h1:zbD ds<=2 ^ (z*c):=by
  have:=zkB b e
  rw[<- Nat.pow_mul]at this;exact yi this (yaT "0a" (yaZ _ a))
 have h2:=Nat.pow_le_pow_left h1 (n+1);rw[<- Nat.pow_mul]at h2;exact yad h2 (yaU "0a" h)
noncomputable def Drawn (ds:List Due) (c m:Int):Prop:=(m=0->∀d∈ds,d.a<=12)/\(m≠0->c<17)/\ds.length=c.toNat
def znk(hd:∀d∈ds,0<=d.r/\d.r<3):zaE ds m=zak (vec 3 (zA ds m)):=by
 have b:∀t,t<=ds.length->zaE (ds.take t) m=zA (ds.take t) m 0+zA (ds.take t) m 1+zA (ds.take t) m 2:=by
  intro t
  induction t with
  | zero=>intro _;rfl
  | succ t ih=>
   intro f;obtain⟨d,a⟩:=zw (show t<ds.length by lia);have h1:=ih ⋯;obtain⟨c,g⟩:=hd d (ya a);rw[zH a,za0,zaB,zaB,zaB];by_cases e:d.p=(m:Int)
   ·rw[if_pos e];obtain h | h | h:d.r=0\/d.r=1\/d.r=2:=by lia
    ·rw[if_pos ⟨e,⋯⟩,if_neg (λz=>by have:=z.2;lia),if_neg (λz=>by have:=z.2;lia)];lia
    ·rw[if_neg (λz=>by have:=z.2;lia),if_pos ⟨e,⋯⟩,if_neg (λz=>by have:=z.2;lia)];lia
    ·rw[if_neg (λz=>by have:=z.2;lia),if_neg (λz=>by have:=z.2;lia),if_pos ⟨e,⋯⟩];lia
   ·rw[if_neg e,if_neg (λz=>e z.1),if_neg (λz=>e z.1),if_neg (λz=>e z.1)];exact h1
 have:=b ds.length (yc _)
 rw[yr]at this;rw[this];show _=0+zA ds m 0+zA ds m 1+zA ds m 2;lia
noncomputable def zdy (ps:List Int):Prop:=∀p∈ps,0<=p/\p<=100000000000000
def PRows.snoc{F:Nat->List Rat}(h:PRows H as F)(n:p∉as)(f:H p=some (.lst vs))(g:IsQs H vs (F as.length)):PRows H (as++[p]) F:=by
 refine⟨ya8.mpr ⟨h.1,by simp,λa ha b d e=>n (by rw[ym]at d;subst d;subst e;exact ha)⟩,λi a q=>?_⟩;rw[yaK]at q;split at q
 ·exact h.2 i a q
 ·rename_i hi;have c:i-as.length=0:=by
   cases e:i-as.length with
   | zero=>rfl
   | succ m=>rw[e]at q;cases q
  rw[c]at q;cases q
  have:i=as.length:=by lia
  subst this;exact⟨vs,f,g⟩
def PRows.nil{F:Nat->List Rat}:PRows H [] F:=⟨yaI,λ_ _ h=>nomatch h⟩
def PRows.ne{F:Nat->List Rat}{D:Addr}(h:PRows H as F)(d:H D=some (.lst (as.map V.ref))):D∉as:=λz=>by
 obtain⟨i,hi,e⟩:=y6 z;have j:as[i]?=some D:=by rw[yl hi,e]
 obtain⟨vs,h1,h2⟩:=h.2 i D j;rw[d]at h1;cases h1;obtain⟨c,a⟩:=zw (show 0<as.length by lia);obtain⟨v,q,k,_,g⟩:=h2.get (show(as.map V.ref)[0]?=some (.ref c) by rw[yg,a];rfl);obtain⟨ws,f,_⟩:=h.2 0 c a;cases k;have b:H c=some (.tup [.int q.num,.int "0k"]):=g;rw[f]at b;cases b
def PRows.congr{F G:Nat->List Rat}(h:PRows H as F)(e:∀m,m<as.length->F m=G m):PRows H as G:=
 ⟨h.1,λm a q=>by obtain⟨vs,h1,h2⟩:=h.2 m a q;exact⟨vs,h1,by rw[<- e m (yj.mp q).1];exact h2⟩⟩
end Internal
namespace Dt
variable {i k m n r:Nat}
noncomputable def sm (n:Nat) (f:Nat->Rat):Rat:=match n with
 | 0=>0
 | n+1=>sm n f+f n
theorem sm_congr{f g:Nat->Rat}:∀{n:Nat},(∀i,i<n->f i=g i)->sm n f=sm n g
 | 0,_=>rfl
 | n+1,h=>by unfold sm;rw[sm_congr λi hi=>h i ⋯,h n ⋯]
theorem sm_zero:∀{n:Nat} {f:Nat->Rat},(∀i,i<n->f i=0)->sm n f=0
 | 0,_,_=>rfl
 | n+1,f,h=>by unfold sm;rw[sm_zero λi hi=>h i ⋯,h n ⋯];grind
theorem sm_add{f g:Nat->Rat}:∀n:Nat,sm n (λi=>f i+g i)=sm n f+sm n g
 | 0=>by unfold sm;grind
 | n+1=>by unfold sm;rw[sm_add n];grind
theorem sm_mul{f:Nat->Rat}(a:Rat):∀n:Nat,sm n (λi=>a*f i)=a*sm n f
 | 0=>by unfold sm;grind
 | n+1=>by unfold sm;rw[sm_mul a n];grind
def sm_neg{f:Nat->Rat}(n:Nat):sm n (λi=>-f i)=-sm n f:=by
 have:=sm_mul (f:=f) (-1) n
 rw[sm_congr (g:=λi=>-1*f i) (λi _=>by grind),this];grind
def sm_lin{f g:Nat->Rat}(a b:Rat)(n:Nat):sm n (λi=>a*f i+b*g i)=a*sm n f+b*sm n g:=by
 rw[sm_add,sm_mul,sm_mul]
theorem sm_swap{F:Nat->Nat->Rat}(m:Nat):∀n:Nat,sm n (λi=>sm m (F i))=sm m (λj=>sm n λi=>F i j)
 | 0=>by
  show(0:Rat)=sm m λ_=>0
  rw[sm_zero λ_ _=>rfl]
 | n+1=>by
  show sm n (λi=>sm m (F i))+sm m (F n)=sm m λj=>sm n (λi=>F i j)+F n j;rw[sm_swap m n,sm_add]
def sm_one{f:Nat->Rat}(hi:i<n)(h:∀j,j<n->j≠i->f j=0):sm n f=f i:=by
 induction n with
 | zero=>lia
 | succ n ih=>
  unfold sm;by_cases e:i=n
  ·subst e;rw[sm_zero λj b=>h j ⋯ ⋯];grind
  ·rw[ih ⋯ λj b a=>h j ⋯ a,h n ⋯ (λz=>e z.symm)];grind
noncomputable def skip (i:Nat) (f:Nat->Rat):Nat->Rat:=λr=>if r<i then f r else f (r+1)
noncomputable def up (i k:Nat):Nat:=if k<i then k else k+1
def zes(i:Nat)(f:Nat->Rat)(k:Nat):skip i f k=f (up i k):=by unfold skip up;split<;>rfl
theorem zmQ{h:Nat->Rat}{i:Nat}:∀{n:Nat},i<n+1->sm n (λk=>h (up i k))=sm (n+1) (λj=>if j=i then 0 else h j)
 | 0,hi=>by
  have:i=0:=by lia
  subst this;unfold sm;unfold sm;rw[if_pos rfl];grind
 | n+1,hi=>by
  by_cases e:i=n+1
  ·subst e;rw[show sm (n+1+1) (λj=>if j=n+1 then 0 else h j)=sm (n+1) (λj=>if j=n+1 then 0 else h j)+(if n+1=n+1 then 0 else h (n+1))from rfl,if_pos rfl];rw[sm_congr (f:=λk=>h (up (n+1) k)) (g:=λj=>if j=n+1 then 0 else h j) λk b=>by
    show h (up (n+1) k)=if k=n+1 then 0 else h k
    rw[if_neg ⋯];unfold up;rw[if_pos ⋯]]
   grind
  ·have a:=zmQ (h:=h) (i:=i) (n:=n) ⋯;rw[show sm (n+1) (λk=>h (up i k))=sm n (λk=>h (up i k))+h (up i n)from rfl,a];rw[show sm (n+1+1) (λj=>if j=i then 0 else h j)=sm (n+1) (λj=>if j=i then 0 else h j)+(if n+1=i then 0 else h (n+1))from rfl,if_neg (λz=>e z.symm)];unfold up;rw[if_neg ⋯]
noncomputable def sgn:Nat->Rat
 | 0=>1
 | n+1=>-sgn n
noncomputable def det:Nat->(Nat->Nat->Rat)->Rat
 | 0,_=>1
 | n+1,c=>sm (n+1) λi=>sgn (n+i)*c n i*det n (λj=>skip i (c j))
theorem det_congr:∀{n:Nat} {c c':Nat->Nat->Rat},(∀j r,j<n->r<n->c j r=c' j r)->det n c=det n c'
 | 0,_,_,_=>rfl
 | n+1,c,c',h=>by
  unfold det;refine sm_congr λi hi=>?_;rw[h n i ⋯ hi,det_congr λj r a b=>?_];unfold skip;split
  ·exact h j r ⋯ ⋯
  ·exact h j (r+1) ⋯ ⋯
noncomputable def setc (c:Nat->Nat->Rat) (m:Nat) (u:Nat->Rat):Nat->Nat->Rat:=λj=>if j=m then u else c j
def zfW{c:Nat->Nat->Rat}{u:Nat->Rat}:(λj=>skip i (setc c m u j))=setc (λj=>skip i (c j)) m (skip i u):=by
 funext j;unfold setc;split<;>rfl
theorem zbP{m:Nat}(a b:Rat):∀{n:Nat} {c:Nat->Nat->Rat} {u v:Nat->Rat},m<n->det n (setc c m λr=>a*u r+b*v r)=a*det n (setc c m u)+b*det n (setc c m v)
 | 0,_,_,_,h=>by lia
 | n+1,c,u,v,h=>by
  unfold det;rw[<- sm_lin];refine sm_congr λi hi=>?_;by_cases e:m=n
  ·subst e;have d:∀w:Nat->Rat,setc c m w m=w:=λw=>by unfold setc;rw[if_pos rfl]
   have f:∀w:Nat->Rat,det m (λj=>skip i (setc c m w j))=det m (λj=>skip i (c j)):=λw=>det_congr λj r l k=>by
    unfold setc;rw[if_neg ⋯]
   rw[d,d,d,f,f,f];grind
  ·have d:∀w:Nat->Rat,setc c m w n=c n:=λw=>by unfold setc;rw[if_neg (λz=>e z.symm)]
   rw[d,d,d,zfW,zfW,zfW];have g:skip i (λr=>a*u r+b*v r)=λr=>a*skip i u r+b*skip i v r:=by
    funext r;unfold skip;split<;>rfl
   rw[g,zbP a b ⋯];grind
def zdi{c:Nat->Nat->Rat}:setc c m (c m)=c:=by
 funext j;unfold setc;split
 ·rename_i h;rw[h]
 ·rfl
noncomputable def zj4 (n:Nat) (c:Nat->Nat->Rat) (p q:Nat):Prop:=∀r,r<n->c p r=c q r
noncomputable def swapc (c:Nat->Nat->Rat) (p q:Nat):Nat->Nat->Rat:=λj=>if j=p then c q else if j=q then c p else c j
def zlL{p q:Nat}(g:∀c:Nat->Nat->Rat,zj4 n c p q->det n c=0)(i:p<n)(m:q<n)(e:p≠q)(c:Nat->Nat->Rat):det n (swapc c p q)=-det n c:=by
 have f:∀u v:Nat->Rat,det n (setc (setc c p u) q v)=-det n (setc (setc c p v) q u):=λu v=>by
  have l:=g (setc (setc c p λr=>1*u r+1*v r) q λr=>1*u r+1*v r) λr _=>by
   unfold setc;rw[if_neg e,if_pos rfl,if_pos rfl]
  have s:=g (setc (setc c p u) q u) λr _=>by unfold setc;rw[if_neg e,if_pos rfl,if_pos rfl]
  have t:=g (setc (setc c p v) q v) λr _=>by unfold setc;rw[if_neg e,if_pos rfl,if_pos rfl]
  have d:∀a b:Nat->Rat,setc (setc c p a) q b=setc (setc c q b) p a:=λa b=>by
   funext j;unfold setc;by_cases h1:j=q
   ·rw[if_pos h1,if_neg (λz=>e (z.symm.trans h1)),if_pos h1]
   ·rw[if_neg h1];by_cases h2:j=p
    ·rw[if_pos h2,if_pos h2]
    ·rw[if_neg h2,if_neg h2,if_neg h1]
  rw[zbP 1 1 m,d,zbP 1 1 i,d,zbP 1 1 i,<- d,<- d,<- d,<- d]at l;grind
 have h:=f (c q) (c p);have k:setc (setc c p (c q)) q (c p)=swapc c p q:=by
  funext j;unfold setc swapc;by_cases h1:j=q
  ·rw[if_pos h1,if_neg (λz=>e (z.symm.trans h1)),if_pos h1]
  ·rw[if_neg h1];by_cases h2:j=p
   ·rw[if_pos h2,if_pos h2]
   ·rw[if_neg h2,if_neg h2,if_neg h1]
 have o:setc (setc c p (c p)) q (c q)=c:=by rw[zdi];exact zdi
 rw[k,o]at h;exact h
def skip2{f:Nat->Rat}(h:i<=k):skip k (skip i f) r=skip i (skip (k+1) f) r:=by
 unfold skip;by_cases h1:r<i
 ·rw[if_pos ⋯,if_pos h1,if_pos h1,if_pos ⋯]
 ·by_cases h2:r<k
  ·rw[if_pos h2,if_neg h1,if_neg h1,if_pos ⋯]
  ·rw[if_neg h2,if_neg ⋯,if_neg h1,if_neg ⋯]
def zlC{c:Nat->Nat->Rat}(h:zj4 (n+2) c n (n+1)):det (n+2) c=0:=by
 -- what two rows i,j bring
 let M:Nat->Nat->Rat:=λi k=>det n (λj=>skip k (skip i (c j)))
 let G:Nat->Nat->Rat:=λi j=>if j<i then sgn (n+1+i)*c (n+1) i*(sgn (n+j)*c (n+1) j*M i j)else sgn (n+1+i)*c (n+1) i*(sgn (n+(j-1))*c (n+1) j*M i (j-1))
 have p:det (n+2) c=sm (n+2) λi=>sm (n+2) λj=>if j=i then 0 else G i j:=by
  show sm (n+2) (λi=>sgn (n+1+i)*c (n+1) i*det (n+1) (λj=>skip i (c j)))=_;refine sm_congr λi hi=>?_;show sgn (n+1+i)*c (n+1) i*sm (n+1) (λk=>sgn (n+k)*skip i (c n) k*det n (λj=>skip k (skip i (c j))))=_;rw[<- sm_mul,<- zmQ (n:=n+1) hi];refine sm_congr λk v=>?_;show sgn (n+1+i)*c (n+1) i*(sgn (n+k)*skip i (c n) k*M i k)=G i (up i k);show _=if up i k<i then sgn (n+1+i)*c (n+1) i*(sgn (n+up i k)*c (n+1) (up i k)*M i (up i k))else sgn (n+1+i)*c (n+1) i*(sgn (n+(up i k-1))*c (n+1) (up i k)*M i (up i k-1))
  rw[zes];have q:up i k<n+2:=by unfold up;split<;>lia
  rw[h _ q];by_cases b:k<i
  ·have:up i k=k:=by unfold up;rw[if_pos b]
   rw[this,if_pos b]
  ·have:up i k=k+1:=by unfold up;rw[if_neg b]
   rw[this,if_neg ⋯,ybI]
 have a:∀i j,i<n+2->j<n+2->i<j->G i j=-G j i:=λi j hi g m=>by
  show(if j<i then _ else _)=-(if i<j then _ else _)
  rw[if_neg ⋯,if_pos m];have o:M i (j-1)=M j i:=det_congr λl r hl w=>by
   have:=skip2 (f:=c l) (i:=i) (k:=j-1) (r:=r) ⋯
   rw[show j-1+1=j by lia]at this;exact this
  rw[o];have u:sgn (n+1+i)=-sgn (n+i):=by rw[show n+1+i=n+i+1 by lia];rfl
  have s:sgn (n+1+j)=sgn (n+(j-1)):=by
   rw[show n+1+j=n+(j-1)+1+1 by lia];show - -sgn (n+(j-1))=_;grind
  rw[u,s];grind
 have t:sm (n+2) (λi=>sm (n+2) λj=>if j=i then 0 else G i j)=-sm (n+2) (λi=>sm (n+2) λj=>if j=i then 0 else G i j):=by
  rw[<- sm_neg];rw[sm_swap];refine sm_congr λi hi=>?_;rw[<- sm_neg];refine sm_congr λj g=>?_;by_cases e:i=j
  ·rw[if_pos e,if_pos e.symm];grind
  ·rw[if_neg e,if_neg (λz=>e z.symm)];by_cases d:i<j
   ·have:=a i j hi g d;grind
   ·have:=a j i g hi ⋯;grind
 rw[p];grind
theorem zea:∀{n:Nat} {c:Nat->Nat->Rat} {p q:Nat},p<q->q<n->zj4 n c p q->det n c=0
 | 0,_,_,_,_,h,_=>by lia
 | n+1,c,p,q,hpq,hq,h=>by
  by_cases e:q=n
  ·subst e;obtain⟨m,rfl⟩:∃m,q=m+1:=⟨q-1,⋯⟩
   by_cases a:p=m
   ·subst a;exact zlC h
   ·-- swap p and m among the first columns
    have k:det (m+2) (swapc c p m)=-det (m+2) c:=by
     show sm (m+2) _=-sm (m+2) _;rw[<- sm_neg];refine sm_congr λi hi=>?_;have d:swapc c p m (m+1)=c (m+1):=by unfold swapc;rw[if_neg ⋯,if_neg ⋯]
     have f:(λj=>skip i (swapc c p m j))=swapc (λj=>skip i (c j)) p m:=by
      funext j;unfold swapc;split
      ·rfl
      ·split<;>rfl
     have g:=zlL (n:=m+1) (p:=p) (q:=m) (λl h'=>zea ⋯ ⋯ h') ⋯ ⋯ a (λj=>skip i (c j));rw[d,f,g];grind
    have z:det (m+2) (swapc c p m)=0:=zlC λr b=>by
     have:=h r b
     unfold swapc;rw[if_neg (λz=>a z.symm),if_pos rfl,if_neg ⋯,if_neg ⋯];exact this
    grind
  ·unfold det;refine sm_zero λi hi=>?_;rw[zea (n:=n) (p:=p) (q:=q) hpq ⋯ λr b=>?_]
   ·grind
   ·show skip i (c p) r=skip i (c q) r;unfold skip;split
    ·exact h r ⋯
    ·exact h (r+1) ⋯
def zkK{c:Nat->Nat->Rat}{p q:Nat}(d:p<n)(e:q<n)(a:p≠q)(h:zj4 n c p q):det n c=0:=by
 rcases ybJ a with z | z
 ·exact zea z e h
 ·exact zea z d λr b=>(h r b).symm
def zrg{c:Nat->Nat->Rat}(h:∀r,r<n->c n r=0)(h1:c n n=1):det (n+1) c=det n c:=by
 show sm (n+1) (λi=>sgn (n+i)*c n i*det n (λj=>skip i (c j)))=_;rw[sm_one (i:=n) ⋯ λj b a=>by rw[h j ⋯];grind,h1]
 have:det n (λj=>skip n (c j))=det n c:=det_congr λj r b d=>by unfold skip;rw[if_pos d]
 rw[this];have s:∀k,sgn (k+k)=1:=λk=>by
  induction k with
  | zero=>rfl
  | succ k ih=>
   rw[show k+1+(k+1)=k+k+1+1 by lia];show - -sgn (k+k)=1;rw[ih];grind
 rw[s];grind
theorem zoH{f:Nat->Rat}{a:Nat}:∀{n:Nat},a+1<n->sm n (λi=>if i=a then f (a+1)else if i=a+1 then f a else f i)=sm n f
 | 0,h=>by lia
 | n+1,h=>by
  by_cases e:a+1=n
  ·subst e;show sm a _+_+_=sm a f+f a+f (a+1);dsimp only;rw[if_pos rfl,if_neg ⋯,if_pos rfl,sm_congr (g:=f) λi hi=>by rw[if_neg ⋯,if_neg ⋯]];grind
  ·show sm n _+_=sm n f+f n;rw[zoH ⋯];dsimp only;rw[if_neg ⋯,if_neg ⋯]
noncomputable def swapa (c:Nat->Nat->Rat) (a:Nat):Nat->Nat->Rat:=λj i=>if i=a then c j (a+1)else if i=a+1 then c j a else c j i
theorem zd8:∀{n:Nat} {c:Nat->Nat->Rat} {a:Nat},a+1<n->det n (swapa c a)=-det n c
 | 0,_,_,h=>by lia
 | n+1,c,a,h=>by
  show sm (n+1) (λi=>sgn (n+i)*swapa c a n i*det n (λj=>skip i (swapa c a j)))=-sm (n+1) λi=>sgn (n+i)*c n i*det n (λj=>skip i (c j));rw[<- sm_neg,<- zoH (f:=λi=>-(sgn (n+i)*c n i*det n (λj=>skip i (c j)))) h];refine sm_congr λi hi=>?_;by_cases g:i=a
  ·subst g;rw[if_pos rfl];have h1:swapa c i n i=c n (i+1):=by unfold swapa;rw[if_pos rfl]
   have h2:det n (λj=>skip i (swapa c i j))=det n (λj=>skip (i+1) (c j)):=det_congr λj r e d=>by
    unfold swapa skip
    (dsimp only;(repeat' split)<;>first | rfl | (exfalso;lia) | (congr 1;lia))
   rw[h1,h2,show n+(i+1)=n+i+1 by lia];show _=-(-sgn (n+i)*_*_)
   grind
  ·rw[if_neg g];by_cases k:i=a+1
   ·subst k;rw[if_pos rfl];have h1:swapa c a n (a+1)=c n a:=by unfold swapa;rw[if_neg ⋯,if_pos rfl]
    have h2:det n (λj=>skip (a+1) (swapa c a j))=det n (λj=>skip a (c j)):=det_congr λj r e d=>by
     unfold swapa skip
     (dsimp only;(repeat' split)<;>first | rfl | (exfalso;lia) | (congr 1;lia))
    rw[h1,h2,show n+(a+1)=n+a+1 by lia];show -sgn (n+a)*_*_=_;grind
   ·rw[if_neg k];have h1:swapa c a n i=c n i:=by unfold swapa;rw[if_neg g,if_neg k]
    rw[h1];by_cases lt:i<a
    ·obtain⟨b,rfl⟩:∃b,a=b+1:=⟨a-1,⋯⟩
     have h2:(det n λj=>skip i (swapa c (b+1) j))=det n (swapa (λj=>skip i (c j)) b):=det_congr λj r e d=>by
      unfold swapa skip
      (dsimp only;(repeat' split)<;>first | rfl | (exfalso;lia) | (congr 1;lia))
     rw[h2,zd8 ⋯];grind
    ·have h2:(det n λj=>skip i (swapa c a j))=det n (swapa (λj=>skip i (c j)) a):=det_congr λj r e d=>by
      unfold swapa skip
      (dsimp only;(repeat' split)<;>first | rfl | (exfalso;lia) | (congr 1;lia))
     rw[h2,zd8 ⋯];grind
theorem zhh:∀(g:Nat) {n:Nat} {c:Nat->Nat->Rat} {p q:Nat},q=p+1+g->q<n->(∀j,j<n->c j p=c j q)->det n c=0
 | 0,n,c,p,q,e,hq,h=>by
  subst e
  have:=zd8 (n:=n) (c:=c) (a:=p) ⋯
  have f:det n (swapa c p)=det n c:=det_congr λj r b d=>by
   unfold swapa;by_cases h1:r=p
   ·rw[if_pos h1,h1];exact(h j b).symm
   ·rw[if_neg h1];by_cases h2:r=p+1
    ·rw[if_pos h2,h2];exact h j b
    ·rw[if_neg h2]
  grind
 | g+1,n,c,p,q,e,hq,h=>by
  have h1:=zd8 (n:=n) (c:=c) (a:=q-1) ⋯;have h2:=zhh g (n:=n) (c:=swapa c (q-1)) (p:=p) (q:=q-1) ⋯ ⋯ λj b=>by
   unfold swapa;rw[if_neg ⋯,if_neg ⋯,if_pos rfl,show q-1+1=q by lia];exact h j b
  grind
def ze9{c:Nat->Nat->Rat}{p q:Nat}(d:p<n)(e:q<n)(a:p≠q)(h:∀j,j<n->c j p=c j q):det n c=0:=by
 rcases ybJ a with z | z
 ·exact zhh (q-p-1) ⋯ e h
 ·exact zhh (p-q-1) ⋯ d λj b=>(h j b).symm
noncomputable def setr (c:Nat->Nat->Rat) (r:Nat) (w:Nat->Rat):Nat->Nat->Rat:=λj i=>if i=r then w j else c j i
theorem zdQ(a b:Rat):∀{n:Nat} {c:Nat->Nat->Rat} {r:Nat} {u v:Nat->Rat},r<n->det n (setr c r λj=>a*u j+b*v j)=a*det n (setr c r u)+b*det n (setr c r v)
 | 0,_,_,_,_,h=>by lia
 | n+1,c,r,u,v,h=>by
  unfold det;rw[<- sm_lin];refine sm_congr λi hi=>?_;by_cases e:i=r
  ·subst e;have d:∀w:Nat->Rat,setr c i w n i=w n:=λw=>by unfold setr;rw[if_pos rfl]
   have f:∀w:Nat->Rat,det n (λj=>skip i (setr c i w j))=det n (λj=>skip i (c j)):=λw=>det_congr λj r g l=>by
    unfold setr skip
    (dsimp only;(repeat' split)<;>first | rfl | (exfalso;lia) | (congr 1;lia))
   rw[d,d,d,f,f,f];grind
  ·have d:∀w:Nat->Rat,setr c r w n i=c n i:=λw=>by unfold setr;rw[if_neg e]
   have f:∀w:Nat->Rat,det n (λj=>skip i (setr c r w j))=det n (setr (λj=>skip i (c j)) (if r<i then r else r-1) w):=λw=>det_congr λj k g m=>by
    unfold setr skip
    (dsimp only;(repeat' split)<;>first | rfl | (exfalso;lia) | (congr 1;lia))
   rw[d,d,d,f,f,f,zdQ a b (by split<;>lia)];grind
noncomputable def IsI (x:Rat):Prop:=∃z:Int,x=(z:Rat)
def IsI.add{x y:Rat}(h:IsI x)(h':IsI y):IsI (x+y):=by
 obtain⟨a,rfl⟩:=h;obtain⟨b,rfl⟩:=h';exact⟨a+b,by rw[yV]⟩
def IsI.mul{x y:Rat}(h:IsI x)(h':IsI y):IsI (x*y):=by
 obtain⟨a,rfl⟩:=h;obtain⟨b,rfl⟩:=h';exact⟨a*b,by rw[yK]⟩
theorem IsI.sm{f:Nat->Rat}:∀{n:Nat},(∀i,i<n->IsI (f i))->IsI (sm n f)
 | 0,_=>⟨0,rfl⟩
 | n+1,h=>(IsI.sm λi hi=>h i ⋯).add (h n ⋯)
theorem IsI.sgn:∀n,IsI (sgn n)
 | 0=>⟨1,rfl⟩
 | n+1=>by
  obtain⟨z,e⟩:=IsI.sgn n;exact⟨-z,by show -Dt.sgn n=_;rw[e,yaQ]⟩
theorem IsI.det:∀{n:Nat} {c:Nat->Nat->Rat},(∀j r,j<n->r<n->IsI (c j r))->IsI (det n c)
 | 0,_,_=>⟨1,rfl⟩
 | n+1,c,h=>by
  refine IsI.sm λi hi=>((IsI.sgn _).mul (h n i ⋯ hi)).mul (IsI.det λj r a b=>?_);unfold skip;split
  ·exact h j r ⋯ ⋯
  ·exact h j (r+1) ⋯ ⋯
end Dt
namespace Dt
variable {i j n:Nat}
theorem zgf{n i:Nat}{c:Nat->Nat->Rat}(hi:i<n){a:Nat->Rat}{u:Nat->Nat->Rat}:∀K:Nat,det n (setc c i λr=>sm K λm=>a m*u m r)=sm K λm=>a m*det n (setc c i (u m))
 | 0=>by
  have:=zbP (n:=n) (m:=i) (c:=c) (u:=λ_=>0) (v:=λ_=>0) 0 0 hi
  have e:(λr:Nat=>(0:Rat)*0+0*0)=λr=>sm 0 λm=>a m*u m r:=by funext r;show _=(0:Rat);grind
  rw[e]at this;rw[this];show _=(0:Rat)
  grind
 | K+1=>by
  have e:(λr=>sm (K+1) λm=>a m*u m r)=λr=>1*(sm K λm=>a m*u m r)+a K*u K r:=by
   funext r;show sm K (λm=>a m*u m r)+a K*u K r=_;grind
  rw[e,zbP 1 (a K) hi,zgf hi K];show _=sm K (λm=>a m*det n (setc c i (u m)))+a K*det n (setc c i (u K));grind
def zic{c:Nat->Nat->Rat}(hi:i<n){a:Nat->Rat}:det n (setc c i λr=>sm n λm=>a m*c m r)=a i*det n c:=by
 rw[zgf hi,sm_one hi λm d b=>?_]
 ·rw[zdi]
 ·rw[zkK d hi b λr _=>?_]
  ·grind
  ·unfold setc;rw[if_neg b,if_pos rfl]
noncomputable def cl (A:Nat->Nat->Rat):Nat->Nat->Rat:=λj r=>A r j
structure Bar(n k:Nat)(A T:Nat->Nat->Rat)(d:Rat):Prop where
 d0:d≠0
 dd:d=det k (cl A)
 id1:∀i m,i<k->m<k->T i m=if i=m then d else 0
 id2:∀i m,k<=i->i<n->m<k->T i m=0
 rel:∀l j,l<n->j<=n->d*A l j=sm k (λm=>A l m*T m j)+(if k<=l then T l j else 0)
section
variable {n k:Nat}{A T:Nat->Nat->Rat}{d:Rat}
def bar_start:Bar n 0 A A 1:=⟨by decide,rfl,λi m h=>by lia,λi m _ _ h=>by lia,λl j _ _=>by
 rw[if_pos (yM _)];show _=(0:Rat)+A l j;grind⟩
def Bar.top(b:Bar n k A T d)(h:k<=n)(hi:i<k)(f:j<=n):T i j=det k (setc (cl A) i λr=>A r j):=by
 have h1:=zic (n:=k) (i:=i) (c:=cl A) hi (a:=λm=>T m j);have h2:det k (setc (cl A) i λr=>sm k λm=>T m j*cl A m r)=det k (setc (cl A) i λr=>d*A r j+0*A r j):=det_congr λq r l g=>by
  unfold setc;split
  ·have:=b.rel r j ⋯ f
   rw[if_neg ⋯]at this;have e:sm k (λm=>T m j*cl A m r)=sm k (λm=>A r m*T m j):=sm_congr λm _=>by unfold cl;grind
   dsimp only;rw[e];grind
  ·rfl
 rw[h1,<- b.dd,zbP d 0 hi]at h2
 have:=b.d0
 grind
noncomputable def bor (A:Nat->Nat->Rat) (k i j:Nat):Nat->Nat->Rat:=λq r=>A (if r<k then r else i) (if q<k then q else j)
def Bar.bot(b:Bar n k A T d)(hi:k<=i)(f:i<n)(l:j<=n):T i j=det (k+1) (bor A k i j):=by
 let C:=bor A k i j
 let e:Nat->Rat:=λr=>if r=k then 1 else 0
 have c:∀r,r<k+1->d*C k r=(sm k λm=>T m j*C m r)+T i j*e r:=λr a=>by
  show d*A (if r<k then r else i) (if k<k then k else j)=(sm k λm=>T m j*A (if r<k then r else i) (if m<k then m else j))+T i j*(if r=k then 1 else 0)
  rw[if_neg (show ¬k<k by lia),sm_congr (g:=λm=>A (if r<k then r else i) m*T m j) λm o=>by rw[if_pos o];grind];by_cases h:r<k
  ·rw[if_pos h,if_neg ⋯]
   have:=b.rel r j ⋯ l
   rw[if_neg ⋯]at this;grind
  ·rw[if_neg h,if_pos ⋯]
   have:=b.rel i j f l
   rw[if_pos hi]at this;grind
 have h1:d*det (k+1) C=det (k+1) (setc C k λr=>d*C k r+0*C k r):=by
  rw[zbP d 0 ⋯,zdi];grind
 have h2:det (k+1) (setc C k λr=>d*C k r+0*C k r)=det (k+1) (setc C k λr=>1*(sm k λm=>T m j*C m r)+T i j*e r):=det_congr λq r s a=>by
  unfold setc;split
  ·have:=c r a
   grind
  ·rfl
 have v:det (k+1) (setc C k λr=>sm k λm=>T m j*C m r)=0:=by
  rw[zgf ⋯];refine sm_zero λm o=>?_;rw[zkK (p:=m) (q:=k) ⋯ ⋯ ⋯ λr _=>by unfold setc;rw[if_neg ⋯,if_pos rfl]];grind
 have u:det (k+1) (setc C k e)=d:=by
  have t:∀r,r<k->setc C k e k r=0:=λr a=>by unfold setc;rw[if_pos rfl];show(if r=k then(1:Rat)else 0)=0;rw[if_neg ⋯]
  have w:setc C k e k k=1:=by unfold setc;rw[if_pos rfl];show(if k=k then(1:Rat)else 0)=1;rw[if_pos rfl]
  rw[zrg t w,b.dd];refine det_congr λq r s a=>?_;unfold setc;rw[if_neg ⋯];show A (if r<k then r else i) (if q<k then q else j)=cl A q r;rw[if_pos a,if_pos s];rfl
 rw[h2,zbP 1 (T i j) ⋯,v,u]at h1
 have:=b.d0
 show T i j=det (k+1) C;grind
def Bar.whole(b:Bar n k A T d)(g:k<=n)(a:∀l j,l<n->j<=n->IsI (A l j))(hi:i<n)(c:j<=n):IsI (T i j):=by
 by_cases h:i<k
 ·rw[b.top g h c];refine IsI.det λq r f e=>?_;unfold setc;split
  ·exact a r j ⋯ c
  ·exact a r q ⋯ ⋯
 ·rw[b.bot ⋯ hi c];refine IsI.det λq r f e=>?_;show IsI (A (if r<k then r else i) (if q<k then q else j));exact a _ _ (by split<;>lia) (by split<;>lia)
noncomputable def nxt (T:Nat->Nat->Rat) (k:Nat) (d:Rat):Nat->Nat->Rat:=λi j=>if i=k then T k j else(T k k*T i j-T i k*T k j)/d
def Bar.step(b:Bar n k A T d)(c:k<n)(u:T k k≠0):Bar n (k+1) A (nxt T k d) (T k k):=by
 have hd:=b.d0;refine⟨u,?_,λi m hi o=>?_,λi m hi f o=>?_,λl j hl t=>?_⟩
 ·rw[b.bot (yc k) c (yaw c)];refine det_congr λq r w v=>?_;show A (if r<k then r else k) (if q<k then q else k)=A r q;congr 1
  ·split<;>lia
  ·split<;>lia
 ·unfold nxt;by_cases e:i=k
  ·rw[if_pos e];by_cases a:m=k
   ·rw[a,if_pos e]
   ·rw[if_neg (λz=>a (z.symm.trans e)),b.id2 k m (yc _) c ⋯]
  ·rw[if_neg e];by_cases a:m=k
   ·rw[a,if_neg e];grind
   ·rw[b.id1 i m ⋯ ⋯,b.id2 k m (yc _) c ⋯];split<;>grind
 ·unfold nxt;rw[if_neg ⋯];by_cases a:m=k
  ·rw[a];grind
  ·rw[b.id2 i m ⋯ f ⋯,b.id2 k m (yc _) c ⋯];grind
 ·have g:=b.rel l j hl t;have h:=b.rel l k hl ⋯;have p:sm (k+1) (λm=>A l m*nxt T k d m j)=sm k (λm=>(T k k/d)*(A l m*T m j)+(-(T k j/d))*(A l m*T m k))+A l k*T k j:=by
   show sm k (λm=>A l m*nxt T k d m j)+A l k*nxt T k d k j=_;congr 1
   ·refine sm_congr λm o=>?_;unfold nxt;rw[if_neg ⋯];grind
   ·unfold nxt;rw[if_pos rfl]
  rw[p,sm_lin];by_cases s:l<k
  ·rw[if_neg ⋯]at g h ⊢;grind
  ·rw[if_pos ⋯]at g h;by_cases e:l=k
   ·subst e;rw[if_neg ⋯];grind
   ·rw[if_pos ⋯];unfold nxt;rw[if_neg e];grind
noncomputable def swp {α:Type} (T:Nat->α) (a b:Nat):Nat->α:=λi=>if i=a then T b else if i=b then T a else T i
def Bar.swap(b:Bar n k A T d){p q:Nat}(x:k<=p)(B:k<=q)(t:p<n)(w:q<n):Bar n k (swp A p q) (swp T p q) d:=by
 have low:∀{α:Type} (F:Nat->α) i,i<k->swp F p q i=F i:=λF i hi=>by unfold swp;rw[if_neg ⋯,if_neg ⋯]
 have at':∀i,∃a,(a<n↔i<n)/\(k<=a↔k<=i)/\swp A p q i=A a/\swp T p q i=T a:=λi=>by
  by_cases e:i=p
  ·exact⟨q,⋯,⋯,by unfold swp;rw[if_pos e],by unfold swp;rw[if_pos e]⟩
  ·by_cases f:i=q
   ·exact⟨p,⋯,⋯,by unfold swp;rw[if_neg e,if_pos f],by unfold swp;rw[if_neg e,if_pos f]⟩
   ·exact⟨i,Iff.rfl,Iff.rfl,by unfold swp;rw[if_neg e,if_neg f],by unfold swp;rw[if_neg e,if_neg f]⟩
 refine⟨b.d0,?_,λi m hi c=>?_,λi m hi h c=>?_,λl j hl s=>?_⟩
 ·rw[b.dd];refine det_congr λj r s v=>?_;show A r j=swp A p q r j;rw[low A r v]
 ·rw[low T i hi];exact b.id1 i m hi c
 ·obtain⟨a,h1,h2,_,o⟩:=at' i;rw[o];exact b.id2 a m (h2.mpr hi) (h1.mpr h) c
 ·obtain⟨l',h1,h2,u,o⟩:=at' l;rw[u,o,b.rel l' j (h1.mpr hl) s,sm_congr (g:=λm=>A l' m*swp T p q m j) λm c=>by rw[low T m c]];congr 1;by_cases z:k<=l
  ·rw[if_pos z,if_pos (h2.mpr z)]
  ·rw[if_neg z,if_neg (λy=>z (h2.mp y))]
def Bar.stuck(b:Bar n k A T d)(a:k<n)(h:∀i,k<=i->i<n->T i k=0):det n (cl A)=0:=by
 have h1:d*det n (cl A)=det n (setc (cl A) k λr=>d*cl A k r+0*cl A k r):=by
  rw[zbP d 0 a,zdi];grind
 have h2:det n (setc (cl A) k λr=>d*cl A k r+0*cl A k r)=det n (setc (cl A) k λr=>sm k λm=>T m k*cl A m r):=det_congr λq r j c=>by
  unfold setc;split
  ·have:=b.rel r k c ⋯
   have e:(if k<=r then T r k else 0)=0:=by
    split
    ·rename_i z;exact h r z c
    ·rfl
   rw[e]at this;have g:sm k (λm=>T m k*cl A m r)=sm k (λm=>A r m*T m k):=sm_congr λm _=>by unfold cl;grind
   dsimp only;rw[g];show d*A r k+0*A r k=_;grind
  ·rfl
 have f:det n (setc (cl A) k λr=>sm k λm=>T m k*cl A m r)=0:=by
  rw[zgf a];refine sm_zero λm l=>?_;rw[zkK (p:=m) (q:=k) ⋯ a ⋯ λr _=>by unfold setc;rw[if_neg ⋯,if_pos rfl]];grind
 have:=b.d0
 rw[h2,f]at h1;grind
def Bar.meets(b:Bar n n A T d){l:Nat}(hl:l<n):sm n (λm=>A l m*(T m n/d))=A l n:=by
 have h:=b.rel l n hl (yc _);rw[if_neg ⋯]at h;have hd:=b.d0;have e:sm n (λm=>A l m*(T m n/d))=(1/d)*sm n (λm=>A l m*T m n):=by
  rw[<- sm_mul];exact sm_congr λm _=>by grind
 rw[e];grind
end
def zpf{p q:Nat}(f:p<n)(g:q<n)(e:p≠q)(A:Nat->Nat->Rat):det n (cl (swp A p q))=-det n (cl A):=by
 have k:∀u v:Nat->Rat,det n (setr (setr (cl A) p u) q v)=-det n (setr (setr (cl A) p v) q u):=λu v=>by
  have m:=ze9 (c:=setr (setr (cl A) p λr=>1*u r+1*v r) q λr=>1*u r+1*v r) f g e λj _=>by
   unfold setr;rw[if_neg e,if_pos rfl,if_pos rfl]
  have s:=ze9 (c:=setr (setr (cl A) p u) q u) f g e λj _=>by unfold setr;rw[if_neg e,if_pos rfl,if_pos rfl]
  have t:=ze9 (c:=setr (setr (cl A) p v) q v) f g e λj _=>by unfold setr;rw[if_neg e,if_pos rfl,if_pos rfl]
  have d:∀a b:Nat->Rat,setr (setr (cl A) p a) q b=setr (setr (cl A) q b) p a:=λa b=>by
   funext j i;unfold setr;by_cases h1:i=q
   ·rw[if_pos h1,if_neg (λz=>e (z.symm.trans h1)),if_pos h1]
   ·rw[if_neg h1];by_cases h2:i=p
    ·rw[if_pos h2,if_pos h2]
    ·rw[if_neg h2,if_neg h2,if_neg h1]
  rw[zdQ 1 1 g,d,zdQ 1 1 f,d,zdQ 1 1 f,<- d,<- d,<- d,<- d]at m;grind
 have h:=k (A q) (A p);have l:setr (setr (cl A) p (A q)) q (A p)=cl (swp A p q):=by
  funext j i;unfold setr cl swp;by_cases h1:i=q
  ·rw[if_pos h1,if_neg (λz=>e (z.symm.trans h1)),if_pos h1]
  ·rw[if_neg h1];by_cases h2:i=p
   ·rw[if_pos h2,if_pos h2]
   ·rw[if_neg h2,if_neg h2,if_neg h1]
 have o:setr (setr (cl A) p (A p)) q (A q)=cl A:=by
  funext j i;unfold setr cl;by_cases h1:i=q
  ·rw[if_pos h1,h1]
  ·rw[if_neg h1];by_cases h2:i=p
   ·rw[if_pos h2,h2]
   ·rw[if_neg h2]
 rw[l,o]at h;exact h
end Dt
namespace Dt
variable {i j k n z:Nat}
noncomputable def Bd (b x:Rat):Prop:=-b<=x/\x<=b
def Bd.nn{b x:Rat}(h:Bd b x):0<=b:=by have:=h.1;have:=h.2;grind
def Bd.mul{a b x y:Rat}(h:Bd a x)(h':Bd b y):Bd (a*b) (x*y):=by
 have c:0<=(a-x)*(b+y):=yJ (by have:=h.2;grind) (by have:=h'.1;grind);have p2:0<=(a+x)*(b-y):=yJ (by have:=h.1;grind) (by have:=h'.2;grind);have e:0<=(a-x)*(b-y):=yJ (by have:=h.2;grind) (by have:=h'.2;grind);have d:0<=(a+x)*(b+y):=yJ (by have:=h.1;grind) (by have:=h'.1;grind);constructor<;>grind
def Bd.add{a b x y:Rat}(h:Bd a x)(h':Bd b y):Bd (a+b) (x+y):=by
 have:=h.1;have:=h.2;have:=h'.1;have:=h'.2
 constructor<;>grind
theorem Bd.sm{b:Rat}{f:Nat->Rat}:∀{n:Nat},(∀i,i<n->Bd b (f i))->Bd ((n:Nat)*b) (sm n f)
 | 0,_=>by
  show Bd _ (0:Rat)
  have:((0:Nat):Rat)=0:=rfl
  rw[this];constructor<;>grind
 | n+1,h=>by
  have h1:=(Bd.sm (n:=n) λi hi=>h i ⋯).add (h n ⋯);have e:(((n+1:Nat):Rat))*b=(n:Nat)*b+b:=by
   have:((n+1:Nat):Rat)=(n:Nat)+1:=by push_cast;rfl
   rw[this];grind
  rw[e];exact h1
theorem Bd.sgn:∀n,Bd 1 (sgn n)
 | 0=>by unfold Dt.sgn;constructor<;>grind
 | n+1=>by
  have:=Bd.sgn n
  have:=this.1;have:=(Bd.sgn n).2
  unfold Dt.sgn;constructor<;>grind
noncomputable def dN (M:Nat):Nat->Nat
 | 0=>1
 | n+1=>(n+1)*(M*dN M n)
theorem Bd.det{M:Nat}:∀{n:Nat} {c:Nat->Nat->Rat},(∀j r,j<n->r<n->Bd (M:Nat) (c j r))->Bd ((dN M n:Nat):Rat) (det n c)
 | 0,_,_=>by
  unfold Dt.det dN
  have:((1:Nat):Rat)=1:=rfl
  rw[this];constructor<;>grind
 | n+1,c,h=>by
  have a:Bd ((n+1:Nat)*((M:Nat)*((dN M n:Nat):Rat))) (Dt.det (n+1) c):=by
   unfold Dt.det;refine Bd.sm λi hi=>?_;have h1:=((Bd.sgn (n+i)).mul (h n i ⋯ hi)).mul (Bd.det (M:=M) (n:=n) (c:=λj=>skip i (c j)) λj r d b=>?_)
   ·have e:1*(M:Rat)*((dN M n:Nat):Rat)=(M:Rat)*((dN M n:Nat):Rat):=by grind
    rw[e]at h1;exact h1
   ·unfold skip;split
    ·exact h j r ⋯ ⋯
    ·exact h j (r+1) ⋯ ⋯
  have e:((dN M (n+1):Nat):Rat)=(n+1:Nat)*((M:Nat)*((dN M n:Nat):Rat)):=by
   show(((n+1)*(M*dN M n):Nat):Rat)=_
   push_cast
   rfl
  rw[e];exact a
theorem zoV{z:Nat}:∀n,n<=15->dN (2 ^ z) n<=2 ^ (n*(z+4))
 | 0,_=>by show 1<=2 ^ (0*(z+4));rw[Nat.zero_mul];exact yc _
 | n+1,h=>by
  have b:=zoV (z:=z) n ⋯
  show(n+1)*(2 ^ z*dN (2 ^ z) n)<=_
  have h1:(n+1)<=2 ^ 4:=by lia
  have h2:2 ^ z*dN (2 ^ z) n<=2 ^ z*2 ^ (n*(z+4)):=yaZ _ b;have a:=ybb h1 h2;have e:2 ^ 4*(2 ^ z*2 ^ (n*(z+4)))=2 ^ ((n+1)*(z+4)):=by
   rw[<- ya5,<- ya5];congr 1;rw[Nat.add_mul];lia
  rw[e]at a;exact a
def Bd.mono{a b:Nat}{x:Rat}(h:Bd (a:Nat) x)(c:a<=b):Bd (b:Nat) x:=by
 have h1:((a:Nat):Rat)<=((b:Nat):Rat):=by exact_mod_cast c
 have:=h.1;have:=h.2
 constructor<;>grind
def Bar.sz{A T:Nat->Nat->Rat}{d:Rat}(b:Bar n k A T d)(e:k<=n)(o:n<=15)(a:∀l j,l<n->j<=n->Bd ((2 ^ z:Nat):Rat) (A l j))(hi:i<n)(c:j<=n):Bd ((2 ^ (n*(z+4)):Nat):Rat) (T i j):=by
 have up:∀s,s<=n->dN (2 ^ z) s<=2 ^ (n*(z+4)):=λs m=>yi (zoV s ⋯) (yaT "0a" (Nat.mul_le_mul_right _ m));by_cases h:i<k
 ·rw[b.top e h c];refine(Bd.det λq r g f=>?_).mono (up k e);unfold setc;split
  ·exact a r j ⋯ c
  ·exact a r q ⋯ ⋯
 ·rw[b.bot ⋯ hi c];refine(Bd.det λq r g f=>?_).mono (up (k+1) ⋯);show Bd _ (A (if r<k then r else i) (if q<k then q else j));exact a _ _ (by split<;>lia) (by split<;>lia)
theorem Bar.congr{n k:Nat}{A T e:Nat->Nat->Rat}{d:Rat}(b:Bar n k A T d)(o:k<=n)(h:∀i j,i<n->j<=n->e i j=T i j):Bar n k A e d:=
 ⟨b.d0,b.dd,λi m hi c=>by rw[h i m ⋯ ⋯];exact b.id1 i m hi c,λi m hi a c=>by rw[h i m a ⋯];exact b.id2 i m hi a c,λl j hl f=>by
  rw[b.rel l j hl f,sm_congr (g:=λm=>A l m*e m j) λm c=>by rw[h m j ⋯ f]];congr 1;split
  ·rw[h l j hl f]
  ·rfl⟩
noncomputable def castM (F:Nat->Nat->Int):Nat->Nat->Rat:=λi j=>((F i j:Int):Rat)
noncomputable def nxtI (T:Nat->Nat->Int) (k:Nat) (d:Int):Nat->Nat->Int:=λi j=>if i=k then T k j else(T k k*T i j-T i k*T k j).fdiv d
def Bar.stepI{A T:Nat->Nat->Int}{d:Int}(b:Bar n k (castM A) (castM T) ((d:Int):Rat))(r:k<n)(t:T k k≠0):Bar n (k+1) (castM A) (castM (nxtI T k d)) ((T k k:Int):Rat)/\∀i j,i<n->j<=n->i≠k->nxtI T k d i j*d=T k k*T i j-T i k*T k j:=by
 have g:castM T k k≠0:=λz=>t (by have:((T k k:Int):Rat)=((0:Int):Rat):=z;exact_mod_cast this);have s:=b.step r g;have f:d≠0:=λz=>b.d0 (by rw[z];rfl);have p:∀i j,i<n->j<=n->i≠k->nxtI T k d i j*d=T k k*T i j-T i k*T k j/\((nxtI T k d i j:Int):Rat)=nxt (castM T) k d i j:=λi j hi c a=>by
  obtain⟨z,h⟩:=s.whole ⋯ (λl j _ _=>⟨A l j,rfl⟩) hi c;have q:nxt (castM T) k ((d:Int):Rat) i j=(castM T k k*castM T i j-castM T i k*castM T k j)/((d:Int):Rat):=by unfold nxt;rw[if_neg a]
  have m:T k k*T i j-T i k*T k j=z*d:=by
   have h1:castM T k k*castM T i j-castM T i k*castM T k j=((z:Int):Rat)*((d:Int):Rat):=by
    rw[q]at h
    have:=b.d0
    grind
   have h2:((T k k*T i j-T i k*T k j:Int):Rat)=((z*d:Int):Rat):=by
    rw[yb2,yK,yK,yK];exact h1
   exact_mod_cast h2
  have o:nxtI T k d i j=z:=by
   unfold nxtI;rw[if_neg a,m,Int.mul_fdiv_cancel _ f]
  exact⟨by rw[o,m],by rw[o,h]⟩
 refine⟨s.congr ⋯ λi j hi c=>?_,λi j hi c a=>(p i j hi c a).1⟩;by_cases e:i=k
 ·show((nxtI T k d i j:Int):Rat)=_
  unfold nxtI nxt;rw[if_pos e,if_pos e];rfl
 ·exact(p i j hi c e).2
structure Eqv(n:Nat)(A B:Nat->Nat->Rat):Prop where
 dt:det n (cl A)=0↔det n (cl B)=0
 an:∀x:Nat->Rat,(∀l,l<n->sm n (λm=>A l m*x m)=A l n)↔∀l,l<n->sm n (λm=>B l m*x m)=B l n
def Eqv.refl(n:Nat)(A:Nat->Nat->Rat):Eqv n A A:=⟨Iff.rfl,λ_=>Iff.rfl⟩
theorem Eqv.trans{n:Nat}{A B C:Nat->Nat->Rat}(h:Eqv n A B)(h':Eqv n B C):Eqv n A C:=⟨h.dt.trans h'.dt,λx=>(h.an x).trans (h'.an x)⟩
def swp_at{α:Type}{p q:Nat}(b:p<n)(c:q<n)(F:Nat->α)(l:Nat)(hl:l<n):∃l',l'<n/\swp F p q l=F l':=by
 unfold swp;by_cases e:l=p
 ·exact⟨q,c,by rw[if_pos e]⟩
 ·by_cases a:l=q
  ·exact⟨p,b,by rw[if_neg e,if_pos a]⟩
  ·exact⟨l,hl,by rw[if_neg e,if_neg a]⟩
def zqw{α:Type}{p q:Nat}(b:p<n)(c:q<n)(F:Nat->α)(l:Nat)(hl:l<n):∃l',l'<n/\swp F p q l'=F l:=by
 unfold swp;by_cases e:l=p
 ·refine⟨q,c,?_⟩;by_cases a:q=p
  ·rw[if_pos a,e,a]
  ·rw[if_neg a,if_pos rfl,e]
 ·by_cases a:l=q
  ·exact⟨p,b,by rw[if_pos rfl,a]⟩
  ·exact⟨l,hl,by rw[if_neg e,if_neg a]⟩
def Eqv.swap{p q:Nat}(a:p<n)(b:q<n)(A:Nat->Nat->Rat):Eqv n A (swp A p q):=by
 refine⟨?_,λx=>⟨λh l hl=>?_,λh l hl=>?_⟩⟩
 ·by_cases e:p=q
  ·subst e
   have:swp A p p=A:=by
    funext i;unfold swp;by_cases h:i=p
    ·rw[if_pos h,h]
    ·rw[if_neg h,if_neg h]
   rw[this]
  ·rw[zpf a b e A];constructor<;>intro h<;>grind
 ·obtain⟨l',h1,h2⟩:=swp_at a b A l hl;rw[h2];exact h l' h1
 ·obtain⟨l',h1,h2⟩:=zqw a b A l hl
  have:=h l' h1
  rw[h2]at this;exact this
def det_scale{R:Nat->Nat->Rat}{L:Nat->Rat}(d:∀l,l<n->L l≠0):det n (cl R)=0↔det n (cl λl j=>L l*R l j)=0:=by
 have a:∀k,k<=n->(det n (cl R)=0↔det n (cl λl j=>(if l<k then L l else 1)*R l j)=0):=by
  intro k
  induction k with
  | zero=>
   intro _
   have:det n (cl λl j=>(if l<0 then L l else 1)*R l j)=det n (cl R):=det_congr λj r _ _=>by
    show(if r<0 then L r else 1)*R r j=R r j
    rw[if_neg ⋯];grind
   rw[this]
  | succ k ih=>
   intro f;rw[ih ⋯];have e:det n (cl λl j=>(if l<k+1 then L l else 1)*R l j)=det n (setr (cl λl j=>(if l<k then L l else 1)*R l j) k λj=>L k*(R k j)+0*R k j):=det_congr λj r _ _=>by
    unfold setr
    show(if r<k+1 then L r else 1)*R r j=if r=k then _ else(if r<k then L r else 1)*R r j
    by_cases h:r=k
    ·rw[if_pos h,if_pos ⋯,h];grind
    ·rw[if_neg h];by_cases h2:r<k
     ·rw[if_pos h2,if_pos ⋯]
     ·rw[if_neg h2,if_neg ⋯]
   have c:det n (setr (cl λl j=>(if l<k then L l else 1)*R l j) k λj=>R k j)=det n (cl λl j=>(if l<k then L l else 1)*R l j):=det_congr λj r _ _=>by
    unfold setr;by_cases h:r=k
    ·rw[if_pos h];show R k j=(if r<k then L r else 1)*R r j;rw[if_neg ⋯,h];grind
    ·rw[if_neg h]
   rw[e,zdQ (L k) 0 ⋯,c]
   have:=d k ⋯
   constructor<;>intro h<;>grind
 have h:=a n (yc _);have e:det n (cl λl j=>(if l<n then L l else 1)*R l j)=det n (cl λl j=>L l*R l j):=det_congr λj r _ b=>by
  show(if r<n then L r else 1)*R r j=L r*R r j
  rw[if_pos b]
 rw[e]at h;exact h
def meets_scale{R:Nat->Nat->Rat}{L:Nat->Rat}(a:∀l,l<n->L l≠0)(x:Nat->Rat):(∀l,l<n->sm n (λm=>R l m*x m)=R l n)↔∀l,l<n->sm n (λm=>(L l*R l m)*x m)=L l*R l n:=by
 constructor
 ·intro h l hl;rw[<- h l hl,<- sm_mul];exact sm_congr λm _=>by grind
 ·intro h l hl;have h1:=h l hl;have e:sm n (λm=>L l*R l m*x m)=L l*sm n (λm=>R l m*x m):=by rw[<- sm_mul];exact sm_congr λm _=>by grind
  rw[e]at h1
  have:=a l hl
  grind
end Dt
namespace Dt
variable {i k n:Nat}
theorem zn2{f:Nat->Rat}{k:Nat}:∀{n:Nat},k<=n->(∀m,k<=m->m<n->f m=0)->sm n f=sm k f
 | 0,h,_=>by rw[show k=0 by lia]
 | n+1,h,hz=>by
  rcases yP h with g | g
  ·show sm n f+f n=sm k f;rw[zn2 (n:=n) ⋯ λm h1 h2=>hz m h1 ⋯,hz n ⋯ ⋯];grind
  ·rw[g]
def znC{A T:Nat->Nat->Rat}{d:Rat}(b:Bar n k A T d)(a:k<n)(h:∀i,k<=i->i<n->T i k=0):∃x:Nat->Rat,(∃m,m<n/\x m≠0)/\∀l,l<n->sm n (λm=>A l m*x m)=0:=by
 refine⟨λm=>if m<k then -T m k else if m=k then d else 0,⟨k,a,by dsimp only;rw[if_neg ⋯,if_pos rfl];exact b.d0⟩,λl hl=>?_⟩;rw[zn2 (k:=k+1) ⋯ λm h1 h2=>by dsimp only;rw[if_neg ⋯,if_neg ⋯];grind];show sm k (λm=>A l m*if m<k then -T m k else if m=k then d else 0)+A l k*(if k<k then -T k k else if k=k then d else 0)=0;rw[if_neg (yW _),if_pos rfl];have e:sm k (λm=>A l m*if m<k then -T m k else if m=k then d else 0)=-sm k (λm=>A l m*T m k):=by
  rw[<- sm_neg];exact sm_congr λm c=>by rw[if_pos c];grind
 have r:=b.rel l k hl ⋯;have z:(if k<=l then T l k else 0)=0:=by
  split
  ·rename_i g;exact h l g hl
  ·rfl
 rw[z]at r;rw[e];grind
def null_of_det{A:Nat->Nat->Rat}(h:det n (cl A)=0):∃x:Nat->Rat,(∃m,m<n/\x m≠0)/\∀l,l<n->sm n (λm=>A l m*x m)=0:=by
 obtain⟨a,c⟩:∃a:Nat->Nat->Rat,a=λl j=>if j<n then A l j else 0:=⟨_,rfl⟩
 have hd:det n (cl a)=0:=by
  rw[<- h];exact det_congr λj r w _=>by show a r j=A r j;rw[c];exact if_pos w
 have v:∀l,a l n=0:=λl=>by rw[c];exact if_neg (yW _)
 have u:∀(x:Nat->Rat) (l:Nat),sm n (λm=>a l m*x m)=sm n (λm=>A l m*x m):=λx l=>sm_congr λm u=>by
  rw[show a l m=A l m by rw[c];exact if_pos u]
 have o:∀{B:Nat->Nat->Rat},Eqv n a B->(∀l,B l n=0)->(∃x:Nat->Rat,(∃m,m<n/\x m≠0)/\∀l,l<n->sm n (λm=>B l m*x m)=0)->∃x:Nat->Rat,(∃m,m<n/\x m≠0)/\∀l,l<n->sm n (λm=>A l m*x m)=0:=λ{B} e f ⟨x,hx,hl⟩=>⟨x,hx,λl b=>by
  have:=(e.an x).mpr (λl b=>by rw[hl l b,f l]) l b
  rw[v,u]at this;exact this⟩
 have go:∀k,k<=n->(∃x:Nat->Rat,(∃m,m<n/\x m≠0)/\∀l,l<n->sm n (λm=>A l m*x m)=0)\/∃(B M:Nat->Nat->Rat) (d:Rat),Bar n k B M d/\Eqv n a B/\∀l,B l n=0:=by
  intro k
  induction k with
  | zero=>exact λ_=>.inr ⟨a,a,1,bar_start,Eqv.refl _ _,v⟩
  | succ k ih=>
   intro C;rcases ih ⋯with g | ⟨B,M,d,s,e,f⟩
   ·exact .inl g
   rcases yat (∃i,k<=i/\i<n/\M i k≠0) with⟨i,h1,h2,h3⟩ | z
   ·have t:=s.swap (p:=k) (q:=i) (yc _) h1 ⋯ h2;have y:swp M k i k k≠0:=by unfold swp;rw[if_pos rfl];exact h3
    exact .inr ⟨_,_,_,t.step ⋯ y,e.trans (Eqv.swap ⋯ h2 B),λl=>by
     unfold swp;split
     ·exact f i
     ·split
      ·exact f k
      ·exact f l⟩
   ·refine .inl (o e f (znC s ⋯ λi h1 h2=>?_));rcases yat (M i k=0)with q | q
    ·exact q
    ·exact absurd ⟨i,h1,h2,q⟩ z
 rcases go n (yc _)with g | ⟨B,M,d,s,e,_⟩
 ·exact g
 ·exact absurd (by rw[s.dd];exact e.dt.mp hd) s.d0
theorem zn7{f:Nat->Rat}:∀{n:Nat},(∀i,i<n->f i<=0)->sm n f<=0
 | 0,_=>by show(0:Rat)<=0;decide
 | n+1,h=>by
  have h1:=zn7 (n:=n) λi hi=>h i ⋯;have h2:=h n ⋯;show sm n f+f n<=0;grind
theorem zoB{f:Nat->Rat}{j:Nat}:∀{n:Nat},j<n->(∀i,i<n->f i<=0)->f j<0->sm n f<0
 | n+1,hj,h,hf=>by
  have h2:=h n ⋯;show sm n f+f n<0;rcases yP (yY hj)with g | g
  ·have:=zoB (n:=n) g (λi hi=>h i ⋯) hf
   grind
  ·have:=zn7 (n:=n) λi hi=>h i ⋯
   rw[g]at hf;grind
theorem sm_ge0{f:Nat->Rat}:∀{n:Nat},(∀i,i<n->0<=f i)->0<=sm n f
 | 0,_=>by show(0:Rat)<=0;decide
 | n+1,h=>by
  have h1:=sm_ge0 (n:=n) λi hi=>h i ⋯;have h2:=h n ⋯;show 0<=sm n f+f n;grind
theorem sm_mono{f g:Nat->Rat}:∀{n:Nat},(∀i,i<n->f i<=g i)->sm n f<=sm n g
 | 0,_=>by show(0:Rat)<=0;decide
 | n+1,h=>by
  have h1:=sm_mono (n:=n) λi hi=>h i ⋯;have h2:=h n ⋯;show sm n f+f n<=sm n g+g n;grind
structure Leak(n:Nat)(f:Nat->Nat->Rat)(r:Nat->Rat):Prop where
 nn:∀j i,j<n->i<n->0<=f j i
 own:∀i,i<n->f i i=0
 le:∀j,j<n->sm n (f j)<=r j
 leak:∀S:Nat->Bool,(∃j,j<n/\S j=true)->∃j,j<n/\S j=true/\sm n (λi=>if S i then f j i else 0)<r j
def Leak.nonneg{f:Nat->Nat->Rat}{r s:Nat->Rat}(h:Leak n f r)(w:∀i,i<n->0<=r i*s i-sm n (λj=>f j i*s j)):∀i,i<n->0<=s i:=by
 intro k m;rcases yat (0<=s k)with z | z
 ·exact z
 exfalso;obtain⟨S,x⟩:∃S:Nat->Bool,S=λi=>decide (s i<0):=⟨_,rfl⟩
 have St:∀i,S i=true↔s i<0:=λi=>by rw[x];exact decide_eq_true_iff
 obtain⟨b,p,d,l⟩:=h.leak S ⟨k,m,(St k).mpr (Rat.not_le.mp z)⟩;obtain⟨c,e⟩:∃c:Nat->Rat,c=λj=>sm n (λi=>if S i then f j i else 0):=⟨_,rfl⟩
 have u:∀j,j<n->0<=c j:=λj a=>by
  rw[e];refine sm_ge0 λi hi=>?_;split
  ·exact h.nn j i a hi
  ·exact yE
 have A:∀j,j<n->c j<=r j:=λj a=>by
  refine yL ?_ (h.le j a);rw[e];refine sm_mono λi hi=>?_;split
  ·exact yE
  ·exact h.nn j i a hi
 have o:sm n (λj=>(if S j then r j*s j else 0)-c j*s j)=sm n (λi=>if S i then r i*s i-sm n (λj=>f j i*s j)else 0):=by
  have a1:sm n (λj=>(if S j then r j*s j else 0)-c j*s j)=sm n (λj=>1*(if S j then r j*s j else 0)+(-1)*(c j*s j)):=sm_congr λj _=>by grind
  have a2:sm n (λi=>if S i then r i*s i-sm n (λj=>f j i*s j)else 0)=sm n (λi=>1*(if S i then r i*s i else 0)+(-1)*(if S i then sm n (λj=>f j i*s j)else 0)):=sm_congr λi _=>by split<;>grind
  have y:sm n (λj=>c j*s j)=sm n (λi=>if S i then sm n (λj=>f j i*s j)else 0):=by
   have b1:sm n (λj=>c j*s j)=sm n (λj=>sm n λi=>(if S i then f j i else 0)*s j):=sm_congr λj _=>by
    rw[e];dsimp only;rw[show sm n (λi=>if S i then f j i else 0)*s j=s j*sm n (λi=>if S i then f j i else 0) by grind,<- sm_mul];exact sm_congr λi _=>by grind
   rw[b1,sm_swap];refine sm_congr λi _=>?_;by_cases g:S i
   ·rw[if_pos g];exact sm_congr λj _=>by rw[if_pos g]
   ·rw[if_neg g];exact sm_zero λj _=>by rw[if_neg g];grind
  rw[a1,a2,sm_lin,sm_lin,y]
 have B:0<=sm n (λi=>if S i then r i*s i-sm n (λj=>f j i*s j)else 0):=sm_ge0 λi hi=>by
  split
  ·exact w i hi
  ·exact yE
 have lt:sm n (λj=>(if S j then r j*s j else 0)-c j*s j)<0:=by
  refine zoB p (λj a=>?_) ?_
  ·have v:=u j a;have h1:=A j a;by_cases g:S j
   ·rw[if_pos g];have q:=(St j).mp g;have t:0<=(r j-c j)*(-s j):=yJ (by grind) (by grind);grind
   ·rw[if_neg g];have q:0<=s j:=ybo.mp λz=>g ((St j).mpr z);have t:0<=c j*s j:=yJ v q;grind
  ·rw[if_pos d];have q:=(St b).mp d;have h2:c b<r b:=by rw[e];exact l
   have t:0<(r b-c b)*(-s b):=ybr (by grind) (by grind);grind
 rw[o]at lt;exact absurd B (Rat.not_le.mpr lt)
noncomputable def bal (f:Nat->Nat->Rat) (r:Nat->Rat):Nat->Nat->Rat:=λi j=>if i=j then r i else -f j i
def bal_row{f:Nat->Nat->Rat}{r s:Nat->Rat}(hi:i<n)(b:f i i=0):sm n (λm=>bal f r i m*s m)=r i*s i-sm n (λj=>f j i*s j):=by
 have c:sm n (λm=>bal f r i m*s m)=sm n (λm=>1*(if m=i then r i*s i else 0)+(-1)*(f m i*s m)):=sm_congr λm _=>by
  unfold bal;by_cases g:i=m
  ·rw[if_pos g,if_pos g.symm,<- g,b];grind
  ·rw[if_neg g,if_neg λz=>g z.symm];grind
 rw[c,sm_lin,sm_one hi λj _ a=>if_neg a,if_pos rfl];grind
theorem Leak.det{n:Nat}{f:Nat->Nat->Rat}{r:Nat->Rat}(h:Leak n f r):det n (cl (bal f r))≠0:=λz=>by
 obtain⟨x,⟨m,a,c⟩,b⟩:=null_of_det z;have e:∀i,i<n->r i*x i-sm n (λj=>f j i*x j)=0:=λi hi=>by rw[<- bal_row hi (h.own i hi)];exact b i hi
 have g:=h.nonneg (s:=x) (λi hi=>by rw[e i hi];exact yE) m a;have p2:=h.nonneg (s:=λj=>-x j) (λi hi=>by
  have d:sm n (λj=>f j i * -x j)=-sm n (λj=>f j i*x j):=by
   rw[<- sm_neg];exact sm_congr λj _=>by grind
  rw[d]
  have:=e i hi
  grind) m a
 exact c (by grind)
end Dt
namespace Dt
variable {i n:Nat}
noncomputable def prodN (B:Nat->Rat):Nat->Rat
 | 0=>1
 | n+1=>prodN B n*B n
theorem prodN_nn{B:Nat->Rat}:∀{n:Nat},(∀j,j<n->0<=B j)->0<=prodN B n
 | 0,_=>by show(0:Rat)<=1;decide
 | n+1,h=>yJ (prodN_nn λj a=>h j ⋯) (h n ⋯)
theorem Bd.sums{g f:Nat->Rat}:∀{n:Nat},(∀i,i<n->Bd (g i) (f i))->Bd (Dt.sm n g) (Dt.sm n f)
 | 0,_=>⟨by show -(0:Rat)<=0;decide,by show(0:Rat)<=0;decide⟩
 | n+1,h=>Bd.add (Bd.sums λi hi=>h i ⋯) (h n ⋯)
def Bd.wide{a b x:Rat}(h:Bd a x)(c:a<=b):Bd b x:=by
 obtain⟨h1,h2⟩:=h;exact⟨by grind,by grind⟩
def zr7{f:Nat->Rat}(hi:i<n+1)(b:∀j,j<n+1->0<=f j):Dt.sm n (skip i f)<=Dt.sm (n+1) f:=by
 have e:Dt.sm n (skip i f)=Dt.sm (n+1) (λj=>if j=i then 0 else f j):=by
  rw[<- zmQ hi];exact sm_congr λk _=>zes i f k
 rw[e];refine sm_mono λj a=>?_;split
 ·exact b j a
 ·exact yE
theorem Bd.det_col{B:Nat->Rat}:∀{n:Nat} {c b:Nat->Nat->Rat},(∀j r,j<n->r<n->Bd (b j r) (c j r))->(∀j,j<n->Dt.sm n (b j)<=B j)->Bd (prodN B n) (Dt.det n c)
 | 0,_,_,_,_=>⟨by show -(1:Rat)<=1;decide,by show(1:Rat)<=1;decide⟩
 | n+1,c,b,hb,hB=>by
  have g:∀j r,j<n+1->r<n+1->0<=b j r:=λj r a f=>(hb j r a f).nn;have k:∀j,j<n+1->0<=B j:=λj a=>yL (sm_ge0 λr f=>g j r a f) (hB j a);have h:0<=prodN B n:=prodN_nn λj a=>k j ⋯;have d:∀i,i<n+1->Bd (prodN B n) (Dt.det n λj=>skip i (c j)):=λi hi=>by
   refine Bd.det_col (b:=λj=>skip i (b j)) (λj r a f=>?_) λj a=>?_
   ·rw[zes,zes];exact hb j _ ⋯ (by unfold up;split<;>lia)
   ·exact yL (zr7 hi λr f=>g j r ⋯ f) (hB j ⋯)
  have whole:Bd (Dt.sm (n+1) λi=>b n i*prodN B n) (Dt.det (n+1) c):=by
   unfold Dt.det;refine Bd.sums λi hi=>?_;have h1:=((Bd.sgn (n+i)).mul (hb n i ⋯ hi)).mul (d i hi);exact h1.wide (by grind)
  refine whole.wide ?_;have e:(Dt.sm (n+1) λi=>b n i*prodN B n)=prodN B n*Dt.sm (n+1) (b n):=by
   rw[<- sm_mul];exact sm_congr λi _=>by grind
  rw[e];exact yS (hB n ⋯) h
end Dt
namespace Internal
variable {i j m n r ρ:Nat}
open PySem PySem.Spec PyProof.Rows
section
variable {f:Nat->Int}{q q':Rat}
noncomputable def zR (f:Nat->Int) (r:Nat):Rat:=((zbn f r:Int):Rat)
def zbt(f:Nat->Int)(r:Nat):zR f (r+1)=zR f r+((f r:Int):Rat):=by
 unfold zR
 show((zbn f r+f r:Int):Rat)=_
 rw[yV]
theorem zjn(a:∀r,r<3->0<=f r):∀(k r:Nat),r+k<=3->zR f r<=zR f (r+k)
 | 0,r,_=>by show zR f r<=zR f r;grind
 | k+1,r,h=>by
  have h1:=zjn a k r ⋯;have h2:=zaq (a (r+k) ⋯);show zR f r<=zR f (r+k+1);rw[zbt];grind
def zcB(c:∀r,r<3->0<=f r){a b:Nat}(h:a<=b)(d:b<=3):zR f a<=zR f b:=by
 have:=zjn c (b-a) a ⋯
 rwa [show a+(b-a)=b by lia]at this
theorem zml(b:0<=q)(a:∀r,r<3->0<=f r):∀r,r<=3->zaw f q r=if q<=zR f r then 0 else q-zR f r
 | 0,_=>by
  have e:zR f 0=0:=rfl;show q=_;rw[e];split<;>grind
 | r+1,h=>by
  have c:=zml b a r ⋯;have h1:=zaq (a r ⋯);have h2:=zbt f r;rw[zcP];unfold zX;rw[c];split<;>split<;>split<;>grind
def zf8(b:0<=q)(a:∀r,r<3->0<=f r)(c:r<3):zX f q r=if q<=zR f r then 0 else if zR f (r+1)<=q then((f r:Int):Rat)else q-zR f r:=by
 have d:=zml b a r ⋯;have h1:=zaq (a r c);have h2:=zbt f r;unfold zX;rw[d];split<;>split<;>(try split)<;>grind
theorem zbp:∀{k ρ:Nat},zaQ f q k=some ρ->ρ < k/\q<zR f (ρ+1)/\∀r,r < ρ->zR f (r+1)<=q
 | 0,_,h=>by cases h
 | k+1,ρ,h=>by
  have h':(match zaQ f q k with | some r=>some r | none=>if zb0 f q k then some k else none)=some ρ:=h;have nn:∀{k:Nat},zaQ f q k=none->∀r,r<k->zR f (r+1)<=q:=by
   intro k
   induction k with
   | zero=>intro _ r b;lia
   | succ k ih=>
    intro c r b;have a:(match zaQ f q k with | some r=>some r | none=>if zb0 f q k then some k else none)=none:=c;cases e:zaQ f q k with
    | some x=>rw[e]at a;cases a
    | none=>
     rw[e]at a;dsimp only at a;rcases yP (yY b)with g | g
     ·exact ih e r g
     ·subst g
      have:¬zb0 f q r:=λz=>by rw[if_pos z]at a;cases a
      exact ybo.mp λz=>this (under_int.mp z)
  cases e:zaQ f q k with
  | some x=>
   rw[e]at h';cases h'
   have:=zbp (k:=k) e
   exact⟨⋯,this.2⟩
  | none=>
   rw[e]at h';dsimp only at h';by_cases g:zb0 f q k
   ·rw[if_pos g]at h';cases h';exact⟨⋯,under_int.mpr g,nn e⟩
   ·rw[if_neg g]at h';cases h'
theorem zdh:∀{k:Nat},zaQ f q k=none->∀r,r<k->zR f (r+1)<=q
 | 0,_,r,hr=>by lia
 | k+1,hk,r,hr=>by
  have a:(match zaQ f q k with | some r=>some r | none=>if zb0 f q k then some k else none)=none:=hk;cases e:zaQ f q k with
  | some x=>rw[e]at a;cases a
  | none=>
   rw[e]at a;dsimp only at a;rcases yP (yY hr)with g | g
   ·exact zdh e r g
   ·subst g
    have:¬zb0 f q r:=λz=>by rw[if_pos z]at a;cases a
    exact ybo.mp λz=>this (under_int.mp z)
def zlq(a:0<=q)(h:zaQ f q 3=some ρ):zR f ρ<=q:=by
 obtain⟨h1,h2,b⟩:=zbp h;rcases ya3 ρ with g | g
 ·rw[g];exact a
 ·have:=b (ρ - 1) ⋯
  rwa [show ρ - 1+1=ρ by lia]at this
def zcw(a:0<=q)(h:zaQ f q 3=some ρ):0<f ρ:=by
 have h1:=zlq a h;have h2:=(zbp h).2.1;have b:=zbt f ρ
 have:(0:Rat)<((f ρ:Int):Rat):=by grind
 exact_mod_cast this
def zhw(a:0<=q)(b:∀r,r<3->0<=f r)(h:zaQ f q 3=some ρ)(h1:q<=q')(h2:q'<=zR f (ρ+1))(i:r<3):zY f q' r=zY f q r+if r=ρ then(q'-q)/((f ρ:Int):Rat)else 0:=by
 have lo:=zlq a h;obtain⟨m,up,_⟩:=zbp h;have pos:=za3 (zcw a h);have c:0<=q':=yL a h1;have d:=zf8 a b i;have j:=zf8 c b i;have cs:=zbt f r;have n:=zaq (b r i);unfold zY;by_cases e:r=ρ
 ·subst e;rw[if_pos rfl,if_pos (zcw a h),if_pos (zcw a h)];have k:zX f q r=q-zR f r:=by
   rw[d];split
   ·grind
   ·rw[if_neg (Rat.not_le.mpr up)]
  have l:zX f q' r=q'-zR f r:=by
   rw[j];split
   ·grind
   ·split<;>grind
  rw[k,l];generalize ((f r:Int):Rat)=x at *
  grind
 ·rw[if_neg e];have same:zX f q' r=zX f q r:=by
   rcases ybJ e with g | g
   ·have:=zcB b (show r+1<=ρ by lia) ⋯
    rw[d,j];split<;>split<;>(try split)<;>(try split)<;>grind
   ·have:=zcB b (show ρ+1<=r by lia) ⋯
    rw[d,j,if_pos (by grind),if_pos (by grind)]
  rw[same];split<;>grind
end
noncomputable def zat (ρ:Nat->Option Nat) (ds:List Due) (i j:Nat):Int:=ds.foldl (fun(s:Int) (d:Due)=>if d.p=(i:Int)/\d.q=(j:Int)/\ρ i=some d.r.toNat then s+d.a else s) 0
def zbe(ρ:Nat->Option Nat)(ds:List Due)(d:Due)(i j:Nat):zat ρ (ds++[d]) i j=zat ρ ds i j+if d.p=(i:Int)/\d.q=(j:Int)/\ρ i=some d.r.toNat then d.a else 0:=by
 have e:zat ρ (ds++[d]) i j=if d.p=(i:Int)/\d.q=(j:Int)/\ρ i=some d.r.toNat then zat ρ ds i j+d.a else zat ρ ds i j:=by
  unfold zat;rw[yaf];rfl
 rw[e];split
 ·rfl
 ·exact(Int.add_zero _).symm
def zaH{P:List Due->Prop}(a:P [])(b:∀(es:List Due) (d:Due),P es->P (es++[d]))(ds:List Due):P ds:=by
 have:∀i,i<=ds.length->P (ds.take i):=by
  intro i
  induction i with
  | zero=>intro _;rw[List.take_zero];exact a
  | succ i ih=>
   intro hi;rw[List.take_succ,yl ⋯];exact b _ _ (ih ⋯)
 have h:=this ds.length (yc _)
 rwa [yr]at h
def zgi{ρ:Nat->Option Nat}(ds:List Due):(∀d∈ds,0<=d.a)->0<=zat ρ ds i j:=
 zaH (P:=λds=>(∀d∈ds,0<=d.a)->0<=zat ρ ds i j) (λ_=>yC 0) (λes d c h=>by
  have h1:=c λe b=>h e (yv _ b);have h2:=h d (yq _ (.head _));rw[zbe];split<;>lia) ds
def zqM{ρ:Nat->Option Nat}(ds:List Due):(∀d∈ds,d.p≠d.q)->zat ρ ds i i=0:=
 zaH (P:=λds=>(∀d∈ds,d.p≠d.q)->zat ρ ds i i=0) (λ_=>rfl) (λes d b h=>by
  have h1:=b λe a=>h e (yv _ a);have h2:=h d (yq _ (.head _));rw[zbe,h1,if_neg (λz=>h2 (z.1.trans z.2.1.symm))];rfl) ds
def zjy{ρ:Nat->Option Nat}(hi:ρ i=none)(ds:List Due):zat ρ ds i j=0:=
 zaH (P:=λds=>zat ρ ds i j=0) rfl (λes d a=>by
  rw[zbe,a,if_neg (λz=>by rw[hi]at z;cases z.2.2)];rfl) ds
def zki{ρ:Nat->Option Nat}(hi:ρ i=some r)(ds:List Due):(∀d∈ds,0<=d.q/\d.q<n/\0<=d.r)->Dt.sm n (λj=>((zat ρ ds i j:Int):Rat))=((zA ds i r:Int):Rat):=
 zaH (P:=λds=>(∀d∈ds,0<=d.q/\d.q<n/\0<=d.r)->Dt.sm n (λj=>((zat ρ ds i j:Int):Rat))=((zA ds i r:Int):Rat)) (λ_=>Dt.sm_zero λ_ _=>rfl) (λes d f h=>by
  have h1:=f λe b=>h e (yv _ b);obtain⟨o,m,l⟩:=h d (yq _ (.head _));rw[zaB];have e:Dt.sm n (λj=>((zat ρ (es++[d]) i j:Int):Rat))=Dt.sm n (λj=>((zat ρ es i j:Int):Rat)+(if j=d.q.toNat then(if d.p=(i:Int)/\d.r=(r:Int) then((d.a:Int):Rat)else 0)else 0)):=Dt.sm_congr λj _=>by
   rw[zbe,yV];congr 1;by_cases g:j=d.q.toNat
   ·rw[if_pos g];by_cases c:d.p=(i:Int)/\d.r=(r:Int)
    ·rw[if_pos c,if_pos ⟨c.1,⋯,by rw[hi,c.2,yh]⟩]
    ·rw[if_neg c,if_neg (λz=>c ⟨z.1,by
      have:=z.2.2
      rw[hi]at this
      have:=yt this
      lia⟩)];rfl
   ·rw[if_neg g,if_neg (λz=>g (by have:=z.2.1;lia))];rfl
  rw[e,Dt.sm_add,h1,Dt.sm_one (i:=d.q.toNat) ⋯ λj _ k=>if_neg k,if_pos rfl];split
  ·rw[yV]
  ·grind) ds
def zq5{ρ:Nat->Option Nat}{s:Nat->Rat}{g:Due->Rat}(ds:List Due):(∀d∈ds,0<=d.p/\d.p<n)->zK ds (λd=>g d+if ρ d.p.toNat=some d.r.toNat then((d.a:Int):Rat)*s d.p.toNat else 0) m=zK ds g m+Dt.sm n (λi=>((zat ρ ds i m:Int):Rat)*s i):=
 zaH (P:=λds=>(∀d∈ds,0<=d.p/\d.p<n)->zK ds (λd=>g d+if ρ d.p.toNat=some d.r.toNat then((d.a:Int):Rat)*s d.p.toNat else 0) m=zK ds g m+Dt.sm n (λi=>((zat ρ ds i m:Int):Rat)*s i)) (λ_=>by
  have z:Dt.sm n (λi=>((zat ρ [] i m:Int):Rat)*s i)=0:=Dt.sm_zero λi _=>by
   show((0:Int):Rat)*s i=0
   rw[show((0:Int):Rat)=0 from rfl];grind
  rw[z];show zK [] _ m=zK [] g m+0
  have:∀h:Due->Rat,zK [] h m=0:=λ_=>rfl
  rw[this,this];grind) (λes d l h=>by
  have h1:=l λe k=>h e (yv _ k);obtain⟨p0,t⟩:=h d (yq _ (.head _));rw[zaW,zaW,h1];have e:Dt.sm n (λi=>((zat ρ (es++[d]) i m:Int):Rat)*s i)=Dt.sm n (λi=>((zat ρ es i m:Int):Rat)*s i+(if i=d.p.toNat then(if d.q=(m:Int)/\ρ d.p.toNat=some d.r.toNat then((d.a:Int):Rat)*s d.p.toNat else 0)else 0)):=Dt.sm_congr λi _=>by
   rw[zbe,yV,Rat.add_mul];congr 1;by_cases g':i=d.p.toNat
   ·rw[if_pos g'];subst g';by_cases c:d.q=(m:Int)/\ρ d.p.toNat=some d.r.toNat
    ·rw[if_pos c,if_pos ⟨⋯,c⟩]
    ·rw[if_neg c,if_neg (λz=>c z.2)]
     show((0:Int):Rat)*_=0
     rw[show((0:Int):Rat)=0 from rfl];grind
   ·rw[if_neg g',if_neg (λz=>g' (by have:=z.1;lia))]
    show((0:Int):Rat)*_=0
    rw[show((0:Int):Rat)=0 from rfl];grind
  rw[e,Dt.sm_add,Dt.sm_one (i:=d.p.toNat) ⋯ λj _ o=>if_neg o,if_pos rfl];by_cases b:d.q=(m:Int)
  ·by_cases f:ρ d.p.toNat=some d.r.toNat
   ·rw[if_pos b,if_pos b,if_pos f,if_pos ⟨b,f⟩];grind
   ·rw[if_pos b,if_pos b,if_neg f,if_neg (λz=>f z.2)];grind
  ·rw[if_neg b,if_neg b,if_neg (λz=>b z.1)];grind) ds
end Internal
namespace Rc
variable {j k:Nat}{ls:List (List Nat)}
section
variable {n:Nat}{g:Nat->Nat->Bool}{i:Nat}
noncomputable def zhI (n:Nat) (g:Nat->Nat->Bool) (j:Nat) (l:List Nat):List Nat:="0e".filter λk=>g j k&&!decide (k∈l)
def mem_next{l:List Nat}:k∈zhI n g j l↔k<n/\g j k=true/\k∉l:=by
 unfold zhI;rw[yaC,yF,yal,Bool.not_eq_true',decide_eq_false_iff_not]
def zns{l:List Nat}:(zhI n g j l).Nodup:=ybV.filter _
noncomputable def seqL (n:Nat) (g:Nat->Nat->Bool) (i:Nat):Nat->List Nat
 | 0=>[i]
 | k+1=>if k<(seqL n g i k).length then seqL n g i k++zhI n g ((seqL n g i k).getD k 0) (seqL n g i k)else seqL n g i k
def seq_succ(h:k<(seqL n g i k).length):seqL n g i (k+1)=seqL n g i k++zhI n g ((seqL n g i k).getD k 0) (seqL n g i k):=if_pos h
def zcv(h:¬k<(seqL n g i k).length):seqL n g i (k+1)=seqL n g i k:=if_neg h
theorem zfI:∀k,(seqL n g i k).Nodup
 | 0=>by show[i].Nodup;simp
 | k+1=>by
  have c:=zfI k;by_cases h:k<(seqL n g i k).length
  ·rw[seq_succ h];exact ya8.mpr ⟨c,zns,λa ha b d e=>(mem_next.mp d).2.2 (e▸ha)⟩
  ·rw[zcv h];exact c
theorem seq_lt(hi:i<n):∀k x,x∈seqL n g i k->x<n
 | 0,x,h=>by rw[ym.mp h];exact hi
 | k+1,x,a=>by
  have b:=seq_lt hi k;by_cases h:k<(seqL n g i k).length
  ·rw[seq_succ h]at a;rcases yH.mp a with a | a
   ·exact b x a
   ·exact(mem_next.mp a).1
  ·rw[zcv h]at a;exact b x a
theorem zf2:∀k,i∈seqL n g i k
 | 0=>ym.mpr rfl
 | k+1=>by
  by_cases h:k<(seqL n g i k).length
  ·rw[seq_succ h];exact yv _ (zf2 k)
  ·rw[zcv h];exact zf2 k
theorem zoT{S:Nat->Prop}(d:S i)(c:∀j k,S j->k<n->g j k=true->S k):∀k x,x∈seqL n g i k->S x
 | 0,x,h=>by rw[ym.mp h];exact d
 | k+1,x,a=>by
  have b:=zoT d c k;by_cases h:k<(seqL n g i k).length
  ·rw[seq_succ h]at a;rcases yH.mp a with a | a
   ·exact b x a
   ·obtain⟨h1,h2,_⟩:=mem_next.mp a;refine c _ x (b _ ?_) h1 h2;rw[yf,yl h];exact ybW h
  ·rw[zcv h]at a;exact b x a
def zsx{x:Nat}(a:x∈seqL n g i k):x∈seqL n g i (k+1):=by
 by_cases h:k<(seqL n g i k).length
 ·rw[seq_succ h];exact yv _ a
 ·rw[zcv h];exact a
theorem zg3:∀(k p x y:Nat),p<k->(seqL n g i k)[p]?=some x->y<n->g x y=true->y∈seqL n g i k
 | 0,_,_,_,h,_,_,_=>absurd h (yan _)
 | k+1,p,x,y,hp,hx,hy,hg=>by
  by_cases h:k<(seqL n g i k).length
  ·rcases yP (yY hp)with e | e
   ·have a:(seqL n g i k)[p]?=some x:=by
     rw[seq_succ h,yO ⋯]at hx;exact hx
    exact zsx (zg3 k p x y e a hy hg)
   ·subst e;have a:(seqL n g i p)[p]?=some x:=by
     rw[seq_succ h,yO h]at hx;exact hx
    have hd:(seqL n g i p).getD p 0=x:=by rw[yf,a];rfl
    rw[seq_succ h,hd];rcases yat (y∈seqL n g i p)with q | q
    ·exact yv _ q
    ·exact yq _ (mem_next.mpr ⟨hy,hg,q⟩)
  ·rw[zcv h]at hx ⊢;have hl:=(yj.mp hx).1;exact zg3 k p x y ⋯ hx hy hg
def len_le{l:List Nat}(nd:l.Nodup)(h:∀x∈l,x<n):l.length<=n:=by
 have h2:l.length<="0e".length:=yby nd λx a=>yF.mpr (h x a)
 rwa [yB]at h2
noncomputable def reach (n:Nat) (g:Nat->Nat->Bool) (i:Nat):List Nat:=seqL n g i n
def zgC:(reach n g i).Nodup:=zfI n
def reach_lt(hi:i<n){x:Nat}(a:x∈reach n g i):x<n:=seq_lt hi n x a
def zlM:i∈reach n g i:=zf2 n
def zlw{S:Nat->Prop}(c:S i)(a:∀j k,S j->k<n->g j k=true->S k){x:Nat}(b:x∈reach n g i):S x:=zoT c a n x b
def seq_len(hi:i<n)(k:Nat):(seqL n g i k).length<=n:=len_le (zfI k) (seq_lt hi k)
def zkX(hi:i<n){x y:Nat}(b:x∈reach n g i)(c:y<n)(d:g x y=true):y∈reach n g i:=by
 obtain⟨p,a,e⟩:=y6 b;exact zg3 n p x y (yx a (seq_len hi n)) (by rw[<- e];exact yl a) c d
theorem zjd{k:Nat}(h:¬k<(seqL n g i k).length):∀m,seqL n g i (k+m)=seqL n g i k
 | 0=>rfl
 | m+1=>by
  have a:=zjd h m;show seqL n g i (k+m+1)=_;rw[zcv (by rw[a];lia),a]
def seq_end(hi:i<n)(a:k<=(seqL n g i k).length)(h:¬k<(seqL n g i k).length):seqL n g i k=reach n g i:=by
 have b:=seq_len (g:=g) hi k
 have:=zjd h (n-k)
 rw[show k+(n-k)=n by lia]at this;exact this.symm
noncomputable def minL:List (List Nat)->List Nat
 | []=>[]
 | l :: ls=>ls.foldl (λb c=>if c.length<b.length then c else b) l
theorem zjm:∀(ls:List (List Nat)) (l:List Nat),(ls.foldl (λb c=>if c.length<b.length then c else b) l∈l :: ls)/\∀c∈l :: ls,(ls.foldl (λb c=>if c.length<b.length then c else b) l).length<=c.length
 | [],l=>⟨yZ,λc a=>by rw[ym.mp a];exact yc _⟩
 | d :: ls,l=>by
  show(ls.foldl _ (if d.length<l.length then d else l)∈l :: d :: ls)/\_
  have e:=zjm ls (if d.length<l.length then d else l);refine⟨?_,λc a=>?_⟩
  ·rcases yA.mp e.1 with h | h
   ·rw[h];split
    ·exact yR _ yZ
    ·exact yZ
   ·exact yR _ (yR _ h)
  ·have f:=e.2 _ yZ
   show(ls.foldl _ (if d.length<l.length then d else l)).length<=c.length
   rcases yA.mp a with rfl | a
   ·refine yi f ?_;split<;>lia
   ·rcases yA.mp a with rfl | a
    ·refine yi f ?_;split<;>lia
    ·exact e.2 c (yR _ a)
def zlx(h:ls≠[]):minL ls∈ls/\∀c∈ls,(minL ls).length<=c.length:=by
 cases ls with
 | nil=>exact absurd rfl h
 | cons l ls=>exact zjm ls l
noncomputable def circles (n:Nat) (g:Nat->Nat->Bool) (sh:Nat->Bool):List (List Nat):=("0e".map (reach n g)).filter λl=>l.all sh
noncomputable def circle (n:Nat) (g:Nat->Nat->Bool) (sh:Nat->Bool):List Nat:=minL (circles n g sh)
variable {sh:Nat->Bool}
def mem_circles{c:List Nat}:c∈circles n g sh↔∃i,i<n/\c=reach n g i/\∀x∈c,sh x=true:=by
 unfold circles;rw[yaC,yX,ybv];constructor
 ·rintro⟨⟨i,hi,e⟩,h⟩;exact⟨i,yF.mp hi,e.symm,h⟩
 ·rintro⟨i,hi,e,h⟩;exact⟨⟨i,yF.mpr hi,e.symm⟩,h⟩
structure Cir(n:Nat)(g:Nat->Nat->Bool)(sh:Nat->Bool)(c:List Nat):Prop where
 nd:c.Nodup
 lt:∀x∈c,x<n
 sh:∀x∈c,sh x=true
 cl:∀x y,x∈c->y<n->g x y=true->y∈c
 ne:c≠[]
 small:∀S:Nat->Prop,(∀x,S x->x∈c)->(∀j k,S j->k<n->g j k=true->S k)->(∃j,S j)->∀x∈c,S x
def zng(h:circle n g sh=[]):circles n g sh=[]:=by
 cases e:circles n g sh with
 | nil=>rfl
 | cons l ls=>
  have a:=zlx (ls:=circles n g sh) (by rw[e];exact List.cons_ne_nil _ _)
  have:circle n g sh∈circles n g sh:=a.1
  rw[h]at this;obtain⟨i,hi,b,_⟩:=mem_circles.mp this
  have:=zlM (n:=n) (g:=g) (i:=i)
  rw[<- b]at this;exact nomatch this
def circle_ok(h:circle n g sh≠[]):Cir n g sh (circle n g sh):=by
 have k:circles n g sh≠[]:=λz=>h (by unfold circle;rw[z];rfl);obtain⟨t,hl⟩:=zlx k;obtain⟨i,hi,e,o⟩:=mem_circles.mp t;have c:circle n g sh=reach n g i:=e;refine⟨by rw[c];exact zgC,λx a=>by rw[c]at a;exact reach_lt hi a,λx a=>o x a,λx y a b r=>?_,h,λS h1 h2 s x a=>?_⟩
 ·rw[c]at a ⊢;exact zkX hi a b r
 ·obtain⟨j,m⟩:=s;have d:j<n:=by have:=h1 j m;rw[c]at this;exact reach_lt hi this
  have sub:∀y∈reach n g j,S y:=λy b=>zlw m h2 b;have p:reach n g j∈circles n g sh:=mem_circles.mpr ⟨j,d,rfl,λy b=>o y (h1 y (sub y b))⟩;have l:(circle n g sh).length<=(reach n g j).length:=hl _ p;rcases yat (x∈reach n g j)with q | q
  ·exact sub x q
  ·exfalso;have f:(x :: reach n g j).Nodup:=yaJ.mpr ⟨q,zgC⟩
   have:=yby f (l₂:=circle n g sh) (λy b=>by
    rcases yA.mp b with rfl | b
    ·exact a
    ·exact h1 y (sub y b))
   rw[y9]at this;lia
def no_circle(h:circle n g sh=[]){S:Nat->Prop}(h1:∀x,S x->x<n/\sh x=true)(h2:∀j k,S j->k<n->g j k=true->S k)(a:S j):False:=by
 have b:=zng h
 have:reach n g j∈circles n g sh:=mem_circles.mpr ⟨j,(h1 j a).1,rfl,λy c=>(h1 y (zlw a h2 c)).2⟩
 rw[b]at this;exact nomatch this
end
end Rc
namespace Dt
variable {k m n:Nat}
def zmN{h:Nat->Rat}(b:k<n):sm n h=sm n (λx=>if x=k then 0 else h x)+h k:=by
 have e:sm n h=sm n (λx=>(if x=k then 0 else h x)+(if x=k then h k else 0)):=sm_congr λx _=>by
  by_cases g:x=k
  ·rw[if_pos g,if_pos g,g];grind
  ·rw[if_neg g,if_neg g];grind
 rw[e,sm_add,sm_one b λj _ a=>if_neg a,if_pos rfl]
theorem sm_some{n:Nat}{s:Nat->Nat}:∀(m:Nat) {h:Nat->Rat},(∀x,x<n->0<=h x)->(∀a,a<m->s a<n)->(∀a b,a<m->b<m->s a=s b->a=b)->sm m (λa=>h (s a))<=sm n h
 | 0,h,h0,_,_=>sm_ge0 h0
 | m+1,h,h0,h1,h2=>by
  have d:=h1 m ⋯;have f:=sm_some (n:=n) (s:=s) m (h:=λx=>if x=s m then 0 else h x) (λx c=>by
   (try dsimp only)
   split
   ·exact yE
   ·exact h0 x c) (λa ha=>h1 a ⋯) λa b ha g e=>h2 a b ⋯ ⋯ e
  have e:sm m (λa=>if s a=s m then 0 else h (s a))=sm m (λa=>h (s a)):=sm_congr λa ha=>if_neg λz=>by have:=h2 a m ⋯ ⋯ z;lia
  rw[e]at f;show sm m (λa=>h (s a))+h (s m)<=sm n h;rw[zmN (h:=h) d];grind
def leak_of{s:Nat->Nat}{f:Nat->Nat->Rat}(d:∀i j,i<n->j<n->0<=f i j)(r:∀i,i<n->f i i=0)(h1:∀a,a<m->s a<n)(h2:∀a b,a<m->b<m->s a=s b->a=b)
  (h3:∀S:Nat->Prop,(∀x,S x->∃a,a<m/\x=s a)->(∃x,S x)->(∀x y,S x->y<n->0<f x y->S y)->False):Leak m (λa b=>f (s a) (s b)) (λa=>sm n (f (s a))) where
 nn:=λa b ha g=>d _ _ (h1 a ha) (h1 b g)
 own:=λa ha=>r _ (h1 a ha)
 le:=λa ha=>sm_some m (λx k=>d _ x (h1 a ha) k) h1 h2
 leak:=λT ⟨p,l,o⟩=>by
  rcases yat (∃j,j<m/\T j=true/\sm m (λb=>if T b then f (s j) (s b)else 0)<sm n (f (s j)))with q | q
  ·exact q
  exfalso;refine h3 (λx=>∃a,a<m/\T a=true/\x=s a) (λx ⟨a,ha,_,e⟩=>⟨a,ha,e⟩) ⟨s p,p,l,o,rfl⟩ λx y ⟨a,ha,t,e⟩ u v=>?_;subst e;rcases yat (∃b,b<m/\T b=true/\y=s b)with z | z
  ·exact z
  exfalso;refine q ⟨a,ha,t,?_⟩;have b1:sm m (λb=>if T b then f (s a) (s b)else 0)<=sm m (λb=>(λx=>if x=y then 0 else f (s a) x) (s b)):=sm_mono λb g=>by
   dsimp only;by_cases c:T b=true
   ·rw[if_pos c,if_neg λw=>z ⟨b,g,c,w.symm⟩];exact yE
   ·rw[if_neg c];split
    ·exact yE
    ·exact d _ _ (h1 a ha) (h1 b g)
  have b2:sm m (λb=>(λx=>if x=y then 0 else f (s a) x) (s b))<=sm n (λx=>if x=y then 0 else f (s a) x):=sm_some m (h:=λx=>if x=y then 0 else f (s a) x) (λx k=>by
   (try dsimp only)
   split
   ·exact yE
   ·exact d _ x (h1 a ha) k) h1 h2
  have A:=zmN (h:=f (s a)) u;grind
end Dt
namespace Internal
variable {i j m r ρ:Nat}
open PySem PySem.Spec PyProof.Rows
noncomputable def zag (ds:List Due) (l:Nat->Rat) (d:Due):Rat:=((d.a:Int):Rat)*zY (zA ds d.p.toNat) (l d.p.toNat) d.r.toNat
noncomputable def stp (ds:List Due) (l:Nat->Rat) (i:Nat):Option Nat:=zaQ (zA ds i) (l i) 3
noncomputable def flR (ds:List Due) (l:Nat->Rat) (i j:Nat):Rat:=((zat (stp ds l) ds i j:Int):Rat)
noncomputable def zaf (n:Nat) (ds:List Due) (l:Nat->Rat) (i:Nat):Rat:=Dt.sm n (flR ds l i)
def zeA{g g':Due->Rat}(ds:List Due):(∀d∈ds,g d=g' d)->zK ds g m=zK ds g' m:=
 zaH (P:=λds=>(∀d∈ds,g d=g' d)->zK ds g m=zK ds g' m) (λ_=>rfl) (λes d a h=>by
  rw[zaW,zaW,a λe b=>h e (yv _ b),h d (yq _ (.head _))]) ds
def zc5(ds:List Due):(∀d∈ds,0<=d.a)->0<=zA ds m r:=
 zaH (P:=λds=>(∀d∈ds,0<=d.a)->0<=zA ds m r) (λ_=>yC 0) (λes d c h=>by
  have h1:=c λe b=>h e (yv _ b);have h2:=h d (yq _ (.head _));rw[zaB];split<;>lia) ds
structure CInv(n:Nat)(ds:List Due)(p:Nat->Rat)(l:Nat->Rat)(t:Rat):Prop where
 lo:∀i,i<n->0<=l i
 hi:∀i,i<n->l i<=zR (zA ds i) 3
 sh:∀i,i<n->stp ds l i≠none->l i=t*p i+zK ds (zag ds l) i
 fu:∀i,i<n->stp ds l i=none->zR (zA ds i) 3<=t*p i+zK ds (zag ds l) i
section
variable {n:Nat}{ds:List Due}{p l s:Nat->Rat}{t x e:Rat}
def zdC(hd:∀d∈ds,zm n d)(h:stp ds l i=some ρ):zaf n ds l i=((zA ds i ρ:Int):Rat):=
 zki h ds λd a=>⟨(hd d a).2.2.1,(hd d a).2.2.2.1,(hd d a).2.2.2.2.2.1⟩
def zgb(hd:∀d∈ds,zm n d)(a:0<=l i)(h:stp ds l i=some ρ):0<zaf n ds l i:=by
 rw[zdC hd h];exact za3 (zcw a h)
def zkS(h:stp ds l i=none):zaf n ds l i=0:=Dt.sm_zero λj _=>by
 unfold flR;rw[zjy h];rfl
def turn(hd:∀d∈ds,zm n d)(I:CInv n ds p l t)(A:∀i,i<n->0<=s i)(w:0<=x)(C:0<=e)(p0:∀i,i<n->0<=p i)
  (hb:∀i,i<n->stp ds l i≠none->zaf n ds l i*s i-Dt.sm n (λj=>flR ds l j i*s j)=e*p i)
  (hr:∀i,i<n->∀ρ,stp ds l i=some ρ->l i+x*(s i*zaf n ds l i)<=zR (zA ds i) (ρ+1)) :
  CInv n ds p (λi=>l i+x*(s i*zaf n ds l i)) (t+x*e):=by
 have ha:∀d∈ds,0<=d.a:=λd o=>(hd d o).2.2.2.2.2.2.2.1;have B:∀i r,r<3->0<=zA ds i r:=λi r _=>zc5 ds ha;obtain⟨l',f⟩:∃l':Nat->Rat,l'=λi=>l i+x*(s i*zaf n ds l i):=⟨_,rfl⟩
 rw[<- f];have u:∀i,i<n->0<=zaf n ds l i:=λi hi=>Dt.sm_ge0 λj _=>by
  unfold flR;exact zaq (zgi ds ha)
 have grow:∀i,i<n->l i<=l' i:=λi hi=>by
  rw[f];have h1:=yJ w (yJ (A i hi) (u i hi));grind
 have c:∀i,stp ds l i=none->l' i=l i:=λi h=>by
  rw[f];dsimp only;rw[zkS h];grind
 have q:∀d∈ds,zag ds l' d=zag ds l d+if stp ds l d.p.toNat=some d.r.toNat then((d.a:Int):Rat)*(x*s d.p.toNat)else 0:=λd o=>by
  obtain⟨H,G,_,_,_,D,J,_,_⟩:=hd d o;have hi:d.p.toNat<n:=by lia
  have y:d.r.toNat<3:=by lia
  unfold zag;cases b:stp ds l d.p.toNat with
  | none=>
   rw[c _ b,if_neg (by intro z;cases z)];grind
  | some ρ=>
   have up:=hr _ hi ρ b;have g:=zhw (I.lo _ hi) (B d.p.toNat) b (grow _ hi) (by rw[f];exact up) y;rw[g];have pos:=zgb hd (I.lo _ hi) b;rw[zdC hd b]at pos;have F:(l' d.p.toNat-l d.p.toNat)/((zA ds d.p.toNat ρ:Int):Rat)=x*s d.p.toNat:=by
    rw[f];dsimp only;rw[zdC hd b];generalize ((zA ds d.p.toNat ρ:Int):Rat)=R at *
    have K:R≠0:=λz=>by rw[z]at pos;exact absurd pos "0a"
    have:l d.p.toNat+x*(s d.p.toNat*R)-l d.p.toNat=(x*s d.p.toNat)*R:=by grind
    rw[this,ybf,Rat.mul_assoc,ybK R K,Rat.mul_one]
   rw[F];by_cases er:d.r.toNat=ρ
   ·rw[if_pos er,if_pos (by rw[er])];grind
   ·rw[if_neg er,if_neg (λz=>er (yt z).symm)];grind
 have k:∀i,zK ds (zag ds l') i=zK ds (zag ds l) i+x*Dt.sm n (λj=>flR ds l j i*s j):=λi=>by
  rw[zeA ds q,zq5 (ρ:=stp ds l) (s:=λj=>x*s j) (n:=n) ds λd o=>⟨(hd d o).1,(hd d o).2.1⟩];congr 1;rw[<- Dt.sm_mul];exact Dt.sm_congr λj _=>by unfold flR;grind
 have more:∀i,i<n->0<=Dt.sm n (λj=>flR ds l j i*s j):=λi _=>Dt.sm_ge0 λj E=>yJ (by unfold flR;exact zaq (zgi ds ha)) (A j E);have v:∀i,i<n->stp ds l i≠none->l' i=(t+x*e)*p i+zK ds (zag ds l') i:=λi hi b=>by
  rw[k i];have h1:=I.sh i hi b;have h2:=hb i hi b;rw[f];dsimp only;grind
 refine⟨λi hi=>yL (I.lo i hi) (grow i hi),λi hi=>?_,λi hi m=>?_,λi hi m=>?_⟩
 ·cases b:stp ds l i with
  | none=>rw[c i b];exact I.hi i hi
  | some ρ=>
   have h1:=hr i hi ρ b;have h2:=zcB (B i) (show ρ+1<=3 by have:=(zbp b).1;lia) (yc 3);rw[f];exact yL h1 h2
 ·cases b:stp ds l i with
  | none=>exact absurd (show stp ds l' i=none by unfold stp;rw[c i b];exact b) m
  | some ρ=>exact v i hi (by rw[b];intro z;cases z)
 ·cases b:stp ds l i with
  | none=>
   have h1:=I.fu i hi b;rw[k i];have h2:=yJ w (more i hi);have L:=yJ (yJ w C) (p0 i hi);grind
  | some ρ=>
   rw[<- v i hi (by rw[b];intro z;cases z)];exact zdh m 2 "0a"
end
open Dt (sm Leak bal)
noncomputable def sF (m:Nat) (s:Nat->Nat) (x:Nat->Rat) (i:Nat):Rat:=sm m (λa=>if s a=i then x a else 0)
section
variable {n m:Nat}{s:Nat->Nat}{x:Nat->Rat}
def zf5(inj:∀a b,a<m->b<m->s a=s b->a=b){a:Nat}(ha:a<m):sF m s x (s a)=x a:=by
 unfold sF;rw[Dt.sm_one (i:=a) ha λb d c=>if_neg λe=>c (inj b a d ha e),if_pos rfl]
def zhX(h:∀a,a<m->s a≠i):sF m s x i=0:=Dt.sm_zero λa ha=>if_neg (h a ha)
def zm6(h1:∀a,a<m->s a<n)(F:Nat->Rat):sm n (λj=>F j*sF m s x j)=sm m (λa=>F (s a)*x a):=by
 have c:sm n (λj=>F j*sF m s x j)=sm n (λj=>sm m λa=>if s a=j then F j*x a else 0):=Dt.sm_congr λj _=>by
  unfold sF;rw[<- Dt.sm_mul];exact Dt.sm_congr λa _=>by split<;>grind
 rw[c,Dt.sm_swap];refine Dt.sm_congr λa ha=>?_;rw[Dt.sm_one (i:=s a) (h1 a ha) λj _ b=>if_neg λe=>b e.symm,if_pos rfl]
def zrl(h:∀a,a<m->0<=x a)(i:Nat):0<=sF m s x i:=Dt.sm_ge0 λa ha=>by
 split
 ·exact h a ha
 ·exact yE
end
section
variable {n:Nat}{ds:List Due}{p l:Nat->Rat}
noncomputable def gB (ds:List Due) (l:Nat->Rat) (i j:Nat):Bool:=decide (0<zat (stp ds l) ds i j)
noncomputable def shB (ds:List Due) (l:Nat->Rat) (i:Nat):Bool:=(stp ds l i).isSome
def gB_iff:gB ds l i j=true↔0<flR ds l i j:=by
 unfold gB flR;rw[decide_eq_true_iff];constructor
 ·exact λh=>za3 h
 ·exact λh=>by exact_mod_cast h
def zcC(hd:∀d∈ds,zm n d)(i j:Nat):0<=flR ds l i j:=zaq (zgi ds λd a=>(hd d a).2.2.2.2.2.2.2.1)
def zdz(hd:∀d∈ds,zm n d)(i:Nat):flR ds l i i=0:=by
 unfold flR;rw[zqM ds λd a=>(hd d a).2.2.2.2.1];rfl
def zd6(hd:∀d∈ds,zm n d)(g:Rc.circle n (gB ds l) (shB ds l)=[]){s:Nat->Nat}(h1:∀a,a<m->s a<n/\shB ds l (s a)=true)(inj:∀a b,a<m->b<m->s a=s b->a=b):Leak m (λa b=>flR ds l (s a) (s b)) (λa=>zaf n ds l (s a)):=
 Dt.leak_of (λi j _ _=>zcC hd i j) (λi _=>zdz hd i) (λa ha=>(h1 a ha).1) inj λS f ⟨x,h⟩ c=>
  Rc.no_circle g (S:=S) (λy r=>by obtain⟨a,ha,e⟩:=f y r;rw[e];exact h1 a ha) (λj k q p o=>c j k q p (gB_iff.mp o)) h
def zlN(hd:∀d∈ds,zm n d)(e:Rc.circle n (gB ds l) (shB ds l)=[]){s:Nat->Nat}{x:Nat->Rat}(p0:∀i,i<n->0<=p i)(h1:∀a,a<m->s a<n/\shB ds l (s a)=true)(inj:∀a b,a<m->b<m->s a=s b->a=b)(all:∀i,i<n->shB ds l i=true->∃a,a<m/\i=s a)
  (hx:∀a,a<m->sm m (λb=>bal (λa b=>flR ds l (s a) (s b)) (λa=>zaf n ds l (s a)) a b*x b)=p (s a)) :
  (∀i,0<=sF m s x i)/\∀i,i<n->stp ds l i≠none->zaf n ds l i*sF m s x i-sm n (λj=>flR ds l j i*sF m s x j)=1*p i:=by
 have L:=zd6 hd e h1 inj;have c:∀a,a<m->zaf n ds l (s a)*x a-sm m (λb=>flR ds l (s b) (s a)*x b)=p (s a):=λa ha=>by
  have:=Dt.bal_row (n:=m) (f:=λa b=>flR ds l (s a) (s b)) (r:=λa=>zaf n ds l (s a)) (s:=x) ha (zdz hd _)
  rw[hx a ha]at this;exact this.symm
 have nn:=L.nonneg (s:=x) λa ha=>by rw[c a ha];exact p0 _ (h1 a ha).1
 refine⟨zrl nn,λi hi g=>?_⟩;obtain⟨a,ha,rfl⟩:=all i hi (by unfold shB;cases h:stp ds l i with | none=>exact absurd h g | some r=>rfl);rw[zf5 inj ha,zm6 (λa ha=>(h1 a ha).1) (λj=>flR ds l j (s a)),c a ha];grind
def zei(hd:∀d∈ds,zm n d){c:List Nat}(f:Rc.Cir n (gB ds l) (shB ds l) c)(v:c.length=m+1):Leak m (λa b=>flR ds l (c.getD (a+1) 0) (c.getD (b+1) 0)) (λa=>zaf n ds l (c.getD (a+1) 0)):=by
 have get:∀a,a<m+1->c[a]?=some (c.getD a 0):=λa ha=>by
  rw[yf,yl ⋯];rfl
 have mem:∀a,a<m+1->c.getD a 0∈c:=λa ha=>ya (get a ha);have inj:∀a b,a<m+1->b<m+1->c.getD a 0=c.getD b 0->a=b:=λa b ha p e=>zbq f.nd (get a ha) (by rw[e];exact get b p);refine Dt.leak_of (s:=λa=>c.getD (a+1) 0) (λi j _ _=>zcC hd i j) (λi _=>zdz hd i) (λa ha=>f.lt _ (mem _ ⋯)) (λa b ha p e=>by have:=inj (a+1) (b+1) ⋯ ⋯ e;lia) λS o g h=>?_
 have:=f.small S (λy u=>by obtain⟨a,ha,e⟩:=o y u;rw[e];exact mem _ ⋯) (λj k t r q=>h j k t r (gB_iff.mp q)) g (c.getD 0 0) (mem 0 ⋯)
 obtain⟨a,ha,e⟩:=o _ this
 have:=inj 0 (a+1) ⋯ ⋯ e
 lia
end
end Internal
namespace Dt
theorem sm_front{f:Nat->Rat}:∀n:Nat,sm (n+1) f=f 0+sm n (λi=>f (i+1))
 | 0=>by show(0:Rat)+f 0=f 0+0;grind
 | n+1=>by
  have:=sm_front (f:=f) n
  rw[show sm (n+1+1) f=sm (n+1) f+f (n+1)from rfl,this];show f 0+sm n (λi=>f (i+1))+f (n+1)=f 0+(sm n (λi=>f (i+1))+f (n+1))
  grind
end Dt
namespace Internal
variable {ds:List Due}{i n ρ:Nat}
open PySem PySem.Spec PyProof.Rows
open Dt (sm Leak bal)
noncomputable def zcu (f:Nat->Nat->Rat) (r:Nat->Rat) (a b:Nat):Rat:=if a=0 then(if b=0 then 1 else 0)else bal f r a b
section
variable {n:Nat}{ds:List Due}{l:Nat->Rat}{c:List Nat}{m:Nat}
abbrev cF(ds:List Due)(l:Nat->Rat)(c:List Nat):Nat->Nat->Rat:=λa b=>flR ds l (c.getD a 0) (c.getD b 0)
abbrev cR(n:Nat)(ds:List Due)(l:Nat->Rat)(c:List Nat):Nat->Rat:=λa=>zaf n ds l (c.getD a 0)
def zgP(x:Nat->Rat){f:Nat->Nat->Rat}{r:Nat->Rat}:sm (m+1) (λb=>zcu f r 0 b*x b)=x 0:=by
 rw[Dt.sm_one (i:=0) ⋯ λj _ a=>by unfold zcu;rw[if_pos rfl,if_neg a];grind];unfold zcu;rw[if_pos rfl,if_pos rfl];grind
def zgO(hd:∀d∈ds,zm n d)(x:Nat->Rat){a:Nat}(ha:a<m):sm (m+1) (λb=>zcu (cF ds l c) (cR n ds l c) (a+1) b*x b)=cR n ds l c (a+1)*x (a+1)-(cF ds l c 0 (a+1)*x 0+sm m (λb=>cF ds l c (b+1) (a+1)*x (b+1))):=by
 have e:sm (m+1) (λb=>zcu (cF ds l c) (cR n ds l c) (a+1) b*x b)=sm (m+1) (λb=>bal (cF ds l c) (cR n ds l c) (a+1) b*x b):=Dt.sm_congr λb _=>by
  unfold zcu;rw[if_neg ⋯]
 rw[e,Dt.bal_row (f:=cF ds l c) (r:=cR n ds l c) ⋯ (zdz hd _),Dt.sm_front]
def zmB(hd:∀d∈ds,zm n d)(i:Rc.Cir n (gB ds l) (shB ds l) c)(o:c.length=m+1):Dt.det (m+1) (Dt.cl (zcu (cF ds l c) (cR n ds l c)))≠0:=λz=>by
 obtain⟨x,⟨k,q,g⟩,e⟩:=Dt.null_of_det z;have f:x 0=0:=by rw[<- zgP (m:=m) x];exact e 0 ⋯
 have L:=zei hd i o;have h:∀a,a<m->cR n ds l c (a+1)*x (a+1)-sm m (λb=>cF ds l c (b+1) (a+1)*x (b+1))=0:=λa ha=>by
  have:=zgO (n:=n) (l:=l) (c:=c) hd x ha
  rw[e (a+1) ⋯,f]at this;grind
 have j:=L.nonneg (s:=λa=>x (a+1)) λa ha=>by rw[h a ha];exact yE
 have p2:=L.nonneg (s:=λa=>-x (a+1)) λa ha=>by
  have p:sm m (λb=>cF ds l c (b+1) (a+1) * -x (b+1))=-sm m (λb=>cF ds l c (b+1) (a+1)*x (b+1)):=by
   rw[<- Dt.sm_neg];exact Dt.sm_congr λb _=>by grind
  show 0<=cR n ds l c (a+1) * -x (a+1)-sm m (λb=>cF ds l c (b+1) (a+1) * -x (b+1));rw[p]
  have:=h a ha
  grind
 cases k with
 | zero=>exact g f
 | succ k=>
  have h1:=j k ⋯;have h2:=p2 k ⋯;exact g (by grind)
def znP(hd:∀d∈ds,zm n d)(t:Rc.Cir n (gB ds l) (shB ds l) c)(E:c.length=m+1){x:Nat->Rat}(B:∀a,a<m+1->sm (m+1) (λb=>zcu (cF ds l c) (cR n ds l c) a b*x b)=if a=0 then 1 else 0) :
  (∀i,0<=sF (m+1) (λa=>c.getD a 0) x i)/\(∀i,i<n->zaf n ds l i*sF (m+1) (λa=>c.getD a 0) x i-sm n (λj=>flR ds l j i*sF (m+1) (λa=>c.getD a 0) x j)=0)/\sF (m+1) (λa=>c.getD a 0) x (c.getD 0 0)=1:=by
 have get:∀a,a<m+1->c[a]?=some (c.getD a 0):=λa ha=>by
  rw[yf,yl ⋯];rfl
 have mem:∀a,a<m+1->c.getD a 0∈c:=λa ha=>ya (get a ha);have inj:∀a b,a<m+1->b<m+1->c.getD a 0=c.getD b 0->a=b:=λa b ha w e=>zbq t.nd (get a ha) (by rw[e];exact get b w);have lt:∀a,a<m+1->c.getD a 0<n:=λa ha=>t.lt _ (mem a ha);have u:x 0=1:=by rw[<- zgP (m:=m) x (f:=cF ds l c) (r:=cR n ds l c),B 0 ⋯,if_pos rfl]
 have L:=zei hd t E;have A:∀a,a<m->cR n ds l c (a+1)*x (a+1)-(cF ds l c 0 (a+1)*x 0+sm m (λb=>cF ds l c (b+1) (a+1)*x (b+1)))=0:=λa ha=>by
  rw[<- zgO (n:=n) hd x ha,B (a+1) ⋯,if_neg ⋯]
 have v:=L.nonneg (s:=λa=>x (a+1)) λa ha=>by
  have h1:=A a ha;have h2:=zcC (l:=l) hd (c.getD 0 0) (c.getD (a+1) 0);rw[u]at h1;show 0<=cR n ds l c (a+1)*x (a+1)-sm m (λb=>cF ds l c (b+1) (a+1)*x (b+1));have F:cF ds l c 0 (a+1)=flR ds l (c.getD 0 0) (c.getD (a+1) 0):=rfl;grind
 have nn:∀a,a<m+1->0<=x a:=λa ha=>by
  cases a with
  | zero=>rw[u];decide
  | succ a=>exact v a ⋯
 have p:∀a y,a<m+1->y<n->y∉c->flR ds l (c.getD a 0) y=0:=λa y ha D C=>by
  rcases yat (0<flR ds l (c.getD a 0) y)with q | q
  ·exact absurd (t.cl _ y (mem a ha) D (gB_iff.mpr q)) C
  ·have:=zcC (l:=l) hd (c.getD a 0) y
   grind
 have one:∀j,j<n->j∈c->sF (m+1) (λa=>c.getD a 0) (λ_=>1) j=1:=λj _ h=>by
  obtain⟨a,ha,e⟩:=y6 h;have g:j=c.getD a 0:=by rw[yf,yl ha,<- e];rfl
  rw[g,zf5 (s:=λa=>c.getD a 0) inj ⋯]
 have whole:∀b,b<m+1->cR n ds l c b=sm (m+1) (λa=>cF ds l c b a):=λb w=>by
  have:=zm6 (n:=n) (m:=m+1) (s:=λa=>c.getD a 0) (x:=λ_=>1) lt (flR ds l (c.getD b 0))
  have o:sm n (λj=>flR ds l (c.getD b 0) j*sF (m+1) (λa=>c.getD a 0) (λ_=>1) j)=sm n (flR ds l (c.getD b 0)):=Dt.sm_congr λj h=>by
   rcases yat (j∈c)with q | q
   ·rw[one j h q];grind
   ·rw[p b j w h q];grind
  rw[o]at this;show sm n (flR ds l (c.getD b 0))=_;rw[this];exact Dt.sm_congr λa _=>by grind
 have z:sm (m+1) (λa=>cR n ds l c a*x a-sm (m+1) (λb=>cF ds l c b a*x b))=0:=by
  have o:sm (m+1) (λa=>cR n ds l c a*x a-sm (m+1) (λb=>cF ds l c b a*x b))=sm (m+1) (λa=>1*(cR n ds l c a*x a)+(-1)*sm (m+1) (λb=>cF ds l c b a*x b)):=Dt.sm_congr λa _=>by grind
  rw[o,Dt.sm_lin,Dt.sm_swap];have g:sm (m+1) (λj=>sm (m+1) λi=>cF ds l c j i*x j)=sm (m+1) (λa=>cR n ds l c a*x a):=Dt.sm_congr λj h=>by
   rw[whole j h,show sm (m+1) (λa=>cF ds l c j a)*x j=x j*sm (m+1) (λa=>cF ds l c j a) by grind,<- Dt.sm_mul];exact Dt.sm_congr λa _=>by grind
  rw[g];grind
 have k:∀a,a<m+1->cR n ds l c a*x a-sm (m+1) (λb=>cF ds l c b a*x b)=0:=λa ha=>by
  have rest:∀a,a<m->cR n ds l c (a+1)*x (a+1)-sm (m+1) (λb=>cF ds l c b (a+1)*x b)=0:=λa ha=>by
   rw[Dt.sm_front];exact A a ha
  cases a with
  | succ a=>exact rest a ⋯
  | zero=>
   rw[Dt.sm_front,Dt.sm_zero (n:=m) rest]at z;grind
 refine⟨zrl nn,λi hi=>?_,by rw[zf5 (s:=λa=>c.getD a 0) inj ⋯];exact u⟩;rw[zm6 (s:=λa=>c.getD a 0) lt (λj=>flR ds l j i)];rcases yat (i∈c)with q | q
 ·obtain⟨a,ha,e⟩:=y6 q;have g:i=c.getD a 0:=by rw[yf,yl ha,<- e];rfl
  rw[g,zf5 (s:=λa=>c.getD a 0) inj ⋯];exact k a ⋯
 ·have o:sF (m+1) (λa=>c.getD a 0) x i=0:=zhX λa ha e=>q (by rw[<- e];exact mem a ha);have g:sm (m+1) (λa=>flR ds l (c.getD a 0) i*x a)=0:=Dt.sm_zero λa ha=>by rw[p a i ha hi q];grind
  rw[o,g];grind
end
open PySem PySem.Spec PyProof.Rows
open Dt (sm)
noncomputable def rkL (ds:List Due) (l:Nat->Rat) (i:Nat):Nat:=(stp ds l i).getD 3
section
variable {ds:List Due}{l l':Nat->Rat}{i:Nat}
end
noncomputable def nsum (f:Nat->Nat):Nat->Nat
 | 0=>0
 | n+1=>nsum f n+f n
theorem zb7{f g:Nat->Nat}:∀{n:Nat},(∀i,i<n->f i<=g i)->nsum f n<=nsum g n
 | 0,_=>yc _
 | n+1,h=>Nat.add_le_add (zb7 λi hi=>h i ⋯) (h n ⋯)
theorem ziH{f g:Nat->Nat}{j:Nat}:∀{n:Nat},(∀i,i<n->f i<=g i)->j<n->f j<g j->nsum f n<nsum g n
 | n+1,h,hj,hl=>by
  have h1:=zb7 (n:=n) λi hi=>h i ⋯;have h2:=h n ⋯;show nsum f n+f n<nsum g n+g n;rcases yP (yY hj)with g' | g'
  ·have:=ziH (n:=n) (λi hi=>h i ⋯) g' hl
   lia
  ·rw[g']at hl;lia
noncomputable def zlj (ds:List Due) (l:Nat->Rat) (i:Nat):Nat:=nsum (λr=>if 0<zA ds i r/\zR (zA ds i) (r+1)<=l i then 1 else 0) 3
def zhj{l l':Nat->Rat}(h:l i<=l' i):zlj ds l i<=zlj ds l' i:=zb7 λr _=>by
 by_cases g:0<zA ds i r/\zR (zA ds i) (r+1)<=l i
 ·rw[if_pos g,if_pos ⟨g.1,yL g.2 h⟩];exact yc _
 ·rw[if_neg g];exact yM _
def zte{l l':Nat->Rat}(b:0<=l i)(h:l i<=l' i)(a:stp ds l i=some ρ)(d:zR (zA ds i) (ρ+1)<=l' i):zlj ds l i<zlj ds l' i:=by
 obtain⟨c,up,_⟩:=zbp a;refine ziH (j:=ρ) (λr _=>?_) c ?_
 ·by_cases g:0<zA ds i r/\zR (zA ds i) (r+1)<=l i
  ·rw[if_pos g,if_pos ⟨g.1,yL g.2 h⟩];exact yc _
  ·rw[if_neg g];exact yM _
 ·rw[if_neg λz=>absurd z.2 (Rat.not_le.mpr up),if_pos ⟨zcw b a,d⟩];decide
noncomputable def zfJ (n:Nat) (ds:List Due) (l:Nat->Rat):Nat:=nsum (zlj ds l) n
noncomputable def zg2 (ds:List Due) (i:Nat):Nat:=nsum (λr=>if 0<zA ds i r then 1 else 0) 3
noncomputable def zcg (n:Nat) (ds:List Due):Nat:=nsum (zg2 ds) n
def zud{l:Nat->Rat}:zfJ n ds l<=zcg n ds:=zb7 λi _=>zb7 λr _=>by
 by_cases g:0<zA ds i r/\zR (zA ds i) (r+1)<=l i
 ·rw[if_pos g,if_pos g.1];exact yc _
 ·rw[if_neg g];exact yM _
theorem zgJ{f g:Nat->Nat}:∀{n:Nat},nsum (λi=>f i+g i) n=nsum f n+nsum g n
 | 0=>rfl
 | n+1=>by show nsum (λi=>f i+g i) n+(f n+g n)=nsum f n+f n+(nsum g n+g n);rw[zgJ (n:=n)];lia
theorem zde:∀{n:Nat} {f:Nat->Nat},(∀i,i<n->f i=0)->nsum f n=0
 | 0,_,_=>rfl
 | n+1,f,h=>by show nsum f n+f n=0;rw[zde (n:=n) λi hi=>h i ⋯,h n ⋯]
theorem zgU{f:Nat->Nat}{j:Nat}:∀{n:Nat},(∀i,i<n->i≠j->f i=0)->nsum f n<=f j
 | 0,_=>yM _
 | n+1,h=>by
  show nsum f n+f n<=f j;by_cases e:n=j
  ·rw[zde λi hi=>h i ⋯ ⋯,e];lia
  ·rw[h n ⋯ e];exact zgU (n:=n) λi hi=>h i ⋯
def ztk(ds:List Due):(∀d∈ds,0<=d.a)->zcg n ds<=ds.length:=
 zaH (P:=λds=>(∀d∈ds,0<=d.a)->zcg n ds<=ds.length) (λ_=>by
  show nsum (zg2 []) n<=0;have z:nsum (zg2 []) n=0:=zde λi _=>by
   unfold zg2;exact zde λr _=>if_neg (by show ¬(0:Int)<0;lia)
  rw[z];exact yc _) (λes d f h=>by
  have h1:=f λe b=>h e (yv _ b);have h2:=h d (yq _ (.head _));rw[yb,y8];have e:zcg n (es++[d])<=nsum (λi=>zg2 es i+nsum (λr=>if d.p=(i:Int)/\d.r=(r:Int)then 1 else 0) 3) n:=zb7 λi _=>by
   unfold zg2;rw[<- zgJ];refine zb7 λr _=>?_;rw[zaB];have k:=zc5 (m:=i) (r:=r) es λe b=>h e (yv _ b);by_cases c:d.p=(i:Int)/\d.r=(r:Int)
   ·rw[if_pos c,if_pos c];split<;>split<;>lia
   ·rw[if_neg c,if_neg c];exact yc _
  rw[zgJ]at e;have l:nsum (λi=>nsum (λr=>if d.p=(i:Int)/\d.r=(r:Int)then 1 else 0) 3) n<=1:=by
   refine yi (zgU (j:=d.p.toNat) λi _ hi=>zde λr _=>if_neg λz=>hi ⋯) ?_;refine yi (zgU (j:=d.r.toNat) λr _ g=>if_neg λz=>g ⋯) ?_;split<;>lia
  have o:nsum (zg2 es) n=zcg n es:=rfl;lia) ds
noncomputable def zbx (ds:List Due) (l:Nat->Rat) (i:Nat):Rat:=zR (zA ds i) (rkL ds l i+1)
noncomputable def zar (ds:List Due) (l r:Nat->Rat) (i:Nat):Rat:=(zbx ds l i-l i)/r i
noncomputable def zao (ds:List Due) (l r:Nat->Rat):Nat->Option Rat
 | 0=>none
 | k+1=>if 0<r k then(match zao ds l r k with | none=>some (zar ds l r k) | some q=>some (if zar ds l r k<q then zar ds l r k else q))else zao ds l r k
section
variable {ds:List Due}{l r:Nat->Rat}
theorem zcx:∀{k:Nat},zao ds l r k=none->∀i,i<k->¬0<r i
 | 0,_,i,h=>absurd h (yan _)
 | k+1,h,i,hi=>by
  have h':(if 0<r k then(match zao ds l r k with | none=>some (zar ds l r k) | some q=>some (if zar ds l r k<q then zar ds l r k else q))else zao ds l r k)=none:=h;by_cases g:0<r k
  ·rw[if_pos g]at h';split at h'<;>cases h'
  ·rw[if_neg g]at h';rcases yP (yY hi)with e | e
   ·exact zcx h' i e
   ·rw[e];exact g
theorem zbG:∀{k:Nat} {x:Rat},zao ds l r k=some x->(∃i,i<k/\0<r i/\x=zar ds l r i)/\∀i,i<k->0<r i->x<=zar ds l r i
 | 0,_,h=>by cases h
 | k+1,x,h=>by
  have h':(if 0<r k then(match zao ds l r k with | none=>some (zar ds l r k) | some q=>some (if zar ds l r k<q then zar ds l r k else q))else zao ds l r k)=some x:=h;by_cases g:0<r k
  ·rw[if_pos g]at h';cases e:zao ds l r k with
   | none=>
    rw[e]at h';cases h';refine⟨⟨k,⋯,g,rfl⟩,λi hi b=>?_⟩;rcases yP (yY hi)with q | q
    ·exact absurd b (zcx e i q)
    ·rw[q];exact yE
   | some q=>
    rw[e]at h';dsimp only at h';obtain⟨⟨j,m,f,d⟩,a⟩:=zbG (k:=k) e;by_cases c:zar ds l r k<q
    ·rw[if_pos c]at h';cases h';refine⟨⟨k,⋯,g,rfl⟩,λi hi b=>?_⟩;rcases yP (yY hi)with w | w
     ·have:=a i w b;grind
     ·rw[w];exact yE
    ·rw[if_neg c]at h';cases h';refine⟨⟨j,⋯,f,d⟩,λi hi b=>?_⟩;rcases yP (yY hi)with w | w
     ·exact a i w b
     ·rw[w];exact ybo.mp c
  ·rw[if_neg g]at h';obtain⟨⟨j,m,f,d⟩,a⟩:=zbG (k:=k) h';refine⟨⟨j,⋯,f,d⟩,λi hi b=>?_⟩;rcases yP (yY hi)with w | w
   ·exact a i w b
   ·rw[w]at b;exact absurd b g
end
def zdq{a b:Rat}(h:0<b):a/b*b=a:=by
 have c:b≠0:=λz=>by rw[z]at h;exact absurd h "0a"
 exact ybL c
def zf1{l:Nat->Rat}(a:stp ds l i=some ρ):zbx ds l i=zR (zA ds i) (ρ+1):=by
 unfold zbx rkL;rw[a];rfl
section
variable {n:Nat}{ds:List Due}{l s:Nat->Rat}{x:Rat}
abbrev rtR(n:Nat)(ds:List Due)(l s:Nat->Rat)(i:Nat):Rat:=s i*zaf n ds l i
def zeZ(hd:∀d∈ds,zm n d)(h:0<rtR n ds l s i):∃ρ,stp ds l i=some ρ:=by
 cases hs:stp ds l i with
 | some ρ=>exact⟨ρ,rfl⟩
 | none=>
  unfold rtR at h;rw[zkS hs]at h;exact absurd h (by rw[show s i*(0:Rat)=0 by grind];decide)
def zpK(hd:∀d∈ds,zm n d)(h:0<rtR n ds l s i):0<zar ds l (rtR n ds l s) i:=by
 obtain⟨ρ,a⟩:=zeZ hd h;have up:=(zbp a).2.1;unfold zar;rw[zf1 a,ybf];exact ybr (by grind) (Rat.inv_pos.mpr h)
def zsv(hd:∀d∈ds,zm n d)(f:∀i,i<n->0<=s i)(g:0<=x)(b:∀i,i<n->0<rtR n ds l s i->x<=zar ds l (rtR n ds l s) i)(hi:i<n)(a:stp ds l i=some ρ):l i+x*(s i*zaf n ds l i)<=zR (zA ds i) (ρ+1):=by
 have up:=(zbp a).2.1;by_cases h:0<rtR n ds l s i
 ·have h1:=b i hi h;have h2:=y4 h1 (Rat.le_of_lt h);unfold zar at h2;rw[zdq h,zf1 a]at h2;unfold rtR at h2;grind
 ·have h1:=zdC hd a;have h2:0<=zaf n ds l i:=by
   rw[h1];exact zaq (zc5 ds λd e=>(hd d e).2.2.2.2.2.2.2.1)
  have j:=yJ (f i hi) h2;have c:s i*zaf n ds l i=0:=by unfold rtR at h;grind
  rw[c];grind
def zpg(hd:∀d∈ds,zm n d)(h:0<rtR n ds l s i)(a:x=zar ds l (rtR n ds l s) i)(b:stp ds l i=some ρ):zR (zA ds i) (ρ+1)<=l i+x*(s i*zaf n ds l i):=by
 have h2:x*rtR n ds l s i=zbx ds l i-l i:=by
  rw[a];unfold zar;exact zdq h
 rw[zf1 b]at h2;unfold rtR at h2;grind
end
end Internal
namespace Dt
variable {n:Nat}
def Leak.uniq{f:Nat->Nat->Rat}{r d:Nat->Rat}(h:Leak n f r)(e:∀i,i<n->r i*d i-sm n (λj=>f j i*d j)=0):∀i,i<n->d i=0:=λm a=>by
 have c:=h.nonneg (s:=d) (λi hi=>by rw[e i hi];exact yE) m a;have p2:=h.nonneg (s:=λj=>-d j) (λi hi=>by
  have b:sm n (λj=>f j i * -d j)=-sm n (λj=>f j i*d j):=by
   rw[<- sm_neg];exact sm_congr λj _=>by grind
  show 0<=r i * -d i-sm n (λj=>f j i * -d j);rw[b]
  have:=e i hi
  grind) m a
 grind
def sm_sub{f g:Nat->Rat}(n:Nat):sm n (λi=>f i-g i)=sm n f-sm n g:=by
 have e:sm n (λi=>f i-g i)=sm n (λi=>1*f i+(-1)*g i):=sm_congr λi _=>by grind
 rw[e,sm_lin];grind
end Dt
namespace Internal
variable {i:Nat}
open PySem PySem.Spec PyProof.Rows
open Dt (sm Leak bal)
noncomputable def slL (n:Nat) (ds:List Due) (l:Nat->Rat):List Nat:="0e".filter (shB ds l)
abbrev crL(n:Nat)(ds:List Due)(l:Nat->Rat):List Nat:=Rc.circle n (gB ds l) (shB ds l)
noncomputable def zcG (n:Nat) (ds:List Due) (l:Nat->Rat) (c:List Nat) (x:Nat->Rat):Prop:=∀a,a<c.length->sm c.length (λb=>zcu (cF ds l c) (cR n ds l c) a b*x b)=if a=0 then 1 else 0
noncomputable def zdc (n:Nat) (ds:List Due) (p l:Nat->Rat) (c:List Nat) (x:Nat->Rat):Prop:=∀a,a<c.length->sm c.length (λb=>bal (cF ds l c) (cR n ds l c) a b*x b)=p (c.getD a 0)
noncomputable def zkm (n:Nat) (ds:List Due) (l:Nat->Rat) (c:List Nat):Nat->Rat:=Classical.epsilon (zcG n ds l c)
noncomputable def zih (n:Nat) (ds:List Due) (p l:Nat->Rat) (c:List Nat):Nat->Rat:=Classical.epsilon (zdc n ds p l c)
section
variable {n:Nat}{ds:List Due}{p l:Nat->Rat}{t:Rat}
def sl_mem:i∈slL n ds l↔i<n/\shB ds l i=true:=by
 unfold slL;rw[yaC,yF]
def zdG:(slL n ds l).Nodup:=ybV.filter _
def zaM{c:List Nat}{a:Nat}(ha:a<c.length):c.getD a 0∈c:=by
 rw[yf,yl ha];exact ybW ha
def za9{c:List Nat}(nd:c.Nodup)(a b:Nat)(ha:a<c.length)(d:b<c.length)(e:c.getD a 0=c.getD b 0):a=b:=by
 have g:∀a,a<c.length->c[a]?=some (c.getD a 0):=λa ha=>by rw[yf,yl ha];rfl
 exact zbq nd (g a ha) (by rw[e];exact g b d)
def zp7{c:List Nat}{x:Nat}(h:x∈c):∃a,a<c.length/\x=c.getD a 0:=by
 obtain⟨a,ha,e⟩:=y6 h;exact⟨a,ha,by rw[yf,yl ha,<- e];rfl⟩
def zqK(hd:∀d∈ds,zm n d)(b:crL n ds l=[]){x y:Nat->Rat}(c:zdc n ds p l (slL n ds l) x)(g:zdc n ds p l (slL n ds l) y):∀a,a<(slL n ds l).length->x a=y a:=λa ha=>by
 have L:=zd6 hd b (m:=(slL n ds l).length) (s:=λa=>(slL n ds l).getD a 0) (λa ha=>sl_mem.mp (zaM ha)) (za9 zdG)
 have:=L.uniq (d:=λa=>x a-y a) (λi hi=>by
  have h1:=c i hi;have h2:=g i hi;rw[Dt.bal_row (f:=cF ds l (slL n ds l)) (r:=cR n ds l (slL n ds l)) hi (zdz hd _)]at h1 h2;have e:sm (slL n ds l).length (λj=>cF ds l (slL n ds l) j i*(x j-y j))=sm (slL n ds l).length (λj=>cF ds l (slL n ds l) j i*x j)-sm (slL n ds l).length (λj=>cF ds l (slL n ds l) j i*y j):=by
   rw[<- Dt.sm_sub];exact Dt.sm_congr λj _=>by grind
  show cR n ds l (slL n ds l) i*(x i-y i)-sm (slL n ds l).length (λj=>cF ds l (slL n ds l) j i*(x j-y j))=0;rw[e];grind) a ha
 grind
def zqC(hd:∀d∈ds,zm n d){c:List Nat}(o:Rc.Cir n (gB ds l) (shB ds l) c){x y:Nat->Rat}(b:zcG n ds l c x)(f:zcG n ds l c y):∀a,a<c.length->x a=y a:=λa ha=>by
 obtain⟨m,k⟩:∃m,c.length=m+1:=⟨c.length-1,⋯⟩
 unfold zcG at b f;rw[k]at b f ha;have L:=zei hd o k;have g:x 0=y 0:=by
  have h1:=b 0 ⋯;have h2:=f 0 ⋯;rw[zgP]at h1 h2;rw[h1,h2]
 have:=L.uniq (d:=λa=>x (a+1)-y (a+1)) (λi hi=>by
  have h1:=b (i+1) ⋯;have h2:=f (i+1) ⋯;rw[zgO hd _ hi,if_neg ⋯]at h1 h2;have e:sm m (λj=>cF ds l c (j+1) (i+1)*(x (j+1)-y (j+1)))=sm m (λj=>cF ds l c (j+1) (i+1)*x (j+1))-sm m (λj=>cF ds l c (j+1) (i+1)*y (j+1)):=by
   rw[<- Dt.sm_sub];exact Dt.sm_congr λj _=>by grind
  show cR n ds l c (i+1)*(x (i+1)-y (i+1))-sm m (λj=>cF ds l c (j+1) (i+1)*(x (j+1)-y (j+1)))=0;rw[e,g]at *
  grind)
 cases a with
 | zero=>exact g
 | succ a=>
  have h:=this a ⋯;grind
end
noncomputable def shF (n:Nat) (ds:List Due) (p l:Nat->Rat):Nat->Rat:=
 if crL n ds l=[]then sF (slL n ds l).length (λa=>(slL n ds l).getD a 0) (zih n ds p l (slL n ds l))else sF (crL n ds l).length (λa=>(crL n ds l).getD a 0) (zkm n ds l (crL n ds l))
noncomputable def rtF (n:Nat) (ds:List Due) (p l:Nat->Rat):Nat->Rat:=rtR n ds l (shF n ds p l)
noncomputable def stF (n:Nat) (ds:List Due) (p l:Nat->Rat) (t:Rat):Rat:=
 if crL n ds l=[] then(match zao ds l (rtF n ds p l) n with | none=>1-t | some q=>if 1-t<q then 1-t else q) else(zao ds l (rtF n ds p l) n).getD 0
noncomputable def nxL (n:Nat) (ds:List Due) (p l:Nat->Rat) (t:Rat):Nat->Rat:=λi=>l i+stF n ds p l t*rtF n ds p l i
noncomputable def nxT (n:Nat) (ds:List Due) (p l:Nat->Rat) (t:Rat):Rat:=if crL n ds l=[]then t+stF n ds p l t else t
noncomputable def Ans (n:Nat) (ds:List Due) (p l:Nat->Rat):Prop:=if crL n ds l=[]then ∃x,zdc n ds p l (slL n ds l) x else ∃x,zcG n ds l (crL n ds l) x
section
variable {n:Nat}{ds:List Due}{p l:Nat->Rat}{t:Rat}
def zk3(hd:∀d∈ds,zm n d)(p0:∀i,i<n->0<=p i)(ha:Ans n ds p l):(∀i,0<=shF n ds p l i)/\(∀i,i<n->stp ds l i≠none->zaf n ds l i*shF n ds p l i-sm n (λj=>flR ds l j i*shF n ds p l j)=(if crL n ds l=[]then 1 else 0)*p i)/\(crL n ds l≠[]->∃i,i<n/\stp ds l i≠none/\0<shF n ds p l i):=by
 unfold shF;unfold Ans at ha;by_cases b:crL n ds l=[]
 ·rw[if_pos b]at ha;rw[if_pos b,if_pos b];have c:zdc n ds p l (slL n ds l) (zih n ds p l (slL n ds l)):=yaF ha;obtain⟨a1,a2⟩:=zlN (x:=zih n ds p l (slL n ds l)) hd b p0 (m:=(slL n ds l).length) (s:=λa=>(slL n ds l).getD a 0) (λa ha=>sl_mem.mp (zaM ha)) (za9 zdG) (λi hi k=>zp7 (sl_mem.mpr ⟨hi,k⟩)) c;exact⟨a1,a2,λz=>absurd b z⟩
 ·rw[if_neg b]at ha;rw[if_neg b,if_neg b];have f:=Rc.circle_ok b;obtain⟨m,e⟩:∃m,(crL n ds l).length=m+1:=⟨(crL n ds l).length-1,by
   have:(crL n ds l).length≠0:=λz=>b (yah z)
   lia⟩
  have c:zcG n ds l (crL n ds l) (zkm n ds l (crL n ds l)):=yaF ha;unfold zcG at c;rw[e]at c;obtain⟨a1,a2,g⟩:=znP hd f e c;rw[e];refine⟨a1,λi hi _=>by rw[a2 i hi];grind,λ_=>⟨(crL n ds l).getD 0 0,?_,?_,?_⟩⟩
  ·exact f.lt _ (zaM (show 0<(crL n ds l).length by rw[e];lia))
  ·have:=f.sh _ (zaM (show 0<(crL n ds l).length by rw[e];lia))
   intro z;have h:shB ds l ((crL n ds l).getD 0 0)=false:=by unfold shB;rw[show stp ds l ((crL n ds l).getD 0 0)=none from z];rfl
   exact absurd (this.symm.trans h) "0a"
  ·rw[g];decide
def zs5(hd:∀d∈ds,zm n d)(p0:∀i,i<n->0<=p i)(I:CInv n ds p l t)(t0:0<=t)(t1:t<=1)(ha:Ans n ds p l)(M:¬(crL n ds l=[]/\t=1)) :
  CInv n ds p (nxL n ds p l t) (nxT n ds p l t)/\0<=nxT n ds p l t/\nxT n ds p l t<=1/\t<=nxT n ds p l t/\(∀i,i<n->l i<=nxL n ds p l t i)/\0<=stF n ds p l t /\
  (zfJ n ds l<zfJ n ds (nxL n ds p l t)\/(zfJ n ds l<=zfJ n ds (nxL n ds p l t)/\t<1/\nxT n ds p l t=1)):=by
 obtain⟨E,J,u⟩:=zk3 hd p0 ha;obtain⟨s,H⟩:∃s,s=shF n ds p l:=⟨_,rfl⟩
 have y:rtF n ds p l=rtR n ds l s:=by unfold rtF;rw[H]
 rw[<- H]at E J u
 -- the step
 have r:∀(x e:Rat),0<=x->(∀i,i<n->0<rtR n ds l s i->x<=zar ds l (rtR n ds l s) i)->(e=if crL n ds l=[]then 1 else 0)->CInv n ds p (λi=>l i+x*rtR n ds l s i) (t+x*e):=λx e a C G=>by
  refine turn hd I (λi _=>E i) a (by rw[G];split<;>decide) p0 (λi hi b=>by rw[G];exact J i hi b) (λi hi ρ b=>zsv hd (λi _=>E i) a C hi b)
 have L:∀i,0<=rtR n ds l s i:=λi=>yJ (E i) (Dt.sm_ge0 λj _=>zcC hd i j);have grow:∀(x:Rat),0<=x->∀i,l i<=l i+x*rtR n ds l s i:=λx a i=>by
  have:=yJ a (L i)
  grind
 have v:∀(x:Rat),0<=x->(∃i,i<n/\0<rtR n ds l s i/\x=zar ds l (rtR n ds l s) i)->zfJ n ds l<zfJ n ds (λi=>l i+x*rtR n ds l s i):=λx a ⟨i,hi,g,C⟩=>by
  obtain⟨ρ,b⟩:=zeZ hd g;exact ziH (λj O=>zhj (grow x a j)) hi (zte (I.lo i hi) (grow x a i) b (zpg hd g C b))
 have w:∀{x:Rat},(∃i,i<n/\0<rtR n ds l s i/\x=zar ds l (rtR n ds l s) i)->0<x:=λ{x} ⟨i,hi,g,C⟩=>by rw[C];exact zpK hd g
 have D:nxL n ds p l t=λi=>l i+stF n ds p l t*rtR n ds l s i:=by unfold nxL;rw[y]
 by_cases o:crL n ds l=[]
 ·have tl:t<1:=by
   rcases yat (t=1)with z | z
   ·exact absurd ⟨o,z⟩ M
   ·grind
  have B:nxT n ds p l t=t+stF n ds p l t:=if_pos o;have f:stF n ds p l t=match zao ds l (rtR n ds l s) n with | none=>1-t | some q=>if 1-t<q then 1-t else q:=by unfold stF;rw[if_pos o,y]
  cases hq:zao ds l (rtR n ds l s) n with
  | none=>
   rw[hq]at f;dsimp only at f;have a:0<=stF n ds p l t:=by rw[f];grind
   have K:=r (stF n ds p l t) 1 a (λi hi g=>absurd g (zcx hq i hi)) (by rw[if_pos o]);rw[D,B];refine⟨by rw[show stF n ds p l t*1=stF n ds p l t by grind]at K;exact K,by grind,by grind,by grind,λi _=>grow _ a i,a,.inr ⟨zb7 λj _=>zhj (grow _ a j),tl,by rw[f];grind⟩⟩
  | some q=>
   rw[hq]at f;dsimp only at f;obtain⟨m,k⟩:=zbG hq;have N:=w m;by_cases c:1-t<q
   ·rw[if_pos c]at f;have a:0<=stF n ds p l t:=by rw[f];grind
    have K:=r (stF n ds p l t) 1 a (λi hi g=>by have:=k i hi g;rw[f];grind) (by rw[if_pos o]);rw[D,B];refine⟨by rw[show stF n ds p l t*1=stF n ds p l t by grind]at K;exact K,by grind,by grind,by grind,λi _=>grow _ a i,a,.inr ⟨zb7 λj _=>zhj (grow _ a j),tl,by rw[f];grind⟩⟩
   ·rw[if_neg c]at f;have a:0<=stF n ds p l t:=by rw[f];grind
    have K:=r (stF n ds p l t) 1 a (λi hi g=>by rw[f];exact k i hi g) (by rw[if_pos o]);rw[D,B];refine⟨by rw[show stF n ds p l t*1=stF n ds p l t by grind]at K;exact K,by grind,by grind,by grind,λi _=>grow _ a i,a,.inl (v _ a (by rw[f];exact m))⟩
 ·have B:nxT n ds p l t=t:=if_neg o;have f:stF n ds p l t=(zao ds l (rtR n ds l s) n).getD 0:=by unfold stF;rw[if_neg o,y]
  obtain⟨i,hi,b,F⟩:=u o;have g:0<rtR n ds l s i:=by
   cases h:stp ds l i with
   | none=>exact absurd h b
   | some ρ=>exact ybr F (zgb hd (I.lo i hi) h)
  cases hq:zao ds l (rtR n ds l s) n with
  | none=>exact absurd g (zcx hq i hi)
  | some q=>
   rw[hq]at f;have A:stF n ds p l t=q:=f;obtain⟨m,k⟩:=zbG hq;have N:=w m;have a:0<=stF n ds p l t:=by rw[A];grind
   have K:=r (stF n ds p l t) 0 a (λi hi g=>by rw[A];exact k i hi g) (by rw[if_neg o]);rw[D,B];refine⟨by rw[show t+stF n ds p l t*0=t by grind]at K;exact K,t0,t1,yE,λi _=>grow _ a i,a,.inl (v _ a (by rw[A];exact m))⟩
end
end Internal
namespace Dt
variable {i n:Nat}
noncomputable def Wh (q:Rat):Prop:=∃k:Int,q=(k:Rat)
def Wh.add{a b:Rat}(h:Wh a)(g:Wh b):Wh (a+b):=by
 obtain⟨k,rfl⟩:=h;obtain⟨j,rfl⟩:=g;exact⟨k+j,by rw[yV]⟩
def Wh.mul{a b:Rat}(h:Wh a)(g:Wh b):Wh (a*b):=by
 obtain⟨k,rfl⟩:=h;obtain⟨j,rfl⟩:=g;exact⟨k*j,by rw[yK]⟩
def Wh.neg{a:Rat}(h:Wh a):Wh (-a):=by
 obtain⟨k,rfl⟩:=h;exact⟨-k,by rw[yaQ]⟩
def Wh.sub{a b:Rat}(h:Wh a)(g:Wh b):Wh (a-b):=by
 rw[show a-b=a + -b by grind];exact h.add g.neg
def Wh.zero:Wh 0:=⟨0,rfl⟩
def Wh.one:Wh 1:=⟨1,rfl⟩
theorem Wh.sums{f:Nat->Rat}:∀{n:Nat},(∀i,i<n->Wh (f i))->Wh (sm n f)
 | 0,_=>Wh.zero
 | n+1,h=>Wh.add (Wh.sums λi hi=>h i ⋯) (h n ⋯)
theorem Wh.sgn:∀k:Nat,Wh (Dt.sgn k)
 | 0=>Wh.one
 | k+1=>(Wh.sgn k).neg
theorem Wh.det:∀{n:Nat} {c:Nat->Nat->Rat},(∀j r,j<n->r<n->Wh (c j r))->Wh (Dt.det n c)
 | 0,_,_=>Wh.one
 | n+1,c,h=>by
  unfold Dt.det;refine Wh.sums λi hi=>?_;refine((Wh.sgn (n+i)).mul (h n i ⋯ hi)).mul (Wh.det λj r a b=>?_);rw[zes];exact h j _ ⋯ (by unfold up;split<;>lia)
def cram{A:Nat->Nat->Rat}{x b:Nat->Rat}(h:∀a,a<n->sm n (λm=>A a m*x m)=b a)(hi:i<n):x i*det n (cl A)=det n (setc (cl A) i b):=by
 rw[<- zic (c:=cl A) (a:=x) hi];refine det_congr λj r f d=>?_;unfold setc;by_cases e:j=i
 ·rw[if_pos e,if_pos e,<- h r d];exact sm_congr λm _=>by show x m*A r m=A r m*x m;grind
 ·rw[if_neg e,if_neg e]
theorem zhM{B C:Nat->Rat}:∀{n:Nat},(∀j,j<n->0<=B j/\B j<=C j)->prodN B n<=prodN C n
 | 0,_=>yE
 | n+1,h=>by
  have h1:=zhM (n:=n) λj a=>h j ⋯;have h2:=h n ⋯;have b:0<=prodN B n:=prodN_nn λj a=>(h j ⋯).1;show prodN B n*B n<=prodN C n*C n;have a1:=yS h2.2 b;have a2:=y4 h1 (yL h2.1 h2.2);exact yL a1 a2
theorem zjo{W P:Rat}(hW:1<=W)(hP:1<=P){i:Nat}:∀{n:Nat},prodN (λj=>if j=i then P else W) n<=prodN (λ_=>W) n*P
 | 0=>by show(1:Rat)<=1*P;grind
 | n+1=>by
  have a:0<=prodN (λ_=>W) n:=prodN_nn λ_ _=>by grind
  show prodN (λj=>if j=i then P else W) n*(if n=i then P else W)<=prodN (λ_=>W) n*W*P;by_cases e:n=i
  ·rw[if_pos e];have h1:prodN (λj=>if j=i then P else W) n<=prodN (λ_=>W) n:=zhM λj b=>by rw[if_neg ⋯];grind
   have h2:=y4 h1 (show 0<=P by grind);have c:=yS hW (yJ a (show 0<=P by grind));grind
  ·rw[if_neg e];have h1:=y4 (zjo hW hP (i:=i) (n:=n)) (show 0<=W by grind);grind
def sys_size{A bb:Nat->Nat->Rat}{x b pb:Nat->Rat}{W P:Rat}(h:∀a,a<n->sm n (λm=>A a m*x m)=b a)(l:∀a m,a<n->m<n->Wh (A a m))(s:∀a,a<n->Wh (b a))(o:∀a m,a<n->m<n->Bd (bb m a) (A a m))(p:∀m,m<n->sm n (bb m)<=W)(k:∀a,a<n->Bd (pb a) (b a))(g:sm n pb<=P)(hW:1<=W)(hP:1<=P) :
  Wh (det n (cl A))/\Bd (prodN (λ_=>W) n*P) (det n (cl A))/\∀i,i<n->Wh (x i*det n (cl A))/\Bd (prodN (λ_=>W) n*P) (x i*det n (cl A)):=by
 have q:0<=prodN (λ_=>W) n:=prodN_nn λ_ _=>by grind
 refine⟨Wh.det λj r f d=>l r j d f,?_,λi hi=>?_⟩
 ·have:=Bd.det_col (B:=λ_=>W) (n:=n) (c:=cl A) (b:=bb) (λj r f d=>o r j d f) p
  refine this.wide ?_
  have:=yS hP q
  grind
 ·rw[cram h hi];refine⟨Wh.det λj r f d=>?_,?_⟩
  ·unfold setc;split
   ·exact s r d
   ·exact l r j d f
  ·have:=Bd.det_col (B:=λj=>if j=i then P else W) (n:=n) (c:=setc (cl A) i b) (b:=λj=>if j=i then pb else bb j) (λj r f d=>by
    unfold setc;by_cases e:j=i
    ·rw[if_pos e,if_pos e];exact k r d
    ·rw[if_neg e,if_neg e];exact o r j d f) (λj f=>by
    by_cases e:j=i
    ·rw[if_pos e,if_pos e];exact g
    ·rw[if_neg e,if_neg e];exact p j f)
   exact this.wide (zjo hW hP)
end Dt
namespace Internal
variable {i k m:Nat}
open PySem PySem.Spec PyProof.Rows
open Dt (sm Leak bal Wh Bd prodN)
section
variable {n:Nat}{ds:List Due}{p l:Nat->Rat}{t W P:Rat}
def znr(i j:Nat):Wh (flR ds l i j):=⟨_,rfl⟩
def zfH(i:Nat):Wh (zaf n ds l i):=Wh.sums λj _=>znr i j
def zmc(hd:∀d∈ds,zm n d)(i:Nat):0<=zaf n ds l i:=Dt.sm_ge0 λj _=>zcC hd i j
structure ShW(n:Nat)(ds:List Due)(p l:Nat->Rat)(M:Rat)(Δ:Rat):Prop where
 w:Wh Δ
 ne:Δ≠0
 bd:Bd M Δ
 ws:∀i,i<n->Wh (shF n ds p l i*Δ)
 bs:∀i,i<n->Bd M (shF n ds p l i*Δ)
def zke{s:Nat->Nat}{x:Nat->Rat}{Δ M:Rat}(c:0<=M)(inj:∀a b,a<m->b<m->s a=s b->a=b)(h:∀a,a<m->Wh (x a*Δ)/\Bd M (x a*Δ))(i:Nat):Wh (sF m s x i*Δ)/\Bd M (sF m s x i*Δ):=by
 rcases yat (∃a,a<m/\s a=i) with⟨a,ha,e⟩ | z
 ·rw[<- e,zf5 inj ha];exact h a ha
 ·rw[zhX λa ha e=>z ⟨a,ha,e⟩,show(0:Rat)*Δ=0 by grind];exact⟨Wh.zero,by constructor<;>grind⟩
def zkT(hd:∀d∈ds,zm n d){c:List Nat}(nd:c.Nodup)(lt:∀x∈c,x<n)(hW:∀i,i<n->2*zaf n ds l i<=W)(b:m<c.length):sm c.length (λa=>if a=m then cR n ds l c a else cF ds l c m a)<=W:=by
 have k:c.getD m 0<n:=lt _ (zaM b);have h1:sm c.length (λa=>cF ds l c m a)<=zaf n ds l (c.getD m 0):=Dt.sm_some (n:=n) (s:=λa=>c.getD a 0) c.length (h:=flR ds l (c.getD m 0)) (λx _=>zcC hd _ x) (λa ha=>lt _ (zaM ha)) (za9 nd);have e:sm c.length (λa=>if a=m then cR n ds l c a else cF ds l c m a)<=sm c.length (λa=>(if a=m then cR n ds l c m else 0)+cF ds l c m a):=Dt.sm_mono λa ha=>by
  by_cases g:a=m
  ·rw[if_pos g,if_pos g,g]
   have:cF ds l c m m=0:=zdz hd _
   rw[this];grind
  ·rw[if_neg g,if_neg g];grind
 rw[Dt.sm_add,Dt.sm_one (i:=m) b λj _ f=>if_neg f,if_pos rfl]at e
 have:=hW _ k
 have h2:cR n ds l c m=zaf n ds l (c.getD m 0):=rfl;grind
def zoN(hd:∀d∈ds,zm n d){c:List Nat}(a m:Nat):Bd (if a=m then cR n ds l c a else cF ds l c m a) (bal (cF ds l c) (cR n ds l c) a m):=by
 unfold bal;have h1:=zmc (n:=n) (l:=l) hd (c.getD a 0);have h2:=zcC (n:=n) (l:=l) hd (c.getD m 0) (c.getD a 0);by_cases g:a=m
 ·rw[if_pos g,if_pos g];show Bd (zaf n ds l (c.getD a 0)) (zaf n ds l (c.getD a 0));constructor<;>grind
 ·rw[if_neg g,if_neg g];show Bd (flR ds l (c.getD m 0) (c.getD a 0)) (-flR ds l (c.getD m 0) (c.getD a 0));constructor<;>grind
theorem zd0{k:Nat}(hW:1<=W):∀{n:Nat},k<=n->prodN (λ_=>W) k<=prodN (λ_=>W) n
 | 0,h=>by rw[show k=0 by lia];exact yE
 | n+1,h=>by
  have a:∀j,0<=prodN (λ_=>W) j:=λj=>Dt.prodN_nn λ_ _=>by grind
  rcases yP h with g | g
  ·have h1:=zd0 hW (k:=k) (n:=n) ⋯;have h2:=yS hW (a n);show prodN (λ_=>W) k<=prodN (λ_=>W) n*W;grind
  ·rw[g];exact yE
def zn8(hd:∀d∈ds,zm n d)(p0:∀i,i<n->0<=p i)(F:∀i,i<n->Wh (p i))(lo:∀i,i<n->0<=l i)(ha:Ans n ds p l)(hW:∀i,i<n->2*zaf n ds l i<=W)(W1:1<=W)(hP:sm n p<=P)(P1:1<=P):∃Δ,ShW n ds p l (prodN (λ_=>W) n*P) Δ:=by
 have r:∀j,0<=prodN (λ_=>W) j:=λj=>Dt.prodN_nn λ_ _=>by grind
 have H:0<=prodN (λ_=>W) n*P:=yJ (r n) (by grind);have up:∀{k:Nat},k<=n->prodN (λ_=>W) k*P<=prodN (λ_=>W) n*P:=λy=>y4 (zd0 W1 y) (by grind);by_cases f:crL n ds l=[]
 ·obtain⟨c,e⟩:∃c,c=slL n ds l:=⟨_,rfl⟩
  have nd:c.Nodup:=by rw[e];exact zdG
  have lt:∀x∈c,x<n:=λx o=>by rw[e]at o;exact(sl_mem.mp o).1
  have o:zdc n ds p l c (zih n ds p l c):=by
   unfold Ans at ha;rw[if_pos f]at ha;rw[e];exact yaF ha
  have L:=zd6 hd f (m:=c.length) (s:=λa=>c.getD a 0) (λa ha=>by rw[e]at ha ⊢;exact sl_mem.mp (zaM ha)) (za9 nd);have q:c.length<=n:=Rc.len_le nd lt;obtain⟨a1,a2,u⟩:=Dt.sys_size (n:=c.length) (A:=bal (cF ds l c) (cR n ds l c)) (bb:=λm a=>if a=m then cR n ds l c a else cF ds l c m a) (x:=zih n ds p l c) (b:=λa=>p (c.getD a 0)) (pb:=λa=>p (c.getD a 0)) (W:=W) (P:=P) o (λa m _ _=>by
   unfold bal;split
   ·exact zfH _
   ·exact(znr _ _).neg) (λa ha=>F _ (lt _ (zaM ha))) (λa m _ _=>zoN hd a m) (λm w=>zkT hd nd lt hW w) (λa ha=>by have:=p0 _ (lt _ (zaM ha));constructor<;>grind) (yL (Dt.sm_some (n:=n) (s:=λa=>c.getD a 0) c.length (h:=p) p0 (λa ha=>lt _ (zaM ha)) (za9 nd)) hP) W1 P1
  refine⟨Dt.det c.length (Dt.cl (bal (cF ds l c) (cR n ds l c))),a1,L.det,a2.wide (up q),λi hi=>?_,λi hi=>?_⟩
  ·have:=zke (i:=i) (yJ (r c.length) (show 0<=P by grind)) (s:=λa=>c.getD a 0) (za9 nd) u
   unfold shF;rw[if_pos f,<- e];exact this.1
  ·have:=zke (i:=i) (yJ (r c.length) (show 0<=P by grind)) (s:=λa=>c.getD a 0) (za9 nd) u
   unfold shF;rw[if_pos f,<- e];exact this.2.wide (up q)
 ·obtain⟨c,e⟩:∃c,c=crL n ds l:=⟨_,rfl⟩
  have v:Rc.Cir n (gB ds l) (shB ds l) c:=by rw[e];exact Rc.circle_ok f
  have nd:=v.nd;have lt:=v.lt;obtain⟨m,w⟩:∃m,c.length=m+1:=⟨c.length-1,by
   have:c.length≠0:=λz=>v.ne (yah z)
   lia⟩
  have o:zcG n ds l c (zkm n ds l c):=by
   unfold Ans at ha;rw[if_neg f]at ha;rw[e];exact yaF ha
  have t:=zmB hd v w;rw[<- w]at t;have q:c.length<=n:=Rc.len_le nd lt;have D:∀a,a<c.length->1<=cR n ds l c a:=λa ha=>by
   have B:=v.sh _ (zaM ha);cases h:stp ds l (c.getD a 0) with
   | none=>unfold shB at B;rw[h]at B;cases B
   | some ρ=>
    have G:=zcw (lo _ (lt _ (zaM ha))) h;show 1<=zaf n ds l (c.getD a 0);rw[zdC hd h];exact_mod_cast G
  obtain⟨a1,a2,u⟩:=Dt.sys_size (n:=c.length) (A:=zcu (cF ds l c) (cR n ds l c)) (bb:=λm a=>if a=0 then(if m=0 then 1 else 0)else if a=m then cR n ds l c a else cF ds l c m a) (x:=zkm n ds l c) (b:=λa=>if a=0 then 1 else 0) (pb:=λa=>if a=0 then 1 else 0) (W:=W) (P:=P) o (λa m _ _=>by
   unfold zcu;split
   ·split
    ·exact Wh.one
    ·exact Wh.zero
   ·unfold bal;split
    ·exact zfH _
    ·exact(znr _ _).neg) (λa _=>by
   split
   ·exact Wh.one
   ·exact Wh.zero) (λa m _ _=>by
   unfold zcu;by_cases g:a=0
   ·rw[if_pos g,if_pos g];split<;>(constructor<;>grind)
   ·rw[if_neg g,if_neg g];exact zoN hd a m) (λk y=>by
   have base:=zkT (W:=W) hd nd lt hW y;refine yL (Dt.sm_mono λa ha=>?_) base;by_cases g:a=0
   ·rw[if_pos g];by_cases C:k=0
    ·rw[if_pos C,if_pos ⋯];exact D a ha
    ·rw[if_neg C,if_neg ⋯];exact zcC hd _ _
   ·rw[if_neg g];exact yE) (λa _=>by split<;>(constructor<;>grind)) (by
   rw[Dt.sm_one (i:=0) ⋯ λj _ E=>if_neg E,if_pos rfl];exact P1) W1 P1
  refine⟨Dt.det c.length (Dt.cl (zcu (cF ds l c) (cR n ds l c))),a1,t,a2.wide (up q),λi hi=>?_,λi hi=>?_⟩
  ·have:=zke (i:=i) (yJ (r c.length) (show 0<=P by grind)) (s:=λa=>c.getD a 0) (za9 nd) u
   unfold shF;rw[if_neg f,<- e];exact this.1
  ·have:=zke (i:=i) (yJ (r c.length) (show 0<=P by grind)) (s:=λa=>c.getD a 0) (za9 nd) u
   unfold shF;rw[if_neg f,<- e];exact this.2.wide (up q)
end
open PySem PySem.Spec PyProof.Rows
open Dt (sm Leak bal Wh Bd prodN)
def dv_wh{D:Nat}{x:Rat}:Dv D x↔Wh (x*((D:Int):Rat)):=Iff.rfl
def zhG{D:Nat}{x:Rat}{k:Int}(h:Wh (x*((D:Int):Rat)*((k:Int):Rat))):Dv (D*k.natAbs) x:=by
 refine dv_wh.mpr ?_;have e:(((D*k.natAbs:Nat):Int):Rat)=((D:Int):Rat)*((k.natAbs:Int):Rat):=by
  rw[<- yK];congr 1
 rw[e];rcases Int.natAbs_eq k with z | z
 ·rw[<- z];rw[show x*(((D:Int):Rat)*((k:Int):Rat))=x*((D:Int):Rat)*((k:Int):Rat) by grind];exact h
 ·have a:((k.natAbs:Int):Rat)=-((k:Int):Rat):=by rw[<- yaQ];congr 1;lia
  rw[a,show x*(((D:Int):Rat) * -((k:Int):Rat))=-(x*((D:Int):Rat)*((k:Int):Rat)) by grind];exact h.neg
def zpv{k:Int}{M:Rat}(h:Bd M ((k:Int):Rat)):((k.natAbs:Int):Rat)<=M:=by
 rcases Int.natAbs_eq k with z | z
 ·rw[<- z];exact h.2
 ·have a:((k.natAbs:Int):Rat)=-((k:Int):Rat):=by rw[<- yaQ];congr 1;lia
  have:=h.1
  rw[a];grind
section
variable {n:Nat}{ds:List Due}{p l:Nat->Rat}{t W M Δ:Rat}{D:Nat}
def zsg(hd:∀d∈ds,zm n d)(p0:∀i,i<n->0<=p i)(lo:∀i,i<n->0<=l i)(ha:Ans n ds p l)(U:¬(crL n ds l=[]/\t=1))(S:ShW n ds p l M Δ)(R:0<=M)(hW:∀i,i<n->2*zaf n ds l i<=W)(W1:1<=W)(hl:∀i,i<n->Dv D (l i))(L:Dv D t) :
  ∃F:Nat,0<F/\((F:Int):Rat)<=M*W/\(∀i,i<n->Dv (D*F) (nxL n ds p l t i))/\Dv (D*F) (nxT n ds p l t):=by
 obtain⟨X,V,v⟩:=zk3 hd p0 ha;obtain⟨kΔ,eΔ⟩:=S.w;have K:kΔ≠0:=λz=>S.ne (by rw[eΔ,z];rfl);have P:M<=M*W:=by have:=yS W1 R;grind
 have A:rtF n ds p l=rtR n ds l (shF n ds p l):=rfl;have r:∀i,Wh (zbx ds l i):=λi=>⟨_,rfl⟩
 have B:Wh ((D:Int):Rat):=⟨_,rfl⟩
 -- to the end
 have shut:stF n ds p l t=1-t->crL n ds l=[]->∃F:Nat,0<F/\((F:Int):Rat)<=M*W/\(∀i,i<n->Dv (D*F) (nxL n ds p l t i))/\Dv (D*F) (nxT n ds p l t):=λe j=>by
  refine⟨kΔ.natAbs,Int.natAbs_pos.mpr K,yL (zpv (by rw[<- eΔ];exact S.bd)) P,λi hi=>zhG ?_,zhG ?_⟩
  ·rw[<- eΔ];unfold nxL;rw[e,A];have h1:Wh (l i*((D:Int):Rat)):=hl i hi;have h2:Wh (t*((D:Int):Rat)):=L;have H:=S.ws i hi;rw[show(l i+(1-t)*rtR n ds l (shF n ds p l) i)*((D:Int):Rat)*Δ=l i*((D:Int):Rat)*Δ+(((D:Int):Rat)-t*((D:Int):Rat))*((shF n ds p l i*Δ)*zaf n ds l i) by unfold rtR;grind];exact(h1.mul S.w).add ((B.sub h2).mul (H.mul (zfH i)))
  ·unfold nxT;rw[if_pos j,e,show t+(1-t)=1 by grind,<- eΔ];exact(Wh.one.mul B).mul S.w
 -- a rank filled
 have s:∀(q:Rat),(∃i,i<n/\0<rtR n ds l (shF n ds p l) i/\q=zar ds l (rtR n ds l (shF n ds p l)) i)->stF n ds p l t=q->∃F:Nat,0<F/\((F:Int):Rat)<=M*W/\(∀i,i<n->Dv (D*F) (nxL n ds p l t i))/\Dv (D*F) (nxT n ds p l t):=λq ⟨m,C,x,o⟩ e=>by
  obtain⟨a,T⟩:=S.ws m C;obtain⟨b,O⟩:=zfH (n:=n) (ds:=ds) (l:=l) m;have J:(((a*b:Int):Int):Rat)=shF n ds p l m*Δ*zaf n ds l m:=by rw[yK,<- T,<- O]
  have Q:q*rtR n ds l (shF n ds p l) m=zbx ds l m-l m:=by
   rw[o];unfold zar;exact zdq x
  have N:(a*b:Int)≠0:=λz=>by
   have:shF n ds p l m*Δ*zaf n ds l m=0:=by rw[<- J,z];rfl
   have h2:rtR n ds l (shF n ds p l) m*Δ=0:=by unfold rtR;grind
   rcases Rat.mul_eq_zero.mp h2 with g | g
   ·rw[g]at x;exact absurd x "0a"
   ·exact S.ne g
  have u:q*(((a*b:Int):Int):Rat)=(zbx ds l m-l m)*Δ:=by
   rw[J,<- Q];unfold rtR;grind
  have I:Bd W (zaf n ds l m):=by
   have h1:=zmc (n:=n) (l:=l) hd m;have h2:=hW m C;constructor<;>grind
  have y:Wh (l m*((D:Int):Rat)):=hl m C;refine⟨(a*b).natAbs,Int.natAbs_pos.mpr N,zpv (by rw[J];exact(S.bs m C).mul I),λi hi=>zhG ?_,zhG ?_⟩
  ·unfold nxL;rw[e,A];have h1:Wh (l i*((D:Int):Rat)):=hl i hi;have H:=S.ws i hi;rw[show(l i+q*rtR n ds l (shF n ds p l) i)*((D:Int):Rat)*(((a*b:Int):Int):Rat)=l i*((D:Int):Rat)*(((a*b:Int):Int):Rat)+(q*(((a*b:Int):Int):Rat))*(shF n ds p l i*zaf n ds l i)*((D:Int):Rat) by unfold rtR;grind,u,
    show(zbx ds l m-l m)*Δ*(shF n ds p l i*zaf n ds l i)*((D:Int):Rat)=(zbx ds l m*((D:Int):Rat)-l m*((D:Int):Rat))*((shF n ds p l i*Δ)*zaf n ds l i) by grind]
   exact(h1.mul ⟨_,rfl⟩).add ((((r m).mul B).sub y).mul (H.mul (zfH i)))
  ·have h2:Wh (t*((D:Int):Rat)):=L;unfold nxT;by_cases j:crL n ds l=[]
   ·rw[if_pos j,e,show(t+q)*((D:Int):Rat)*(((a*b:Int):Int):Rat)=t*((D:Int):Rat)*(((a*b:Int):Int):Rat)+(q*(((a*b:Int):Int):Rat))*((D:Int):Rat) by grind,u,
     show(zbx ds l m-l m)*Δ*((D:Int):Rat)=(zbx ds l m*((D:Int):Rat)-l m*((D:Int):Rat))*Δ by grind]
    exact(h2.mul ⟨_,rfl⟩).add ((((r m).mul B).sub y).mul S.w)
   ·rw[if_neg j];exact h2.mul ⟨_,rfl⟩
 by_cases j:crL n ds l=[]
 ·have f:stF n ds p l t=match zao ds l (rtR n ds l (shF n ds p l)) n with | none=>1-t | some q=>if 1-t<q then 1-t else q:=by unfold stF;rw[if_pos j];rfl
  cases o:zao ds l (rtR n ds l (shF n ds p l)) n with
  | none=>rw[o]at f;exact shut f j
  | some q=>
   rw[o]at f;dsimp only at f;by_cases c:1-t<q
   ·rw[if_pos c]at f;exact shut f j
   ·rw[if_neg c]at f;exact s q (zbG o).1 f
 ·have f:stF n ds p l t=(zao ds l (rtR n ds l (shF n ds p l)) n).getD 0:=by unfold stF;rw[if_neg j];rfl
  obtain⟨i,hi,G,E⟩:=v j;have x:0<rtR n ds l (shF n ds p l) i:=by
   cases h:stp ds l i with
   | none=>exact absurd h G
   | some ρ=>exact ybr E (zgb hd (lo i hi) h)
  cases o:zao ds l (rtR n ds l (shF n ds p l)) n with
  | none=>exact absurd x (zcx o i hi)
  | some q=>
   rw[o]at f;exact s q (zbG o).1 f
end
open PySem PySem.Spec PyProof.Rows
open Dt (sm Leak bal Wh Bd prodN)
noncomputable def cst (n:Nat) (ds:List Due) (p:Nat->Rat):Nat->(Nat->Rat) × Rat
 | 0=>(λ_=>0,0)
 | k+1=>(nxL n ds p (cst n ds p k).1 (cst n ds p k).2,nxT n ds p (cst n ds p k).1 (cst n ds p k).2)
noncomputable def zbX (n:Nat) (ds:List Due) (l:Nat->Rat) (t:Rat):Prop:=crL n ds l=[]/\t=1
section
variable {n:Nat}{ds:List Due}{p l:Nat->Rat}{t W P:Rat}
def zpJ(ds:List Due):zK ds (λ_=>0) m=0:=
 zaH (P:=λds=>zK ds (λ_=>0) m=0) rfl (λes d a=>by
  rw[zaW,a];split<;>grind) ds
def cinv0(hd:∀d∈ds,zm n d):CInv n ds p (λ_=>0) 0:=by
 have ha:∀d∈ds,0<=d.a:=λd e=>(hd d e).2.2.2.2.2.2.2.1;have j:∀i r,r<3->0<=zA ds i r:=λi r _=>zc5 ds ha;have h:∀i r,r<=3->0<=zR (zA ds i) r:=λi r c=>zcB (j i) (yM r) c;have b:∀d∈ds,zag ds (λ_=>0) d=0:=λd e=>by
  obtain⟨_,_,_,_,_,l,m,_,_⟩:=hd d e;have c:d.r.toNat<3:=by lia
  have hl:zX (zA ds d.p.toNat) 0 d.r.toNat=0:=by
   rw[zf8 yE (j _) c,if_pos (h _ _ ⋯)]
  unfold zag zY;rw[hl];split<;>grind
 have g:∀i,zK ds (zag ds (λ_=>0)) i=0:=λi=>by rw[zeA ds b];exact zpJ ds
 refine⟨λ_ _=>yE,λi _=>h i 3 (yc _),λi _ _=>by rw[g];grind,λi _ k=>?_⟩
 have:=zdh (f:=zA ds i) (q:=0) k 2 "0a"
 rw[g];have h2:zR (zA ds i) 3<=0:=this;grind
def zuy(I:CInv n ds p l 1)(hi:i<n)(b:∀r,r<3->0<=zA ds i r):l i=if zR (zA ds i) 3<=p i+zK ds (zag ds l) i then zR (zA ds i) 3 else p i+zK ds (zag ds l) i:=by
 cases hs:stp ds l i with
 | none=>
  have h1:=I.fu i hi hs;have h2:zR (zA ds i) 3<=l i:=zdh hs 2 "0a";have a:=I.hi i hi;rw[if_pos (by grind)];grind
 | some ρ=>
  have h1:=I.sh i hi (by rw[hs];intro z;cases z);obtain⟨a,up,_⟩:=zbp hs;have c:=zcB b (show ρ+1<=3 by lia) (yc 3);rw[if_neg (by grind)];grind
structure COk(n:Nat)(ds:List Due)(p:Nat->Rat)(B:Rat)(k:Nat)(l:Nat->Rat)(t:Rat):Prop where
 inv:CInv n ds p l t
 t0:0<=t
 t1:t<=1
 kk:k<=zfJ n ds l+(if t=1 then 1 else 0)
 dv:∃D:Nat,0<D/\((D:Int):Rat)<=prodN (λ_=>B) k/\(∀i,i<n->Dv D (l i))/\Dv D t
def cok0(hd:∀d∈ds,zm n d)(B:Rat):COk n ds p B 0 (λ_=>0) 0:=
 ⟨cinv0 hd,yE,by decide,yM _,1,by decide,by show((1:Int):Rat)<=1;decide,λ_ _=>⟨0,by show(0:Rat)*_=((0:Int):Rat);rw[show((0:Int):Rat)=0 from rfl];grind⟩,⟨0,by show(0:Rat)*_=((0:Int):Rat);rw[show((0:Int):Rat)=0 from rfl];grind⟩⟩
def COk.le{B:Rat}(h:COk n ds p B k l t):k<=zcg n ds+1:=by
 have h1:=h.kk;have h2:=zud (n:=n) (ds:=ds) (l:=l);split at h1<;>lia
def COk.step(hd:∀d∈ds,zm n d)(p0:∀i,i<n->0<=p i)(x:∀i,i<n->Wh (p i))(hP:sm n p<=P)(P1:1<=P)(hW:∀i,i<n->2*zaf n ds l i<=W)(W1:1<=W)(h:COk n ds p (prodN (λ_=>W) n*P*W) k l t)(ha:Ans n ds p l)(a:¬zbX n ds l t):COk n ds p (prodN (λ_=>W) n*P*W) (k+1) (nxL n ds p l t) (nxT n ds p l t):=by
 have f:∀j,0<=prodN (λ_=>W) j:=λj=>Dt.prodN_nn λ_ _=>by grind
 have b:0<=prodN (λ_=>W) n*P:=yJ (f n) (by grind);have A:0<=prodN (λ_=>W) n*P*W:=yJ b (by grind);obtain⟨H,E,s,v,I,J,u⟩:=zs5 hd p0 h.inv h.t0 h.t1 ha a;obtain⟨Δ,S⟩:=zn8 hd p0 x h.inv.lo ha hW W1 hP P1;obtain⟨D,q,C,c,r⟩:=h.dv;obtain⟨F,m,w,o,G⟩:=zsg hd p0 h.inv.lo ha a S b hW W1 c r;refine⟨H,E,s,?_,D*F,yb8 q m,?_,o,G⟩
 ·have y:=h.kk;rcases u with g | ⟨g,tl,e⟩
  ·have:(if t=1 then 1 else 0)<=(if nxT n ds p l t=1 then 1 else 0):=by
    by_cases z:t=1
    ·rw[if_pos z,if_pos (by rw[z]at v;grind)];exact yc _
    ·rw[if_neg z];exact yM _
   lia
  ·have z:¬t=1:=λz=>by rw[z]at tl;exact absurd tl "0a"
   rw[if_neg z]at y;rw[if_pos e];lia
 ·have e:(((D*F:Nat):Int):Rat)=((D:Int):Rat)*((F:Int):Rat):=by
   rw[<- yK];congr 1
  rw[e];show _<=prodN (λ_=>prodN (λ_=>W) n*P*W) k*(prodN (λ_=>W) n*P*W)
  have a1:=y4 C (show(0:Rat)<=((F:Int):Rat)from zaq ⋯);have a2:=yS w (Dt.prodN_nn (B:=λ_=>prodN (λ_=>W) n*P*W) (n:=k) λ_ _=>A);exact yL a1 a2
end
end Internal
set_option maxHeartbeats 4000000
namespace Internal.BT
open PySem
theorem all:bootBuiltins "all" = some (.builtin "all"):=by decide +kernel
theorem any:bootBuiltins "any" = some (.builtin "any"):=by decide +kernel
end Internal.BT
namespace Internal
variable {H H' H1 H2:Hp}{K:Fg}{N ps:List Str}{Q:VK}{T a b c p:Addr}{X:Cx}{as:List Addr}{caps:List (Option Nat)}{d e:Due}{ds es:List Due}{elt iter tg:Expr}{f:Nat->Int}{fd:FuncData}{h:Heap}{hi:Option Int}{i j k m n r z ρ:Nat}{ls:List (List Nat)}{ms:List Nat}{ns:List Int}{o:HO}{q:Rat}{qs:List Rat}{qual x:Str}{s:Shared}{scope:Scope}{sp:Sp}{st:Stmt}{vs xs ys:List V}{wi:TI}{σ:St}
open PySem PySem.Spec PyProof.Rows
section
variable {X:Cx}
noncomputable def zka (K:Fg):List V->Hp->VK->Prop:=λvs H Q=>∃(a:Addr) (bs:List Bool),vs=[.ref a]/\SqL K H a (bs.map V.bl)/\Q (.bl (bs.all id)) H
noncomputable def zmO (K:Fg):List V->Hp->VK->Prop:=λvs H Q=>∃(a:Addr) (bs:List Bool),vs=[.ref a]/\SqL K H a (bs.map V.bl)/\Q (.bl (bs.any id)) H
theorem zg4:∀{bs:List Bool} {its:List Value},Vals (bs.map V.bl) its->its=bs.map Value.bool
 | [],_,r=>by cases r;rfl
 | b :: bs,_,r=>by
  cases r with
  | cons h t=>rw[zg4 t,show _=Value.bool b from h];rfl
def zoR(n:X.calm=true):CallR X (.builtin "all") (zka X.K):=by
 intro pins s σ H xs us Q I r h;obtain⟨a,bs,rfl,m,q⟩:=h;obtain⟨u,rfl,j⟩:=vals1 r;cases j;obtain⟨its,k,pl,hl,d⟩:=I.walk m;have l:=zg4 k;subst l;refine call_all_walk (wpAny_pyIter_list pl ?_);refine⟨s.heap.objs.size,[s.heap.objs.size,a],[s.heap.objs.size],(bs.map Value.bool).toArray.size,_,_,λi=>(bs[i]?).getD true,rfl,Walks.list (A:=X.A.in1) (I.ok.hd n) _ a (yw d) (bs.map Value.bool).toArray,
  ⟨⟨_,Heap.get?_push_size _ rfl,rfl,rfl⟩,pl.push _⟩,λi v s' w x hP f=>?_,λh' tk p=>?_⟩
 ·have c:(bs.map Value.bool)[i]?=some v:=by simpa using hP
  rw[yg]at c;cases e:bs[i]? with
  | none=>rw[e]at c;cases c
  | some b=>
   dsimp only at f;rw[e]at c f;cases c;exact wpAny_truthy_bool f
 ·have e:((List.range (bs.map Value.bool).toArray.size).all λi=>(bs[i]?).getD true)=bs.all id:=by
   rw[yp,ye];exact LSm.range_all bs
  rw[e];have g:Inv X pins σ H { s with heap:=h',toks:=tk }:=I.kept λb o z=>p b o (λt=>by rw[ym.mp t]at z;exact yW _ (Heap.lt_size z)) (Heap.get?_push_of_some _ z);exact⟨.bl _,H,g,rfl,q⟩
def zn9(n:X.calm=true):CallR X (.builtin "any") (zmO X.K):=by
 intro pins s σ H xs us Q I r h;obtain⟨a,bs,rfl,m,q⟩:=h;obtain⟨u,rfl,j⟩:=vals1 r;cases j;obtain⟨its,k,pl,hl,d⟩:=I.walk m;have l:=zg4 k;subst l;refine call_any_walk (wpAny_pyIter_list pl ?_);refine⟨s.heap.objs.size,[s.heap.objs.size,a],[s.heap.objs.size],(bs.map Value.bool).toArray.size,_,_,λi=>(bs[i]?).getD false,rfl,Walks.list (A:=X.A.in1) (I.ok.hd n) _ a (yw d) (bs.map Value.bool).toArray,
  ⟨⟨_,Heap.get?_push_size _ rfl,rfl,rfl⟩,pl.push _⟩,λi v s' w x hP f=>?_,λh' tk p=>?_⟩
 ·have c:(bs.map Value.bool)[i]?=some v:=by simpa using hP
  rw[yg]at c;cases e:bs[i]? with
  | none=>rw[e]at c;cases c
  | some b=>
   dsimp only at f;rw[e]at c f;cases c;exact wpAny_truthy_bool f
 ·have e:((List.range (bs.map Value.bool).toArray.size).any λi=>(bs[i]?).getD false)=bs.any id:=by
   rw[yp,ye];exact LSm.range_any bs
  rw[e];have g:Inv X pins σ H { s with heap:=h',toks:=tk }:=I.kept λb o z=>p b o (λt=>by rw[ym.mp t]at z;exact yW _ (Heap.lt_size z)) (Heap.get?_push_of_some _ z);exact⟨.bl _,H,g,rfl,q⟩
end
def zt4{bs:List Bool}(h:H a=some (.lst (bs.map V.bl)))(q:Q (.bl (bs.all id)) H):zka K [.ref a] H Q:=⟨a,bs,rfl,.of h,q⟩
def zts{bs:List Bool}(h:H a=some (.lst (bs.map V.bl)))(q:Q (.bl (bs.any id)) H):zmO K [.ref a] H Q:=⟨a,bs,rfl,.of h,q⟩
open PySem PySem.W PySem.Spec PySem.Calls PyProof.Rows
section
variable {prog:Program}{w:World}{A:Around}{E:Value->Shared->Prop}{s:Shared}{l I S:Addr}{kid:String}{vs:List Value}{kw:List (Str × Value)}{R:Result->Shared->Prop}{Q:Value->Shared->Prop}
noncomputable def zeJ (I S:Addr) (a h:Heap):Prop:=∀b o,b≠I->b≠S->a.get? b=some o->h.get? b=some o
def zsy(kf:Nat->Int)(hh:A.handled=none)(hl:s.heap.IsList l vs.toArray)(Q:l≠I)(C:S≠I)(a1:l≠S)
  (turn:∀(i:Nat) (v:Value),vs[i]?=some v->∀(h:Heap) (tk:Nat),zeJ I S s.heap h ->
   wpAny (model prog w) A.in1 (call (.builtin kid) [v]) (λx V=>∃d t,x=.int (kf i) t/\V={ s with heap:=h,toks:=d }) (λ_ _=>False) { s with heap:=h,toks:=tk })
  (hR:∀i v h' d,vs[i]?=some v->(∀j,j<vs.length->kf i<=kf j/\(j<i->kf i<kf j))->zeJ I S s.heap h'->R (.ok (.ret v)) { s with heap:=h',toks:=d }) :
  ∀(r j i:Nat) (h:Heap) (tk:Nat) (E:Value) (tb:Tok) (c:Nat),vs.length-(j+1)=r->j+1<=vs.length->zeJ I S s.heap h ->
   h.get? S=some (seqObj "list" #[E,.int (kf i) tb] c)->h.IsListIter I l (j+1)->vs[i]?=some E->i<=j->(∀f,f<=j->kf i<=kf f/\(f<i->kf i<kf f)) ->
   codeAny (model prog w) A (.builtin "min.loop" ⟨[.ref I,.builtin kid,.ref S],kw⟩) R { s with heap:=h,toks:=tk }:=by
 have m:(toString "min" ++ toString ".loop" : String) = "min.loop" := by decide
 have W:=Walks.list (prog:=prog) (w:=w) (A:=A.in1) hh I l Q vs.toArray;have F:vs.toArray.size=vs.length:=yp ..;have J:∀h,zeJ I S s.heap h->h.IsList l vs.toArray:=λh k=>by
  obtain⟨o,e,r⟩:=hl;exact⟨o,k l o Q a1 e,r⟩
 intro r
 induction r with
 | zero=>
  intro j i h tk E tb c hr hj K T q z Y a;have a0:j+1=vs.length:=by lia
  refine codeAny_builtin yaG ?_;rw[Around.under_plainId yT _];show wpAny _ A.in1 (seqItems? (.ref S) >>= _) _ _ _;refine wpAny_bind (wpAny_seqItems T rfl ?_);show wpAny _ A.in1 (tryCatch (pyNext (.ref I)) _ >>= _) _ _ _;refine wpAny_bind (wpAny_tryCatch (W.done _ _ _ ⟨by rw[F,<- a0];exact q,J h K⟩ λh' d g=>?_));have Z:=g S _ (by simpa using C) T;have X:=Heap.SameBut.update h' S (Obj.mapSeq λ_=>(#[]:Array Value));show wpAny _ A.in1 (updateSeq S (λ_=>#[]) >>= _) _ _ _;refine wpAny_bind ?_;refine wpAny_updateSeq Z rfl (wpAny_bind (wpAny_letGo (wpAny_pure ?_)));exact hR i E _ _ z (λf N=>a f ⋯) λb o y u e=>(X.2 b u).trans (g b o (by simpa using y) (K b o y u e))
 | succ r ih=>
  intro j i h tk E tb c hr hj K T q z Y a;have D:j+1<vs.length:=by lia
  refine codeAny_builtin yaG ?_;rw[Around.under_plainId yT _];show wpAny _ A.in1 (seqItems? (.ref S) >>= _) _ _ _;refine wpAny_bind (wpAny_seqItems T rfl ?_);show wpAny _ A.in1 (tryCatch (pyNext (.ref I)) _ >>= _) _ _ _;refine wpAny_bind (wpAny_tryCatch (W.item (j+1) _ _ _ (by rw[F];exact D) ⟨q,J h K⟩ λv h' d hP H g=>?_));have hv:vs[j+1]?=some v:=by simpa using hP
  obtain⟨O,p,M,U⟩:=id H.1;have K1:zeJ I S s.heap h':=λb o y u e=>g b o (by simpa using y) (K b o y u e);have B:=g S _ (by simpa using C) T;show wpAny _ A.in1 (tryCatch (holding [v] (call (.builtin kid) [v])) _ >>= _) _ _ _;refine wpAny_bind (wpAny_tryCatch (wpAny_holding (wpAny_mono (turn (j+1) v hv h' d K1) (λx V he=>?_) λ_ _ hF=>hF.elim)));obtain⟨a5,n,rfl,rfl⟩:=he;have G:h'.IsListIter I l (j+1+1):=⟨O,p,M,U⟩
  show wpAny _ A.in1 (tryCatch (holding [v,.int (kf (j+1)) n] (richCompare .Lt (.int (kf (j+1)) n) (.int (kf i) tb) >>= _)) _ >>= _) _ _ _;refine wpAny_bind (wpAny_tryCatch (wpAny_holding (wpAny_bind (CmpOf.ints_lt (prog:=prog) (w:=w) (A:=A.in1) (P:=λi v=>∃t,v=.int (kf i) t) kf (λi v h=>h) (j+1) i _ _ _ _ _ ⟨n,rfl⟩ ⟨tb,rfl⟩ ?_))));refine wpAny_bind (wpAny_holding (wpAny_truthy_bool ?_));refine wpAny_bind (wpAny_letGo (wpAny_pure ?_));by_cases L:kf (j+1)<kf i
  ·have X:=Heap.SameBut.update h' S (Obj.mapSeq λ_=>#[v,.int (kf (j+1)) n]);obtain⟨c2,a2⟩:∃c2,(h'.update S (Obj.mapSeq λ_=>#[v,.int (kf (j+1)) n])).get? S=some (seqObj "list" #[v,.int (kf (j+1)) n] c2):=⟨_,get?_update_seq B λ_=>#[v,.int (kf (j+1)) n]⟩
   simp only[L,decide_true,if_true];refine wpAny_bind ?_;refine wpAny_updateSeq B rfl (wpAny_bind (wpAny_letGo ?_));rw[m];refine wpAny_pure ⟨plainId_quiet yT _,ih (j+1) (j+1) _ _ v n c2 ⋯ D (λb o y u e=>(X.2 b u).trans (K1 b o y u e)) a2 ⟨O,(X.2 I C.symm).trans p,M,U⟩ hv (yc _) λf N=>?_⟩;by_cases e:f=j+1
   ·subst e;exact⟨⋯,λ_=>by lia⟩
   ·have a3:=a f ⋯;have a4:=a3.1;exact⟨⋯,λ_=>by lia⟩
  ·simp only[L,decide_false,ybk,if_false];refine wpAny_bind (wpAny_letGo ?_);rw[m];refine wpAny_pure ⟨plainId_quiet yT _,ih (j+1) i _ _ E tb c ⋯ D K1 B G z ⋯ λf N=>?_⟩;by_cases e:f=j+1
   ·subst e;exact⟨⋯,λ_=>by lia⟩
   ·exact a f ⋯
def zlQ(a v d:Value):argsOk "min" ⟨[a],[(Str.ofString "key",v),(Str.ofString "default",d)]⟩:=by unfold argsOk;kernel_rfl
def zsJ(kf:Nat->Int){d:Value}(X:A.handled=none)(hl:s.heap.IsList l vs.toArray)
  (turn:∀(i:Nat) (v:Value),vs[i]?=some v->∀(h:Heap) (tk:Nat),(∀b o,s.heap.get? b=some o->h.get? b=some o) ->
   wpAny (model prog w) A.in1 (call (.builtin kid) [v]) (λx G=>∃a t,x=.int (kf i) t/\G={ s with heap:=h,toks:=a }) (λ_ _=>False) { s with heap:=h,toks:=tk })
  (hQ:∀i v h' a,vs[i]?=some v->(∀j,j<vs.length->kf i<=kf j/\(j<i->kf i<kf j))->(∀b o,s.heap.get? b=some o->h'.get? b=some o)->Q v { s with heap:=h',toks:=a })
  (hD:vs=[]->∀h' a,(∀b o,s.heap.get? b=some o->h'.get? b=some o)->Q d { s with heap:=h',toks:=a }) :
  wpAny (model prog w) A (call (.builtin "min") [.ref l] [(Str.ofString "key",.builtin kid),(Str.ofString "default",d)]) Q E s:=by
 have f:(toString "min" ++ toString ".loop" : String) = "min.loop" := by decide
 obtain⟨ol,J,_⟩:=id hl;have p:l<s.heap.objs.size:=Heap.lt_size J;refine kmb_tree PySem.F.kind_min PySem.F.plain_min PySem.F.entry_min (zlQ _ _ _) ?_;show wpAny _ A.in1 (Builtin.Builtins.bindParams "min" ["key", "default"] 0 ⟨[],[(Str.ofString "key",.builtin kid),(Str.ofString "default",d)]⟩ >>= _) _ _ s;refine wpAny_bind (wpAny_of_eq (show Builtin.Builtins.bindParams "min" ["key", "default"] 0 ⟨[],[(Str.ofString "key",.builtin kid),(Str.ofString "default",d)]⟩=pure [some (.builtin kid),some d]from rfl) ?_);refine wpAny_bind (wpAny_pure ?_);refine wpAny_bind (wpAny_pyIter_list hl ?_);refine wpAny_bind (wpAny_newList ?_ (yM _));rw[f];have N:"0b".objs.size=s.heap.objs.size+1:=size_push' ..;have q:l≠s.heap.objs.size:=yw p;have n:"0b".objs.size≠s.heap.objs.size:=by rw[N];exact ybT (yay _)
 have L:l≠"0b".objs.size:=by rw[N];exact yw (ybq p)
 refine wpAny_pure ⟨plainId_quiet yT _,?_⟩;have Y:("0b".push (seqObj "list" #[] 0)).get? s.heap.objs.size=some { cls:=.type "list_iterator",data:=.fields #[.ref l,.int 0 0] }:=
  Heap.get?_push_of_some _ (Heap.get?_push_size _ rfl)
 have V:("0b".push (seqObj "list" #[] 0)).get? "0b".objs.size=some (seqObj "list" #[] 0):=Heap.get?_push_size _ rfl;have R:∀b o,s.heap.get? b=some o->("0b".push (seqObj "list" #[] 0)).get? b=some o:=λb o e=>Heap.get?_push_of_some _ (Heap.get?_push_of_some _ e);have y:("0b".push (seqObj "list" #[] 0)).IsList l vs.toArray:=by
  obtain⟨o,e,r⟩:=hl;exact⟨o,R l o e,r⟩
 have c:∀b o,s.heap.get? b=some o->b≠s.heap.objs.size/\b≠"0b".objs.size:=λb o e=>by
  have h1:=Heap.lt_size e;exact⟨yw h1,by rw[N];exact yw (ybq h1)⟩
 have W:=Walks.list (prog:=prog) (w:=w) (A:=A.in1) X s.heap.objs.size l q vs.toArray;have I:vs.toArray.size=vs.length:=yp ..;generalize hSa:"0b".objs.size=Sa at *
 generalize hH2:"0b".push (seqObj "list" #[] 0)=H2 at *
 refine codeAny_builtin yaG ?_;rw[Around.under_plainId yT _];show wpAny _ A.in1 (seqItems? (.ref Sa) >>= _) _ _ _;refine wpAny_bind (wpAny_seqItems V rfl ?_);show wpAny _ A.in1 (tryCatch (pyNext (.ref s.heap.objs.size)) _ >>= _) _ _ _;by_cases C:vs=[]
 ·subst C;refine wpAny_bind (wpAny_tryCatch (W.done _ _ _ ⟨⟨_,Y,rfl,rfl⟩,y⟩ λh' a g=>?_));refine wpAny_bind (wpAny_rule (wpAny_pure ?_));exact hD rfl h' a λb o e=>g b o (by simpa using(c b o e).1) (R b o e)
 have k:0<vs.length:=ya0.mpr C;refine wpAny_bind (wpAny_tryCatch (W.item 0 _ _ _ (by rw[I];exact k) ⟨⟨_,Y,rfl,rfl⟩,y⟩ λv h' a hP B g=>?_));have U:vs[0]?=some v:=by simpa using hP
 obtain⟨H,z,T,P⟩:=id B.1;have Z:∀b o,s.heap.get? b=some o->h'.get? b=some o:=λb o e=>g b o (by simpa using(c b o e).1) (R b o e);have u:=g Sa _ (by simpa using n) V;show wpAny _ A.in1 (tryCatch (holding [v] (call (.builtin kid) [v])) _ >>= _) _ _ _;refine wpAny_bind (wpAny_tryCatch (wpAny_holding (wpAny_mono (turn 0 v U h' a Z) (λx G he=>?_) λ_ _ hF=>hF.elim)));obtain⟨a1,m,rfl,rfl⟩:=he;have s1:=Heap.SameBut.update h' Sa (Obj.mapSeq λ_=>#[v,.int (kf 0) m]);obtain⟨S,M⟩:∃S,(h'.update Sa (Obj.mapSeq λ_=>#[v,.int (kf 0) m])).get? Sa=some (seqObj "list" #[v,.int (kf 0) m] S):=⟨_,get?_update_seq u λ_=>#[v,.int (kf 0) m]⟩
 show wpAny _ A.in1 (updateSeq Sa (λ_=>#[v,.int (kf 0) m]) >>= _) _ _ _;refine wpAny_bind ?_;refine wpAny_updateSeq u rfl ?_;rw[f];have K2:zeJ s.heap.objs.size Sa s.heap (h'.update Sa (Obj.mapSeq λ_=>#[v,.int (kf 0) m])):=λb o n1 n2 e=>(s1.2 b n2).trans (Z b o e);refine wpAny_pure ⟨plainId_quiet yT _,zsy (s:=s) kf X hl q n L (λi v hi h tk K=>turn i v hi h tk λb o e=>K b o (c b o e).1 (c b o e).2 e) (λi v O D hi hb K=>hQ i v O D hi hb λb o e=>K b o (c b o e).1 (c b o e).2 e) _ 0 0 _ _ v m S rfl k K2 M ⟨H,(s1.2 _ n.symm).trans z,T,P⟩ U (yc _) λj' a0=>?_⟩;have e:j'=0:=by lia
 subst e;exact⟨⋯,λh=>absurd h (yW _)⟩
end
open PySem PySem.Spec PyProof.Rows
section
variable {K:Fg}{σ:St}{H:Hp}{Q:VK}{D:Ends}{a C dx:Addr}{fs:List (Str × V)}{f m:Str}
end
noncomputable def zt5 (C:Addr) (m:Str) (sp:Sp) (t:TA) (σ:St) (Q:VK) (Eh:Addr->Hp->Prop) (x:V) (H:Hp):Prop:=∃a dx fs,x=.ref a/\H a=some (.ins C dx fs)/\fs.lookup m=none/\t σ H λvs H2=>sp (x :: vs) H2 Q λcls _ b=>∃C',cls=.ref C'/\Eh C' b
abbrev zvH(C:Addr)(m:Str)(sp:Sp)(ta:TE)(t:TA):TEr:=λσ H Q Eh=>ta σ H (zt5 C m sp t σ Q Eh)
def zul{lo:Option Int}(h:H a=some (.tup xs))(c:¬(HT.sIx xs.length 0 lo=0/\HT.sIx xs.length xs.length hi=xs.length))(q:∀p H',H p=none->Same H H'->H' p=some (.tup (zbS xs lo hi))->Q (.ref p) H'):zqY K (.ref a) lo hi H Q:=
 ⟨a,xs,rfl,.of h,c,λp b=>q p _ b (Same.new b _) zaa⟩
def ztH(h:H a=some (.tup xs))(h':H b=some (.tup ys))(d:xs≠[])(f:ys≠[])(e:xs.length+ys.length<=100000)(q:∀p H',H p=none->Same H H'->H' p=some (.tup (xs++ys))->Q (.ref p) H'):zia K (.ref a) (.ref b) H Q:=
 .inr (.inr ⟨a,b,xs,ys,rfl,rfl,.of h,.of h',d,zct e,λz=>absurd z f,λ_ p c=>q p _ c (Same.new c _) zaa⟩)
open PySem PySem.W PySem.Spec PySem.Calls PyProof.Rows
noncomputable def zmK (K:Fg) (Q:VK) (vs:List V) (H1:Hp):Prop:=∃(a:Addr) (ls:List Addr) (n:Nat->Nat),vs=[.ref a]/\SqL K H1 a (ls.map V.ref)/\(∀i b,ls[i]?=some b->∃xs,H1 b=some (.lst xs)/\xs.length=n i/\n i<=16000) /\
 ∀p H2,H1 p=none->Same H1 H2->H2 p=some (.lst [])->(ls=[]->Q (.ref p) H2)/\∀i b,ls[i]?=some b->(∀j,j<ls.length->n i<=n j/\(j<i->n i<n j))->Q (.ref b) H2
noncomputable def zmn (K:Fg) (ta:TA):TE:=λσ H Q=>ta σ H (zmK K Q)
def zoo{p pos kp Y dp N:Pos}{e:Expr}{ta:TA}(hc:X.calm=true)(hg:Gl X "min")(hm:X.mg "min" = none)(hv:bootBuiltins "min" = some (.builtin "min"))(D:Gl X "len")(O:X.mg "len" = none)(G:bootBuiltins "len" = some (.builtin "len"))(ha:PA X [e] ta)
  (he:autoParam (backTo pos (starEach [e] X.env)=(false,eval e X.env) :: backTo pos (starEach [] X.env)) Internal.aut2._auto_1)
  (hplain:autoParam ((backTo pos (starEach [e] X.env)).any (·.1)=false) Internal.aut2._auto_1):PE X (.Call (.Name "min" p) [e] [⟨some "key",.Name "len" Y,kp⟩,⟨some "default",Expr.List [] dp,N⟩] pos) (zmn X.K ta):=by
 intro pins s σ H Q I h;refine wpAny_Call_Name_kw (zck I hg hm hv ?_ "0a" "0a");refine PyProof.Rows.callWith_kw ?_ he hplain;refine thn (ha pos pins s σ H _ I h) λus T M=>?_;obtain⟨vs,H1,U,rv,a,ls,n,rfl,hq,Z,kk⟩:=M;obtain⟨u1,rfl,r1⟩:=vals1 rv;cases r1;show wpAny "0g" X.A (evalAll ((do let v <- eval (.Name "len" Y) X.env;standAt pos;pure v) :: (backToKw pos (keywordEach [⟨some "default",Expr.List [] dp,N⟩] X.env)).map (·.2))) _ _ T;refine wpAny_evalAll_cons (wpAny_bind (zck U D O G (wpAny_bind (wpAny_standAt (wpAny_pure ?_))) "0a" "0a"));refine thn (zl6 (t:=ziq) (nm:=some "default") (kpos:=N) (zam (zh (X:=X))) zpD pos pins T σ H1 (λws H2=>∃p,ws=[.ref p]/\H1 p=none/\Same H1 H2/\H2 p=some (.lst [])) U ?_) λa1 y M=>?_
 ·exact⟨yM _,λp x=>⟨p,rfl,x,Same.new x _,zaa⟩⟩
 obtain⟨ws,H2,m,P,p2,rfl,fp,C,x⟩:=M;obtain⟨u2,rfl,r3⟩:=vals1 P;cases r3;show wpAny "0g" X.A (call (.builtin "min") [.ref a] [(Str.ofString "key",.builtin "len"),(Str.ofString "default",.ref p2)]) (EP X pins σ Q) X.xe y;obtain⟨its,B,pl,F,a3⟩:=m.walk (hq.keep C);have f:its.length=ls.length:=by rw[F,ye]
 have get:∀{i:Nat} {v:Value},its[i]?=some v->∃b,ls[i]?=some b/\v=.ref b:=λ{i v} hi=>by
  have a2:=(yj.mp hi).1;obtain⟨b,d⟩:=zw (show i<ls.length by lia);obtain⟨u,S,ru⟩:=B.get (show(ls.map V.ref)[i]?=some (.ref b) by rw[yg,d];rfl);rw[hi]at S;cases S;exact⟨b,d,ru⟩
 obtain⟨kd,kl⟩:=kk p2 H2 fp C x;refine zsJ (kf:=λi=>(n i:Int)) (m.ok.hd hc) pl (λi v hi h tk K=>?_) (λi v h' c hi d K=>?_) λg h' c K=>?_
 ·obtain⟨b,d,rfl⟩:=get hi;obtain⟨xs,hx,a0,R⟩:=Z i b d;obtain⟨l,rb,pb,a4,_⟩:=m.walk (SqL.of (C.at hx));have L:h.IsList b l.toArray:=by
   obtain⟨o,q,r⟩:=pb;exact⟨o,K b o q,r⟩
  refine PySem.W.kun_lenL (s:={ y with heap:=h,toks:=tk }) L (k:=(n i:Int)) (by rw[yp];lia) ⋯ ⟨_,_,rfl,rfl⟩
 ·obtain⟨b,E,rfl⟩:=get hi;have J:Inv X pins σ H2 { y with heap:=h',toks:=c }:=m.kept λb o z=>K b o z;refine⟨.ref b,H2,J,rfl,kl i b E λj hj=>?_⟩;have h3:=d j ⋯;exact⟨⋯,λz=>by have:=h3.2 z;lia⟩
 ·have J:Inv X pins σ H2 { y with heap:=h',toks:=c }:=m.kept λb o z=>K b o z;exact⟨.ref p2,H2,J,rfl,kd (by
   have:ls.length=0:=by rw[<- f,g];rfl
   exact yah this)⟩
open PySem PySem.Spec PyProof.Rows
noncomputable def bfl (m w y:Int) (d:Addr):List (Str × V):=zlE "deals" (.ref d) (zlE "day" (.int y) (zlE "wares" (.int w) (zlE "many" (.int m) [])))
section
variable {m w y:Int}{d:Addr}
end
structure T7 where
 p:Int
 q:Int
 w:Int
 u:Int
 a:Int
 y:Int
 r:Int
noncomputable def zve (t:T7):List V:=[.int t.p,.int t.q,.int t.w,.int t.u,.int t.a,.int t.y,.int t.r]
noncomputable def zuS (x:T7 × Str):List V:=zve x.1++[.str x.2]
structure TermOk(m w y:Int)(t:T7):Prop where
 p0:0<=t.p
 p1:t.p<m
 q0:0<=t.q
 q1:t.q<m
 pq:t.p≠t.q
 w0:0<=t.w
 w1:t.w<w
 u0:1<=t.u
 u1:t.u<=1000000
 a0:1<=t.a
 a1:t.a<=1000000000
 y0:0<=t.y
 y1:t.y<=1000000
 r0:0<=t.r
 r1:t.r<=2
 yd:y<=t.y
structure Bk(C:Addr)(H:Hp)(b d:Addr)(m w y:Int)(ts:List (T7 × Str)):Prop where
 ob:∃dx,H b=some (.ins C dx (bfl m w y d))
 ds:∃xs,H d=some (.lst xs)/\IsTs zuS H xs ts
section
variable {C:Addr}{H H':Hp}{b d:Addr}{m w y:Int}{ts:List (T7 × Str)}
end
noncomputable def stand (t:T7):T7 × Str:=(t,("standing" : Str))
abbrev TAr:=St->Hp->(List V->Hp->Prop)->(Addr->Hp->Prop)->Prop
section
variable {X:Cx}{pos:Pos}
abbrev zvE(te:TEr):TAr:=λσ H Q Eh=>te σ H (λy H2=>Q [y] H2) Eh
abbrev zvD(tc:TE)(t:TAr):TAr:=λσ H Q Eh=>tc σ H λx H1=>t σ H1 (λxs H2=>Q (x :: xs) H2) Eh
abbrev zvI(t:TAr):TEr:=λσ H Q Eh=>t σ H (λxs H1=>zf3 Q xs H1) Eh
abbrev zvJ(i:Nat)(te:TEr):TTr:=λD Eh σ H=>te σ H (λy H2=>D.nx (σ.set i (some y)) H2) λC H2=>Eh C σ H2
end
section
variable {σ:St}{H:Hp}{D:Ends}{Eh:Addr->Hp->Prop}{Eg:Addr->St->Hp->Prop}
end
def zmS{x:Int}(h:Dt.Bd ((2 ^ z:Nat):Rat) ((x:Int):Rat)):sz x<=z+1:=by
 have h1:((x:Int):Rat)<=(((2 ^ z:Nat):Int):Rat):=h.2;have h2:-((((2 ^ z:Nat):Int):Rat))<=((x:Int):Rat):=h.1;rw[<- yaQ]at h2;have a:x<=((2 ^ z:Nat):Int):=by exact_mod_cast h1
 have b:-((2 ^ z:Nat):Int)<=x:=by exact_mod_cast h2
 refine zaJ ?_;rw[ybx]
 have:0<2 ^ z:=ybh z
 lia
def znm{x:Int}(h:sz x<=z):Dt.Bd ((2 ^ z:Nat):Rat) ((x:Int):Rat):=by
 have h1:=sz_le.mp h;have a1:((x:Int):Rat)<=(((2 ^ z:Nat):Int):Rat):=by
  have:x<=((2 ^ z:Nat):Int):=by lia
  exact_mod_cast this
 have a2:-((((2 ^ z:Nat):Int):Rat))<=((x:Int):Rat):=by
  rw[<- yaQ]
  have:-((2 ^ z:Nat):Int)<=x:=by lia
  exact_mod_cast this
 exact⟨a2,a1⟩
def zqy{c b:Int}(j:0<c)(g:0<b):0<c/My.gc c b*b/\c∣c/My.gc c b*b/\b∣c/My.gc c b*b/\c/My.gc c b*b<=c*b:=by
 have f:0<My.gc c b:=My.gc_pos_right ⋯;obtain⟨u,d⟩:=My.gc_dvd_left c b;obtain⟨v,i⟩:=My.gc_dvd_right c b;have e:c/My.gc c b=u:=by
  have:c/My.gc c b=(My.gc c b*u)/My.gc c b:=by rw[<- d]
  rw[this];exact yae _ ⋯
 have a:0<u:=by
  rcases ybm 0 u with h | h
  ·exact h
  ·have:=yaq (yaN f) h;lia
 rw[e];refine⟨yaW a g,⟨v,?_⟩,⟨u,yaO _ _⟩,?_⟩
 ·calc u*b=u*(My.gc c b*v):=by rw[<- i]
   _=(My.gc c b*u)*v:=by rw[yaO (My.gc c b) u,ybe]
   _=c*v:=by rw[<- d]
 ·have:u<=c:=by
   have h1:1*u<=My.gc c b*u:=yav ⋯ ⋯;lia
  exact yav this ⋯
noncomputable def zhN (K:Fg) (c b:Nat):Sp:=λvs H Q _=>∃(a:Addr) (ws:List V) (qs:List Rat),vs=[.ref a]/\H a=some (.lst ws)/\IsQs H ws qs/\qs.length<=20/\(∀q∈qs,SzQ q c b)/\20*b<=8000/\c<=100000/\1<=b /\
 ∀p H' (F:Nat->Int) (L:Int),H p=none->Same H H'->0<L->(∀j q,qs[j]?=some q->((F j:Int):Rat)=((L:Int):Rat)*q/\sz (F j)<=c+qs.length*b)->H' p=some (.lst ((vec qs.length F).map V.int))->Q (.ref p) H'
def zkw:=λ{K:Fg} {z1 zb:Nat} {a:Addr} {ws:List V} {qs:List Rat} {H:Hp} {Q:VK} {E:XK} h hq hl hz h1 h2 h3 k=>@id (zhN K z1 zb [.ref a] H Q E) ⟨a,ws,qs,rfl,h,hq,hl,hz,h1,h2,h3,k⟩
def zkC(h:∀i j,i<j->j<as.length->as[i]?≠as[j]?):as.Nodup:=by
 rw[List.Nodup,List.pairwise_iff_getElem];intro i j hi b a e;exact h i j a b (by rw[yl hi,yl b,e])
noncomputable def zeS (as:List Addr) (p q:Nat) (a b:Addr):List Addr:=(as.set p b).set q a
def zok{p q:Nat}{F:Nat->Nat->Int}(h:Rows H as k F)(ha:as[p]?=some a)(m:as[q]?=some b):Rows H (zeS as p q a b) k (Dt.swp F p q):=by
 have o:p<as.length:=(yj.mp ha).1;have r:q<as.length:=(yj.mp m).1;have get:∀i,(zeS as p q a b)[i]?=if i=q then some a else if i=p then some b else as[i]?:=λi=>by
  unfold zeS;rw[yau];by_cases e:q=i
  ·rw[if_pos e,if_pos e.symm,if_pos (by rw[yar];exact r)]
  ·rw[if_neg e,if_neg (λz=>e z.symm),yau];by_cases d:p=i
   ·rw[if_pos d,if_pos d.symm,if_pos o]
   ·rw[if_neg d,if_neg (λz=>d z.symm)]
 refine⟨?_,λi c f=>?_⟩
 ·refine zkC ?_;intro i j u s;have n:(zeS as p q a b).length=as.length:=by unfold zeS;rw[yar,yar]
  rw[n]at s;rw[get,get];have ne:∀x y,x≠y->x<as.length->y<as.length->as[x]?≠as[y]?:=λx y t B A w=>by
   obtain⟨c,f⟩:∃c,as[x]?=some c:=⟨_,yl B⟩
   exact t (zbq h.1 f (w▸f))
  have nd:∀x y,x<y->y<as.length->as[x]?≠as[y]?:=λx y h A=>ne x y ⋯ ⋯ A;by_cases g:i=q
  ·rw[if_pos g,if_neg ⋯];by_cases d:j=p
   ·rw[if_pos d,<- ha,<- m];by_cases l:p=q
    ·lia
    ·exact ne p q l o r
   ·rw[if_neg d,<- ha];exact ne p j (λz=>d z.symm) o s
  ·rw[if_neg g];by_cases d:i=p
   ·rw[if_pos d];by_cases l:j=q
    ·rw[if_pos l,<- ha,<- m];exact ne q p ⋯ r o
    ·rw[if_neg l,if_neg ⋯,<- m];exact ne q j (λz=>l z.symm) r s
   ·rw[if_neg d];by_cases l:j=q
    ·rw[if_pos l,<- ha];exact ne i p d ⋯ o
    ·rw[if_neg l];by_cases v:j=p
     ·rw[if_pos v,<- m];exact ne i q g ⋯ r
     ·rw[if_neg v];exact nd i j u s
 ·rw[get]at f;unfold Dt.swp;by_cases g:i=q
  ·rw[if_pos g]at f;cases f;by_cases d:i=p
   ·rw[if_pos d]
    have:p=q:=by lia
    subst this;exact h.2 _ _ ha
   ·rw[if_neg d,if_pos g];exact h.2 _ _ ha
  ·rw[if_neg g]at f;by_cases d:i=p
   ·rw[if_pos d]at f ⊢;cases f;exact h.2 _ _ m
   ·rw[if_neg d]at f ⊢;rw[if_neg g];exact h.2 _ _ f
noncomputable def zeM (K:Fg):Sp:=λvs H Q _=>∃(a b:Addr) (w:Nat) (f g:Nat->Int) (k d:Int),vs=[.ref a,.ref b,.int k,.int d]/\H a=some (.lst ((vec w f).map V.int))/\H b=some (.lst ((vec w g).map V.int))/\0<=k/\k<w/\w<=20/\d≠0/\sz d<=9000/\(∀j,j<w->sz (f j)<=9000/\sz (g j)<=9000) /\
 ∀p H',H p=none->Same H H'->H' p=some (.lst ((vec w λj=>(g k.toNat*f j-f k.toNat*g j).fdiv d).map V.int))->Q (.ref p) H'
def zk0:=λ{K:Fg} {a b:Addr} {w:Nat} {f g:Nat->Int} {k d:Int} {H:Hp} {Q:VK} {E:XK} h1 h2 k0 k1 hw d0 hd hz q=>@id (zeM K [.ref a,.ref b,.int k,.int d] H Q E) ⟨a,b,w,f,g,k,d,rfl,h1,h2,k0,k1,hw,d0,hd,hz,q⟩
noncomputable def zmm (K:Fg):Sp:=λvs H Q _=>∃(a:Addr) (as:List Addr) (w:Nat) (T:Nat->Nat->Int) (k d:Int),vs=[.ref a,.int k,.int d]/\H a=some (.lst (as.map V.ref))/\Rows H as w T/\0<=k/\k<as.length/\k<w/\w<=20/\as.length<=20/\d≠0/\sz d<=9000/\(∀i j,i<as.length->j<w->sz (T i j)<=9000) /\
 ∀p H' as',H p=none->Same H H'->H' p=some (.lst (as'.map V.ref))->as'.length=as.length->Rows H' as' w (Dt.nxtI T k.toNat d)->Q (.ref p) H'
def zop:=λ{K:Fg} {a:Addr} {as:List Addr} {w:Nat} {T:Nat->Nat->Int} {k d:Int} {H:Hp} {Q:VK} {E:XK} h1 h2 k0 k1 k2 hw hl d0 hd hz q=>@id (zmm K [.ref a,.int k,.int d] H Q E) ⟨a,as,w,T,k,d,rfl,h1,h2,k0,k1,k2,hw,hl,d0,hd,hz,q⟩
structure Sys(H:Hp)(a b:Addr)(n:Nat)(R:Nat->Nat->Rat):Prop where
 rows:∃as:List Addr,H a=some (.lst (as.map V.ref))/\as.length=n/\∀(l:Nat) (c:Addr),as[l]?=some c->∃ws,H c=some (.lst ws)/\IsQs H ws ("0e".map (R l))
 side:∃ws,H b=some (.lst ws)/\IsQs H ws ("0e".map λl=>R l n)
section
variable {X:Cx}{pins:List (Addr × Obj)}{s s':Shared}{σ:St}{H H':Hp}{pos:Pos}
end
def ziz(q:Rat):((q.num:Int):Rat)=q*(((q.den:Nat):Int):Rat):=by
 have c:((q.num:Int):Rat)/(((q.den:Nat):Int):Rat)=q:=by rw[<- yaR];exact ybl q
 have b:(((q.den:Nat):Int):Rat)≠0:=λz=>by
  have h1:((q.den:Nat):Int)=0:=by exact_mod_cast z
  have:=zap q
  lia
 have:=ybL (a:=((q.num:Int):Rat)) b
 rw[c]at this;exact this.symm
def PRows.put{F:Nat->List Rat}{G:List Rat}(h:PRows H as F)(n:p∉as)(r:H p=some (.lst vs))(q:IsQs H vs G):PRows H (as.set j p) (λm=>if m=j then G else F m):=by
 refine⟨zkC λx y o k=>?_,λm a b=>?_⟩
 ·rw[yar]at k;have g:∀z,z<as.length->(as.set j p)[z]?=if j=z then some p else as[z]?:=λz s=>by
   rw[yau];split
   ·rename_i e;rw[if_pos ⋯]
   ·rfl
  rw[g x ⋯,g y k];have d:x<as.length:=by lia
  by_cases i:j=x
  ·rw[if_pos i,if_neg ⋯];intro z;exact n (ya z.symm)
  ·rw[if_neg i];by_cases l:j=y
   ·rw[if_pos l];intro z;exact n (ya z)
   ·rw[if_neg l];intro z;obtain⟨c,f⟩:∃c,as[x]?=some c:=⟨_,yl d⟩
    have:=zbq h.1 f (z▸f)
    lia
 ·rw[yau]at b;by_cases e:j=m
  ·rw[if_pos e]at b;split at b
   ·cases b;exact⟨vs,r,by dsimp only;rw[if_pos e.symm];exact q⟩
   ·cases b
  ·rw[if_neg e]at b;dsimp only;rw[if_neg (λz=>e z.symm)];exact h.2 m a b
theorem IsQs.setQ{H:Hp}{p:Addr}{q:Rat}(a:IsQ H p q):∀{vs:List V} {qs:List Rat} (j:Nat),IsQs H vs qs->IsQs H (vs.set j (.ref p)) (qs.set j q)
 | [],[],j,h=>by cases j<;>exact h
 | _ :: _,[],_,h=>by simp[IsQs]at h
 | [],_ :: _,_,h=>by simp[IsQs]at h
 | v :: vs,r :: rs,0,h=>⟨⟨p,rfl,a⟩,h.2⟩
 | v :: vs,r :: rs,j+1,h=>⟨h.1,IsQs.setQ a (vs:=vs) (qs:=rs) j h.2⟩
def ziU{g:Nat->Rat}:("0e".map g).set j q="0e".map λm=>if m=j then q else g m:=by
 apply yag;intro i;rw[yau,yg,yg,ye,yB];by_cases h:i<n
 ·rw[yQ h];by_cases e:j=i
  ·subst e;rw[if_pos rfl,if_pos h];show _=some (if j=j then q else g j);rw[if_pos rfl]
  ·rw[if_neg e];show some (g i)=some (if i=j then q else g i);rw[if_neg (λz=>e z.symm)]
 ·rw[yG (by rw[yB];lia)];by_cases e:j=i
  ·rw[if_pos e,if_neg ⋯];rfl
  ·rw[if_neg e];rfl
def zsH{r:Int}{o:Option Nat}(h:0<=r)(q:Q (.bl (decide (o=some r.toNat))) H):zem K (.int r) (zcj o) H Q:=by
 cases o with
 | none=>
  refine .inr ⟨rfl,?_⟩;have e:decide ((none:Option Nat)=some r.toNat)=false:=by simp
  rw[e]at q;have a:decide (V.int r=zcj none)=false:=by simp[zcj]
  rw[a];exact q
 | some m=>
  refine zro ?_;have e:decide (r=((m:Nat):Int))=decide (some m=some r.toNat):=by
   rw[decide_eq_decide];constructor
   ·intro h;congr 1;lia
   ·intro h;have:=yt h;lia
  rw[e];exact q
noncomputable def ziF (K:Fg):Sp:=λvs H Q _=>∃(a b:Addr) (ds:List Due) (n:Nat) (ρ:Nat->Option Nat),vs=[.ref a,.ref b]/\IsSh K H a ds/\H b=some (.lst (zaj n ρ))/\n<=9/\(∀d∈ds,zm n d) /\
 ∀l H' as,H l=none->Same H H'->H' l=some (.lst (List.map V.ref as))->as.length=n->Rows H' as n (zat ρ ds)->(∀b∈as,H b=none)->Q (.ref l) H'
def zpF:=λ{K:Fg} {a b:Addr} {ds:List Due} {n:Nat} {ρ:Nat->Option Nat} {H:Hp} {Q:VK} {E:XK} h hb n1 hd q=>@id (ziF K [.ref a,.ref b] H Q E) ⟨a,b,ds,n,ρ,rfl,h,hb,n1,hd,q⟩
abbrev znu(l:List Nat):List Int:=l.map fun(x:Nat)=>(x:Int)
abbrev zaD(l:List Nat):List V:=(znu l).map V.int
def intsN_mem{l:List Nat}{x:Nat}:((x:Int)∈znu l)↔x∈l:=by
 rw[yX];constructor
 ·rintro⟨y,h,e⟩;rw[<- Int.ofNat.inj e];exact h
 ·exact λh=>⟨x,h,rfl⟩
def zai{l:List Nat}:(zaD l).length=l.length:=by simp
def zfU{l l':List Nat}:zaD (l++l')=zaD l++zaD l':=by simp
def zbZ{l:List Nat}(h:k<l.length):(zaD l)[k]?=some (.int ((l.getD k 0:Nat):Int)):=by
 rw[yg,yg,yl h,yf,yl h];rfl
def zdJ{P:Nat->Bool}:(List.range (j+1)).filter P=(List.range j).filter P++if P j=true then[j] else[]:=by
 rw[yy,yaP];by_cases h:P j=true
 ·rw[if_pos h,yaA h];rfl
 ·rw[if_neg h,yaB h];rfl
def zso{α:Type}{P:α->Bool}{x:α}:[x].filter P=if P x=true then[x] else[]:=by
 by_cases h:P x=true
 ·rw[if_pos h,yaA h];rfl
 ·rw[if_neg h,yaB h];rfl
theorem zf9:∀(ls:List (List Nat)) (l0 l:List Nat) (i:Nat),(l0 :: ls)[i]?=some l->(∀(j:Nat) (m:List Nat),(l0 :: ls)[j]?=some m->l.length<=m.length/\(j<i->l.length<m.length))->ls.foldl (λb c=>if c.length<b.length then c else b) l0=l
 | [],l0,l,0,h,_=>yt h
 | [],l0,l,i+1,h,_=>by cases h
 | d :: ls,l0,l,0,h,c=>by
  have e:l0=l:=yt h;subst e;have h1:=(c 1 d rfl).1;show ls.foldl _ (if d.length<l0.length then d else l0)=l0;rw[if_neg ⋯];refine zf9 ls l0 l0 0 rfl λj m a=>?_;cases j with
  | zero=>cases a;exact⟨yc _,λz=>absurd z (yW _)⟩
  | succ j=>exact⟨(c (j+2) m a).1,λz=>absurd z (yan _)⟩
 | d :: ls,l0,l,1,h,c=>by
  have e:d=l:=yt h;subst e;have h1:=(c 0 l0 rfl).2 ⋯;show ls.foldl _ (if d.length<l0.length then d else l0)=d;rw[if_pos h1];refine zf9 ls d d 0 rfl λj m a=>?_;cases j with
  | zero=>cases a;exact⟨yc _,λz=>absurd z (yW _)⟩
  | succ j=>exact⟨(c (j+2) m a).1,λz=>absurd z (yan _)⟩
 | d :: ls,l0,l,i+2,h,c=>by
  have f:=(c 0 l0 rfl).2 ⋯;have h1:=(c 1 d rfl).2 ⋯;show ls.foldl _ (if d.length<l0.length then d else l0)=l;refine zf9 ls _ l (i+1) h λj m a=>?_;cases j with
  | zero=>
   have e:=yt a;have h2:l.length<m.length:=by
    rw[<- e];by_cases z:d.length<l0.length
    ·rw[if_pos z];exact h1
    ·rw[if_neg z];exact f
   exact⟨yaw h2,λ_=>h2⟩
  | succ j=>exact⟨(c (j+2) m a).1,λz=>(c (j+2) m a).2 ⋯⟩
def zrZ{l:List Nat}(h:ls[i]?=some l)(c:∀(j:Nat) (m:List Nat),ls[j]?=some m->l.length<=m.length/\(j<i->l.length<m.length)):Rc.minL ls=l:=by
 cases ls with
 | nil=>cases h
 | cons l0 ls=>exact zf9 ls l0 l i h c
def zbC{l:List Nat}(h:k<l.length)(hl:∀x∈l,x<n):l.getD k 0<n:=by
 rw[yf,yl h];exact hl _ (ybW h)
noncomputable def LsOf (H:Hp) (as:List Addr) (ls:List (List Nat)):Prop:=as.length=ls.length/\∀(i:Nat) (a:Addr),as[i]?=some a->∃l,ls[i]?=some l/\H a=some (.lst (zaD l))
def LsOf.nil:LsOf H [] []:=⟨rfl,λ_ _ h=>nomatch h⟩
def LsOf.same(h:LsOf H as ls)(e:Same H H'):LsOf H' as ls:=⟨h.1,λi a q=>by obtain⟨l,h1,h2⟩:=h.2 i a q;exact⟨l,h1,e.at h2⟩⟩
def LsOf.but{D:Addr}(h:LsOf H as ls)(e:LBut D H H')(n:D∉as):LsOf H' as ls:=
 ⟨h.1,λi a q=>by obtain⟨l,h1,h2⟩:=h.2 i a q;exact⟨l,h1,e.lst h2 λz=>n (z▸ya q)⟩⟩
def LsOf.snoc{l:List Nat}(h:LsOf H as ls)(ha:H a=some (.lst (zaD l))):LsOf H (as++[a]) (ls++[l]):=
 ⟨by rw[yb,yb,h.1];rfl,λi b q=>by
  rcases Nat.lt_trichotomy i as.length with hi | hi | hi
  ·rw[yO hi]at q;rw[yO (by rw[<- h.1];exact hi)];exact h.2 i b q
  ·rw[hi,ybM]at q;cases q;exact⟨l,by rw[hi,h.1,ybM],ha⟩
  ·rw[yG (by rw[yb];simp only[y8];lia)]at q;cases q⟩
noncomputable def zif (K:Fg):Sp:=λvs H Q _=>∃(a:Addr) (i n:Nat) (as:List Addr) (F:Nat->Nat->Int),vs=[.ref a,.int i]/\H a=some (.lst (as.map V.ref))/\as.length=n/\Rows H as n F/\n<=9/\i<n /\
 ∀p H',H p=none->Same H H'->H' p=some (.lst (zaD (Rc.reach n (λi j=>decide (0<F i j)) i)))->Q (.ref p) H'
def zow:=λ{K:Fg} {a:Addr} {i n:Nat} {as:List Addr} {F:Nat->Nat->Int} {H:Hp} {Q:VK} {E:XK} h hl hR h9 hi q=>@id (zif K [.ref a,.int i] H Q E) ⟨a,i,n,as,F,rfl,h,hl,hR,h9,hi,q⟩
noncomputable def zgZ (K:Fg):Sp:=λvs H Q _=>∃(a b:Addr) (n:Nat) (as:List Addr) (F:Nat->Nat->Int) (ρ:Nat->Option Nat),vs=[.ref a,.ref b]/\H a=some (.lst (as.map V.ref))/\as.length=n/\Rows H as n F/\H b=some (.lst (zaj n ρ))/\n<=9 /\
 ∀p H',H p=none->Same H H'->H' p=some (.lst (zaD (Rc.circle n (λi j=>decide (0<F i j)) λi=>(ρ i).isSome)))->Q (.ref p) H'
def znl:=λ{K:Fg} {a b:Addr} {n:Nat} {as:List Addr} {F:Nat->Nat->Int} {ρ:Nat->Option Nat} {H:Hp} {Q:VK} {E:XK} h hl hR hb h9 q=>@id (zgZ K [.ref a,.ref b] H Q E) ⟨a,b,n,as,F,ρ,rfl,h,hl,hR,hb,h9,q⟩
def PRows.upd{F:Nat->List Rat}{G:List Rat}(h:PRows H as F)(g:LBut a H H')(ha:as[j]?=some a)(h':H' a=some (.lst vs))(f:IsQs H' vs G):PRows H' as (λm=>if m=j then G else F m):=by
 refine⟨h.1,λm b c=>?_⟩;by_cases e:m=j
 ·subst e;rw[ha]at c;cases c;show ∃vs,H' a=some (.lst vs)/\IsQs H' vs (if m=m then G else F m);rw[if_pos rfl];exact⟨_,h',f⟩
 ·obtain⟨us,d,i⟩:=h.2 m b c;show ∃vs,H' b=some (.lst vs)/\IsQs H' vs (if m=j then G else F m);rw[if_neg e];exact⟨us,g.lst d λz=>e (zbq h.1 c (z▸ha)),LBut.isQs g i⟩
noncomputable def zbT (n:Nat) (F:Nat->Nat->Int) (c:List Nat) (a b:Nat):Int:=if a=b then zak (vec n (F (c.getD a 0)))else -F (c.getD b 0) (c.getD a 0)
noncomputable def zm8 (K:Fg):Sp:=λvs H Q _=>∃(a b:Addr) (n:Nat) (as:List Addr) (F:Nat->Nat->Int) (c:List Nat),vs=[.ref a,.ref b]/\H a=some (.lst (as.map V.ref))/\as.length=n/\Rows H as n F/\H b=some (.lst (zaD c))/\(∀x∈c,x<n)/\c.length<=9/\n<=9 /\
 ∀p H' bs,H p=none->Same H H'->H' p=some (.lst (List.map V.ref bs))->bs.length=c.length->PRows H' bs (λa=>(List.range c.length).map λb=>((zbT n F c a b:Int):Rat))->(∀b∈bs,H b=none)->Q (.ref p) H'
def zrM:=λ{K:Fg} {a b:Addr} {n:Nat} {as:List Addr} {F:Nat->Nat->Int} {c:List Nat} {H:Hp} {Q:VK} {E:XK} h hl hR hb hc c9 h9 q=>@id (zm8 K [.ref a,.ref b] H Q E) ⟨a,b,n,as,F,c,rfl,h,hl,hR,hb,hc,c9,h9,q⟩
noncomputable def zf0 (K:Fg):Sp:=λvs H Q _=>∃(a:Addr) (as:List Addr) (w:Nat) (T:Nat->Nat->Int) (k:Int),vs=[.ref a,.int k]/\H a=some (.lst (as.map V.ref))/\Rows H as w T/\0<=k/\k<as.length/\k<w/\as.length<=20/\(∃i,k.toNat<=i/\i<as.length/\T i k.toNat≠0) /\
 (∀p H' as' i,k.toNat<=i->i<as.length->T i k.toNat≠0->H p=none->Same H H'->H' p=some (.lst (as'.map V.ref))->as'.length=as.length->(∀b∈as',b∈as)->Rows H' as' w (Dt.swp T k.toNat i)->Q (.ref p) H')
def ziu:=λ{K:Fg} {a:Addr} {as:List Addr} {w:Nat} {T:Nat->Nat->Int} {k:Int} {H:Hp} {Q:VK} {E:XK} h1 h2 k0 k1 k2 hl q0 q1=>@id (zf0 K [.ref a,.int k] H Q E) ⟨a,as,w,T,k,rfl,h1,h2,k0,k1,k2,hl,q0,q1⟩
noncomputable def zjs (K:Fg) (d c:Nat):Sp:=λvs H Q _=>∃(a b:Addr) (n:Nat) (R:Nat->Nat->Rat),vs=[.ref a,.ref b]/\Sys H a b n R/\n<=9/\(∀l j,l<n->j<=n->SzQ (R l j) d c)/\1<=c/\20*c<=8000/\d<=100000/\n*(d+(n+1)*c+4)<=8990/\Dt.det n (Dt.cl R)≠0 /\
 (∀p H' vs (x:Nat->Rat),H p=none->Same H H'->H' p=some (.lst vs)->IsQs H' vs ("0e".map x)->(∀l,l<n->Dt.sm n (λm=>R l m*x m)=R l n)->(∀m,m<n->SzQ (x m) (n*(d+(n+1)*c+4)+1) (n*(d+(n+1)*c+4)+1))->Q (.ref p) H')
def zgx:=λ{K:Fg} {z1 zb:Nat} {a b:Addr} {n:Nat} {R:Nat->Nat->Rat} {H:Hp} {Q:VK} {E:XK} h n1 hz h1 h2 h3 h4 q0 q1=>@id (zjs K z1 zb [.ref a,.ref b] H Q E) ⟨a,b,n,R,rfl,h,n1,hz,h1,h2,h3,h4,q0,q1⟩
noncomputable def zeh (n:Nat) (F:Nat->Nat->Int) (c:List Nat) (x:Nat->Rat) (i:Nat):Rat:=sF c.length (λa=>c.getD a 0) x i*((zak (vec n (F i)):Int):Rat)
noncomputable def zms (K:Fg):Sp:=λvs H Q _=>∃(a b d:Addr) (n:Nat) (as:List Addr) (F:Nat->Nat->Int) (c:List Nat) (ws:List V) (x:Nat->Rat),vs=[.ref a,.ref b,.ref d]/\H a=some (.lst (as.map V.ref))/\as.length=n/\Rows H as n F/\H b=some (.lst (zaD c))/\(∀x∈c,x<n)/\c.Nodup/\c.length<=9/\n<=9/\H d=some (.lst ws)/\IsQs H ws ((List.range c.length).map x)/\(∀m,m<c.length->OkQ (x m))/\(∀i,i<n->OkQ ((zak (vec n (F i)):Int):Rat)) /\
 ∀p H' vs,H p=none->Same H H'->H' p=some (.lst vs)->IsQs H' vs ("0e".map (zeh n F c x))->Q (.ref p) H'
def zjB:=λ{K:Fg} {a b d:Addr} {n:Nat} {as:List Addr} {F:Nat->Nat->Int} {c:List Nat} {ws:List V} {x:Nat->Rat} {H:Hp} {Q:VK} {E:XK} h hl hR hb hc nd c9 h9 hd hx z1 z2 q=>@id (zms K [.ref a,.ref b,.ref d] H Q E) ⟨a,b,d,n,as,F,c,ws,x,rfl,h,hl,hR,hb,hc,nd,c9,h9,hd,hx,z1,z2,q⟩
noncomputable def zcW (n:Nat) (F:Nat->Nat->Int) (c:List Nat) (a b:Nat):Rat:=if a=0 then(if b=0 then 1 else 0) else((zbT n F c a b:Int):Rat)
noncomputable def FlOk (n:Nat) (F:Nat->Nat->Int):Prop:=(∀i j,i<n->j<n->sz (F i j)<=59)/\∀i,i<n->sz (zak (vec n (F i)))<=59
def FlOk.bal{F:Nat->Nat->Int}{c:List Nat}(h:FlOk n F)(d:∀x∈c,x<n){a b:Nat}(ha:a<c.length)(e:b<c.length):sz (zbT n F c a b)<=60:=by
 unfold zbT;split
 ·exact yi (h.2 _ (zbC ha d)) "0a"
 ·exact yi (zfG _) (yi (h.1 _ _ (zbC e d) (zbC ha d)) "0a")
def zfO:sz (1:Int)<=1:=zaJ "0a"
def FlOk.sum{F:Nat->Nat->Int}(h:FlOk n F)(hi:i<n):OkQ ((zak (vec n (F i)):Int):Rat):=by
 have:=h.2 i hi
 exact⟨yi (show sz (((zak (vec n (F i)):Int):Rat).num)<=59 from this) "0a",yi zfO "0a"⟩
def zdv{x:Int}(h:sz x<=z):SzQ ((x:Int):Rat) z 1:=⟨h,zfO⟩
def zeH(h:n<=9):n*(60+(n+1)*1+4)+1<=667:=by
 have:=ybb h (show 60+(n+1)*1+4<=74 by lia)
 lia
noncomputable def zoK (K:Fg):Sp:=λvs H Q _=>∃(a b:Addr) (n:Nat) (as:List Addr) (F:Nat->Nat->Int) (c:List Nat),vs=[.ref a,.ref b]/\H a=some (.lst (as.map V.ref))/\as.length=n/\Rows H as n F/\H b=some (.lst (zaD c))/\(∀x∈c,x<n)/\c.Nodup/\1<=c.length/\c.length<=9/\n<=9/\FlOk n F/\Dt.det c.length (Dt.cl (zcW n F c))≠0 /\
 ∀p H' vs (x:Nat->Rat),H p=none->Same H H'->H' p=some (.lst vs)->IsQs H' vs ("0e".map (zeh n F c x))->(∀l,l<c.length->Dt.sm c.length (λm=>zcW n F c l m*x m)=if l=0 then 1 else 0)->(∀m,m<c.length->SzQ (x m) 667 667)->Q (.ref p) H'
def zqr:=λ{K:Fg} {a b:Addr} {n:Nat} {as:List Addr} {F:Nat->Nat->Int} {c:List Nat} {H:Hp} {Q:VK} {E:XK} h hl hR hb hc nd c1 c9 h9 z q0 q=>@id (zoK K [.ref a,.ref b] H Q E) ⟨a,b,n,as,F,c,rfl,h,hl,hR,hb,hc,nd,c1,c9,h9,z,q0,q⟩
noncomputable def shorts (n:Nat) (ρ:Nat->Option Nat):List Nat:="0e".filter λi=>(ρ i).isSome
def zpC{ρ:Nat->Option Nat}:∀x∈shorts n ρ,x<n:=λx h=>yF.mp (yaC.mp h).1
def zoz{ρ:Nat->Option Nat}:(shorts n ρ).Nodup:=ybV.filter _
def znj{ρ:Nat->Option Nat}:(shorts n ρ).length<=n:=by
 have:=yba (λi=>(ρ i).isSome) "0e"
 rw[yB]at this;exact this
noncomputable def zoe (K:Fg):Sp:=λvs H Q _=>∃(a b d:Addr) (n:Nat) (as:List Addr) (F:Nat->Nat->Int) (ρ:Nat->Option Nat) (ps:List Int),vs=[.ref a,.ref b,.ref d]/\H a=some (.lst (as.map V.ref))/\as.length=n/\Rows H as n F/\H b=some (.lst (zaj n ρ))/\H d=some (.lst (ps.map V.int))/\ps.length=n/\(∀p∈ps,sz p<=59)/\n<=9/\FlOk n F/\Dt.det (shorts n ρ).length (Dt.cl (λa b=>((zbT n F (shorts n ρ) a b:Int):Rat)))≠0 /\
 ∀p H' vs (x:Nat->Rat),H p=none->Same H H'->H' p=some (.lst vs)->IsQs H' vs ("0e".map (zeh n F (shorts n ρ) x))->(∀l,l<(shorts n ρ).length->Dt.sm (shorts n ρ).length (λm=>((zbT n F (shorts n ρ) l m:Int):Rat)*x m)=((ps.getD ((shorts n ρ).getD l 0) 0:Int):Rat))->(∀m,m<(shorts n ρ).length->SzQ (x m) 667 667)->Q (.ref p) H'
def zq8:=λ{K:Fg} {a b d:Addr} {n:Nat} {as:List Addr} {F:Nat->Nat->Int} {ρ:Nat->Option Nat} {ps:List Int} {H:Hp} {Q:VK} {E:XK} h hl hR hb hd pl pz h9 z q0 q=>@id (zoe K [.ref a,.ref b,.ref d] H Q E) ⟨a,b,d,n,as,F,ρ,ps,rfl,h,hl,hR,hb,hd,pl,pz,h9,z,q0,q⟩
noncomputable def zoI (K:Fg):Sp:=λvs H Q _=>∃(a b d e:Addr) (n:Nat) (as:List Addr) (ds:List Due) (l r:Nat->Rat) (us ws:List V),vs=[.ref a,.ref b,.ref d,.ref e]/\H a=some (.lst (as.map V.ref))/\as.length=n/\Rows H as 3 (zA ds)/\H b=some (.lst (zaj n (stp ds l)))/\H d=some (.lst us)/\IsQs H us ("0e".map l)/\H e=some (.lst ws)/\IsQs H ws ("0e".map r)/\n<=9/\(∀i,i<n->0<r i->stp ds l i≠none/\OkQ (l i)/\OkQ (zbx ds l i)/\OkQ (zbx ds l i-l i)/\SzQ (r i) 8999 8999/\SzQ (zar ds l r i) 60000 60000) /\
 (zao ds l r n=none->∀H',Same H H'->Q .non H')/\(∀x,zao ds l r n=some x->∀p H',Same H H'->IsQ H' p x->Q (.ref p) H')
def zlp:=λ{K:Fg} {a b d e:Addr} {n:Nat} {as:List Addr} {ds:List Due} {l r:Nat->Rat} {us ws:List V} {H:Hp} {Q:VK} {E:XK} h hl hR hb hd hu he hw h9 z q1 q2=>@id (zoI K [.ref a,.ref b,.ref d,.ref e] H Q E) ⟨a,b,d,e,n,as,ds,l,r,us,ws,rfl,h,hl,hR,hb,hd,hu,he,hw,h9,z,q1,q2⟩
noncomputable def zmL (K:Fg):Sp:=λvs H Q _=>∃(d e s:Addr) (n:Nat) (l r:Nat->Rat) (t:Rat) (us ws:List V),vs=[.ref d,.ref e,.ref s]/\H d=some (.lst us)/\IsQs H us ("0e".map l)/\H e=some (.lst ws)/\IsQs H ws ("0e".map r)/\IsQ H s t/\n<=9/\OkQ t/\(∀i,i<n->OkQ (l i)/\OkQ (r i)/\OkQ (r i*t)) /\
 ∀p H' vs,H p=none->Same H H'->H' p=some (.lst vs)->IsQs H' vs ("0e".map λi=>l i+r i*t)->Q (.ref p) H'
def zeg:=λ{K:Fg} {d e s:Addr} {n:Nat} {l r:Nat->Rat} {t:Rat} {us ws:List V} {H:Hp} {Q:VK} {E:XK} hd hu he hw hs h9 z0 z q=>@id (zmL K [.ref d,.ref e,.ref s] H Q E) ⟨d,e,s,n,l,r,t,us,ws,rfl,hd,hu,he,hw,hs,h9,z0,z,q⟩
open PySem PySem.Spec PyProof.Rows Dt
def zfZ{i j:Int}(h:((i:Int):Rat)<=((j:Int):Rat)):i<=j:=by exact_mod_cast h
theorem zlz(f:Nat->Int):∀n:Nat,((zak (vec n f):Int):Rat)=sm n (λj=>((f j:Int):Rat))
 | 0=>rfl
 | n+1=>by
  have a:=zlz f n;rw[zdB]at a ⊢
  show((zbn f n+f n:Int):Rat)=sm n (λj=>((f j:Int):Rat))+((f n:Int):Rat)
  rw[yV,a]
section
variable {n:Nat}{ds:List Due}{l p:Nat->Rat}{c:List Nat}{x:Nat->Rat}{t:Rat}
abbrev flI(ds:List Due)(l:Nat->Rat):Nat->Nat->Int:=zat (stp ds l) ds
def zh3(i:Nat):((zak (vec n (flI ds l i)):Int):Rat)=zaf n ds l i:=zlz _ n
def zlB(a b:Nat):((zbT n (flI ds l) c a b:Int):Rat)=bal (cF ds l c) (cR n ds l c) a b:=by
 unfold zbT bal;by_cases e:a=b
 ·rw[if_pos e,if_pos e];exact zh3 _
 ·rw[if_neg e,if_neg e,yaQ];rfl
def zo2(a b:Nat):zcW n (flI ds l) c a b=zcu (cF ds l c) (cR n ds l c) a b:=by
 unfold zcW zcu;by_cases e:a=0
 ·rw[if_pos e,if_pos e]
 ·rw[if_neg e,if_neg e];exact zlB a b
def zoF(i:Nat):zeh n (flI ds l) c x i=sF c.length (λa=>c.getD a 0) x i*zaf n ds l i:=by
 unfold zeh;rw[zh3]
def zrs{s:Nat->Nat}{x y:Nat->Rat}(h:∀a,a<m->x a=y a)(i:Nat):sF m s x i=sF m s y i:=sm_congr λa ha=>by rw[h a ha]
def zkk(hd:∀d∈ds,zm n d)(a:crL n ds l≠[])(b:zcG n ds l (crL n ds l) x)(i:Nat):zeh n (flI ds l) (crL n ds l) x i=rtF n ds p l i:=by
 rw[zoF];unfold rtF shF;rw[if_neg a];have c:zcG n ds l (crL n ds l) (zkm n ds l (crL n ds l)):=yaF ⟨x,b⟩;show _*_=_*_;rw[zrs (zqC hd (Rc.circle_ok a) b c)]
def zjx(hd:∀d∈ds,zm n d)(a:crL n ds l=[])(b:zdc n ds p l (slL n ds l) x)(i:Nat):zeh n (flI ds l) (slL n ds l) x i=rtF n ds p l i:=by
 rw[zoF];unfold rtF shF;rw[if_pos a];have c:zdc n ds p l (slL n ds l) (zih n ds p l (slL n ds l)):=yaF ⟨x,b⟩;show _*_=_*_;rw[zrs (zqK hd a b c)]
def zqt(hd:∀d∈ds,zm n d)(b:crL n ds l≠[]):det (crL n ds l).length (cl (zcW n (flI ds l) (crL n ds l)))≠0:=by
 obtain⟨m,a⟩:∃m,(crL n ds l).length=m+1:=⟨(crL n ds l).length-1,by
  have:(crL n ds l).length≠0:=λz=>b (yah z)
  lia⟩
 intro z;refine zmB hd (Rc.circle_ok b) a ?_;rw[a]at z;rw[<- z];exact det_congr λj r _ _=>(zo2 r j).symm
def zo5(hd:∀d∈ds,zm n d)(c:crL n ds l=[]):det (slL n ds l).length (cl (λa b=>((zbT n (flI ds l) (slL n ds l) a b:Int):Rat)))≠0:=by
 have L:=zd6 hd c (m:=(slL n ds l).length) (s:=λa=>(slL n ds l).getD a 0) (λa ha=>sl_mem.mp (zaM ha)) (za9 zdG);intro z;refine L.det ?_;rw[<- z];exact det_congr λj r _ _=>(zlB r j).symm
def zqs(h:∀a,a<c.length->sm c.length (λb=>zcW n (flI ds l) c a b*x b)=if a=0 then 1 else 0):zcG n ds l c x:=λa ha=>by
 rw[<- h a ha];exact sm_congr λb _=>by rw[zo2]
def zpV(h:∀a,a<c.length->sm c.length (λb=>((zbT n (flI ds l) c a b:Int):Rat)*x b)=p (c.getD a 0)):zdc n ds p l c x:=λa ha=>by
 rw[<- h a ha];exact sm_congr λb _=>by rw[zlB]
def zsP{ρ:Nat->Option Nat}{A:Int}(f:0<=A)(ds:List Due):(∀d∈ds,d.a<=A)->zat ρ ds i j<=A*(ds.length:Int):=
 zaH (P:=λds=>(∀d∈ds,d.a<=A)->zat ρ ds i j<=A*(ds.length:Int)) (λ_=>by show(0:Int)<=A*((0:Nat):Int);lia) (λes d c h=>by
  have h1:=c λe b=>h e (yv _ b);have h2:=h d (yq _ (.head _));rw[zbe,yb,y8];have e:A*((es.length+1:Nat):Int)=A*(es.length:Int)+A:=by rw[yb3,yb7];lia
  rw[e];split<;>lia) ds
def zom{A:Int}(hd:∀d∈ds,zm n d)(g:∀d∈ds,d.a<=A)(f:0<=A)(i:Nat):0<=zak (vec n (flI ds l i))/\zak (vec n (flI ds l i))<=A*(ds.length:Int):=by
 have e:=zh3 (n:=n) (ds:=ds) (l:=l) i;cases hs:stp ds l i with
 | none=>
  have:zaf n ds l i=0:=sm_zero λj _=>by unfold flR;rw[zjy hs];rfl
  rw[this]at e;have c:zak (vec n (flI ds l i))=0:=by exact_mod_cast e
  rw[c];exact⟨yC _,Int.mul_nonneg f ⋯⟩
 | some r=>
  have h1:zaf n ds l i=((zA ds i r:Int):Rat):=zki hs ds λd b=>by
   have:=hd d b
   exact⟨this.2.2.1,this.2.2.2.1,this.2.2.2.2.2.1⟩
  rw[h1]at e;have c:zak (vec n (flI ds l i))=zA ds i r:=by exact_mod_cast e
  rw[c];exact zjz ds (λd b=>⟨(hd d b).2.2.2.2.2.2.2.1,g d b⟩) f
def zvh(hd:∀d∈ds,zm n d)(b:∀d∈ds,d.a<=10000000000000)(hl:ds.length<=10):FlOk n (flI ds l):=by
 have z:∀v:Int,0<=v->v<=10000000000000*(ds.length:Int)->sz v<=59:=λv e h1=>zaJ (by
  have:v.natAbs<=100000000000000:=by lia
  exact yad this "0a")
 exact⟨λi j _ _=>z _ (zgi ds λd c=>(hd d c).2.2.2.2.2.2.2.1) (zsP "0a" ds b),λi _=>by
  have:=zom (l:=l) hd b "0a" i
  exact z _ this.1 this.2⟩
def zoL(d:FlOk n (flI ds l))(nd:c.Nodup)(b:∀a,a<c.length->SzQ (x a) 667 667)(hi:i<n):SzQ (zeh n (flI ds l) c x i) 726 668:=by
 have h1:SzQ (sF c.length (λa=>c.getD a 0) x i) 667 667:=by
  rcases yat (∃a,a<c.length/\c.getD a 0=i) with⟨a,ha,e⟩ | w
  ·rw[<- e,zf5 (s:=λa=>c.getD a 0) (za9 nd) ha];exact b a ha
  ·rw[zhX λa ha e=>w ⟨a,ha,e⟩];exact zpW "0a"
 exact SzQ.mul h1 (zdv (d.2 i hi)) "0a" "0a"
def zpm{D:Nat}(d:0<D)(h:Dv D q)(b:D<=2 ^ 7000)(j:0<=q)(g:q<=((1000000000000000:Int):Rat)):SzQ q 7051 7001:=by
 have a:q.den<=2 ^ 7000:=yi (Nat.le_of_dvd d (Dv.den d h)) b;refine⟨zaJ ?_,zaJ ?_⟩
 ·have k:0<=q.num:=Rat.num_nonneg.mpr j;have e:=ziz q;have c:(0:Rat)<=(((q.den:Nat):Int):Rat):=zaq ⋯;have h1:((q.num:Int):Rat)<=((1000000000000000:Int):Rat)*(((q.den:Nat):Int):Rat):=by
   rw[e];exact y4 g c
  rw[<- yK]at h1;have h2:q.num<=1000000000000000*((q.den:Nat):Int):=zfZ h1;have i:q.num.natAbs<=1000000000000000*q.den:=by clear a b;lia
  have f:1000000000000000*q.den<=2 ^ 50*2 ^ 7000:=ybb "0a" a;rw[<- ya5]at f;exact yad (yi i f) (yaU "0a" "0a")
 ·rw[yab];exact yad a (yaU "0a" "0a")
end
abbrev pQ(ps:List Int)(i:Nat):Rat:=((ps.getD i 0:Int):Rat)
structure Clr(n:Nat)(ds:List Due)(ps:List Int)(W P:Rat):Prop where
 n9:n<=9
 hd:∀d∈ds,zm n d
 ha:∀d∈ds,d.a<=10000000000000
 hl:ds.length<=10
 pl:ps.length=n
 pz:∀p∈ps,0<=p/\p<=100000000000000
 hW:∀l i,i<n->2*zaf n ds l i<=W
 W1:1<=W
 hP:sm n (pQ ps)<=P
 P1:1<=P
 big:prodN (λ_=>prodN (λ_=>W) n*P*W) (zcg n ds+1)<=(((2 ^ 7000:Nat):Int):Rat)
section
variable {n:Nat}{ds:List Due}{ps:List Int}{W P:Rat}{l:Nat->Rat}{t:Rat}{k:Nat}
def Clr.p0(C:Clr n ds ps W P):∀i,i<n->0<=pQ ps i:=λi hi=>by
 obtain⟨p,a⟩:=zw (show i<ps.length by rw[C.pl];exact hi);unfold pQ;rw[yf,a];exact zaq (C.pz p (ya a)).1
def Clr.pz'(C:Clr n ds ps W P):∀p∈ps,sz p<=59:=λp a=>zaJ (by
 have:=C.pz p a
 exact yad (show p.natAbs<=100000000000000 by lia) "0a")
def Clr.B1(C:Clr n ds ps W P):1<=prodN (λ_=>W) n*P*W:=by
 have h1:(1:Rat)<=prodN (λ_=>W) n:=zd0 (k:=0) C.W1 (yM _);have h2:=C.P1;have a:=C.W1;have b:(1:Rat)*1<=prodN (λ_=>W) n*P:=by
  refine yL (y4 h1 "0a") (yS h2 (by grind))
 have c:(1:Rat)*1<=prodN (λ_=>W) n*P*W:=by
  refine yL (y4 (show(1:Rat)<=prodN (λ_=>W) n*P by grind) "0a") (yS a (by grind))
 grind
theorem Clr.dv(C:Clr n ds ps W P)(h:COk n ds (pQ ps) (prodN (λ_=>W) n*P*W) k l t):∃D:Nat,0<D/\D<=2 ^ 7000/\(∀i,i<n->Dv D (l i))/\Dv D t:=by
 obtain⟨D,b,c,hl,a⟩:=h.dv;refine⟨D,b,?_,hl,a⟩;have h1:=yL (yL c (zd0 C.B1 h.le)) C.big;exact Int.ofNat_le.mp (zfZ h1)
def Clr.cum(C:Clr n ds ps W P)(i:Nat)(a:r<=3):0<=zbn (zA ds i) r/\zbn (zA ds i) r<=300000000000000:=by
 have b:∀j,j<3->0<=zA ds i j/\zA ds i j<=100000000000000:=λj _=>by
  have:=zdE (m:=i) (r:=j) ds λd h=>⟨(C.hd d h).2.2.2.2.2.2.2.1,C.ha d h⟩
  have:=C.hl
  lia
 have:=zin b r a
 lia
def Clr.lay(C:Clr n ds ps W P)(h:COk n ds (pQ ps) (prodN (λ_=>W) n*P*W) k l t)(hi:i<n):SzQ (l i) 7051 7001:=by
 obtain⟨D,a,b,hl,_⟩:=C.dv h;refine zpm a (hl i hi) b (h.inv.lo i hi) (yL (h.inv.hi i hi) (zax ?_))
 have:=(C.cum i (yc 3)).2
 lia
def Clr.top(C:Clr n ds ps W P)(h:COk n ds (pQ ps) (prodN (λ_=>W) n*P*W) k l t):SzQ t 7051 7001:=by
 obtain⟨D,b,c,_,a⟩:=C.dv h;exact zpm b a c h.t0 (yL h.t1 (show((1:Int):Rat)<=_ from zax "0a"))
def Clr.shut(C:Clr n ds ps W P)(h:COk n ds (pQ ps) (prodN (λ_=>W) n*P*W) k l t):SzQ (1-t) 7053 7002:=by
 rw[ybN];exact SzQ.add (zdv (x:=1) zfO) (C.top h).neg (k:=7052) "0a" "0a" "0a"
def Clr.endz(C:Clr n ds ps W P)(c:stp ds l i≠none):SzQ (zbx ds l i) 50 1:=by
 obtain⟨ρ,a⟩:∃ρ,stp ds l i=some ρ:=by
  cases h:stp ds l i with
  | none=>exact absurd h c
  | some ρ=>exact⟨ρ,rfl⟩
 have b:ρ < 3:=(zbp a).1;rw[zf1 a]
 have:=C.cum i (show ρ+1<=3 by lia)
 exact zdv (zaJ (yad (show(zbn (zA ds i) (ρ+1)).natAbs<=300000000000000 by lia) "0a"))
def Clr.gap(C:Clr n ds ps W P)(h:COk n ds (pQ ps) (prodN (λ_=>W) n*P*W) k l t)(hi:i<n)(a:stp ds l i≠none):SzQ (zbx ds l i-l i) 7053 7002:=by
 rw[ybN];exact SzQ.add (C.endz a) (C.lay h hi).neg (k:=7052) "0a" "0a" "0a"
def Clr.room(C:Clr n ds ps W P)(h:COk n ds (pQ ps) (prodN (λ_=>W) n*P*W) k l t){r:Nat->Rat}(hi:i<n)(d:stp ds l i≠none)(c:SzQ (r i) 726 668)(a:0<r i):SzQ (zar ds l r i) 7721 7728:=by
 unfold zar;rw[ybf];have b:(r i).num≠0:=λz=>by
  have:r i=0:=Rat.num_eq_zero.mp z
  rw[this]at a;exact absurd a "0a"
 exact SzQ.mul (C.gap h hi d) (c.inv b) "0a" "0a"
end
section
variable {n:Nat}{ds:List Due}{ps:List Int}{W P:Rat}{l:Nat->Rat}{t:Rat}{k:Nat}
def Clr.rooms(C:Clr n ds ps W P)(h:COk n ds (pQ ps) (prodN (λ_=>W) n*P*W) k l t)(c:∀i,i<n->SzQ (rtF n ds (pQ ps) l i) 726 668):∀i,i<n->0<rtF n ds (pQ ps) l i->stp ds l i≠none/\OkQ (l i)/\OkQ (zbx ds l i)/\OkQ (zbx ds l i-l i)/\SzQ (rtF n ds (pQ ps) l i) 8999 8999/\SzQ (zar ds l (rtF n ds (pQ ps) l) i) 60000 60000:=λi hi b=>by
 obtain⟨ρ,d⟩:=zeZ C.hd b;have a:stp ds l i≠none:=by rw[d];exact nofun
 exact⟨a,(C.lay h hi).ok "0a" "0a",(C.endz a).ok "0a" "0a",(C.gap h hi a).ok "0a" "0a",(c i hi).mono "0a" "0a",(C.room h hi a (c i hi) b).mono "0a" "0a"⟩
def Clr.stepz(C:Clr n ds ps W P)(h:COk n ds (pQ ps) (prodN (λ_=>W) n*P*W) k l t)(c:∀i,i<n->SzQ (rtF n ds (pQ ps) l i) 726 668){x:Rat}(b:zao ds l (rtF n ds (pQ ps) l) n=some x):SzQ x 7721 7728:=by
 obtain⟨⟨i,hi,a,rfl⟩,_⟩:=zbG b;obtain⟨ρ,d⟩:=zeZ C.hd a;exact C.room h hi (by rw[d];exact nofun) (c i hi) a
def Clr.grow(C:Clr n ds ps W P)(h:COk n ds (pQ ps) (prodN (λ_=>W) n*P*W) k l t)(b:∀i,i<n->SzQ (rtF n ds (pQ ps) l i) 726 668){x:Rat}(a:SzQ x 7721 7728):OkQ x/\∀i,i<n->OkQ (l i)/\OkQ (rtF n ds (pQ ps) l i)/\OkQ (rtF n ds (pQ ps) l i*x):=
 ⟨a.ok "0a" "0a",λi hi=>⟨(C.lay h hi).ok "0a" "0a",(b i hi).ok "0a" "0a",SzQ.ok (SzQ.mul (b i hi) a (k:=8447) (l:=8396) "0a" "0a") "0a" "0a"⟩⟩
def Clr.cirRoom(C:Clr n ds ps W P)(h:COk n ds (pQ ps) (prodN (λ_=>W) n*P*W) k l t)(ha:Ans n ds (pQ ps) l)(d:crL n ds l≠[]):∃x,zao ds l (rtF n ds (pQ ps) l) n=some x:=by
 obtain⟨j,f,a⟩:=zk3 C.hd C.p0 ha;obtain⟨i,hi,c,b⟩:=a d;have e:0<rtF n ds (pQ ps) l i:=by
  cases g:stp ds l i with
  | none=>exact absurd g c
  | some ρ=>exact ybr b (zgb C.hd (h.inv.lo i hi) g)
 cases hq:zao ds l (rtF n ds (pQ ps) l) n with
 | none=>exact absurd e (zcx hq i hi)
 | some q=>exact⟨q,rfl⟩
end
def zqv{p l:Nat->Rat}{t:Rat}(a:crL n ds l=[])(h:zao ds l (rtF n ds p l) n=none):stF n ds p l t=1-t:=by
 unfold stF;rw[if_pos a,h]
def zpY{p l:Nat->Rat}{t:Rat}(a:crL n ds l=[])(h:zao ds l (rtF n ds p l) n=some q):stF n ds p l t=if 1-t<q then 1-t else q:=by
 unfold stF;rw[if_pos a,h]
def zuU{r:Rat}(h1:IsQ H a q)(h2:IsQ H b r)(k:Q (.bl (decide (q=r))) H):zem K (.ref a) (.ref b) H Q:=by
 have c:(dQ q).depth<=1:=by simp[dQ,PyData.depth,PyData.depthAll]
 refine zj7 h1.rep h2.rep ⋯ ?_;rw[ztm];exact k
noncomputable def ziY (K:Fg):Sp:=λvs H Q _=>∃(a u:Addr) (n:Nat) (ds:List Due) (ps:List Int) (W P:Rat),vs=[.ref a,.ref u]/\IsSh K H a ds/\H u=some (.lst (ps.map V.int))/\Clr n ds ps W P /\
 ∀p H' ws k,H p=none->Same H H'->H' p=some (.lst ws)->IsQs H' ws ("0e".map "0d".1)->zbX n ds "0d".1 "0d".2->(∀j,j<k->¬zbX n ds (cst n ds (pQ ps) j).1 (cst n ds (pQ ps) j).2)->COk n ds (pQ ps) (prodN (λ_=>W) n*P*W) k "0d".1 "0d".2->Q (.ref p) H'
def zgG:=λ{K:Fg} {a u:Addr} {n:Nat} {ds:List Due} {ps:List Int} {W P:Rat} {H:Hp} {Q:VK} {E:XK} h hu C q=>@id (ziY K [.ref a,.ref u] H Q E) ⟨a,u,n,ds,ps,W,P,rfl,h,hu,C,q⟩
def zr0(h1:H a=some (.lst (ns.map V.int)))(h2:H b=some (.lst []))(q:Q (.bl (!decide (ns=[]))) H):zeo K (.ref a) (.ref b) H Q:=by
 cases ns with
 | nil=>
  refine zhd (ns:=[]) (ms:=[]) (SqL.of h1) (SqL.of h2) rfl ?_;exact q
 | cons x xs=>
  refine zj8 (.lst (SqL.of h1) (zb3 _)) (.lst (SqL.of h2) .nil) (by rw[zcK,zcb];lia) ?_;have e:PyData.eqv (.list ((x :: xs).map PyData.int)) (.list [])=false:=by
   rw[yaz];simp[PyData.eqv,PyData.eqvAll]
  rw[e];exact q
abbrev zdp(w:Nat):Rat:=(((2 ^ w:Nat):Int):Rat)
def zdM(a b:Nat):zdp a*zdp b=zdp (a+b):=by
 show _=(((2 ^ (a+b):Nat):Int):Rat)
 rw[ya5,yb4,yK]
theorem zdl(w:Nat):∀n:Nat,prodN (λ_=>zdp w) n=zdp (w*n)
 | 0=>rfl
 | n+1=>by
  show prodN (λ_=>zdp w) n*zdp w=_;rw[zdl w n,zdM,Nat.mul_succ]
def ziX{a b:Nat}(h:a<=b):zdp a<=zdp b:=zax (Int.ofNat_le.mpr (yaT "0a" h))
def zku(a:Nat):1<=zdp a:=ziX (yM a)
theorem zpa{f:Nat->Rat}{M:Int}:∀{n:Nat},(∀i,i<n->f i<=((M:Int):Rat))->sm n f<=(((n:Int)*M:Int):Rat)
 | 0,_=>by rw[show((0:Nat):Int)*M=0 by lia];exact yE
 | n+1,h=>by
  have h1:=zpa (n:=n) λi hi=>h i ⋯;have h2:=h n ⋯;have e:(((n+1:Nat):Int)*M)=(n:Int)*M+M:=by rw[yb3,ybs];lia
  rw[e,yV];show sm n f+f n<=_;grind
def ztw{w:Nat}{ps:List Int}{A:Int}(n9:n<=9)(hd:∀d∈ds,zm n d/\d.a<=10000000000000)(hl:ds.length<=10)(pl:ps.length=n)(c:zdy ps)(f:∀d∈ds,d.a<=A)(g:0<=A)(k:2*(A*(ds.length:Int))<=((2 ^ w:Nat):Int))(j:(w*n+50+w)*(zcg n ds+1)<=7000):Clr n ds ps (zdp w) (zdp 50) where
 n9:=n9
 hd:=λd h=>(hd d h).1
 ha:=λd h=>(hd d h).2
 hl:=hl
 pl:=pl
 pz:=c
 hW:=λl i _=>by
  have:=zom (l:=l) (λd h=>(hd d h).1) f g i
  rw[<- zh3];have e:(2:Rat)*((zak (vec n (flI ds l i)):Int):Rat)=((2*zak (vec n (flI ds l i)):Int):Rat):=by rw[yK];rfl
  rw[e];exact zax ⋯
 W1:=zku w
 hP:=by
  have h1:sm n (pQ ps)<=(((n:Int)*100000000000000:Int):Rat):=zpa λi hi=>by
   obtain⟨p,b⟩:=zw (show i<ps.length by rw[pl];exact hi);unfold pQ;rw[yf,b];exact zax (c p (ya b)).2
  refine yL h1 (zax ?_)
  have:((2 ^ 50:Nat):Int)=1125899906842624:=by decide
  rw[this];lia
 P1:=zku 50
 big:=by
  rw[zdl,zdM,zdM,zdl];exact ziX j
noncomputable def zuY (qs:List Rat):Prop:=∀q∈qs,0<=q/\SzQ q 7051 7001
section
variable {n:Nat}{ds:List Due}{ps:List Int}{W P:Rat}{k:Nat}
abbrev zaz(n:Nat)(ds:List Due)(ps:List Int)(k:Nat):List Rat:="0e".map "0d".1
def zd1(hi:i<n):(zaz n ds ps k).getD i 0="0d".1 i:=by
 rw[yf,yg,yQ hi];rfl
def zdN:(zaz n ds ps k).length=n:=by rw[ye,yB]
def Clr.wide(C:Clr n ds ps W P)(h:COk n ds (pQ ps) (prodN (λ_=>W) n*P*W) k "0d".1 "0d".2):zuY (zaz n ds ps k):=λq b=>by
 obtain⟨i,hi,rfl⟩:=yX.mp b;have a:=yF.mp hi;exact⟨h.inv.lo i a,C.lay h a⟩
def zpH(hd:∀d∈ds,zm n d):∀d∈ds,zS ds (zaz n ds ps k) d=zag ds "0d".1 d:=λd a=>by
 have:=hd d a
 have b:=this.1;have h1:=this.2.1;unfold zS zag;rw[zd1 ⋯]
def Clr.next(C:Clr n ds ps W P)(h:COk n ds (pQ ps) (prodN (λ_=>W) n*P*W) k "0d".1 "0d".2)(j:zbX n ds "0d".1 "0d".2):(List.range ps.length).map (zbN ds ps (zaz n ds ps k))=zaz n ds ps k:=by
 rw[C.pl];refine yI λi hi=>?_;have a:=yF.mp hi;have I:=h.inv;rw[j.2]at I;have e:=zuy I a (λr _=>zc5 ds λd f=>(C.hd d f).2.2.2.2.2.2.2.1);have c:zK ds (zS ds (zaz n ds ps k)) i=zK ds (zag ds "0d".1) i:=zeA ds (zpH C.hd);unfold zbN;rw[c,e];have b:zaP ds i=zR (zA ds i) 3:=by
  unfold zaP zR;rw[zdB]
 rw[b];by_cases g:((ps.getD i 0:Int):Rat)+zK ds (zag ds "0d".1) i<zR (zA ds i) 3
 ·rw[if_pos g,if_neg (by intro z;exact absurd g (ybo.mpr z))]
 ·rw[if_neg g,if_pos (ybo.mp g)]
def zq1(h1:zbX n ds (cst n ds (pQ ps) j).1 (cst n ds (pQ ps) j).2)(h2:∀i,i<j->¬zbX n ds (cst n ds (pQ ps) i).1 (cst n ds (pQ ps) i).2)(a:zbX n ds "0d".1 "0d".2)(b:∀i,i<k->¬zbX n ds (cst n ds (pQ ps) i).1 (cst n ds (pQ ps) i).2):j=k:=by
 rcases Nat.lt_trichotomy j k with h | h | h
 ·exact absurd h1 (b j h)
 ·exact h
 ·exact absurd a (h2 k h)
end
noncomputable def dsum (g:Due->Rat) (ds:List Due):Rat:=ds.foldl (fun(s:Rat) (d:Due)=>s+g d) 0
def zbH(g:Due->Rat)(ds:List Due)(d:Due):dsum g (ds++[d])=dsum g ds+g d:=by unfold dsum;rw[yaf];rfl
def zsi{g h:Due->Rat}(ds:List Due):(∀d∈ds,g d=h d)->dsum g ds=dsum h ds:=
 zaH (P:=λds=>(∀d∈ds,g d=h d)->dsum g ds=dsum h ds) (λ_=>rfl) (λes d a k=>by
  rw[zbH,zbH,a λe b=>k e (yv _ b),k d (yq _ (.head _))]) ds
def zpZ{g h:Due->Rat}(ds:List Due):dsum (λd=>g d+h d) ds=dsum g ds+dsum h ds:=
 zaH (P:=λds=>dsum (λd=>g d+h d) ds=dsum g ds+dsum h ds) (by show(0:Rat)=0+0;grind) (λes d a=>by
  rw[zbH,zbH,zbH,a];grind) ds
def zpi{g:Due->Rat}(ds:List Due):(∀d∈ds,0<=g d)->0<=dsum g ds/\(dsum g ds<=0->∀d∈ds,g d=0):=
 zaH (P:=λds=>(∀d∈ds,0<=g d)->0<=dsum g ds/\(dsum g ds<=0->∀d∈ds,g d=0)) (λ_=>⟨yE,λ_ _ h=>nomatch h⟩) (λes d b k=>by
  obtain⟨h1,h2⟩:=b λe a=>k e (yv _ a);have c:=k d (yq _ (.head _));rw[zbH];refine⟨by grind,λz e a=>?_⟩;rcases yH.mp a with h | h
  ·exact h2 (by grind) e h
  ·rw[ym.mp h];grind) ds
def zoG{D:Nat->Bool}{g:Due->Rat}(ds:List Due):(∀d∈ds,0<=d.q/\d.q<n)->sm n (λi=>if D i=true then zK ds g i else 0)=dsum (λd=>if D d.q.toNat=true then g d else 0) ds:=
 zaH (P:=λds=>(∀d∈ds,0<=d.q/\d.q<n)->sm n (λi=>if D i=true then zK ds g i else 0)=dsum (λd=>if D d.q.toNat=true then g d else 0) ds) (λ_=>sm_zero λi _=>by
  show(if D i=true then(0:Rat)else 0)=0
  split<;>rfl) (λes d c k=>by
  have h1:=c λe b=>k e (yv _ b);obtain⟨h,f⟩:=k d (yq _ (.head _));rw[zbH,<- h1];have e:sm n (λi=>if D i=true then zK (es++[d]) g i else 0)=sm n (λi=>(if D i=true then zK es g i else 0)+if i=d.q.toNat then(if D d.q.toNat=true then g d else 0)else 0):=sm_congr λi _=>by
   rw[zaW];by_cases e:i=d.q.toNat
   ·rw[if_pos e,if_pos (show d.q=(i:Int) by lia),<- e];split<;>grind
   ·rw[if_neg e,if_neg (show ¬d.q=(i:Int) by lia)];split<;>grind
  rw[e,sm_add,sm_one (i:=d.q.toNat) ⋯ λj _ a=>if_neg a,if_pos rfl]) ds
def zmA{D:Nat->Bool}{g:Due->Rat}(ds:List Due):(∀d∈ds,0<=d.p/\d.p<n)->sm n (λi=>if D i=true then zbE ds (i:Int) g else 0)=dsum (λd=>if D d.p.toNat=true then g d else 0) ds:=
 zaH (P:=λds=>(∀d∈ds,0<=d.p/\d.p<n)->sm n (λi=>if D i=true then zbE ds (i:Int) g else 0)=dsum (λd=>if D d.p.toNat=true then g d else 0) ds) (λ_=>sm_zero λi _=>by
  show(if D i=true then(0:Rat)else 0)=0
  split<;>rfl) (λes d c k=>by
  have h1:=c λe b=>k e (yv _ b);obtain⟨h,f⟩:=k d (yq _ (.head _));rw[zbH,<- h1];have e:sm n (λi=>if D i=true then zbE (es++[d]) (i:Int) g else 0)=sm n (λi=>(if D i=true then zbE es (i:Int) g else 0)+if i=d.p.toNat then(if D d.p.toNat=true then g d else 0)else 0):=sm_congr λi _=>by
   rw[zdk];by_cases e:i=d.p.toNat
   ·rw[if_pos e,if_pos (show d.p=(i:Int) by lia),<- e];split<;>grind
   ·rw[if_neg e,if_neg (show ¬d.p=(i:Int) by lia)];split<;>grind
  rw[e,sm_add,sm_one (i:=d.p.toNat) ⋯ λj _ a=>if_neg a,if_pos rfl]) ds
def zqV{g h:Due->Rat}(ds:List Due):zK ds (λd=>g d-h d) m=zK ds g m-zK ds h m:=
 zaH (P:=λds=>zK ds (λd=>g d-h d) m=zK ds g m-zK ds h m) (by show(0:Rat)=0-0;grind) (λes d a=>by
  rw[zaW,zaW,zaW,a];split<;>grind) ds
def zp3{g h:Due->Rat}{m:Int}(ds:List Due):zbE ds m (λd=>g d-h d)=zbE ds m g-zbE ds m h:=
 zaH (P:=λds=>zbE ds m (λd=>g d-h d)=zbE ds m g-zbE ds m h) (by show(0:Rat)=0-0;grind) (λes d a=>by
  rw[zdk,zdk,zdk,a];split<;>grind) ds
section
variable {n:Nat}{ds:List Due}{l x y p:Nat->Rat}
def zdP(hd:∀d∈ds,zm n d)(i r:Nat):0<=zA ds i r:=zc5 ds λd a=>(hd d a).2.2.2.2.2.2.2.1
def zn5:(∀d∈es,0<=d.p)->zbE es (m:Int) (zag ds y)=zhm es m (zY (zA ds m) (y m)):=
 zaH (P:=λes=>(∀d∈es,0<=d.p)->zbE es (m:Int) (zag ds y)=zhm es m (zY (zA ds m) (y m))) (λ_=>rfl) (λes d c h=>by
  rw[zdk,zjH,c λe a=>h e (yv _ a)];have p0:=h d (yq _ (.head _));by_cases e:d.p=(m:Int)
  ·rw[if_pos e,if_pos e];have b:d.p.toNat=m:=by lia
   unfold zag;rw[b]
  ·rw[if_neg e,if_neg e]) es
def zgX(hd:∀d∈ds,zm n d)(a:0<=y m)(h1:y m<=zR (zA ds m) 3):zbE ds (m:Int) (zag ds y)=y m:=by
 have b:∀j,j<3->0<=zA ds m j:=λj _=>zdP hd m j;have h2:=zhO (ds:=ds) (m:=m) (S:=zY (zA ds m) (y m)) (λd h=>⟨(hd d h).2.2.2.2.2.1,(hd d h).2.2.2.2.2.2.1⟩) ds.length (yc _);rw[yr]at h2;rw[zn5 λd h=>(hd d h).1,h2,zcy a (b 0 ⋯),zcy a (b 1 ⋯),zcy a (b 2 ⋯)];refine zoA a b ?_;have e:zR (zA ds m) 3=((zA ds m 0:Int):Rat)+((zA ds m 1:Int):Rat)+((zA ds m 2:Int):Rat):=by
  rw[zbt,zbt,zbt]
  show(0:Rat)+_+_+_=_
  grind
 rw[<- e];exact h1
def zjw(hd:∀d∈ds,zm n d)(c:∀i,i<n->0<=l i)(h:∀i,i<n->l i<=y i):∀d∈ds,zag ds l d<=zag ds y d:=λd f=>by
 have a:=hd d f;have b:=a.1;have e:=a.2.1;have hi:d.p.toNat<n:=by lia
 unfold zag;refine yS (zhp (c _ hi) (h _ hi) (λr _=>zdP hd _ r) ?_) (zaq a.2.2.2.2.2.2.2.1)
 have:=a.2.2.2.2.2.1
 have:=a.2.2.2.2.2.2.1
 lia
def zq2{ρ:Nat->Option Nat}(ds:List Due):(∀d∈ds,0<=d.a)->0<zat ρ ds i j->∃d∈ds,d.p=(i:Int)/\d.q=(j:Int)/\ρ i=some d.r.toNat/\0<d.a:=
 zaH (P:=λds=>(∀d∈ds,0<=d.a)->0<zat ρ ds i j->∃d∈ds,d.p=(i:Int)/\d.q=(j:Int)/\ρ i=some d.r.toNat/\0<d.a) (λ_ h=>absurd (show(0:Int)<0 from h) "0a") (λes d g h f=>by
  rw[zbe]at f;have l:=h d (yq _ (.head _));by_cases c:d.p=(i:Int)/\d.q=(j:Int)/\ρ i=some d.r.toNat
  ·by_cases z:0<d.a
   ·exact⟨d,yq _ (.head _),c.1,c.2.1,c.2.2,z⟩
   ·rw[if_pos c]at f;obtain⟨e,b,k⟩:=g (λe b=>h e (yv _ b)) ⋯;exact⟨e,yv _ b,k⟩
  ·rw[if_neg c]at f;obtain⟨e,b,k⟩:=g (λe b=>h e (yv _ b)) ⋯;exact⟨e,yv _ b,k⟩) ds
def zqk{q':Rat}(c:0<=q)(d:∀r,r<3->0<=f r)(h:zaQ f q 3=some ρ)(h1:q<q'):zY f q ρ < zY f q' ρ:=by
 obtain⟨b,up,_⟩:=zbp h;have fp:=za3 (zcw c h);obtain⟨z,a⟩:∃z,z=if q'<=zR f (ρ+1)then q' else zR f (ρ+1):=⟨_,rfl⟩
 have j:q<z:=by rw[a];split<;>grind
 have e:z<=zR f (ρ+1):=by rw[a];split<;>grind
 have i:z<=q':=by rw[a];split<;>grind
 have g:=zhw c d h (by grind:q<=z) e (r:=ρ) b;rw[if_pos rfl]at g;have m:=zhp (q:=z) (q':=q') (by grind) i d (r:=ρ) b;have d0:0<(z-q)/((f ρ:Int):Rat):=by
  rw[ybf];exact ybr (by grind) (Rat.inv_pos.mpr fp)
 grind
def greatest(hd:∀d∈ds,zm n d)(P:crL n ds l=[])(I:CInv n ds p l 1)(J:∀i,i<n->0<=x i)(A:∀i,i<n->x i<=zR (zA ds i) 3)(W:∀i,i<n->x i<=p i+zK ds (zag ds x) i):∀i,i<n->x i<=l i:=by
 obtain⟨y,m⟩:∃y:Nat->Rat,y=λi=>if l i<x i then x i else l i:=⟨_,rfl⟩
 obtain⟨D,E⟩:∃D:Nat->Bool,D=λi=>decide (i<n/\l i<x i):=⟨_,rfl⟩
 have b:∀i,D i=true↔i<n/\l i<x i:=λi=>by rw[E];exact decide_eq_true_iff
 have v:∀i,l i<=y i:=λi=>by rw[m];dsimp only;split<;>grind
 have M:∀i,x i<=y i:=λi=>by rw[m];dsimp only;split<;>grind
 have V:∀i,i<n->y i<=zR (zA ds i) 3:=λi hi=>by rw[m];dsimp only;have:=A i hi;have:=I.hi i hi;split<;>grind
 have G:∀i,i<n->0<=y i:=λi hi=>by have:=I.lo i hi;have:=v i;grind
 have B:∀i,D i=true->y i=x i:=λi h=>by rw[m];exact if_pos ((b i).mp h).2
 have Y:∀i,i<n->D i≠true->y i=l i:=λi hi h=>by rw[m];exact if_neg λz=>h ((b i).mpr ⟨hi,z⟩)
 have t:∀d∈ds,0<=d.q/\d.q<n:=λd a=>⟨(hd d a).2.2.1,(hd d a).2.2.2.1⟩
 have o:∀d∈ds,0<=d.p/\d.p<n:=λd a=>⟨(hd d a).1,(hd d a).2.1⟩
 obtain⟨e,f⟩:∃e:Due->Rat,e=λd=>zag ds y d-zag ds l d:=⟨_,rfl⟩
 have H:∀d∈ds,0<=e d:=λd a=>by
  have:=zjw hd I.lo (λi _=>v i) d a
  rw[f];grind
 have F:∀d∈ds,D d.p.toNat≠true->e d=0:=λd a h=>by
  have:=o d a
  have:=Y d.p.toNat ⋯ h
  rw[f];show zag ds y d-zag ds l d=0;unfold zag;rw[this];grind
 have sh:∀i,D i=true->stp ds l i≠none:=λi h z=>by
  obtain⟨hi,c⟩:=(b i).mp h;have h2:zR (zA ds i) 3<=l i:=zdh z 2 "0a"
  have:=A i hi
  grind
 have row:∀i,D i=true->y i-l i<=zK ds e i:=λi h=>by
  obtain⟨hi,c⟩:=(b i).mp h;have h1:=I.sh i hi (sh i h);have h2:=W i hi;have h3:=zcS (zjw (l:=x) (y:=y) hd J (λi _=>M i)) i;have R:zK ds e i=zK ds (zag ds y) i-zK ds (zag ds l) i:=by rw[f,zqV]
  rw[B i h,R];grind
 have col:∀i,i<n->y i-l i=zbE ds (i:Int) e:=λi hi=>by
  rw[f,zp3,zgX hd (G i hi) (V i hi),zgX hd (I.lo i hi) (I.hi i hi)]
 have Z:sm n (λi=>if D i=true then y i-l i else 0)<=sm n (λi=>if D i=true then zK ds e i else 0):=sm_mono λi _=>by
  by_cases g:D i=true
  ·rw[if_pos g,if_pos g];exact row i g
  ·rw[if_neg g,if_neg g];exact yE
 have X:sm n (λi=>if D i=true then y i-l i else 0)=sm n (λi=>if D i=true then zbE ds (i:Int) e else 0):=sm_congr λi hi=>by rw[col i hi]
 rw[X,zoG ds t,zmA ds o]at Z;have s3:dsum (λd=>if D d.q.toNat=true then e d else 0) ds+dsum (λd=>if D d.p.toNat=true/\D d.q.toNat≠true then e d else 0) ds=dsum (λd=>if D d.p.toNat=true then e d else 0) ds:=by
  rw[<- zpZ];refine zsi ds λd a=>?_;by_cases g:D d.p.toNat=true
  ·rw[if_pos g];by_cases k:D d.q.toNat=true
   ·have z:¬(D d.p.toNat=true/\D d.q.toNat≠true):=λz=>z.2 k;rw[if_pos k,if_neg z];grind
   ·rw[if_neg k,if_pos ⟨g,k⟩];grind
  ·have z:¬(D d.p.toNat=true/\D d.q.toNat≠true):=λz=>g z.1;rw[if_neg g,if_neg z,F d a g];split<;>grind
 have O:=(zpi (g:=λd=>if D d.p.toNat=true/\D d.q.toNat≠true then e d else 0) ds λd a=>by
  split
  ·exact H d a
  ·exact yE).2 (by grind)
 intro i hi;refine ybo.mp λc=>?_;refine Rc.no_circle P (S:=λj=>D j=true) (λj h=>⟨((b j).mp h).1,?_⟩) (λj k h hk K=>?_) ((b i).mpr ⟨hi,c⟩)
 ·unfold shB;cases g:stp ds l j with
  | none=>exact absurd g (sh j h)
  | some _=>rfl
 ·obtain⟨N,u⟩:=(b j).mp h;have s:0<zat (stp ds l) ds j k:=of_decide_eq_true K;obtain⟨d,a,dp,dq,T,U⟩:=zq2 ds (λd a=>(hd d a).2.2.2.2.2.2.2.1) s;have w:d.p.toNat=j:=by lia
  have L:d.q.toNat=k:=by lia
  refine yai λQ=>?_;have z:=O d a;rw[w,L,if_pos ⟨h,Q⟩,f]at z;have C:zag ds y d-zag ds l d=0:=z;unfold zag at C;rw[w]at C;have up:=zqk (I.lo j N) (λr _=>zdP hd j r) (show zaQ (zA ds j) (l j) 3=some d.r.toNat from T) (show l j<y j by rw[B j h];exact u)
  have:=Rat.mul_lt_mul_of_pos_left up (za3 U)
  grind
end
noncomputable def LeL (b a:List Rat):Prop:=∀m,m<b.length->b.getD m 0<=a.getD m 0
def zlv{F:Nat->Rat}(h:m<n):("0e".map F).getD m 0=F m:=by rw[zpT,if_pos h]
section
variable {n:Nat}{ds:List Due}{ps:List Int}{W P:Rat}{k:Nat}
def Clr.great(C:Clr n ds ps W P)(h:COk n ds (pQ ps) (prodN (λ_=>W) n*P*W) k "0d".1 "0d".2)(f:zbX n ds "0d".1 "0d".2){s:List Rat}(l:s.length=n)(o:∀q∈s,0<=q)(c:∀m,m<n->s.getD m 0<=zbN ds ps s m):LeL s (zaz n ds ps k):=by
 have I:=h.inv;rw[f.2]at I;have a:∀d∈ds,zS ds s d=zag ds (λm=>s.getD m 0) d:=λd _=>rfl;have g:=greatest (x:=λm=>s.getD m 0) C.hd f.1 I (λi hi=>by
  obtain⟨q,e⟩:=zw (show i<s.length by lia);show 0<=s.getD i 0;rw[yf,e];exact o q (ya e)) (λi hi=>by
  have h1:=c i hi;have h2:=zmf (ds:=ds) (ps:=ps) (qs:=s) i;have j:zaP ds i=zR (zA ds i) 3:=by unfold zaP zR;rw[zdB]
  rw[j]at h2;exact yL h1 h2) (λi hi=>by
  have h1:=c i hi;rw[<- zeA ds a];unfold zbN at h1;show s.getD i 0<=((ps.getD i 0:Int):Rat)+zK ds (zS ds s) i;split at h1<;>grind)
 intro m b;rw[l]at b;rw[zd1 b];exact g m b
end
abbrev zvQ(n:Nat)(c:Int):List Rat:="0e".map λ_=>((c:Int):Rat)
structure DeepV(ds:List Due)(qs:List Rat)(D:Nat):Prop where
 pos:0<D
 lay:∀q∈qs,DvB D q
 zs:sz ((D*zbD ds:Nat):Int)<=7800
def DeepV.szD{D:Nat}(h:DeepV ds qs D):sz ((D:Nat):Int)<=7800:=by
 have:=sz_le.mp h.zs
 refine zaJ ?_;rw[yab]at this ⊢;have h2:=Nat.le_mul_of_pos_right D (zgS ds);lia
def DeepV.up{D:Nat}(h:DeepV ds qs D){x:Rat}(a:DvB (D*zbD ds) x):SzQ x 7857 7800:=a.sz (yb8 h.pos (zgS ds)) h.zs
def DeepV.pay{D:Nat}(h:DeepV ds qs D)(hd:∀d∈ds,zm qs.length d/\d.a<=10000000000000):∀d∈ds,Dv (D*zbD ds) (zS ds qs d)/\0<=zS ds qs d/\zS ds qs d<=((10000000000000:Int):Rat):=λd b=>by
 obtain⟨⟨p0,k,l,i,n,g,j,f,a1⟩,a2⟩:=hd d b;have e:∀r,r<3->0<=zA ds d.p.toNat r:=λr _=>(zdE (m:=d.p.toNat) (r:=r) ds λd h=>⟨(hd d h).1.2.2.2.2.2.2.2.1,(hd d h).2⟩).1;have c:=zqN h.lay e (show d.p.toNat<qs.length by lia) (show d.r.toNat<3 by lia) f;refine⟨zrR h.lay b ⋯,c.1,?_⟩
 have:((d.a:Int):Rat)<=((10000000000000:Int):Rat):=zax a2
 have:=c.2
 grind
def DeepV.gain{D:Nat}(h:DeepV ds qs D)(hd:∀d∈ds,zm qs.length d/\d.a<=10000000000000)(m:Nat):∀q∈zbl ds (zS ds qs) m,Dv (D*zbD ds) q/\0<=q/\q<=((10000000000000:Int):Rat):=λq c=>by
 obtain⟨d,b,e⟩:=zo9 c;rw[e];exact h.pay hd d b
def DeepV.got{D:Nat}(h:DeepV ds qs D)(hd:∀d∈ds,zm qs.length d/\d.a<=10000000000000)(hl:ds.length<=10)(m:Nat):Dv (D*zbD ds) (zK ds (zS ds qs) m)/\0<=zK ds (zS ds qs) m/\zK ds (zS ds qs) m<=((100000000000000:Int):Rat):=by
 have b:(zbl ds (zS ds qs) m).length<=10:=yi zfs hl;have h1:=ziw (zbl ds (zS ds qs) m).length (h.gain hd m) (yc _);rw[yr]at h1;refine⟨h1.1,h1.2.1,?_⟩;have h2:=h1.2.2
 have:((10000000000000*((zbl ds (zS ds qs) m).length:Int):Int):Rat)<=((100000000000000:Int):Rat):=zax ⋯
 show zaX _<=_;grind
noncomputable def LayV (q:Rat):Prop:=∃D:Nat,0<D/\sz ((D:Nat):Int)<=7800/\DvB D q
noncomputable def DeepG (ds:List Due) (qs:List Rat):Prop:=∃D,DeepV ds qs D
def LayV.szq(h:LayV q):SzQ q 7857 7800:=by obtain⟨D,b,a,h⟩:=h;exact h.sz b a
def LayV.rest(h:LayV q)(e:∀j,j<3->0<=f j/\f j<=100000000000000)(b:r<=3):SzQ (zaw f q r) 7857 7800:=by
 obtain⟨D,d,a,h⟩:=h;exact(zkj h (λj c=>(e j c).1) b).sz d a
def LayV.laid(h:LayV q)(e:∀j,j<3->0<=f j/\f j<=100000000000000)(b:r<3):SzQ (zX f q r) 7857 7800:=by
 obtain⟨D,d,a,h⟩:=h;exact(zp1 h (λj c=>(e j c).1) b).sz d a
theorem DeepG.lay{ds:List Due}{qs:List Rat}(h:DeepG ds qs){q:Rat}(a:q∈qs):LayV q:=by
 obtain⟨D,h⟩:=h;exact⟨D,h.pos,h.szD,h.lay q a⟩
def DeepG.share(h:DeepG ds qs)(hd:∀d∈ds,zm qs.length d/\d.a<=10000000000000)(b:d∈ds)(e:qs[d.p.toNat]?=some q):SzQ (zY (zA ds d.p.toNat) q d.r.toNat) 7857 7800:=by
 obtain⟨D,h⟩:=h;obtain⟨⟨p0,j,k,g,n,f,i,l,a1⟩,a2⟩:=hd d b;have c:∀r,r<3->0<=zA ds d.p.toNat r:=λr _=>(zdE (m:=d.p.toNat) (r:=r) ds λd h=>⟨(hd d h).1.2.2.2.2.2.2.2.1,(hd d h).2⟩).1;have h1:=zol (h.lay q (ya e)) c (show d.r.toNat<3 by lia);exact h.up ⟨h1.1,h1.2.1,h1.2.2.dvd (Nat.mul_dvd_mul_left _ (zfY (F:=rkD ds) b))⟩
theorem DeepG.gain{ds:List Due}{qs:List Rat}(h:DeepG ds qs)(hd:∀d∈ds,zm qs.length d/\d.a<=10000000000000)(m:Nat):∀q∈zbl ds (zS ds qs) m,OkQ q:=λq b=>by
 obtain⟨D,h⟩:=h;obtain⟨h1,h2,c⟩:=h.gain hd m q b;exact(h.up ⟨h2,by have:((10000000000000:Int):Rat)<=((100000000000000000:Int):Rat):=zax "0a";grind,h1⟩).ok "0a" "0a"
def DeepG.sums(h:DeepG ds qs)(hd:∀d∈ds,zm qs.length d/\d.a<=10000000000000)(hl:ds.length<=10)(m:Nat):∀i,OkQ (zaX ((zbl ds (zS ds qs) m).take i)):=λi=>by
 obtain⟨D,h⟩:=h;exact(h.up (zpU (h.gain hd m) (yi zfs hl) i)).ok "0a" "0a"
theorem DeepG.got{ds:List Due}{qs:List Rat}(h:DeepG ds qs)(hd:∀d∈ds,zm qs.length d/\d.a<=10000000000000)(hl:ds.length<=10)(m:Nat):SzQ (zK ds (zS ds qs) m) 7857 7800:=by
 obtain⟨D,h⟩:=h;have h1:=h.got hd hl m;exact h.up ⟨h1.2.1,by have:((100000000000000:Int):Rat)<=((100000000000000000:Int):Rat):=zax "0a";grind,h1.1⟩
def DeepG.next{ps:List Int}(h:DeepG ds qs)(hd:∀d∈ds,zm qs.length d/\d.a<=10000000000000)(hl:ds.length<=10){p:Int}(p0:0<=p)(b:p<=100000000000000)(m:Nat):SzQ (((p:Int):Rat)+zK ds (zS ds qs) m) 7857 7800:=by
 obtain⟨D,h⟩:=h;have h1:=h.got hd hl m;have h2:=zaq p0;have c:=zax b;refine h.up ⟨by grind,?_,(Dv.int _).add h1.1⟩
 have:((100000000000000:Int):Rat)+((100000000000000:Int):Rat)<=((100000000000000000:Int):Rat):=by rw[<- yV];exact zax "0a"
 grind
noncomputable def zfu (K:Fg):Sp:=λvs H Q _=>∃(l y:Addr) (f:Nat->Int) (q:Rat),vs=[.ref l,.ref y]/\H l=some (.lst ((vec 3 f).map V.int))/\(∀j,j<3->0<=f j/\f j<=100000000000000)/\IsQ H y q/\LayV q/\∀p H' vs,H p=none->Same H H'->H' p=some (.lst vs)->IsQs H' vs ((List.range 3).map (zY f q))->Q (.ref p) H'
def zlO:=λ{K:Fg} {l y:Addr} {f:Nat->Int} {q:Rat} {H:Hp} {Q:VK} {E:XK} hl hf hy hs k=>@id (zfu K [.ref l,.ref y] H Q E) ⟨l,y,f,q,rfl,hl,hf,hy,hs,k⟩
noncomputable def ziJ (K:Fg):Sp:=λvs H Q _=>∃(a y:Addr) (ds:List Due) (ws:List V) (qs:List Rat),vs=[.ref a,.ref y]/\IsSh K H a ds/\H y=some (.lst ws)/\IsQs H ws qs/\(∀d∈ds,zm qs.length d/\d.a<=10000000000000)/\ds.length<=10/\qs.length<=9/\DeepG ds qs/\∀p H' vs,H p=none->Same H H'->H' p=some (.lst vs)->IsQs H' vs (ds.map (zS ds qs))->Q (.ref p) H'
def zpy:=λ{K:Fg} {a y:Addr} {ds:List Due} {ws:List V} {qs:List Rat} {H:Hp} {Q:VK} {E:XK} h hy hq hd hl h9 hs k=>@id (ziJ K [.ref a,.ref y] H Q E) ⟨a,y,ds,ws,qs,rfl,h,hy,hq,hd,hl,h9,hs,k⟩
noncomputable def zkI (K:Fg):Sp:=λvs H Q _=>∃(a y:Addr) (ds:List Due) (ws:List V) (qs:List Rat),vs=[.ref a,.ref y]/\IsSh K H a ds/\H y=some (.lst ws)/\IsQs H ws qs/\(∀d∈ds,zm qs.length d/\d.a<=10000000000000)/\ds.length<=10/\qs.length<=9/\DeepG ds qs/\∀p H' vs,H p=none->Same H H'->H' p=some (.lst vs)->IsQs H' vs ((List.range qs.length).map (zK ds (zS ds qs)))->Q (.ref p) H'
def zp8:=λ{K:Fg} {a y:Addr} {ds:List Due} {ws:List V} {qs:List Rat} {H:Hp} {Q:VK} {E:XK} h hy hq hd hl h9 hs k=>@id (zkI K [.ref a,.ref y] H Q E) ⟨a,y,ds,ws,qs,rfl,h,hy,hq,hd,hl,h9,hs,k⟩
section
variable {n:Nat}{ds:List Due}{ps:List Int}{W P:Rat}{k:Nat}
def Clr.deep(C:Clr n ds ps W P)(c:sz ((zbD ds:Nat):Int)<=750)(h:COk n ds (pQ ps) (prodN (λ_=>W) n*P*W) k "0d".1 "0d".2):DeepG ds (zaz n ds ps k):=by
 obtain⟨D,e,d,hl,_⟩:=C.dv h;refine⟨D,e,λq f=>?_,?_⟩
 ·obtain⟨i,hi,rfl⟩:=yX.mp f;have a:=yF.mp hi;refine⟨h.inv.lo i a,yL (h.inv.hi i a) (zax ?_),hl i a⟩
  have:=(C.cum i (yc 3)).2
  lia
 ·rw[yb4];have b:sz ((D:Nat):Int)<=7001:=zaJ (by
   rw[yab];exact yad d (yaU "0a" "0a"))
  exact yi (zcl b c) "0a"
end
noncomputable def zc1 (ds:List Due) (ps:List Int) (qs:List Rat) (m:Nat):Rat:=((ps.getD m 0:Int):Rat)+zK ds (zS ds qs) m-qs.getD m 0
abbrev zfa(ds:List Due)(ps:List Int)(qs:List Rat):List Rat:=(List.range ps.length).map (zc1 ds ps qs)
noncomputable def zkM (K:Fg):Sp:=λvs H Q _=>∃(a u y:Addr) (ds:List Due) (ps:List Int) (ws:List V) (qs:List Rat),vs=[.ref a,.ref u,.ref y]/\IsSh K H a ds/\H u=some (.lst (ps.map V.int))/\H y=some (.lst ws)/\IsQs H ws qs/\(∀d∈ds,zm qs.length d/\d.a<=10000000000000)/\ds.length<=10/\qs.length<=9/\ps.length=qs.length/\zdy ps/\DeepG ds qs/\∀p H' vs,H p=none->Same H H'->H' p=some (.lst vs)->IsQs H' vs (zfa ds ps qs)->Q (.ref p) H'
def znp:=λ{K:Fg} {a u y:Addr} {ds:List Due} {ps:List Int} {ws:List V} {qs:List Rat} {H:Hp} {Q:VK} {E:XK} h hu hy hq hd hl h9 hpl hp hs k=>@id (zkM K [.ref a,.ref u,.ref y] H Q E) ⟨a,u,y,ds,ps,ws,qs,rfl,h,hu,hy,hq,hd,hl,h9,hpl,hp,hs,k⟩
noncomputable def zlf (K:Fg):Sp:=λvs H Q _=>∃(a u:Addr) (n:Nat) (ds:List Due) (ps:List Int) (W P:Rat),vs=[.ref a,.ref u]/\IsSh K H a ds/\H u=some (.lst (ps.map V.int))/\Clr n ds ps W P/\sz ((zbD ds:Nat):Int)<=750 /\
 ∀p H' ws k,H p=none->Same H H'->H' p=some (.lst ws)->IsQs H' ws (zfa ds ps (zaz n ds ps k))->zbX n ds "0d".1 "0d".2->(∀j,j<k->¬zbX n ds (cst n ds (pQ ps) j).1 (cst n ds (pQ ps) j).2)->COk n ds (pQ ps) (prodN (λ_=>W) n*P*W) k "0d".1 "0d".2->Q (.ref p) H'
def znB:=λ{K:Fg} {a u:Addr} {n:Nat} {ds:List Due} {ps:List Int} {W P:Rat} {H:Hp} {Q:VK} {E:XK} h hu C hT q=>@id (zlf K [.ref a,.ref u] H Q E) ⟨a,u,n,ds,ps,W,P,rfl,h,hu,C,hT,q⟩
section
variable {n:Nat}{ds:List Due}{ps ps':List Int}{W P W' P':Rat}{k k':Nat}
def ztI(C:Clr n ds ps W P)(o:sz ((zbD ds:Nat):Int)<=750)(h:COk n ds (pQ ps) (prodN (λ_=>W) n*P*W) k "0d".1 "0d".2)(t:zbX n ds "0d".1 "0d".2):∀q∈zfa ds ps (zaz n ds ps k),0<=q/\SzQ q 7857 7800:=λq s=>by
 obtain⟨m,r,rfl⟩:=yX.mp s;have b:m<n:=by have:=yF.mp r;rw[C.pl]at this;exact this
 obtain⟨D,dp⟩:=C.deep o h;have hd:∀d∈ds,zm (zaz n ds ps k).length d/\d.a<=10000000000000:=by rw[zdN];exact λd g=>⟨C.hd d g,C.ha d g⟩
 have i:=dp.got hd C.hl m;have l:(zaz n ds ps k).getD m 0=zbN ds ps (zaz n ds ps k) m:=by
  rw[show(zaz n ds ps k).getD m 0=((List.range ps.length).map (zbN ds ps (zaz n ds ps k))).getD m 0 by rw[C.next h t],zlv (by rw[C.pl];exact b)]
 have c:(zaz n ds ps k).getD m 0∈zaz n ds ps k:=by rw[zd1 b];exact yX.mpr ⟨m,yF.mpr b,rfl⟩
 have hl:=dp.lay _ c;have le:(zaz n ds ps k).getD m 0<=((ps.getD m 0:Int):Rat)+zK ds (zS ds (zaz n ds ps k)) m:=by
  rw[l];unfold zbN;split<;>grind
 obtain⟨p,e⟩:=zw (show m<ps.length by rw[C.pl];exact b);have f:ps.getD m 0=p:=by rw[yf,e];rfl
 have j:=zax (C.pz p (ya e)).2;unfold zc1;refine⟨by grind,dp.up ⟨by grind,?_,((Dv.int _).add i.1).sub (hl.2.2.dvd (ybQ _ _))⟩⟩;rw[f]
 have:((100000000000000:Int):Rat)+((100000000000000:Int):Rat)<=((100000000000000000:Int):Rat):=by rw[<- yV];exact zax "0a"
 have:=hl.1
 have:=i.2.2
 grind
end
def ztc(F:Nat->Rat):zaX ("0e".map F)=sm n F:=by
 rw[zib]
 induction n with
 | zero=>rfl
 | succ n ih=>show zqb n F+F n=sm n F+F n;rw[ih]
section
variable {n:Nat}{ds:List Due}{ps:List Int}{W P:Rat}{k:Nat}
def zqn(C:Clr n ds ps W P)(h:COk n ds (pQ ps) (prodN (λ_=>W) n*P*W) k "0d".1 "0d".2):zaX (zfa ds ps (zaz n ds ps k))=((zak ps:Int):Rat):=by
 rw[ztc,C.pl];obtain⟨l,hl⟩:∃l,l="0d".1:=⟨_,rfl⟩
 have I:=h.inv;rw[<- hl]at I;have o:sm n (zc1 ds ps (zaz n ds ps k))=sm n (λm=>(pQ ps m+zK ds (zag ds l) m)+(-1)*l m):=sm_congr λm a=>by
  unfold zc1;rw[zd1 a,zeA ds (zpH C.hd),<- hl];grind
 have c:∀d∈ds,0<=d.q/\d.q<n:=λd a=>⟨(C.hd d a).2.2.1,(C.hd d a).2.2.2.1⟩
 have e:∀d∈ds,0<=d.p/\d.p<n:=λd a=>⟨(C.hd d a).1,(C.hd d a).2.1⟩
 have t:=zoG (n:=n) (D:=λ_=>true) (g:=zag ds l) ds c;have r:=zmA (n:=n) (D:=λ_=>true) (g:=zag ds l) ds e;have s:sm n (λm=>zK ds (zag ds l) m)=sm n l:=by
  have a1:sm n (λm=>zK ds (zag ds l) m)=sm n (λi=>if(λ_:Nat=>true) i=true then zK ds (zag ds l) i else 0):=sm_congr λi _=>by rw[if_pos rfl]
  have a2:sm n l=sm n (λi=>if(λ_:Nat=>true) i=true then zbE ds (i:Int) (zag ds l)else 0):=sm_congr λi hi=>by rw[if_pos rfl,zgX C.hd (I.lo i hi) (I.hi i hi)]
  rw[a1,a2,t,r]
 have u:sm n (λm=>(pQ ps m+zK ds (zag ds l) m)+(-1)*l m)=sm n (pQ ps)+sm n (λm=>zK ds (zag ds l) m)+sm n (λm=>(-1)*l m):=by rw[sm_add,sm_add]
 have v:sm n (λm=>(-1)*l m)=(-1)*sm n l:=by
  have:=sm_lin (f:=l) (g:=λ_=>0) (-1) 0 n
  have z:sm n (λm=>(-1)*l m)=sm n (λi=>(-1)*l i+0*(λ_=>(0:Rat)) i):=sm_congr λi _=>by grind
  rw[z,this];grind
 have j:sm n (pQ ps)=((zak ps:Int):Rat):=by
  have w:=C.pl
  have:ps=vec n (λm=>ps.getD m 0):=by
   apply yag;intro i;by_cases hi:i<n
   ·rw[zae hi];obtain⟨p,b⟩:=zw (show i<ps.length by lia);rw[b,yf,b];rfl
   ·rw[yG ⋯,yG (by rw[zO];lia)]
  rw[this];rw[zlz]
  first | done | (refine sm_congr λi hi=>?_;unfold pQ;rw[<- this])
 rw[o,u,v,j,s];grind
end
def zo3{ps:List Int}(h:zdy ps):0<=zak ps/\zak ps<=100000000000000*(ps.length:Int):=by
 have a:∀j,j<=ps.length->0<=zak (ps.take j)/\zak (ps.take j)<=100000000000000*(j:Int):=by
  intro j
  induction j with
  | zero=>intro _;exact⟨yC _,yC _⟩
  | succ j ih=>
   intro c;obtain⟨p,b⟩:=zw (show j<ps.length by lia);have h1:=ih ⋯;have h2:=h p (ya b);rw[zH b,zef];lia
 have:=a ps.length (yc _)
 rwa [yr]at this
section
variable {n:Nat}{ds:List Due}{ps:List Int}{W P:Rat}{k:Nat}
end
open PySem
theorem zeL{ds:List Due}{n:Nat}{g g':Nat->Bool}(hd:∀d∈ds,zm n d)(h:∀m,m<n->g m=g' m)(m:Nat):∀i,zbj ds g i m=zbj ds g' i m
 | 0=>rfl
 | i+1=>by
  rw[zbj,zbj];cases e:ds[i]? with
  | none=>exact zeL hd h m i
  | some d=>
   obtain⟨p0,b,f,c,_⟩:=hd d (ya e);have a:useful g m d↔useful g' m d:=by unfold useful;rw[h d.p.toNat ⋯,h d.q.toNat ⋯]
   simp only;by_cases u:useful g m d
   ·rw[if_pos u,if_pos (a.mp u)]
   ·rw[if_neg u,if_neg (λz=>u (a.mpr z))];exact zeL hd h m i
def zeK{t:Nat}(h:goF ds (t+1) m=true):goF ds t m=true:=by
 rw[goF]at h;cases e:zbj ds (goF ds t) ds.length m with
 | none=>rw[e]at h;cases h
 | some j=>
  obtain⟨d,_,b,_,a,_⟩:=zd7 e
  rwa [show d.p.toNat=m by lia]at a
noncomputable def zbJ (n:Nat) (g:Nat->Bool):Nat:=("0e".filter g).length
def zdg{g:Nat->Bool}:zbJ (n+1) g=zbJ n g+if g n=true then 1 else 0:=by
 unfold zbJ;rw[yy,yaP,yb];congr 1;by_cases h:g n=true
 ·rw[if_pos h];simp[h]
 ·rw[if_neg h];simp[h]
def zr5{p q:Nat->Bool}(h:∀m,m<n->q m=true->p m=true):zbJ n q<=zbJ n p:=by
 induction n with
 | zero=>exact yc _
 | succ n ih=>
  have:=ih λm b=>h m ⋯
  have a:=h n ⋯;rw[zdg,zdg];by_cases e:q n=true
  ·rw[if_pos e,if_pos (a e)];lia
  ·rw[if_neg e];split<;>lia
def ziQ{p q:Nat->Bool}(h:∀m,m<n->q m=true->p m=true)(a:∃m,m<n/\p m=true/\q m=false):zbJ n q<zbJ n p:=by
 induction n with
 | zero=>obtain⟨m,c,_⟩:=a;lia
 | succ n ih=>
  obtain⟨m,c,h1,h2⟩:=a;rw[zdg,zdg];by_cases e:m=n
  ·subst e
   have:=zr5 (n:=m) λk d=>h k ⋯
   rw[if_pos h1,if_neg (by rw[h2];decide)];lia
  ·have:=ih (λk d=>h k ⋯) ⟨m,⋯,h1,h2⟩
   have b:=h n ⋯;by_cases e:q n=true
   ·rw[if_pos e,if_pos (b e)];lia
   ·rw[if_neg e];split<;>lia
def zp5:zbJ n (λ_=>true)=n:=by
 induction n with
 | zero=>rfl
 | succ n ih=>rw[zdg,ih,if_pos rfl]
theorem zlG{ds:List Due}{n:Nat}(hd:∀d∈ds,zm n d):∀t,(∀m,m<n->goF ds t m=goF ds (t+1) m)\/zbJ n (goF ds (t+1))+(t+1)<=n
 | 0=>by
  by_cases s:∀m,m<n->goF ds 0 m=goF ds 1 m
  ·exact .inl s
  ·refine .inr ?_
   have:zbJ n (goF ds 1)<zbJ n (goF ds 0):=ziQ (λm _=>zeK) (yai λz=>s λm a=>by
    cases e:goF ds 1 m with
    | true=>exact zeK e
    | false=>exact absurd ⟨m,a,rfl,e⟩ z)
   have b:zbJ n (goF ds 0)=n:=zp5;show zbJ n (goF ds 1)+1<=n;lia
 | t+1=>by
  rcases zlG hd t with s | c
  ·refine .inl λm a=>?_
   show(zbj ds (goF ds t) ds.length m).isSome=(zbj ds (goF ds (t+1)) ds.length m).isSome
   rw[zeL hd s m ds.length]
  ·by_cases s:∀m,m<n->goF ds (t+1) m=goF ds (t+2) m
   ·exact .inl s
   ·refine .inr ?_
    have:zbJ n (goF ds (t+2))<zbJ n (goF ds (t+1)):=ziQ (λm _=>zeK) (yai λz=>s λm a=>by
     cases e:goF ds (t+2) m with
     | true=>exact zeK e
     | false=>
      cases e':goF ds (t+1) m with
      | false=>rfl
      | true=>exact absurd ⟨m,a,e',e⟩ z)
    show zbJ n (goF ds (t+2))+(t+2)<=n;lia
def ztg(hd:∀d∈ds,zm n d)(o:m<n)(h:zas ds n m=some j):∃d,ds[j]?=some d/\d.p=(m:Int)/\0<d.a/\∃k,zas ds n d.q.toNat=some k:=by
 obtain⟨t,rfl⟩:∃t,n=t+1:=⟨n-1,⋯⟩
 have g:goF ds (t+1) m=true:=by rw[zas]at h;rw[goF,h];rfl
 obtain⟨d,b,f,i,x,r⟩:=zd7 (show zbj ds (goF ds t) ds.length m=some j from h);obtain⟨p0,w,y,v,_⟩:=hd d (ya b);refine⟨d,b,f,i,?_⟩;have st:∀m,m<t+1->goF ds t m=goF ds (t+1) m:=by
  rcases zlG hd t with s | c
  ·exact s
  ·have:0<zbJ (t+1) (goF ds (t+1)):=by
    have u:zbJ (t+1) (λ_=>false)=0:=by unfold zbJ;simp
    have:=ziQ (n:=t+1) (p:=goF ds (t+1)) (q:=λ_=>false) (λ_ _ z=>by cases z) ⟨m,o,g,rfl⟩
    lia
   lia
 have l:goF ds (t+1) d.q.toNat=true:=by rw[<- st _ ⋯];exact r
 have e:(zas ds (t+1) d.q.toNat).isSome=true:=l;exact ybj.mp e
noncomputable def zcq (ds:List Due) (n m:Nat):Nat:=match zas ds n m with
 | some j=>match ds[j]? with
  | some d=>d.q.toNat
  | none=>0
 | none=>0
noncomputable def zbu (ds:List Due) (n m:Nat):Int:=match zas ds n m with
 | some j=>j
 | none=>0
def zgl(hd:∀d∈ds,zm n d)(i:m<n)(h:zas ds n m≠none):∃j d,zas ds n m=some j/\ds[j]?=some d/\d.p=(m:Int)/\0<d.a/\d.q=(zcq ds n m:Int)/\zcq ds n m<n/\zas ds n (zcq ds n m)≠none/\zbu ds n m=(j:Int):=by
 cases e:zas ds n m with
 | none=>exact absurd e h
 | some j=>
  obtain⟨d,b,f,ha,k,l⟩:=ztg hd i e;obtain⟨p0,o,s,r,_⟩:=hd d (ya b);have c:zcq ds n m=d.q.toNat:=by unfold zcq;rw[e];simp only;rw[b]
  have g:zbu ds n m=(j:Int):=by unfold zbu;rw[e]
  exact⟨j,d,rfl,b,f,ha,by rw[c];lia,by rw[c];lia,by rw[c,l];exact Option.some_ne_none k,g⟩
noncomputable def goL (ds:List Due) (n i:Nat):List Nat:=(List.range i).filter λm=>(zas ds n m).isSome
def zq4:goL ds n (i+1)=goL ds n i++if(zas ds n i).isSome=true then[i] else[]:=by
 unfold goL;rw[yy,yaP];congr 1;by_cases h:(zas ds n i).isSome=true
 ·rw[if_pos h];simp[h]
 ·rw[if_neg h];simp[h]
def mem_goL:m∈goL ds n i↔m<i/\(zas ds n m).isSome=true:=by unfold goL;simp
structure Walked(ds:List Due)(n:Nat)(ms:List Nat)(x:Nat):Prop where
 nd:ms.Nodup
 ok:∀m∈ms,m<n/\zas ds n m≠none
 at':x<n/\zas ds n x≠none
 nx:∀(i m:Nat),ms[i]?=some m->zcq ds n m=(ms++[x])[i+1]?.getD 0
def Walked.step{x:Nat}(hd:∀d∈ds,zm n d)(W:Walked ds n ms x)(k:x∉ms):Walked ds n (ms++[x]) (zcq ds n x):=by
 obtain⟨j,d,h1,h2,q,p,r,l,o,s⟩:=zgl hd W.at'.1 W.at'.2;refine⟨ya8.mpr ⟨W.nd,by simp,λa ha b g e=>k (by rw[ym]at g;subst g;subst e;exact ha)⟩,λm c=>?_,⟨l,o⟩,λi m c=>?_⟩
 ·rcases yH.mp c with h | h
  ·exact W.ok m h
  ·rw[ym.mp h];exact W.at'
 ·by_cases hi:i<ms.length
  ·have e:=W.nx i m (by rw[yO hi]at c;exact c);rw[e,yO (l₁:=ms++[x]) (l₂:=[zcq ds n x]) (by rw[yb];show _<_+1;lia)]
  ·have f:i=ms.length:=by
    have:=(yj.mp c).1
    rw[yb]at this
    have:i<ms.length+1:=this
    lia
   subst f;rw[yaa (yc _),ybX]at c;cases c;rw[yaa (by rw[yb];exact yc _)]
   simp
noncomputable def zba (ms:List Nat):List Int:=ms.map λm:Nat=>(m:Int)
def zhb(ms ks:List Nat):zba (ms++ks)=zba ms++zba ks:=by unfold zba;rw[yk]
def natI_mem{x:Nat}:(x:Int)∈zba ms↔x∈ms:=by
 unfold zba;rw[yX];exact⟨fun⟨y,hy,e⟩=>by rwa [show x=y by lia],λh=>⟨x,h,rfl⟩⟩
def zdV:(zba ms).length=ms.length:=by unfold zba;rw[ye]
def zg8(h:ms[i]?=some m):(zba ms)[i]?=some (m:Int):=by unfold zba;rw[yg,h];rfl
noncomputable def RingOf (ds:List Due) (n:Nat) (a:List Int):Prop:=(a=[]/\∀m,m<n->zas ds n m=none)\/∃ms:List Nat,ms≠[]/\ms.Nodup/\(∀m∈ms,m<n/\zas ds n m≠none)/\a=ms.map (zbu ds n)/\∀(i m:Nat),ms[i]?=some m->zcq ds n m=ms[(i+1)%ms.length]?.getD 0
def Walked.ring{x:Nat}(W:Walked ds n ms x)(b:ms[j]?=some x):RingOf ds n ((ms.drop j).map (zbu ds n)):=by
 have d:j<ms.length:=(yj.mp b).1;refine .inr ⟨ms.drop j,λz=>?_,W.nd.sublist (List.drop_sublist ..),λm a=>W.ok m (List.mem_of_mem_drop a),rfl,λi m a=>?_⟩
 ·have:=congrArg List.length z
  rw[yao,List.length_nil]at this;lia
 ·rw[ya4]at a;have hl:=(yj.mp a).1;rw[W.nx (j+i) m a,yao];by_cases e:j+i+1<ms.length
  ·rw[yO e,Nat.mod_eq_of_lt ⋯,ya4];rfl
  ·have c:j+i+1=ms.length:=by lia
   rw[c,yaa (yc _),ybX,show i+1=ms.length-j by lia,Nat.mod_self,ya4,Nat.add_zero,b];rfl
noncomputable def zkV (K:Fg):Sp:=λvs H Q _=>∃(n:Int) (a:Addr) (ds:List Due),vs=[.int n,.ref a]/\IsSh K H a ds/\1<=n/\n<=100/\ds.length<=1000/\(∀d∈ds,zm n d)/\∀p H' rs,H p=none->Same H H'->H' p=some (.lst (List.map V.int rs))->RingOf ds n.toNat rs->Q (.ref p) H'
def zq0:=λ{K:Fg} {n:Int} {a:Addr} {ds:List Due} {H:Hp} {Q:VK} {E:XK} h h0 h1 hl hd q=>@id (zkV K [.int n,.ref a] H Q E) ⟨n,a,ds,rfl,h,h0,h1,hl,hd,q⟩
def zql{ms:List Int}(h:j<=ms.length):zbS (ms.map V.int) (some (j:Int)) none=(ms.drop j).map V.int:=by
 unfold zbS;rw[HT.sIx_nat,HT.sIx_none,ye,Nat.min_eq_left h,<- List.map_drop,yaj (by rw[ye,yao];exact yc _)]
structure Round(ds:List Due)(n:Nat)(ms:List Nat):Prop where
 ne:ms≠[]
 nd:ms.Nodup
 ok:∀m∈ms,m<n/\zas ds n m≠none
 nx:∀(i m:Nat),ms[i]?=some m->zcq ds n m=ms[(i+1)%ms.length]?.getD 0
def RingOf.cases{a:List Int}(h:RingOf ds n a):(a=[]/\∀m,m<n->zas ds n m=none)\/∃ms,Round ds n ms/\a=ms.map (zbu ds n):=by
 rcases h with h | ⟨ms,h1,h2,c,b,d⟩
 ·exact .inl h
 ·exact .inr ⟨ms,⟨h1,h2,c,d⟩,b⟩
noncomputable def Left (es:List Due) (ls:List Int) (ds:List Due):Prop:=ls.length=es.length/\ds=zy es λi=>ls.getD i 0
def Left.self(ds:List Due):Left ds (ds.map Due.a) ds:=by
 refine⟨ye ..,?_⟩;unfold zy;refine yag λi=>?_;rw[List.getElem?_mapIdx];cases e:ds[i]? with
 | none=>rfl
 | some d=>
  have:(ds.map Due.a).getD i 0=d.a:=by rw[yf,yg,e];rfl
  show some d=some (⟨d.p,d.q,d.r,(ds.map Due.a).getD i 0⟩:Due);rw[this]
open PySem PySem.Spec PyProof.Rows
section
variable {X:Cx}
noncomputable def zkd (K:Fg):List V->Hp->VK->Prop:=λxs H Q=>∃a ns,xs=[.ref a]/\SqL K H a (List.map V.int ns)/\ns≠[]/\∀x,x∈ns->(∀y∈ns,x<=y)->Q (.int x) H
def zpB(J:X.calm=true):CallR X (.builtin "min") (zkd X.K):=by
 intro pins s σ H xs us Q I r h;obtain⟨a,ns,rfl,F,d,q⟩:=h;obtain⟨u,rfl,D⟩:=vals1 r;cases D;obtain⟨its,B,pl,hl,f⟩:=I.walk F;refine call_min_walkS (wpAny_pyIter_list pl ?_);have l:a≠s.heap.objs.size:=yw f;have m:(its.toArray).size=ns.length:=by rw[ye]at hl;simpa using hl
 have c:0<ns.length:=ya0.mpr d;refine⟨_,_,_,_,_,_,_,_,rfl,(Walks.list (prog:=X.prog) (w:=X.w) (A:=X.A.in1) (I.ok.hd J) s.heap.objs.size a l its.toArray).toS,⟨⟨_,Heap.get?_push_size _ rfl,rfl,rfl⟩,pl.at λo e=>Heap.get?_push_of_some _ e⟩,λb C=>?_,by rw[m];exact c,CmpOf.ints_lt (λi=>ns.getD i 0) (λi v k=>zfr B k),λv s' k g=>?_⟩
 ·rw[Heap.size_push];simp only[yA,yaH,or_false]at C;rcases C with rfl | rfl
  ·exact yay _
  ·exact ybq f
 ·obtain⟨t,rfl⟩:=zfr B k;obtain⟨b1,b2⟩:=argBest_lt (λi=>ns.getD i 0) (its.toArray.size-1);rw[m]at b1 b2 ⊢;have x:s'.gens=s.gens:=by have:=g.gens;first | exact this | exact this.symm
  have hd:=g.drawn;have n:=g.os;have p:Inv X pins σ H { s with heap:=s'.heap,toks:=s'.toks }:=I.kept λb o e=>g.heap b o (λz=>by
   simp only[yA,yaH,or_false]at z;subst z;exact absurd (Heap.lt_size e) (yW _)) (Heap.get?_push_of_some _ e)
  have e:({ s with heap:=s'.heap,toks:=s'.toks }:Shared)=s':=by
   cases s';cases s;simp only at x hd n;subst x hd n;rfl
  rw[e]at p;refine⟨.int (ns.getD (argBest (λi j=>decide (ns.getD i 0<ns.getD j 0)) (ns.length-1)) 0),H,p,⟨t,rfl⟩,q _ ?_ λy E=>?_⟩
  ·exact ya (zc4 ⋯)
  ·obtain⟨i,hi,G⟩:=y6 E
   have:=b2 i ⋯
   rwa [show ns.getD i 0=y by rw[yf,yl hi,G];rfl]at this
end
def ztS(h:SqL K H a (ns.map V.int))(ne:ns≠[])(q:∀x,x∈ns->(∀y∈ns,x<=y)->Q (.int x) H):zkd K [.ref a] H Q:=⟨a,ns,rfl,h,ne,q⟩
def zpS(h1:SqL K H a (ns.map V.int))(h2:SqL K H b [])(c:ns≠[])(q:Q (.bl true) H):zeo K (.ref a) (.ref b) H Q:=by
 refine zj8 (.lst h1 (zb3 ns)) (.lst h2 .nil) (by rw[zcK,zcb];lia) ?_;cases ns with
 | nil=>exact absurd rfl c
 | cons n ns=>
  have:PyData.eqv (.list ((n :: ns).map PyData.int)) (.list [])=false:=by simp[PyData.eqv,PyData.eqvAll]
  rw[this];exact q
def zbh{g:Nat->Int}(h:∀i,i<es.length->f i=g i):zy es f=zy es g:=by
 refine yag λi=>?_;by_cases hi:i<es.length
 ·obtain⟨d,hd⟩:=zw hi;rw[zcA hd,zcA hd,h i hi]
 ·rw[yG (by rw[zbf];lia),yG (by rw[zbf];lia)]
def zkx(es:List Due)(g:Nat->Int):Left es (vec es.length g) (zy es g):=by
 refine⟨zO,zbh λi hi=>?_⟩;rw[yf,zae hi];rfl
noncomputable def amF (es:List Due) (i:Nat):Int:=(es.map Due.a).getD i 0
def zsl(es:List Due):es.map Due.a=vec es.length (amF es):=by
 have:=zpd (es.map Due.a)
 rw[ye]at this;exact this
def zk2(es:List Due):zy es (amF es)=es:=(Left.self es).2.symm
def zbo(h:es[i]?=some d):amF es i=d.a:=by
 unfold amF;rw[yf,yg,h];rfl
def ze6{n:Int}{g:Nat->Int}(hd:∀d∈es,zm n d)(b:∀i,i<es.length->0<=g i/\g i<=100000000000000):∀d∈zy es g,zm n d:=by
 intro d h;obtain⟨i,hi,o⟩:=y6 h;have a:i<es.length:=by rw[zbf]at hi;exact hi
 obtain⟨e,c⟩:=zw a;have h2:=zcA (m:=g) c;rw[yl hi,o]at h2;cases h2;obtain⟨p0,l,p,j,q,f,k,r,a1⟩:=hd e (ya c);exact⟨p0,l,p,j,q,f,k,(b i a).1,(b i a).2⟩
noncomputable def zaI (ds:List Due) (n m:Nat):Nat:=(zbu ds n m).toNat
def Round.num{g:Nat->Int}(hd:∀d∈zy es g,zm n d)(R:Round (zy es g) n ms)(f:m∈ms) :
  ∃e,es[zaI (zy es g) n m]?=some e/\0<g (zaI (zy es g) n m)/\e.p=(m:Int)/\e.q=(zcq (zy es g) n m:Int)/\zbu (zy es g) n m=(zaI (zy es g) n m:Int):=by
 obtain⟨j,d,r,a,i,l,o,t,s,b⟩:=zgl hd (R.ok m f).1 (R.ok m f).2;have k:zaI (zy es g) n m=j:=by unfold zaI;rw[b];rfl
 have h:j<es.length:=by have:=(yj.mp a).1;rwa [zbf]at this
 obtain⟨e,c⟩:=zw h;rw[zcA c]at a;cases a;rw[k];exact⟨e,c,l,i,o,b⟩
def Round.num_inj{g:Nat->Int}(hd:∀d∈zy es g,zm n d)(R:Round (zy es g) n ms){b:Nat}(h:m∈ms)(c:b∈ms)(e:zaI (zy es g) n m=zaI (zy es g) n b):m=b:=by
 obtain⟨d,h1,_,h2,_⟩:=R.num hd h;obtain⟨d',a,_,f,_⟩:=R.num hd c;rw[<- e,h1]at a;cases a;lia
def Round.num_new{g:Nat->Int}(hd:∀d∈zy es g,zm n d)(R:Round (zy es g) n ms){x:Nat}(b:ms[k]?=some x):zaI (zy es g) n x∉(ms.take k).map (zaI (zy es g) n):=by
 intro z;obtain⟨y,e,f⟩:=yX.mp z;have a:=ybz e
 have:=R.num_inj hd a (ya b) f
 subst this;obtain⟨u,h,c⟩:=y6 e;rw[yas]at h;rw[List.getElem_take]at c;have a1:ms[u]?=some y:=by rw[yl ⋯,c]
 have:u=k:=zbq R.nd a1 b
 lia
noncomputable def zcF (g:Nat->Int) (a:List Nat) (f:Int) (i:Nat):Int:=if i∈a then g i-f else g i
def zjL{g:Nat->Int}{a:List Nat}{f:Int}(h:j∉a)(i:Nat):zcF g (a++[j]) f i=if i=j then g j-f else zcF g a f i:=by
 unfold zcF;by_cases e:i=j
 ·subst e;rw[if_pos (by simp),if_pos rfl]
 ·rw[if_neg e];by_cases b:i∈a
  ·rw[if_pos (by simp[b]),if_pos b]
  ·rw[if_neg (by simp[e,b]),if_neg b]
def zg6{g:Nat->Int}{a:List Nat}{f:Int}(h:j∉a):zcF g a f j=g j:=if_neg h
structure CutAt(es:List Due)(n:Nat)(g:Nat->Int)(ms:List Nat)(f:Int)(g':Nat->Int):Prop where
 rd:Round (zy es g) n ms
 le:∀m∈ms,f<=g (zaI (zy es g) n m)
 at':∃m∈ms,f=g (zaI (zy es g) n m)
 eq:∀i,g' i=zcF g (ms.map (zaI (zy es g) n)) f i
section
variable {es:List Due}{n:Nat}{g g':Nat->Int}{ms:List Nat}{f:Int}
def CutAt.pos(hd:∀d∈zy es g,zm n d)(C:CutAt es n g ms f g'):0<f:=by
 obtain⟨m,a,e⟩:=C.at';obtain⟨_,_,h,_⟩:=C.rd.num hd a;lia
def CutAt.bnd(hd:∀d∈zy es g,zm n d)(C:CutAt es n g ms f g')(b:0<=g i):0<=g' i/\g' i<=g i:=by
 have c:=C.pos hd;rw[C.eq i];unfold zcF;by_cases e:i∈ms.map (zaI (zy es g) n)
 ·rw[if_pos e];obtain⟨m,a,rfl⟩:=yX.mp e
  have:=C.le m a
  lia
 ·rw[if_neg e];lia
noncomputable def zcf:Nat->(Nat->Int)->Nat
 | 0,_=>0
 | k+1,g=>zcf k g+if 0<g k then 1 else 0
theorem zkZ:∀k g,zcf k g<=k
 | 0,_=>yc _
 | k+1,g=>by have:=zkZ k g;unfold zcf;split<;>lia
theorem zmd:∀k,(∀i,i<k->g' i<=g i)->zcf k g'<=zcf k g
 | 0,_=>yc _
 | k+1,h=>by
  have h1:=zmd k λi hi=>h i ⋯;have h2:=h k ⋯;unfold zcf;split<;>split<;>lia
theorem zmF:∀k,(∀i,i<k->g' i<=g i)->∀j,j<k->0<g j->g' j<=0->zcf k g'<zcf k g
 | 0,_,j,hj,_,_=>absurd hj ⋯
 | k+1,h,j,hj,h1,h2=>by
  have b:=h k ⋯;by_cases e:j=k
  ·subst e;have a:=zmd j λi hi=>h i ⋯;unfold zcf;rw[if_pos h1,if_neg ⋯];lia
  ·have a:=zmF k (λi hi=>h i ⋯) j ⋯ h1 h2;unfold zcf;split<;>split<;>lia
def CutAt.cnt(hd:∀d∈zy es g,zm n d)(C:CutAt es n g ms f g')(c:∀i,i<es.length->0<=g i):zcf es.length g'<zcf es.length g:=by
 obtain⟨m,a,e⟩:=C.at';obtain⟨d,h1,h2,_⟩:=C.rd.num hd a;have b:=(yj.mp h1).1;refine zmF _ (λi hi=>(C.bnd hd (c i hi)).2) _ b h2 ?_;rw[C.eq,zcF,if_pos (yX.mpr ⟨m,a,rfl⟩)];lia
theorem zkp{es:List Due}{g:Nat->Int}{j:Nat}{e:Due}{v:Int}(f:es[j]?=some e)(m:Nat):∀t,t<=es.length->zaE ((zy es λi=>if i=j then v else g i).take t) m=zaE ((zy es g).take t) m+if j<t/\e.p=(m:Int)then v-g j else 0
 | 0,_=>by rw[if_neg ⋯];rfl
 | t+1,ht=>by
  obtain⟨d,b⟩:=zw (show t<es.length by lia);rw[zb6 b,zb6 b,za0,za0,zkp f m t ⋯]
  show(if d.p=(m:Int)then _+(if t=j then v else g t)else _)=(if d.p=(m:Int)then _+g t else _)+_
  by_cases c:t=j
  ·subst c;rw[f]at b;cases b;by_cases a:e.p=(m:Int)
   ·rw[if_pos a,if_pos a,if_pos rfl,if_neg ⋯,if_pos ⟨⋯,a⟩];lia
   ·rw[if_neg a,if_neg a,if_neg ⋯,if_neg (λz=>a z.2)]
  ·by_cases a:d.p=(m:Int)
   ·rw[if_pos a,if_pos a,if_neg c];by_cases z:j<t/\e.p=(m:Int)
    ·rw[if_pos z,if_pos ⟨⋯,z.2⟩];lia
    ·rw[if_neg z,if_neg (λy=>z ⟨⋯,y.2⟩)];lia
   ·rw[if_neg a,if_neg a];by_cases z:j<t/\e.p=(m:Int)
    ·rw[if_pos z,if_pos ⟨⋯,z.2⟩]
    ·rw[if_neg z,if_neg (λy=>z ⟨⋯,y.2⟩)]
theorem zhS{es:List Due}{g:Nat->Int}{j:Nat}{e:Due}{v:Int}(f:es[j]?=some e)(m:Nat):∀t,t<=es.length->zaC ((zy es λi=>if i=j then v else g i).take t) m=zaC ((zy es g).take t) m+if j<t/\e.q=(m:Int)then v-g j else 0
 | 0,_=>by rw[if_neg ⋯];rfl
 | t+1,ht=>by
  obtain⟨d,b⟩:=zw (show t<es.length by lia);rw[zb6 b,zb6 b,zaU,zaU,zhS f m t ⋯]
  show(if d.q=(m:Int)then _+(if t=j then v else g t)else _)=(if d.q=(m:Int)then _+g t else _)+_
  by_cases c:t=j
  ·subst c;rw[f]at b;cases b;by_cases a:e.q=(m:Int)
   ·rw[if_pos a,if_pos a,if_pos rfl,if_neg ⋯,if_pos ⟨⋯,a⟩];lia
   ·rw[if_neg a,if_neg a,if_neg ⋯,if_neg (λz=>a z.2)]
  ·by_cases a:d.q=(m:Int)
   ·rw[if_pos a,if_pos a,if_neg c];by_cases z:j<t/\e.q=(m:Int)
    ·rw[if_pos z,if_pos ⟨⋯,z.2⟩];lia
    ·rw[if_neg z,if_neg (λy=>z ⟨⋯,y.2⟩)];lia
   ·rw[if_neg a,if_neg a];by_cases z:j<t/\e.q=(m:Int)
    ·rw[if_pos z,if_pos ⟨⋯,z.2⟩]
    ·rw[if_neg z,if_neg (λy=>z ⟨⋯,y.2⟩)]
def zll{g:Nat->Int}{v:Int}(c:es[j]?=some e)(m:Nat):zF (zy es λi=>if i=j then v else g i) m=zF (zy es g) m+(if e.q=(m:Int)then v-g j else 0)-(if e.p=(m:Int)then v-g j else 0):=by
 have d:=(yj.mp c).1;have h1:=zkp (g:=g) (v:=v) c m es.length (yc _);have h2:=zhS (g:=g) (v:=v) c m es.length (yc _);have f:∀g:Nat->Int,(zy es g).take es.length=zy es g:=λg=>yaj (by rw[zbf];exact yc _);rw[f,f]at h1 h2;unfold zF;rw[h1,h2];by_cases a:e.q=(m:Int)
 ·rw[if_pos a,if_pos ⟨d,a⟩];by_cases b:e.p=(m:Int)
  ·rw[if_pos b,if_pos ⟨d,b⟩];lia
  ·rw[if_neg b,if_neg λz=>b z.2];lia
 ·rw[if_neg a,if_neg λz=>a z.2];by_cases b:e.p=(m:Int)
  ·rw[if_pos b,if_pos ⟨d,b⟩];lia
  ·rw[if_neg b,if_neg λz=>b z.2];lia
theorem zi7(hd:∀d∈zy es g,zm n d)(R:Round (zy es g) n ms)(f:Int)(m:Nat){l:Nat}(o:ms[0]?=some l):∀k,1<=k->k<=ms.length ->
  zF (zy es (zcF g ((ms.take k).map (zaI (zy es g) n)) f)) m=zF (zy es g) m+(if l=m then f else 0)-(if ms[k%ms.length]?.getD 0=m then f else 0)
 | 0,h,_=>absurd h ⋯
 | k+1,_,hk=>by
  obtain⟨x,c⟩:=zw (show k<ms.length by lia);obtain⟨e,q,u,t,p,v⟩:=R.num hd (ya c);have j:=R.nx k x c;have b:=R.num_new hd c;have r:zy es (zcF g ((ms.take (k+1)).map (zaI (zy es g) n)) f)=zy es (λi=>if i=zaI (zy es g) n x then g (zaI (zy es g) n x)-f else zcF g ((ms.take k).map (zaI (zy es g) n)) f i):=by
   rw[zH c,yk];exact zbh λi _=>zjL b i
  rw[r,zll q,zg6 b,t,p,j];have last:(if(x:Int)=(m:Int)then g (zaI (zy es g) n x)-f-g (zaI (zy es g) n x)else 0)=(if x=m then -f else 0):=by
   by_cases a:x=m
   ·subst a;rw[if_pos rfl,if_pos rfl];lia
   ·rw[if_neg a,if_neg ⋯]
  have next:(if((ms[(k+1)%ms.length]?.getD 0:Nat):Int)=(m:Int)then g (zaI (zy es g) n x)-f-g (zaI (zy es g) n x)else 0)=(if ms[(k+1)%ms.length]?.getD 0=m then -f else 0):=by
   by_cases a:ms[(k+1)%ms.length]?.getD 0=m
   ·rw[if_pos a,if_pos ⋯];lia
   ·rw[if_neg a,if_neg ⋯]
  rw[last,next];by_cases s:k=0
  ·subst s;rw[o]at c;cases c
   have:zy es (zcF g ((ms.take 0).map (zaI (zy es g) n)) f)=zy es g:=zbh λi _=>if_neg (by simp)
   rw[this];split<;>split<;>lia
  ·rw[zi7 hd R f m o k ⋯ ⋯,Nat.mod_eq_of_lt (show k<ms.length by lia),c];show _+_-(if x=m then f else 0)+_-_=_;split<;>split<;>split<;>lia
def CutAt.nets(hd:∀d∈zy es g,zm n d)(C:CutAt es n g ms f g')(m:Nat):zF (zy es g') m=zF (zy es g) m:=by
 have hl:0<ms.length:=ya0.mpr C.rd.ne;obtain⟨b,a⟩:=zw hl
 have:=zi7 hd C.rd f m a ms.length hl (yc _)
 rw[yr,Nat.mod_self,a]at this;rw[zbh (f:=g') λi _=>C.eq i,this];show _+_-(if b=m then f else 0)=_;lia
end
noncomputable def Cuts (es:List Due) (n:Nat) (L:Nat->Nat->Int) (cs:List (List Nat × Int)):Prop:=∀(t:Nat) (c:List Nat × Int),cs[t]?=some c->CutAt es n (L t) c.1 c.2 (L (t+1))
section
variable {es:List Due}{n:Nat}{L:Nat->Nat->Int}{cs:List (List Nat × Int)}
theorem Cuts.bnd(hd:∀d∈es,zm n d)(C:Cuts es n L cs)(b:∀i,i<es.length->L 0 i=amF es i):∀t,t<=cs.length->∀i,i<es.length->0<=L t i/\L t i<=amF es i
 | 0,_,i,hi=>by
  obtain⟨e,a⟩:=zw hi;obtain⟨_,_,_,_,_,_,_,g,_⟩:=hd e (ya a);rw[b i hi,zbo a];lia
 | t+1,ht,i,hi=>by
  have h1:=C.bnd hd b t ⋯ i hi;obtain⟨c,f⟩:=zw (show t<cs.length by lia);have h2:=(C t c f).bnd (ze6 hd λi hi=>by
   have:=C.bnd hd b t ⋯ i hi
   obtain⟨e,a⟩:=zw hi;obtain⟨_,_,_,_,_,_,_,g,a1⟩:=hd e (ya a);rw[zbo a]at this;lia) h1.1
  lia
def Cuts.ok(hd:∀d∈es,zm n d)(C:Cuts es n L cs)(c:∀i,i<es.length->L 0 i=amF es i){t:Nat}(b:t<=cs.length):∀d∈zy es (L t),zm n d:=
 ze6 hd λi hi=>by
  have:=C.bnd hd c t b i hi
  obtain⟨e,a⟩:=zw hi;obtain⟨_,_,_,_,_,_,_,f,a1⟩:=hd e (ya a);rw[zbo a]at this;lia
theorem Cuts.nets(hd:∀d∈es,zm n d)(C:Cuts es n L cs)(a:∀i,i<es.length->L 0 i=amF es i)(m:Nat):∀t,t<=cs.length->zF (zy es (L t)) m=zF es m
 | 0,_=>by rw[zbh a,zk2]
 | t+1,ht=>by
  obtain⟨c,b⟩:=zw (show t<cs.length by lia);rw[(C t c b).nets (C.ok hd a ⋯),C.nets hd a m t ⋯]
def Cuts.snoc{f:Int}{g':Nat->Int}(C:Cuts es n L cs)(c:CutAt es n (L cs.length) ms f g'):Cuts es n (λt=>if t=cs.length+1 then g' else L t) (cs++[(ms,f)]):=by
 intro t d hd;rw[yaK]at hd;split at hd
 ·rename_i b;show CutAt es n (if t=cs.length+1 then g' else L t) d.1 d.2 (if t+1=cs.length+1 then g' else L (t+1));rw[if_neg ⋯,if_neg ⋯];exact C t d hd
 ·rename_i b;have a:t-cs.length=0:=by
   cases e:t-cs.length with
   | zero=>rfl
   | succ k=>rw[e]at hd;cases hd
  rw[a]at hd;cases hd;obtain rfl:t=cs.length:=by lia
  show CutAt es n (if cs.length=cs.length+1 then g' else L cs.length) ms f (if cs.length+1=cs.length+1 then g' else L (cs.length+1));rw[if_neg ⋯,if_pos rfl];exact c
end
noncomputable def IsCuts (es:List Due) (n:Nat) (L:Nat->Nat->Int) (bad:List Addr) (cs:List (List Nat × Int)) (H:Hp) (vs:List V):Prop:=
 vs.length=cs.length/\∀(t:Nat) (c:List Nat × Int),cs[t]?=some c->∃(b r:Addr),vs[t]?=some (V.ref b)/\H b=some (HO.tup [.ref r,.int c.2])/\H r=some (.lst ((c.1.map (zbu (zy es (L t)) n)).map V.int))/\r∉bad
section
variable {es:List Due}{n:Nat}{L L':Nat->Nat->Int}{cs:List (List Nat × Int)}{bad:List Addr}{H H':Hp}{vs:List V}
def IsCuts.same(h:IsCuts es n L bad cs H vs)(e:Same H H'):IsCuts es n L bad cs H' vs:=
 ⟨h.1,λt c a=>by obtain⟨b,r,h1,h2,f,d⟩:=h.2 t c a;exact⟨b,r,h1,e.at h2,e.at f,d⟩⟩
def IsCuts.but(h:IsCuts es n L bad cs H vs)(g:LBut a H H')(ha:a∈bad):IsCuts es n L bad cs H' vs:=
 ⟨h.1,λt c e=>by obtain⟨b,r,h1,h2,f,d⟩:=h.2 t c e;exact⟨b,r,h1,g.tup h2,g.lst f (λz=>d (z▸ha)),d⟩⟩
def IsCuts.congr(h:IsCuts es n L bad cs H vs)(e:∀t,t<cs.length->L t=L' t):IsCuts es n L' bad cs H vs:=
 ⟨h.1,λt c a=>by
  obtain⟨b,r,h1,h2,d,f⟩:=h.2 t c a;rw[e t (yj.mp a).1]at d;exact⟨b,r,h1,h2,d,f⟩⟩
def IsCuts.snoc{r:Addr}{f:Int}(h:IsCuts es n L bad cs H vs)(q:H b=some (.tup [.ref r,.int f]))(p:H r=some (.lst ((ms.map (zbu (zy es (L cs.length)) n)).map V.int)))(g:r∉bad):IsCuts es n L bad (cs++[(ms,f)]) H (vs++[.ref b]):=by
 refine⟨by rw[yb,yb,h.1];rfl,λt c a=>?_⟩;rw[yaK]at a;split at a
 ·rename_i d;obtain⟨i,o,h1,h2,m,l⟩:=h.2 t c a;exact⟨i,o,by rw[yO (by rw[h.1];exact d)];exact h1,h2,m,l⟩
 ·rename_i d;have j:t-cs.length=0:=by
   cases e:t-cs.length with
   | zero=>rfl
   | succ k=>rw[e]at a;cases a
  rw[j]at a;cases a;obtain rfl:t=cs.length:=by lia
  exact⟨b,r,by rw[yaa (by rw[h.1];exact yc _),h.1,ybX];rfl,q,p,g⟩
end
noncomputable def zpE (es:List Due) (n:Int) (a l c:Addr) (H:Hp) (q:Nat) (σ:St) (H':Hp):Prop:=∃(r:Addr) (rs:List Int) (vs:List V) (L:Nat->Nat->Int) (cs:List (List Nat × Int)) (f5 f6:Option V),σ=[some (.int n),some (.ref a),some (.ref l),some (.ref c),some (.ref r),f5,f6]/\H' l=some (.lst ((vec es.length (L cs.length)).map V.int))/\H' c=some (.lst vs)/\H' r=some (.lst (rs.map V.int))/\r∉[l,c]/\IsCuts es n.toNat L [l,c] cs H' vs/\Cuts es n.toNat L cs/\(∀i,i<es.length->L 0 i=amF es i)/\RingOf (zy es (L cs.length)) n.toNat rs/\cs.length+zcf es.length (L cs.length)<=es.length/\Same H H'/\q=zcf es.length (L cs.length)
noncomputable def zm5 (K:Fg):Sp:=λvs H Q _=>∃(n:Int) (a:Addr) (es:List Due),vs=[.int n,.ref a]/\IsSh K H a es/\1<=n/\n<=100/\es.length<=1000/\(∀d∈es,zm n d) /\
 ∀p l c H' vs L cs,H p=none->H l=none->H c=none->Same H H'->H' p=some (.tup [.ref l,.ref c])->H' l=some (.lst ((vec es.length (L cs.length)).map V.int))->H' c=some (.lst vs)->IsCuts es n.toNat L [l,c] cs H' vs->Cuts es n.toNat L cs->(∀i,i<es.length->L 0 i=amF es i)->RingOf (zy es (L cs.length)) n.toNat []->cs.length<=es.length->Q (.ref p) H'
def zsn:=λ{K:Fg} {n:Int} {a:Addr} {es:List Due} {H:Hp} {Q:VK} {E:XK} h h0 h1 hl hd q=>@id (zm5 K [.int n,.ref a] H Q E) ⟨n,a,es,rfl,h,h0,h1,hl,hd,q⟩
open PySem PySem.Spec PyProof.Rows Dt
structure Gr(n:Nat)(ds:List Due)(ps:List Int)(qs:List Rat):Prop where
 len:qs.length=n
 nn:∀q∈qs,0<=q
 fix:∀m,m<n->qs.getD m 0=zbN ds ps qs m
 top:∀s:List Rat,s.length=n->(∀q∈s,0<=q)->(∀m,m<n->s.getD m 0<=zbN ds ps s m)->LeL s qs
def Clr.gr{ps:List Int}{W P:Rat}(C:Clr n ds ps W P)(h:COk n ds (pQ ps) (prodN (λ_=>W) n*P*W) k "0d".1 "0d".2)(a:zbX n ds "0d".1 "0d".2):Gr n ds ps (zaz n ds ps k):=
 ⟨zdN,λq c=>(C.wide h q c).1,λm d=>by
  rw[show(zaz n ds ps k).getD m 0=((List.range ps.length).map (zbN ds ps (zaz n ds ps k))).getD m 0 by rw[C.next h a],zlv (by rw[C.pl];exact d)],λs h1 h2 b=>C.great h a h1 h2 b⟩
section
variable {n:Nat}{ds:List Due}{g:Nat->Int}{ps:List Int}{qs qs':List Rat}{full:Nat->Bool}
def zq3(ds:List Due):(∀d∈ds,0<=d.a)->∀d∈ds,d.p=(m:Int)->d.r=(r:Int)->d.a<=zA ds m r:=
 zaH (P:=λds=>(∀d∈ds,0<=d.a)->∀d∈ds,d.p=(m:Int)->d.r=(r:Int)->d.a<=zA ds m r) (λ_ _ h=>nomatch h) (λes e i h d b g c=>by
  have f:=λd b=>h d (yv _ b);have h1:=h e (yq _ (.head _));have h2:=zc5 (m:=m) (r:=r) es f;rw[zaB];rcases yH.mp b with z | z
  ·have:=i f d z g c
   split<;>lia
  ·rw[ym]at z;subst z;rw[if_pos ⟨g,c⟩];lia) ds
def zlH(ds:List Due)(m:Nat):zaP ds m=zR (zA ds m) 3:=by unfold zaP zR;rw[zdB]
def zl2(hd:∀d∈ds,zm n d)(f:d∈ds)(h:qs.getD d.p.toNat 0=zaP ds d.p.toNat):zS ds qs d=((d.a:Int):Rat):=by
 obtain⟨p0,s,v,k,u,j,o,l,a1⟩:=hd d f;have e:∀r,r<3->0<=zA ds d.p.toNat r:=λr _=>zdP hd _ r;have i:d.r.toNat<3:=by lia
 have w:=zq3 (m:=d.p.toNat) (r:=d.r.toNat) ds (λd h=>(hd d h).2.2.2.2.2.2.2.1) d f ⋯ ⋯;have g:=zcB e (a:=d.r.toNat+1) (b:=3) ⋯ (yc _);have t:=zbt (zA ds d.p.toNat) d.r.toNat;have c:(0:Rat)<=zR (zA ds d.p.toNat) 3:=zcB e (a:=0) (b:=3) "0a" (yc _);unfold zS;rw[h,zlH];unfold zY;by_cases z:0<zA ds d.p.toNat d.r.toNat
 ·have q:=za3 z;rw[if_pos z,zf8 c e i,if_neg (by grind),if_pos g,ybf,ybK _ (by grind)];grind
 ·rw[if_neg z]
  have:d.a=0:=by lia
  rw[this];rw[show((0:Int):Rat)=0 from rfl];grind
structure SafeC(n:Nat)(ds:List Due)(full:Nat->Bool)(g:Nat->Int):Prop where
 bd:∀i,i<ds.length->0<=g i/\g i<=amF ds i
 off:∀i d,ds[i]?=some d->(full d.p.toNat=false\/full d.q.toNat=false)->g i=d.a
 net:∀m,m<n->zF (zy ds g) m=zF ds m
abbrev zvO(n:Nat)(ds':List Due)(full:Nat->Bool)(qs:List Rat):List Rat:="0e".map λm=>if full m=true then zaP ds' m else qs.getD m 0
def ztd(hd:∀d∈ds,zm n d)(m:Nat):0<=zaP ds m:=by
 rw[zlH];exact zcB (a:=0) (b:=3) (λr _=>zdP hd _ r) "0a" (yc _)
end
section
variable {n:Nat}{ds:List Due}{ps:List Int}{W P:Rat}{k:Nat}
end
open PySem PySem.Spec PyProof.Rows
noncomputable def zau (ds:List Due) (r:Int) (i j:Nat):Int:=ds.foldl (fun(s:Int) (d:Due)=>if d.r=r/\d.p=(i:Int)/\d.q=(j:Int)then s+d.a else s) 0
def ze8(ds:List Due)(d:Due)(r:Int)(i j:Nat):zau (ds++[d]) r i j=if d.r=r/\d.p=(i:Int)/\d.q=(j:Int)then zau ds r i j+d.a else zau ds r i j:=by unfold zau;rw[yaf];rfl
def zn6{r:Int}(p0:0<=d.p)(f:0<=d.q)(c:d.r=r)(i j:Nat):(if i=d.p.toNat then λj=>if j=d.q.toNat then zau ds r d.p.toNat d.q.toNat+d.a else zau ds r d.p.toNat j else zau ds r i) j=zau (ds++[d]) r i j:=by
 rw[ze8];by_cases e:i=d.p.toNat
 ·rw[if_pos e];by_cases b:j=d.q.toNat
  ·rw[if_pos (show d.r=r/\d.p=(i:Int)/\d.q=(j:Int) by lia)]
   show(if j=d.q.toNat then _ else _)=_
   rw[if_pos b,e,b]
  ·rw[if_neg (show ¬(d.r=r/\d.p=(i:Int)/\d.q=(j:Int)) by lia)]
   show(if j=d.q.toNat then _ else _)=_
   rw[if_neg b,e]
 ·rw[if_neg e,if_neg (show ¬(d.r=r/\d.p=(i:Int)/\d.q=(j:Int)) by lia)]
def zpG{r:Int}(a:¬d.r=r)(i j:Nat):zau ds r i j=zau (ds++[d]) r i j:=by
 rw[ze8,if_neg λz=>a z.1]
def zdH{r:Int}:∀(ds:List Due),(∀d∈ds,0<=d.a/\d.a<=1000000000000)->0<=zau ds r i j/\zau ds r i j<=1000000000000*(ds.length:Int):=by
 intro ds
 suffices h:∀t,t<=ds.length->(∀d∈ds,0<=d.a/\d.a<=1000000000000)->0<=zau (ds.take t) r i j/\zau (ds.take t) r i j<=1000000000000*(t:Int) by
  intro hd
  have:=h ds.length (yc _) hd
  rwa [yr]at this
 intro t
 induction t with
 | zero=>intro _ _;exact⟨yC 0,yC 0⟩
 | succ t ih=>
  intro c hd;obtain⟨d,b⟩:=zw (show t<ds.length by lia);have h1:=ih ⋯ hd;have h2:=hd d (ya b);rw[zH b,ze8];split<;>lia
noncomputable def zco (ds:List Due) (r i j:Nat):List Due:=
 if 0<zau ds r i j-zau ds r j i then[⟨i,j,r,zau ds r i j-zau ds r j i⟩]
 else if zau ds r i j-zau ds r j i<0 then[⟨j,i,r,-(zau ds r i j-zau ds r j i)⟩] else[]
def zjJ:(zco ds r i j).length<=1:=by unfold zco;split;exact yc _;split;exact yc _;exact yM _
noncomputable def zcH (ds:List Due) (r i k:Nat):List Due:=(List.range k).flatMap λt=>zco ds r i (i+1+t)
noncomputable def zcm (ds:List Due) (n r k:Nat):List Due:=(List.range k).flatMap λi=>zcH ds r i (n-(i+1))
noncomputable def zcN (ds:List Due) (n k:Nat):List Due:=(List.range k).flatMap λr=>zcm ds n r n
noncomputable def zbR (ds:List Due) (n:Nat):List Due:=zcN ds n 3
def zc7:zcH ds r i (k+1)=zcH ds r i k++zco ds r i (i+1+k):=by unfold zcH;rw[yy,ybg];simp
def zgE:zcm ds n r (k+1)=zcm ds n r k++zcH ds r k (n-(k+1)):=by unfold zcm;rw[yy,ybg];simp
def zgD:zcN ds n (k+1)=zcN ds n k++zcm ds n k n:=by unfold zcN;rw[yy,ybg];simp
theorem zeY{ds:List Due}{r i:Nat}:∀k,(zcH ds r i k).length<=k
 | 0=>yc _
 | k+1=>by
  have:=zeY (ds:=ds) (r:=r) (i:=i) k
  have:=zjJ (ds:=ds) (r:=r) (i:=i) (j:=i+1+k)
  rw[zc7,yb];lia
theorem ze7{ds:List Due}{n r m:Nat}(a:n<=m):∀k,(zcm ds n r k).length<=m*k
 | 0=>yM _
 | k+1=>by
  have:=ze7 (ds:=ds) (n:=n) (r:=r) a k
  have:=zeY (ds:=ds) (r:=r) (i:=k) (n-(k+1))
  rw[zgE,yb,Nat.mul_succ];lia
theorem zhx{ds:List Due}{n m:Nat}(a:n<=m):∀k,(zcN ds n k).length<=m*m*k
 | 0=>yM _
 | k+1=>by
  have:=zhx (ds:=ds) a k
  have:=ze7 (ds:=ds) (r:=k) a n
  have:=yaZ m a
  rw[zgD,yb,Nat.mul_succ];lia
def zhA(h:d∈zbR ds n):∃r i j,r<3/\i<j/\j<n/\d∈zco ds r i j:=by
 obtain⟨r,b,h⟩:=ybY.mp h;obtain⟨i,hi,h⟩:=ybY.mp h;obtain⟨t,a,h⟩:=ybY.mp h
 have:=yF.mp b
 have:=yF.mp hi
 have:=yF.mp a
 exact⟨r,i,i+1+t,⋯,⋯,⋯,h⟩
def zn0(hd:∀d∈ds,0<=d.a/\d.a<=1000000000000)(hl:ds.length<=100):∀d∈zbR ds n,zm n d:=by
 intro d h;obtain⟨r,i,j,b,hi,c,h⟩:=zhA h;have b1:=zdH (r:=r) (i:=i) (j:=j) ds hd;have b2:=zdH (r:=r) (i:=j) (j:=i) ds hd;unfold zco at h;split at h
 ·rw[ym.mp h];unfold zm;dsimp only;lia
 ·split at h
  ·rw[ym.mp h];unfold zm;dsimp only;lia
  ·cases h
noncomputable def zfX (K:Fg):Sp:=λvs H Q _=>∃(n:Int) (a:Addr) (r:Int) (ds:List Due),vs=[.int n,.ref a,.int r]/\IsSh K H a ds/\1<=n/\n<=100/\(∀d∈ds,zm n d) /\
 ∀l H' as,H l=none->Same H H'->H' l=some (.lst (List.map V.ref as))->as.length=n.toNat->Rows H' as n.toNat (zau ds r)->(∀b∈as,H b=none)->Q (.ref l) H'
def zlV:=λ{K:Fg} {n:Int} {a:Addr} {r:Int} {ds:List Due} {H:Hp} {Q:VK} {E:XK} h h0 h1 hd q=>@id (zfX K [.int n,.ref a,.int r] H Q E) ⟨n,a,r,ds,rfl,h,h0,h1,hd,q⟩
noncomputable def zgW (K:Fg):Sp:=λvs H Q _=>∃(n:Int) (a:Addr) (ds:List Due),vs=[.int n,.ref a]/\IsSh K H a ds/\1<=n/\n<=100/\(∀d∈ds,zm n d) /\
 ∀l H' vs,H l=none->Same H H'->H' l=some (.lst vs)->IsTs zad H' vs (zbR ds n.toNat)->Q (.ref l) H'
def znf:=λ{K:Fg} {n:Int} {a:Addr} {ds:List Due} {H:Hp} {Q:VK} {E:XK} h h0 h1 hd q=>@id (zgW K [.int n,.ref a] H Q E) ⟨n,a,ds,rfl,h,h0,h1,hd,q⟩
section
variable {prog:Program}{w:World}{A:Around}{E:Value->Shared->Prop}{s:Shared}
end
noncomputable def zah (g:Due->Int):List Due->Int
 | []=>0
 | d :: ds=>g d+zah g ds
section
variable {g h:Due->Int}
theorem zel:∀(ds es:List Due),zah g (ds++es)=zah g ds+zah g es
 | [],es=>by show zah g es=0+zah g es;lia
 | d :: ds,es=>by show g d+zah g (ds++es)=g d+zah g ds+zah g es;rw[zel ds es];lia
theorem zlJ:∀ds:List Due,zah (λd=>g d-h d) ds=zah g ds-zah h ds
 | []=>rfl
 | d :: ds=>by show g d-h d+zah (λd=>g d-h d) ds=(g d+zah g ds)-(h d+zah h ds);rw[zlJ ds];lia
theorem zd5(f:Nat->List Due):∀k,zah g ((List.range k).flatMap f)=My.sumTo (λt=>zah g (f t)) k
 | 0=>rfl
 | k+1=>by rw[yy,ybg,zel,zd5 f k];simp[My.sumTo]
theorem zlg{M:Int}:∀ds:List Due,(∀d∈ds,-M<=g d/\g d<=M)->-(M*ds.length)<=zah g ds/\zah g ds<=M*ds.length
 | [],_=>by simp[zah]
 | d :: ds,hd=>by
  have h1:=zlg ds λx a=>hd x (yR _ a);have h2:=hd d (yZ ..);have e:M*((d :: ds).length:Int)=M*ds.length+M:=by rw[y9,Int.natCast_succ,yb7,yb6]
  rw[e];show -(M*ds.length+M)<=g d+zah g ds/\g d+zah g ds<=M*ds.length+M;lia
end
theorem zd9(c:Due->Prop)[DecidablePred c]:∀(ds:List Due) (s:Int),ds.foldl (fun(s:Int) (d:Due)=>if c d then s+d.a else s) s=s+zah (λd=>if c d then d.a else 0) ds
 | [],s=>by show s=s+0;lia
 | d :: ds,s=>by
  show ds.foldl _ (if c d then s+d.a else s)=s+((if c d then d.a else 0)+zah _ ds)
  rw[zd9 c ds];by_cases h:c d
  ·rw[if_pos h,if_pos h];lia
  ·rw[if_neg h,if_neg h];lia
noncomputable def wB (r:Int) (i j:Nat) (d:Due):Int:=if d.r=r/\d.p=(i:Int)/\d.q=(j:Int)then d.a else 0
def zeU(ds:List Due)(r:Int)(i j:Nat):zau ds r i j=zah (wB r i j) ds:=by
 unfold zau;rw[zd9 λd:Due=>d.r=r/\d.p=(i:Int)/\d.q=(j:Int)];exact Int.zero_add _
noncomputable def zbw (m:Nat) (d:Due):Int:=(if d.q=(m:Int)then d.a else 0)-(if d.p=(m:Int)then d.a else 0)
def zbW(ds:List Due)(m:Nat):zF ds m=zah (zbw m) ds:=by
 unfold zF zaC zaE;rw[zd9 λd:Due=>d.q=(m:Int),zd9 λd:Due=>d.p=(m:Int)]
 have:=zlJ (g:=λd:Due=>if d.q=(m:Int)then d.a else 0) (h:=λd:Due=>if d.p=(m:Int)then d.a else 0) ds
 show _=zah (λd=>zbw m d) ds;unfold zbw;lia
theorem zbK{f:Nat->Int}{c:Nat}:∀{n:Nat},c<n->(∀k,k<n->k≠c->f k=0)->My.sumTo f n=f c
 | 0,hc,_=>by lia
 | n+1,hc,h=>by
  rw[My.sumTo];by_cases e:c=n
  ·subst e;have z:My.sumTo f c=0:=by
    rw[My.sumTo_congr (g:=λ_=>0) λi hi=>h i ⋯ ⋯];exact zdF c
   lia
  ·rw[zbK ⋯ λk b a=>h k ⋯ a,h n ⋯ (ya9 e)];lia
def zaV(h:∀k,k<n->f k=0):My.sumTo f n=0:=by
 rw[My.sumTo_congr (g:=λ_=>0) h];exact zdF n
theorem zfF(f g:Nat->Int):∀n,My.sumTo (λi=>f i-g i) n=My.sumTo f n-My.sumTo g n
 | 0=>rfl
 | n+1=>by rw[My.sumTo,My.sumTo,My.sumTo,zfF f g n];lia
noncomputable def sum3 (n:Nat) (F:Nat->Nat->Nat->Int):Int:=My.sumTo (λr=>My.sumTo (λi=>My.sumTo (λt=>F r i (i+1+t)) (n-(i+1))) n) 3
def zkQ(n:Nat)(F G:Nat->Nat->Nat->Int):sum3 n (λr i j=>F r i j+G r i j)=sum3 n F+sum3 n G:=by
 unfold sum3;rw[<- My.sumTo_add];refine My.sumTo_congr λr _=>?_;rw[<- My.sumTo_add];refine My.sumTo_congr λi _=>?_;rw[<- My.sumTo_add]
def zhK{F G:Nat->Nat->Nat->Int}(h:∀r i j,r<3->i<j->j<n->F r i j=G r i j):sum3 n F=sum3 n G:=
 My.sumTo_congr λr a=>My.sumTo_congr λi hi=>My.sumTo_congr λt b=>h r i _ a ⋯ ⋯
def ze3{F:Nat->Nat->Nat->Int}(e:r<3)(hi:i<j)(l:j<n)(h:∀d a j',d<3->a<j'->j'<n->¬(d=r/\a=i/\j'=j)->F d a j'=0):sum3 n F=F r i j:=by
 unfold sum3;rw[zbK (c:=r) e λd f b=>zaV λa g=>zaV λt k=>h d a _ f ⋯ ⋯ λz=>b z.1];rw[zbK (c:=i) ⋯ λa g b=>zaV λt k=>h r a _ e ⋯ ⋯ λz=>b z.2.1];rw[zbK (c:=j-(i+1)) ⋯ λt k b=>h r i _ e ⋯ ⋯ λz=>b ⋯];congr 1;lia
def zgr(g:Due->Int)(ds:List Due)(n:Nat):zah g (zbR ds n)=sum3 n λr i j=>zah g (zco ds r i j):=by
 unfold zbR zcN sum3;rw[zd5];refine My.sumTo_congr λr _=>?_;unfold zcm;rw[zd5];refine My.sumTo_congr λi _=>?_;unfold zcH;rw[zd5]
noncomputable def dif (ds:List Due) (r i j:Nat):Int:=zau ds r i j-zau ds r j i
def ze5(g:Due->Int)(d:Due):zah g [d]=g d:=by show g d+0=g d;lia
def zgQ(ds:List Due)(r i j:Nat):zco ds r i j=if 0<dif ds r i j then[⟨i,j,r,dif ds r i j⟩]else if dif ds r i j<0 then[⟨j,i,r,-dif ds r i j⟩] else[]:=rfl
noncomputable def cN (m i j:Nat) (x:Int):Int:=(if j=m then x else 0)-(if i=m then x else 0)
def zuc(m i j:Nat)(x y:Int):cN m i j (x+y)=cN m i j x+cN m i j y:=by unfold cN;split<;>split<;>lia
def ziK(m i j:Nat):cN m i j 0=0:=by unfold cN;split<;>split<;>rfl
def zrY:zah (zbw m) (zco ds r i j)=cN m i j (dif ds r i j):=by
 rw[zgQ];unfold cN;split
 ·rw[ze5];unfold zbw;dsimp only
  (repeat' split)<;>lia
 ·split
  ·rw[ze5];unfold zbw;dsimp only
   (repeat' split)<;>lia
  ·have:dif ds r i j=0:=by lia
   rw[this]
   show(0:Int)=_
   split<;>split<;>rfl
def zkP(d:Due)(ds:List Due)(r i j:Nat):dif (d :: ds) r i j=(wB r i j d-wB r j i d)+dif ds r i j:=by
 unfold dif;rw[zeU,zeU,zeU,zeU]
 show(wB r i j d+_)-(wB r j i d+_)=_
 lia
def zsK(h:zm n d):sum3 n (λr i j=>cN m i j (wB r i j d-wB r j i d))=zbw m d:=by
 obtain⟨p0,v,o,s,w,c,t,_⟩:=h;have er:((d.r.toNat:Nat):Int)=d.r:=ybD c;have u:((d.p.toNat:Nat):Int)=d.p:=ybD p0;have eq:((d.q.toNat:Nat):Int)=d.q:=ybD o;have f:zbw m d=(if d.q.toNat=m then d.a else 0)-(if d.p.toNat=m then d.a else 0):=by unfold zbw;(repeat' split)<;>lia
 rw[f];by_cases b:d.p.toNat<d.q.toNat
 ·rw[ze3 (r:=d.r.toNat) (i:=d.p.toNat) (j:=d.q.toNat) ⋯ b ⋯ λg k l _ h1 _ e=>?_]
  ·unfold cN wB;rw[if_pos (by lia:d.r=((d.r.toNat:Nat):Int)/\d.p=((d.p.toNat:Nat):Int)/\d.q=((d.q.toNat:Nat):Int)),if_neg (by lia:¬(d.r=((d.r.toNat:Nat):Int)/\d.p=((d.q.toNat:Nat):Int)/\d.q=((d.p.toNat:Nat):Int))),Int.sub_zero]
  ·unfold wB;rw[if_neg ⋯,if_neg ⋯];exact ziK _ _ _
 ·rw[ze3 (r:=d.r.toNat) (i:=d.q.toNat) (j:=d.p.toNat) ⋯ ⋯ ⋯ λg k l _ h1 _ e=>?_]
  ·unfold cN wB;rw[if_neg (by lia:¬(d.r=((d.r.toNat:Nat):Int)/\d.p=((d.q.toNat:Nat):Int)/\d.q=((d.p.toNat:Nat):Int))),if_pos (by lia:d.r=((d.r.toNat:Nat):Int)/\d.p=((d.p.toNat:Nat):Int)/\d.q=((d.q.toNat:Nat):Int))];split<;>split<;>lia
  ·unfold wB;rw[if_neg ⋯,if_neg ⋯];exact ziK _ _ _
theorem zgz{n:Nat}{m:Nat}:∀{ds:List Due},(∀d∈ds,zm n d)->sum3 n (λr i j=>cN m i j (dif ds r i j))=zF ds m
 | [],_=>by
  have e:∀r i j,cN m i j (dif [] r i j)=0:=λr i j=>ziK m i j;rw[zbW];show _=(0:Int)
  unfold sum3;exact zaV λr _=>zaV λi _=>zaV λt _=>e _ _ _
 | d :: ds,h=>by
  have a:=zgz (m:=m) λx b=>h x (yR d b);rw[zbW]at a ⊢;show _=zbw m d+zah (zbw m) ds;rw[<- a,<- zsK (h d (yZ ..)),<- zkQ];exact zhK λr i j _ _ _=>by rw[zkP,zuc]
def zkW(h:∀d∈ds,zm n d):zF (zbR ds n)=zF ds:=funext λm=>by
 rw[<- zgz h,zbW,zgr];exact zhK λr i j _ _ _=>zrY
theorem zhE{n:Nat}:∀{ds:List Due},(∀d∈ds,zm n d)->My.sumTo (zF ds) n=0
 | [],_=>zaV λm _=>by rw[zbW];rfl
 | d :: ds,h=>by
  have i:=zhE λx b=>h x (yR d b);obtain⟨p0,o,r,l,s,_⟩:=h d (yZ ..);have e:∀m,zF (d :: ds) m=zbw m d+zF ds m:=λm=>by rw[zbW,zbW];rfl
  rw[My.sumTo_congr (g:=λm=>zbw m d+zF ds m) λm _=>e m,My.sumTo_add,i];have j:My.sumTo (λm=>zbw m d) n=d.a-d.a:=by
   unfold zbw;rw[zfF,zbK (c:=d.q.toNat) ⋯ λk _ f=>if_neg ⋯,zbK (c:=d.p.toNat) ⋯ λk _ f=>if_neg ⋯,if_pos ⋯,if_pos ⋯]
  rw[j];lia
def znJ{N:Int}{x:Int}(a:(i:Int)≠N):zah (zbw m) (zbd N i x)=(if i=m then x else 0)-(if N=(m:Int)then x else 0):=by
 unfold zbd;split
 ·rw[ze5];unfold zbw;dsimp only
  (repeat' split)<;>lia
 ·split
  ·rw[ze5];unfold zbw;dsimp only
   (repeat' split)<;>lia
  ·have:x=0:=by lia
   rw[this]
   show(0:Int)=_
   split<;>split<;>rfl
theorem zjv{N:Int}{m:Nat}{f:Nat->Int}:∀k:Nat,(k:Int)<=N->zah (zbw m) (zbi N f k)=My.sumTo (λi=>(if i=m then f i else 0)-(if N=(m:Int)then f i else 0)) k
 | 0,_=>rfl
 | k+1,h=>by rw[zbi,zel,zjv k ⋯,znJ ⋯];rfl
def zna(b:My.sumTo f n=0)(d:m<n+1):zF (zbi n f n) m=if m<n then f m else 0:=by
 rw[zbW,zjv n (yC _),zfF];by_cases h:m<n
 ·rw[if_pos h,zbK (c:=m) h λk _ a=>if_neg a,if_pos rfl,zaV (f:=λi=>if(n:Int)=(m:Int)then f i else 0) λk _=>if_neg ⋯];lia
 ·have e:m=n:=by lia
  subst e;rw[if_neg h,zaV (f:=λi=>if i=m then f i else 0) λk a=>if_neg ⋯];rw[My.sumTo_congr (g:=f) λk _=>if_pos rfl,b];rfl
theorem zlb{n:Nat}{f:Nat->Int}(a:∀i,-100000000000000<=f i/\f i<=100000000000000):∀k:Nat,k<=n->∀d∈zbi n f k,zm (n+1) d
 | 0,_,_,h=>nomatch h
 | k+1,hk,d,h=>by
  rcases yH.mp h with h | h
  ·exact zlb a k ⋯ d h
  ·have:=a k
   unfold zbd at h;split at h
   ·rw[ym.mp h];unfold zm;dsimp only;lia
   ·split at h
    ·rw[ym.mp h];unfold zm;dsimp only;lia
    ·nomatch h
def zjX(hd:∀d∈ds,0<=d.a/\d.a<=1000000000000)(h:d∈zbR ds n):d.a<=zau ds d.r d.p.toNat d.q.toNat:=by
 obtain⟨r,i,j,b,hi,c,h⟩:=zhA h;have b1:=zdH (r:=r) (i:=i) (j:=j) ds hd;have b2:=zdH (r:=r) (i:=j) (j:=i) ds hd;rw[zgQ]at h;split at h
 ·rw[ym.mp h];dsimp only;rw[yh,yh];unfold dif;lia
 ·split at h
  ·rw[ym.mp h];dsimp only;rw[yh,yh];unfold dif;lia
  ·nomatch h
section
variable {n:Nat}{E:List Due}{c:Due->Int}{π:Nat->Int}{ini:Nat->Option Int}
noncomputable def zdX (n:Nat) (E:List Due):Prop:=∀e∈E,0<=e.p/\e.p<n/\0<=e.q/\e.q<n
noncomputable def zbm (E:List Due) (c:Due->Int) (π:Nat->Int):Prop:=∀e∈E,π e.q.toNat<=π e.p.toNat+c e
inductive SW(E:List Due)(c:Due->Int)(ini:Nat->Option Int):Nat->Int->List Nat->Prop
 | src {v:Nat} {x:Int}:ini v=some x->SW E c ini v x [v]
 | step {u v:Nat} {x:Int} {vs:List Nat} {e:Due}:SW E c ini u x vs->e∈E->e.p=(u:Int)->e.q=(v:Int)->v∉vs->SW E c ini v (x+c e) (v :: vs)
def SW.nodup{v:Nat}{x:Int}{vs:List Nat}(h:SW E c ini v x vs):vs.Nodup:=by
 induction h with
 | src _=>exact yaJ.mpr ⟨λh=>(nomatch h),yaI⟩
 | step _ _ _ _ hn ih=>exact yaJ.mpr ⟨hn,ih⟩
def SW.lt(b:zdX n E)(hi:∀v x,ini v=some x->v<n){v:Nat}{x:Int}{vs:List Nat}(h:SW E c ini v x vs):∀w∈vs,w<n:=by
 induction h with
 | src hx=>intro w a;rw[ym.mp a];exact hi _ _ hx
 | step _ he hp hq _ ih=>
  intro w a;rcases yA.mp a with rfl | h
  ·have:=b _ he;lia
  ·exact ih w h
def SW.len(a:zdX n E)(hi:∀v x,ini v=some x->v<n){v:Nat}{x:Int}{vs:List Nat}(h:SW E c ini v x vs):vs.length<=n:=zdD n vs h.nodup (h.lt a hi)
def SW.here{v:Nat}{x:Int}{vs:List Nat}(h:SW E c ini v x vs):v∈vs:=by cases h<;>exact yZ
def SW.pre(hP:zbm E c π){v:Nat}{x:Int}{vs:List Nat}(h:SW E c ini v x vs):∀w∈vs,∃b a,SW E c ini w b a/\b+(π v - π w)<=x:=by
 induction h with
 | src hx=>
  intro w d;rw[ym.mp d];exact⟨_,_,.src hx,⋯⟩
 | step hs he hp hq hn ih=>
  rename_i u v x vs e;intro w d;rcases yA.mp d with rfl | h
  ·exact⟨_,_,.step hs he hp hq hn,⋯⟩
  ·obtain⟨b,a,h1,h2⟩:=ih w h
   have:=hP e he
   rw[hp,hq,yh,yh]at this;exact⟨b,a,h1,⋯⟩
def SW.more(hP:zbm E c π){u:Nat}{x:Int}{vs:List Nat}(h:SW E c ini u x vs)(i:e∈E){v:Nat}(d:e.p=(u:Int))(f:e.q=(v:Int)):∃b a,SW E c ini v b a/\b<=x+c e:=by
 by_cases g:v∈vs
 ·obtain⟨b,a,h1,h2⟩:=h.pre hP v g
  have:=hP e i
  rw[d,f,yh,yh]at this;exact⟨b,a,h1,⋯⟩
 ·exact⟨_,_,.step h i d f g,yC _⟩
structure Far(n:Nat)(E:List Due)(c:Due->Int)(ini:Nat->Option Int)(F:Nat->Option Int)(b:Nat):Prop where
 real:∀v y,v<n->F v=some y->∃x vs,SW E c ini v x vs/\x<=y
 low:∀v x vs,SW E c ini v x vs->vs.length<=b->∃y,F v=some y/\y<=x
noncomputable def FLe (F a:Nat->Option Int):Prop:=∀v y,F v=some y->∃y',a v=some y'/\y'<=y
def FLe.refl(F:Nat->Option Int):FLe F F:=λv y h=>⟨y,h,yC _⟩
def FLe.trans{F G H:Nat->Option Int}(h:FLe F G)(h':FLe G H):FLe F H:=λv y e=>by
 obtain⟨c,d,l⟩:=h v y e;obtain⟨a,b,l'⟩:=h' v c d;exact⟨a,b,ybZ l' l⟩
noncomputable def relax (c:Due->Int) (F:Nat->Option Int) (e:Due):Nat->Option Int:=match F e.p.toNat with
 | none=>F
 | some y=>match F e.q.toNat with
  | none=>λv=>if v=e.q.toNat then some (y+c e)else F v
  | some z=>if y+c e<z then λv=>if v=e.q.toNat then some (y+c e)else F v else F
def zk7(c:Due->Int)(F:Nat->Option Int)(e:Due):FLe F (relax c F e):=by
 intro v y b;unfold relax;cases h1:F e.p.toNat with
 | none=>exact⟨y,b,yC _⟩
 | some a=>
  dsimp only;cases h2:F e.q.toNat with
  | none=>
   dsimp only;by_cases g:v=e.q.toNat
   ·rw[g,h2]at b;cases b
   ·rw[if_neg g];exact⟨y,b,yC _⟩
  | some z=>
   dsimp only;by_cases k:a+c e<z
   ·rw[if_pos k];by_cases g:v=e.q.toNat
    ·rw[g,h2]at b;cases b;rw[if_pos g];exact⟨_,rfl,⋯⟩
    ·rw[if_neg g];exact⟨y,b,yC _⟩
   ·rw[if_neg k];exact⟨y,b,yC _⟩
def zrf(c:Due->Int)(F:Nat->Option Int)(e:Due){y:Int}(h:F e.p.toNat=some y):∃z,relax c F e e.q.toNat=some z/\z<=y+c e:=by
 unfold relax;rw[h];dsimp only;cases h2:F e.q.toNat with
 | none=>dsimp only;rw[if_pos rfl];exact⟨_,rfl,yC _⟩
 | some z=>
  dsimp only;by_cases k:y+c e<z
  ·rw[if_pos k,if_pos rfl];exact⟨_,rfl,yC _⟩
  ·rw[if_neg k];exact⟨z,h2,⋯⟩
noncomputable def znh (n:Nat) (E:List Due) (c:Due->Int) (ini F:Nat->Option Int):Prop:=∀v y,v<n->F v=some y->∃x vs,SW E c ini v x vs/\x<=y
def zmX(j:zdX n E)(hP:zbm E c π){F:Nat->Option Int}(h:znh n E c ini F)(i:e∈E):znh n E c ini (relax c F e):=by
 intro v y d b;obtain⟨p0,t,u,o⟩:=j e i;unfold relax at b;cases h1:F e.p.toNat with
 | none=>rw[h1]at b;exact h v y d b
 | some a=>
  rw[h1]at b;dsimp only at b;have new:v=e.q.toNat->y=a+c e->∃x vs,SW E c ini v x vs/\x<=y:=λg k=>by
   obtain⟨x,vs,h2,r⟩:=h e.p.toNat a ⋯ h1;obtain⟨m,f,l,s⟩:=h2.more hP i (v:=v) ⋯ ⋯;exact⟨m,f,l,⋯⟩
  cases h2:F e.q.toNat with
  | none=>
   rw[h2]at b;dsimp only at b;by_cases g:v=e.q.toNat
   ·rw[if_pos g]at b;cases b;exact new g rfl
   ·rw[if_neg g]at b;exact h v y d b
  | some z=>
   rw[h2]at b;dsimp only at b;by_cases k:a+c e<z
   ·rw[if_pos k]at b;by_cases g:v=e.q.toNat
    ·rw[if_pos g]at b;cases b;exact new g rfl
    ·rw[if_neg g]at b;exact h v y d b
   ·rw[if_neg k]at b;exact h v y d b
noncomputable def zbv (c:Due->Int) (F:Nat->Option Int) (es:List Due):Nat->Option Int:=es.foldl (relax c) F
def zgA(c:Due->Int)(F:Nat->Option Int)(es:List Due)(e:Due):zbv c F (es++[e])=relax c (zbv c F es) e:=by unfold zbv;rw[yaf];rfl
def ziZ(c:Due->Int)(F:Nat->Option Int)(es:List Due):FLe F (zbv c F es):=by
 induction es generalizing F with
 | nil=>exact FLe.refl F
 | cons e es ih=>exact(zk7 c F e).trans (ih (relax c F e))
theorem zjA(c:Due->Int){e:Due}{y:Int}:∀(es:List Due) (F:Nat->Option Int),e∈es->F e.p.toNat=some y->∃z,zbv c F es e.q.toNat=some z/\z<=y+c e
 | [],_,h,_=>nomatch h
 | e' :: es,F,h,hy=>by
  rcases yA.mp h with rfl | h
  ·obtain⟨z,h1,h2⟩:=zrf c F e hy;obtain⟨b,a,d⟩:=ziZ c (relax c F e) es _ _ h1;exact⟨b,a,⋯⟩
  ·obtain⟨f,h1,h2⟩:=zk7 c F e' _ _ hy;obtain⟨z,a,d⟩:=zjA c es (relax c F e') h h1;exact⟨z,a,⋯⟩
def Far.turn(g:zdX n E)(hP:zbm E c π){F:Nat->Option Int}{b:Nat}(l:1<=b)(h:Far n E c ini F b):Far n E c ini (zbv c F E) (b+1):=by
 have k:∀es:List Due,(∀e∈es,e∈E)->∀F,znh n E c ini F->znh n E c ini (zbv c F es):=by
  intro es
  induction es with
  | nil=>intro _ F h;exact h
  | cons e es ih=>
   intro a F h;exact ih (λe f=>a e (.tail _ f)) _ (zmX g hP h (a e (.head _)))
 refine⟨k E (λ_ h=>h) F h.real,λv x vs a hl=>?_⟩;cases a with
 | src hx=>
  obtain⟨y,h1,h2⟩:=h.low v x [v] (.src hx) l;obtain⟨j,d,i⟩:=ziZ c F E v y h1;exact⟨j,d,⋯⟩
 | step a f hp hq hn=>
  rename_i u x vs e;obtain⟨y,h1,h2⟩:=h.low u x vs a (by simp at hl;lia);obtain⟨z,d,i⟩:=zjA c E F f (y:=y) (by rw[hp,yh];exact h1);rw[hq,yh]at d;exact⟨z,d,⋯⟩
def Far.start:Far n E c ini ini 1:=⟨λv y b a=>⟨y,[v],.src a,yC _⟩,λv x vs h hl=>by
 cases h with
 | src hx=>exact⟨x,hx,yC _⟩
 | step hs he hp hq hn=>
  exfalso
  have:=hs.here
  cases hs with
  | src _=>simp at hl
  | step _ _ _ _ _=>simp at hl⟩
noncomputable def zcR (c:Due->Int) (E:List Due) (ini:Nat->Option Int):Nat->Nat->Option Int
 | 0=>ini
 | t+1=>zbv c (zcR c E ini t) E
theorem zfK(a:zdX n E)(hP:zbm E c π):∀t,Far n E c ini (zcR c E ini t) (t+1)
 | 0=>Far.start
 | t+1=>(zfK a hP t).turn a hP ⋯
structure Short(n:Nat)(E:List Due)(c:Due->Int)(ini F:Nat->Option Int):Prop where
 way:∀v y,v<n->F v=some y->∃vs,SW E c ini v y vs
 low:∀v x vs,SW E c ini v x vs->∃y,F v=some y/\y<=x
def Far.short(f:zdX n E)(hi:∀v x,ini v=some x->v<n){F:Nat->Option Int}{b:Nat}(i:n<=b)(h:Far n E c ini F b):Short n E c ini F:=by
 have hl:∀v x vs,SW E c ini v x vs->∃y,F v=some y/\y<=x:=λv x vs e=>h.low v x vs e (yi (e.len f hi) i);refine⟨λv y g d=>?_,hl⟩;obtain⟨x,vs,h1,h2⟩:=h.real v y g d;obtain⟨k,a,j⟩:=hl v x vs h1;rw[d]at a;cases a
 have:x=y:=by lia
 exact⟨vs,this▸h1⟩
def Short.step(b:zdX n E)(hP:zbm E c π){F:Nat->Option Int}(S:Short n E c ini F)(a:e∈E){y:Int}(g:F e.p.toNat=some y):∃z,F e.q.toNat=some z/\z<=y+c e:=by
 obtain⟨p0,l,m,h⟩:=b e a;obtain⟨vs,h1⟩:=S.way _ y ⋯ g;obtain⟨k,f,h2,i⟩:=h1.more hP a (v:=e.q.toNat) ⋯ ⋯;obtain⟨z,d,j⟩:=S.low _ _ _ h2;exact⟨z,d,⋯⟩
end
noncomputable def zcV (ds:List Due) (l:Nat->Int):Nat->List Due
 | 0=>[]
 | k+1=>zcV ds l k++match ds[k]? with
  | none=>[]
  | some d=>(if l k<d.a then[⟨d.p,d.q,(k:Int),1⟩] else[])++(if 0<l k then[⟨d.q,d.p,(k:Int),-1⟩] else[])
theorem steps_mem{ds:List Due}{l:Nat->Int}{e:Due}:∀{k:Nat},e∈zcV ds l k↔∃(i:Nat) (d:Due),i<k/\ds[i]?=some d/\((l i<d.a/\e=⟨d.p,d.q,(i:Int),1⟩)\/(0<l i/\e=⟨d.q,d.p,(i:Int),-1⟩))
 | 0=>⟨λh=>(nomatch h),fun⟨_,_,h,_⟩=>absurd h (yan _)⟩
 | k+1=>by
  have c:=steps_mem (ds:=ds) (l:=l) (e:=e) (k:=k);unfold zcV;rw[yH,c];constructor
  ·rintro(⟨i,d,h1,h2⟩ | h)
   ·exact⟨i,d,⋯,h2⟩
   ·cases hd:ds[k]? with
    | none=>rw[hd]at h;cases h
    | some d=>
     rw[hd]at h;dsimp only at h;rcases yH.mp h with g | g
     ·by_cases z:l k<d.a
      ·rw[if_pos z]at g;exact⟨k,d,yay _,hd,.inl ⟨z,ym.mp g⟩⟩
      ·rw[if_neg z]at g;cases g
     ·by_cases z:0<l k
      ·rw[if_pos z]at g;exact⟨k,d,yay _,hd,.inr ⟨z,ym.mp g⟩⟩
      ·rw[if_neg z]at g;cases g
  ·rintro⟨i,d,h1,h2,b⟩
   rcases yP (yY h1)with g | g
   ·exact .inl ⟨i,d,g,h2,b⟩
   ·subst g;right;rw[h2];dsimp only;rcases b with⟨z,rfl⟩ | ⟨z,rfl⟩
    ·rw[if_pos z];exact yv _ (.head _)
    ·rw[if_pos z];exact yq _ (.head _)
abbrev opn(ds:List Due)(l:Nat->Int):List Due:=zcV ds l ds.length
section
variable {n:Nat}{ds:List Due}{l:Nat->Int}
def zaT(hd:∀d∈ds,zm n d):zdX n (opn ds l):=λe g=>by
 obtain⟨i,d,h1,h2,f⟩:=steps_mem.mp g;obtain⟨p0,a,c,b,_⟩:=hd d (ya h2);rcases f with⟨_,rfl⟩ | ⟨_,rfl⟩
 ·exact⟨p0,a,c,b⟩
 ·exact⟨c,b,p0,a⟩
def zf7(b:e∈opn ds l):e.a=1\/e.a=-1:=by
 obtain⟨i,d,h1,h2,c⟩:=steps_mem.mp b;rcases c with⟨_,rfl⟩ | ⟨_,rfl⟩
 ·exact .inl rfl
 ·exact .inr rfl
noncomputable def wgt (n:Nat) (e:Due):Int:=e.a*((n:Int)+1)+1
def zgh{p:Nat->Int}(h:zbm (opn ds l) Due.a p):zbm (opn ds l) (wgt n) (λv=>p v*((n:Int)+1)):=λe b=>by
 have h1:=h e b;show p e.q.toNat*((n:Int)+1)<=p e.p.toNat*((n:Int)+1)+(e.a*((n:Int)+1)+1)
 have h2:=yav h1 (show(0:Int)<=(n:Int)+1 by lia);rw[ybs]at h2;lia
def zt9{ini:Nat->Option Int}(hi:∀v x,ini v=some x->x=0){E:List Due}{v:Nat}{x:Int}{vs:List Nat}(h:SW E (wgt n) ini v x vs):∃L:Int,x=L*((n:Int)+1)+((vs.length:Int)-1):=by
 induction h with
 | src hx=>exact⟨0,by rw[hi _ _ hx];simp⟩
 | step _ _ _ _ _ ih=>
  rename_i u v x vs e _ _ _ _ _;obtain⟨L,b⟩:=ih;refine⟨L+e.a,?_⟩;rw[ybs,y9,b];unfold wgt
  push_cast
  lia
end
def zi4(ds:List Due)(d:Due)(m:Nat):zF (ds++[d]) m=zF ds m+(if d.q=(m:Int)then d.a else 0)-(if d.p=(m:Int)then d.a else 0):=by
 unfold zF;rw[zaU,za0];split<;>split<;>lia
theorem sumTo_add{f g:Nat->Int}:∀n,My.sumTo (λm=>f m+g m) n=My.sumTo f n+My.sumTo g n
 | 0=>rfl
 | n+1=>by
  show My.sumTo _ n+(f n+g n)=(My.sumTo f n+f n)+(My.sumTo g n+g n)
  rw[sumTo_add n];lia
theorem zce{f g:Nat->Int}:∀{n:Nat},(∀m,m<n->f m=g m)->My.sumTo f n=My.sumTo g n
 | 0,_=>rfl
 | n+1,h=>by
  show My.sumTo f n+f n=My.sumTo g n+g n;rw[zce λm a=>h m ⋯,h n ⋯]
theorem zfm{x:Int}{j:Nat}:∀{n:Nat},j<n->My.sumTo (λm=>if m=j then x else 0) n=x
 | 0,h=>absurd h (yan _)
 | n+1,h=>by
  show My.sumTo _ n+(if n=j then x else 0)=x;by_cases e:n=j
  ·rw[if_pos e]
   have:∀k,k<=j->My.sumTo (λm=>if m=j then x else 0) k=0:=by
    intro k
    induction k with
    | zero=>intro _;rfl
    | succ k ih=>
     intro a;show My.sumTo _ k+(if k=j then x else 0)=0;rw[ih ⋯,if_neg ⋯];rfl
   rw[this n ⋯];lia
  ·rw[if_neg e,zfm ⋯];lia
theorem zhg{f:Nat->Int}:∀{n:Nat},(∀m,m<n->0<=f m)->0<=My.sumTo f n
 | 0,_=>yC _
 | n+1,h=>by
  have:=zhg (n:=n) λm a=>h m ⋯
  have:=h n ⋯
  show 0<=My.sumTo f n+f n;lia
theorem zgH{f:Nat->Int}{j:Nat}:∀{n:Nat},(∀m,m<n->0<=f m)->j<n->f j<=My.sumTo f n
 | 0,_,h=>absurd h (yan _)
 | n+1,hf,h=>by
  show f j<=My.sumTo f n+f n;have h1:=hf n ⋯;rcases yP (yY h)with g | g
  ·have:=zgH (n:=n) (λm a=>hf m ⋯) g;lia
  ·rw[g]
   have:=zhg (n:=n) λm a=>hf m ⋯
   lia
noncomputable def zcr (R:Nat->Bool) (es a:List Due) (n:Nat):Int:=My.sumTo (λm=>if R m=true then zF es m-zF a m else 0) n
def zhu{R:Nat->Bool}{f:List Due}{x:Int}(p0:0<=d.p)(i:d.p<n)(l:0<=d.q)(j:d.q<n):zcr R (es++[d]) (f++[⟨d.p,d.q,d.r,x⟩]) n=zcr R es f n+(if R d.q.toNat=true then d.a-x else 0)-(if R d.p.toNat=true then d.a-x else 0):=by
 have e:zcr R (es++[d]) (f++[⟨d.p,d.q,d.r,x⟩]) n=My.sumTo (λm=>(if R m=true then zF es m-zF f m else 0)+((if m=d.q.toNat then(if R d.q.toNat=true then d.a-x else 0)else 0)+(if m=d.p.toNat then -(if R d.p.toNat=true then d.a-x else 0)else 0))) n:=zce λm k=>by
  rw[zi4,zi4];dsimp only;by_cases h:m=d.q.toNat
  ·have c:d.q=(m:Int):=by lia
   rw[if_pos h,if_pos c,if_pos c,<- h];by_cases g:m=d.p.toNat
   ·have b:d.p=(m:Int):=by lia
    rw[if_pos g,if_pos b,if_pos b,<- g];split<;>lia
   ·have b:¬d.p=(m:Int):=by lia
    rw[if_neg g,if_neg b,if_neg b];split<;>lia
  ·have c:¬d.q=(m:Int):=by lia
   rw[if_neg h,if_neg c,if_neg c];by_cases g:m=d.p.toNat
   ·have b:d.p=(m:Int):=by lia
    rw[if_pos g,if_pos b,if_pos b,<- g];split<;>lia
   ·have b:¬d.p=(m:Int):=by lia
    rw[if_neg g,if_neg b,if_neg b];split<;>lia
 rw[e,sumTo_add,sumTo_add,zfm ⋯,zfm ⋯];unfold zcr;lia
def zii{g:Nat->Int}{P:List Due->List Due->Prop}(b:P [] [])(c:∀(i:Nat) (d:Due) (es es':List Due),ds[i]?=some d->P es es'->P (es++[d]) (es'++[⟨d.p,d.q,d.r,g i⟩])):P ds (zy ds g):=by
 have a:∀t,t<=ds.length->P (ds.take t) ((zy ds g).take t):=by
  intro t
  induction t with
  | zero=>intro _;exact b
  | succ t ih=>
   intro e;obtain⟨d,hd⟩:=zw (show t<ds.length by lia);rw[zH hd,zb6 hd];exact c t d _ _ hd (ih ⋯)
 have:=a ds.length (yc _)
 rwa [yr,yaj (by rw[zbf];exact yc _)]at this
theorem zfn{R:Nat->Bool}:∀n,zcr R [] [] n=0
 | 0=>rfl
 | n+1=>by
  have:=zfn (R:=R) n
  show My.sumTo _ n+(if R n=true then zF [] n-zF [] n else 0)=0;unfold zcr at this;rw[this];split<;>simp
section
variable {n:Nat}{ds:List Due}{l:Nat->Int}
def zkN(hd:∀d∈ds,zm n d):zcr (λ_=>true) ds (zy ds l) n=0:=
 zii (ds:=ds) (g:=l) (P:=λes a=>zcr (λ_=>true) es a n=0) (zfn n) λi d es a hi f=>by
  obtain⟨p0,b,e,c,_⟩:=hd d (ya hi);rw[zhu p0 b e c,f,if_pos rfl];lia
def zqj(hd:∀d∈ds,zm n d){R:Nat->Bool}(hl:∀i,i<ds.length->l i<=amF ds i)(h:∀i d,ds[i]?=some d->R d.p.toNat=true->R d.q.toNat≠true->l i=d.a):0<=zcr R ds (zy ds l) n:=
 zii (ds:=ds) (g:=l) (P:=λes c=>0<=zcr R es c n) (by rw[zfn];exact yC _) λi d es c hi k=>by
  obtain⟨p0,e,j,f,_⟩:=hd d (ya hi);have h1:=hl i (yj.mp hi).1;rw[zbo hi]at h1;rw[zhu p0 e j f];by_cases a:R d.p.toNat=true
  ·by_cases b:R d.q.toNat=true
   ·rw[if_pos a,if_pos b];lia
   ·rw[if_pos a,if_neg b,h i d hi a b];lia
  ·by_cases b:R d.q.toNat=true
   ·rw[if_neg a,if_pos b];lia
   ·rw[if_neg a,if_neg b];lia
end
structure Thin(n:Nat)(ds:List Due)(l w:Nat->Int):Prop where
 bd:∀i,i<ds.length->0<=l i/\l i<=amF ds i
 want:∀m,m<n->w m=zF ds m-zF (zy ds l) m
 pot:∃p,zbm (opn ds l) Due.a p
section
variable {n:Nat}{ds:List Due}{l w:Nat->Int}
def zo1:zF (zy ds λ_=>0) m=0:=by
 have:zaC (zy ds λ_=>0) m=0/\zaE (zy ds λ_=>0) m=0:=zii (ds:=ds) (g:=λ_=>0) (P:=λ_ a=>zaC a m=0/\zaE a m=0) ⟨rfl,rfl⟩ λi d es a hi b=>by
  rw[zaU,za0,b.1,b.2];dsimp only;constructor<;>split<;>rfl
 unfold zF;lia
def Thin.start(hd:∀d∈ds,zm n d):Thin n ds (λ_=>0) (zF ds):=by
 refine⟨λi hi=>?_,λm _=>by rw[zo1];lia,λ_=>0,λe b=>?_⟩
 ·obtain⟨d,h⟩:=zw hi;rw[zbo h];exact⟨yC _,(hd d (ya h)).2.2.2.2.2.2.2.1⟩
 ·obtain⟨i,d,h1,h2,a⟩:=steps_mem.mp b;rcases a with⟨_,rfl⟩ | ⟨z,_⟩
  ·show(0:Int)<=0+1;decide
  ·exact absurd z "0a"
noncomputable def zaR (n:Nat) (w:Nat->Int) (m:Nat):Option Int:=if m<n/\w m<0 then some 0 else none
def zhL{v:Nat}{x:Int}(h:zaR n w v=some x):v<n/\w v<0/\x=0:=by
 unfold zaR at h;by_cases e:v<n/\w v<0
 ·rw[if_pos e]at h;cases h;exact⟨e.1,e.2,rfl⟩
 ·rw[if_neg e]at h;cases h
def Thin.reach(hd:∀d∈ds,zm n d)(X:Thin n ds l w){F:Nat->Option Int}{p:Nat->Int}(hP:zbm (opn ds l) Due.a p)(S:Short n (opn ds l) (wgt n) (zaR n w) F){f:Nat}(c:f<n)(C:0<w f):∃t y,t<n/\0<w t/\F t=some y:=by
 refine yai λz=>?_;have D:∀t,t<n->0<w t->F t=none:=λt v g=>by
  cases e:F t with
  | none=>rfl
  | some y=>exact absurd ⟨t,y,v,g,e⟩ z
 have hW:∀(R:Nat->Bool),zcr R ds (zy ds l) n=My.sumTo (λm=>if R m=true then w m else 0) n:=λR=>zce λm o=>by rw[X.want m o]
 have a1:=zkN (l:=l) hd;rw[hW]at a1;have a2:=zqj (R:=λm=>(F m).isSome) hd (λi hi=>(X.bd i hi).2) (λi d hi s r=>by
  refine yai λy=>?_;have G:=X.bd i (yj.mp hi).1;rw[zbo hi]at G;obtain⟨b,h⟩:∃b,F d.p.toNat=some b:=by
   cases e:F d.p.toNat with
   | none=>rw[e]at s;cases s
   | some b=>exact⟨b,rfl⟩
  have A:(⟨d.p,d.q,(i:Int),1⟩:Due)∈opn ds l:=steps_mem.mpr ⟨i,d,(yj.mp hi).1,hi,.inl ⟨⋯,rfl⟩⟩;obtain⟨E,h1,_⟩:=S.step (zaT hd) (zgh hP) A (y:=b) h;have k:F d.q.toNat=some E:=h1;rw[k]at r;exact r rfl)
 rw[hW]at a2;have B:My.sumTo (λm=>if(λ_:Nat=>true) m=true then w m else 0) n=My.sumTo (λm=>(if(F m).isSome=true then w m else 0)+(if(F m).isSome=true then 0 else w m)) n:=zce λm _=>by
  rw[if_pos rfl];split<;>lia
 rw[B,sumTo_add]at a1;have j:∀m,m<n->0<=(if(F m).isSome=true then 0 else w m):=λm o=>by
  by_cases e:(F m).isSome=true
  ·rw[if_pos e];exact yC _
  ·rw[if_neg e];refine Int.not_lt.mp λu=>e ?_;obtain⟨y,h1,_⟩:=S.low m 0 [m] (.src (by unfold zaR;rw[if_pos ⟨o,u⟩]));rw[h1];rfl
 have x:=zgH j c;rw[if_neg (by rw[D f c C];decide)]at x;have H:My.sumTo (λm=>if(F m).isSome=true then w m else 0) n≥0:=a2;lia
def Thin.done(hd:∀d∈ds,zm n d)(X:Thin n ds l w)(h:∀m,m<n->¬0<w m):∀m,m<n->zF (zy ds l) m=zF ds m:=by
 have a1:=zkN (l:=l) hd;have e:zcr (λ_=>true) ds (zy ds l) n=My.sumTo (λm=>w m) n:=zce λm a=>by rw[if_pos rfl,X.want m a]
 rw[e]at a1;have i:My.sumTo (λm=>w m) n=-My.sumTo (λm=>-w m) n:=by
  have:=sumTo_add (f:=λm=>w m) (g:=λm=>-w m) n
  have z:My.sumTo (λm=>w m + -w m) n=0:=by
   have:My.sumTo (λm=>w m + -w m) n=My.sumTo (λ_=>0) n:=zce λm _=>by lia
   rw[this]
   have:∀k,My.sumTo (λ_=>0) k=0:=by
    intro k
    induction k with
    | zero=>rfl
    | succ k ih=>show My.sumTo _ k+0=0;rw[ih];rfl
   exact this n
  rw[z]at this;lia
 intro m a;have h1:=zgH (f:=λm=>-w m) (λm a=>by have:=h m a;show 0<=-w m;lia) a;have h2:=h m a;have c:=X.want m a;have b:-w m<=My.sumTo (λm=>-w m) n:=h1;lia
end
structure Lst(n:Nat)(E:List Due)(c:Due->Int)(ini F:Nat->Option Int)(last:Nat->Option Due):Prop where
 some:∀v e,v<n->last v=Option.some e->e∈E/\e.q=(v:Int)/\∃y z,F e.p.toNat=Option.some y/\F v=Option.some z/\y+c e<=z
 none:∀v,v<n->last v=Option.none->F v=ini v
section
variable {n:Nat}{E:List Due}{c:Due->Int}{ini F:Nat->Option Int}{last:Nat->Option Due}
def Lst.start:Lst n E c ini ini (λ_=>Option.none):=⟨λ_ _ _ h=>(nomatch h),λ_ _ _=>rfl⟩
def zfR{y:Int}(h:F e.p.toNat=some y)(a:F e.q.toNat=none\/∃z,F e.q.toNat=some z/\y+c e<z):relax c F e=λx=>if x=e.q.toNat then some (y+c e)else F x:=by
 unfold relax;rw[h];dsimp only;rcases a with a | ⟨z,a,b⟩
 ·rw[a]
 ·rw[a];dsimp only;rw[if_pos b]
def zlU(h:F e.p.toNat=none):relax c F e=F:=by
 unfold relax;rw[h]
def zgt{y z:Int}(h:F e.p.toNat=some y)(a:F e.q.toNat=some z)(b:¬y+c e<z):relax c F e=F:=by
 unfold relax;rw[h];dsimp only;rw[a];dsimp only;rw[if_neg b]
def Lst.upd(o:zdX n E)(L:Lst n E c ini F last)(l:e∈E)(t:e.p≠e.q){y:Int}(h:F e.p.toNat=Option.some y)(d:F e.q.toNat=Option.none\/∃z,F e.q.toNat=Option.some z/\y+c e<z):Lst n E c ini (relax c F e) (λx=>if x=e.q.toNat then Option.some e else last x):=by
 obtain⟨p0,w,B,u⟩:=o e l;have f:e.p.toNat≠e.q.toNat:=by lia
 rw[zfR h d];refine⟨λv j a hl=>?_,λv a hl=>?_⟩
 ·by_cases g:v=e.q.toNat
  ·rw[if_pos g]at hl;cases hl;refine⟨l,⋯,y,y+c e,?_,?_,yC _⟩
   ·rw[if_neg f];exact h
   ·rw[if_pos g]
  ·rw[if_neg g]at hl;obtain⟨h1,h2,s,m,b,i,r⟩:=L.some v j a hl;by_cases k:j.p.toNat=e.q.toNat
   ·rw[k]at b;rcases d with d | ⟨z,d,A⟩
    ·rw[d]at b;cases b
    ·rw[d]at b;cases b;refine⟨h1,h2,y+c e,m,?_,?_,⋯⟩
     ·rw[if_pos k]
     ·rw[if_neg g];exact i
   ·refine⟨h1,h2,s,m,?_,?_,r⟩
    ·rw[if_neg k];exact b
    ·rw[if_neg g];exact i
 ·by_cases g:v=e.q.toNat
  ·rw[if_pos g]at hl;cases hl
  ·rw[if_neg g]at hl;rw[if_neg g];exact L.none v a hl
end
inductive Bkw(last:Nat->Option Due):Nat->List Due->Nat->Prop
 | nil {m:Nat}:last m=none->Bkw last m [] m
 | cons {m:Nat} {e:Due} {es:List Due} {s:Nat}:last m=some e->Bkw last e.p.toNat es s->Bkw last m (e :: es) s
section
variable {n:Nat}{ds:List Due}{l w p:Nat->Int}{F:Nat->Option Int}{last:Nat->Option Due}
noncomputable def phi (n:Nat) (F:Nat->Option Int) (p:Nat->Int) (v:Nat):Int:=(F v).getD 0-p v*((n:Int)+1)
def zho(hP:zbm (opn ds l) Due.a p)(L:Lst n (opn ds l) (wgt n) (zaR n w) F last){v:Nat}(f:v<n)(h:last v=some e):phi n F p e.p.toNat<phi n F p v:=by
 obtain⟨h1,h2,y,z,d,c,g⟩:=L.some v e f h;have b:=hP e h1;rw[h2,yh]at b;have i:=yav b (show(0:Int)<=(n:Int)+1 by lia);rw[ybs]at i;unfold phi;rw[d,c];show y-_<z-_;unfold wgt at g;lia
noncomputable def zeN (n:Nat) (f:Nat->Int) (v:Nat):Nat:=("0e".filter λu=>decide (f u<f v)).length
def zlF{u v:Nat}(e:u<n)(h:f u<f v):zeN n f u<zeN n f v:=by
 unfold zeN;have d:∀L:List Nat,(L.filter λx=>decide (f x<f u)).length<=(L.filter λx=>decide (f x<f v)).length/\(u∈L->(L.filter λx=>decide (f x<f u)).length<(L.filter λx=>decide (f x<f v)).length):=by
  intro L
  induction L with
  | nil=>exact⟨yc _,λh=>(nomatch h)⟩
  | cons x L ih=>
   by_cases a:f x<f u
   ·have b:f x<f v:=by lia
    rw[yaA (by simpa using a),yaA (by simpa using b)];refine⟨yn ih.1,λc=>?_⟩;rcases yA.mp c with rfl | c
    ·exact absurd a (Int.lt_irrefl _)
    ·exact Nat.succ_lt_succ (ih.2 c)
   ·rw[yaB (by simpa using a)];by_cases b:f x<f v
    ·rw[yaA (by simpa using b)];exact⟨yaM ih.1,λ_=>Nat.lt_succ_of_le ih.1⟩
    ·rw[yaB (by simpa using b)];refine⟨ih.1,λc=>?_⟩;rcases yA.mp c with rfl | c
     ·exact absurd h b
     ·exact ih.2 c
 exact(d "0e").2 (yF.mpr e)
def zqA{v:Nat}:zeN n f v<=n:=by
 unfold zeN
 have:=yba (λu=>decide (f u<f v)) "0e"
 rwa [yB]at this
def Bkw.facts(hd:∀d∈ds,zm n d)(hP:zbm (opn ds l) Due.a p)(L:Lst n (opn ds l) (wgt n) (zaR n w) F last){s:Nat}(B:Bkw last m es s):m<n->(∀e∈es,e∈opn ds l/\last e.q.toNat=some e/\e.q.toNat<n/\phi n F p e.q.toNat<=phi n F p m)/\es.Pairwise (λe c=>phi n F p c.q.toNat<phi n F p e.q.toNat)/\s<n/\last s=none/\es.length<=zeN n (phi n F p) m:=by
 induction B with
 | nil h=>intro g;exact⟨λ_ h=>(nomatch h),.nil,g,h,yM _⟩
 | cons h _ ih=>
  rename_i m e es s _;intro g;obtain⟨h1,h2,y,z,D,C,G⟩:=L.some m e g h;obtain⟨p0,H,I,A⟩:=zaT hd e h1;have i:=zho hP L g h;obtain⟨j,t,o,x,E⟩:=ih ⋯;have k:e.q.toNat=m:=by lia
  refine⟨λc b=>?_,?_,o,x,?_⟩
  ·rcases yA.mp b with rfl | b
   ·rw[k];exact⟨h1,h,g,yC _⟩
   ·obtain⟨a1,a2,r,J⟩:=j c b;exact⟨a1,a2,r,⋯⟩
  ·refine .cons (λc b=>?_) t;rw[k]
   have:=(j c b).2.2.2
   lia
  ·have:=zlF (n:=n) (f:=phi n F p) (u:=e.p.toNat) (v:=m) ⋯ i
   rw[y9];lia
def Bkw.apart(hd:∀d∈ds,zm n d)(hP:zbm (opn ds l) Due.a p)(L:Lst n (opn ds l) (wgt n) (zaR n w) F last){s:Nat}(B:Bkw last m es s)(u:m<n):es.Pairwise (λe f=>e.r≠f.r):=by
 obtain⟨h1,h2,_⟩:=B.facts hd hP L u;refine h2.imp_of_mem λ{e f} he he' hlt hr=>?_;obtain⟨a1,a2,t,_⟩:=h1 e he;obtain⟨b1,b2,q,_⟩:=h1 f he';obtain⟨i,d,_,hi,g⟩:=steps_mem.mp a1;obtain⟨k,d',_,c,b⟩:=steps_mem.mp b1;have o:i=k:=by
  rcases g with⟨_,rfl⟩ | ⟨_,rfl⟩<;>rcases b with⟨_,rfl⟩ | ⟨_,rfl⟩<;>exact Int.ofNat.inj hr
 subst o;rw[hi]at c;cases c;have h:=zho hP L t a2;have j:=zho hP L q b2;rcases g with⟨_,rfl⟩ | ⟨_,rfl⟩<;>rcases b with⟨_,rfl⟩ | ⟨_,rfl⟩
 ·exact absurd hlt (Int.lt_irrefl _)
 ·dsimp only at hlt h j;lia
 ·dsimp only at hlt h j;lia
 ·exact absurd hlt (Int.lt_irrefl _)
noncomputable def upd1 (l:Nat->Int) (x:Int) (e:Due):Nat->Int:=λi=>if i=e.r.toNat then l e.r.toNat+e.a*x else l i
noncomputable def zcL (l:Nat->Int) (x:Int) (es:List Due):Nat->Int:=es.foldl (λl e=>upd1 l x e) l
def znV(l:Nat->Int)(x:Int)(es:List Due)(e:Due):zcL l x (es++[e])=upd1 (zcL l x es) x e:=by unfold zcL;rw[yaf];rfl
theorem zeR{x:Int}{i:Nat}:∀(es:List Due) (l:Nat->Int),(∀e∈es,e.r.toNat≠i)->zcL l x es i=l i
 | [],_,_=>rfl
 | e :: es,l,h=>by
  show zcL (upd1 l x e) x es i=l i;rw[zeR es _ λb a=>h b (.tail _ a)];exact if_neg λz=>h e (.head _) z.symm
theorem zmh{x:Int}{e:Due}:∀(es:List Due) (l:Nat->Int),e∈es->es.Pairwise (λe b=>e.r.toNat≠b.r.toNat)->zcL l x es e.r.toNat=l e.r.toNat+e.a*x
 | [],_,h,_=>nomatch h
 | b :: es,l,h,hp=>by
  show zcL (upd1 l x b) x es e.r.toNat=_;cases hp with
  | cons h1 h2=>
   rcases yA.mp h with rfl | h
   ·rw[zeR es _ λb c z=>h1 b c z.symm];exact if_pos rfl
   ·rw[zmh es _ h h2];unfold upd1;rw[if_neg λz=>h1 e h z.symm]
noncomputable def zpQ (ds:List Due) (e:Due):Prop:=∃(i:Nat) (d:Due),ds[i]?=some d/\(e=⟨d.p,d.q,(i:Int),1⟩\/e=⟨d.q,d.p,(i:Int),-1⟩)
def zo6(h:e∈opn ds l):zpQ ds e:=by
 obtain⟨i,d,_,h2,a⟩:=steps_mem.mp h;rcases a with⟨_,h⟩ | ⟨_,h⟩
 ·exact⟨i,d,h2,.inl h⟩
 ·exact⟨i,d,h2,.inr h⟩
def zoY{x:Int}(h:zpQ ds e)(m:Nat):zF (zy ds (upd1 l x e)) m=zF (zy ds l) m+(if e.q=(m:Int)then x else 0)-(if e.p=(m:Int)then x else 0):=by
 obtain⟨i,d,hi,b⟩:=h;have er:e.r.toNat=i:=by rcases b with rfl | rfl<;>exact yh i
 have f:=zll (g:=l) (v:=l i+e.a*x) hi m;have c:zy ds (upd1 l x e)=zy ds λj=>if j=i then l i+e.a*x else l j:=zbh λj _=>by unfold upd1;rw[er]
 rw[c,f];rcases b with rfl | rfl
 ·dsimp only;rw[Int.one_mul];split<;>split<;>lia
 ·dsimp only;rw[show(-1:Int)*x=-x by lia];split<;>split<;>lia
def Bkw.nets{x:Int}{t s:Nat}(B:Bkw last t es s):t<n->(∀e∈es,zpQ ds e)->(∀v e,v<n->last v=some e->e.q=(v:Int)/\0<=e.p/\e.p<n)->∀(l:Nat->Int) (m:Nat),zF (zy ds (zcL l x es)) m=zF (zy ds l) m+(if t=m then x else 0)-(if s=m then x else 0):=by
 induction B with
 | nil h=>intro _ _ _ l m;show zF (zy ds l) m=_;split<;>lia
 | cons h _ ih=>
  rename_i v e es s _;intro d i g l m;obtain⟨k,r,j⟩:=g v e d h;have h1:=ih ⋯ (λe o=>i e (.tail _ o)) g (upd1 l x e) m;show zF (zy ds (zcL (upd1 l x e) x es)) m=_;rw[h1,zoY (i e (.head _)) m];have f:(e.q=(m:Int))↔(v=m):=by rw[k];lia
  have c:(e.p=(m:Int))↔(e.p.toNat=m):=by lia
  by_cases a:v=m
  ·rw[if_pos (f.mpr a),if_pos a];by_cases b:e.p.toNat=m
   ·rw[if_pos (c.mpr b),if_pos b];lia
   ·rw[if_neg (λz=>b (c.mp z)),if_neg b];lia
  ·rw[if_neg (λz=>a (f.mp z)),if_neg a];by_cases b:e.p.toNat=m
   ·rw[if_pos (c.mpr b),if_pos b];lia
   ·rw[if_neg (λz=>b (c.mp z)),if_neg b];lia
noncomputable def zci (ds:List Due) (l:Nat->Int) (e:Due):Int:=if e.a>0 then amF ds e.r.toNat-l e.r.toNat else l e.r.toNat
theorem zha(f:Nat->Int):∀n:Nat,∃B:Int,∀v,v<n->f v<=B
 | 0=>⟨0,λ_ h=>absurd h (yan _)⟩
 | n+1=>by
  obtain⟨B,h⟩:=zha f n;refine⟨max B (f n),λv a=>?_⟩;rcases yP (yY a)with g | g
  ·have:=h v g;lia
  ·rw[g];lia
def Thin.send(hd:∀d∈ds,zm n d)(X:Thin n ds l w)(hP:zbm (opn ds l) Due.a p)(S:Short n (opn ds l) (wgt n) (zaR n w) F)(L:Lst n (opn ds l) (wgt n) (zaR n w) F last){t s:Nat}{x:Int}(ht:t<n)(B:Bkw last t es s)(aa:0<=x)(hx:∀e∈es,x<=zci ds l e)(Y:s≠t):Thin n ds (zcL l x es) (λm=>if m=t then w m-x else if m=s then w m+x else w m):=by
 obtain⟨P,f2,f3,f4,f5⟩:=B.facts hd hP L ht;have W:=B.apart hd hP L ht;have R:∀e∈es,0<=e.r:=λe c=>by
  obtain⟨i,d,hi,J⟩:=zo6 (P e c).1;rcases J with rfl | rfl
  ·exact ybc i
  ·exact ybc i
 have Q:es.Pairwise (λe V=>e.r.toNat≠V.r.toNat):=W.imp_of_mem λ{e V} c he' h z=>h (by have:=R e c;have:=R V he';lia);have a0:∀e∈es,zcL l x es e.r.toNat=l e.r.toNat+e.a*x:=λe c=>zmh es l c Q;have ac:∀e∈es,0<=e.p:=λe c=>(zaT hd e (P e c).1).1;refine⟨λi hi=>?_,λm hm=>?_,?_⟩
 ·by_cases h:∃e∈es,e.r.toNat=i
  ·obtain⟨e,c,rfl⟩:=h;have hb:=X.bd _ hi;have hr:=hx e c;rw[a0 e c];unfold zci at hr;rcases zf7 (P e c).1 with a | a
   ·rw[a,if_pos "0a"]at hr;rw[a];lia
   ·rw[a,if_neg "0a"]at hr;rw[a];lia
  ·rw[zeR es l λe c z=>h ⟨e,c,z⟩];exact X.bd i hi
 ·have h1:=B.nets (ds:=ds) (x:=x) ht (λe c=>zo6 (P e c).1) (λv e M h=>by
   obtain⟨a1,a2,_⟩:=L.some v e M h
   have:=zaT hd e a1
   exact⟨a2,this.1,this.2.1⟩) l m
  rw[h1];have h2:=X.want m hm;by_cases a:m=t
  ·have t1:t=m:=a.symm;have I:¬s=m:=λz=>Y (z.trans a);simp only[if_pos a,if_pos t1,if_neg I];lia
  ·have t1:¬t=m:=λz=>a z.symm;by_cases b:m=s
   ·have I:s=m:=b.symm;simp only[if_neg a,if_pos b,if_neg t1,if_pos I];lia
   ·have I:¬s=m:=λz=>b z.symm;simp only[if_neg a,if_neg b,if_neg t1,if_neg I];lia
 ·obtain⟨B1,a6⟩:=zha (λv=>(F v).getD 0/((n:Int)+1)) n;obtain⟨B2,Z⟩:=zha (λv=>-p v) n;refine⟨λv=>match F v with
   | some y=>y/((n:Int)+1)
   | none=>p v+(B1+B2+1),λe c=>?_⟩
  have g:∀v y,v<n->F v=some y->∃a h:Int,y=a*((n:Int)+1)+h/\0<=h/\h<=(n:Int)-1/\y/((n:Int)+1)=a:=λv y M o=>by
   obtain⟨vs,hs⟩:=S.way v y M o;obtain⟨a,ha⟩:=zt9 (λv x h=>(zhL h).2.2) hs;have hl:=hs.len (zaT hd) (λv x h=>(zhL h).1);have ad:1<=vs.length:=List.length_pos_of_mem hs.here;refine⟨a,(vs.length:Int)-1,ha,⋯,⋯,?_⟩;rw[ha,Int.add_comm,ybt _ _ ⋯,ybu ⋯ ⋯];lia
  have C:∀e∈opn ds l,(match F e.q.toNat with
   | some y=>y/((n:Int)+1)
   | none=>p e.q.toNat+(B1+B2+1))<=(match F e.p.toNat with
   | some y=>y/((n:Int)+1)
   | none=>p e.p.toNat+(B1+B2+1))+e.a:=λe c=>by
   obtain⟨p0,p1,q0,q1⟩:=zaT hd e c;have E:=hP e c;have af:=zf7 c;cases hu:F e.p.toNat with
   | some y=>
    obtain⟨z,A,k⟩:=S.step (zaT hd) (zgh hP) c hu;rw[A];dsimp only;obtain⟨a,h,e1,h0,h1,e2⟩:=g _ y ⋯ hu;rw[e2];have O:z<=(a+e.a)*((n:Int)+1)+(h+1):=by
     unfold wgt at k;rw[ybs];lia
    have:=Int.ediv_le_ediv (show(0:Int)<(n:Int)+1 by lia) O
    have eh:(h+1)/((n:Int)+1)=0:=ybu ⋯ ⋯;rw[Int.add_comm ((a+e.a)*_),ybt _ _ ⋯,eh]at this;lia
   | none=>
    cases M:F e.q.toNat with
    | none=>
     have a9:p e.q.toNat<=p e.p.toNat+e.a:=E;show p e.q.toNat+(B1+B2+1)<=p e.p.toNat+(B1+B2+1)+e.a;lia
    | some z=>
     have h1:=a6 e.q.toNat ⋯;have h2:-p e.p.toNat<=B2:=Z e.p.toNat ⋯;rw[M]at h1;show z/((n:Int)+1)<=p e.p.toNat+(B1+B2+1)+e.a;have ab:z/((n:Int)+1)<=B1:=h1;lia
  obtain⟨i,d,a7,hi,J⟩:=steps_mem.mp c;by_cases h:∃f∈es,f.r.toNat=i
  ·obtain⟨f,a8,K⟩:=h;obtain⟨G,o1,o2,_⟩:=P f a8;obtain⟨a1,a2,y,z,T,a4,a5⟩:=L.some _ f o2 o1;obtain⟨j,d0,ae,hj,u⟩:=steps_mem.mp G;have U:j=i:=by
    rcases u with⟨_,rfl⟩ | ⟨_,rfl⟩
    ·rw[<- K];exact(yh j).symm
    ·rw[<- K];exact(yh j).symm
   subst U;rw[hi]at hj;cases hj
   -- the same step,or the way's step turned round
   have D:∀y z,F f.p.toNat=some y->F f.q.toNat=some z->y/((n:Int)+1)<=z/((n:Int)+1)-f.a:=λy z o A=>by
    obtain⟨p0,p1,q0,q1⟩:=zaT hd f G;obtain⟨z',H,k⟩:=S.step (zaT hd) (zgh hP) G o;rw[A]at H;cases H;rw[T]at o;cases o;rw[a4]at A;cases A;obtain⟨a,h,e1,h0,h1,e2⟩:=g _ y ⋯ T;have ez:z=(h+1)+(a+f.a)*((n:Int)+1):=by
     unfold wgt at k a5;rw[ybs];lia
    rw[e2,ez,ybt _ _ ⋯,ybu ⋯ ⋯];lia
   have N:e.p=f.q->e.q=f.p->e.a=-f.a->(match F e.q.toNat with
    | some y=>y/((n:Int)+1)
    | none=>p e.q.toNat+(B1+B2+1))<=(match F e.p.toNat with
    | some y=>y/((n:Int)+1)
    | none=>p e.p.toNat+(B1+B2+1))+e.a:=λep eq ea=>by
    have o:F e.q.toNat=some y:=by rw[eq];exact T
    have A:F e.p.toNat=some z:=by rw[ep];exact a4
    rw[o,A];dsimp only
    have:=D y z T a4
    lia
   rcases J with⟨u1,rfl⟩ | ⟨u1,rfl⟩
   ·rcases u with⟨w1,rfl⟩ | ⟨w1,rfl⟩
    ·exact C _ G
    ·exact N rfl rfl rfl
   ·rcases u with⟨w1,rfl⟩ | ⟨w1,rfl⟩
    ·exact N rfl rfl rfl
    ·exact C _ G
  ·have ho:zcL l x es i=l i:=zeR es l λe c z=>h ⟨e,c,z⟩;rw[ho]at J;exact C e (steps_mem.mpr ⟨i,d,a7,hi,J⟩)
end
open PySem PySem.W PyProof.Rows
section
variable {n:Nat}{kf:Nat->Int}
end
open PySem PySem.W PySem.Calls PyProof.Rows
section
variable {prog:Program}{w:World}{A:Around}{E:Value->Shared->Prop}
end
open PySem PySem.W PySem.Spec PySem.Calls PyProof.Rows
noncomputable def HO.nt:HO->Bool
 | .tbl _=>false
 | _=>true
structure SameT(H H':Hp):Prop where
 keep:∀b o,H b=some o->o.nt=true->H' b=some o
 tb:∀b ps,H b=some (.tbl ps)->∃ps',H' b=some (.tbl ps')
def SameT.at(e:SameT H H')(h:H a=some o)(n:autoParam (o.nt=true) Internal.aut2._auto_1):H' a=some o:=e.keep a o h n
def Same.t(e:Same H H'):SameT H H':=⟨λb o h _=>e b o h,λb ps h=>⟨ps,e b _ h⟩⟩
def SameT.trans(a:SameT H H1)(b:SameT H1 H2):SameT H H2:=
 ⟨λc o h n=>b.keep c o (a.keep c o h n) n,λc ps h=>by obtain⟨ps',h'⟩:=a.tb c ps h;exact b.tb c ps' h'⟩
theorem SameT.none{H H':Hp}{l:Addr}(h:H' l=none)(g:SameT H H'):H l=none:=by
 cases q:H l with
 | none=>rfl
 | some o=>
  cases hn:o.nt with
  | true=>rw[g.keep l o q hn]at h;cases h
  | false=>
   cases o with
   | tbl ps=>obtain⟨ps',e⟩:=g.tb l ps q;rw[e]at h;cases h
   | _=>cases hn
noncomputable def zgg (c:Addr) (qual:Str):HO:=.ext λh=>h.CodeRec (.ref c) qual
noncomputable def zhf (f:Addr) (a:Value->Obj):HO:=.ext λh=>∃ctv,h.get? f=some (a ctv)
section
variable {P:Program}{w:World}{H:Hp}{h:Heap}
def zpX(x:h.CodeRec (.ref c) qual):ObjOk P w H h c (zgg c qual):=by
 refine⟨x,?_,λh1 h2 y k=>?_⟩
 ·obtain⟨d,b,vs,t,e,a,_⟩:=x;cases e;exact⟨b,a⟩
 ·obtain⟨d,b,vs,t,e,a,r⟩:=y;cases e;exact⟨c,b,vs,t,rfl,k _ a,r⟩
def zl3{f:Addr}{a:Value->Obj}{ctv:Value}(x:h.get? f=some (a ctv)):ObjOk P w H h f (zhf f a):=
 ⟨⟨ctv,x⟩,⟨_,x⟩,λh1 h2 y k=>by obtain⟨c,e⟩:=y;exact⟨c,k _ e⟩⟩
end
noncomputable def Tb (H:Hp) (T:Addr) (pos:Pos) (qual:Str):Prop:=∃ps:Array Value,H T=some (.tbl ps)/\TriplesOk ps.toList/\(codeAmong pos ps.toList=none\/∃c,codeAmong pos ps.toList=some (.ref c)/\H c=some (zgg c qual))
def Tb.same{pos:Pos}(h:Tb H T pos qual)(e:Same H H'):Tb H' T pos qual:=by
 obtain⟨ps,h1,h2,a⟩:=h;refine⟨ps,e _ _ h1,h2,?_⟩;rcases a with a | ⟨c,a,b⟩
 ·exact .inl a
 ·exact .inr ⟨c,a,e _ _ b⟩
section
variable {X:Cx}{params:Arguments}{body:Expr}{lsc:Scope}{lpos:Pos}{c T:Addr}{clos:List (Str × Addr)}
abbrev zdn(X:Cx)(params:Arguments)(body:Expr)(lsc:Scope)(clos:List (Str × Addr))(c':Addr)(ctv:Value):Obj:=kla_obj "<lambda>" (X.env.qual ++ "<lambda>") params body lsc clos ((X.mg "__name__").getD .none) c' ctv
noncomputable def zvo (X:Cx) (params:Arguments) (body:Expr) (lsc:Scope) (clos:List (Str × Addr)) (T:Addr) (lpos:Pos):TE:=λ_ H Q=>Tb H T lpos (X.env.qual ++ "<lambda>") /\
 ∀f c' H',H f=none->SameT H H'->Tb H' T lpos (X.env.qual ++ "<lambda>")->H' f=some (zhf f (zdn X params body lsc clos c'))->H' c'=some (zgg c' (X.env.qual ++ "<lambda>"))->Q (.ref f) H'
def ztD(F:defaultsOf params X.env=([],[]))(K:closureFor lsc X.env=pure clos)(j:X.env.code=.ref c)(C:CodeHd X.base c T)(B:X.base.BuiltinsAt X.mg T):PE X (.Lambda params body lsc lpos) (zvo X params body lsc clos T lpos):=by
 intro pins s σ H Q I h;obtain⟨⟨ps,hP,v,hc⟩,k⟩:=h;refine kla_eval F ?_;have m:s.heap.get? T=some (tabObj ps):=I.hok T _ hP;have O:s.heap.Ns mainGlobals X.mg:=I.mod.glob.keeps I.bk;have Cs:=C.keeps I.bk;have Bs:s.heap.BuiltinsAt X.mg T:=by
  obtain⟨bm,o,b1,b2,b3,b4,b5,b6⟩:=B;exact⟨bm,o,b1,b2,b3,b4,I.bk _ _ b5,b6⟩
 have V:mainGlobals≠T:=λz=>by
  obtain⟨o,es,ep,e,hd,_⟩:=O;rw[z,m]at e;cases e;cases hd
 rcases hc with Y | ⟨a,hs,A⟩
 ·refine kla_makeFunction (mg:=X.mg) K I.ok.glob O j Cs m v Y V Bs λa ctv h' tk hx f l L E=>?_;have D:T<s.heap.objs.size:=Heap.lt_size m;have S:T≠a:=yw (yx D f);have P:T≠h'.objs.size:=yw (yx D (yi f (yaw l)));have U:a≠h'.objs.size:=yw l;have g:∀b u,H b=some u->b≠a/\b≠h'.objs.size:=λb u e=>by
   have:=I.hok.lt e
   exact⟨yw (yx this f),yw (yx this (yi f (yaw l)))⟩
  have p:∀b (u:Obj),s.heap.get? b=some u->b≠a/\b≠h'.objs.size:=λb u e=>by
   have:=Heap.lt_size e
   exact⟨yw (yx this f),yw (yx this (yi f (yaw l)))⟩
  obtain⟨H',N⟩:∃H',H'=upd (upd (upd H T (.tbl (ps++#[rawInt lpos.line,rawInt lpos.col,.ref a]))) a (zgg a (X.env.qual ++ "<lambda>"))) h'.objs.size (zhf h'.objs.size (zdn X params body lsc clos a)):=⟨_,rfl⟩
  have aF:H' h'.objs.size=some (zhf h'.objs.size (zdn X params body lsc clos a)):=by rw[N];exact zaa
  have R:H' a=some (zgg a (X.env.qual ++ "<lambda>")):=by rw[N,zZ U];exact zaa
  have M:H' T=some (.tbl (ps++#[rawInt lpos.line,rawInt lpos.col,.ref a])):=by rw[N,zZ P,zZ S];exact zaa
  have G:∀b,b≠T->b≠a->b≠h'.objs.size->H' b=H b:=λb h1 h2 y=>by rw[N,zZ y,zZ h2,zZ h1]
  have kp:∀b u,b≠T->s.heap.get? b=some u->(h'.push (zdn X params body lsc clos a ctv)).get? b=some u:=λb u i e=>Heap.get?_push_of_some _ (hx b u i e);have st:SameT H H':=⟨λb o e n=>by
    have i:b≠T:=λz=>by rw[z,hP]at e;cases e;cases n
    rw[G b i (g b o e).1 (g b o e).2];exact e,λb qs e=>by
    by_cases i:b=T
    ·rw[i];exact⟨_,M⟩
    ·rw[G b i (g b _ e).1 (g b _ e).2];exact⟨_,e⟩⟩
  have un:Un X.fs [] H H' s.heap (h'.push (zdn X params body lsc clos a ctv)):=by
   have W:∀b,H b=none->b≠T:=λb n z=>by rw[z,hP]at n;cases n
   have a0:∀b u,H b=some u->u.nt=true->b≠T:=λb u e n z=>by rw[z,hP]at e;cases e;cases n
   refine⟨λb o e n _ _=>kp b o (W b n) e,λb o e n _ _=>⟨o.slots,kp b o (W b n) e⟩,λb o e n _=>?_,λb o e _=>?_,λb xs e=>?_,λb o u e=>?_,λb qs e=>?_⟩
   ·rw[G b (W b n) (p b o e).1 (p b o e).2];exact n
   ·by_cases i:b=T
    ·rw[i];exact⟨_,Heap.get?_push_of_some _ E⟩
    ·exact⟨o,kp b o i e⟩
   ·exact st.keep b _ e rfl
   ·exact st.keep b _ e rfl
   ·by_cases i:b=T
    ·subst i;rw[hP]at e;cases e;exact⟨_,M⟩
    ·rw[G b i (g b _ e).1 (g b _ e).2];exact⟨#[],by rw[e];simp⟩
  have hok:HOk X.prog X.w H' (h'.push (zdn X params body lsc clos a ctv)):=λb o e=>by
   by_cases h1:b=h'.objs.size
   ·subst h1;rw[aF]at e;cases e;exact zl3 (ctv:=ctv) (Heap.get?_push_size _ rfl)
   ·by_cases h2:b=a
    ·subst h2;rw[R]at e;cases e;obtain⟨c2,oc,vs,t,e2,ho,r⟩:=L;cases e2;exact zpX ⟨b,oc,vs,t,rfl,Heap.get?_push_of_some _ ho,r⟩
    ·by_cases y:b=T
     ·subst y;rw[M]at e;cases e;exact(Heap.get?_push_of_some _ E:(h'.push (zdn X params body lsc clos a ctv)).get? b=some _)
     ·rw[G b y h2 h1]at e;refine(I.hok b o e).stay (λd u hd q=>kp d u (λz=>?_) q) (λd q=>?_) λd xs q=>st.keep d _ q rfl
      ·rcases hd with hd | hd
       ·exact y (hd.symm.trans z)
       ·rw[z,hP]at hd;cases hd
      ·exact st.keep d _ q rfl
  have J:Inv X pins σ H' { s with heap:=h'.push (zdn X params body lsc clos a ctv),toks:=tk }:=I.un un hok;refine⟨.ref h'.objs.size,H',J,rfl,k _ a H' ?_ st ⟨_,M,?_,.inr ⟨a,?_,R⟩⟩ aF R⟩
  ·exact I.hok.fresh (yi f (yaw l))
  ·rw[Array.toList_append];exact TriplesOk_snoc _ _ _ _ v
  ·rw[Array.toList_append];exact codeAmong_snoc _ v Y
 ·refine kla_makeFunctionHit (mg:=X.mg) K I.ok.glob O j Cs m v hs Bs λctv h' tk hk x=>?_;have Z:H h'.objs.size=none:=I.hok.fresh x;have J:Inv X pins σ (upd H h'.objs.size (zhf h'.objs.size (zdn X params body lsc clos a))) { s with heap:=h'.push (zdn X params body lsc clos a ctv),toks:=tk }:=
   I.laid (λb u q=>Heap.get?_push_of_some _ (hk b u q)) x (zl3 (ctv:=ctv) (Heap.get?_push_size _ rfl))
  have sm:=Same.new Z (zhf h'.objs.size (zdn X params body lsc clos a));exact⟨.ref h'.objs.size,_,J,rfl,k _ a _ Z sm.t (Tb.same ⟨ps,hP,v,.inr ⟨a,hs,A⟩⟩ sm) zaa (sm _ _ A)⟩
end
noncomputable def zkg (P:Program) (w:World) (K:Fg) (mg:Str->Option Value) (base:Heap) (x y qual:Str) (lsc:Scope) (f a b:Addr) (A:Around) (outer:List Env) (s:Shared) (H:Hp):Cx where
 prog:=P
 w:=w
 K:=K
 mg:=mg
 base:=base
 A:=A.deeper (envX qual lsc s.heap.objs.size f (.ref a) [(y,b)])
 N:=[x,y]
 s₀:=s
 H₀:=H
 env:=envX qual lsc s.heap.objs.size f (.ref a) [(y,b)]
 outer:=outer
 stack:=envX qual lsc s.heap.objs.size f (.ref a) [(y,b)] :: outer
 ex:=[]
 calm:=true
 fn:=λ_=>false
 pn:=[]
 xe:=λ_ _=>False
def zr2{P:Program}{w:World}{K:Fg}{mg:Str->Option Value}{base:Heap}{x y qual:Str}{lsc:Scope}{params:Arguments}{body:Expr}{f m c:Addr}{A:Around}{outer:List Env}{s:Shared}{H:Hp}{Q:VK}{tb:TE}{W ctv u T:Value}{v D:V}
  (hd:A.handled=none) (hdp:A.depth<recursionLimit) (e0:Env0 P w K mg base A outer s H) (ho:s.heap.get? f=some (kla_obj "<lambda>" qual params body lsc [(y,c)] W m ctv)) (hcd:s.heap.CodeRec (.ref m) qual)
  (hsn:lsc.names=[(x,.local),(y,.free)]) (hxy:(y == x)=false) (hk:lsc.kind=.function) (hco:lsc.isCoroutine=false) (hgen:lsc.isGenerator=false)
  (hb:∀u,bindArgs (kla_fn "<lambda>" qual params body lsc [(y,c)] W (.ref m) ctv) ⟨[u],[]⟩=pure [(x,u)])
  (hcc:s.heap.IsCell c (some T)) (hcn:H c=none) (rv:RelV v u) (ry:RelV D T)
  (hbody:PE (zkg P w K mg base x y qual lsc f m c A outer s H) body tb) (hq:tb [some v,some D] H Q) :
  wpAny (model P w) A (call (.ref f) [u]) (λr s'=>CE outer P w H s Q r s') (λ_ _=>False) s:=by
 have N:s.heap.NoLimit:=e0.mod.nolimit.keeps λb o e=>(e0.bs b o e).1;have C:(x == x)=true:=beq_self_eq_true x;refine wpAny_call (codeAny_mono (R:=λr s'=>∃F,r=.ok (.ret F)/\CE outer P w H s Q F s') ?_ λr s' E=>?_)
 ·refine kla_callFunE hdp ho rfl hco hgen rfl hcd ?_;rw[hb];refine wpAny_pure (wpAny_newFunctionEnv (λz j=>?_) (λz j=>?_) (λU O G=>⟨N.fresh _ G,?_⟩) hk)
  ·rw[hsn]at j;rcases yA.mp j with rfl | j
   ·intro q;cases q
   ·rw[ym.mp j];intro q;cases q
  ·rw[ym.mp j,hsn,yz,C]
  ·show codeAny _ _ (.expr body (envX qual lsc s.heap.objs.size f (.ref m) [(y,c)])) _ _;have k:∀b o,s.heap.get? b=some o->U.get? b=some o:=λb o e=>G.extBut b o (yw (Heap.lt_size e)) (Heap.get?_push_of_some _ e);have L:∀z d,([(y,c)]:List (Str × Addr)).lookup z=some d->z=y/\d=c:=λz d e=>by
    rw[yz]at e;cases j:z == y with
    | true=>rw[j]at e;cases e;exact⟨eq_of_beq j,rfl⟩
    | false=>rw[j]at e;cases e
   have kx:lsc.names.lookup x=some .local:=by rw[hsn,yz,C]
   have Z:lsc.names.lookup y=some .free:=by rw[hsn,yz,hxy,yz,beq_self_eq_true]
   have B:∀b:Addr,b∉(zkg P w K mg base x y qual lsc f m c A outer s H).ex:=λb z=>absurd (show b∈([]:List Addr)from z) (by simp);have I:Inv (zkg P w K mg base x y qual lsc f m c A outer s H) [] [some v,some D] H { s with heap:=U,toks:=s.toks+[(x,u)].length }:=by
    refine⟨⟨e0.mod,hk,rfl,rfl,yc _,λa b d h1 h2=>?_,λz j=>?_,λz d h=>?_,λ_=>hd,Around.frames_deeper e0.frames,.inr ⟨rfl,rfl⟩,λb z=>absurd z (B b),e0.bs,e0.bsz,λb _ _=>B b,λb z=>absurd z (B b),e0.funs,e0.frf⟩,
     rfl,e0.bare,Un.kept k,⟨_,O,λi z S h1 h2 h3=>?_⟩,λz d h=>?_,e0.hok.fresh (yc _),λz d h=>?_,λp Y=>absurd (show p∈([]:List "0l")from Y) (by simp),e0.hok.kept k,rfl⟩
    ·exact(L a d h1).1.trans (L b d h2).1.symm
    ·have g:lsc.names.lookup z=some .cell\/lsc.names.lookup z=some .free:=j;rw[hsn,yz,yz]at g;cases h1:z == x with
     | true=>rw[h1]at g;rcases g with q | q<;>cases q
     | false=>
      rw[h1]at g;cases h2:z == y with
      | true=>exact⟨c,by show([(y,c)]:List (Str × Addr)).lookup z=some c;rw[yz,h2]⟩
      | false=>rw[h2]at g;rcases g with q | q<;>cases q
    ·exact absurd (show false=true from h) yu
    ·match i,h1,h2 with
     | 0,h1,h2=>
      cases(show some x=some z from h1)
      cases(show some (some v)=some (some S)from h2)
      exact⟨u,rv,.inl ⟨kx,by show[(x,u)].reverse.lookup x=some u;rw[show[(x,u)].reverse=[(x,u)]from rfl,yz,C]⟩⟩
     | 1,h1,h2=>
      cases(show some y=some z from h1)
      cases(show some (some D)=some (some S)from h2)
      obtain⟨M,t,l⟩:=hcc;exact⟨T,ry,.inr ⟨.inr Z,c,by show([(y,c)]:List (Str × Addr)).lookup y=some c;rw[yz,beq_self_eq_true],⟨M,k _ _ t,l⟩⟩⟩
     | n+2,h1,h2=>exact absurd (show(none:Option (Option V))=some (some S)from h2) (by simp)
    ·obtain⟨M,t,l⟩:=hcc;rw[(L z d h).2];exact⟨_,M,k _ _ t,l⟩
    ·rw[(L z d h).2];exact hcn
   refine kla_codeExpr (wpAny_mono (hbody [] _ [some v,some D] H Q I hq) (λr s' E=>?_) λ_ _ z=>z.elim);obtain⟨F,H',J,X,q⟩:=E;exact⟨r,rfl,F,H',J.os,J.bare,J.base,J.hok,X,q⟩
 ·obtain⟨F,rfl,E⟩:=E;exact E
def zsA{lsc:Scope}{env:Env}{y:Str}{a:Addr}(b:lsc.names=[(x,.local),(y,.free)])(c:env.cells.lookup y=some a):closureFor lsc env=pure [(y,a)]:=by
 unfold closureFor cellOf;rw[b];simp[c]
section
variable {prog:Program}{w:World}{A:Around}{E:Value->Shared->Prop}{l I S:Addr}{q:Addr}{ns:List Int}{R:Result->Shared->Prop}{Q:Value->Shared->Prop}
structure MinJ(prog:Program)(w:World)(A:Around)(l I S q:Addr)(ns:List Int)(kf:Nat->Int)(J JF:Shared->Prop):Prop where
 lst:∀s,J s->∃its:List Value,Vals (ns.map V.int) its/\s.heap.IsList l its.toArray
 it:∀(s:Shared) (h':Heap) (tk:Nat),J s->(∃o,h'.get? I=some o)->(∀b o,b∉[I]->s.heap.get? b=some o->h'.get? b=some o)->J { s with heap:=h',toks:=tk }
 pl:∀(s:Shared) (h':Heap),J s->s.heap.SameBut S h'->(∃o,h'.get? S=some o)->J { s with heap:=h' }
 fin:∀(s:Shared) (h':Heap) (tk:Nat) (h'':Heap),J s->(∀b o,b∉[I]->s.heap.get? b=some o->h'.get? b=some o)->h'.SameBut S h''->JF { s with heap:=h'',toks:=tk }
 turn:∀(i:Nat) (t:Tok),i<ns.length->∀s,J s->wpAny (model prog w) A.in1 (call (.ref q) [.int (ns.getD i 0) t]) (λx s''=>(∃t,x=.int (kf i) t)/\J s''/\∀b o,b=I\/b=S->s.heap.get? b=some o->s''.heap.get? b=some o) (λ_ _=>False) s
def zss(kf:Nat->Int){J JF:Shared->Prop}(hh:A.handled=none)(M:MinJ prog w A l I S q ns kf J JF)(N:l≠I)(B:S≠I)
  (hR:∀i t s',i<ns.length->(∀j,j<ns.length->kf i<=kf j/\(j<i->kf i<kf j))->JF s'->R (.ok (.ret (.int (ns.getD i 0) t))) s') :
  ∀(r j i:Nat) (s:Shared) (tv tb:Tok) (c:Nat),ns.length-(j+1)=r->j+1<=ns.length->J s ->
   s.heap.get? S=some (seqObj "list" #[.int (ns.getD i 0) tv,.int (kf i) tb] c)->s.heap.IsListIter I l (j+1)->i<ns.length->i<=j->(∀b,b<=j->kf i<=kf b/\(b<i->kf i<kf b)) ->
   codeAny (model prog w) A (.builtin "min.loop" ⟨[.ref I,.ref q,.ref S],[]⟩) R s:=by
 have f:(toString "min" ++ toString ".loop" : String) = "min.loop" := by decide
 intro r
 induction r with
 | zero=>
  intro j i s tv tb c hr hj K O o z X a;have Z:j+1=ns.length:=by lia
  obtain⟨its,V,hL⟩:=M.lst s K;have p:its.toArray.size=ns.length:=by rw[yp,<- V.length,ye]
  have W:=Walks.list (prog:=prog) (w:=w) (A:=A.in1) hh I l N its.toArray;refine codeAny_builtin yaG ?_;rw[Around.under_plainId yT _];show wpAny _ A.in1 (seqItems? (.ref S) >>= _) _ _ _;refine wpAny_bind (wpAny_seqItems O rfl ?_);show wpAny _ A.in1 (tryCatch (pyNext (.ref I)) _ >>= _) _ _ _;refine wpAny_bind (wpAny_tryCatch (W.done _ _ _ ⟨by rw[p,<- Z];exact o,hL⟩ λh' y d=>?_));have Y:=d S _ (by simpa using B) O;have U:=Heap.SameBut.update h' S (Obj.mapSeq λ_=>(#[]:Array Value));show wpAny _ A.in1 (updateSeq S (λ_=>#[]) >>= _) _ _ _;refine wpAny_bind ?_;refine wpAny_updateSeq Y rfl (wpAny_bind (wpAny_letGo (wpAny_pure ?_)));exact hR i tv _ z (λb H=>a b ⋯) (M.fin s h' y _ K d U)
 | succ r ih=>
  intro j i s tv tb c hr hj K O o z X a;have g:j+1<ns.length:=by lia
  obtain⟨its,V,hL⟩:=M.lst s K;have p:its.toArray.size=ns.length:=by rw[yp,<- V.length,ye]
  have W:=Walks.list (prog:=prog) (w:=w) (A:=A.in1) hh I l N its.toArray;refine codeAny_builtin yaG ?_;rw[Around.under_plainId yT _];show wpAny _ A.in1 (seqItems? (.ref S) >>= _) _ _ _;refine wpAny_bind (wpAny_seqItems O rfl ?_);show wpAny _ A.in1 (tryCatch (pyNext (.ref I)) _ >>= _) _ _ _;refine wpAny_bind (wpAny_tryCatch (W.item (j+1) _ _ _ (by rw[p];exact g) ⟨o,hL⟩ λv h' y hP E d=>?_));obtain⟨m,rfl⟩:=zfr V hP;obtain⟨L,k,G,T⟩:=id E.1;have K1:=M.it s h' y K ⟨_,k⟩ d;have a0:=d S _ (by simpa using B) O;show wpAny _ A.in1 (tryCatch (holding [.int (ns.getD (j+1) 0) m] (call (.ref q) [.int (ns.getD (j+1) 0) m])) _ >>= _) _ _ _;refine wpAny_bind (wpAny_tryCatch (wpAny_holding (wpAny_mono (M.turn (j+1) m g _ K1) (λx C he=>?_) λ_ _ hF=>hF.elim)));obtain⟨⟨n,rfl⟩,K2,kp⟩:=he;have u:=kp S _ (.inr rfl) a0;have D:C.heap.IsListIter I l (j+1+1):=⟨L,kp I _ (.inl rfl) k,G,T⟩
  show wpAny _ A.in1 (tryCatch (holding [.int (ns.getD (j+1) 0) m,.int (kf (j+1)) n] (richCompare .Lt (.int (kf (j+1)) n) (.int (kf i) tb) >>= _)) _ >>= _) _ _ _;refine wpAny_bind (wpAny_tryCatch (wpAny_holding (wpAny_bind (CmpOf.ints_lt (prog:=prog) (w:=w) (A:=A.in1) (P:=λi v=>∃t,v=.int (kf i) t) kf (λi v h=>h) (j+1) i _ _ _ _ _ ⟨n,rfl⟩ ⟨tb,rfl⟩ ?_))));refine wpAny_bind (wpAny_holding (wpAny_truthy_bool ?_));refine wpAny_bind (wpAny_letGo (wpAny_pure ?_));by_cases F:kf (j+1)<kf i
  ·have U:=Heap.SameBut.update C.heap S (Obj.mapSeq λ_=>#[.int (ns.getD (j+1) 0) m,.int (kf (j+1)) n]);obtain⟨c2,Q⟩:∃c2,(C.heap.update S (Obj.mapSeq λ_=>#[.int (ns.getD (j+1) 0) m,.int (kf (j+1)) n])).get? S=some (seqObj "list" #[.int (ns.getD (j+1) 0) m,.int (kf (j+1)) n] c2):=⟨_,get?_update_seq u λ_=>#[.int (ns.getD (j+1) 0) m,.int (kf (j+1)) n]⟩
   simp only[F,decide_true,if_true];refine wpAny_bind ?_;refine wpAny_updateSeq u rfl (wpAny_bind (wpAny_letGo ?_));rw[f];refine wpAny_pure ⟨plainId_quiet yT _,ih (j+1) (j+1) _ m n c2 ⋯ g (M.pl _ _ K2 U ⟨_,Q⟩) Q ⟨L,(U.2 I B.symm).trans (kp I _ (.inl rfl) k),G,T⟩ g (yc _) λb H=>?_⟩;by_cases e:b=j+1
   ·subst e;exact⟨⋯,λ_=>by lia⟩
   ·have a1:=a b ⋯;have a2:=a1.1;exact⟨⋯,λ_=>by lia⟩
  ·simp only[F,decide_false,ybk,if_false];refine wpAny_bind (wpAny_letGo ?_);rw[f];refine wpAny_pure ⟨plainId_quiet yT _,ih (j+1) i _ tv tb c ⋯ g K2 u D z ⋯ λb H=>?_⟩;by_cases e:b=j+1
   ·subst e;exact⟨⋯,λ_=>by lia⟩
   ·exact a b ⋯
def zsC(kf:Nat->Int)(J Z:Addr->Addr->Shared->Prop)(X:A.handled=none)(hl:∃v,s.heap.IsList l v)(T:ns≠[])
  (start:∀I S h',I=s.heap.objs.size->S=I+1->(∃o,h'.get? I=some o)->(∃o,h'.get? S=some o)->(∀b o,s.heap.get? b=some o->h'.get? b=some o)->J I S { s with heap:=h' })
  (M:∀I S,I=s.heap.objs.size->S=I+1->MinJ prog w A l I S q ns kf (J I S) (Z I S))
  (hQ:∀I S i t s',I=s.heap.objs.size->S=I+1->i<ns.length->(∀j,j<ns.length->kf i<=kf j/\(j<i->kf i<kf j))->Z I S s'->Q (.int (ns.getD i 0) t) s') :
  wpAny (model prog w) A (call (.builtin "min") [.ref l] [(Str.ofString "key",.ref q)]) Q E s:=by
 have c:(toString "min" ++ toString ".loop" : String) = "min.loop" := by decide
 obtain⟨va,hl⟩:=hl;obtain⟨ol,H,_⟩:=id hl;have D:l<s.heap.objs.size:=Heap.lt_size H;refine kmb_tree PySem.F.kind_min PySem.F.plain_min PySem.F.entry_min (kmb_min_key _ _) ?_;show wpAny _ A.in1 (Builtin.Builtins.bindParams "min" ["key", "default"] 0 ⟨[],[(Str.ofString "key",.ref q)]⟩ >>= _) _ _ s;refine wpAny_bind (wpAny_of_eq (show Builtin.Builtins.bindParams "min" ["key", "default"] 0 ⟨[],[(Str.ofString "key",.ref q)]⟩=pure [some (.ref q),none]from rfl) ?_);refine wpAny_bind (wpAny_pure ?_);refine wpAny_bind (wpAny_pyIter_list hl ?_);refine wpAny_bind (wpAny_newList ?_ (yM _));rw[c];have O:"0b".objs.size=s.heap.objs.size+1:=size_push' ..;have m:l≠s.heap.objs.size:=yw D;have d:"0b".objs.size≠s.heap.objs.size:=by rw[O];exact ybT (yay _)
 refine wpAny_pure ⟨plainId_quiet yT _,?_⟩;have Y:("0b".push (seqObj "list" #[] 0)).get? s.heap.objs.size=some { cls:=.type "list_iterator",data:=.fields #[.ref l,.int 0 0] }:=
  Heap.get?_push_of_some _ (Heap.get?_push_size _ rfl)
 have B:("0b".push (seqObj "list" #[] 0)).get? "0b".objs.size=some (seqObj "list" #[] 0):=Heap.get?_push_size _ rfl;have KH:∀b o,s.heap.get? b=some o->("0b".push (seqObj "list" #[] 0)).get? b=some o:=λb o e=>Heap.get?_push_of_some _ (Heap.get?_push_of_some _ e);have J0:=start s.heap.objs.size (s.heap.objs.size+1) _ rfl rfl ⟨_,Y⟩ ⟨_,O▸B⟩ KH;have u:=M s.heap.objs.size (s.heap.objs.size+1) rfl rfl;obtain⟨its,V,hL⟩:=u.lst _ J0;have G:its.toArray.size=ns.length:=by rw[yp,<- V.length,ye]
 have W:=Walks.list (prog:=prog) (w:=w) (A:=A.in1) X s.heap.objs.size l m its.toArray;rw[O]at B d ⊢;generalize hH2:"0b".push (seqObj "list" #[] 0)=H2 at *
 refine codeAny_builtin yaG ?_;rw[Around.under_plainId yT _];show wpAny _ A.in1 (seqItems? (.ref (s.heap.objs.size+1)) >>= _) _ _ _;refine wpAny_bind (wpAny_seqItems B rfl ?_);show wpAny _ A.in1 (tryCatch (pyNext (.ref s.heap.objs.size)) _ >>= _) _ _ _;have a:0<ns.length:=ya0.mpr T;refine wpAny_bind (wpAny_tryCatch (W.item 0 _ _ _ (by rw[G];exact a) ⟨⟨_,Y,rfl,rfl⟩,hL⟩ λv h' L hP r z=>?_));obtain⟨f,rfl⟩:=zfr V hP;obtain⟨C,g,U,P⟩:=id r.1;have K1:=u.it _ h' L J0 ⟨_,g⟩ z;have N:=z (s.heap.objs.size+1) _ (by simpa using d) B;show wpAny _ A.in1 (tryCatch (holding [.int (ns.getD 0 0) f] (call (.ref q) [.int (ns.getD 0 0) f])) _ >>= _) _ _ _;refine wpAny_bind (wpAny_tryCatch (wpAny_holding (wpAny_mono (u.turn 0 f a _ K1) (λx p he=>?_) λ_ _ hF=>hF.elim)));obtain⟨⟨k,rfl⟩,K2,kp⟩:=he;have y:=kp _ _ (.inr rfl) N;have s1:=Heap.SameBut.update p.heap (s.heap.objs.size+1) (Obj.mapSeq λ_=>#[.int (ns.getD 0 0) f,.int (kf 0) k]);obtain⟨R,n⟩:∃R,(p.heap.update (s.heap.objs.size+1) (Obj.mapSeq λ_=>#[.int (ns.getD 0 0) f,.int (kf 0) k])).get? (s.heap.objs.size+1)=some (seqObj "list" #[.int (ns.getD 0 0) f,.int (kf 0) k] R):=⟨_,get?_update_seq y λ_=>#[.int (ns.getD 0 0) f,.int (kf 0) k]⟩
 show wpAny _ A.in1 (updateSeq (s.heap.objs.size+1) (λ_=>#[.int (ns.getD 0 0) f,.int (kf 0) k]) >>= _) _ _ _;refine wpAny_bind ?_;refine wpAny_updateSeq y rfl ?_;rw[c];refine wpAny_pure ⟨plainId_quiet yT _,zss kf X u m d (λi t s' hi hb K=>hQ _ _ i t s' rfl rfl hi hb K) _ 0 0 _ f k R rfl a (u.pl _ _ K2 s1 ⟨_,n⟩) n ⟨C,(s1.2 _ d.symm).trans (kp _ _ (.inl rfl) g),U,P⟩ a (yc _) λj' a0=>?_⟩;have e:j'=0:=by lia
 subst e;exact⟨⋯,λh=>absurd h (yW _)⟩
end
noncomputable def tMK (ta:TA) (tb:TE) (j:Nat) (T:Addr) (lpos:Pos) (q:Str):TE:=λσ H Q=>ta σ H λvs H1=>Tb H1 T lpos q/\∃(r:Addr) (ns:List Int) (u:V) (g:Int->Int),vs=[.ref r]/\H1 r=some (.lst (ns.map V.int))/\ns≠[]/\σ[j]?=some (some u) /\
 (∀x∈ns,∀H2,SameT H1 H2->tb [some (.int x),some u] H2 (λv a=>v=.int (g x)/\Same H2 a)) /\
 ∀x a,x∈ns->(∀y∈ns,g x<=g y)->SameT H1 a->Tb a T lpos q->Q (.int x) a
def zta{p pos kp lpos:Pos}{e:Expr}{ta:TA}{tb:TE}{params:Arguments}{body:Expr}{lsc:Scope}{x y:Str}{c T:Addr}{j k:Nat}(hg:Gl X "min")(hm:X.mg "min" = none)(hv:bootBuiltins "min" = some (.builtin "min"))(ha:PA X [e] ta)
  (hcode:X.env.code=.ref c) (C:CodeHd X.base c T) (B:X.base.BuiltinsAt X.mg T) (hN:X.N[j]?=some y) (hy:X.env.kindOf y=some .cell) (hr:Room (k+1) X.A)
  (hbody:∀f F V A s H,PE (zkg X.prog X.w X.K X.mg X.base x y (X.env.qual ++ "<lambda>") lsc f F V A X.stack s H) body tb)
  (hdef:autoParam (defaultsOf params X.env=([],[])) Internal.aut2._auto_1) (hsn:autoParam (lsc.names=[(x,.local),(y,.free)]) Internal.aut2._auto_1) (hxy:autoParam ((y == x)=false) Internal.aut1._auto_1) (hk:autoParam (lsc.kind=.function) Internal.aut2._auto_1) (hco:autoParam (lsc.isCoroutine=false) Internal.aut2._auto_1) (hgen:autoParam (lsc.isGenerator=false) Internal.aut2._auto_1)
  (n:autoParam (∀V pm F ctv u,bindArgs (kla_fn "<lambda>" (X.env.qual ++ "<lambda>") params body lsc [(y,V)] pm (.ref F) ctv) ⟨[u],[]⟩=pure [(x,u)]) Internal.aut5._auto_1)
  (he:autoParam (backTo pos (starEach [e] X.env)=(false,eval e X.env) :: backTo pos (starEach [] X.env)) Internal.aut2._auto_1)
  (hplain:autoParam ((backTo pos (starEach [e] X.env)).any (·.1)=false) Internal.aut2._auto_1):PE X (.Call (.Name "min" p) [e] [⟨some "key",.Lambda params body lsc lpos,kp⟩] pos) (tMK ta tb j T lpos (X.env.qual ++ "<lambda>")):=by
 intro pins s σ H Q I h;refine wpAny_Call_Name_kw (zck I hg hm hv ?_ "0a" "0a");refine PyProof.Rows.callWith_kw ?_ he hplain;refine thn (ha pos pins s σ H _ I h) λus s1 zz=>?_;obtain⟨vs,H1,I1,rv,hT,r,ns,u,g,rfl,ah,ao,hu,a9,kk⟩:=zz;obtain⟨u1,rfl,r1⟩:=vals1 rv;cases r1;obtain⟨V,a0⟩:=I1.ok.has y (.inl hy);have a3:∀{H':Hp} {s':Shared},Inv X pins σ H' s'->∃u',RelV u u'/\s'.heap.IsCell V (some u'):=λ{H' s'} a=>by
  obtain⟨m,hn,hl⟩:=a.loc;obtain⟨u',ru,l⟩:=hl j y u hN hu (.inr (.inl hy));rcases l with⟨E,_⟩ | ⟨_,c2,hc2,D⟩
  ·rw[hy]at E;cases E
  ·rw[a0]at hc2;cases hc2;exact⟨u',ru,D⟩
 refine thn (zl6 (t:=ziq) (nm:=some "key") (kpos:=kp) (ztD (lpos:=lpos) (params:=params) (body:=body) hdef (zsA hsn a0) hcode C B) zpD pos pins s1 σ H1 (λws H2=>∃f F,ws=[.ref f]/\H1 f=none/\SameT H1 H2/\Tb H2 T lpos (X.env.qual ++ "<lambda>")/\H2 f=some (zhf f (zdn X params body lsc [(y,V)] F))/\H2 F=some (zgg F (X.env.qual ++ "<lambda>"))) I1 ⟨hT,λf F H' h1 h2 h3 h4 h5=>⟨f,F,rfl,h1,h2,h3,h4,h5⟩⟩) λax W zz=>?_;obtain⟨ws,H2,M,aq,f,F,rfl,aw,st,ae,hF,hC⟩:=zz;obtain⟨u2,rfl,r3⟩:=vals1 aq;cases r3;have a6:=st.at ah;obtain⟨as,av,an,ay,au⟩:=M.walk (SqL.of a6);show wpAny "0g" X.A (call (.builtin "min") [.ref r] [(Str.ofString "key",.ref f)]) (EP X pins σ Q) X.xe W;have hd:=hr.hd;have af:X.A.in1.depth<recursionLimit:=by have:=hr.dp;show X.A.depth<_;lia
 have nf:∀b,W.heap.objs.size<=b->b∉frs X.stack:=λb n z=>by
  rcases yA.mp (M.stkSub b z)with q | q
  ·exact absurd (show b<W.heap.objs.size from q▸M.lt) (ybR.mpr n)
  ·exact M.nofs n q
 have a2:∀b,W.heap.objs.size<=b->∀z d,X.env.cells.lookup z=some d->d≠b:=λb n z d hz q=>by
  obtain⟨v,o,ho,_⟩:=M.cell z d hz;exact absurd (Heap.lt_size ho) (ybR.mpr (q▸n))
 have aa:∀b,W.heap.objs.size<=b->∀q∈X.pn++pins,q.1≠b:=λb n q hq z=>by
  exact absurd (Heap.lt_size (M.pin q hq).1) (ybR.mpr (z▸n))
 have a8:∀b,W.heap.objs.size<=b->b≠X.env.locals:=λb n z=>absurd (show b<W.heap.objs.size from z▸M.lt) (ybR.mpr n);have turned:∀{H':Hp} {s':Shared} {b:Addr} {h':Heap} (tk:Nat),W.heap.objs.size<=b->Inv X pins σ H' s'->H' b=none->(∀d o,d≠b->s'.heap.get? d=some o->h'.get? d=some o)->Inv X pins σ H' { s' with heap:=h',toks:=tk }:=λtk n a hn hk=>a.turned (t':=tk) hk hn (a8 _ n) (.inr (yi M.sz n)) (a2 _ n) (aa _ n);refine zsC (λi=>g (ns.getD i 0)) (λI S s'=>∃H':Hp,Inv X pins σ H' s'/\Same H2 H'/\H' I=none/\H' S=none/\(∃o,s'.heap.get? I=some o)/\∃o,s'.heap.get? S=some o) (λI S s'=>∃H':Hp,Inv X pins σ H' s'/\Same H2 H') hd ⟨_,an⟩ ao (λJ U h' eI eS oI Y hk=>?_) (λJ U eI eS=>⟨λs' G=>?_,λs' h' tk G oI E=>?_,λs' h' G sb Y=>?_,λs' h' tk ab G E sb=>?_,λi t hi s' G=>?_⟩) (λJ U i t s' eI eS hi Z G=>?_)
 ·refine⟨H2,M.kept hk,Same.refl _,M.hok.fresh ⋯,M.hok.fresh ⋯,oI,Y⟩
 ·obtain⟨H',a,sm,_⟩:=G;obtain⟨its,a1,pl,_,_⟩:=a.walk (SqL.of (sm _ _ a6));exact⟨its,a1,pl⟩
 ·obtain⟨H',a,sm,P,R,_,Y,O⟩:=G;exact⟨H',turned tk ⋯ a P λd o hd q=>E d o (by simpa using hd) q,sm,P,R,oI,Y,E U Y (by rw[ym];exact λz=>yW J (by have z':(U:Nat)=J:=z;lia)) O⟩
 ·obtain⟨H',a,sm,P,R,⟨oI,L⟩,_⟩:=G;exact⟨H',turned s'.toks ⋯ a R λd o hd q=>(sb.2 d hd).trans q,sm,P,R,⟨oI,(sb.2 J (λz=>yW J (by have z':(J:Nat)=U:=z;lia))).trans L⟩,Y⟩
 ·obtain⟨H',a,sm,P,R,_⟩:=G;have ag:=turned (b:=J) (h':=h') tk ⋯ a P λd o hd q=>E d o (by simpa using hd) q;exact⟨H',turned (s':={ s' with heap:=h',toks:=tk }) (b:=U) (h':=ab) tk ⋯ ag R λd o hd q=>(sb.2 d hd).trans q,sm⟩
 ·obtain⟨H',a,sm,P,R,⟨oI,L⟩,Y,O⟩:=G;obtain⟨⟨ctv,aj⟩,_⟩:=a.hok f _ (sm _ _ hF);obtain⟨ai,_⟩:=a.hok F _ (sm _ _ hC);obtain⟨uy,ry,D⟩:=a3 a;have a7:ns.getD i 0∈ns:=ya (zc4 hi);refine wpAny_mono (zr2 (A:=X.A.in1) (v:=.int (ns.getD i 0)) hd af a.env0.in1 aj ai hsn hxy hk hco hgen (λu=>n V _ F ctv u) D (a.freeC y V a0) ⟨t,rfl⟩ ry (hbody f F V _ _ _) (a9 _ a7 H' (st.trans sm.t))) (λkv ar ac=>?_) λ_ _ z=>z;obtain⟨v',a4,os,bare,un,hok,a1,ad,ap⟩:=ac;subst ad;have kI:=un.keep J _ L P (nf J ⋯) (by simp);have kS:=un.keep U _ O R (nf U ⋯) (by simp);have fI:=un.free J _ L P (by simp);have fS:=un.free U _ O R (by simp);obtain⟨hh,gg,dd,tt,al⟩:=ar;obtain rfl:al=s'.os:=os;have J1:Inv X pins σ a4 ⟨hh,gg,dd,tt,s'.os⟩:=a.call (h':=hh) (g':=gg) (d':=dd) (t':=tt) (ch:=[]) un hok bare (λb z=>absurd z (by simp));refine⟨a1,⟨a4,J1,sm.trans ap,fI,fS,⟨oI,kI⟩,Y,kS⟩,λb o n q=>?_⟩;rcases n with rfl | rfl
  ·rw[L]at q;cases q;exact kI
  ·rw[O]at q;cases q;exact kS
 ·obtain⟨H',a,sm⟩:=G;refine⟨.int (ns.getD i 0),H',a,⟨t,rfl⟩,kk _ H' (ya (zc4 hi)) (λy' ak=>?_) (st.trans sm.t) (ae.same sm)⟩;obtain⟨j',a5,am⟩:=y6 ak
  have:=(Z j' a5).1
  rwa [show ns.getD j' 0=y' by rw[yf,yl a5,am];rfl]at this
def zov{P:Program}{w:World}{K:Fg}{mg W:Str->Option Value}{CX:CXT}{k:Nat}{Y a c T:Addr}{fd:FuncData}{x:Str}{sp:Sp}{f:Shared}{vs:List Value}{ns:List Int}
  (KX:K.In f.heap) (hns:f.heap.Ns mainGlobals mg) (p:f.heap.Ns builtinsNs W) (hbb:∀x:Str,x ≠ "__name__" -> W x=bootBuiltins x) (hlim:f.heap.NoLimit) (hg:f.gens=#[])
  (ha:f.heap.get? a=some { cls:=.type "list",data:=.seq vs.toArray }) (hi:IntsAre vs ns) (hl:ns.length<=sizeLine) (hr:Room k callerA)
  (hC:CodeHd f.heap c T) (hT:f.heap.get? T=some (tabObj #[])) (hKT:K.lookup T=none) (hB:f.heap.BuiltinsAt mg T)
  (F:∀base:Heap,K.In base->base.Ns mainGlobals mg->CodeHd base c T->base.BuiltinsAt mg T->FnOk P w K mg base CX k Y fd [x] sp) (hbind:∀(s:Shared) (u:Value),BindsTo s fd ⟨[u],[]⟩ [(x,u)])
  (hsp:∀H:Hp,SqL K H a (ns.map V.int)->H T=some (.tbl #[])->sp [.ref a] H (λv _=>v=.bl true) λ_ _ _=>False)
  (hCX:∀H e s',CX [] H f (λ_ _ _=>False) e s'->False) :
  codeAny (model P w) callerA (.call (.ref Y) ⟨[.ref a],[]⟩) (λr s'=>r=.ok (.ret (.bool true))/\OldK f.heap s'.heap/\s'.os=f.os/\AllBare s'.gens) f:=by
 have rv:=zja hi;have N:=hi.length;have t:T≠a:=λz=>by rw[z,ha]at hT;cases hT
 have B:∀j:Hp,zvp j->SqL K j a (ns.map V.int)->HOk P w j f.heap->(∀b,j b≠none->b=a)->(j a≠none->K.lookup a=none) ->
   codeAny (model P w) callerA (.call (.ref Y) ⟨[.ref a],[]⟩) (λr s'=>r=.ok (.ret (.bool true))/\OldK f.heap s'.heap/\s'.os=f.os/\AllBare s'.gens) f:=by
  intro j hO hS R U hK;have E:j T=none:=by
   cases q:j T with
   | none=>rfl
   | some u=>exact absurd (U T (by rw[q];simp)) t
  obtain⟨H,eH⟩:∃H,H=upd j T (.tbl #[]):=⟨_,rfl⟩
  have X:H T=some (.tbl #[]):=by rw[eH];exact zaa
  have y:∀b,b≠T->H b=j b:=λb h=>by rw[eH,zZ h]
  have hok:HOk P w H f.heap:=λb o e=>by
   by_cases h:b=T
   ·subst h;rw[X]at e;cases e;exact hT
   ·rw[y b h]at e;exact(R b o e).stay (λd u _ q=>q) (λd q=>by rw[y d (zV q E)];exact q) λd xs q=>by rw[y d (zV q E)];exact q
  have a3:SqL K H a (ns.map V.int):=by
   rcases hS with(h | ⟨o,h⟩) | h
   ·exact .inl (.inl (by rw[y a t.symm];exact h))
   ·exact .inl (.inr ⟨o,by rw[y a t.symm];exact h⟩)
   ·exact .inr h
  have g:∀{b:Addr} {o:Obj},f.heap.get? b=some o->H b=none->(zdS f.heap H).get? b=some o:=λe n=>zqQ e n;have I:∀{b:Addr} {o:Obj},f.heap.get? b=some o->o.cls≠.none->o.cls≠.type "list" -> H b=none:=λ{b o} e d1 d2=>by
   have i:b≠T:=λz=>by rw[z,hT]at e;cases e;exact d1 rfl
   rw[y b i];cases q:j b with
   | none=>rfl
   | some u=>
    have L:b=a:=U b (by rw[q];simp);subst L;rw[ha]at e;cases e;exact absurd rfl d2
  have Z:∀{b:Addr} {o:Obj} {es:Array DictEntry} {ep:Nat},f.heap.get? b=some o->o.data=.dict es ep->H b=none:=λ{b o es ep} e d=>by
   have i:b≠T:=λz=>by rw[z,hT]at e;cases e;cases d
   rw[y b i];cases q:j b with
   | none=>rfl
   | some u=>
    have L:b=a:=U b (by rw[q];simp);subst L;rw[ha]at e;cases e;cases d
  have A:∀{b:Addr} {m:Str->Option Value},f.heap.Ns b m->(zdS f.heap H).Ns b m:=λ{b m} ⟨o,es,ep,e,d,r⟩=>⟨o,es,ep,g e (Z e d),d,r⟩
  have M:K.In (zdS f.heap H):=λb o e=>g (KX b o e) (by
   have i:b≠T:=λz=>by rw[z,hKT]at e;cases e
   rw[y b i];cases q:j b with
   | none=>rfl
   | some u=>
    have L:b=a:=U b (by rw[q];simp);subst L;rw[hK (by rw[q];simp)]at e;cases e)
  have hM:Mod K mg (zdS f.heap H):=⟨M,A hns,⟨W,A p,hbb⟩,let ⟨mc,h1,h2⟩:=hlim;⟨mc,A h1,h2⟩⟩
  have a1:CodeHd (zdS f.heap H) c T:=by
   obtain⟨o,us,J,tf,D,tg,a0,O,tt,Q,G,r⟩:=hC;exact⟨o,us,J,tf,D,tg,a0,O,tt,g Q (I Q (by rw[G];decide) (by rw[G];decide)),G,r⟩
  have a2:(zdS f.heap H).BuiltinsAt mg T:=by
   obtain⟨bm,o,b1,b2,b3,b4,b5,b6,r⟩:=hB;exact⟨bm,o,b1,b2,b3,b4,g b5 (I b5 (by rw[b6];decide) (by rw[b6];decide)),b6,r⟩
  have e0:Env0 P w K mg (zdS f.heap H) callerA [] f H:=⟨rfl,hM,λb o e=>zsQ e,Nat.le_of_eq (zor _ _),trivial,λb p=>absurd (show b∈([]:List Addr)from p) (by simp),hok,.of_eq hg⟩
  refine codeAny_mono ((F _ M (A hns) a1 a2).run callerA [] f H ⟨[.ref a],[]⟩ [.ref a] [.ref a] _ _ hr e0 (hbind f (.ref a)) (.cons rfl .nil) (hsp H a3 X)) λr s' h=>?_;cases r with
  | error e=>exact(hCX H e s' h).elim
  | ok fl=>
   cases fl with
   | next=>exact False.elim h
   | brk=>exact False.elim h
   | cont=>exact False.elim h
   | ret u=>
    obtain⟨v,H',os,bare,un,C,r',q⟩:=h;have q':v=.bl true:=q;subst q';obtain rfl:u=Value.bool true:=r';have l:∃more,s'.heap.get? T=some (tabObj more):=by
     obtain⟨more,e⟩:=un.tbls T #[] X;exact⟨_,C T _ e⟩
    have keep:∀b o,b≠T->f.heap.get? b=some o->s'.heap.get? b=some o:=λb o i e=>by
     cases q:j b with
     | none=>exact un.keep b o e (by rw[y b i];exact q) (by intro z;exact absurd (show b∈([]:List Addr)from z) (by simp)) (by simp)
     | some u=>
      rcases hO b with z | ⟨ob,xs,z⟩
      ·rw[q]at z;cases z
      ·have z1:H b=some (.frz ob (.lst xs)):=by rw[y b i];exact z
       have z2:=un.frzs b ob _ z1;obtain⟨Q,_⟩:=hok b _ z1;obtain⟨G,_⟩:=C b _ z2;rw[e]at Q;cases Q;exact G
    refine⟨rfl,⟨λb o e=>?_,λb o e=>?_⟩,os,bare⟩
    ·by_cases i:b=T
     ·subst i;rw[hT]at e;cases e;obtain⟨more,hm⟩:=l;exact .inr (.inl ⟨(hC.tab hT).isCodeTable,rfl,#[],more,rfl,by rw[Array.empty_append];exact hm⟩)
     ·exact .inl (keep b o i e)
    ·by_cases i:b=T
     ·subst i;obtain⟨more,hm⟩:=l;exact⟨_,hm⟩
     ·exact⟨o,keep b o i e⟩
 cases hk:K.lookup a with
 | some o=>
  have e:=KX a o hk;rw[ha]at e;cases e;refine B (λ_=>none) (λ_=>.inl rfl) (.inr ⟨_,vs.toArray,_,hk,rfl,rfl,rfl,by rw[yp,N];exact hl,by simpa using rv⟩) (λb u z=>by have S:(none:Option HO)=some u:=z;cases S) (λb z=>absurd rfl z) λz=>absurd rfl z
 | none=>
  refine B (λb=>if b=a then some (.frz { cls:=.type "list",data:=.seq vs.toArray } (.lst (ns.map V.int)))else none) (λb=>?_) (.inl (.inr ⟨{ cls:=.type "list",data:=.seq vs.toArray },if_pos rfl⟩)) (λb u z=>?_) (λb z=>?_) λ_=>hk
  ·by_cases p:b=a
   ·exact .inr ⟨_,_,if_pos p⟩
   ·exact .inl (if_neg p)
  ·by_cases p:b=a
   ·have S:=(if_pos p).symm.trans z;cases S;subst p;exact⟨ha,by rw[ye];exact hl,vs,_,rv,ha⟩
   ·have S:=(if_neg p).symm.trans z;cases S
  ·by_cases p:b=a
   ·exact p
   ·exact absurd (if_neg p) z
noncomputable def zhk (K:Fg) (x:Str):Addr:=match tabIn K x with
 | some q=>q.2
 | none=>0
class TabX (K:Fg) (mg:Str->Option Value) (base:Heap) (x:outParam Str):Prop where
 ex:∀c T,tabIn K x=some (c,T)->CodeHd base c T/\base.BuiltinsAt mg T
def zjW(b:noTabs K=true)(X:K.In h)(a:h.get? T=some (tabObj #[])):K.lookup T=none:=by
 cases q:K.lookup T with
 | none=>rfl
 | some o=>
  have e:=X T o q;rw[a]at e;cases e;have h2:=ybv.mp b (T,tabObj #[]) (mem_of_lookupK q);exact absurd (show false=true from h2) yu
def walk_ofT{l:PySem.W.OpenLaw}{n k:Nat}{q:Program}{m:List Str}{S:(Str->Option Value)->Heap->Prop}{L:World->Heap->Prop}{d d':DefRec}{K:Params->Fg}{CX:World->CXT}{sp:World->Sp}{x y:Str}
  (hn:l.most=some n) (hn2:n<=sizeLine) (hdf:d.params.defaults=[]) (hr:Room k callerA)
  (hY:∀(w:World) (h:Heap),L w h->(K w.params).In h)
  (hrec:(recsOf q).find? (λe=>e.name == y)=some d') (hnt:∀w:World,noTabs (K w.params)=true)
  (F:∀(w:World) (mg:Str->Option Value) (B:Addr) (h:Heap),(K w.params).In h->h.Ns mainGlobals mg->mg d.name=some (.ref B) ->
   ∃fd:FuncData,(∀(s:Shared) (u:Value),BindsTo s fd ⟨[u],[]⟩ [(x,u)])/\(∃p,tabIn (K w.params) y=some p) /\
    ∀base:Heap,(K w.params).In base->base.Ns mainGlobals mg->TabX (K w.params) mg base y->FnOk l.prog w (K w.params) mg base (CX w) k B fd [x] (sp w))
  (hsp:∀(w:World) (H:Hp) (a:Addr) (ns:List Int),ns.length<=n->zkh ns->SqL (K w.params) H a (ns.map V.int)->(∀pos qual,Tb H (zhk (K w.params) y) pos qual)->sp w [.ref a] H (λv _=>v=.bl true) λ_ _ _=>False)
  (hCX:∀(w:World) (H:Hp) (s:Shared) (e:Value) (s':Shared),CX w [] H s (λ_ _ _=>False) e s'->False) :
  PySem.W.WalkO q m S L l.row.toRowW d [] (λf vs=>PySem.call f vs):=by
 refine zln hn hdf λw s₀ N mg mb B a vs ns G Y J t r i hz P=>?_;have C:=hY w _ Y;obtain⟨fd,hb,⟨⟨c,T⟩,j⟩,Z⟩:=F w mg B _ C G.T.g J;obtain⟨hC,D⟩:=tab_of G.T C hrec j;have X:N.heap.BuiltinsAt mg T:=by
  obtain⟨O,ob,b1,b2,A,M,b5,E⟩:=G.T.bmain;refine⟨O,ob,b1,b2,λz=>?_,λz=>?_,A,M,b5,E⟩
  ·obtain⟨o,es,ep,e,hd,_⟩:=G.T.g;rw[z,e]at A;cases A;rw[hd]at E;cases E
  ·rw[z,D]at A;cases A;cases M
 have eP:zhk (K w.params) y=T:=by unfold zhk;rw[j]
 refine zov C G.T.g G.T.b G.T.builtins G.T.nolimit P t r (yi i hn2) hr hC D (zjW (hnt w) C D) X
  (λbase R U Q bb=>Z base R U ⟨λc' T' e=>by rw[j]at e;cases e;exact⟨Q,bb⟩⟩) hb (λH hS I=>hsp w H a ns i hz hS λpos qual=>?_) λH e s'=>hCX w H N e s'
 rw[eP];exact⟨#[],I,trivial,.inl rfl⟩
def tab_mk{f:Addr}{i d:Value}{k b:Option Addr}{g e:Array (Option Value)}{vs:Array Value}(a:nsIn K mainGlobals x=some (some (.ref f)))(l:K.lookup f=some ⟨i,k,.func fd,g⟩)(j:fd.code=.ref c)(h:K.lookup c=some ⟨d,b,.fields vs,e⟩)(v:vs[11]?=some (.ref T)):tabIn K x=some (c,T):=by
 unfold tabIn;simp only[a,l,j,h,v]
def Fun.okC{P:Program}{w:World}{mg:Str->Option Value}{base:Heap}{CX:CXT}{f:Addr}{k:Nat}(F:Fun K x qual st f fd)(j:fd.code=.ref c)(S:FnScope N ps (zt st))(len:∀vs H Q E,sp vs H Q E->vs.length=ps.length)
  (hbody:∀(A:Around) (outer:List Env) (s:Shared) (H:Hp) (vs:List V) (Q:VK) (E:XK),Room k (A.deeper (envOfC qual (zt st) s.heap.objs.size f (.ref c)))->sp vs H Q E ->
   ∃t,PSs (zg1 CX P w K mg base N qual (zt st) f (.ref c) A outer s H E).nox (zcz st) t/\t { nx:=λ_ H'=>Q .non H',rt:=Q } (start N vs) H):FnOk P w K mg base CX (k+1) f fd ps sp:=by
 obtain⟨n,p,kV,m,o,an,a,ct,i,rfl,l,b⟩:=F.ex;have e:a=.ref c:=j;subst e;refine zry l b S len λA outer s H vs Q E g d=>?_;obtain⟨t,h,q⟩:=hbody A outer s H vs Q E g d;exact⟨t,h.nox,q⟩
section
variable {H H':Hp}
theorem SameT.lst(e:SameT H H'){a:Addr}{xs:List V}(h:H a=some (.lst xs)):H' a=some (.lst xs):=e.keep _ _ h rfl
theorem SameT.tup(e:SameT H H'){a:Addr}{xs:List V}(h:H a=some (.tup xs)):H' a=some (.tup xs):=e.keep _ _ h rfl
def SameT.seq(e:SameT H H')(h:SqL K H a xs):SqL K H' a xs:=by
 rcases h with(h | ⟨o,h⟩) | h
 ·exact .inl (.inl (e.keep _ _ h rfl))
 ·exact .inl (.inr ⟨o,e.keep _ _ h rfl⟩)
 ·exact .inr h
end
noncomputable def TbW (K:Fg) (x:Str) (pos:Pos) (qual:Str) (H:Hp):Prop:=Tb H (zhk K x) pos qual
section
variable {K:Fg}{x qual:Str}{pos:Pos}{H H':Hp}
theorem TbW.same(e:Same H H')(h:TbW K x pos qual H):TbW K x pos qual H':=Tb.same h e
end
open PySem PySem.Spec PyProof.Rows
noncomputable def oiV:Option Int->V
 | none=>.non
 | some x=>.int x
noncomputable def oiL (n:Nat) (F:Nat->Option Int):List V:="0e".map λm=>oiV (F m)
def zeu{F:Nat->Option Int}:(oiL n F).length=n:=by simp[oiL]
def zdw{F:Nat->Option Int}(h:i<n):(oiL n F)[i]?=some (oiV (F i)):=by simp[oiL,h]
def zly{F:Nat->Option Int}:oiL (n+1) F=oiL n F++[oiV (F n)]:=by unfold oiL;rw[yy,yk];rfl
def zs6{F:Nat->Option Int}{x:Int}:(oiL n F).set j (.int x)=oiL n λm=>if m=j then some x else F m:=by
 refine yag λi=>?_;rw[yau];by_cases hi:i<n
 ·rw[zdw hi,zdw hi];by_cases e:j=i
  ·subst e;rw[if_pos rfl,zeu,if_pos hi,if_pos rfl];rfl
  ·rw[if_neg e,if_neg λz=>e z.symm]
 ·rw[yG (by rw[zeu];lia),yG (by rw[zeu];lia),zeu];by_cases e:j=i
  ·rw[if_pos e,if_neg ⋯]
  ·rw[if_neg e]
noncomputable def lsV (H:Hp):Option Due->V->Prop
 | none,v=>v=.non
 | some e,v=>∃b,v=.ref b/\H b=some (.tup (zad e))
noncomputable def IsLs (H:Hp) (n:Nat) (last:Nat->Option Due) (xs:List V):Prop:=xs.length=n/\∀v,v<n->∃u,xs[v]?=some u/\lsV H (last v) u
def IsLs.keep{last:Nat->Option Due}(e:ziR H H')(h:IsLs H n last xs):IsLs H' n last xs:=⟨h.1,λv f=>by
 obtain⟨u,h1,h2⟩:=h.2 v f;refine⟨u,h1,?_⟩;cases hl:last v with
 | none=>rw[hl]at h2;exact h2
 | some d=>rw[hl]at h2;obtain⟨b,c,a⟩:=h2;exact⟨b,c,e _ _ a⟩⟩
def IsLs.start:IsLs H n (λ_=>none) (zaj n λ_=>none):=⟨zbk,λv a=>⟨_,za8 a,rfl⟩⟩
theorem IsLs.set{H:Hp}{n j:Nat}{last:Nat->Option Due}{xs:List V}{b:Addr}{e:Due}(h:IsLs H n last xs)(c:H b=some (.tup (zad e))):IsLs H n (λv=>if v=j then some e else last v) (xs.set j (.ref b)):=⟨by rw[yar];exact h.1,λv a=>by
 rw[yau];by_cases g:v=j
 ·subst g;rw[if_pos rfl,if_pos (by rw[h.1];exact a)];refine⟨_,rfl,?_⟩;show lsV H (if v=v then some e else last v) _;rw[if_pos rfl];exact⟨b,rfl,c⟩
 ·rw[if_neg λz=>g z.symm];show ∃u,xs[v]?=some u/\lsV H (if v=j then some e else last v) u;rw[if_neg g];exact h.2 v a⟩
def SameT.tups(e:SameT H H'):ziR H H':=λa xs h=>e.tup h
def SameT.isTs{α:Type}{f:α->List V}{xs:List α}(e:SameT H H')(h:IsTs f H vs xs):IsTs f H' vs xs:=h.keep e.tups
def SameT.isSh(e:SameT H H')(h:IsSh K H a ds):IsSh K H' a ds:=let ⟨vs,h1,h2⟩:=h;⟨vs,e.seq h1,e.isTs h2⟩
noncomputable def B2 (b c:Addr) (H H':Hp):Prop:=∀a o,a≠b->a≠c->H a=some o->H' a=some o
def B2.refl:B2 b c H H:=λ_ _ _ _ h=>h
def B2.lft(h:B2 b c H H1)(g:LBut b H1 H2):B2 b c H H2:=λa o d f e=>g.lst (h a o d f e) d
def B2.rgt(h:B2 b c H H1)(g:LBut c H1 H2):B2 b c H H2:=λa o f d e=>g.lst (h a o f d e) d
def B2.sameT{d:Hp}(g:B2 b c H H')(e:SameT d H)(h:d b=none)(f:d c=none):SameT d H':=
 ⟨λa o q n=>g a o (zV q h) (zV q f) (e.keep a o q n),λa ps q=>by obtain⟨ps',q'⟩:=e.tb a ps q;exact⟨ps',g a _ (zV q h) (zV q f) q'⟩⟩
def B2.tups(g:B2 b c H H')(d:H b=some (.lst xs))(e:H c=some (.lst ys)):ziR H H':=λa zs h=>g a _ (λz=>by rw[z,d]at h;cases h) (λz=>by rw[z,e]at h;cases h) h
def B2.tb{pos:Pos}(g:B2 b c H H')(i:H b=some (.lst xs))(f:H c=some (.lst ys))(h:TbW K x pos qual H):TbW K x pos qual H':=by
 obtain⟨ps,h1,h2,e⟩:=h;refine⟨ps,g _ _ (λz=>by rw[z,i]at h1;cases h1) (λz=>by rw[z,f]at h1;cases h1) h1,h2,?_⟩;rcases e with e | ⟨d,e,a⟩
 ·exact .inl e
 ·exact .inr ⟨d,e,g _ _ (λz=>by rw[z,i]at a;cases a) (λz=>by rw[z,f]at a;cases a) a⟩
section
variable {n:Nat}{ds:List Due}{l w p:Nat->Int}{F ini:Nat->Option Int}{last:Nat->Option Due}{E:List Due}{c:Due->Int}
def Bkw.ends{t s:Nat}(B:Bkw last t es s)(g:∀v e,v<n->last v=some e->e.q=(v:Int)/\0<=e.p/\e.p<n):t<n->(es=[]->s=t)/\(∀e,es[0]?=some e->e.q=(t:Int))/\(∀e,es[es.length-1]?=some e->e.p=(s:Int)):=by
 induction B with
 | nil h=>intro _;exact⟨λ_=>rfl,λ_ h=>(nomatch h),λ_ h=>(nomatch h)⟩
 | cons h B ih=>
  rename_i m e es s;intro f;obtain⟨h1,h2,i⟩:=g m e f h;obtain⟨d,j,c⟩:=ih ⋯;refine⟨λz=>(nomatch z),λb a=>?_,λb a=>?_⟩
  ·cases a;exact h1
  ·cases es with
   | nil=>
    cases a;rw[d rfl];lia
   | cons e2 es=>
    refine c b ?_;rw[y9,ybI,y9]at a;rw[List.getElem?_cons_succ]at a;rw[y9,ybI];exact a
def Bkw.from{t s:Nat}(d:zdX n E)(L:Lst n E c ini F last)(B:Bkw last t es s):t<n->F t≠none->s<n/\last s=none/\F s≠none:=by
 induction B with
 | nil h=>intro a b;exact⟨a,h,b⟩
 | cons h B ih=>
  rename_i m e es s;intro a b;obtain⟨h1,h2,y,z,f,i,j⟩:=L.some m e a h;obtain⟨p0,k,l,g⟩:=d e h1;exact ih ⋯ (by rw[f];exact λz=>nomatch z)
def Thin.way(hd:∀d∈ds,zm n d)(L:Lst n (opn ds l) (wgt n) (zaR n w) F last){t s:Nat}(B:Bkw last t es s)(a:t<n)(h:0<w t)(g:F t≠none):es≠[]/\s<n/\w s<0/\s≠t:=by
 obtain⟨a1,a2,b⟩:=B.from (zaT hd) L a g;have h1:=L.none s a1 a2;obtain⟨y,f⟩:∃y,F s=some y:=by
  cases e:F s with
  | none=>exact absurd e b
  | some y=>exact⟨y,rfl⟩
 rw[f]at h1;obtain⟨_,h2,_⟩:=zhL h1.symm;refine⟨λz=>?_,a1,h2,λz=>by rw[z]at h2;lia⟩
 have:=(B.ends (n:=n) (λv e c hl=>by
  obtain⟨b1,b2,_⟩:=L.some v e c hl
  have:=zaT hd e b1
  exact⟨b2,this.1,this.2.1⟩) a).1 z
 rw[this]at h2;lia
def zmr(h:e∈opn ds l):1<=zci ds l e:=by
 obtain⟨i,d,_,h2,b⟩:=steps_mem.mp h;unfold zci;rcases b with⟨a,rfl⟩ | ⟨a,rfl⟩
 ·rw[if_pos (show(1:Int)>0 by decide)];show 1<=amF ds ((i:Int)).toNat-l ((i:Int)).toNat;rw[yh,zbo h2];lia
 ·rw[if_neg (show ¬(-1:Int)>0 by decide)];show 1<=l ((i:Int)).toNat;rw[yh];lia
def Thin.res(hd:∀d∈ds,zm n d)(X:Thin n ds l w)(h:e∈opn ds l):zci ds l e<=100000000000000:=by
 obtain⟨i,d,h1,h2,b⟩:=steps_mem.mp h;have c:=X.bd i h1;have ha:=(hd d (ya h2)).2.2.2.2.2.2.2.2;rw[zbo h2]at c;unfold zci;rcases b with⟨a,rfl⟩ | ⟨a,rfl⟩
 ·rw[if_pos (show(1:Int)>0 by decide)];show amF ds ((i:Int)).toNat-l ((i:Int)).toNat<=_;rw[yh,zbo h2];lia
 ·rw[if_neg (show ¬(-1:Int)>0 by decide)];show l ((i:Int)).toNat<=_;rw[yh];lia
def zvf(h:e∈opn ds l):0<=e.r/\e.r<ds.length:=by
 obtain⟨i,d,h1,h2,a⟩:=steps_mem.mp h;rcases a with⟨_,rfl⟩ | ⟨_,rfl⟩
 ·exact⟨ybc i,Int.ofNat_lt.mpr h1⟩
 ·exact⟨ybc i,Int.ofNat_lt.mpr h1⟩
def ztY{m:Int}(hd:∀d∈ds,zm m d)(h:e∈opn ds l):e.p≠e.q:=by
 obtain⟨i,d,h1,h2,a⟩:=steps_mem.mp h
 have:=(hd d (ya h2)).2.2.2.2.1
 rcases a with⟨_,rfl⟩ | ⟨_,rfl⟩
 ·exact this
 ·exact this.symm
noncomputable def ini0 (n m:Nat):Option Int:=if m<n then some 0 else none
noncomputable def ziD (n:Nat) (F:Nat->Option Int):Prop:=∀m,m<n->∃y,F m=some y
def zi9(a:ziD n F)(p0:0<=e.p)(j:e.p<n)(l:0<=e.q)(k:e.q<n):ziD n (relax c F e)/\∀m,m<n->(relax c F e m).getD 0=if m=e.q.toNat then(if(F e.p.toNat).getD 0+c e<(F e.q.toNat).getD 0 then(F e.p.toNat).getD 0+c e else(F e.q.toNat).getD 0) else(F m).getD 0:=by
 obtain⟨y,d⟩:=a e.p.toNat ⋯;obtain⟨z,b⟩:=a e.q.toNat ⋯;rw[d,b];by_cases h:y+c e<z
 ·rw[zfR d (.inr ⟨z,b,h⟩)];refine⟨λm f=>?_,λm f=>?_⟩
  ·by_cases g:m=e.q.toNat
   ·exact⟨_,if_pos g⟩
   ·obtain⟨u,i⟩:=a m f;exact⟨u,(if_neg g).trans i⟩
  ·show(if m=e.q.toNat then some (y+c e)else F m).getD 0=if m=e.q.toNat then(if y+c e<z then y+c e else z) else(F m).getD 0
   by_cases g:m=e.q.toNat
   ·rw[if_pos g,if_pos g,if_pos h];rfl
   ·rw[if_neg g,if_neg g]
 ·rw[zgt d b h];refine⟨a,λm f=>?_⟩
  show(F m).getD 0=if m=e.q.toNat then(if y+c e<z then y+c e else z) else(F m).getD 0
  by_cases g:m=e.q.toNat
  ·rw[if_pos g,if_neg h,g,b];rfl
  ·rw[if_neg g]
def zmT(a:∀e∈E,0<=e.p/\e.p<n/\0<=e.q/\e.q<n)(b:ziD n F):ziD n (zbv c F E):=by
 induction E generalizing F with
 | nil=>exact b
 | cons e es ih=>
  obtain⟨p0,d,f,g⟩:=a e (.head _);exact ih (λe h=>a e (.tail _ h)) (zi9 b p0 d f g).1
theorem ziS(a:zdX n E):∀t,ziD n (zcR c E (ini0 n) t)
 | 0=>λm b=>⟨0,if_pos b⟩
 | t+1=>zmT a (ziS a t)
noncomputable def znt (n:Nat) (E:List Due) (m:Nat):Int:=(zcR Due.a E (ini0 n) n m).getD 0
def zsF(hd:∀d∈ds,zm n d)(hP:zbm (opn ds l) Due.a p):zbm (opn ds l) Due.a (znt n (opn ds l)):=λe i=>by
 obtain⟨p0,k,o,m⟩:=zaT hd e i;have S:=(zfK (n:=n) (ini:=ini0 n) (zaT hd) hP n).short (zaT hd) (λv x h=>by
  unfold ini0 at h;by_cases g:v<n
  ·exact g
  ·rw[if_neg g]at h;cases h) ⋯
 obtain⟨y,f⟩:=ziS (c:=Due.a) (zaT hd (l:=l)) n e.p.toNat ⋯;obtain⟨z,j,b⟩:=S.step (zaT hd) hP i f;unfold znt;rw[f,j];exact b
theorem zjq{f g:Nat->Int}:∀{n:Nat},(∀m,m<n->f m<=g m)->My.sumTo f n<=My.sumTo g n
 | 0,_=>yC _
 | n+1,h=>by
  have:=zjq (n:=n) λm a=>h m ⋯
  have:=h n ⋯
  show My.sumTo f n+f n<=My.sumTo g n+g n;lia
theorem zje{f g:Nat->Int}{j:Nat}:∀{n:Nat},(∀m,m<n->f m<=g m)->j<n->f j<g j->My.sumTo f n<My.sumTo g n
 | 0,_,h,_=>absurd h (yan _)
 | n+1,hf,h,hj=>by
  show My.sumTo f n+f n<My.sumTo g n+g n;have h1:=hf n ⋯;rcases yP (yY h)with g' | g'
  ·have:=zje (n:=n) (λm a=>hf m ⋯) g' hj;lia
  ·rw[g']at hj
   have:=zjq (n:=n) λm a=>hf m ⋯
   lia
noncomputable def zf4 (n:Nat) (w:Nat->Int):Nat:=(My.sumTo (λm=>((w m).toNat:Int)) n).toNat
def zpo{t s:Nat}{x:Int}(c:t<n)(h1:1<=x)(h2:x<=w t)(e:x<=-w s):zf4 n (λm=>if m=t then w m-x else if m=s then w m+x else w m)<zf4 n w:=by
 unfold zf4;have d:0<=My.sumTo (λm=>(((λm=>if m=t then w m-x else if m=s then w m+x else w m) m).toNat:Int)) n:=zhg λm _=>ybc _
 have:My.sumTo (λm=>(((λm=>if m=t then w m-x else if m=s then w m+x else w m) m).toNat:Int)) n<My.sumTo (λm=>((w m).toNat:Int)) n:=by
  refine zje (j:=t) (λm _=>?_) c ?_
  ·dsimp only;by_cases a:m=t
   ·rw[if_pos a];lia
   ·rw[if_neg a];by_cases b:m=s
    ·rw[if_pos b,b];lia
    ·rw[if_neg b];exact yC _
  ·dsimp only;rw[if_pos rfl];lia
 lia
end
noncomputable def zmk (K:Fg):Sp:=λvs H Q _=>∃(a b:Addr) (n:Nat) (ds:List Due) (l:Nat->Int),vs=[.ref a,.ref b]/\IsSh K H a ds/\H b=some (.lst ((vec ds.length l).map V.int))/\ds.length<=1000/\(∀d∈ds,zm n d)/\zri H Q (opn ds l)
def zi3:=λ{K:Fg} {a b:Addr} {n:Nat} {ds:List Due} {l:Nat->Int} {H:Hp} {Q:VK} {E:XK} h1 h2 h3 hd q=>@id (zmk K [.ref a,.ref b] H Q E) ⟨a,b,n,ds,l,rfl,h1,h2,h3,hd,q⟩
noncomputable def zru (K:Fg):Sp:=λvs H Q _=>∃(a b:Addr) (n:Nat) (ds:List Due) (l:Nat->Int),vs=[.int n,.ref a,.ref b]/\IsSh K H a ds/\H b=some (.lst ((vec ds.length l).map V.int))/\ds.length<=1000/\n<=9/\(∀d∈ds,zm n d)/\zmZ H Q (vec n (znt n (opn ds l)))
def zs1:=λ{K:Fg} {a b:Addr} {n:Nat} {ds:List Due} {l:Nat->Int} {H:Hp} {Q:VK} {E:XK} h1 h2 h3 h9 hd q=>@id (zru K [.int n,.ref a,.ref b] H Q E) ⟨a,b,n,ds,l,rfl,h1,h2,h3,h9,hd,q⟩
noncomputable def zoh (K:Fg):Sp:=λvs H Q _=>∃(t n:Nat) (b:Addr) (last:Nat->Option Due) (τ:Nat->Nat) (xs:List V),vs=[.int t,.ref b]/\H b=some (.lst xs)/\IsLs H n last xs/\t<n/\τ t<=100/\(∀v e,v<n->last v=some e->0<=e.p/\e.p<n/\τ e.p.toNat < τ v)/\∀p H' ys es s,H p=none->Same H H'->H' p=some (.lst ys)->IsTs zad H' ys es->Bkw last t es s->Q (.ref p) H'
def zqB:=λ{K:Fg} {t n:Nat} {b:Addr} {last:Nat->Option Due} {τ:Nat->Nat} {xs:List V} {H:Hp} {Q:VK} {E:XK} h1 h2 h3 h4 h5 q=>@id (zoh K [.int t,.ref b] H Q E) ⟨t,n,b,last,τ,xs,rfl,h1,h2,h3,h4,h5,q⟩
noncomputable def zrp (t s:Nat) (x:Int) (w:Nat->Int):Nat->Int:=λm=>if m=t then w m-x else if m=s then w m+x else w m
noncomputable def ztZ (K:Fg):Sp:=λvs H Q _=>∃(a b c d:Addr) (n t s:Nat) (ds es:List Due) (l w:Nat->Int) (ys:List V),vs=[.ref a,.ref b,.ref c,.ref d]/\IsSh K H a ds/\H b=some (.lst ((vec ds.length l).map V.int))/\H c=some (.lst ((vec n w).map V.int))/\b≠c/\d≠b/\d≠c/\H d=some (.lst ys)/\IsTs zad H ys es/\es≠[]/\t<n/\s<n/\s≠t/\(∀e,es[0]?=some e->e.q=(t:Int))/\(∀e,es[es.length-1]?=some e->e.p=(s:Int))/\(∀e∈es,e∈opn ds l)/\(∀e∈es,zci ds l e<=100000000000000)/\0<w t/\w s<0 /\
 ∀H' x,B2 b c H H'->H' b=some (.lst ((vec ds.length (zcL l x es)).map V.int))->H' c=some (.lst ((vec n (zrp t s x w)).map V.int))->(∀e∈es,x<=zci ds l e)->x<=w t->x<=-w s->(x=w t\/x=-w s\/∃e∈es,x=zci ds l e)->Q .non H'
noncomputable def zsT (K:Fg) (lP:Pos) (lQ:Str):Sp:=λvs H Q _=>∃(a b c:Addr) (n:Nat) (ds:List Due) (l w p:Nat->Int),vs=[.int n,.ref a,.ref b,.ref c]/\IsSh K H a ds/\H b=some (.lst ((vec ds.length l).map V.int))/\H c=some (.lst ((vec n w).map V.int))/\n<=9/\ds.length<=1000/\(∀d∈ds,zm n d)/\Thin n ds l w/\zbm (opn ds l) Due.a p/\(∃m,m<n/\0<w m)/\TbW K "shortest_way" lP lQ H /\
 ∀r H' ys es t s F last,H r=none->SameT H H'->TbW K "shortest_way" lP lQ H'->H' r=some (.lst ys)->IsTs zad H' ys es->Short n (opn ds l) (wgt n) (zaR n w) F->Lst n (opn ds l) (wgt n) (zaR n w) F last->t<n->0<w t->F t≠none->Bkw last t es s->Q (.ref r) H'
noncomputable def zua (K:Fg) (lP:Pos) (lQ:Str):Sp:=λvs H Q _=>∃(a:Addr) (n:Nat) (ds:List Due),vs=[.int n,.ref a]/\IsSh K H a ds/\1<=n/\n<=9/\ds.length<=1000/\(∀d∈ds,zm n d)/\TbW K "shortest_way" lP lQ H /\
 ∀tp b h H' l g,H tp=none->H b=none->H h=none->SameT H H'->TbW K "shortest_way" lP lQ H'->H' tp=some (.tup [.ref b,.ref h])->H' b=some (.lst ((vec ds.length l).map V.int))->H' h=some (.lst ((vec n g).map V.int))->(∀i,i<ds.length->0<=l i/\l i<=amF ds i)->(∀m,m<n->zF (zy ds l) m=zF ds m)->zbm (opn ds l) Due.a g->Q (.ref tp) H'
def zvx{ta:TA}{tb:TE}{lpos:Pos}{b:Str}{Q:VK} (h:ta σ H λvs H1=>Tb H1 T lpos b/\∃(r:Addr) (ns:List Int) (u:V) (g:Int->Int),vs=[.ref r]/\H1 r=some (.lst (ns.map V.int))/\ns≠[]/\σ[j]?=some (some u) /\
 (∀x∈ns,∀H2,SameT H1 H2->tb [some (.int x),some u] H2 (λv a=>v=.int (g x)/\Same H2 a)) /\
 ∀x a,x∈ns->(∀y∈ns,g x<=g y)->SameT H1 a->Tb a T lpos b->Q (.int x) a):tMK ta tb j T lpos b σ H Q:=h
open PySem PySem.Spec PyProof.Rows Dt
section
variable {n:Nat}{ds:List Due}{ps:List Int}{qs:List Rat}
def zhr(ds:List Due)(m:Nat):zK ds (λd=>((d.a:Int):Rat)) m=((zaC ds m:Int):Rat):=
 zaH (P:=λds=>zK ds (λd=>((d.a:Int):Rat)) m=((zaC ds m:Int):Rat)) rfl (λes d b=>by
  rw[zaW,zaU,b];split
  ·rw[yV]
  ·exact Rat.add_zero _) ds
def zdm(hd:∀d∈ds,zm n d)(m:Nat):zaP ds m=((zaE ds m:Int):Rat):=by
 unfold zaP;rw[znk λd h=>⟨(hd d h).2.2.2.2.2.1,(hd d h).2.2.2.2.2.2.1⟩]
def Gr.all(hd:∀d∈ds,zm n d)(G:Gr n ds ps qs):(∀m,m<n->0<=ps.getD m 0+zF ds m)↔∀m,m<n->zaP ds m<=qs.getD m 0:=by
 have full:∀s:List Rat,(∀m,m<n->s.getD m 0=zaP ds m)->∀m,zK ds (zS ds s) m=((zaC ds m:Int):Rat):=λs g m=>by
  rw[<- zhr];refine yb5 (zcS (λd a=>?_) m) (zcS (λd a=>?_) m)
  all_goals
   obtain⟨p0,j,_⟩:=hd d a;rw[zl2 hd a (g _ ⋯)];exact yE
 have e:∀m,(0<=ps.getD m 0+zF ds m)↔zaP ds m<=((ps.getD m 0:Int):Rat)+((zaC ds m:Int):Rat):=λm=>by
  rw[zdm hd,<- yV,Rat.intCast_le_intCast];unfold zF;lia
 constructor
 ·intro h;have hl:("0e".map (zaP ds)).length=n:=by rw[ye,yB]
  have c:∀m,m<n->("0e".map (zaP ds)).getD m 0=zaP ds m:=λm a=>by
   rw[yf,yg,yQ a];rfl
  have:=G.top ("0e".map (zaP ds)) hl (λq b=>by
   obtain⟨i,_,rfl⟩:=yX.mp b;exact ztd hd i) λm a=>by
   rw[c m a];unfold zbN;split
   ·rw[full _ c m];exact(e m).mp (h m a)
   ·exact yE
  intro m a
  have:=this m (by rw[hl];exact a)
  rwa [c m a]at this
 ·intro h m a;have b:∀m,m<n->qs.getD m 0=zaP ds m:=λm a=>by
   have f:=G.fix m a
   have:=h m a
   unfold zbN at f;split at f<;>grind
  rw[e m];have f:=G.fix m a;rw[b m a]at f;unfold zbN at f;rw[full _ b m]at f;split at f<;>grind
end
def zqW:zbS xs none (some (k:Int))=xs.take k:=by
 unfold zbS;have e:HT.sIx xs.length xs.length (some (k:Int))=min k xs.length:=by
  show(if(k:Int)<0 then((k:Int)+(xs.length:Int)).toNat else min (k:Int).toNat xs.length)=_
  rw[if_neg ⋯];rfl
 rw[e,HT.sIx_none,List.drop_zero,Nat.sub_zero];exact List.take_eq_take_min.symm
def zr6{b:Nat->Int}{x:Int}(h:x∈vec n b):∃i,i<n/\x=b i:=by
 obtain⟨i,hi,e⟩:=yX.mp h;exact⟨i,yF.mp hi,e.symm⟩
def zge{H:Hp}{Q:VK}{lo:Int}{te:TE}{rest:St}(B:Int)(m:zcc caps σ=none :: rest)(u:n<=1000)
  (hs:∀(i:Nat) (o:Option V) (H':Hp) (R:VK),i<n->Same H H'->(∀y H'',0<=y->y<=B->Same H' H''->R (.int y) H'')->te ((o :: rest).set 0 (some (.int (lo+i)))) H' R)
  (q:∀p H' (F:Nat->Int),H p=none->Same H H'->H' p=some (.lst ((vec n F).map V.int))->(∀i,i<n->0<=F i/\F i<=B)->Q (.ref p) H'):zdt (Itr lo n) caps (zbU 0) zep te σ Q H:=by
 refine zM zbg (λ_ _=>trivial) m (λi vs _=>∃ms:List Int,vs=ms.map V.int/\ms.length=i/\∀x∈ms,0<=x/\x<=B) (λ_ _=>⟨[],rfl,rfl,λ_ h=>nomatch h⟩) ?_ ?_
 ·rintro i x D vs o H' H2 hi g e f d ⟨ms,rfl,a,c⟩ j rfl;refine zix (zmW (zeE ?_));refine hs i o H2 _ hi (e.trans j) λy v l t k=>?_;refine zfN ((j.trans k).at f) ⋯ λw b r=>?_;refine⟨⟨_,rfl⟩,b.same ((e.trans j).trans k) g,_,r,by rw[yb];exact yn d,ms++[y],by rw[yk];rfl,by rw[yb,a];rfl,λz s=>?_⟩;rcases yH.mp s with h | h
  ·exact c z h
  ·rw[ym.mp h];exact⟨l,t⟩
 ·rintro D H' vs g e f d ⟨ms,rfl,a,c⟩;rw[zpd ms,a]at f;exact q D H' _ g e f λi hi=>c _ (zqe ⋯)
def zsR{n:Int}(ds:List Due):(∀d∈ds,zm n d/\d.a<=1000000000000)->0<=zaE ds m/\zaE ds m<=1000000000000*(ds.length:Int)/\0<=zaC ds m:=
 zaH (P:=λds=>(∀d∈ds,zm n d/\d.a<=1000000000000)->0<=zaE ds m/\zaE ds m<=1000000000000*(ds.length:Int)/\0<=zaC ds m) (λ_=>⟨yC _,yC _,yC _⟩) (λes d c h=>by
  have h1:=c λx b=>h x (yv _ b);obtain⟨h2,f⟩:=h d (yq _ (.head _));have e:=h2.2.2.2.2.2.2.2.1;rw[za0,zaU,yb,y8];split<;>split<;>lia) ds
def zup(m:Nat):0<=zc2 ds pf m:=by unfold zc2;split<;>lia
theorem zmi:∀qs rs:List Rat,PyData.eqvAll (qs.map dQ) (rs.map dQ)=decide (qs=rs)
 | [],[]=>by simp[PyData.eqvAll]
 | [],_ :: _=>by simp[PyData.eqvAll]
 | _ :: _,[]=>by simp[PyData.eqvAll]
 | q :: qs,r :: rs=>by
  have a:=zmi qs rs;rw[yaz,yaz,PyData.eqvAll,ztm,a];by_cases e:q=r<;>by_cases g:qs=rs<;>simp[e,g]
def zmC{ws:List V}{c:List Rat}(h1:H a=some (.lst vs))(h2:H b=some (.lst ws))(e:IsQs H vs qs)(d:IsQs H ws c)(q:Q (.bl (decide (qs=c))) H):zem K (.ref a) (.ref b) H Q:=by
 refine zj7 (.lst (SqL.of h1) e.rep) (.lst (SqL.of h2) d.rep) (by have:=zrO qs;lia) ?_;rw[show PyData.eqv (.list (qs.map dQ)) (.list (c.map dQ))=PyData.eqvAll (qs.map dQ) (c.map dQ) by simp[PyData.eqv],zmi];exact q
noncomputable def zps (K:Fg):Sp:=λvs H Q _=>∃(y:Addr) (ws:List V) (qs:List Rat) (m:Int),vs=[.ref y,.int m]/\H y=some (.lst ws)/\IsQs H ws qs/\(qs.length:Int)=m/\(∀q∈qs,0<=q)/\∀H',Same H H'->Q (.bl true) H'
def ztq(h1:IsQ H a q)(h2:IsQ H b q)(k:Q (.bl false) H):zeo K (.ref a) (.ref b) H Q:=by
 have rep:RepAll K H [.int q.num,.int "0k"] [.int q.num,.int "0k"]:=.cons (.int _) (.cons (.int _) .nil);refine zj8 (.tup (.of h1) rep) (.tup (.of h2) rep) (by simp[PyData.depth,PyData.depthAll]) ?_;rw[PySem.SeqAt.eqv_refl _ (by rw[PyData.canLay0];exact rep.lay)];exact k
def zsb{a m:Int}(e:0<=a)(d:0<=m):((zbS xs (some a) (some (a+m))).length:Int)<=m:=by
 unfold zbS;have c:HT.sIx xs.length 0 (some a)=min a.toNat xs.length:=by
  show(if a<0 then(a+(xs.length:Int)).toNat else min a.toNat xs.length)=_
  rw[if_neg ⋯]
 have b:HT.sIx xs.length xs.length (some (a+m))=min (a+m).toNat xs.length:=by
  show(if a+m<0 then(a+m+(xs.length:Int)).toNat else min (a+m).toNat xs.length)=_
  rw[if_neg ⋯]
 rw[c,b,yas,yao];lia
noncomputable def zhe (K:Fg):Sp:=λvs H Q _=>∃(a:Addr) (ns:List Int) (k seed:Int),vs=[.ref a,.int k,.int seed]/\SqL K H a (ns.map V.int)/\0<=k/\k<=1000/\0<=seed/\seed<=2000000000/\∀i,1<=i->i<=1000000000000000->Q (.int i) H
def znR:=λ{K:Fg} {a:Addr} {ns:List Int} {k seed:Int} {H:Hp} {Q:VK} {E:XK} h h0 h1 s0 s1 q=>@id (zhe K [.ref a,.int k,.int seed] H Q E) ⟨a,ns,k,seed,rfl,h,h0,h1,s0,s1,q⟩
noncomputable def zqZ (K:Fg):Sp:=λvs H Q _=>∃(a:Addr) (ns:List Int) (n most:Int),vs=[.ref a,.int n,.int most]/\SqL K H a (ns.map V.int)/\ns.length<=63/\1<=n/\n<=1000/\0<=most/\most<=64 /\
 ∀p H' vs ds,H p=none->Same H H'->H' p=some (.lst vs)->IsTs zad H' vs ds->(∀d∈ds,zm n d/\d.a<=1000000000000)->(ds.length:Int)<=most->Q (.ref p) H'
theorem IsTs.set9{α:Type}{f:α->List V}{H:Hp}{a:Addr}{x:α}(ha:H a=some (.tup (f x))):∀{vs:List V} {xs:List α} (n:Nat),IsTs f H vs xs->IsTs f H (vs.set n (.ref a)) (xs.set n x)
 | [],[],_,_=>trivial
 | _ :: _,_ :: _,0,⟨_,h2⟩=>⟨⟨a,rfl,ha⟩,h2⟩
 | _ :: _,_ :: _,n+1,⟨h1,h2⟩=>⟨h1,IsTs.set9 ha n h2⟩
noncomputable def zoq (K:Fg):Sp:=λvs H Q _=>∃(a:Addr) (way n:Int) (vs':List V) (ds:List Due),vs=[.ref a,.int way]/\H a=some (.lst vs')/\IsTs zad H vs' ds/\(∀d∈ds,zm n d/\d.a<=1000000000000)/\ds.length<=64 /\
 ∀p H' us es,Same H H'->H' p=some (.lst us)->IsTs zad H' us es->(∀d∈es,zm n d/\d.a<=1000000000000)->es.length<=ds.length->Q (.ref p) H'
noncomputable def zra (K:Fg):Sp:=λvs H Q _=>∃(a u:Addr) (ds:List Due) (n:Nat) (pf:Nat->Int),vs=[.int (n:Int),.ref a,.ref u]/\IsSh K H a ds/\H u=some (.lst ((vec n pf).map V.int))/\n<=100/\(∀d∈ds,zm n d)/\zmZ H Q (vec n (zc2 ds pf))
noncomputable def zls (H:Hp) (n:Nat) (B:Int) (v:V) (H':Hp):Prop:=∃u pf,v=.ref u/\H u=none/\Same H H'/\H' u=some (.lst ((vec n pf).map V.int))/\∀i,i<n->0<=pf i/\pf i<=B
noncomputable def zoy (K:Fg):Sp:=λvs H Q _=>∃(a b:Addr) (ns:List Int) (n:Nat) (ds:List Due),vs=[.ref a,.int (n:Int),.ref b]/\SqL K H a (ns.map V.int)/\IsSh K H b ds/\1<=n/\n<=9/\(∀d∈ds,zm n d/\d.a<=1000000000000)/\ds.length<=10/\∀p H' pf,H p=none->Same H H'->H' p=some (.lst ((vec n pf).map V.int))->(∀i,i<n->0<=pf i/\pf i<=20000000000000)->Q (.ref p) H'
section
variable {n:Nat}{ds:List Due}{ps:List Int}{W P:Rat}{k:Nat}
def zpM(h:sz ((zbD ds ^ (5+1):Nat):Int)<=3000):sz ((zbD ds:Nat):Int)<=500:=by
 have h1:=sz_le.mp h;rw[yab]at h1;refine zaJ ?_;rw[yab];refine yai λz=>?_;have h2:=Nat.pow_le_pow_left (Nat.le_of_not_lt z) (5+1);rw[<- Nat.pow_mul]at h2;exact absurd (yad h2 h1) (yW _)
def ztl(hd:∀d∈ds,zm n d/\d.a<=10000000000000)(hl:ds.length<=10):sz ((zbD ds:Nat):Int)<=500:=by
 refine zpM (ztb (z:=48) (c:=10) "0a" (λd _=>?_) hl "0a")
 have:=zjz (m:=d.p.toNat) (r:=d.r.toNat) ds (λd h=>⟨(hd d h).1.2.2.2.2.2.2.2.1,(hd d h).2⟩) "0a"
 exact zaJ (by unfold rkD;have:=(by decide:(2:Nat) ^ 48=281474976710656);lia)
noncomputable def znF (n:Nat) (ds:List Due) (W P:Rat):Prop:=prodN (λ_=>prodN (λ_=>W) n*P*W) (zcg n ds+1)<=(((2 ^ 3720:Nat):Int):Rat)
def zpz(g:n<=6)(f:n<=5\/ds.length<=5)(hd:∀d∈ds,zm n d/\d.a<=10000000000000)(hl:ds.length<=10)(pl:ps.length=n)(e:zdy ps):∃W P,Clr n ds ps W P/\znF n ds W P:=by
 have t1:=ztk (n:=n) ds λd h=>(hd d h).1.2.2.2.2.2.2.2.1;have b:((2 ^ 48:Nat):Int)=281474976710656:=by decide
 have c:(48*n+50+48)*(zcg n ds+1)<=3720:=by
  rcases f with h | h
  ·exact yi (ybb (show 48*n+50+48<=338 by lia) (show zcg n ds+1<=11 by lia)) "0a"
  ·exact yi (ybb (show 48*n+50+48<=386 by lia) (show zcg n ds+1<=6 by lia)) "0a"
 refine⟨_,_,ztw (w:=48) (A:=10000000000000) ⋯ hd ⋯ pl e (λd h=>(hd d h).2) "0a" (by rw[b];lia) (yi c "0a"),?_⟩;unfold znF;rw[zdl,zdM,zdM,zdl];exact ziX c
def Clr.ends_small(C:Clr n ds ps W P)(S:znF n ds W P)(p:sz ((zbD ds:Nat):Int)<=500)(h:COk n ds (pQ ps) (prodN (λ_=>W) n*P*W) k "0d".1 "0d".2):∃M:Nat,0<M/\sz ((M:Nat):Int)<=4300/\∀m,m<n->Dv M (zc1 ds ps (zaz n ds ps k) m):=by
 obtain⟨D,f,r,hl,_⟩:=h.dv;have l:D<=2 ^ 3720:=Int.ofNat_le.mp (zfZ (yL (yL r (zd0 C.B1 h.le)) S));have j:sz ((D:Nat):Int)<=3721:=zaJ (by
  rw[yab];exact yad l (yaU "0a" "0a"))
 have c:sz ((D*zbD ds:Nat):Int)<=4300:=by
  rw[yb4];exact yi (zcl j p) "0a"
 have dp:DeepV ds (zaz n ds ps k) D:=⟨f,λq s=>by
  obtain⟨i,hi,rfl⟩:=yX.mp s;have b:=yF.mp hi;refine⟨h.inv.lo i b,yL (h.inv.hi i b) (zax ?_),hl i b⟩
  have:=(C.cum i (yc 3)).2
  lia,yi c "0a"⟩
 refine⟨D*zbD ds,yb8 f (zgS ds),c,λm g=>?_⟩;have hd:∀d∈ds,zm (zaz n ds ps k).length d/\d.a<=10000000000000:=by rw[zdN];exact λd e=>⟨C.hd d e,C.ha d e⟩
 have o:=dp.got hd C.hl m;unfold zc1;rw[zd1 g];exact((Dv.int _).add o.1).sub ((hl m g).dvd (ybQ _ _))
end
def zfQ(h:∀q∈qs,0<=q):∀i,0<=zaX (qs.take i)/\zaX (qs.take i)<=zaX qs:=by
 have a:∀i,i<=qs.length->0<=zaX (qs.take i)/\∀j,i<=j->j<=qs.length->zaX (qs.take i)<=zaX (qs.take j):=λi hi=>by
  constructor
  ·clear hi
   induction i with
   | zero=>exact yE
   | succ i ih=>
    rcases ybn i qs.length with hl | hl
    ·obtain⟨q,b⟩:=zw hl;rw[zH b,zbr]
     have:=h q (ya b)
     grind
    ·rw[yaj ⋯];rw[yaj ⋯]at ih;exact ih
  ·intro j c d
   induction j with
   | zero=>rw[show i=0 by lia];exact yE
   | succ j ih=>
    rcases ybn i (j+1)with hl | hl
    ·obtain⟨q,b⟩:=zw (show j<qs.length by lia);rw[zH b,zbr]
     have:=h q (ya b)
     have:=ih ⋯ ⋯
     grind
    ·rw[show i=j+1 by lia];exact yE
 intro i;rcases ybn i qs.length with hl | hl
 ·refine⟨(a i ⋯).1,?_⟩
  have:=(a i ⋯).2 qs.length ⋯ (yc _)
  rwa [yr]at this
 ·rw[yaj hl]
  have:=(a qs.length (yc _)).1
  rw[yr]at this;exact⟨this,yE⟩
theorem zhc{M:Nat}{qs:List Rat}(h:∀q∈qs,Dv M q):∀i,Dv M (zaX (qs.take i))
 | 0=>Dv.int 0
 | i+1=>by
  rcases ybn i qs.length with hl | hl
  ·obtain⟨q,a⟩:=zw hl;rw[zH a,zbr];exact(zhc h i).add (h q (ya a))
  ·have:=zhc h i
   rw[yaj hl]at this;rw[yaj ⋯];exact this
noncomputable def zs9:Sp:=λvs H Q _=>∃(t b:Int) (r:Rat),vs=[.int t,.int b]/\0<b/\((t:Int):Rat)=r*((b:Int):Rat)/\SzQ r 4400 4400/\NewQ H Q r
noncomputable def ztu:Sp:=λvs H Q _=>∃(a b:Addr) (q r:Rat),vs=[.ref a,.ref b]/\IsQ H a q/\IsQ H b r/\SzQ q 4400 4400/\SzQ r 4400 4400/\SzQ (q+r) 4400 4400/\NewQ H Q (q+r)
open PySem PySem.Spec PyProof.Rows
section
variable {X:Cx}{a b e:Expr}{es:List Expr}{ta tb te:TE}{t:TA}{p pos:Pos}
def qIx(K:Fg)(ha:PE X a ta)(c:PE X b tb)(d:autoParam (X.K=K) Internal.aut2._auto_1)(e:autoParam (zl5 b) Internal.aut6._auto_1):PE X (.Subscript a b pos) (tOp (rIx K) ta tb):=by
 subst d;exact zu6 zut ha c e
def zaS(K:Fg)(a:autoParam (X.K=K) Internal.aut2._auto_1):OpR X (binaryOp .Add) (zia K):=by subst a;exact zrU
def qEq(K:Fg)(b:X.A.units+64<cLine)(a:autoParam (X.K=K) Internal.aut2._auto_1):OpR X (compareOp .Eq) (zem K):=by subst a;exact zty b
def qNe(K:Fg)(b:X.A.units+64<cLine)(a:autoParam (X.K=K) Internal.aut2._auto_1):OpR X (compareOp .NotEq) (zeo K):=by subst a;exact ztX b
def zcX(K:Fg)(ha:PE X a ta)(b:autoParam (X.K=K) Internal.aut2._auto_1)(c:autoParam (∀whole,isTrue a X.env whole=(do let v <- whole;standAt a.pos;holding [v] (truthy v))) Internal.aut7._auto_1):PT X a (zuj K ta):=by
 subst b;exact zoO ha c
def zuF(K:Fg)(ha:PE X a ta)(b:autoParam (X.K=K) Internal.aut2._auto_1):PE X (.UnaryOp .Not a pos) (zmY K ta):=by subst b;exact zr9 ha
def zW(K:Fg){l:Expr}{tl:TE}(hl:PE X l tl)(a:autoParam (X.K=K) Internal.aut2._auto_1):PI X tg l (znD K tl):=by subst a;exact zs4 hl
def zbI(K:Fg){es:List Expr}{kx:Nat}{tp:Pos}{ta:TA}(c:X.mg "enumerate" = none)(ha:PA X [a] ta)(b:autoParam (Gl X "enumerate") Internal.aut2._auto_1)(e:autoParam (starEach [a] X.env=[(false,eval a X.env)]) Internal.aut2._auto_1)(d:autoParam (X.K=K) Internal.aut2._auto_1):PI X (.Tuple es kx tp) (.Call (.Name "enumerate" p) [a] [] pos) (zrm K ta):=by
 subst d;exact zr4 b c ha e
def zbY(K:Fg)(b:X.mg "len" = none)(ha:PA X (e :: es) t)(f:autoParam (Gl X "len") Internal.aut2._auto_1)(d:autoParam "0i" Internal.aut2._auto_1)(a:autoParam ((backTo pos (starEach es X.env)).any (·.1)=false) Internal.aut2._auto_1)(c:autoParam (X.K=K) Internal.aut2._auto_1):PE X (.Call (.Name "len" p) (e :: es) [] pos) (tCB (zis K) t):=by
 subst c;exact zaA zoc f b BT.len ha "0a" "0a" d a
def zkt(K:Fg)(b:X.mg "sum" = none)(ha:PA X (e :: es) t)(g:autoParam (Gl X "sum") Internal.aut2._auto_1)(c:autoParam (X.calm=true) Internal.aut2._auto_1)(f:autoParam "0i" Internal.aut2._auto_1)(a:autoParam ((backTo pos (starEach es X.env)).any (·.1)=false) Internal.aut2._auto_1)(d:autoParam (X.K=K) Internal.aut2._auto_1):PE X (.Call (.Name "sum" p) (e :: es) [] pos) (tCB (znv K) t):=by
 subst d;exact zaA (zoM c) g b BT.sum ha "0a" "0a" f a
def zmR(K:Fg)(b:X.mg "isinstance" = none)(ha:PA X (e :: es) t)(f:autoParam (Gl X "isinstance") Internal.aut2._auto_1)(d:autoParam "0i" Internal.aut2._auto_1)(a:autoParam ((backTo pos (starEach es X.env)).any (·.1)=false) Internal.aut2._auto_1)(c:autoParam (X.K=K) Internal.aut2._auto_1):PE X (.Call (.Name "isinstance" p) (e :: es) [] pos) (tCB (ze4 K) t):=by
 subst c;exact zaA zpu f b BT.isinstance ha "0a" "0a" d a
def zdr(K:Fg)(b:X.mg "list" = none)(ha:PA X (e :: es) t)(f:autoParam (Gl X "list") Internal.aut2._auto_1)(d:autoParam "0i" Internal.aut2._auto_1)(a:autoParam ((backTo pos (starEach es X.env)).any (·.1)=false) Internal.aut2._auto_1)(c:autoParam (X.K=K) Internal.aut2._auto_1):PE X (.Call (.Name "list" p) (e :: es) [] pos) (tCB (zeC K) t):=by
 subst c;exact zn1 znc f b BT.list ha "0a" "0a" d a
def zC{P:List Str}{c:Scope}{pos':Pos}(i:Nat)(S:FnScope N P c)(f:PE X e te)(hi:autoParam (X.N[i]?=some x) Internal.aut2._auto_1)(b:autoParam (Loc X.env.scope x) Internal.aut8._auto_1)(a:autoParam (X.N=N) Internal.aut2._auto_1)(g:autoParam (swapsWith e (some (.Name x pos')) pos.line X.env=pure false) Internal.aut2._auto_1)(d:autoParam (X.fn x=true\/X.env.scope.names.lookup x=some .local) Internal.aut9._auto_1) :
  PS X (.Assign [.Name x pos'] e pos) (zlh te (zbU i)):=ztj (a▸S.nd) hi b f g d
def qAp(K:Fg){o e:Expr}{to:TE}{t:TA}{apos cpos:Pos}(a:PE X o to)(ha:PA X [e] t)(b:autoParam (X.K=K) Internal.aut2._auto_1)
  (hbase:autoParam (attributeBase o "append" X.env (eval o X.env)=eval o X.env) Internal.aut2._auto_1)
  (hfew:autoParam (((backTo cpos (starEach [e] X.env)).all (λx=>!x.1)&&(backToKw cpos (keywordEach [] X.env)).all (λx=>x.1.isSome)
   && decide (([e]:List Expr).length+([]:List Keyword).length+(if([]:List Keyword).isEmpty then 0 else 1)<30))=true) Internal.aut2._auto_1)
  (hline:autoParam ((apos.endLine == cpos.line)=true) Internal.aut2._auto_1) (hs:autoParam (starEach [e] X.env=(false,eval e X.env) :: starEach [] X.env) Internal.aut2._auto_1) (hplain:autoParam ((backTo cpos (starEach [] X.env)).any (·.1)=false) Internal.aut2._auto_1) :
  PE X (.Call (.Attribute o "append" apos) [e] [] cpos) (tBM K "list" zbz to t):=by
 subst b;exact znH ybp PySem.F.slot_list_append PySem.F.type_list_append zi8 a ha hbase hfew hline hs hplain
def qC1(Ni:List Str)(caps:List (Option Nat)){b:Pos}(hi:PI X (.Name x b) iter wi)(d:∀cs s₃ H₃ fp pins,PE (zaY X scope Ni cs s₃ H₃ fp pins) elt te)(c:autoParam (zex X.env.scope X.N scope Ni caps=true) Internal.aut2._auto_1)(e:autoParam (X.calm=true) Internal.aut2._auto_1)(f:autoParam (scope.names.lookup x=some .local\/scope.names.lookup x=some .cell) Internal.aut8._auto_1)(a:autoParam (Ni[0]?=some x) Internal.aut2._auto_1)(g:autoParam (∀x,foldedSetIterable iter X.env x=pure x) Internal.aut3._auto_1):PE X (.ListComp elt [⟨.Name x b,iter,[],0⟩] scope pos) (zeP wi caps (zbU 0) zep te):=
 zio e hi (za7 c) (λS _ _ _ _ _=>zbb S f a) (λ_ _ _ _ _=>zhZ) d g
def qS1(i:Nat){P:List Str}{m:Scope}{y:Str}{g a:Pos}(F:FnScope N P m)(Ni:List Str)(caps:List (Option Nat)){b:Pos}(hi:PI X (.Name x b) iter wi)(j:∀cs s₃ H₃ fp pins,PE (zaY X scope Ni cs s₃ H₃ fp pins) elt te)(f:autoParam (X.N[i]?=some y) Internal.aut2._auto_1)(n:autoParam (X.env.scope.names.lookup y=some .local) Internal.aut2._auto_1)(d:autoParam (X.N=N) Internal.aut2._auto_1)(h:autoParam (zex X.env.scope X.N scope Ni caps=true) Internal.aut2._auto_1)(k:autoParam (X.calm=true) Internal.aut2._auto_1)(l:autoParam (scope.names.lookup x=some .local\/scope.names.lookup x=some .cell) Internal.aut8._auto_1)(e:autoParam (Ni[0]?=some x) Internal.aut2._auto_1)(c:autoParam (swapsWith (.ListComp elt [⟨.Name x b,iter,[],0⟩] scope pos) (some (.Name y g)) a.line X.env=pure true) Internal.aut2._auto_1)(o:autoParam (∀x,foldedSetIterable iter X.env x=pure x) Internal.aut3._auto_1):PS X (.Assign [.Name y g] (.ListComp elt [⟨.Name x b,iter,[],0⟩] scope pos) a) (zlh (zeP wi caps (zbU 0) zep te) (zbU i)):=
 zeB (d▸F.nd) f n k hi (za7 h) (λS _ _ _ _ _=>zbb S l e) (λ_ _ _ _ _=>zhZ) j c o
def qC2(K:Fg)(Ni:List Str)(caps:List (Option Nat)){y:Str}{d e tp:Pos}{kx:Nat}(hi:PI X (.Tuple [.Name x d,.Name y e] kx tp) iter wi)(g:∀cs s₃ H₃ fp pins,PE (zaY X scope Ni cs s₃ H₃ fp pins) elt te)(f:autoParam (zex X.env.scope X.N scope Ni caps=true) Internal.aut2._auto_1)(c:autoParam (X.calm=true) Internal.aut2._auto_1)(h:autoParam (scope.names.lookup x=some .local\/scope.names.lookup x=some .cell) Internal.aut8._auto_1)(i:autoParam (scope.names.lookup y=some .local\/scope.names.lookup y=some .cell) Internal.aut8._auto_1)(b:autoParam (Ni[0]?=some x) Internal.aut2._auto_1)(a:autoParam (Ni[1]?=some y) Internal.aut2._auto_1)(j:autoParam (X.K=K) Internal.aut2._auto_1)(k:autoParam (∀x,foldedSetIterable iter X.env x=pure x) Internal.aut3._auto_1):PE X (.ListComp elt [⟨.Tuple [.Name x d,.Name y e] kx tp,iter,[],0⟩] scope pos) (zeP wi caps (zbB K 2 (zkf (zbU 0) (zkf (zbU 1) zqD))) zep te):=by
 subst j;exact zio c hi (za7 f) (λS _ _ _ _ _=>za5 (n:=2) c (zI (zbb S h b) (zI (zbb S i a) zaL))) (λ_ _ _ _ _=>zhZ) g k
end
open PySem PySem.Spec PyProof.Rows Dt
noncomputable def inP (r i j:Nat) (d:Due):Int:=if d.r=(r:Int)/\((d.p=(i:Int)/\d.q=(j:Int))\/(d.p=(j:Int)/\d.q=(i:Int)))then 1 else 0
def zsS(r i j:Nat)(d:Due):inP r i j d=1\/(inP r i j d=0/\wB r i j d=0/\wB r j i d=0):=by
 unfold inP wB;by_cases a:d.r=(r:Int)
 ·by_cases ha:d.p=(i:Int)/\d.q=(j:Int)
  ·exact .inl (if_pos ⟨a,.inl ha⟩)
  ·by_cases b:d.p=(j:Int)/\d.q=(i:Int)
   ·exact .inl (if_pos ⟨a,.inr b⟩)
   ·exact .inr ⟨if_neg (λz=>z.2.elim ha b),if_neg (λz=>ha z.2),if_neg (λz=>b z.2)⟩
 ·exact .inr ⟨if_neg (λz=>a z.1),if_neg (λz=>a z.1),if_neg (λz=>a z.1)⟩
theorem zmp(r i j:Nat):∀ds:List Due,0<=zah (inP r i j) ds/\(zah (inP r i j) ds=0->dif ds r i j=0)
 | []=>⟨yC _,λ_=>rfl⟩
 | d :: ds=>by
  obtain⟨h1,h2⟩:=zmp r i j ds;have e:zah (inP r i j) (d :: ds)=inP r i j d+zah (inP r i j) ds:=rfl;rw[e,zkP];rcases zsS r i j d with h | ⟨h,ha,a⟩
  ·exact⟨⋯,λz=>by lia⟩
  ·exact⟨⋯,λz=>by rw[ha,a,h2 ⋯];rfl⟩
def zsX{F G:Nat->Nat->Nat->Int}(h:∀r i j,F r i j<=G r i j):sum3 n F<=sum3 n G:=
 My.sumTo_le λr _=>My.sumTo_le λi _=>My.sumTo_le λt _=>h r i _
theorem zmM{n:Nat}:∀{ds:List Due},(∀d∈ds,zm n d)->sum3 n (λr i j=>zah (inP r i j) ds)<=ds.length
 | [],_=>by
  have z:sum3 n (λr i j=>zah (inP r i j) [])=0:=zaV λr _=>zaV λi _=>zaV λt _=>rfl;rw[z];exact yC _
 | d :: ds,h=>by
  have v:=zmM λx c=>h x (yR d c);obtain⟨p0,w,y,s,m,o,u,_⟩:=h d (yZ ..);have e:sum3 n (λr i j=>zah (inP r i j) (d :: ds))=sum3 n (λr i j=>inP r i j d)+sum3 n (λr i j=>zah (inP r i j) ds):=zkQ n _ _;have f:sum3 n (λr i j=>inP r i j d)=1:=by
   rcases Int.lt_or_gt_of_ne m with a | a
   ·rw[ze3 (r:=d.r.toNat) (i:=d.p.toNat) (j:=d.q.toNat) ⋯ ⋯ ⋯ λg k l _ _ _ b=>?_]
    ·unfold inP;rw[if_pos ⋯]
    ·unfold inP;rw[if_neg ⋯]
   ·rw[ze3 (r:=d.r.toNat) (i:=d.q.toNat) (j:=d.p.toNat) ⋯ ⋯ ⋯ λg k l _ _ _ b=>?_]
    ·unfold inP;rw[if_pos ⋯]
    ·unfold inP;rw[if_neg ⋯]
  rw[e,f,y9];lia
theorem zgN:∀ds:List Due,zah (λ_=>1) ds=ds.length
 | []=>rfl
 | d :: ds=>by show 1+zah _ ds=_;rw[zgN ds,y9];lia
def znO(h:∀d∈ds,zm n d):(zbR ds n).length<=ds.length:=by
 have e:((zbR ds n).length:Int)<=ds.length:=by
  rw[<- zgN,zgr];refine ybZ (zsX λr i j=>?_) (zmM h);obtain⟨h1,h2⟩:=zmp r i j ds;have l:=zjJ (ds:=ds) (r:=r) (i:=i) (j:=j);rw[zgN];by_cases z:zah (inP r i j) ds=0
  ·rw[z,zgQ,if_neg (by rw[h2 z];decide),if_neg (by rw[h2 z];decide)];exact yC _
  ·lia
 lia
structure Oth(n:Nat)(ds:List Due)(n':Nat)(es:List Due):Prop where
 ok:∀d∈es,zm (n':Int) d/\d.a<=10000000000000
 len:es.length<=10
 few:n'<=5\/es.length<=5
 net:∀m,m<n'->zF es m=if m<n then zF ds m else 0
section
variable {n:Nat}{ds:List Due}
def zqa(hd:∀d∈ds,zm (n:Int) d/\d.a<=1000000000000)(hl:ds.length<=10)(c:n<=5):Oth n ds n ds:=⟨λd h=>⟨(hd d h).1,by have:=(hd d h).2;lia⟩,hl,.inl c,λm b=>(if_pos b).symm⟩
def zkD{l:Nat->Int}(hd:∀d∈ds,zm (n:Int) d/\d.a<=1000000000000)(hl:ds.length<=10)(o:n<=5)(k:∀i,i<ds.length->0<=l i/\l i<=amF ds i)(j:∀m,m<n->zF (zy ds l) m=zF ds m):Oth n ds n (zy ds l):=by
 have c:∀i,i<ds.length->0<=l i/\l i<=1000000000000:=λi hi=>by
  have:=k i hi
  obtain⟨e,b⟩:=zw hi
  have:=(hd e (ya b)).2
  rw[zbo b]at *;lia
 refine⟨λd h=>⟨ze6 (λd h=>(hd d h).1) (λi hi=>⟨(c i hi).1,by have:=(c i hi).2;lia⟩) d h,?_⟩,by rw[zbf];exact hl,.inl o,λm g=>by rw[if_pos g];exact j m g⟩;obtain⟨i,hi⟩:=List.mem_iff_getElem?.mp h;have f:i<ds.length:=by have:=(yj.mp hi).1;rwa [zbf]at this
 obtain⟨e,b⟩:=zw f;rw[zcA b]at hi;cases hi
 have:=(c i f).2
 show l i<=_;lia
def znE(hd:∀d∈ds,zm (n:Int) d/\d.a<=1000000000000)(hl:ds.length<=10)(e:n<=5):Oth n ds n (zbR ds n):=by
 have b:∀d∈ds,zm (n:Int) d:=λd h=>(hd d h).1;have ha:∀d∈ds,0<=d.a/\d.a<=1000000000000:=λd h=>⟨(b d h).2.2.2.2.2.2.2.1,(hd d h).2⟩
 refine⟨λd h=>⟨zn0 ha ⋯ d h,?_⟩,yi (znO b) hl,.inl e,λm c=>by rw[if_pos c,zkW b]⟩;have h1:=zjX ha h;have h2:=(zdH (r:=d.r) (i:=d.p.toNat) (j:=d.q.toNat) ds ha).2;lia
def zm1(hd:∀d∈ds,zm (n:Int) d/\d.a<=1000000000000)(hl:ds.length<=10)(f:n<=5):Oth n ds (n+1) (zbi n (zF ds) n):=by
 have b:∀d∈ds,zm (n:Int) d:=λd h=>(hd d h).1;have c:∀m,-10000000000000<=zF ds m/\zF ds m<=10000000000000:=λm=>by
  rw[zbW]
  have:=zlg (g:=zbw m) (M:=1000000000000) ds λd h=>by
   obtain⟨⟨_,_,_,_,l,_,_,j,_⟩,a1⟩:=hd d h;unfold zbw;split<;>split<;>lia
  lia
 have ha:∀k:Nat,∀d∈zbi n (zF ds) k,d.a<=10000000000000:=λk=>by
  induction k with
  | zero=>exact λ_ h=>nomatch h
  | succ k ih=>
   intro d h;rcases yH.mp h with h | h
   ·exact ih d h
   ·unfold zbd at h
    have:=c k
    split at h
    ·rw[ym.mp h];show -_<=_;lia
    ·split at h
     ·rw[ym.mp h];exact this.2
     ·cases h
 refine⟨λd h=>⟨by have:=zlb (n:=n) (λi=>⟨by have:=c i;lia,by have:=c i;lia⟩) n (yc _) d h;rwa [yb3],ha n d h⟩,yi (zej _ _ n) ⋯,.inr (yi (zej _ _ n) f),λm e=>zna (zhE b) e⟩
end
noncomputable def zot (K:Fg) (lP:Pos) (lQ:Str):Sp:=λvs H Q _=>∃(a:Addr) (way:Int) (n:Nat) (ds:List Due) (xs:List V),vs=[.int way,.int (n:Int),.ref a]/\H a=some (.lst xs)/\IsTs zad H xs ds/\(∀d∈ds,zm (n:Int) d/\d.a<=1000000000000)/\ds.length<=10/\2<=n/\n<=5/\0<=way/\way<4/\TbW K "shortest_way" lP lQ H/\∀b H' vs es,SameT H H'->H' b=some (.lst vs)->IsTs zad H' vs es->Oth n ds (if way=1 then n+1 else n) es->Q (.ref b) H'
noncomputable def znW (K:Fg):Sp:=λvs H Q _=>∃(a u:Addr) (n:Nat) (es:List Due) (xs:List V) (ps:List Int) (full:Bool),vs=[.ref a,.ref u,.bl full]/\H a=some (.lst xs)/\IsTs zad H xs es/\H u=some (.lst (ps.map V.int))/\ps.length=n/\2<=n/\n<=6/\(∀d∈es,zm (n:Int) d/\d.a<=10000000000000)/\es.length<=10/\(n<=5\/es.length<=5)/\zdy ps/\(full=true↔∀m,m<n->0<=ps.getD m 0+zF es m)/\∀H',Same H H'->Q (.bl true) H'
def full90{ps:List Int}(hd:∀d∈es,zm (n:Int) d)(G:Gr n es ps qs):(∀m,m<n->0<=ps.getD m 0+zF es m)↔qs="0e".map λm=>((zaE es m:Int):Rat):=by
 rw[G.all hd];have b:∀m,m<n->qs.getD m 0<=zaP es m:=λm a=>by rw[G.fix m a];exact zmf m
 constructor
 ·intro h;refine yag λm=>?_;by_cases a:m<n
  ·obtain⟨q,c⟩:=zw (show m<qs.length by rw[G.len];exact a);have e:qs.getD m 0=q:=by rw[yf,c];rfl
   rw[c,yg,yQ a];have h1:=h m a;have h2:=b m a;rw[e,zdm hd]at h1 h2;exact congrArg some (yb5 h2 h1)
  ·rw[yG (by rw[G.len];lia),yG (by rw[ye,yB];lia)]
 ·intro h m a;rw[h,yf,yg,yQ a,zdm hd];exact yE
def end90{ps:List Int}(hd:∀d∈es,zm (n:Int) d)(G:Gr n es ps qs)(h:qs="0e".map λm=>((zaE es m:Int):Rat))(c:m<n):zc1 es ps qs m=((ps.getD m 0+zF es m:Int):Rat):=by
 have e:∀m,m<n->qs.getD m 0=zaP es m:=λm c=>by rw[h,yf,yg,yQ c,zdm hd];rfl
 have b:zK es (zS es qs) m=((zaC es m:Int):Rat):=by
  rw[<- zhr];refine yb5 (zcS (λd a=>?_) m) (zcS (λd a=>?_) m)
  all_goals
   obtain⟨p0,f,_⟩:=hd d a;rw[zl2 hd a (e _ ⋯)];exact yE
 unfold zc1;rw[b,e m c,zdm hd];unfold zF;rw[yV,yb2];grind
def zeO(h:m<n):(vec n f).getD m 0=f m:=by rw[yf,zae h];rfl
theorem gap90{ds:List Due}{pf:Nat->Int}:∀n,0<=zak (vec n (zc2 ds pf))/\(zak (vec n (zc2 ds pf))=0↔∀m,m<n->0<=pf m+zF ds m)
 | 0=>⟨yC _,λ_ m h=>absurd h (yan _),λ_=>rfl⟩
 | n+1=>by
  obtain⟨f,h1⟩:=gap90 n (ds:=ds) (pf:=pf);have c:0<=zc2 ds pf n/\(zc2 ds pf n=0↔0<=pf n+zF ds n):=by
   unfold zc2;split<;>lia
  rw[zdY,zef];refine⟨⋯,λz m d=>?_,λz=>?_⟩
  ·by_cases e:m=n
   ·rw[e];exact c.2.mp ⋯
   ·exact h1.mp ⋯ m ⋯
  ·have a:=h1.mpr λm d=>z m ⋯;have b:=c.2.mpr (z n ⋯);lia
def zsj{us:List V}(h:IsTs zad H us es)(b:1<=ns.length):HO.lst us≠HO.lst (ns.map V.int):=by
 intro z;have z:=HO.lst.inj z
 match us,es,h with
 | [],[],_=>cases ns with
  | nil=>exact absurd b (by decide)
  | cons a r=>cases z
 | v :: vs,e :: es,⟨⟨a,q,_⟩,_⟩=>
  subst q;cases ns with
  | nil=>cases z
  | cons a r=>cases z
def zqO{pf:Nat->Int}{way:Int}(O:Oth n ds (if way=1 then n+1 else n) es):(∀m,m<n->0<=pf m+zF ds m)↔∀m,m<(if way=1 then n+1 else n)->0<=(if way=1 then vec n pf++[0]else vec n pf).getD m 0+zF es m:=by
 have b:=O.net;by_cases c:way=1
 ·rw[if_pos c]at b ⊢;rw[if_pos c];have g:∀m,m<n+1->(vec n pf++[0]).getD m 0=if m<n then pf m else 0:=λm a=>by
   by_cases h:m<n
   ·rw[if_pos h,yf,yO (by rw[zO];exact h),zae h];rfl
   ·obtain rfl:m=n:=by lia
    rw[if_neg h,yf,yaa (by rw[zO];exact yc _),zO,ybX];rfl
  constructor
  ·intro h m a;rw[g m a,b m a];by_cases h':m<n
   ·rw[if_pos h',if_pos h'];exact h m h'
   ·rw[if_neg h',if_neg h'];decide
  ·intro h m a
   have:=h m ⋯
   rw[g m ⋯,b m ⋯,if_pos a,if_pos a]at this;exact this
 ·rw[if_neg c]at b ⊢;rw[if_neg c];constructor
  ·intro h m a;rw[zeO a,b m a,if_pos a];exact h m a
  ·intro h m a
   have:=h m a
   rw[zeO a,b m a,if_pos a]at this;exact this
end Internal
namespace Internal.K
variable {K:Fg}{X:Cx}{j k n:Nat}{mg:Str->Option Value}{ps:List Str}{qual x:Str}{sp:Sp}{st:Stmt}
open PySem Internal
local macro_rules | `(tactic| walk_at "s")=>`(tactic| exact ⟨rfl,rfl,rfl,by decide +kernel,rfl,by decide +kernel,by decide +kernel⟩)
local macro_rules | `(tactic| walk_at "l1")=>`(tactic| (rename_i h; first | (obtain ⟨h,_⟩:=h; subst h; rfl) | (obtain ⟨_,h⟩:=h; walk_at "l1")))
local macro_rules | `(tactic| walk_at "l")=>`(tactic| (intro _ _ _ _ h; first | (obtain ⟨h,_⟩:=h; subst h; rfl) | (obtain ⟨_,h⟩:=h; walk_at "l1")))
local macro_rules | `(tactic| walk_at "z")=>`(tactic| first
 | assumption
 | exact sz200 (by lia) (by lia)
 | ((with_reducible apply zcl);(focus walk_at "z");walk_at "z")
 | exact szL (by decide) (by lia) (by lia)
 | ((with_reducible apply yi (m:=_));(focus assumption);lia))
local macro_rules | `(tactic| walk_at "h")=>`(tactic| first
 | assumption
 | (with_reducible exact Same.refl _)
 | ((with_reducible apply Same.isQ);(focus assumption);walk_at "h")
 | ((with_reducible apply LBut.isQ);(focus assumption);walk_at "h")
 | ((with_reducible apply IsQs.same);(focus assumption);walk_at "h")
 | ((with_reducible apply LBut.isQs);(focus assumption);walk_at "h")
 | ((with_reducible apply Same.at);(focus assumption);walk_at "h")
 | ((with_reducible apply LBut.tup);(focus assumption);walk_at "h")
 | ((with_reducible apply LBut.lst);(focus assumption);(focus walk_at "h");walk_at "h")
 | ((with_reducible apply SqL.keep);(focus (show SqL _ _ _ _;assumption));walk_at "h")
 | ((with_reducible apply SqL.of);walk_at "h")
 | ((with_reducible apply Same.after);(focus assumption);walk_at "h")
 | ((with_reducible apply LBut.same);(focus assumption);(focus walk_at "h");walk_at "h")
 | ((with_reducible apply Same.none);(focus assumption);walk_at "h")
 | ((with_reducible apply TbW.same);(focus assumption);walk_at "h")
 | ((with_reducible apply SameT.lst);(focus assumption);walk_at "h")
 | ((with_reducible apply SameT.tup);(focus assumption);walk_at "h")
 | ((with_reducible apply SameT.seq);(focus assumption);walk_at "h")
 | ((with_reducible apply Same.isTs);(focus assumption);walk_at "h")
 | ((with_reducible apply LBut.isTs);(focus assumption);walk_at "h")
 | ((with_reducible apply Same.isSh);(focus assumption);walk_at "h")
 | ((with_reducible apply IsSh.of);(focus walk_at "h");walk_at "h")
 | ((with_reducible apply ztn);(focus assumption);walk_at "h")
 | ((with_reducible apply zb8);(focus assumption);walk_at "h"))
local macro_rules | `(tactic| walk_at "x1")=>`(tactic| first
 | ((with_reducible apply zu7);(focus (exact rfl)))
 | (with_reducible (first
   | apply zvA
   | apply ztV
   | apply zro
   | apply zuQ
   | apply zvj
   | apply zuX
   | apply zvw
   | apply zuJ
   | apply zth
   | apply zuM
   | apply zuV
   | apply zu4
   | apply ztp
   | apply zu5
   | apply zuh
   | apply zeE
   | apply zh6
   | apply zrW
   | apply zsU))
 | (with_reducible refine zuv (by assumption) ?_)
 | (with_reducible refine zuq (by assumption) ?_)
 | (with_reducible refine zsY (by assumption) ?_)
 | (with_reducible refine zvd (λ_=>?_) (λ_=>?_))
 | (with_reducible refine zub (λ_=>?_) (λ_=>?_))
 | (with_reducible refine ztx (λ_=>?_) (λ_=>?_))
 | (with_reducible refine ztG (λ_=>?_) (λ_=>?_))
 | (with_reducible (first
   | apply zvg
   | apply zvi))
 | ((with_reducible show rIx _ (V.ref _) (V.int _) _ _);first
   | refine znU (by assumption) (by rfl) ?_
   | refine zmJ (by assumption) (by lia) (by lia) ?_
   | refine zrN (by assumption) (by lia) (by assumption) ?_
   | refine znU (by walk_at "h") (by rfl) ?_
   | refine zmJ (by walk_at "h") (by lia) (by lia) ?_
   | refine zh9 (by walk_at "h") (by assumption) ?_
   | refine znM (by walk_at "h") (by assumption) ?_
   | refine zh9 (by walk_at "h") (by rfl) ?_)
 | ((with_reducible show ze4 _ [V.int _,_] _ _);refine zj6 ?_)
 | ((with_reducible show ze4 _ [V.bl _,_] _ _);refine zj6 ?_)
 | (with_reducible (first
   | apply zt7
   | apply zuG))
 | ((with_reducible show ze4 _ [V.ref _,V.ty "tuple"] _ _);refine zj6 ?_;first | refine IsQ.isT (by walk_at "h") ?_ | refine zoW (by walk_at "h") ?_ | refine x_isLT (by walk_at "h") ?_)
 | ((with_reducible show ze4 _ [V.ref _,V.ty "list"] _ _);refine zj6 ?_;first | refine zuw (by walk_at "h") ?_ | refine x_isTL (by walk_at "h") ?_)
 | ((with_reducible show zf3 _ [] _);refine zdI (by first | decide | simp) (λ_ _ _ _ _=>?_))
 | ((with_reducible show zf3 _ [_] _);refine zdI (by first | decide | simp) (λ_ _ _ _ _=>?_))
 | ((with_reducible show zf3 _ (_ :: _ :: _ :: _) _);refine zdI (by first | decide | simp) (λ_ _ _ _ _=>?_))
 | ((with_reducible show zis _ [V.ref _] _ _);first | refine IsQ.len (by walk_at "h") ?_ | refine zuo (by walk_at "h") ?_ | refine x_lenT' (by walk_at "h") ?_)
 | (with_reducible (first
   | apply zoS
   | apply zsZ))
 | ((with_reducible show zkz _ _ _ _ _);refine zp4 (by walk_at "h") (by first | decide | lia) ?_)
 | ((with_reducible show zkU _ _ _ _);refine zrd (by walk_at "h") (by walk_at "h") (by walk_at "h") (by walk_at "h") ?_)
 | ((with_reducible show ziL _ _ _ _);refine zph (by walk_at "h") (by walk_at "h") (by walk_at "h") (by walk_at "h") ?_)
 | ((with_reducible show zim _ _ _ _);refine zpw (by walk_at "h") (by walk_at "h") (by walk_at "h") (by walk_at "h") ?_)
 | (with_reducible (first
   | apply zuK
   | apply ztP
   | apply zrk
   | apply zuH
   | apply zvs))
 | ((with_reducible show zqp _ _ _ _ _ _);refine zu2 rfl ?_)
 | (with_reducible (first
   | apply ztU
   | apply zsr))
 | ((with_reducible show zbB _ _ _ (V.ref _) _ _ _);refine zuD (by assumption) rfl ?_)
 | ((with_reducible show zcs _ (V.ref _) (V.int _) _ _);first
   | refine zqP (by walk_at "h") (by lia) (by lia) ?_
   | refine zof (by walk_at "h") (by assumption) ?_)
 | ((with_reducible show zhU (V.ref _) (V.int _) (V.int _) _ _);refine zq9 (by walk_at "h") (by lia) (by lia) (λ_ _ _=>?_))
 | ((with_reducible show zeb (V.ref _) (V.int _) _ _);first | refine zqz (by walk_at "h") (by lia) (by lia) (λ_ _ _ _ _=>?_) | refine zqR (by walk_at "h") (by lia) (by lia) (λ_ _ _ _ _=>?_) | refine zs7 (by walk_at "h") (by lia) (by lia) (λ_ _ _ _ _=>?_))
 | ((with_reducible show rIn _ true (V.int _) (V.ref _) _ _);refine zsd (by walk_at "h") ?_)
 | ((with_reducible show zkv _ _ _ _ _);refine zqJ (by walk_at "h") (by lia) (by lia) (by lia) (by assumption) (λ_ _ _ _ _=>?_))
 | ((with_reducible show zkV _ _ _ _ _);refine zq0 (by walk_at "h") (by lia) (by lia) (by lia) (by assumption) (λ_ _ _ _ _ _ _=>?_))
 | ((with_reducible show zm5 _ _ _ _ _);refine zsn (by walk_at "h") (by lia) (by lia) (by lia) (by assumption) (λ_ _ _ _ _ _ _ _ _ _ _ _ _ _ _ _ _ _ _=>?_))
 | ((with_reducible show zkd _ [V.ref _] _ _);first | refine x_minK (by walk_at "h") (by assumption) ?_ | refine ztS (by walk_at "h") (by assumption) (λ_ _ _=>?_))
 | ((with_reducible show zfX _ _ _ _ _);refine zlV (by walk_at "h") (by lia) (by lia) (by assumption) (λ_ _ _ _ _ _ _ _ _=>?_))
 | ((with_reducible show zgW _ _ _ _ _);refine znf (by walk_at "h") (by lia) (by lia) (by assumption) (λ_ _ _ _ _ _ _=>?_))
 | ((with_reducible show zlc _ _ _ _);refine zrh (by lia) (by lia) ?_)
 | ((with_reducible show zgK _ _ _ _ _);refine znd (by walk_at "h") (by assumption) (by walk_at "h") (by assumption) (λ_ _=>?_))
 | ((with_reducible show ziF _ _ _ _ _);refine zpF (by walk_at "h") (by walk_at "h") (by lia) (by assumption) (λ_ _ _ _ _ _ _ _ _=>?_))
 | ((with_reducible show zif _ _ _ _ _);refine zow (by walk_at "h") (by assumption) (by walk_at "h") (by lia) (by lia) (λ_ _ _ _ _=>?_))
 | ((with_reducible show zgZ _ _ _ _ _);refine znl (by walk_at "h") (by assumption) (by walk_at "h") (by walk_at "h") (by lia) (λ_ _ _ _ _=>?_))
 | ((with_reducible show zka _ _ _ _);refine zt4 (by walk_at "h") ?_)
 | ((with_reducible show zm8 _ _ _ _ _);refine zrM (by walk_at "h") (by assumption) (by walk_at "h") (by walk_at "h") (by assumption) (by lia) (by lia) (λ_ _ _ _ _ _ _ _ _=>?_))
 | ((with_reducible show zit _ _ _ _);refine zjg (by walk_at "h") (by walk_at "h") (by assumption) (by assumption) (by assumption) ?_)
 | ((with_reducible show zfu _ _ _ _ _);refine zlO (by walk_at "h") (by assumption) (by walk_at "h") (by assumption) (λ_ _ _ _ _ _ _=>?_))
 | ((with_reducible show ziJ _ _ _ _ _);refine zpy (by walk_at "h") (by walk_at "h") (by walk_at "h") (by assumption) (by lia) (by lia) (by assumption) (λ_ _ _ _ _ _ _=>?_))
 | ((with_reducible show zkI _ _ _ _ _);refine zp8 (by walk_at "h") (by walk_at "h") (by walk_at "h") (by assumption) (by lia) (by lia) (by assumption) (λ_ _ _ _ _ _ _=>?_))
 | ((with_reducible show ziP _ _ _ _ _);refine zpj (by walk_at "h") (by walk_at "h") (by assumption) (by assumption) ?_)
 | ((with_reducible show ziy _ _ _ _ _);refine zoX (by walk_at "h") (by walk_at "h") (by lia) (by lia) (by assumption) (λ_ _ _ _ _=>?_))
 | ((with_reducible show znv _ [V.ref _] _ _);refine zrz (by walk_at "h") ?_)
 | ((with_reducible show znG _ [V.int _] _);refine zsa (by lia) (by lia) ?_)
 | ((with_reducible show znQ _ [V.int _,V.int _] _);refine zr3 (by lia) (by lia) (by lia) (by lia) ?_)
 | ((with_reducible show zrc _ _ (V.ref _) _);refine zrr (by walk_at "h") ?_)
 | ((with_reducible show zni _ _ [V.ref _] _);refine zrX (by walk_at "h") ?_)
 | ((with_reducible show zqL _ _ [V.ref _,V.ref _] _);refine zuA (by walk_at "h") (by walk_at "h") ?_)
 | ((with_reducible show zhP _ _ _ _ _);refine zqH (by walk_at "h") (by lia) (by lia) (by assumption) (λ_ _ _ _ _=>?_))
 | ((with_reducible show zhe _ _ _ _ _);refine znR (by walk_at "h") (by lia) (by lia) (by lia) (by lia) (λ_ _ _=>?_))
 | ((with_reducible show zgI _ _ _ _);refine zmV (by lia) (by lia) (by lia) (by lia) (λ_ _ _=>?_))
 | ((with_reducible show zm9 _ _ _ _);refine zsu (by lia) (by lia) (by lia) (by lia) (by lia) (by lia) (λ_ _ _ _ _ _ _=>?_))
 | ((with_reducible show zg7 _ _ _ _ _);refine zny (by walk_at "h") (by lia) (by lia) (by assumption) (λ_ _ _ _ _ _ _ _ _=>?_))
 | ((with_reducible show zek _ _ _ _ _);refine zjR (by walk_at "h") (by lia) (λ_ _ _ _ _=>?_))
 | ((with_reducible show zlt _ _ _ _ _);refine zhi (by walk_at "h") (by walk_at "h") (by lia) (by lia) (λ_ _ _ _ _ _ _=>?_))
 | ((with_reducible show zgR _ _ _ _ _);refine znK (by walk_at "h") (by lia) (by lia) (by assumption) (λ_ _ _ _ _ _ _=>?_))
 | ((with_reducible show zdt (Itr _ _) _ _ zep (tC (V.int _)) _ _ _);refine zsE rfl (by lia) (λ_ _ _ _ _=>?_))
 | ((with_reducible show zdt (Itl _ _) _ _ zep (tC (V.int _)) _ _ _);refine zp9 (by walk_at "h") rfl (by first | lia | (simp only[ye,zO];lia)) (λ_ _ _ _ _=>?_))
 | ((with_reducible show zem _ (V.ref _) (V.ref _) _ _);first | refine zkO (by walk_at "h") (by walk_at "h") rfl ?_ | refine x_eqSh (by walk_at "h") (by walk_at "h") rfl ?_ | refine x_eqQs (by walk_at "h") (by walk_at "h") (by walk_at "h") (by walk_at "h") ?_)
 | ((with_reducible show zeo _ (V.ref _) (V.ref _) _ _);first | refine zhd (by walk_at "h") (by walk_at "h") rfl ?_ | refine x_neRows (by walk_at "h") (by walk_at "h") (by walk_at "h") (by walk_at "h") (by lia) (λ_ _ _ _=>rfl) ?_ | refine x_neSh (by walk_at "h") (by walk_at "h") rfl ?_ | refine x_neQs (by walk_at "h") (by walk_at "h") (by walk_at "h") (by walk_at "h") ?_)
 | (with_reducible (first
   | apply zt2
   | apply ztR
   | apply zuT
   | apply zvy
   | apply ztz
   | apply zs0))
 | ((with_reducible show tyV _ "list" (V.ref _) _/\_);refine zuL (by walk_at "h") ?_)
 | ((with_reducible show zbz (V.ref _) [_] _ _);refine zfN (by walk_at "h") (by lia) (λ_ _ _=>?_))
 | ((with_reducible show zeM _ _ _ _ _);refine zk0 (by walk_at "h") (by walk_at "h") (by lia) (by lia) (by lia) (by assumption) (by assumption) (by assumption) (λ_ _ _ _ _=>?_))
 | ((with_reducible show zlk _ _ _ _);refine zpL (by lia) (by walk_at "z") ?_)
 | ((with_reducible show NewQ _ _ _);intro _ _ _ _)
 | ((with_reducible show zqU _ _ _);refine ztO (by first | decide | simp) (λ_ _ _ _ _=>?_))
 | ((with_reducible show zeC _ _ _ _);refine zog (by walk_at "h") (λ_ _ _ _ _=>?_))
 | ((with_reducible show zfM _ _ _ _ _ _);refine ztr (by walk_at "h") (λ_ _ _ _ _=>?_))
 | ((with_reducible show ziv _ _ _ _ _);refine zi1 (by walk_at "h") (by walk_at "h") (by walk_at "h") (by walk_at "h") ?_)
 | ((with_reducible show zgm _ _ _ _ _);refine zjk (by walk_at "h") (by walk_at "h") (by walk_at "h") (by walk_at "h") ?_)
 | ((with_reducible show zm3 _ _ _ _);refine zu1 (by first | decide | lia) ?_)
 | ((with_reducible show zeb _ _ _ _);refine znL (by first | assumption | (apply CMulS.of;(focus walk_at "z");(focus walk_at "z");first | decide | lia)) ?_)
 | ((with_reducible show zhC _ _ _ _);refine zuW (by first | walk_at "h" | decide) (by first | walk_at "h" | exact szL (by decide) (by decide) (by decide)) ?_)
 | ((with_reducible show rI zno _ _ _ _ _);refine zvk ⟨by decide,by decide,by decide⟩ rfl ?_;(try simp only[Int.reduceToNat,Int.reducePow]))
 | ((with_reducible show Ends.nx _ _ _);dsimp only[List.set,Ends.gone]))
local macro_rules | `(tactic| walk_at "x")=>`(tactic| repeat' (walk_at "x1"))
local macro_rules|`(∅)=>`(by walk_at "h")
noncomputable def top (i:Nat):Stmt:=PySem.Challenge.pw_quits_k90_whole_netted_and_cleared.main.body.getD i (.Pass ⟨0,0,0,0⟩)
abbrev zjE:Stmt:=top 5
abbrev zo8:Stmt:=top 7
abbrev zpA:Stmt:=top 8
abbrev zl7:Stmt:=top 9
abbrev zmg:Stmt:=top 10
abbrev zoj:Stmt:=top 11
abbrev zmH:Stmt:=top 12
abbrev zl4:Stmt:=top 13
abbrev zmj:Stmt:=top 14
abbrev zod:Stmt:=top 16
abbrev zli:Stmt:=top 17
abbrev zfC:Stmt:=top 18
abbrev zeF:Stmt:=top 19
abbrev zoU:Stmt:=top 21
abbrev zfl:Stmt:=top 22
abbrev zjK:Stmt:=top 23
abbrev zrG:Stmt:=top 24
abbrev zk1:Stmt:=top 26
abbrev zgF:Stmt:=top 27
abbrev zft:Stmt:=top 28
abbrev zmy:Stmt:=top 29
abbrev zgy:Stmt:=top 30
abbrev zi2:Stmt:=top 32
abbrev zh4:Stmt:=top 33
abbrev zec:Stmt:=top 34
abbrev zhD:Stmt:=top 35
abbrev zhV:Stmt:=top 36
abbrev zdO:Stmt:=top 37
abbrev zd4:Stmt:=top 38
abbrev zhW:Stmt:=top 39
abbrev zfx:Stmt:=top 40
abbrev zmD:Stmt:=top 41
abbrev zjl:Stmt:=top 42
abbrev zi0:Stmt:=top 43
abbrev zlD:Stmt:=top 45
abbrev zfc:Stmt:=top 46
abbrev zfP:Stmt:=top 47
abbrev zrJ:Stmt:=top 49
abbrev zlK:Stmt:=top 51
abbrev zeG:Stmt:=top 52
abbrev zkH:Stmt:=top 53
abbrev zjM:Stmt:=top 55
abbrev zh0:Stmt:=top 56
abbrev zeD:Stmt:=top 57
abbrev zid:Stmt:=top 58
abbrev zoP:Stmt:=top 59
abbrev zfy:Stmt:=top 60
abbrev zgv:Stmt:=top 62
abbrev zfV:Stmt:=top 63
abbrev zfo:Stmt:=top 64
abbrev zfb:Stmt:=top 65
abbrev zh5:Stmt:=top 66
abbrev zfz:Stmt:=top 67
abbrev zev:Stmt:=top 68
abbrev zgu:Stmt:=top 69
abbrev zhz:Stmt:=top 70
abbrev zfD:Stmt:=top 71
abbrev zgq:Stmt:=top 72
abbrev zfk:Stmt:=top 73
abbrev zfL:Stmt:=top 74
abbrev zfg:Stmt:=top 75
abbrev zfE:Stmt:=top 76
abbrev zfv:Stmt:=top 77
abbrev zrD:Stmt:=top 78
def zb9:FnScope ["one", "other", "kept", "rest", "further"] ["one", "other"] (zt zjE):=by walk_at "s"
def zil:FnScope ["top", "bottom", "common"] ["top", "bottom"] (zt zo8):=by walk_at "s"
def zf6:FnScope ["one", "other", "shared", "top", "common"] ["one", "other"] (zt zpA):=by walk_at "s"
def zqI:FnScope ["one", "other"] ["one", "other"] (zt zl7):=by walk_at "s"
def zdL:FnScope ["one", "other", "down", "across", "top", "bottom"] ["one", "other"] (zt zmg):=by walk_at "s"
def zsV:FnScope ["one", "other"] ["one", "other"] (zt zoj):=by walk_at "s"
def zqd:FnScope ["one", "other"] ["one", "other"] (zt zmH):=by walk_at "s"
def zqm:FnScope ["one", "other"] ["one", "other"] (zt zl4):=by walk_at "s"
def sc_total:FnScope ["some", "added", "each"] ["some"] (zt zmj):=by walk_at "s"
def sc_nets:FnScope ["many", "sheet", "sums", "payer", "payee", "rank", "amount"] ["many", "sheet"] (zt zod):=by walk_at "s"
def sc_ranked:FnScope ["many", "sheet", "sums", "payer", "payee", "rank", "amount"] ["many", "sheet"] (zt zli):=by walk_at "s"
def zjY:FnScope ["sheet"] ["sheet"] (zt zfC):=by walk_at "s"
def zhv:FnScope ["sheet", "amounts"] ["sheet", "amounts"] (zt zeF):=by walk_at "s"
def ziI:FnScope ["sheet", "lays", "owed", "shares"] ["sheet", "lays"] (zt zoU):=by walk_at "s"
def sc_shares_paid:FnScope ["owed", "lay", "shares", "rest", "here", "laid"] ["owed", "lay"] (zt zfl):=by walk_at "s"
def sc_stop_of:FnScope ["owed", "lay", "end", "rank", "here"] ["owed", "lay"] (zt zjK):=by walk_at "s"
def sc_got:FnScope ["sheet", "lays", "gains", "number", "gain"] ["sheet", "lays"] (zt zrG):=by walk_at "s"
def sc_solved:FnScope ["rows", "right", "count", "table", "before", "place"] ["rows", "right"] (zt zk1):=by walk_at "s"
def sc_whole_row:FnScope ["row", "common", "top", "bottom"] ["row"] (zt zgF):=by walk_at "s"
def sc_with_first:FnScope ["table", "place", "found", "swapped"] ["table", "place"] (zt zft):=by walk_at "s"
def sc_swept:FnScope ["table", "place", "before", "sweeper", "made", "number", "row"] ["table", "place", "before"] (zt zmy):=by walk_at "s"
def zdK:FnScope ["row", "sweeper", "place", "before", "keep", "take"] ["row", "sweeper", "place", "before"] (zt zgy):=by walk_at "s"
def sc_cleared:FnScope ["sheet", "purses", "owed", "lays", "opened", "ranks", "flows", "circle", "rates", "step", "shut"] ["sheet", "purses"] (zt zi2):=by walk_at "s"
def sc_flows_of:FnScope ["sheet", "ranks", "flows", "payer", "payee", "rank", "amount"] ["sheet", "ranks"] (zt zh4):=by walk_at "s"
def sc_closed_circle:FnScope ["flows", "ranks", "circles", "member", "reached"] ["flows", "ranks"] (zt zec):=by walk_at "s"
def sc_reach_of:FnScope ["flows", "member", "reached", "place", "here"] ["flows", "member"] (zt zhD):=by walk_at "s"
def sc_balances:FnScope ["flows", "members", "rows", "place", "member"] ["flows", "members"] (zt zhV):=by walk_at "s"
def zch:FnScope ["flows", "circle", "rows", "right"] ["flows", "circle"] (zt zdO):=by walk_at "s"
def sc_opening_rates:FnScope ["flows", "ranks", "purses", "short", "right"] ["flows", "ranks", "purses"] (zt zd4):=by walk_at "s"
def sc_rates_of:FnScope ["flows", "members", "shares", "rates", "place", "member"] ["flows", "members", "shares"] (zt zhW):=by walk_at "s"
def sc_least_room:FnScope ["owed", "ranks", "lays", "rates", "room", "member", "rate", "end", "here"] ["owed", "ranks", "lays", "rates"] (zt zfx):=by walk_at "s"
def zqX:FnScope ["lays", "rates", "step"] ["lays", "rates", "step"] (zt zmD):=by walk_at "s"
def znS:FnScope ["sheet", "purses"] ["sheet", "purses"] (zt zjl):=by walk_at "s"
def zht:FnScope ["sheet", "purses", "lays", "gains"] ["sheet", "purses", "lays"] (zt zi0):=by walk_at "s"
def sc_a_ring:FnScope ["many", "sheet", "onward", "going", "payers", "member"] ["many", "sheet"] (zt zlD):=by walk_at "s"
def sc_ways_onward:FnScope ["many", "sheet", "going", "onward", "turn"] ["many", "sheet"] (zt zfc):=by walk_at "s"
def sc_dues_among:FnScope ["sheet", "going", "onward", "number", "due"] ["sheet", "going"] (zt zfP):=by walk_at "s"
def sc_cut:FnScope ["many", "sheet", "left", "cuts", "ring", "fewest", "number"] ["many", "sheet"] (zt zrJ):=by walk_at "s"
def sc_paired:FnScope ["many", "sheet", "made", "rank", "between", "lesser", "greater", "more"] ["many", "sheet"] (zt zlK):=by walk_at "s"
def sc_sums_between:FnScope ["many", "sheet", "rank", "between", "due"] ["many", "sheet", "rank"] (zt zeG):=by walk_at "s"
def sc_housed:FnScope ["many", "sheet", "made", "member", "net"] ["many", "sheet"] (zt zkH):=by walk_at "s"
def ze1:FnScope ["many", "sheet", "left", "wanting"] ["many", "sheet"] (zt zjM):=by walk_at "s"
def sc_steps_of:FnScope ["sheet", "left", "steps", "number", "due"] ["sheet", "left"] (zt zh0):=by walk_at "s"
def sc_shortest_way:FnScope ["many", "sheet", "left", "wanting", "far", "last_steps", "steps", "turn", "step", "there", "ends"] ["many", "sheet", "left", "wanting"] (zt zeD):=by walk_at "s"
def zc9:FnScope ["end", "last_steps", "way", "member"] ["end", "last_steps"] (zt zid):=by walk_at "s"
def sc_send:FnScope ["sheet", "left", "wanting", "way", "start", "end", "room", "step"] ["sheet", "left", "wanting", "way"] (zt zoP):=by walk_at "s"
def sc_heights_of:FnScope ["many", "sheet", "left", "heights", "steps", "turn", "step"] ["many", "sheet", "left"] (zt zfy):=by walk_at "s"
def zla:FnScope ["_law_script", "_law_k"] ["_law_script", "_law_k"] (zt zgv):=by walk_at "s"
def zjS:FnScope ["_law_thing"] ["_law_thing"] (zt zfV):=by walk_at "s"
def zj2:FnScope ["_law_script", "_law_k", "_law_seed"] ["_law_script", "_law_k", "_law_seed"] (zt zfo):=by walk_at "s"
def zew:FnScope ["_law_number", "_law_seed", "_law_way"] ["_law_number", "_law_seed"] (zt zfb):=by walk_at "s"
def zdb:FnScope ["_law_number", "_law_many", "_law_seed", "_law_payer", "_law_payee", "_law_rank"] ["_law_number", "_law_many", "_law_seed"] (zt zh5):=by walk_at "s"
def zdo:FnScope ["_law_script", "_law_many", "_law_most", "_law_seed", "_law_count"] ["_law_script", "_law_many", "_law_most"] (zt zfz):=by walk_at "s"
def zbV:FnScope ["_law_one", "_law_other_here", "_law_rest"] ["_law_one", "_law_other_here"] (zt zev):=by walk_at "s"
def zfT:FnScope ["_law_top", "_law_bottom", "_law_shared"] ["_law_top", "_law_bottom"] (zt zgu):=by walk_at "s"
def zlW:FnScope ["_law_one", "_law_other_here"] ["_law_one", "_law_other_here"] (zt zhz):=by walk_at "s"
def sc__law_parts:FnScope ["_law_told", "_law_size", "_law_one"] ["_law_told", "_law_size"] (zt zfD):=by walk_at "s"
def sc__law_nets:FnScope ["_law_many", "_law_sheet_here", "_law_sums", "_law_due_here"] ["_law_many", "_law_sheet_here"] (zt zgq):=by walk_at "s"
def zc6:FnScope ["_law_sheet_here", "_law_way", "_law_half", "_law_back"] ["_law_sheet_here", "_law_way"] (zt zfk):=by walk_at "s"
def sc__law_lacks:FnScope ["_law_many", "_law_sheet_here", "_law_purses_here", "_law_sums", "_law_due_here"] ["_law_many", "_law_sheet_here", "_law_purses_here"] (zt zfL):=by walk_at "s"
def zaF:FnScope ["_law_script", "_law_many", "_law_sheet_here", "_law_seed", "_law_way", "_law_drawn_here", "_law_purses_here"] ["_law_script", "_law_many", "_law_sheet_here"] (zt zfg):=by walk_at "s"
def zj3:FnScope ["_law_way", "_law_many", "_law_sheet_here"] ["_law_way", "_law_many", "_law_sheet_here"] (zt zfE):=by walk_at "s"
def sc__law_holds:FnScope ["_law_sheet_here", "_law_purses_here", "_law_full", "_law_many", "_law_owed", "_law_due_here", "_law_lays", "_law_ends", "_law_coins", "_law_one", "_law_net"] ["_law_sheet_here", "_law_purses_here", "_law_full"] (zt zfv):=by walk_at "s"
def zdT:FnScope ["_law_script", "_law_many", "_law_sheet_here", "_law_purses_here", "_law_full", "_law_way", "_law_other_here"] ["_law_script"] (zt zrD):=by walk_at "s"
def zm7{α:Type}{us:List α}(h:us.length=0):us=[]:=yah h
def zen{α:Type}{us:List α}(h:us.length=n+1):∃a vs,us=a :: vs/\vs.length=n:=by
 cases us with
 | nil=>cases h
 | cons a vs=>exact⟨a,vs,rfl,Nat.succ.inj h⟩
def len1{α:Type}{us:List α}(h:us.length=1):∃a,us=[a]:=by
 obtain⟨a,c,rfl,b⟩:=zen h;obtain rfl:=zm7 b;exact⟨a,rfl⟩
def len2{α:Type}{us:List α}(h:us.length=2):∃a a1,us=[a,a1]:=by
 obtain⟨a,c,rfl,b⟩:=zen h;obtain⟨a1,d,rfl,h1⟩:=zen b;obtain rfl:=zm7 h1;exact⟨a,a1,rfl⟩
def len3{α:Type}{us:List α}(h:us.length=3):∃a a1 a2,us=[a,a1,a2]:=by
 obtain⟨a,c,rfl,b⟩:=zen h;obtain⟨a1,d,rfl,h1⟩:=zen b;obtain⟨a2,e,rfl,h2⟩:=zen h1;obtain rfl:=zm7 h2;exact⟨a,a1,a2,rfl⟩
def len4{α:Type}{us:List α}(h:us.length=4):∃b a1 a2 a,us=[b,a1,a2,a]:=by
 obtain⟨b,d,rfl,c⟩:=zen h;obtain⟨a1,f,rfl,h1⟩:=zen c;obtain⟨a2,i,rfl,h2⟩:=zen h1;obtain⟨a,e,rfl,g⟩:=zen h2;obtain rfl:=zm7 g;exact⟨b,a1,a2,a,rfl⟩
structure Dfn(K:Fg)(mg:Str->Option Value)(x qual:Str)(st:Stmt)(ps:List Str) where
 a:Addr
 fd:FuncData
 F:Fun K x qual st a fd
 b:Binds K fd ps []
 m:mg x=some (.ref a)
abbrev Dfn.Ok(D:Dfn K mg x qual st ps)(P:Program)(w:World)(base:Heap)(k:Nat)(sp:Sp):Prop:=FnOk P w K mg base (CXF P w) k D.a D.fd ps sp
def qD{e:Expr}{es:List Expr}{t:TA}{p pos:Pos}(D:Dfn X.K X.mg x qual st ps)(F:FnOk X.prog X.w X.K X.mg X.base (CXF X.prog X.w) k D.a D.fd ps sp)(g:Room j X.A)(ha:PA X (e :: es) t)(c:autoParam (k<=j) Internal.aut1._auto_1)(h:autoParam (Gl X x) Internal.aut2._auto_1)(d:autoParam ((x == ("__debug__" : Str))=false) Internal.aut1._auto_1)(i:autoParam "0i" Internal.aut2._auto_1)(f:autoParam ((backTo pos (starEach es X.env)).any (·.1)=false) Internal.aut2._auto_1):PE X (.Call (.Name x p) (e :: es) [] pos) (zkb sp [] E0 t):=zr8 F (g.mono c) h D.m D.F.kp D.b .nil (zu0 zrq) ha d i f
structure Txt(K:Fg)(mg:Str->Option Value) where
 c_NoAnswer:Addr
 m_NoAnswer:mg "NoAnswer" = some (.ref c_NoAnswer)
 c_NoPart:Addr
 m_NoPart:mg "NoPart" = some (.ref c_NoPart)
 e_NoAnswer:zeX K c_NoAnswer=true
 i_NoAnswer_NoAnswer:PySem.W.kitOne K (.ref c_NoAnswer) (.ref c_NoAnswer)=some true
 i_NoAnswer_NoPart:PySem.W.kitOne K (.ref c_NoAnswer) (.ref c_NoPart)=some false
 e_NoPart:zeX K c_NoPart=true
 i_NoPart_NoAnswer:PySem.W.kitOne K (.ref c_NoPart) (.ref c_NoAnswer)=some false
 i_NoPart_NoPart:PySem.W.kitOne K (.ref c_NoPart) (.ref c_NoPart)=some true
 d_divisor:Dfn K mg "divisor" "divisor" zjE ["one", "other"]
 d_part:Dfn K mg "part" "part" zo8 ["top", "bottom"]
 d_plus:Dfn K mg "plus" "plus" zpA ["one", "other"]
 d_minus:Dfn K mg "minus" "minus" zl7 ["one", "other"]
 d_times:Dfn K mg "times" "times" zmg ["one", "other"]
 d_over:Dfn K mg "over" "over" zoj ["one", "other"]
 d_under:Dfn K mg "under" "under" zmH ["one", "other"]
 d_least:Dfn K mg "least" "least" zl4 ["one", "other"]
 d_total:Dfn K mg "total" "total" zmj ["some"]
 d_nets:Dfn K mg "nets" "nets" zod ["many", "sheet"]
 d_ranked:Dfn K mg "ranked" "ranked" zli ["many", "sheet"]
 d_amounts_of:Dfn K mg "amounts_of" "amounts_of" zfC ["sheet"]
 d_with_amounts:Dfn K mg "with_amounts" "with_amounts" zeF ["sheet", "amounts"]
 d_paid:Dfn K mg "paid" "paid" zoU ["sheet", "lays"]
 d_shares_paid:Dfn K mg "shares_paid" "shares_paid" zfl ["owed", "lay"]
 d_stop_of:Dfn K mg "stop_of" "stop_of" zjK ["owed", "lay"]
 d_got:Dfn K mg "got" "got" zrG ["sheet", "lays"]
 d_solved:Dfn K mg "solved" "solved" zk1 ["rows", "right"]
 d_whole_row:Dfn K mg "whole_row" "whole_row" zgF ["row"]
 d_with_first:Dfn K mg "with_first" "with_first" zft ["table", "place"]
 d_swept:Dfn K mg "swept" "swept" zmy ["table", "place", "before"]
 d_swept_row:Dfn K mg "swept_row" "swept_row" zgy ["row", "sweeper", "place", "before"]
 d_cleared:Dfn K mg "cleared" "cleared" zi2 ["sheet", "purses"]
 d_flows_of:Dfn K mg "flows_of" "flows_of" zh4 ["sheet", "ranks"]
 d_closed_circle:Dfn K mg "closed_circle" "closed_circle" zec ["flows", "ranks"]
 d_reach_of:Dfn K mg "reach_of" "reach_of" zhD ["flows", "member"]
 d_balances:Dfn K mg "balances" "balances" zhV ["flows", "members"]
 d_circling_rates:Dfn K mg "circling_rates" "circling_rates" zdO ["flows", "circle"]
 d_opening_rates:Dfn K mg "opening_rates" "opening_rates" zd4 ["flows", "ranks", "purses"]
 d_rates_of:Dfn K mg "rates_of" "rates_of" zhW ["flows", "members", "shares"]
 d_least_room:Dfn K mg "least_room" "least_room" zfx ["owed", "ranks", "lays", "rates"]
 d_grown:Dfn K mg "grown" "grown" zmD ["lays", "rates", "step"]
 d_ends_of:Dfn K mg "ends_of" "ends_of" zjl ["sheet", "purses"]
 d_ends_by:Dfn K mg "ends_by" "ends_by" zi0 ["sheet", "purses", "lays"]
 d_a_ring:Dfn K mg "a_ring" "a_ring" zlD ["many", "sheet"]
 d_ways_onward:Dfn K mg "ways_onward" "ways_onward" zfc ["many", "sheet"]
 d_dues_among:Dfn K mg "dues_among" "dues_among" zfP ["sheet", "going"]
 d_cut:Dfn K mg "cut" "cut" zrJ ["many", "sheet"]
 d_paired:Dfn K mg "paired" "paired" zlK ["many", "sheet"]
 d_sums_between:Dfn K mg "sums_between" "sums_between" zeG ["many", "sheet", "rank"]
 d_housed:Dfn K mg "housed" "housed" zkH ["many", "sheet"]
 d_thinned:Dfn K mg "thinned" "thinned" zjM ["many", "sheet"]
 d_steps_of:Dfn K mg "steps_of" "steps_of" zh0 ["sheet", "left"]
 d_shortest_way:Dfn K mg "shortest_way" "shortest_way" zeD ["many", "sheet", "left", "wanting"]
 d_way_back:Dfn K mg "way_back" "way_back" zid ["end", "last_steps"]
 d_send:Dfn K mg "send" "send" zoP ["sheet", "left", "wanting", "way"]
 d_heights_of:Dfn K mg "heights_of" "heights_of" zfy ["many", "sheet", "left"]
 d__law_cell:Dfn K mg "_law_cell" "_law_cell" zgv ["_law_script", "_law_k"]
 d__law_whole:Dfn K mg "_law_whole" "_law_whole" zfV ["_law_thing"]
 d__law_drawn:Dfn K mg "_law_drawn" "_law_drawn" zfo ["_law_script", "_law_k", "_law_seed"]
 d__law_amount:Dfn K mg "_law_amount" "_law_amount" zfb ["_law_number", "_law_seed"]
 d__law_due:Dfn K mg "_law_due" "_law_due" zh5 ["_law_number", "_law_many", "_law_seed"]
 d__law_sheet:Dfn K mg "_law_sheet" "_law_sheet" zfz ["_law_script", "_law_many", "_law_most"]
 d__law_divisor:Dfn K mg "_law_divisor" "_law_divisor" zev ["_law_one", "_law_other_here"]
 d__law_part:Dfn K mg "_law_part" "_law_part" zgu ["_law_top", "_law_bottom"]
 d__law_sum:Dfn K mg "_law_sum" "_law_sum" zhz ["_law_one", "_law_other_here"]
 d__law_parts:Dfn K mg "_law_parts" "_law_parts" zfD ["_law_told", "_law_size"]
 d__law_nets:Dfn K mg "_law_nets" "_law_nets" zgq ["_law_many", "_law_sheet_here"]
 d__law_turned:Dfn K mg "_law_turned" "_law_turned" zfk ["_law_sheet_here", "_law_way"]
 d__law_lacks:Dfn K mg "_law_lacks" "_law_lacks" zfL ["_law_many", "_law_sheet_here", "_law_purses_here"]
 d__law_purses:Dfn K mg "_law_purses" "_law_purses" zfg ["_law_script", "_law_many", "_law_sheet_here"]
 d__law_other:Dfn K mg "_law_other" "_law_other" zfE ["_law_way", "_law_many", "_law_sheet_here"]
 d__law_holds:Dfn K mg "_law_holds" "_law_holds" zfv ["_law_sheet_here", "_law_purses_here", "_law_full"]
 d_law:Dfn K mg "law" "law" zrD ["_law_script"]
 cw_shortest_way:Addr
 tw_shortest_way:Addr
 tb_shortest_way:PySem.W.tabIn K "shortest_way" = some (cw_shortest_way,tw_shortest_way)
 cc_shortest_way:d_shortest_way.fd.code=.ref cw_shortest_way
 bl_law:∀(s:Shared) (v:Value),BindsTo s d_law.fd ⟨[v],[]⟩ [("_law_script",v)]
 z_abs:mg "abs" = none
 z_all:mg "all" = none
 z_any:mg "any" = none
 z_bool:mg "bool" = none
 z_enumerate:mg "enumerate" = none
 z_int:mg "int" = none
 z_isinstance:mg "isinstance" = none
 z_len:mg "len" = none
 z_list:mg "list" = none
 z_max:mg "max" = none
 z_min:mg "min" = none
 z_range:mg "range" = none
 z_sum:mg "sum" = none
 z_tuple:mg "tuple" = none
 z_zip:mg "zip" = none
noncomputable def mkD {K:Fg} {h:Heap} {mg:Str->Option Value} (X:K.In h) (G:h.Ns mainGlobals mg) {x qual:Str} {st:Stmt} {ps:List Str} {f:Addr} {g kV j d e ct:Value} {n an:Option Addr} {i:Array (Option Value)} (a:PySem.W.nsIn K mainGlobals x=some (some (.ref f))) (l:K.lookup f=some ⟨g,n,.func (PySem.W.fnOf x qual (zdx st) (zcz st) (zt st) .none kV j d an e ct),i⟩) (c:PySem.W.codeIn K e qual=true) (k:PySem.W.keepIn K (.ref f)=true) (b:∀(kV doc d:Value) (an:Option Addr) (cdv ct:Value) (us:List Value),us.length=ps.length->bindArgs (PySem.W.fnOf x qual (zdx st) (zcz st) (zt st) .none kV doc d an cdv ct) ⟨us,[]⟩=pure (ps.zip us)):Dfn K mg x qual st ps:={ a:=f,fd:=_,F:=zon (st:=st) l c k,b:=(zon (st:=st) l c k).binds b,m:=PySem.W.mg_of X G a }
abbrev sZ:Nat:=60
abbrev sB:Nat:=1
section
variable {P:Program}{w:World}{K:Fg}{mg:Str->Option Value}{base:Heap}[TabX K mg base "shortest_way"]
abbrev lP:Pos:=⟨300,34,300,60⟩
abbrev lQ:Str:=("shortest_way" : Str) ++ ".<locals>." ++ "<lambda>"
def zgB(T:Txt K mg):T.d_steps_of.Ok P w base 1 (zmk K):=by
 refine T.d_steps_of.F.okN sc_steps_of "0f" λa9 A outer s H vs Q E hr h=>?_;obtain⟨a,b,n,ds,l,rfl,⟨xs,hS,I⟩,hb,hl,hd,k⟩:=h;have J:=I.length;refine⟨_,(zj (zC 2 sc_steps_of (zam zh))
 (zj (zU PassesOwn.never rfl (zbI K T.z_enumerate (za (pv 0) zh)) (show PG _ _ (zbB K 2 _)from za5 (n:=2) rfl (zI (zG (i:=3) sc_steps_of.nd rfl "0j") (zI (zG (i:=4) sc_steps_of.nd rfl "0j") zaL)))
 (zca (zQ (zD zcp (qIx K (pv 1) (pv 3)) (qIx K (pv 4) ze) (nomark _))
 (zk (zaO (qAp K (pv 2) (za (zN (za (qIx K (pv 4) ze) (za (qIx K (pv 4) ze) (za (pv 3) (za ze zh))))) zh))))
 zJ)
 (zk (zQ (zD zcQ (qIx K (pv 1) (pv 3)) ze (nomark _))
 (zk (zaO (qAp K (pv 2) (za (zN (za (qIx K (pv 4) ze) (za (qIx K (pv 4) ze) (za (pv 3) (za (zcI zb2 ze) zh))))) zh))))
 zJ))))
 (zk (zB (pv 2))))),?_⟩
 refine zE (σ0:=[some (.ref a),some (.ref b),none,none,none]) rfl ?_;walk_at "x";rename_i st H1 j e1 M;refine zcM (zaK (K:=K) (a:=a) (xs:=xs)) (λi g H'=>∃(f3 Z:Option V) (ys:List V),g=[some (.ref a),some (.ref b),some (.ref st),f3,Z]/\H' st=some (.lst ys)/\IsTs zad H' ys (zcV ds l i)/\ys.length<=2*i/\Same H H') ⟨_,_,[],rfl,M,trivial,yc _,e1⟩ ?_ ?_ ?_
 ·rintro i g H' ⟨_,_,_,_,_,_,_,e⟩;exact hS.keep e
 ·rintro i x g H2 H3 hi ⟨f3,Z,ys,rfl,R,B,S,D⟩ G ⟨tt,v,rfl,hx,W⟩;obtain⟨bd,d,rfl,u,U⟩:=(I.same (D.trans G)).get hx;have a2:H3 tt=some (.tup [.int (i:Int),.ref bd]):=W;have a1:H3 bd=some "0h":=U;have L:=G.at R;have t:=B.same G;have m:=D.trans G;have a4:i<ds.length:=by lia
  have es:zcV ds l (i+1)=zcV ds l i++((if l i<d.a then[⟨d.p,d.q,(i:Int),1⟩] else[])++(if 0<l i then[⟨d.q,d.p,(i:Int),-1⟩] else[])):=by
   show zcV ds l i++_=_;rw[u]
  walk_at "x";refine znq (λg H'=>g=[some (.ref a),some (.ref b),some (.ref st),some (.int (i:Int)),some (.ref bd)]/\∃c,H' st=some (.lst c)/\IsTs zad H' c (zcV ds l i++(if l i<d.a then[⟨d.p,d.q,(i:Int),1⟩] else[]))/\c.length<=2*i+1/\Same H H') ?_ ?_
  ·walk_at "x"
   ·rename_i y t1 H4 a8 e4 Y H5 b5 N;rw[yh]at y;refine⟨rfl,_,N,?_,by simp only[yb,y8];lia,b5.same (m.trans e4) j⟩;rw[if_pos y];exact IsTs.app (f:=zad) (x:=⟨d.p,d.q,(i:Int),1⟩) (b5.tup Y) ((t.same e4).but b5)
   ·rename_i y;rw[yh]at y;refine⟨rfl,_,L,?_,⋯,m⟩;rw[if_neg y,y3];exact t
  rintro g H5 ⟨rfl,c,N,o,a3,C⟩;have a0:H5 bd=some "0h":=by
   obtain⟨a6,q1,q2⟩:=(I.same C).getI u;rw[hx]at q1;cases q1;exact q2
  have a7:=C.at hb;rw[<- yaL]at es;walk_at "x"
  ·rename_i z t2 H6 a5 e6 O H7 X h7;rw[yh]at z;rw[if_pos z]at es;refine⟨_,_,_,rfl,h7,?_,by simp only[yb,y8];lia,X.same (C.trans e6) j⟩;rw[es];exact IsTs.app (f:=zad) (x:=⟨d.q,d.p,(i:Int),-1⟩) (X.tup O) ((o.same e6).but X)
  ·rename_i z;rw[yh]at z;rw[if_neg z,y3]at es;refine⟨_,_,_,rfl,N,?_,⋯,C⟩;rw[es];exact o
 ·rintro g H2 ⟨f3,Z,ys,rfl,R,B,S,D⟩;rw[J]at B;walk_at "x";exact k st H2 ys j D R B
def zl1(T:Txt K mg):T.d_way_back.Ok P w base 1 (zoh K):=by
 refine T.d_way_back.F.okN zc9 "0f" λW A outer s H vs Q E L h=>?_;obtain⟨t,n,b,last,τ,xs,rfl,S,hL,U,Y,hτ,k⟩:=h;refine⟨_,(zj (zC 2 zc9 (zam zh))
 (zj (zC 3 zc9 (pv 0))
 (zj (zb1 PassesOwn.never (zD zc0 (qIx K (pv 1) (pv 3)) zbc (nomark _))
 (zj (zaO (qAp K (pv 2) (za (qIx K (pv 1) (pv 3)) zh)))
 (zk (zC 3 zc9 (qIx K (qIx K (pv 1) (pv 3)) ze)))))
 (zk (zB (pv 2)))))),?_⟩
 refine zE (σ0:=[some (.int (t:Int)),some (.ref b),none,none]) rfl ?_;walk_at "x";rename_i j H1 l e1 D;refine⟨λM σ H'=>∃(h:Nat) (ys:List V) (es:List Internal.Due),σ=[some (.int (t:Int)),some (.ref b),some (.ref j),some (.int (h:Int))]/\h<n/\H' j=some (.lst ys)/\IsTs zad H' ys es/\Same H H'/\(∀rest s,Bkw last h rest s->Bkw last t (es++rest) s)/\es.length+τ h<=τ t/\M=τ h,⟨_,t,[],[],rfl,U,D,trivial,e1,λ_ _ r=>r,Nat.le_of_eq (Nat.zero_add _),rfl⟩,?_⟩;rintro M σ H2 ⟨h,ys,es,rfl,O,z,B,m,i,J,rfl⟩;have a0:=m.at S;obtain⟨u,v,d⟩:=(hL.keep m.tups).2 h O;have X:atI xs (h:Int)=some u:=zal v;have a1:=B.length;cases hon:last h with
 | none=>
  rw[hon]at d;have G:u=.non:=d;subst G;walk_at "x"
  ·exact absurd rfl (by assumption)
  ·refine k j H2 ys es h l m z B ?_
   have:=i [] h (Bkw.nil hon)
   rwa [y3]at this
 | some e=>
  rw[hon]at d;obtain⟨c,rfl,hc⟩:=d;obtain⟨p0,p1,p2⟩:=hτ h e O hon;have y:H2 c=some (.tup [.int e.p,.int e.q,.int e.r,.int e.a]):=hc;walk_at "x"
  ·refine⟨λI H'=>∃(h':Nat) (g:List V),I=[some (.int (t:Int)),some (.ref b),some (.ref j),some (.int (h':Int))]/\h'=e.p.toNat/\H' j=some (.lst g)/\IsTs zad H' g (es++[e])/\Same H H',?_,?_⟩
   ·rintro I H' ⟨h',g,rfl,rfl,h1,h2,o⟩;refine⟨τ e.p.toNat,p2,e.p.toNat,g,es++[e],rfl,⋯,h1,h2,o,λrest s L=>?_,?_,rfl⟩
    ·rw[yaL];exact i _ s (Bkw.cons hon L)
    ·rw[yb];simp only[y8];lia
   ·walk_at "x";rename_i R H3 x o;have N:=x.same m l;have Z:=N.at S;have C:H3 c=some (.tup [.int e.p,.int e.q,.int e.r,.int e.a]):=x.tup y;walk_at "x";exact⟨e.p.toNat,_,by rw[<- show e.p=((e.p.toNat:Nat):Int) by lia],rfl,o,IsTs.app (f:=zad) C (B.but x),N⟩
  ·rename_i R;cases R
def zj0(T:Txt K mg):T.d_heights_of.Ok P w base 2 (zru K):=by
 refine T.d_heights_of.F.okN sc_heights_of "0f" λa3 A outer s H vs Q E hr h=>?_;obtain⟨a,b,n,ds,l,rfl,hS,hb,hl,h9,hd,k⟩:=h;have hok:=zaT hd (l:=l);refine⟨_,(zj (zC 3 sc_heights_of (zo zL (zam (za ze zh)) (pv 0)))
 (zj (zC 4 sc_heights_of (qD T.d_steps_of (zgB (base:=base) T) hr (za (pv 1) (za (pv 2) zh))))
 (zj (zU PassesOwn.never rfl (zac rfl T.z_range (za (pv 0) zh)) (zG (i:=5) sc_heights_of.nd rfl "0j")
 (zk (zU PassesOwn.never rfl (zW K (pv 4)) (zG (i:=6) sc_heights_of.nd rfl "0j")
 (zk (za1 (zaA (zed rfl) rfl T.z_min BT.min (za (qIx K (pv 3) (qIx K (pv 6) ze)) (za (zo (zaS K) (qIx K (pv 3) (qIx K (pv 6) ze)) (qIx K (pv 6) ze)) zh))) (za6 (pv 3) (qIx K (pv 6) ze) zT))))))
 (zk (zB (pv 3)))))),?_⟩
 refine zE (σ0:=[some (.int (n:Int)),some (.ref a),some (.ref b),none,none,none,none]) rfl ?_;walk_at "x";rename_i l0 H0 a2 Z a4 d H1 B X j;have W:=Z.trans X;have G:=Same.none B Z;rw[yh]at j;walk_at "x";refine zi3 (hS.same W) (W.at hb) hl hd ?_;intro st H2 ys D e2 R hI;have f:=e2.at j;have U:=W.trans e2;walk_at "x";have y:∀{H':Hp},B2 d d H2 H'->H' st=some (.lst ys)/\IsTs zad H' ys (opn ds l):=λg=>⟨g _ _ (zb8 D j) (zb8 D j) R,hI.keep (g.tups f f)⟩
 refine zcE (λt u H'=>∃(N v:Option V),u=[some (.int (n:Int)),some (.ref a),some (.ref b),some (.ref d),some (.ref st),N,v]/\H' d=some (.lst ((vec n λm=>(zcR Due.a (opn ds l) (ini0 n) t m).getD 0).map V.int))/\B2 d d H2 H'/\Same H H') ?_ ?_ ?_
 ·refine⟨_,_,rfl,?_,B2.refl,U⟩;rw[f];congr 3;exact zaN λm Y=>by
   show(0:Int)=(ini0 n m).getD 0
   unfold ini0;rw[if_pos Y];rfl
 ·rintro t u H3 ht ⟨N,v,rfl,o,S,O⟩;have hA:=ziS (c:=Due.a) hok t;have a0:=(y S).1;walk_at "x";refine za4 (xs:=ys) (λi u H'=>∃(v:Option V) (F:Nat->Option Int),u=[some (.int (n:Int)),some (.ref a),some (.ref b),some (.ref d),some (.ref st),some (.int (t:Int)),v]/\F=zbv Due.a (zcR Due.a (opn ds l) (ini0 n) t) ((opn ds l).take i)/\ziD n F/\H' d=some (.lst ((vec n λm=>(F m).getD 0).map V.int))/\B2 d d H2 H'/\Same H H') ?_ ?_ ?_ ?_
  ·exact⟨v,_,by rw[show((0:Int)+(t:Int))=(t:Int) by lia];rfl,rfl,hA,o,S,O⟩
  ·rintro i u H' _ ⟨_,_,_,_,_,_,g,_⟩;exact SqL.of (y g).1
  ·rintro i x u H4 hx ⟨v,F,rfl,J,C,z,L,M⟩;obtain⟨c,e,rfl,I,hc⟩:=(y L).2.get hx;have a1:H4 c=some (.tup [.int e.p,.int e.q,.int e.r,.int e.a]):=hc;obtain⟨p0,p1,q0,q1⟩:=hok e (ya I);obtain⟨r1,r2⟩:=zi9 (c:=Due.a) C p0 p1 q0 q1;walk_at "x";rename_i H5 b5 h5;refine⟨_,relax Due.a F e,rfl,?_,r1,?_,L.lft b5,b5.same M G⟩
   ·rw[zH I,zgA,J]
   ·rw[h5];congr 3;refine zaN λm Y=>?_;rw[r2 m Y]
  ·rintro u H4 ⟨v,F,rfl,J,C,z,L,M⟩;rw[hI.length,yr]at J;refine⟨_,_,rfl,?_,L,M⟩;rw[J]at z;exact z
 ·rintro u H3 ⟨N,v,rfl,o,S,O⟩;rw[yh]at o;walk_at "x";exact k d H3 G O o
def zsz(T:Txt K mg):T.d_send.Ok P w base 1 (ztZ K):=by
 refine T.d_send.F.okN sc_send "0f" λar A outer s H vs Q E hr h=>?_;obtain⟨a,b,c,d,n,t,u,ds,es,l,w,ys,rfl,⟨xs,hS,hT⟩,hb,hc,L,ah,a6,hd,R,a7,ht,hs,a9,a3,a5,I,O,ao,aq,k⟩:=h;have a0:=R.length;have X:0<es.length:=ya0.mpr a7;obtain⟨M,G⟩:=zw X;obtain⟨e1,Y⟩:=zw (show es.length-1<es.length by lia);obtain⟨c0,ae,ab⟩:=R.getI G;obtain⟨c1,a2,aa⟩:=R.getI Y;have a4:=a3 M G;have ad:=a5 e1 Y;have al:H c0=some (.tup [.int M.p,.int (t:Int),.int M.r,.int M.a]):=by rw[<- a4];exact ab
 have ai:H c1=some (.tup [.int (u:Int),.int e1.q,.int e1.r,.int e1.a]):=by rw[<- ad];exact aa
 have ap:atI ys 0=some (.ref c0):=zav "0a" ae;have au:atI ys (-1)=some (.ref c1):=by
  unfold atI ixN;rw[if_neg "0a",if_pos ⋯,show(-1+(ys.length:Int)).toNat=es.length-1 by lia];exact a2
 have S:∀e∈es,0<=e.r/\e.r<ds.length:=λe he=>zvf (I e he);refine⟨_,(zj (zC 4 sc_send (qIx K (qIx K (pv 3) (zcI zb2 ze)) ze))
 (zj (zC 5 sc_send (qIx K (qIx K (pv 3) ze) ze))
 (zj (zC 6 sc_send (zaA (zed rfl) rfl T.z_min BT.min (za (qIx K (pv 2) (pv 5)) (za (zcI zb2 (qIx K (pv 2) (pv 4))) zh))))
 (zj (zU PassesOwn.never rfl (zW K (pv 3)) (zG (i:=7) sc_send.nd rfl "0j")
 (zk (zQ (zD zcQ (qIx K (pv 7) ze) ze (nomark _))
 (zk (zC 6 sc_send (zaA (zed rfl) rfl T.z_min BT.min (za (pv 6) (za (zo zb4 (qIx K (qIx K (pv 0) (qIx K (pv 7) ze)) ze) (qIx K (pv 1) (qIx K (pv 7) ze))) zh)))))
 (zk (zC 6 sc_send (zaA (zed rfl) rfl T.z_min BT.min (za (pv 6) (za (qIx K (pv 1) (qIx K (pv 7) ze)) zh))))))))
 (zj (zU PassesOwn.never rfl (zW K (pv 3)) (zG (i:=7) sc_send.nd rfl "0j")
 (zk (zb5 (pv 1) (qIx K (pv 7) ze) (show zdU _ (zcs K)from zbs) (zo zL (qIx K (pv 7) ze) (pv 6)) zdj zT)))
 (zj (zb5 (pv 2) (pv 4) (show zdU _ (zcs K)from zbs) (pv 6) zdj zT)
 (zk (zb5 (pv 2) (pv 5) (show zdU _ (zcs K)from zbs) (pv 6) zle zT)))))))),?_⟩
 refine zE (σ0:=[some (.ref a),some (.ref b),some (.ref c),some (.ref d),none,none,none,none]) rfl ?_;walk_at "x";refine za4 (xs:=ys) (λi v H'=>∃(r:Int) (D:Option V),v=[some (.ref a),some (.ref b),some (.ref c),some (.ref d),some (.int (u:Int)),some (.int (t:Int)),some (.int r),D]/\H=H'/\(∀e∈es.take i,r<=zci ds l e)/\r<=w t/\r<=-w u/\(r=w t\/r=-w u\/∃e∈es,r=zci ds l e)) ?_ ?_ ?_ ?_
 ·rw[yh,yh];refine⟨_,_,rfl,rfl,λ_ h=>(nomatch h),?_,?_,?_⟩
  ·split<;>lia
  ·split<;>lia
  ·split
   ·exact .inr (.inl rfl)
   ·exact .inl rfl
 ·rintro i v H' _ ⟨_,_,_,e,_⟩;exact e▸SqL.of hd
 ·rintro i x v H2 hx ⟨r,D,rfl,rfl,f,U,a1,B⟩;obtain⟨c2,e,rfl,o,C⟩:=R.get hx;have j:=ya o;have aj:H c2=some (.tup [.int e.p,.int e.q,.int e.r,.int e.a]):=C;obtain⟨r0,r1⟩:=S e j;obtain⟨dd,N⟩:=zw (show e.r.toNat<ds.length by lia);obtain⟨bb,ac,a8⟩:=hT.getI N;have ak:H bb=some (.tup [.int dd.p,.int dd.q,.int dd.r,.int dd.a]):=a8;have as:atI xs e.r=some (.ref bb):=zav r0 ac;have ag:=zbo N;have fin:∀y,y=zci ds l e->∃(r':Int) (D:Option V),[some (V.ref a),some (.ref b),some (.ref c),some (.ref d),some (.int (u:Int)),some (.int (t:Int)),some (.int (if y<r then y else r)),some (.ref c2)]=[some (.ref a),some (.ref b),some (.ref c),some (.ref d),some (.int (u:Int)),some (.int (t:Int)),some (.int r'),D]/\H=H/\(∀e∈es.take (i+1),r'<=zci ds l e)/\r'<=w t/\r'<=-w u/\(r'=w t\/r'=-w u\/∃e∈es,r'=zci ds l e):=λy hy=>by
   refine⟨_,_,rfl,rfl,λe' W=>?_,by split<;>lia,by split<;>lia,?_⟩
   ·rw[zH o]at W;rcases yH.mp W with h | h
    ·have:=f e' h;split<;>lia
    ·rw[ym.mp h,<- hy];split<;>lia
   ·split
    ·exact .inr (.inr ⟨e,j,hy⟩)
    ·exact B
  walk_at "x"
  ·rename_i ha;refine fin _ ?_;unfold zci;rw[if_pos ha,ag]
  ·rename_i ha;refine fin _ ?_;unfold zci;rw[if_neg ha]
 rintro v H2 ⟨r,D,rfl,rfl,f,U,a1,B⟩;rw[a0,yr]at f;have aw:1<=r:=by
  rcases B with h | h | ⟨e,he,h⟩
  ·lia
  ·lia
  ·rw[h];exact zmr (I e he)
 have an:r<=100000000000000:=ybZ (f M (ya G)) (O M (ya G));walk_at "x";refine za4 (xs:=ys) (λi v H'=>∃(D:Option V),v=[some (.ref a),some (.ref b),some (.ref c),some (.ref d),some (.int (u:Int)),some (.int (t:Int)),some (.int r),D]/\H' b=some (.lst ((vec ds.length (zcL l r (es.take i))).map V.int))/\B2 b c H H'/\H' c=some (.lst ((vec n w).map V.int))) ⟨_,rfl,hb,B2.refl,hc⟩ ?_ ?_ ?_
 ·rintro i v H' _ ⟨_,_,_,g,_⟩;exact SqL.of (g _ _ ah a6 hd)
 ·rintro i x v H2 hx ⟨D,rfl,J,g2,C⟩;obtain⟨c3,e,rfl,o,af⟩:=(R.keep (g2.tups hb hc)).get hx;have j:=ya o;have am:H2 c3=some (.tup [.int e.p,.int e.q,.int e.r,.int e.a]):=af;obtain⟨r0,r1⟩:=S e j;have av:=zf7 (I e j);walk_at "x";rename_i H3 Z h3;refine⟨_,rfl,?_,g2.lft Z,Z.lst C λz=>L z.symm⟩;rw[h3,zH o,znV];rfl
 ·rintro v H2 ⟨D,rfl,J,g2,C⟩;rw[a0,yr]at J;walk_at "x";rename_i H3 Z h3 H4 b4 h4;refine k H4 r ((g2.rgt Z).rgt b4) (b4.lst (Z.lst J L) L) ?_ f U a1 B;rw[h4];congr 3;refine zaN λm hm=>?_;unfold zrp;rw[yh,yh];by_cases h:m=t
  ·rw[if_pos h,if_pos h,if_neg λz=>a9 z.symm,h]
  ·rw[if_neg h,if_neg h];by_cases g:m=u
   ·rw[if_pos g,if_pos g,g]
   ·rw[if_neg g,if_neg g]
def zh8(T:Txt K mg):T.d_shortest_way.Ok P w base 2 (zsT K lP lQ):=by
 have tx:=TabX.ex (K:=K) (mg:=mg) (base:=base) (x := "shortest_way") T.cw_shortest_way T.tw_shortest_way T.tb_shortest_way;have eT:zhk K "shortest_way" = T.tw_shortest_way:=by unfold zhk;rw[T.tb_shortest_way]
 refine T.d_shortest_way.F.okC T.cc_shortest_way sc_shortest_way (λvs H Q E h=>?_) (λA outer s H vs Q E hr h=>?_)
 ·obtain⟨a,b,c,n,ds,l,w,p,rfl,_⟩:=h;rfl
 obtain⟨a,b,c,n,ds,l,d,p,rfl,hS,hb,hc,h9,hl,hd,X,hP,⟨m0,b3,bm⟩,hT,k⟩:=h;have hok:=zaT hd (l:=l);have I:((vec n d).map V.int).length=n:=by rw[ye,zO]
 refine⟨_,(zj (zC 4 sc_shortest_way (qC1 ["want"] [none] (zW K (pv 3)) (λ_ _ _ _ _=>(zdZ (zD zcp (pv 0) ze (nomark _)) ze zbc))))
 (zj (zC 5 sc_shortest_way (zo zL (zam (za zbc zh)) (pv 0)))
 (zj (zC 6 sc_shortest_way (qD T.d_steps_of (zgB (base:=base) T) hr (za (pv 1) (za (pv 2) zh))))
 (zj (zU PassesOwn.never rfl (zac rfl T.z_range (za (pv 0) zh)) (zG (i:=7) sc_shortest_way.nd rfl "0j")
 (zk (zU PassesOwn.never rfl (zW K (pv 6)) (zG (i:=8) sc_shortest_way.nd rfl "0j")
 (zk (zQ (zD zc0 (qIx K (pv 4) (qIx K (pv 8) ze)) zbc (nomark _))
 (zj (zC 9 sc_shortest_way (zo (zaS K) (zo (zaS K) (qIx K (pv 4) (qIx K (pv 8) ze)) (zo zL (qIx K (pv 8) ze) (zo (zaS K) (pv 0) ze))) ze))
 (zk (zQ (PW.pt (zdd (zD zkR (qIx K (pv 4) (qIx K (pv 8) ze)) zbc (nomark _)) (zer (zD zcp (pv 9) (qIx K (pv 4) (qIx K (pv 8) ze)) (nomark _)))))
 (zj (za1 (pv 9) (za6 (pv 4) (qIx K (pv 8) ze) zT))
 (zk (za1 (pv 8) (za6 (pv 5) (qIx K (pv 8) ze) zT))))
 zJ)))
 zJ)))))
 (zj (zeB (i:=10) sc_shortest_way.nd rfl rfl rfl (zac rfl T.z_range (za (pv 0) zh)) (za7 (Ni:=["member", "wanting", "far"]) (caps:=[none,some 3,some 4]) (by rfl)) (λS _ _ _ _ _=>(zbb (gi:=0) S "0j" rfl)) (λ_ _ _ _ _=>(zh7 (PW.pt (zet (zD zcQ (qIx K (pv 1) (pv 0)) ze (nomark _)) (zey (zD zc0 (qIx K (pv 2) (pv 0)) zbc (nomark _))))))) (λ_ _ _ _ _=>(pv 0)))
 (zk (zB (qD T.d_way_back (zl1 (base:=base) T) hr (za (show PE _ _ (tMK _ _ _ _ _ _)from zta (k:=0) (j:=4) (x := "member") (y := "far") (by rfl) T.z_min BT.min (za (pv 10) zh) rfl tx.1 tx.2 rfl rfl (hr.mono "0a") (λ_ _ _ _ _ _=>(qIx K (pv 1) (pv 0)))) (za (pv 5) zh)))))))))),?_⟩
 refine zE (σ0:=[some (.int (n:Int)),some (.ref a),some (.ref b),some (.ref c),none,none,none,none,none,none,none]) rfl ?_;walk_at "x";refine zM (z9 (K:=K) (a:=c) (xs:=(vec n d).map V.int)) (λH' e=>SqL.of (e.at hc)) rfl (λi vs _=>vs=oiL i (zaR n d)) (λH' _=>rfl) ?_ ?_
 ·rintro i x D vs o H2 H3 hi hD e2 hv a2 rfl e3 hx;rw[I]at hi;rw[yg,zae hi]at hx;cases hx;walk_at "x"
  ·rename_i a0 H4 b4 h4;refine⟨⟨_,rfl⟩,b4.same (e2.trans e3) hD,_,h4,by rw[yb];exact yn a2,?_⟩;dsimp only;rw[zly];unfold zaR;rw[if_pos ⟨hi,a0⟩];rfl
  ·rename_i a0 H4 b4 h4;refine⟨⟨_,rfl⟩,b4.same (e2.trans e3) hD,_,h4,by rw[yb];exact yn a2,?_⟩;dsimp only;rw[zly];unfold zaR;rw[if_neg λz=>a0 z.2];rfl
 rintro u H1 vs b5 e1 aj a2 rfl;rw[I]at aj;walk_at "x";rename_i l0 br c0 ak bv C H2 b0 ad ag;have am:Same H H2:=e1.trans (ak.trans ad);have ap:H1 C=none:=Same.none b0 ak;have av:H C=none:=Same.none ap e1;rw[yh]at ag;have af:H2 u=some (.lst (oiL n (zaR n d))):=(ak.trans ad).at aj;have al:u≠C:=λz=>by rw[<- z,aj]at ap;cases ap
 walk_at "x";refine zi3 (hS.same am) (am.at hb) hl hd ?_;intro st H3 ys a8 e3 b9 hI;have b1:=am.trans e3;have ac:=e3.at af;have a9:=e3.at ag;have bd:st≠u:=λz=>by rw[z,af]at a8;cases a8
 have bf:st≠C:=λz=>by rw[z,ag]at a8;cases a8
 have ai:∀{H':Hp},B2 u C H3 H'->H' st=some (.lst ys)/\IsTs zad H' ys (opn ds l):=λg=>⟨g _ _ bd bf b9,hI.keep (g.tups ac a9)⟩
 walk_at "x";refine zcE (λt σ' H'=>∃(f7 O L:Option V) (last:Nat->Option Internal.Due) (zs:List V),σ'=[some (.int (n:Int)),some (.ref a),some (.ref b),some (.ref c),some (.ref u),some (.ref C),some (.ref st),f7,O,L,none]/\H' u=some (.lst (oiL n (zcR (wgt n) (opn ds l) (zaR n d) t)))/\H' C=some (.lst zs)/\IsLs H' n last zs/\Lst n (opn ds l) (wgt n) (zaR n d) (zcR (wgt n) (opn ds l) (zaR n d) t) last/\B2 u C H3 H'/\Same H H') ?_ ?_ ?_
 ·exact⟨_,_,_,_,_,rfl,ac,a9,IsLs.start,Lst.start,B2.refl,b1⟩
 ·rintro t σ' H4 ht ⟨f7,O,L,last,zs,rfl,N,ah,an,L4,g4,e4⟩;have bp:=(ai g4).1;walk_at "x";refine za4 (xs:=ys) (λi σ' H'=>∃(O L:Option V) (last:Nat->Option Internal.Due) (zs:List V) (F:Nat->Option Int),σ'=[some (.int (n:Int)),some (.ref a),some (.ref b),some (.ref c),some (.ref u),some (.ref C),some (.ref st),some (.int (t:Int)),O,L,none]/\F=zbv (wgt n) (zcR (wgt n) (opn ds l) (zaR n d) t) ((opn ds l).take i)/\H' u=some (.lst (oiL n F))/\H' C=some (.lst zs)/\IsLs H' n last zs/\Lst n (opn ds l) (wgt n) (zaR n d) F last/\B2 u C H3 H'/\Same H H') ?_ ?_ ?_ ?_
  ·exact⟨O,L,last,zs,_,by rw[show((0:Int)+(t:Int))=(t:Int) by lia];rfl,rfl,N,ah,an,L4,g4,e4⟩
  ·rintro i σ' H' _ ⟨_,_,_,_,_,_,_,_,_,_,_,g,_⟩;exact SqL.of (ai g).1
  ·rintro i x σ' Z hx ⟨O,L,last,zs,F,rfl,hF,U,W,a1,L5,g5,Y⟩;obtain⟨cs,e,rfl,as,au⟩:=(ai g5).2.get hx;have a6:=ya as;have ab:Z cs=some (.tup [.int e.p,.int e.q,.int e.r,.int e.a]):=au;obtain⟨p0,p1,q0,q1⟩:=hok e a6;have bx:=zf7 a6;have ao:=ztY hd a6;have er:zbv (wgt n) (zcR (wgt n) (opn ds l) (zaR n d) t) ((opn ds l).take (i+1))=relax (wgt n) F e:=by rw[zH as,zgA,hF]
   have a7:atI (oiL n F) e.p=some (oiV (F e.p.toNat)):=zav p0 (zdw ⋯);have a5:atI (oiL n F) e.q=some (oiV (F e.q.toNat)):=zav q0 (zdw ⋯);have bq:zs.length=n:=a1.1;have c1:(oiL n F).length=n:=zeu;have same:relax (wgt n) F e=F->∀(L:Option V),∃(O f9':Option V) (last:Nat->Option Internal.Due) (zs:List V) (F:Nat->Option Int),[some (V.int (n:Int)),some (.ref a),some (.ref b),some (.ref c),some (.ref u),some (.ref C),some (.ref st),some (.int (t:Int)),some (.ref cs),L,none]=[some (.int (n:Int)),some (.ref a),some (.ref b),some (.ref c),some (.ref u),some (.ref C),some (.ref st),some (.int (t:Int)),O,f9',none]/\F=zbv (wgt n) (zcR (wgt n) (opn ds l) (zaR n d) t) ((opn ds l).take (i+1))/\Z u=some (.lst (oiL n F))/\Z C=some (.lst zs)/\IsLs Z n last zs/\Lst n (opn ds l) (wgt n) (zaR n d) F last/\B2 u C H3 Z/\Same H Z:=λh L=>⟨_,_,last,zs,F,rfl,by rw[er,h],U,W,a1,L5,g5,Y⟩
   have upd:∀y,F e.p.toNat=some y->(F e.q.toNat=none\/∃z,F e.q.toNat=some z/\y+wgt n e<z)->∀J G (L:Option V),LBut u Z J->J u=some (.lst ((oiL n F).set e.q.toNat (.int (y+e.a*((n:Int)+1)+1))))->LBut C J G->G C=some (.lst (zs.set e.q.toNat (.ref cs)))->∃(O f9':Option V) (last:Nat->Option Internal.Due) (zs:List V) (F:Nat->Option Int),[some (V.int (n:Int)),some (.ref a),some (.ref b),some (.ref c),some (.ref u),some (.ref C),some (.ref st),some (.int (t:Int)),some (.ref cs),L,none]=[some (.int (n:Int)),some (.ref a),some (.ref b),some (.ref c),some (.ref u),some (.ref C),some (.ref st),some (.int (t:Int)),O,f9',none]/\F=zbv (wgt n) (zcR (wgt n) (opn ds l) (zaR n d) t) ((opn ds l).take (i+1))/\G u=some (.lst (oiL n F))/\G C=some (.lst zs)/\IsLs G n last zs/\Lst n (opn ds l) (wgt n) (zaR n d) F last/\B2 u C H3 G/\Same H G:=λy hy hv J G L R h6 b7 h7=>by
    have a3:G cs=some (.tup (zad e)):=b7.tup (R.tup au);refine⟨_,_,_,_,relax (wgt n) F e,rfl,er.symm,?_,h7,(a1.keep λx xs h=>b7.tup (R.tup h)).set a3,L5.upd hok a6 ao hy hv,(g5.lft R).rgt b7,b7.same (R.same Y b5) av⟩;rw[b7.lst h6 al,zs6,zfR hy hv,show y+e.a*((n:Int)+1)+1=y+wgt n e by unfold wgt;lia]
   cases hp:F e.p.toNat with
   | none=>
    rw[hp]at a7;have aw:atI (oiL n F) e.p=some .non:=a7;walk_at "x"
    ·exact absurd rfl (by assumption)
    ·exact same (zlU hp) _
   | some y=>
    rw[hp]at a7;have aw:atI (oiL n F) e.p=some (.int y):=a7;cases hq:F e.q.toNat with
    | none=>
     rw[hq]at a5;have ar:atI (oiL n F) e.q=some .non:=a5;walk_at "x"
     ·refine zbA (j:=e.q.toNat) U (zbF q0 ⋯) ?_;intro J R h6;have a3:J cs=some (.tup [.int e.p,.int e.q,.int e.r,.int e.a]):=R.tup ab;have a4:=R.lst W (λz=>al z.symm);walk_at "x";refine zbA (j:=e.q.toNat) a4 (zbF q0 ⋯) ?_;intro G b7 h7;exact upd y hp (.inl hq) J G _ R h6 b7 h7
     ·exact absurd rfl (by assumption)
     ·rename_i hz;cases hz
    | some z=>
     rw[hq]at a5;have ar:atI (oiL n F) e.q=some (.int z):=a5;walk_at "x"
     all_goals first | (exfalso;rename_i hz;exact V.noConfusion hz) | skip
     ·rename_i bg;refine zbA (j:=e.q.toNat) U (zbF q0 ⋯) ?_;intro J R h6;have a3:J cs=some (.tup [.int e.p,.int e.q,.int e.r,.int e.a]):=R.tup ab;have a4:=R.lst W (λz=>al z.symm);walk_at "x";refine zbA (j:=e.q.toNat) a4 (zbF q0 ⋯) ?_;intro G b7 h7;exact upd y hp (.inr ⟨z,hq,by unfold wgt;lia⟩) J G _ R h6 b7 h7
     ·rename_i bg;exact same (zgt hp hq (by unfold wgt;lia)) _
  ·rintro σ' Z ⟨O,L,last,zs,F,rfl,hF,U,W,a1,L5,g5,Y⟩;rw[hI.length,yr]at hF;have bj:F=zcR (wgt n) (opn ds l) (zaR n d) (t+1):=hF;subst bj;exact⟨_,_,_,last,zs,rfl,U,W,a1,L5,g5,Y⟩
 ·rintro σ' H4 ⟨f7,O,L,last,zs,rfl,N,ah,an,L4,g4,e4⟩;rw[yh]at N L4;have bl:=zgh (n:=n) hP;have S:=(zfK (n:=n) (ini:=zaR n d) hok bl n).short hok (λv x h=>(zhL h).1) ⋯;obtain⟨t0,y0,be,ay,aa⟩:=X.reach hd hP S b3 bm;have ba:=e4.at hc;generalize hG:zcR (wgt n) (opn ds l) (zaR n d) n=F at N L4 S aa;walk_at "x";refine zM (zbg (lo:=0) (n:=n)) (λ_ _=>trivial) rfl (λj vs _=>vs=(zba ((List.range j).filter λm=>decide (0<d m)&&(F m).isSome)).map V.int) (λH' _=>rfl) ?_ ?_
  ·rintro j x D vs o2 J G hj hD e6 hv I rfl e7 rfl;have ej:(0:Int)+(j:Int)=j:=by lia
   rw[ej];have bc:atI (oiL n F) (j:Int)=some (oiV (F j)):=zav ⋯ (by rw[yh];exact zdw hj);have bz:=(e6.trans e7).at ba;have bw:=(e6.trans e7).at N;have es:(List.range (j+1)).filter (λm=>decide (0<d m)&&(F m).isSome)=(List.range j).filter (λm=>decide (0<d m)&&(F m).isSome)++(if 0<d j/\(F j).isSome=true then[j] else[]):=by
    rw[yy,yaP];congr 1;by_cases h:0<d j/\(F j).isSome=true
    ·rw[if_pos h];simp[h.1,h.2]
    ·rw[if_neg h,yaB (by simpa using h)];rfl
   walk_at "x"
   ·rename_i g1 g2 H8 b8 h8;rw[yh]at g1;have hs:(F j).isSome=true:=by
     cases h:F j with
     | none=>rw[h]at g2;exact absurd rfl g2
     | some _=>rfl
    rw[if_pos ⟨g1,hs⟩]at es;refine⟨⟨_,rfl⟩,b8.same (e6.trans e7) hD,_,h8,by rw[yb];exact yn I,?_⟩;dsimp only;rw[es,zhb,yk];rfl
   ·rename_i g1 g2;have hs:¬(F j).isSome=true:=by
     cases h:F j with
     | none=>simp
     | some _=>rw[h]at g2;cases g2
    rw[if_neg λz=>hs z.2,y3]at es;exact⟨⟨_,rfl⟩,e6.trans e7,_,e7.at hv,yaM I,by dsimp only;rw[es]⟩
   ·rename_i g1;rw[yh]at g1;rw[if_neg λz=>g1 z.1,y3]at es;exact⟨⟨_,rfl⟩,e6.trans e7,_,e7.at hv,yaM I,by dsimp only;rw[es]⟩
  rintro en Z vs bt Y bh I rfl;have ae:∀x:Int,x∈zba ("0e".filter λm=>decide (0<d m)&&(F m).isSome)->∃m:Nat,x=(m:Int)/\m<n/\0<d m/\∃y,F m=some y:=λx hx=>by
   obtain⟨m,hm,rfl⟩:=yX.mp hx;obtain⟨h1,h2⟩:=yaC.mp hm;rw[yal,decide_eq_true_iff]at h2;cases h:F m with
   | none=>rw[h]at h2;exact absurd h2.2 (by decide)
   | some y=>exact⟨m,rfl,yF.mp h1,h2.1,y,h⟩
  have ao:zba ("0e".filter λm=>decide (0<d m)&&(F m).isSome)≠[]:=λz=>by
   have:((t0:Nat):Int)∈zba ("0e".filter λm=>decide (0<d m)&&(F m).isSome):=yX.mpr ⟨t0,yaC.mpr ⟨yF.mpr be,by rw[aa,decide_eq_true ay];rfl⟩,rfl⟩
   rw[z]at this;cases this
  have b2:TbW K "shortest_way" lP lQ Z:=TbW.same Y (TbW.same e4 hT);have aq:Tb Z T.tw_shortest_way lP lQ:=by rw[<- eT];exact b2
  walk_at "x";refine ztM (zvx ?_);walk_at "x";refine zay ?_;refine⟨aq,en,_,.ref u,λx=>(F x.toNat).getD 0,rfl,bh,ao,rfl,λx hx J M=>?_,λx J hx bo M az=>?_⟩
  ·obtain⟨m,rfl,hm,ax,y,hy⟩:=ae x hx;have bu:J u=some (.lst (oiL n F)):=M.at (Y.at N);have bc:atI (oiL n F) (m:Int)=some (.int y):=zal (by rw[zdw hm,hy];rfl);walk_at "x";refine⟨?_,Same.refl _⟩;show V.int y=V.int ((F (m:Int).toNat).getD 0);rw[yh,hy];rfl
  ·obtain⟨m,rfl,hm,ax,y,hy⟩:=ae x hx;walk_at "x";refine zay ?_;have a4:J C=some (.lst zs):=M.at (Y.at ah);refine zqB (τ:=zeN n (phi n F p)) a4 (an.keep λz zs h=>M.tup (Y.at h)) hm (by have:=zqA (n:=n) (f:=phi n F p) (v:=m);lia) (λv e hv he=>?_) ?_
   ·obtain⟨h1,h2,_⟩:=L4.some v e hv he;obtain⟨p0,p1,q0,q1⟩:=hok e h1;exact⟨p0,p1,zlF ⋯ (zho hP L4 hv he)⟩
   ·intro r G bn es s' fr e7 bb bi B;exact k r G bn es m s' F last (Same.none (Same.none (M.none (Same.none fr (Same.refl _))) Y) e4) ((e4.trans Y).t.trans (M.trans e7.t)) (TbW.same e7 (by unfold TbW;rw[eT];exact az)) bb bi S L4 hm ax (by rw[hy];exact λz=>nomatch z) B
def zmz(T:Txt K mg):T.d_nets.Ok P w base 1 (zhP K):=by
 refine T.d_nets.F.okN sc_nets "0f" λC A outer s H vs Q E Y h=>?_;obtain⟨n,a,ds,rfl,⟨xs,D,B⟩,n0,O,hd,k⟩:=h;refine⟨_,(zj (zC 2 sc_nets (zo zL (zam (za ze zh)) (pv 0)))
 (zj (zU PassesOwn.never rfl (zW K (pv 1)) (show PG _ _ (zbB K 4 _)from za5 (n:=4) rfl (zI (zG (i:=3) sc_nets.nd rfl "0j") (zI (zG (i:=4) sc_nets.nd rfl "0j") (zI (zG (i:=5) sc_nets.nd rfl "0j") (zI (zG (i:=6) sc_nets.nd rfl "0j") zaL)))))
 (zj (zb5 (pv 2) (pv 3) (show zdU _ (zcs K)from zbs) (pv 6) zle zT)
 (zk (zb5 (pv 2) (pv 4) (show zdU _ (zcs K)from zbs) (pv 6) zdj zT))))
 (zk (zB (pv 2))))),?_⟩
 refine zE (σ0:=[some (.int n),some (.ref a),none,none,none,none,none]) rfl ?_;walk_at "x";rename_i l H2 S Z hl;refine za4 (xs:=xs) (λi g H'=>∃v o t y,g=[some (.int n),some (.ref a),some (.ref l),v,o,t,y]/\H' l=some (.lst ((vec n.toNat (zF (ds.take i))).map V.int))/\Same H H') ?_ ?_ ?_ ?_
 ·exact⟨_,_,_,_,rfl,hl,∅⟩
 ·rintro i g H' _ ⟨_,_,_,_,_,_,e⟩;exact e.seq D
 ·rintro i x g I G ⟨v,o,t,y,rfl,c,u⟩;obtain⟨b,d,rfl,f,M⟩:=(B.same u).get G;have J:I b=some "0h":=M;obtain⟨p0,X,q0,q1,pq,N,U,a0,a1⟩:=hd d (ya f);walk_at "x";rename_i R b5 W H6 b6 L;refine⟨_,_,_,_,rfl,?_,∅⟩;rw[L,zH f];congr 3;refine zaN λm hm=>?_;unfold zF;rw[za0,zaU];by_cases e:d.p=m
  ·have:¬d.q=m:=by lia
   rw[if_pos e,if_neg this,if_neg ⋯,if_pos ⋯];have j:d.p.toNat=m:=by lia
   rw[j];lia
  ·by_cases j:d.q=m
   ·rw[if_neg e,if_pos j,if_pos ⋯,if_neg ⋯];have z:d.q.toNat=m:=by lia
    rw[z];lia
   ·rw[if_neg e,if_neg j,if_neg ⋯,if_neg ⋯]
 ·rintro g H3 ⟨v,o,t,y,rfl,c,u⟩;rw[B.length,yr]at c;walk_at "x";exact k _ _ ∅ u c
def znw(T:Txt K mg):T.d_thinned.Ok P w base 3 (zua K lP lQ):=by
 refine T.d_thinned.F.okN ze1 "0f" λap A outer s H vs Q E hr h=>?_;obtain⟨a,n,ds,rfl,hS,n1,h9,hl,hd,hT,k⟩:=h;obtain⟨xs,ar,ad⟩:=id hS;have a4:=ad.length;have as:∀d∈ds,zm ((n:Nat):Int) d:=hd;refine⟨_,(zj (zC 2 ze1 (zo zL (zam (za ze zh)) (zbY K T.z_len (za (pv 1) zh))))
 (zj (zC 3 ze1 (qD T.d_nets (zmz (base:=base) T) hr (za (pv 0) (za (pv 1) zh))))
 (zj (zb1 PassesOwn.never (zcX K (zaA (show CallR _ _ (zmO K)from zn9 rfl) rfl T.z_any BT.any (za (qC1 ["want"] [none] (zW K (pv 3)) (λ_ _ _ _ _=>(zc3 zcQ (pv 0) ze (nomark _)))) zh)))
 (zk (zaO (qD T.d_send (zsz (base:=base) T) hr (za (pv 1) (za (pv 2) (za (pv 3) (za (qD T.d_shortest_way (zh8 (base:=base) T) hr (za (pv 0) (za (pv 1) (za (pv 2) (za (pv 3) zh))))) zh))))))))
 (zk (zB (zN (za (pv 2) (za (qD T.d_heights_of (zj0 (base:=base) T) hr (za (pv 0) (za (pv 1) (za (pv 2) zh)))) zh)))))))),?_⟩
 refine zE (σ0:=[some (.int (n:Int)),some (.ref a),none,none]) rfl ?_;walk_at "x";rename_i l0 H0 ao e0 aq b H1 a9 ak hb c H2 J O hc;have fb:H b=none:=Same.none a9 e0;have e1:Same H H1:=e0.trans ak;have fc:H c=none:=Same.none J e1;have an:b≠c:=λz=>by rw[z]at hb;rw[hb]at J;cases J
 rw[yh]at hc;rw[yh,a4]at hb;have aj:=O.at hb;have e2:=e1.trans O;refine zuZ ?_;refine⟨λmm σ H'=>∃(l w:Nat->Int),σ=[some (.int (n:Int)),some (.ref a),some (.ref b),some (.ref c)]/\H' b=some (.lst ((vec ds.length l).map V.int))/\H' c=some (.lst ((vec n w).map V.int))/\Thin n ds l w/\SameT H H'/\TbW K "shortest_way" lP lQ H'/\mm=zf4 n w,⟨_,_,_,rfl,aj,hc,Thin.start hd,e2.t,TbW.same e2 hT,rfl⟩,?_⟩;rintro mm σ H3 ⟨l,w,rfl,af,a1,X,s3,a7,rfl⟩;have a0:((vec n w).map V.int).length=n:=by rw[ye,zO]
 walk_at "x";refine zM (z9 (K:=K) (a:=c) (xs:=(vec n w).map V.int)) (λH' e=>SqL.of (e.at a1)) rfl (λi vs _=>vs=((List.range i).map λm=>decide (0<w m)).map V.bl) (λH' _=>rfl) ?_ ?_
 ·rintro i x D vs o H4 H5 hi hD M hv q rfl e5 hx;rw[a0]at hi;rw[yg,zae hi]at hx;cases hx;walk_at "x";rename_i H6 b6 h6;refine⟨⟨_,rfl⟩,b6.same (M.trans e5) hD,_,h6,by rw[yb];exact yn q,?_⟩;dsimp only;rw[yy,yk,yk];rfl
 rintro D H4 vs fD M hD q rfl;rw[a0]at hD;have f:=M.at af;have C:=M.at a1;have s4:=s3.trans M.t;have N:TbW K "shortest_way" lP lQ H4:=TbW.same M a7;have I:=s4.isSh hS;walk_at "x";refine zay (zts hD ?_);by_cases hz:∃m,m<n/\0<w m
 ·have ea:("0e".map λm=>decide (0<w m)).any id=true:=by
   obtain⟨m,hm,hw⟩:=hz;exact List.any_eq_true.mpr ⟨true,yX.mpr ⟨m,yF.mpr hm,decide_eq_true hw⟩,rfl⟩
  rw[ea];obtain⟨p,hP⟩:=X.pot;walk_at "x";refine⟨λσ' H'=>∃(l' W:Nat->Int),σ'=[some (.int (n:Int)),some (.ref a),some (.ref b),some (.ref c)]/\H' b=some (.lst ((vec ds.length l').map V.int))/\H' c=some (.lst ((vec n W).map V.int))/\Thin n ds l' W/\SameT H H'/\TbW K "shortest_way" lP lQ H'/\zf4 n W<zf4 n w,?_,?_⟩
  ·rintro σ' H' ⟨l',W,rfl,h1,h2,h3,h4,h5,h6⟩;exact⟨_,h6,l',W,rfl,h1,h2,h3,h4,h5,rfl⟩
  ·walk_at "x";refine zay ?_;refine⟨a,b,c,n,ds,l,w,p,rfl,I,f,C,h9,hl,hd,X,hP,hz,N,?_⟩;intro r H5 ys es t s' F last fr y ag a6 a8 S L j R ai B;obtain⟨ac,hs,ae,Y⟩:=Thin.way hd L B j R ai;obtain⟨_,a5,aa⟩:=B.ends (n:=n) (λv e hv hl=>by
    obtain⟨b1,b2,_⟩:=L.some v e hv hl
    have:=zaT hd e b1
    exact⟨b2,this.1,this.2.1⟩) j
   have al:r≠b:=λz=>by rw[z,f]at fr;cases fr
   have a2:r≠c:=λz=>by rw[z,C]at fr;cases fr
   have G:∀e∈es,e∈opn ds l:=λe Z=>((B.facts hd hP L j).1 e Z).1;have g:H5 b=some (.lst ((vec ds.length l).map V.int)):=y.at f;have U:H5 c=some (.lst ((vec n w).map V.int)):=y.at C;walk_at "x";refine zay ?_;refine⟨a,b,c,r,n,t,s',ds,es,l,w,ys,rfl,y.isSh I,g,U,an,al,a2,a6,a8,ac,j,hs,Y,a5,aa,G,λe Z=>X.res hd (G e Z),R,ae,?_⟩;intro H6 x g6 a3 am x1 x2 x3 x4;have ah:1<=x:=by
    rcases x4 with h | h | ⟨e,Z,h⟩
    ·lia
    ·lia
    ·rw[h];exact zmr (G e Z)
   walk_at "x";exact⟨_,_,rfl,a3,am,X.send hd hP S L j B ⋯ x1 Y,g6.sameT (s4.trans y) fb fc,g6.tb g U ag,zpo j ah x2 x3⟩
 ·have ea:("0e".map λm=>decide (0<w m)).any id=false:=by
   cases h:("0e".map λm=>decide (0<w m)).any id with
   | false=>rfl
   | true=>
    obtain⟨u,hu,ab⟩:=List.any_eq_true.mp h;obtain⟨m,hm,rfl⟩:=yX.mp hu;exact absurd ⟨m,yF.mp hm,of_decide_eq_true ab⟩ hz
  rw[ea];obtain⟨p,hP⟩:=X.pot;walk_at "x";refine zs1 I f hl h9 hd ?_;intro h H5 fh e5 hh;have g:=e5.at f;walk_at "x";refine zay ?_;refine zdI (by first | decide | simp) λtp H6 ft e6 j=>?_;have y:=s4.trans e5.t;exact k tp b h H6 l (znt n (opn ds l)) (y.none ft) fb (s4.none fh) (y.trans e6.t) (TbW.same e6 (TbW.same e5 N)) j (e6.at g) (e6.at hh) X.bd (X.done hd λm hm hw=>hz ⟨m,hm,hw⟩) (zsF hd hP)
def zhH(T:Txt K mg):T.d_sums_between.Ok P w base 1 (zfX K):=by
 refine T.d_sums_between.F.okN sc_sums_between "0f" λa6 A outer s H vs Q E hr h=>?_;obtain⟨n,a,r,ds,rfl,⟨xs,hS,hT⟩,n0,n1,hd,k⟩:=h;refine⟨_,(zj (qS1 3 sc_sums_between ["member", "many"] [none,some 0] (zac rfl T.z_range (za (pv 0) zh)) (λ_ _ _ _ _=>(zo zL (zam (za ze zh)) (pv 1))))
 (zj (zU PassesOwn.never rfl (zW K (pv 1)) (zG (i:=4) sc_sums_between.nd rfl "0j")
 (zk (zQ (zD (qEq K hr.units) (qIx K (pv 4) ze) (pv 2) (nomark _))
 (zk (zb5 (qIx K (pv 3) (qIx K (pv 4) ze)) (qIx K (pv 4) ze) (show zdU _ (zcs K)from zbs) (qIx K (pv 4) ze) zdj zT))
 zJ)))
 (zk (zB (pv 3))))),?_⟩
 refine zE (σ0:=[some (.int n),some (.ref a),some (.int r),none,none]) rfl ?_;walk_at "x";refine zM zbg (λ_ _=>trivial) rfl (λi vs H'=>∃as,vs=as.map V.ref/\as.length=i/\Rows H' as n.toNat (λ_ _=>0)/\∀b∈as,H b=none) (λH' _=>⟨[],rfl,rfl,⟨yaI,λi a h=>nomatch h⟩,λ_ h=>nomatch h⟩) ?_ ?_
 ·rintro i x D vs o H2 G hi hD Y hv C ⟨as,rfl,J,B,L⟩ g rfl;walk_at "x";rename_i p0 a3 a8 a4 a7 p H4 fp e4 hp H5 b5 h5;have Z:D∉as:=B.ne ⋯ hv;have S:Same G H4:=by walk_at "h"
  have y:G p=none:=by walk_at "h"
  have O:p≠D:=zb8 y (g.at hv);have X:H5 p=some (.lst ((vec n.toNat λ_=>0).map V.int)):=b5.lst hp O;refine⟨⟨_,rfl⟩,∅,_,h5,by rw[yb];exact yn C,as++[p],by rw[yk];rfl,by rw[yb,J];rfl,Rows.app ((B.same (g.trans S)).but b5 Z) ((B.same g).fresh y) X,λb R=>?_⟩;rcases yH.mp R with h | h
  ·exact L b h
  ·rw[ym.mp h];exact Same.none y (Y.trans g)
 ·rintro l H2 vs fl Y hl C ⟨as,rfl,J,B,L⟩;walk_at "x";have N:l∉as:=B.ne ⋯ hl;refine za4 (xs:=xs) (λi M H'=>∃f4:Option V,M=[some (.int n),some (.ref a),some (.int r),some (.ref l),f4]/\H' l=some (.lst (as.map V.ref))/\Rows H' as n.toNat (zau (ds.take i) r)/\Same H H') ?_ ?_ ?_ ?_
  ·exact⟨_,rfl,hl,B,Y⟩
  ·rintro i M H' _ ⟨_,_,_,_,e⟩;exact e.seq hS
  ·rintro i x M G hx ⟨f4,rfl,j,f,g⟩;obtain⟨b,d,rfl,u,R⟩:=(hT.same g).get hx;have a5:G b=some "0h":=R;obtain⟨p0,p1,q0,q1,pq,r0,r1,a0,a1⟩:=hd d (ya u);obtain⟨c,U⟩:=zw (show d.p.toNat<as.length by lia);have a2:=f.2 _ _ U;have I:=ya U;have W:l≠c:=λz=>N (z▸I);have fc:=L c I;walk_at "x"
   ·rename_i v H4 b4 h4;refine⟨_,rfl,b4.lst j W,(f.set b4 U h4).congr λm hm t ht=>?_,∅⟩;rw[zH u];exact zn6 p0 q0 v m t
   ·rename_i v;refine⟨_,rfl,j,f.congr λm hm t ht=>?_,g⟩;rw[zH u];exact zpG v m t
  ·rintro M G ⟨f4,rfl,j,f,g⟩;rw[hT.length,yr]at f;walk_at "x";exact k _ _ _ fl g j ⋯ f L
def zpb(T:Txt K mg):T.d_paired.Ok P w base 2 (zgW K):=by
 refine T.d_paired.F.okN sc_paired "0f" λaa A outer s H vs Q E hr h=>?_;obtain⟨n,a,ds,rfl,hS,n0,n1,hd,k⟩:=h;have R:n.toNat<=100:=by lia
 refine⟨_,(zj (zC 2 sc_paired (zam zh))
 (zj (zU PassesOwn.never rfl (zac rfl T.z_range (za ze zh)) (zG (i:=3) sc_paired.nd rfl "0j")
 (zj (zC 4 sc_paired (qD T.d_sums_between (zhH (base:=base) T) hr (za (pv 0) (za (pv 1) (za (pv 3) zh)))))
 (zk (zU PassesOwn.never rfl (zac rfl T.z_range (za (pv 0) zh)) (zG (i:=5) sc_paired.nd rfl "0j")
 (zk (zU PassesOwn.never rfl (zjb rfl T.z_range (za (zo (zaS K) (pv 5) ze) (za (pv 0) zh))) (zG (i:=6) sc_paired.nd rfl "0j")
 (zj (zC 7 sc_paired (zo zb4 (qIx K (qIx K (pv 4) (pv 5)) (pv 6)) (qIx K (qIx K (pv 4) (pv 6)) (pv 5))))
 (zk (zQ (zD zcQ (pv 7) ze (nomark _))
 (zk (zaO (qAp K (pv 2) (za (zN (za (pv 5) (za (pv 6) (za (pv 3) (za (pv 7) zh))))) zh))))
 (zk (zQ (zD zcp (pv 7) ze (nomark _))
 (zk (zaO (qAp K (pv 2) (za (zN (za (pv 6) (za (pv 5) (za (pv 3) (za (zcI zb2 (pv 7)) zh))))) zh))))
 zJ)))))))))))
 (zk (zB (pv 2))))),?_⟩
 refine zE (σ0:=[some (.int n),some (.ref a),none,none,none,none,none,none]) rfl ?_;walk_at "x";rename_i l H1 fl e1 hl;refine zcE (λi m H'=>∃(f3 f4 x v u:Option V) (vs:List V),m=[some (.int n),some (.ref a),some (.ref l),f3,f4,x,v,u]/\H' l=some (.lst vs)/\IsTs zad H' vs (zcN ds n.toNat i)/\Same H H') ⟨_,_,_,_,_,[],rfl,hl,trivial,e1⟩ ?_ ?_
 ·rintro i m H2 hi ⟨f3,f4,x,v,u,vs,rfl,o,N,e2⟩;have ab:i<3:=hi;have hL:=zhx (ds:=ds) R i;have ei:(0:Int)+(i:Int)=i:=by lia
  walk_at "x";rename_i G H3 as L e3 Y a9 hR hF;rw[ei]at hR;have a4:H G=none:=Same.none L e2;have J:l≠G:=λz=>by rw[z,L]at o;cases o
  have M:l∉as:=λz=>absurd (hF l z) (by rw[o];exact λz=>nomatch z);refine zcE (λj m H'=>∃(x v u:Option V) (vs:List V),m=[some (.int n),some (.ref a),some (.ref l),some (.int (i:Int)),some (.ref G),x,v,u]/\H' l=some (.lst vs)/\IsTs zad H' vs (zcN ds n.toNat i++zcm ds n.toNat i j)/\Same H H'/\H' G=some (.lst (as.map V.ref))/\Rows H' as n.toNat (zau ds i)) ⟨_,_,_,vs,by rw[ei];rfl,∅,by rw[show zcm ds n.toNat i 0=[]from rfl,y3];walk_at "h",∅,Y,hR⟩ ?_ ?_
  ·rintro j m H4 hj ⟨x,v,u,vs,rfl,B,C,X,I,S⟩;have a6:=ze7 (ds:=ds) (r:=i) R j;have ej:(0:Int)+(j:Int)=j:=by lia
   walk_at "x";refine zcE (λt m H'=>∃(v u:Option V) (vs:List V),m=[some (.int n),some (.ref a),some (.ref l),some (.int (i:Int)),some (.ref G),some (.int (j:Int)),v,u]/\H' l=some (.lst vs)/\IsTs zad H' vs (zcN ds n.toNat i++zcm ds n.toNat i j++zcH ds i j t)/\Same H H'/\H' G=some (.lst (as.map V.ref))/\Rows H' as n.toNat (zau ds i)) ⟨_,_,vs,by rw[ej];rfl,B,by rw[show zcH ds i j 0=[]from rfl,y3];exact C,X,I,S⟩ ?_ ?_
   ·rintro t m H5 ht ⟨v,u,vs,rfl,y,q,e5,p,g⟩;have a7:=zeY (ds:=ds) (r:=i) (i:=j) t;have Z:=q.length;rw[yb,yb]at Z;have a8:j+1+t<n.toNat:=by lia
    obtain⟨c,hc⟩:=zw (show j<as.length by lia);obtain⟨c2,U⟩:=zw (show j+1+t<as.length by lia);have a3:=g.2 _ _ hc;have a0:=g.2 _ _ U;have ec:(0:Int)+(j:Int)+1+(t:Int)=((j+1+t:Nat):Int):=by lia
    have W:((0:Int)+(j:Int)+1+(t:Int)).toNat=j+1+t:=by lia
    have a5:as[((0:Int)+(j:Int)+1+(t:Int)).toNat]?=some c2:=by rw[W];exact U
    have a2:vs.length<=90000:=by lia
    walk_at "x"
    ·rename_i b tp H6 a1 O e H7 D h7;rw[W,yh]at b e;rw[ec]at e;refine⟨_,_,vs++[.ref tp],rfl,h7,?_,∅,D.lst (O.at p) J.symm,(g.same O).but D M⟩;rw[zc7,zco,if_pos b,<- yaL];exact IsTs.app (f:=zad) (D.tup e) ∅
    ·rename_i b d tp H6 a1 O e H7 D h7;rw[W,yh]at b d e;rw[ec]at e;refine⟨_,_,vs++[.ref tp],rfl,h7,?_,∅,D.lst (O.at p) J.symm,(g.same O).but D M⟩;rw[zc7,zco,if_neg b,if_pos d,<- yaL];exact IsTs.app (f:=zad) (D.tup e) ∅
    ·rename_i b d;rw[W,yh]at b d;refine⟨_,_,vs,rfl,y,?_,e5,p,g⟩;rw[zc7,zco,if_neg b,if_neg d,y3];exact q
   ·rintro m H5 ⟨v,u,vs,rfl,y,q,e5,p,g⟩;walk_at "x";refine⟨_,_,_,vs,rfl,y,?_,e5,p,g⟩;rw[zgE,<- yaL];rw[show((n-((0:Int)+(j:Int)+1)).toNat)=n.toNat-(j+1) by lia]at q;exact q
  ·rintro m H4 ⟨x,v,u,vs,rfl,B,C,X,I,S⟩;walk_at "x";exact⟨_,_,_,_,_,vs,rfl,B,by rw[zgD];exact C,X⟩
 ·rintro m H2 ⟨f3,f4,x,v,u,vs,rfl,o,N,e2⟩;walk_at "x";exact k _ _ _ fl e2 o N
def zoC(T:Txt K mg):T.d_housed.Ok P w base 2 (zgR K):=by
 refine T.d_housed.F.okN sc_housed "0f" λL A outer s H vs Q E M h=>?_;obtain⟨n,a,ds,rfl,hS,n0,X,hd,k⟩:=h;refine⟨_,(zj (zC 2 sc_housed (zam zh))
 (zj (zU PassesOwn.never rfl (zbI K T.z_enumerate (za (qD T.d_nets (zmz (base:=base) T) M (za (pv 0) (za (pv 1) zh))) zh)) (show PG _ _ (zbB K 2 _)from za5 (n:=2) rfl (zI (zG (i:=3) sc_housed.nd rfl "0j") (zI (zG (i:=4) sc_housed.nd rfl "0j") zaL)))
 (zk (zQ (zD zcp (pv 4) ze (nomark _))
 (zk (zaO (qAp K (pv 2) (za (zN (za (pv 3) (za (pv 0) (za ze (za (zcI zb2 (pv 4)) zh))))) zh))))
 (zk (zQ (zD zcQ (pv 4) ze (nomark _))
 (zk (zaO (qAp K (pv 2) (za (zN (za (pv 0) (za (pv 3) (za ze (za (pv 4) zh))))) zh))))
 zJ)))))
 (zk (zB (pv 2))))),?_⟩
 refine zE (σ0:=[some (.int n),some (.ref a),none,none,none]) rfl ?_;walk_at "x";rename_i l H1 Z e1 hl p H2 fp e2 R;refine zcM (zaK (K:=K) (a:=p) (xs:=(vec n.toNat (zF ds)).map V.int)) (λi o H'=>∃vs C y,o=[some (.int n),some (.ref a),some (.ref l),C,y]/\H' l=some (.lst vs)/\IsTs zad H' vs (zbi n (zF ds) i)/\H' p=some (.lst ((vec n.toNat (zF ds)).map V.int))/\vs.length<=i/\Same H H') ?_ ?_ ?_ ?_
 ·exact⟨[],_,_,rfl,∅,trivial,R,yM _,∅⟩
 ·rintro i o H' ⟨vs,_,_,_,_,_,h,_⟩;exact SqL.of h
 ·rintro i x o O H4 hi ⟨vs,C,y,rfl,m,j,r,c,J⟩ W ⟨t,v,rfl,I,Y⟩;have D:i<n.toNat:=by simpa[zO]using hi
  rw[yg,zae D]at I;cases I;have ne:p≠l:=by walk_at "h"
  have g:zbi n (zF ds) (i+1)=zbi n (zF ds) i++zbd n i (zF ds i):=rfl;unfold zbd at g;walk_at "x"
  ·rename_i b q u N U z S B G;rw[if_pos b]at g;rw[g];have e:u q=some (.tup (zad ⟨i,n,0,-zF ds i⟩)):=z;exact⟨_,_,_,rfl,G,IsTs.app (f:=zad) (B.tup e) ∅,∅,by rw[yb];exact yn c,∅⟩
  ·rename_i b d q u N U z S B G;rw[if_neg b,if_pos d]at g;rw[g];have e:u q=some (.tup (zad ⟨n,i,0,zF ds i⟩)):=z;exact⟨_,_,_,rfl,G,IsTs.app (f:=zad) (B.tup e) ∅,∅,by rw[yb];exact yn c,∅⟩
  ·rename_i b d;rw[if_neg b,if_neg d,y3]at g;rw[g];exact⟨_,_,_,rfl,∅,∅,∅,⋯,∅⟩
 ·rintro o O ⟨vs,C,y,rfl,m,j,r,c,J⟩;rw[ye,zO]at j;walk_at "x";exact k _ _ _ ∅ J m j
def zjV(T:Txt K mg):T.d_dues_among.Ok P w base 1 (ziy K):=by
 refine T.d_dues_among.F.okN sc_dues_among "0f" λY A outer s H vs Q E hr h=>?_;obtain⟨a,b,ds,n,g,rfl,⟨xs,S,J⟩,R,hn,hl,hd,k⟩:=h;have C:=J.length;have I:(bls n g).length=n:=zme;refine⟨_,(zj (zC 2 sc_dues_among (zo zL (zam (za zbc zh)) (zbY K T.z_len (za (pv 1) zh))))
 (zj (zU PassesOwn.never rfl (zbI K T.z_enumerate (za (pv 0) zh)) (show PG _ _ (zbB K 2 _)from za5 (n:=2) rfl (zI (zG (i:=3) sc_dues_among.nd rfl "0j") (zI (zG (i:=4) sc_dues_among.nd rfl "0j") zaL)))
 (zk (zQ (PW.pt (zet (zD zcQ (qIx K (pv 4) ze) ze (nomark _)) (zet (zcX K (qIx K (pv 1) (qIx K (pv 4) ze))) (zey (zcX K (qIx K (pv 1) (qIx K (pv 4) ze)))))))
 (zk (za1 (pv 3) (za6 (pv 2) (qIx K (pv 4) ze) zT)))
 zJ)))
 (zk (zB (pv 2))))),?_⟩
 refine zE (σ0:=[some (.ref a),some (.ref b),none,none,none]) rfl ?_;walk_at "x";rename_i l0 H0 V e0 a3 l H1 fl e1 j;rw[yh,I]at j;refine zcM (zaK (K:=K) (a:=a) (xs:=xs)) (λi x H'=>∃G D,x=[some (.ref a),some (.ref b),some (.ref l),G,D]/\H' l=some (.lst (zaj n (zbj ds g i)))/\Same H H') ?_ ?_ ?_ ?_
 ·exact⟨_,_,rfl,j,∅⟩
 ·rintro i x H' ⟨_,_,_,_,e⟩;exact e.seq S
 ·rintro i y x H3 W hi ⟨G,D,rfl,f,u⟩ B ⟨t,v,rfl,O,ht⟩;obtain⟨c,d,rfl,o,hc⟩:=(J.same (u.trans B)).get O;have U:W c=some "0h":=hc;obtain⟨p0,p1,X,q1,pq,r0,r1,a0,a1⟩:=hd d (ya o);have L:atI (bls n g) d.p=some (.bl (g d.p.toNat)):=zav p0 (zir ⋯);have M:atI (bls n g) d.q=some (.bl (g d.q.toNat)):=zav X (zir ⋯);have a2:=(u.trans B).seq R;have es:∀m,zbj ds g (i+1) m=if useful g m d then some i else zbj ds g i m:=zpe o
  walk_at "x"
  ·rename_i h1 h2 N;refine zbA ∅ (show ixN (zaj n (zbj ds g i)).length d.p=some d.p.toNat by rw[zbk];exact zbF p0 ⋯) λH5 b5 Z=>?_;refine⟨_,_,rfl,?_,∅⟩;rw[Z];show some (HO.lst ((zaj n (zbj ds g i)).set d.p.toNat (zcj (some i))))=_;rw[zq7];congr 2;refine zhF λm hm=>?_;rw[es m];by_cases e:m=d.p.toNat
   ·rw[if_pos e,if_pos ⟨⋯,h1,h2,N⟩]
   ·rw[if_neg e,if_neg (λz=>e (by have:=z.1;lia))]
  all_goals
   refine⟨_,_,rfl,?_,∅⟩;rw[B.at f];congr 2;refine zhF λm hm=>?_;rw[es m,if_neg]
   rintro⟨z1,z2,z3,z4⟩
   simp_all
 ·rintro x H3 ⟨G,D,rfl,f,u⟩;rw[C]at f;walk_at "x";exact k _ _ ∅ u f
def ziO(T:Txt K mg):T.d_ways_onward.Ok P w base 2 (zkv K):=by
 refine T.d_ways_onward.F.okN sc_ways_onward "0f" λL A outer s H vs Q E O h=>?_;obtain⟨n,a,ds,rfl,hS,n0,n1,hl,hd,k⟩:=h;have U:∀d∈ds,zm (n.toNat:Int) d:=by rw[show(n.toNat:Int)=n by lia];exact hd
 refine⟨_,(zj (zC 2 sc_ways_onward (zo zL (zam (za zc8 zh)) (pv 0)))
 (zj (zC 3 sc_ways_onward (zo zL (zam (za zbc zh)) (pv 0)))
 (zj (zU PassesOwn.never rfl (zac rfl T.z_range (za (pv 0) zh)) (zG (i:=4) sc_ways_onward.nd rfl "0j")
 (zj (zC 3 sc_ways_onward (qD T.d_dues_among (zjV (base:=base) T) O (za (pv 1) (za (pv 2) zh))))
 (zk (qS1 2 sc_ways_onward ["number"] [none] (zW K (pv 3)) (λ_ _ _ _ _=>(zc3 zc0 (pv 0) zbc (nomark _)))))))
 (zk (zB (pv 3)))))),?_⟩
 refine zE (σ0:=[some (.int n),some (.ref a),none,none,none]) rfl ?_;walk_at "x";rename_i l0 H0 C e0 R go H1 X e1 Y l1 H2 M e2 N on H3 Z e3 q;refine zcE (λi l H'=>∃(g o:Addr) (m:Option V),l=[some (.int n),some (.ref a),some (.ref g),some (.ref o),m]/\H' g=some (.lst (bls n.toNat (goF ds i)))/\H' o=some (.lst (zaj n.toNat (zas ds i)))/\Same H H'/\H o=none) ?_ ?_ ?_
 ·exact⟨_,_,_,rfl,∅,q,∅,∅⟩
 ·rintro i l G hi ⟨g,o,m,rfl,B,v,r,t⟩;walk_at "x";rename_i p H5 fp e5 W;refine zM (z9 (K:=K) (a:=p) (xs:=zaj n.toNat (zas ds (i+1)))) (λH' e=>SqL.of (e.at W)) rfl (λj vs _=>vs=bls j (goF ds (i+1))) (λH' _=>rfl) ?_ ?_
  ·rintro j x D vs o2 I H7 y z S c b rfl e7 u;have f:j<n.toNat:=by rw[zbk]at y;exact y
   rw[za8 f]at u;cases u;walk_at "x";rename_i H8 b8 J;refine⟨⟨_,rfl⟩,∅,_,J,by rw[yb];exact yn b,?_⟩;show _=bls (j+1) _;rw[zrb,zld];congr 2;show V.bl (!(zas ds (i+1) j).isNone)=V.bl ((zas ds (i+1) j).isSome);cases zas ds (i+1) j<;>rfl
  ·rintro D I vs z S c b rfl;rw[zbk]at c;exact⟨_,_,_,rfl,c,∅,∅,∅⟩
 ·rintro l G ⟨g,o,m,rfl,B,v,r,t⟩;walk_at "x";exact k _ _ t r v
def zjt(T:Txt K mg):T.d_a_ring.Ok P w base 3 (zkV K):=by
 refine T.d_a_ring.F.okN sc_a_ring "0f" λaq A outer s H vs Q E hr h=>?_;obtain⟨n,a,ds,rfl,hS,n0,n1,hl,hd,k⟩:=h;have C:∀d∈ds,zm (n.toNat:Int) d:=by rw[show(n.toNat:Int)=n by lia];exact hd
 refine⟨_,(zj (zC 2 sc_a_ring (qD T.d_ways_onward (ziO (base:=base) T) hr (za (pv 0) (za (pv 1) zh))))
 (zj (zeB (i:=3) sc_a_ring.nd rfl rfl rfl (zac rfl T.z_range (za (pv 0) zh)) (za7 (Ni:=["member", "onward"]) (caps:=[none,some 2]) (by rfl)) (λS _ _ _ _ _=>(zbb (gi:=0) S "0j" rfl)) (λ_ _ _ _ _=>(zh7 (zD zc0 (qIx K (pv 1) (pv 0)) zbc (nomark _)))) (λ_ _ _ _ _=>(pv 0)))
 (zj (zQ (zD (qEq K hr.units) (pv 3) (zam zh) (nomark _))
 (zk (zB (zam zh)))
 zJ)
 (zj (zC 4 sc_a_ring (zam zh))
 (zj (zC 5 sc_a_ring (qIx K (pv 3) ze))
 (zj (zb1 PassesOwn.never (zD (show OpR _ (compareOp .NotIn) (rIn K true)from zfp) (pv 5) (pv 4) (by with_unfolding_all rfl))
 (zj (zaO (qAp K (pv 4) (za (pv 5) zh)))
 (zk (zC 5 sc_a_ring (qIx K (qIx K (pv 1) (qIx K (pv 2) (pv 5))) ze)))))
 (zk (zB (qC1 ["payer", "onward"] [none,some 2] (zW K (zd2 (show SlR _ (zfM K)from zgj) (pv 4) (zdA (show PE _ _ (tBM K _ _ _ _)from znH ybp PySem.F.slot_list_index PySem.F.type_list_index zqq (pv 4) (za (pv 5) zh))) zgk)) (λ_ _ _ _ _=>(qIx K (pv 1) (pv 0)))))))))))),?_⟩
 refine zE (σ0:=[some (.int n),some (.ref a),none,none,none,none]) rfl ?_;walk_at "x";rename_i L H1 au e1 a8;refine zM zbg (λ_ _=>trivial) rfl (λj vs _=>vs=(zba (goL ds n.toNat j)).map V.int) (λH' _=>rfl) ?_ ?_
 ·rintro j x D vs o2 H6 H7 hj hD e6 Y f rfl e7 rfl;have ej:(0:Int)+(j:Int)=j:=by lia
  have aj:atI (zaj n.toNat (zas ds n.toNat)) ((0:Int)+(j:Int))=some (zcj (zas ds n.toNat j)):=zav ⋯ (by rw[show((0:Int)+(j:Int)).toNat=j by lia,za8 hj]);have es:=zq4 (ds:=ds) (n:=n.toNat) (i:=j);walk_at "x"
  ·rename_i h H8 b8 h8;have I:(zas ds n.toNat j).isSome=true:=by
    cases e:zas ds n.toNat j with
    | none=>rw[e]at h;exact absurd rfl h
    | some _=>rfl
   rw[if_pos I]at es;rw[ej]at h8;refine⟨⟨_,rfl⟩,∅,_,h8,by rw[yb];exact yn f,?_⟩;show _=(zba (goL ds n.toNat (j+1))).map V.int;rw[es,zhb,yk];rfl
  ·rename_i h;have hn:¬(zas ds n.toNat j).isSome=true:=by
    cases e:zas ds n.toNat j with
    | none=>simp
    | some i=>rw[e]at h;cases h
   rw[if_neg hn,y3]at es;exact⟨⟨_,rfl⟩,∅,_,∅,⋯,by show _=(zba (goL ds n.toNat (j+1))).map V.int;rw[es]⟩
 rintro gl H2 vs ao e2 J f rfl;walk_at "x";rename_i l0 H3 ap O X;by_cases hg:goL ds n.toNat n.toNat=[]
 ·rw[hg]at J;refine zkO (ns:=[]) (ms:=[]) (SqL.of (O.at J)) (SqL.of X) rfl ?_;walk_at "x";rename_i l1 H4 as e4 a6;refine k _ _ [] ∅ ∅ a6 (.inl ⟨rfl,λm hm=>?_⟩);cases e:zas ds n.toNat m with
  | none=>rfl
  | some i=>
   have:=mem_goL.mpr ⟨hm,show(zas ds n.toNat m).isSome=true by rw[e];rfl⟩
   rw[hg]at this;cases this
 obtain⟨l,gs,eg⟩:∃l gs,goL ds n.toNat n.toNat=l :: gs:=by
  cases e:goL ds n.toNat n.toNat with
  | nil=>exact absurd e hg
  | cons x xs=>exact⟨x,xs,rfl⟩
 have aa:l<n.toNat/\zas ds n.toNat l≠none:=by
  have:=mem_goL.mp (show l∈goL ds n.toNat n.toNat by rw[eg];simp)
  exact⟨this.1,λz=>by rw[z]at this;cases this.2⟩
 refine zqE (SqL.of (O.at J)) (SqL.of X) (by rw[eg];exact λz=>nomatch z) ?_;have ae:atI ((zba (goL ds n.toNat n.toNat)).map V.int) 0=some (.int l):=zav "0a" (by rw[eg];rfl);walk_at "x";rename_i N H4 a9 e4 a3;obtain⟨xs,ar,a5⟩:=hS;refine⟨λm σ H'=>∃(ms:List Nat) (x:Nat),σ=[some (.int n),some (.ref a),some (.ref L),some (.ref gl),some (.ref N),some (.int (x:Int))]/\H' N=some (.lst ((zba ms).map V.int))/\Walked ds n.toNat ms x/\Same H3 H'/\m=n.toNat-ms.length,⟨_,[],l,rfl,a3,⟨yaI,(λ_ h=>nomatch h),aa,λi m h=>nomatch h⟩,e4,rfl⟩,?_⟩;rintro m σ H5 ⟨ms,x,rfl,al,hW,e5,rfl⟩;have ab:=zdD n.toNat ms hW.nd λy M=>(hW.ok y M).1;obtain⟨j,d,w1,w2,w3,w4,w5,w6,w7,w8⟩:=zgl C hW.at'.1 hW.at'.2;have ad:atI (zaj n.toNat (zas ds n.toNat)) (x:Int)=some (.int (j:Int)):=zal (by rw[za8 hW.at'.1,w1];rfl);have t:Same H H5:=e1.trans (e2.trans (O.trans e5));obtain⟨c,a1,a7⟩:=(a5.same t).getI w2;have an:H5 c=some "0h":=a7;have af:atI xs (j:Int)=some (.ref c):=zal a1;have ai:((zba ms).map V.int).length<=100000:=by rw[ye,zdV];lia
 have non:L≠N:=by walk_at "h"
 have R:H5 L=some (.lst (zaj n.toNat (zas ds n.toNat))):=e5.at (O.at (e2.at a8));have ag:H N=none:=Same.none a9 (e1.trans (e2.trans O));walk_at "x"
 ·rename_i h;have hx:x∉ms:=λz=>h (natI_mem.mpr z);have W2:=hW.step C hx;refine⟨λσ' H'=>∃(b:List Nat) (Z:Nat),σ'=[some (.int n),some (.ref a),some (.ref L),some (.ref gl),some (.ref N),some (.int (Z:Int))]/\H' N=some (.lst ((zba b).map V.int))/\Walked ds n.toNat b Z/\Same H3 H'/\ms.length<b.length,?_,?_⟩
  ·rintro σ' H' ⟨b,Z,rfl,h1,h2,h3,h4⟩
   have:=zdD n.toNat b h2.nd λy M=>(h2.ok y M).1
   exact⟨_,⋯,b,Z,rfl,h1,h2,h3,rfl⟩
  ·walk_at "x";rename_i H6 b6 h6;rw[zoi]at h6;refine⟨ms++[x],zcq ds n.toNat x,by rw[<- w5],by rw[zhb];exact h6,W2,∅,by rw[yb];exact yay _⟩
 ·rename_i h;have hx:x∈ms:=natI_mem.mp h;obtain⟨i,hi,ei⟩:=y6 hx;have v:ms[i]?=some x:=by rw[yl hi,ei]
  have a2:(zba ms).Nodup:=List.pairwise_map.mpr (List.Pairwise.imp (λa0 e=>a0 ⋯) hW.nd);refine zs2 ∅ (zg8 v) (zqi a2 (zg8 v)) (by rw[zdV];lia) ?_;walk_at "x";rename_i cl H6 am e6 W;rw[zql (by rw[zdV];lia)]at W;have U:H6 L=some (.lst (zaj n.toNat (zas ds n.toNat))):=e6.at R;refine zM (z9 (K:=K) (a:=cl) (xs:=((zba ms).drop i).map V.int)) (λH' e=>SqL.of (e.at W)) rfl (λu vs _=>vs=(((ms.drop i).take u).map (zbu ds n.toNat)).map V.int) (λH' _=>rfl) ?_ ?_
  ·rintro u y D vs o H7 H8 hu hD e7 Y f rfl e8 M;have a4:u<(ms.drop i).length:=by
    rw[ye,yao,zdV]at hu;rw[yao];exact hu
   have ak:(ms.drop i).length<=100000:=by rw[yao];lia
   obtain⟨G,g⟩:=zw a4;have B:=List.mem_of_mem_drop (ya g);obtain⟨j2,d2,v1,_,_,_,_,_,_,v8⟩:=zgl C (hW.ok G B).1 (hW.ok G B).2;have ey:y=.int (G:Int):=by
    have:(((zba ms).drop i).map V.int)[u]?=some (.int (G:Int)):=by
     rw[yg,ya4];rw[ya4]at g;rw[zg8 g];rfl
    rw[this]at M;exact(yt M).symm
   subst ey;have ac:atI (zaj n.toNat (zas ds n.toNat)) (G:Int)=some (.int (zbu ds n.toNat G)):=zal (by rw[za8 (hW.ok G B).1,v1,v8];rfl);have ah:H8 L=some (.lst (zaj n.toNat (zas ds n.toNat))):=e8.at (e7.at U);walk_at "x";rename_i H9 b9 h9;refine⟨⟨_,rfl⟩,∅,_,h9,by rw[yb];exact yn f,?_⟩;show _=(((ms.drop i).take (u+1)).map (zbu ds n.toNat)).map V.int;rw[zH g,yk,yk];rfl
  ·rintro D H7 vs hD e7 Y f rfl;rw[show(((zba ms).drop i).map V.int).length=(ms.drop i).length by rw[ye,yao,yao,zdV],yr]at Y;exact k _ _ _ (Same.none hD (t.trans e6)) (t.trans (e6.trans e7)) Y (hW.ring v)
def zjN(T:Txt K mg):T.d_amounts_of.Ok P w base 1 (zek K):=by
 refine T.d_amounts_of.F.okN zjY "0f" λv A outer s H vs Q E J h=>?_;obtain⟨a,ds,rfl,⟨xs,y,n⟩,h1,k⟩:=h;have f:=n.length;refine⟨_,(zk (zB (qC1 ["due"] [none] (zW K (pv 0)) (λ_ _ _ _ _=>(qIx K (pv 0) ze))))),?_⟩;refine zE (σ0:=[some (.ref a)]) rfl ?_;walk_at "x";refine zM (z9 (K:=K) (a:=a) (xs:=xs)) (λH' e=>e.seq y) rfl (λi vs _=>vs=((ds.take i).map Due.a).map V.int) (λH' _=>rfl) ?_ ?_
 ·rintro i x D vs o t B hi m j g c rfl u z;obtain⟨b,d,rfl,l,I⟩:=(n.same (j.trans u)).get z;have C:B b=some "0h":=I;walk_at "x";rename_i M L G;exact⟨⟨_,rfl⟩,∅,_,G,by rw[yb];exact yn c,by show _=((ds.take (i+1)).map Due.a).map V.int;rw[zH l,yk,yk];rfl⟩
 ·rintro D t vs m j g c rfl;rw[f,yr]at g;exact k D t m j g
def zcO(T:Txt K mg):T.d_with_amounts.Ok P w base 1 (zlt K):=by
 refine T.d_with_amounts.F.okN zhv (by walk_at "l") λM A outer s H vs Q E hr h=>?_;obtain⟨a,b,ds,ms,rfl,⟨xs,S,C⟩,hM,hl,h1,k⟩:=h;have l:=C.length;refine⟨_,(zk (zB (qC2 K ["number", "due", "amounts"] [none,none,some 1] (zbI K T.z_enumerate (za (pv 0) zh)) (λ_ _ _ _ _=>(zN (za (qIx K (pv 1) ze) (za (qIx K (pv 1) ze) (za (qIx K (pv 1) ze) (za (qIx K (pv 2) (pv 0)) zh))))))))),?_⟩;refine zE (σ0:=[some (.ref a),some (.ref b)]) rfl ?_;walk_at "x";refine zbL (zaK (K:=K) (a:=a) (xs:=xs)) (λH' e=>e.seq S) rfl (λi vs H'=>IsTs zad H' vs ((zy ds λi=>ms.getD i 0).take i)) (λH' _=>trivial) ?_ ?_
 ·rintro i x D vs o o' I Y hi B u G g j J ⟨t,v,rfl,X,Z⟩;obtain⟨c,d,rfl,z,U⟩:=(C.same (u.trans J)).get X;have W:Y c=some "0h":=U;have y:i<ms.length:=by lia
  have N:atI (ms.map V.int) (i:Int)=some (.int (ms.getD i 0)):=zmw ⋯ (by rw[yh];exact zc4 y);walk_at "x";rename_i t L ft e5 O H6 R h6;have n:L t=some (.tup (zad ⟨d.p,d.q,d.r,ms.getD i 0⟩)):=O;refine⟨⟨_,_,rfl⟩,∅,_,h6,by rw[yb];exact yn g,?_⟩;show IsTs zad H6 _ (List.take (i+1) _);rw[zb6 z];exact IsTs.app (f:=zad) (R.tup n) ∅
 ·rintro D I vs B u G g j;rw[l,<- zbf (m:=λi=>ms.getD i 0),yr]at j;exact k D I vs B u G j
def ztJ(T:Txt K mg):T.d_cut.Ok P w base 4 (zm5 K):=by
 refine T.d_cut.F.okN sc_cut "0f" λbm A outer s H vs Q E hr h=>?_;obtain⟨n,a,es,rfl,hS,n0,n1,hl,hd,k⟩:=h;have a9:∀d∈es,zm (n.toNat:Int) d:=by rw[show(n.toNat:Int)=n by lia];exact hd
 refine⟨_,(zj (zC 2 sc_cut (qD T.d_amounts_of (zjN (base:=base) T) hr (za (pv 1) zh)))
 (zj (zC 3 sc_cut (zam zh))
 (zj (zC 4 sc_cut (qD T.d_a_ring (zjt (base:=base) T) hr (za (pv 0) (za (pv 1) zh))))
 (zj (zb1 PassesOwn.never (zD (qNe K hr.units) (pv 4) (zam zh) (nomark _))
 (zj (zC 5 sc_cut (zaA (show CallR _ _ (zkd K)from zpB rfl) rfl T.z_min BT.min (za (qC1 ["number", "left"] [none,some 2] (zW K (pv 4)) (λ_ _ _ _ _=>(qIx K (pv 1) (pv 0)))) zh)))
 (zj (zU PassesOwn.never rfl (zW K (pv 4)) (zG (i:=6) sc_cut.nd rfl "0j")
 (zk (zb5 (pv 2) (pv 6) (show zdU _ (zcs K)from zbs) (pv 5) zle zT)))
 (zj (zaO (qAp K (pv 3) (za (zN (za (pv 4) (za (pv 5) zh))) zh)))
 (zk (zC 4 sc_cut (qD T.d_a_ring (zjt (base:=base) T) hr (za (pv 0) (za (qD T.d_with_amounts (zcO (base:=base) T) hr (za (pv 1) (za (pv 2) zh))) zh)))))))))
 (zk (zB (zN (za (pv 2) (za (pv 3) zh))))))))),?_⟩
 refine zE (σ0:=[some (.int n),some (.ref a),none,none,none,none,none]) rfl ?_;walk_at "x";rename_i l H1 fl e1 Z c H2 fc e2 bo r H3 rs fr e3 am hR;rw[zsl]at Z;have b1:H l=none:=fl;have aw:H c=none:=by walk_at "h"
 have ad:l≠c:=λz=>by rw[z]at Z;rw[Z]at fc;cases fc
 refine⟨λm σ H'=>zpE es n a l c H m σ H',⟨_,r,rs,[],λ_=>amF es,[],_,_,rfl,∅,∅,am,?_,⟨rfl,λt c h=>nomatch h⟩,(λt c h=>nomatch h),(λ_ _=>rfl),by rw[zk2];exact hR,by have:=zkZ es.length (amF es);simpa using this,∅,rfl⟩,?_⟩
 ·have n1:r≠l:=by walk_at "h"
  have n2:r≠c:=by walk_at "h"
  simp[n1,n2]
 rintro m σ H4 ⟨r,rs,vs,L,cs,f5,f6,rfl,a8,ak,B,a2,hI,hC,J,Y,ab,e4,rfl⟩;have u:=hC.ok a9 J (yc _);walk_at "x";rename_i z H5 fz N hz;rcases Y.cases with⟨rfl,hno⟩ | ⟨ms,R,ers⟩
 ·refine zhd (ns:=[]) (ms:=[]) (SqL.of (N.at B)) (SqL.of hz) rfl ?_;walk_at "x";refine zdI (by first | decide | simp) λp H6 fp S ao=>?_;walk_at "x";exact k p l c H6 vs L cs ∅ b1 aw ∅ ao ∅ ∅ (hI.same (N.trans S)) hC J Y ⋯
 subst ers;obtain⟨g,C⟩:∃g,L cs.length=g:=⟨_,rfl⟩
 rw[C]at u a8 Y ab R B;have b3:ms.map (zbu (zy es g) n.toNat)≠[]:=λz=>R.ne (ybE.mp z);refine zpS (SqL.of (N.at B)) (SqL.of hz) b3 ?_;have bg:=zdD n.toNat ms R.nd λy hy=>(R.ok y hy).1;have a5:∀i,i<es.length->0<=g i/\g i<=amF es i:=by rw[<- C];exact hC.bnd a9 J _ (yc _)
 walk_at "x";refine⟨λσ' H'=>∃q,q<zcf es.length (L cs.length)/\zpE es n a l c H q σ' H',λσ' H' ⟨q,h1,h2⟩=>⟨q,h1,h2⟩,?_⟩;walk_at "x";refine zM (z9 (K:=K) (a:=r) (xs:=(ms.map (zbu (zy es g) n.toNat)).map V.int)) (λH' e=>SqL.of (e.at (N.at B))) rfl (λi vs _=>vs=((ms.take i).map λm=>g (zaI (zy es g) n.toNat m)).map V.int) (λH' _=>rfl) ?_ ?_
 ·rintro i x D ar o H6 H7 hi hD S hv al rfl e7 hx;rw[ye,ye]at hi;obtain⟨m,G⟩:=zw hi;obtain⟨e,u1,u2,u3,u4,u5⟩:=R.num u (ya G);have hj:=(yj.mp u1).1;have ex:x=.int (zaI (zy es g) n.toNat m:Int):=by
   rw[yg,yg,G]at hx;rw[<- u5];exact(yt hx).symm
  subst ex;have j:H7 l=some (.lst ((vec es.length g).map V.int)):=by walk_at "h"
  walk_at "x";rename_i H8 b8 h8;refine⟨⟨_,rfl⟩,∅,_,h8,by rw[yb];exact yn al,?_⟩;show _=((ms.take (i+1)).map λm=>g (zaI (zy es g) n.toNat m)).map V.int;rw[zH G,yk,yk];rfl
 rintro ml H6 ar bb S az ba rfl;rw[ye,ye,yr]at az;have b7:(ms.map λm=>g (zaI (zy es g) n.toNat m))≠[]:=λz=>R.ne (ybE.mp z);walk_at "x";rename_i f ax ai;obtain⟨m0,ah,ef⟩:=yX.mp ax;have ay:∀m∈ms,f<=g (zaI (zy es g) n.toNat m):=λm G=>ai _ (yX.mpr ⟨m,G,rfl⟩);have b2:Same H H6:=by walk_at "h"
 refine za4 (xs:=(ms.map (zbu (zy es g) n.toNat)).map V.int) (λi σ' H'=>∃f6:Option V,σ'=[some (.int n),some (.ref a),some (.ref l),some (.ref c),some (.ref r),some (.int f),f6]/\H' l=some (.lst ((vec es.length (zcF g ((ms.take i).map (zaI (zy es g) n.toNat)) f)).map V.int))/\H' c=some (.lst vs)/\H' r=some (.lst ((ms.map (zbu (zy es g) n.toNat)).map V.int))/\IsCuts es n.toNat L [l,c] cs H' vs/\Same H H') ⟨_,rfl,?_,S.at (N.at ak),S.at (N.at B),hI.same (N.trans S),b2⟩ ?_ ?_ ?_
 ·have e0:vec es.length (zcF g ((ms.take 0).map (zaI (zy es g) n.toNat)) f)=vec es.length g:=zaN λi _=>zg6 (by simp);rw[e0];exact S.at (N.at a8)
 ·rintro i σ' H' _ ⟨_,_,_,_,h,_⟩;exact SqL.of h
 ·rintro i x σ' H7 hx ⟨b4,rfl,j,a3,W,U,e7⟩;have hi:i<ms.length:=by
   have:=(yj.mp hx).1
   rwa [ye,ye]at this
  obtain⟨m,G⟩:=zw hi;obtain⟨e,u1,u2,u3,u4,u5⟩:=R.num u (ya G);have hj:=(yj.mp u1).1;have ex:x=.int (zaI (zy es g) n.toNat m:Int):=by
   rw[yg,yg,G]at hx;rw[<- u5];exact(yt hx).symm
  subst ex;have O:=R.num_new u G;have b0:r≠l:=λz=>a2 (by simp[z]);walk_at "x";rename_i H8 b8 h8;refine⟨_,rfl,?_,b8.lst a3 ad.symm,b8.lst W b0,U.but b8 (by simp),∅⟩;rw[h8];congr 3;refine zaN λt ht=>?_;rw[zH G,yk];refine Eq.trans ?_ (zjL O t).symm;rw[yh,zg6 O]
 ·rintro σ' H7 ⟨b4,rfl,j,a3,W,U,e7⟩;rw[ye,ye,yr]at j;have bf:=hI.1;obtain⟨g',aa⟩:∃g',g'=zcF g (ms.map (zaI (zy es g) n.toNat)) f:=⟨_,rfl⟩
  rw[<- aa]at j;have CA:CutAt es n.toNat (L cs.length) ms f g':=by rw[C,aa];exact⟨R,ay,⟨m0,ah,ef.symm⟩,λ_=>rfl⟩
  have M:∀d∈zy es (L cs.length),zm (n.toNat:Int) d:=by rw[C];exact u
  have v:=CA.cnt M (λi hi=>by rw[C];exact(a5 i hi).1);have ae:∀i,i<es.length->0<=g' i/\g' i<=amF es i:=λi hi=>by
   have h1:=CA.bnd M (i:=i) (by rw[C];exact(a5 i hi).1);have h2:=a5 i hi;rw[C]at h1;lia
  walk_at "x";refine zdI (by first | decide | simp) λtp H8 bi e8 av=>?_;have bc:=e8.at a3;have b5:vs.length<=1000:=by lia
  walk_at "x";rename_i H9 b9 h9;have e9:Same H H9:=by walk_at "h"
  have ag:H9 l=some (.lst ((vec es.length g').map V.int)):=b9.lst (e8.at j) ad;have au:r≠c:=λz=>a2 (by simp[z]);have bh:∀d∈zy es (λi=>(vec es.length g').getD i 0),zm n d:=by
   rw[<- (zkx es g').2];refine ze6 hd λi hi=>?_;obtain⟨e,he⟩:=zw hi;obtain⟨_,_,_,_,_,_,_,a0,a1⟩:=hd e (ya he)
   have:=ae i hi
   rw[zbo he]at this;lia
  have be:(zy es (λi=>(vec es.length g').getD i 0)).length=es.length:=zbf;have b6:(vec es.length g').length=es.length:=zO;walk_at "x";rename_i ws bl ys bn a4 bj bd r2 ap aq ac an aj a7;rw[<- (zkx es g').2]at a7;obtain⟨L',X⟩:∃L':Nat->Nat->Int,L'=λt=>if t=cs.length+1 then g' else L t:=⟨_,rfl⟩
  have I:L' (cs++[(ms,f)]).length=g':=by rw[X,yb];exact if_pos rfl
  have a6:∀t,t<cs.length+1->L' t=L t:=by intro t ht;rw[X];exact if_neg ⋯
  have as:Cuts es n.toNat L' (cs++[(ms,f)]):=by rw[X];exact hC.snoc CA
  have b:=a4.trans an;have af:IsCuts es n.toNat L' [l,c] cs ap vs:=(((U.congr λt ht=>(a6 t ⋯).symm).same e8).but b9 (by simp)).same b;have n1:r2≠l:=λz=>by
   have:=a4.at ag
   rw[<- z,ac]at this;cases this
  have n2:r2≠c:=λz=>by
   have:=a4.at h9
   rw[<- z,ac]at this;cases this
  rw[C]at v;refine⟨zcf es.length g',by rw[C];exact v,r2,aq,vs++[.ref tp],L',cs++[(ms,f)],_,_,rfl,by rw[I];exact b.at ag,b.at h9,aj,by simp[n1,n2],af.snoc (b.at (b9.tup av)) ?_ a2,as,λi hi=>by rw[a6 0 ⋯];exact J i hi,by rw[I];exact a7,by rw[I,yb];show cs.length+1+_<=_;lia,e9.trans b,by rw[I]⟩;rw[a6 cs.length ⋯,C];exact b.at (b9.lst (e8.at W) au)
def zcd(T:Txt K mg):T.d_divisor.Ok P w base 1 zrx:=by
 refine T.d_divisor.F.okN zb9 "0f" λi A outer s H vs Q E l h=>?_;obtain⟨a,b,rfl,q⟩:=h;refine⟨_,(zj (zC 2 zb9 (zaA zfA rfl T.z_abs BT.abs (za (pv 0) zh)))
 (zj (zC 3 zb9 (zaA zfA rfl T.z_abs BT.abs (za (pv 1) zh)))
 (zj (zb1 PassesOwn.never (zD (qNe K l.units) (pv 3) ze (nomark _))
 (zj (zC 4 zb9 (zo zP (pv 2) (pv 3)))
 (zj (zC 2 zb9 (pv 3))
 (zk (zC 3 zb9 (pv 4))))))
 (zk (zB (pv 2)))))),?_⟩
 refine zE (σ0:=[some (.int a),some (.int b),none,none,none]) rfl ?_;walk_at "x";refine⟨λm σ H'=>∃k r f,σ=[some (.int a),some (.int b),some (.int k),some (.int r),f]/\H'=H/\0<=k/\0<=r/\My.gc k r=My.gc a b/\m=r.toNat,⟨_,_,_,_,rfl,rfl,zlr a,zlr b,My.gc_abs a b,rfl⟩,?_⟩;rintro m σ H' ⟨k,r,f,rfl,rfl,n,e,d,rfl⟩;walk_at "x"
 ·rename_i o;refine⟨λg c=>g=[some (.int a),some (.int b),some (.int r),some (.int (k%r)),some (.int (k%r))]/\c=H',?_,?_⟩
  ·rintro g c ⟨rfl,rfl⟩;have h1:=yak k (b:=r) ⋯;have h2:=yac k (b:=r) ⋯;exact⟨_,⋯,_,_,_,rfl,rfl,e,h1,by rw[My.gc_step];exact d,rfl⟩
  ·walk_at "x";exact⟨rfl,rfl⟩
 ·rename_i j;rw[j,My.gc_zero_right n]at d;rw[d];exact q
def zeI(T:Txt K mg):T.d_plus.Ok P w base 2 zkU:=by
 refine T.d_plus.F.okN zf6 "0f" λg A outer s H vs Q E f h=>?_;obtain⟨a,b,q,r,rfl,h1,h2,d,c,k⟩:=h;refine⟨_,(zj (zC 2 zf6 (qD T.d_divisor (zcd (base:=base) T) f (za (qIx K (pv 0) ze) (za (qIx K (pv 1) ze) zh))))
 (zj (zC 3 zf6 (zo (zaS K) (zo zL (qIx K (pv 0) ze) (zo zaG (qIx K (pv 1) ze) (pv 2))) (zo zL (qIx K (pv 1) ze) (zo zaG (qIx K (pv 0) ze) (pv 2)))))
 (zj (zC 4 zf6 (qD T.d_divisor (zcd (base:=base) T) f (za (pv 3) (za (pv 2) zh))))
 (zk (zB (zN (za (zo zaG (pv 3) (pv 4)) (za (zo zL (zo zaG (qIx K (pv 0) ze) (pv 2)) (zo zaG (qIx K (pv 1) ze) (pv 4))) zh)))))))),?_⟩
 refine zE (σ0:=[some (.ref a),some (.ref b),none,none,none]) rfl ?_;have e:0<My.gc "0k" (r.den:Int):=My.gc_pos_right (yax (zap r));have i:sz (My.gc "0k" (r.den:Int))<=9000:=yi (zbQ (yax (zap r)) c.2) "0a";have n:CMulS q.num ((r.den:Int)/My.gc "0k" (r.den:Int)):=CMulS.of d.1 (yi (zbO _ _) c.2) "0a";have j:CMulS r.num ("0k"/My.gc "0k" (r.den:Int)):=CMulS.of c.1 (yi (zbO _ _) d.2) "0a";have l:0<My.gc (q.num*((r.den:Int)/My.gc "0k" (r.den:Int))+r.num*("0k"/My.gc "0k" (r.den:Int))) (My.gc "0k" (r.den:Int)):=My.gc_pos_right (yax e);have o:sz (My.gc (q.num*((r.den:Int)/My.gc "0k" (r.den:Int))+r.num*("0k"/My.gc "0k" (r.den:Int))) (My.gc "0k" (r.den:Int)))<=9000:=zbQ (yax e) i;have m:CMulS ("0k"/My.gc "0k" (r.den:Int)) ((r.den:Int)/My.gc (q.num*((r.den:Int)/My.gc "0k" (r.den:Int))+r.num*("0k"/My.gc "0k" (r.den:Int))) (My.gc "0k" (r.den:Int))):=CMulS.of (yi (zbO _ _) d.2) (yi (zbO _ _) c.2) "0a";walk_at "x";exact NewQ.mk k (zmP q r)
def zeT(T:Txt K mg):T.d_minus.Ok P w base 3 ziL:=by
 refine T.d_minus.F.okN zqI "0f" λd A outer s H vs Q E e h=>?_;obtain⟨a,b,q,r,rfl,h1,h2,l,f,k⟩:=h;refine⟨_,(zk (zB (qD T.d_plus (zeI (base:=base) T) e (za (pv 0) (za (zN (za (zcI zb2 (qIx K (pv 1) ze)) (za (qIx K (pv 1) ze) zh))) zh))))),?_⟩;refine zE (σ0:=[some (.ref a),some (.ref b)]) rfl ?_;have j:OkQ (-r):=SzQ.neg f;walk_at "x";refine zan (q:=-r) (zlS r) ?_;walk_at "x";rename_i i H1 g c;rw[<- ybN]at c;exact k _ _ ∅ c
def zdW(T:Txt K mg):T.d_times.Ok P w base 2 zim:=by
 refine T.d_times.F.okN zdL "0f" λf A outer s H vs Q E e h=>?_;obtain⟨a,b,q,r,rfl,h1,h2,d,c,k⟩:=h;refine⟨_,(zj (zC 2 zdL (qD T.d_divisor (zcd (base:=base) T) e (za (qIx K (pv 0) ze) (za (qIx K (pv 1) ze) zh))))
 (zj (zC 3 zdL (qD T.d_divisor (zcd (base:=base) T) e (za (qIx K (pv 1) ze) (za (qIx K (pv 0) ze) zh))))
 (zj (zC 4 zdL (zo zL (zo zaG (qIx K (pv 0) ze) (pv 2)) (zo zaG (qIx K (pv 1) ze) (pv 3))))
 (zj (zC 5 zdL (zo zL (zo zaG (qIx K (pv 0) ze) (pv 3)) (zo zaG (qIx K (pv 1) ze) (pv 2))))
 (zk (zB (zN (za (pv 4) (za (pv 5) zh))))))))),?_⟩
 refine zE (σ0:=[some (.ref a),some (.ref b),none,none,none,none]) rfl ?_;have j:0<My.gc q.num (r.den:Int):=My.gc_pos_right (yax (zap r));have n:sz (My.gc q.num (r.den:Int))<=9000:=yi (zbQ (yax (zap r)) c.2) "0a";have i:0<My.gc r.num "0k":=My.gc_pos_right (yax (zap q));have m:sz (My.gc r.num "0k")<=9000:=yi (zbQ (yax (zap q)) d.2) "0a";have l:CMulS (q.num/My.gc q.num (r.den:Int)) (r.num/My.gc r.num "0k"):=CMulS.of (yi (zbO _ _) d.1) (yi (zbO _ _) c.1) "0a";have g:CMulS ("0k"/My.gc r.num "0k") ((r.den:Int)/My.gc q.num (r.den:Int)):=CMulS.of (yi (zbO _ _) d.2) (yi (zbO _ _) c.2) "0a";walk_at "x";exact NewQ.mk k (zlP q r)
def zmE(T:Txt K mg):T.d_over.Ok P w base 3 zit:=by
 refine T.d_over.F.okN zsV "0f" λf A outer s H vs Q E c h=>?_;obtain⟨a,b,q,r,rfl,h1,h2,j,g,e,k⟩:=h;refine⟨_,(zj (zQ (zD (qEq K c.units) (qIx K (pv 1) ze) ze (nomark _))
 (zk zhl)
 zJ)
 (zj (zQ (zD zcp (qIx K (pv 1) ze) ze (nomark _))
 (zk (zB (qD T.d_times (zdW (base:=base) T) c (za (pv 0) (za (zN (za (zcI zb2 (qIx K (pv 1) ze)) (za (zcI zb2 (qIx K (pv 1) ze)) zh))) zh)))))
 zJ)
 (zk (zB (qD T.d_times (zdW (base:=base) T) c (za (pv 0) (za (zN (za (qIx K (pv 1) ze) (za (qIx K (pv 1) ze) zh))) zh))))))),?_⟩
 refine zE (σ0:=[some (.ref a),some (.ref b)]) rfl ?_;rw[ybf]at k;have i:OkQ r⁻¹:=(g.inv e).mono "0a" "0a";walk_at "x"
 all_goals first | (exfalso;contradiction) | skip
 ·rename_i d;refine zan (q:=r⁻¹) (zsO d) ?_;walk_at "x";exact k _ _ ∅ ∅
 ·rename_i d;refine zan (q:=r⁻¹) (inv_pos ⋯) ?_;walk_at "x";exact k _ _ ∅ ∅
def zks(T:Txt K mg):T.d_under.Ok P w base 1 (ziv 60000):=by
 refine T.d_under.F.okN zqd "0f" λf A outer s H vs Q E g h=>?_;obtain⟨a,b,q,r,rfl,h1,h2,d,c,k⟩:=h;refine⟨_,(zk (zB (zc3 zcp (zo zL (qIx K (pv 0) ze) (qIx K (pv 1) ze)) (zo zL (qIx K (pv 1) ze) (qIx K (pv 0) ze)) (nomark _)))),?_⟩;refine zE (σ0:=[some (.ref a),some (.ref b)]) rfl ?_;have e:decide (q<r)=decide (q.num*(r.den:Int)<r.num*"0k"):=decide_eq_decide.mpr (Rat.lt_iff q r);rw[e]at k;walk_at "x";refine znL (CMulS.of d.1 c.2 "0a") ?_;walk_at "x";refine znL (CMulS.of c.1 d.2 "0a") ?_;walk_at "x";exact k
def zgM(T:Txt K mg):T.d_least.Ok P w base 2 (zgm 60000):=by
 refine T.d_least.F.okN zqm "0f" λc A outer s H vs Q E d h=>?_;obtain⟨a,b,q,r,rfl,h1,h2,f,e,k⟩:=h;refine⟨_,(zj (zQ (zcX K (qD T.d_under (zks (base:=base) T) d (za (pv 1) (za (pv 0) zh))))
 (zk (zB (pv 1)))
 zJ)
 (zk (zB (pv 0)))),?_⟩
 refine zE (σ0:=[some (.ref a),some (.ref b)]) rfl ?_;walk_at "x"
 ·rename_i h;rw[if_pos h]at k;exact k
 ·rename_i h;rw[if_neg h]at k;exact k
def zsG(T:Txt K mg):T.d_part.Ok P w base 2 zlk:=by
 refine T.d_part.F.okN zil "0f" λf A outer s H vs Q E e h=>?_;obtain⟨t,b,rfl,a,i,k⟩:=h;refine⟨_,(zj (zQ (zD (qEq K e.units) (pv 1) ze (nomark _))
 (zk zhl)
 zJ)
 (zj (zC 2 zil (qD T.d_divisor (zcd (base:=base) T) e (za (pv 0) (za (pv 1) zh))))
 (zca (zQ (zD zcp (pv 1) ze (nomark _))
 (zk (zC 2 zil (zcI zb2 (pv 2))))
 zJ)
 (zk (zB (zN (za (zo zaG (pv 0) (pv 2)) (za (zo zaG (pv 1) (pv 2)) zh)))))))),?_⟩
 refine zE (σ0:=[some (.int t),some (.int b),none]) rfl ?_;walk_at "x"
 ·have d:=a;have j:0<My.gc t b:=My.gc_pos_right d;have g:sz (My.gc t b)<=9000:=yi (zbQ d i) "0a";refine zeq 2 (λv H'=>H'=H/\((b<0/\v=.int (-My.gc t b))\/(0<b/\v=.int (My.gc t b)))) ?_ ?_
  ·walk_at "x"
   ·rename_i h2;exact⟨_,rfl,rfl,.inl ⟨h2,rfl⟩⟩
   ·rename_i h2;exact⟨_,rfl,rfl,.inr ⟨⋯,rfl⟩⟩
  rintro v H' ⟨rfl,h2⟩;rcases h2 with⟨hn,rfl⟩ | ⟨hp,rfl⟩
  ·have c:sz (-My.gc t b)<=9000:=yi (zfG _) g;walk_at "x";refine zky ⋯ c ?_;walk_at "x";refine zky ⋯ c ?_;walk_at "x";exact NewQ.mk k (My.part_neg hn)
  ·walk_at "x";exact NewQ.mk k (My.part_pos hp)
def zlo(T:Txt K mg):T.d_whole_row.Ok P w base 2 (zhN K sZ sB):=by
 refine T.d_whole_row.F.okN sc_whole_row "0f" λa0 A outer s H vs Q E m h=>?_;obtain⟨a,ws,qs,rfl,ha,hq,hl,hz,h1,h2,h3,k⟩:=h;have l:=hq.length;have y:∀i:Nat,i<=20->i*sB<=8000:=λi hi=>yi (Nat.mul_le_mul_right _ hi) h1;refine⟨_,(zj (zC 1 sc_whole_row ze)
 (zj (zU PassesOwn.never rfl (zW K (pv 0)) (show PG _ _ (zbB K 2 _)from za5 (n:=2) rfl (zI (zG (i:=2) sc_whole_row.nd rfl "0j") (zI (zG (i:=3) sc_whole_row.nd rfl "0j") zaL)))
 (zk (zC 1 sc_whole_row (zo zL (zo zaG (pv 1) (qD T.d_divisor (zcd (base:=base) T) m (za (pv 1) (za (pv 3) zh)))) (pv 3)))))
 (zk (zB (qC2 K ["top", "bottom", "common"] [none,none,some 1] (zW K (pv 0)) (λ_ _ _ _ _=>(zo zL (pv 0) (zo zaG (pv 2) (pv 1))))))))),?_⟩
 refine zE (σ0:=[some (.ref a),none,none,none]) rfl ?_;walk_at "x";refine za4 (xs:=ws) (λi C H'=>∃(c:Int) (v I:Option V),C=[some (.ref a),some (.int c),v,I]/\0<c/\c<=((2 ^ (i*sB):Nat):Int)/\(∀j q,j<i->qs[j]?=some q->"0k"∣c)/\H'=H) ⟨1,_,_,rfl,by decide,by rw[Nat.zero_mul];decide,λj q g _=>by lia,rfl⟩ ?_ ?_ ?_
 ·rintro i C H' _ ⟨c,v,I,rfl,_,_,_,rfl⟩;exact SqL.of ha
 ·rintro i x C H' M ⟨c,v,I,rfl,X,N,G,rfl⟩;obtain⟨b,q,rfl,f,U⟩:=hq.get M;have R:H' b=some (.tup [.int q.num,.int "0k"]):=U;have hi:i<qs.length:=(yj.mp f).1;have d:=hz q (ya f);have t:=zap q;have ls:=zqy X t;have hg:0<My.gc c "0k":=My.gc_pos_right ⋯;have S:sz "0k"<=8999:=yi d.2 (by have:=y 1 ⋯;lia);have zg:sz (My.gc c "0k")<=9000:=yi (zbQ ⋯ S) "0a";have Z:sz c<=8001:=zaJ (by
   have hp:2 ^ (i*sB)<=2 ^ 8000:=yaT "0a" (y i ⋯);have h2:(2:Nat) ^ 8001=2 ^ 8000*2:=ybx ..;have h0:0<(2:Nat) ^ 8000:=ybh _;rw[h2];generalize (2:Nat) ^ 8000=B at *
   lia)
  have m1:CMulS (c/My.gc c "0k") "0k":=CMulS.of (yi (zbO _ _) Z) S "0a";walk_at "x";refine⟨_,_,_,rfl,ls.1,?_,?_,rfl⟩
  ·have hd:"0k"<=((2 ^ sB:Nat):Int):=by
    have:=sz_le.mp d.2
    lia
   have h5:c*"0k"<=((2 ^ (i*sB):Nat):Int)*((2 ^ sB:Nat):Int):=Int.mul_le_mul N hd ⋯ (by exact_mod_cast yM _);rw[Nat.succ_mul,ya5]
   push_cast at h5 ⊢
   exact ybZ ls.2.2.2 h5
  ·intro j r g m;rcases yP (yY g)with h | h
   ·exact Int.dvd_trans (G j r h m) ls.2.1
   ·subst h;rw[f]at m;cases m;exact ls.2.2.1
 ·rintro C H' ⟨c,v,I,rfl,X,N,G,rfl⟩;rw[l]at N G;obtain⟨F,hF⟩:∃F:Nat->Int,F=λj=>(qs.getD j 0).num*(c/((qs.getD j 0).den:Int)):=⟨_,rfl⟩
  have Z:sz c<=8001:=zaJ (by
   have hp:2 ^ (qs.length*sB)<=2 ^ 8000:=yaT "0a" (y _ hl);have h2:(2:Nat) ^ 8001=2 ^ 8000*2:=ybx ..;have h0:0<(2:Nat) ^ 8000:=ybh _;rw[h2];generalize (2:Nat) ^ 8000=B at *
   lia)
  walk_at "x";refine zbL (z9 (K:=K) (a:=a) (xs:=ws)) (λH2 e=>SqL.of (e.at ha)) rfl (λi vs H2=>vs=(vec i F).map V.int) (λH2 _=>rfl) ?_ ?_
  ·rintro i x D vs o o' H1 H2 hi hD e1 J p rfl L M;obtain⟨b,q,rfl,f,U⟩:=(hq.same (e1.trans L)).get M;have R:H2 b=some (.tup [.int q.num,.int "0k"]):=U;have d:=hz q (ya f);have t:=zap q;have S:sz "0k"<=9000:=yi d.2 (by have:=y 1 ⋯;lia);have m1:CMulS q.num (c/"0k"):=CMulS.of d.1 (yi (zbO _ _) Z) ⋯;walk_at "x";rename_i H3 b3 Y;refine⟨⟨_,_,rfl⟩,∅,_,Y,by rw[yb];exact yn p,?_⟩
   show(vec i F).map V.int++_=(vec (i+1) F).map V.int
   rw[zdY,yk,hF]
   have:qs.getD i 0=q:=by rw[yf,f];rfl
   dsimp only;rw[this];rfl
  ·rintro D H2 vs hD e J p rfl;refine k D H2 F c hD e X (λj q g=>?_) (by rw[l]at J;exact J);have W:j<qs.length:=(yj.mp g).1;have d:=hz q (ya g)
   have:qs.getD j 0=q:=by rw[yf,g];rfl
   have t:=zap q;rw[hF];dsimp only;rw[this];obtain⟨u,hu⟩:=G j q W g;have ed:c/"0k"=u:=by rw[hu];exact yae _ ⋯
   have u0:0<u:=by
    rcases ybm 0 u with h | h
    ·exact h
    ·have:=yaq (yaN t) h;lia
   have uc:u<=c:=by
    have h1:1*u<="0k"*u:=yav ⋯ ⋯;lia
   rw[ed];refine⟨?_,?_⟩
   ·rw[hu,yK,yK];have e1:((q.num:Int):Rat)/(((q.den:Nat):Int):Rat)=q:=by rw[<- yaR];exact ybl q
    have O:(((q.den:Nat):Int):Rat)≠0:=λz=>by
     have:((q.den:Nat):Int)=0:=by exact_mod_cast z
     lia
    have L:((q.num:Int):Rat)=q*(((q.den:Nat):Int):Rat):=by
     have:=ybL (a:=((q.num:Int):Rat)) O
     rw[e1]at this;exact this.symm
    rw[L];grind
   ·refine zaJ ?_;rw[ybF,ya5];have a1:=sz_le.mp d.1;have a2:u.natAbs<=2 ^ (qs.length*sB):=by lia
    exact yad (yaZ _ a2) (Nat.mul_lt_mul_of_pos_right a1 (ybh _))
def zjT(T:Txt K mg):T.d_with_first.Ok P w base 1 (zf0 K):=by
 refine T.d_with_first.F.okN sc_with_first (by walk_at "l") λO A outer s H vs Q E R h=>?_;obtain⟨a,as,w,M,k,rfl,ha,B,n,k1,k2,hl,⟨iN,q,Y,u⟩,Z⟩:=h;have f:(as.map V.ref).length=as.length:=ye ..;obtain⟨b1,d⟩:=zw (show k.toNat<as.length by lia);have L:atI (as.map V.ref) k=some (.ref b1):=zav n (by rw[yg,d];rfl);refine⟨_,(zj (zU PassesOwn.never rfl (zjb rfl T.z_range (za (pv 1) (za (zbY K T.z_len (za (pv 0) zh)) zh))) (zG (i:=2) sc_with_first.nd rfl "0j")
 (zk (zQ (zD (qNe K R.units) (qIx K (qIx K (pv 0) (pv 2)) (pv 1)) ze (nomark _))
 (zj (zC 3 sc_with_first (zdr K T.z_list (za (pv 0) zh)))
 (zj (za1 (qIx K (pv 0) (pv 2)) (za6 (pv 3) (pv 1) zT))
 (zj (za1 (qIx K (pv 0) (pv 1)) (za6 (pv 3) (pv 2) zT))
 (zk (zB (pv 3))))))
 zJ)))
 (zk zhl)),?_⟩
 refine zE (σ0:=[some (.ref a),some (.int k),none,none]) rfl ?_;walk_at "x";refine zcE (λi o H'=>∃y r:Option V,o=[some (.ref a),some (.int k),y,r]/\(∀j,k.toNat<=j->j<k.toNat+i->M j k.toNat=0)/\H'=H) ⟨_,_,rfl,λj h1 h2=>by lia,rfl⟩ ?_ ?_
 ·rintro i o H' hi ⟨y,r,rfl,m,rfl⟩;rw[f]at hi;have D:(k+(i:Int)).toNat=k.toNat+i:=by lia
  obtain⟨b2,b⟩:=zw (show k.toNat+i<as.length by lia);have C:atI (as.map V.ref) (k+(i:Int))=some (.ref b2):=zav ⋯ (by rw[D,yg,b];rfl);have a0:=B.2 _ _ b;have X:atI ((vec w (M (k.toNat+i))).map V.int) k=some (.int (M (k.toNat+i) k.toNat)):=zav n (by rw[yg,zae ⋯];rfl);walk_at "x"
  ·rename_i x p H1 fp I hp;have S:p∉as:=B.fresh fp;have v:a≠p:=λz=>by rw[z,fp]at ha;cases ha
   refine zbA (j:=k.toNat) hp (zbF n ⋯) ?_;intro H2 g t;have W:H2 a=some (.lst (as.map V.ref)):=g.lst (I.at ha) v;walk_at "x";refine zbA (j:=k.toNat+i) t (by rw[<- D];exact zbF ⋯ (by rw[yar];lia)) ?_;intro J U N;walk_at "x";have l:Same H' J:=U.same (g.same I fp) fp;refine Z p J (zeS as k.toNat (k.toNat+i) b1 b2) (k.toNat+i) ⋯ ⋯ x fp l ?_ ?_ ?_ ?_
   ·rw[N];unfold zeS;rw[ybU,ybU]
   ·unfold zeS;rw[yar,yar]
   ·intro c G;unfold zeS at G;rcases yaV G with h | h
    ·rcases yaV h with h | h
     ·exact h
     ·rw[h];exact ya b
    ·rw[h];exact ya d
   ·exact zok (B.same l) d b
  ·rename_i hz;refine⟨_,_,rfl,λj h1 h2=>?_,rfl⟩;by_cases e:j=k.toNat+i
   ·rw[e];exact hz
   ·exact m j h1 ⋯
 ·rintro o H' ⟨y,r,rfl,m,rfl⟩;rw[f]at m;exact absurd (m iN q ⋯) u
def zkr(T:Txt K mg):T.d_swept_row.Ok P w base 1 (zeM K):=by
 refine T.d_swept_row.F.okN zdK "0f" λG A outer s H vs Q E R h=>?_;obtain⟨a,b,w,f,g,k,d,rfl,ha,L,y,N,Y,d0,hd,C,q⟩:=h;have I:atI ((vec w f).map V.int) k=some (.int (f k.toNat)):=zav y (by rw[yg,zae ⋯];rfl);have J:atI ((vec w g).map V.int) k=some (.int (g k.toNat)):=zav y (by rw[yg,zae ⋯];rfl);refine⟨_,(zj (zC 4 zdK (qIx K (pv 1) (pv 2)))
 (zj (zC 5 zdK (qIx K (pv 0) (pv 2)))
 (zk (zB (qC2 K ["mine", "other", "keep", "take", "before"] [none,none,some 4,some 5,some 3] (show PI _ _ _ (zqF K _)from znZ rfl T.z_zip (za (pv 0) (za (pv 1) zh))) (λ_ _ _ _ _=>(zo zaG (zo zb4 (zo zL (pv 2) (pv 0)) (zo zL (pv 3) (pv 1))) (pv 4)))))))),?_⟩
 refine zE (σ0:=[some (.ref a),some (.ref b),some (.int k),some (.int d),none,none]) rfl ?_;walk_at "x";have u:min ((vec w f).map V.int).length ((vec w g).map V.int).length=w:=by rw[ye,ye,zO,zO,Nat.min_self]
 refine zbL (zmI (K:=K) (a:=a) (b:=b) (xs:=(vec w f).map V.int) (ys:=(vec w g).map V.int)) (λH2 e=>⟨SqL.of (e.at ha),SqL.of (e.at L)⟩) rfl (λi vs H2=>vs=(vec i λj=>(g k.toNat*f j-f k.toNat*g j).fdiv d).map V.int) (λH2 _=>rfl) ?_ ?_
 ·rintro i x D vs o o' H1 H2 hi t X n l rfl S ⟨p,v,U,rfl,m,c,hp⟩;rw[u]at hi;rw[yg,zae hi]at m c;cases m;cases c;have B:=C i hi;have z:=C k.toNat ⋯;have O:CMulS (g k.toNat) (f i):=CMulS.of z.2 B.1 "0a";have M:CMulS (f k.toNat) (g i):=CMulS.of z.1 B.2 "0a";walk_at "x";refine zky d0 hd ?_;walk_at "x";rename_i Z W r;refine⟨⟨_,_,rfl⟩,∅,_,r,by rw[yb];exact yn l,?_⟩;show _=(vec (i+1) _).map V.int;rw[zdY,yk];rfl
 ·rintro D H2 vs t e n l rfl;rw[u]at n;exact q D H2 t e n
def zqu(T:Txt K mg):T.d_swept.Ok P w base 2 (zmm K):=by
 refine T.d_swept.F.okN sc_swept "0f" λad A outer s H vs Q E hr h=>?_;obtain⟨a,as,w,M,k,d,rfl,ha,Y,k0,k1,k2,hw,hl,d0,hd,hz,q⟩:=h;have C:(as.map V.ref).length=as.length:=ye ..;obtain⟨b,R⟩:=zw (show k.toNat<as.length by lia);have ac:atI (as.map V.ref) k=some (.ref b):=zav k0 (by rw[yg,R];rfl);have a7:=Y.2 _ _ R;refine⟨_,(zj (zC 3 sc_swept (qIx K (pv 0) (pv 1)))
 (zj (zC 4 sc_swept (zam zh))
 (zj (zU PassesOwn.never rfl (zbI K T.z_enumerate (za (pv 0) zh)) (show PG _ _ (zbB K 2 _)from za5 (n:=2) rfl (zI (zG (i:=5) sc_swept.nd rfl "0j") (zI (zG (i:=6) sc_swept.nd rfl "0j") zaL)))
 (zk (zQ (zD (qEq K hr.units) (pv 5) (pv 1) (nomark _))
 (zk (zaO (qAp K (pv 4) (za (pv 6) zh))))
 (zk (zaO (qAp K (pv 4) (za (qD T.d_swept_row (zkr (base:=base) T) hr (za (pv 6) (za (pv 3) (za (pv 1) (za (pv 2) zh))))) zh)))))))
 (zk (zB (pv 4)))))),?_⟩
 refine zE (σ0:=[some (.ref a),some (.int k),some (.int d),none,none,none,none]) rfl ?_;walk_at "x";rename_i D H1 N e1 hD;refine zcM (zaK (K:=K) (a:=a) (xs:=as.map V.ref)) (λi S H'=>∃(O Z:Option V) (bs:List Addr),S=[some (.ref a),some (.int k),some (.int d),some (.ref b),some (.ref D),O,Z]/\H' D=some (.lst (bs.map V.ref))/\bs.length=i/\Same H H'/\Rows H' bs w (Dt.nxtI M k.toNat d)/\(k.toNat<i->bs[k.toNat]?=some b)/\∀j c,bs[j]?=some c->c∈as->c=b/\j=k.toNat) ⟨_,_,[],rfl,hD,rfl,e1,⟨yaI,λ_ _ h=>nomatch h⟩,λh=>by lia,λ_ _ h=>nomatch h⟩ ?_ ?_ ?_
 ·rintro i S H' ⟨O,Z,bs,rfl,r,g,e,_⟩;exact SqL.of (e.at ha)
 ·rintro i x S H2 H3 hi ⟨O,Z,bs,rfl,r,g,e,B,G,l⟩ I ⟨p,v,rfl,hv,hp⟩;rw[C]at hi;obtain⟨c,U⟩:=zw hi;have ev:v=.ref c:=by rw[yg,U]at hv;exact(yt hv).symm
  subst ev;have a6:=I.at r;have o:=e.trans I;have aa:=o.at (Y.2 _ _ U);have L:=o.at a7;have nD:D∉bs:=B.ne ⋯ r;have a0:D∉as:=Y.fresh N;have a9:(bs.map V.ref).length<=20:=by rw[ye];lia
  have ab:∀j,j<w->sz (M i j)<=9000/\sz (M k.toNat j)<=9000:=λj f=>⟨hz i j hi f,hz _ j ⋯ f⟩
  walk_at "x"
  ·rename_i J H4 b4 h4;have ek:i=k.toNat:=by lia
   have a8:c=b:=by rw[ek,R]at U;exact(yt U).symm
   subst a8;have cm:c∈as:=ya R;have a5:c∉bs:=λz=>by
    obtain⟨j,f,ej⟩:=y6 z
    have:=(l j c (by rw[yl f,ej]) cm).2
    lia
   have a3:c≠D:=λz=>a0 (z▸cm);refine⟨_,_,bs++[c],rfl,by rw[h4,yk];rfl,by rw[yb,g];rfl,b4.same o N,?_,?_,?_⟩
   ·refine Rows.app ((B.same I).but b4 nD) a5 ?_;rw[b4.lst L a3,g];refine congrArg (λz=>some (HO.lst (z.map V.int))) (zaN λj _=>?_);unfold Dt.nxtI;rw[if_pos ek]
   ·intro _;rw[yaa ⋯,show k.toNat-bs.length=0 by lia];rfl
   ·intro j W f t;rcases ybn j bs.length with h | h
    ·rw[yO h]at f;exact l j W f t
    ·rw[yaa h]at f;have y:j-bs.length=0:=by
      rcases ya3 (j-bs.length)with z | z
      ·exact z
      ·rw[yG (by simp only[y8];lia)]at f;cases f
     rw[y]at f;exact⟨(yt f).symm,⋯⟩
  ·rename_i J X H4 u e4 a2 H5 b5 h5;have nk:i≠k.toNat:=λz=>J ⋯;have a1:X∉bs:=(B.same I).fresh u;have a4:X≠D:=λz=>by rw[z,a6]at u;cases u
   refine⟨_,_,bs++[X],rfl,by rw[h5,yk];rfl,by rw[yb,g];rfl,b5.same (o.trans e4) N,?_,?_,?_⟩
   ·refine Rows.app (((B.same I).same e4).but b5 nD) a1 ?_;rw[b5.lst a2 a4,g];refine congrArg (λz=>some (HO.lst (z.map V.int))) (zaN λj _=>?_);unfold Dt.nxtI;rw[if_neg nk]
   ·intro h;rw[yO ⋯];exact G ⋯
   ·intro j W f t;rcases ybn j bs.length with h | h
    ·rw[yO h]at f;exact l j W f t
    ·rw[yaa h]at f;have y:j-bs.length=0:=by
      rcases ya3 (j-bs.length)with z | z
      ·exact z
      ·rw[yG (by simp only[y8];lia)]at f;cases f
     rw[y]at f;have ec:W=X:=(yt f).symm;obtain⟨m,_,_,hm⟩:=(Y.same o).mem t;rw[ec,u]at hm;cases hm
 ·rintro S H2 ⟨O,Z,bs,rfl,r,g,e,B,G,l⟩;walk_at "x";rw[C]at g;exact q D H2 bs N e r g B
def zjC(T:Txt K mg):T.d_solved.Ok P w base 3 (zjs K sZ sB):=by
 refine T.d_solved.F.okN sc_solved "0f" λc6 A outer s H vs Q E hr h=>?_;obtain⟨a,b,n,R,rfl,⟨⟨as,ha,b9,ag⟩,⟨ws,hb,X⟩⟩,n1,hz,h1,h2,h3,h4,ao,q1⟩:=h;have bd:(as.map V.ref).length=n:=by rw[ye];exact b9
 have bv:ws.length=n:=by rw[X.length,ye,yB]
 refine⟨_,(zj (zC 2 sc_solved (zbY K T.z_len (za (pv 0) zh)))
 (zj (qS1 3 sc_solved ["place", "rows", "right"] [none,some 0,some 1] (zac rfl T.z_range (za (pv 2) zh)) (λ_ _ _ _ _=>(qD T.d_whole_row (zlo (base:=base) T) hr (za (zo (zaS K) (zdr K T.z_list (za (qIx K (pv 1) (pv 0)) zh)) (zam (za (qIx K (pv 2) (pv 0)) zh))) zh))))
 (zj (zC 4 sc_solved ze)
 (zj (zU PassesOwn.never rfl (zac rfl T.z_range (za (pv 2) zh)) (zG (i:=5) sc_solved.nd rfl "0j")
 (zj (zC 3 sc_solved (qD T.d_with_first (zjT (base:=base) T) hr (za (pv 3) (za (pv 5) zh))))
 (zj (zC 3 sc_solved (qD T.d_swept (zqu (base:=base) T) hr (za (pv 3) (za (pv 5) (za (pv 4) zh)))))
 (zk (zC 4 sc_solved (qIx K (qIx K (pv 3) (pv 5)) (pv 5)))))))
 (zk (zB (qC1 ["row", "count", "before"] [none,some 2,some 4] (zW K (pv 3)) (λ_ _ _ _ _=>(qD T.d_part (zsG (base:=base) T) hr (za (qIx K (pv 0) (pv 1)) (za (pv 2) zh))))))))))),?_⟩
 refine zE (σ0:=[some (.ref a),some (.ref b),none,none,none,none]) rfl ?_;walk_at "x";refine zM (zbg (lo:=0) (n:=((as.map V.ref).length:Int).toNat)) (λ_ _=>trivial) rfl (λi vs H'=>∃(bs:List Addr) (F:Nat->Nat->Int) (L:Nat->Int),vs=bs.map V.ref/\bs.length=i/\Rows H' bs (n+1) F/\∀l,l<i->0<L l/\∀j,j<=n->((F l j:Int):Rat)=((L l:Int):Rat)*R l j/\sz (F l j)<=sZ+(n+1)*sB) (λH' _=>⟨[],λ_ _=>0,λ_=>0,rfl,rfl,⟨yaI,λ_ _ h=>nomatch h⟩,λl h=>by lia⟩) ?_ ?_
 ·rintro i x D vs o H1 H2 hi hD e1 hv S ⟨bs,F,L,rfl,Y,hR,hF⟩ e2 rfl;rw[bd]at hi;have au:i<n:=by lia
  obtain⟨c,hc⟩:=zw (show i<as.length by lia);obtain⟨us,bl,ai⟩:=ag i c hc;obtain⟨v,al⟩:=zw (show i<ws.length by lia);obtain⟨g,q,rfl,hq,hg⟩:=X.get al;have ei:((0:Int)+(i:Int)).toNat=i:=by lia
  have bo:atI (as.map V.ref) ((0:Int)+(i:Int))=some (.ref c):=zav ⋯ (by rw[ei,yg,hc];rfl);have bp:atI ws ((0:Int)+(i:Int))=some (.ref g):=zav ⋯ (by rw[ei];exact al);have a1:=e1.trans e2;have c0:=a1.at ha;have c3:=a1.at hb;have ad:=a1.at bl;walk_at "x";rename_i l1 H3 f1 W bc l2 H4 f2 e4 b4;have b2:us.length=n:=by rw[ai.length,ye,yB]
  have eq:q=R i n:=by
   rw[yg,yQ au]at hq;exact(yt hq).symm
  refine zo0 (e4.at bc) b4 (by rw[b2];simp only[y8];lia) ?_;intro p H5 fp e5 b1;have av:Same H H5:=((a1.trans W).trans e4).trans e5;have b5:IsQs H5 (us++[.ref g]) ((List.range (n+1)).map (R i)):=by
   rw[yy,yk,yU,<- eq];exact IsQs.app (av.isQ hg) (ai.same av)
  have aw:((List.range (n+1)).map (R i)).length=n+1:=by rw[ye,yB]
  walk_at "x";refine zkw b1 b5 (by rw[aw];lia) (λr hr=>?_) h2 h3 h1 ?_
  ·obtain⟨j,O,rfl⟩:=yX.mp hr;exact hz i j au (by have:=yF.mp O;lia)
  intro p' H6 f L' ab e6 L0 hf am;rw[aw]at am hf;have bz:H6 D=some (.lst (bs.map V.ref)):=(((e2.trans W).trans e4).trans (e5.trans e6)).at hv;have bt:(bs.map V.ref).length<=20:=by lia
  walk_at "x";rename_i H7 b7 h7;have af:Same H1 H6:=((e2.trans W).trans e4).trans (e5.trans e6);have ar:Same H1 H5:=((e2.trans W).trans e4).trans e5;have bg:p'∉bs:=(hR.same ar).fresh ab;have bf:D∉bs:=hR.ne ⋯ hv;have bj:p'≠D:=λz=>by rw[z,ar.at hv]at ab;cases ab
  refine⟨⟨_,rfl⟩,b7.same (e1.trans af) hD,_,h7,by rw[yb];exact yn S,bs++[p'],(λl=>if l=bs.length then f else F l),(λl=>if l=i then L' else L l),by rw[yk];rfl,by rw[yb,Y];rfl,Rows.snoc ((hR.same af).but b7 bf) bg (b7.lst am bj),λl hl=>?_⟩;rw[Y];dsimp only;by_cases e:l=i
  ·subst e;rw[if_pos rfl,if_pos rfl];refine⟨L0,λj O=>hf j _ ?_⟩;rw[yg,yQ ⋯];rfl
  ·rw[if_neg e,if_neg e];exact hF l ⋯
 ·rintro t H1 vs ft e1 ht S ⟨bs,F,L,rfl,Y,hR,hF⟩;have a2:((as.map V.ref).length:Int).toNat=n:=by lia
  rw[a2]at Y hF;obtain⟨z,ez⟩:∃z,z=sZ+(n+1)*sB:=⟨_,rfl⟩
  rw[<- ez]at hF h4;have aj:∀l,l<n->((L l:Int):Rat)≠0:=λl hl w=>by
   have:L l=0:=by exact_mod_cast w
   have:=(hF l hl).1
   lia
  have a5:Dt.det n (Dt.cl R)=0↔Dt.det n (Dt.cl (Dt.castM F))=0:=by
   rw[Dt.det_scale aj]
   have:Dt.det n (Dt.cl (λl j=>((L l:Int):Rat)*R l j))=Dt.det n (Dt.cl (Dt.castM F)):=Dt.det_congr λj r O hr=>(((hF r hr).2 j ⋯).1).symm
   rw[this]
  have ac:∀x:Nat->Rat,(∀l,l<n->Dt.sm n (λm=>Dt.castM F l m*x m)=Dt.castM F l n)->∀l,l<n->Dt.sm n (λm=>R l m*x m)=R l n:=λx hx=>by
   rw[Dt.meets_scale aj];intro l hl;have h0:=hx l hl;have e1:Dt.castM F l n=((L l:Int):Rat)*R l n:=((hF l hl).2 n ⋯).1;rw[e1]at h0;rw[<- h0];refine Dt.sm_congr λm hm=>?_;rw[show Dt.castM F l m=((L l:Int):Rat)*R l m from((hF l hl).2 m ⋯).1]
  walk_at "x";refine zcE (λk σ' H'=>∃(f5:Option V) (t':Addr) (G:List Addr) (B M:Nat->Nat->Int) (d:Int),σ'=[some (.ref a),some (.ref b),some (.int ((as.map V.ref).length:Int)),some (.ref t'),some (.int d),f5]/\Same H H'/\H t'=none/\H' t'=some (.lst (G.map V.ref))/\G.length=n/\Rows H' G (n+1) M/\Dt.Bar n k (Dt.castM B) (Dt.castM M) ((d:Int):Rat)/\Dt.Eqv n (Dt.castM F) (Dt.castM B)/\∀l j,l<n->j<=n->sz (B l j)<=z) ⟨_,t,bs,F,F,1,rfl,e1,ft,ht,Y,hR,Dt.bar_start,Dt.Eqv.refl _ _,λl j hl O=>((hF l hl).2 j O).2⟩ ?_ ?_
  ·rintro k σ' H2 hk ⟨f5,t',G,B,M,d,rfl,e2,be,a9,I,a7,C,a0,U⟩;rw[a2]at hk;have ek:((0:Int)+(k:Int)).toNat=k:=by lia
   have big:∀(B' M':Nat->Nat->Int) (d':Int) (k':Nat),Dt.Bar n k' (Dt.castM B') (Dt.castM M') ((d':Int):Rat)->k'<=n->(∀l j,l<n->j<=n->sz (B' l j)<=z)->∀i j,i<n->j<=n->sz (M' i j)<=9000:=λB' M' d' k' hb b3 hs i j hi O=>by
    have:=zmS (x:=M' i j) (hb.sz b3 ⋯ (λl m hl hm=>znm (hs l m hl hm)) hi O)
    lia
   walk_at "x";have ak:∃i,((0:Int)+(k:Int)).toNat<=i/\i<G.length/\M i ((0:Int)+(k:Int)).toNat≠0:=by
    rw[ek,I];refine yai λz=>ao (a5.mpr (a0.dt.mpr (C.stuck hk λi h1 h2=>?_)))
    show((M i k:Int):Rat)=0
    have:M i k=0:=yai λy=>z ⟨i,h1,h2,y⟩
    rw[this];rfl
   refine ziu a9 a7 ⋯ ⋯ ⋯ ⋯ ak ?_;intro p1 H3 c4 J b0 a3 ay bw W ba ax c5 az;rw[ek]at b0 ay az;rw[I]at a3 ax;have Z:Dt.Bar n k (Dt.castM (Dt.swp B k J)) (Dt.castM (Dt.swp M k J)) ((d:Int):Rat):=by
    have:=C.swap (p:=k) (q:=J) (yc _) b0 hk a3
    have c1:∀N:Nat->Nat->Int,Dt.castM (Dt.swp N k J)=Dt.swp (Dt.castM N) k J:=λN=>by
     funext u v;unfold Dt.castM Dt.swp;split
     ·rfl
     ·split<;>rfl
    rw[c1,c1];exact this
   have ah:Dt.Eqv n (Dt.castM F) (Dt.castM (Dt.swp B k J)):=by
    have c1:Dt.castM (Dt.swp B k J)=Dt.swp (Dt.castM B) k J:=by
     funext u v;unfold Dt.castM Dt.swp;split
     ·rfl
     ·split<;>rfl
    rw[c1];exact a0.trans (Dt.Eqv.swap hk a3 _)
   have a4:∀l j,l<n->j<=n->sz (Dt.swp B k J l j)<=z:=λl j hl O=>by
    obtain⟨l',bb,e⟩:=Dt.swp_at hk a3 B l hl;rw[e];exact U l' j bb O
   have bm:=big _ _ _ k Z ⋯ a4;have hp:Dt.swp M k J k k≠0:=by
    unfold Dt.swp;rw[if_pos rfl];exact ay
   have a8:d≠0:=λw=>C.d0 (by rw[w];rfl);have ae:sz d<=9000:=by
    rcases ya3 k with h0 | h0
    ·have h1:((d:Int):Rat)=1:=by rw[C.dd,h0];rfl
     have:d=1:=by exact_mod_cast h1
     rw[this];exact szL "0a" "0a" "0a"
    ·have h1:=C.id1 0 0 h0 h0;rw[if_pos rfl]at h1
     have:M 0 0=d:=by exact_mod_cast (show((M 0 0:Int):Rat)=((d:Int):Rat)from h1)
     rw[<- this];exact big _ _ _ k C ⋯ U 0 0 ⋯ ⋯
   have st:=Z.stepI hk hp;walk_at "x";refine zop ba az ⋯ ⋯ ⋯ ⋯ ⋯ a8 ae (λi j hi O=>bm i j ⋯ ⋯) ?_;intro p2 H4 aa bn e4 bh bq a6;rw[ek]at a6;obtain⟨c2,ad⟩:=zw (show k<aa.length by lia);have bx:atI (aa.map V.ref) ((0:Int)+(k:Int))=some (.ref c2):=zav ⋯ (by rw[ek,yg,ad];rfl);have bu:=a6.2 _ _ ad;have b8:Same H H4:=(e2.trans W).trans e4;walk_at "x";refine⟨_,p2,aa,Dt.swp B k J,Dt.nxtI (Dt.swp M k J) k d,_,rfl,b8,Same.none bn (e2.trans W),bh,⋯,a6,?_,ah,a4⟩
   have:Dt.nxtI (Dt.swp M k J) k d k ((0:Int)+(k:Int)).toNat=Dt.swp M k J k k:=by
    rw[ek];unfold Dt.nxtI;rw[if_pos rfl]
   rw[this];exact st.1
  ·rintro σ' H2 ⟨f5,t',G,B,M,d,rfl,e2,be,a9,I,a7,C,a0,U⟩;rw[a2]at C;have a8:d≠0:=λw=>C.d0 (by rw[w];rfl);have ae:sz d<=8999:=by
    rcases ya3 n with n0 | n0
    ·have h1:((d:Int):Rat)=1:=by rw[C.dd,n0];rfl
     have:d=1:=by exact_mod_cast h1
     rw[this];exact szL "0a" "0a" "0a"
    have h1:=C.id1 0 0 n0 n0;rw[if_pos rfl]at h1
    have:M 0 0=d:=by exact_mod_cast (show((M 0 0:Int):Rat)=((d:Int):Rat)from h1)
    rw[<- this]
    have:=zmS (x:=M 0 0) (C.sz (yc _) ⋯ (λl m hl hm=>znm (U l m hl hm)) n0 (yM _))
    lia
   have br:Dt.det n (Dt.cl R)≠0:=λw=>C.d0 (by rw[C.dd];exact a0.dt.mp (a5.mp w));have ap:=a0.an (λm=>Dt.castM M m n/((d:Int):Rat));have aq:=ac _ (ap.mpr λl hl=>C.meets hl);walk_at "x";refine zM (z9 (K:=K) (a:=t') (xs:=G.map V.ref)) (λH' e=>SqL.of (e.at a9)) rfl (λi vs H'=>IsQs H' vs ((List.range i).map λm=>Dt.castM M m n/((d:Int):Rat))) (λH' _=>trivial) ?_ ?_
   ·rintro i x D vs o H3 H4 hi hD W hv S hI e4 hx;rw[ye]at hi;obtain⟨c,hc⟩:=zw hi;have ev:x=.ref c:=by rw[yg,hc]at hx;exact(yt hx).symm
    subst ev;have hr:=(W.trans e4).at (a7.2 _ _ hc);walk_at "x";rename_i p H5 e5 hq H6 b6 h6;rw[a2]at hq;refine⟨⟨_,rfl⟩,∅,_,h6,by rw[yb];exact yn S,?_⟩;show IsQs H6 _ ((List.range (i+1)).map _);rw[yy,yk,yU];refine IsQs.app ?_ (LBut.isQs b6 (hI.same (e4.trans e5)))
    have:Dt.castM M i n/((d:Int):Rat)=Rat.divInt (M i n) d:=by rw[yaR];rfl
    rw[this];exact LBut.isQ b6 hq
   ·rintro D H3 vs hD W hv S hI;rw[ye,I]at hI;refine q1 D H3 vs _ (Same.none hD e2) (e2.trans W) hv hI aq λm hm=>?_;have n0:0<n:=by lia
    show SzQ (((M m n:Int):Rat)/((d:Int):Rat)) _ _;rw[<- yaR,<- ez];have sM:∀i j,i<n->j<=n->sz (M i j)<=n*(z+4)+1:=λi j hi O=>zmS (x:=M i j) (C.sz (yc _) ⋯ (λl m hl hm=>znm (U l m hl hm)) hi O);have h1:=C.id1 0 0 n0 n0;rw[if_pos rfl]at h1;have bi:M 0 0=d:=by exact_mod_cast (show((M 0 0:Int):Rat)=((d:Int):Rat)from h1)
    exact zkG a8 (sM m n hm (yc _)) (bi▸sM 0 0 n0 (yM _))
def zjh(T:Txt K mg):T.d_ranked.Ok P w base 1 (zg7 K):=by
 refine T.d_ranked.F.okN sc_ranked "0f" λa4 A outer s H vs Q E hr h=>?_;obtain⟨n,a,ds,rfl,⟨xs,hS,hT⟩,n0,n1,hd,k⟩:=h;refine⟨_,(zj (qS1 2 sc_ranked ["member"] [none] (zac rfl T.z_range (za (pv 0) zh)) (λ_ _ _ _ _=>(zam (za ze (za ze (za ze zh))))))
 (zj (zU PassesOwn.never rfl (zW K (pv 1)) (show PG _ _ (zbB K 4 _)from za5 (n:=4) rfl (zI (zG (i:=3) sc_ranked.nd rfl "0j") (zI (zG (i:=4) sc_ranked.nd rfl "0j") (zI (zG (i:=5) sc_ranked.nd rfl "0j") (zI (zG (i:=6) sc_ranked.nd rfl "0j") zaL)))))
 (zk (zb5 (qIx K (pv 2) (pv 3)) (pv 5) (show zdU _ (zcs K)from zbs) (pv 6) zdj zT)))
 (zk (zB (pv 2))))),?_⟩
 refine zE (σ0:=[some (.int n),some (.ref a),none,none,none,none,none]) rfl ?_;walk_at "x";refine zM zbg (λ_ _=>trivial) rfl (λi vs H'=>∃as,vs=as.map V.ref/\as.length=i/\Rows H' as 3 (λ_ _=>0)/\∀b∈as,H b=none) (λH' _=>⟨[],rfl,rfl,⟨yaI,λi a h=>nomatch h⟩,λ_ h=>nomatch h⟩) ?_ ?_
 ·rintro i x D vs o H2 X hi hD N hv v ⟨as,rfl,u,t,C⟩ g rfl;walk_at "x";rename_i p H4 fp e4 hp H5 b5 h5;have R:D∉as:=t.ne "0a" hv;have L:p≠D:=zb8 fp (g.at hv);have J:H5 p=some (.lst ((vec 3 λ_=>0).map V.int)):=b5.lst hp L;refine⟨⟨_,rfl⟩,∅,_,h5,by rw[yb];exact yn v,as++[p],by rw[yk];rfl,by rw[yb,u];rfl,Rows.app ((t.same (g.trans e4)).but b5 R) ((t.same g).fresh fp) J,λb O=>?_⟩;rcases yH.mp O with h | h
  ·exact C b h
  ·rw[ym.mp h];exact Same.none fp (N.trans g)
 ·rintro l H2 vs fl N hl v ⟨as,rfl,u,t,C⟩;walk_at "x";have I:l∉as:=t.ne "0a" hl;refine za4 (xs:=xs) (λi G H'=>∃W S M Y,G=[some (.int n),some (.ref a),some (.ref l),W,S,M,Y]/\H' l=some (.lst (as.map V.ref))/\Rows H' as 3 (zA (ds.take i))/\Same H H') ?_ ?_ ?_ ?_
  ·exact⟨_,_,_,_,rfl,hl,t,N⟩
  ·rintro i G H' _ ⟨_,_,_,_,_,_,_,e⟩;exact e.seq hS
  ·rintro i x G X hx ⟨W,S,M,Y,rfl,j,f,g⟩;obtain⟨b,d,rfl,B,O⟩:=(hT.same g).get hx;have a3:X b=some "0h":=O;obtain⟨p0,p1,q0,q1,pq,r0,r1,a0,a1⟩:=hd d (ya B);obtain⟨c,U⟩:=zw (show d.p.toNat<as.length by lia);have a2:=f.2 _ _ U;have y:=ya U;have Z:l≠c:=λz=>I (z▸y);have fc:=C c y;walk_at "x";rename_i H4 b4 h4;refine⟨_,_,_,_,rfl,b4.lst j Z,(f.set b4 U h4).congr λm hm r hr=>?_,∅⟩;rw[zH B];exact zn4 p0 r0 m r
  ·rintro G X ⟨W,S,M,Y,rfl,j,f,g⟩;rw[hT.length,yr]at f;walk_at "x";exact k _ _ _ fl g j ⋯ f C
def zm4(T:Txt K mg):T.d_stop_of.Ok P w base 2 (zgK K):=by
 refine T.d_stop_of.F.okN sc_stop_of "0f" λM A outer s H vs Q E O h=>?_;obtain⟨l,y,f,q,rfl,hl,Y,R,U,k⟩:=h;refine⟨_,(zj (zC 2 sc_stop_of ze)
 (zj (zU PassesOwn.never rfl (zbI K T.z_enumerate (za (pv 0) zh)) (show PG _ _ (zbB K 2 _)from za5 (n:=2) rfl (zI (zG (i:=3) sc_stop_of.nd rfl "0j") (zI (zG (i:=4) sc_stop_of.nd rfl "0j") zaL)))
 (zj (zpn (i:=2) sc_stop_of.nd rfl "0j" (pv 4) zdj)
 (zk (zQ (zcX K (qD T.d_under (zks (base:=base) T) O (za (pv 1) (za (zN (za (pv 2) (za ze zh))) zh))))
 (zk (zB (pv 3)))
 zJ))))
 (zk (zB zbc)))),?_⟩
 refine zE (σ0:=[some (.ref l),some (.ref y),none,none,none]) rfl ?_;walk_at "x";refine zcM (zaK (K:=K) (a:=l) (xs:=(vec 3 f).map V.int)) (λi g H'=>∃B m:Option V,g=[some (.ref l),some (.ref y),some (.int (zbn f i)),B,m]/\zaQ f q i=none/\Same H H') ⟨_,_,rfl,rfl,Same.refl _⟩ ?_ ?_ ?_
 ·rintro i g H' ⟨_,_,_,_,e⟩;exact SqL.of (e.at hl)
 ·rintro i x g H1 H2 hi ⟨B,m,rfl,c,C⟩ S ⟨t,v,rfl,J,L⟩;rw[ye,zO]at hi;rw[yg,zae hi]at J;cases J;have N:H2 t=some (.tup [.int (i:Int),.int (f i)]):=L;have Z:=zin Y (i+1) ⋯;have o:SzQ ((zbn f (i+1):Int):Rat) 60000 60000:=zr1 ⋯ ⋯;walk_at "x";refine zdI (by first | decide | simp) λtp G X W p=>?_;have u:IsQ G tp ((zbn f (i+1):Int):Rat):=p;have d:Same H G:=C.trans (S.trans W);have D:IsQ G y q:=d.at R;refine zay ?_;refine zi1 D u U o ?_;have b:zaQ f q (i+1)=if zb0 f q i then some i else none:=by show(match zaQ f q i with | some r=>some r | none=>_)=_;rw[c]
  by_cases j:zb0 f q i
  ·rw[decide_eq_true (under_int.mpr j)];rw[if_pos j]at b;have I:=zh1 b (3-(i+1));rw[show i+1+(3-(i+1))=3 by lia]at I;rw[I]at k;walk_at "x";exact k _ d
  ·rw[decide_eq_false λz=>j (under_int.mp z)];rw[if_neg j]at b;walk_at "x";exact⟨_,_,rfl,b,d⟩
 ·rintro g H1 ⟨B,m,rfl,c,C⟩;rw[ye,zO]at c;rw[c]at k;walk_at "x";exact k _ C
def zlX(T:Txt K mg):T.d_flows_of.Ok P w base 1 (ziF K):=by
 refine T.d_flows_of.F.okN sc_flows_of "0f" λac A outer s H vs Q E hr h=>?_;obtain⟨a,b,ds,n,ρ,rfl,⟨xs,hS,hT⟩,L,n1,hd,k⟩:=h;have M:(zaj n ρ).length=n:=zbk;refine⟨_,(zj (qS1 2 sc_flows_of ["rank", "ranks"] [none,some 1] (zW K (pv 1)) (λ_ _ _ _ _=>(zo zL (zam (za ze zh)) (zbY K T.z_len (za (pv 1) zh)))))
 (zj (zU PassesOwn.never rfl (zW K (pv 0)) (show PG _ _ (zbB K 4 _)from za5 (n:=4) rfl (zI (zG (i:=3) sc_flows_of.nd rfl "0j") (zI (zG (i:=4) sc_flows_of.nd rfl "0j") (zI (zG (i:=5) sc_flows_of.nd rfl "0j") (zI (zG (i:=6) sc_flows_of.nd rfl "0j") zaL)))))
 (zk (zQ (zD (qEq K hr.units) (pv 5) (qIx K (pv 1) (pv 3)) (nomark _))
 (zk (zb5 (qIx K (pv 2) (pv 3)) (pv 4) (show zdU _ (zcs K)from zbs) (pv 6) zdj zT))
 zJ)))
 (zk (zB (pv 2))))),?_⟩
 refine zE (σ0:=[some (.ref a),some (.ref b),none,none,none,none,none]) rfl ?_;walk_at "x";refine zM (z9 (K:=K) (a:=b) (xs:=zaj n ρ)) (λH' e=>SqL.of (e.at L)) rfl (λi vs H'=>∃as,vs=as.map V.ref/\as.length=i/\Rows H' as n (λ_ _=>0)/\∀b∈as,H b=none) (λH' _=>⟨[],rfl,rfl,⟨yaI,λi a h=>nomatch h⟩,λ_ h=>nomatch h⟩) ?_ ?_
 ·rintro i x D vs o H2 S hi hD v hv R ⟨as,rfl,t,G,W⟩ u hx;have a7:=(v.trans u).at L;walk_at "x";rename_i z1 ad af J ab p H4 fp a3 N H5 b5 h5;have e4:Same S H4:=J.trans a3;rw[yh,M]at N;have B:S p=none:=Same.none fp J;have a2:p≠D:=zb8 B (u.at hv);have Z:H5 p=some (.lst ((vec n λ_=>0).map V.int)):=b5.lst N a2;have a6:D∉as:=λz=>by
   obtain⟨m,hm,a5,f⟩:=G.mem z;rw[hv]at f;have hn:n≠0:=by lia
   cases as with
   | nil=>cases z
   | cons z0 zs=>
    obtain⟨O,rfl⟩:∃O,n=O+1:=⟨n-1,⋯⟩
    unfold vec at f;rw[List.range_succ_eq_map]at f;cases f
  refine⟨⟨_,rfl⟩,∅,_,h5,by rw[yb];exact yn R,as++[p],by rw[yk];rfl,by rw[yb,t];rfl,Rows.app ((G.same (u.trans e4)).but b5 a6) ((G.same u).fresh B) Z,λb L=>?_⟩;rcases yH.mp L with h | h
  ·exact W b h
  ·rw[ym.mp h];exact Same.none B (v.trans u)
 ·rintro l H2 vs fl v hl R ⟨as,rfl,t,G,W⟩;rw[M]at t;walk_at "x";have Y:l∉as:=λz=>by
   obtain⟨m,hm,a5,f⟩:=G.mem z;rw[hl]at f;cases as with
   | nil=>cases z
   | cons z0 zs=>
    obtain⟨O,rfl⟩:∃O,n=O+1:=⟨n-1,by simp only[y9]at t;lia⟩
    unfold vec at f;rw[List.range_succ_eq_map]at f;cases f
  refine za4 (xs:=xs) (λi X H'=>∃f3 f4 f5 f6,X=[some (.ref a),some (.ref b),some (.ref l),f3,f4,f5,f6]/\H' l=some (.lst (as.map V.ref))/\Rows H' as n (zat ρ (ds.take i))/\Same H H') ?_ ?_ ?_ ?_
  ·exact⟨_,_,_,_,rfl,hl,G,v⟩
  ·rintro i X H' _ ⟨_,_,_,_,_,_,_,e⟩;exact e.seq hS
  ·rintro i x X S hx ⟨f3,f4,f5,f6,rfl,y,g,u⟩;obtain⟨b',d,rfl,C,a4⟩:=(hT.same u).get hx;have ae:S b'=some "0h":=a4;obtain⟨p0,p1,q0,q1,pq,r0,r1,a0,a1⟩:=hd d (ya C);obtain⟨c,hc⟩:=zw (show d.p.toNat<as.length by lia);have a9:=g.2 _ _ hc;have U:=ya hc;have a8:l≠c:=λz=>Y (z▸U);have fc:=W c U;have a7:=u.at L;have aa:atI (zaj n ρ) d.p=some (zcj (ρ d.p.toNat)):=zav ⋯ (za8 ⋯);walk_at "x";refine zsH r0 ?_;walk_at "x"
   ·rename_i hρ H4 b4 h4;refine⟨_,_,_,_,rfl,b4.lst y a8,(g.set b4 hc h4).congr λm hm j hj=>?_,∅⟩;rw[zH C,zbe];by_cases I:m=d.p.toNat
    ·rw[if_pos I];by_cases v:j=d.q.toNat
     ·rw[if_pos v,if_pos ⟨⋯,⋯,by rw[I];exact hρ⟩,I,v]
     ·rw[if_neg v,if_neg (λz=>v ⋯),I];lia
    ·rw[if_neg I,if_neg (λz=>I ⋯)];lia
   ·rename_i hρ;refine⟨_,_,_,_,rfl,y,g.congr λm hm j hj=>?_,u⟩;rw[zH C,zbe,if_neg (λz=>hρ (by rw[show d.p.toNat=m by lia];exact z.2.2))];lia
  ·rintro X S ⟨f3,f4,f5,f6,rfl,y,g,u⟩;rw[hT.length,yr]at g;walk_at "x";exact k _ _ _ fl u y t g W
def zlZ(T:Txt K mg):T.d_reach_of.Ok P w base 1 (zif K):=by
 refine T.d_reach_of.F.okN sc_reach_of "0f" λa6 A outer s H vs Q E hr h=>?_;obtain⟨a,i,n,as,F,rfl,ha,a3,hR,h9,hi,k⟩:=h;refine⟨_,(zj (zC 2 sc_reach_of (zam (za (pv 1) zh)))
 (zj (zC 3 sc_reach_of ze)
 (zj (zb1 PassesOwn.never (zD zcp (pv 3) (zbY K T.z_len (za (pv 2) zh)) (nomark _))
 (zj (zC 4 sc_reach_of (qIx K (pv 0) (qIx K (pv 2) (pv 3))))
 (zj (zaO (show PE _ _ (tBM K _ _ _ _)from znH ybp PySem.F.slot_list_extend PySem.F.type_list_extend zoD (pv 2) (za (zio rfl (zbI K T.z_enumerate (za (pv 4) zh)) (za7 (Ni:=["other", "flow", "reached"]) (caps:=[none,none,some 2]) (by rfl)) (λS _ _ _ _ _=>(show PG _ _ (zbB K 2 _)from za5 (n:=2) rfl (zI (zbb (gi:=0) S "0j" rfl) (zI (zbb (gi:=1) S "0j" rfl) zaL)))) (λ_ _ _ _ _=>(zh7 (PW.pt (zet (zD zcQ (pv 1) ze (nomark _)) (zey (zD (show OpR _ (compareOp .NotIn) (rIn K true)from zfp) (pv 0) (pv 2) (by with_unfolding_all rfl))))))) (λ_ _ _ _ _=>(pv 0))) zh)))
 (zk (zpn (i:=3) sc_reach_of.nd rfl "0j" ze zdj)))))
 (zk (zB (pv 2)))))),?_⟩
 refine zE (σ0:=[some (.ref a),some (.int (i:Int)),none,none,none]) rfl ?_;walk_at "x";rename_i p H1 fp e1 hp;generalize hg:(λi j=>decide (0<F i j))=g at k;have r:∀i j,g i j=decide (0<F i j):=λi j=>by rw[<- hg]
 refine⟨λm σ H'=>∃(t:Nat) (B:Option V),σ=[some (.ref a),some (.int (i:Int)),some (.ref p),some (.int (t:Int)),B]/\t<=(Rc.seqL n g i t).length/\H' p=some (.lst (zaD (Rc.seqL n g i t)))/\Same H H'/\m=n-t,⟨_,0,_,rfl,yM _,hp,e1,rfl⟩,?_⟩;rintro m σ H2 ⟨t,B,rfl,Z,d,G,rfl⟩;have a4:=zai (l:=Rc.seqL n g i t);have a5:=Rc.seq_len (g:=g) hi t;walk_at "x"
 ·rename_i M;have b:t<(Rc.seqL n g i t).length:=by lia
  refine⟨λO H'=>∃B:Option V,O=[some (.ref a),some (.int (i:Int)),some (.ref p),some (.int ((t+1:Nat):Int)),B]/\H' p=some (.lst (zaD (Rc.seqL n g i (t+1))))/\Same H H',?_,?_⟩
  ·rintro O H' ⟨f5,rfl,q,u⟩;refine⟨n-(t+1),⋯,t+1,f5,rfl,?_,q,u,rfl⟩;rw[Rc.seq_succ b,yb];lia
  ·generalize hs:Rc.seqL n g i t=sl at *
   have a1:sl.getD t 0<n:=zbC b (by rw[<- hs];exact λx y=>Rc.seq_lt hi t x y);obtain⟨c,W⟩:=zw (show sl.getD t 0<as.length by lia);have a0:atI (zaD sl) (t:Int)=some (.int ((sl.getD t 0:Nat):Int)):=zal (zbZ b);have R:atI (as.map V.ref) ((sl.getD t 0:Nat):Int)=some (.ref c):=zal (by rw[yg,W];rfl);have a8:=G.at ha;have J:=(hR.same G).2 _ _ W;walk_at "x";refine zbL (zaK (K:=K) (a:=c) (xs:=(vec n (F (sl.getD t 0))).map V.int)) (λH' e=>SqL.of (e.at J)) rfl (λj vs _=>vs=zaD ((List.range j).filter λk=>g (sl.getD t 0) k&&!decide (k∈sl))) (λH' _=>rfl) ?_ ?_
   ·rintro j x D vs o o' H3 N U X u C f rfl Y ⟨tt,v,rfl,y,I⟩;rw[ye,zO]at U;rw[yg,zae U]at y;cases y;have a7:N tt=some (.tup [.int (j:Int),.int (F (sl.getD t 0) j)]):=I;have a2:=(u.trans Y).at d;walk_at "x"
    ·rename_i h1 h2 H5 b5 h5;refine⟨⟨_,_,rfl⟩,∅,_,h5,by rw[yb];exact yn f,?_⟩;dsimp only;rw[zdJ,if_pos (by rw[r,decide_eq_true h1,decide_eq_false (λz=>h2 (intsN_mem.mpr z))];rfl),zfU];rfl
    ·rename_i h1 h2;refine⟨⟨_,_,rfl⟩,∅,_,∅,yaM f,?_⟩;dsimp only;rw[zdJ,if_neg (by rw[decide_eq_true (intsN_mem.mp h2)];simp),y3]
    ·rename_i h1;refine⟨⟨_,_,rfl⟩,∅,_,∅,yaM f,?_⟩;dsimp only;rw[zdJ,if_neg (by rw[r,decide_eq_false h1];simp),y3]
   ·rintro D H3 vs X u C f rfl;rw[ye,zO]at C;have q:=u.at d;have L:=yba (λk=>g (sl.getD t 0) k&&!decide (k∈sl)) "0e";rw[yB]at L;have a9:=zai (l:="0e".filter λk=>g (sl.getD t 0) k&&!decide (k∈sl));walk_at "x";refine ztB q C ⋯ λN b4 h4=>?_;walk_at "x";refine⟨_,rfl,?_,∅⟩;rw[Rc.seq_succ (by rw[hs];exact b),hs,zfU];exact h4
 ·rename_i M
  have:=Rc.seq_end (g:=g) hi Z ⋯
  rw[this]at d;walk_at "x";exact k p _ fp G d
def zgT(T:Txt K mg):T.d_closed_circle.Ok P w base 2 (zgZ K):=by
 refine T.d_closed_circle.F.okN sc_closed_circle "0f" λae A outer s H vs Q E hr h=>?_;obtain⟨a,b,n,as,F,ρ,rfl,ha,ad,hR,hb,h9,k⟩:=h;have N:(zaj n ρ).length=n:=zbk;refine⟨_,(zj (zC 2 sc_closed_circle (zam zh))
 (zj (zU PassesOwn.never rfl (zac rfl T.z_range (za (zbY K T.z_len (za (pv 1) zh)) zh)) (zG (i:=3) sc_closed_circle.nd rfl "0j")
 (zj (zC 4 sc_closed_circle (qD T.d_reach_of (zlZ (base:=base) T) hr (za (pv 0) (za (pv 3) zh))))
 (zk (zQ (zcX K (zaA (show CallR _ _ (zka K)from zoR rfl) rfl T.z_all BT.all (za (qC1 ["other", "ranks"] [none,some 1] (zW K (pv 4)) (λ_ _ _ _ _=>(zc3 zc0 (qIx K (pv 1) (pv 0)) zbc (nomark _)))) zh)))
 (zk (zaO (qAp K (pv 2) (za (pv 4) zh))))
 zJ))))
 (zk (zB (show PE _ _ (zmn K _)from zoo rfl (by rfl) T.z_min BT.min (by rfl) T.z_len BT.len (za (pv 2) zh)))))),?_⟩
 refine zE (σ0:=[some (.ref a),some (.ref b),none,none,none]) rfl ?_;walk_at "x";rename_i cs H1 a6 e1 a3;generalize hg:(λi j=>decide (0<F i j))=g at k;have ac:∀i j,g i j=decide (0<F i j):=λi j=>by rw[<- hg]
 refine zcE (n:=((zaj n ρ).length:Int).toNat) (λi σ' H'=>∃(f3 f4:Option V) (ls:List Addr),σ'=[some (.ref a),some (.ref b),some (.ref cs),f3,f4]/\H' cs=some (.lst (ls.map V.ref))/\cs∉ls/\(∀c∈ls,H c=none)/\ls.length<=i/\LsOf H' ls (((List.range i).map (Rc.reach n g)).filter λl=>l.all λi=>(ρ i).isSome)/\Same H H') ⟨_,_,[],rfl,a3,(λz=>nomatch z),(λ_ z=>nomatch z),yc _,LsOf.nil,e1⟩ ?_ ?_
 ·rintro i σ' H2 hi ⟨f3,f4,ls,rfl,d,f,q,L,v,r⟩;have ei:(0:Int)+(i:Int)=i:=by lia
  rw[yh,N]at hi;have a8:=r.at ha;have a9:=hR.same r;have a0:=r.at hb;rw[ei];walk_at "x";rename_i p1 H3 S B G;rw[hg]at G;have er:((List.range (i+1)).map (Rc.reach n g)).filter (λl=>l.all λi=>(ρ i).isSome)=((List.range i).map (Rc.reach n g)).filter (λl=>l.all λi=>(ρ i).isSome)++if((Rc.reach n g i).all λi=>(ρ i).isSome)=true then[Rc.reach n g i] else[]:=by
   rw[yy,yk,yaP,yU,zso]
  rw[er];have a1:∀x∈Rc.reach n g i,x<n:=λx X=>Rc.reach_lt hi X;have af:(Rc.reach n g i).length<=n:=Rc.seq_len (g:=g) hi n;generalize Rc.reach n g i=rl at *
  have a4:=B.at a0;refine zM (z9 (K:=K) (a:=p1) (xs:=zaD rl)) (λH' e=>SqL.of (e.at G)) rfl (λj vs _=>vs=((rl.take j).map λx=>(ρ x).isSome).map V.bl) (λH' _=>rfl) ?_ ?_
  ·rintro j x D vs o H4 H5 I hD J hv O rfl e5 X;rw[zai]at I;rw[zbZ I]at X;cases X;have Z:=zbC I a1;have aa:=(J.trans e5).at a4;have ab:atI (zaj n ρ) ((rl.getD j 0:Nat):Int)=some (zcj (ρ (rl.getD j 0))):=zal (za8 Z);walk_at "x";rename_i H6 b6 h6;rw[zld,show(!(ρ (rl.getD j 0)).isNone)=(ρ (rl.getD j 0)).isSome by cases ρ (rl.getD j 0)<;>rfl]at h6;refine⟨⟨_,rfl⟩,∅,_,h6,by rw[yb];exact yn O,?_⟩;dsimp only;have Y:rl[j]?=some (rl.getD j 0):=by rw[yf,yl I];rfl
   rw[zH Y,yk,yk];rfl
  ·rintro D H4 vs hD J hv O rfl;rw[zai,yr]at hv;have a7:(ls.map V.ref).length<=100000:=by rw[ye];lia
   have ea:((rl.map λx=>(ρ x).isSome).all id)=rl.all λi=>(ρ i).isSome:=by rw[List.all_map];rfl
   have W:H4 cs=some (.lst (ls.map V.ref)):=(B.trans J).at d;have y:=B.trans J;walk_at "x"
   ·rename_i t H5 b5 h5;rw[ea]at t;have R:p1≠cs:=zb8 S d;refine⟨_,_,ls++[p1],rfl,by rw[h5,yk];rfl,λz=>?_,λc u=>?_,by rw[yb];simp only[y8];lia,?_,∅⟩
    ·rcases yH.mp z with h | h
     ·exact f h
     ·exact R (ym.mp h).symm
    ·rcases yH.mp u with h | h
     ·exact q c h
     ·rw[ym.mp h];exact Same.none S r
    ·rw[if_pos t];exact((v.same y).but b5 f).snoc (b5.lst (J.at G) R)
   ·rename_i U;rw[ea]at U;rw[if_neg (by rw[U];decide),y3];exact⟨_,_,ls,rfl,W,f,q,yaM L,v.same y,r.trans y⟩
 ·rintro σ' H2 ⟨f3,f4,ls,rfl,d,f,q,L,v,r⟩;rw[yh,N]at v;have a5:∀c∈("0e".map (Rc.reach n g)).filter (λl=>l.all λi=>(ρ i).isSome),c.length<=n:=λc u=>by
   obtain⟨i,hi,rfl,_⟩:=Rc.mem_circles.mp u;exact Rc.seq_len (g:=g) hi n
  have a2:Rc.circle n g (λi=>(ρ i).isSome)=Rc.minL (("0e".map (Rc.reach n g)).filter λl=>l.all λi=>(ρ i).isSome):=rfl;rw[a2]at k;generalize (("0e".map (Rc.reach n g)).filter λl=>l.all λi=>(ρ i).isSome)=C at *
  show(zj5 (zm0 2) ziq) _ _ (zmK K _)
  walk_at "x";refine⟨cs,ls,λi=>(C.getD i []).length,rfl,SqL.of d,λi c u=>?_,λp H3 fp B hp=>⟨λhn=>?_,λi c u M=>?_⟩⟩
  ·obtain⟨l,h1,h2⟩:=v.2 i c u;have e:C.getD i []=l:=by rw[yf,h1];rfl
   have:=a5 l (ya h1)
   exact⟨_,h2,by rw[zai];exact(congrArg List.length e).symm,by show(C.getD i []).length<=16000;rw[e];lia⟩
  ·have hC:C=[]:=yah (by rw[<- v.1,hn];rfl);rw[hC]at k;exact k p H3 (Same.none fp r) (r.trans B) hp
  ·obtain⟨l,h1,h2⟩:=v.2 i c u;have e:C.getD i []=l:=by rw[yf,h1];rfl
   have em:=zrZ h1 λj m hm=>by
    have I:j<ls.length:=by rw[v.1];exact(yj.mp hm).1
    have:=M j I
    dsimp only at this;rw[e,show C.getD j []=m by rw[yf,hm];rfl]at this;exact this
   rw[em]at k;exact k c H3 (q c (ya u)) (r.trans B) (B.at h2)
def zgs(T:Txt K mg):T.d_balances.Ok P w base 1 (zm8 K):=by
 refine T.d_balances.F.okN sc_balances "0f" λam A outer s H vs Q E hr h=>?_;obtain⟨a,b,n,as,F,c,rfl,ha,ak,hR,hb,hc,c9,h9,k⟩:=h;refine⟨_,(zj (qS1 2 sc_balances ["member", "members", "flows"] [none,some 1,some 0] (zW K (pv 1)) (λ_ _ _ _ _=>(qC1 ["other", "flows", "member"] [none,some 2,some 0] (zW K (pv 1)) (λ_ _ _ _ _=>(zN (za (zcI zb2 (qIx K (qIx K (pv 1) (pv 0)) (pv 2))) (za ze zh)))))))
 (zj (zU PassesOwn.never rfl (zbI K T.z_enumerate (za (pv 1) zh)) (show PG _ _ (zbB K 2 _)from za5 (n:=2) rfl (zI (zG (i:=3) sc_balances.nd rfl "0j") (zI (zG (i:=4) sc_balances.nd rfl "0j") zaL)))
 (zk (za1 (zN (za (zkt K T.z_sum (za (qIx K (pv 0) (pv 4)) zh)) (za ze zh))) (za6 (qIx K (pv 2) (pv 3)) (pv 3) zT))))
 (zk (zB (pv 2))))),?_⟩
 refine zE (σ0:=[some (.ref a),some (.ref b),none,none,none]) rfl ?_;walk_at "x";refine zM (z9 (K:=K) (a:=b) (xs:=zaD c)) (λH' e=>SqL.of (e.at hb)) rfl (λi vs H'=>∃bs:List Addr,vs=bs.map V.ref/\bs.length=i/\PRows H' bs (λa=>(List.range c.length).map λb=>((-F (c.getD b 0) (c.getD a 0):Int):Rat))/\∀b∈bs,H b=none) (λH' _=>⟨[],rfl,rfl,PRows.nil,λ_ h=>nomatch h⟩) ?_ ?_
 ·rintro i x D vs o H2 H3 hi hD M hv a0 ⟨bs,rfl,C,hP,hF⟩ d N;rw[zai]at hi;rw[zbZ hi]at N;cases N;have W:=zbC hi hc;have ab:=(M.trans d).at hb;have ad:=(M.trans d).at ha;have a8:=hR.same (M.trans d);walk_at "x";refine zM (z9 (K:=K) (a:=b) (xs:=zaD c)) (λH' e=>SqL.of (e.at ab)) rfl (λj vs H'=>IsQs H' vs ((List.range j).map λb=>((-F (c.getD b 0) (c.getD i 0):Int):Rat))) (λH' _=>trivial) ?_ ?_
  ·rintro j x D2 vs o2 H4 H5 S u f R L hQ G N;rw[zai]at S;rw[zbZ S]at N;cases N;have ai:=zbC S hc;obtain⟨r,B⟩:=zw (show c.getD j 0<as.length by lia);have ah:=(a8.same (f.trans G)).2 _ _ B;have ag:=(f.trans G).at ad;have a2:atI (as.map V.ref) ((c.getD j 0:Nat):Int)=some (.ref r):=zal (by rw[yg,B];rfl);have X:atI ((vec n (F (c.getD j 0))).map V.int) ((c.getD i 0:Nat):Int)=some (.int (F (c.getD j 0) (c.getD i 0))):=zal (by rw[yg,zae W];rfl);walk_at "x";refine zan (q:=((-F (c.getD j 0) (c.getD i 0):Int):Rat)) ⟨rfl,rfl⟩ ?_;intro p H6 e6 hp;have aj:=(G.trans e6).at R;walk_at "x";rename_i H7 b7 h7;refine⟨⟨_,rfl⟩,b7.same ((f.trans G).trans e6) u,_,h7,by rw[yb];exact yn L,?_⟩;show IsQs H7 _ ((List.range (j+1)).map _);rw[yy,yk,yU];exact IsQs.app (LBut.isQ b7 hp) (LBut.isQs b7 (hQ.same (G.trans e6)))
  ·rintro D2 H4 vs u f R L hQ;rw[zai]at hQ;have ao:=(d.trans f).at hv;walk_at "x";rename_i H5 b5 h5;have ac:D∉bs:=hP.ne hv;have a4:D2∉bs:=(hP.same d).fresh u;have a9:D2≠D:=λz=>by rw[z,d.at hv]at u;cases u
   refine⟨⟨_,rfl⟩,b5.same ((M.trans d).trans f) hD,_,h5,by rw[yb];exact yn a0,bs++[D2],by rw[yk];rfl,by rw[yb,C];rfl,PRows.snoc ((hP.same (d.trans f)).but b5 ac) a4 (b5.lst R a9) (by rw[C];exact LBut.isQs b5 hQ),λy hy=>?_⟩;rcases yH.mp hy with h | h
   ·exact hF y h
   ·rw[ym.mp h];exact Same.none u (M.trans d)
 ·rintro l H2 vs fl M hl a0 ⟨bs,rfl,C,hP,hF⟩;rw[zai]at C;walk_at "x";have aa:l∉bs:=hP.ne hl;have aq:=M.at hb;refine zcM (zaK (K:=K) (a:=b) (xs:=zaD c)) (λi σ' H'=>∃f3 f4:Option V,σ'=[some (.ref a),some (.ref b),some (.ref l),f3,f4]/\H' l=some (.lst (bs.map V.ref))/\PRows H' bs (λa=>(List.range c.length).map λb=>(((if a<i then zbT n F c a b else -F (c.getD b 0) (c.getD a 0)):Int):Rat))/\Same H H') ⟨_,_,rfl,hl,hP.congr λm hm=>(by simp),M⟩ ?_ ?_ ?_
  ·rintro i σ' H' ⟨_,_,_,_,_,e⟩;exact SqL.of (e.at hb)
  ·rintro i x σ' H3 H4 hi ⟨f3,f4,rfl,O,J,d⟩ f ⟨t,v,rfl,N,a5⟩;rw[zai]at hi;rw[zbZ hi]at N;cases N;have ap:H4 t=some (.tup [.int (i:Int),.int ((c.getD i 0:Nat):Int)]):=a5;have W:=zbC hi hc;have al:=(d.trans f).at ha;obtain⟨r,B⟩:=zw (show c.getD i 0<as.length by lia);have an:=(hR.same (d.trans f)).2 _ _ B;have a2:atI (as.map V.ref) ((c.getD i 0:Nat):Int)=some (.ref r):=zal (by rw[yg,B];rfl);obtain⟨s1,I⟩:=zw (show i<bs.length by lia);have X:atI (bs.map V.ref) (i:Int)=some (.ref s1):=zal (by rw[yg,I];rfl);have af:=f.at O;obtain⟨ws,a3,Z⟩:=(J.same f).2 _ _ I;have a1:=Z.length;rw[ye,yB]at a1;walk_at "x";refine zan (q:=((zak (vec n (F (c.getD i 0))):Int):Rat)) ⟨rfl,rfl⟩ ?_;intro p H5 G hp;have ae:=G.at af;have a7:=G.at a3;walk_at "x";refine zbA (j:=((i:Int)).toNat) a7 (zbF ⋯ ⋯) ?_;intro H6 Y h6;rw[yh]at h6;walk_at "x";have U:s1∈bs:=ya I;have a6:l≠s1:=λz=>aa (z▸U);refine⟨_,_,rfl,Y.lst ae a6,((((J.same f).same G).upd Y I h6 (IsQs.setQ (LBut.isQ Y hp) i (LBut.isQs Y (Z.same G)))).congr λm hm=>?_),Y.same ((d.trans f).trans G) (hF _ U)⟩;dsimp only;by_cases e:m=i
   ·subst e;rw[if_pos rfl,ziU];refine yI λj S=>?_;unfold zbT;by_cases g:j=m
    ·rw[if_pos g,if_pos ⋯,if_pos g.symm]
    ·rw[if_neg g,if_neg ⋯,if_pos ⋯,if_neg (λz=>g z.symm)]
   ·rw[if_neg e];refine yI λj S=>?_;by_cases g:m<i
    ·rw[if_pos g,if_pos ⋯]
    ·rw[if_neg g,if_neg ⋯]
  ·rintro σ' H3 ⟨f3,f4,rfl,O,J,d⟩;walk_at "x";exact k l H3 bs fl d O C (J.congr λm hm=>yI λj S=>(by rw[zai,if_pos ⋯])) hF
def zgo(T:Txt K mg):T.d_rates_of.Ok P w base 3 (zms K):=by
 refine T.d_rates_of.F.okN sc_rates_of "0f" λad A outer s H vs Q E hr h=>?_;obtain⟨a,b,d,n,as,F,c,ws,x,rfl,ha,a4,hR,hb,hc,nd,c9,h9,hd,Y,z1,z2,k⟩:=h;refine⟨_,(zj (qS1 3 sc_rates_of ["flow"] [none] (zW K (pv 0)) (λ_ _ _ _ _=>(zN (za ze (za ze zh)))))
 (zj (zU PassesOwn.never rfl (zbI K T.z_enumerate (za (pv 1) zh)) (show PG _ _ (zbB K 2 _)from za5 (n:=2) rfl (zI (zG (i:=4) sc_rates_of.nd rfl "0j") (zI (zG (i:=5) sc_rates_of.nd rfl "0j") zaL)))
 (zk (za1 (qD T.d_times (zdW (base:=base) T) hr (za (qIx K (pv 2) (pv 4)) (za (zN (za (zkt K T.z_sum (za (qIx K (pv 0) (pv 5)) zh)) (za ze zh))) zh))) (za6 (pv 3) (pv 5) zT))))
 (zk (zB (pv 3))))),?_⟩
 refine zE (σ0:=[some (.ref a),some (.ref b),some (.ref d),none,none,none]) rfl ?_;walk_at "x";refine zM (z9 (K:=K) (a:=a) (xs:=as.map V.ref)) (λH' e=>SqL.of (e.at ha)) rfl (λi vs H'=>IsQs H' vs ((List.range i).map λ_=>(0:Rat))) (λH' _=>trivial) ?_ ?_
 ·rintro i x D vs o H2 H3 hi hD L hv I S C Y;rw[ye]at hi;walk_at "x";refine zan (q:=(0:Rat)) ⟨rfl,rfl⟩ ?_;intro p H4 B hp;have aa:=(C.trans B).at hv;walk_at "x";rename_i H5 b5 h5;refine⟨⟨_,rfl⟩,b5.same ((L.trans C).trans B) hD,_,h5,by rw[yb];exact yn I,?_⟩;show IsQs H5 _ ((List.range (i+1)).map _);rw[yy,yk,yU];exact IsQs.app (LBut.isQ b5 hp) (LBut.isQs b5 (S.same (C.trans B)))
 ·rintro l H2 vs fl L hl I S;rw[ye,a4]at S;walk_at "x";refine zcM (zaK (K:=K) (a:=b) (xs:=zaD c)) (λi R H'=>∃(f4 X:Option V) (us:List V),R=[some (.ref a),some (.ref b),some (.ref d),some (.ref l),f4,X]/\H' l=some (.lst us)/\IsQs H' us ("0e".map λj=>sF i (λa=>c.getD a 0) x j*((zak (vec n (F j)):Int):Rat))/\Same H H') ⟨_,_,vs,rfl,hl,by rw[show"0e".map (λj=>sF 0 (λa=>c.getD a 0) x j*((zak (vec n (F j)):Int):Rat))="0e".map (λ_=>(0:Rat))from yI λj _=>by show(0:Rat)*_=0;grind];exact S,L⟩ ?_ ?_ ?_
  ·rintro i R H' ⟨_,_,_,_,_,_,e⟩;exact SqL.of (e.at hb)
  ·rintro i y R H3 H4 hi ⟨f4,X,us,rfl,G,M,C⟩ B ⟨t,v,rfl,hy,a5⟩;rw[zai]at hi;rw[zbZ hi]at hy;cases hy;have ag:H4 t=some (.tup [.int (i:Int),.int ((c.getD i 0:Nat):Int)]):=a5;have W:=zbC hi hc;have f:=C.trans B;have a9:=f.at ha;have ac:=f.at hd;obtain⟨r,J⟩:=zw (show c.getD i 0<as.length by lia);have af:=(hR.same f).2 _ _ J;have ab:atI (as.map V.ref) ((c.getD i 0:Nat):Int)=some (.ref r):=zal (by rw[yg,J];rfl);have a2:=Y.length;rw[ye,yB]at a2;have Z:=M.length;rw[ye,yB]at Z;obtain⟨v,O⟩:=zw (show i<ws.length by lia);obtain⟨g,q,rfl,N,a6⟩:=Y.get O;rw[yg,yQ hi]at N;cases N;have a8:atI ws (i:Int)=some (.ref g):=zal O;have a3:=f.isQ a6;have zx:=z1 i hi;have zs:=z2 _ W;walk_at "x";refine zan (q:=((zak (vec n (F (c.getD i 0))):Int):Rat)) ⟨rfl,rfl⟩ ?_;intro p H5 U hp;have ae:=U.isQ a3;have a1:=(B.trans U).at G;walk_at "x";rename_i t2 H6 e6 a0;have a7:=e6.at a1;refine zbA (j:=((c.getD i 0:Nat):Int).toNat) a7 (zbF ⋯ ⋯) ?_;intro H7 b7 h7;rw[yh]at h7;walk_at "x";refine⟨_,_,_,rfl,h7,?_,b7.same ((f.trans U).trans e6) fl⟩;have u:=IsQs.setQ (LBut.isQ b7 a0) (c.getD i 0) (LBut.isQs b7 (M.same ((B.trans U).trans e6)));rw[ziU]at u;have e:"0e".map (λm=>if m=c.getD i 0 then x i*((zak (vec n (F (c.getD i 0))):Int):Rat)else sF i (λa=>c.getD a 0) x m*((zak (vec n (F m)):Int):Rat))="0e".map λj=>sF (i+1) (λa=>c.getD a 0) x j*((zak (vec n (F j)):Int):Rat):=by
    refine yI λm _=>?_;have es:sF (i+1) (λa=>c.getD a 0) x m=sF i (λa=>c.getD a 0) x m+(if c.getD i 0=m then x i else 0):=rfl;rw[es];by_cases e:m=c.getD i 0
    ·rw[if_pos e,if_pos e.symm,e,zhX λa ha L=>absurd (za9 nd a i ⋯ hi L) ⋯];grind
    ·rw[if_neg e,if_neg λz=>e z.symm];grind
   rw[<- e];exact u
  ·rintro R H3 ⟨f4,X,us,rfl,G,M,C⟩;rw[zai]at M;walk_at "x";exact k l H3 us fl C G M
def zgn(T:Txt K mg):T.d_circling_rates.Ok P w base 4 (zoK K):=by
 refine T.d_circling_rates.F.okN zch "0f" λb0 A outer s H vs Q E hr h=>?_;obtain⟨a,b,n,as,F,c,rfl,ha,af,hR,hb,hc,nd,c1,c9,h9,hz,a2,k⟩:=h;refine⟨_,(zj (zC 2 zch (qD T.d_balances (zgs (base:=base) T) hr (za (pv 0) (za (pv 1) zh))))
 (zj (qS1 3 zch ["member"] [none] (zW K (pv 1)) (λ_ _ _ _ _=>(zN (za ze (za ze zh)))))
 (zj (za1 (qC1 ["place"] [none] (zac rfl T.z_range (za (zbY K T.z_len (za (pv 1) zh)) zh)) (λ_ _ _ _ _=>(zN (za (zdZ (zD (qEq K hr.units) (pv 0) ze (nomark _)) ze ze) (za ze zh))))) (za6 (pv 2) ze zT))
 (zj (za1 (zN (za ze (za ze zh))) (za6 (pv 3) ze zT))
 (zk (zB (qD T.d_rates_of (zgo (base:=base) T) hr (za (pv 0) (za (pv 1) (za (qD T.d_solved (zjC (base:=base) T) hr (za (pv 2) (za (pv 3) zh))) zh)))))))))),?_⟩
 refine zE (σ0:=[some (.ref a),some (.ref b),none,none]) rfl ?_;walk_at "x";rename_i ro H1 bs ay e1 G aw hP hF;have a4:=e1.at hb;refine zM (z9 (K:=K) (a:=b) (xs:=zaD c)) (λH' e=>SqL.of (e.at a4)) rfl (λi vs H'=>IsQs H' vs ((List.range i).map λ_=>(0:Rat))) (λH' _=>trivial) ?_ ?_
 ·rintro i x D vs o H2 H3 hi N J hv B hQ t hx;rw[zai]at hi;walk_at "x";refine zan (q:=(0:Rat)) ⟨rfl,rfl⟩ ?_;intro p H4 C M;have b1:=(t.trans C).at hv;walk_at "x";rename_i H5 b5 h5;refine⟨⟨_,rfl⟩,b5.same ((J.trans t).trans C) N,_,h5,by rw[yb];exact yn B,?_⟩;show IsQs H5 _ ((List.range (i+1)).map _);rw[yy,yk,yU];exact IsQs.app (LBut.isQ b5 M) (LBut.isQs b5 (hQ.same (t.trans C)))
 rintro Z H2 vs I J X B hQ;rw[zai]at hQ;have b2:=J.at a4;have b3:=zai (l:=c);walk_at "x";refine zM (zbg (lo:=0) (n:=((zaD c).length:Int).toNat)) (λ_ _=>trivial) rfl (λi vs H'=>IsQs H' vs ((List.range i).map λm=>if m=0 then(1:Rat)else 0)) (λH' _=>trivial) ?_ ?_
 ·rintro i x D us o H3 H4 hi N t hv B Y C rfl;have ei:(0:Int)+(i:Int)=i:=by lia
  rw[ei];walk_at "x"
  ·refine zan (q:=(1:Rat)) ⟨rfl,rfl⟩ ?_;rename_i aq;intro p H5 f M;have ao:=(C.trans f).at hv;walk_at "x";rename_i O d S;refine⟨⟨_,rfl⟩,d.same ((t.trans C).trans f) N,_,S,by rw[yb];exact yn B,?_⟩;show IsQs O _ ((List.range (i+1)).map _);rw[yy,yk,yU,if_pos ⋯];exact IsQs.app (LBut.isQ d M) (LBut.isQs d (Y.same (C.trans f)))
  ·refine zan (q:=(0:Rat)) ⟨rfl,rfl⟩ ?_;rename_i aq;intro p H5 f M;have ao:=(C.trans f).at hv;walk_at "x";rename_i O d S;refine⟨⟨_,rfl⟩,d.same ((t.trans C).trans f) N,_,S,by rw[yb];exact yn B,?_⟩;show IsQs O _ ((List.range (i+1)).map _);rw[yy,yk,yU,if_neg ⋯];exact IsQs.app (LBut.isQ d M) (LBut.isQs d (Y.same (C.trans f)))
 rintro D H3 us U t N az Y;rw[yh,zai]at Y;have a5:=(J.trans t).at G;have a8:ro∉bs:=hP.ne G;have nD:D∉bs:=(hP.same J).fresh U;have a7:ro≠D:=λz=>by rw[<- z,J.at G]at U;cases U
 have au:Z∉bs:=hP.fresh I;have v:Z≠ro:=λz=>by rw[z,G]at I;cases I
 have W:Z≠D:=λz=>by rw[<- z,X]at U;cases U
 have a1:∀y∈bs.set 0 D,y∈bs\/y=D:=λy hy=>yaV hy;walk_at "x";refine zbA (j:=(0:Int).toNat) a5 (zbF ⋯ (by rw[ye];lia)) ?_;intro H4 b4 h4;rw[show(0:Int).toNat=0 from rfl,<- ybU]at h4;have ae:Same H H4:=b4.same ((e1.trans J).trans t) ay;have aj:=((hP.same (J.trans t)).put (j:=0) nD N Y).but b4 (λz=>(a1 ro z).elim a8 a7);have a6:H4 Z=some (.lst vs):=b4.lst (t.at X) v;have ap:=LBut.isQs b4 (hQ.same t);have a0:=hQ.length;rw[ye,yB]at a0;walk_at "x";refine zan (q:=(1:Rat)) ⟨rfl,rfl⟩ ?_;intro p5 H5 f ad;walk_at "x";refine zbA (j:=(0:Int).toNat) (f.at a6) (zbF ⋯ ⋯) ?_;intro O d S;rw[show(0:Int).toNat=0 from rfl]at S;have a3:=IsQs.setQ (LBut.isQ d ad) 0 (LBut.isQs d (ap.same f));rw[ziU]at a3;have u:Same H O:=d.same (ae.trans f) (Same.none I e1);have am:O ro=some (.lst ((bs.set 0 D).map V.ref)):=d.lst (f.at h4) (λz=>v z.symm);have ag:=(aj.same f).but d (λz=>(a1 Z z).elim au W);have ab:=u.at ha;have ai:=hR.same u;have aa:=u.at hb;walk_at "x";refine zgx (n:=c.length) (R:=λl j=>if j=c.length then(if l=0 then 1 else 0)else zcW n F c l j) ⟨⟨bs.set 0 D,am,by rw[yar];exact aw,λl g hg=>?_⟩,⟨_,S,?_⟩⟩ c9 (λl j hl hj=>?_) "0a" "0a" "0a" ?_ ?_ ?_
 ·obtain⟨ws,w1,w2⟩:=ag.2 l g hg;refine⟨ws,w1,?_⟩;dsimp only at w2;have e:∀j∈List.range c.length,(if j=c.length then(if l=0 then(1:Rat)else 0)else zcW n F c l j)=zcW n F c l j:=λj hj=>if_neg (by have:=yF.mp hj;lia);rw[yI e];by_cases e:l=0
  ·rw[if_pos e]at w2;rw[show(List.range c.length).map (zcW n F c l)=(List.range c.length).map (λm=>if m=0 then(1:Rat)else 0)from yI λj _=>if_pos e];exact w2
  ·rw[if_neg e]at w2;rw[show(List.range c.length).map (zcW n F c l)=(List.range c.length).map (λb=>((zbT n F c l b:Int):Rat))from yI λj _=>if_neg e];exact w2
 ·rw[show(λl=>if c.length=c.length then(if l=0 then(1:Rat)else 0)else zcW n F c l c.length)=λl=>if l=0 then(1:Rat)else 0 from funext λl=>if_pos rfl];exact a3
 ·have z1:SzQ (1:Rat) 60 1:=zdv (x:=1) (yi zfO "0a");have z0:SzQ (0:Rat) 60 1:=zdv (x:=0) (zaJ "0a");split
  ·split
   ·exact z1
   ·exact z0
  ·unfold zcW;split
   ·split
    ·exact z1
    ·exact z0
   ·exact zdv (hz.bal hc hl ⋯)
 ·have:=zeH (n:=c.length) ⋯
  show c.length*(60+(c.length+1)*1+4)<=8990;lia
 ·intro z;refine a2 (z▸Dt.det_congr λj r hj hr=>?_);show zcW n F c r j=if j=c.length then _ else _
  rw[if_neg ⋯]
 intro p H7 ws x fp e7 M hx ak a9;have al:=e7.at ab;have av:=ai.same e7;have ax:=e7.at aa;have L:∀m,m<c.length->SzQ (x m) 667 667:=λm hm=>(a9 m hm).mono (zeH c9) (zeH c9);walk_at "x";refine zjB al af av ax hc nd c9 h9 M hx (λm hm=>(L m hm).mono "0a" "0a") (λi hi=>hz.sum hi) ?_;intro p' H8 an ah e8 ac ar;refine k p' H8 an x (Same.none ah (u.trans e7)) ((u.trans e7).trans e8) ac ar (λl hl=>?_) L
 have:=ak l hl
 rw[if_pos rfl]at this;rw[<- this];refine Dt.sm_congr λm hm=>?_;rw[if_neg ⋯]
def zgV(T:Txt K mg):T.d_opening_rates.Ok P w base 4 (zoe K):=by
 refine T.d_opening_rates.F.okN sc_opening_rates "0f" λak A outer s H vs Q E hr h=>?_;obtain⟨a,b,d,n,as,F,ρ,ps,rfl,ha,a3,hR,hb,hd,ap,a5,h9,hz,O,k⟩:=h;have U:(zaj n ρ).length=n:=zbk;refine⟨_,(zj (zeB (i:=3) sc_opening_rates.nd rfl rfl rfl (zbI K T.z_enumerate (za (pv 1) zh)) (za7 (Ni:=["member", "rank"]) (caps:=[none,none]) (by rfl)) (λS _ _ _ _ _=>(show PG _ _ (zbB K 2 _)from za5 (n:=2) rfl (zI (zbb (gi:=0) S "0j" rfl) (zI (zbb (gi:=1) S "0j" rfl) zaL)))) (λ_ _ _ _ _=>(zh7 (zD zc0 (pv 1) zbc (nomark _)))) (λ_ _ _ _ _=>(pv 0)))
 (zj (qS1 4 sc_opening_rates ["member", "purses"] [none,some 2] (zW K (pv 3)) (λ_ _ _ _ _=>(zN (za (qIx K (pv 1) (pv 0)) (za ze zh)))))
 (zk (zB (qD T.d_rates_of (zgo (base:=base) T) hr (za (pv 0) (za (pv 3) (za (qD T.d_solved (zjC (base:=base) T) hr (za (qD T.d_balances (zgs (base:=base) T) hr (za (pv 0) (za (pv 3) zh))) (za (pv 4) zh))) zh)))))))),?_⟩
 refine zE (σ0:=[some (.ref a),some (.ref b),some (.ref d),none,none]) rfl ?_;walk_at "x";refine zbL (zaK (K:=K) (a:=b) (xs:=zaj n ρ)) (λH' e=>SqL.of (e.at hb)) rfl (λj vs _=>vs=zaD ((List.range j).filter λi=>(ρ i).isSome)) (λH' _=>rfl) ?_ ?_
 ·rintro j x D vs o o' H3 H4 B hD f hv t rfl y ⟨tt,v,rfl,J,a7⟩;rw[U]at B;rw[za8 B]at J;cases J;have al:H4 tt=some (.tup [.int (j:Int),zcj (ρ j)]):=a7;walk_at "x"
  ·rename_i h1 Z b5 h5;refine⟨⟨_,_,rfl⟩,∅,_,h5,by rw[yb];exact yn t,?_⟩;dsimp only;rw[zdJ,if_pos (by cases B:ρ j with | none=>rw[B]at h1;exact absurd rfl h1 | some _=>rfl),zfU];rfl
  ·rename_i h1;refine⟨⟨_,_,rfl⟩,∅,_,∅,yaM t,?_⟩;dsimp only;rw[zdJ,if_neg (by cases B:ρ j with | none=>decide | some _=>rw[B]at h1;cases h1),y3]
 rintro sh H1 vs ai X L t rfl;rw[U]at L;have hc:=zpC (n:=n) (ρ:=ρ);have nd:=zoz (n:=n) (ρ:=ρ);have ao:=znj (n:=n) (ρ:=ρ);have C:H1 sh=some (.lst (zaD (shorts n ρ))):=L;generalize shorts n ρ=c at *
 clear L;walk_at "x";refine zM (z9 (K:=K) (a:=sh) (xs:=zaD c)) (λH' e=>SqL.of (e.at C)) rfl (λi vs H'=>IsQs H' vs ((List.range i).map λl=>((ps.getD (c.getD l 0) 0:Int):Rat))) (λH' _=>trivial) ?_ ?_
 ·rintro i x D vs o H2 H3 hi hD G hv t hQ f J;rw[zai]at hi;rw[zbZ hi]at J;cases J;have aj:=zbC hi hc;obtain⟨p0,u⟩:=zw (show c.getD i 0<ps.length by lia);have M:ps.getD (c.getD i 0) 0=p0:=by rw[yf,u];rfl
  have ah:atI (ps.map V.int) ((c.getD i 0:Nat):Int)=some (.int p0):=zal (by rw[yg,u];rfl);have ag:=((X.trans G).trans f).at hd;walk_at "x";refine zan (q:=((p0:Int):Rat)) ⟨rfl,rfl⟩ ?_;intro p H4 y hp;have am:=(f.trans y).at hv;walk_at "x";rename_i Z b5 h5;refine⟨⟨_,rfl⟩,b5.same ((G.trans f).trans y) hD,_,h5,by rw[yb];exact yn t,?_⟩;show IsQs Z _ ((List.range (i+1)).map _);rw[yy,yk,yU,M];exact IsQs.app (LBut.isQ b5 hp) (LBut.isQs b5 (hQ.same (f.trans y)))
 rintro ri H2 vs aq G a2 t hQ;rw[zai]at hQ;have ac:=(X.trans G).at ha;have ad:=hR.same (X.trans G);have N:=G.at C;walk_at "x";rename_i ro H3 bs ar f a4 af hP hF;have Y:=f.at a2;have eR:∀l,(List.range c.length).map (λj=>if j=c.length then((ps.getD (c.getD l 0) 0:Int):Rat) else((zbT n F c l j:Int):Rat))=(List.range c.length).map λj=>((zbT n F c l j:Int):Rat):=λl=>yI λj B=>by
  have:=yF.mp B
  rw[if_neg ⋯]
 refine zay ?_;refine zgx (n:=c.length) (R:=λl j=>if j=c.length then((ps.getD (c.getD l 0) 0:Int):Rat) else((zbT n F c l j:Int):Rat)) ⟨⟨bs,a4,af,λl g hg=>?_⟩,⟨vs,Y,?_⟩⟩ ⋯ (λl j hl B=>?_) "0a" "0a" "0a" ?_ ?_ ?_
 ·obtain⟨us,u1,u2⟩:=hP.2 l g hg;exact⟨us,u1,by rw[eR];exact u2⟩
 ·have:=hQ.same f
  rw[show(λl=>if c.length=c.length then((ps.getD (c.getD l 0) 0:Int):Rat) else((zbT n F c l c.length:Int):Rat))=λl=>((ps.getD (c.getD l 0) 0:Int):Rat)from funext λl=>if_pos rfl];exact this
 ·split
  ·have an:=zbC hl hc;obtain⟨p0,u⟩:=zw (show c.getD l 0<ps.length by lia);have M:ps.getD (c.getD l 0) 0=p0:=by rw[yf,u];rfl
   rw[M];exact zdv (yi (a5 p0 (ya u)) "0a")
  ·exact zdv (hz.bal hc hl ⋯)
 ·have:=zeH (n:=c.length) ⋯
  show c.length*(60+(c.length+1)*1+4)<=8990;lia
 ·intro z;refine O (z▸Dt.det_congr λj r B hr=>?_)
  show((zbT n F c r j:Int):Rat)=if j=c.length then _ else _
  rw[if_neg ⋯]
 intro p H4 us x fp y hp J a9 a0;have a6:=(f.trans y).at ac;have aa:=ad.same (f.trans y);have W:=(f.trans y).at N;have I:∀m,m<c.length->SzQ (x m) 667 667:=λm hm=>(a0 m hm).mono (zeH ⋯) (zeH ⋯);walk_at "x";refine zjB a6 a3 aa W hc nd ⋯ h9 hp J (λm hm=>(I m hm).mono "0a" "0a") (λi hi=>hz.sum hi) ?_;intro p' Z ab a8 e5 a1 ae;refine k p' Z ab x ?_ ((((X.trans G).trans f).trans y).trans e5) a1 ae (λl hl=>?_) I
 ·exact Same.none a8 (((X.trans G).trans f).trans y)
 ·have:=a9 l hl
  rw[if_pos rfl]at this;rw[<- this];refine Dt.sm_congr λm hm=>?_;rw[if_neg ⋯]
def zfj(T:Txt K mg):T.d_least_room.Ok P w base 4 (zoI K):=by
 refine T.d_least_room.F.okN sc_least_room "0f" λae A outer s H vs Q E hr h=>?_;obtain⟨a,b,d,e,n,as,ds,l,r,us,ws,rfl,ha,ab,hR,hb,hd,hu,he,hw,h9,hz,q1,q2⟩:=h;have O:=hw.length;rw[ye,yB]at O;have a3:=hu.length;rw[ye,yB]at a3;refine⟨_,(zj (zC 4 sc_least_room zbc)
 (zj (zU PassesOwn.never rfl (zbI K T.z_enumerate (za (pv 3) zh)) (show PG _ _ (zbB K 2 _)from za5 (n:=2) rfl (zI (zG (i:=5) sc_least_room.nd rfl "0j") (zI (zG (i:=6) sc_least_room.nd rfl "0j") zaL)))
 (zk (zQ (zD zcQ (qIx K (pv 6) ze) ze (nomark _))
 (zj (zC 7 sc_least_room (zkt K T.z_sum (za (zd2 (show SlR _ (zfM K)from zgj) (qIx K (pv 0) (pv 5)) zgk (zdA (zo (zaS K) (qIx K (pv 1) (pv 5)) ze))) zh)))
 (zj (zC 8 sc_least_room (qD T.d_over (zmE (base:=base) T) hr (za (qD T.d_minus (zeT (base:=base) T) hr (za (zN (za (pv 7) (za ze zh))) (za (qIx K (pv 2) (pv 5)) zh))) (za (pv 6) zh))))
 (zk (zC 4 sc_least_room (zdZ (zD zkR (pv 4) zbc (nomark _)) (pv 8) (qD T.d_least (zgM (base:=base) T) hr (za (pv 4) (za (pv 8) zh))))))))
 zJ)))
 (zk (zB (pv 4))))),?_⟩
 refine zE (σ0:=[some (.ref a),some (.ref b),some (.ref d),some (.ref e),none,none,none,none,none]) rfl ?_;walk_at "x";refine zcM (zaK (K:=K) (a:=e) (xs:=ws)) (λi σ' H'=>∃(v:V) (f5 f6 f7 f8:Option V),σ'=[some (.ref a),some (.ref b),some (.ref d),some (.ref e),some v,f5,f6,f7,f8]/\(match zao ds l r i with | none=>v=.non | some x=>∃p,v=.ref p/\IsQ H' p x)/\Same H H') ⟨_,_,_,_,_,rfl,rfl,Same.refl _⟩ ?_ ?_ ?_
 ·rintro i σ' H' ⟨_,_,_,_,_,_,_,e⟩;exact SqL.of (e.at he)
 ·rintro i y σ' H3 H4 hi ⟨v,f5,f6,f7,f8,rfl,m,J⟩ N ⟨t,v',rfl,hy,a4⟩;obtain⟨g,q,rfl,R,a5⟩:=hw.get hy;rw[yg,yQ ⋯]at R;cases R;have ah:H4 t=some (.tup [.int (i:Int),.ref g]):=a4;have a0:=(J.trans N).isQ a5;have en:(0:Rat)<r i↔0<(r i).num:=by rw[Rat.lt_iff];show(0:Int)*_<_*(1:Int)↔_;lia
  have k:zao ds l r (i+1)=if 0<r i then(match zao ds l r i with | none=>some (zar ds l r i) | some q=>some (if zar ds l r i<q then zar ds l r i else q))else zao ds l r i:=rfl
  walk_at "x"
  ·rename_i B;have u:=en.mpr B;obtain⟨z1,z2,z3,z4,z5,z6⟩:=hz i ⋯ u;rw[if_pos u]at k;obtain⟨ρ,hρ⟩:∃ρ,stp ds l i=some ρ:=by
    cases h:stp ds l i with
    | none=>exact absurd h z1
    | some ρ=>exact⟨ρ,rfl⟩
   have ad:ρ < 3:=(zbp hρ).1;have f:=J.trans N;obtain⟨c,hc⟩:=zw (show i<as.length by lia);have ac:=f.at ha;have aa:=f.at hb;have a2:=f.at hd;have af:=(hR.same f).2 _ _ hc;have a8:atI (as.map V.ref) (i:Int)=some (.ref c):=zal (by rw[yg,hc];rfl);have a9:atI (zaj n (stp ds l)) (i:Int)=some (.int (ρ:Int)):=by rw[<- show zcj (stp ds l i)=.int (ρ:Int) by rw[hρ];rfl];exact zal (za8 ⋯)
   obtain⟨v2,W⟩:=zw (show i<us.length by lia);obtain⟨g2,y2,rfl,h1,h2⟩:=(hu.same f).get W;rw[yg,yQ ⋯]at h1;cases h1;have a7:atI us (i:Int)=some (.ref g2):=zal W;walk_at "x";rename_i sl H5 ak e5 S;have X:zbS ((vec 3 (zA ds i)).map V.int) none (some ((ρ:Int)+1))=(vec (ρ+1) (zA ds i)).map V.int:=by
    obtain rfl | rfl | rfl:ρ=0\/ρ=1\/ρ=2:=by lia
    all_goals rfl
   rw[X]at S;refine zrz (SqL.of S) ?_;rw[zdB];have G:zbx ds l i=((zbn (zA ds i) (ρ+1):Int):Rat):=zf1 hρ;have al:(r i).num≠0:=by lia
   walk_at "x";refine zan (q:=zbx ds l i) ⟨by rw[G];rfl,by rw[G];rfl⟩ ?_;intro t2 H6 Y ag;have D:=e5.trans Y;have ai:=D.at a2;have an:=D.isQ h2;have am:=D.isQ a0;clear D;cases hro:zao ds l r i with
   | none=>
    rw[hro]at m k;subst m;have z7:SzQ ((zbx ds l i-l i)/r i) 60000 60000:=z6;walk_at "x"
    all_goals first | (exfalso;contradiction) | skip
    ·rename_i p1 H7 M U p2 H8 L C _;refine⟨_,_,_,_,_,rfl,?_,((f.trans e5).trans Y).trans (M.trans L)⟩;rw[k];exact⟨_,rfl,C⟩
   | some x=>
    rw[hro]at m k;obtain⟨p,rfl,Z⟩:=m;have a1:=((N.trans e5).trans Y).isQ Z;have aj:SzQ x 60000 60000:=by
     obtain⟨⟨j,hj,a6,rfl⟩,_⟩:=zbG hro;exact(hz j ⋯ a6).2.2.2.2.2
    have z7:SzQ ((zbx ds l i-l i)/r i) 60000 60000:=z6;walk_at "x"
    all_goals first | (exfalso;contradiction) | skip
    ·rename_i p1 H7 M U p2 H8 L C _ I;refine⟨_,_,_,_,_,rfl,?_,((f.trans e5).trans Y).trans (M.trans L)⟩;have o:zar ds l r i<x:=I;rw[k];dsimp only;rw[if_pos o];exact⟨_,rfl,C⟩
    ·rename_i p1 H7 M U p2 H8 L C _ I;refine⟨_,_,_,_,_,rfl,?_,((f.trans e5).trans Y).trans (M.trans L)⟩;have o:¬zar ds l r i<x:=I;rw[k];dsimp only;rw[if_neg o];exact⟨_,rfl,(M.trans L).isQ a1⟩
  ·rename_i B;rw[if_neg λz=>B (en.mp z)]at k;refine⟨_,_,_,_,_,rfl,?_,J.trans N⟩;rw[k];cases hro:zao ds l r i with
   | none=>rw[hro]at m;exact m
   | some x=>rw[hro]at m;obtain⟨p,rfl,Z⟩:=m;exact⟨p,rfl,N.isQ Z⟩
 ·rintro σ' H3 ⟨v,f5,f6,f7,f8,rfl,m,J⟩;rw[O]at m;walk_at "x";cases hro:zao ds l r n with
  | none=>rw[hro]at m;rw[show v=.non from m];exact q1 hro H3 J
  | some x=>rw[hro]at m;obtain⟨p,rfl,Z⟩:=m;exact q2 x hro p H3 J Z
def zk5(T:Txt K mg):T.d_grown.Ok P w base 3 (zmL K):=by
 refine T.d_grown.F.okN zqX "0f" λW A outer s H vs Q E L h=>?_;obtain⟨d,e,s,n,l,r,t,us,ws,rfl,hd,I,X,J,hs,h9,z0,hz,k⟩:=h;have y:=J.length;rw[ye,yB]at y;have z:=I.length;rw[ye,yB]at z;refine⟨_,(zk (zB (qC2 K ["lay", "rate", "step"] [none,none,some 2] (show PI _ _ _ (zqF K _)from znZ rfl T.z_zip (za (pv 0) (za (pv 1) zh))) (λ_ _ _ _ _=>(qD T.d_plus (zeI (base:=base) T) L (za (pv 0) (za (qD T.d_times (zdW (base:=base) T) L (za (pv 1) (za (pv 2) zh))) zh))))))),?_⟩;refine zE (σ0:=[some (.ref d),some (.ref e),some (.ref s)]) rfl ?_;walk_at "x";refine zbL (zmI (K:=K) (a:=d) (b:=e) (xs:=us) (ys:=ws)) (λH' e=>⟨SqL.of (e.at hd),SqL.of (e.at X)⟩) rfl (λi vs H'=>IsQs H' vs ((List.range i).map λi=>l i+r i*t)) (λH' _=>trivial) ?_ ?_
 ·rintro i x D vs o o' N H4 hi q c G j m f ⟨p,v,w',rfl,S,Y,V⟩;have g:i<n:=by lia
  obtain⟨g1,y1,rfl,h1,h2⟩:=(I.same (c.trans f)).get S;obtain⟨g2,y2,rfl,C,h4⟩:=(J.same (c.trans f)).get Y;rw[yg,yQ g]at h1 C;cases h1;cases C;have R:=(c.trans f).isQ hs;obtain⟨o1,o2,o3⟩:=hz i g;walk_at "x";rename_i p1 H5 O U p2 H6 M u Z B h7;refine⟨⟨_,_,rfl⟩,B.same (((c.trans f).trans O).trans M) q,_,h7,by rw[yb];exact yn j,?_⟩;show IsQs Z _ ((List.range (i+1)).map _);rw[yy,yk,yU];exact IsQs.app (LBut.isQ B u) (LBut.isQs B (m.same ((f.trans O).trans M)))
 ·rintro D N vs q c G j m;rw[show min us.length ws.length=n by lia]at m;exact k D N vs q c G m
def zhY(T:Txt K mg):T.d_cleared.Ok P w base 5 (ziY K):=by
 refine T.d_cleared.F.okN sc_cleared "0f" λd5 A outer s H vs Q E hr h=>?_;obtain⟨a,u,n,ds,ps,W,P,rfl,hS,hu,C,k⟩:=h;have an:(ps.map V.int).length=n:=by rw[ye];exact C.pl
 have cr:∀d∈ds,zm ((ps.map V.int).length:Int) d:=by rw[an];exact C.hd
 have h9:=C.n9;refine⟨_,(zj (zC 2 sc_cleared (qD T.d_ranked (zjh (base:=base) T) hr (za (zbY K T.z_len (za (pv 1) zh)) (za (pv 0) zh))))
 (zj (qS1 3 sc_cleared ["purse"] [none] (zW K (pv 1)) (λ_ _ _ _ _=>(zN (za ze (za ze zh)))))
 (zj (zC 4 sc_cleared (zN (za ze (za ze zh))))
 (zk (zb1 PassesOwn.never (zcX K zc8)
 (zj (zeB (i:=5) sc_cleared.nd rfl rfl rfl (zbI K T.z_enumerate (za (pv 3) zh)) (za7 (Ni:=["member", "lay", "owed"]) (caps:=[none,none,some 2]) (by rfl)) (λS _ _ _ _ _=>(show PG _ _ (zbB K 2 _)from za5 (n:=2) rfl (zI (zbb (gi:=0) S "0j" rfl) (zI (zbb (gi:=1) S "0j" rfl) zaL)))) (λ_ _ _ _ _=>zhZ) (λ_ _ _ _ _=>(qD T.d_stop_of (zm4 (base:=base) T) hr (za (qIx K (pv 2) (pv 0)) (za (pv 1) zh)))))
 (zj (zC 6 sc_cleared (qD T.d_flows_of (zlX (base:=base) T) hr (za (pv 0) (za (pv 5) zh))))
 (zj (zC 7 sc_cleared (qD T.d_closed_circle (zgT (base:=base) T) hr (za (pv 6) (za (pv 5) zh))))
 (zk (zQ (zD (qNe K hr.units) (pv 7) (zam zh) (nomark _))
 (zj (zC 8 sc_cleared (qD T.d_circling_rates (zgn (base:=base) T) hr (za (pv 6) (za (pv 7) zh))))
 (zk (zC 3 sc_cleared (qD T.d_grown (zk5 (base:=base) T) hr (za (pv 3) (za (pv 8) (za (qD T.d_least_room (zfj (base:=base) T) hr (za (pv 2) (za (pv 5) (za (pv 3) (za (pv 8) zh))))) zh)))))))
 (zk (zQ (zD (qEq K hr.units) (pv 4) (zN (za ze (za ze zh))) (nomark _))
 (zk (zB (pv 3)))
 (zj (zC 8 sc_cleared (qD T.d_opening_rates (zgV (base:=base) T) hr (za (pv 6) (za (pv 5) (za (pv 1) zh)))))
 (zj (zC 9 sc_cleared (qD T.d_least_room (zfj (base:=base) T) hr (za (pv 2) (za (pv 5) (za (pv 3) (za (pv 8) zh))))))
 (zj (zC 10 sc_cleared (qD T.d_minus (zeT (base:=base) T) hr (za (zN (za ze (za ze zh))) (za (pv 4) zh))))
 (zj (zC 9 sc_cleared (zdZ (zD zkR (pv 9) zbc (nomark _)) (pv 10) (qD T.d_least (zgM (base:=base) T) hr (za (pv 9) (za (pv 10) zh)))))
 (zj (zC 3 sc_cleared (qD T.d_grown (zk5 (base:=base) T) hr (za (pv 3) (za (pv 8) (za (pv 9) zh)))))
 (zk (zC 4 sc_cleared (qD T.d_plus (zeI (base:=base) T) hr (za (pv 4) (za (pv 9) zh)))))))))))))))))))))),?_⟩
 refine zE (σ0:=[some (.ref a),some (.ref u),none,none,none,none,none,none,none,none,none]) rfl ?_;walk_at "x";rename_i ow H1 as cx e1 c6 ba hR hF;have c5:=e1.at hu;rw[yh,an]at ba;refine zM (z9 (K:=K) (a:=u) (xs:=ps.map V.int)) (λH' e=>SqL.of (e.at c5)) rfl (λi vs H'=>IsQs H' vs ((List.range i).map λ_=>(0:Rat))) (λH' _=>trivial) ?_ ?_
 ·rintro i x D vs o H2 H3 hi hD e2 hv a7 hQ e3 hx;rw[an]at hi;walk_at "x";refine zan (q:=(0:Rat)) ⟨rfl,rfl⟩ ?_;intro p H4 e4 hp;have cq:=(e3.trans e4).at hv;walk_at "x";rename_i H5 b5 h5;refine⟨⟨_,rfl⟩,b5.same ((e2.trans e3).trans e4) hD,_,h5,by rw[yb];exact yn a7,?_⟩;show IsQs H5 _ ((List.range (i+1)).map _);rw[yy,yk,yU];exact IsQs.app (LBut.isQ b5 hp) (LBut.isQs b5 (hQ.same (e3.trans e4)))
 rintro O H2 vs ar e2 ai a7 hQ;rw[an]at hQ;walk_at "x";refine zan (q:=(0:Rat)) ⟨rfl,rfl⟩ ?_;intro op H3 e3 aa;walk_at "x";have L:∀d∈ds,zm (n:Int) d:=C.hd;refine⟨λm σ H'=>∃(k:Nat) (O op:Addr) (ws:List V) (f5 f6 f7 f8 f9 U:Option V),σ=[some (.ref a),some (.ref u),some (.ref ow),some (.ref O),some (.ref op),f5,f6,f7,f8,f9,U]/\H' O=some (.lst ws)/\IsQs H' ws ("0e".map "0d".1)/\IsQ H' op "0d".2/\H O=none/\Same H1 H'/\COk n ds (pQ ps) (Dt.prodN (λ_=>W) n*P*W) k "0d".1 "0d".2/\(∀j,j<k->¬zbX n ds (cst n ds (pQ ps) j).1 (cst n ds (pQ ps) j).2)/\m=zcg n ds+1-k,⟨_,0,O,op,vs,_,_,_,_,_,_,rfl,e3.at ai,hQ.same e3,aa,Same.none ar e1,e2.trans e3,cok0 L _,λj hj=>absurd hj (yan _),rfl⟩,?_⟩;clear aa ai hQ a7 e3 e2 ar O op vs H2 H3;rintro m σ H2 ⟨kk,O,op,ws,f5,f6,f7,f8,f9,U,rfl,ai,hQ,aa,ar,e2,Y,c3,rfl⟩;obtain⟨l,hl⟩:∃l,(cst n ds (pQ ps) kk).1=l:=⟨_,rfl⟩
 obtain⟨t,ht⟩:∃t,(cst n ds (pQ ps) kk).2=t:=⟨_,rfl⟩
 rw[hl]at hQ Y;rw[ht]at aa Y;have bp:=hQ.length;rw[ye,yB]at bp;have bn:=hR.same e2;have b0:=e2.at c6;walk_at "x";have next:∀σ' H',(∃(O op:Addr) (ws:List V) (f5 f6 f7 f8 f9 U:Option V),σ'=[some (.ref a),some (.ref u),some (.ref ow),some (.ref O),some (.ref op),f5,f6,f7,f8,f9,U]/\H' O=some (.lst ws)/\IsQs H' ws ("0e".map (nxL n ds (pQ ps) l t))/\IsQ H' op (nxT n ds (pQ ps) l t)/\H O=none/\Same H1 H'/\Ans n ds (pQ ps) l/\¬zbX n ds l t)->∃m',m'<zcg n ds+1-kk/\∃(k:Nat) (O op:Addr) (ws:List V) (f5 f6 f7 f8 f9 U:Option V),σ'=[some (.ref a),some (.ref u),some (.ref ow),some (.ref O),some (.ref op),f5,f6,f7,f8,f9,U]/\H' O=some (.lst ws)/\IsQs H' ws ("0e".map "0d".1)/\IsQ H' op "0d".2/\H O=none/\Same H1 H'/\COk n ds (pQ ps) (Dt.prodN (λ_=>W) n*P*W) k "0d".1 "0d".2/\(∀j,j<k->¬zbX n ds (cst n ds (pQ ps) j).1 (cst n ds (pQ ps) j).2)/\m'=zcg n ds+1-k:=by
  rintro σ' H' ⟨O,op,ws,f5,f6,f7,f8,f9,U,rfl,i1,i2,i3,i4,i5,i6,i7⟩;have c4:(cst n ds (pQ ps) (kk+1)).1=nxL n ds (pQ ps) l t:=by show nxL n ds (pQ ps) (cst n ds (pQ ps) kk).1 (cst n ds (pQ ps) kk).2=_;rw[hl,ht]
  have bx:(cst n ds (pQ ps) (kk+1)).2=nxT n ds (pQ ps) l t:=by show nxT n ds (pQ ps) (cst n ds (pQ ps) kk).1 (cst n ds (pQ ps) kk).2=_;rw[hl,ht]
  have bv:=COk.step L C.p0 (λi _=>⟨ps.getD i 0,rfl⟩) C.hP C.P1 (λi hi=>C.hW l i hi) C.W1 Y i6 i7;have cz:=bv.le;refine⟨zcg n ds+1-(kk+1),⋯,kk+1,O,op,ws,f5,f6,f7,f8,f9,U,rfl,i1,by rw[c4];exact i2,by rw[bx];exact i3,i4,i5,by rw[c4,bx];exact bv,λj hj=>?_,rfl⟩;rcases yP (yY hj)with h | h
  ·exact c3 j h
  ·rw[h,hl,ht];exact i7
 refine⟨_,next,?_⟩;clear next;have az:=ai;walk_at "x";refine zbL (zaK (K:=K) (a:=O) (xs:=ws)) (λH' e=>SqL.of (e.at az)) rfl (λj vs _=>vs=zaj j (stp ds l)) (λH' _=>rfl) ?_ ?_
 ·rintro j x D vs o o' H3 H4 hj hD e3 hv a7 rfl e4 ⟨tt,v,rfl,hx,ca⟩;obtain⟨g,q,rfl,br,d6⟩:=(hQ.same (e3.trans e4)).get hx;rw[yg,yQ ⋯]at br;cases br;have cv:H4 tt=some (.tup [.int (j:Int),.ref g]):=ca;obtain⟨c,I⟩:=zw (show j<as.length by lia);have cs:atI (as.map V.ref) (j:Int)=some (.ref c):=zal (by rw[yg,I];rfl);have cn:=(e3.trans e4).at b0;have cp:=(bn.same (e3.trans e4)).2 _ _ I;have ct:∀r,r<3->0<=zA ds j r/\zA ds j r<=100000000000000:=λr _=>by
   have:=zdE (m:=j) (r:=r) ds λd h=>⟨(L d h).2.2.2.2.2.2.2.1,C.ha d h⟩
   have:=C.hl
   lia
  have zq:SzQ (l j) 60000 60000:=(C.lay Y ⋯).mono "0a" "0a";walk_at "x";rename_i H5 e5 H6 b6 h6;refine⟨⟨_,_,rfl⟩,∅,_,h6,by rw[yb];exact yn a7,?_⟩;dsimp only;rw[zpp];rfl
 rintro ra H3 vs d2 e3 c1 a7 rfl;rw[bp]at c1;have co:IsSh K H3 a ds:=by walk_at "h"
 walk_at "x";rename_i fl H4 bs d4 e4 ck bw ce d3 ci H5 cu e5 bt em H6 cw e6 cb;have ay:H5 ci=some (.lst (zaD (crL n ds l))):=bt;clear bt;refine zr0 (e6.at ay) cb ?_;have c2:znu (crL n ds l)=[]↔crL n ds l=[]:=ybE;have aq:=zvh (l:=l) L C.ha C.hl;have aj:=e5.trans e6;have bd:=e4.trans aj;have a4:=e3.trans bd;have ak:=e2.trans a4;have b1:=aj.at ck;have au:=ce.same aj;have bq:=e6.at ay;have ah:=bd.at c1;have a5:=a4.at az;have am:=hQ.same a4;have ag:=a4.isQ aa;have ax:=a4.at b0;have c0:=bn.same a4;have cd:=ak.at c5;have b2:=e1.trans ak;clear aj bd a4;by_cases I:crL n ds l=[]
 ·rw[decide_eq_true (c2.mpr I)];walk_at "x";refine zan (q:=(1:Rat)) ⟨rfl,rfl⟩ ?_;intro t1 H7 Z ch;refine zuU (Z.isQ ag) ch ?_;walk_at "x"
  ·rename_i h1;refine k O H7 ws kk ar (b2.trans Z) (Z.at a5) (by rw[hl];exact am.same Z) ?_ c3 (by rw[hl,ht];exact Y);rw[hl,ht];exact⟨I,h1⟩
  ·rename_i h1;have ac:¬zbX n ds l t:=λz=>h1 z.2;walk_at "x";refine zay ?_;refine zq8 (Z.at b1) bw (au.same Z) (Z.at ah) (Z.at cd) C.pl C.pz' h9 aq (zo5 L I) ?_;intro rt H8 rs x c7 e8 a1 b3 bc bi;have bb:zdc n ds (pQ ps) l (slL n ds l) x:=zpV bc;have M:Ans n ds (pQ ps) l:=by unfold Ans;rw[if_pos I];exact⟨x,bb⟩
   have er:"0e".map (zeh n (flI ds l) (slL n ds l) x)="0e".map (rtF n ds (pQ ps) l):=yI λi _=>zjx L I bb i;have N:∀i,i<n->SzQ (rtF n ds (pQ ps) l i) 726 668:=λi hi=>by rw[<- zjx (p:=pQ ps) L I bb i];exact zoL aq zdG bi hi
   have J:IsQs H8 rs ("0e".map (rtF n ds (pQ ps) l)):=by rw[<- er];exact b3
   have b7:=C.rooms Y N;have f:=Z.trans e8;have a6:=f.at a5;have ao:=am.same f;have X:=f.isQ ag;have b8:=b2.trans f;have be:=ak.trans f;have cy:OkQ (1:Rat):=(zdv (x:=1) zfO).ok "0a" "0a";have d1:OkQ t:=(C.top Y).ok "0a" "0a";have bj:=C.shut Y;have cm:SzQ (1-t) 60000 60000:=bj.mono "0a" "0a";have bz:=f.at ax;have c8:=c0.same f;have bl:=f.at ah;clear f;walk_at "x";refine zay ?_;refine zlp bz ba c8 bl a6 ao a1 J h9 b7 ?_ ?_
   ·intro cc H9 e9;have G:stF n ds (pQ ps) l t=1-t:=zqv I cc;have ae:=e9.isQ X;walk_at "x";refine zan (q:=(1:Rat)) ⟨rfl,rfl⟩ ?_;intro t2 cj a2 cg;have bh:=a2.isQ ae;walk_at "x"
    ·rename_i sh bu a8 a9 _;have b:=(e9.trans a2).trans a8;have B:=C.grow Y N (bj.mono "0a" "0a");walk_at "x";refine zeg (b.at a6) (ao.same b) (b.at a1) (J.same b) a9 h9 B.1 B.2 ?_;intro gr Ha gs a3 ea R a0;have av:=(b.trans ea).isQ X;have aw:=ea.isQ a9;have bm:=B.1;walk_at "x";rename_i np Hb eb ad;refine⟨gr,np,gs,_,_,_,_,_,_,rfl,eb.at R,?_,?_,Same.none a3 (b8.trans b),be.trans ((b.trans ea).trans eb),M,ac⟩
     ·rw[show"0e".map (nxL n ds (pQ ps) l t)="0e".map (λi=>l i+rtF n ds (pQ ps) l i*(1-t))from yI λi _=>by unfold nxL;rw[G,yb0]];exact a0.same eb
     ·rw[show nxT n ds (pQ ps) l t=t+(1-t) by unfold nxT;rw[if_pos I,G]];exact ad
    ·contradiction
   ·intro q hq sp H9 e9 bf;have ap:=zpY (t:=t) I hq;have zq:=C.stepz Y N hq;have d0:SzQ q 60000 60000:=zq.mono "0a" "0a";have ae:=e9.isQ X;walk_at "x";refine zan (q:=(1:Rat)) ⟨rfl,rfl⟩ ?_;intro t2 cj a2 cg;have bh:=a2.isQ ae;have b9:=a2.isQ bf;walk_at "x"
    ·contradiction
    ·rename_i sh bu a8 a9 _ bg;have b:=(e9.trans a2).trans a8;have G:stF n ds (pQ ps) l t=1-t:=by rw[ap,if_pos bg]
     have B:=C.grow Y N (bj.mono "0a" "0a");walk_at "x";refine zeg (b.at a6) (ao.same b) (b.at a1) (J.same b) a9 h9 B.1 B.2 ?_;intro gr Ha gs a3 ea R a0;have av:=(b.trans ea).isQ X;have aw:=ea.isQ a9;have bm:=B.1;walk_at "x";rename_i np Hb eb ad;refine⟨gr,np,gs,_,_,_,_,_,_,rfl,eb.at R,?_,?_,Same.none a3 (b8.trans b),be.trans ((b.trans ea).trans eb),M,ac⟩
     ·rw[show"0e".map (nxL n ds (pQ ps) l t)="0e".map (λi=>l i+rtF n ds (pQ ps) l i*(1-t))from yI λi _=>by unfold nxL;rw[G,yb0]];exact a0.same eb
     ·rw[show nxT n ds (pQ ps) l t=t+(1-t) by unfold nxT;rw[if_pos I,G]];exact ad
    ·rename_i sh bu a8 a9 _ bg;have b:=(e9.trans a2).trans a8;have G:stF n ds (pQ ps) l t=q:=by rw[ap,if_neg bg]
     have ab:=a8.isQ b9;have B:=C.grow Y N (zq);walk_at "x";refine zeg (b.at a6) (ao.same b) (b.at a1) (J.same b) ab h9 B.1 B.2 ?_;intro gr Ha gs a3 ea R a0;have av:=(b.trans ea).isQ X;have aw:=ea.isQ ab;have bm:=B.1;walk_at "x";rename_i np Hb eb ad;refine⟨gr,np,gs,_,_,_,_,_,_,rfl,eb.at R,?_,?_,Same.none a3 (b8.trans b),be.trans ((b.trans ea).trans eb),M,ac⟩
     ·rw[show"0e".map (nxL n ds (pQ ps) l t)="0e".map (λi=>l i+rtF n ds (pQ ps) l i*(q))from yI λi _=>by unfold nxL;rw[G,yb0]];exact a0.same eb
     ·rw[show nxT n ds (pQ ps) l t=t+(q) by unfold nxT;rw[if_pos I,G]];exact ad
 ·rw[decide_eq_false (λz=>I (c2.mp z))];have af:=Rc.circle_ok I;have cf:1<=(crL n ds l).length:=by
   have:(crL n ds l).length≠0:=λz=>I (yah z)
   lia
  have c9:(crL n ds l).length<=9:=yi (Rc.len_le af.nd af.lt) h9;walk_at "x";refine zqr b1 bw au bq af.lt af.nd cf c9 h9 aq (zqt L I) ?_;intro rt H7 rs x c7 Z a1 b3 bc bi;have b4:=zqs bc;have M:Ans n ds (pQ ps) l:=by unfold Ans;rw[if_neg I];exact⟨x,b4⟩
  have er:"0e".map (zeh n (flI ds l) (crL n ds l) x)="0e".map (rtF n ds (pQ ps) l):=yI λi _=>zkk L I b4 i;have N:∀i,i<n->SzQ (rtF n ds (pQ ps) l i) 726 668:=λi hi=>by rw[<- zkk (p:=pQ ps) L I b4 i];exact zoL aq af.nd bi hi
  have J:IsQs H7 rs ("0e".map (rtF n ds (pQ ps) l)):=by rw[<- er];exact b3
  have b7:=C.rooms Y N;obtain⟨st,al⟩:=C.cirRoom Y M I;have B:=C.grow Y N (C.stepz Y N al);have ap:stF n ds (pQ ps) l t=st:=by unfold stF;rw[if_neg I,al];rfl
  walk_at "x";refine zay ?_;refine zlp (Z.at ax) ba (c0.same Z) (Z.at ah) (Z.at a5) (am.same Z) a1 J h9 b7 (λz=>by rw[al]at z;cases z) ?_;intro y hy sp H8 e8 bf;rw[al]at hy;cases hy;have f:=Z.trans e8;walk_at "x";refine zeg (f.at a5) (am.same f) (e8.at a1) (J.same e8) bf h9 B.1 B.2 ?_;intro gr H9 gs a3 e9 bo a0;walk_at "x";refine⟨gr,op,gs,_,_,_,_,_,_,rfl,bo,?_,?_,Same.none a3 (b2.trans f),ak.trans (f.trans e9),M,λz=>I z.1⟩
  ·rw[show"0e".map (nxL n ds (pQ ps) l t)="0e".map (λi=>l i+rtF n ds (pQ ps) l i*st)from yI λi _=>by unfold nxL;rw[ap,yb0]];exact a0
  ·rw[show nxT n ds (pQ ps) l t=t from if_neg I];exact(f.trans e9).isQ ag
def zqo(T:Txt K mg):T.d_total.Ok P w base 3 (ziP K):=by
 refine T.d_total.F.okN sc_total "0f" λr A outer s H vs Q E u h=>?_;obtain⟨a,xs,qs,rfl,l,n,hok,c,k⟩:=h;refine⟨_,(zj (zC 1 sc_total (zN (za ze (za ze zh))))
 (zj (zU PassesOwn.never rfl (zW K (pv 0)) (zG (i:=2) sc_total.nd rfl "0j")
 (zk (zC 1 sc_total (qD T.d_plus (zeI (base:=base) T) u (za (pv 1) (za (pv 2) zh))))))
 (zk (zB (pv 1))))),?_⟩
 refine zE (σ0:=[some (.ref a),none,none]) rfl ?_;walk_at "x";refine zan (q:=0) ⟨rfl,rfl⟩ ?_;intro p H1 m o;walk_at "x"
 try refine zrr (m.seq l) ?_
 refine za4 (xs:=xs) (λi d H'=>∃p f,d=[some (.ref a),some (.ref p),f]/\IsQ H' p (zaX (qs.take i))/\Same H H') ⟨p,_,rfl,o,m⟩ ?_ ?_ ?_
 ·rintro i d H' _ ⟨p,f,rfl,_,e⟩;exact e.seq l
 ·rintro i x d H' y ⟨p,f,rfl,g,e⟩;obtain⟨b,q,rfl,j,B⟩:=(n.same e).get y;have z:OkQ q:=hok q (ya j);have C:=c i;walk_at "x";rename_i p2 H2 v t;refine⟨p2,_,rfl,?_,e.trans v⟩
  have:qs.take (i+1)=qs.take i++[q]:=by
   obtain⟨hi,rfl⟩:=yj.mp j;exact yaX hi
  rw[this,zbr];exact t
 ·rintro d H' ⟨p,f,rfl,g,e⟩;rw[n.length,yr]at g;walk_at "x";exact k _ _ e g
def zik(T:Txt K mg):T.d_shares_paid.Ok P w base 4 (zfu K):=by
 refine T.d_shares_paid.F.okN sc_shares_paid "0f" λa1 A outer s H vs Q E M h=>?_;obtain⟨l,y,f,q,rfl,hl,U,hy,hs,k⟩:=h;refine⟨_,(zj (zC 2 sc_shares_paid (zam zh))
 (zj (zC 3 sc_shares_paid (pv 1))
 (zj (zU PassesOwn.never rfl (zW K (pv 0)) (zG (i:=4) sc_shares_paid.nd rfl "0j")
 (zj (zC 5 sc_shares_paid (qD T.d_least (zgM (base:=base) T) M (za (pv 3) (za (zN (za (pv 4) (za ze zh))) zh))))
 (zj (zC 3 sc_shares_paid (qD T.d_minus (zeT (base:=base) T) M (za (pv 3) (za (pv 5) zh))))
 (zk (zaO (qAp K (pv 2) (za (zdZ (zD zcQ (pv 4) ze (nomark _)) (qD T.d_over (zmE (base:=base) T) M (za (pv 5) (za (zN (za (pv 4) (za ze zh))) zh))) (zN (za ze (za ze zh)))) zh)))))))
 (zk (zB (pv 2)))))),?_⟩
 refine zE (σ0:=[some (.ref l),some (.ref y),none,none,none,none]) rfl ?_;walk_at "x";rename_i sh H0 r X D;refine za4 (xs:=(vec 3 f).map V.int) (λi m H'=>∃(p:Addr) (vs:List V) (I u:Option V),m=[some (.ref l),some (.ref y),some (.ref sh),some (.ref p),I,u]/\IsQ H' p (zaw f q i)/\H' sh=some (.lst vs)/\IsQs H' vs ((List.range i).map (zY f q))/\Same H H') ⟨y,[],_,_,rfl,X.at hy,D,trivial,X⟩ ?_ ?_ ?_
 ·rintro i m H' _ ⟨_,_,_,_,_,_,_,_,e⟩;exact SqL.of (e.at hl)
 ·rintro i x m H1 B ⟨p,vs,I,u,rfl,S,b,a,e1⟩;have hi:i<3:=by
   have:=(yj.mp B).1
   rwa [ye,zO]at this
  have ex:x=.int (f i):=by rw[yg,zae hi]at B;exact(yt B).symm
  subst ex;obtain⟨f0,f1⟩:=U i hi;have zr:=hs.rest U (yaw hi);have zl:=hs.laid U hi;have zf:=zg5 f0 f1;have o1:OkQ (zaw f q i):=zr.ok "0a" "0a";have o2:OkQ (zX f q i):=zl.ok "0a" "0a";have z8:SzQ ((f i:Int):Rat) 8999 8999:=zf.mono "0a" "0a";have a2:vs.length<=3:=by have:=a.length;rw[ye,yB]at this;lia
  walk_at "x";refine zan (q:=((f i:Int):Rat)) ⟨rfl,rfl⟩ ?_;intro t H2 g ht;refine zay ?_;refine zoa (g.at S) ht (zr.mono "0a" "0a") (zf.mono "0a" "0a") λc hc=>?_;have z:IsQ H2 c (zX f q i):=hc;have a0:IsQ H2 p (zaw f q i):=g.at S;walk_at "x"
  ·rename_i d H3 j O n;refine zan (q:=((f i:Int):Rat)) ⟨rfl,rfl⟩ ?_;intro t2 Z W L;have N:((f i:Int):Rat).num≠0:=by show f i≠0;lia
   have J:IsQ Z c (zX f q i):=W.at (j.at z);have v:Z sh=some (.lst vs):=W.at (j.at (g.at b));refine zay ?_;refine zjg J L o2 z8 N ?_;intro C Y e5 o;walk_at "x";rename_i G b6 R;refine⟨d,vs++[.ref C],_,_,rfl,?_,R,?_,∅⟩
   ·show IsQ G d (zaw f q i-zX f q i);walk_at "h"
   ·rw[yy,yk,yU,show zY f q i=zX f q i/((f i:Int):Rat)from if_pos n];exact IsQs.app ∅ ∅
  ·rename_i d H3 j O n;refine zan (q:=(0:Rat)) ⟨rfl,rfl⟩ ?_;intro C Y e5 o;have v:Y sh=some (.lst vs):=e5.at (j.at (g.at b));walk_at "x";rename_i G b6 R;refine⟨d,vs++[.ref C],_,_,rfl,?_,R,?_,∅⟩
   ·show IsQ G d (zaw f q i-zX f q i);walk_at "h"
   ·rw[yy,yk,yU,show zY f q i=0 from if_neg n];exact IsQs.app ∅ ∅
 ·rintro m H1 ⟨p,vs,I,u,rfl,S,b,a,e1⟩;rw[ye,zO]at a;walk_at "x";exact k _ _ _ r e1 b a
def zsc(T:Txt K mg):T.d_paid.Ok P w base 5 (ziJ K):=by
 refine T.d_paid.F.okN ziI "0f" λb1 A outer s H vs Q E hr h=>?_;obtain⟨a,y,ds,ws,qs,rfl,⟨xs,hS,hT⟩,hy,hq,hd,hl,h9,hs,k⟩:=h;have ah:=hq.length;have ar:∀d∈ds,zm (ws.length:Int) d:=by rw[ah];exact λd h=>(hd d h).1
 have b0:IsSh K H a ds:=⟨xs,hS,hT⟩
 refine⟨_,(zj (zC 2 ziI (qD T.d_ranked (zjh (base:=base) T) hr (za (zbY K T.z_len (za (pv 1) zh)) (za (pv 0) zh))))
 (zj (zC 3 ziI (qC2 K ["member", "lay", "owed"] [none,none,some 2] (zbI K T.z_enumerate (za (pv 1) zh)) (λ_ _ _ _ _=>(qD T.d_shares_paid (zik (base:=base) T) hr (za (qIx K (pv 2) (pv 0)) (za (pv 1) zh))))))
 (zk (zB (qC1 ["due", "shares"] [none,some 3] (zW K (pv 0)) (λ_ _ _ _ _=>(qD T.d_times (zdW (base:=base) T) hr (za (zN (za (qIx K (pv 0) ze) (za ze zh))) (za (qIx K (qIx K (pv 1) (qIx K (pv 0) ze)) (qIx K (pv 0) ze)) zh))))))))),?_⟩
 refine zE (σ0:=[some (.ref a),some (.ref y),none,none]) rfl ?_;walk_at "x";rename_i su H1 as aq J a9 ak hR hF;rw[yh]at ak;have al:=hq.same J;have ac:=J.at hy;have a4:∀i j,j<3->0<=zA ds i j/\zA ds i j<=100000000000000:=λi j _=>by
  have:=zdE (m:=i) (r:=j) ds λd h=>⟨(hd d h).1.2.2.2.2.2.2.2.1,(hd d h).2⟩
  lia
 refine zbL (zaK (K:=K) (a:=y) (xs:=ws)) (λH' e=>SqL.of (e.at ac)) rfl (λi vs H'=>∃as:List Addr,vs=as.map V.ref/\as.length=i/\∀(m:Nat) (b:Addr),as[m]?=some b->∃us,H' b=some (.lst us)/\H1 b=none/\IsQs H' us ((List.range 3).map (zY (zA ds m) (qs.getD m 0)))) (λH' _=>⟨[],rfl,rfl,λm b h=>nomatch h⟩) ?_ ?_
 ·rintro i x D vs o o' H2 H3 hi hD u W l ⟨bs,rfl,a3,n⟩ g ⟨t,v,rfl,hx,ht⟩;obtain⟨b,q,rfl,a5,hb⟩:=(al.same (u.trans g)).get hx;have b2:H3 t=some (.tup [.int (i:Int),.ref b]):=ht;obtain⟨c,hc⟩:=zw (show((i:Int)).toNat<as.length by lia);have L:=(hR.same (u.trans g)).2 _ _ hc;rw[yh]at L;have hf:=a4 i;have b3:=hs.lay (ya a5);have ao:H3 su=some (.lst (as.map V.ref)):=(u.trans g).at a9;have G:qs.getD i 0=q:=by rw[yf,a5];rfl
  walk_at "x";rename_i sp H4 us M B af ab H5 b5 h5;have U:sp≠D:=zb8 M (g.at W);refine⟨⟨_,_,rfl⟩,∅,_,h5,by rw[yb];exact yn l,bs++[sp],by rw[yk];rfl,by rw[yb,a3];rfl,λm b' f=>?_⟩;rw[yaK]at f;split at f
  ·obtain⟨ai,u1,u2,N⟩:=n m b' f;have am:b'≠D:=λz=>by
    subst z;rw[W]at u1;cases u1;cases bs with
    | nil=>cases f
    | cons z0 zs=>
     obtain⟨au,w1,_,_⟩:=n 0 z0 rfl;have a7:IsQs H2 (V.ref z0 :: zs.map V.ref) (zY (zA ds m) (qs.getD m 0) 0 :: [zY (zA ds m) (qs.getD m 0) 1,zY (zA ds m) (qs.getD m 0) 2]):=N;obtain⟨⟨a0,w2,w3⟩,_⟩:=a7;cases w2;have Z:H2 z0=some (.tup _):=w3;rw[w1]at Z;cases Z
   exact⟨ai,b5.lst (B.at (g.at u1)) am,u2,LBut.isQs b5 (N.same (g.trans B))⟩
  ·rename_i hm;have e0:m-bs.length=0:=by
    cases e:m-bs.length with
    | zero=>rfl
    | succ k=>rw[e]at f;cases f
   rw[e0]at f;cases f;obtain rfl:m=i:=by lia
   rw[G];exact⟨us,b5.lst af U,Same.none (Same.none M g) u,LBut.isQs b5 ab⟩
 rintro aj H2 vs an u X l ⟨bs,rfl,a3,n⟩;walk_at "x";have ae:=hT.same (J.trans u);have aa:SqL K H2 a xs:=(J.trans u).seq hS;have a6:=hT.length;refine zM (z9 (K:=K) (a:=a) (xs:=xs)) (λH' e=>e.seq aa) rfl (λi vs H'=>IsQs H' vs ((ds.take i).map (zS ds qs))) (λH' _=>trivial) ?_ ?_
 ·rintro i x D vs o H3 H4 hi hD g W l I B hx;obtain⟨b,d,rfl,C,hb⟩:=(ae.same (g.trans B)).get hx;have f:H4 b=some "0h":=hb;obtain⟨⟨p0,p1,q0,q1,pq,r0,r1,a0,a1⟩,a2⟩:=hd d (ya C);obtain⟨c,hc⟩:=zw (show d.p.toNat<bs.length by lia);obtain⟨us,u1,u2,N⟩:=n _ _ hc;have ul:=N.length;rw[ye,yB]at ul;obtain⟨v,R⟩:=zw (show d.r.toNat<us.length by lia);obtain⟨e,s,rfl,S,ad⟩:=(N.same (g.trans B)).get R;have ag:d.r.toNat<3:=by lia
  have es:s=zY (zA ds d.p.toNat) (qs.getD d.p.toNat 0) d.r.toNat:=by
   rw[yg,yQ ag]at S;exact(yt S).symm
  have ax:atI us d.r=some (.ref e):=zav r0 R;have a8:H4 c=some (.lst us):=(g.trans B).at u1;have Y:H4 aj=some (.lst (bs.map V.ref)):=(g.trans B).at X;obtain⟨lq,O⟩:=zw (show d.p.toNat<qs.length by lia);have G:qs.getD d.p.toNat 0=lq:=by rw[yf,O];rfl
  have zs:=hs.share hd (ya C) O;rw[<- G,<- es]at zs;have o1:OkQ ((d.a:Int):Rat):=(zg5 a0 a1).ok "0a" "0a";have o2:OkQ s:=zs.ok "0a" "0a";walk_at "x";refine zan (q:=((d.a:Int):Rat)) ⟨rfl,rfl⟩ ?_;intro t H5 e5 ht;have av:IsQ H5 e s:=e5.at ad;have az:=e5.at a8;have ap:=e5.at Y;have aw:=e5.at f;walk_at "x";rename_i p H6 e6 ay H7 b7 h7;refine⟨⟨_,rfl⟩,∅,_,h7,by rw[yb];exact yn l,?_⟩;show IsQs H7 _ ((ds.take (i+1)).map (zS ds qs));rw[zH C,yk,yU,show zS ds qs d=((d.a:Int):Rat)*s by rw[es];rfl];exact IsQs.app ∅ ∅
 ·rintro D H3 vs hD g W l I;rw[a6,yr]at I;exact k _ _ _ (Same.none (Same.none hD u) J) (J.trans (u.trans g)) W I
def zum(T:Txt K mg):T.d_got.Ok P w base 6 (zkI K):=by
 refine T.d_got.F.okN sc_got "0f" λaq A outer s H vs Q E hr h=>?_;obtain⟨a,y,ds,ws,qs,rfl,⟨xs,hS,hT⟩,hy,hq,hd,hl,h9,hs,k⟩:=h;have a9:=hq.length;have am:=hT.length;have ap:IsSh K H a ds:=⟨xs,hS,hT⟩
 refine⟨_,(zj (qS1 2 sc_got ["lay"] [none] (zW K (pv 1)) (λ_ _ _ _ _=>(zam zh)))
 (zj (zU PassesOwn.never rfl (zbI K T.z_enumerate (za (qD T.d_paid (zsc (base:=base) T) hr (za (pv 0) (za (pv 1) zh))) zh)) (show PG _ _ (zbB K 2 _)from za5 (n:=2) rfl (zI (zG (i:=3) sc_got.nd rfl "0j") (zI (zG (i:=4) sc_got.nd rfl "0j") zaL)))
 (zk (zaO (qAp K (qIx K (pv 2) (qIx K (qIx K (pv 0) (pv 3)) ze)) (za (pv 4) zh)))))
 (zk (zB (qC1 ["some"] [none] (zW K (pv 2)) (λ_ _ _ _ _=>(qD T.d_total (zqo (base:=base) T) hr (za (pv 0) zh)))))))),?_⟩
 refine zE (σ0:=[some (.ref a),some (.ref y),none,none,none]) rfl ?_;walk_at "x";refine zM (z9 (K:=K) (a:=y) (xs:=ws)) (λH' e=>SqL.of (e.at hy)) rfl (λi vs H'=>∃as:List Addr,vs=as.map V.ref/\as.length=i/\PRows H' as (λ_=>[])/\(∀b∈as,H b=none)/\∀b∈as,H' b=some (.lst [])) (λH' _=>⟨[],rfl,rfl,⟨yaI,λi a h=>nomatch h⟩,(λ_ h=>nomatch h),λ_ h=>nomatch h⟩) ?_ ?_
 ·rintro i x D vs o H2 H3 hi hD e2 X I ⟨as,rfl,O,hR,hF,hE⟩ B hx;walk_at "x";rename_i p R fp f hp H5 L h5;have a6:D∉as:=λz=>by
   have:=hE D z
   rw[X]at this;cases as with
   | nil=>cases z
   | cons z0 zs=>cases this
  have Z:p≠D:=zb8 fp (B.at X);refine⟨⟨_,rfl⟩,∅,_,h5,by rw[yb];exact yn I,as++[p],by rw[yk];rfl,by rw[yb,O];rfl,PRows.app ((hR.same (B.trans f)).but L a6) ((hR.same B).fresh fp) (L.lst hp Z) rfl,λb hb=>?_,λb hb=>?_⟩
  ·rcases yH.mp hb with h | h
   ·exact hF b h
   ·rw[ym.mp h];exact Same.none fp (e2.trans B)
  ·rcases yH.mp hb with h | h
   ·exact L.lst ((B.trans f).at (hE b h)) λz=>a6 (z▸h)
   ·rw[ym.mp h];exact L.lst hp Z
 rintro ga H1 vs ar e1 a4 I ⟨as,rfl,O,hR,hF,hE⟩;walk_at "x";rename_i pl H2 us ad e2 aj a5;have a3:=a5.length;rw[ye]at a3;have ag:pl∉as:=hR.fresh ad;have ab:ga∉as:=λz=>by
  have:=hE ga z
  rw[a4]at this;cases as with
  | nil=>cases z
  | cons z0 zs=>cases this
 refine zcM (zaK (K:=K) (a:=pl) (xs:=us)) (λi σ' H'=>∃f3 f4:Option V,σ'=[some (.ref a),some (.ref y),some (.ref ga),f3,f4]/\H' pl=some (.lst us)/\IsQs H' us (ds.map (zS ds qs))/\H' ga=some (.lst (as.map V.ref))/\PRows H' as (zbl (ds.take i) (zS ds qs))/\Same H H') ⟨_,_,rfl,aj,a5,e2.at a4,hR.same e2,e1.trans e2⟩ ?_ ?_ ?_
 ·rintro i σ' H' ⟨_,_,_,h,_⟩;exact SqL.of h
 ·rintro i x σ' H3 R hi ⟨f3,f4,rfl,N,u,G,C,B⟩ f ⟨t,v,rfl,hx,ae⟩;obtain⟨d,M⟩:=zw (show i<ds.length by lia);obtain⟨⟨p0,p1,q0,q1,pq,r0,r1,a0,a1⟩,a2⟩:=hd d (ya M);obtain⟨b,r,rfl,Y,hb⟩:=(u.same f).get hx;have er:r=zS ds qs d:=by rw[yg,M]at Y;exact(yt Y).symm
  subst er;have au:R t=some (.tup [.int (i:Int),.ref b]):=ae;obtain⟨c,aa,ai⟩:=(hT.same (B.trans f)).getI M;have ao:R c=some "0h":=ai;have an:atI xs (i:Int)=some (.ref c):=zal aa;obtain⟨l,j⟩:=zw (show d.q.toNat<as.length by lia);obtain⟨zs,z1,z2⟩:=(C.same f).2 _ _ j;have al:=z2.length;have a7:=zfs (ds:=ds.take i) (g:=zS ds qs) (m:=d.q.toNat);rw[yas]at a7;have U:=ya j;have fl:=hF l U;have a8:=f.at G;have av:SqL K R a xs:=(B.trans f).seq hS;walk_at "x";rename_i H5 L h5;have ah:pl≠l:=λz=>ag (z▸U);have ak:ga≠l:=λz=>ab (z▸U);have R5:=(C.same f).set L j z1 hb h5;refine⟨_,_,rfl,L.lst (f.at N) ah,LBut.isQs L (u.same f),L.lst a8 ak,?_,∅⟩;refine⟨R5.1,λm bb af=>?_⟩;obtain⟨S,w1,w2⟩:=R5.2 m bb af;refine⟨S,w1,?_⟩;rw[zH M,zh2];by_cases e:d.q=(m:Int)
  ·rw[if_pos e];have J:IsQs H5 S (if m=d.q.toNat then zbl (ds.take i) (zS ds qs) m++[zS ds qs d]else zbl (ds.take i) (zS ds qs) m):=w2;rw[if_pos ⋯]at J;exact J
  ·rw[if_neg e,y3];have J:IsQs H5 S (if m=d.q.toNat then zbl (ds.take i) (zS ds qs) m++[zS ds qs d]else zbl (ds.take i) (zS ds qs) m):=w2;rw[if_neg ⋯]at J;exact J
 ·rintro σ' H3 ⟨f3,f4,rfl,N,u,G,C,B⟩;rw[a3,yr]at C;walk_at "x";refine zM (z9 (K:=K) (a:=ga) (xs:=as.map V.ref)) (λH' e=>SqL.of (e.at G)) rfl (λi vs H'=>IsQs H' vs ((List.range i).map (zK ds (zS ds qs)))) (λH' _=>trivial) ?_ ?_
  ·rintro i x D vs o R H5 hi hD f X I W e5 hx;rw[ye]at hi;obtain⟨l,j⟩:=zw hi;have ex:x=.ref l:=by rw[yg,j]at hx;exact(yt hx).symm
   subst ex;obtain⟨zs,z1,z2⟩:=(C.same (f.trans e5)).2 _ _ j;have o1:=hs.gain hd i;have o2:=hs.sums hd hl i;walk_at "x";rename_i p H6 e6 ac H7 b7 h7;refine⟨⟨_,rfl⟩,∅,_,h7,by rw[yb];exact yn I,?_⟩;show IsQs H7 _ ((List.range (i+1)).map (zK ds (zS ds qs)));rw[yy,yk,yU];exact IsQs.app (LBut.isQ b7 ac) ∅
  ·rintro D R vs hD f X I W;rw[ye,O,a9]at W;exact k D R vs (Same.none hD B) (B.trans f) X W
def znA(T:Txt K mg):T.d_ends_by.Ok P w base 7 (zkM K):=by
 refine T.d_ends_by.F.okN zht "0f" λaf A outer s H vs Q E Z h=>?_;obtain⟨a,u,y,ds,ps,ws,qs,rfl,ae,hu,hy,hq,hd,hl,h9,ah,hp,hs,k⟩:=h;have ab:=hq.length;refine⟨_,(zj (zC 3 zht (qD T.d_got (zum (base:=base) T) Z (za (pv 0) (za (pv 2) zh))))
 (zk (zB (qC2 K ["member", "purse", "gains", "lays"] [none,none,some 3,some 2] (zbI K T.z_enumerate (za (pv 1) zh)) (λ_ _ _ _ _=>(qD T.d_minus (zeT (base:=base) T) Z (za (qD T.d_plus (zeI (base:=base) T) Z (za (zN (za (pv 1) (za ze zh))) (za (qIx K (pv 2) (pv 0)) zh))) (za (qIx K (pv 3) (pv 0)) zh)))))))),?_⟩
 refine zE (σ0:=[some (.ref a),some (.ref u),some (.ref y),none]) rfl ?_;walk_at "x";rename_i ga H2 us ag B W m;have M:=m.length;rw[ye,yB]at M;have N:=B.at hu;refine zbL (zaK (K:=K) (a:=u) (xs:=ps.map V.int)) (λH' e=>SqL.of (e.at N)) rfl (λi vs H'=>IsQs H' vs ((List.range i).map (zc1 ds ps qs))) (λH' _=>trivial) ?_ ?_
 ·rintro i x D vs o o' H3 H4 hi O C hv z a2 I ⟨t,v,rfl,hx,ht⟩;rw[ye]at hi;obtain⟨p,c⟩:=zw hi;have ex:v=.int p:=by rw[yg,c]at hx;exact(yt hx).symm
  subst ex;have Y:H4 t=some (.tup [.int (i:Int),.int p]):=ht;obtain⟨p0,X⟩:=hp p (ya c);have a0:ps.getD i 0=p:=by rw[yf,c];rfl
  obtain⟨v,f⟩:=zw (show i<us.length by lia);obtain⟨g,r,rfl,l,hg⟩:=(m.same (C.trans I)).get f;have a6:atI us (i:Int)=some (.ref g):=zal f;have er:r=zK ds (zS ds qs) i:=by rw[yg,yQ ⋯]at l;exact(yt l).symm
  subst er;have b:=C.trans I;have n:H4 ga=some (.lst us):=b.at W;obtain⟨v,j⟩:=zw (show i<ws.length by lia);obtain⟨gl,J,rfl,G,a3⟩:=(hq.same (B.trans b)).get j;have a5:atI ws (i:Int)=some (.ref gl):=zal j;have S:qs.getD i 0=J:=by rw[yf,G];rfl
  have L:=(B.trans b).at hy;have o1:OkQ ((p:Int):Rat):=(zg5 p0 X).ok "0a" "0a";have o2:OkQ (zK ds (zS ds qs) i):=(hs.got hd hl i).ok "0a" "0a";have o3:OkQ (((p:Int):Rat)+zK ds (zS ds qs) i):=(hs.next (ps:=ps) hd hl p0 X i).ok "0a" "0a";have o4:OkQ J:=(hs.lay (ya G)).szq.ok "0a" "0a";clear b;walk_at "x";refine zan (q:=((p:Int):Rat)) ⟨rfl,rfl⟩ ?_;intro t2 H6 d a8;have a4:=d.at n;have aa:=d.at Y;have a9:IsQ H6 g (zK ds (zS ds qs) i):=d.at hg;have a7:IsQ H6 gl J:=d.at a3;have ad:=d.at L;walk_at "x";rename_i X H7 e7 ac p2 H8 e8 R H9 U a1;refine⟨⟨_,_,rfl⟩,U.same ((((C.trans I).trans d).trans e7).trans e8) O,_,a1,by rw[yb];exact yn z,?_⟩;show IsQs H9 _ ((List.range (i+1)).map (zc1 ds ps qs));rw[yy,yk,yU,show zc1 ds ps qs i=((p:Int):Rat)+zK ds (zS ds qs) i-J by unfold zc1;rw[a0,S]];exact IsQs.app (LBut.isQ U R) (LBut.isQs U (a2.same (((I.trans d).trans e7).trans e8)))
 ·rintro D H3 vs O C hv z hQ;rw[ye]at hQ;exact k D H3 vs (Same.none O B) (B.trans C) hv hQ
def zmU(T:Txt K mg):T.d_ends_of.Ok P w base 8 (zlf K):=by
 refine T.d_ends_of.F.okN znS "0f" λt A outer s H vs Q E m h=>?_;obtain⟨a,u,n,ds,ps,W,P,rfl,o,l,C,q,k⟩:=h;refine⟨_,(zk (zB (qD T.d_ends_by (znA (base:=base) T) m (za (pv 0) (za (pv 1) (za (qD T.d_cleared (zhY (base:=base) T) m (za (pv 0) (za (pv 1) zh))) zh)))))),?_⟩;refine zE (σ0:=[some (.ref a),some (.ref u)]) rfl ?_;walk_at "x";refine zay ?_;refine zgG o l C ?_;intro z H1 ws kk x e g f c j hok;have i:=C.deep q hok;have b:(zaz n ds ps kk).length=n:=zdN;have hd:∀d∈ds,zm (zaz n ds ps kk).length d/\d.a<=10000000000000:=by rw[b];exact λd h=>⟨C.hd d h,C.ha d h⟩
 walk_at "x";refine znp (o.same e) (e.at l) g f hd C.hl (by rw[b];exact C.n9) (by rw[b];exact C.pl) C.pz i ?_;intro p H2 vs fp v y r;exact k p H2 vs kk (Same.none fp e) (e.trans v) y r c j hok
def za2(T:Txt K mg):T.d__law_cell.Ok P w base 1 (zkz K):=by
 refine T.d__law_cell.F.okN zla "0f" λd A outer s H vs Q E e h=>?_;obtain⟨a,ns,k,rfl,b,c,q⟩:=h;refine⟨_,(zj (zQ (zD zcp (pv 1) (zbY K T.z_len (za (pv 0) zh)) (nomark _))
 (zk (zB (qIx K (pv 0) (pv 1))))
 zJ)
 (zk (zB ze))),?_⟩
 refine zE (σ0:=[some (.ref a),some (.int k)]) rfl ?_;walk_at "x"
 ·rename_i h;exact znM b (zsp c h) q
 ·rename_i h;rw[zqf h]at q;exact q
def zff(T:Txt K mg):T.d__law_whole.Ok P w base 1 zmu:=by
 refine T.d__law_whole.F.okN zjS "0f" λa A outer s H vs Q E b h=>?_;obtain⟨i,rfl,q⟩:=h;refine⟨_,(zk (zB (ztv (zmR K T.z_isinstance (za (pv 0) (za (zgd (v:=.ty "int") rfl T.z_int BT.int rfl) zh))) (zox (zuF K (zmR K T.z_isinstance (za (pv 0) (za (zgd (v:=.ty "bool") rfl T.z_bool BT.bool rfl) zh)))))))),?_⟩;refine zE (σ0:=[some (.int i)]) rfl ?_;walk_at "x";exact q
def zfd(T:Txt K mg):T.d__law_drawn.Ok P w base 2 (zhe K):=by
 refine T.d__law_drawn.F.okN zj2 "0f" λd A outer s H vs Q E e h=>?_;obtain⟨a,ns,k,b,rfl,f,g,i,l,m,q⟩:=h;refine⟨_,(zk (zB (zo (zaS K) ze (zo zP (zo (zaS K) (qD T.d__law_cell (za2 (base:=base) T) e (za (pv 0) (za (pv 1) zh))) (zo zL (pv 2) (zo (zaS K) (zo zL (pv 1) (pv 1)) ze))) (zo zez ze ze))))),?_⟩;refine zE (σ0:=[some (.ref a),some (.int k),some (.int b)]) rfl ?_;have c:sz k<=200:=sz200 ⋯ ⋯;have j:sz (k*k+1)<=401:=zpq (n:=400) (zcl c c) (yi (zaJ (n:=1) "0a") "0a");walk_at "x";exact q _ ⋯ ⋯
def zhJ{x m:Int}(h:0<m):0<=x%m:=yak _ ⋯
def zhs{x m b:Int}(h:0<m)(a:m<=b+1):x%m<=b:=by have:=yac x h;lia
def zt3{x m c:Int}(h:0<m)(a:m<=c+1):0<=c-x%m:=by have:=yac x h;lia
def zsf{x m c:Int}(h:0<m):c-x%m<=c:=by have:=yak x (b:=m) ⋯;lia
def ziA(T:Txt K mg):T.d__law_amount.Ok P w base 1 zgI:=by
 refine T.d__law_amount.F.okN zew "0f" λc A outer s H vs Q E b h=>?_;obtain⟨i,a,rfl,d,e,g,j,q⟩:=h;have f:sz i<=200:=sz200 ⋯ ⋯;refine⟨_,(zj (zC 2 zew (zo zP (zo zP (zo zL (pv 0) ze) ze) ze))
 (zj (zQ (zD (qEq K b.units) (pv 2) ze (nomark _))
 (zk (zB (zo zP (zo zP (zo zL (pv 0) ze) ze) ze)))
 zJ)
 (zj (zQ (zD (qEq K b.units) (pv 2) ze (nomark _))
 (zk (zB (zo zP (pv 1) ze)))
 zJ)
 (zj (zQ (zD (qEq K b.units) (pv 2) ze (nomark _))
 (zk (zB (zo zP (zo zP (zo zL (pv 0) ze) ze) ze)))
 zJ)
 (zj (zQ (zD (qEq K b.units) (pv 2) ze (nomark _))
 (zk (zB (zo zb4 (zo zez ze ze) (zo zP (zo zP (zo zL (pv 0) ze) ze) ze))))
 zJ)
 (zk (zB (zo zP (zo zL (pv 0) ze) (zo (zaS K) (zo zez ze ze) ze))))))))),?_⟩
 refine zE (σ0:=[some (.int i),some (.int a),none]) rfl ?_
 iterate 12 (walk_at "x1")
 generalize i*1226874159%2147483579%5=w;walk_at "x"
 ·exact q _ (zhJ "0a") (zhs "0a" "0a")
 ·exact q _ (zhJ "0a") (zhs "0a" "0a")
 ·exact q _ (zhJ "0a") (zhs "0a" "0a")
 ·exact q _ (zt3 "0a" "0a") (zsf "0a")
 ·exact q _ (zhJ "0a") (zhs "0a" "0a")
def zl0(T:Txt K mg):T.d__law_due.Ok P w base 2 zm9:=by
 refine T.d__law_due.F.okN zdb "0f" λk A outer s H vs Q E m h=>?_;obtain⟨i,n,b,rfl,y,B,I,z,G,C,q⟩:=h;have D:sz i<=200:=sz200 ⋯ ⋯;refine⟨_,(zj (zC 3 zdb (zo zP (zo zP (zo zL (pv 0) ze) ze) (pv 1)))
 (zj (zC 4 zdb (zo zP (zo (zaS K) (zo (zaS K) (pv 3) ze) (zo zP (zo zP (zo zL (pv 0) ze) ze) (zo zb4 (pv 1) ze))) (pv 1)))
 (zj (zC 5 zdb (zo zP (zo zP (zo zL (pv 0) ze) ze) ze))
 (zk (zB (zN (za (pv 3) (za (pv 4) (za (pv 5) (za (qD T.d__law_amount (ziA (base:=base) T) m (za (pv 0) (za (pv 2) zh))) zh)))))))))),?_⟩
 refine zE (σ0:=[some (.int i),some (.int n),some (.int b),none,none,none]) rfl ?_;obtain⟨a,d⟩:∃a,i*1103515245%2147483647%n=a:=⟨_,rfl⟩
 obtain⟨t',e⟩:∃t',i*742938285%2147483629%(n-1)=t':=⟨_,rfl⟩
 obtain⟨c,er⟩:∃c,i*950706376%2147483587%3=c:=⟨_,rfl⟩
 have p0:0<=a:=d▸yak _ ⋯;have l:a<n:=d▸yac _ ⋯;have t0:0<=t':=e▸yak _ ⋯;have t1:t'<n-1:=e▸yac _ ⋯;have f:0<=c:=er▸yak _ "0a";have j:c<3:=er▸yac _ "0a";walk_at "x";rename_i x g o p H1 fp t h1;rw[d,e,er]at h1;clear d e er;have u:0<=(a+1+t')%n:=yak _ ⋯;have r:(a+1+t')%n<n:=yac _ ⋯;have v:a≠(a+1+t')%n:=by
  by_cases h:a+1+t'<n
  ·rw[Int.emod_eq_of_lt ⋯ h];lia
  ·rw[<- Int.sub_emod_right,Int.emod_eq_of_lt ⋯ ⋯];lia
 exact q p H1 ⟨a,(a+1+t')%n,c,x⟩ fp t h1 ⟨⟨p0,l,u,r,v,f,j,g,by show x<=_;lia⟩,o⟩
def zjP(T:Txt K mg):T.d__law_sheet.Ok P w base 3 (zqZ K):=by
 refine T.d__law_sheet.F.okN zdo "0f" λB A outer s H vs Q E e h=>?_;obtain⟨a,ns,n,most,rfl,hS,N,n0,S,z,Y,q⟩:=h;refine⟨_,(zj (zQ (zD (qEq K e.units) (pv 1) ze (nomark _))
 (zk (zB (zam zh)))
 zJ)
 (zj (zC 3 zdo (zo zP (qD T.d__law_cell (za2 (base:=base) T) e (za (pv 0) (za ze zh))) (zo zez ze ze)))
 (zj (zC 4 zdo (zaA (zd3 rfl) rfl T.z_max BT.max (za (zbY K T.z_len (za (zd2 (show SlR _ (zfM K)from zgj) (pv 0) (zdA ze) (zdA (zo (zaS K) ze (pv 2)))) zh)) (za (zo zP (qD T.d__law_cell (za2 (base:=base) T) e (za (pv 0) (za ze zh))) (zo (zaS K) (pv 2) ze)) zh))))
 (zk (zB (qC1 ["_law_k", "_law_script", "_law_seed", "_law_many"] [none,some 0,some 3,some 1] (zac rfl T.z_range (za (pv 4) zh)) (λ_ _ _ _ _=>(qD T.d__law_due (zl0 (base:=base) T) e (za (qD T.d__law_drawn (zfd (base:=base) T) e (za (pv 1) (za (zo (zaS K) ze (pv 0)) (za (pv 2) zh)))) (za (pv 3) (za (pv 2) zh))))))))))),?_⟩
 refine zE (σ0:=[some (.ref a),some (.int n),some (.int most),none,none]) rfl ?_;have t:=zsb (xs:=ns.map V.int) (a:=3) (m:=most) "0a" z;have M:∃c,(if cell ns 2%(most+1)>((zbS (ns.map V.int) (some 3) (some (3+most))).length:Int)then cell ns 2%(most+1) else((zbS (ns.map V.int) (some 3) (some (3+most))).length:Int))=c/\0<=c/\c<=most:=by
  have h1:=yak (cell ns 2) (b:=most+1) ⋯;have h2:=yac (cell ns 2) (b:=most+1) ⋯;exact⟨_,rfl,by split<;>lia,by split<;>lia⟩
 obtain⟨c,L,W,c1⟩:=M;walk_at "x"
 ·rename_i p H1 fp u h1;exact q p H1 [] [] fp u h1 trivial (λ_ h=>nomatch h) (by show((0:Nat):Int)<=most;lia)
 ·rw[L];walk_at "x";rename_i J l H1 X u hl;refine zM zbg (λ_ _=>trivial) rfl (λi vs H'=>∃ds,IsTs zad H' vs ds/\ds.length=i/\∀d∈ds,zm n d/\d.a<=1000000000000) (λH' _=>⟨[],trivial,rfl,λ_ h=>nomatch h⟩) ?_ ?_
  ·rintro i x D vs o H2 H3 hi v I r g ⟨ds,k,f,hd⟩ Z rfl;walk_at "x";rename_i x R x1 p H4 d fp O hp j U b5 C;refine⟨⟨_,rfl⟩,∅,_,C,by rw[yb];exact yn g,ds++[d],IsTs.app ∅ ∅,by rw[yb,f];rfl,λy G=>?_⟩;rcases yH.mp G with h | h
   ·exact hd y h
   ·rw[ym.mp h];exact j
  ·rintro D H2 vs v I r g ⟨ds,k,f,hd⟩;exact q D H2 vs ds ∅ ∅ r k hd ⋯
def zfh(T:Txt K mg):T.d__law_lacks.Ok P w base 1 (zra K):=by
 refine T.d__law_lacks.F.okN sc__law_lacks "0f" λa3 A outer s H vs Q E hr h=>?_;obtain⟨a,u,ds,n,pf,rfl,⟨xs,hS,S⟩,hu,hn,hd,k⟩:=h;have J:=S.length;have c:∀f:Nat->Int,((vec n f).map V.int).length=n:=λf=>by rw[ye,zO]
 refine⟨_,(zj (qS1 3 sc__law_lacks ["_law_purse"] [none] (zW K (pv 2)) (λ_ _ _ _ _=>(zcI zb2 (pv 0))))
 (zj (zU PassesOwn.never rfl (zW K (pv 1)) (zG (i:=4) sc__law_lacks.nd rfl "0j")
 (zj (za1 (zo (zaS K) (qIx K (pv 3) (qIx K (pv 4) ze)) (qIx K (pv 4) ze)) (za6 (pv 3) (qIx K (pv 4) ze) zT))
 (zk (za1 (zo zb4 (qIx K (pv 3) (qIx K (pv 4) ze)) (qIx K (pv 4) ze)) (za6 (pv 3) (qIx K (pv 4) ze) zT)))))
 (zk (zB (qC1 ["_law_one"] [none] (zW K (pv 3)) (λ_ _ _ _ _=>(zaA (zd3 rfl) rfl T.z_max BT.max (za ze (za (pv 0) zh))))))))),?_⟩
 refine zE (σ0:=[some (.int (n:Int)),some (.ref a),some (.ref u),none,none]) rfl ?_;walk_at "x";refine zM (z9 (K:=K) (a:=u) (xs:=(vec n pf).map V.int)) (λH' e=>SqL.of (e.at hu)) rfl (λi vs _=>vs=(vec i λi=>-pf i).map V.int) (λH' _=>rfl) ?_ ?_
 ·rintro i x D vs o H3 U hi G t B l rfl e4 j;rw[c]at hi;rw[yg,zae hi]at j;cases j;walk_at "x";rename_i X Y R;exact CompN.int ⟨_,rfl⟩ ∅ R rfl
 rintro M H1 vs y O v l rfl;rw[c]at v;walk_at "x";refine za4 (xs:=xs) (λi C H'=>∃N:Option V,C=[some (.int (n:Int)),some (.ref a),some (.ref u),some (.ref M),N]/\H' M=some (.lst ((vec n λm=>-zF (ds.take i) m-pf m).map V.int))/\Same H H') ⟨_,rfl,by rw[v];congr 3;exact zaN λm _=>by show -pf m=-(0-0)-pf m;lia,O⟩ ?_ ?_ ?_
 ·rintro i C H' _ ⟨_,_,_,e⟩;exact hS.keep e
 ·rintro i x C U j ⟨N,rfl,g,t⟩;obtain⟨b,d,rfl,z,hb⟩:=(S.same t).get j;have a2:U b=some "0h":=hb;obtain⟨p0,p1,q0,q1,pq,r0,r1,a0,a1⟩:=hd d (ya z);walk_at "x";rename_i I b5 h5 X Y R;refine⟨_,rfl,?_,Y.same (b5.same t y) y⟩;rw[R,zH z];congr 3;refine zaN λm hm=>?_;unfold zF;rw[za0,zaU];by_cases e:d.p=m
  ·have O:¬d.q=m:=by lia
   have L:d.p.toNat=m:=by lia
   rw[if_pos e,if_neg O,if_neg (show ¬m=d.q.toNat by lia),if_pos (show m=d.p.toNat by lia),L];lia
  ·by_cases W:d.q=m
   ·have L:d.q.toNat=m:=by lia
    rw[if_neg e,if_pos W,if_pos (show m=d.q.toNat by lia),if_neg (show ¬d.q.toNat=d.p.toNat by lia),L];lia
   ·rw[if_neg e,if_neg W,if_neg (show ¬m=d.q.toNat by lia),if_neg (show ¬m=d.p.toNat by lia)]
 ·rintro C H3 ⟨N,rfl,g,t⟩;rw[J,yr]at g;walk_at "x";refine zM (z9 (K:=K) (a:=M) (xs:=(vec n λm=>-zF ds m-pf m).map V.int)) (λH' e=>SqL.of (e.at g)) rfl (λi vs _=>vs=(vec i (zc2 ds pf)).map V.int) (λH' _=>rfl) ?_ ?_
  ·rintro i x D vs o I X hi G Z B l rfl e6 j;rw[c]at hi;rw[yg,zae hi]at j;cases j;walk_at "x";rename_i H7 b7 h7;exact CompN.int ⟨_,rfl⟩ ∅ h7 rfl
  ·rintro D I vs G Z B l rfl;rw[c]at B;exact k D I (Same.none G t) (t.trans Z) B
def zij(T:Txt K mg):T.d__law_turned.Ok P w base 1 (zoq K):=by
 refine T.d__law_turned.F.okN zc6 "0f" λap A outer s H vs Q E hr h=>?_;obtain⟨a,way,n,g,ds,rfl,ha,V,hd,ak,q⟩:=h;have aq:=V.length;refine⟨_,(zj (zQ (PW.pt (zet (zD (qNe K hr.units) (pv 1) ze (nomark _)) (zey (zD (qNe K hr.units) (pv 1) ze (nomark _)))))
 (zk (zB (pv 0)))
 zJ)
 (zj (zC 2 zc6 (zd2 (show SlR _ (zfM K)from zgj) (pv 0) zgk (zdA (zo zaG (zbY K T.z_len (za (pv 0) zh)) ze))))
 (zj (qS1 3 zc6 ["_law_due_here"] [none] (zW K (pv 2)) (λ_ _ _ _ _=>(zN (za (qIx K (pv 0) ze) (za (qIx K (pv 0) ze) (za (zo zb4 ze (qIx K (pv 0) ze)) (za (qIx K (pv 0) ze) zh)))))))
 (zca (zQ (PW.pt (zet (zD (qEq K hr.units) (pv 1) ze (nomark _)) (zey (zD zcQ (zbY K T.z_len (za (pv 3) zh)) ze (nomark _)))))
 (zk (za1 (zo (zaS K) (zd2 (show SlR _ (zqY K)from zt0) (qIx K (pv 3) ze) zgk (zdA ze)) (zN (za (zaA (zd3 rfl) rfl T.z_max BT.max (za ze (za (zo zb4 (qIx K (qIx K (pv 3) ze) ze) ze) zh))) zh))) (za6 (pv 3) ze zT)))
 zJ)
 (zk (zB (zo (zaS K) (pv 2) (pv 3)))))))),?_⟩
 refine zE (σ0:=[some (.ref a),some (.int way),none,none]) rfl ?_;walk_at "x"
 case' q.refine_1.q.refine_1.q=>exact q a H g ds (Same.refl _) ha V hd (yc _)
 all_goals
  rename_i hf H1 ag e1 v;obtain⟨k,ek⟩:∃k:Nat,((g.length:Int)/2)=(k:Int):=⟨g.length/2,⋯⟩
  have hk:2*k<=ds.length:=by lia
  rw[ek,zqW]at v;have L:=(V.take k).same e1;have a4:(ds.take k).length=k:=by rw[yas];lia
  refine zM (z9 (K:=K) (a:=hf) (xs:=g.take k)) (λH' e=>SqL.of (e.at v)) rfl (λi vs H'=>∃es,IsTs zad H' vs es/\es.length=i/\∀d∈es,zm n d/\d.a<=1000000000000) (λH' _=>⟨[],trivial,rfl,λ_ h=>nomatch h⟩) ?_ ?_
  ·rintro i x D vs o H2 H3 hi hD U hv l ⟨es,G,B,c⟩ J hx;obtain⟨b,d,rfl,ac,hb⟩:=(L.same (U.trans J)).get hx;have u:H3 b=some "0h":=hb;obtain⟨⟨p0,p1,q0,Y,pq,r0,r1,a0,a1⟩,a2⟩:=hd d (ybz (ya ac));have aj:i<=64:=by rw[yas]at hi;lia
   walk_at "x";rename_i t H4 ft S Z H5 b5 h5;refine⟨⟨_,rfl⟩,∅,_,h5,by rw[yb];exact yn l,es++[⟨d.q,d.p,2-d.r,d.a⟩],IsTs.app (f:=zad) (b5.tup Z) ∅,by rw[yb,B];rfl,λy hy=>?_⟩;rcases yH.mp hy with h | h
   ·exact c y h
   ·rw[ym.mp h];exact⟨⟨q0,Y,p0,p1,pq.symm,by show 0<=2-d.r;lia,by show 2-d.r<3;lia,a0,a1⟩,a2⟩
  rintro bk H2 vs a6 U m l ⟨es,G,B,c⟩;have j:es.length<=k:=by rw[B,yas];lia
  have ad:=G.length;refine znq (λσ' H'=>∃ws es,σ'=[some (.ref a),some (.int way),some (.ref hf),some (.ref bk)]/\H' bk=some (.lst ws)/\IsTs zad H' ws es/\es.length<=k/\(∀d∈es,zm n d/\d.a<=1000000000000)/\Same H1 H') ?_ ?_
  ·walk_at "x"
   all_goals first | exact⟨vs,es,rfl,m,G,j,c,U⟩ | skip
   all_goals
    obtain⟨d,N⟩:=zw (show 0<es.length by lia);obtain⟨b,a9,aa⟩:=G.getI N;have u:H2 b=some "0h":=aa;have ai:atI vs 0=some (.ref b):=zav "0a" a9;obtain⟨⟨p0,p1,q0,Y,pq,r0,r1,a0,a1⟩,a2⟩:=c d (ya N);walk_at "x";refine zul u (show ¬((0:Nat)=0/\(3:Nat)=4) by decide) λc3 H5 an e5 ab=>?_;have R:H5 c3=some (.tup [.int d.p,.int d.q,.int d.r]):=ab;have af:=e5.at m;have ah:=e5.at u;walk_at "x";rename_i t1 H6 ao e6 a5;refine ztH (e6.at R) a5 (by simp) (by simp) (show 3+1<=100000 by decide) λc4 H7 am e7 a7=>?_;obtain⟨z,ez,z0,z1⟩:∃z,z=(if d.a-1>0 then d.a-1 else 0)/\0<=z/\z<=d.a:=⟨_,rfl,by split<;>lia,by split<;>lia⟩
    have I:H7 c4=some (.tup (zad ⟨d.p,d.q,d.r,z⟩)):=by rw[ez];exact a7
    have C:=e5.trans (e6.trans e7);walk_at "x";refine zbA (C.at m) (zbF (k:=0) "0a" ⋯) λH8 b8 h8=>?_;refine⟨_,es.set 0 ⟨d.p,d.q,d.r,z⟩,rfl,h8,IsTs.set9 (b8.tup I) 0 ((G.same C).but b8),by rw[yar];exact j,λy hy=>?_,b8.same (U.trans C) a6⟩;rcases yaV hy with h | h
    ·exact c y h
    ·rw[h];exact⟨⟨p0,p1,q0,Y,pq,r0,r1,z0,by show z<=_;lia⟩,by show z<=_;lia⟩
  rintro σ' H3 ⟨ws,X,rfl,a8,M,ae,O,J⟩;have a3:=J.at v;have W:=L.same J;have al:=M.length;have ar:(g.take k).length=k:=by rw[yas];lia
  walk_at "x";refine zo0 a3 a8 ⋯ λp H4 fp S hp=>?_;walk_at "x";exact q p H4 _ (ds.take k++X) (e1.trans (J.trans S)) hp (IsTs.cat (M.same S) (W.same S)) (λd h=>by
   rcases yH.mp h with z | z
   ·exact hd d (ybz z)
   ·exact O d z) (by rw[yb,a4];lia)
def ziV(T:Txt K mg):T.d__law_purses.Ok P w base 3 (zoy K):=by
 refine T.d__law_purses.F.okN zaF "0f" λa6 A outer s H vs Q E j h=>?_;obtain⟨a,b,ns,n,ds,rfl,hS,V,n1,n9,hd,hl,q⟩:=h;have k:((n:Nat):Int).toNat=n:=yh n;have X:∀d∈ds,zm (n:Int) d:=λd h=>(hd d h).1;have s0:=yak (cell ns 1) (show(1000000000:Int)≠0 by decide);have s1:=yac (cell ns 1) (show(0:Int)<1000000000 by decide);refine⟨_,(zj (zC 3 zaF (zo zP (qD T.d__law_cell (za2 (base:=base) T) j (za (pv 0) (za ze zh))) (zo zez ze ze)))
 (zj (zC 4 zaF (zo zP (qD T.d__law_cell (za2 (base:=base) T) j (za (pv 0) (za ze zh))) ze))
 (zj (zC 5 zaF (qC1 ["_law_k", "_law_script", "_law_seed"] [none,some 0,some 3] (zac rfl T.z_range (za (pv 1) zh)) (λ_ _ _ _ _=>(qD T.d__law_drawn (zfd (base:=base) T) j (za (pv 1) (za (zo (zaS K) ze (pv 0)) (za (zo (zaS K) (pv 2) ze) zh)))))))
 (zj (zC 6 zaF (qC1 ["_law_member"] [none] (zac rfl T.z_range (za (pv 1) zh)) (λ_ _ _ _ _=>ze)))
 (zca (zQ (PW.pt (zdd (zD (qEq K j.units) (pv 4) ze (nomark _)) (zdd (zD (qEq K j.units) (pv 4) ze (nomark _)) (zer (zD (qEq K j.units) (pv 4) ze (nomark _))))))
 (zk (zC 6 zaF (qD T.d__law_lacks (zfh (base:=base) T) j (za (pv 1) (za (pv 2) (za (pv 6) zh))))))
 zJ)
 (zca (zQ (zD (qEq K j.units) (pv 4) ze (nomark _))
 (zk (za1 (zaA (zd3 rfl) rfl T.z_max BT.max (za ze (za (zo zb4 (zo zb4 (qIx K (pv 6) (zo zP (pv 3) (pv 1))) ze) (zo zP (qIx K (pv 5) ze) ze)) zh))) (za6 (pv 6) (zo zP (pv 3) (pv 1)) zT)))
 zJ)
 (zca (zQ (zD (qEq K j.units) (pv 4) ze (nomark _))
 (zk (zC 6 zaF (qC1 ["_law_k", "_law_purses_here", "_law_drawn_here"] [none,some 6,some 5] (zac rfl T.z_range (za (pv 1) zh)) (λ_ _ _ _ _=>(zo (zaS K) (qIx K (pv 1) (pv 0)) (zo zP (zo zP (zo zL (qIx K (pv 2) (pv 0)) ze) ze) ze))))))
 zJ)
 (zca (zQ (zD (qEq K j.units) (pv 4) ze (nomark _))
 (zk (zC 6 zaF (qC1 ["_law_k", "_law_drawn_here"] [none,some 5] (zac rfl T.z_range (za (pv 1) zh)) (λ_ _ _ _ _=>(zo zP (zo zP (zo zL (qIx K (pv 1) (pv 0)) ze) ze) ze)))))
 zJ)
 (zca (zQ (zD (qEq K j.units) (pv 4) ze (nomark _))
 (zk (zC 6 zaF (qC1 ["_law_k", "_law_drawn_here"] [none,some 5] (zac rfl T.z_range (za (pv 1) zh)) (λ_ _ _ _ _=>(zo zP (zo zL (qIx K (pv 1) (pv 0)) ze) (zo (zaS K) (zo zez ze ze) ze))))))
 zJ)
 (zk (zB (pv 6)))))))))))),?_⟩
 refine zE (σ0:=[some (.ref a),some (.int (n:Int)),some (.ref b),none,none,none,none]) rfl ?_;walk_at "x";refine zge 1000000000000000 rfl ⋯ (λi o' H' R hi e t=>?_) λdr H1 D a2 Y g x=>?_
 ·have a5:=hS.keep e;walk_at "x";rename_i y y0 y1;exact t _ _ ⋯ y1 (Same.refl _)
 rw[k]at g x;have L:=V.same Y;walk_at "x";rename_i zu H2 W O r;rw[k]at r;refine zeq 6 (zls H1 n 10000000000000) ?_ ?_
 ·have lk:∀i,i<n->0<=zc2 ds (λ_=>0) i/\zc2 ds (λ_=>0) i<=10000000000000:=λi hi=>by
   have h1:=zsR (m:=i) ds hd;refine⟨zup i,?_⟩;have e:zc2 ds (λ_=>0) i=if -(zaC ds i-zaE ds i)-0>0 then -(zaC ds i-zaE ds i)-0 else 0:=rfl
   rw[e];split<;>lia
  walk_at "x"
  all_goals first
   | exact⟨_,rfl,zu,_,rfl,W,O,r,λi _=>⟨by decide,by decide⟩⟩
   | (refine zay ?_
      exact⟨b,zu,ds,n,_,rfl,L.same O,r,⋯,X,λu H3 fu C f=>⟨_,rfl,u,_,rfl,Same.none fu O,O.trans C,f,lk⟩⟩)
 rintro v H3 ⟨u,pf,rfl,fu,C,f,c⟩;have a0:=C.at g;have a7:=yak (cell ns 1%1000000000) (show(n:Int)≠0 by lia);have a1:=yac (cell ns 1%1000000000) (show(0:Int)<n by lia);refine zeq 6 (zls H1 n 10000000000000) ?_ ?_
 ·walk_at "x"
  ·rename_i Z b8 h8;refine⟨_,rfl,u,_,rfl,fu,b8.same C fu,h8,λi hi=>?_⟩;have h1:=c i hi;have h2:=c _ (show(cell ns 1%1000000000%(n:Int)).toNat<n by lia);have h3:=x 0 ⋯;have h4:D (Int.toNat 0)=D 0:=rfl;rw[h4];split
   ·split<;>lia
   ·exact h1
  ·exact⟨_,rfl,u,pf,rfl,fu,C,f,c⟩
 rintro v H4 ⟨u,pf,rfl,fu,N,f,c⟩;have z:=N.at g;refine zeq 6 (zls H1 n 10000000000040) ?_ ?_
 ·walk_at "x"
  ·refine zge 10000000000040 rfl ⋯ (λi o' H' R hi e t=>?_) λw Z F G J o l=>?_
   ·have a4:=e.at f;have p:=e.at z;have hp:=c i ⋯;have hq:0<=D ((i:Int)).toNat/\D ((i:Int)).toNat<=1000000000000000:=by rw[yh];exact x i ⋯
    have B:(0:Int)+(i:Int)=i:=by lia
    rw[B];walk_at "x";have a3:0<=pf ((i:Int)).toNat/\pf ((i:Int)).toNat<=10000000000000:=by rw[yh];exact hp
    exact t _ _ ⋯ ⋯ (Same.refl _)
   ·rw[k]at o l;exact⟨_,rfl,w,F,rfl,Same.none G N,N.trans J,o,l⟩
  ·exact⟨_,rfl,u,pf,rfl,fu,N,f,λi hi=>⟨(c i hi).1,by have:=(c i hi).2;lia⟩⟩
 rintro v H5 ⟨u,pf,rfl,fu,U,f,c⟩;have I:=U.at g;refine zeq 6 (zls H1 n 10000000000040) ?_ ?_
 ·walk_at "x"
  ·refine zge 10000000000040 rfl ⋯ (λi o' H' R hi e t=>?_) λw Z F G J o l=>?_
   ·have p:=e.at I;have hq:0<=D ((i:Int)).toNat/\D ((i:Int)).toNat<=1000000000000000:=by rw[yh];exact x i ⋯
    have B:(0:Int)+(i:Int)=i:=by lia
    rw[B];walk_at "x";exact t _ _ ⋯ ⋯ (Same.refl _)
   ·rw[k]at o l;exact⟨_,rfl,w,F,rfl,Same.none G U,U.trans J,o,l⟩
  ·exact⟨_,rfl,u,pf,rfl,fu,U,f,c⟩
 rintro v H6 ⟨u,pf,rfl,fu,S,f,c⟩;have M:=S.at g;refine zeq 6 (zls H1 n 10000000000040) ?_ ?_
 ·walk_at "x"
  ·refine zge 10000000000040 rfl ⋯ (λi o' H' R hi e t=>?_) λw Z F G J o l=>?_
   ·have p:=e.at M;have hq:0<=D ((i:Int)).toNat/\D ((i:Int)).toNat<=1000000000000000:=by rw[yh];exact x i ⋯
    have B:(0:Int)+(i:Int)=i:=by lia
    rw[B];walk_at "x";exact t _ _ ⋯ ⋯ (Same.refl _)
   ·rw[k]at o l;exact⟨_,rfl,w,F,rfl,Same.none G S,S.trans J,o,l⟩
  ·exact⟨_,rfl,u,pf,rfl,fu,S,f,c⟩
 rintro v H7 ⟨u,pf,rfl,fu,e7,f,c⟩;walk_at "x";exact q u H7 pf (Same.none fu Y) (Y.trans e7) f λi hi=>⟨(c i hi).1,by have:=(c i hi).2;lia⟩
def zee(T:Txt K mg):T.d__law_divisor.Ok P w base 1 zlc:=by
 refine T.d__law_divisor.F.okN zbV "0f" λj A outer s H vs Q E p h=>?_;obtain⟨a,b,rfl,i,t,q⟩:=h;refine⟨_,(zj (zb1 PassesOwn.never (zD (qNe K p.units) (pv 1) ze (nomark _))
 (zj (zC 2 zbV (zo zP (pv 0) (pv 1)))
 (zj (zC 0 zbV (pv 1))
 (zk (zC 1 zbV (pv 2))))))
 (zk (zB (pv 0)))),?_⟩
 refine zE (σ0:=[some (.int a),some (.int b),none]) rfl ?_;walk_at "x";refine⟨λm σ H'=>∃k r f,σ=[some (.int k),some (.int r),f]/\H'=H/\0<=k/\0<=r/\My.gc k r=My.gc a b/\m=r.toNat,⟨_,_,_,_,rfl,rfl,i,t,rfl,rfl⟩,?_⟩;rintro m σ H' ⟨k,r,f,rfl,rfl,l,d,e,rfl⟩;walk_at "x"
 ·rename_i o;refine⟨λg c=>g=[some (.int r),some (.int (k%r)),some (.int (k%r))]/\c=H',?_,?_⟩
  ·rintro g c ⟨rfl,rfl⟩;have h1:=yak k (b:=r) ⋯;have h2:=yac k (b:=r) ⋯;exact⟨_,⋯,_,_,_,rfl,rfl,d,h1,by rw[My.gc_step];exact e,rfl⟩
  ·walk_at "x";exact⟨rfl,rfl⟩
 ·rename_i n;rw[n,My.gc_zero_right l]at e;rw[e];exact q
def zkL(T:Txt K mg):T.d__law_part.Ok P w base 2 zs9:=by
 refine T.d__law_part.F.okN zfT "0f" λk A outer s H vs Q E m h=>?_;obtain⟨t,b,r,rfl,i,l,g,q⟩:=h;have ha:=zlr t;have d:My.gc (if t<0 then -t else t) b=My.gc t b:=by
  have:=My.gc_abs t b
  rwa [if_neg (show ¬b<0 by lia)]at this
 have f:0<My.gc (if t<0 then -t else t) b:=by rw[d];exact My.gc_pos_right ⋯
 have er:r=Rat.divInt t b:=by
  rw[yaR,l]
  have:=za3 i
  rw[ybf,Rat.mul_assoc,ybK _ (by grind)];grind
 have c:=My.part_pos (t:=t) i;rw[<- er]at c;refine⟨_,(zj (zC 2 zfT (qD T.d__law_divisor (zee (base:=base) T) m (za (zaA zfA rfl T.z_abs BT.abs (za (pv 0) zh)) (za (pv 1) zh))))
 (zk (zB (zN (za (zo zaG (pv 0) (pv 2)) (za (zo zaG (pv 1) (pv 2)) zh)))))),?_⟩
 refine zE (σ0:=[some (.int t),some (.int b),none]) rfl ?_;have a:∀x:Int,My.gc t b∣x->sz (x/My.gc t b)<=4400->sz x<=sz (My.gc (if t<0 then -t else t) b)+4500:=λx j h=>by
  have e:x/My.gc t b*My.gc t b=x:=yap j;rw[d,<- e];exact yi (zcl h (yc _)) ⋯
 walk_at "x";refine zos f (a t (My.gc_dvd_left t b) (by rw[c.1];exact g.1)) ?_;walk_at "x";refine zos f (a b (My.gc_dvd_right t b) (by rw[c.2];exact g.2)) ?_;walk_at "x";refine NewQ.mk (q:=r) q ?_;rw[d];exact c
def zlY(T:Txt K mg):T.d__law_sum.Ok P w base 3 ztu:=by
 refine T.d__law_sum.F.okN zlW "0f" λg A outer s H vs Q E j h=>?_;obtain⟨a,b,q,r,rfl,h1,h2,d,c,l,k⟩:=h;have e:=zap q;have f:=zap r;have o:CMulS q.num (r.den:Int):=CMulS.of d.1 c.2 "0a";have m:CMulS r.num "0k":=CMulS.of c.1 d.2 "0a";have n:CMulS "0k" (r.den:Int):=CMulS.of d.2 c.2 "0a";have i:0<"0k"*(r.den:Int):=yaW e f;refine⟨_,(zk (zB (qD T.d__law_part (zkL (base:=base) T) j (za (zo (zaS K) (zo zL (qIx K (pv 0) ze) (qIx K (pv 1) ze)) (zo zL (qIx K (pv 1) ze) (qIx K (pv 0) ze))) (za (zo zL (qIx K (pv 0) ze) (qIx K (pv 1) ze)) zh))))),?_⟩;refine zE (σ0:=[some (.ref a),some (.ref b)]) rfl ?_;walk_at "x";refine zay ?_;refine⟨_,_,q+r,rfl,i,?_,l,k⟩;rw[yV,yK,yK,yK,ziz q,ziz r];grind
def zfe(T:Txt K mg):T.d__law_parts.Ok P w base 2 (zps K):=by
 refine T.d__law_parts.F.okN sc__law_parts "0f" λo A outer s H vs Q E c h=>?_;obtain⟨a,ws,qs,n,rfl,ha,j,u,m,k⟩:=h;have l:=j.length;refine⟨_,(zj (zQ (PW.pt (zdd (zdR (zcX K (zmR K T.z_isinstance (za (pv 0) (za (zgd (v:=.ty "list") rfl T.z_list BT.list rfl) zh))))) (zer (zD (qNe K c.units) (zbY K T.z_len (za (pv 0) zh)) (pv 1) (nomark _)))))
 (zk (zB zc8))
 zJ)
 (zj (zU PassesOwn.never rfl (zW K (pv 0)) (zG (i:=2) sc__law_parts.nd rfl "0j")
 (zj (zQ (PW.pt (zdd (zdR (zcX K (zmR K T.z_isinstance (za (pv 2) (za (zgd (v:=.ty "tuple") rfl T.z_tuple BT.tuple rfl) zh))))) (zdd (zD (qNe K c.units) (zbY K T.z_len (za (pv 2) zh)) ze (nomark _)) (zdd (zdR (zcX K (qD T.d__law_whole (zff (base:=base) T) c (za (qIx K (pv 2) ze) zh)))) (zer (zdR (zcX K (qD T.d__law_whole (zff (base:=base) T) c (za (qIx K (pv 2) ze) zh)))))))))
 (zk (zB zc8))
 zJ)
 (zk (zQ (PW.pt (zdd (zD zcp (qIx K (pv 2) ze) ze (nomark _)) (zdd (zD zcp (qIx K (pv 2) ze) ze (nomark _)) (zer (zD (qNe K c.units) (qD T.d__law_divisor (zee (base:=base) T) c (za (qIx K (pv 2) ze) (za (qIx K (pv 2) ze) zh))) ze (nomark _))))))
 (zk (zB zc8))
 zJ))))
 (zk (zB zc8)))),?_⟩
 refine zE (σ0:=[some (.ref a),some (.int n),none]) rfl ?_;walk_at "x"
 ·exfalso;lia
 refine za4 (xs:=ws) (λi d H'=>∃f:Option V,d=[some (.ref a),some (.int n),f]/\H'=H) ⟨_,rfl,rfl⟩ ?_ ?_ ?_
 ·rintro i d H' _ ⟨_,_,rfl⟩;exact SqL.of ha
 ·rintro i x d H' p ⟨f,rfl,rfl⟩;obtain⟨b,q,rfl,g,z⟩:=j.get p;have r:=zap q;have t:0<=q.num:=Rat.num_nonneg.mpr (m q (ya g));have e:=zs8 q;rw[if_neg ⋯]at e;walk_at "x"
  all_goals first | (exfalso;lia) | skip
  exact⟨_,rfl,rfl⟩
 ·rintro d y ⟨f,rfl,rfl⟩;walk_at "x";exact k _ (Same.refl _)
def zlA(T:Txt K mg):T.d__law_nets.Ok P w base 1 (zhP K):=by
 refine T.d__law_nets.F.okN sc__law_nets "0f" λy A outer s H vs Q E W h=>?_;obtain⟨n,a,ds,rfl,⟨xs,z,u⟩,n0,M,hd,k⟩:=h;refine⟨_,(zj (qS1 2 sc__law_nets ["_law_member"] [none] (zac rfl T.z_range (za (pv 0) zh)) (λ_ _ _ _ _=>ze))
 (zj (zU PassesOwn.never rfl (zW K (pv 1)) (zG (i:=3) sc__law_nets.nd rfl "0j")
 (zj (za1 (zo zb4 (qIx K (pv 2) (qIx K (pv 3) ze)) (qIx K (pv 3) ze)) (za6 (pv 2) (qIx K (pv 3) ze) zT))
 (zk (za1 (zo (zaS K) (qIx K (pv 2) (qIx K (pv 3) ze)) (qIx K (pv 3) ze)) (za6 (pv 2) (qIx K (pv 3) ze) zT)))))
 (zk (zB (pv 2))))),?_⟩
 refine zE (σ0:=[some (.int n),some (.ref a),none,none]) rfl ?_;walk_at "x";rename_i l H2 O j hl;refine za4 (xs:=xs) (λi g H'=>∃t:Option V,g=[some (.int n),some (.ref a),some (.ref l),t]/\H' l=some (.lst ((vec n.toNat (zF (ds.take i))).map V.int))/\Same H H') ?_ ?_ ?_ ?_
 ·exact⟨_,rfl,hl,∅⟩
 ·rintro i g H' _ ⟨_,_,_,e⟩;exact e.seq z
 ·rintro i x g D B ⟨t,rfl,c,o⟩;obtain⟨b,d,rfl,f,J⟩:=(u.same o).get B;have G:D b=some "0h":=J;obtain⟨p0,U,q0,Y,pq,L,R,Z,a1⟩:=hd d (ya f);walk_at "x";rename_i N b5 S H6 X I;refine⟨_,rfl,?_,∅⟩;rw[I,zH f];congr 3;refine zaN λm hm=>?_;unfold zF;rw[za0,zaU];by_cases e:d.p=m
  ·have C:¬d.q=m:=by lia
   have j:d.p.toNat=m:=by lia
   rw[if_pos e,if_neg C,if_neg (show ¬m=d.q.toNat by lia),if_pos (show m=d.p.toNat by lia),j];lia
  ·by_cases v:d.q=m
   ·have j:d.q.toNat=m:=by lia
    rw[if_neg e,if_pos v,if_pos (show m=d.q.toNat by lia),if_neg (show ¬d.q.toNat=d.p.toNat by lia),j];lia
   ·rw[if_neg e,if_neg v,if_neg (show ¬m=d.q.toNat by lia),if_neg (show ¬m=d.p.toNat by lia)]
 ·rintro g H3 ⟨t,rfl,c,o⟩;rw[u.length,yr]at c;walk_at "x";exact k _ _ ∅ o c
def zj1(T:Txt K mg):T.d__law_other.Ok P w base 5 (zot K lP lQ):=by
 refine T.d__law_other.F.okN zj3 "0f" λa6 A outer s H vs Q E o h=>?_;obtain⟨a,way,n,ds,xs,rfl,ha,C,hd,hl,n2,y,w0,w4,U,k⟩:=h;refine⟨_,(zj (zQ (zD (qEq K o.units) (pv 0) ze (nomark _))
 (zk (zB (qD T.d_paired (zpb (base:=base) T) o (za (pv 1) (za (zdr K T.z_list (za (pv 2) zh)) zh)))))
 zJ)
 (zj (zQ (zD (qEq K o.units) (pv 0) ze (nomark _))
 (zk (zB (qD T.d_housed (zoC (base:=base) T) o (za (pv 1) (za (zdr K T.z_list (za (pv 2) zh)) zh)))))
 zJ)
 (zj (zQ (zD (qEq K o.units) (pv 0) ze (nomark _))
 (zk (zB (qD T.d_with_amounts (zcO (base:=base) T) o (za (zdr K T.z_list (za (pv 2) zh)) (za (qIx K (qD T.d_cut (ztJ (base:=base) T) o (za (pv 1) (za (zdr K T.z_list (za (pv 2) zh)) zh))) ze) zh)))))
 zJ)
 (zk (zB (qD T.d_with_amounts (zcO (base:=base) T) o (za (zdr K T.z_list (za (pv 2) zh)) (za (qIx K (qD T.d_thinned (znw (base:=base) T) o (za (pv 1) (za (zdr K T.z_list (za (pv 2) zh)) zh))) ze) zh)))))))),?_⟩
 refine zE (σ0:=[some (.int way),some (.int (n:Int)),some (.ref a)]) rfl ?_;have q:∀d∈ds,zm (n:Int) d:=λd h=>(hd d h).1;have J:(n:Int).toNat=n:=yh n;walk_at "x"
 ·rename_i z R H1 S u h1 l H2 vs fl j r x;subst z;rw[J]at x;exact k l H2 vs _ (u.trans j).t r x (znE hd hl y)
 ·rename_i z R H1 S u h1 l H2 vs fl j r x;subst z;rw[J]at x;exact k l H2 vs _ (u.trans j).t r x (zm1 hd hl y)
 ·rename_i n0 Z z R H1 S u h1 c2 H2 f2 j h2 p l c H3 vs L cs fp fl fc e3 a3 O a4 a8 V Y a0 a7;subst z;rw[J]at V;have v:=u.trans (j.trans e3);refine zay ?_;refine zhi (ms:=vec ds.length (L cs.length)) ⟨xs,SqL.of ((j.trans e3).at h1),C.same v⟩ (SqL.of O) (by rw[zO];exact yc _) ⋯ ?_;intro b G us fb B I e;have D:zy ds (λi=>(vec ds.length (L cs.length)).getD i 0)=zy ds (L cs.length):=zbh λi hi=>by rw[yf,zae hi];rfl
  rw[D]at e;exact k b G us _ (v.trans B).t I e (zkD hd hl y (λi hi=>V.bnd q Y cs.length (yc _) i hi) λm _=>V.nets q Y m cs.length (yc _))
 ·rename_i n0 Z n3 R H1 S u h1 c2 H2 f2 j h2;have f:=u.trans j;refine zay ?_;refine⟨c2,n,ds,rfl,⟨xs,SqL.of h2,C.same f⟩,⋯,⋯,⋯,q,TbW.same f U,?_⟩;intro tp b h H3 l g a5 fb fh X t3 a1 I hh M W _;walk_at "x";refine zay ?_;refine zhi (ms:=vec ds.length l) ⟨xs,SqL.of (X.lst (j.at h1)),?_⟩ (SqL.of I) (by rw[zO];exact yc _) ⋯ ?_
  ·exact IsTs.keep (λa xs z=>X.tup z) (C.same f)
  intro b2 G us a2 B N e;have D:zy ds (λi=>(vec ds.length l).getD i 0)=zy ds l:=zbh λi hi=>by rw[yf,zae hi];rfl
  rw[D]at e;have hw:(if way=1 then n+1 else n)=n:=if_neg Z;refine k b2 G us _ ((f.t.trans X).trans B.t) N e ?_;rw[hw];exact zkD hd hl y M W
def zfi(T:Txt K mg):T.d__law_holds.Ok P w base 9 (znW K):=by
 refine T.d__law_holds.F.okN sc__law_holds "0f" λdb A outer s H vs Q E hr h=>?_;obtain⟨a,u,n,es,xs,ps,full,rfl,ha,hT,hu,v,n2,n6,hd,hl,h5,hp,O,k⟩:=h;have al:∀d∈es,zm (n:Int) d:=λd h=>(hd d h).1;have c1:=hT.length;have bi:(ps.map V.int).length=n:=by rw[ye,v]
 obtain⟨W,P',C,Sm⟩:=zpz n6 h5 hd hl v hp;have bt:=ztl hd hl;have b4:sz ((zbD es:Nat):Int)<=750:=yi bt "0a";refine⟨_,(zj (zC 3 sc__law_holds (zbY K T.z_len (za (pv 1) zh)))
 (zj (qS1 4 sc__law_holds ["_law_purse"] [none] (zW K (pv 1)) (λ_ _ _ _ _=>ze))
 (zj (zU PassesOwn.never rfl (zW K (pv 0)) (zG (i:=5) sc__law_holds.nd rfl "0j")
 (zk (za1 (zo (zaS K) (qIx K (pv 4) (qIx K (pv 5) ze)) (qIx K (pv 5) ze)) (za6 (pv 4) (qIx K (pv 5) ze) zT))))
 (zj (zC 6 sc__law_holds (qD T.d_cleared (zhY (base:=base) T) hr (za (zdr K T.z_list (za (pv 0) zh)) (za (zdr K T.z_list (za (pv 1) zh)) zh))))
 (zj (zC 7 sc__law_holds (qD T.d_ends_of (zmU (base:=base) T) hr (za (zdr K T.z_list (za (pv 0) zh)) (za (zdr K T.z_list (za (pv 1) zh)) zh))))
 (zj (zQ (PW.pt (zdd (zdR (zcX K (qD T.d__law_parts (zfe (base:=base) T) hr (za (pv 6) (za (pv 3) zh))))) (zer (zdR (zcX K (qD T.d__law_parts (zfe (base:=base) T) hr (za (pv 7) (za (pv 3) zh))))))))
 (zk (zB zc8))
 zJ)
 (zj (zC 8 sc__law_holds (zN (za ze (za ze zh))))
 (zj (zU PassesOwn.never rfl (zW K (pv 7)) (zG (i:=9) sc__law_holds.nd rfl "0j")
 (zk (zC 8 sc__law_holds (qD T.d__law_sum (zlY (base:=base) T) hr (za (pv 8) (za (pv 9) zh))))))
 (zj (zQ (zD (qNe K hr.units) (pv 8) (zN (za (zkt K T.z_sum (za (pv 1) zh)) (za ze zh))) (nomark _))
 (zk (zB zc8))
 zJ)
 (zj (zQ (zD (qNe K hr.units) (zc3 (qEq K hr.units) (pv 6) (qC1 ["_law_one"] [none] (zW K (pv 4)) (λ_ _ _ _ _=>(zN (za (pv 0) (za ze zh))))) (nomark _)) (pv 2) (nomark _))
 (zk (zB zc8))
 zJ)
 (zj (zC 10 sc__law_holds (qD T.d__law_nets (zlA (base:=base) T) hr (za (pv 3) (za (pv 0) zh))))
 (zk (zB (zvc (zuF K (pv 2)) (zox (zc3 (qEq K hr.units) (pv 7) (qC1 ["_law_k", "_law_purses_here", "_law_net"] [none,some 1,some 10] (zac rfl T.z_range (za (pv 3) zh)) (λ_ _ _ _ _=>(zN (za (zo (zaS K) (qIx K (pv 1) (pv 0)) (qIx K (pv 2) (pv 0))) (za ze zh))))) (nomark _))))))))))))))))),?_⟩
 refine zE (σ0:=[some (.ref a),some (.ref u),some (.bl full),none,none,none,none,none,none,none,none]) rfl ?_;walk_at "x";rename_i ow H1 cg e1 aj;rw[bi]at aj;rw[bi];have cq:=e1.at ha;refine za4 (xs:=xs) (λi σ' H'=>∃f5:Option V,σ'=[some (.ref a),some (.ref u),some (.bl full),some (.int (n:Int)),some (.ref ow),f5,none,none,none,none,none]/\H' ow=some (.lst ((vec n (zaE (es.take i))).map V.int))/\Same H H') ⟨_,rfl,aj,e1⟩ ?_ ?_ ?_
 ·rintro i σ' H' _ ⟨_,_,_,e⟩;exact SqL.of (e.at ha)
 ·rintro i x σ' H5 hx ⟨f7,rfl,d6,e5⟩;obtain⟨b,d,rfl,bf,hb⟩:=(hT.same e5).get hx;have d7:H5 b=some "0h":=hb;obtain⟨p0,p1,q0,q1,pq,r0,r1,a0,a1⟩:=al d (ya bf);walk_at "x";rename_i H6 b6 h6;refine⟨_,rfl,?_,b6.same e5 cg⟩;rw[h6,zH bf];congr 3;refine zaN λm hm=>?_;rw[za0];by_cases e:d.p=m
  ·rw[if_pos e,if_pos ⋯];congr 2;lia
  ·rw[if_neg e,if_neg ⋯]
 rintro σ' H2 ⟨f5,rfl,a3,e2⟩;rw[c1,yr]at a3;have c9:=e2.at ha;have c5:=e2.at hu;walk_at "x";rename_i s1 H3 d8 e3 Y m1 H4 da I bo;have as:=e2.trans (e3.trans I);refine zay ?_;refine zgG ⟨xs,SqL.of (I.at Y),hT.same as⟩ bo C ?_;intro lb H5 wb kk dc e5 b9 bv U ch hok;have S:=as.trans e5;have cd:=S.at ha;have cp:=S.at hu;walk_at "x";rename_i s2 H6 cw e6 bb m2 H7 dd e7 bw;have br:=S.trans (e6.trans e7);refine zay ?_;refine znB ⟨xs,SqL.of (e7.at bb),hT.same br⟩ bw C b4 ?_;intro en H8 we k2 d2 e8 bh b3 a5 ac bx;have ek:k2=kk:=zq1 a5 ac U ch;subst ek;clear a5 ac bx;have N:=(e6.trans e7).trans e8;have X:=S.trans N;have L:=N.at b9;have a4:=bv.same N;have ab:=(((e3.trans I).trans e5).trans N).at a3;have b7:=X.at ha;have bq:=X.at hu;have bg:=hT.same X;clear e1 e2 e3 I e5 e6 e7 e8 as S br N;clear aj cq a3 c9 c5 Y bo bb bw cd cp b9 bv;have az:=C.wide hok;have b1:=C.gr hok U;have c8:(zaz n es ps k2).length=n:=zdN;obtain⟨M,M0,M1,hM⟩:=C.ends_small Sm bt hok;have y:=ztI C b4 hok U;have a8:=zqn C hok;have af:(zfa es ps (zaz n es ps k2)).length=n:=by rw[ye,yB,v]
 walk_at "x";refine zay ?_;refine⟨lb,wb,_,(n:Int),rfl,L,a4,by rw[c8],λq t=>(az q t).1,λH9 e9=>?_⟩;have Z:=e9.at bh;have J:=b3.same e9;walk_at "x";refine zay ?_;refine⟨en,we,_,(n:Int),rfl,Z,J,by rw[af],λq t=>(y q t).1,λcj a6=>?_⟩;have g:=e9.trans a6;have R:=a6.at Z;have j:=J.same a6;have ax:=g.at L;have ar:=a4.same g;have ai:=g.at ab;have bd:=g.at b7;have ae:=g.at bq;have bp:=bg.same g;have ah:=X.trans g;clear e9 a6 g X Z J L a4 ab b7 bq bg bh b3;obtain⟨eq,a7⟩:∃q,q=zfa es ps (zaz n es ps k2):=⟨_,rfl⟩
 have d1:∀m,m<n->eq[m]?=some (zc1 es ps (zaz n es ps k2) m):=λm hm=>by rw[a7,yg,yQ (by rw[v];exact hm)];rfl
 have aa:∀q∈eq,Dv M q:=λq t=>by
  rw[a7]at t;obtain⟨m,hm,rfl⟩:=yX.mp t;exact hM m (by have:=yF.mp hm;rwa [v]at this)
 rw[<- a7]at y a8 af j;have cz:0<=zak ps/\zak ps<=100000000000000*(n:Int):=by have:=zo3 hp;rwa [v]at this
 have a9:((zak ps:Int):Rat)<=((100000000000000000:Int):Rat):=zax ⋯;have bm:∀i,SzQ (zaX (eq.take i)) 4400 4400:=λi=>by
  have h1:=zfQ (λq t=>(y q t).1) i;have h2:=zhc aa i;rw[a8]at h1;exact(DvB.sz ⟨h1.1,yL h1.2 a9,h2⟩ M0 M1).mono "0a" "0a"
 have co:∀q∈eq,SzQ q 4400 4400:=λq t=>by
  obtain⟨m,hm,em⟩:=y6 t;have h1:=zfQ (λq t=>(y q t).1) m;have h2:=(zfQ (λq t=>(y q t).1) (m+1)).2;rw[zH (by rw[yl hm,em]),zbr,a8]at h2;have h3:=(y q t).1;exact(DvB.sz ⟨h3,yL (by grind) a9,aa q t⟩ M0 M1).mono "0a" "0a"
 have bc:=j.length;walk_at "x";refine zan (q:=(0:Rat)) ⟨rfl,rfl⟩ ?_;intro c0 d9 cc ca;walk_at "x";refine za4 (xs:=we) (λi σ' H'=>∃(c:Addr) (f9:Option V),σ'=[some (.ref a),some (.ref u),some (.bl full),some (.int (n:Int)),some (.ref ow),f5,some (.ref lb),some (.ref en),some (.ref c),f9,none]/\IsQ H' c (zaX (eq.take i))/\Same cj H') ⟨c0,_,rfl,ca,cc⟩ ?_ ?_ ?_
 ·rintro i σ' H' _ ⟨_,_,_,_,e⟩;exact SqL.of (e.at R)
 ·rintro i x σ' cf hx ⟨c,f9,rfl,hc,G⟩;obtain⟨b2,q2,rfl,ad,cb⟩:=(j.same G).get hx;have Y:zaX (eq.take (i+1))=zaX (eq.take i)+q2:=by rw[zH ad,zbr]
  walk_at "x";refine zay ?_;refine⟨c,b2,_,q2,rfl,hc,cb,bm i,co q2 (ya ad),by rw[<- Y];exact bm (i+1),λp c2 a2 hp=>?_⟩;rw[<- Y]at hp;walk_at "x";exact⟨p,_,rfl,hp,G.trans a2⟩
 rintro σ' cf ⟨c,f9,rfl,hc,G⟩;rw[bc,yr,a8]at hc;have cu:=G.at ae;walk_at "x";refine zan (q:=((zak ps:Int):Rat)) ⟨rfl,rfl⟩ ?_;intro t2 cx aq c6;refine ztq (aq.at hc) c6 ?_;have l:=G.trans aq;have ap:=l.at ai;have au:=l.at ax;have ay:=ar.same l;clear G aq hc;walk_at "x";refine zM (z9 (K:=K) (a:=ow) (xs:=(vec n (zaE es)).map V.int)) (λH' e=>SqL.of (e.at ap)) rfl (λi vs H'=>IsQs H' vs ((List.range i).map λm=>((zaE es m:Int):Rat))) (λH' _=>trivial) ?_ ?_
 ·rintro i x D vs o H2 H3 hi hD e2 hv an hI e3 hx;rw[ye,zO]at hi;rw[yg,zae hi]at hx;cases hx;walk_at "x";refine zan (q:=((zaE es i:Int):Rat)) ⟨rfl,rfl⟩ ?_;intro t4 H4 I av;have c7:=(e3.trans I).at hv;walk_at "x";rename_i H5 b5 h5;refine⟨⟨_,rfl⟩,b5.same (e2.trans (e3.trans I)) hD,_,h5,by rw[yb];exact yn an,?_⟩;dsimp only;rw[yy,yk];exact IsQs.app (LBut.isQ b5 av) (LBut.isQs b5 (hI.same (e3.trans I)))
 rintro oq c2 vq de a2 ck cs bn;rw[ye,zO]at bn;walk_at "x";refine zmC (a2.at au) ck (ay.same a2) bn ?_;have ef:decide (zaz n es ps k2="0e".map λm=>((zaE es m:Int):Rat))=full:=by
  have h1:=full90 al b1;cases full with
  | true=>exact decide_eq_true (h1.mp (O.mp rfl))
  | false=>exact decide_eq_false λz=>absurd (O.mpr (h1.mpr z)) (by decide)
 rw[ef];have f:=l.trans a2;have cr:=f.at bd;have b8:=f.at ae;have aw:=f.at R;have am:=j.same f;have ct:=bp.same f;walk_at "x"
 ·rename_i z;exact absurd rfl z
 ·rename_i _ nt be ci B b0 z;exact k be (ah.trans (f.trans B))
 rename_i _ nt be ci B b0 z;rw[yh]at b0;have ce:full=true:=by cases full<;>simp_all
 have cm:zaz n es ps k2="0e".map λm=>((zaE es m:Int):Rat):=by rw[ce]at ef;exact of_decide_eq_true ef
 have bj:=B.at b8;have c4:eq="0e".map λm=>((ps.getD m 0+zF es m:Int):Rat):=by
  rw[a7];unfold zfa;rw[v];exact yI λm hm=>end90 al b1 cm (yF.mp hm)
 refine zM zbg (λ_ _=>trivial) rfl (λi vs H'=>IsQs H' vs ((List.range i).map λm=>((ps.getD m 0+zF es m:Int):Rat))) (λH' _=>trivial) ?_ ?_
 ·rintro i x D vs o H2 H3 hi hD e2 hv an hI e3 rfl;rw[yh]at hi;have ei:((0:Int)+(i:Int)).toNat=i:=by lia
  obtain⟨p,ba⟩:=zw (show i<ps.length by lia);have cn:ps.getD i 0=p:=by rw[yf,ba];rfl
  have d3:atI (ps.map V.int) ((0:Int)+(i:Int))=some (.int p):=zav ⋯ (by rw[ei,yg,ba];rfl);have d4:atI ((vec n (zF es)).map V.int) ((0:Int)+(i:Int))=some (.int (zF es i)):=zav ⋯ (by rw[ei,yg,zae hi];rfl);have ao:=e2.trans e3;have d5:=ao.at bj;have cy:=ao.at b0;walk_at "x";refine zan (q:=((ps.getD i 0+zF es i:Int):Rat)) ⟨by rw[cn,ei];rfl,rfl⟩ ?_;intro t4 H4 I av;have c7:=(e3.trans I).at hv;walk_at "x";rename_i H5 b5 h5;refine⟨⟨_,rfl⟩,b5.same (ao.trans I) hD,_,h5,by rw[yb];exact yn an,?_⟩;dsimp only;rw[yy,yk];exact IsQs.app (LBut.isQ b5 av) (LBut.isQs b5 (hI.same (e3.trans I)))
 rintro df c3 d0 cv ak bu bz ag;rw[yh,<- c4]at ag;refine zmC ((B.trans ak).at aw) bu (am.same (B.trans ak)) ag ?_;rw[decide_eq_true rfl];exact k c3 (ah.trans (f.trans (B.trans ak)))
noncomputable def zj9 (K:Fg):Sp:=λvs H Q _=>∃(a:Addr) (ns:List Int),vs=[.ref a]/\SqL K H a (ns.map V.int)/\ns.length<=63/\zkh ns/\(∀pos qual,Tb H (zhk K "shortest_way") pos qual)/\∀H',Q (.bl true) H'
def zun(T:Txt K mg):T.d_law.Ok P w base 10 (zj9 K):=by
 refine T.d_law.F.okN zdT "0f" λaj A outer s H vs Q E b h=>?_;obtain⟨a,ns,rfl,hS,a4,hz,Z,k⟩:=h;have a7:TbW K "shortest_way" lP lQ H:=Z lP lQ;have c0:=yak (cell ns 0) (show(4:Int)≠0 by decide);have c1:=yac (cell ns 0) (show(0:Int)<4 by decide);obtain⟨N,eN⟩:∃N:Nat,2+cell ns 0%4=(N:Int):=⟨(2+cell ns 0%4).toNat,⋯⟩
 have ah:((N:Nat):Int).toNat=N:=yh N;refine⟨_,(zj (zC 1 zdT (zo (zaS K) ze (zo zP (qD T.d__law_cell (za2 (base:=base) T) b (za (pv 0) (za ze zh))) ze)))
 (zj (zC 2 zdT (qD T.d__law_turned (zij (base:=base) T) b (za (qD T.d__law_sheet (zjP (base:=base) T) b (za (pv 0) (za (pv 1) (za ze zh)))) (za (zo zP (zo zaG (qD T.d__law_cell (za2 (base:=base) T) b (za (pv 0) (za ze zh))) ze) ze) zh))))
 (zj (zC 3 zdT (qD T.d__law_purses (ziV (base:=base) T) b (za (pv 0) (za (pv 1) (za (pv 2) zh)))))
 (zj (zC 4 zdT (zc3 (qEq K b.units) (zkt K T.z_sum (za (qD T.d__law_lacks (zfh (base:=base) T) b (za (pv 1) (za (pv 2) (za (pv 3) zh)))) zh)) ze (nomark _)))
 (zj (zQ (zdR (zcX K (qD T.d__law_holds (zfi (base:=base) T) b (za (pv 2) (za (pv 3) (za (pv 4) zh))))))
 (zk (zB zc8))
 zJ)
 (zj (zC 5 zdT (zo zP (zo zaG (qD T.d__law_cell (za2 (base:=base) T) b (za (pv 0) (za ze zh))) ze) ze))
 (zj (zC 6 zdT (qD T.d__law_other (zj1 (base:=base) T) b (za (pv 5) (za (pv 1) (za (pv 2) zh)))))
 (zca (zQ (zD (qEq K b.units) (pv 5) ze (nomark _))
 (zk (zaO (qAp K (pv 3) (za ze zh))))
 zJ)
 (zk (zB (qD T.d__law_holds (zfi (base:=base) T) b (za (pv 6) (za (pv 3) (za (pv 4) zh)))))))))))))),?_⟩
 refine zE (σ0:=[some (.ref a),none,none,none,none,none,none]) rfl ?_;walk_at "x";rw[eN];refine⟨a,ns,_,10,rfl,hS,a4,⋯,⋯,by decide,by decide,λac H1 a8 a5 ak e1 ab Y a6 al=>?_⟩;have a1:=hS.keep e1;walk_at "x";refine⟨ac,_,(N:Int),a8,a5,rfl,ab,Y,a6,⋯,λsh H2 xs ds e2 x ht hd af=>?_⟩;have hl:ds.length<=10:=by lia
 have v:=a1.keep e2;have L:IsSh K H2 sh ds:=⟨xs,SqL.of x,ht⟩
 have a9:∀d∈ds,zm (N:Int) d:=λd h=>(hd d h).1;walk_at "x";refine zay ?_;refine⟨a,sh,ns,N,ds,rfl,v,L,⋯,⋯,hd,hl,λq H3 pf ad S z X=>?_⟩;have a0:=v.keep S;have e:=S.at x;have B:=ht.same S;have t3:TbW K "shortest_way" lP lQ H3:=TbW.same (e1.trans (e2.trans S)) a7;walk_at "x";refine zay ?_;refine⟨sh,q,ds,N,pf,rfl,⟨xs,SqL.of e,B⟩,z,⋯,a9,λlk H4 ae r ag=>?_⟩;have aa:=a0.keep r;have g:=r.at e;have y:=B.same r;have f:=r.at z;have t4:TbW K "shortest_way" lP lQ H4:=TbW.same r t3;obtain⟨full,D⟩:∃full,full=decide (zak (vec N (zc2 ds pf))=0):=⟨_,rfl⟩
 have G:full=true↔∀m,m<N->0<=pf m+zF ds m:=by rw[D,decide_eq_true_iff];exact(gap90 N).2
 have n:zdy (vec N pf):=λp h=>by
  obtain⟨i,hi,rfl⟩:=zr6 h
  have:=X i hi
  lia
 have I:=zqa hd hl ⋯;walk_at "x";rw[<- D];refine zay ?_;refine⟨sh,q,N,ds,xs,vec N pf,full,rfl,g,y,f,zO,⋯,⋯,I.ok,hl,I.few,n,?_,λH5 O=>?_⟩
 ·rw[G];exact⟨λh m M=>by rw[zeO M];exact h m M,λh m M=>by have:=h m M;rwa [zeO M]at this⟩
 have ai:=aa.keep O;have J:=O.at g;have a2:=y.same O;have R:=O.at f;have t5:TbW K "shortest_way" lP lQ H5:=TbW.same O t4;walk_at "x";obtain⟨way,hw⟩:∃way,way=cell ns 0/4%4:=⟨_,rfl⟩
 rw[<- hw];have w0:0<=way:=by rw[hw];exact yak _ "0a"
 have w1:way<4:=by rw[hw];exact yac _ "0a"
 refine zay ?_;refine⟨sh,way,N,ds,xs,rfl,J,a2,hd,hl,⋯,⋯,w0,w1,t5,λU H6 us es s6 j o W=>?_⟩;have c:=s6.lst R;have a3:U≠q:=zrv j c (zsj o (by rw[zO];lia));walk_at "x";refine znq (λσ' H'=>σ'=[some (.ref a),some (.int (N:Int)),some (.ref sh),some (.ref q),some (.bl full),some (.int way),some (.ref U)]/\H' q=some (.lst ((if way=1 then vec N pf++[0]else vec N pf).map V.int))/\H' U=some (.lst us)/\IsTs zad H' us es) ?_ ?_
 ·walk_at "x"
  ·rename_i l;refine zfN c (by rw[ye,zO];lia) λH7 b7 h7=>?_;refine⟨rfl,?_,b7.lst j a3,LBut.isTs b7 o⟩;rw[h7,if_pos l,yk];rfl
  ·rename_i l;exact⟨rfl,by rw[if_neg l];exact c,j,o⟩
 rintro σ' H7 ⟨rfl,C,t,u⟩;walk_at "x";refine zay ?_;refine⟨U,q,_,es,us,_,full,rfl,t,u,C,?_,?_,?_,W.ok,W.len,W.few,?_,G.trans (zqO W),λH8 e8=>k H8⟩
 ·split
  ·rw[yb,zO];rfl
  ·exact zO
 ·split<;>lia
 ·split<;>lia
 ·split
  ·intro p h;rcases yH.mp h with h | h
   ·exact n p h
   ·rw[ym.mp h];decide
  ·exact n
end
def fin{P:Program}{w:World}{b:Addr}(T:Txt K mg)(a:mg "law" = some (.ref b)) :
  ∃fd:FuncData,(∀(s:Shared) (v:Value),BindsTo s fd ⟨[v],[]⟩ [("_law_script",v)])/\(∃p,PySem.W.tabIn K "shortest_way" = some p)/\∀base:Heap,K.In base->base.Ns mainGlobals mg->TabX K mg base "shortest_way" -> FnOk P w K mg base (CXF P w) 10 b fd ["_law_script"] (zj9 K):=by
 have e:=a.symm.trans T.d_law.m;cases e;exact⟨_,T.bl_law,⟨_,T.tb_shortest_way⟩,λbase _ _ _=>zun T⟩
def walk{l:PySem.W.OpenLaw}{q:Program}{b:List Str}{o:(Str->Option Value)->Heap->Prop}{g:World->Heap->Prop}{d:DefRec}{K:Params->Fg}(j:l.most=some 63)(c:d.params.defaults=[])
  (hY:∀(w:World) (h:Heap),g w h->(K w.params).In h)
  (hrec:∃d',(PyProof.Rows.recsOf q).find? (λe=>e.name == ("shortest_way" : Str))=some d') (hnt:∀w:World,PySem.W.noTabs (K w.params)=true)
  (F:∀(w:World) (mg:Str->Option Value) (fa:Addr) (h:Heap),(K w.params).In h->h.Ns mainGlobals mg->mg d.name=some (.ref fa) ->
   ∃fd:FuncData,(∀(s:Shared) (u:Value),BindsTo s fd ⟨[u],[]⟩ [("_law_script",u)])/\(∃p,PySem.W.tabIn (K w.params) "shortest_way" = some p)/\∀base:Heap,(K w.params).In base->base.Ns mainGlobals mg->TabX (K w.params) mg base "shortest_way" -> FnOk l.prog w (K w.params) mg base (CXF l.prog w) 10 fa fd ["_law_script"] (zj9 (K w.params))) :
  PySem.W.WalkO q b o g l.row.toRowW d [] (λf vs=>PySem.call f vs):=
 let ⟨_,hrec'⟩:=hrec
 Internal.walk_ofT (n:=63) (k:=10) (x := "_law_script") (CX:=λw=>CXF l.prog w) (sp:=λw=>zj9 (K w.params)) j "0a" c ⟨rfl,by decide,by decide⟩ hY hrec' hnt F (λ_ _ a ns hl r i m=>⟨a,ns,rfl,i,hl,r,m,λ_=>rfl⟩) λ_ H s e s' z=>zrq _ H s e s' z
end Internal.K
open PySem PySem.W PyProof.Rows
set_option maxRecDepth 100000 in
set_option maxHeartbeats 0 in
theorem PySem.Challenge.cw_quits_k90_whole_netted_and_cleared_holds : PySem.Challenge.rw_quits_k90_whole_netted_and_cleared.Holds := by
 refine pre0 ?_
 k_fill
 refine Internal.K.walk (l:=PySem.Challenge.rw_quits_k90_whole_netted_and_cleared) rfl rfl (λw h Y=>PySem.W.km_in_of Y) ?xRec ?xTab ?F
 case xRec=>exact⟨_,rfl⟩
 case xTab=>intro w;kernel_rfl
 case F=>
  intro w mg fa h KX G hmg;refine Internal.K.fin ?T hmg
  case T=>
   refine' (⟨_,PySem.W.mg_of KX G (by k_is),_,PySem.W.mg_of KX G (by k_is),?_,?_,?_,?_,?_,?_,?_,?_,?_,?_,?_,?_,?_,?_,?_,?_,?_,?_,?_,?_,?_,?_,?_,?_,?_,?_,?_,?_,?_,?_,?_,?_,?_,?_,?_,?_,?_,?_,?_,?_,?_,?_,?_,?_,?_,?_,?_,?_,?_,?_,?_,?_,?_,?_,?_,?_,?_,?_,?_,?_,?_,?_,?_,?_,?_,?_,?_,?_,?_,?_,_,_,?_,?_,?_,?_,?_,?_,?_,?_,?_,?_,?_,?_,?_,?_,?_,?_,?_,?_⟩:Internal.K.Txt _ _)
   all_goals first | k_is | exact PySem.W.mg_none_of KX G (by k_is) | exact Internal.K.mkD KX G (by k_is) (by k_is) (by k_is) (by k_is) (by intro _ _ _ _ _ _ us hl;first | (obtain⟨_,rfl⟩:=Internal.K.len1 hl;rfl) | (obtain⟨_,_,rfl⟩:=Internal.K.len2 hl;rfl) | (obtain⟨_,_,_,rfl⟩:=Internal.K.len3 hl;rfl) | (obtain⟨_,_,_,_,rfl⟩:=Internal.K.len4 hl;rfl)) | exact Internal.kit_self | exact Internal.kit_ne "0a" (by k_is) (by k_is) (by k_is) | exact Internal.kit_V (by k_is) | exact Internal.exm_mk (by k_is) (by k_is) (by k_is) (by k_is) | exact Internal.errOk_mk (by k_exc) (by k_is) (by k_is) (by k_is) (by k_is) (by k_is) (by k_is) (by k_is) (by k_is) | exact Internal.tab_mk (by k_is) (by k_is) rfl (by k_is) rfl | exact rfl | exact λs v=>.of_eq rfl | skip
