import PyProof.Rows.All
import Wide.All
import OpenK.AllK
import Wide.FinOn
import PyProof.EqAt
import PyProof.EqKinds
import PyProof.TupleCall
import KE.BitLaws
import PySem.Challenge.RW_screenviewer_s01_answers
import Open.SpecLaws
import KE.OsHead
import KE.OsGo
import PyFlatLaws
set_option Elab.async false
set_option linter.all false
set_option maxRecDepth 100000
set_option maxHeartbeats 2000000
set_option genSizeOf false
set_option genInjectivity false
noncomputable section
namespace PySem.W.Fast
def tw6064108198756599305:=()
def tw11673807014491467458:=()
def tw17687149259751746293:=()
def tw4289331285324217213:=()
def tw16574182348215042852:=()
def tw12047468637495279924:=()
def tw10442797080970447673:=()
def tw2024450361307202071:=()
def tw14370095447096819945:=()
def tw11049682255496981327:=()
def tw16376687564093470067:=()
def tw4063002611797723296:=()
def tw9707868550386196892:=()
def tw9404272375502891504:=()
def tw8590665795577142824:=()
def tw12861367974698025551:=()
def tw2815545413637453454:=()
def tw2892728295070061011:=()
def tw11186981014944499101:=()
def tw8621373402808003601:=()
def tw14470754949584354844:=()
def tw14577294970406681353:=()
def tw5451109481675531608:=()
def tw12496252316323835852:=()
def tw11154665553986562307:=()
def tw5215787675544832057:=()
def tw8194798923357385034:=()
def tw17431455768320754129:=()
def tw9332192866778317311:=()
def tw1457787729088325071:=()
def tw12640035564477182803:=()
def tw17755101159584520227:=()
def tw15626218688182426207:=()
def tw7735778206550089146:=()
def tw4424226191424714427:=()
def tw309735504186168441:=()
def tw3139601023092807945:=()
def tw884349940157316030:=()
def tw6515925525754458052:=()
def tw12587377798061012902:=()
def tw14547875390263560428:=()
def tw6473057112992776476:=()
def tw4422956284457634477:=()
def tw11169270366731387515:=()
def tw11880274991289274153:=()
def tw11920031704057728199:=()
def tw11604446775081605440:=()
def tw1893114037229513489:=()
def tw16975015455264358831:=()
def tw17265552667789597151:=()
def tw6470400541237022353:=()
def tw7685613744914369970:=()
def tw13227121017037432142:=()
def tw3497357858724786830:=()
def tw13016503899011681894:=()
def tw4496361991705513062:=()
def tw10562437695455130896:=()
def tw18330566617690424415:=()
def tw10520114156165374936:=()
def tw18071263928391266895:=()
def tw8072082350136125624:=()
def tw7222345274545767702:=()
def tw11873634144317153448:=()
def tw17869447818945605726:=()
def tw2401859368128714709:=()
def tw16478790658516197562:=()
def tw938595448743592566:=()
def tw14093193807487271478:=()
def tw13165084395253897111:=()
def tw2560609338372792471:=()
def tw11967021090171703976:=()
def tw14685696554296879127:=()
def tw13354484756262484949:=()
def tw8544283388146346891:=()
def tw4665236642186435066:=()
def tw1091018965555582785:=()
def tw8035733406188545140:=()
def tw6765698580935290191:=()
def tw17407660271071648409:=()
def tw3119342546900890145:=()
def tw10138518572408224739:=()
def tw734107839500782165:=()
def tw359054417118338665:=()
def tw4464624592401156401:=()
def tw13336885479548021391:=()
def tw7119367971633660751:=()
def tw17102615280790255401:=()
def tw11079297569364337135:=()
def tw12132065697014597471:=()
def tw6429398302870852448:=()
def tw2191262765418530654:=()
def tw4317813668790180817:=()
def tw11164356039570886639:=()
def tw12975754064548376473:=()
def tw14163623616708280532:=()
def tw10292568044838008005:=()
def tw9795330914008009215:=()
def tw13236068412184420572:=()
def tw13195065640278761558:=()
def tw12001311247340307921:=()
def tw5807787993355477523:=()
def tw17939778497467620515:=()
def tw9853133987781721230:=()
def tw17438602804614672969:=()
def tw10721053546766762817:=()
def tw15130555617218632666:=()
def tw11863549729435029847:=()
def tw13927729470400815432:=()
def tw15939132087959402019:=()
def tw12028969430210385570:=()
def tw1705298059064497057:=()
def tw8910132652556027656:=()
def tw6049815107277162531:=()
def tw427981879503265884:=()
def tw5632347902854417215:=()
def tw16969185881294489155:=()
def tw2857487499082140130:=()
def tw10683288262002578377:=()
def tw13729384826199494384:=()
def tw6816097558998636353:=()
def tw16299105546327045313:=()
def tw8964125139059005430:=()
def tw17924514439835021924:=()
def tw3664798065244579365:=()
def tw13592093447277212188:=()
def tw4097249687188768992:=()
def tw9841385097646460244:=()
def tw5422121735300253443:=()
def tw6909081206480133119:=()
def tw12653355755484668822:=()
def tw16714960627650445742:=()
def tw1470926385495540824:=()
def tw7793858356397488449:=()
def tw10868863858081441242:=()
def tw14591810398380780214:=()
def tw15988807930415188949:=()
def tw4402352829386059894:=()
def tw11728942073804278437:=()
def tw11948906565136174716:=()
def tw2666796098003447369:=()
def tw13372507987591554948:=()
def tw13660204029391843200:=()
def tw17452948470124831179:=()
def tw3872799248676492005:=()
def tw5063749948028670347:=()
def tw7842645971444502490:=()
def tw158905308905838097:=()
def tw1360704271882341079:=()
def tw18215734805059150511:=()
def tw1690779579427658646:=()
def tw2879215722504970768:=()
def tw3711495876565229685:=()
def tw8674344334695454727:=()
def tw11788236861670047989:=()
def tw1940486362564412230:=()
def tw13134466815520436832:=()
def tw12445411702002445036:=()
def tw17139440276812860009:=()
def tw13623658791542615389:=()
def tw7156349871500342035:=()
def tw17547905911581019742:=()
def tw14091444652281123514:=()
def tw18119025168657873088:=()
def tw17752133125766243650:=()
def tw4062666225875050160:=()
def tw6405531324153021542:=()
def tw2520507201090827068:=()
def tw7048029285467200491:=()
def tw1985047082195161567:=()
def tw7068371449037595955:=()
def tw12535437896128955774:=()
def tw12884824605020582121:=()
def tw5314751264687858835:=()
def tw11830677839900383049:=()
def tw7471261231490400261:=()
def tw14947655553818244820:=()
def tw5864611434028740701:=()
def tw5828294013329270565:=()
def tw18190665268399332081:=()
def tw15161764998148641165:=()
def tw13409818543269922340:=()
def tw7521947364864439032:=()
def tw7366887453583444203:=()
def tw9054864239096118682:=()
def tw9017500350505177041:=()
def tw6197531617853111598:=()
def tw14680886725985949173:=()
def tw11734241168589016461:=()
def tw18366133335400228479:=()
def tw15037574523756884126:=()
def tw3289035297578989712:=()
def tw3347742070250019526:=()
def tw14261494396409603286:=()
def tw2265730517636731851:=()
def tw8774912230799013390:=()
def tw2052029793763952335:=()
def tw3405410018391584860:=()
def tw9432664818282994384:=()
def tw3148826084900085894:=()
def tw3188595868912139142:=()
def tw9519143220338013614:=()
def tw7732179230530154171:=()
def tw6005746103791914395:=()
def tw9404131433423175052:=()
def tw7883672055777502190:=()
def tw11294367531809613768:=()
def tw9492998164820241003:=()
def tw3894660896758696843:=()
def tw11767976215417410197:=()
def tw7185491212292157528:=()
def tw6467526905008638602:=()
def tw2091175834719456131:=()
def tw9291398635147668595:=()
def tw3957754447721341287:=()
def tw9894383541847020398:=()
def tw14416202404238478560:=()
def tw10781040843282363658:=()
def tw9539481105018248895:=()
def tw3603062427013981681:=()
def tw12017695557255897631:=()
def tw18183748446504847161:=()
def tw2717350453523220271:=()
def tw11144097574823815446:=()
def tw14871115191770782067:=()
def tw7378738670094974118:=()
def tw14498852616850466296:=()
def tw13364577814867545434:=()
def tw4356239154372766446:=()
def tw1146635753645930805:=()
def tw17270387011017173582:=()
def tw3948456843369778847:=()
def tw17928259187903483534:=()
def tw7233667789721981863:=()
def tw16606391526405105013:=()
def tw1841747866055739344:=()
def tw10778836684344587141:=()
def tw2982103543373664297:=()
def tw5123485579160452887:=()
def tw11303963341229066126:=()
def tw10405139467134931058:=()
def tw9246855014971466113:=()
def tw9669949010713859815:=()
def tw14111805221245540699:=()
def tw12823577076291712847:=()
def tw12072126751376507920:=()
def tw14506688164564084495:=()
def tw345618402908763960:=()
def tw6321823156381355318:=()
def tw13341347543226502434:=()
def tw1557726165055131238:=()
def tw12782526275587891815:=()
def tw8486001185776085256:=()
def tw12771310952660229523:=()
def tw15249184496063895457:=()
def tw6681996610435370319:=()
def tw12142986190871747899:=()
def tw7843102396898472872:=()
def tw6272539677396964964:=()
def tw9818909764769670992:=()
def tw11873570456876826935:=()
def tw15874590252389475254:=()
def tw12876444520994012487:=()
def tw4969983657755136080:=()
def tw10974076933838393477:=()
def tw11367961037176500537:=()
def tw12927803244061312713:=()
def tw2219348225067448478:=()
def tw6951070566317604683:=()
def tw16177763581174852689:=()
def tw13438374785890484328:=()
def tw14875607153056893577:=()
def tw12661181316227109210:=()
def tw5887289001090805952:=()
def tw8384461634194671552:=()
def tw7073055281159521879:=()
def tw3539092964418307036:=()
def tw3773823077996445152:=()
def tw9717988634798587435:=()
def tw9130568057949813599:=()
def tw7762676470104720624:=()
def tw5728641907033358112:=()
def tw18079351805728850258:=()
def tw17932379776127856966:=()
def tw3126047338337371130:=()
def tw14933628708636324257:=()
def tw16303886311101863630:=()
def tw14343673650808215884:=()
def tw9340301901035843629:=()
def tw8352724273121132477:=()
def tw18212897288927640629:=()
def tw13757701019888506467:=()
def tw13675150671493210716:=()
def tw14560117305673496706:=()
def tw10893483023720401788:=()
def tw6094931380224808529:=()
def tw2216576922709545197:=()
def tw1448149242238961685:=()
def tw10939925115824296004:=()
def tw18067931664512219306:=()
def tw11077337530060600602:=()
def tw17155332840261533126:=()
def tw9025749249862379419:=()
def tw9582501377428579939:=()
def tw7158540889513163139:=()
def tw9620657366152243696:=()
def tw12665919954941300668:=()
def tw9494647018852357495:=()
def tw5316477773824578126:=()
def tw2758886393001148886:=()
def tw4003606481801332478:=()
def tw7727258636288602949:=()
def tw7910310324458665224:=()
def tw651102607194179792:=()
def tw7885969180056743082:=()
def tw18151175522157178176:=()
def tw6178341999278981728:=()
def tw2394871244093821891:=()
def tw14788085248306013003:=()
def tw6307896773746263002:=()
def tw9351745826255619455:=()
def tw2775515231755412399:=()
def tw7081920442111653796:=()
def tw10575208505096147028:=()
def tw13196661890141828377:=()
def tw3776738135793456074:=()
def tw12146435364581531809:=()
def tw13726288438274855164:=()
def tw9269689930742522146:=()
def tw13926337766248828834:=()
def tw5032149033263077459:=()
def tw4481429948969956994:=()
def tw4743694305015156330:=()
def tw13610231963878960677:=()
def tw16053301101671865571:=()
def tw11658083523632301287:=()
def tw14845175048410284047:=()
def tw2576541159011377370:=()
def tw2713312654257451217:=()
def tw4914695334927902651:=()
def tw18061144174313202946:=()
def tw7258050375758214284:=()
def tw18343727426518119828:=()
def tw1498315629018208593:=()
def tw17349808019992307397:=()
def tw16138221655876239676:=()
def tw2769772211022499729:=()
def tw13667795019337792435:=()
def tw9052895279527623232:=()
def tw11622303337206734039:=()
def tw4769893863139145412:=()
def tw11708314169275934685:=()
def tw3827399177743635424:=()
def tw3006928823459980442:=()
def tw6190195390751945995:=()
def tw15092171875403031453:=()
def tw2571774957804343996:=()
def tw10513917222222518982:=()
def tw18149525056686857324:=()
def tw12283820444783760732:=()
def tw9710985913526151193:=()
def tw14495281574131309893:=()
def tw6505783296057280997:=()
def tw7940636768907488609:=()
def tw12939375883136079997:=()
def tw9098190535893406471:=()
def tw18235628188713253366:=()
def tw16325633649575869503:=()
def tw3227187514279089127:=()
def tw1092903815273354767:=()
def tw17405490411623534678:=()
def tw14571448235214827946:=()
def tw17029560397419164952:=()
def tw2551983493509396995:=()
def tw17695609644801453659:=()
def tw6821037110786565846:=()
def tw3521238145434456243:=()
def tw9744241186272340584:=()
def tw5932171524663133233:=()
def tw17231333377820549931:=()
def tw1600892284347531318:=()
def tw613722328613335154:=()
def tw10448552554106415858:=()
def tw17691386458994016233:=()
def tw17474677191340710944:=()
def tw12051551227641074406:=()
def tw9847149952731954382:=()
def tw593816020973489277:=()
def tw17132303446141234288:=()
def tw5107300528532268377:=()
def tw18042821711170721608:=()
def tw11283551776478217952:=()
def tw9179791941104747609:=()
def tw3283546305309662065:=()
def tw17375090795593129121:=()
def tw11579938148033208878:=()
def tw1106801558773766898:=()
def tw8374571254873952510:=()
def tw1855099062276146693:=()
def tw11195534911831549321:=()
def tw11559329797861003731:=()
def tw7297024282743386420:=()
def tw11392643922020985136:=()
def tw15587700289654957349:=()
def tw887551944599951781:=()
def tw10647922322882756932:=()
def tw10394188092099176446:=()
def tw3234001683267323354:=()
def tw3013479212715735174:=()
def tw6065988250916396230:=()
def tw14608379769038653072:=()
def tw6832089748629498862:=()
def tw15122255119263963041:=()
def tw17131950224269172530:=()
def tw17747722637191301268:=()
def tw12796449441163892753:=()
def tw9450742584187151551:=()
def tw8391127977748913591:=()
def tw7345846348613999095:=()
def tw14482325238734474592:=()
def tw10212849989064357995:=()
def tw3408709706795108156:=()
def tw10514407317768137938:=()
def tw17459640936576037716:=()
def tw13444719806141946954:=()
def tw7948242749714260147:=()
def tw13409443757283683436:=()
def tw8526656656174453602:=()
def tw15474862906091660780:=()
def tw15168505137248929136:=()
def tw7991234223258679143:=()
def tw10001272807567360446:=()
def tw9683238367657403594:=()
def tw12196339368854885559:=()
def tw551983886467653978:=()
def tw6297944157950434086:=()
def tw8561928056167397338:=()
def tw7424064933962451203:=()
def tw3711031530420821267:=()
def tw11592317871142106261:=()
def tw553507890425483850:=()
def tw102265011287082296:=()
def tw9272077623963367975:=()
def tw8352306573861900858:=()
def tw15435262722395897887:=()
def tw10362060161959080865:=()
def tw931195351400774667:=()
def tw17433404796383897713:=()
def tw1428366588073870902:=()
def tw1911668624033689260:=()
def tw13743351627537291862:=()
def tw15150271031857471405:=()
def tw4356028671094923501:=()
def tw457876309576254597:=()
def tw8647033399411261258:=()
def tw6984088199073623602:=()
def tw16421986001910455786:=()
def tw9061905112665461949:=()
def tw3549209124438999436:=()
def tw8946484656267147982:=()
def tw8263140393936169016:=()
def tw971075503426097141:=()
def tw1947284075629597716:=()
def tw8827858391726933234:=()
def tw15946790521425356210:=()
def tw1330264057077171052:=()
def tw1572590248582978200:=()
def tw9239183337658976531:=()
def tw14307094760047661301:=()
def tw13946041406933848058:=()
def tw14700811219380288290:=()
def tw13479305691663704718:=()
def tw2969501471503011223:=()
def tw18084162583425513470:=()
def tw10970445953899492403:=()
def tw14053182884451974353:=()
def tw14066512888471740124:=()
def tw11003373992221523972:=()
def tw15231400320261413536:=()
def tw18114251770651494978:=()
def tw5821114242497451147:=()
def tw4612310806483545296:=()
def tw16290154099636645511:=()
def tw489689877292662638:=()
def tw15506430513710343535:=()
def tw16571827131284749315:=()
def tw4961927538203082606:=()
def tw997169646366230972:=()
def tw13914260014354745837:=()
def tw7438873602419903223:=()
def tw13425956356857695079:=()
def tw13474734178667347964:=()
def tw10474586887488003142:=()
def tw6595707927215446206:=()
def tw1805564395196553609:=()
def tw12849597631416516473:=()
def tw6481423561533883466:=()
def tw4279333492065447918:=()
def tw12911010022023505441:=()
def tw4942745766718454941:=()
def tw9216037751278662413:=()
def tw7621274166369304387:=()
def tw1807416256483247925:=()
def tw14716109081639400348:=()
def tw13948090110727552840:=()
def tw15880430331646175159:=()
def tw16341289734698408509:=()
def tw8703416089163637166:=()
def tw8479223366123153690:=()
def tw4627932483021112489:=()
def tw14643501569654841029:=()
def tw17357221276403095390:=()
def tw10766357926136912494:=()
def tw14975556096268927377:=()
def tw12168529609843901555:=()
def tw4216966695085610241:=()
def tw6117103616170281882:=()
def tw8915755067513028925:=()
def tw11542967576410370819:=()
def tw12133934735909950413:=()
def tw14976274710862650616:=()
def tw12626471690435351189:=()
def tw17852796354136230021:=()
def tw4902012892279826735:=()
def tw2544380756834265483:=()
def tw11189136149468639315:=()
def tw3012766589743527684:=()
def tw13696354761817440321:=()
def tw1003130604928314547:=()
def tw17660669122462605580:=()
def tw13866745114019068059:=()
def tw5545863181667372363:=()
def tw5490616977907444912:=()
def tw12707412901419189826:=()
def tw3966302569732763847:=()
def tw14721329013302260966:=()
def tw17165359453965193470:=()
def tw18407064418287007778:=()
def tw7657612024602688313:=()
def tw2681683296305542332:=()
def tw10941112308362710403:=()
def tw4420620505641400429:=()
def tw13328812050485959372:=()
def tw10357252024329795486:=()
def tw17907401959775007512:=()
def tw9892176980955507791:=()
def tw12452361658631401034:=()
def tw14391501787111094278:=()
def tw10953026412091545559:=()
end PySem.W.Fast
section
namespace L2
open PySem PySem.Spec PyProof.Rows
abbrev Key:=Sum Int Str
def sV:Key→Value→Bool
 | .inl k,v=>Value.isInt k v
 | .inr x,v=>Value.isStrOf x v
def FD (w:World):Key→Int
 | .inl k=>hashInt k
 | .inr x=>hashStr w x
theorem dF:∀{k:Key} {v:Value},sV k v=true→(∃i t,k=Sum.inl i∧v=Value.int i t)∨(∃x t,k=Sum.inr x∧v=Value.str x t)
 | .inl i,v,h=>by
  obtain ⟨t,e⟩:=Value.isInt_shape (k:=i) (v:=v) h
  exact .inl ⟨i,t,rfl,e⟩
 | .inr x,v,h=>by
  obtain ⟨t,e⟩:=Value.isStrOf_shape (x:=x) (v:=v) h
  exact .inr ⟨x,t,rfl,e⟩
theorem ze (i:Int) (t:Tok):sV (.inl i) (.int i t)=true:=by simp [sV,Value.isInt]
theorem zf (x:Str) (t:Tok):sV (.inr x) (.str x t)=true:=by simp [sV,Value.isStrOf]
theorem Dc (a b:Int):decide ((Sum.inl a:Key)=Sum.inl b)=(a == b):=by
 by_cases e:a=b
 ·subst e;simp
 ·have h:¬ (Sum.inl a:Key)=Sum.inl b:=fun q=>e (Sum.inl.inj q)
  rw [decide_eq_false h]
  exact (beq_eq_false_iff_ne.mpr e).symm
theorem Dd (a b:Str):decide ((Sum.inr a:Key)=Sum.inr b)=decide (a=b):=by
 by_cases e:a=b
 ·subst e;simp
 ·have h:¬ (Sum.inr a:Key)=Sum.inr b:=fun q=>e (Sum.inr.inj q)
  rw [decide_eq_false h,decide_eq_false e]
theorem De (a:Int) (b:Str):decide ((Sum.inl a:Key)=Sum.inr b)=false:=decide_eq_false (fun q=>nomatch q)
theorem Df (a:Str) (b:Int):decide ((Sum.inr a:Key)=Sum.inl b)=false:=decide_eq_false (fun q=>nomatch q)
def gk (prog:Program) (w:World):PySem.KeyKind prog w Key where
 is:=sV
 hash:=FD w
 inj:=fun v a b ha hb=>by
  rcases dF ha with ⟨i,t,rfl,rfl⟩ | ⟨x,t,rfl,rfl⟩
  ·rcases dF hb with ⟨j,u,rfl,e⟩ | ⟨y,u,rfl,e⟩
   ·injection e with e1 _;rw [e1]
   ·exact nomatch e
  ·rcases dF hb with ⟨j,u,rfl,e⟩ | ⟨y,u,rfl,e⟩
   ·exact nomatch e
   ·injection e with e1 _;rw [e1]
 byValue:=fun k v h=>by
  rcases dF h with ⟨i,t,rfl,rfl⟩ | ⟨x,t,rfl,rfl⟩ <;> rfl
 pyHash:=fun hv h=>by
  rcases dF hv with ⟨i,t,rfl,rfl⟩ | ⟨x,t,rfl,rfl⟩
  ·exact wpAny_pyHash_int h
  ·exact wpAny_pyHash_str h
 eqBool:=fun hu hv h=>by
  rcases dF hu with ⟨i,t,rfl,rfl⟩ | ⟨x,t,rfl,rfl⟩
  ·rcases dF hv with ⟨j,u,rfl,rfl⟩ | ⟨y,u,rfl,rfl⟩
   ·rw [Dc] at h;exact wpAny_eqBool_int h
   ·rw [De] at h;exact SeqAt.EqAt.int_str i t y u _ _ _ _ h
  ·rcases dF hv with ⟨j,u,rfl,rfl⟩ | ⟨y,u,rfl,rfl⟩
   ·rw [Df] at h;exact SeqAt.EqAt.str_int x t j u _ _ _ _ h
   ·rw [Dd] at h;exact wpAny_eqBool_str h
 «strs»:=fun k x t v h=>by
  rcases dF h with ⟨i,u,rfl,e⟩ | ⟨y,u,rfl,e⟩
  ·exact nomatch e
  ·injection e with e1 _
   subst e1
   cases v <;> rfl
theorem u0 (prog:Program) (w:World) (i:Int) (t:Tok):(gk prog w).is (.inl i) (.int i t)=true:=ze i t
theorem u6 (prog:Program) (w:World) (x:Str) (t:Tok):(gk prog w).is (.inr x) (.str x t)=true:=zf x t
end L2
namespace L2
open PySem PySem.Spec PyProof.Rows
set_option genInjectivity true in
inductive V where
 | cD | bl (b:Bool) | int (i:Int) | str (x:Str) | uX (b:Array UInt8) | Fq (b:UInt64) | ref (a:Addr) | ty (n:String)
 deriving DecidableEq
def RelV:V→Value→Prop
 | .cD,u=>u=Value.none
 | .bl b,u=>u=Value.bool b
 | .int i,u=>∃t,u=Value.int i t
 | .str x,u=>∃t,u=Value.str x t
 | .uX b,u=>∃t,u=Value.bytes b t
 | .Fq b,u=>∃t,u=Value.float b t
 | .ref a,u=>u=Value.ref a
 | .ty n,u=>u=Value.type n
abbrev Vals:List V→List Value→Prop:=Paired RelV
theorem Vals.length {xs:List V} {us:List Value} (r:Vals xs us):xs.length=us.length:=Paired.length r
theorem Vals.get:∀{xs:List V} {us:List Value} {i:Nat} {x:V},Vals xs us→xs[i]?=some x→∃u,us[i]?=some u∧RelV x u
 | _,_,_,_,.nil,e=>by simp at e
 | _,_,0,_,.cons r _,e=>by simp at e;subst e;exact ⟨_,rfl,r⟩
 | _,_,i + 1,x,.cons _ t,e=>by
  obtain ⟨u,h1,h2⟩:=Vals.get (i:=i) (x:=x) t (by simpa using e)
  exact ⟨u,by simpa using h1,h2⟩
theorem Vals.set {x:V} {u:Value} (r:RelV x u):∀{xs:List V} {us:List Value} (i:Nat),Vals xs us→Vals (xs.set i x) (us.set i u)
 | _,_,_,.nil=>.nil
 | _,_,0,.cons _ t=>.cons r t
 | _,_,i + 1,.cons q t=>.cons q (Vals.set r i t)
theorem Vals.append:∀{xs ys:List V} {us ws:List Value},Vals xs us→Vals ys ws→Vals (xs++ys) (us++ws)
 | _,_,_,_,.nil,s=>s
 | _,_,_,_,.cons r t,s=>.cons r (Vals.append t s)
theorem Vals.take:∀{xs:List V} {us:List Value} (n:Nat),Vals xs us→Vals (xs.take n) (us.take n)
 | _,_,0,_=>.nil
 | _,_,_ + 1,.nil=>.nil
 | _,_,n + 1,.cons r t=>.cons r (Vals.take n t)
theorem Vals.drop:∀{xs:List V} {us:List Value} (n:Nat),Vals xs us→Vals (xs.drop n) (us.drop n)
 | _,_,0,r=>r
 | _,_,_ + 1,.nil=>.nil
 | _,_,n + 1,.cons _ t=>Vals.drop n t
def nO:Option V→Option Value→Prop
 | some v,some u=>RelV v u
 | none,none=>True
 | _,_=>False
def KV {κ:Type}:List (κ × V)→List (κ × Value)→Prop:=Paired fun (p:κ × V) (q:κ × Value)=>p.1=q.1∧RelV p.2 q.2
def kV:Key→V
 | .inl i=>.int i
 | .inr x=>.str x
inductive HO where
 | lst (xs:List V)
 | tup (xs:List V)
 | dK (kvs:List (Key × V)) | dT (kvs:List (List Key × V))
 | set (S:Int→Bool) (n:Nat)
 | ins (C dx:Addr) (fs:List (Str × V))
 | own (x:Addr)
 | xd (fs:List (Str × V))
 | met (f x:Addr)
 | FE (lo hi:Int)
 | lE (o:Obj) (u:HO)
 | Dg (ps:Array Value)
 | ext (φ:Heap→Prop)
abbrev Hp:=Addr→Option HO
def upd (H:Hp) (a:Addr) (o:HO):Hp:=fun b=>if b=a then some o else H b
theorem ae {H:Hp} {a:Addr} {o:HO}:upd H a o a=some o:=by unfold upd;rw [if_pos rfl]
theorem aj {H:Hp} {a b:Addr} {o:HO} (h:b≠a):upd H a o b=H b:=by unfold upd;rw [if_neg h]
theorem bg {H:Hp} {a:Addr} {o u:HO}:upd (upd H a o) a u=upd H a u:=by
 funext b;unfold upd;split <;> rfl
theorem CI {H:Hp} {a b:Addr} {o u:HO} (h:H a=some o) (h':H b=some u) (d:o≠u):a≠b:=by
 intro e;subst e;rw [h] at h';exact d (Option.some.inj h')
theorem aE {H:Hp} {a b:Addr} {o:HO} (h:H a=some o) (h':H b=none):a≠b:=by
 intro e;subst e;rw [h] at h';cases h'
section
variable (P:Program) (w:World)
def gm (H:Hp) (h:Heap) (a:Addr):HO→Prop
 | .lst xs=>xs.length≤sizeLine∧∃(its:List Value) (n:Nat),Vals xs its∧h.get? a=some { cls:=.type "list",data:=.seq its.toArray n }
 | .tup xs=>xs.length≤sizeLine∧∃its:List Value,Vals xs its∧IsTup h a its.toArray
 | .dK kvs=>kvs.length≤sizeLine∧(a == sysModules)=false∧∃vs,KV kvs vs∧h.DictOf (gk P w) a vs
 | .dT kvs=>kvs.length≤sizeLine∧(a == sysModules)=false∧∃xs:List (List Key × Addr × Value),
   Paired (fun (p:List Key × V) (q:List Key × Addr × Value)=>p.1=q.1∧H q.2.1=some (.tup (p.1.map kV))∧RelV p.2 q.2.2) kvs xs∧
   ∃o es ep,h.get? a=some o∧o.ExactDict∧o.data=.dict es ep∧es.toList=xs.map (entryOfKey (tupleKind (gk P w)))∧(xs.map (·.1)).Nodup
 | .set S n=>h.SetOf (intKind P w) a S n
 | .ins C dx fs=>H dx=some (.own a)∧fs.length≤1000∧dx≠a∧h.get? a=some (PySem.W.instObj C dx)∧
   ∃mA,h.Ns1 dx mA∧(∀f,nO (fs.lookup f) (mA f))∧PySem.Within mA (fs.map (·.1))
 | .own _=>∃o,h.get? a=some o
 | .xd fs=>∃mA,h.Ns1 a mA∧∀f,nO (fs.lookup f) (mA f)
 | .FE lo hi=>∃t u v,h.get? a=some { cls:=.type "range",data:=.fields #[.int lo t,.int hi u,.int 1 v] }
 | .lE o u=>h.get? a=some o∧gm H h a u
 | .Dg ps=>h.get? a=some { cls:=.none,data:=.fields ps }
 | .met f x=>h.get? a=some (PySem.W.methodObj (.ref f) (.ref x))
 | .ext φ=>φ h∧(∃o,h.get? a=some o)∧∀h1 h2:Heap,φ h1→(∀o,h1.get? a=some o→h2.get? a=some o)→φ h2
def nP (H:Hp) (h:Heap):Prop:=∀a o,H a=some o→gm P w H h a o
end
section
variable {P:Program} {w:World} {H H':Hp} {h h':Heap} {a:Addr} {o:HO}
theorem gm.lt (x:gm P w H h a o):a < h.objs.size:=by
 cases o with
 | lst xs=>obtain ⟨_,_,_,_,e⟩:=x;exact Heap.lt_size e
 | tup xs=>obtain ⟨_,_,_,p⟩:=x;exact p.lt
 | dK kvs=>obtain ⟨_,_,_,_,o,_,_,e,_⟩:=x;exact Heap.lt_size e
 | dT kvs=>obtain ⟨_,_,_,_,o,_,_,e,_⟩:=x;exact Heap.lt_size e
 | set S n=>obtain ⟨o,_,_,_,e,_⟩:=x;exact Heap.lt_size e
 | ins C dx fs=>obtain ⟨_,_,_,e,_⟩:=x;exact Heap.lt_size e
 | own y=>obtain ⟨_,e⟩:=x;exact Heap.lt_size e
 | xd fs=>obtain ⟨_,⟨_,_,_,e,_⟩,_⟩:=x;exact Heap.lt_size e
 | FE lo hi=>obtain ⟨_,_,_,e⟩:=x;exact Heap.lt_size e
 | lE ob u=>obtain ⟨e,_⟩:=x;exact Heap.lt_size e
 | Dg ps=>exact Heap.lt_size (show h.get? a=some _ from x)
 | met f y=>exact Heap.lt_size (show h.get? a=some _ from x)
 | ext φ=>obtain ⟨_,⟨_,e⟩,_⟩:=x;exact Heap.lt_size e
theorem Paired.El {α β:Type} {F G:α→β→Prop}:∀{l₁:List α} {l₂:List β},Paired F l₁ l₂→(∀a b,F a b→G a b)→Paired G l₁ l₂
 | _,_,.nil,_=>.nil
 | _,_,.cons r t,f=>.cons (f _ _ r) (Paired.El t f)
theorem gm.si (x:gm P w H h a o) (k:∀b u,(b=a∨H b=some (.own a))→h.get? b=some u→h'.get? b=some u)
  (ho:∀b,H b=some (.own a)→H' b=some (.own a)) (ht:∀b xs,H b=some (.tup xs)→H' b=some (.tup xs)):gm P w H' h' a o:=by
 induction o with
 | lst xs=>obtain ⟨z,its,n,r,e⟩:=x;exact ⟨z,its,n,r,k _ _ (.inl rfl) e⟩
 | tup xs=>obtain ⟨z,its,r,ob,e,c⟩:=x;exact ⟨z,its,r,ob,k _ _ (.inl rfl) e,c⟩
 | dK kvs=>obtain ⟨z,y,vs,r,ob,es,ep,e,c⟩:=x;exact ⟨z,y,vs,r,ob,es,ep,k _ _ (.inl rfl) e,c⟩
 | dT kvs=>
  obtain ⟨z,y,xs,r,ob,es,ep,e,c⟩:=x
  exact ⟨z,y,xs,Paired.El r fun p q z=>⟨z.1,ht _ _ z.2.1,z.2.2⟩,ob,es,ep,k _ _ (.inl rfl) e,c⟩
 | set S n=>obtain ⟨ob,es,ep,t,e,c⟩:=x;exact ⟨ob,es,ep,t,k _ _ (.inl rfl) e,c⟩
 | ins C dx fs=>
  obtain ⟨d,z,ne,e,mA,⟨od,es,ep,e2,c⟩,r⟩:=x
  exact ⟨ho _ d,z,ne,k _ _ (.inl rfl) e,mA,⟨od,es,ep,k _ _ (.inr d) e2,c⟩,r⟩
 | own y=>obtain ⟨ob,e⟩:=x;exact ⟨ob,k _ _ (.inl rfl) e⟩
 | xd fs=>obtain ⟨mA,⟨od,es,ep,e,c⟩,r⟩:=x;exact ⟨mA,⟨od,es,ep,k _ _ (.inl rfl) e,c⟩,r⟩
 | FE lo hi=>obtain ⟨t,u,v,e⟩:=x;exact ⟨t,u,v,k _ _ (.inl rfl) e⟩
 | lE ob u ih=>obtain ⟨e,q⟩:=x;exact ⟨k _ _ (.inl rfl) e,ih q⟩
 | Dg ps=>
  have e:h.get? a=some { cls:=.none,data:=.fields ps }:=x
  show h'.get? a=some { cls:=.none,data:=.fields ps }
  exact k a _ (.inl rfl) e
 | met f y=>
  have e:h.get? a=some (PySem.W.methodObj (.ref f) (.ref y)):=x
  show h'.get? a=some (PySem.W.methodObj (.ref f) (.ref y))
  exact k a _ (.inl rfl) e
 | ext φ=>obtain ⟨p,⟨o,e⟩,st⟩:=x;exact ⟨st _ _ p fun o q=>k _ _ (.inl rfl) q,⟨o,k _ _ (.inl rfl) e⟩,st⟩
theorem nP.lt (x:nP P w H h) (e:H a=some o):a < h.objs.size:=(x a o e).lt
theorem nP.fresh (x:nP P w H h) (e:h.objs.size≤a):H a=none:=by
 cases q:H a with
 | none=>rfl
 | some u=>exact absurd (Nat.lt_of_lt_of_le (x.lt q) e) (Nat.lt_irrefl _)
theorem nP.kept (x:nP P w H h) (k:∀b u,h.get? b=some u→h'.get? b=some u):nP P w H h':=fun a o e=>
 (x a o e).si (fun b u _ q=>k b u q) (fun _ q=>q) fun _ _ q=>q
theorem nP.laid (x:nP P w H h) (k:∀b u,h.get? b=some u→h'.get? b=some u) (hp:h.objs.size≤a) (new:gm P w (upd H a o) h' a o):nP P w (upd H a o) h':=fun b u e=>by
 have hn:=x.fresh hp
 by_cases hb:b=a
 ·subst hb;rw [ae] at e;cases e;exact new
 ·rw [aj hb] at e
  exact (x b u e).si (fun c v _ q=>k c v q) (fun c q=>by rw [aj (aE q hn)];exact q) fun c xs q=>by rw [aj (aE q hn)];exact q
end
def Rd (H:Hp) (a:Addr) (u:HO):Prop:=H a=some u∨∃o,H a=some (.lE o u)
theorem Rd.ok {P:Program} {w:World} {H:Hp} {h:Heap} {a:Addr} {u:HO} (r:Rd H a u) (x:nP P w H h):gm P w H h a u:=by
 rcases r with r | ⟨o,r⟩
 ·exact x a u r
 ·obtain ⟨_,q⟩:=x a _ r
  exact q
def Dh:Option HO→Prop
 | some (.lst _)=>True
 | some (.dK _)=>True
 | some (.dT _)=>True
 | some (.set _ _)=>True
 | some (.ins _ _ _)=>True
 | some (.ext _)=>True
 | _=>False
section
variable {P:Program} {w:World} {H:Hp} {h h':Heap} {x e:Addr} {o':HO}
theorem nP.write (ok:nP P w H h) (mu:Dh (H x)) (he:e=x∨H e=some (.own x)) (k:∀b u,b≠e→h.get? b=some u→h'.get? b=some u) (heo:∃u,h'.get? e=some u)
  (new:gm P w (upd H x o') h' x o'):nP P w (upd H x o') h':=fun b u q=>by
 have nown:∀c y,H c=some (.own y)→c≠x:=fun c y r z=>by subst z;rw [r] at mu;exact mu
 have ntup:∀c xs,H c=some (.tup xs)→c≠x:=fun c xs r z=>by subst z;rw [r] at mu;exact mu
 by_cases hb:b=x
 ·subst hb;rw [ae] at q;cases q;exact new
 ·rw [aj hb] at q
  by_cases hbe:b=e
  ·have q':H b=some (.own x):=by
    rcases he with z | z
    ·exact absurd (hbe.trans z) hb
    ·rw [hbe];exact z
   rw [q] at q';cases q'
   obtain ⟨v,hv⟩:=heo
   exact ⟨v,by rw [hbe];exact hv⟩
  ·refine (ok b u q).si (fun c v hc r=>k c v ?_ r) (fun c r=>by rw [aj (nown c b r)];exact r) fun c xs r=>by rw [aj (ntup c xs r)];exact r
   rcases hc with rfl | hc
   ·exact hbe
   ·rintro rfl
    rcases he with z | z
    ·exact nown c b hc z
    ·rw [hc] at z;cases z;exact hb rfl
end
structure Un (fs ex:List Addr) (H H':Hp) (h h':Heap):Prop where
 keep:∀b o,h.get? b=some o→H b=none→b∉fs→b∉ex→h'.get? b=some o
 slot:∀b o,h.get? b=some o→H b=none→b∈fs→b∉ex→∃sl,h'.get? b=some { o with slots:=sl }
 free:∀b o,h.get? b=some o→H b=none→b∉ex→H' b=none
 there:∀b o,h.get? b=some o→b∉ex→∃o',h'.get? b=some o'
 tK:∀b xs,H b=some (.tup xs)→H' b=some (.tup xs)
 qP:∀b o u,H b=some (.lE o u)→H' b=some (.lE o u)
 tL:∀b ps,H b=some (.Dg ps)→∃more,H' b=some (.Dg (ps++more))
section
variable {fs fs' ex ex':List Addr} {H H1 H2:Hp} {h h1 h2 h':Heap} {a x e:Addr} {o:HO}
theorem Un.any (u:Un fs ex H H1 h h1) {b:Addr} {ob:Obj} (q:h.get? b=some ob) (n:H b=none) (hx:b∉ex):∃sl,h1.get? b=some { ob with slots:=sl }:=by
 by_cases hb:b∈fs
 ·exact u.slot b ob q n hb hx
 ·exact ⟨ob.slots,u.keep b ob q n hb hx⟩
theorem Un.kept (k:∀b u,h.get? b=some u→h'.get? b=some u):Un fs ex H H h h':=
 ⟨fun b ob q _ _ _=>k b ob q,fun b ob q _ _ _=>⟨ob.slots,k b ob q⟩,fun _ _ _ n _=>n,fun b ob q _=>⟨ob,k b ob q⟩,fun _ _ q=>q,fun _ _ _ q=>q,fun _ ps q=>⟨#[],by rw [q];simp⟩⟩
theorem Un.refl:Un fs ex H H h h:=Un.kept fun _ _ q=>q
theorem Un.laid (k:∀b u,h.get? b=some u→h'.get? b=some u) (hp:h.objs.size≤a) (hn:H a=none):Un fs ex H (upd H a o) h h' where
 keep:=fun b u q _ _ _=>k b u q
 slot:=fun b u q _ _ _=>⟨u.slots,k b u q⟩
 free:=fun b u q n _=>by rw [aj (Nat.ne_of_lt (Nat.lt_of_lt_of_le (Heap.lt_size q) hp))];exact n
 there:=fun b u q _=>⟨u,k b u q⟩
 tK:=fun b xs q=>by rw [aj (aE q hn)];exact q
 qP:=fun b u xs q=>by rw [aj (aE q hn)];exact q
 tL:=fun b ps q=>⟨#[],by rw [aj (aE q hn),q];simp⟩
theorem Un.write (mu:Dh (H x)) (he:e=x∨H e=some (.own x)) (k:∀b u,b≠e→h.get? b=some u→h'.get? b=some u) (heo:∃u,h'.get? e=some u):Un fs ex H (upd H x o) h h':=by
 have hx:∀b,H b=none→b≠x:=fun b n z=>by subst z;rw [n] at mu;exact mu
 have hb:∀b,H b=none→b≠e:=fun b n z=>by
  subst z
  rcases he with r | r
  ·exact hx b n r
  ·rw [n] at r;cases r
 have hm:∀b u,H b=some u→¬ Dh (some u)→b≠x:=fun b u q nm z=>by subst z;rw [q] at mu;exact nm mu
 refine ⟨fun b u q n _ _=>k b u (hb b n) q,fun b u q n _ _=>⟨u.slots,k b u (hb b n) q⟩,fun b u q n _=>by rw [aj (hx b n)];exact n,fun b u q _=>?_,
  fun b xs q=>by rw [aj (hm b _ q fun z=>z)];exact q,fun b u xs q=>by rw [aj (hm b _ q fun z=>z)];exact q,fun b ps q=>⟨#[],by rw [aj (hm b _ q fun z=>z),q];simp⟩⟩
 by_cases hbe:b=e
 ·subst hbe;exact heo
 ·exact ⟨u,k b u hbe q⟩
end
def Fs (h:Heap) (H:Hp):List Addr:=(List.range h.objs.size).filter fun a=>(H a).isSome
def tM (h:Heap) (H:Hp):Heap:=PySem.W.hideAll h (Fs h H)
theorem zg (h:Heap) (H:Hp):(tM h H).objs.size=h.objs.size:=PySem.W.hideAll_size _ _
theorem AB {h:Heap} {H:Hp} {b:Addr} {o:Obj} (e:h.get? b=some o) (n:H b=none):(tM h H).get? b=some o:=
 PySem.W.hideAll_get _ e fun hm=>by
  have q:(H b).isSome=true:=(List.mem_filter.mp hm).2
  rw [n] at q;simp at q
theorem BE {h:Heap} {H:Hp} {b:Addr} {o:Obj} (e:(tM h H).get? b=some o):h.get? b=some o∧H b=none:=by
 have e':h.get? b=some o:=PySem.W.of_hideAll (Fs h H) e
 refine ⟨e',?_⟩
 cases q:H b with
 | none=>rfl
 | some x=>
  have hm:b∈Fs h H:=List.mem_filter.mpr ⟨List.mem_range.mpr (Heap.lt_size e'),by simp [q]⟩
  have z:(tM h H).get? b=none:=PySem.W.hideAll_none (Fs h H) hm
  rw [z] at e;cases e
end L2
namespace L2
open PySem PySem.Spec PyProof.Rows
structure Mod (K:PySem.W.Frag) (mg:Str→Option Value) (base:Heap):Prop where
 Ed:K.In base
 glob:base.Ns mainGlobals mg
 blt:∃mb,base.Ns builtinsNs mb∧∀x:Str,x≠"__name__"→mb x=bootBuiltins x
 nolimit:base.NoLimit
structure Cx where
 prog:Program
 w:World
 K:PySem.W.Frag
 mg:Str→Option Value
 base:Heap
 A:Around
 N:List Str
 sW:Shared
 Di:Hp
 env:Env
 outer:List Env
 stack:List Env
 ex:List Addr
 fn:Str→Bool
 calm:Bool
 pn:List (Addr × Obj)
 xe:Value→Shared→Prop
def AD (l:List Env):List Addr:=l.filterMap (·.frame)
abbrev Cx.fs (X:Cx):List Addr:=AD X.outer
def Ee (sc:Scope) (x:Str):Prop:=sc.names.lookup x=some .local∨sc.names.lookup x=some .cell∨sc.names.lookup x=some .free
def Loc (sc:Scope) (x:Str):Prop:=sc.names.lookup x=some .local∨sc.names.lookup x=some .cell
def Look (env:Env) (h:Heap) (m:Str→Option Value) (x:Str) (u:Value):Prop:=
 (env.kindOf x=some .local∧m x=some u)∨((env.kindOf x=some .cell∨env.kindOf x=some .free)∧∃c,env.cells.lookup x=some c∧h.IsCell c (some u))
structure Cx.Ok (X:Cx):Prop where
 mod:Mod X.K X.mg X.base
 kind:X.env.scope.kind=.function
 glob:X.env.globals=mainGlobals
 blt:X.env.builtins=builtinsNs
 above:X.sW.heap.objs.size≤X.env.locals
 inj:∀x y c,X.env.cells.lookup x=some c→X.env.cells.lookup y=some c→x=y
 has:∀x,(X.env.kindOf x=some .cell∨X.env.kindOf x=some .free)→∃c,X.env.cells.lookup x=some c
 Em:∀x c,X.fn x=true→X.env.cells.lookup x=some c→X.sW.heap.objs.size≤c
 hd:X.calm=true→X.A.handled=none
 frames:X.A.frames=some X.stack
 Ft:X.stack=X.outer∨(X.stack=X.env :: X.outer∧X.env.frame=some X.env.locals)
 Fu:∀b∈X.ex,b≠X.env.locals∧∀x c,X.env.cells.lookup x=some c→c≠b
 bs:∀b o,X.base.get? b=some o→X.sW.heap.get? b=some o∧X.Di b=none
 BF:X.base.objs.size≤X.sW.heap.objs.size
 AE:∀b o,X.base.get? b=some o→b∉X.ex
 AF:∀b∈X.ex,b∉X.fs
 qf:X.sW.heap.FunFrames X.base X.outer
 Dj:∀b∈X.fs,X.Di b=none
structure Inv (X:Cx) (pins:List (Addr × Obj)) (σ:List (Option V)) (H:Hp) (s:Shared):Prop where
 ok:X.Ok
 os:s.os=X.sW.os
 bare:AllBare s.gens
 base:Un X.fs X.ex X.Di H X.sW.heap s.heap
 loc:∃m,s.heap.Ns X.env.locals m∧∀(i:Nat) (x:Str) (v:V),X.N[i]?=some x→σ[i]?=some (some v)→Ee X.env.scope x→∃u,RelV v u∧Look X.env s.heap m x u
 cell:∀x c,X.env.cells.lookup x=some c→∃v,s.heap.IsCell c v
 free:H X.env.locals=none
 kg:∀x c,X.env.cells.lookup x=some c→H c=none
 pin:∀p∈X.pn++pins,s.heap.get? p.1=some p.2∧H p.1=none∧p.1≠X.env.locals∧p.1∉X.fs∧∀v,p.2.data≠.cell v
 dZ:nP X.prog X.w H s.heap
 len:σ.length=X.N.length
section
variable {X:Cx} {pins:List (Addr × Obj)} {σ:List (Option V)} {H H':Hp} {s:Shared} {h':Heap}
theorem Cx.Ok.FG (ok:X.Ok) {b:Addr} {o:Obj} (e:X.base.get? b=some o):b∉X.fs:=fun hb=>by
 have:=(ok.qf.mem hb).1
 rw [e] at this;cases this
theorem Inv.bs (I:Inv X pins σ H s):∀b o,X.base.get? b=some o→s.heap.get? b=some o∧H b=none:=fun b o e=>
 ⟨I.base.keep b o (I.ok.bs b o e).1 (I.ok.bs b o e).2 (I.ok.FG e) (I.ok.AE b o e),I.base.free b o (I.ok.bs b o e).1 (I.ok.bs b o e).2 (I.ok.AE b o e)⟩
theorem Inv.bk (I:Inv X pins σ H s):∀b o,X.base.get? b=some o→s.heap.get? b=some o:=fun b o e=>(I.bs b o e).1
theorem Inv.mod (I:Inv X pins σ H s):Mod X.K X.mg X.base:=I.ok.mod
theorem Inv.uY (I:Inv X pins σ H s):X.K.In s.heap:=I.ok.mod.Ed.keeps I.bk
theorem Inv.lt (I:Inv X pins σ H s):X.env.locals < s.heap.objs.size:=let ⟨_,hn,_⟩:=I.loc;hn.lt
theorem Inv.sz (I:Inv X pins σ H s):X.sW.heap.objs.size≤s.heap.objs.size:=Nat.le_trans I.ok.above (Nat.le_of_lt I.lt)
theorem Inv.FH (I:Inv X pins σ H s) {a:Addr} (h:s.heap.objs.size≤a):a∉X.fs:=fun hb=>by
 obtain ⟨_,o,ho,_⟩:=I.ok.qf.mem hb
 exact absurd (Nat.lt_of_lt_of_le (Heap.lt_size ho) (Nat.le_trans I.sz h)) (Nat.lt_irrefl _)
theorem Inv.Dk (I:Inv X pins σ H s):∀x c,X.env.cells.lookup x=some c→c≠X.env.locals:=fun x c e z=>by
 obtain ⟨v,o,ho,hd⟩:=I.cell x c e
 obtain ⟨m,⟨o',es,ep,ho',hd',_⟩,_⟩:=I.loc
 rw [z,ho'] at ho;cases ho;rw [hd'] at hd;cases hd
theorem Inv.qf (I:Inv X pins σ H s):s.heap.FunFrames X.base X.outer:=by
 have all:∀(l:List Env),(∀b∈AD l,b∈X.fs)→X.sW.heap.FunFrames X.base l→s.heap.FunFrames X.base l:=by
  intro l
  induction l with
  | nil=>intro _ _;trivial
  | cons env r ih=>
   intro hs hl
   obtain ⟨hk,⟨L,o,hf,hn,ho,hd⟩,hr⟩:=hl
   have hL:L∈X.fs:=hs L (by unfold AD;rw [List.filterMap_cons,hf];exact List.mem_cons_self)
   obtain ⟨sl,e⟩:=I.base.slot L o ho (I.ok.Dj L hL) hL fun z=>I.ok.AF L z hL
   exact ⟨hk,⟨L,_,hf,hn,e,hd⟩,ih (fun b hb=>hs b (by unfold AD;rw [List.filterMap_cons,hf];exact List.mem_cons_of_mem _ hb)) hr⟩
 exact all X.outer (fun _ hb=>hb) I.ok.qf
theorem Inv.stack (I:Inv X pins σ H s):s.heap.FunFrames X.base X.stack:=by
 rcases I.ok.Ft with e | ⟨e,hf⟩
 ·rw [e];exact I.qf
 ·rw [e]
  obtain ⟨m,hn,_⟩:=I.loc
  refine .cons (by rw [I.ok.kind];decide) hf hn ?_ I.qf
  exact Heap.get?_none_of_le (Nat.le_trans I.ok.BF I.ok.above)
theorem Inv.wC (I:Inv X pins σ H s):∀b∈AD X.stack,b∈X.env.locals :: X.fs:=fun b hb=>by
 rcases I.ok.Ft with e | ⟨e,hf⟩
 ·rw [e] at hb;exact List.mem_cons_of_mem _ hb
 ·rw [e] at hb
  unfold AD at hb
  rw [List.filterMap_cons,hf] at hb
  exact hb
theorem Inv.x_ (I:Inv X pins σ H s):∀b∈AD X.stack,H b=none:=fun b hb=>by
 rcases List.mem_cons.mp (I.wC b hb) with e | hb
 ·rw [e];exact I.free
 ·obtain ⟨_,o,ho,_⟩:=I.ok.qf.mem hb
  exact I.base.free b o ho (I.ok.Dj b hb) fun z=>I.ok.AF b z hb
theorem Inv.step {g':Array GenState} {t':Nat} {d':Drawn} {ch:List Addr} (I:Inv X pins σ H s)
  (hch:∀b∈ch,(b∈X.ex∨X.sW.heap.objs.size≤b)∧b≠X.env.locals∧(∀x c,X.env.cells.lookup x=some c→c≠b)∧∀p∈X.pn++pins,p.1≠b)
  (keep:∀b o,b≠X.env.locals→b∉X.fs→b∉ch→s.heap.get? b=some o→H b=none→h'.get? b=some o)
  (slot:∀b o,b≠X.env.locals→b∈X.fs→b∉ch→s.heap.get? b=some o→H b=none→∃sl,h'.get? b=some { o with slots:=sl }) (free:∀b o,b∉ch→s.heap.get? b=some o→H b=none→H' b=none)
  (there:∀b o,b∉ch→s.heap.get? b=some o→∃o',h'.get? b=some o')
  (tK:∀b xs,H b=some (.tup xs)→H' b=some (.tup xs)) (qP:∀b o u,H b=some (.lE o u)→H' b=some (.lE o u)) (tL:∀b ps,H b=some (.Dg ps)→∃more,H' b=some (.Dg (ps++more)))
  (ns:∀m,s.heap.Ns X.env.locals m→h'.Ns X.env.locals m) (dZ:nP X.prog X.w H' h') (hg:AllBare g') :
  Inv X pins σ H' { s with heap:=h',gens:=g',drawn:=d',toks:=t' }:=by
 have neL:∀b o,X.sW.heap.get? b=some o→b≠X.env.locals:=fun b o e=>Nat.ne_of_lt (Nat.lt_of_lt_of_le (Heap.lt_size e) I.ok.above)
 have neC:∀b o,X.sW.heap.get? b=some o→b∉X.ex→b∉ch:=fun b o e hx hb=>by
  rcases (hch b hb).1 with z | z
  ·exact hx z
  ·exact absurd (Nat.lt_of_lt_of_le (Heap.lt_size e) z) (Nat.lt_irrefl _)
 have cellK:∀x c,X.env.cells.lookup x=some c→∀v,s.heap.IsCell c v→h'.IsCell c v:=fun x c e v ⟨o,ho,hd⟩=>by
  have nch:c∉ch:=fun z=>(hch c z).2.2.1 x c e rfl
  by_cases hc:c∈X.fs
  ·obtain ⟨sl,q⟩:=slot c o (I.Dk x c e) hc nch ho (I.kg x c e)
   exact ⟨_,q,hd⟩
  ·exact ⟨o,keep c o (I.Dk x c e) hc nch ho (I.kg x c e),hd⟩
 refine ⟨I.ok,I.os,hg,⟨fun b o e n hb hx=>?_,fun b o e n hb hx=>?_,fun b o e n hx=>?_,fun b o e hx=>?_,fun b xs e=>tK b xs (I.base.tK b xs e),fun b o xs e=>qP b o xs (I.base.qP b o xs e),fun b ps e=>?_⟩,?_,fun x c e=>?_,?_,fun x c e=>?_,fun p hp=>?_,dZ,I.len⟩
 ·exact keep b o (neL b o e) hb (neC b o e hx) (I.base.keep b o e n hb hx) (I.base.free b o e n hx)
 ·obtain ⟨sl,e1⟩:=I.base.slot b o e n hb hx
  obtain ⟨sl',e2⟩:=slot b _ (neL b o e) hb (neC b o e hx) e1 (I.base.free b o e n hx)
  exact ⟨sl',e2⟩
 ·obtain ⟨o',e1⟩:=I.base.there b o e hx
  exact free b o' (neC b o e hx) e1 (I.base.free b o e n hx)
 ·obtain ⟨o',e1⟩:=I.base.there b o e hx
  exact there b o' (neC b o e hx) e1
 ·obtain ⟨m1,e1⟩:=I.base.tL b ps e
  obtain ⟨m2,e2⟩:=tL b _ e1
  exact ⟨m1++m2,by rw [e2,Array.append_assoc]⟩
 ·obtain ⟨m,hn,hl⟩:=I.loc
  refine ⟨m,ns m hn,fun i x v e1 e2 e3=>?_⟩
  obtain ⟨u,r,l⟩:=hl i x v e1 e2 e3
  refine ⟨u,r,?_⟩
  rcases l with l | ⟨k,c,e,z⟩
  ·exact .inl l
  ·exact .inr ⟨k,c,e,cellK x c e _ z⟩
 ·obtain ⟨v,z⟩:=I.cell x c e
  exact ⟨v,cellK x c e v z⟩
 ·obtain ⟨m,⟨o,_,_,ho,_⟩,_⟩:=I.loc
  exact free _ o (fun z=>(hch _ z).2.1 rfl) ho I.free
 ·obtain ⟨v,o,ho,hd⟩:=I.cell x c e
  exact free c o (fun z=>(hch c z).2.2.1 x c e rfl) ho (I.kg x c e)
 ·obtain ⟨e,n,ne,nf,d⟩:=I.pin p hp
  have nch:p.1∉ch:=fun z=>(hch p.1 z).2.2.2 p hp rfl
  exact ⟨keep p.1 p.2 ne nf nch e n,free p.1 p.2 nch e n,ne,nf,d⟩
theorem Inv.un {t':Nat} (I:Inv X pins σ H s) (u:Un X.fs [] H H' s.heap h') (dZ:nP X.prog X.w H' h'):Inv X pins σ H' { s with heap:=h',toks:=t' }:=by
 obtain ⟨m,⟨o,es,ep,ho,r⟩,_⟩:=id I.loc
 obtain ⟨sl,hL⟩:=u.any ho I.free (by simp)
 exact I.step (g':=s.gens) (d':=s.drawn) (ch:=[]) (fun _ z=>nomatch z) (fun b o _ hb _ e n=>u.keep b o e n hb (by simp)) (fun b o _ hb _ e n=>u.slot b o e n hb (by simp)) (fun b o _ e n=>u.free b o e n (by simp)) (fun b o _ e=>u.there b o e (by simp)) u.tK u.qP u.tL (fun m' hm=>by
  obtain ⟨o',es',ep',ho',r'⟩:=hm
  rw [ho] at ho';cases ho'
  exact ⟨_,es',ep',hL,r'⟩) dZ I.bare
theorem Inv.call {g':Array GenState} {t':Nat} {d':Drawn} {ch:List Addr} (I:Inv X pins σ H s) (u:Un (AD X.stack) ch H H' s.heap h') (dZ:nP X.prog X.w H' h') (hg:AllBare g')
  (hch:∀b∈ch,(b∈X.ex∨X.sW.heap.objs.size≤b)∧b≠X.env.locals∧(∀x c,X.env.cells.lookup x=some c→c≠b)∧∀p∈X.pn++pins,p.1≠b) :
  Inv X pins σ H' { s with heap:=h',gens:=g',drawn:=d',toks:=t' }:=by
 obtain ⟨m,⟨o,es,ep,ho,r⟩,_⟩:=id I.loc
 obtain ⟨sl,hL⟩:=u.any ho I.free fun z=>(hch _ z).2.1 rfl
 exact I.step (ch:=ch) hch (fun b o hL hb hc e n=>u.keep b o e n (fun z=>(List.mem_cons.mp (I.wC b z)).elim hL hb) hc) (fun b o _ _ hc e n=>u.any e n hc) (fun b o hc e n=>u.free b o e n hc) (fun b o hc e=>u.there b o e hc) u.tK u.qP u.tL (fun m' hm=>by
  obtain ⟨o',es',ep',ho',r'⟩:=hm
  rw [ho] at ho';cases ho'
  exact ⟨_,es',ep',hL,r'⟩) dZ hg
theorem Inv.turned {t':Nat} {it:Addr} (I:Inv X pins σ H s) (k:∀b o,b≠it→s.heap.get? b=some o→h'.get? b=some o) (hn:H it=none) (hL:it≠X.env.locals)
  (h1:it∈X.ex∨X.sW.heap.objs.size≤it) (h2:∀x c,X.env.cells.lookup x=some c→c≠it) (h3:∀p∈X.pn++pins,p.1≠it):Inv X pins σ H { s with heap:=h',toks:=t' }:=by
 have nit:∀b u,H b=some u→b≠it:=fun b u e z=>by rw [z,hn] at e;cases e
 refine I.step (g':=s.gens) (d':=s.drawn) (ch:=[it]) (fun b hb=>?_) (fun b o _ _ hc e _=>k b o (fun z=>hc (by simp [z])) e) (fun b o _ _ hc e _=>⟨o.slots,k b o (fun z=>hc (by simp [z])) e⟩) (fun _ _ _ _ n=>n)
  (fun b o hc e=>⟨o,k b o (fun z=>hc (by simp [z])) e⟩) (fun _ _ e=>e) (fun _ _ _ e=>e) (fun b ps e=>⟨#[],by rw [e];simp⟩) (fun m hm=>?_) (fun b u e=>?_) I.bare
 ·have e:b=it:=by simpa using hb
  subst e
  exact ⟨h1,hL,h2,h3⟩
 ·obtain ⟨o,es,ep,ho,r⟩:=hm
  exact ⟨o,es,ep,k _ o (Ne.symm hL) ho,r⟩
 ·refine (I.dZ b u e).si (fun c v hc q=>k c v ?_ q) (fun _ q=>q) fun _ _ q=>q
  rcases hc with z | z
  ·rw [z];exact nit b u e
  ·exact nit c _ z
theorem Inv.tok (I:Inv X pins σ H s) (t:Nat):Inv X pins σ H { s with toks:=t }:=I.un (h':=s.heap) (t':=t) Un.refl I.dZ
theorem Inv.kept {t':Nat} (I:Inv X pins σ H s) (k:∀b u,s.heap.get? b=some u→h'.get? b=some u):Inv X pins σ H { s with heap:=h',toks:=t' }:=I.un (Un.kept k) (I.dZ.kept k)
theorem Inv.laid {a:Addr} {o:HO} {t':Nat} (I:Inv X pins σ H s) (k:∀b u,s.heap.get? b=some u→h'.get? b=some u) (hp:s.heap.objs.size≤a) (new:gm X.prog X.w (upd H a o) h' a o) :
  Inv X pins σ (upd H a o) { s with heap:=h',toks:=t' }:=I.un (Un.laid k hp (I.dZ.fresh hp)) (I.dZ.laid k hp new)
theorem Inv.write {x e:Addr} {o:HO} {t':Nat} (I:Inv X pins σ H s) (mu:Dh (H x)) (he:e=x∨H e=some (.own x)) (k:∀b u,b≠e→s.heap.get? b=some u→h'.get? b=some u) (heo:∃u,h'.get? e=some u)
  (new:gm X.prog X.w (upd H x o) h' x o):Inv X pins σ (upd H x o) { s with heap:=h',toks:=t' }:=I.un (Un.write mu he k heo) (I.dZ.write mu he k heo new)
theorem Inv.weak {σ':List (Option V)} (I:Inv X pins σ H s) (hl:σ'.length=σ.length) (w:∀(i:Nat) v,σ'[i]?=some (some v)→σ[i]?=some (some v)):Inv X pins σ' H s:=
 ⟨I.ok,I.os,I.bare,I.base,let ⟨m,hn,hl'⟩:=I.loc;⟨m,hn,fun i x v e1 e2 e3=>hl' i x v e1 (w i v e2) e3⟩,I.cell,I.free,I.kg,I.pin,I.dZ,hl.trans I.len⟩
theorem Inv.ya {pins':List (Addr × Obj)} (I:Inv X pins σ H s) (h:∀p∈pins',s.heap.get? p.1=some p.2∧H p.1=none∧p.1≠X.env.locals∧p.1∉X.fs∧∀v,p.2.data≠.cell v):Inv X pins' σ H s:=
 ⟨I.ok,I.os,I.bare,I.base,I.loc,I.cell,I.free,I.kg,fun p hp=>(List.mem_append.mp hp).elim (fun z=>I.pin p (List.mem_append_left _ z)) (h p),I.dZ,I.len⟩
theorem qQ {N:List Str} (hN:N.Nodup) {i j:Nat} {x:Str} (a:N[i]?=some x) (b:N[j]?=some x):i=j:=by
 obtain ⟨h1,e1⟩:=List.getElem?_eq_some_iff.mp a
 obtain ⟨h2,e2⟩:=List.getElem?_eq_some_iff.mp b
 exact (List.getElem_inj hN).mp (e1.trans e2.symm)
theorem zh {M:Model} {A:Around} {E:Value→Shared→Prop} {i:Nat} {x:Str} {v:V} {u:Value} {Q:Unit→Shared→Prop} (I:Inv X pins σ H s) (hN:X.N.Nodup) (hi:X.N[i]?=some x) (hx:Loc X.env.scope x) (r:RelV v u)
  (h:∀s',Inv X pins (σ.set i (some v)) H s'→(∃a,Heap.SameBut a s.heap s'.heap∧(a=X.env.locals∨X.env.cells.lookup x=some a))→Q () s') (hf:X.fn x=true∨X.env.scope.names.lookup x=some .local:=by first | exact .inl rfl | exact .inr rfl | assumption):wpAny M A (storeName X.env x u) Q E s:=by
 obtain ⟨m,hn,hl⟩:=id I.loc
 have hcls:(X.env.scope.kind == .class || (X.env.scope.kind == .module && X.env.locals != X.env.globals))=false:=by rw [I.ok.kind];rfl
 have hiσ:i < σ.length:=by rw [I.len];exact (List.getElem?_eq_some_iff.mp hi).1
 have Dk:=I.Dk
 have tracked:∀{a:Addr} {h':Heap},(∃o,s.heap.get? a=some o∧H a=none)→Heap.SameBut a s.heap h'→nP X.prog X.w H h':=fun {a h'} ha hs b ob e=>by
  obtain ⟨_,_,hfree⟩:=ha
  refine (I.dZ b ob e).si (fun c w' hc q=>(hs.2 c ?_).trans q) (fun _ q=>q) fun _ _ q=>q
  rintro rfl
  rcases hc with rfl | hc
  ·rw [hfree] at e;cases e
  ·rw [hfree] at hc;cases hc
 rcases hx with hk | hk
 ·refine wpAny_storeName_local hk hn (fun h' hn' hs=>?_) hcls
  obtain ⟨oL,_,_,hoL,_⟩:=id hn
  refine h _ ⟨I.ok,I.os,I.bare,⟨fun b o e n hb hx=>?_,fun b o e n hb hx=>?_,I.base.free,fun b o e hx=>?_,I.base.tK,I.base.qP,I.base.tL⟩,⟨_,hn',fun j y v' e1 e2 e3=>?_⟩,fun y c e=>?_,I.free,I.kg,fun p hp=>?_,tracked ⟨oL,hoL,I.free⟩ hs,by simpa using I.len⟩ ⟨_,hs,.inl rfl⟩
  ·exact (hs.2 b (Nat.ne_of_lt (Nat.lt_of_lt_of_le (Heap.lt_size e) I.ok.above))).trans (I.base.keep b o e n hb hx)
  ·obtain ⟨sl,e1⟩:=I.base.slot b o e n hb hx
   exact ⟨sl,(hs.2 b (Nat.ne_of_lt (Nat.lt_of_lt_of_le (Heap.lt_size e) I.ok.above))).trans e1⟩
  ·obtain ⟨o',e1⟩:=I.base.there b o e hx
   exact ⟨o',(hs.2 b (Nat.ne_of_lt (Nat.lt_of_lt_of_le (Heap.lt_size e) I.ok.above))).trans e1⟩
  ·by_cases hj:j=i
   ·subst hj
    rw [hi] at e1;cases e1
    rw [List.getElem?_set_self hiσ] at e2
    cases e2
    exact ⟨u,r,.inl ⟨hk,by simp⟩⟩
   ·rw [List.getElem?_set_ne (Ne.symm hj)] at e2
    obtain ⟨u',r',q⟩:=hl j y v' e1 e2 e3
    refine ⟨u',r',?_⟩
    rcases q with ⟨k,e⟩ | ⟨k,c,e,z⟩
    ·refine .inl ⟨k,?_⟩
     have:y≠x:=fun e=>hj (qQ hN e1 (e ▸ hi))
     simp [this,e]
    ·exact .inr ⟨k,c,e,z.sameBut hs (Dk y c e)⟩
  ·obtain ⟨w',z⟩:=I.cell y c e
   exact ⟨w',z.sameBut hs (Dk y c e)⟩
  ·obtain ⟨e,n,ne,nf,d⟩:=I.pin p hp
   exact ⟨(hs.2 p.1 ne).trans e,n,ne,nf,d⟩
 ·have hfn:X.fn x=true:=by
   rcases hf with z | z
   ·exact z
   ·rw [z] at hk;cases hk
  obtain ⟨c,hc⟩:=I.ok.has x (.inl hk)
  obtain ⟨w',z⟩:=I.cell x c hc
  refine wpAny_storeName_cell I.ok.kind hk hc z (fun h' hc' hs=>?_)
  obtain ⟨oc,hoc,hocd⟩:=id z
  refine h { s with heap:=h' } ⟨I.ok,I.os,I.bare,⟨fun b o e n hb hx=>?_,fun b o e n hb hx=>?_,I.base.free,fun b o e hx=>?_,I.base.tK,I.base.qP,I.base.tL⟩,⟨m,hn.sameBut hs (Ne.symm (Dk x c hc)),fun j y v' e1 e2 e3=>?_⟩,fun y c' e=>?_,I.free,I.kg,fun p hp=>?_,tracked ⟨oc,hoc,I.kg x c hc⟩ hs,by simpa using I.len⟩ ⟨c,hs,.inr hc⟩
  ·exact (hs.2 b (Nat.ne_of_lt (Nat.lt_of_lt_of_le (Heap.lt_size e) (I.ok.Em x c hfn hc)))).trans (I.base.keep b o e n hb hx)
  ·obtain ⟨sl,e1⟩:=I.base.slot b o e n hb hx
   exact ⟨sl,(hs.2 b (Nat.ne_of_lt (Nat.lt_of_lt_of_le (Heap.lt_size e) (I.ok.Em x c hfn hc)))).trans e1⟩
  ·obtain ⟨o',e1⟩:=I.base.there b o e hx
   exact ⟨o',(hs.2 b (Nat.ne_of_lt (Nat.lt_of_lt_of_le (Heap.lt_size e) (I.ok.Em x c hfn hc)))).trans e1⟩
  ·by_cases hj:j=i
   ·subst hj
    rw [hi] at e1;cases e1
    rw [List.getElem?_set_self hiσ] at e2
    cases e2
    exact ⟨u,r,.inr ⟨.inl hk,c,hc,hc'⟩⟩
   ·rw [List.getElem?_set_ne (Ne.symm hj)] at e2
    obtain ⟨u',r',q⟩:=hl j y v' e1 e2 e3
    refine ⟨u',r',?_⟩
    rcases q with q | ⟨k,c',e,z'⟩
    ·exact .inl q
    ·refine .inr ⟨k,c',e,z'.sameBut hs ?_⟩
     rintro rfl
     exact hj (qQ hN e1 (I.ok.inj _ _ _ e hc ▸ hi))
  ·by_cases hcc:c'=c
   ·subst hcc;exact ⟨_,hc'⟩
   ·obtain ⟨w2,z2⟩:=I.cell y c' e
    exact ⟨w2,z2.sameBut hs hcc⟩
  ·obtain ⟨e,n,ne,nf,d⟩:=I.pin p hp
   refine ⟨(hs.2 p.1 ?_).trans e,n,ne,nf,d⟩
   intro q
   rw [q,hoc] at e
   have q':oc=p.2:=Option.some.inj e
   exact d w' (by rw [← q'];exact hocd)
theorem qR {M:Model} {A:Around} {E:Value→Shared→Prop} {i:Nat} {x:Str} {v:V} {u:Value} {Q:Unit→Shared→Prop} (I:Inv X pins σ H s) (hN:X.N.Nodup) (hi:X.N[i]?=some x) (hx:Loc X.env.scope x) (r:RelV v u)
  (h:∀s',Inv X pins (σ.set i (some v)) H s'→Q () s') (hf:X.fn x=true∨X.env.scope.names.lookup x=some .local:=by first | exact .inl rfl | exact .inr rfl | assumption):wpAny M A (storeName X.env x u) Q E s:=
 zh I hN hi hx r (fun s' I' _=>h s' I') hf
theorem Inv.En {s':Shared} {ch:List Addr} (I:Inv X pins σ H s) (ho:s'.os=s.os) (u:Un (AD X.stack) ch H H' s.heap s'.heap) (dZ:nP X.prog X.w H' s'.heap) (hg:AllBare s'.gens)
  (hch:∀b∈ch,(b∈X.ex∨X.sW.heap.objs.size≤b)∧b≠X.env.locals∧(∀x c,X.env.cells.lookup x=some c→c≠b)∧∀p∈X.pn++pins,p.1≠b):Inv X pins σ H' s':=by
 obtain ⟨h',g',d',t',o'⟩:=s'
 have e:o'=s.os:=ho
 subst e
 exact I.call (g':=g') (t':=t') (d':=d') u dZ hg hch
end
abbrev XK:=Value→Option Addr→Hp→Prop
abbrev St:=List (Option V)
abbrev VK:=V→Hp→Prop
abbrev TE:=St→Hp→VK→Prop
abbrev TT:=St→Hp→(Bool→Hp→Prop)→Prop
abbrev TA:=St→Hp→(List V→Hp→Prop)→Prop
structure Ends where
 nx:St→Hp→Prop
 rt:VK
 bk:St→Hp→Prop:=fun _ _=>False
 ct:St→Hp→Prop:=fun _ _=>False
abbrev TS:=Ends→St→Hp→Prop
def EP (X:Cx) (pins:List (Addr × Obj)) (σ:St) (Q:VK) (u:Value) (s':Shared):Prop:=∃v H',Inv X pins σ H' s'∧RelV v u∧Q v H'
def TP (X:Cx) (pins:List (Addr × Obj)) (σ:St) (Q:Bool→Hp→Prop) (b:Bool) (s':Shared):Prop:=∃H',Inv X pins σ H' s'∧Q b H'
def AP (X:Cx) (pins:List (Addr × Obj)) (σ:St) (Q:List V→Hp→Prop) (us:List Value) (s':Shared):Prop:=∃vs H',Inv X pins σ H' s'∧Vals vs us∧Q vs H'
def SP (X:Cx) (pins:List (Addr × Obj)) (D:Ends) (f:Flow) (s':Shared):Prop:=
 match f with
 | .next=>∃σ' H',Inv X pins σ' H' s'∧D.nx σ' H'
 | .brk=>∃σ' H',Inv X pins σ' H' s'∧D.bk σ' H'
 | .cont=>∃σ' H',Inv X pins σ' H' s'∧D.ct σ' H'
 | .ret u=>∃v σ' H',Inv X pins σ' H' s'∧RelV v u∧D.rt v H'
def PE (X:Cx) (e:Expr) (t:TE):Prop:=
 ∀(pins:List (Addr × Obj)) (s:Shared) (σ:St) (H:Hp) (Q:VK),Inv X pins σ H s→t σ H Q→wpAny (model X.prog X.w) X.A (eval e X.env) (EP X pins σ Q) X.xe s
def PT (X:Cx) (e:Expr) (t:TT):Prop:=
 ∀(pins:List (Addr × Obj)) (s:Shared) (σ:St) (H:Hp) (Q:Bool→Hp→Prop),Inv X pins σ H s→t σ H Q→wpAny (model X.prog X.w) X.A (isTrue e X.env (eval e X.env)) (TP X pins σ Q) X.xe s
def PW (X:Cx) (e:Expr) (t:TT):Prop:=
 ∀(whole:Sem Value) (pins:List (Addr × Obj)) (s:Shared) (σ:St) (H:Hp) (Q:Bool→Hp→Prop),Inv X pins σ H s→t σ H Q→wpAny (model X.prog X.w) X.A (isTrue e X.env whole) (TP X pins σ Q) X.xe s
theorem PW.pt {X:Cx} {e:Expr} {t:TT} (h:PW X e t):PT X e t:=h _
def PA (X:Cx) (es:List Expr) (t:TA):Prop:=
 ∀(pos:Pos) (pins:List (Addr × Obj)) (s:Shared) (σ:St) (H:Hp) (Q:List V→Hp→Prop),Inv X pins σ H s→t σ H Q→wpAny (model X.prog X.w) X.A (spliced (backTo pos (starEach es X.env))) (AP X pins σ Q) X.xe s
def PS (X:Cx) (st:Stmt) (t:TS):Prop:=
 ∀(pins:List (Addr × Obj)) (s:Shared) (σ:St) (H:Hp) (D:Ends),Inv X pins σ H s→t D σ H→wpAny (model X.prog X.w) X.A (exec st X.env) (SP X pins D) X.xe s
def zi (X:Cx) (st:List Stmt) (t:TS):Prop:=
 ∀(pins:List (Addr × Obj)) (s:Shared) (σ:St) (H:Hp) (D:Ends),Inv X pins σ H s→t D σ H→wpAny (model X.prog X.w) X.A (execs st X.env) (SP X pins D) X.xe s
theorem d4 {α:Type} {t:Sem α} {Q Q':α→Shared→Prop} {M:Model} {A:Around} {E:Value→Shared→Prop} {s:Shared} (h:wpAny M A t Q E s) (hQ:∀a s,Q a s→Q' a s):wpAny M A t Q' E s:=wpAny_mono h hQ fun _ _ x=>x
end L2
namespace L2
open PySem PySem.Spec PyProof.Rows
section
variable {X:Cx}
def wD (i:Nat):TE:=fun σ H Q=>∃v,σ[i]?=some (some v)∧Q v H
def tC (v:V):TE:=fun _ H Q=>Q v H
theorem Dl {i:Nat} {x:Str} {pos:Pos} (hN:X.N[i]?=some x) (hv:Ee X.env.scope x) (hd:(x == ("__debug__":Str))=false:=by decide) (hcd:(x == ("__classdict__":Str))=false:=by decide):PE X (.Name x pos) (wD i):=by
 intro pins s σ H Q I h
 obtain ⟨v,e,h⟩:=h
 obtain ⟨m,hn,hl⟩:=I.loc
 obtain ⟨u,r,l⟩:=hl i x v hN e hv
 have fin:EP X pins σ Q u s:=⟨v,H,I,r,h⟩
 rcases l with ⟨hk,hm⟩ | ⟨hk,c,hc,hcell⟩
 ·exact wpAny_Name (wpAny_loadName_local I.ok.kind hk hn hm fin) hd
 ·rcases hk with hk | hk
  ·exact wpAny_Name (wpAny_loadName_cell I.ok.kind hk hc hcell fin) hd
  ·exact wpAny_Name (wpAny_loadName_free I.ok.kind hk hc hcell fin hcd) hd
theorem ai {i j pos}:PE X (.Constant (.int i) j pos) (tC (.int i)):=fun _ _ _ H _ I h=>wpAny_Constant_int ⟨.int i,H,I.tok _,⟨_,rfl⟩,h⟩
theorem sX {b j pos}:PE X (.Constant (.bool b) j pos) (tC (.bl b)):=fun _ _ _ H _ I h=>Constant_bool ⟨.bl b,H,I,rfl,h⟩
theorem wF {j pos}:PE X (.Constant .none j pos) (tC .cD):=fun _ _ _ H _ I h=>Constant_none ⟨.cD,H,I,rfl,h⟩
theorem cv {x j pos}:PE X (.Constant (.str x) j pos) (tC (.str x)):=fun _ _ _ H _ I h=>Calls.Constant_str ⟨.str x,H,I.tok _,⟨_,rfl⟩,h⟩
def Gl (X:Cx) (x:Str):Prop:=X.env.kindOf x=some .globalImplicit
theorem kz {E:Value→Shared→Prop} {pins:List (Addr × Obj)} {s:Shared} {σ:St} {H:Hp} {x:Str} {u:Value} {pos:Pos} {Q:Value→Shared→Prop} (I:Inv X pins σ H s) (hg:Gl X x) (hm:X.mg x=some u) (h:Q u s)
  (hd:(x == ("__debug__":Str))=false:=by decide):wpAny (model X.prog X.w) X.A (eval (.Name x pos) X.env) Q E s:=
 Calls.Name_function_global I.ok.kind hg (Calls.loadGlobal_global (by rw [I.ok.glob];exact I.mod.glob.keeps I.bk) hm h) hd
theorem kC {E:Value→Shared→Prop} {pins:List (Addr × Obj)} {s:Shared} {σ:St} {H:Hp} {x:Str} {u:Value} {pos:Pos} {Q:Value→Shared→Prop} (I:Inv X pins σ H s) (hg:Gl X x) (hm:X.mg x=none) (hv:bootBuiltins x=some u) (h:Q u s)
  (hn:x≠"__name__":=by decide) (hd:(x == ("__debug__":Str))=false:=by decide):wpAny (model X.prog X.w) X.A (eval (.Name x pos) X.env) Q E s:=by
 obtain ⟨mb,h1,h2⟩:=I.mod.blt
 exact Calls.Name_function_global I.ok.kind hg (Calls.loadGlobal_builtin (by rw [I.ok.glob];exact I.mod.glob.keeps I.bk) hm (by rw [I.ok.blt];exact h1.keeps I.bk) ((h2 x hn).trans hv) h) hd
theorem yb {x:Str} {v:V} {u:Value} {pos:Pos} (hg:Gl X x) (hm:X.mg x=some u) (r:RelV v u) (hd:(x == ("__debug__":Str))=false:=by decide):PE X (.Name x pos) (tC v):=
 fun _ _ _ H _ I h=>kz I hg hm ⟨v,H,I,r,h⟩ hd
variable {a b:Expr} {ta tb:TE} {pos:Pos}
def PC (X:Cx) (op:CmpOp) (a b:Expr) (t:TE):Prop:=
 ∀(pins:List (Addr × Obj)) (s:Shared) (σ:St) (H:Hp) (Q:VK),Inv X pins σ H s→t σ H Q→
  wpAny (model X.prog X.w) X.A (eval a X.env) (fun v s₁=>wpAny (model X.prog X.w) X.A (eval b X.env) (fun u s₂=>wpAny (model X.prog X.w) X.A (compareOp op v u) (EP X pins σ Q) X.xe s₂) X.xe s₁) X.xe s
def tB (t:TE):TT:=fun σ H Q=>t σ H fun x H1=>∃c,x=.bl c∧Q c H1
theorem wG {op:CmpOp} {t:TE} (h:PC X op a b t) (h1:behindInMarks op b=false:=by first | exact Eo _ (by decide) (by decide) | rfl):PT X (.Compare a [op] [b] pos) (tB t):=by
 intro pins s σ H Q I hw
 refine wpAny_isTrue_Compare1 (d4 (h pins s σ H _ I hw) fun v s1 h1=>d4 h1 fun u s2 h2=>d4 h2 fun c s3 ⟨x,H1,I1,r1,q1⟩=>?_) h1
 obtain ⟨d,rfl,q⟩:=q1
 cases r1
 exact wpAny_truthy_bool ⟨H1,I1,q⟩
theorem ka {e:Expr} {t:TE} (h:PE X e t) (he:∀whole,isTrue e X.env whole=(do let v ← whole;standAt e.pos;holding [v] (truthy v)):=by intro _;rfl):PT X e (tB t):=by
 intro pins s σ H Q I hw
 refine isTrue_plain (d4 (h pins s σ H _ I hw) fun v s1 ⟨x,H1,I1,r1,q1⟩=>?_) (he _)
 obtain ⟨d,rfl,q⟩:=q1
 cases r1
 exact wpAny_truthy_bool ⟨H1,I1,q⟩
variable {tA tB':TT} {rest:List Expr}
def Ep (t u:TT):TT:=fun σ H Q=>t σ H fun c H1=>if c=true then u σ H1 Q else Q false H1
def GG (t u:TT):TT:=fun σ H Q=>t σ H fun c H1=>if c=true then Q true H1 else u σ H1 Q
def FI (t:TT):TT:=fun σ H Q=>t σ H fun c H1=>Q (!c) H1
theorem nQ (ha:PT X a tA):PW X (.BoolOp .And [a] pos) tA:=by
 intro wh pins s σ H Q I h
 refine isTrue_and (d4 (ha pins s σ H Q I h) fun c s1 e=>?_)
 cases c with
 | true=>exact isTrue_and_nil e
 | false=>exact e
theorem wH (ha:PT X a tA):PW X (.BoolOp .Or [a] pos) tA:=by
 intro wh pins s σ H Q I h
 refine isTrue_or (d4 (ha pins s σ H Q I h) fun c s1 e=>?_)
 cases c with
 | false=>exact isTrue_or_nil e
 | true=>exact e
theorem o7 (ha:PT X a tA) (hb:PW X (.BoolOp .And (b :: rest) pos) tB'):PW X (.BoolOp .And (a :: b :: rest) pos) (Ep tA tB'):=by
 intro wh pins s σ H Q I h
 refine isTrue_and (d4 (ha pins s σ H _ I h) fun c s1 ⟨H1,I1,q1⟩=>?_)
 cases c with
 | true=>exact hb wh pins s1 σ H1 Q I1 q1
 | false=>exact ⟨H1,I1,q1⟩
theorem AG (ha:PT X a tA) (hb:PW X (.BoolOp .Or (b :: rest) pos) tB'):PW X (.BoolOp .Or (a :: b :: rest) pos) (GG tA tB'):=by
 intro wh pins s σ H Q I h
 refine isTrue_or (d4 (ha pins s σ H _ I h) fun c s1 ⟨H1,I1,q1⟩=>?_)
 cases c with
 | true=>exact ⟨H1,I1,q1⟩
 | false=>exact hb wh pins s1 σ H1 Q I1 q1
theorem kD (ha:PT X a tA):PT X (.UnaryOp .Not a pos) (FI tA):=by
 intro pins s σ H Q I h
 exact isTrue_not (ha pins s σ H (fun c H1=>Q (!c) H1) I h)
def Er (ta tb:TE):TE:=fun σ H Q=>ta σ H fun x H1=>∃c,x=.bl c∧if c=true then tb σ H1 Q else Q (.bl false) H1
theorem Dm {op} {t:TE} (h:PE X a t):PE X (.BoolOp op [a] pos) t:=fun pins s σ H Q I hw=>BoolOp_one (h pins s σ H Q I hw)
theorem Dn (ha:PE X a ta) (hb:PE X (.BoolOp .And (b :: rest) pos) tb):PE X (.BoolOp .And (a :: b :: rest) pos) (Er ta tb):=by
 intro pins s σ H Q I h
 refine BoolOp_and (d4 (ha pins s σ H _ I h) fun v s1 ⟨x,H1,I1,r1,q1⟩=>?_)
 obtain ⟨c,rfl,q1⟩:=q1
 cases r1
 refine wpAny_truthy_bool ?_
 cases c with
 | true=>exact hb pins s1 σ H1 Q I1 q1
 | false=>exact ⟨.bl false,H1,I1,rfl,q1⟩
def GH (t:TT) (ta tb:TE):TE:=fun σ H Q=>t σ H fun c H1=>if c=true then ta σ H1 Q else tb σ H1 Q
theorem qS {c:Expr} (hc:PT X c tA) (ha:PE X a ta) (hb:PE X b tb):PE X (.IfExp c a b pos) (GH tA ta tb):=by
 intro pins s σ H Q I h
 refine wpAny_IfExp (d4 (hc pins s σ H _ I h) fun d s1 ⟨H1,I1,q1⟩=>?_)
 cases d with
 | true=>exact ha pins s1 σ H1 Q I1 q1
 | false=>exact hb pins s1 σ H1 Q I1 q1
end
end L2
namespace L2
open PySem PySem.Spec PyProof.Rows
def bV (K:PySem.W.Frag) (H:Hp) (a:Addr) (xs:List V):Prop:=
 Rd H a (.lst xs)∨
  ∃(o:Obj) (its:Array Value) (n:Nat),K.lookup a=some o∧o.cls=.type "list"∧o.dict=none∧o.data=.seq its n∧its.size≤sizeLine∧Vals xs its.toList
def ju (K:PySem.W.Frag) (H:Hp) (a:Addr) (xs:List V):Prop:=
 Rd H a (.tup xs)∨
  ∃(o:Obj) (its:Array Value) (n:Nat),K.lookup a=some o∧o.cls=.type "tuple"∧o.data=.seq its n∧its.size≤sizeLine∧Vals xs its.toList
def FJ:Value→Option V
 | .none=>some .cD
 | .bool b=>some (.bl b)
 | .int i _=>some (.int i)
 | .str x _=>some (.str x)
 | .bytes b _=>some (.uX b)
 | .float b _=>some (.Fq b)
 | .ref a=>some (.ref a)
 | .type n=>some (.ty n)
 | _=>none
theorem RelV.abs {x:V} {u:Value} (r:RelV x u):FJ u=some x:=by
 cases x with
 | cD=>cases r;rfl
 | bl _=>cases r;rfl
 | int _=>obtain ⟨t,rfl⟩:=r;rfl
 | str _=>obtain ⟨t,rfl⟩:=r;rfl
 | uX _=>obtain ⟨t,rfl⟩:=r;rfl
 | Fq _=>obtain ⟨t,rfl⟩:=r;rfl
 | ref _=>cases r;rfl
 | ty _=>cases r;rfl
theorem RelV.inj {x y:V} {u:Value} (r:RelV x u) (q:RelV y u):x=y:=Option.some.inj (r.abs.symm.trans q.abs)
theorem Vals.inj:∀{xs ys:List V} {us:List Value},Vals xs us→Vals ys us→xs=ys
 | _,_,_,.nil,.nil=>rfl
 | _,_,_,.cons r t,.cons r' t'=>by rw [r.inj r',Vals.inj t t']
section
variable {X:Cx} {pins:List (Addr × Obj)} {σ:St} {H:Hp} {s:Shared} {a:Addr} {xs ys:List V}
theorem bV.of {K:PySem.W.Frag} (h:H a=some (.lst xs)):bV K H a xs:=.inl (.inl h)
theorem ju.of {K:PySem.W.Frag} (h:H a=some (.tup xs)):ju K H a xs:=.inl (.inl h)
theorem Inv.list (I:Inv X pins σ H s) (h:bV X.K H a xs):∃its:List Value,Vals xs its∧PlainL s.heap a its.toArray∧xs.length≤sizeLine:=by
 rcases h with h | ⟨o,its,n,hk,hc,hd,hs,hz,r⟩
 ·obtain ⟨z,its,n,r,e⟩:=h.ok I.dZ
  exact ⟨its,r,⟨_,n,e,rfl,rfl,rfl⟩,z⟩
 ·refine ⟨its.toList,r,⟨o,n,I.uY a o hk,hc,hd,by simpa using hs⟩,?_⟩
  have e:=r.length
  simp only [Array.length_toList] at e
  omega
theorem Inv.tuple (I:Inv X pins σ H s) (h:ju X.K H a xs):∃its:List Value,Vals xs its∧IsTup s.heap a its.toArray∧xs.length≤sizeLine:=by
 rcases h with h | ⟨o,its,n,hk,hc,hs,hz,r⟩
 ·obtain ⟨z,its,r,p⟩:=h.ok I.dZ
  exact ⟨its,r,p,z⟩
 ·refine ⟨its.toList,r,⟨o,I.uY a o hk,hc,n,by simpa using hs⟩,?_⟩
  have e:=r.length
  simp only [Array.length_toList] at e
  omega
theorem Inv.u7 (I:Inv X pins σ H s) (h:bV X.K H a xs) (h':bV X.K H a ys):xs=ys:=by
 obtain ⟨its,r,⟨o,n,e,_,_,d⟩,_⟩:=I.list h
 obtain ⟨its',r',⟨o',n',e',_,_,d'⟩,_⟩:=I.list h'
 rw [e] at e';cases e'
 rw [d] at d'
 injection d' with d1 _
 have:its=its':=by simpa using congrArg Array.toList d1
 subst this
 exact r.inj r'
theorem Inv.o8 (I:Inv X pins σ H s) (h:ju X.K H a xs) (h':ju X.K H a ys):xs=ys:=by
 obtain ⟨its,r,⟨o,e,_,n,d⟩,_⟩:=I.tuple h
 obtain ⟨its',r',⟨o',e',_,n',d'⟩,_⟩:=I.tuple h'
 rw [e] at e';cases e'
 rw [d] at d'
 injection d' with d1 _
 have:its=its':=by simpa using congrArg Array.toList d1
 subst this
 exact r.inj r'
end
abbrev Cx.sj (X:Cx) (E:Value→Shared→Prop):Cx:={ X with xe:=E }
abbrev Cx.Fv (X:Cx):Cx:=X.sj fun _ _=>False
theorem Cx.Ok.sj {X:Cx} (ok:X.Ok) (E:Value→Shared→Prop):(X.sj E).Ok:=
 ⟨ok.mod,ok.kind,ok.glob,ok.blt,ok.above,ok.inj,ok.has,ok.Em,ok.hd,ok.frames,ok.Ft,ok.Fu,ok.bs,ok.BF,ok.AE,ok.AF,ok.qf,ok.Dj⟩
theorem Cx.Ok.lH {X:Cx} {E:Value→Shared→Prop} (ok:(X.sj E).Ok):X.Ok:=
 ⟨ok.mod,ok.kind,ok.glob,ok.blt,ok.above,ok.inj,ok.has,ok.Em,ok.hd,ok.frames,ok.Ft,ok.Fu,ok.bs,ok.BF,ok.AE,ok.AF,ok.qf,ok.Dj⟩
section
variable {X:Cx} {pins:List (Addr × Obj)} {σ:St} {H:Hp} {s:Shared} {E:Value→Shared→Prop}
theorem Inv.sj (I:Inv X pins σ H s) (E:Value→Shared→Prop):Inv (X.sj E) pins σ H s:=⟨I.ok.sj E,I.os,I.bare,I.base,I.loc,I.cell,I.free,I.kg,I.pin,I.dZ,I.len⟩
theorem Inv.lH (I:Inv (X.sj E) pins σ H s):Inv X pins σ H s:=⟨I.ok.lH,I.os,I.bare,I.base,I.loc,I.cell,I.free,I.kg,I.pin,I.dZ,I.len⟩
theorem SP.lH {D:Ends} {f:Flow} {s':Shared} (h:SP (X.sj E) pins D f s'):SP X pins D f s':=by
 cases f with
 | next=>obtain ⟨σ',H',I,q⟩:=h;exact ⟨σ',H',I.lH,q⟩
 | brk=>obtain ⟨σ',H',I,q⟩:=h;exact ⟨σ',H',I.lH,q⟩
 | cont=>obtain ⟨σ',H',I,q⟩:=h;exact ⟨σ',H',I.lH,q⟩
 | ret u=>obtain ⟨v,σ',H',I,r,q⟩:=h;exact ⟨v,σ',H',I.lH,r,q⟩
theorem zi.Fv {st:List Stmt} {t:TS} (h:zi X.Fv st t):zi X st t:=fun pins s σ H D I hw=>
 wpAny_mono (h pins s σ H D (I.sj _) hw) (fun _ _ q=>q.lH) fun _ _ z=>False.elim z
end
section
variable {X:Cx} {st:Stmt} {rest:List Stmt} {t u:TS} {e:Expr} {te:TE} {pos:Pos}
def Es:TS:=fun D σ H=>D.nx σ H
def FK (t u:TS):TS:=fun D σ H=>t { D with nx:=u D } σ H
theorem aP:zi X [] Es:=fun _ _ σ H _ I h=>wpAny_execs_nil ⟨σ,H,I,h⟩
theorem ab (h1:PS X st t) (h2:zi X rest u):zi X (st :: rest) (FK t u):=by
 intro pins s σ H D I h
 refine wpAny_execs_cons (d4 (h1 pins s σ H { D with nx:=u D } I h) fun f s1 q=>?_)
 cases f with
 | next=>
  obtain ⟨σ',H',I',q⟩:=q
  exact h2 pins s1 σ' H' D I' q
 | ret v=>exact q
 | brk=>exact q
 | cont=>exact q
theorem ak (h1:PS X st t):zi X [st] t:=by
 intro pins s σ H D I h
 refine wpAny_execs_cons (d4 (h1 pins s σ H D I h) fun f s1 q=>?_)
 cases f with
 | next=>exact wpAny_execs_nil q
 | ret v=>exact q
 | brk=>exact q
 | cont=>exact q
theorem Inv.quiet {pins:List (Addr × Obj)} {σ:St} {H:Hp} {s:Shared} (I:Inv X pins σ H s):interactive X.env=false:=by simp [interactive,I.ok.kind]
def Et (te:TE):TS:=fun D σ H=>te σ H fun _ H1=>D.nx σ H1
theorem az (he:PE X e te) (hs:swapsWith e none pos.line X.env=pure false:=by rfl):PS X (.Expr e pos) (Et te):=by
 intro pins s σ H D I h
 exact wpAny_Expr_any (d4 (he pins s σ H _ I h) fun v s1 ⟨x,H1,I1,r1,q1⟩=>⟨σ,H1,I1,q1⟩) I.quiet hs
def FL (te:TE):TS:=fun D σ H=>te σ H D.rt
theorem aW (he:PE X e te):PS X (.Return (some e) pos) (FL te):=by
 intro pins s σ H D I h
 exact wpAny_Return_some (d4 (he pins s σ H _ I h) fun v s1 ⟨x,H1,I1,r1,q1⟩=>⟨x,σ,H1,I1,r1,q1⟩)
def Eu:TS:=fun D _ H=>D.rt .cD H
theorem d5:PS X (.Return none pos) Eu:=fun _ _ σ H _ I h=>wpAny_Return_none ⟨.cD,σ,H,I,rfl,h⟩
def FN (c:TT) (t u:TS):TS:=fun D σ H=>c σ H fun b H1=>if b=true then t D σ H1 else u D σ H1
theorem aX {c:Expr} {a b:List Stmt} {tc:TT} (hc:PT X c tc) (ha:zi X a t) (hb:zi X b u):PS X (.If c a b pos) (FN tc t u):=by
 intro pins s σ H D I h
 refine wpAny_If (d4 (hc pins s σ H _ I h) fun d s1 ⟨H1,I1,q1⟩=>?_)
 cases d with
 | true=>exact ha pins s1 σ H1 D I1 q1
 | false=>exact hb pins s1 σ H1 D I1 q1
end
abbrev TG:=V→St→Hp→(St→Hp→Prop)→Prop
abbrev Dq:=List V→St→Hp→(St→Hp→Prop)→Prop
def PG (X:Cx) (target:Expr) (t:TG):Prop:=
 ∀(pins:List (Addr × Obj)) (s:Shared) (σ:St) (H:Hp) (v:V) (u:Value) (Q:St→Hp→Prop),Inv X pins σ H s→RelV v u→t v σ H Q→
  wpAny (model X.prog X.w) X.A (assign target X.env u) (fun _ s'=>∃σ' H',Inv X pins σ' H' s'∧Q σ' H') X.xe s
def Fw (X:Cx) (ts:List Expr) (t:Dq):Prop:=
 ∀(pins:List (Addr × Obj)) (s:Shared) (σ:St) (H:Hp) (vs:List V) (us:List Value) (Q:St→Hp→Prop),Inv X pins σ H s→Vals vs us→t vs σ H Q→
  wpAny (model X.prog X.w) X.A (assignInOrder ((assignEach ts X.env).map (·.2)) us) (fun _ s'=>∃σ' H',Inv X pins σ' H' s'∧Q σ' H') X.xe s
abbrev Dr:=V→V→V→Hp→(Hp→Prop)→Prop
def Ew (X:Cx) (t:Dr):Prop:=
 ∀(pins:List (Addr × Obj)) (s:Shared) (σ:St) (H:Hp) (o i v:V) (ov iv u:Value) (Q:Hp→Prop),Inv X pins σ H s→RelV o ov→RelV i iv→RelV v u→t o i v H Q→
  wpAny (model X.prog X.w) X.A (setItem ov iv u) (fun _ s'=>∃H',Inv X pins σ H' s'∧Q H') X.xe s
abbrev Fx:=V→V→Hp→VK→Prop
def Gw (X:Cx) (op:Operator) (t:Fx):Prop:=
 ∀(pins:List (Addr × Obj)) (s:Shared) (σ:St) (H:Hp) (x y:V) (v u:Value) (Q:VK),Inv X pins σ H s→RelV x v→RelV y u→t x y H Q→
  wpAny (model X.prog X.w) X.A (inplaceOp op v u) (EP X pins σ Q) X.xe s
section
variable {X:Cx} {pos:Pos}
def CJ (i:Nat):TG:=fun v σ H Q=>Q (σ.set i (some v)) H
theorem di {i:Nat} {x:Str} (hN:X.N.Nodup) (hi:X.N[i]?=some x) (hx:Loc X.env.scope x) (hf:X.fn x=true∨X.env.scope.names.lookup x=some .local:=by first | exact .inl rfl | exact .inr rfl | assumption):PG X (.Name x pos) (CJ i):=by
 intro pins s σ H v u Q I r h
 exact wpAny_assign_Name (qR I hN hi hx r (fun s' I'=>⟨_,H,I',h⟩) hf)
def FO:Dq:=fun vs σ H Q=>vs=[]∧Q σ H
def Ex (t:TG) (u:Dq):Dq:=fun vs σ H Q=>∃v r,vs=v :: r∧t v σ H fun σ' H'=>u r σ' H' Q
theorem tN:Fw X [] FO:=by
 intro pins s σ H vs us Q I r h
 obtain ⟨e,h⟩:=h
 subst e
 cases r
 exact assignInOrder_nil ⟨σ,H,I,h⟩
theorem kh {e:Expr} {es:List Expr} {t:TG} {u:Dq} (h1:PG X e t) (h2:Fw X es u)
  (hs:(assignEach (e :: es) X.env).map (·.2)=assign e X.env :: (assignEach es X.env).map (·.2):=by rfl):Fw X (e :: es) (Ex t u):=by
 intro pins s σ H vs us Q I r h
 obtain ⟨v,vr,e1,h⟩:=h
 subst e1
 cases r with
 | cons r rr=>
  rw [hs]
  refine assignInOrder_cons (d4 (h1 pins s σ H _ _ _ I r h) fun _ s1 ⟨σ1,H1,I1,q1⟩=>?_)
  exact h2 pins s1 σ1 H1 _ _ Q I1 rr q1
def FP (K:PySem.W.Frag) (n:Nat) (t:Dq):TG:=fun v σ H Q=>∃a xs,v=.ref a∧ju K H a xs∧xs.length=n∧t xs σ H Q
theorem wI {es:List Expr} {k:Nat} {t:Dq} {n:Nat} (hc:X.calm=true) (h:Fw X es t)
  (hn:(assignEach es X.env).length=n:=by rfl) (hst:(assignEach es X.env).findIdx? (·.1)=none:=by rfl):PG X (.Tuple es k pos) (FP X.K n t):=by
 intro pins s σ H v u Q I r hw
 obtain ⟨a,xs,e1,hq,hl,hw⟩:=hw
 subst e1
 cases r
 obtain ⟨its,rv,ht,hz⟩:=I.tuple hq
 refine assign_Tuple_tuple (I.ok.hd hc) ht (by simp [hn,← hl,rv.length]) hst fun h' hx=>?_
 have I1:Inv X pins σ H { s with heap:=h' }:=I.kept (t':=s.toks) fun b o e=>hx b o (Nat.ne_of_lt (Heap.lt_size e)) e
 exact h pins _ σ H xs _ Q I1 (by simpa using rv) hw
def FQ (to ti:TE) (t:Dr):TG:=fun v σ H Q=>to σ H fun o H1=>ti σ H1 fun i H2=>t o i v H2 fun H3=>Q σ H3
theorem wJ {o i:Expr} {to ti:TE} {t:Dr} (ho:PE X o to) (hi:PE X i ti) (hs:Ew X t)
  (ha:∀v,assign (.Subscript o i pos) X.env v=(do
   let ov ← holding [v] (eval o X.env)
   let iv ← holding [v,ov] (eval i X.env)
   standAt pos
   holding [v,ov,iv] (setItem ov iv v)
   release [v,ov,iv] []):=by intro _;rfl):PG X (.Subscript o i pos) (FQ to ti t):=by
 intro pins s σ H v u Q I r h
 rw [ha]
 refine wpAny_bind (wpAny_holding (d4 (ho pins s σ H _ I h) fun ov s1 ⟨x,H1,I1,r1,q1⟩=>?_))
 refine wpAny_bind (wpAny_holding (d4 (hi pins s1 σ H1 _ I1 q1) fun iv s2 ⟨y,H2,I2,r2,q2⟩=>?_))
 refine wpAny_bind (wpAny_standAt (wpAny_bind (wpAny_holding (d4 (hs pins s2 σ H2 x y v ov iv u _ I2 r1 r2 r q2) fun _ s3 ⟨H3,I3,q3⟩=>?_))))
 exact wpAny_release ⟨σ,H3,I3,q3⟩
def Ey (te:TE) (g:TG):TS:=fun D σ H=>te σ H fun x H1=>g x σ H1 D.nx
theorem wK {tg e:Expr} {te:TE} {g:TG} (he:PE X e te) (hg:PG X tg g) (hs:swapsWithSole [tg] e pos.line X.env=pure false:=by rfl) (hw:swappedStores [tg] e X.env=pure none:=by rfl)
  (h1:(assignEach [tg] X.env).map (·.2)=[assign tg X.env]:=by rfl):PS X (.Assign [tg] e pos) (Ey te g):=by
 intro pins s σ H D I h
 refine wpAny_Assign_stores (d4 (he pins s σ H _ I h) fun v s1 ⟨x,H1,I1,r1,q1⟩=>?_) hs hw
 rw [h1]
 exact d4 (hg pins s1 σ H1 x v _ I1 r1 q1) fun _ s2 q=>q
theorem aI {i:Nat} {x:Str} {e:Expr} {te:TE} {pos':Pos} (hN:X.N.Nodup) (hi:X.N[i]?=some x) (hx:Loc X.env.scope x) (he:PE X e te) (hs:swapsWith e (some (.Name x pos')) pos.line X.env=pure false:=by rfl) (hf:X.fn x=true∨X.env.scope.names.lookup x=some .local:=by first | exact .inl rfl | exact .inr rfl | assumption) :
  PS X (.Assign [.Name x pos'] e pos) (Ey te (CJ i)):=by
 intro pins s σ H D I h
 refine wpAny_Assign_Name (d4 (he pins s σ H _ I h) fun v s1 ⟨y,H1,I1,r1,q1⟩=>?_) hs
 exact qR I1 hN hi hx r1 (fun s2 I2=>⟨_,H1,I2,q1⟩) hf
def FR (i:Nat) (te:TE) (ti:Fx):TS:=fun D σ H=>∃x,σ[i]?=some (some x)∧te σ H fun y H1=>ti x y H1 fun z H2=>D.nx (σ.set i (some z)) H2
theorem m_ {i:Nat} {x:Str} {e:Expr} {te:TE} {op:Operator} {ti:Fx} {pos':Pos} (hN:X.N.Nodup) (hi:X.N[i]?=some x) (hx:Loc X.env.scope x) (he:PE X e te) (ho:Gw X op ti) (hf:X.fn x=true∨X.env.scope.names.lookup x=some .local:=by first | exact .inl rfl | exact .inr rfl | assumption) :
  PS X (.AugAssign (.Name x pos') op e pos) (FR i te ti):=by
 intro pins s σ H D I h
 obtain ⟨v,e1,h⟩:=h
 obtain ⟨m,hn,hl⟩:=I.loc
 have vis:Ee X.env.scope x:=by rcases hx with k | k;exact .inl k;exact .inr (.inl k)
 obtain ⟨u,r,l⟩:=hl i x v hi e1 vis
 refine wpAny_AugAssign_Name ?_
 have go:wpAny (model X.prog X.w) X.A (eval e X.env) (fun w s₂=>wpAny (model X.prog X.w) X.A (inplaceOp op u w) (fun r s₃=>wpAny (model X.prog X.w) X.A (storeName X.env x r) (fun _=>SP X pins D .next) X.xe s₃) X.xe s₂) X.xe s:=by
  refine d4 (he pins s σ H _ I h) fun w s1 ⟨y,H1,I1,r1,q1⟩=>?_
  refine d4 (ho pins s1 σ H1 v y u w _ I1 r r1 q1) fun z s2 ⟨zv,H2,I2,r2,q2⟩=>?_
  exact qR I2 hN hi hx r2 (fun s3 I3=>⟨_,H2,I3,q2⟩) hf
 rcases l with ⟨hk,hm⟩ | ⟨hk,c,hc,hcell⟩
 ·exact wpAny_loadName_local I.ok.kind hk hn hm go
 ·rcases hk with hk | hk
  ·exact wpAny_loadName_cell I.ok.kind hk hc hcell go
  ·rcases hx with k | k
   ·have:X.env.scope.names.lookup x=some .free:=hk
    rw [k] at this;cases this
   ·have:X.env.scope.names.lookup x=some .free:=hk
    rw [k] at this;cases this
def GI (f:Int→Int→Int):Fx:=fun x y H Q=>∃i j,x=.int i∧y=.int j∧Q (.int (f i j)) H
theorem nh:Gw X .Add (GI fun i j=>i + j):=by
 intro pins s σ H x y v u Q I r1 r2 h
 obtain ⟨i,j,e1,e2,q⟩:=h
 subst e1;subst e2
 obtain ⟨t,rfl⟩:=r1
 obtain ⟨t',rfl⟩:=r2
 exact iadd_int ⟨.int _,H,I.tok _,⟨_,rfl⟩,q⟩
end
section
variable {X:Cx} {pos:Pos}
def Ds (c:TT) (tb:TS):TS:=fun D σ H=>∃W:Nat→St→Hp→Prop,(∃m,W m σ H)∧∀m σ H,W m σ H→
 c σ H fun b H1=>if b=true then ∃N:St→Hp→Prop,(∀σ' H',N σ' H'→∃m',m' < m∧W m' σ' H')∧tb { D with nx:=N,ct:=N,bk:=D.nx } σ H1 else D.nx σ H1
theorem u9 {c:Expr} {body:List Stmt} {tc:TT} {tb:TS} (hp:PassesOwn (model X.prog X.w) X.A X.env X.xe) (hc:PT X c tc) (hb:zi X body tb):PS X (.While c body [] pos) (Ds tc tb):=by
 intro pins s σ H D I h
 obtain ⟨W,⟨m0,w0⟩,turn⟩:=h
 refine wpAny_While (codeAny_whileLoop (fun n s'=>∃σ' H',Inv X pins σ' H' s'∧W n σ' H') ?_ m0 ⟨σ,H,I,w0⟩)
 rintro n s1 ⟨σ1,H1,I1,w1⟩
 refine wpAny_passesOwn hp (d4 (hc pins s1 σ1 H1 _ I1 (turn n σ1 H1 w1)) fun b s2 ⟨H2,I2,q2⟩=>?_)
 cases b with
 | true=>
  obtain ⟨N,hN,q2⟩:=q2
  rw [if_pos rfl]
  refine wpAny_passesOwn hp (d4 (hb pins s2 σ1 H2 _ I2 q2) fun f s3 q3=>?_)
  cases f with
  | next=>
   obtain ⟨σ3,H3,I3,n3⟩:=q3
   obtain ⟨m',hm,w3⟩:=hN σ3 H3 n3
   exact ⟨m',hm,σ3,H3,I3,w3⟩
  | cont=>
   obtain ⟨σ3,H3,I3,n3⟩:=q3
   obtain ⟨m',hm,w3⟩:=hN σ3 H3 n3
   exact ⟨m',hm,σ3,H3,I3,w3⟩
  | brk=>exact q3
  | ret v=>exact q3
 | false=>
  rw [if_neg Bool.false_ne_true]
  exact wpAny_execs_nil ⟨σ1,H2,I2,q2⟩
end
structure It where
 go:Nat→Hp→Prop
 zj:Nat→Hp→V→Hp→Prop
 stop:Nat→Hp→Prop
def qg (X:Cx) (pins:List (Addr × Obj)) (H:Hp) (b:Addr):Prop:=
 H b=none∧b≠X.env.locals∧b∉X.fs∧(b∈X.ex∨X.sW.heap.objs.size≤b)∧(∀x c,X.env.cells.lookup x=some c→c≠b)∧∀p∈X.pn++pins,p.1≠b
theorem Inv.wL {X:Cx} {pins:List (Addr × Obj)} {σ:St} {H H':Hp} {s:Shared} {b:Addr} (I:Inv X pins σ H s) (hb:s.heap.objs.size≤b) (hn:H' b=none):qg X pins H' b:=by
 refine ⟨hn,Nat.ne_of_gt (Nat.lt_of_lt_of_le I.lt hb),I.FH hb,.inr (Nat.le_trans I.sz hb),fun x c e z=>?_,fun p hp z=>?_⟩
 ·obtain ⟨v,q⟩:=I.cell x c e
  exact absurd (Nat.lt_of_lt_of_le q.lt (by rw [z];exact hb)) (Nat.lt_irrefl _)
 ·exact absurd (Nat.lt_of_lt_of_le (Heap.lt_size (I.pin p hp).1) (by rw [z];exact hb)) (Nat.lt_irrefl _)
structure Turn (P:Program) (w:World) (K:PySem.W.Frag) (tg:Expr) (J:It) (fp:List Addr) (it:Addr) (tn:Nat→Heap→Prop):Prop where
 mem:it∈fp
 obj:∀i h,tn i h→∀b∈fp,∃o,h.get? b=some o∧∀v,o.data≠.cell v
 keep:∀i h h',tn i h→(∀b∈fp,∀o,h.get? b=some o→h'.get? b=some o)→tn i h'
 item:∀(X:Cx),X.prog=P→X.w=w→X.K=K→X.calm=true→∀(i:Nat) (pins:List (Addr × Obj)) (s:Shared) (σ:St) (H:Hp) (E:Value→Shared→Prop),Inv X pins σ H s→(∀b∈fp,qg X pins H b)→tn i s.heap→J.go i H→
  wpAny (model P w) X.A (pyNext (.ref it)) (fun r s1=>∃u,r=some u∧
   wpAny (model P w) X.A (letOwnedTupleGo tg (.ref it) u) (fun _ s2=>∃x H',Inv X pins σ H' s2∧RelV x u∧J.zj i H x H'∧tn (i + 1) s2.heap∧∀b∈fp,H' b=none) E s1) E s
 done:∀(X:Cx),X.prog=P→X.w=w→X.K=K→X.calm=true→∀(i:Nat) (pins:List (Addr × Obj)) (s:Shared) (σ:St) (H:Hp) (E:Value→Shared→Prop),Inv X pins σ H s→(∀b∈fp,qg X pins H b)→tn i s.heap→J.stop i H→
  wpAny (model P w) X.A (pyNext (.ref it)) (fun r s1=>r=none∧Inv X pins σ H s1) E s
 self:∀(A:Around) (i:Nat) (s:Shared) (Q:Value→Shared→Prop) (E:Value→Shared→Prop),tn i s.heap→Q (.ref it) s→wpAny (model P w) A (pyIter (.ref it)) Q E s
abbrev TI:=St→Hp→(It→Hp→Prop)→Prop
def FT (X:Cx) (pins:List (Addr × Obj)) (σ:St) (tg:Expr) (R:It→Hp→Prop) (itv:Value) (s2:Shared):Prop:=
 ∃(it:Addr) (fp:List Addr) (tn:Nat→Heap→Prop) (J:It) (H':Hp),itv=.ref it∧Inv X pins σ H' s2∧Turn X.prog X.w X.K tg J fp it tn∧tn 0 s2.heap∧(∀b∈fp,qg X pins H' b)∧R J H'
def PI (X:Cx) (tg iter:Expr) (wi:TI):Prop:=
 ∀(pins:List (Addr × Obj)) (s:Shared) (σ:St) (H:Hp) (R:It→Hp→Prop),Inv X pins σ H s→wi σ H R→
  wpAny (model X.prog X.w) X.A (eval iter X.env) (fun v s1=>wpAny (model X.prog X.w) X.A (pyIter v) (FT X pins σ tg R) X.xe s1) X.xe s
theorem u_ {M:Model} {A:Around} {E:Value→Shared→Prop} {s:Shared} {tg:Expr} {it:Addr} {u:Value} {o:Obj} {n:String} {vs:Array Value} {Q:Unit→Shared→Prop} (ho:s.heap.get? it=some o) (hc:o.cls=.type n) (hd:o.data=.fields vs)
  (hn:["enumerate","zip","dict_itemiterator","dict_reverseitemiterator","odict_iterator","itertools.zip_longest","itertools.pairwise"].contains n=false) (hQ:Q () s):wpAny M A (letOwnedTupleGo tg (.ref it) u) Q E s:=by
 unfold letOwnedTupleGo
 cases tg <;> first
  | exact wpAny_pure hQ
  | (cases u <;> first
    | exact wpAny_pure hQ
    | (refine wpAny_bind (wpAny_load ho ?_);rw [hc,hd];show wpAny M A (if (["enumerate","zip","dict_itemiterator","dict_reverseitemiterator","odict_iterator","itertools.zip_longest","itertools.pairwise"].contains n && vs[0]? == some (rawInt _))=true then _ else _) Q E s;rw [if_neg (by intro h;rw [hn,Bool.false_and] at h;cases h)];exact wpAny_pure hQ))
def CK (K:PySem.W.Frag) (a:Addr):It:=
 ⟨fun i H=>∃xs x,bV K H a xs∧xs[i]?=some x,fun i H x H'=>H'=H∧∀xs,bV K H a xs→xs[i]?=some x,fun i H=>∃xs,bV K H a xs∧xs.length≤i⟩
def Ez (K:PySem.W.Frag) (a:Addr):It:=
 ⟨fun i H=>∃xs x,ju K H a xs∧xs[i]?=some x,fun i H x H'=>H'=H∧∀xs,ju K H a xs→xs[i]?=some x,fun i H=>∃xs,ju K H a xs∧xs.length≤i⟩
def BG (lo:Int) (n:Nat):It:=⟨fun i _=>i < n,fun i H x H'=>H'=H∧x=.int (lo + i),fun i _=>n≤i⟩
theorem zk {P:Program} {w:World} {K:PySem.W.Frag} {tg:Expr} (a it:Addr):Turn P w K tg (CK K a) [it] it (fun i h=>h.IsListIter it a i) where
 mem:=by simp
 obj:=fun i h st b hb=>by
  have e:b=it:=by simpa using hb
  subst e
  obtain ⟨o,e,c,d⟩:=st
  exact ⟨o,e,fun v z=>by rw [d] at z;cases z⟩
 keep:=fun i h h' st k=>st.at fun o e=>k it (by simp) o e
 item:=by
  intro X hP hw hK hc i pins s σ H E I hf st hg
  subst hP hw hK
  obtain ⟨xs,x,hq,hx⟩:=hg
  obtain ⟨its,rv,p,hz⟩:=I.list hq
  obtain ⟨u,hu,ru⟩:=rv.get hx
  obtain ⟨f0,f1,f2,f3,f4,f5⟩:=hf it (by simp)
  refine wpAny_pyNext_list_item st p.isList (x:=u) (by simpa using hu) fun h' st' sb=>?_
  have I1:Inv X pins σ H { s with heap:=h' }:=I.turned (t':=s.toks) (fun b o hb e=>(sb.2 b hb).trans e) f0 f1 f3 f4 f5
  obtain ⟨o,e,c,d⟩:=id st'
  exact ⟨u,rfl,u_ (s:={ s with heap:=h' }) e c d (by decide) ⟨x,H,I1,ru,⟨rfl,fun ys hy=>by rw [I.u7 hy hq];exact hx⟩,st',fun b hb=>(hf b hb).1⟩⟩
 done:=by
  intro X hP hw hK hc i pins s σ H E I hf st hg
  subst hP hw hK
  obtain ⟨xs,hq,hx⟩:=hg
  obtain ⟨its,rv,p,hz⟩:=I.list hq
  obtain ⟨f0,f1,f2,f3,f4,f5⟩:=hf it (by simp)
  have hl:=rv.length
  exact wpAny_pyNext_list_end (I.ok.hd hc) st p.isList (by simp;omega) fun h' eb=>⟨rfl,I.turned (t':=s.toks) (fun b o hb e=>eb b o hb e) f0 f1 f3 f4 f5⟩
 self:=fun _ _ _ _ _ st h=>wpAny_pyIter_listiter st h
theorem wN {P:Program} {w:World} {K:PySem.W.Frag} {tg:Expr} (a it:Addr):Turn P w K tg (Ez K a) [it] it (fun i h=>h.IsTupleIter it a i) where
 mem:=by simp
 obj:=fun i h st b hb=>by
  have e:b=it:=by simpa using hb
  subst e
  obtain ⟨o,e,c,d⟩:=st
  exact ⟨o,e,fun v z=>by rw [d] at z;cases z⟩
 keep:=fun i h h' st k=>st.at fun o e=>k it (by simp) o e
 item:=by
  intro X hP hw hK hc i pins s σ H E I hf st hg
  subst hP hw hK
  obtain ⟨xs,x,hq,hx⟩:=hg
  obtain ⟨its,rv,p,hz⟩:=I.tuple hq
  obtain ⟨u,hu,ru⟩:=rv.get hx
  obtain ⟨f0,f1,f2,f3,f4,f5⟩:=hf it (by simp)
  refine wpAny_pyNext_tuple_item st (show s.heap.IsTuple a its.toArray from p) (x:=u) (by simpa using hu) fun h' st' sb=>?_
  have I1:Inv X pins σ H { s with heap:=h' }:=I.turned (t':=s.toks) (fun b o hb e=>(sb.2 b hb).trans e) f0 f1 f3 f4 f5
  obtain ⟨o,e,c,d⟩:=id st'
  exact ⟨u,rfl,u_ (s:={ s with heap:=h' }) e c d (by decide) ⟨x,H,I1,ru,⟨rfl,fun ys hy=>by rw [I.o8 hy hq];exact hx⟩,st',fun b hb=>(hf b hb).1⟩⟩
 done:=by
  intro X hP hw hK hc i pins s σ H E I hf st hg
  subst hP hw hK
  obtain ⟨xs,hq,hx⟩:=hg
  obtain ⟨its,rv,p,hz⟩:=I.tuple hq
  obtain ⟨f0,f1,f2,f3,f4,f5⟩:=hf it (by simp)
  have hl:=rv.length
  exact wpAny_pyNext_tuple_end (I.ok.hd hc) st (show s.heap.IsTuple a its.toArray from p) (by simp;omega) fun h' eb=>⟨rfl,I.turned (t':=s.toks) (fun b o hb e=>eb b o hb e) f0 f1 f3 f4 f5⟩
 self:=fun _ _ _ _ _ st h=>wpAny_pyIter_tupleiter st h
theorem wO {P:Program} {w:World} {K:PySem.W.Frag} {tg:Expr} (it:Addr) (lo:Int) (n:Nat):Turn P w K tg (BG lo n) [it] it (fun i h=>IsRangeIter h it (lo + (i:Nat) * 1) ((n:Int) - (i:Nat)) 1) where
 mem:=by simp
 obj:=fun i h st b hb=>by
  have e:b=it:=by simpa using hb
  subst e
  exact ⟨_,st,fun v z=>by
   have z':Data.fields _=Data.cell v:=z
   cases z'⟩
 keep:=fun i h h' st k=>k it (by simp) _ st
 item:=by
  intro X hP hw hK hc i pins s σ H E I hf st hg
  subst hP hw hK
  obtain ⟨f0,f1,f2,f3,f4,f5⟩:=hf it (by simp)
  have W:=Walks.range (prog:=X.prog) (w:=X.w) (I.ok.hd hc) it lo 1 n
  refine W.item i s _ _ hg st fun v h' tk hv st' kk=>?_
  obtain ⟨t,rfl⟩:=hv
  have I1:Inv X pins σ H { s with heap:=h',toks:=tk }:=I.turned (fun b o hb e=>kk b o (by simpa using hb) e) f0 f1 f3 f4 f5
  refine ⟨_,rfl,u_ (s:={ s with heap:=h',toks:=tk }) (n:="range_iterator") st' rfl rfl (by decide) ⟨.int (lo + i),H,I1,⟨t,?_⟩,⟨rfl,rfl⟩,st',fun b hb=>(hf b hb).1⟩⟩
  rw [Int.mul_one]
 done:=by
  intro X hP hw hK hc i pins s σ H E I hf st hg
  subst hP hw hK
  obtain ⟨f0,f1,f2,f3,f4,f5⟩:=hf it (by simp)
  exact wpAny_pyNext_range_end (I.ok.hd hc) st (by have:n≤i:=hg;omega) fun h' eb=>⟨rfl,I.turned (t':=s.toks) (fun b o hb e=>eb b o hb e) f0 f1 f3 f4 f5⟩
 self:=fun _ _ _ _ _ st h=>wpAny_pyIter_rangeiter st h
end L2
namespace L2
open PySem PySem.Spec PyProof.Rows
section
variable {X:Cx} {tg:Expr}
def EA (K:PySem.W.Frag) (tl:TE):TI:=fun σ H R=>tl σ H fun x H1=>∃a,x=.ref a∧(∃xs,bV K H1 a xs)∧R (CK K a) H1
def FU (K:PySem.W.Frag) (tl:TE):TI:=fun σ H R=>tl σ H fun x H1=>∃a,x=.ref a∧(∃xs,ju K H1 a xs)∧R (Ez K a) H1
theorem qA {l:Expr} {tl:TE} (hl:PE X l tl):PI X tg l (EA X.K tl):=by
 intro pins s σ H R I h
 refine d4 (hl pins s σ H _ I h) fun v s1 ⟨x,H1,I1,r1,q1⟩=>?_
 obtain ⟨a,e,⟨xs,hq⟩,q⟩:=q1
 subst e
 cases r1
 obtain ⟨its,rv,p,hz⟩:=I1.list hq
 refine wpAny_pyIter_list p.isList ?_
 refine ⟨s1.heap.objs.size,[s1.heap.objs.size],_,_,H1,rfl,I1.kept (t':=s1.toks) fun b o e=>Heap.get?_push_of_some _ e,zk a _,⟨_,Heap.get?_push_size _ rfl,rfl,rfl⟩,fun b hb=>?_,q⟩
 have e:b=s1.heap.objs.size:=by simpa using hb
 subst e
 exact I1.wL (Nat.le_refl _) (I1.dZ.fresh (Nat.le_refl _))
theorem AH {l:Expr} {tl:TE} (hl:PE X l tl):PI X tg l (FU X.K tl):=by
 intro pins s σ H R I h
 refine d4 (hl pins s σ H _ I h) fun v s1 ⟨x,H1,I1,r1,q1⟩=>?_
 obtain ⟨a,e,⟨xs,hq⟩,q⟩:=q1
 subst e
 cases r1
 obtain ⟨its,rv,p,hz⟩:=I1.tuple hq
 refine wpAny_pyIter_tuple (show s1.heap.IsTuple a its.toArray from p) ?_
 refine ⟨s1.heap.objs.size,[s1.heap.objs.size],_,_,H1,rfl,I1.kept (t':=s1.toks) fun b o e=>Heap.get?_push_of_some _ e,wN a _,⟨_,Heap.get?_push_size _ rfl,rfl,rfl⟩,fun b hb=>?_,q⟩
 have e:b=s1.heap.objs.size:=by simpa using hb
 subst e
 exact I1.wL (Nat.le_refl _) (I1.dZ.fresh (Nat.le_refl _))
theorem AI {pins:List (Addr × Obj)} {σ:St} {H:Hp} {s:Shared} {R:It→Hp→Prop} {E:Value→Shared→Prop} {lo hi:Int} {t u v:Tok} {tk:Nat} (I:Inv X pins σ H s) (h1:-(2 ^ 62)≤lo) (h2:lo < 2 ^ 62) (h3:-(2 ^ 62)≤hi) (h4:hi < 2 ^ 62)
  (q:R (BG lo (hi - lo).toNat) H):wpAny (model X.prog X.w) X.A (pyIter (.ref s.heap.objs.size)) (FT X pins σ tg R) E { s with heap:=s.heap.push { cls:=.type "range",data:=.fields #[.int lo t,.int hi u,.int 1 v] },toks:=tk }:=by
 refine wpAny_pyIter_range (IsRange.new ..) (small_one h1 h2 h3 h4) ?_
 have I1:Inv X pins σ H { s with heap:=s.heap.push { cls:=.type "range",data:=.fields #[.int lo t,.int hi u,.int 1 v] },toks:=tk }:=I.kept fun b o e=>Heap.get?_push_of_some _ e
 refine ⟨(s.heap.push { cls:=.type "range",data:=.fields #[.int lo t,.int hi u,.int 1 v] }).objs.size,[(s.heap.push { cls:=.type "range",data:=.fields #[.int lo t,.int hi u,.int 1 v] }).objs.size],_,_,H,rfl,
  I1.kept (t':=tk) fun b o e=>Heap.get?_push_of_some _ e,wO _ lo (hi - lo).toNat,?_,fun b hb=>?_,q⟩
 ·have e1:lo + ((0:Nat):Int) * 1=lo:=by simp
  have e2:(((hi - lo).toNat:Nat):Int) - ((0:Nat):Int)=Builtin.Range.rangeSize lo hi 1:=by rw [rangeSize_one];split <;> omega
  show IsRangeIter _ _ (lo + ((0:Nat):Int) * 1) ((((hi - lo).toNat:Nat):Int) - ((0:Nat):Int)) 1
  rw [e1,e2]
  exact Heap.get?_push_size _ rfl
 ·have e:b=(s.heap.push { cls:=.type "range",data:=.fields #[.int lo t,.int hi u,.int 1 v] }).objs.size:=by simpa using hb
  subst e
  exact I1.wL (Nat.le_refl _) (I1.dZ.fresh (Nat.le_refl _))
def EB (ta:TA):TI:=fun σ H R=>ta σ H fun vs H1=>∃j:Int,vs=[.int j]∧-(2 ^ 62)≤j∧j < 2 ^ 62∧R (BG 0 j.toNat) H1
theorem o9 {a:Expr} {ta:TA} {p pos:Pos} (hg:Gl X "range") (hm:X.mg "range"=none) (ha:PA X [a] ta) (hs:starEach [a] X.env=[(false,eval a X.env)]:=by rfl):PI X tg (.Call (.Name "range" p) [a] [] pos) (EB ta):=by
 intro pins s σ H R I h
 refine Call_ (kC I hg hm boot_range (PyProof.Rows.callWith_type1 (d4 (ha pos pins s σ H _ I h) fun us s1 ⟨vs,H1,I1,r1,q1⟩=>?_) hs rfl))
 obtain ⟨j,e,q1,q2,q⟩:=q1
 subst e
 cases r1 with
 | cons r rr=>
  cases rr
  obtain ⟨t,rfl⟩:=r
  exact call_range_1 (AI I1 (by omega) (by omega) q1 q2 (by simpa using q))
def FV (wi:TI) (g:TG) (tb:TS):TS:=fun D σ H=>wi σ H fun J H1=>∃W:Nat→Nat→St→Hp→Prop,(∃m,W 0 m σ H1)∧∀i m σ H,W i m σ H→
 (J.stop i H∧D.nx σ H)∨(J.go i H∧∃N:St→Hp→Prop,(∀σ' H',N σ' H'→∃m',m' < m∧W (i + 1) m' σ' H')∧∀x H',J.zj i H x H'→g x σ H' fun σ2 H2=>tb { D with nx:=N,ct:=N,bk:=D.nx } σ2 H2)
def qT (fp:List Addr) (h:Heap):List (Addr × Obj):=fp.filterMap fun b=>(h.get? b).map fun o=>(b,o)
theorem ni {fp:List Addr} {h:Heap} {b:Addr} {o:Obj} (hb:b∈fp) (e:h.get? b=some o):(b,o)∈qT fp h:=List.mem_filterMap.mpr ⟨b,hb,by rw [e];rfl⟩
theorem zo {fp:List Addr} {h:Heap} {p:Addr × Obj} (hp:p∈qT fp h):p.1∈fp∧h.get? p.1=some p.2:=by
 obtain ⟨b,hb,e⟩:=List.mem_filterMap.mp hp
 cases q:h.get? b with
 | none=>rw [q] at e;cases e
 | some o=>
  rw [q] at e
  have e':(b,o)=p:=Option.some.inj e
  subst e'
  exact ⟨hb,q⟩
theorem Inv.pinned {pins:List (Addr × Obj)} {σ:St} {H:Hp} {s:Shared} {fp:List Addr} (I:Inv X pins σ H s) (hf:∀b∈fp,qg X pins H b) (ho:∀b∈fp,∃o,s.heap.get? b=some o∧∀v,o.data≠.cell v):Inv X (pins++qT fp s.heap) σ H s:=
 I.ya fun p hp=>(List.mem_append.mp hp).elim (fun z=>I.pin p (List.mem_append_right _ z)) fun z=>by
  obtain ⟨hb,e⟩:=zo z
  obtain ⟨f0,f1,f2,_⟩:=hf p.1 hb
  obtain ⟨o,e',d⟩:=ho p.1 hb
  rw [e] at e';cases e'
  exact ⟨e,f0,f1,f2,d⟩
theorem Inv.nT {pins pl:List (Addr × Obj)} {σ:St} {H:Hp} {s:Shared} (I:Inv X (pins++pl) σ H s):Inv X pins σ H s:=I.ya fun p hp=>I.pin p (List.mem_append_right _ (List.mem_append_left _ hp))
theorem kE {iter:Expr} {body:List Stmt} {wi:TI} {g:TG} {tb:TS} {pos:Pos} (hp:PassesOwn (model X.prog X.w) X.A X.env X.xe) (hc:X.calm=true) (hi:PI X tg iter wi) (hg:PG X tg g) (hb:zi X body tb)
  (hs:∀x,foldedSetIterable iter X.env x=pure x:=by intro _;rfl):PS X (.For tg iter body [] pos) (FV wi g tb):=by
 intro pins s σ H D I h
 refine wpAny_For (d4 (hi pins s σ H _ I h) fun v s1 h1=>d4 h1 fun itv s2 h2=>?_) hs
 obtain ⟨it,fp,tn,J,H2,e,I2,T,st2,f2,W,⟨m0,w0⟩,turn⟩:=h2
 subst e
 have stat:∀{H':Hp},(∀b∈fp,H' b=none)→∀b∈fp,qg X pins H' b:=fun hn b hb=>⟨hn b hb,(f2 b hb).2⟩
 refine codeAny_forLoop_any (fun n s'=>∃i σ' H',Inv X pins σ' H' s'∧tn i s'.heap∧(∀b∈fp,H' b=none)∧W i n σ' H') ?_ m0 ⟨0,σ,H2,I2,st2,fun b hb=>(f2 b hb).1,w0⟩
 rintro n s3 ⟨i,σ3,H3,I3,st3,fr3,w3⟩
 rcases turn i n σ3 H3 w3 with ⟨stop,qn⟩ | ⟨go,N,hN,step⟩
 ·refine wpAny_passesOwn hp (d4 (T.done X rfl rfl rfl hc i pins s3 σ3 H3 X.xe I3 (stat fr3) st3 stop) fun r s4 ⟨hr,I4⟩=>?_)
  subst hr
  exact wpAny_execs_nil ⟨σ3,H3,I4,qn⟩
 ·refine wpAny_passesOwn hp (d4 (T.item X rfl rfl rfl hc i pins s3 σ3 H3 X.xe I3 (stat fr3) st3 go) fun r s4 ⟨u,hr,h4⟩=>?_)
  subst hr
  refine wpAny_passesOwn hp (d4 h4 fun _ s5 ⟨x,H5,I5,r5,y5,st5,fr5⟩=>?_)
  have I5':=I5.pinned (stat fr5) (T.obj _ _ st5)
  refine wpAny_passesOwn hp (d4 (hg _ s5 σ3 H5 x u _ I5' r5 (step x H5 y5)) fun _ s6 ⟨σ6,H6,I6,q6⟩=>?_)
  refine wpAny_passesOwn hp (d4 (hb _ s6 σ6 H6 _ I6 q6) fun f s7 q7=>?_)
  have again:∀{σ7:St} {H7:Hp},Inv X (pins++qT fp s5.heap) σ7 H7 s7→N σ7 H7→∃m,m < n∧∃i σ' H',Inv X pins σ' H' s7∧tn i s7.heap∧(∀b∈fp,H' b=none)∧W i m σ' H':=fun {σ7 H7} I7 n7=>by
   obtain ⟨m',hm,w7⟩:=hN σ7 H7 n7
   refine ⟨m',hm,i + 1,σ7,H7,I7.nT,T.keep _ _ _ st5 fun b hb o e=>(I7.pin (b,o) (List.mem_append_right _ (List.mem_append_right _ (ni hb e)))).1,fun b hb=>?_,w7⟩
   obtain ⟨o,e,d⟩:=T.obj _ _ st5 b hb
   exact (I7.pin (b,o) (List.mem_append_right _ (List.mem_append_right _ (ni hb e)))).2.1
  cases f with
  | next=>obtain ⟨σ7,H7,I7,n7⟩:=q7;exact again I7 n7
  | cont=>obtain ⟨σ7,H7,I7,n7⟩:=q7;exact again I7 n7
  | brk=>obtain ⟨σ7,H7,I7,q7⟩:=q7;exact ⟨σ7,H7,I7.nT,q7⟩
  | ret v=>obtain ⟨x7,σ7,H7,I7,r7,q7⟩:=q7;exact ⟨x7,σ7,H7,I7.nT,r7,q7⟩
end
theorem va {K:PySem.W.Frag} {a:Addr} {xs:List V} {g:TG} {tb:TS} {D:Ends} {σ:St} {H:Hp} (Pv:Nat→St→Hp→Prop) (h0:Pv 0 σ H) (hl:∀i σ H,i≤xs.length→Pv i σ H→bV K H a xs)
  (hs:∀i x σ H,xs[i]?=some x→Pv i σ H→g x σ H fun σ2 H2=>tb { D with nx:=Pv (i + 1),ct:=Pv (i + 1),bk:=D.nx } σ2 H2) (hd:∀σ H,Pv xs.length σ H→D.nx σ H) :
  ∃W:Nat→Nat→St→Hp→Prop,(∃m,W 0 m σ H)∧∀i m σ H,W i m σ H→
   ((CK K a).stop i H∧D.nx σ H)∨((CK K a).go i H∧∃N:St→Hp→Prop,(∀σ' H',N σ' H'→∃m',m' < m∧W (i + 1) m' σ' H')∧∀x H',(CK K a).zj i H x H'→g x σ H' fun σ2 H2=>tb { D with nx:=N,ct:=N,bk:=D.nx } σ2 H2):=by
 refine ⟨fun i m σ H=>m=xs.length - i∧i≤xs.length∧Pv i σ H,⟨xs.length,by simp,Nat.zero_le _,h0⟩,?_⟩
 rintro i m σ H ⟨rfl,hi,p⟩
 have q:=hl i σ H hi p
 by_cases hlt:i < xs.length
 ·refine .inr ⟨⟨xs,xs[i],q,by simp [hlt]⟩,Pv (i + 1),fun σ' H' p'=>⟨xs.length - (i + 1),by omega,rfl,hlt,p'⟩,fun x H' y=>?_⟩
  obtain ⟨e,y⟩:=y
  subst e
  exact hs i x σ _ (y xs q) p
 ·have e:i=xs.length:=by omega
  subst e
  exact .inl ⟨⟨xs,q,Nat.le_refl _⟩,hd σ H p⟩
theorem yd {K:PySem.W.Frag} {a:Addr} {xs:List V} {g:TG} {tb:TS} {D:Ends} {σ:St} {H:Hp} (Pv:Nat→St→Hp→Prop) (h0:Pv 0 σ H) (hl:∀i σ H,i≤xs.length→Pv i σ H→ju K H a xs)
  (hs:∀i x σ H,xs[i]?=some x→Pv i σ H→g x σ H fun σ2 H2=>tb { D with nx:=Pv (i + 1),ct:=Pv (i + 1),bk:=D.nx } σ2 H2) (hd:∀σ H,Pv xs.length σ H→D.nx σ H) :
  ∃W:Nat→Nat→St→Hp→Prop,(∃m,W 0 m σ H)∧∀i m σ H,W i m σ H→
   ((Ez K a).stop i H∧D.nx σ H)∨((Ez K a).go i H∧∃N:St→Hp→Prop,(∀σ' H',N σ' H'→∃m',m' < m∧W (i + 1) m' σ' H')∧∀x H',(Ez K a).zj i H x H'→g x σ H' fun σ2 H2=>tb { D with nx:=N,ct:=N,bk:=D.nx } σ2 H2):=by
 refine ⟨fun i m σ H=>m=xs.length - i∧i≤xs.length∧Pv i σ H,⟨xs.length,by simp,Nat.zero_le _,h0⟩,?_⟩
 rintro i m σ H ⟨rfl,hi,p⟩
 have q:=hl i σ H hi p
 by_cases hlt:i < xs.length
 ·refine .inr ⟨⟨xs,xs[i],q,by simp [hlt]⟩,Pv (i + 1),fun σ' H' p'=>⟨xs.length - (i + 1),by omega,rfl,hlt,p'⟩,fun x H' y=>?_⟩
  obtain ⟨e,y⟩:=y
  subst e
  exact hs i x σ _ (y xs q) p
 ·have e:i=xs.length:=by omega
  subst e
  exact .inl ⟨⟨xs,q,Nat.le_refl _⟩,hd σ H p⟩
theorem zp {lo:Int} {n:Nat} {g:TG} {tb:TS} {D:Ends} {σ:St} {H:Hp} (Pv:Nat→St→Hp→Prop) (h0:Pv 0 σ H)
  (hs:∀i σ H,i < n→Pv i σ H→g (.int (lo + i)) σ H fun σ2 H2=>tb { D with nx:=Pv (i + 1),ct:=Pv (i + 1),bk:=D.nx } σ2 H2) (hd:∀σ H,Pv n σ H→D.nx σ H) :
  ∃W:Nat→Nat→St→Hp→Prop,(∃m,W 0 m σ H)∧∀i m σ H,W i m σ H→
   ((BG lo n).stop i H∧D.nx σ H)∨((BG lo n).go i H∧∃N:St→Hp→Prop,(∀σ' H',N σ' H'→∃m',m' < m∧W (i + 1) m' σ' H')∧∀x H',(BG lo n).zj i H x H'→g x σ H' fun σ2 H2=>tb { D with nx:=N,ct:=N,bk:=D.nx } σ2 H2):=by
 refine ⟨fun i m σ H=>m=n - i∧i≤n∧Pv i σ H,⟨n,by simp,Nat.zero_le _,h0⟩,?_⟩
 rintro i m σ H ⟨rfl,hi,p⟩
 by_cases hlt:i < n
 ·refine .inr ⟨hlt,Pv (i + 1),fun σ' H' p'=>⟨n - (i + 1),by omega,rfl,hlt,p'⟩,fun x H' y=>?_⟩
  obtain ⟨e,y⟩:=y
  subst e y
  exact hs i σ _ hlt p
 ·have e:i=n:=by omega
  subst e
  exact .inl ⟨Nat.le_refl _,hd σ H p⟩
end L2
namespace L2
open PySem PySem.Spec PyProof.Rows
abbrev R2:=V→V→Hp→VK→Prop
def qi (X:Cx) (f:Value→Value→Sem Value) (r:R2):Prop:=
 ∀(pins:List (Addr × Obj)) (s:Shared) (σ:St) (H:Hp) (x y:V) (v u:Value) (Q:VK),Inv X pins σ H s→RelV x v→RelV y u→r x y H Q→
  wpAny (model X.prog X.w) X.A (f v u) (EP X pins σ Q) X.xe s
def FW (X:Cx) (f:Value→Sem Value) (r:V→Hp→VK→Prop):Prop:=
 ∀(pins:List (Addr × Obj)) (s:Shared) (σ:St) (H:Hp) (x:V) (v:Value) (Q:VK),Inv X pins σ H s→RelV x v→r x H Q→
  wpAny (model X.prog X.w) X.A (f v) (EP X pins σ Q) X.xe s
def ye (X:Cx) (f:Value) (r:List V→Hp→VK→Prop):Prop:=
 ∀(pins:List (Addr × Obj)) (s:Shared) (σ:St) (H:Hp) (xs:List V) (us:List Value) (Q:VK),Inv X pins σ H s→Vals xs us→r xs H Q→
  wpAny (model X.prog X.w) X.A (call f us) (EP X pins σ Q) X.xe s
def FX (X:Cx) (r:V→Hp→(Bool→Hp→Prop)→Prop):Prop:=
 ∀(pins:List (Addr × Obj)) (s:Shared) (σ:St) (H:Hp) (x:V) (v:Value) (Q:Bool→Hp→Prop),Inv X pins σ H s→RelV x v→r x H Q→
  wpAny (model X.prog X.w) X.A (truthy v) (TP X pins σ Q) X.xe s
def EC (r:R2) (ta tb:TE):TE:=fun σ H Q=>ta σ H fun x H1=>tb σ H1 fun y H2=>r x y H2 Q
def GJ (r:V→Hp→VK→Prop) (ta:TE):TE:=fun σ H Q=>ta σ H fun x H1=>r x H1 Q
def rI (C:Int→Int→Prop) (g:Int→Int→V):R2:=fun x y H Q=>∃i j,x=.int i∧y=.int j∧C i j∧Q (g i j) H
def Ax (g:Int→Int→V):R2:=fun x y H Q=>∃i j,x=.int i∧y=.int j∧Q (g i j) H
def rU (g:Int→V):V→Hp→VK→Prop:=fun x H Q=>∃i,x=.int i∧Q (g i) H
section
variable {X:Cx} {a b c:Expr} {ta tb tc:TE} {pos:Pos}
theorem Dt (ha:PE X a ta) (hb:PE X b tb) {pins:List (Addr × Obj)} {s:Shared} {σ:St} {H:Hp} {R:V→V→Hp→Prop} (I:Inv X pins σ H s)
  (h:ta σ H fun x H1=>tb σ H1 fun y H2=>R x y H2) {Q:Value→Shared→Prop} {f:Value→Value→Sem Value}
  (hf:∀v u s2 x y H2,Inv X pins σ H2 s2→RelV x v→RelV y u→R x y H2→wpAny (model X.prog X.w) X.A (f v u) Q X.xe s2) :
  wpAny (model X.prog X.w) X.A (eval a X.env) (fun v s₁=>wpAny (model X.prog X.w) X.A (eval b X.env) (fun u s₂=>wpAny (model X.prog X.w) X.A (f v u) Q X.xe s₂) X.xe s₁) X.xe s:=by
 refine d4 (ha pins s σ H _ I h) fun v s1 ⟨x,H1,I1,r1,q1⟩=>?_
 refine d4 (hb pins s1 σ H1 _ I1 q1) fun u s2 ⟨y,H2,I2,r2,q2⟩=>?_
 exact hf v u s2 x y H2 I2 r1 r2 q2
theorem aH {op:Operator} {r:R2} (ho:qi X (binaryOp op) r) (ha:PE X a ta) (hb:PE X b tb):PE X (.BinOp a op b pos) (EC r ta tb):=by
 intro pins s σ H Q I h
 exact wpAny_BinOp (Dt ha hb I h fun v u s2 x y H2 I2 rx ry q=>ho pins s2 σ H2 x y v u Q I2 rx ry q)
theorem AJ {op:UnaryOp} {r:V→Hp→VK→Prop} (ho:FW X (unaryOp op) r) (ha:PE X a ta):PE X (.UnaryOp op a pos) (GJ r ta):=by
 intro pins s σ H Q I h
 exact UnaryOp_ (d4 (ha pins s σ H _ I h) fun v s1 ⟨x,H1,I1,r1,q1⟩=>ho pins s1 σ H1 x v Q I1 r1 q1)
theorem Fy {f:Value→Value→Sem Value} {C:Int→Int→Prop} {g:Int→Int→Int}
  (rule:∀(i j:Int) (t u:Tok) (s:Shared) (Q:Value→Shared→Prop) (E:Value→Shared→Prop),C i j→Q (.int (g i j) s.toks) { s with toks:=s.toks + 1 }→wpAny (model X.prog X.w) X.A (f (.int i t) (.int j u)) Q E s) :
  qi X f (rI C fun i j=>.int (g i j)):=by
 intro pins s σ H x y v u Q I rx ry h
 obtain ⟨i,j,rfl,rfl,hc,q⟩:=h
 obtain ⟨t,rfl⟩:=rx
 obtain ⟨t',rfl⟩:=ry
 exact rule i j t t' s _ _ hc ⟨.int (g i j),H,I.tok _,⟨_,rfl⟩,q⟩
theorem Du {f:Value→Value→Sem Value} {g:Int→Int→Int}
  (rule:∀(i j:Int) (t u:Tok) (s:Shared) (Q:Value→Shared→Prop) (E:Value→Shared→Prop),Q (.int (g i j) s.toks) { s with toks:=s.toks + 1 }→wpAny (model X.prog X.w) X.A (f (.int i t) (.int j u)) Q E s) :
  qi X f (Ax fun i j=>.int (g i j)):=by
 intro pins s σ H x y v u Q I rx ry h
 obtain ⟨i,j,rfl,rfl,q⟩:=h
 obtain ⟨t,rfl⟩:=rx
 obtain ⟨t',rfl⟩:=ry
 exact rule i j t t' s _ _ ⟨.int (g i j),H,I.tok _,⟨_,rfl⟩,q⟩
theorem BH {f:Value→Value→Sem Value} {g:Int→Int→Bool}
  (rule:∀(i j:Int) (t u:Tok) (s:Shared) (Q:Value→Shared→Prop) (E:Value→Shared→Prop),Q (.bool (g i j)) s→wpAny (model X.prog X.w) X.A (f (.int i t) (.int j u)) Q E s) :
  qi X f (Ax fun i j=>.bl (g i j)):=by
 intro pins s σ H x y v u Q I rx ry h
 obtain ⟨i,j,rfl,rfl,q⟩:=h
 obtain ⟨t,rfl⟩:=rx
 obtain ⟨t',rfl⟩:=ry
 exact rule i j t t' s _ _ ⟨.bl (g i j),H,I,rfl,q⟩
def FY (i j:Int):Prop:=0 < j∧j < 1073741824
def Dv (i j:Int):Prop:=(-(2 ^ 64) < i∧i < 2 ^ 64)∨(-(2 ^ 64) < j∧j < 2 ^ 64)
theorem Dv.ok {i j:Int} (h:Dv i j):IntMulOk i j:=by
 rcases h with ⟨h1,h2⟩ | ⟨h1,h2⟩
 ·exact .of_left (intBits_le_64 h1 h2)
 ·exact .of_right (intBits_le_64 h1 h2)
theorem wQ (k:Nat):(0:Int)≤2 ^ k:=by
 rw [two_pow_cast]
 exact Int.natCast_nonneg _
theorem bA:qi X (binaryOp .Add) (Ax fun i j=>.int (i + j)):=Du fun _ _ _ _ _ _ _ q=>add_int q
theorem nj:qi X (binaryOp .Sub) (Ax fun i j=>.int (i - j)):=Du fun _ _ _ _ _ _ _ q=>sub_int q
theorem gc:qi X (binaryOp .Mult) (rI Dv fun i j=>.int (i * j)):=Fy fun _ _ _ _ _ _ _ hc q=>mul_int q hc.ok
theorem nU:qi X (binaryOp .FloorDiv) (rI FY fun i j=>.int (i / j)):=Fy fun i j _ _ _ _ _ hc q=>by
 have h1:(0:Int) < j:=hc.1
 have h2:j < 1073741824:=hc.2
 exact floordiv_int (by omega) (by rw [Int.fdiv_eq_ediv_of_nonneg i (by omega)];exact q) (.inl (PyProof.noPylong_small (by omega)))
theorem AK:qi X (binaryOp .Mod) (rI (fun _ j=>0 < j) fun i j=>.int (i % j)):=Fy fun i j _ _ _ _ _ hc q=>by
 have h1:(0:Int) < j:=hc
 exact mod_int' (by omega) (by rw [Int.fmod_eq_emod_of_nonneg i (by omega)];exact q)
theorem tO:qi X (binaryOp .RShift) (rI (fun _ j=>0≤j) fun i j=>.int (i / 2 ^ j.toNat)):=Fy fun i j _ _ _ _ _ hc q=>
 rshift_int hc (by rw [Int.fdiv_eq_ediv_of_nonneg i (wQ _)];exact q)
theorem gR:qi X (binaryOp .BitAnd) (Ax fun i j=>.int (Builtin.bitAnd i j)):=Du fun _ _ _ _ _ _ _ q=>and_int q
theorem GK {f:Value→Sem Value} {g:Int→Int}
  (rule:∀(i:Int) (t:Tok) (s:Shared) (Q:Value→Shared→Prop) (E:Value→Shared→Prop),Q (.int (g i) s.toks) { s with toks:=s.toks + 1 }→wpAny (model X.prog X.w) X.A (f (.int i t)) Q E s) :
  FW X f (rU fun i=>.int (g i)):=by
 intro pins s σ H x v Q I rx h
 obtain ⟨i,rfl,q⟩:=h
 obtain ⟨t,rfl⟩:=rx
 exact rule i t s _ _ ⟨.int (g i),H,I.tok _,⟨_,rfl⟩,q⟩
theorem wR:FW X (unaryOp .USub) (rU fun i=>.int (-i)):=GK fun _ _ _ _ _ q=>neg_int q
end
def ED:V→V→Bool
 | .cD,.cD=>true | .cD,.int _=>true | .int _,.cD=>true | .cD,.bl _=>true | .bl _,.cD=>true | .cD,.str _=>true | .str _,.cD=>true
 | .int _,.int _=>true | .bl _,.bl _=>true | .str _,.str _=>true | .uX _,.uX _=>true
 | .int _,.str _=>true | .str _,.int _=>true | .bl _,.str _=>true | .str _,.bl _=>true
 | _,_=>false
def GL:R2:=fun x y H Q=>ED x y=true∧Q (.bl (decide (x=y))) H
def GN:R2:=fun x y H Q=>ED x y=true∧Q (.bl (!decide (x=y))) H
theorem jv {i j:Int}:decide (V.int i=V.int j)=(i == j):=by
 rw [Bool.eq_iff_iff]
 simp
theorem AL {i j:Bool}:decide (V.bl i=V.bl j)=(i == j):=by
 rw [Bool.eq_iff_iff]
 simp
theorem yf {i j:Str}:decide (V.str i=V.str j)=(i == j):=by
 rw [Bool.eq_iff_iff]
 simp
theorem yg {i j:Array UInt8}:decide (V.uX i=V.uX j)=(i.toList == j.toList):=by
 rw [Bool.eq_iff_iff]
 cases i
 cases j
 simp
section
variable {X:Cx} {a b c:Expr} {ta tb tc:TE} {pos:Pos}
theorem cp {pins:List (Addr × Obj)} {σ:St} {H:Hp} {s:Shared} {Q:VK} {k k':Bool} (I:Inv X pins σ H s) (q:Q (.bl k) H) (e:k=k'):EP X pins σ Q (.bool k') s:=by
 subst e
 exact ⟨.bl k,H,I,rfl,q⟩
theorem d_:qi X (compareOp .Eq) GL:=by
 intro pins s σ H x y v u Q I rx ry h
 obtain ⟨hs,q⟩:=h
 cases x with
 | cD=>
  cases rx
  cases y with
  | cD=>cases ry;exact PySem.EqNone.eq_none_none (cp I q (by simp))
  | bl j=>cases ry;exact PySem.EqNone.eq_none_bool (cp I q (by simp))
  | int j=>obtain ⟨t',rfl⟩:=ry;exact PySem.EqNone.eq_none_int (cp I q (by simp))
  | str j=>obtain ⟨t',rfl⟩:=ry;exact PySem.EqNone.eq_none_str (cp I q (by simp))
  | _=>exact absurd (show false=true from hs) Bool.false_ne_true
 | bl i=>
  cases rx
  cases y with
  | cD=>cases ry;exact PySem.EqNone.eq_bool_none (cp I q (by simp))
  | bl j=>cases ry;exact eq_bool (cp I q AL)
  | str j=>obtain ⟨t',rfl⟩:=ry;exact PySem.EqMixed.eq_bool_str (cp I q (by simp))
  | _=>exact absurd (show false=true from hs) Bool.false_ne_true
 | int i=>
  obtain ⟨t,rfl⟩:=rx
  cases y with
  | cD=>cases ry;exact PySem.EqNone.eq_int_none (cp I q (by simp))
  | int j=>obtain ⟨t',rfl⟩:=ry;exact eq_int (cp I q jv)
  | str j=>obtain ⟨t',rfl⟩:=ry;exact PySem.EqMixed.eq_int_str (cp I q (by simp))
  | _=>exact absurd (show false=true from hs) Bool.false_ne_true
 | str i=>
  obtain ⟨t,rfl⟩:=rx
  cases y with
  | cD=>cases ry;exact PySem.EqNone.eq_str_none (cp I q (by simp))
  | bl j=>cases ry;exact PySem.EqMixed.eq_str_bool (cp I q (by simp))
  | int j=>obtain ⟨t',rfl⟩:=ry;exact PySem.EqMixed.eq_str_int (cp I q (by simp))
  | str j=>obtain ⟨t',rfl⟩:=ry;exact eq_str (cp I q yf)
  | _=>exact absurd (show false=true from hs) Bool.false_ne_true
 | uX i=>
  obtain ⟨t,rfl⟩:=rx
  cases y with
  | uX j=>obtain ⟨t',rfl⟩:=ry;exact PySem.W.eq_bytes (cp I q yg)
  | _=>exact absurd (show false=true from hs) Bool.false_ne_true
 | _=>cases y <;> exact absurd (show false=true from hs) Bool.false_ne_true
theorem nV:qi X (compareOp .NotEq) GN:=by
 intro pins s σ H x y v u Q I rx ry h
 obtain ⟨hs,q⟩:=h
 cases x with
 | cD=>
  cases rx
  cases y with
  | cD=>cases ry;exact PySem.EqNone.ne_none_none (cp I q (by simp))
  | bl j=>cases ry;exact PySem.EqNone.ne_none_bool (cp I q (by simp))
  | int j=>obtain ⟨t',rfl⟩:=ry;exact PySem.EqNone.ne_none_int (cp I q (by simp))
  | str j=>obtain ⟨t',rfl⟩:=ry;exact PySem.EqNone.ne_none_str (cp I q (by simp))
  | _=>exact absurd (show false=true from hs) Bool.false_ne_true
 | bl i=>
  cases rx
  cases y with
  | cD=>cases ry;exact PySem.EqNone.ne_bool_none (cp I q (by simp))
  | bl j=>cases ry;exact ne_bool (cp I q (congrArg not AL))
  | str j=>obtain ⟨t',rfl⟩:=ry;exact PySem.EqMixed.ne_bool_str (cp I q (by simp))
  | _=>exact absurd (show false=true from hs) Bool.false_ne_true
 | int i=>
  obtain ⟨t,rfl⟩:=rx
  cases y with
  | cD=>cases ry;exact PySem.EqNone.ne_int_none (cp I q (by simp))
  | int j=>obtain ⟨t',rfl⟩:=ry;exact ne_int (cp I q (congrArg not jv))
  | str j=>obtain ⟨t',rfl⟩:=ry;exact PySem.EqMixed.ne_int_str (cp I q (by simp))
  | _=>exact absurd (show false=true from hs) Bool.false_ne_true
 | str i=>
  obtain ⟨t,rfl⟩:=rx
  cases y with
  | cD=>cases ry;exact PySem.EqNone.ne_str_none (cp I q (by simp))
  | bl j=>cases ry;exact PySem.EqMixed.ne_str_bool (cp I q (by simp))
  | int j=>obtain ⟨t',rfl⟩:=ry;exact PySem.EqMixed.ne_str_int (cp I q (by simp))
  | str j=>obtain ⟨t',rfl⟩:=ry;exact ne_str (cp I q (congrArg not yf))
  | _=>exact absurd (show false=true from hs) Bool.false_ne_true
 | uX i=>
  obtain ⟨t,rfl⟩:=rx
  cases y with
  | uX j=>obtain ⟨t',rfl⟩:=ry;exact PySem.W.ne_bytes (cp I q (congrArg not yg))
  | _=>exact absurd (show false=true from hs) Bool.false_ne_true
 | _=>cases y <;> exact absurd (show false=true from hs) Bool.false_ne_true
theorem yi:qi X (compareOp .Lt) (Ax fun i j=>.bl (decide (i < j))):=BH fun _ _ _ _ _ _ _ q=>lt_int q
theorem fW:qi X (compareOp .LtE) (Ax fun i j=>.bl (decide (i≤j))):=BH fun _ _ _ _ _ _ _ q=>le_int q
theorem qU:qi X (compareOp .Gt) (Ax fun i j=>.bl (decide (j < i))):=BH fun _ _ _ _ _ _ _ q=>gt_int q
theorem AM:qi X (compareOp .GtE) (Ax fun i j=>.bl (decide (j≤i))):=BH fun _ _ _ _ _ _ _ q=>ge_int q
theorem aT (b:Expr) {op:CmpOp} (h:op≠.In:=by decide) (h2:op≠.NotIn:=by decide):behindInMarks op b=false:=by
 have e1:(op == CmpOp.In)=false:=by cases op <;> first | rfl | exact absurd rfl h
 have e2:(op == CmpOp.NotIn)=false:=by cases op <;> first | rfl | exact absurd rfl h2
 cases b <;> simp [behindInMarks,e1,e2]
theorem nW {op:CmpOp} {r:R2} (ho:qi X (compareOp op) r) (ha:PE X a ta) (hb:PE X b tb) (hm:behindInMarks op b=false):PE X (.Compare a [op] [b] pos) (EC r ta tb):=by
 intro pins s σ H Q I h
 exact wpAny_Compare1 (Dt ha hb I h fun v u s2 x y H2 I2 rx ry q=>ho pins s2 σ H2 x y v u Q I2 rx ry q) hm
def yj (t:TE):TT:=fun σ H Q=>t σ H fun x H'=>∃k,x=.bl k∧Q k H'
theorem aQ {op:CmpOp} {r:R2} (ho:qi X (compareOp op) r) (ha:PE X a ta) (hb:PE X b tb) (hm:behindInMarks op b=false):PT X (.Compare a [op] [b] pos) (yj (EC r ta tb)):=by
 intro pins s σ H Q I h
 refine wpAny_isTrue_Compare1 (d4 (ha pins s σ H _ I h) fun v s1 ⟨x,H1,I1,r1,q1⟩=>d4 (hb pins s1 σ H1 _ I1 q1) fun u s2 ⟨y,H2,I2,r2,q2⟩=>
  d4 (ho pins s2 σ H2 x y v u _ I2 r1 r2 q2) fun c s3 ⟨z,H3,I3,r3,k,e,q3⟩=>?_) hm
 subst e
 cases r3
 exact wpAny_truthy_bool ⟨H3,I3,q3⟩
def wU (r r':R2) (ta tb tc:TE):TE:=fun σ H Q=>ta σ H fun x H1=>tb σ H1 fun y H2=>r x y H2 fun z H3=>∃k,z=.bl k∧
 (if k=true then tc σ H3 fun w' H4=>r' y w' H4 Q else Q (.bl false) H3)
theorem gn {op op':CmpOp} {r r':R2} (ho:qi X (compareOp op) r) (ho':qi X (compareOp op') r') (ha:PE X a ta) (hb:PE X b tb) (hc:PE X c tc)
  (hm:lastMarks [op,op'] [b,c]=false:=by with_unfolding_all rfl):PT X (.Compare a [op,op'] [b,c] pos) (yj (wU r r' ta tb tc)):=by
 intro pins s σ H Q I h
 refine isTrue_chain (d4 (ha pins s σ H _ I h) fun v s1 ⟨x,H1,I1,r1,q1⟩=>test_link (d4 (hb pins s1 σ H1 _ I1 q1) fun u s2 ⟨y,H2,I2,r2,q2⟩=>
  d4 (ho pins s2 σ H2 x y v u _ I2 r1 r2 q2) fun d s3 ⟨z,H3,I3,r3,k,e,q3⟩=>?_)) hm
 subst e
 cases r3
 refine wpAny_truthy_bool ?_
 cases k with
 | false=>
  obtain ⟨k',e',q'⟩:=q3
  cases e'
  exact ite_ff ⟨H3,I3,q'⟩
 | true=>
  refine ite_tt (test_last (d4 (hc pins s3 σ H3 _ I3 q3) fun w' s4 ⟨z',H4,I4,r4,q4⟩=>d4 (ho' pins s4 σ H4 y z' u w' _ I4 r2 r4 q4) fun d' s5 ⟨z2,H5,I5,r5,k2,e2,q5⟩=>?_))
  subst e2
  cases r5
  exact wpAny_truthy_bool ⟨H5,I5,q5⟩
def EE (K:PySem.W.Frag) (x:V) (H:Hp) (k:Bool):Prop:=
 match x with
 | .cD=>k=false
 | .bl b=>k=b
 | .int i=>k=(i != 0)
 | .str y=>y.length≤sizeLine∧k=((y.length:Int) != 0)
 | .uX y=>y.size≤sizeLine∧k=((y.size:Int) != 0)
 | .ref p=>(∃xs,bV K H p xs∧k=!xs.isEmpty)∨(∃xs,ju K H p xs∧k=!xs.isEmpty)∨∃kvs,H p=some (.dK kvs)∧k=!kvs.isEmpty
 | _=>False
theorem wV {κ:Type} {kvs:List (κ × V)} {vs:List (κ × Value)} (r:KV kvs vs):(!vs.isEmpty)=!kvs.isEmpty:=by
 cases r <;> rfl
theorem qV {xs:List V} {its:List Value} (r:Vals xs its):(!its.toArray.isEmpty)=!xs.isEmpty:=by
 cases r <;> simp
theorem tP:(sizeLine:Nat) < 2 ^ 63:=by rw [sizeLine_eq];decide
theorem Dx:FX X (fun x H Q=>∃k,EE X.K x H k∧Q k H):=by
 intro pins s σ H x v Q I rx h
 obtain ⟨k,e,q⟩:=h
 have hl:=tP
 have hs:sizeLine=16777216:=sizeLine_eq
 cases x with
 | cD=>
  cases rx
  have e':k=false:=e
  subst e'
  exact truthy_none ⟨H,I,q⟩
 | bl b=>
  cases rx
  have e':k=b:=e
  subst e'
  exact wpAny_truthy_bool ⟨H,I,q⟩
 | int i=>
  obtain ⟨t,rfl⟩:=rx
  have e':k=(i != 0):=e
  subst e'
  exact PySem.P.truthy_int ⟨H,I,q⟩
 | str y=>
  obtain ⟨t,rfl⟩:=rx
  obtain ⟨hy,e'⟩:y.length≤sizeLine∧k=((y.length:Int) != 0):=e
  subst e'
  exact PySem.P.truthy_str (by omega) ⟨H,I.tok _,q⟩
 | uX y=>
  obtain ⟨t,rfl⟩:=rx
  obtain ⟨hy,e'⟩:y.size≤sizeLine∧k=((y.size:Int) != 0):=e
  subst e'
  exact PySem.W.truthy_bytes (by omega) ⟨H,I.tok _,q⟩
 | ref p=>
  cases rx
  have e':(∃xs,bV X.K H p xs∧k=!xs.isEmpty)∨(∃xs,ju X.K H p xs∧k=!xs.isEmpty)∨∃kvs,H p=some (.dK kvs)∧k=!kvs.isEmpty:=e
  rcases e' with ⟨xs,hx,e'⟩ | ⟨xs,hx,e'⟩ | ⟨kvs,hx,e'⟩
  ·subst e'
   obtain ⟨its,r,pl,hz⟩:=I.list hx
   have hlen:=r.length
   exact wpAny_truthy_list pl.isList (by simp only [List.size_toArray];omega) ⟨H,I.tok _,by rw [qV r];exact q⟩
  ·subst e'
   obtain ⟨its,r,pl,hz⟩:=I.tuple hx
   have hlen:=r.length
   exact truthy_tuple pl (by simp only [List.size_toArray];omega) ⟨H,I.tok _,by rw [qV r];exact q⟩
  ·subst e'
   obtain ⟨hz,hS,vs,r,m⟩:kvs.length≤sizeLine∧(p == sysModules)=false∧∃vs,KV kvs vs∧s.heap.DictOf (gk X.prog X.w) p vs:=I.dZ p _ hx
   have hlen:kvs.length=vs.length:=Paired.length r
   exact wpAny_truthy_dict hS m (by omega) ⟨H,I.tok _,by rw [wV r];exact q⟩
 | _=>exact (show False from e).elim
theorem gp (ha:PE X a ta) (he:∀whole,isTrue a X.env whole=(do let v ← whole;standAt a.pos;holding [v] (truthy v))) :
  PT X a (fun σ H Q=>ta σ H fun x H'=>∃k,EE X.K x H' k∧Q k H'):=by
 intro pins s σ H Q I h
 exact isTrue_plain (d4 (ha pins s σ H _ I h) fun v s1 ⟨x,H1,I1,r1,q1⟩=>Dx pins s1 σ H1 x v Q I1 r1 q1) (he _)
theorem vals1 {x:V} {us:List Value} (r:Vals [x] us):∃u,us=[u]∧RelV x u:=by
 cases r with
 | cons r1 r2=>cases r2;exact ⟨_,rfl,r1⟩
theorem vals2 {x y:V} {us:List Value} (r:Vals [x,y] us):∃u w',us=[u,w']∧RelV x u∧RelV y w':=by
 cases r with
 | cons r1 r2=>
  cases r2 with
  | cons r3 r4=>cases r4;exact ⟨_,_,rfl,r1,r3⟩
theorem sY (hc:X.calm=true):ye X (.builtin "min") (fun xs H Q=>∃i j,xs=[.int i,.int j]∧Q (.int (if j < i then j else i)) H):=by
 intro pins s σ H xs us Q I r h
 obtain ⟨i,j,rfl,q⟩:=h
 obtain ⟨u,w',rfl,⟨t,rfl⟩,⟨t',rfl⟩⟩:=vals2 r
 refine min_two_ints (I.ok.hd hc) fun h' tk k=>⟨_,H,I.kept k,?_,q⟩
 by_cases hj:j < i
 ·rw [if_pos hj,if_pos hj];exact ⟨_,rfl⟩
 ·rw [if_neg hj,if_neg hj];exact ⟨_,rfl⟩
theorem AN:ye X (.builtin "ord") (fun xs H Q=>∃x,xs=[.str x]∧x.length=1∧Q (.int (x.cps.getD 0 0:Nat)) H):=by
 intro pins s σ H xs us Q I r h
 obtain ⟨x,rfl,hz,q⟩:=h
 obtain ⟨u,rfl,t,rfl⟩:=vals1 r
 exact ord_of_one hz ⟨.int _,H,I.tok _,⟨_,rfl⟩,q⟩
end
end L2
namespace L2
open PySem PySem.Spec PyProof.Rows
structure wW (h:Heap) (x dx C:Addr) (mA:Str→Option Value):Prop where
 obj:h.get? x=some (PySem.W.instObj C dx)
 ns:h.Ns1 dx mA
 ne:dx≠x
theorem zq {h:Heap} {dx:Addr} {mA:Str→Option Value} (n:h.Ns1 dx mA):∃od,h.get? dx=some od∧∀name,PySem.W.lookIn name od=some (mA name):=by
 obtain ⟨o,es,ep,ho,hd,hk,_,hm⟩:=n
 refine ⟨o,ho,fun name=>?_⟩
 have e:=hm name
 unfold nsFind findBy at e
 rw [← Array.find?_toList] at e
 unfold PySem.W.lookIn
 rw [hd]
 dsimp only
 split
 ·rename_i y q
  rw [q] at e
  exact congrArg some e
 ·rename_i q
  rw [q] at e
  have a:es.toList.any (·.refKey)=false:=by
   rw [List.any_eq_false]
   intro y hy
   obtain ⟨z,t,hkey⟩:=hk y (Array.mem_toList_iff.mp hy)
   simp [DictEntry.refKey,hkey]
  have a':¬ es.toList.any (·.refKey)=true:=by rw [a];exact Bool.false_ne_true
  rw [if_neg a']
  exact congrArg some e
theorem wW.look {h:Heap} {x dx C:Addr} {mA:Str→Option Value} (I:wW h x dx C mA):∃od,PySem.W.InstAt h x (PySem.W.instObj C dx) C (some od)∧∀name,PySem.W.lookIn name od=some (mA name):=
 let ⟨od,ho,hl⟩:=zq I.ns
 ⟨od,⟨I.obj,rfl,rfl,ho⟩,hl⟩
section
variable {prog:Program} {w:World} {A:Around} {E:Value→Shared→Prop} {s:Shared} {K:PySem.W.Frag} {x dx C f:Addr} {mA:Str→Option Value} {name:Str} {v:Value}
theorem get_map {expr:Bool} {Q:Value→Shared→Prop} (X:K.In s.heap) (I:wW s.heap x dx C mA) (hg:PySem.W.plainGet K C name=true) (hh:PySem.W.hasDictIn K C=true)
  (ha:PySem.W.findIn K (.ref C) name=some none) (hv:mA name=some v) (hv':PySem.W.handedIn v=true) (h:Q v { s with toks:=s.toks + 1 }) :
  wpAny (model prog w) A (getAttr (.ref x) name expr) Q E s:=by
 obtain ⟨od,J,hl⟩:=I.look
 exact PySem.W.get_value X J (PySem.W.plainGet_of hg).1 (PySem.W.findObj_own hh ha rfl (by rw [hl,hv])) hv' h
theorem AO {pl:Sem Bool} {Q:Value × List Value→Shared→Prop} (X:K.In s.heap) (I:wW s.heap x dx C mA) (hg:PySem.W.plainGet K C name=true)
  (hf:PySem.W.findIn K (.ref C) name=some (some (.ref f))) (ht:PySem.W.isFn K (.ref f)=true) (hv:mA name=none) (h:Q (.ref f,[.ref x]) s) :
  wpAny (model prog w) A (getMethod (.ref x) name pl) Q E s:=by
 obtain ⟨od,J,hl⟩:=I.look
 exact PySem.W.method_fn X J (PySem.W.plainGet_of hg).1 (PySem.W.plainGet_of hg).2 hf (beq_iff_eq.mp ht) (by show (PySem.W.lookIn name od).map (·.isSome)=some false;rw [hl,hv];rfl) h
theorem nX {ns:List Str} {Q:Unit→Shared→Prop} (X:K.In s.heap) (I:wW s.heap x dx C mA)
  (hs:PySem.W.findIn K (.ref C) "__setattr__"=some (some (.builtin "object.__setattr__"))) (hp:PySem.W.plainOver K C=true) (ht:PySem.W.takerIn K C name=some none) (hh:PySem.W.hasDictIn K C=true)
  (hw:PySem.Within mA ns) (hsz:ns.length≤sizeLine)
  (h:∀h',wW h' x dx C (fun y=>if y=name then some v else mA y)→Heap.SameBut dx s.heap h'→Q () { s with heap:=h',toks:=s.toks + 2 }) :
  wpAny (model prog w) A (setAttr (.ref x) name v) Q E s:=by
 obtain ⟨od,J,hl⟩:=I.look
 refine PySem.W.set_plain X J hs (PySem.W.osa_open (s:={ s with toks:=s.toks + 1 }) (r:=none) X J hp ht fun b=>?_)
 obtain ⟨cd,hc,hd'⟩:=PySem.W.any_some hh
 have hx:s.heap.get? x=some ⟨.ref C,some dx,.plain,#[]⟩:=I.obj
 refine wpAny_bind (wpAny_pure (wpAny_bind (wpAny_bind (wpAny_loadPart hx (wpAny_bind (PySem.W.Looks.here (s:={ s with toks:=s.toks + 1 }) (PySem.W.looks_clsIn X hc) ?_))))))
 rw [hd']
 refine wpAny_pure (a:=some dx) (wpAny_bind (wpAny_pure (wpAny_bind ?_)))
 refine wpAny_nsSet1 (s:={ s with toks:=s.toks + 1 }) I.ns fun h' hn2 hs2=>?_
 obtain ⟨oD,esD,epD,hoD,hdD,hcD⟩:=hn2.count (PySem.Within.cons name v hw)
 refine wpAny_bind (wpAny_lookBehind hoD (by rw [hdD];exact pastItsLine_dict (Nat.le_trans hcD (by rw [List.length_cons];omega))) ?_)
 exact wpAny_pure (h _ ⟨(hs2.2 _ (Ne.symm I.ne)).trans I.obj,hn2,I.ne⟩ hs2)
theorem AQ {R:Result→Shared→Prop} {vs:List Value} {kw:List (Str × Value)} (X:K.In s.heap) (hm:PySem.W.makesIn K C=true)
  (hi:PySem.W.findIn K (.ref C) "__init__"=some (some (.ref f))) (hf:PySem.W.typeIn K (.ref f)=some (.type "function"))
  (h:codeAny (model prog w) (A.under (.builtin "type.__call__" ⟨.ref C :: vs,kw⟩)) (.call (.ref f) ⟨.ref (s.heap.objs.size + 1) :: vs,kw⟩) (PySem.W.InitBack (s.heap.objs.size + 1) R)
   { s with heap:=(s.heap.push PySem.W.emptyDict).push (PySem.W.instObj C s.heap.objs.size) }) :
  codeAny (model prog w) A (.call (.ref C) ⟨vs,kw⟩) R s:=by
 obtain ⟨hh,g,d,t,os⟩:=s
 exact PySem.W.make_core (PySem.W.makes_of X hm) (PySem.W.looks_findIn X hi) (fun self=>PySem.W.bind_fn X self hf) (.inl rfl) h
end
def bH (f:Str) (v:V):List (Str × V)→List (Str × V)
 | []=>[(f,v)]
 | (g,x) :: r=>if g=f then (g,v) :: r else (g,x) :: bH f v r
theorem pS (f g:Str) (v:V):∀fs:List (Str × V),(bH f v fs).lookup g=if g=f then some v else fs.lookup g
 | []=>by
  show List.lookup g [(f,v)]=_
  by_cases h:g=f
  ·have hb:(g == f)=true:=beq_iff_eq.mpr h
   simp only [List.lookup,hb,if_pos h]
  ·have hb:(g == f)=false:=beq_eq_false_iff_ne.mpr h
   simp only [List.lookup,hb,if_neg h]
 | (k,x) :: r=>by
  have ih:=pS f g v r
  rw [show bH f v ((k,x) :: r)=(if k=f then (k,v) :: r else (k,x) :: bH f v r) from rfl]
  by_cases hk:k=f
  ·rw [if_pos hk]
   by_cases h:g=k
   ·have hb:(g == k)=true:=beq_iff_eq.mpr h
    simp only [List.lookup,hb,if_pos (h.trans hk)]
   ·have hb:(g == k)=false:=beq_eq_false_iff_ne.mpr h
    simp only [List.lookup,hb,if_neg (fun e:g=f=>h (e.trans hk.symm))]
  ·rw [if_neg hk]
   by_cases h:g=k
   ·have hb:(g == k)=true:=beq_iff_eq.mpr h
    simp only [List.lookup,hb,if_neg (fun e:g=f=>hk (h.symm.trans e))]
   ·have hb:(g == k)=false:=beq_eq_false_iff_ne.mpr h
    simp only [List.lookup,hb]
    exact ih
theorem o_ (f:Str) (v:V):∀fs:List (Str × V),f∈(bH f v fs).map (·.1)∧∀g,g∈fs.map (·.1)→g∈(bH f v fs).map (·.1)
 | []=>⟨by simp [bH],fun g h=>by simp at h⟩
 | (k,x) :: r=>by
  obtain ⟨i1,i2⟩:=o_ f v r
  rw [show bH f v ((k,x) :: r)=(if k=f then (k,v) :: r else (k,x) :: bH f v r) from rfl]
  by_cases hk:k=f
  ·rw [if_pos hk]
   subst hk
   exact ⟨by simp,fun g h=>by simpa using h⟩
  ·rw [if_neg hk]
   refine ⟨?_,fun g h=>?_⟩
   ·rw [List.map_cons]
    exact List.mem_cons_of_mem _ i1
   ·rw [List.map_cons] at h ⊢
    rcases List.mem_cons.mp h with e | e
    ·exact List.mem_cons.mpr (.inl e)
    ·exact List.mem_cons_of_mem _ (i2 g e)
theorem pT (f:Str) (v:V):∀fs:List (Str × V),(bH f v fs).length≤fs.length + 1
 | []=>by simp [bH]
 | (k,x) :: r=>by
  have ih:=pT f v r
  rw [show bH f v ((k,x) :: r)=(if k=f then (k,v) :: r else (k,x) :: bH f v r) from rfl]
  by_cases hk:k=f
  ·rw [if_pos hk,List.length_cons,List.length_cons];omega
  ·rw [if_neg hk,List.length_cons,List.length_cons];omega
theorem nO.some_of {v:V} {o:Option Value} (r:nO (some v) o):∃u,o=some u∧RelV v u:=by
 cases o with
 | none=>exact (show False from r).elim
 | some u=>exact ⟨u,rfl,r⟩
theorem nO.none_of {o:Option Value} (r:nO none o):o=none:=by
 cases o with
 | none=>rfl
 | some u=>exact (show False from r).elim
theorem zt {v:V} {u:Value} (r:RelV v u):PySem.W.handedIn u=true:=by
 cases v with
 | cD=>cases (show u=Value.none from r);rfl
 | bl b=>cases (show u=Value.bool b from r);rfl
 | int i=>obtain ⟨t,e⟩:=(show ∃t,u=Value.int i t from r);cases e;rfl
 | str x=>obtain ⟨t,e⟩:=(show ∃t,u=Value.str x t from r);cases e;rfl
 | uX b=>obtain ⟨t,e⟩:=(show ∃t,u=Value.bytes b t from r);cases e;rfl
 | Fq b=>obtain ⟨t,e⟩:=(show ∃t,u=Value.float b t from r);cases e;rfl
 | ref a=>cases (show u=Value.ref a from r);rfl
 | ty n=>cases (show u=Value.type n from r);rfl
section
variable {P:Program} {w:World} {H H':Hp} {h h':Heap} {a C dx:Addr} {fs fs':List (Str × V)}
theorem tQ (dZ:nP P w H h) (e:H a=some (.ins C dx fs)):∃mA,wW h a dx C mA∧(∀f,nO (fs.lookup f) (mA f))∧PySem.Within mA (fs.map (·.1))∧fs.length≤1000∧H dx=some (.own a):=by
 obtain ⟨d,z,ne,ob,mA,n,r,q⟩:=(show gm P w H h a (.ins C dx fs) from dZ a _ e)
 exact ⟨mA,⟨ob,n,ne⟩,r,q,z,d⟩
end
structure sk (K:PySem.W.Frag) (C:Addr):Prop where
 pg:PySem.W.plainGet K C Str.empty=true
 hd:PySem.W.hasDictIn K C=true
 po:PySem.W.plainOver K C=true
 sa:PySem.W.findIn K (.ref C) "__setattr__"=some (some (.builtin "object.__setattr__"))
theorem sk.get {K:PySem.W.Frag} {C:Addr} (c:sk K C) (f:Str):PySem.W.plainGet K C f=true:=c.pg
def aD (K:PySem.W.Frag) (C:Addr) (f:Str):Prop:=PySem.W.findIn K (.ref C) f=some none
theorem aD.EF {K:PySem.W.Frag} {C:Addr} {f:Str} (n:aD K C f):PySem.W.takerIn K C f=some none:=by
 unfold PySem.W.takerIn
 rw [show PySem.W.findIn K (.ref C) f=some none from n]
 rfl
structure Meth (K:PySem.W.Frag) (C:Addr) (m:Str) (f:Addr):Prop where
 at_:PySem.W.findIn K (.ref C) m=some (some (.ref f))
 fn:PySem.W.isFn K (.ref f)=true
 kp:PySem.W.keepIn K (.ref f)=true
section
variable {X:Cx} {pins:List (Addr × Obj)} {σ:St} {H:Hp} {s:Shared} {a C dx:Addr} {fs:List (Str × V)} {f:Str} {v:V} {A:Around} {E:Value→Shared→Prop}
theorem qW {b:Bool} {Q:Value→Shared→Prop} (I:Inv X pins σ H s) (e:H a=some (.ins C dx fs)) (c:sk X.K C) (n:aD X.K C f) (l:fs.lookup f=some v)
  (h:∀u s',Inv X pins σ H s'→RelV v u→Q u s'):wpAny (model X.prog X.w) A (getAttr (.ref a) f b) Q E s:=by
 obtain ⟨mA,O,r,_,_,_⟩:=tQ I.dZ e
 obtain ⟨u,hu,ru⟩:=nO.some_of (v:=v) (o:=mA f) (by rw [← l];exact r f)
 exact get_map I.uY O (c.get f) c.hd n hu (zt ru) (h u _ (I.tok _) ru)
theorem qX {m:Str} {g:Addr} {pl:Sem Bool} {Q:Value × List Value→Shared→Prop} (I:Inv X pins σ H s) (e:H a=some (.ins C dx fs)) (c:sk X.K C) (k:Meth X.K C m g) (l:fs.lookup m=none)
  (h:Q (.ref g,[.ref a]) s):wpAny (model X.prog X.w) A (getMethod (.ref a) m pl) Q E s:=by
 obtain ⟨mA,O,r,_,_,_⟩:=tQ I.dZ e
 have hn:mA m=none:=nO.none_of (by rw [← l];exact r m)
 exact AO I.uY O (c.get m) k.at_ k.fn hn h
theorem qY {y:V} {u:Value} {Q:Unit→Shared→Prop} (I:Inv X pins σ H s) (e:H a=some (.ins C dx fs)) (c:sk X.K C) (n:aD X.K C f) (hl:fs.length < 1000) (ry:RelV y u)
  (h:∀s',Inv X pins σ (upd H a (.ins C dx (bH f y fs))) s'→Q () s'):wpAny (model X.prog X.w) A (setAttr (.ref a) f u) Q E s:=by
 obtain ⟨mA,O,r,wi,_,ho⟩:=tQ I.dZ e
 have hz:(fs.map (·.1)).length≤sizeLine:=by rw [List.length_map,sizeLine_eq];omega
 refine nX I.uY O c.sa c.po n.EF c.hd wi hz fun h' O' sb=>h _ ?_
 have hd:∃o,h'.get? dx=some o:=let ⟨o,_,_,e',_⟩:=O'.ns;⟨o,e'⟩
 refine I.write (x:=a) (e:=dx) (by rw [e];exact True.intro) (.inr ho) (fun b q hb z=>(sb.2 b hb).trans z) hd ?_
 refine ⟨by rw [aj O.ne];exact ho,?_,O.ne,O'.obj,_,O'.ns,fun g=>?_,fun g hg=>?_⟩
 ·have:=pT f y fs;omega
 ·show nO ((bH f y fs).lookup g) (if g=f then some u else mA g)
  rw [pS]
  by_cases q:g=f
  ·rw [if_pos q,if_pos q];exact ry
  ·rw [if_neg q,if_neg q];exact r g
 ·by_cases q:g=f
  ·rw [q];exact (o_ f y fs).1
  ·refine (o_ f y fs).2 g (wi g fun z=>hg ?_)
   show (if g=f then some u else mA g)=none
   rw [if_neg q];exact z
theorem Inv.made (I:Inv X pins σ H s):Inv X pins σ (upd (upd H s.heap.objs.size (.own (s.heap.objs.size + 1))) (s.heap.objs.size + 1) (.ins C s.heap.objs.size []))
  { s with heap:=(s.heap.push PySem.W.emptyDict).push (PySem.W.instObj C s.heap.objs.size) }:=by
 have e1:(s.heap.push PySem.W.emptyDict).get? s.heap.objs.size=some PySem.W.emptyDict:=Heap.get?_push_size s.heap rfl
 have e2:((s.heap.push PySem.W.emptyDict).push (PySem.W.instObj C s.heap.objs.size)).get? (s.heap.objs.size + 1)=some (PySem.W.instObj C s.heap.objs.size):=by
  have:=Heap.get?_push_size (s.heap.push PySem.W.emptyDict) (o:=PySem.W.instObj C s.heap.objs.size) rfl
  rwa [Heap.size_push] at this
 have e3:(s.heap.push PySem.W.emptyDict).Ns s.heap.objs.size (fun _=>none):=⟨PySem.W.emptyDict,#[],_,e1,rfl,(fun e he=>absurd he (by simp)),fun _=>rfl⟩
 have I1:=I.laid (a:=s.heap.objs.size) (o:=.own (s.heap.objs.size + 1)) (h':=s.heap.push PySem.W.emptyDict) (t':=s.toks) (fun b u q=>Heap.get?_push_of_some _ q) (Nat.le_refl _) ⟨_,e1⟩
 refine I1.laid (a:=s.heap.objs.size + 1) (o:=.ins C s.heap.objs.size []) (t':=s.toks) (fun b u q=>Heap.get?_push_of_some _ q) (Nat.le_of_eq (Heap.size_push _ _)) ?_
 have ne:s.heap.objs.size≠s.heap.objs.size + 1:=Nat.ne_of_lt (Nat.lt_succ_self _)
 refine ⟨by rw [aj ne,ae],Nat.zero_le _,ne,e2,fun _=>none,(Heap.Ns1.of_empty e3).at fun o q=>Heap.get?_push_of_some _ q,fun _=>True.intro,fun y hy=>absurd rfl hy⟩
theorem BI {prog:Program} {w:World} {env:Env} {e:Expr} {f:Str} {pos:Pos} {s:Shared} {Q:Value→Shared→Prop} (hb:attributeBase e f env (eval e env)=eval e env)
  (h:wpAny (model prog w) A (eval e env) (fun o s₁=>wpAny (model prog w) A (getAttr o f true) Q E s₁) E s):wpAny (model prog w) A (eval (.Attribute e f pos) env) Q E s:=
 Attribute_any_ h (by rw [arm_eval_Attribute,hb])
end
def FZ (K:PySem.W.Frag) (ta:TE) (f:Str):TE:=fun σ H Q=>ta σ H fun x H1=>∃a C dx fs v,x=.ref a∧H1 a=some (.ins C dx fs)∧sk K C∧aD K C f∧fs.lookup f=some v∧Q v H1
def F0 (K:PySem.W.Frag) (ta tv:TE) (f:Str):TS:=fun D σ H=>tv σ H fun y H1=>ta σ H1 fun x H2=>∃a C dx fs,x=.ref a∧H2 a=some (.ins C dx fs)∧sk K C∧aD K C f∧fs.length < 1000∧
 D.nx σ (upd H2 a (.ins C dx (bH f y fs)))
def EG (X:Cx) (op:Operator) (rd:V→V→Hp→VK→Prop):Prop:=
 ∀(pins:List (Addr × Obj)) (s:Shared) (σ:St) (H:Hp) (x y:V) (u v:Value) (Q:VK),Inv X pins σ H s→RelV x u→RelV y v→rd x y H Q→wpAny (model X.prog X.w) X.A (inplaceOp op u v) (EP X pins σ Q) X.xe s
def BJ (K:PySem.W.Frag) (ta tv:TE) (rd:V→V→Hp→VK→Prop) (f:Str):TS:=fun D σ H=>ta σ H fun x H1=>∃a C dx fs v,x=.ref a∧H1 a=some (.ins C dx fs)∧sk K C∧aD K C f∧fs.lookup f=some v∧
 tv σ H1 fun y H2=>rd v y H2 fun z H3=>∃dx' fs',H3 a=some (.ins C dx' fs')∧fs'.length < 1000∧D.nx σ (upd H3 a (.ins C dx' (bH f z fs')))
section
variable {X:Cx} {o e value:Expr} {f:Str} {pos pos' tpos:Pos} {ta tv:TE}
theorem aq (he:PE X e ta) (hb:attributeBase e f X.env (eval e X.env)=eval e X.env):PE X (.Attribute e f pos) (FZ X.K ta f):=by
 intro pins s σ H Q I h
 refine BI hb (d4 (he pins s σ H _ I h) fun u s1 ⟨x,H1,I1,rx,a,C,dx,fs,v,ex,ea,c,n,l,q⟩=>?_)
 subst ex
 obtain rfl:u=Value.ref a:=rx
 exact qW I1 ea c n l fun u' s2 I2 ru=>⟨v,H1,I2,ru,q⟩
theorem aJ (ha:PE X o ta) (hv:PE X value tv) (hs:swapsWith value (some (.Attribute o f pos')) pos.line X.env=pure false):PS X (.Assign [.Attribute o f pos'] value pos) (F0 X.K ta tv f):=by
 intro pins s σ H D I h
 refine plainObj_wpAny_Assign_Attribute (d4 (hv pins s σ H _ I h) fun u s1 ⟨y,H1,I1,ry,q⟩=>d4 (ha pins s1 σ H1 _ I1 q) fun ov s2 ⟨x,H2,I2,rx,a,C,dx,fs,ex,ea,c,n,l,q2⟩=>?_) hs
 subst ex
 obtain rfl:ov=Value.ref a:=rx
 exact qY I2 ea c n l ry fun s3 I3=>⟨σ,_,I3,q2⟩
theorem ph {op:Operator} {rd:V→V→Hp→VK→Prop} (ha:PE X o ta) (hv:PE X value tv) (hop:EG X op rd):PS X (.AugAssign (.Attribute o f tpos) op value pos) (BJ X.K ta tv rd f):=by
 intro pins s σ H D I h
 refine wpAny_AugAssign_AttributeAny (d4 (ha pins s σ H _ I h) fun ov s1 ⟨x,H1,I1,rx,a,C,dx,fs,v,ex,ea,c,n,l,q⟩=>?_)
 subst ex
 obtain rfl:ov=Value.ref a:=rx
 refine qW I1 ea c n l fun u s2 I2 ru=>d4 (hv pins s2 σ H1 _ I2 q) fun w3 s3 ⟨y,H2,I3,ry,q3⟩=>d4 (hop pins s3 σ H2 v y u w3 _ I3 ru ry q3) fun w4 s4 ⟨z,H3,I4,rz,dx',fs',ea',l',q4⟩=>?_
 exact qY I4 ea' c n l' rz fun s5 I5=>⟨σ,_,I5,q4⟩
def F1:V→V→Hp→VK→Prop:=fun x y H Q=>∃i j,x=.int i∧y=.int j∧Q (.int (i - j)) H
theorem wX:EG X .Sub F1:=by
 rintro pins s σ H x y u v Q I rx ry ⟨i,j,rfl,rfl,q⟩
 obtain ⟨t,rfl⟩:=(show ∃t,u=Value.int i t from rx)
 obtain ⟨t',rfl⟩:=(show ∃t',v=Value.int j t' from ry)
 exact PyProof.Rows.isub_int ⟨.int (i - j),H,I.tok _,⟨_,rfl⟩,q⟩
end
section
variable {X:Cx} {pins:List (Addr × Obj)} {σ:St} {H:Hp} {s:Shared} {A:Around} {E:Value→Shared→Prop} {Q:Value→Shared→Prop} {c:Value} {b:Bool}
end
end L2
namespace L2
open PySem PySem.Spec PyProof.Rows
structure fB (k:Nat) (A:Around):Prop where
 hd:A.handled=none
 dp:A.depth + 3 * k + 5 < recursionLimit
 un:A.units + 16 * k + 200 < cLine
theorem fB.mono {j k:Nat} {A:Around} (r:fB k A) (h:j≤k):fB j A:=⟨r.hd,by have:=r.dp;omega,by have:=r.un;omega⟩
theorem fB.deeper {k:Nat} {A:Around} (r:fB (k + 1) A) (env:Env):fB k (A.deeper env):=
 ⟨r.hd,by have:=r.dp;show A.depth + 1 + 3 * k + 5 < _;omega,by have:=r.un;show A.units + 3 + 16 * k + 200 < _;omega⟩
theorem wY {A:Around} {C:Addr} {us:List Value} {kw:List (Str × Value)}:(A.under (.builtin "type.__call__" ⟨.ref C :: us,kw⟩)).depth=A.depth + 1:=by
 first | rfl | simp [Around.under,Code.weight,Code.isCreation,Code.isGuard,Code.isCaller,Code.frames,Code.isFrame,guardIds]
theorem wZ {A:Around} {C:Addr} {us:List Value} {kw:List (Str × Value)}:(A.under (.builtin "type.__call__" ⟨.ref C :: us,kw⟩)).units=A.units + 1:=by
 first | rfl | simp [Around.under,Code.cUnits,Code.frames,Code.isFrame]
theorem fB.make {k:Nat} {A:Around} (r:fB (k + 1) A) (C:Addr) (us:List Value) (kw:List (Str × Value)):fB k (A.under (.builtin "type.__call__" ⟨.ref C :: us,kw⟩)):=
 ⟨r.hd,by have:=r.dp;rw [wY];omega,by have:=r.un;rw [wZ];omega⟩
theorem fB.depth {k:Nat} {A:Around} (r:fB k A):A.depth < recursionLimit:=by have:=r.dp;omega
theorem fB.units {k:Nat} {A:Around} (r:fB k A):A.units + 64 < cLine:=by have:=r.un;omega
def vb:TA:=fun _ H Q=>Q [] H
def CL (ta:TE) (tr:TA):TA:=fun σ H Q=>ta σ H fun x H1=>tr σ H1 fun xs H2=>Q (x :: xs) H2
section
variable {X:Cx} {e:Expr} {es:List Expr} {te:TE} {t:TA} {pos:Pos}
theorem ah:PA X [] vb:=fun _ _ _ _ H Q I h=>Calls.spliced_nil ⟨[],H,I,.nil,h⟩
theorem aa (ha:PE X e te) (hr:PA X es t) (hs:starEach (e :: es) X.env=(false,eval e X.env) :: starEach es X.env:=by rfl):PA X (e :: es) (CL te t):=by
 intro pos pins s σ H Q I h
 rw [hs]
 show wpAny _ _ (spliced ((false,eval e X.env) :: backTo pos (starEach es X.env))) _ _ s
 refine Calls.spliced_cons (d4 (ha pins s σ H _ I h) fun u s1 ⟨x,H1,I1,r1,q1⟩=>?_)
 exact d4 (hr pos pins s1 σ H1 _ I1 q1) fun us s2 ⟨xs,H2,I2,r2,q2⟩=>⟨x :: xs,H2,I2,.cons r1 r2,q2⟩
def F2 (t:TA):TE:=fun σ H Q=>t σ H fun xs H1=>xs.length≤sizeLine∧∀p,H1 p=none→Q (.ref p) (upd H1 p (.tup xs))
def F3 (t:TA):TE:=fun σ H Q=>t σ H fun xs H1=>xs.length≤sizeLine∧∀p,H1 p=none→Q (.ref p) (upd H1 p (.lst xs))
theorem tR {x1} (h:PA X es t):PE X (.Tuple es x1 pos) (F2 t):=by
 intro pins s σ H Q I hq
 refine wpAny_Tuple_spliced (d4 (h pos pins s σ H _ I hq) fun us s1 ⟨xs,H1,I1,r,z,q⟩=>⟨by rw [← r.length];exact z,?_⟩)
 have hf:H1 s1.heap.objs.size=none:=I1.dZ.fresh (Nat.le_refl _)
 refine ⟨.ref s1.heap.objs.size,upd H1 s1.heap.objs.size (.tup xs),I1.laid (t':=s1.toks) (fun b u e=>Heap.get?_push_of_some _ e) (Nat.le_refl _) ?_,rfl,q _ hf⟩
 exact ⟨z,us,r,⟨_,Heap.get?_push_size _ rfl,rfl,_,rfl⟩⟩
theorem b0 (h:PA X es t):PE X (.List es pos) (F3 t):=by
 intro pins s σ H Q I hq
 refine wpAny_List_spliced (d4 (h pos pins s σ H _ I hq) fun us s1 ⟨xs,H1,I1,r,z,q⟩=>⟨by rw [← r.length];exact z,?_⟩)
 have hf:H1 s1.heap.objs.size=none:=I1.dZ.fresh (Nat.le_refl _)
 refine ⟨.ref s1.heap.objs.size,upd H1 s1.heap.objs.size (.lst xs),I1.laid (t':=s1.toks) (fun b u e=>Heap.get?_push_of_some _ e) (Nat.le_refl _) ?_,rfl,q _ hf⟩
 exact ⟨z,us,0,r,Heap.get?_push_size _ rfl⟩
end
abbrev Sp:=List V→Hp→VK→XK→Prop
abbrev zu:=List Env→Hp→Shared→XK→Value→Shared→Prop
structure w6 (P:Program) (w:World) (K:PySem.W.Frag) (mg:Str→Option Value) (base:Heap) (A:Around) (outer:List Env) (s:Shared) (H:Hp):Prop where
 frames:A.frames=some outer
 mod:Mod K mg base
 bs:∀b o,base.get? b=some o→s.heap.get? b=some o∧H b=none
 BF:base.objs.size≤s.heap.objs.size
 qf:s.heap.FunFrames base outer
 Dj:∀b∈AD outer,H b=none
 dZ:nP P w H s.heap
 bare:AllBare s.gens
def CE (outer:List Env) (P:Program) (w:World) (H:Hp) (s:Shared) (Q:VK) (u:Value) (s':Shared):Prop:=
 ∃v H',s'.os=s.os∧AllBare s'.gens∧Un (AD outer) [] H H' s.heap s'.heap∧nP P w H' s'.heap∧RelV v u∧Q v H'
def CR (CX:zu) (outer:List Env) (P:Program) (w:World) (H:Hp) (s:Shared) (Q:VK) (E:XK) (r:Result) (s':Shared):Prop:=
 match r with
 | .ok (.ret u)=>CE outer P w H s Q u s'
 | .ok _=>False
 | .error e=>CX outer H s E e s'
structure iq (P:Program) (w:World) (K:PySem.W.Frag) (mg:Str→Option Value) (base:Heap) (CX:zu) (k:Nat) (f:Addr) (fd:FuncData) (ps:List Str) (sp:Sp):Prop where
 len:∀vs H Q E,sp vs H Q E→vs.length=ps.length
 run:∀(A:Around) (outer:List Env) (s:Shared) (H:Hp) (args:Args) (us:List Value) (vs:List V) (Q:VK) (E:XK),fB k A→w6 P w K mg base A outer s H→BindsTo s fd args (ps.zip us)→Vals vs us→sp vs H Q E→
  codeAny (model P w) A (.call (.ref f) args) (CR CX outer P w H s Q E) s
theorem iq.mono {P:Program} {w:World} {K:PySem.W.Frag} {mg:Str→Option Value} {base:Heap} {CX:zu} {j k:Nat} {f:Addr} {fd:FuncData} {ps:List Str} {sp:Sp} (F:iq P w K mg base CX j f fd ps sp) (h:j≤k) :
  iq P w K mg base CX k f fd ps sp:=⟨F.len,fun A outer s H args us vs Q E hr=>F.run A outer s H args us vs Q E (hr.mono h)⟩
theorem w6.make {P:Program} {w:World} {K:PySem.W.Frag} {mg:Str→Option Value} {base:Heap} {A:Around} {outer:List Env} {s:Shared} {H:Hp} (e:w6 P w K mg base A outer s H) (C:Addr) (us:List Value) (kw:List (Str × Value)) :
  w6 P w K mg base (A.under (.builtin "type.__call__" ⟨.ref C :: us,kw⟩)) outer s H:=⟨by first | exact e.frames | (simpa [Around.under,Code.envs,Code.isFrame,pushEnvs] using e.frames),e.mod,e.bs,e.BF,e.qf,e.Dj,e.dZ,e.bare⟩
section
variable {X:Cx} {pins:List (Addr × Obj)} {σ:St} {H:Hp} {s s':Shared}
theorem Inv.EH (I:Inv X pins σ H s):w6 X.prog X.w X.K X.mg X.base X.A X.stack s H:=
 ⟨I.ok.frames,I.ok.mod,I.bs,Nat.le_trans I.ok.BF I.sz,I.stack,I.x_,I.dZ,I.bare⟩
theorem Inv.after {Q:VK} {u:Value} (I:Inv X pins σ H s) (h:CE X.stack X.prog X.w H s Q u s'):EP X pins σ Q u s':=by
 obtain ⟨v,H',os,bare,un,dZ,r,q⟩:=h
 obtain ⟨hh,g,d,t,os'⟩:=s'
 obtain rfl:os'=s.os:=os
 exact ⟨v,H',I.call (h':=hh) (g':=g) (d':=d) (t':=t) (ch:=[]) un dZ bare (fun b z=>absurd z (by simp)),r,q⟩
end
def yk (sp:Sp) (dvs:List V) (E:XK) (t:TA):TE:=fun σ H Q=>t σ H fun vs H1=>sp (vs++dvs) H1 Q E
def vc (C:Addr) (m:Str) (sp:Sp) (dvs:List V) (E:XK) (ta:TE) (t:TA):TE:=fun σ H Q=>ta σ H fun x H1=>∃a dx fs,x=.ref a∧H1 a=some (.ins C dx fs)∧fs.lookup m=none∧
 t σ H1 fun vs H2=>sp (x :: (vs++dvs)) H2 Q E
def ym (C:Addr) (sp:Sp) (dvs:List V) (E:XK) (t:TA):TE:=fun σ H Q=>t σ H fun vs H1=>∀x dx,H1 x=none→H1 dx=none→dx≠x→
 sp (.ref x :: (vs++dvs)) (upd (upd H1 dx (.own x)) x (.ins C dx [])) (fun v H2=>v=.cD∧Q (.ref x) H2) E
def Binds (K:PySem.W.Frag) (fd:FuncData) (ps:List Str) (ds:List Value):Prop:=
 ∀(s:Shared) (us:List Value),K.In s.heap→(us++ds).length=ps.length→BindsTo s fd ⟨us,[]⟩ (ps.zip (us++ds))
theorem Binds.all {K:PySem.W.Frag} {fd:FuncData} {ps:List Str} (h:∀us:List Value,us.length=ps.length→bindArgs fd ⟨us,[]⟩=pure (ps.zip us)):Binds K fd ps []:=fun s us _ hl=>by
 rw [List.append_nil] at hl ⊢
 exact .of_eq (h us hl)
def Passes (CX:zu) (X:Cx) (E:XK):Prop:=∀(pins:List (Addr × Obj)) (σ:St) (H:Hp) (s:Shared) (e:Value) (s':Shared),Inv X pins σ H s→CX X.stack H s E e s'→X.xe e s'
section
variable {X:Cx} {CX:zu} {k:Nat} {f C:Addr} {fd:FuncData} {ps:List Str} {sp:Sp} {dvs:List V} {ds:List Value} {E:XK} {x m:Str} {p pos apos:Pos} {e o:Expr} {es:List Expr} {ta:TE} {t:TA}
theorem qZ {pins:List (Addr × Obj)} {σ:St} {H:Hp} {s:Shared} {Q:VK} {us:List Value} {vs:List V} (F:iq X.prog X.w X.K X.mg X.base CX k f fd ps sp) (hr:fB k X.A) (hb:Binds X.K fd ps ds) (hd:Vals dvs ds) (hx:Passes CX X E)
  (I:Inv X pins σ H s) (r:Vals vs us) (h:sp (vs++dvs) H Q E):wpAny (model X.prog X.w) X.A (call (.ref f) us) (EP X pins σ Q) X.xe s:=by
 have r2:Vals (vs++dvs) (us++ds):=r.append hd
 have hl:(us++ds).length=ps.length:=by rw [← r2.length];exact F.len _ _ _ _ h
 refine wpAny_call (codeAny_mono (F.run X.A X.stack s H ⟨us,[]⟩ (us++ds) (vs++dvs) Q E hr I.EH (hb s us I.uY hl) r2 h) fun r s' hq=>?_)
 cases r with
 | error e=>exact hx pins σ H s e s' I hq
 | ok fl=>
  cases fl with
  | ret u=>exact I.after hq
  | next=>exact False.elim hq
  | brk=>exact False.elim hq
  | cont=>exact False.elim hq
theorem BK (F:iq X.prog X.w X.K X.mg X.base CX k f fd ps sp) (hr:fB k X.A) (hg:Gl X x) (hm:X.mg x=some (.ref f)) (hk:PySem.W.keepIn X.K (.ref f)=true) (hb:Binds X.K fd ps ds) (hd:Vals dvs ds) (hx:Passes CX X E)
  (ha:PA X (e :: es) t) (hdb:(x == ("__debug__":Str))=false:=by decide) (he:starEach (e :: es) X.env=(false,eval e X.env) :: starEach es X.env:=by rfl) (hpl:(backTo pos (starEach es X.env)).any (·.1)=false:=by rfl) :
  PE X (.Call (.Name x p) (e :: es) [] pos) (yk sp dvs E t):=by
 intro pins s σ H Q I h
 refine wpAny_Call_Name_kw (kz I hg hm ?_ hdb)
 refine PySem.W.callWith_K (h₀:=X.base) I.ok.mod.Ed hk (d4 (ha pos pins s σ H _ I h) fun us s1 ⟨vs,H1,I1,r,q⟩=>⟨I1.uY,?_⟩) he hpl
 exact qZ F hr hb hd hx I1 r q
theorem AR (F:iq X.prog X.w X.K X.mg X.base CX k f fd ps sp) (hr:fB k X.A) (hg:Gl X x) (hm:X.mg x=some (.ref f)) (hk:PySem.W.keepIn X.K (.ref f)=true) (hb:Binds X.K fd ps ds) (hd:Vals dvs ds) (hx:Passes CX X E)
  (hdb:(x == ("__debug__":Str))=false:=by decide):PE X (.Call (.Name x p) [] [] pos) (yk sp dvs E vb):=by
 intro pins s σ H Q I h
 refine wpAny_Call_Name_kw (kz I hg hm ?_ hdb)
 exact PySem.W.callWith_K0 I.uY hk (qZ (us:=[]) F hr hb hd hx I .nil h)
theorem BL {pl:Sem Bool} (he:PE X o ta) (c:sk X.K C) (hm:Meth X.K C m f) (F:iq X.prog X.w X.K X.mg X.base CX k f fd ps sp) (hr:fB k X.A) (hb:Binds X.K fd ps ds) (hd:Vals dvs ds) (hx:Passes CX X E) (ha:PA X (e :: es) t)
  (hst:starEach (e :: es) X.env=(false,eval e X.env) :: starEach es X.env:=by rfl) (hpl:(backTo pos (starEach es X.env)).any (·.1)=false:=by rfl)
  (ht:eval (.Call (.Attribute o m apos) (e :: es) [] pos) X.env=(do
   let ov ← eval o X.env
   standAt apos.atName
   let (f,first) ← holding [ov] (getMethod ov m pl)
   callWith pos f first (backTo pos (starEach (e :: es) X.env)) (backToKw pos (keywordEach [] X.env))):=by rfl) :
  PE X (.Call (.Attribute o m apos) (e :: es) [] pos) (vc C m sp dvs E ta t):=by
 intro pins s σ H Q I h
 refine PySem.W.methodCall_KW (pl:=pl) (d4 (he pins s σ H _ I h) fun u s1 ⟨x,H1,I1,rx,a,dx,fs,ex,ea,l,q⟩=>?_) ht
 subst ex
 obtain rfl:u=Value.ref a:=rx
 refine qX I1 ea c hm l ?_
 refine PySem.W.callWith_K (first:=[.ref a]) (h₀:=X.base) I.ok.mod.Ed hm.kp (d4 (ha pos pins s1 σ H1 _ I1 q) fun us s2 ⟨vs,H2,I2,r,q2⟩=>⟨I2.uY,?_⟩) hst hpl
 exact qZ (us:=.ref a :: us) (vs:=.ref a :: vs) F hr hb hd hx I2 (.cons rfl r) q2
theorem AS {pl:Sem Bool} (he:PE X o ta) (c:sk X.K C) (hm:Meth X.K C m f) (F:iq X.prog X.w X.K X.mg X.base CX k f fd ps sp) (hr:fB k X.A) (hb:Binds X.K fd ps ds) (hd:Vals dvs ds) (hx:Passes CX X E)
  (ht:eval (.Call (.Attribute o m apos) [] [] pos) X.env=(do
   let ov ← eval o X.env
   standAt apos.atName
   let (f,first) ← holding [ov] (getMethod ov m pl)
   callWith pos f first (backTo pos (starEach [] X.env)) (backToKw pos (keywordEach [] X.env))):=by rfl) :
  PE X (.Call (.Attribute o m apos) [] [] pos) (vc C m sp dvs E ta vb):=by
 intro pins s σ H Q I h
 refine PySem.W.methodCall_KW (pl:=pl) (d4 (he pins s σ H _ I h) fun u s1 ⟨x,H1,I1,rx,a,dx,fs,ex,ea,l,q⟩=>?_) ht
 subst ex
 obtain rfl:u=Value.ref a:=rx
 refine qX I1 ea c hm l ?_
 exact PySem.W.callWith_K0 (first:=[.ref a]) I1.uY hm.kp (qZ (us:=[.ref a]) (vs:=[.ref a]) F hr hb hd hx I1 (.cons rfl .nil) q)
structure Mk (K:PySem.W.Frag) (C f:Addr):Prop where
 makes:PySem.W.makesIn K C=true
 init:PySem.W.findIn K (.ref C) "__init__"=some (some (.ref f))
 fn:PySem.W.isFn K (.ref f)=true
 kp:PySem.W.keepIn K (.ref C)=true
theorem vd {pins:List (Addr × Obj)} {σ:St} {H:Hp} {s:Shared} {Q:VK} {us:List Value} {vs:List V} (M:Mk X.K C f) (F:iq X.prog X.w X.K X.mg X.base CX k f fd ps sp) (hr:fB (k + 1) X.A) (hb:Binds X.K fd ps ds) (hd:Vals dvs ds)
  (hx:Passes CX X E) (I:Inv X pins σ H s) (r:Vals vs us)
  (h:∀x dx,H x=none→H dx=none→dx≠x→sp (.ref x :: (vs++dvs)) (upd (upd H dx (.own x)) x (.ins C dx [])) (fun v H2=>v=.cD∧Q (.ref x) H2) E) :
  wpAny (model X.prog X.w) X.A (call (.ref C) us) (EP X pins σ Q) X.xe s:=by
 have hq:=h (s.heap.objs.size + 1) s.heap.objs.size (I.dZ.fresh (Nat.le_succ _)) (I.dZ.fresh (Nat.le_refl _)) (Nat.ne_of_lt (Nat.lt_succ_self _))
 have I2:=Inv.made (C:=C) I
 have r2:Vals (V.ref (s.heap.objs.size + 1) :: (vs++dvs)) (Value.ref (s.heap.objs.size + 1) :: (us++ds)):=.cons rfl (r.append hd)
 have hl:(Value.ref (s.heap.objs.size + 1) :: us++ds).length=ps.length:=by
  have e:=r2.length
  rw [F.len _ _ _ _ hq] at e
  exact e.symm
 refine wpAny_call (AQ (f:=f) I.uY M.makes M.init (beq_iff_eq.mp M.fn) (codeAny_mono (F.run _ X.stack _ _ ⟨Value.ref (s.heap.objs.size + 1) :: us,[]⟩ (Value.ref (s.heap.objs.size + 1) :: (us++ds)) _ _ E (hr.make C us [])
  (I2.EH.make C us []) (hb _ (Value.ref (s.heap.objs.size + 1) :: us) I2.uY hl) r2 hq) fun r s' hq'=>?_))
 cases r with
 | error e=>exact hx pins σ _ _ e s' I2 hq'
 | ok fl=>
  cases fl with
  | ret u=>
   obtain ⟨v,H',I3,rv,ev,q3⟩:=I2.after hq'
   subst ev
   exact ⟨rv,⟨V.ref (s.heap.objs.size + 1),H',I3,rfl,q3⟩⟩
  | next=>exact False.elim hq'
  | brk=>exact False.elim hq'
  | cont=>exact False.elim hq'
theorem BM (M:Mk X.K C f) (F:iq X.prog X.w X.K X.mg X.base CX k f fd ps sp) (hr:fB (k + 1) X.A) (hg:Gl X x) (hm:X.mg x=some (.ref C)) (hb:Binds X.K fd ps ds) (hd:Vals dvs ds) (hx:Passes CX X E)
  (ha:PA X (e :: es) t) (hdb:(x == ("__debug__":Str))=false:=by decide) (he:starEach (e :: es) X.env=(false,eval e X.env) :: starEach es X.env:=by rfl) (hpl:(backTo pos (starEach es X.env)).any (·.1)=false:=by rfl) :
  PE X (.Call (.Name x p) (e :: es) [] pos) (ym C sp dvs E t):=by
 intro pins s σ H Q I h
 refine wpAny_Call_Name_kw (kz I hg hm ?_ hdb)
 refine PySem.W.callWith_K (h₀:=X.base) I.ok.mod.Ed M.kp (d4 (ha pos pins s σ H _ I h) fun us s1 ⟨vs,H1,I1,r,q⟩=>⟨I1.uY,?_⟩) he hpl
 exact vd M F hr hb hd hx I1 r q
theorem AU (M:Mk X.K C f) (F:iq X.prog X.w X.K X.mg X.base CX k f fd ps sp) (hr:fB (k + 1) X.A) (hg:Gl X x) (hm:X.mg x=some (.ref C)) (hb:Binds X.K fd ps ds) (hd:Vals dvs ds) (hx:Passes CX X E)
  (hdb:(x == ("__debug__":Str))=false:=by decide):PE X (.Call (.Name x p) [] [] pos) (ym C sp dvs E vb):=by
 intro pins s σ H Q I h
 refine wpAny_Call_Name_kw (kz I hg hm ?_ hdb)
 exact PySem.W.callWith_K0 I.uY M.kp (vd (us:=[]) M F hr hb hd hx I .nil h)
end
section
variable {X:Cx} {CX:zu} {k:Nat} {f C:Addr} {fd:FuncData} {ps ks:List Str} {sp:Sp} {E:XK} {x m:Str} {p pos apos kpos:Pos} {e o:Expr} {es:List Expr} {kws:List Keyword} {te ta:TE} {t tk:TA} {nm:Option Str}
variable {g:List Value→List Value→List Value} {gV:List V→List V→List V}
end
structure aB (N P:List Str) (sc:Scope):Prop where
 kind:sc.kind=.function
 co:sc.isCoroutine=false
 gen:sc.isGenerator=false
 nd:N.Nodup
 pre:N.take P.length=P
 par:∀x∈P,sc.names.lookup x=some .local∨sc.names.lookup x=some .cell
 Dy:∀y∈sc.names,y.2≠.free
theorem sZ {kindOf:Str→Option NameKind} {x:Str}:∀{binds:List (Str × Value)} {m:Str→Option Value},(∀v,(x,v)∉binds)→bindL kindOf binds m x=m x
 | [],_,_=>rfl
 | (n,v) :: r,m,h=>by
  unfold bindL
  rw [sZ fun w hw=>h w (List.mem_cons_of_mem _ hw)]
  split
  ·have:x≠n:=by rintro rfl;exact h v List.mem_cons_self
   simp [this]
  ·rfl
theorem s_ {kindOf:Str→Option NameKind} {x:Str}:∀{binds:List (Str × Value)} {m:Str→Option Value},(∀v,(x,v)∉binds)→bindC kindOf binds m x=m x
 | [],_,_=>rfl
 | (n,v) :: r,m,h=>by
  unfold bindC
  rw [s_ fun w hw=>h w (List.mem_cons_of_mem _ hw)]
  split
  ·rfl
  ·have:x≠n:=by rintro rfl;exact h v List.mem_cons_self
   simp [this]
theorem tf {kindOf:Str→Option NameKind} {x:Str} {v:Value}:∀{P:List Str} {vs:List Value} {i:Nat} {m:Str→Option Value},P.Nodup→P[i]?=some x→vs[i]?=some v→kindOf x=some .local→
  bindL kindOf (P.zip vs) m x=some v
 | [],_,_,_,_,h,_,_=>by simp at h
 | _ :: _,[],_,_,_,_,h,_=>by simp at h
 | p :: P,w :: vs,0,m,nd,h1,h2,hk=>by
  simp at h1 h2;subst h1;subst h2
  show bindL kindOf ((p,w) :: P.zip vs) m p=_
  unfold bindL
  rw [sZ fun v hv=>(List.nodup_cons.mp nd).1 (List.of_mem_zip hv).1,if_pos hk]
  simp
 | p :: P,w :: vs,i + 1,m,nd,h1,h2,hk=>by
  show bindL kindOf ((p,w) :: P.zip vs) m x=_
  unfold bindL
  exact tf (i:=i) (List.nodup_cons.mp nd).2 (by simpa using h1) (by simpa using h2) hk
theorem tj {kindOf:Str→Option NameKind} {x:Str} {v:Value}:∀{P:List Str} {vs:List Value} {i:Nat} {m:Str→Option Value},P.Nodup→P[i]?=some x→vs[i]?=some v→kindOf x≠some .local→
  bindC kindOf (P.zip vs) m x=some v
 | [],_,_,_,_,h,_,_=>by simp at h
 | _ :: _,[],_,_,_,_,h,_=>by simp at h
 | p :: P,w :: vs,0,m,nd,h1,h2,hk=>by
  simp at h1 h2;subst h1;subst h2
  show bindC kindOf ((p,w) :: P.zip vs) m p=_
  unfold bindC
  rw [s_ fun v hv=>(List.nodup_cons.mp nd).1 (List.of_mem_zip hv).1,if_neg hk]
  simp
 | p :: P,w :: vs,i + 1,m,nd,h1,h2,hk=>by
  show bindC kindOf ((p,w) :: P.zip vs) m x=_
  unfold bindC
  exact tj (i:=i) (List.nodup_cons.mp nd).2 (by simpa using h1) (by simpa using h2) hk
def start (N:List Str) (vs:List V):St:=vs.map some++List.replicate (N.length - vs.length) none
def zw (CX:zu) (P:Program) (w:World) (K:PySem.W.Frag) (mg:Str→Option Value) (base:Heap) (N:List Str) (qual:Str) (scope:Scope) (f:Addr) (cd:Value) (A:Around) (outer:List Env) (s:Shared) (H:Hp) (E:XK):Cx where
 prog:=P
 w:=w
 K:=K
 mg:=mg
 base:=base
 A:=A.deeper (envOfC qual scope s.heap.objs.size f cd)
 N:=N
 sW:=s
 Di:=H
 env:=envOfC qual scope s.heap.objs.size f cd
 outer:=outer
 stack:=envOfC qual scope s.heap.objs.size f cd :: outer
 ex:=[]
 calm:=true
 fn:=fun _=>true
 pn:=[]
 xe:=fun e s'=>wpAny (model P w) (A.deeper (envOfC qual scope s.heap.objs.size f cd)) (leaving (envOfC qual scope s.heap.objs.size f cd) e) (fun _ s''=>CX outer H s E e s'') (fun e' s''=>CX outer H s E e' s'') s'
theorem ve {sc:Scope} {n:Nat} {x:Str} (h:sc.names.lookup x=some .cell):∃c,(cellsFrom n sc.names []).lookup x=some c:=by
 have q:=PySem.W.cellsFrom_some sc.names n [] (.inl h)
 exact Option.isSome_iff_exists.mp q
theorem zx {CX:zu} {P:Program} {w:World} {K:PySem.W.Frag} {mg:Str→Option Value} {base:Heap} {N ps:List Str} {qual:Str} {scope:Scope} {f:Addr} {cd:Value} {A:Around} {outer:List Env} {s s1:Shared} {H:Hp} {E:XK} {us:List Value} {vs:List V}
  (S:aB N ps scope) (hd:A.handled=none) (e0:w6 P w K mg base A outer s H) (hl:vs.length=ps.length) (r:Vals vs us)
  (x:InCallC s s.heap.objs.size (bindL (envOfC qual scope s.heap.objs.size f cd).kindOf (ps.zip us) fun _=>none) (cellsFrom (s.heap.objs.size + 1) scope.names []) (bindC (envOfC qual scope s.heap.objs.size f cd).kindOf (ps.zip us) fun _=>none) s1) :
  Inv (zw CX P w K mg base N qual scope f cd A outer s H E) [] (start N vs) H s1:=by
 have hpl:ps.length≤N.length:=by have:=congrArg List.length S.pre;rw [List.length_take] at this;omega
 obtain ⟨h1,tk,rfl,hk⟩:=x.done
 have noA:∀b:Addr,b∉(zw CX P w K mg base N qual scope f cd A outer s H E).ex:=fun b z=>absurd (show b∈([]:List Addr) from z) (by simp)
 refine ⟨⟨e0.mod,S.kind,rfl,rfl,Nat.le_refl _,fun y z c h1 h2=>?_,fun y hy=>?_,fun y c _ h=>?_,fun _=>hd,Around.frames_deeper e0.frames,.inr ⟨rfl,rfl⟩,fun b z=>absurd z (noA b),e0.bs,e0.BF,fun b _ _=>noA b,fun b z=>absurd z (noA b),e0.qf,e0.Dj⟩,
  rfl,e0.bare,Un.kept hk,⟨_,x.toInCall.ns,fun i y v h1 h2 h3=>?_⟩,fun y c h=>⟨_,x.cell y c h⟩,e0.dZ.fresh (Nat.le_refl _),fun y c h=>?_,fun p hp=>absurd (show p∈([]:List (Addr × Obj)) from hp) (by simp),e0.dZ.kept hk,?_⟩
 ·exact name_of_addr x.apart (PySem.mem_of_lookup h1) (PySem.mem_of_lookup h2)
 ·have hy:scope.names.lookup y=some .cell∨scope.names.lookup y=some .free:=hy
  rcases hy with hy | hy
  ·exact ve hy
  ·exact absurd rfl (S.Dy _ (PySem.mem_of_lookup hy))
 ·exact Nat.le_of_lt (x.above y c (PySem.mem_of_lookup h))
 ·have hi:i < vs.length:=by
   unfold start at h2
   by_cases hi:i < vs.length
   ·exact hi
   ·rw [List.getElem?_append_right (by simpa using hi)] at h2
    rw [List.getElem?_replicate] at h2
    split at h2 <;> cases h2
  have ha:vs[i]?=some v:=by
   unfold start at h2
   rw [List.getElem?_append_left (by simpa using hi),List.getElem?_map] at h2
   cases e:vs[i]? with
   | none=>rw [e] at h2;cases h2
   | some a=>rw [e] at h2;cases h2;rfl
  obtain ⟨u,hu,rv⟩:=r.get ha
  have hp:ps[i]?=some y:=by
   rw [← S.pre,List.getElem?_take_of_lt (by omega)];exact h1
  have ndP:ps.Nodup:=by rw [← S.pre];exact S.nd.sublist (List.take_sublist _ _)
  refine ⟨u,rv,?_⟩
  rcases S.par y (List.mem_of_getElem? hp) with k | k
  ·exact .inl ⟨k,tf ndP hp hu k⟩
  ·obtain ⟨c,e⟩:=ve (n:=s.heap.objs.size + 1) k
   refine .inr ⟨.inl k,c,e,?_⟩
   have q:=x.cell y c e
   rw [tj ndP hp hu (by show scope.names.lookup y≠_;rw [k];decide)] at q
   exact q
 ·exact e0.dZ.fresh (Nat.le_of_lt (x.above y c (PySem.mem_of_lookup h)))
 ·unfold start
  show _=N.length
  rw [List.length_append,List.length_map,List.length_replicate]
  omega
theorem EI {CX:zu} {P:Program} {w:World} {K:PySem.W.Frag} {mg:Str→Option Value} {base:Heap} {k:Nat} {f:Addr} {name qual:Str} {params:Arguments} {body:List Stmt} {scope:Scope} {dV kV doc pm cdv ct oc:Value} {an od:Option Addr}
  {osl:Array (Option Value)} {N ps:List Str} {sp:Sp} (lk:K.lookup f=some ⟨oc,od,.func (PySem.W.fnOf name qual params body scope dV kV doc pm an cdv ct),osl⟩) (hcd:PySem.W.codeIn K cdv qual=true) (S:aB N ps scope)
  (len:∀vs H Q E,sp vs H Q E→vs.length=ps.length)
  (hbody:∀(A:Around) (outer:List Env) (s:Shared) (H:Hp) (vs:List V) (Q:VK) (E:XK),fB k (A.deeper (envOfC qual scope s.heap.objs.size f cdv))→sp vs H Q E→
   ∃t,zi (zw CX P w K mg base N qual scope f cdv A outer s H E) body t∧t { nx:=fun _ H'=>Q .cD H',rt:=Q } (start N vs) H) :
  iq P w K mg base CX (k + 1) f (PySem.W.fnOf name qual params body scope dV kV doc pm an cdv ct) ps sp:=by
 refine ⟨len,fun A outer s H args us vs Q E hr e0 hb r hsp=>?_⟩
 have hl:=len _ _ _ _ hsp
 have KX:K.In s.heap:=e0.mod.Ed.keeps fun b o e=>(e0.bs b o e).1
 have lim:s.heap.NoLimit:=e0.mod.nolimit.keeps fun b o e=>(e0.bs b o e).1
 have hkind:∀y∈ps.zip us,scope.names.lookup y.1=some .local∨(scope.names.lookup y.1=some .cell∧((cellsFrom (s.heap.objs.size + 1) scope.names []).lookup y.1).isSome=true):=fun ⟨n,v⟩ hy=>by
  rcases S.par n (List.of_mem_zip hy).1 with q | q
  ·exact .inl q
  ·exact .inr ⟨q,PySem.W.cellsFrom_some _ _ _ (.inl q)⟩
 refine codeAny_call_function hr.depth (KX _ _ lk) rfl S.co S.gen rfl (PySem.W.codeRec_of KX hcd) (hb _ _ _ _ ?_)
 refine wpAny_newFunctionEnv_cells S.kind hkind fun env he s1 x=>?_
 subst he
 refine ⟨lim.keeps x.toInCall.keep,codeAny_func ?_⟩
 obtain ⟨t,ht,hq⟩:=hbody A outer s H vs Q E (hr.deeper _) hsp
 have I:Inv (zw CX P w K mg base N qual scope f cdv A outer s H E) [] (start N vs) H s1:=zx S hr.hd e0 hl r x
 refine wpAny_mono (ht [] s1 (start N vs) H _ I hq) (fun fl s' hs=>?_) fun e s' hs=>hs
 have fin:∀{σ':St} {H':Hp} {v:V} {u:Value},Inv (zw CX P w K mg base N qual scope f cdv A outer s H E) [] σ' H' s'→RelV v u→Q v H'→CE outer P w H s Q u s':=
  fun {σ' H' v u} J rv q=>⟨v,H',J.os,J.bare,J.base,J.dZ,rv,q⟩
 cases fl with
 | ret u=>
  obtain ⟨v,σ',H',J,rv,q⟩:=hs
  exact fin J rv q
 | next=>
  obtain ⟨σ',H',J,q⟩:=hs
  exact fin (v:=V.cD) (u:=Value.none) J rfl q
 | brk=>
  obtain ⟨_,_,_,q⟩:=hs
  exact False.elim q
 | cont=>
  obtain ⟨_,_,_,q⟩:=hs
  exact False.elim q
end L2
namespace L2
open PySem PySem.Spec PyProof.Rows
section
variable {X:Cx} {x:Str} {p pos:Pos} {e:Expr} {es:List Expr} {t:TA} {id T:String} {r:List V→Hp→VK→Prop}
def GO (r:List V→Hp→VK→Prop) (t:TA):TE:=fun σ H Q=>t σ H fun vs H1=>r vs H1 Q
theorem bZ (hc:ye X (.builtin id) r) (hg:Gl X x) (hm:X.mg x=none) (hv:bootBuiltins x=some (.builtin id)) (ha:PA X (e :: es) t) (hn:x≠"__name__":=by decide) (hdb:(x == ("__debug__":Str))=false:=by decide)
  (he:starEach (e :: es) X.env=(false,eval e X.env) :: starEach es X.env:=by rfl) (hpl:(backTo pos (starEach es X.env)).any (·.1)=false:=by rfl):PE X (.Call (.Name x p) (e :: es) [] pos) (GO r t):=by
 intro pins s σ H Q I h
 refine wpAny_Call_Name_kw (kC I hg hm hv ?_ hn hdb)
 exact PyProof.Rows.callWith_builtin1 (d4 (ha pos pins s σ H _ I h) fun us s1 ⟨vs,H1,I1,r1,q1⟩=>hc pins s1 σ H1 vs us Q I1 r1 q1) he hpl
end
end L2
namespace HT
open PySem PyProof.Rows
section
open PySem.SeqAt
open PySem.AutoSeq1 (wpAny_loadPart')
open PySem.MeetsSeq PySem.MeetsSeq2 PySem.MeetsSeq3
end
section
variable {prog:Program} {w:World} {A:Around} {E:Value→Shared→Prop} {s:Shared}
def vf (n d:Nat):Option Int→Nat
 | none=>d
 | some v=>if v < 0 then (v + (n:Int)).toNat else min v.toNat n
theorem vg (n d:Nat):vf n d none=d:=rfl
theorem qB (n d k:Nat):vf n d (some (k:Int))=min k n:=by
 show (if (k:Int) < 0 then ((k:Int) + (n:Int)).toNat else min (k:Int).toNat n)=min k n
 rw [if_neg (by omega),Int.toNat_natCast]
end
end HT
namespace L2
open PySem PySem.Spec PyProof.Rows
abbrev TO:=St→Hp→(Option Int→Hp→Prop)→Prop
def PO (X:Cx) (e:Option Expr) (t:TO):Prop:=
 ∀(pins:List (Addr × Obj)) (s:Shared) (σ:St) (H:Hp) (Q:Option Int→Hp→Prop),Inv X pins σ H s→t σ H Q→
  wpAny (model X.prog X.w) X.A (evalPart e X.env) (fun u s'=>∃o H',Inv X pins σ H' s'∧IsPart u o∧Q o H') X.xe s
def BN:TO:=fun _ H Q=>Q none H
def EJ (t:TE):TO:=fun σ H Q=>t σ H fun x H1=>∃i,x=.int i∧Q (some i) H1
section
variable {X:Cx} {e:Expr} {te:TE} {lo hi:Option Expr} {tl th:TO} {pos p2:Pos}
theorem kF:PO X none BN:=by
 intro pins s σ H Q I h
 rw [evalPart_none]
 exact wpAny_pure ⟨none,H,I,.none,h⟩
theorem dj (h:PE X e te):PO X (some e) (EJ te):=by
 intro pins s σ H Q I hw
 rw [evalPart_some]
 refine d4 (h pins s σ H _ I hw) fun u s1 ⟨x,H1,I1,r1,q1⟩=>?_
 obtain ⟨i,rfl,q⟩:=q1
 obtain ⟨t,rfl⟩:=r1
 exact ⟨some i,H1,I1,.int i t,q⟩
def Gx (X:Cx) (r:V→Option Int→Option Int→Hp→VK→Prop):Prop:=
 ∀(pins:List (Addr × Obj)) (s:Shared) (σ:St) (H:Hp) (x:V) (v vl vu:Value) (lo hi:Option Int) (sl:Addr) (Q:VK),Inv X pins σ H s→RelV x v→s.heap.IsSliceOf sl vl vu .none→IsPart vl lo→IsPart vu hi→r x lo hi H Q→
  ∃T id,typeLookup (.type T) "__getitem__"=pure (some (.builtin id))∧s.TypeIs v T∧wpAny (model X.prog X.w) X.A (getItem v (.ref sl)) (EP X pins σ Q) X.xe s
def GP (r:V→Option Int→Option Int→Hp→VK→Prop) (te:TE) (tl th:TO):TE:=fun σ H Q=>te σ H fun x H1=>tl σ H1 fun l H2=>th σ H2 fun u H3=>r x l u H3 Q
theorem ee {r:V→Option Int→Option Int→Hp→VK→Prop} (hr:Gx X r) (he:PE X e te) (hl:PO X lo tl) (hu:PO X hi th):PE X (.Subscript e (.Slice lo hi none p2) pos) (GP r te tl th):=by
 intro pins s σ H Q I h
 refine Subscript_ (d4 (he pins s σ H _ I h) fun v s1 ⟨x,H1,I1,r1,q1⟩=>?_)
 refine wpAny_Slice (d4 (hl pins s1 σ H1 _ I1 q1) fun vl s2 ⟨l,H2,I2,pl,q2⟩=>d4 (hu pins s2 σ H2 _ I2 q2) fun vu s3 ⟨u,H3,I3,pu,q3⟩=>?_)
 rw [evalPart_none]
 refine wpAny_pure ?_
 have I4:Inv X pins σ H3 { s3 with heap:=s3.heap.push { cls:=.type "slice",data:=.fields #[vl,vu,.none] } }:=I3.kept (t':=s3.toks) fun b ob q=>Heap.get?_push_of_some _ q
 obtain ⟨T,id,hT,ht,hg⟩:=hr pins { s3 with heap:=s3.heap.push { cls:=.type "slice",data:=.fields #[vl,vu,.none] } } σ H3 x v vl vu l u s3.heap.objs.size Q I4 r1 (Heap.IsSliceOf.new ..) pl pu q3
 show wpAny (model X.prog X.w) X.A (subscriptTail e (.Slice lo hi none p2) v (.ref s3.heap.objs.size)) (EP X pins σ Q) X.xe { s3 with heap:=s3.heap.push { cls:=.type "slice",data:=.fields #[vl,vu,.none] } }
 exact tail_any (ops:=[.ref s3.heap.objs.size,v]) ht hT hg (by with_unfolding_all rfl)
def lA (xs:List V) (lo hi:Option Int):List V:=(xs.drop (HT.vf xs.length 0 lo)).take (HT.vf xs.length xs.length hi - HT.vf xs.length 0 lo)
theorem vh (xs:List V) (lo hi:Option Int):(lA xs lo hi).length≤xs.length:=by
 unfold lA
 rw [List.length_take,List.length_drop]
 omega
end
end L2
namespace L2
open PySem PySem.Spec PyProof.Rows
def BO (n:Nat) (i:Int):Option Nat:=if 0≤i then (if i < n then some i.toNat else none) else if -(n:Int)≤i then some (i + n).toNat else none
def AV {α:Type} (xs:List α) (i:Int):Option α:=(BO xs.length i).bind fun j=>xs[j]?
theorem yn {n:Nat} {i:Int} {j:Nat} (h:BO n i=some j):seqIndex? i n=some j∧j < n∧-(n:Int)≤i∧i < n:=by
 unfold BO at h
 by_cases h0:0≤i
 ·rw [if_pos h0] at h
  by_cases h1:i < n
  ·rw [if_pos h1] at h
   have e:i.toNat=j:=Option.some.inj h
   exact ⟨by rw [seqIndex_of h0 h1,e],by omega,by omega,h1⟩
  ·rw [if_neg h1] at h;cases h
 ·rw [if_neg h0] at h
  by_cases h1:-(n:Int)≤i
  ·rw [if_pos h1] at h
   have e:(i + n).toNat=j:=Option.some.inj h
   exact ⟨by rw [seqIndex_neg (by omega) h1,e],by omega,h1,by omega⟩
  ·rw [if_neg h1] at h;cases h
theorem BP {α:Type} {xs:List α} {i:Int} {v:α} (h:AV xs i=some v):∃j,seqIndex? i xs.length=some j∧xs[j]?=some v∧j < xs.length∧-(xs.length:Int)≤i∧i < xs.length:=by
 unfold AV at h
 cases e:BO xs.length i with
 | none=>rw [e] at h;cases h
 | some j=>
  rw [e] at h
  obtain ⟨h1,h2,h3,h4⟩:=yn e
  exact ⟨j,h1,h,h2,h3,h4⟩
theorem BQ {α:Type} {xs:List α} {j:Nat} {v:α} (h:xs[j]?=some v):AV xs (j:Int)=some v:=by
 have hj:j < xs.length:=(List.getElem?_eq_some_iff.mp h).1
 have e:BO xs.length (j:Int)=some j:=by
  unfold BO
  rw [if_pos (by omega),if_pos (by omega)];simp
 unfold AV;rw [e];exact h
def BR (b:Expr):Prop:=∀o i,subscripted b false o i=operate [o,i] (getItem o i)
def Gy (X:Cx) (r:R2):Prop:=
 ∀(value slice:Expr) (pins:List (Addr × Obj)) (s:Shared) (σ:St) (H:Hp) (x y:V) (v u:Value) (Q:VK),Inv X pins σ H s→RelV x v→RelV y u→r x y H Q→
  subscripted slice false v u=operate [v,u] (getItem v u)→wpAny (model X.prog X.w) X.A (subscriptTail value slice v u) (EP X pins σ Q) X.xe s
def F4 (X:Cx) (id:String) (r:V→List V→Hp→VK→Prop):Prop:=
 ∀(pins:List (Addr × Obj)) (s:Shared) (σ:St) (H:Hp) (x:V) (xs:List V) (v:Value) (us:List Value) (Q:VK),Inv X pins σ H s→RelV x v→Vals xs us→r x xs H Q→
  wpAny (model X.prog X.w) X.A (call (.builtin id) (v :: us)) (EP X pins σ Q) X.xe s
section
variable {X:Cx} {a b:Expr} {ta tb:TE} {pos:Pos}
theorem cN {r:R2} (hr:Gy X r) (ha:PE X a ta) (hb:PE X b tb) (hs:BR b):PE X (.Subscript a b pos) (EC r ta tb):=by
 intro pins s σ H Q I h
 exact Subscript_ (Dt ha hb I h fun v u s2 x y H2 I2 rx ry q=>hr a b pins s2 σ H2 x y v u Q I2 rx ry q (hs _ _))
def EK (K:PySem.W.Frag):R2:=fun x y H Q=>∃p xs i v,x=.ref p∧y=.int i∧bV K H p xs∧AV xs i=some v∧Q v H
theorem bq:Gy X (EK X.K):=by
 intro value slice pins s σ H x y v u Q I rx ry h hs
 obtain ⟨p,xs,i,z,rfl,rfl,hq,he,q⟩:=h
 cases rx
 obtain ⟨t,rfl⟩:=ry
 obtain ⟨its,r,pl,hz⟩:=I.list hq
 obtain ⟨j,h1,h2,h3,h4,h5⟩:=BP he
 obtain ⟨w,ew,rw'⟩:=r.get h2
 have hl:=r.length
 have hn:=tP
 have fin:EP X pins σ Q w s:=⟨z,H,I,rw',q⟩
 by_cases h0:0≤i
 ·have hj:i.toNat=j:=by
   rw [seqIndex_of h0 h5] at h1
   exact Option.some.inj h1
  exact item_listR pl.isList h0 (by omega) (by rw [hj];simpa using ew) fin hs
 ·have hj:(i + (its.toArray.size:Int)).toNat=j:=by
   rw [seqIndex_neg (by omega) h4] at h1
   rw [List.size_toArray,← hl]
   exact Option.some.inj h1
  exact subscriptTail_builtinR (x:=w) pl.isList.typeIs slot_list_getitem.lookup
   (wpAny_getItem_list_neg (Q:=fun r s'=>r=w∧EP X pins σ Q r s') pl.isList (by omega) (by rw [List.size_toArray] <;> omega) (by omega) (by rw [hj];simpa using ew) ⟨rfl,fin⟩) hs
theorem w8 (its:List Value) (n j:Nat) (u:Value):Obj.mapSeq (·.setIfInBounds j u) { cls:=.type "list",data:=.seq its.toArray n }={ cls:=.type "list",data:=.seq (its.set j u).toArray n }:=by
 simp [Obj.mapSeq]
theorem Inv.lst {pins:List (Addr × Obj)} {σ:St} {H:Hp} {s:Shared} {p:Addr} {xs:List V} (I:Inv X pins σ H s) (h:H p=some (.lst xs)) :
  ∃(its:List Value) (n:Nat),Vals xs its∧s.heap.get? p=some { cls:=.type "list",data:=.seq its.toArray n }∧xs.length≤sizeLine:=by
 obtain ⟨z,its,n,r,e⟩:=I.dZ p _ h
 exact ⟨its,n,r,e,z⟩
theorem Inv.Dz {pins:List (Addr × Obj)} {σ:St} {H:Hp} {s:Shared} {p:Addr} {xs ys:List V} {its its':List Value} {n n':Nat} {f:Obj→Obj} (I:Inv X pins σ H s) (h:H p=some (.lst xs))
  (ho:s.heap.get? p=some { cls:=.type "list",data:=.seq its.toArray n }) (hf:f { cls:=.type "list",data:=.seq its.toArray n }={ cls:=.type "list",data:=.seq its'.toArray n' }) (r:Vals ys its') (hz:ys.length≤sizeLine) (t:Nat) :
  Inv X pins σ (upd H p (.lst ys)) { s with heap:=s.heap.update p f,toks:=t }:=by
 have e:(s.heap.update p f).get? p=some { cls:=.type "list",data:=.seq its'.toArray n' }:=by
  rw [Heap.get?_update_self f ho (by rw [hf] <;> rfl),hf]
 refine I.write (x:=p) (e:=p) (by rw [h];trivial) (.inl rfl) (fun b u hb q=>(Heap.get?_update_other _ _ (Ne.symm hb)).trans q) ⟨_,e⟩ ?_
 exact ⟨hz,its',n',r,e⟩
def EL:V→V→V→Hp→(Hp→Prop)→Prop:=fun o i v H Q=>∃p xs k j,o=.ref p∧i=.int k∧H p=some (.lst xs)∧BO xs.length k=some j∧Q (upd H p (.lst (xs.set j v)))
theorem set_list:Ew X EL:=by
 intro pins s σ H o i v ov iv u Q I ro ri rv h
 obtain ⟨p,xs,k,j,rfl,rfl,hp,hj,q⟩:=h
 cases ro
 obtain ⟨t,rfl⟩:=ri
 obtain ⟨its,n,r,ho,hz⟩:=I.lst hp
 obtain ⟨h1,h2,h3,h4⟩:=yn hj
 have hl:=r.length
 have hn:=tP
 have I':Inv X pins σ (upd H p (.lst (xs.set j v))) { s with heap:=s.heap.update p (Obj.mapSeq (·.setIfInBounds j u)) }:=
  I.Dz hp ho (w8 its n j u) (r.set rv j) (by rw [List.length_set];exact hz) s.toks
 by_cases h0:0≤k
 ·have hk:k.toNat=j:=by
   rw [seqIndex_of h0 h4] at h1
   exact Option.some.inj h1
  exact PySem.W.ki_setAt ho h0 (by omega) (by rw [List.size_toArray,← hl];exact h4) (by rw [hk];exact ⟨_,I',q⟩)
 ·have hk:(k + (its.toArray.size:Int)).toNat=j:=by
   rw [seqIndex_neg (by omega) h3] at h1
   rw [List.size_toArray,← hl]
   exact Option.some.inj h1
  exact PySem.W.ki_setBack ho (by omega) (by rw [List.size_toArray,← hl];exact h3) (by omega) (by rw [hk];exact ⟨_,I',q⟩)
theorem tS (lo hi:Option Int) (n:Nat):(sliceBounds lo hi none n).1=((HT.vf n 0 lo:Nat):Int)∧(sliceBounds lo hi none n).2.1=((HT.vf n n hi:Nat):Int)∧(sliceBounds lo hi none n).2.2=1:=by
 refine ⟨?_,?_,rfl⟩
 ·cases lo with
  | none=>simp [sliceBounds,HT.vf]
  | some i=>
   simp only [sliceBounds,HT.vf,Option.getD_none,show (1:Int) > 0 by decide,if_true]
   by_cases h:i < 0
   ·simp only [h,if_true] <;> omega
   ·simp only [h,if_false] <;> omega
 ·cases hi with
  | none=>simp [sliceBounds,HT.vf]
  | some i=>
   simp only [sliceBounds,HT.vf,Option.getD_none,show (1:Int) > 0 by decide,if_true]
   by_cases h:i < 0
   ·simp only [h,if_true] <;> omega
   ·simp only [h,if_false] <;> omega
theorem sr (its:List Value) (lo hi:Option Int):slicePick its.toArray lo hi none=((its.drop (HT.vf its.length 0 lo)).take (HT.vf its.length its.length hi - HT.vf its.length 0 lo)).toArray:=by
 obtain ⟨h1,h2,h3⟩:=tS lo hi its.toArray.size
 unfold slicePick
 rw [h1,h2,h3]
 simp only [sliceRange_one,pick_run,List.size_toArray] <;> rfl
def EM (K:PySem.W.Frag):V→Option Int→Option Int→Hp→VK→Prop:=fun x lo hi H Q=>∃a xs,x=.ref a∧bV K H a xs∧∀p,H p=none→Q (.ref p) (upd H p (.lst (lA xs lo hi)))
theorem fC:Gx X (EM X.K):=by
 intro pins s σ H x v vl vu lo hi sl Q I rx hs pl pu h
 obtain ⟨a,xs,rfl,hx,q⟩:=h
 cases rx
 obtain ⟨its,r,ht,hz⟩:=I.list hx
 have hlen:=r.length
 refine ⟨"list",_,slot_list_getitem.lookup,ht.isList.typeIs,?_⟩
 refine wpAny_getItem_list_slice ht.isList hs pl pu .none (by simp) ?_ (by rw [List.size_toArray] <;> omega)
 rw [sr,← hlen]
 refine ⟨.ref s.heap.objs.size,_,I.laid (t':=s.toks) (o:=.lst (lA xs lo hi)) (fun b ob q=>Heap.get?_push_of_some _ q) (Nat.le_refl _) ?_,rfl,q _ (I.dZ.fresh (Nat.le_refl _))⟩
 exact ⟨Nat.le_trans (vh xs lo hi) hz,_,0,(r.drop (HT.vf xs.length 0 lo)).take (HT.vf xs.length xs.length hi - HT.vf xs.length 0 lo),Heap.get?_push_size _ rfl⟩
def nY:V→Bool
 | .cD=>true
 | .bl _=>true
 | .int _=>true
 | .str _=>true
 | _=>false
def Ay:V→V→Bool
 | .cD,.cD=>true
 | .bl a,.bl b=>a == b
 | .bl a,.int b=>(if a then 1 else 0) == b
 | .int a,.bl b=>a == (if b then 1 else 0)
 | .int a,.int b=>a == b
 | .str a,.str b=>a == b
 | _,_=>false
theorem DA {A:Around} {s:Shared} {y x:V} {u v:Value} (ry:RelV y u) (rx:RelV x v) (fy:nY y=true) (fx:nY x=true):SeqAt.EqAt A s u v (Ay y x):=by
 cases y with
 | cD=>
  cases ry
  cases x with
  | cD=>cases rx;exact SeqAt.EqAt.same _
  | bl b=>cases rx;exact SeqAt.EqAt.none_bool b
  | int b=>obtain ⟨t,rfl⟩:=rx;exact SeqAt.EqAt.none_int b t
  | str b=>obtain ⟨t,rfl⟩:=rx;exact SeqAt.EqAt.none_str b t
  | _=>exact absurd (show false=true from fx) Bool.false_ne_true
 | bl a=>
  cases ry
  cases x with
  | cD=>cases rx;exact SeqAt.EqAt.bool_none a
  | bl b=>cases rx;exact SeqAt.EqAt.bool_bool a b
  | int b=>obtain ⟨t,rfl⟩:=rx;exact SeqAt.EqAt.bool_int a b t
  | str b=>obtain ⟨t,rfl⟩:=rx;exact SeqAt.EqAt.bool_str a b t
  | _=>exact absurd (show false=true from fx) Bool.false_ne_true
 | int a=>
  obtain ⟨t',rfl⟩:=ry
  cases x with
  | cD=>cases rx;exact SeqAt.EqAt.int_none a t'
  | bl b=>cases rx;exact SeqAt.EqAt.int_bool a t' b
  | int b=>obtain ⟨t,rfl⟩:=rx;exact SeqAt.EqAt.int_int a t' b t
  | str b=>obtain ⟨t,rfl⟩:=rx;exact SeqAt.EqAt.int_str a t' b t
  | _=>exact absurd (show false=true from fx) Bool.false_ne_true
 | str a=>
  obtain ⟨t',rfl⟩:=ry
  cases x with
  | cD=>cases rx;exact SeqAt.EqAt.str_none a t'
  | bl b=>cases rx;exact SeqAt.EqAt.str_bool a t' b
  | int b=>obtain ⟨t,rfl⟩:=rx;exact SeqAt.EqAt.str_int a t' b t
  | str b=>obtain ⟨t,rfl⟩:=rx;exact SeqAt.EqAt.str_str a t' b t
  | _=>exact absurd (show false=true from fx) Bool.false_ne_true
 | _=>exact absurd (show false=true from fy) Bool.false_ne_true
def BS (x:V) (u:Value):Bool:=match u with
 | .none=>Ay .cD x
 | .bool b=>Ay (.bl b) x
 | .int i _=>Ay (.int i) x
 | .str z _=>Ay (.str z) x
 | _=>false
theorem AW {x y:V} {u:Value} (r:RelV y u) (f:nY y=true):BS x u=Ay y x:=by
 cases y with
 | cD=>cases r;rfl
 | bl b=>cases r;rfl
 | int i=>obtain ⟨t,rfl⟩:=r;rfl
 | str z=>obtain ⟨t,rfl⟩:=r;rfl
 | _=>exact absurd (show false=true from f) Bool.false_ne_true
theorem tT {x:V}:∀{xs:List V} {us:List Value},Vals xs us→xs.all nY=true→us.any (BS x)=xs.any fun y=>Ay y x
 | _,_,.nil,_=>rfl
 | y :: xs,u :: us,.cons r t,f=>by
  rw [List.all_cons,Bool.and_eq_true] at f
  rw [List.any_cons,List.any_cons,AW r f.1,tT t f.2]
theorem q0 {A:Around} {s:Shared} {x:V} {v:Value} (rx:RelV x v) (fx:nY x=true):∀{xs:List V} {us:List Value},Vals xs us→xs.all nY=true→∀u∈us,SeqAt.EqAt A s u v (BS x u)
 | _,_,.nil,_=>fun u hu=>by cases hu
 | y :: xs,u :: us,.cons r t,f=>fun u' hu=>by
  rw [List.all_cons,Bool.and_eq_true] at f
  rcases List.mem_cons.mp hu with rfl | hu
  ·rw [AW r f.1];exact DA r rx f.1 fx
  ·exact q0 rx fx t f.2 u' hu
def uZ (x:V) (xs:List V):Bool:=xs.any fun y=>Ay y x
def GQ (K:PySem.W.Frag) (neg:Bool):R2:=fun x y H Q=>∃p xs,y=.ref p∧(bV K H p xs∨ju K H p xs)∧nY x=true∧xs.all nY=true∧Q (.bl (if neg then !uZ x xs else uZ x xs)) H
theorem kG:qi X (compareOp .NotIn) (GQ X.K true):=by
 intro pins s σ H x y v u Q I rx ry h
 obtain ⟨p,xs,rfl,hq,fx,fs,q⟩:=h
 cases ry
 rcases hq with hq | hq
 ·obtain ⟨its,r,pl,hz⟩:=I.list hq
  refine SeqAt.notIn_listAt (BS x) pl.isList (fun w hw=>q0 rx fx r fs w (by simpa using hw)) ⟨.bl _,H,I,rfl,?_⟩
  rw [show its.toArray.any (BS x)=its.any (BS x) by simp,tT r fs]
  exact q
 ·obtain ⟨its,r,pl,hz⟩:=I.tuple hq
  refine SeqAt.notIn_tupleAt (BS x) pl (fun w hw=>q0 rx fx r fs w (by simpa using hw)) ⟨.bl _,H,I,rfl,?_⟩
  rw [show its.toArray.any (BS x)=its.any (BS x) by simp,tT r fs]
  exact q
theorem bj:ye X (.builtin "len") (fun xs H Q=>∃p ys,xs=[.ref p]∧(bV X.K H p ys∨ju X.K H p ys)∧Q (.int ys.length) H):=by
 intro pins s σ H xs us Q I r h
 obtain ⟨p,ys,rfl,hq,q⟩:=h
 obtain ⟨u,rfl,rx⟩:=vals1 r
 cases rx
 have hn:=tP
 rcases hq with hq | hq
 ·obtain ⟨its,r',pl,hz⟩:=I.list hq
  have hlen:=r'.length
  exact Calls.call_len_list pl.isList (by simp only [List.size_toArray] <;> omega) ⟨.int ys.length,H,I.tok _,⟨s.toks + 1,by rw [List.size_toArray,hlen]⟩,q⟩
 ·obtain ⟨its,r',pl,hz⟩:=I.tuple hq
  have hlen:=r'.length
  exact len_tuple pl (by simp only [List.size_toArray] <;> omega) ⟨.int ys.length,H,I.tok _,⟨s.toks + 1,by rw [List.size_toArray,hlen]⟩,q⟩
def F5 (K:PySem.W.Frag) (T:String) (x:V) (H:Hp):Prop:=match x with
 | .str _=>T="str"
 | .int _=>T="int"
 | .ref p=>(T="list"∧∃xs,bV K H p xs)∨(T="tuple"∧∃o,K.lookup p=some o∧o.cls=.type "tuple"∧o.dict=none)∨
   (T="dict"∧((∃kvs,H p=some (.dK kvs))∨∃kvs,H p=some (.dT kvs)))∨(T="set"∧∃S n,H p=some (.set S n))
 | _=>False
theorem AX {pins:List (Addr × Obj)} {σ:St} {H:Hp} {s:Shared} {T:String} {x:V} {v:Value} (I:Inv X pins σ H s) (r:RelV x v) (ty:F5 X.K T x H) :
  s.TypeIs v T∧∀a,v=.ref a→∃ob,s.heap.get? a=some ob∧ob.dict=none:=by
 cases x with
 | str z=>
  obtain ⟨t,rfl⟩:=r
  cases (show T="str" from ty)
  exact ⟨typeIs_str s z t,fun _ e=>nomatch e⟩
 | int i=>
  obtain ⟨t,rfl⟩:=r
  cases (show T="int" from ty)
  exact ⟨typeIs_int s i t,fun _ e=>nomatch e⟩
 | ref p=>
  cases r
  rcases ty with ⟨rfl,xs,hq⟩ | ⟨rfl,o,hk,hc,hd⟩ | ⟨rfl,hk⟩ | ⟨rfl,S,n,hk⟩
  ·obtain ⟨its,_,pl,_⟩:=I.list hq
   refine ⟨pl.isList.typeIs,fun a e=>?_⟩
   cases e
   obtain ⟨o,n,e,c,hd,_⟩:=pl
   exact ⟨o,e,hd⟩
  ·refine ⟨⟨o,I.uY p o hk,hc⟩,fun a e=>?_⟩
   cases e
   exact ⟨o,I.uY _ o hk,hd⟩
  ·have z:∃o,s.heap.get? p=some o∧o.ExactDict:=by
    rcases hk with ⟨kvs,hk⟩ | ⟨kvs,hk⟩
    ·obtain ⟨_,_,_,_,o,_,_,e,ex,_⟩:=I.dZ p _ hk
     exact ⟨o,e,ex⟩
    ·obtain ⟨_,_,_,_,o,_,_,e,ex,_⟩:=I.dZ p _ hk
     exact ⟨o,e,ex⟩
   obtain ⟨o,e,ex⟩:=z
   refine ⟨⟨o,e,ex.1⟩,fun a e2=>?_⟩
   cases e2
   exact ⟨o,e,ex.2.1⟩
  ·obtain ⟨o,_,_,_,e,ex,_⟩:=I.dZ p _ hk
   refine ⟨⟨o,e,ex.1⟩,fun a e2=>?_⟩
   cases e2
   exact ⟨o,e,ex.2.1⟩
 | _=>exact False.elim ty
def F6 (K:PySem.W.Frag) (T:String) (r:V→List V→Hp→VK→Prop) (to:TE):TE:=fun σ H Q=>to σ H fun x H1=>F5 K T x H1∧r x [] H1 Q
def GR (K:PySem.W.Frag) (T:String) (r:V→List V→Hp→VK→Prop) (to:TE) (t:TA):TE:=fun σ H Q=>to σ H fun x H1=>F5 K T x H1∧t σ H1 fun xs H2=>r x xs H2 Q
variable {o e:Expr} {es:List Expr} {to:TE} {t:TA} {name:Str} {apos cpos:Pos} {T id:String} {r:V→List V→Hp→VK→Prop}
theorem AY (pa:PlainAttrs T) (slot:Slot T name id) (hty:typeOf (.builtin id)=pure (.type "method_descriptor")) (hm:F4 X id r) (ho:PE X o to)
  (hbase:attributeBase o name X.env (eval o X.env)=eval o X.env:=by rfl) (hline:(apos.endLine == cpos.line)=true:=by rfl):PE X (.Call (.Attribute o name apos) [] [] cpos) (F6 X.K T r to):=by
 intro pins s σ H Q I h
 refine wpAny_Call_method0_late hbase hline (d4 (ho pins s σ H _ I h) fun v s1 ⟨x,H1,I1,r1,ty,q1⟩=>?_)
 obtain ⟨h1,h2⟩:=AX I1 r1 ty
 exact ⟨T,id,pa,slot,hty,h1,h2,Calls.callWith_builtin rfl (PySem.evalArgs_none (hm pins s1 σ H1 x [] v [] Q I1 r1 .nil q1))⟩
theorem q_ (pa:PlainAttrs T) (slot:Slot T name id) (hty:typeOf (.builtin id)=pure (.type "method_descriptor")) (hm:F4 X id r) (ho:PE X o to) (ha:PA X (e :: es) t)
  (hbase:attributeBase o name X.env (eval o X.env)=eval o X.env:=by rfl)
  (hfew:((backTo cpos (starEach (e :: es) X.env)).all (fun x=>!x.1) && (backToKw cpos (keywordEach [] X.env)).all (fun x=>x.1.isSome)
   && decide ((e :: es).length + ([]:List Keyword).length + (if ([]:List Keyword).isEmpty then 0 else 1) < 30))=true:=by rfl)
  (hline:(apos.endLine == cpos.line)=true:=by rfl) (hs:starEach (e :: es) X.env=(false,eval e X.env) :: starEach es X.env:=by rfl) (hplain:(backTo cpos (starEach es X.env)).any (·.1)=false:=by rfl) :
  PE X (.Call (.Attribute o name apos) (e :: es) [] cpos) (GR X.K T r to t):=by
 intro pins s σ H Q I h
 refine wpAny_Call_method_late hbase hfew hline rfl (d4 (ho pins s σ H _ I h) fun v s1 ⟨x,H1,I1,r1,ty,q1⟩=>?_)
 obtain ⟨h1,h2⟩:=AX I1 r1 ty
 refine ⟨T,id,pa,slot,hty,h1,h2,?_⟩
 have hA:=ha cpos pins s1 σ H1 _ I1 q1
 rw [hs] at hA ⊢
 refine Calls.callWith_builtin (by show (false || (backTo cpos (starEach es X.env)).any (·.1))=false;rw [hplain] <;> rfl) (Calls.evalArgs_plain ?_)
 exact d4 hA fun us s2 ⟨vs,H2,I2,r2,q2⟩=>hm pins s2 σ H2 x vs v us Q I2 r1 r2 q2
end
end L2
namespace L2
open PySem PySem.Spec PyProof.Rows
def F7 (X:Cx) (id:String) (r:V→List V→Hp→VK→Prop):Prop:=
 ∀(pins:List (Addr × Obj)) (s:Shared) (σ:St) (H:Hp) (x:V) (xs:List V) (v:Value) (us:List Value) (Q:VK),Inv X pins σ H s→RelV x v→Vals xs us→r x xs H Q→
  wpAny (model X.prog X.w) X.A (call (.builtin id) (v :: us)) (EP X pins σ Q) X.xe s
theorem Vals.one:∀{x:V} {us:List Value},Vals [x] us→∃u,us=[u]∧RelV x u
 | _,_,.cons r .nil=>⟨_,rfl,r⟩
theorem Vals.zero:∀{us:List Value},Vals [] us→us=[]
 | _,.nil=>rfl
theorem Vals.reverse {xs:List V} {us:List Value} (h:Vals xs us):Vals xs.reverse us.reverse:=by
 induction h with
 | nil=>exact .nil
 | cons r t ih=>rw [List.reverse_cons,List.reverse_cons];exact Vals.append ih (.cons r .nil)
theorem Vals.rep {xs:List V} {us:List Value} (h:Vals xs us):∀k:Nat,Vals (List.replicate k xs).flatten (List.replicate k us).flatten
 | 0=>.nil
 | k + 1=>by
  rw [List.replicate_succ,List.replicate_succ,List.flatten_cons,List.flatten_cons]
  exact Vals.append h (Vals.rep h k)
theorem foldl_rep (its:List Value):∀(k:Nat) (acc:List Value),
  List.foldl (fun x1 x2=>x1++x2) acc.toArray (List.replicate k its.toArray)=(acc++(List.replicate k its).flatten).toArray
 | 0,acc=>by simp
 | k + 1,acc=>by
  have e:acc.toArray++its.toArray=(acc++its).toArray:=by simp
  have e2:(acc++its)++(List.replicate k its).flatten=acc++(List.replicate (k + 1) its).flatten:=by
   rw [List.replicate_succ,List.flatten_cons,List.append_assoc]
  rw [← e2,← foldl_rep its k (acc++its),← e,List.replicate_succ,List.foldl_cons]
section
variable {X:Cx} {pins:List (Addr × Obj)} {σ:St} {H:Hp} {s:Shared} {l b:Addr} {xs ys zs:List V}
theorem Inv.DB {its its':List Value} {n:Nat} {f:Array Value→Array Value} {t':Nat} (I:Inv X pins σ H s) (hH:H l=some (.lst xs))
  (e:s.heap.get? l=some { cls:=.type "list",data:=.seq its.toArray n }) (hf:f its.toArray=its'.toArray) (hv:Vals ys its') (hz:ys.length≤sizeLine) :
  Inv X pins σ (upd H l (.lst ys)) { s with heap:=s.heap.update l (Obj.mapSeq f),toks:=t' }:=by
 have q:=PySem.IsL.update e f
 rw [hf] at q
 refine I.write (x:=l) (e:=l) (by rw [hH];exact trivial) (.inl rfl) (fun b' u hb hu=>(Heap.get?_update_other s.heap (Obj.mapSeq f) (Ne.symm hb)).trans hu) ⟨_,q⟩ ?_
 exact ⟨hz,its',_,hv,q⟩
theorem Inv.EN {its:List Value} {t':Nat} (I:Inv X pins σ H s) (hv:Vals ys its) (hz:ys.length≤sizeLine) :
  Inv X pins σ (upd H s.heap.objs.size (.lst ys)) { s with heap:=s.heap.push { cls:=.type "list",data:=.seq its.toArray },toks:=t' }:=
 I.laid (fun _ _ q=>Heap.get?_push_of_some _ q) (Nat.le_refl _) ⟨hz,its,0,hv,Heap.get?_push_size _ rfl⟩
theorem Inv.fresh (I:Inv X pins σ H s):H s.heap.objs.size=none:=I.dZ.fresh (Nat.le_refl _)
theorem Inv.w9 (I:Inv X pins σ H s) (hH:H l=some (.lst xs)):xs.length≤sizeLine∧∃(its:List Value) (n:Nat),Vals xs its∧xs.length=its.length∧s.heap.get? l=some { cls:=.type "list",data:=.seq its.toArray n }:=by
 obtain ⟨z,its,n,r,e⟩:=I.dZ l _ hH
 exact ⟨z,its,n,r,r.length,e⟩
theorem vj {n:Nat} (h:n≤sizeLine):Builtin.List.listTooLong n=false:=by
 unfold Builtin.List.listTooLong
 exact decide_eq_false (by omega)
end
section
variable {X:Cx}
def BU:V→List V→Hp→VK→Prop:=fun x vs H Q=>∃l xs y,x=.ref l∧vs=[y]∧H l=some (.lst xs)∧xs.length < sizeLine∧Q .cD (upd H l (.lst (xs++[y])))
theorem zy:F7 X "list.append" BU:=by
 intro pins s σ H x vs v us Q I rx rv h
 obtain ⟨l,xs,y,rfl,rfl,hH,hz,q⟩:=h
 cases rx
 obtain ⟨u,rfl,ru⟩:=rv.one
 obtain ⟨z,its,n,r,hl,e⟩:=I.w9 hH
 refine call_meets F.slot_list_append ⟨_,e,rfl⟩ F.entry_list_append (F.args_list_append_2 _ _) (PySem.list_append l its.toArray n u (by rw [List.size_toArray];omega)) ⟨e,?_⟩
 refine ⟨.cD,_,I.DB (its':=its++[u]) hH e (by simp) (r.append (.cons ru .nil)) ?_,rfl,q⟩
 rw [List.length_append,List.length_singleton]
 omega
def BV:V→List V→Hp→VK→Prop:=fun x vs H Q=>∃l b xs zs,x=.ref l∧vs=[.ref b]∧H l=some (.lst xs)∧H b=some (.lst zs)∧xs.length + zs.length≤sizeLine∧Q .cD (upd H l (.lst (xs++zs)))
theorem jd:F7 X "list.extend" BV:=by
 intro pins s σ H x vs v us Q I rx rv h
 obtain ⟨l,b,xs,zs,rfl,rfl,hH,hB,hz,q⟩:=h
 cases rx
 obtain ⟨u,rfl,ru⟩:=rv.one
 cases ru
 obtain ⟨z,its,n,r,hl,e⟩:=I.w9 hH
 obtain ⟨z2,its2,n2,r2,hl2,e2⟩:=I.w9 hB
 have hsz:its.toArray.size + its2.toArray.size≤sizeLine:=by rw [List.size_toArray,List.size_toArray];omega
 have hlong:¬ (!its.toArray.isEmpty && Builtin.List.listTooLong (its.toArray.size + its2.toArray.size))=true:=by
  rw [vj hsz,Bool.and_false]
  exact Bool.false_ne_true
 refine call_meets F.slot_list_extend ⟨_,e,rfl⟩ F.entry_list_extend (F.args_list_extend_2 _ _)
  (AutoSeq1.list_extend_list_list_0 l its.toArray n b its2.toArray n2 hlong (by rw [List.size_toArray];omega) (by omega)) ⟨e,e2,?_⟩
 refine ⟨.cD,_,I.DB (its':=its++its2) hH e (by simp) (r.append r2) ?_,rfl,q⟩
 rw [List.length_append]
 omega
def AZ:V→List V→Hp→VK→Prop:=fun x vs H Q=>∃l xs,x=.ref l∧vs=[]∧H l=some (.lst xs)∧Q .cD (upd H l (.lst xs.reverse))
theorem w_:F7 X "list.reverse" AZ:=by
 intro pins s σ H x vs v us Q I rx rv h
 obtain ⟨l,xs,rfl,rfl,hH,q⟩:=h
 cases rx
 have hus:=rv.zero
 subst hus
 obtain ⟨z,its,n,r,hl,e⟩:=I.w9 hH
 refine call_meets F.slot_list_reverse ⟨_,e,rfl⟩ F.entry_list_reverse (F.args_list_reverse_1 _) (AutoSeq1.list_reverse_list_0 l its.toArray n (by rw [List.size_toArray];omega)) ⟨e,?_⟩
 refine ⟨.cD,_,I.DB (its':=its.reverse) hH e (by simp) r.reverse ?_,rfl,q⟩
 rw [List.length_reverse]
 omega
def F8:R2:=fun x y H Q=>∃l b xs zs,x=.ref l∧y=.ref b∧H l=some (.lst xs)∧H b=some (.lst zs)∧xs.length + zs.length≤sizeLine∧∀p,H p=none→Q (.ref p) (upd H p (.lst (xs++zs)))
theorem je:qi X (binaryOp .Add) F8:=by
 intro pins s σ H x y v u Q I rx ry h
 obtain ⟨l,b,xs,zs,rfl,rfl,hH,hB,hz,q⟩:=h
 cases rx
 cases ry
 obtain ⟨z,its,n,r,hl,e⟩:=I.w9 hH
 obtain ⟨z2,its2,n2,r2,hl2,e2⟩:=I.w9 hB
 refine PySem.P.add_list e e2 ?_ (by rw [List.size_toArray,List.size_toArray];omega)
 have ea:its.toArray++its2.toArray=(its++its2).toArray:=by simp
 rw [ea]
 exact ⟨.ref _,_,I.EN (t':=s.toks) (r.append r2) (by rw [List.length_append];omega),rfl,q _ I.fresh⟩
def F9:R2:=fun x y H Q=>∃l k xs,x=.ref l∧y=.int k∧H l=some (.lst xs)∧-(2 ^ 63)≤k∧k < 2 ^ 63∧xs.length * k.toNat≤sizeLine∧
 ∀p,H p=none→Q (.ref p) (upd H p (.lst (List.replicate k.toNat xs).flatten))
theorem len_rep {α:Type} (xs:List α) (k:Nat):(List.replicate k xs).flatten.length=k * xs.length:=by
 induction k with
 | zero=>simp
 | succ k ih=>rw [List.replicate_succ,List.flatten_cons,List.length_append,ih,Nat.succ_mul,Nat.add_comm]
theorem xa:qi X (binaryOp .Mult) F9:=by
 intro pins s σ H x y v u Q I rx ry h
 obtain ⟨l,k,xs,rfl,rfl,hH,h1,h2,hz,q⟩:=h
 cases rx
 obtain ⟨t,rfl⟩:=ry
 obtain ⟨z,its,n,r,hl,e⟩:=I.w9 hH
 have hlen:its.toArray.size * k.toNat≤sizeLine:=by rw [List.size_toArray,← hl];exact hz
 have hcap:¬ its.toArray.size * k.toNat > (2 ^ 63 - 1) / 8:=by
  have:(sizeLine:Nat)≤(2 ^ 63 - 1) / 8:=by decide
  omega
 have hfit:¬ (!Builtin.List.listFitsIndex k)=true:=by
  rw [fitsIndex_both h1 h2]
  exact Bool.false_ne_true
 have hlong:¬ Builtin.List.listTooLong (its.toArray.size * k.toNat)=true:=by
  rw [vj hlen]
  exact Bool.false_ne_true
 have hnew:List.foldl (fun x1 x2=>x1++x2) #[] (List.replicate (if its.toArray.isEmpty=true then 0 else k.toNat) its.toArray)=(List.replicate k.toNat its).flatten.toArray:=by
  have f0:∀m:Nat,List.foldl (fun x1 x2=>x1++x2) #[] (List.replicate m its.toArray)=(List.replicate m its).flatten.toArray:=fun m=>by
   have:=foldl_rep its m []
   rw [List.nil_append] at this
   exact this
  rw [f0]
  cases its with
  | nil=>simp
  | cons a r'=>rw [if_neg (by simp)]
 refine wpAny_binaryOp_repeat_ref (T:="list") (U:="int") (by decide) ⟨_,e,rfl⟩ (fun s'=>typeIs_int s' k t) noFill_list_mul F.fills_int_mul F.slot_int_rmul repeat_list F.slot_int_index.lookup
  (call_meets F.slot_int_rmul (typeIs_int s k t) F.entry_int_rmul (F.args_int_rmul_2 _ _) (int___rmul___int_list k t l its.toArray n)
   ⟨e,rfl,⟨_,e,rfl⟩,call_meets F.slot_list_mul ⟨_,e,rfl⟩ F.entry_list_mul (F.args_list_mul_2 _ _) (AutoListH.list___mul___list_int_3 l its.toArray n k t hfit hcap hlong) ⟨e,?_⟩⟩)
 rw [hnew]
 exact ⟨.ref _,_,I.EN (t':=s.toks) (r.rep k.toNat) (by rw [len_rep,Nat.mul_comm];exact hz),rfl,q _ I.fresh⟩
end
section
variable {prog:Program} {w:World} {A:Around} {E:Value→Shared→Prop} {s:Shared}
set_option maxRecDepth 100000 in
end
section
variable {X:Cx}
end
end L2
namespace L2
open PySem PySem.Spec PyProof.Rows
section
variable {prog:Program} {w:World} {A:Around} {E:Value→Shared→Prop} {s:Shared} {l:Addr} {its:List Value} {ns:List Int} {Q:Value→Shared→Prop}
end
section
variable {X:Cx}
end
section
variable {X:Cx}
end
section
variable {X:Cx}
end
section
variable {X:Cx}
end
mutual
inductive Dp (K:PySem.W.Frag) (H:Hp):V→PyData→Prop
 | cD:Dp K H .cD .none
 | bl (b:Bool):Dp K H (.bl b) (.bool b)
 | int (i:Int):Dp K H (.int i) (.int i)
 | str (x:Str):Dp K H (.str x) (.str x)
 | lst {a:Addr} {xs:List V} {ds:List PyData}:bV K H a xs→rb K H xs ds→Dp K H (.ref a) (.list ds)
 | tup {a:Addr} {xs:List V} {ds:List PyData}:ju K H a xs→rb K H xs ds→Dp K H (.ref a) (.tuple ds)
inductive rb (K:PySem.W.Frag) (H:Hp):List V→List PyData→Prop
 | nil:rb K H [] []
 | cons {v:V} {vs:List V} {d:PyData} {ds:List PyData}:Dp K H v d→rb K H vs ds→rb K H (v :: vs) (d :: ds)
end
section
variable {X:Cx} {pins:List (Addr × Obj)} {σ:St} {H:Hp} {s:Shared}
mutual
theorem Dp.reads (I:Inv X pins σ H s):∀(d:PyData) (v:V) (u:Value),Dp X.K H v d→RelV v u→∃as,Reads s.heap u d as
 | .none,_,_,h,r=>by
  cases h
  cases r
  exact ⟨_,Reads.none⟩
 | .bool b,_,_,h,r=>by
  cases h
  cases r
  exact ⟨_,Reads.bool b⟩
 | .int i,_,_,h,r=>by
  cases h
  obtain ⟨t,rfl⟩:=r
  exact ⟨_,Reads.int i t⟩
 | .str x,_,_,h,r=>by
  cases h
  obtain ⟨t,rfl⟩:=r
  exact ⟨_,Reads.str x t⟩
 | .list ds,_,_,h,r=>by
  cases h with
  | lst hs ha=>
   cases r
   obtain ⟨its,rv,⟨o,n,ho,hc,_,hd⟩,_⟩:=I.list hs
   obtain ⟨as,hr⟩:=Dp.readsAll I ds _ its ha rv
   exact ⟨_,Reads.list ho hc hd hr⟩
 | .tuple ds,_,_,h,r=>by
  cases h with
  | tup hs ha=>
   cases r
   obtain ⟨its,rv,⟨o,ho,hc,n,hd⟩,_⟩:=I.tuple hs
   obtain ⟨as,hr⟩:=Dp.readsAll I ds _ its ha rv
   exact ⟨_,Reads.tuple ho hc hd hr⟩
 | .dict _,_,_,h,_=>by cases h
theorem Dp.readsAll (I:Inv X pins σ H s):∀(ds:List PyData) (vs:List V) (us:List Value),rb X.K H vs ds→Vals vs us→∃as,ReadsAll s.heap us ds as
 | [],_,_,h,r=>by
  cases h
  cases r
  exact ⟨_,ReadsAll.nil⟩
 | d :: ds,_,_,h,r=>by
  cases h with
  | cons h1 h2=>
   cases r with
   | cons r1 r2=>
    obtain ⟨as,q1⟩:=Dp.reads I d _ _ h1 r1
    obtain ⟨bs,q2⟩:=Dp.readsAll I ds _ _ h2 r2
    exact ⟨_,ReadsAll.cons q1 q2⟩
end
end
section
variable {X:Cx}
def F_ (K:PySem.W.Frag):R2:=fun x y H Q=>∃d e,Dp K H x d∧Dp K H y e∧SeqAt.shaped d=true∧SeqAt.shaped e=true∧Q (.bl (!PyData.eqv d e)) H
theorem DC (hu:X.A.units + 64 < cLine):qi X (compareOp .NotEq) (F_ X.K):=by
 intro pins s σ H x y v u Q I rx ry h
 obtain ⟨d,e,hd,he,sd,se,q⟩:=h
 obtain ⟨as,r1⟩:=Dp.reads I d x v hd rx
 obtain ⟨bs,r2⟩:=Dp.reads I e y u he ry
 exact SeqAt.compareNe_shaped r1 r2 sd se hu ⟨.bl _,H,I,rfl,q⟩
end
end L2
namespace L2
open PySem PySem.Spec PyProof.Rows
abbrev A0 (h:Heap) (c:Addr) (v:Option Value):Prop:=h.IsCell c v
def Ga (scope sc:Scope):Scope:=
 { scope with names:=scope.names.map fun (n,k)=>if (k == .free && sc.kind == .function && sc.names.lookup n == some .cell) then (n,.cell) else (n,k) }
def cO (cells:List (Str × Addr)):List (Str × NameKind)→List (Str × Addr)→List (Str × Addr)
 | [],acc=>acc
 | (n,k) :: r,acc=>if k == .free then cO cells r ((n,(cells.lookup n).getD 0) :: acc) else cO cells r acc
theorem nZ (env:Env) (f:Str × NameKind→List (Str × Addr)→Sem (ForInStep (List (Str × Addr))))
  (hf:∀n k c,f (n,k) c=if k == .free then (do let a ← cellOf env n;pure (.yield ((n,a) :: c))) else pure (.yield c)) :
  ∀(names:List (Str × NameKind)) (acc:List (Str × Addr)),(∀y∈names,y.2=.free→∃c,env.cells.lookup y.1=some c)→forIn names acc f=pure (cO env.cells names acc)
 | [],acc,_=>by rw [List.forIn_nil];rfl
 | (n,k) :: r,acc,h=>by
  rw [List.forIn_cons,hf]
  have ih:=fun acc=>nZ env f hf r acc fun y hy=>h y (List.mem_cons_of_mem _ hy)
  unfold cO
  by_cases hk:(k == NameKind.free)=true
  ·rw [if_pos hk,if_pos hk]
   obtain ⟨c,hc⟩:=h (n,k) List.mem_cons_self (by simpa using hk)
   have e:cellOf env n=pure c:=by unfold cellOf;rw [hc]
   rw [e]
   have e2:(env.cells.lookup n).getD 0=c:=by rw [hc];rfl
   rw [e2]
   exact ih _
  ·rw [if_neg hk,if_neg hk]
   exact ih _
theorem xb {scope:Scope} {env:Env} (h:∀y∈scope.names,y.2=.free→∃c,env.cells.lookup y.1=some c):closureFor scope env=pure (cO env.cells scope.names []):=by
 simp only [closureFor]
 rw [nZ env _ (fun n k c=>rfl) scope.names [] h]
 rfl
theorem mem_lookup {α:Type}:∀{l:List (Str × α)} {n:Str} {c:α},(n,c)∈l→∃c',l.lookup n=some c'
 | (k,v) :: r,n,c,h=>by
  rw [List.lookup_cons]
  cases hb:n == k with
  | true=>exact ⟨_,rfl⟩
  | false=>
   rcases List.mem_cons.mp h with e | h
   ·cases e;simp at hb
   ·exact mem_lookup h
theorem jw {cells:List (Str × Addr)}:∀{names:List (Str × NameKind)} {acc:List (Str × Addr)} {n:Str} {c:Addr},(n,c)∈cO cells names acc→(n,c)∈acc∨((n,.free)∈names∧c=(cells.lookup n).getD 0)
 | [],_,_,_,h=>.inl h
 | (m,k) :: r,acc,n,c,h=>by
  unfold cO at h
  split at h
  ·rename_i hk
   have hk:k=.free:=by simpa using hk
   rcases jw h with h | ⟨h1,h2⟩
   ·rcases List.mem_cons.mp h with e | h
    ·cases e;exact .inr ⟨hk ▸ List.mem_cons_self,rfl⟩
    ·exact .inl h
   ·exact .inr ⟨List.mem_cons_of_mem _ h1,h2⟩
  ·rcases jw h with h | ⟨h1,h2⟩
   ·exact .inl h
   ·exact .inr ⟨List.mem_cons_of_mem _ h1,h2⟩
theorem lI {cells:List (Str × Addr)}:∀{names:List (Str × NameKind)} {acc:List (Str × Addr)} {p:Str × Addr},p∈acc→p∈cO cells names acc
 | [],_,_,h=>h
 | (m,k) :: r,acc,p,h=>by
  unfold cO
  split
  ·exact lI (List.mem_cons_of_mem _ h)
  ·exact lI h
theorem lJ {cells:List (Str × Addr)}:∀{names:List (Str × NameKind)} {acc:List (Str × Addr)} {n:Str},(n,.free)∈names→(n,(cells.lookup n).getD 0)∈cO cells names acc
 | (m,k) :: r,acc,n,h=>by
  unfold cO
  rcases List.mem_cons.mp h with e | h
  ·cases e
   exact lI List.mem_cons_self
  ·split
   ·exact lJ h
   ·exact lJ h
theorem ki:∀{names:List (Str × NameKind)} {h:Heap} {acc:List (Str × Addr)} {x:Str} {c:Addr},(x,c)∈cellsFrom h.objs.size names acc→
  (x,c)∈acc∨((x,.cell)∈names∧h.objs.size≤c∧A0 (pushCells h names) c none)
 | [],_,_,_,_,h=>.inl h
 | (n,k) :: r,h,acc,x,c,hm=>by
  unfold cellsFrom at hm
  unfold pushCells
  split at hm
  ·rename_i hk
   rw [if_pos hk]
   have hk:k=.cell:=by simpa using hk
   rw [← Heap.size_push h { cls:=.type "cell",data:=.cell none }] at hm
   rcases ki hm with hm | ⟨h1,h2,h3⟩
   ·rcases List.mem_cons.mp hm with e | hm
    ·cases e
     exact .inr ⟨hk ▸ List.mem_cons_self,Nat.le_refl _,_,pushCells_keeps r _ _ _ (Heap.get?_push_size _ rfl),rfl⟩
    ·exact .inl hm
   ·rw [Heap.size_push] at h2
    exact .inr ⟨List.mem_cons_of_mem _ h1,Nat.le_of_succ_le h2,h3⟩
  ·rename_i hk
   rw [if_neg hk]
   rcases ki hm with hm | ⟨h1,h2,h3⟩
   ·exact .inl hm
   ·exact .inr ⟨List.mem_cons_of_mem _ h1,h2,h3⟩
theorem ml:∀{names:List (Str × NameKind)} {n:Nat} {acc:List (Str × Addr)} {p:Str × Addr},p∈acc→p∈cellsFrom n names acc
 | [],_,_,_,h=>h
 | (m,k) :: r,n,acc,p,h=>by
  unfold cellsFrom
  split
  ·exact ml (List.mem_cons_of_mem _ h)
  ·exact ml h
theorem pj:∀{names:List (Str × NameKind)} {n:Nat} {acc:List (Str × Addr)} {x:Str},(x,.cell)∈names→∃c,(x,c)∈cellsFrom n names acc
 | (m,k) :: r,n,acc,x,h=>by
  unfold cellsFrom
  rcases List.mem_cons.mp h with e | h
  ·cases e
   exact ⟨n,ml List.mem_cons_self⟩
  ·split
   ·exact pj h
   ·exact pj h
theorem pq:∀{names:List (Str × NameKind)} {h:Heap} {acc:List (Str × Addr)} {x y:Str} {c:Addr},(∀p∈acc,p.2 < h.objs.size)→(∀x y c,(x,c)∈acc→(y,c)∈acc→x=y)→
  (x,c)∈cellsFrom h.objs.size names acc→(y,c)∈cellsFrom h.objs.size names acc→x=y
 | [],_,_,_,_,_,_,hi,h1,h2=>hi _ _ _ h1 h2
 | (n,k) :: r,h,acc,x,y,c,hl,hi,h1,h2=>by
  unfold cellsFrom at h1 h2
  split at h1
  ·rename_i hk
   rw [if_pos hk] at h2
   rw [← Heap.size_push h { cls:=.type "cell",data:=.cell none }] at h1 h2
   refine pq (h:=h.push _) (fun p hp=>?_) (fun x y c a b=>?_) h1 h2
   ·rw [Heap.size_push]
    rcases List.mem_cons.mp hp with rfl | hp
    ·exact Nat.lt_succ_self _
    ·exact Nat.lt_succ_of_lt (hl p hp)
   ·rcases List.mem_cons.mp a with e | a <;> rcases List.mem_cons.mp b with e' | b
    ·cases e;cases e';rfl
    ·cases e;exact absurd (hl _ b) (Nat.lt_irrefl _)
    ·cases e';exact absurd (hl _ a) (Nat.lt_irrefl _)
    ·exact hi _ _ _ a b
  ·rename_i hk
   rw [if_neg hk] at h2
   exact pq hl hi h1 h2
theorem vk {M:Model} {A:Around} {E:Value→Shared→Prop} {s:Shared} {scope:Scope} {globals:Addr} {closure:List (Str × Addr)} {qual:Str} {func:Option Addr} {code:Value} {around:Env} {builtins:Addr} {Q:Env→Shared→Prop}
  (h:Q (newEnv scope s.heap.objs.size globals (cellsFrom (s.heap.objs.size + 1) scope.names closure) qual func code (some around) builtins)
   { s with heap:=pushCells (s.heap.push { cls:=.type "dict",data:=.dict #[] }) scope.names }) :
  wpAny M A (newFunctionEnv scope globals closure [] qual func code (some around) builtins) Q E s:=by
 simp only [newFunctionEnv,Option.isSome_some,if_true]
 refine wpAny_bind (wpAny_alloc ?_)
 refine wpAny_bind (wpAny_layCells _ (fun n k c=>rfl) scope.names closure _ _ ?_)
 rw [show ({ s with heap:=s.heap.push { cls:=.type "dict",data:=.dict #[] } }:Shared).heap.objs.size=s.heap.objs.size + 1 from Heap.size_push ..]
 rw [List.forIn_nil]
 exact wpAny_bind (wpAny_pure (wpAny_pure h))
theorem lK {sc:Scope}:∀{names:List (Str × NameKind)} {x:Str} {k:NameKind},
  (names.map fun (n,k)=>if (k == NameKind.free && sc.kind == .function && sc.names.lookup n == some .cell) then (n,NameKind.cell) else (n,k)).lookup x=some k→
  ∃k',names.lookup x=some k'∧(k=k'∨(k'=.free∧k=.cell))
 | [],_,_,h=>by simp at h
 | (n,k₀) :: r,x,k,h=>by
  have ih:=@lK sc r x k
  have h':List.lookup x ((if (k₀ == NameKind.free && sc.kind == .function && sc.names.lookup n == some .cell)=true then (n,NameKind.cell) else (n,k₀)) :: (r.map _))=some k:=h
  cases hx:x == n with
  | true=>
   simp only [List.lookup_cons,hx]
   by_cases hc:(k₀ == NameKind.free && sc.kind == .function && sc.names.lookup n == some .cell)=true
   ·rw [if_pos hc] at h'
    simp only [List.lookup_cons,hx] at h'
    cases h'
    simp only [Bool.and_eq_true,beq_iff_eq] at hc
    exact ⟨k₀,rfl,.inr ⟨hc.1.1,rfl⟩⟩
   ·rw [if_neg hc] at h'
    simp only [List.lookup_cons,hx] at h'
    cases h'
    exact ⟨_,rfl,.inl rfl⟩
  | false=>
   simp only [List.lookup_cons,hx]
   by_cases hc:(k₀ == NameKind.free && sc.kind == .function && sc.names.lookup n == some .cell)=true
   ·rw [if_pos hc] at h'
    simp only [List.lookup_cons,hx] at h'
    exact ih h'
   ·rw [if_neg hc] at h'
    simp only [List.lookup_cons,hx] at h'
    exact ih h'
structure yo (N:List Str) (sc scope:Scope) (own:List (Str × Nat)):Prop where
 kind:scope.kind=.function
 uniq:∀y∈scope.names,scope.names.lookup y.1=some y.2
 ix:∀p∈own,N[p.2]?=some p.1
 free:∀y∈scope.names,y.2=.free→sc.names.lookup y.1=some .cell∨sc.names.lookup y.1=some .free
 own:∀y∈scope.names,y.2=.local∨y.2=.cell→y.1∈own.map (·.1)∨y.1∉N
def wipe (σ:St):List Nat→St
 | []=>σ
 | v :: vs=>(wipe σ vs).set v none
theorem lL (σ:St):∀vs:List Nat,(wipe σ vs).length=σ.length
 | []=>rfl
 | v :: vs=>by unfold wipe;rw [List.length_set,lL σ vs]
theorem pA {σ:St} {i:Nat} {x:V}:∀{vs:List Nat},(wipe σ vs)[i]?=some (some x)→σ[i]?=some (some x)∧i∉vs
 | [],h=>⟨h,by simp⟩
 | v :: vs,h=>by
  unfold wipe at h
  by_cases hi:v=i
  ·subst hi
   by_cases hv:v < (wipe σ vs).length
   ·rw [List.getElem?_set_self hv] at h;cases h
   ·rw [List.getElem?_eq_none (by simpa using hv)] at h;cases h
  ·rw [List.getElem?_set_ne hi] at h
   obtain ⟨h1,h2⟩:=pA h
   exact ⟨h1,by simp only [List.mem_cons,not_or];exact ⟨fun e=>hi e.symm,h2⟩⟩
abbrev Cx.wB (X:Cx) (s:Shared) (H:Hp) (scope:Scope) (cenv:Env) (fp:List Addr):Cx:={ X with sW:=s,Di:=H,env:=cenv,outer:=X.stack,ex:=fp,fn:=fun x=>scope.names.lookup x == some .cell,pn:=[],xe:=fun _ _=>False }
section
variable {X:Cx} {pins:List (Addr × Obj)} {σ:St} {H:Hp} {s:Shared}
theorem vm {scope:Scope} {own:List (Str × Nat)} {fp:List Addr} (I:Inv X pins σ H s) (ok:yo X.N X.env.scope scope own) (hN:X.N.Nodup) (hfp:∀b∈fp,qg X pins H b∧b < s.heap.objs.size) :
  Inv (X.wB s H scope (compEnvC scope (cellsFrom (s.heap.objs.size + 1) scope.names (cO X.env.cells scope.names [])) s.heap.objs.size X.env) fp) [] (wipe σ (own.map (·.2))) H { s with heap:=pushCells (s.heap.push { cls:=.type "dict",data:=.dict #[] }) scope.names }:=by
 have hfree:∀y∈scope.names,y.2=.free→∃c,X.env.cells.lookup y.1=some c:=fun y hy e=>by
  rcases ok.free y hy e with k | k
  ·exact I.ok.has _ (.inl k)
  ·exact I.ok.has _ (.inr k)
 generalize hcenv:compEnvC scope (cellsFrom (s.heap.objs.size + 1) scope.names (cO X.env.cells scope.names [])) s.heap.objs.size X.env=cenv
 have kp:∀b o,s.heap.get? b=some o→(pushCells (s.heap.push { cls:=.type "dict",data:=.dict #[] }) scope.names).get? b=some o:=fun b o e=>pushCells_keeps _ _ _ _ (Heap.get?_push_of_some _ e)
 have hL:cenv.locals=s.heap.objs.size:=by rw [← hcenv];rfl
 have hcl:cenv.cells=cellsFrom (s.heap.objs.size + 1) scope.names (cO X.env.cells scope.names []):=by rw [← hcenv];rfl
 have hsc:cenv.scope=Ga scope X.env.scope:=by rw [← hcenv];rfl
 rw [← Heap.size_push s.heap { cls:=.type "dict",data:=.dict #[] }] at hcl
 have cm:∀{y c},(y,c)∈cO X.env.cells scope.names []→X.env.cells.lookup y=some c∧c < s.heap.objs.size:=fun {y c} hm=>by
  rcases jw hm with hm | ⟨h1,rfl⟩
  ·cases hm
  ·obtain ⟨c,hc⟩:=hfree _ h1 rfl
   rw [hc]
   obtain ⟨w,z⟩:=I.cell _ _ hc
   exact ⟨rfl,z.lt⟩
 have mem:∀{y c},cenv.cells.lookup y=some c→(X.env.cells.lookup y=some c∧c < s.heap.objs.size)∨(s.heap.objs.size + 1≤c∧A0 (pushCells (s.heap.push { cls:=.type "dict",data:=.dict #[] }) scope.names) c none):=fun {y c} e=>by
  rw [hcl] at e
  rcases ki (PySem.mem_of_lookup e) with hm | ⟨_,h2,h3⟩
  ·exact .inl (cm hm)
  ·rw [Heap.size_push] at h2;exact .inr ⟨h2,h3⟩
 have look:∀{y},scope.names.lookup y=some .free→∃c,cenv.cells.lookup y=some c∧X.env.cells.lookup y=some c:=fun {y} hl=>by
  have hy:(y,NameKind.free)∈scope.names:=PySem.mem_of_lookup hl
  obtain ⟨c',e'⟩:=mem_lookup (ml (names:=scope.names) (n:=(s.heap.push { cls:=.type "dict",data:=.dict #[] }).objs.size) (lJ (cells:=X.env.cells) (acc:=[]) hy))
  rw [← hcl] at e'
  refine ⟨c',e',?_⟩
  rw [hcl] at e'
  rcases ki (PySem.mem_of_lookup e') with hm | ⟨h1,_,_⟩
  ·exact (cm hm).1
  ·have:=ok.uniq _ h1
   rw [hl] at this;cases this
 have okB:(X.wB s H scope cenv fp).Ok:=by
  refine ⟨I.ok.mod,by show cenv.scope.kind=_;rw [hsc];exact ok.kind,by show cenv.globals=_;rw [← hcenv];exact I.ok.glob,by show cenv.builtins=_;rw [← hcenv];exact I.ok.blt,by show s.heap.objs.size≤cenv.locals;rw [hL];exact Nat.le_refl _,
   fun y z c e1 e2=>?_,fun y hy=>?_,fun y c z e=>?_,I.ok.hd,I.ok.frames,.inl rfl,fun b hb=>⟨?_,fun y c e z=>?_⟩,I.bs,Nat.le_trans I.ok.BF I.sz,fun b o e hb=>?_,fun b hb z=>?_,I.stack,I.x_⟩
  ·have e1:cenv.cells.lookup y=some c:=e1
   have e2:cenv.cells.lookup z=some c:=e2
   rw [hcl] at e1 e2
   refine pq (fun p hp=>?_) (fun y z c a b=>I.ok.inj y z c (cm a).1 (cm b).1) (PySem.mem_of_lookup e1) (PySem.mem_of_lookup e2)
   rw [Heap.size_push]
   exact Nat.lt_succ_of_lt (cm (y:=p.1) (c:=p.2) hp).2
  ·show ∃c,cenv.cells.lookup y=some c
   have key:∀k,cenv.kindOf y=some k→(k=.cell∨k=.free)→∃c,cenv.cells.lookup y=some c:=fun k hk hk'=>by
    unfold Env.kindOf at hk
    rw [hsc] at hk
    obtain ⟨k',e,r⟩:=lK hk
    have:k'=.cell∨k'=.free:=by
     rcases r with rfl | ⟨rfl,_⟩
     ·exact hk'
     ·exact .inr rfl
    rcases this with rfl | rfl
    ·obtain ⟨c,hm⟩:=pj (n:=(s.heap.push { cls:=.type "dict",data:=.dict #[] }).objs.size) (acc:=cO X.env.cells scope.names []) (PySem.mem_of_lookup e)
     obtain ⟨c',e'⟩:=mem_lookup hm
     exact ⟨c',by rw [hcl];exact e'⟩
    ·obtain ⟨c,h1,_⟩:=look e
     exact ⟨c,h1⟩
   rcases hy with hy | hy
   ·exact key _ hy (.inl rfl)
   ·exact key _ hy (.inr rfl)
  ·have z:(scope.names.lookup y == some NameKind.cell)=true:=z
   have z:scope.names.lookup y=some .cell:=by simpa using z
   have e:cenv.cells.lookup y=some c:=e
   rw [hcl] at e
   rcases ki (PySem.mem_of_lookup e) with hm | ⟨_,h2,_⟩
   ·rcases jw hm with hm | ⟨h1,_⟩
    ·cases hm
    ·have q:=ok.uniq _ h1
     rw [z] at q;cases q
   ·rw [Heap.size_push] at h2
    exact Nat.le_of_succ_le h2
  ·show b≠cenv.locals
   rw [hL];exact Nat.ne_of_lt (hfp b hb).2
  ·have e:cenv.cells.lookup y=some c:=e
   rcases mem e with ⟨h1,_⟩ | ⟨h1,_⟩
   ·exact (hfp b hb).1.2.2.2.2.1 y c h1 z
   ·have h2:s.heap.objs.size + 1≤b:=by rw [← z];exact h1
    exact absurd (Nat.lt_of_lt_of_le (hfp b hb).2 (Nat.le_of_succ_le h2)) (Nat.lt_irrefl _)
  ·rcases (hfp b hb).1.2.2.2.1 with z | z
   ·exact I.ok.AE b o e z
   ·exact absurd (Nat.lt_of_lt_of_le (Heap.lt_size e) (Nat.le_trans I.ok.BF z)) (Nat.lt_irrefl _)
  ·rcases List.mem_cons.mp (I.wC b z) with z | z
   ·exact (hfp b hb).1.2.1 z
   ·exact (hfp b hb).1.2.2.1 z
 refine ⟨okB,rfl,I.bare,Un.kept kp,⟨fun _=>none,?_,fun i y av e1 e2 e3=>?_⟩,fun y c e=>?_,?_,fun y c e=>?_,fun p hp=>?_,I.dZ.kept kp,by rw [lL];exact I.len⟩
 ·show Heap.Ns _ cenv.locals _
  rw [hL]
  exact Heap.Ns.keeps (Heap.Ns.new ..) fun b o e=>pushCells_keeps _ _ _ _ e
 ·obtain ⟨e2,hne⟩:=pA e2
  have hfr:scope.names.lookup y=some .free∧(cenv.kindOf y=some .cell∨cenv.kindOf y=some .free):=by
   have key:∀k,cenv.scope.names.lookup y=some k→k=.local∨k=.cell∨k=.free→scope.names.lookup y=some .free∧(cenv.kindOf y=some .cell∨cenv.kindOf y=some .free):=fun k hk hk'=>by
    have hk0:=hk
    rw [hsc] at hk
    obtain ⟨k',e,r⟩:=lK hk
    have no:¬ (k'=.local∨k'=.cell):=fun hh=>by
     rcases ok.own _ (PySem.mem_of_lookup e) hh with e' | e'
     ·obtain ⟨p,hp,hpy⟩:=List.mem_map.mp e'
      have e3:=ok.ix p hp
      have:p.1=y:=hpy
      rw [this] at e3
      exact hne (List.mem_map.mpr ⟨p,hp,qQ hN e3 e1⟩)
     ·exact e' (List.mem_of_getElem? e1)
    rcases r with rfl | ⟨rfl,rfl⟩
    ·rcases hk' with rfl | rfl | rfl
     ·exact absurd (.inl rfl) no
     ·exact absurd (.inr rfl) no
     ·exact ⟨e,.inr hk0⟩
    ·exact ⟨e,.inl hk0⟩
   have e3:Ee cenv.scope y:=e3
   rcases e3 with e3 | e3 | e3
   ·exact key _ e3 (.inl rfl)
   ·exact key _ e3 (.inr (.inl rfl))
   ·exact key _ e3 (.inr (.inr rfl))
  obtain ⟨m,hn,hl⟩:=I.loc
  have hvis:Ee X.env.scope y:=(ok.free _ (PySem.mem_of_lookup hfr.1) rfl).elim (fun k=>.inr (.inl k)) (fun k=>.inr (.inr k))
  obtain ⟨w,r,q⟩:=hl i y av e1 e2 hvis
  refine ⟨w,r,.inr ⟨hfr.2,?_⟩⟩
  obtain ⟨c,h1,h2⟩:=look hfr.1
  rcases q with ⟨k,_⟩ | ⟨_,c',e',z⟩
  ·have k:X.env.scope.names.lookup y=some .local:=k
   rcases ok.free _ (PySem.mem_of_lookup hfr.1) rfl with k' | k' <;> rw [show X.env.scope.names.lookup y=_ from k'] at k <;> cases k
  ·rw [h2] at e';cases e'
   exact ⟨c,h1,z.keeps kp⟩
 ·have e:cenv.cells.lookup y=some c:=e
  rcases mem e with ⟨h1,_⟩ | ⟨_,z⟩
  ·obtain ⟨w,z⟩:=I.cell y c h1
   exact ⟨w,z.keeps kp⟩
  ·exact ⟨_,z⟩
 ·show H cenv.locals=none
  rw [hL];exact I.dZ.fresh (Nat.le_refl _)
 ·have e:cenv.cells.lookup y=some c:=e
  rcases mem e with ⟨h1,_⟩ | ⟨h1,_⟩
  ·exact I.kg y c h1
  ·exact I.dZ.fresh (Nat.le_of_succ_le h1)
 ·exact absurd (show p∈([]:List (Addr × Obj))++[] from hp) (by simp)
theorem DD {E:Value→Shared→Prop} {D:Addr} {xs:List V} {y:V} {v:Value} {Q:Value→Shared→Prop} (I:Inv X pins σ H s) (hD:H D=some (.lst xs)) (hz:xs.length < sizeLine) (r:RelV y v)
  (h:∀s',Inv X pins σ (upd H D (.lst (xs++[y]))) s'→Q .none s'):wpAny (model X.prog X.w) X.A (call (.builtin "list.append") [.ref D,v]) Q E s:=by
 obtain ⟨hz',its,n,ri,e⟩:=I.dZ D _ hD
 have hl:=ri.length
 refine append_at (hsz:=by rw [List.size_toArray];omega) e fun h' sb ho'=>?_
 refine h { s with heap:=h' } (I.write (t':=s.toks) (by rw [hD];trivial) (.inl rfl) (fun b u hb q=>(sb.2 b hb).trans q) ⟨_,ho'⟩ ⟨by rw [List.length_append];exact hz,its++[v],n + 1,ri.append (.cons r .nil),?_⟩)
 rw [ho']
 simp
def Gb (X:Cx) (ifs:List Expr) (t:TT):Prop:=
 ∀(pins:List (Addr × Obj)) (s:Shared) (σ:St) (H:Hp) (Q:Bool→Hp→Prop),Inv X pins σ H s→t σ H Q→
  wpAny (model X.prog X.w) X.A (forIn ifs true fun c r=>if r=true then do let ok ← isTrue c X.env (eval c X.env);pure (ForInStep.yield ok) else pure (ForInStep.yield r)) (TP X pins σ Q) X.xe s
def EO:TT:=fun _ H Q=>Q true H
theorem kH:Gb X [] EO:=fun _ _ _ H _ I h=>wpAny_tests_nil ⟨H,I,h⟩
end
theorem zz {α:Type} {t:Sem α} {Q Q':α→Shared→Prop} {M:Model} {A:Around} {E:Value→Shared→Prop} {s:Shared} (h:wpAny M A t Q (fun _ _=>False) s) (hQ:∀a s,Q a s→Q' a s):wpAny M A t Q' E s:=wpAny_mono h hQ fun _ _ z=>False.elim z
theorem tU {prog:Program} {w:World} {A:Around} {R:Result→Shared→Prop} {s:Shared} {elt target iter:Expr} {ifs:List Expr} {scope:Scope} {pos:Pos} {it acc:Value} {env:Env} (I:Nat→Shared→Prop)
  (turn:∀n s,I n s→wpAny (model prog w) A (pyNext it) (fun r s₁=>match r with
   | none=>R (.ok .next) s₁
   | some v=>wpAny (model prog w) A (letOwnedTupleGo target it v) (fun _ s₁'=>wpAny (model prog w) A (assign target env v) (fun _ s₂=>
     wpAny (model prog w) A (forIn ifs true fun c r=>if r=true then do let ok ← isTrue c env (eval c env);pure (ForInStep.yield ok) else pure (ForInStep.yield r)) (fun ok s₃=>
      if ok=true then wpAny (model prog w) A (eval elt env) (fun x s₄=>
       wpAny (model prog w) A (call (.builtin "list.append") [acc,x]) (fun _ s₅=>∃m,m < n∧I m s₅) (notedBy (model prog w) A env fun e s'=>R (.error e) s') s₄) (notedBy (model prog w) A env fun e s'=>R (.error e) s') s₃
      else ∃m,m < n∧I m s₃) (notedBy (model prog w) A env fun e s'=>R (.error e) s') s₂) (notedBy (model prog w) A env fun e s'=>R (.error e) s') s₁') (notedBy (model prog w) A env fun e s'=>R (.error e) s') s₁) (notedBy (model prog w) A env fun e s'=>R (.error e) s') s)
  (n:Nat) (h:I n s) :
  codeAny (model prog w) A (.compLoop (.ListComp elt [⟨target,iter,ifs,0⟩] scope pos) 0 it acc env) R s:=by
 refine codeAny_loop rfl I (fun n s hI=>?_) n h
 show wpAny _ A ((compTurn (.ListComp elt [⟨target,iter,ifs,0⟩] scope pos) 0 it acc env).onRaise (fun x=>do noteFrame x env;theTreesLotGoes x)) _ _ s
 refine wpAny_noted ?_
 rw [compTurn_list]
 refine wpAny_bind (wpAny_standAt (wpAny_bind (wpAny_mono (turn n s hI) (fun r s₁ h₁=>?_) fun _ _ h'=>h')))
 cases r with
 | none=>exact wpAny_pure h₁
 | some v=>
  refine wpAny_bind (wpAny_mono h₁ (fun _ s₁' h₁'=>?_) fun _ _ h'=>h')
  refine wpAny_bind (wpAny_mono h₁' (fun _ s₂ h₂=>wpAny_bind (wpAny_mono h₂ (fun ok s₃ h₃=>?_) fun _ _ h'=>h')) fun _ _ h'=>h')
  cases ok with
  | false=>exact wpAny_pure ⟨rfl,h₃⟩
  | true=>
   exact wpAny_bind (wpAny_bind (wpAny_mono h₃ (fun x s₄ h₄=>wpAny_bind (wpAny_mono h₄ (fun _ s₅ h₅=>wpAny_pure (wpAny_pure ⟨rfl,h₅⟩)) fun _ _ h'=>h')) fun _ _ h'=>h'))
section
variable {X:Cx}
def Gz (wi:TI) (g:TG) (tt:TT) (te:TE) (vs:List Nat):TE:=fun σ H Q=>wi σ H fun J H1=>∀D,H1 D=none→∃W:Nat→Nat→Hp→Prop,(∃m,W 0 m (upd H1 D (.lst [])))∧∀i m H,W i m H→
 (J.stop i H∧Q (.ref D) H)∨(J.go i H∧∃Nx:Hp→Prop,(∀H',Nx H'→∃m',m' < m∧W (i + 1) m' H')∧∀x H',J.zj i H x H'→g x (wipe σ vs) H' fun σ2 H2=>wipe σ2 vs=wipe σ vs∧tt σ2 H2 fun b H3=>
  if b=true then te σ2 H3 fun y H4=>∃acc,H4 D=some (.lst acc)∧acc.length < sizeLine∧Nx (upd H4 D (.lst (acc++[y]))) else Nx H3)
theorem BW {pins:List (Addr × Obj)} {s:Shared} {σ:St} {H:Hp} {Q:VK} {elt tg iter:Expr} {ifs:List Expr} {scope:Scope} {own:List (Str × Nat)} {pos pos':Pos} {wi:TI} {g:TG} {tt:TT} {te:TE} {use:Option (Value→Sem Unit)} {Qf:Value→Shared→Prop}
  (hc:X.calm=true) (hN:X.N.Nodup) (I:Inv X pins σ H s) (hi:PI X tg iter wi) (ok:yo X.N X.env.scope scope own)
  (hg:∀(s:Shared) (H:Hp) (C:Addr) (cl:List (Str × Addr)) (fp:List Addr),PG (X.wB s H scope (compEnvC scope cl C X.env) fp) tg g) (ht:∀(s:Shared) (H:Hp) (C:Addr) (cl:List (Str × Addr)) (fp:List Addr),Gb (X.wB s H scope (compEnvC scope cl C X.env) fp) ifs tt)
  (he:∀(s:Shared) (H:Hp) (C:Addr) (cl:List (Str × Addr)) (fp:List Addr),PE (X.wB s H scope (compEnvC scope cl C X.env) fp) elt te) (hs:∀x,foldedSetIterable iter X.env x=pure x)
  (h:Gz wi g tt te (own.map (·.2)) σ H Q)
  (hRR:∀D C s' m H',Inv X pins σ H' s'→Q (.ref D) H'→s'.heap.Ns C m→qg X pins H' C→compPost (model X.prog X.w) X.A X.xe use Qf (.ref D) C (.ok .next) s') :
  wpAny (model X.prog X.w) X.A (comprehension (.ListComp elt [⟨tg,iter,ifs,0⟩] scope pos) scope X.env pos' (newList []) false (eval iter X.env) use) Qf X.xe s:=by
 have hfree:∀y∈scope.names,y.2=.free→∃c,X.env.cells.lookup y.1=some c:=fun y hy e=>by
  rcases ok.free y hy e with k | k
  ·exact I.ok.has _ (.inl k)
  ·exact I.ok.has _ (.inr k)
 refine wpAny_comprehension_free (use:=use) rfl hs (xb hfree) ok.kind (fun y hy e=>by rw [ok.uniq y hy,e])
  (d4 (hi pins s σ H _ I h) fun xv s1 hx=>d4 hx fun itv s2 h2=>?_)
 obtain ⟨it,fp,tn,J,H2,e,I2,T,st2,f2,q⟩:=h2
 subst e
 refine wpAny_newObj_type (vk ?_) (by show 0≤sizeLine;decide)
 generalize hD:s2.heap.objs.size=D
 have hDn:H2 D=none:=I2.dZ.fresh (Nat.le_of_eq hD)
 obtain ⟨W,⟨m0,w0⟩,turn⟩:=q D hDn
 generalize hs3:({ s2 with heap:=s2.heap.push { cls:=.type "list",data:=.seq ([]:List Value).toArray } }:Shared)=s3
 have I3:Inv X pins σ (upd H2 D (.lst [])) s3:=by
  rw [← hs3]
  refine I2.laid (t':=s2.toks) (fun b o e=>Heap.get?_push_of_some _ e) (Nat.le_of_eq hD) ⟨Nat.zero_le _,[],0,.nil,?_⟩
  rw [← hD]
  exact Heap.get?_push_size _ rfl
 have h3:s3.heap=s2.heap.push { cls:=.type "list",data:=.seq ([]:List Value).toArray }:=by rw [← hs3]
 have sz:∀b∈fp,b < s2.heap.objs.size:=fun b hb=>by
  obtain ⟨o,e,_⟩:=T.obj _ _ st2 b hb
  exact Heap.lt_size e
 have f3:∀b∈fp,qg X pins (upd H2 D (.lst [])) b∧b < s3.heap.objs.size:=fun b hb=>by
  have hlt:=sz b hb
  refine ⟨⟨?_,(f2 b hb).2⟩,by rw [h3,Heap.size_push];exact Nat.lt_succ_of_lt hlt⟩
  rw [aj (by rw [← hD];exact Nat.ne_of_lt hlt)]
  exact (f2 b hb).1
 have st3:tn 0 s3.heap:=T.keep _ _ _ st2 fun b _ o e=>by rw [h3];exact Heap.get?_push_of_some _ e
 have I4:=vm I3 ok hN f3
 have pg:=hg s3 (upd H2 D (.lst [])) s3.heap.objs.size (cellsFrom (s3.heap.objs.size + 1) scope.names (cO X.env.cells scope.names [])) fp
 have pt:=ht s3 (upd H2 D (.lst [])) s3.heap.objs.size (cellsFrom (s3.heap.objs.size + 1) scope.names (cO X.env.cells scope.names [])) fp
 have pe:=he s3 (upd H2 D (.lst [])) s3.heap.objs.size (cellsFrom (s3.heap.objs.size + 1) scope.names (cO X.env.cells scope.names [])) fp
 show codeAny _ _ (.compStart (.ListComp elt [⟨tg,iter,ifs,0⟩] scope pos) 0 (.ref it) (.ref D) (compEnvC scope (cellsFrom (s3.heap.objs.size + 1) scope.names (cO X.env.cells scope.names [])) s3.heap.objs.size X.env)) (compPost (model X.prog X.w) X.A X.xe use Qf (.ref D) s3.heap.objs.size) { s3 with heap:=pushCells (s3.heap.push { cls:=.type "dict",data:=.dict #[] }) scope.names }
 have nfp:∀b∈fp,(upd H2 D (.lst [])) b=none:=fun b hb=>(f3 b hb).1.1
 generalize hce:compEnvC scope (cellsFrom (s3.heap.objs.size + 1) scope.names (cO X.env.cells scope.names [])) s3.heap.objs.size X.env=ce at I4 pg pt pe ⊢
 have cL:ce.locals=s3.heap.objs.size:=by subst hce;rfl
 generalize hH3:upd H2 D (.lst [])=H3 at I3 I4 pg pt pe w0 nfp f3
 generalize hs4:({ s3 with heap:=pushCells (s3.heap.push { cls:=.type "dict",data:=.dict #[] }) scope.names }:Shared)=s4 at I4 ⊢
 have st4:tn 0 s4.heap:=T.keep _ _ _ st3 fun b _ o e=>by rw [← hs4];exact pushCells_keeps _ _ _ _ (Heap.get?_push_of_some _ e)
 have stat:∀{σ':St} {H':Hp} {s':Shared},Inv (X.wB s3 H3 scope ce fp) [] σ' H' s'→(∀b∈fp,H' b=none)→∀b∈fp,qg (X.wB s3 H3 scope ce fp) [] H' b:=fun {σ' H' s'} I' hn b hb=>
  ⟨hn b hb,(I'.ok.Fu b hb).1,I'.ok.AF b hb,.inl hb,fun x c e=>(I'.ok.Fu b hb).2 x c e,fun p hp=>absurd (show p∈([]:List (Addr × Obj))++[] from hp) (by simp)⟩
 have loop:codeAny (model X.prog X.w) X.A (.compLoop (.ListComp elt [⟨tg,iter,ifs,0⟩] scope pos) 0 (.ref it) (.ref D) ce) (compPost (model X.prog X.w) X.A X.xe use Qf (.ref D) s3.heap.objs.size) s4:=by
  refine tU (fun n s'=>∃i H',Inv (X.wB s3 H3 scope ce fp) [] (wipe σ (own.map (·.2))) H' s'∧tn i s'.heap∧(∀b∈fp,H' b=none)∧W i n H') ?_ m0 ⟨0,H3,I4,st4,nfp,w0⟩
  rintro n s5 ⟨i,H5,I5,st5,n5,w5⟩
  rcases turn i n H5 w5 with ⟨stop,qq⟩ | ⟨go,Nx,hNx,step⟩
  ·have td:=T.done (X.wB s3 H3 scope ce fp) rfl rfl rfl hc i [] s5 _ H5 (fun _ _=>False) I5 (stat I5 n5) st5 stop
   refine zz td fun r s6 ⟨hr,I6⟩=>?_
   subst hr
   have I7:Inv X pins σ H5 s6:=I3.En (ch:=fp) I6.os I6.base I6.dZ I6.bare fun b hb=>⟨(f3 b hb).1.2.2.2.1,(f3 b hb).1.2.1,(f3 b hb).1.2.2.2.2.1,(f3 b hb).1.2.2.2.2.2⟩
   have nC:H5 s3.heap.objs.size=none:=by
    have z:H5 ce.locals=none:=I6.free
    rw [cL] at z
    exact z
   obtain ⟨m,hn,_⟩:=I6.loc
   have hn:s6.heap.Ns ce.locals m:=hn
   rw [cL] at hn
   exact hRR D s3.heap.objs.size s6 m H5 I7 qq hn (I3.wL (Nat.le_refl _) nC)
  ·have ti:=T.item (X.wB s3 H3 scope ce fp) rfl rfl rfl hc i [] s5 _ H5 (fun _ _=>False) I5 (stat I5 n5) st5 go
   refine zz ti fun r s6 ⟨u,hr,h6⟩=>?_
   subst hr
   refine zz h6 fun _ s7 ⟨x,H7,I7,r7,y7,st7,n7⟩=>?_
   have I7':=I7.pinned (stat I7 n7) (T.obj _ _ st7)
   refine zz (pg _ s7 _ H7 x u _ I7' r7 (step x H7 y7)) fun _ s8 ⟨σ8,H8,I8,hw8,q8⟩=>?_
   refine zz (pt _ s8 σ8 H8 _ I8 q8) fun b s9 ⟨H9,I9,q9⟩=>?_
   have fin:∀{s':Shared} {H':Hp},Inv (X.wB s3 H3 scope ce fp) ([]++qT fp s7.heap) σ8 H' s'→Nx H'→∃m,m < n∧∃i H',Inv (X.wB s3 H3 scope ce fp) [] (wipe σ (own.map (·.2))) H' s'∧tn i s'.heap∧(∀b∈fp,H' b=none)∧W i m H':=fun {s' H'} I' nx=>by
    obtain ⟨m',hm,w'⟩:=hNx H' nx
    have pin':∀b∈fp,∀o,s7.heap.get? b=some o→s'.heap.get? b=some o∧H' b=none:=fun b hb o e=>
     let z:=I'.pin (b,o) (List.mem_append_right _ (List.mem_append_right _ (ni hb e)))
     ⟨z.1,z.2.1⟩
    have hl:(wipe σ (own.map (·.2))).length=σ8.length:=by rw [← hw8,lL]
    refine ⟨m',hm,i + 1,H',(I'.nT (pins:=[])).weak hl (fun j v e=>?_),T.keep _ _ _ st7 fun b hb o e=>(pin' b hb o e).1,fun b hb=>?_,w'⟩
    ·rw [← hw8] at e
     exact (pA e).1
    ·obtain ⟨o,e,_⟩:=T.obj _ _ st7 b hb
     exact (pin' b hb o e).2
   cases b with
   | false=>
    simp only [Bool.false_eq_true,if_false] at q9 ⊢
    exact fin I9 q9
   | true=>
    simp only [if_true] at q9 ⊢
    refine zz (pe _ s9 σ8 H9 _ I9 q9) fun z s10 ⟨yv,H10,I10,r10,acc,hD10,hz10,nx⟩=>?_
    exact DD (X:=X.wB s3 H3 scope ce fp) I10 hD10 hz10 r10 fun s11 I11=>fin I11 nx
 exact codeAny_compStart_list loop (T.self X.A 0 _ _ _ st4 loop)
theorem rf {elt tg iter:Expr} {ifs:List Expr} {scope:Scope} {own:List (Str × Nat)} {pos:Pos} {wi:TI} {g:TG} {tt:TT} {te:TE} (hc:X.calm=true) (hN:X.N.Nodup) (hi:PI X tg iter wi) (ok:yo X.N X.env.scope scope own)
  (hg:∀(s:Shared) (H:Hp) (C:Addr) (cl:List (Str × Addr)) (fp:List Addr),PG (X.wB s H scope (compEnvC scope cl C X.env) fp) tg g) (ht:∀(s:Shared) (H:Hp) (C:Addr) (cl:List (Str × Addr)) (fp:List Addr),Gb (X.wB s H scope (compEnvC scope cl C X.env) fp) ifs tt)
  (he:∀(s:Shared) (H:Hp) (C:Addr) (cl:List (Str × Addr)) (fp:List Addr),PE (X.wB s H scope (compEnvC scope cl C X.env) fp) elt te) (hs:∀x,foldedSetIterable iter X.env x=pure x:=by intro _;rfl) :
  PE X (.ListComp elt [⟨tg,iter,ifs,0⟩] scope pos) (Gz wi g tt te (own.map (·.2))):=by
 intro pins s σ H Q I h
 rw [eval_ListComp]
 refine BW hc hN I hi ok hg ht he hs h fun D C s' m H' I' q hn f=>⟨m,hn,fun h'' sb=>?_⟩
 obtain ⟨f0,f1,f2,f3,f4,f5⟩:=f
 exact ⟨.ref D,H',I'.turned (t':=s'.toks) (fun b o hb e=>(sb.2 b hb).trans e) f0 f1 f3 f4 f5,rfl,q⟩
end
theorem vn {lo:Int} {n:Nat} {g:TG} {tt:TT} {te:TE} {vs:List Nat} {σ:St} {H1:Hp} {D:Addr} {Qd:Hp→Prop} (Pv:Nat→Hp→Prop) (h0:Pv 0 (upd H1 D (.lst [])))
  (hs:∀i H,i < n→Pv i H→g (.int (lo + i)) (wipe σ vs) H fun σ2 H2=>wipe σ2 vs=wipe σ vs∧tt σ2 H2 fun b H3=>
   if b=true then te σ2 H3 fun y H4=>∃acc,H4 D=some (.lst acc)∧acc.length < sizeLine∧Pv (i + 1) (upd H4 D (.lst (acc++[y]))) else Pv (i + 1) H3) (hd:∀H,Pv n H→Qd H) :
  ∃W:Nat→Nat→Hp→Prop,(∃m,W 0 m (upd H1 D (.lst [])))∧∀i m H,W i m H→
   ((BG lo n).stop i H∧Qd H)∨((BG lo n).go i H∧∃Nx:Hp→Prop,(∀H',Nx H'→∃m',m' < m∧W (i + 1) m' H')∧∀x H',(BG lo n).zj i H x H'→g x (wipe σ vs) H' fun σ2 H2=>wipe σ2 vs=wipe σ vs∧tt σ2 H2 fun b H3=>
    if b=true then te σ2 H3 fun y H4=>∃acc,H4 D=some (.lst acc)∧acc.length < sizeLine∧Nx (upd H4 D (.lst (acc++[y]))) else Nx H3):=by
 refine ⟨fun i m H=>m=n - i∧i≤n∧Pv i H,⟨n,by simp,Nat.zero_le _,h0⟩,?_⟩
 rintro i m H ⟨rfl,hi,p⟩
 by_cases hlt:i < n
 ·refine .inr ⟨hlt,Pv (i + 1),fun H' p'=>⟨n - (i + 1),by omega,rfl,hlt,p'⟩,fun x H' y=>?_⟩
  obtain ⟨e,y⟩:=y
  subst e y
  exact hs i _ hlt p
 ·have e:i=n:=by omega
  subst e
  exact .inl ⟨Nat.le_refl _,hd H p⟩
theorem yp {K:PySem.W.Frag} {a:Addr} {xs:List V} {g:TG} {tt:TT} {te:TE} {vs:List Nat} {σ:St} {H1:Hp} {D:Addr} {Qd:Hp→Prop} (Pv:Nat→Hp→Prop) (h0:Pv 0 (upd H1 D (.lst []))) (hl:∀i H,i≤xs.length→Pv i H→bV K H a xs)
  (hs:∀i x H,xs[i]?=some x→Pv i H→g x (wipe σ vs) H fun σ2 H2=>wipe σ2 vs=wipe σ vs∧tt σ2 H2 fun b H3=>
   if b=true then te σ2 H3 fun y H4=>∃acc,H4 D=some (.lst acc)∧acc.length < sizeLine∧Pv (i + 1) (upd H4 D (.lst (acc++[y]))) else Pv (i + 1) H3) (hd:∀H,Pv xs.length H→Qd H) :
  ∃W:Nat→Nat→Hp→Prop,(∃m,W 0 m (upd H1 D (.lst [])))∧∀i m H,W i m H→
   ((CK K a).stop i H∧Qd H)∨((CK K a).go i H∧∃Nx:Hp→Prop,(∀H',Nx H'→∃m',m' < m∧W (i + 1) m' H')∧∀x H',(CK K a).zj i H x H'→g x (wipe σ vs) H' fun σ2 H2=>wipe σ2 vs=wipe σ vs∧tt σ2 H2 fun b H3=>
    if b=true then te σ2 H3 fun y H4=>∃acc,H4 D=some (.lst acc)∧acc.length < sizeLine∧Nx (upd H4 D (.lst (acc++[y]))) else Nx H3):=by
 refine ⟨fun i m H=>m=xs.length - i∧i≤xs.length∧Pv i H,⟨xs.length,by simp,Nat.zero_le _,h0⟩,?_⟩
 rintro i m H ⟨rfl,hi,p⟩
 have q:=hl i H hi p
 by_cases hlt:i < xs.length
 ·refine .inr ⟨⟨xs,xs[i],q,by simp [hlt]⟩,Pv (i + 1),fun H' p'=>⟨xs.length - (i + 1),by omega,rfl,hlt,p'⟩,fun x H' y=>?_⟩
  obtain ⟨e,y⟩:=y
  subst e
  exact hs i x _ (y xs q) p
 ·have e:i=xs.length:=by omega
  subst e
  exact .inl ⟨⟨xs,q,Nat.le_refl _⟩,hd H p⟩
def ER (N:List Str) (sc scope:Scope) (own:List (Str × Nat)):Bool:=
 (match scope.kind with | .function=>true | _=>false) && (scope.names.all fun y=>decide (scope.names.lookup y.1=some y.2)) && (own.all fun p=>decide (N[p.2]?=some p.1)) &&
  (scope.names.all fun y=>match y.2 with
   | .free=>(match sc.names.lookup y.1 with | some .cell=>true | some .free=>true | _=>false)
   | .local=>decide (y.1∈own.map (·.1)) || decide (y.1∉N)
   | .cell=>decide (y.1∈own.map (·.1)) || decide (y.1∉N)
   | _=>true)
theorem jf {N:List Str} {sc scope:Scope} {own:List (Str × Nat)} (h:ER N sc scope own=true):yo N sc scope own:=by
 unfold ER at h
 simp only [Bool.and_eq_true,List.all_eq_true,decide_eq_true_eq] at h
 obtain ⟨⟨⟨h1,h2⟩,h3⟩,h4⟩:=h
 refine ⟨?_,h2,h3,fun y hy e=>?_,fun y hy e=>?_⟩
 ·split at h1
  ·assumption
  ·cases h1
 ·have q:=h4 y hy
  simp only [e] at q
  split at q <;> first | exact .inl (by assumption) | exact .inr (by assumption) | cases q
 ·have q:=h4 y hy
  rcases e with e | e <;> (simp only [e,Bool.or_eq_true,decide_eq_true_eq] at q;exact q)
end L2
namespace L2
open PySem PySem.Spec PyProof.Rows
section
variable {prog:Program} {w:World} {A:Around} {R:Result→Shared→Prop} {s:Shared} {elt t0 i0 t1 i1:Expr} {ifs0 ifs1:List Expr} {scope:Scope} {pos:Pos} {it acc:Value} {env:Env}
end
section
variable {X:Cx}
end
end L2
namespace L2
open PySem PySem.Spec PyProof.Rows
section
variable {κ:Type} [DecidableEq κ]
def n_ (kvs:List (κ × V)) (k:κ):Option V:=(kvs.find? fun kv=>decide (kv.1=k)).map (·.2)
theorem A1 {p:κ × V} {r:List (κ × V)} {k:κ} (e:p.1=k):n_ (p :: r) k=some p.2:=by simp [n_,List.find?_cons,e]
theorem A2 {p:κ × V} {r:List (κ × V)} {k:κ} (e:¬ p.1=k):n_ (p :: r) k=n_ r k:=by simp [n_,List.find?_cons,e]
theorem nO.zA {o:Option V} {u:Option Value} (r:nO o u):o.isSome=u.isSome:=by
 cases o with
 | none=>cases u with
  | none=>rfl
  | some _=>exact (show False from r).elim
 | some _=>cases u with
  | none=>exact (show False from r).elim
  | some _=>rfl
theorem KV.val {kvs:List (κ × V)} {vs:List (κ × Value)} (r:KV kvs vs) (k:κ):nO (n_ kvs k) (valueAt vs k):=by
 unfold KV at r
 induction r with
 | nil=>exact True.intro
 | @cons p q ps qs h t ih=>
  obtain ⟨h1,h2⟩:=h
  by_cases e:p.1=k
  ·have e':q.1=k:=h1.symm.trans e
   have b:valueAt (q :: qs) k=some q.2:=by simp [valueAt,List.find?_cons,e']
   rw [A1 e,b];exact h2
  ·have e':¬ q.1=k:=fun z=>e (h1.trans z)
   have b:valueAt (q :: qs) k=valueAt qs k:=by simp [valueAt,List.find?_cons,e']
   rw [A2 e,b];exact ih
end
theorem CM {P:Program} {w:World} {k:Key} {u:Value} (r:RelV (kV k) u):(gk P w).is k u=true:=by
 cases k with
 | inl i=>obtain ⟨t,e⟩:=(show ∃t,u=Value.int i t from r);subst e;exact u0 P w i t
 | inr x=>obtain ⟨t,e⟩:=(show ∃t,u=Value.str x t from r);subst e;exact u6 P w x t
section
variable {P:Program} {w:World} {H:Hp} {h:Heap} {a:Addr}
end
section
variable {X:Cx} {pins:List (Addr × Obj)} {σ:St} {H:Hp} {s:Shared} {a:Addr} {y v:V} {u r:Value} {o:Option V} {A:Around} {E:Value→Shared→Prop}
end
section
variable {X:Cx} {pins:List (Addr × Obj)} {σ:St} {H:Hp} {s:Shared} {a:Addr} {kvs:List (Key × V)} {k:Key} {u:Value} {A:Around} {E:Value→Shared→Prop}
end
def DE (i:Expr):Prop:=∀ov iv,subscripted i false ov iv=operate [ov,iv] (getItem ov iv)
theorem BX {prog:Program} {w:World} {A:Around} {E:Value→Shared→Prop} {s:Shared} {env:Env} {value slice:Expr} {pos:Pos} {T id:String} {Q:Value→Shared→Prop}
  (hl:typeLookup (.type T) "__getitem__"=pure (some (.builtin id))) (hs:DE slice)
  (h:wpAny (model prog w) A (eval value env) (fun o s₁=>wpAny (model prog w) A (eval slice env) (fun i s₂=>s₂.TypeIs o T∧wpAny (model prog w) A (getItem o i) Q E s₂) E s₁) E s) :
  wpAny (model prog w) A (eval (.Subscript value slice pos) env) Q E s:=by
 refine Subscript_ (wpAny_mono h (fun o s₁ h₁=>wpAny_mono h₁ (fun i s₂ h₂=>?_) fun _ _ x=>x) fun _ _ x=>x)
 obtain ⟨hT,h₂⟩:=h₂
 unfold subscriptTail
 refine wpAny_bind ?_
 rw [getitemInPython_of_ne hT.not_modules]
 refine wpAny_bind (wpAny_specialOf hT hl ?_)
 have fin:wpAny (model prog w) A (subscripted slice false o i) (fun r s₃=>wpAny (model prog w) A (letTemporaryGo value o r >>= fun _=>pure r) Q E s₃) E s₂:=by
  rw [hs o i]
  exact wpAny_operating (wpAny_mono h₂ (fun r s₃ h₃=>wpAny_bind (wpAny_letTemporaryGo (wpAny_pure h₃))) fun _ _ x=>x)
 first
  | exact wpAny_pure (wpAny_bind fin)
  | exact wpAny_bind (wpAny_pure (wpAny_bind fin))
  | exact wpAny_bind fin
section
variable {X:Cx} {o i e value:Expr} {pos pos' tpos:Pos} {td ty tv:TE}
end
section
variable {X:Cx} {pos:Pos}
end
section
variable {X:Cx} {pins:List (Addr × Obj)} {σ:St} {H:Hp} {s:Shared} {a:Addr} {y d:V} {u r:Value} {o:Option V} {A:Around} {E:Value→Shared→Prop}
end
section
variable {X:Cx} {o e f:Expr} {apos cpos:Pos} {td ty tx:TE}
end
section
variable {X:Cx} {pins:List (Addr × Obj)} {σ:St} {H:Hp} {s:Shared} {a:Addr} {kvs:List (Key × V)} {A:Around} {E:Value→Shared→Prop}
end
section
variable {X:Cx} {pins:List (Addr × Obj)} {σ:St} {H:Hp} {s:Shared} {a:Addr} {y:V} {u:Value} {A:Around} {E:Value→Shared→Prop}
end
end L2
namespace L2
open PySem PySem.Spec PyProof.Rows
section
variable {prog:Program} {w:World} {A:Around} {E:Value→Shared→Prop}
end
section
variable {X:Cx}
end
end L2
namespace L2
open PySem PySem.Spec PyProof.Rows
theorem rg:bootBuiltins "reversed"=some (.type "reversed"):=by decide +kernel
section
variable {X:Cx} {pins:List (Addr × Obj)} {σ:St} {H:Hp} {s:Shared} {h':Heap}
theorem Inv.BY {t':Nat} {ch:List Addr} (I:Inv X pins σ H s) (k:∀b o,b∉ch→s.heap.get? b=some o→h'.get? b=some o) (hf:∀b∈ch,qg X pins H b):Inv X pins σ H { s with heap:=h',toks:=t' }:=by
 have nit:∀b u,H b=some u→b∉ch:=fun b u e z=>by
  have q:=(hf b z).1
  rw [q] at e;cases e
 refine I.step (g':=s.gens) (d':=s.drawn) (ch:=ch) (fun b hb=>⟨(hf b hb).2.2.2.1,(hf b hb).2.1,(hf b hb).2.2.2.2.1,(hf b hb).2.2.2.2.2⟩) (fun b o _ _ hc e _=>k b o hc e) (fun b o _ _ hc e _=>⟨o.slots,k b o hc e⟩)
  (fun _ _ _ _ n=>n) (fun b o hc e=>⟨o,k b o hc e⟩) (fun _ _ e=>e) (fun _ _ _ e=>e) (fun b ps e=>⟨#[],by rw [e];simp⟩) (fun m hm=>?_) (fun b u e=>?_) I.bare
 ·obtain ⟨o,es,ep,ho,r⟩:=hm
  exact ⟨o,es,ep,k _ o (fun z=>(hf _ z).2.1 rfl) ho,r⟩
 ·refine (I.dZ b u e).si (fun c v hc q=>k c v ?_ q) (fun _ q=>q) fun _ _ q=>q
  rcases hc with z | z
  ·rw [z];exact nit b u e
  ·exact nit c _ z
theorem Inv.tq {t':Nat} {ch:List Addr} {T:Addr} {ob:HO} (I:Inv X pins σ H s) (k:∀b o,b∉ch→s.heap.get? b=some o→h'.get? b=some o) (hf:∀b∈ch,qg X pins H b) (hT:s.heap.objs.size≤T)
  (new:gm X.prog X.w (upd H T ob) h' T ob):Inv X pins σ (upd H T ob) { s with heap:=h',toks:=t' }:=by
 have hn:H T=none:=I.dZ.fresh hT
 have nit:∀b u,H b=some u→b∉ch:=fun b u e z=>by
  have q:=(hf b z).1
  rw [q] at e;cases e
 refine I.step (g':=s.gens) (d':=s.drawn) (ch:=ch) (fun b hb=>⟨(hf b hb).2.2.2.1,(hf b hb).2.1,(hf b hb).2.2.2.2.1,(hf b hb).2.2.2.2.2⟩) (fun b o _ _ hc e _=>k b o hc e) (fun b o _ _ hc e _=>⟨o.slots,k b o hc e⟩)
  (fun b o _ e n=>?_) (fun b o hc e=>⟨o,k b o hc e⟩) (fun b xs e=>?_) (fun b o u e=>?_) (fun b ps e=>⟨#[],?_⟩) (fun m hm=>?_) (fun b u e=>?_) I.bare
 ·rw [aj (Nat.ne_of_lt (Nat.lt_of_lt_of_le (Heap.lt_size e) hT))];exact n
 ·rw [aj (aE e hn)];exact e
 ·rw [aj (aE e hn)];exact e
 ·rw [aj (aE e hn),e];simp
 ·obtain ⟨o,es,ep,ho,r⟩:=hm
  exact ⟨o,es,ep,k _ o (fun z=>(hf _ z).2.1 rfl) ho,r⟩
 ·by_cases hb:b=T
  ·subst hb
   rw [ae] at e
   cases e
   exact new
  ·rw [aj hb] at e
   refine (I.dZ b u e).si (fun c v hc q=>k c v ?_ q) (fun c q=>by rw [aj (aE q hn)];exact q) fun c xs q=>by rw [aj (aE q hn)];exact q
   rcases hc with z | z
   ·rw [z];exact nit b u e
   ·exact nit c _ z
theorem Inv.lock {d:Addr} {u:HO} (I:Inv X pins σ H s) (h:H d=some u) (mu:Dh (some u)):∃od,Inv X pins σ (upd H d (.lE od u)) s:=by
 have x:=I.dZ d u h
 have ex:∃od,s.heap.get? d=some od:=by
  cases u with
  | lst xs=>obtain ⟨_,_,_,_,e⟩:=x;exact ⟨_,e⟩
  | dK kvs=>obtain ⟨_,_,_,_,o,_,_,e,_⟩:=x;exact ⟨o,e⟩
  | dT kvs=>obtain ⟨_,_,_,_,o,_,_,e,_⟩:=x;exact ⟨o,e⟩
  | set S n=>obtain ⟨o,_,_,_,e,_⟩:=x;exact ⟨o,e⟩
  | ins C dx fs=>obtain ⟨_,_,_,e,_⟩:=x;exact ⟨_,e⟩
  | ext φ=>obtain ⟨_,⟨_,e⟩,_⟩:=x;exact ⟨_,e⟩
  | _=>exact False.elim mu
 obtain ⟨od,e⟩:=ex
 have new:gm X.prog X.w (upd H d (.lE od u)) s.heap d (.lE od u):=by
  refine ⟨e,x.si (fun b v _ q=>q) (fun b q=>?_) fun b xs q=>?_⟩
  ·rw [aj (fun z=>by rw [z,h] at q;cases q;exact mu)];exact q
  ·rw [aj (fun z=>by rw [z,h] at q;cases q;exact mu)];exact q
 exact ⟨od,I.write (x:=d) (e:=d) (t':=s.toks) (h':=s.heap) (by rw [h];exact mu) (.inl rfl) (fun b v _ q=>q) ⟨od,e⟩ new⟩
theorem Inv.ES {d:Addr} {u:HO} (I:Inv X pins σ H s) (h:H d=some u) (mu:Dh (some u)):∀o' u',X.Di d≠some (.lE o' u'):=fun o' u' e=>by
 have q:=I.base.qP d o' u' e
 rw [h] at q
 cases q
 exact mu
theorem Inv.unlock {d:Addr} {od:Obj} {u:HO} (I:Inv X pins σ H s) (h:H d=some (.lE od u)) (hn:∀o' u',X.Di d≠some (.lE o' u')):Inv X pins σ (upd H d u) s:=by
 have neH:∀b o,H b=some o→(∀o' u',o≠.lE o' u')→b≠d:=fun b o e hne z=>by
  rw [z,h] at e
  cases e
  exact hne _ _ rfl
 have neN:∀b,H b=none→b≠d:=fun b e z=>by rw [z,h] at e;cases e
 refine ⟨I.ok,I.os,I.bare,⟨I.base.keep,I.base.slot,fun b o e n hx=>?_,I.base.there,fun b xs e=>?_,fun b o x e=>?_,fun b ps e=>?_⟩,I.loc,I.cell,?_,fun x c e=>?_,fun p hp=>?_,fun b o e=>?_,I.len⟩
 ·rw [aj (neN b (I.base.free b o e n hx))];exact I.base.free b o e n hx
 ·have q:=I.base.tK b xs e
  rw [aj (neH b _ q (fun _ _ z=>nomatch z))];exact q
 ·have q:=I.base.qP b o x e
  rw [aj (fun z=>by rw [z] at e;exact hn _ _ e)];exact q
 ·obtain ⟨m,q⟩:=I.base.tL b ps e
  exact ⟨m,by rw [aj (neH b _ q (fun _ _ z=>nomatch z))];exact q⟩
 ·rw [aj (neN _ I.free)];exact I.free
 ·rw [aj (neN c (I.kg x c e))];exact I.kg x c e
 ·obtain ⟨e,n,r⟩:=I.pin p hp
  exact ⟨e,by rw [aj (neN _ n)];exact n,r⟩
 ·by_cases hb:b=d
  ·rw [hb,ae] at e
   cases e
   rw [hb]
   obtain ⟨_,x⟩:=I.dZ d _ h
   exact x.si (fun c v _ q=>q) (fun c q=>by rw [aj (neH c _ q (fun _ _ z=>nomatch z))];exact q) fun c xs q=>by rw [aj (neH c _ q (fun _ _ z=>nomatch z))];exact q
  ·rw [aj hb] at e
   exact (I.dZ b o e).si (fun c v _ q=>q) (fun c q=>by rw [aj (neH c _ q (fun _ _ z=>nomatch z))];exact q) fun c xs q=>by rw [aj (neH c _ q (fun _ _ z=>nomatch z))];exact q
end
def DF (t:TE):TE:=fun σ H Q=>∃d u,H d=some u∧Dh (some u)∧∀od,t σ (upd H d (.lE od u)) fun v H'=>H' d=some (.lE od u)∧Q v (upd H' d u)
section
variable {X:Cx}
theorem BZ {e:Expr} {t:TE} (h:PE X e t):PE X e (DF t):=by
 intro pins s σ H Q I hw
 obtain ⟨d,u,hd,mu,hw⟩:=hw
 obtain ⟨od,I1⟩:=I.lock hd mu
 refine d4 (h pins s σ _ _ I1 (hw od)) fun v s1 ⟨x,H1,I2,r,e2,q⟩=>?_
 exact ⟨x,_,I2.unlock e2 (I.ES hd mu),r,q⟩
theorem xc {tg:Expr} {pins:List (Addr × Obj)} {σ:St} {H:Hp} {s:Shared} {R:It→Hp→Prop} {J:It} {tn:Nat→Heap→Prop} {tk:Nat} (I:Inv X pins σ H s) (o:Obj)
  (T:Turn X.prog X.w X.K tg J [s.heap.objs.size] s.heap.objs.size tn) (st:tn 0 (s.heap.push o)) (q:R J H):FT X pins σ tg R (.ref s.heap.objs.size) { s with heap:=s.heap.push o,toks:=tk }:=by
 refine ⟨s.heap.objs.size,[s.heap.objs.size],tn,J,H,rfl,I.kept fun b ob e=>Heap.get?_push_of_some _ e,T,st,fun b hb=>?_,q⟩
 have e:b=s.heap.objs.size:=by simpa using hb
 subst e
 exact I.wL (Nat.le_refl _) (I.dZ.fresh (Nat.le_refl _))
end
def CN (lo c:Int) (n:Nat):It:=⟨fun i _=>i < n,fun i H x H'=>H'=H∧x=.int (lo + (i:Nat) * c),fun i _=>n≤i⟩
theorem vo {P:Program} {w:World} {K:PySem.W.Frag} {tg:Expr} (it:Addr) (lo c:Int) (n:Nat):Turn P w K tg (CN lo c n) [it] it (fun i h=>IsRangeIter h it (lo + (i:Nat) * c) ((n:Int) - (i:Nat)) c) where
 mem:=by simp
 obj:=fun i h st b hb=>by
  have e:b=it:=by simpa using hb
  subst e
  exact ⟨_,st,fun v z=>nomatch z⟩
 keep:=fun i h h' st k=>k it (by simp) _ st
 item:=by
  intro X hP hw hK hc i pins s σ H E I hf st hg
  subst hP hw hK
  obtain ⟨f0,f1,f2,f3,f4,f5⟩:=hf it (by simp)
  have W:=Walks.range (prog:=X.prog) (w:=X.w) (I.ok.hd hc) it lo c n
  refine W.item i s _ _ hg st fun v h' tk hv st' kk=>?_
  obtain ⟨t,rfl⟩:=hv
  have I1:Inv X pins σ H { s with heap:=h',toks:=tk }:=I.turned (fun b o hb e=>kk b o (by simpa using hb) e) f0 f1 f3 f4 f5
  exact ⟨_,rfl,u_ (s:={ s with heap:=h',toks:=tk }) (n:="range_iterator") st' rfl rfl (by decide) ⟨.int (lo + (i:Nat) * c),H,I1,⟨t,rfl⟩,⟨rfl,rfl⟩,st',fun b hb=>(hf b hb).1⟩⟩
 done:=by
  intro X hP hw hK hc i pins s σ H E I hf st hg
  subst hP hw hK
  obtain ⟨f0,f1,f2,f3,f4,f5⟩:=hf it (by simp)
  exact wpAny_pyNext_range_end (I.ok.hd hc) st (by have:n≤i:=hg;omega) fun h' eb=>⟨rfl,I.turned (t':=s.toks) (fun b o hb e=>eb b o hb e) f0 f1 f3 f4 f5⟩
 self:=fun A i s Q E st h=>wpAny_pyIter_rangeiter st h
def ET (i j c:Int) (n:Nat):Prop:=c≠0∧c.natAbs < 1073741824∧Builtin.Range.small i j c=true∧Builtin.Range.rangeSize i j c=n
theorem ET.neg {i j:Int} (ha:-(2 ^ 62)≤i) (ha':i < 2 ^ 62) (hb:-(2 ^ 62)≤j) (hb':j < 2 ^ 62):ET i j (-1) (i - j).toNat:=
 ⟨by decide,by decide,PySem.W.small_down ha ha' hb hb',PySem.W.rangeSize_downNat i j⟩
def EU (ta:TA):TI:=fun σ H R=>ta σ H fun vs H1=>∃(i j c:Int) (n:Nat),vs=[.int i,.int j,.int c]∧ET i j c n∧R (CN i c n) H1
section
variable {X:Cx} {tg:Expr}
theorem pC {a b c:Expr} {ta:TA} {p pos:Pos} (hg:Gl X "range") (hm:X.mg "range"=none) (ha:PA X [a,b,c] ta)
  (hs:starEach [a,b,c] X.env=(false,eval a X.env) :: starEach [b,c] X.env:=by rfl) (hpl:(backTo pos (starEach [b,c] X.env)).any (·.1)=false:=by rfl) :
  PI X tg (.Call (.Name "range" p) [a,b,c] [] pos) (EU ta):=by
 intro pins s σ H R I h
 refine Call_ (kC I hg hm boot_range (PyProof.Rows.callWith_type1 (d4 (ha pos pins s σ H _ I h) fun us s1 ⟨vs,H1,I1,r1,q1⟩=>?_) hs hpl))
 obtain ⟨i,j,k,n,e,⟨c0,c1,c2,c3⟩,q⟩:=q1
 subst e
 cases r1 with
 | cons r rr=>
  cases rr with
  | cons r' rr=>
   cases rr with
   | cons r'' rr=>
    cases rr
    obtain ⟨t,rfl⟩:=r
    obtain ⟨t',rfl⟩:=r'
    obtain ⟨t'',rfl⟩:=r''
    refine call_range_3 c0 ?_ (.inl (PyProof.noPylong_small c1))
    refine wpAny_pyIter_range (IsRange.new ..) c2 ?_
    have I2:Inv X pins σ H1 { s1 with heap:=s1.heap.push { cls:=.type "range",data:=.fields #[.int i t,.int j t',.int k t''] } }:=I1.kept (t':=s1.toks) fun b o e=>Heap.get?_push_of_some _ e
    refine xc (tk:=s1.toks) I2 _ (vo _ i k n) ?_ q
    have e1:i + ((0:Nat):Int) * k=i:=by simp
    have e2:(n:Int) - ((0:Nat):Int)=Builtin.Range.rangeSize i j k:=by rw [c3];simp
    show IsRangeIter _ _ (i + ((0:Nat):Int) * k) ((n:Int) - ((0:Nat):Int)) k
    rw [e1,e2]
    exact Heap.get?_push_size _ rfl
end
theorem xf {lo c:Int} {n:Nat} {g:TG} {tb:TS} {D:Ends} {σ:St} {H:Hp} (Pv:Nat→St→Hp→Prop) (h0:Pv 0 σ H)
  (hs:∀i σ H,i < n→Pv i σ H→g (.int (lo + (i:Nat) * c)) σ H fun σ2 H2=>tb { D with nx:=Pv (i + 1),ct:=Pv (i + 1),bk:=D.nx } σ2 H2) (hd:∀σ H,Pv n σ H→D.nx σ H) :
  ∃W:Nat→Nat→St→Hp→Prop,(∃m,W 0 m σ H)∧∀i m σ H,W i m σ H→
   ((CN lo c n).stop i H∧D.nx σ H)∨((CN lo c n).go i H∧∃N:St→Hp→Prop,(∀σ' H',N σ' H'→∃m',m' < m∧W (i + 1) m' σ' H')∧∀x H',(CN lo c n).zj i H x H'→g x σ H' fun σ2 H2=>tb { D with nx:=N,ct:=N,bk:=D.nx } σ2 H2):=by
 refine ⟨fun i m σ H=>m=n - i∧i≤n∧Pv i σ H,⟨n,by simp,Nat.zero_le _,h0⟩,?_⟩
 rintro i m σ H ⟨rfl,hi,p⟩
 by_cases hlt:i < n
 ·refine .inr ⟨hlt,Pv (i + 1),fun σ' H' p'=>⟨n - (i + 1),by omega,rfl,hlt,p'⟩,fun x H' y=>?_⟩
  obtain ⟨e,y⟩:=y
  subst e y
  exact hs i σ _ hlt p
 ·have e:i=n:=by omega
  subst e
  exact .inl ⟨Nat.le_refl _,hd σ H p⟩
section
variable {X:Cx} {tg:Expr}
end
def EV (x:Str):It:=⟨fun i _=>i < x.cps.size,fun i H v H'=>H'=H∧∃c,x.cps[i]?=some c∧v=.str ⟨#[c]⟩,fun i _=>x.cps.size≤i⟩
theorem vp {P:Program} {w:World} {K:PySem.W.Frag} {tg:Expr} (it:Addr) (x:Str) (t:Tok) (ty:String) (hty:ty="str_ascii_iterator"∨ty="str_iterator") :
  Turn P w K tg (EV x) [it] it (fun i h=>h.IsStrIter it ty x t i) where
 mem:=by simp
 obj:=fun i h st b hb=>by
  have e:b=it:=by simpa using hb
  subst e
  obtain ⟨o,e,c,d⟩:=st
  exact ⟨o,e,fun v z=>by rw [d] at z;cases z⟩
 keep:=fun i h h' st k=>let ⟨o,ho,r⟩:=st;⟨o,k it (by simp) o ho,r⟩
 item:=by
  intro X hP hw hK hc i pins s σ H E I hf st hg
  subst hP hw hK
  obtain ⟨f0,f1,f2,f3,f4,f5⟩:=hf it (by simp)
  have W:Walks X.prog X.w X.A it [it] [it] x.cps.size (SignAt x) (fun i h=>h.IsStrIter it ty x t i):=by
   rcases hty with e | e
   ·rw [e];exact Walks.strAscii (I.ok.hd hc) it x t
   ·rw [e];exact Walks.strWide (I.ok.hd hc) it x t
  have hno:["enumerate","zip","dict_itemiterator","dict_reverseitemiterator","odict_iterator","itertools.zip_longest","itertools.pairwise"].contains ty=false:=by
   rcases hty with e | e
   ·rw [e];decide
   ·rw [e];decide
  refine W.item i s _ _ hg st fun v h' tk hv st' kk=>?_
  obtain ⟨c,u,hcx,rfl⟩:=hv
  have I1:Inv X pins σ H { s with heap:=h',toks:=tk }:=I.turned (fun b o hb e=>kk b o (by simpa using hb) e) f0 f1 f3 f4 f5
  obtain ⟨oi,e,cc,dd⟩:=id st'
  exact ⟨_,rfl,u_ (s:={ s with heap:=h',toks:=tk }) e cc dd hno ⟨.str ⟨#[c]⟩,H,I1,⟨u,rfl⟩,⟨rfl,c,hcx,rfl⟩,st',fun b hb=>(hf b hb).1⟩⟩
 done:=by
  intro X hP hw hK hc i pins s σ H E I hf st hg
  subst hP hw hK
  obtain ⟨f0,f1,f2,f3,f4,f5⟩:=hf it (by simp)
  have hx:x.cps[i]?=none:=Array.getElem?_eq_none hg
  rcases hty with e | e
  ·rw [e] at st
   exact wpAny_pyNext_ascii_end (I.ok.hd hc) st hx fun h' eb=>⟨rfl,I.turned (t':=s.toks) (fun b o hb e=>eb b o hb e) f0 f1 f3 f4 f5⟩
  ·rw [e] at st
   exact wpAny_pyNext_wide_end (I.ok.hd hc) st hx fun h' eb=>⟨rfl,I.turned (t':=s.toks) (fun b o hb e=>eb b o hb e) f0 f1 f3 f4 f5⟩
 self:=fun A i s Q E st h=>by
  rcases hty with e | e
  ·rw [e] at st;exact wpAny_pyIter_striter_ascii st h
  ·rw [e] at st;exact wpAny_pyIter_striter_wide st h
def Ge (te:TE):TI:=fun σ H R=>te σ H fun v H1=>∃x,v=.str x∧R (EV x) H1
theorem DG {X:Cx} {tg e:Expr} {te:TE} (he:PE X e te):PI X tg e (Ge te):=by
 intro pins s σ H R I h
 refine d4 (he pins s σ H _ I h) fun v s1 ⟨y,H1,I1,r1,x,ex,q⟩=>?_
 subst ex
 obtain ⟨t,rfl⟩:=r1
 cases ha:x.cps.all (· < 128)
 ·exact wpAny_pyIter_wide ha (xc (tk:=s1.toks) I1 _ (vp _ x t "str_iterator" (.inr rfl)) ⟨_,Heap.get?_push_size _ rfl,rfl,rfl⟩ q)
 ·exact wpAny_pyIter_ascii ha (xc (tk:=s1.toks) I1 _ (vp _ x t "str_ascii_iterator" (.inl rfl)) ⟨_,Heap.get?_push_size _ rfl,rfl,rfl⟩ q)
section
variable {prog:Program} {w:World} {A:Around} {E:Value→Shared→Prop} {s:Shared}
end
section
variable {X:Cx} {pins:List (Addr × Obj)} {σ:St} {H:Hp} {s:Shared} {d:Addr} {o:Obj}
end
section
variable {P:Program} {w:World} {K:PySem.W.Frag} {tg:Expr} {d:Addr} {o:Obj} {es:Array DictEntry} {ep:Nat}
end
section
variable {X:Cx} {tg e:Expr} {td:TE} {apos cpos:Pos}
end
def EW (K:PySem.W.Frag) (a:Addr):It:=
 ⟨fun i H=>∃(xs:List V) (x:V),bV K H a xs∧xs[i]?=some x,fun i H v H'=>∃T x,v=.ref T∧H T=none∧H'=upd H T (.tup [.int (i:Nat),x])∧∀xs,bV K H a xs→xs[i]?=some x,fun i H=>∃xs:List V,bV K H a xs∧xs.length≤i⟩
theorem zB {P:Program} {w:World} {K:PySem.W.Frag} {elts:List Expr} {kk:Nat} {tpos:Pos} (a e it:Addr) :
  Turn P w K (.Tuple elts kk tpos) (EW K a) [e,it] e (fun i h=>(∃old,IsEnum h e it ((i:Nat):Int) old)∧h.IsListIter it a i∧e≠it) where
 mem:=by simp
 obj:=fun i h st b hb=>by
  obtain ⟨⟨old,he⟩,⟨o,ho,hc,hd⟩,_⟩:=st
  have e':b=e∨b=it:=by simpa using hb
  rcases e' with z | z
  ·rw [z];exact ⟨_,he,fun v q=>nomatch q⟩
  ·rw [z];exact ⟨o,ho,fun v q=>by rw [hd] at q;cases q⟩
 keep:=fun i h h' st k=>let ⟨⟨old,he⟩,hi,hne⟩:=st;⟨⟨old,k e (by simp) _ he⟩,hi.at fun o q=>k it (by simp) o q,hne⟩
 item:=by
  intro X hP hw hK hc i pins s σ H E I hf st hg
  subst hP hw hK
  obtain ⟨⟨old,he⟩,hit,hne⟩:=st
  obtain ⟨xs,x,hq,hx⟩:=hg
  obtain ⟨its,rv,p,hz⟩:=I.list hq
  obtain ⟨u,hu,ru⟩:=rv.get hx
  have hel:e < s.heap.objs.size:=Heap.lt_size he
  have hil:it < s.heap.objs.size:=by obtain ⟨_,q,_⟩:=hit;exact Heap.lt_size q
  refine wpAny_pyNext_enum_item he hit p.isList (x:=u) (by simpa using hu) hne fun h' ho hit' hT hsz hk=>?_
  refine ⟨_,rfl,wpAny_letOwnedTupleGo_enum (s:={ s with heap:=h',toks:=s.toks + 1 }) ho fun h'' he' sb=>?_⟩
  have hT2:h''.get? s.heap.objs.size=some { cls:=.type "tuple",data:=.seq #[.int i s.toks,u] }:=(sb.2 _ (Nat.ne_of_gt hel)).trans hT
  have new:gm X.prog X.w (upd H s.heap.objs.size (.tup [.int (i:Nat),x])) h'' s.heap.objs.size (.tup [.int (i:Nat),x]):=
   ⟨by show 2≤sizeLine;decide,[.int i s.toks,u],.cons ⟨_,rfl⟩ (.cons ru .nil),⟨_,hT2,rfl,_,rfl⟩⟩
  have I1:Inv X pins σ (upd H s.heap.objs.size (.tup [.int (i:Nat),x])) { s with heap:=h'',toks:=s.toks + 1 }:=
   I.tq (ch:=[e,it]) (fun b ob hb q=>(sb.2 b (fun z=>hb (by simp [z]))).trans (hk b ob (fun z=>hb (by simp [z])) (fun z=>hb (by simp [z])) q)) hf (Nat.le_refl _) new
  refine ⟨.ref s.heap.objs.size,_,I1,rfl,⟨_,x,rfl,I.dZ.fresh (Nat.le_refl _),rfl,fun ys hy=>by rw [I.u7 hy hq];exact hx⟩,⟨⟨u,?_⟩,hit'.at fun o q=>(sb.2 it (Ne.symm hne)).trans q,hne⟩,fun b hb=>?_⟩
  ·have e1:((i + 1:Nat):Int)=(i:Int) + 1:=by omega
   rw [e1];exact he'
  ·have hb':b < s.heap.objs.size:=by
    have e':b=e∨b=it:=by simpa using hb
    rcases e' with z | z
    ·rw [z];exact hel
    ·rw [z];exact hil
   rw [aj (Nat.ne_of_lt hb')]
   exact (hf b hb).1
 done:=by
  intro X hP hw hK hc i pins s σ H E I hf st hg
  subst hP hw hK
  obtain ⟨⟨old,he⟩,hit,hne⟩:=st
  obtain ⟨xs,hq,hx⟩:=hg
  obtain ⟨its,rv,p,hz⟩:=I.list hq
  obtain ⟨f0,f1,f2,f3,f4,f5⟩:=hf it (by simp)
  have hl:=rv.length
  exact wpAny_pyNext_enum_end (I.ok.hd hc) he hit p.isList (by simp;omega) fun h' eb=>⟨rfl,I.turned (t':=s.toks) (fun b o hb q=>eb b o hb q) f0 f1 f3 f4 f5⟩
 self:=fun A i s Q E st h=>let ⟨⟨_,he⟩,_⟩:=st;wpAny_pyIter_enum he h
def EX (K:PySem.W.Frag) (ta:TA):TI:=fun σ H R=>ta σ H fun vs H1=>∃a xs,vs=[.ref a]∧bV K H1 a xs∧R (EW K a) H1
theorem B0 {X:Cx} {e:Expr} {ta:TA} {p pos tpos:Pos} {elts:List Expr} {kk:Nat} (hg:Gl X "enumerate") (hm:X.mg "enumerate"=none) (ha:PA X [e] ta) (hs:starEach [e] X.env=[(false,eval e X.env)]:=by rfl) :
  PI X (.Tuple elts kk tpos) (.Call (.Name "enumerate" p) [e] [] pos) (EX X.K ta):=by
 intro pins s σ H R I h
 refine Call_ (kC I hg hm boot_enumerate (PyProof.Rows.callWith_type1 (d4 (ha pos pins s σ H _ I h) fun us s1 ⟨vs,H1,I1,r1,q1⟩=>?_) hs rfl))
 obtain ⟨a,xs,ex,hq,q⟩:=q1
 subst ex
 cases r1 with
 | cons r rr=>
  cases rr
  cases r
  obtain ⟨its,rv,p',hz⟩:=I1.list hq
  refine call_enumerate_list p'.isList fun h' he hit hsz hk=>wpAny_pyIter_enum he ?_
  have I2:Inv X pins σ H1 { s1 with heap:=h' }:=I1.kept (t':=s1.toks) hk
  refine ⟨s1.heap.objs.size + 1,[s1.heap.objs.size + 1,s1.heap.objs.size],_,_,H1,rfl,I2,zB a (s1.heap.objs.size + 1) s1.heap.objs.size,⟨⟨.none,he⟩,hit,Nat.succ_ne_self _⟩,fun b hb=>?_,q⟩
  have e':b=s1.heap.objs.size + 1∨b=s1.heap.objs.size:=by simpa using hb
  have hle:s1.heap.objs.size≤b:=by
   rcases e' with z | z
   ·rw [z];exact Nat.le_add_right _ _
   ·rw [z];exact Nat.le_refl _
  exact I1.wL hle (I1.dZ.fresh hle)
theorem zC:bootBuiltins "zip"=some (.type "zip"):=by decide +kernel
end L2
section
namespace Bits
open PySem PyProof.Rows
theorem lM {x:Int} (k:Nat) (hx:0≤x):Builtin.bitAnd x (2 ^ k - 1)=x % 2 ^ k:=by
 obtain ⟨n,rfl⟩:=Int.eq_ofNat_of_zero_le hx
 have hp:0 < 2 ^ k:=Nat.two_pow_pos k
 rw [two_pow_cast]
 have e:((2 ^ k:Nat):Int) - 1=((2 ^ k - 1:Nat):Int):=by
  generalize (2:Nat) ^ k=m at hp
  omega
 rw [e,bitAnd_pp (by omega) (by omega),Int.toNat_natCast,Int.toNat_natCast,Nat.and_two_pow_sub_one_eq_mod]
 first
  | rfl
  | exact Int.natCast_emod _ _
  | simp
end Bits
end
section
namespace TL
open PySem PySem.Builtin PySem.Builtin.Str PySem.StrLaws
end TL
end
namespace L2
open PySem PySem.Spec PyProof.Rows
section
variable {X:Cx} {pins:List (Addr × Obj)} {σ:St} {H:Hp} {s:Shared} {Q:VK}
end
section
variable {X:Cx}
end
section
variable {X:Cx} {o e:Expr} {to te:TE}
end
end L2
namespace L2
open PySem PySem.Spec PyProof.Rows
section
variable {X:Cx}
end
end L2
namespace Att
open PySem PySem.W PySem.Calls PyProof.Rows
section
variable {prog:Program} {w:World} {A:Around} {E:Value→Shared→Prop} {s:Shared} {K:Frag}
end
end Att
namespace L2
open PySem PySem.Spec PyProof.Rows
end L2
namespace L2
open PySem PySem.Spec PyProof.Rows
end L2
namespace L2
open PySem PySem.Spec PyProof.Rows
def inClass (s:Stmt) (j:Nat):Stmt:=match s with
 | .ClassDef _ _ _ body _ _ _ _ _ _ _=>body.getD j (.Pass ⟨0,0,0,0⟩)
 | _=>.Pass ⟨0,0,0,0⟩
def cU (s:Stmt):Arguments:=match s with
 | .FunctionDef _ a _ _ _ _ _ _ _ _=>a
 | _=>{ posonlyargs:=[],args:=[],vararg:=none,kwonlyargs:=[],kw_defaults:=[],kwarg:=none,defaults:=[] }
def cP (s:Stmt):List Stmt:=match s with
 | .FunctionDef _ _ b _ _ _ _ _ _ _=>b
 | _=>[]
def aw (s:Stmt):Scope:=match s with
 | .FunctionDef _ _ _ _ _ _ sc _ _ _=>sc
 | _=>{ kind:=.function,names:=[],isGenerator:=false,isCoroutine:=false }
abbrev zD:zu:=fun _ _ _ _ _ _=>False
abbrev E0:XK:=fun _ _ _=>False
theorem rh {X:Cx}:Passes zD X E0:=fun _ _ _ _ _ _ _ h=>h.elim
structure Az (K:PySem.W.Frag) (x qual:Str) (st:Stmt) (f:Addr) (fd:FuncData):Prop where
 ex:∃(oc:Value) (od:Option Addr) (kV doc pm:Value) (an:Option Addr) (cdv ct:Value) (osl:Array (Option Value)),
  fd=PySem.W.fnOf x qual (cU st) (cP st) (aw st) .none kV doc pm an cdv ct∧K.lookup f=some ⟨oc,od,.func fd,osl⟩∧PySem.W.codeIn K cdv qual=true
 kp:PySem.W.keepIn K (.ref f)=true
section
variable {P:Program} {w:World} {K:PySem.W.Frag} {mg:Str→Option Value} {base:Heap}
theorem Az.ok {x qual:Str} {st:Stmt} {f:Addr} {fd:FuncData} {N ps:List Str} {k:Nat} {sp:Sp} (F:Az K x qual st f fd) (S:aB N ps (aw st)) (len:∀vs H Q E,sp vs H Q E→vs.length=ps.length)
  (hbody:∀(cdv:Value) (A:Around) (outer:List Env) (s:Shared) (H:Hp) (vs:List V) (Q:VK) (E:XK),fB k (A.deeper (envOfC qual (aw st) s.heap.objs.size f cdv))→sp vs H Q E→
   ∃t,zi (zw zD P w K mg base N qual (aw st) f cdv A outer s H E).Fv (cP st) t∧t { nx:=fun _ H'=>Q .cD H',rt:=Q } (start N vs) H):iq P w K mg base zD (k + 1) f fd ps sp:=by
 obtain ⟨oc,od,kV,doc,pm,an,cdv,ct,osl,rfl,lk,hcd⟩:=F.ex
 refine EI lk hcd S len fun A outer s H vs Q E hr hsp=>?_
 obtain ⟨t,h,q⟩:=hbody cdv A outer s H vs Q E hr hsp
 exact ⟨t,h.Fv,q⟩
theorem Az.binds {x qual:Str} {st:Stmt} {f:Addr} {fd:FuncData} {ps:List Str} (F:Az K x qual st f fd)
  (h:∀(kV doc pm:Value) (an:Option Addr) (cdv ct:Value) (us:List Value),us.length=ps.length→bindArgs (PySem.W.fnOf x qual (cU st) (cP st) (aw st) .none kV doc pm an cdv ct) ⟨us,[]⟩=pure (ps.zip us)):Binds K fd ps []:=by
 obtain ⟨oc,od,kV,doc,pm,an,cdv,ct,osl,rfl,lk,hcd⟩:=F.ex
 exact .all (h kV doc pm an cdv ct)
theorem xg {x qual:Str} {st:Stmt} {f:Addr} {oc:Value} {od an:Option Addr} {osl:Array (Option Value)} {kV doc pm cdv ct:Value} (l:K.lookup f=some ⟨oc,od,.func (PySem.W.fnOf x qual (cU st) (cP st) (aw st) .none kV doc pm an cdv ct),osl⟩)
  (c:PySem.W.codeIn K cdv qual=true) (k:PySem.W.keepIn K (.ref f)=true):Az K x qual st f (PySem.W.fnOf x qual (cU st) (cP st) (aw st) .none kV doc pm an cdv ct):=⟨⟨oc,od,kV,doc,pm,an,cdv,ct,osl,rfl,l,c⟩,k⟩
end
section
variable {X:Cx}
theorem pv (i:Nat) {x:Str} {pos:Pos} (hN:X.N[i]?=some x:=by rfl) (hv:Ee X.env.scope x:=by first | exact Or.inl rfl | exact Or.inr (Or.inl rfl) | exact Or.inr (Or.inr rfl)) (hd:(x == ("__debug__":Str))=false:=by decide)
  (hcd:(x == ("__classdict__":Str))=false:=by decide):PE X (.Name x pos) (wD i):=Dl hN hv hd hcd
end
theorem cE {A B:Prop} (h:B):if false=true then A else B:=by
 rw [if_neg Bool.false_ne_true]
 exact h
theorem cG {A B:Prop} (h:A):if true=true then A else B:=by
 rw [if_pos rfl]
 exact h
theorem Gf {c A B:Prop} [Decidable c] (h1:c→A) (h2:¬ c→B):if c then A else B:=by
 by_cases h:c
 ·rw [if_pos h]
  exact h1 h
 ·rw [if_neg h]
  exact h2 h
def bX (H H':Hp):Prop:=∀b o,H b=some o→H' b=some o
theorem bX.refl (H:Hp):bX H H:=fun _ _ h=>h
theorem bX.trans {H H1 H2:Hp} (a:bX H H1) (b:bX H1 H2):bX H H2:=fun c o h=>b c o (a c o h)
theorem bX.free {H H':Hp} (e:bX H H') {l:Addr} (h:H' l=Option.none):H l=Option.none:=by
 cases q:H l with
 | none=>rfl
 | some o=>
  rw [e l o q] at h
  cases h
section
variable {κ:Type} [DecidableEq κ]
end
theorem at_of {xs:List V} {z:Int} {j:Nat} {v:V} (e:z=(j:Int)) (h:xs[j]?=some v):AV xs z=some v:=by
 rw [e]
 exact BQ h
theorem bX.made {H H1:Hp} {x dx C:Addr} (nx:H x=Option.none) (nd:H dx=Option.none) (k:∀b o,(upd (upd H dx (.own x)) x (.ins C dx [])) b=some o→b≠x→H1 b=some o):bX H H1:=fun b o e=>
 k b o (by rw [aj (aE e nx),aj (aE e nd)];exact e) (aE e nx)
end L2
end
section
section
namespace L2
open PySem PySem.Spec PyProof.Rows
open PySem.W (WData Codec OpenSpec Well WellAll ReadsW ReadsAllW)
mutual
inductive Dw (K:PySem.W.Frag) (H:Hp):V→WData→Prop
 | cD:Dw K H .cD .none
 | bl (b:Bool):Dw K H (.bl b) (.bool b)
 | int (i:Int):Dw K H (.int i) (.int i)
 | str (x:Str):Dw K H (.str x) (.str x)
 | uX (b:Array UInt8):Dw K H (.uX b) (.bytes b.toList)
 | lst {a:Addr} {xs:List V} {ds:List WData}:bV K H a xs→ll K H xs ds→Dw K H (.ref a) (.list ds)
 | tup {a:Addr} {xs:List V} {ds:List WData}:ju K H a xs→ll K H xs ds→Dw K H (.ref a) (.tuple ds)
inductive ll (K:PySem.W.Frag) (H:Hp):List V→List WData→Prop
 | nil:ll K H [] []
 | cons {v:V} {vs:List V} {d:WData} {ds:List WData}:Dw K H v d→ll K H vs ds→ll K H (v :: vs) (d :: ds)
end
theorem yq {K:PySem.W.Frag} {H:Hp}:∀ns:List Int,ll K H (ns.map V.int) (ns.map WData.int)
 | []=>.nil
 | n :: r=>.cons (.int n) (yq r)
theorem yr {K:PySem.W.Frag} {H:Hp}:∀(ns:List Int) (xs:List V),ll K H xs (ns.map WData.int)→xs=ns.map V.int
 | [],xs,h=>by
  cases h
  rfl
 | n :: r,xs,h=>by
  cases h with
  | cons h1 h2=>
   cases h1
   rw [yr r _ h2] <;> rfl
section
variable {P:Program} {w:World} {K:PySem.W.Frag} {H:Hp} {h:Heap} {R:PySem.W.WRecords} {cl:Str→Option Addr}
theorem DH {a:Addr} {xs:List V} (dZ:nP P w H h) (KX:K.In h) (q:bV K H a xs):∃(its:List Value) (o:Obj) (n:Nat),Vals xs its∧h.get? a=some o∧o.cls=.type "list"∧o.data=.seq its.toArray n:=by
 rcases q with q | ⟨o,its,n,e,hc,_,hd,_,hv⟩
 ·obtain ⟨_,its,n,hv,e⟩:=(show gm P w H h a (.lst xs) from q.ok dZ)
  exact ⟨its,_,n,hv,e,rfl,rfl⟩
 ·exact ⟨its.toList,o,n,hv,KX _ _ e,hc,by simp [hd]⟩
theorem DI {a:Addr} {xs:List V} (dZ:nP P w H h) (KX:K.In h) (q:ju K H a xs):∃(its:List Value) (o:Obj) (n:Nat),Vals xs its∧h.get? a=some o∧o.cls=.type "tuple"∧o.data=.seq its.toArray n:=by
 rcases q with q | ⟨o,its,n,e,hc,hd,_,hv⟩
 ·obtain ⟨_,its,hv,o,e,hc,n,hd⟩:=(show gm P w H h a (.tup xs) from q.ok dZ)
  exact ⟨its,o,n,hv,e,hc,hd⟩
 ·exact ⟨its.toList,o,n,hv,KX _ _ e,hc,by simp [hd]⟩
mutual
theorem Dw.reads (dZ:nP P w H h) (KX:K.In h):∀(d:WData) (v:V) (u:Value),Dw K H v d→RelV v u→∃as,ReadsW R cl h u d as
 | .none,_,_,x,r=>by
  cases x
  cases r
  exact ⟨_,ReadsW.none⟩
 | .bool b,_,_,x,r=>by
  cases x
  cases r
  exact ⟨_,ReadsW.bool b⟩
 | .int i,_,_,x,r=>by
  cases x
  obtain ⟨t,rfl⟩:=r
  exact ⟨_,ReadsW.int i t⟩
 | .str s,_,_,x,r=>by
  cases x
  obtain ⟨t,rfl⟩:=r
  exact ⟨_,ReadsW.str s t⟩
 | .bytes b,_,_,x,r=>by
  cases x
  obtain ⟨t,rfl⟩:=r
  exact ⟨_,ReadsW.bytes _ t⟩
 | .list ds,_,_,x,r=>by
  cases x with
  | lst hs ha=>
   cases r
   obtain ⟨its,o,n,rv,ho,hc,hd⟩:=DH dZ KX hs
   obtain ⟨as,hr⟩:=Dw.readsAll dZ KX ds _ its ha rv
   exact ⟨_,ReadsW.list ho hc hd hr⟩
 | .tuple ds,_,_,x,r=>by
  cases x with
  | tup hs ha=>
   cases r
   obtain ⟨its,o,n,rv,ho,hc,hd⟩:=DI dZ KX hs
   obtain ⟨as,hr⟩:=Dw.readsAll dZ KX ds _ its ha rv
   exact ⟨_,ReadsW.tuple ho hc hd hr⟩
 | .float _,_,_,x,_=>by cases x
 | .dict _,_,_,x,_=>by cases x
 | .bytearray _,_,_,x,_=>by cases x
 | .set _,_,_,x,_=>by cases x
 | .frozenset _,_,_,x,_=>by cases x
 | .obj _ _,_,_,x,_=>by cases x
theorem Dw.readsAll (dZ:nP P w H h) (KX:K.In h):∀(ds:List WData) (vs:List V) (us:List Value),ll K H vs ds→Vals vs us→∃as,ReadsAllW R cl h us ds as
 | [],_,_,x,r=>by
  cases x
  cases r
  exact ⟨_,ReadsAllW.nil⟩
 | d :: ds,_,_,x,r=>by
  cases x with
  | cons h1 h2=>
   cases r with
   | cons r1 r2=>
    obtain ⟨as,q1⟩:=Dw.reads dZ KX d _ _ h1 r1
    obtain ⟨bs,q2⟩:=Dw.readsAll dZ KX ds _ _ h2 r2
    exact ⟨_,ReadsAllW.cons q1 q2⟩
end
end
mutual
def yu:WData→Bool
 | .none=>true
 | .bool _=>true
 | .int _=>true
 | .str _=>true
 | .bytes _=>true
 | .list xs=>qj xs
 | .tuple xs=>qj xs
 | _=>false
def qj:List WData→Bool
 | []=>true
 | x :: r=>yu x && qj r
end
theorem vq {α:Type} {f:α→WData} (h:∀a,yu (f a)=true):∀l:List α,qj (l.map f)=true
 | []=>rfl
 | x :: r=>by
  show (yu (f x) && qj (r.map f))=true
  rw [h x,vq h r] <;> rfl
theorem lN:∀(c:Codec) (a:c.denote),yu (c.enc a)=true
 | .unit,_=>rfl
 | .bool,_=>rfl
 | .int _ _,_=>rfl
 | .nat _ _,_=>rfl
 | .u8,_=>rfl
 | .bytes _ _,_=>rfl
 | .text _ _ _ _,_=>rfl
 | .list _ _ c,a=>vq (fun x=>lN c x) a
 | .pair c d,a=>by
  show (yu (c.enc a.1) && (yu (d.enc a.2) && true))=true
  rw [lN c a.1,lN d a.2] <;> rfl
 | .triple c d e,a=>by
  show (yu (c.enc a.1) && (yu (d.enc a.2.1) && (yu (e.enc a.2.2) && true)))=true
  rw [lN c a.1,lN d a.2.1,lN e a.2.2] <;> rfl
 | .option c,none=>rfl
 | .option c,some x=>lN c x
theorem tu:∀(cs:List Codec) (a:Codec.denoteAll cs),qj (Codec.encAll cs a)=true
 | [],_=>rfl
 | c :: cs,a=>by
  show (yu (c.enc a.1) && qj (Codec.encAll cs a.2))=true
  rw [lN c a.1,tu cs a.2] <;> rfl
theorem nk:∀{xs:List WData} {d:WData},d∈xs→d.weight≤WData.weightAll xs
 | [],d,h=>absurd h (by simp)
 | x :: r,d,h=>by
  show d.weight≤x.weight + 1 + WData.weightAll r
  rcases List.mem_cons.mp h with e | m
  ·rw [e]
   omega
  ·have z:=nk m
   omega
def toV:Value→V
 | .none=>.cD
 | .bool b=>.bl b
 | .int i _=>.int i
 | .str x _=>.str x
 | .bytes b _=>.uX b
 | .ref a=>.ref a
 | _=>.cD
def zE (A:List Addr):Value→Prop
 | .none=>True
 | .bool _=>True
 | .int _ _=>True
 | .str _ _=>True
 | .bytes _ _=>True
 | .ref a=>a∈A
 | _=>False
theorem zE.mono {A B:List Addr} (h:∀a∈A,a∈B):∀{u:Value},zE A u→zE B u:=fun {u} x=>by
 cases u with
 | ref a=>exact h a x
 | none=>trivial
 | bool b=>trivial
 | int i t=>trivial
 | str s t=>trivial
 | bytes b t=>trivial
 | _=>exact False.elim x
theorem A3 {A:List Addr} {u:Value} (x:zE A u):RelV (toV u) u:=by
 cases u with
 | ref a=>rfl
 | none=>rfl
 | bool b=>rfl
 | int i t=>exact ⟨t,rfl⟩
 | str s t=>exact ⟨t,rfl⟩
 | bytes b t=>exact ⟨t,rfl⟩
 | _=>exact False.elim x
theorem kj {A:List Addr}:∀{vs:List Value},(∀u∈vs,zE A u)→Vals (vs.map toV) vs
 | [],_=>.nil
 | u :: r,h=>.cons (A3 (h u (List.mem_cons_self ..))) (kj fun x hx=>h x (List.mem_cons_of_mem _ hx))
def lq (h:Heap) (A:List Addr) (a:Addr):Prop:=∃vs:List Value,vs.length≤sizeLine∧(∀u∈vs,zE A u)∧
 (h.get? a=some { cls:=.type "list",data:=.seq vs.toArray }∨h.get? a=some { cls:=.type "tuple",data:=.seq vs.toArray })
theorem lq.mono {h:Heap} {A B:List Addr} {a:Addr} (k:∀a∈A,a∈B) (x:lq h A a):lq h B a:=by
 obtain ⟨vs,h1,h2,h3⟩:=x
 exact ⟨vs,h1,fun u hu=>(h2 u hu).mono k,h3⟩
theorem jx {P:Params} {h:Heap}:∀{vs:List Value} {ds:List WData},WellAll P h vs ds→vs.length=ds.length
 | _,_,.nil=>rfl
 | _,_,.cons _ b=>by
  show _ + 1=_ + 1
  rw [jx b]
theorem tw {P:Params} {h:Heap} {v:Value} {ds:List WData} (x:Well P h v (.list ds)):∃(a:Addr) (vs:List Value),v=.ref a∧h.get? a=some { cls:=.type "list",data:=.seq vs.toArray }∧WellAll P h vs ds:=by
 cases x with
 | list ho hall=>exact ⟨_,_,rfl,ho,hall⟩
theorem rj {P:Params} {h:Heap} {v:Value} {ds:List WData} (x:Well P h v (.tuple ds)):∃(a:Addr) (vs:List Value),v=.ref a∧h.get? a=some { cls:=.type "tuple",data:=.seq vs.toArray }∧WellAll P h vs ds:=by
 cases x with
 | tuple ho hall=>exact ⟨_,_,rfl,ho,hall⟩
theorem tD {P:Params} {h:Heap} {us:List Value} {d:WData} {ds:List WData} (x:WellAll P h us (d :: ds)):∃(v:Value) (vs:List Value),us=v :: vs∧Well P h v d∧WellAll P h vs ds:=by
 cases x with
 | cons a b=>exact ⟨_,_,rfl,a,b⟩
theorem yx {n:Nat} (h:n≤1048576):n≤sizeLine:=Nat.le_trans h (by decide)
section
variable {P:Params} {h:Heap}
mutual
theorem A4:∀(d:WData) (v:Value),Well P h v d→yu d=true→d.weight≤1048576→∃A:List Addr,zE A v∧∀a∈A,lq h A a
 | .none,_,x,_,_=>by
  cases x
  exact ⟨[],trivial,fun a m=>absurd m (by simp)⟩
 | .bool b,_,x,_,_=>by
  cases x
  exact ⟨[],trivial,fun a m=>absurd m (by simp)⟩
 | .int i,_,x,_,_=>by
  cases x
  exact ⟨[],trivial,fun a m=>absurd m (by simp)⟩
 | .str s,_,x,_,_=>by
  cases x
  exact ⟨[],trivial,fun a m=>absurd m (by simp)⟩
 | .bytes b,_,x,_,_=>by
  cases x
  exact ⟨[],trivial,fun a m=>absurd m (by simp)⟩
 | .list ds,_,x,p,z=>by
  obtain ⟨a,vs,rfl,ho,hall⟩:=tw x
  have z2:WData.weightAll ds≤1048576:=z
  obtain ⟨A,h1,h2⟩:=oa ds _ hall p fun d hd=>Nat.le_trans (nk hd) z2
  have k:∀b∈A,b∈a :: A:=fun b hb=>List.mem_cons_of_mem _ hb
  refine ⟨a :: A,List.mem_cons_self ..,fun b hb=>?_⟩
  rcases List.mem_cons.mp hb with e | m
  ·rw [e]
   exact ⟨vs,yx (by rw [jx hall];exact Nat.le_trans (PySem.W.length_le_weightAllW ds) z2),fun u hu=>(h1 u hu).mono k,.inl ho⟩
  ·exact (h2 b m).mono k
 | .tuple ds,_,x,p,z=>by
  obtain ⟨a,vs,rfl,ho,hall⟩:=rj x
  have z2:WData.weightAll ds≤1048576:=z
  obtain ⟨A,h1,h2⟩:=oa ds _ hall p fun d hd=>Nat.le_trans (nk hd) z2
  have k:∀b∈A,b∈a :: A:=fun b hb=>List.mem_cons_of_mem _ hb
  refine ⟨a :: A,List.mem_cons_self ..,fun b hb=>?_⟩
  rcases List.mem_cons.mp hb with e | m
  ·rw [e]
   exact ⟨vs,yx (by rw [jx hall];exact Nat.le_trans (PySem.W.length_le_weightAllW ds) z2),fun u hu=>(h1 u hu).mono k,.inr ho⟩
  ·exact (h2 b m).mono k
 | .float _,_,_,p,_=>Bool.noConfusion (show false=true from p)
 | .dict _,_,_,p,_=>Bool.noConfusion (show false=true from p)
 | .bytearray _,_,_,p,_=>Bool.noConfusion (show false=true from p)
 | .set _,_,_,p,_=>Bool.noConfusion (show false=true from p)
 | .frozenset _,_,_,p,_=>Bool.noConfusion (show false=true from p)
 | .obj _ _,_,_,p,_=>Bool.noConfusion (show false=true from p)
theorem oa:∀(ds:List WData) (vs:List Value),WellAll P h vs ds→qj ds=true→(∀d∈ds,d.weight≤1048576)→∃A:List Addr,(∀u∈vs,zE A u)∧∀a∈A,lq h A a
 | [],_,x,_,_=>by
  cases x
  exact ⟨[],fun u m=>absurd m (by simp),fun a m=>absurd m (by simp)⟩
 | d :: ds,_,x,p,z=>by
  obtain ⟨v,vs,rfl,x1,x2⟩:=tD x
  have q:yu d=true∧qj ds=true:=Bool.and_eq_true_iff.mp p
  obtain ⟨A,a1,a2⟩:=A4 d v x1 q.1 (z d (List.mem_cons_self ..))
  obtain ⟨B,b1,b2⟩:=oa ds vs x2 q.2 fun e he=>z e (List.mem_cons_of_mem _ he)
  have kA:∀b∈A,b∈A++B:=fun b hb=>List.mem_append.mpr (.inl hb)
  have kB:∀b∈B,b∈A++B:=fun b hb=>List.mem_append.mpr (.inr hb)
  refine ⟨A++B,fun u hu=>?_,fun b hb=>?_⟩
  ·rcases List.mem_cons.mp hu with e | m
   ·rw [e]
    exact a1.mono kA
   ·exact (b1 u m).mono kB
  ·rcases List.mem_append.mp hb with m | m
   ·exact (a2 b m).mono kA
   ·exact (b2 b m).mono kB
end
end
def B1 (o:Obj):Option HO:=match o.data with
 | .seq vs _=>if (o.cls == Value.type "list")=true then some (.lE o (.lst (vs.toList.map toV))) else some (.lE o (.tup (vs.toList.map toV)))
 | _=>none
def kI (K:PySem.W.Frag) (h:Heap) (A:List Addr):Hp:=fun b=>if b∈A then (if (K.lookup b).isNone=true then (h.get? b).bind B1 else none) else none
def vt (H:Hp):Prop:=∀b,H b=none∨∃o u,H b=some (.lE o u)
theorem vv (vs:List Value):B1 { cls:=.type "list",data:=.seq vs.toArray }=some (.lE { cls:=.type "list",data:=.seq vs.toArray } (.lst (vs.map toV))):=by
 show (if (Value.type "list" == Value.type "list")=true then some (HO.lE { cls:=.type "list",data:=.seq vs.toArray } (.lst (vs.toArray.toList.map toV))) else some (HO.lE { cls:=.type "list",data:=.seq vs.toArray } (.tup (vs.toArray.toList.map toV))))=_
 rw [if_pos (beq_self_eq_true _)]
theorem vw (vs:List Value):B1 { cls:=.type "tuple",data:=.seq vs.toArray }=some (.lE { cls:=.type "tuple",data:=.seq vs.toArray } (.tup (vs.map toV))):=by
 show (if (Value.type "tuple" == Value.type "list")=true then some (HO.lE { cls:=.type "tuple",data:=.seq vs.toArray } (.lst (vs.toArray.toList.map toV))) else some (HO.lE { cls:=.type "tuple",data:=.seq vs.toArray } (.tup (vs.toArray.toList.map toV))))=_
 rw [if_neg (by decide)]
section
variable {P:Program} {w:World} {K:PySem.W.Frag} {h:Heap} {A:List Addr}
theorem qC {b:Addr} {o:Obj} (hb:b∈A) (hk:K.lookup b=none) (e:h.get? b=some o):kI K h A b=B1 o:=by
 unfold kI
 rw [if_pos hb,hk,if_pos (show (none:Option Obj).isNone=true from rfl),e] <;> rfl
theorem B2 {b:Addr} {u:HO} (q:kI K h A b=some u):b∈A∧K.lookup b=none:=by
 unfold kI at q
 by_cases hb:b∈A
 ·rw [if_pos hb] at q
  cases hk:K.lookup b with
  | none=>exact ⟨hb,rfl⟩
  | some o=>
   rw [hk,if_neg (by simp)] at q
   cases q
 ·rw [if_neg hb] at q
  cases q
theorem qD (ar:∀a∈A,lq h A a) {b:Addr} {u:HO} (q:kI K h A b=some u):K.lookup b=none∧∃vs:List Value,vs.length≤sizeLine∧(∀u∈vs,zE A u)∧
  ((h.get? b=some { cls:=.type "list",data:=.seq vs.toArray }∧u=.lE { cls:=.type "list",data:=.seq vs.toArray } (.lst (vs.map toV)))∨
   (h.get? b=some { cls:=.type "tuple",data:=.seq vs.toArray }∧u=.lE { cls:=.type "tuple",data:=.seq vs.toArray } (.tup (vs.map toV)))):=by
 obtain ⟨hb,hk⟩:=B2 q
 obtain ⟨vs,h1,h2,h3⟩:=ar b hb
 refine ⟨hk,vs,h1,h2,?_⟩
 rcases h3 with e | e
 ·rw [qC hb hk e,vv] at q
  exact .inl ⟨e,(Option.some.inj q).symm⟩
 ·rw [qC hb hk e,vw] at q
  exact .inr ⟨e,(Option.some.inj q).symm⟩
theorem zF (ar:∀a∈A,lq h A a):vt (kI K h A):=fun b=>by
 cases q:kI K h A b with
 | none=>exact .inl rfl
 | some u=>
  obtain ⟨_,vs,_,_,⟨_,e⟩ | ⟨_,e⟩⟩:=qD ar q
  ·exact .inr ⟨_,_,by rw [e]⟩
  ·exact .inr ⟨_,_,by rw [e]⟩
theorem B3 (ar:∀a∈A,lq h A a):nP P w (kI K h A) h:=fun b u q=>by
 obtain ⟨_,vs,h1,h2,⟨e,rfl⟩ | ⟨e,rfl⟩⟩:=qD ar q
 ·exact ⟨e,by rw [List.length_map];exact h1,vs,_,kj h2,e⟩
 ·exact ⟨e,by rw [List.length_map];exact h1,vs,kj h2,_,e,rfl,_,rfl⟩
theorem qE {c c':Value} {vs us:List Value} (e:(some { cls:=c,data:=.seq vs.toArray }:Option Obj)=some { cls:=c',data:=.seq us.toArray }):c=c'∧vs=us:=by
 have e1:=Option.some.inj e
 have e2:c=c':=congrArg Obj.cls e1
 have e3:Data.seq vs.toArray=Data.seq us.toArray:=congrArg Obj.data e1
 injection e3 with e4
 refine ⟨e2,?_⟩
 have e5:=congrArg Array.toList e4
 simpa using e5
theorem Gg (KX:K.In h) (ar:∀a∈A,lq h A a) {a:Addr} {vs:List Value} (ha:a∈A) (e:h.get? a=some { cls:=.type "list",data:=.seq vs.toArray }):(∀u∈vs,zE A u)∧bV K (kI K h A) a (vs.map toV):=by
 obtain ⟨us,h1,h2,h3⟩:=ar a ha
 have hu:us=vs:=by
  rcases h3 with q | q
  ·rw [e] at q
   exact (qE q).2.symm
  ·rw [e] at q
   exact absurd (Value.type.inj (qE q).1) (by decide)
 subst hu
 refine ⟨h2,?_⟩
 cases hk:K.lookup a with
 | none=>exact .inl (.inr ⟨_,by rw [qC ha hk e,vv]⟩)
 | some o=>
  have e2:=KX a o hk
  rw [e] at e2
  obtain rfl:=Option.some.inj e2
  exact .inr ⟨_,us.toArray,_,hk,rfl,rfl,rfl,by rw [List.size_toArray];exact h1,by simpa using kj h2⟩
theorem Gh (KX:K.In h) (ar:∀a∈A,lq h A a) {a:Addr} {vs:List Value} (ha:a∈A) (e:h.get? a=some { cls:=.type "tuple",data:=.seq vs.toArray }):(∀u∈vs,zE A u)∧ju K (kI K h A) a (vs.map toV):=by
 obtain ⟨us,h1,h2,h3⟩:=ar a ha
 have hu:us=vs:=by
  rcases h3 with q | q
  ·rw [e] at q
   exact absurd (Value.type.inj (qE q).1) (by decide)
  ·rw [e] at q
   exact (qE q).2.symm
 subst hu
 refine ⟨h2,?_⟩
 cases hk:K.lookup a with
 | none=>exact .inl (.inr ⟨_,by rw [qC ha hk e,vw]⟩)
 | some o=>
  have e2:=KX a o hk
  rw [e] at e2
  obtain rfl:=Option.some.inj e2
  exact .inr ⟨_,us.toArray,_,hk,rfl,rfl,by rw [List.size_toArray];exact h1,by simpa using kj h2⟩
mutual
theorem DJ {Pm:Params} (KX:K.In h) (ar:∀a∈A,lq h A a):∀(d:WData) (v:Value),Well Pm h v d→yu d=true→zE A v→Dw K (kI K h A) (toV v) d
 | .none,_,x,_,_=>by
  cases x
  exact .cD
 | .bool b,_,x,_,_=>by
  cases x
  exact .bl b
 | .int i,_,x,_,_=>by
  cases x
  exact .int i
 | .str s,_,x,_,_=>by
  cases x
  exact .str s
 | .bytes b,_,x,_,_=>by
  cases x
  have z:=Dw.uX (K:=K) (H:=kI K h A) b.toArray
  exact z
 | .list ds,_,x,p,hu=>by
  obtain ⟨a,vs,rfl,ho,hall⟩:=tw x
  obtain ⟨h2,hs⟩:=Gg KX ar hu ho
  exact .lst hs (tV KX ar ds _ hall p h2)
 | .tuple ds,_,x,p,hu=>by
  obtain ⟨a,vs,rfl,ho,hall⟩:=rj x
  obtain ⟨h2,hs⟩:=Gh KX ar hu ho
  exact .tup hs (tV KX ar ds _ hall p h2)
 | .float _,_,_,p,_=>Bool.noConfusion (show false=true from p)
 | .dict _,_,_,p,_=>Bool.noConfusion (show false=true from p)
 | .bytearray _,_,_,p,_=>Bool.noConfusion (show false=true from p)
 | .set _,_,_,p,_=>Bool.noConfusion (show false=true from p)
 | .frozenset _,_,_,p,_=>Bool.noConfusion (show false=true from p)
 | .obj _ _,_,_,p,_=>Bool.noConfusion (show false=true from p)
theorem tV {Pm:Params} (KX:K.In h) (ar:∀a∈A,lq h A a):∀(ds:List WData) (vs:List Value),WellAll Pm h vs ds→qj ds=true→(∀u∈vs,zE A u)→ll K (kI K h A) (vs.map toV) ds
 | [],_,x,_,_=>by
  cases x
  exact .nil
 | d :: ds,_,x,p,hu=>by
  obtain ⟨v,vs,rfl,x1,x2⟩:=tD x
  have q:yu d=true∧qj ds=true:=Bool.and_eq_true_iff.mp p
  exact .cons (DJ KX ar d v x1 q.1 (hu _ (List.mem_cons_self ..))) (tV KX ar ds vs x2 q.2 fun u m=>hu u (List.mem_cons_of_mem _ m))
end
end
theorem zG {P:Program} {w:World} {K:PySem.W.Frag} {mg mb:Str→Option Value} {CX:zu} {k:Nat} {fa:Addr} {fd:FuncData} {ps:List Str} {sp:Sp} {s₁:Shared} {vals:List Value} {ds:List WData} {R:PySem.W.WRecords} {cl:Str→Option Addr} {d0:WData}
  (KX:K.In s₁.heap) (hns:s₁.heap.Ns mainGlobals mg) (hb:s₁.heap.Ns builtinsNs mb) (hbb:∀x:Str,x≠"__name__"→mb x=bootBuiltins x) (hlim:s₁.heap.NoLimit) (hg:s₁.gens=#[])
  (hwl:WellAll w.params s₁.heap vals ds) (hpl:qj ds=true) (hwt:∀d∈ds,d.weight≤1048576) (hr:fB k callerA)
  (F:∀base:Heap,K.In base→base.Ns mainGlobals mg→iq P w K mg base CX k fa fd ps sp) (hbind:∀(s:Shared) (us:List Value),us.length=ps.length→BindsTo s fd ⟨us,[]⟩ (ps.zip us)) (hlen:ds.length=ps.length)
  (hsp:∀(H:Hp) (xs:List V),vt H→ll K H xs ds→sp xs H (fun v H'=>Dw K H' v d0) fun _ _ _=>False)
  (hCX:∀H e s',CX [] H s₁ (fun _ _ _=>False) e s'→False) :
  codeAny (model P w) callerA (.call (.ref fa) ⟨vals,[]⟩) (fun r s'=>∃u as,r=.ok (.ret u)∧ReadsW R cl s'.heap u d0 as∧OldK s₁.heap s'.heap∧s'.os=s₁.os∧AllBare s'.gens) s₁:=by
 obtain ⟨A,ho,ar⟩:=oa ds vals hwl hpl hwt
 have hO:vt (kI K s₁.heap A):=zF ar
 have dZ:nP P w (kI K s₁.heap A) s₁.heap:=B3 ar
 have hS:=tV KX ar ds vals hwl hpl ho
 have hV:=kj ho
 have hK:∀b u,kI K s₁.heap A b=some u→K.lookup b=none:=fun b u q=>(qD ar q).1
 have noA:∀{b:Addr} {o:Obj} {es:Array DictEntry} {ep:Nat},s₁.heap.get? b=some o→o.data=.dict es ep→kI K s₁.heap A b=none:=fun {b o es ep} e d=>by
  cases q:kI K s₁.heap A b with
  | none=>rfl
  | some u=>
   obtain ⟨_,vs,_,_,⟨e2,_⟩ | ⟨e2,_⟩⟩:=qD ar q
   ·rw [e2] at e
    cases e
    have d':Data.seq vs.toArray _=Data.dict es ep:=d
    cases d'
   ·rw [e2] at e
    cases e
    have d':Data.seq vs.toArray _=Data.dict es ep:=d
    cases d'
 generalize kI K s₁.heap A=H at hO dZ hS hK noA
 have base_of:∀{b:Addr} {o:Obj},s₁.heap.get? b=some o→H b=none→(tM s₁.heap H).get? b=some o:=fun e n=>AB e n
 have nsK:∀{b:Addr} {m:Str→Option Value},s₁.heap.Ns b m→(tM s₁.heap H).Ns b m:=fun {b m} ⟨o,es,ep,e,d,r⟩=>⟨o,es,ep,base_of e (noA e d),d,r⟩
 have nK:∀b o,K.lookup b=some o→H b=none:=fun b o e=>by
  cases q:H b with
  | none=>rfl
  | some u=>
   rw [hK b u q] at e
   cases e
 have hKb:K.In (tM s₁.heap H):=fun b o e=>base_of (KX b o e) (nK b o e)
 have hM:Mod K mg (tM s₁.heap H):=⟨hKb,nsK hns,⟨mb,nsK hb,hbb⟩,let ⟨mc,h1,h2⟩:=hlim;⟨mc,nsK h1,h2⟩⟩
 have e0:w6 P w K mg (tM s₁.heap H) callerA [] s₁ H:=⟨rfl,hM,fun b o e=>BE e,Nat.le_of_eq (zg _ _),trivial,fun b hb=>absurd (show b∈([]:List Addr) from hb) (by simp),dZ,.of_eq hg⟩
 have hl:vals.length=ps.length:=by rw [jx hwl];exact hlen
 refine codeAny_mono ((F _ hKb (nsK hns)).run callerA [] s₁ H ⟨vals,[]⟩ vals (vals.map toV) _ _ hr e0 (hbind s₁ vals hl) hV (hsp H _ hO hS)) fun r s' x=>?_
 cases r with
 | error e=>exact (hCX H e s' x).elim
 | ok fl=>
  cases fl with
  | next=>exact False.elim x
  | brk=>exact False.elim x
  | cont=>exact False.elim x
  | ret u=>
   obtain ⟨v,H',os,bare,un,hok',r',q⟩:=x
   have kept:∀b o,s₁.heap.get? b=some o→s'.heap.get? b=some o:=fun b o e=>by
    cases q2:H b with
    | none=>exact un.keep b o e q2 (by intro z;exact absurd (show b∈([]:List Addr) from z) (by simp)) (by simp)
    | some u2=>
     rcases hO b with z | ⟨ob,u3,z⟩
     ·rw [q2] at z
      cases z
     ·have z2:=un.qP b ob _ z
      obtain ⟨e1,_⟩:=dZ b _ z
      obtain ⟨e2,_⟩:=hok' b _ z2
      rw [e] at e1
      cases e1
      exact e2
   have KX':K.In s'.heap:=fun b o e=>kept b o (KX b o e)
   obtain ⟨as,hrd⟩:=Dw.reads (R:=R) (cl:=cl) hok' KX' d0 v u q r'
   exact ⟨u,as,rfl,hrd,OldK.of_keep kept,os,bare⟩
theorem rk {ds:List WData} (h:WData.layableAll ds=true):∀d∈ds,d.weight≤1048576:=fun d hd=>
 (PySem.W.layableW_iff.mp (List.all_eq_true.mp h d hd)).2.2
theorem rn:∀(cs:List Codec) (a:Codec.denoteAll cs),(Codec.encAll cs a).length=cs.length
 | [],_=>rfl
 | c :: cs,a=>by
  show (Codec.encAll cs a.2).length + 1=cs.length + 1
  rw [rn cs a.2]
theorem zH {r:OpenSpec} {k:Nat} {q:Program} {loose:List Str} {XP:(Str→Option Value)→Heap→Prop} {YP:World→Heap→Prop} {d:DefRec} {K:Params→PySem.W.Frag} {CX:World→zu} {ps:List Str} {sp:World→Sp}
  (hwell:r.wellSaid=true) (hdf:d.params.defaults=[]) (hlen:r.args.length=ps.length) (hr:fB k callerA)
  (hY:∀(w:World) (h:Heap),YP w h→(K w.params).In h)
  (F:∀(w:World) (mg:Str→Option Value) (fa:Addr) (h:Heap),YP w h→(K w.params).In h→h.Ns mainGlobals mg→mg d.name=some (.ref fa)→
   ∃fd:FuncData,(∀(s:Shared) (us:List Value),us.length=ps.length→BindsTo s fd ⟨us,[]⟩ (ps.zip us))∧
    ∀base:Heap,(K w.params).In base→base.Ns mainGlobals mg→iq r.prog w (K w.params) mg base (CX w) k fa fd ps (sp w))
  (hsp:∀(w:World) (H:Hp) (xs:List V) (a:Codec.denoteAll r.args),vt H→Codec.withinAll r.args a=true→Codec.app r.args r.asked a=true→ll (K w.params) H xs (Codec.encAll r.args a)→
   sp w xs H (fun v H'=>Dw (K w.params) H' v (r.ret.enc (Codec.app r.args r.f a))) fun _ _ _=>False)
  (hCX:∀(w:World) (H:Hp) (s:Shared) (e:Value) (s':Shared),CX w [] H s (fun _ _ _=>False) e s'→False) :
  PySem.W.WalkOS q loose XP YP r d [] (fun f vs=>PySem.call f vs):=by
 intro w sW s₁ mg mb G Y fa o pm cd doc dV kV ho hd hcd hD hmg hg args vals as hpre hlay hrd hwl hlo
 obtain ⟨a,e1,e2⟩:=PySem.W.os_pre_some hpre
 obtain ⟨e3,hwi⟩:=Codec.encAll_of_decAll r.args args a e1
 subst e3
 have KX:=hY w _ Y
 obtain ⟨fd,hb,hF⟩:=F w mg fa _ Y KX G.T.g hmg
 refine PySem.W.enter_call (codeAny_mono (zG (R:=[]) (cl:=classAt sW.heap) (d0:=r.ret.enc (Codec.app r.args r.f a)) KX G.T.g G.T.b G.T.builtins G.T.nolimit hg hwl (tu _ _) (rk hlay) hr hF hb (by rw [rn];exact hlen)
  (fun H xs hO hS=>hsp w H xs a hO hwi e2 hS) fun H e s'=>hCX w H s₁ e s') fun r' s' hq=>?_)
 obtain ⟨u,as',rfl,h1,h2,h3,h4⟩:=hq
 exact ⟨.inl ⟨u,_,as',rfl,fun _=>rfl,h1,(OpenSpec.post_iff hwell hwi _ _).mpr rfl,fun z=>Bool.noConfusion (show false=true from z)⟩,h2,h3,h4⟩
theorem xh {r:OpenSpec} {k:Nat} {q:Program} {loose:List Str} {XP:(Str→Option Value)→Heap→Prop} {YP:World→Heap→Prop} {d:DefRec} {K:Params→PySem.W.Frag} {CX:zu} {ps:List Str} {sp:PySem.W.Frag→Sp}
  (hwell:r.wellSaid=true) (hdf:d.params.defaults=[]) (hlen:r.args.length=ps.length) (hr:fB k callerA)
  (hY:∀(w:World) (h:Heap),YP w h→(K w.params).In h)
  (F:∀(w:World) (mg:Str→Option Value) (fa:Addr) (h:Heap),YP w h→(K w.params).In h→h.Ns mainGlobals mg→mg d.name=some (.ref fa)→
   ∃fd:FuncData,(∀(s:Shared) (us:List Value),us.length=ps.length→BindsTo s fd ⟨us,[]⟩ (ps.zip us))∧
    ∀base:Heap,(K w.params).In base→base.Ns mainGlobals mg→iq r.prog w (K w.params) mg base CX k fa fd ps (sp (K w.params)))
  (hsp:∀(K:PySem.W.Frag) (H:Hp) (xs:List V) (a:Codec.denoteAll r.args),vt H→Codec.withinAll r.args a=true→Codec.app r.args r.asked a=true→ll K H xs (Codec.encAll r.args a)→
   sp K xs H (fun v H'=>Dw K H' v (r.ret.enc (Codec.app r.args r.f a))) fun _ _ _=>False)
  (hCX:∀(H:Hp) (s:Shared) (e:Value) (s':Shared),CX [] H s (fun _ _ _=>False) e s'→False) :
  PySem.W.WalkOS q loose XP YP r d [] (fun f vs=>PySem.call f vs):=
 zH (K:=K) (CX:=fun _=>CX) (sp:=fun w=>sp (K w.params)) hwell hdf hlen hr hY F (fun w H xs a h1 h2 h3 h4=>hsp (K w.params) H xs a h1 h2 h3 h4) fun _ H s e s'=>hCX H s e s'
end L2
end
end
section
namespace Mir
open Sn44
inductive Mode where
 | version | howMany | ways (n:Nat) | number | size | form (w h:Nat) | nameLen (w h:Nat) (f:Form) | name (w h:Nat) (f:Form) (n:Nat)
 | kind | update | table | colours (i n:Nat) | cutLen | cutText (n:Nat)
 | rect | pixels (r:Rect) | source (r:Rect) | howManyParts (c:Nat) (r:Rect) | ground (c:Nat) (r:Rect) (k:Nat) | part (c:Nat) (r:Rect) (k:Nat) (s:Screen)
 | tile (r:Rect) (i j back front:Nat) (s:Screen) | tilePixels (r:Rect) (i j back front:Nat) (s:Screen)
 | tileColours (r:Rect) (i j back front bits:Nat) (s:Screen) | tilePart (r:Rect) (i j back front bits n:Nat) (s:Screen)
inductive Res where
 | cont (m:Mode) | done (v:Viewer) | bad (k:Nat)
def sub (w:Bytes) (a n:Nat):Nat:=high ((w.drop a).take n)
def kJ (f:Form) (b:Bytes):Nat:=if f.big=true then high b else low b
def fS (f:Form) (n:Nat) (w:Bytes):List Nat:=(List.range n).map fun k=>kJ f ((w.drop (k * f.size)).take f.size)
def ents (n:Nat) (w:Bytes):List (List Nat):=(List.range n).map fun k=>[sub w (6 * k) 2,sub w (6 * k + 2) 2,sub w (6 * k + 4) 2]
def two (b:Bytes) (i:Nat):Nat:=256 * b.getD i 0 + b.getD (i + 1) 0
def formOf (b:Bytes):Form:=⟨b.getD 0 0 / 8,b.getD 2 0 != 0,b.getD 3 0 != 0,[two b 4,two b 6,two b 8],[b.getD 10 0,b.getD 11 0,b.getD 12 0]⟩
def nr (bits:Nat) (p:Nat × Nat):Bool:=(bitsOf p.1).any fun k=>decide (p.2 + k≤bits)
def ir (b:Bytes):Bool:=[8,16,32].contains (b.getD 0 0) && (if (formOf b).parts=true then ((formOf b).maxes.zip (formOf b).shifts).all (nr (b.getD 0 0)) else b.getD 0 0 == 8)
def nC (r:Rect):Nat:=(r.w + 15) / 16
def nR (r:Rect):Nat:=(r.h + 15) / 16
def ax (r:Rect) (i j:Nat):Rect:=⟨r.x + 16 * i,r.y + 16 * j,min 16 (r.w - 16 * i),min 16 (r.h - 16 * j)⟩
def cV (r:Rect) (i j:Nat):List Rect:=((List.range (nC r)).drop i).map (fun i=>ax r i j)++((List.range (nR r)).drop (j + 1)).flatMap fun j=>(List.range (nC r)).map fun i=>ax r i j
def fin (v:Viewer) (s:Screen):Viewer:={ v with screen:=s,left:=v.left - 1 }.whole
def cS (v:Viewer) (r:Rect) (i j back front:Nat) (s:Screen):Res:=if r.w=0∨r.h≤16 * j then .done (fin v s) else .cont (.tile r i j back front s)
def cW (v:Viewer) (r:Rect) (i j back front:Nat) (s:Screen):Res:=if 16 * (i + 1) < r.w then cS v r (i + 1) j back front s else cS v r 0 (j + 1) back front s
def cI (v:Viewer) (r:Rect) (i j back front bits n:Nat) (s:Screen):Res:=if n=0 then cW v r i j back front s else .cont (.tilePart r i j back front bits n s)
def dH (v:Viewer) (c:Nat) (r:Rect) (k:Nat) (s:Screen):Res:=if k=0 then .done (fin v s) else .cont (.part c r k s)
def bit (b:Nat) (p:Nat):Nat:=b / p % 2
def need (v:Viewer):Mode→Nat
 | .version=>12 | .howMany=>1 | .ways n=>n | .number=>4 | .size=>4 | .form _ _=>16 | .nameLen _ _ _=>4 | .name _ _ _ n=>n
 | .kind=>1 | .update=>3 | .table=>5 | .colours _ n=>6 * n | .cutLen=>7 | .cutText n=>n
 | .rect=>12 | .pixels r=>r.w * r.h * v.screen.form.size | .source _=>4 | .howManyParts _ _=>4 | .ground _ _ _=>v.screen.form.size
 | .part c _ _ _=>v.screen.form.size + 4 * c
 | .tile _ _ _ _ _ _=>1
 | .tilePixels r i j _ _ _=>(ax r i j).w * (ax r i j).h * v.screen.form.size
 | .tileColours _ _ _ _ _ b _=>(if bit b 2=1 then v.screen.form.size else 0) + (if bit b 4=1 then v.screen.form.size else 0) + (if bit b 8=1 then 1 else 0)
 | .tilePart _ _ _ _ _ b _ _=>(if bit b 16=1 then v.screen.form.size else 0) + 2
def codings:Bytes:=[2,0,0,5]++(be 4 1++(be 4 5++(be 4 4++(be 4 2++be 4 0))))
def bE (v:Viewer) (w h:Nat) (f:Form) (t:Bytes):Viewer:=
 ({ v with stage:=.runs,name:=t,screen:=⟨w,h,f,List.replicate (w * h) 0,List.replicate 256 [0,0,0]⟩ }.send codings).ask false
def step (v:Viewer) (m:Mode) (w:Bytes):Res:=
 let f:=v.screen.form
 match m with
 | .version=>if w == VERSION then .done ({ v with stage:=.ways }.send VERSION) else .bad 1
 | .howMany=>if high w=0 then .bad 2 else .cont (.ways (high w))
 | .ways _=>if w.contains 1 then .done ({ v with stage:=.answer }.send [1]) else .bad 3
 | .number=>if high w=0 then .done ({ v with stage:=.first }.send [1]) else .bad 4
 | .size=>if 1≤sub w 0 2∧sub w 0 2≤1024∧1≤sub w 2 2∧sub w 2 2≤1024 then .cont (.form (sub w 0 2) (sub w 2 2)) else .bad 5
 | .form a b=>if ir w=true then .cont (.nameLen a b (formOf w)) else .bad 5
 | .nameLen a b g=>if high w≤65536 then .cont (.name a b g (high w)) else .bad 5
 | .name a b g _=>.done (bE v a b g w)
 | .kind=>if high w=0 then .cont .update else if high w=1 then .cont .table else if high w=2 then .done { v with bells:=(v.bells + 1) % 2 ^ 31 } else if high w=3 then .cont .cutLen else .bad 6
 | .update=>.done ({ v with left:=sub w 1 2 }.whole)
 | .table=>if f.parts=false∧sub w 1 2 + sub w 3 2≤256 then .cont (.colours (sub w 1 2) (sub w 3 2)) else .bad 6
 | .colours i n=>.done { v with screen:={ v.screen with table:=v.screen.table.take i++(ents n w++v.screen.table.drop (i + n)) } }
 | .cutLen=>if sub w 3 4≤65536 then .cont (.cutText (sub w 3 4)) else .bad 6
 | .cutText _=>.done { v with cut:=w }
 | .rect=>
  let r:Rect:=⟨sub w 0 2,sub w 2 2,sub w 4 2,sub w 6 2⟩
  let c:=sub w 8 4
  if inside v.screen.w v.screen.h r=true then
   if c=0 then .cont (.pixels r) else if c=1 then .cont (.source r) else if c=2 then .cont (.howManyParts 2 r) else if c=4 then .cont (.howManyParts 1 r)
   else if c=5 then cS v r 0 0 0 0 v.screen else .bad 7
  else .bad 7
 | .pixels r=>.done (fin v (v.screen.draw r (fS f (r.w * r.h) w)))
 | .source r=>
  let q:Rect:=⟨sub w 0 2,sub w 2 2,r.w,r.h⟩
  if inside v.screen.w v.screen.h q=true then .done (fin v (v.screen.draw r ((placesOf q).map fun z=>v.screen.at_ z.1 z.2))) else .bad 7
 | .howManyParts c r=>if high w≤65535 then .cont (.ground c r (high w)) else .bad 7
 | .ground c r k=>dH v c r k (v.screen.fill r (kJ f w))
 | .part c r k s=>
  let q:Rect:=⟨sub w f.size c,sub w (f.size + c) c,sub w (f.size + 2 * c) c,sub w (f.size + 3 * c) c⟩
  if inside r.w r.h q=true then dH v c r (k - 1) (s.fill ⟨r.x + q.x,r.y + q.y,q.w,q.h⟩ (kJ f (w.take f.size))) else .bad 7
 | .tile r i j back front s=>if high w % 2=1 then .cont (.tilePixels r i j back front s) else .cont (.tileColours r i j back front (high w) s)
 | .tilePixels r i j back front s=>cW v r i j back front (s.draw (ax r i j) (fS f ((ax r i j).w * (ax r i j).h) w))
 | .tileColours r i j back front b s=>
  let back':=if bit b 2=1 then kJ f (w.take f.size) else back
  let a:=if bit b 2=1 then f.size else 0
  let front':=if bit b 4=1 then kJ f ((w.drop a).take f.size) else front
  let a':=a + if bit b 4=1 then f.size else 0
  let n:=if bit b 8=1 then sub w a' 1 else 0
  cI v r i j back' front' b n (s.fill (ax r i j) back')
 | .tilePart r i j back front b n s=>
  let a:=if bit b 16=1 then f.size else 0
  let p:=if bit b 16=1 then kJ f (w.take f.size) else front
  let t:=ax r i j
  let q:Rect:=⟨sub w a 1 / 16,sub w a 1 % 16,sub w (a + 1) 1 / 16 + 1,sub w (a + 1) 1 % 16 + 1⟩
  if inside t.w t.h q=true then cI v r i j back front b (n - 1) (s.fill ⟨t.x + q.x,t.y + q.y,q.w,q.h⟩ p) else .bad 7
def rest (v:Viewer) (m:Mode):P Viewer:=
 let f:=v.screen.form
 let tail (p:P Screen):P Viewer:=seq p fun s=>give (fin v s)
 let tls (r:Rect) (i j:Nat) (p:P (Screen × Nat × Nat)):P Viewer:=tail (seq p fun x=>tiled (cV r i j).tail x.2.1 x.2.2 x.1)
 match m with
 | .version=>seq (part 12) fun b=>seq (must 1 (b == VERSION)) fun _=>give ({ v with stage:=.ways }.send VERSION)
 | .howMany=>seq (num 1) fun n=>if n=0 then fail 2 else seq (part n) fun l=>seq (must 3 (l.contains 1)) fun _=>give ({ v with stage:=.answer }.send [1])
 | .ways n=>seq (part n) fun l=>seq (must 3 (l.contains 1)) fun _=>give ({ v with stage:=.answer }.send [1])
 | .number=>seq (num 4) fun k=>if k=0 then give ({ v with stage:=.first }.send [1]) else fail 4
 | .size=>seq (num 2) fun w=>seq (num 2) fun h=>
  seq (must 5 (decide (1≤w) && (decide (w≤SIDE) && (decide (1≤h) && decide (h≤SIDE))))) fun _=>seq Sn44.form fun g=>seq (text 5) fun t=>give (bE v w h g t)
 | .form w h=>seq Sn44.form fun g=>seq (text 5) fun t=>give (bE v w h g t)
 | .nameLen w h g=>seq (text 5) fun t=>give (bE v w h g t)
 | .name w h g n=>seq (part n) fun t=>give (bE v w h g t)
 | .kind=>seq (num 1) fun k=>
  if k=0 then seq (num 1) fun _=>seq (num 2) fun n=>give ({ v with left:=n }.whole)
  else if k=1 then seq (num 1) fun _=>seq (num 2) fun i=>seq (num 2) fun n=>
   seq (must 6 (v.screen.form.parts == false && decide (i + n≤256))) fun _=>seq (entries n) fun l=>
    give { v with screen:={ v.screen with table:=v.screen.table.take i++(l++v.screen.table.drop (i + n)) } }
  else if k=2 then give { v with bells:=(v.bells + 1) % 2 ^ 31 }
  else if k=3 then seq (num 3) fun _=>seq (text 6) fun t=>give { v with cut:=t }
  else fail 6
 | .update=>seq (num 1) fun _=>seq (num 2) fun n=>give ({ v with left:=n }.whole)
 | .table=>seq (num 1) fun _=>seq (num 2) fun i=>seq (num 2) fun n=>
   seq (must 6 (v.screen.form.parts == false && decide (i + n≤256))) fun _=>seq (entries n) fun l=>
    give { v with screen:={ v.screen with table:=v.screen.table.take i++(l++v.screen.table.drop (i + n)) } }
 | .colours i n=>seq (entries n) fun l=>give { v with screen:={ v.screen with table:=v.screen.table.take i++(l++v.screen.table.drop (i + n)) } }
 | .cutLen=>seq (num 3) fun _=>seq (text 6) fun t=>give { v with cut:=t }
 | .cutText n=>seq (part n) fun t=>give { v with cut:=t }
 | .rect=>tail (Sn44.rect v.screen)
 | .pixels r=>tail (raw v.screen r)
 | .source r=>tail (copied v.screen r)
 | .howManyParts c r=>tail (risen c v.screen r)
 | .ground c r k=>tail (seq (pixel f) fun p=>parts_ c r k (v.screen.fill r p))
 | .part c r k s=>tail (parts_ c r k s)
 | .tile r i j back front s=>tail (tiled (cV r i j) back front s)
 | .tilePixels r i j back front s=>tls r i j (seq (raw s (ax r i j)) fun s=>give (s,back,front))
 | .tileColours r i j back front b s=>tls r i j (seq (if bit b 2=1 then pixel s.form else give back) fun back=>
  seq (if bit b 4=1 then pixel s.form else give front) fun front=>
   let s:=s.fill (ax r i j) back
   if bit b 8=0 then give (s,back,front)
   else seq (num 1) fun n=>seq (smalls (bit b 16 == 1) front (ax r i j) n s) fun s=>give (s,back,front))
 | .tilePart r i j back front b n s=>tls r i j (seq (smalls (bit b 16 == 1) front (ax r i j) n s) fun s=>give (s,back,front))
def WF (v:Viewer):Mode→Prop
 | .part _ _ k s=>0 < k∧s.form=v.screen.form
 | .tile r i j _ _ s=>i < nC r∧j < nR r∧s.form=v.screen.form
 | .tilePixels r i j _ _ s=>i < nC r∧j < nR r∧s.form=v.screen.form
 | .tileColours r i j _ _ _ s=>i < nC r∧j < nR r∧s.form=v.screen.form
 | .tilePart r i j _ _ _ n s=>i < nC r∧j < nR r∧s.form=v.screen.form∧0 < n
 | _=>True
def Res.go (v:Viewer):Res→P Viewer
 | .cont m=>rest v m
 | .done u=>give u
 | .bad k=>fail k
end Mir
end
section
namespace Mir
open Sn44
theorem seq_assoc {α β γ:Type} (p:P α) (f:α→P β) (g:β→P γ):seq (seq p f) g=seq p fun x=>seq (f x) g:=by
 funext b
 unfold seq Got.bind
 cases p b <;> rfl
theorem jg {α β:Type} (a:α) (f:α→P β):seq (give a) f=f a:=rfl
theorem EY {α β:Type} (k:Nat) (f:α→P β):seq (fail k) f=fail k:=rfl
theorem iu {β:Type} {k:Nat} {c:Bool} (h:c=true) (f:Unit→P β):seq (must k c) f=f ():=by
 subst h
 rfl
theorem iw {β:Type} {k:Nat} {c:Bool} (h:c=false) (f:Unit→P β):seq (must k c) f=fail k:=by
 subst h
 rfl
def Wt {α:Type} (n:Nat) (p:P α) (k:Bytes→Got α):Prop:=∀b,p b=if b.length < n then .more else k b
theorem Wt.any {α:Type} (p:P α):Wt 0 p p:=fun b=>by simp
theorem Wt.conv {α:Type} {n n':Nat} {p:P α} {k k':Bytes→Got α} (h:Wt n p k) (e:n'=n) (hk:∀b,n≤b.length→k b=k' b):Wt n' p k':=fun b=>by
 subst e
 rw [h b]
 by_cases c:b.length < n'
 ·rw [if_pos c,if_pos c]
 ·rw [if_neg c,if_neg c,hk b (by omega)]
theorem Wt.part {α:Type} {a c:Nat} {g:Bytes→P α} {k:Bytes→Bytes→Got α} (h:∀x,Wt c (g x) (k x)):Wt (a + c) (seq (part a) g) (fun b=>k (b.take a) (b.drop a)):=fun b=>by
 unfold seq Sn44.part
 by_cases h1:b.length < a
 ·simp [h1,Got.bind,show b.length < a + c by omega]
 ·simp only [h1,if_false,Got.bind]
  rw [h,List.length_drop]
  by_cases h2:b.length < a + c
  ·rw [if_pos h2,if_pos (by omega)]
  ·rw [if_neg h2,if_neg (by omega)]
theorem Wt.num {α:Type} {a c:Nat} {g:Nat→P α} {k:Nat→Bytes→Got α} (h:∀x,Wt c (g x) (k x)):Wt (a + c) (seq (Sn44.num a) g) (fun b=>k (sub b 0 a) (b.drop a)):=by
 have e:seq (Sn44.num a) g=seq (Sn44.part a) fun b=>g (high b):=by
  unfold Sn44.num
  rw [seq_assoc]
  rfl
 rw [e]
 exact Wt.part (k:=fun x=>k (high x)) fun x=>h _
theorem Wt.pixel {α:Type} {f:Form} {c:Nat} {g:Nat→P α} {k:Nat→Bytes→Got α} (h:∀x,Wt c (g x) (k x)):Wt (f.size + c) (seq (pixel f) g) (fun b=>k (kJ f (b.take f.size)) (b.drop f.size)):=by
 have e:seq (Sn44.pixel f) g=seq (Sn44.part f.size) fun b=>g (kJ f b):=by
  unfold Sn44.pixel
  rw [seq_assoc]
  rfl
 rw [e]
 exact Wt.part (k:=fun x=>k (kJ f x)) fun x=>h _
theorem fj (b:Bytes) (a c n:Nat):sub (b.drop a) c n=sub b (a + c) n:=by
 unfold sub
 rw [List.drop_drop]
theorem bS {b:Bytes} {k a n:Nat} (h:a + n≤k):sub (b.take k) a n=sub b a n:=by
 unfold sub
 rw [List.drop_take,List.take_take,Nat.min_eq_left (by omega)]
theorem sub_zero {b:Bytes} {n:Nat}:sub b 0 n=high (b.take n):=rfl
theorem tE (f:Form):∀n,Wt (n * f.size) (Sn44.pixels f n) (fun b=>.ok (fS f n b) (b.drop (n * f.size)))
 | 0=>fun b=>by simp [Sn44.pixels,give,fS]
 | n + 1=>by
  unfold Sn44.pixels
  refine (Wt.pixel (c:=n * f.size) (k:=fun p b=>.ok (p :: fS f n b) (b.drop (n * f.size))) fun p=>?_).conv (by rw [Nat.succ_mul];omega) fun b hb=>?_
  ·intro b
   have ih:=tE f n b
   unfold seq
   rw [ih]
   by_cases c:b.length < n * f.size
   ·rw [if_pos c,if_pos c];rfl
   ·rw [if_neg c,if_neg c];rfl
  ·rw [List.drop_drop]
   have e1:fS f (n + 1) b=kJ f (b.take f.size) :: fS f n (b.drop f.size):=by
    unfold fS
    rw [List.range_succ_eq_map,List.map_cons,List.map_map]
    refine congr (congrArg List.cons ?_) (List.map_congr_left fun k _=>?_)
    ·simp
    ·simp only [Function.comp,List.drop_drop]
     rw [show (Nat.succ k) * f.size=f.size + k * f.size by rw [Nat.succ_mul];omega]
   rw [e1,show f.size + n * f.size=(n + 1) * f.size by rw [Nat.succ_mul];omega]
theorem rq:∀n,Wt (6 * n) (entries n) (fun b=>.ok (ents n b) (b.drop (6 * n)))
 | 0=>fun b=>by simp [entries,give,ents]
 | n + 1=>by
  unfold entries
  refine (Wt.num (a:=2) (c:=2 + (2 + 6 * n)) fun r=>Wt.num (a:=2) fun g=>Wt.num (a:=2) (k:=fun bb b=>.ok ([r,g,bb] :: ents n b) (b.drop (6 * n))) fun bb=>?_).conv (by omega) fun b hb=>?_
  ·intro b
   have ih:=rq n b
   unfold seq
   rw [ih]
   by_cases c:b.length < 6 * n
   ·rw [if_pos c,if_pos c];rfl
   ·rw [if_neg c,if_neg c];rfl
  ·simp only [List.drop_drop,fj]
   have e1:ents (n + 1) b=[sub b 0 2,sub b 2 2,sub b 4 2] :: ents n (b.drop 6):=by
    unfold ents
    rw [List.range_succ_eq_map,List.map_cons,List.map_map]
    refine congr (congrArg List.cons ?_) (List.map_congr_left fun k _=>?_)
    ·simp
    ·simp only [Function.comp,fj]
     rw [show 6 * (Nat.succ k)=6 + 6 * k by omega]
     simp only [Nat.add_assoc]
   rw [e1,show 2 + (2 + 2) + 6 * n=6 * (n + 1) by omega]
theorem tF {f:Form} {n:Nat} {b:Bytes}:fS f n (b.take (n * f.size))=fS f n b:=by
 unfold fS
 refine List.map_congr_left fun k hk=>?_
 have hk:k < n:=List.mem_range.mp hk
 have e:k * f.size + f.size≤n * f.size:=by
  rw [← Nat.succ_mul]
  exact Nat.mul_le_mul_right _ hk
 rw [List.drop_take,List.take_take,Nat.min_eq_left (by omega)]
theorem zI {n:Nat} {b:Bytes}:ents n (b.take (6 * n))=ents n b:=by
 unfold ents
 refine List.map_congr_left fun k hk=>?_
 have hk:k < n:=List.mem_range.mp hk
 rw [bS (by omega),bS (by omega),bS (by omega)]
theorem B4:Sn44.form=seq (Sn44.part 16) fun b=>seq (must 5 (ir b)) fun _=>give (formOf b):=rfl
end Mir
end
section
namespace Mir
open Sn44
theorem tW {r:Rect} {i j:Nat} (hi:i < nC r):cV r i j=ax r i j :: (cV r i j).tail:=by
 have e:(List.range (nC r)).drop i=i :: (List.range (nC r)).drop (i + 1):=by
  rw [List.drop_eq_getElem_cons (by simpa using hi)]
  simp
 unfold cV
 rw [e]
 rfl
theorem kK {r:Rect} {i j:Nat} (hi:i < nC r):(cV r i j).tail=((List.range (nC r)).drop (i + 1)).map (fun i=>ax r i j)++((List.range (nR r)).drop (j + 1)).flatMap fun j=>(List.range (nC r)).map fun i=>ax r i j:=by
 have e:(List.range (nC r)).drop i=i :: (List.range (nC r)).drop (i + 1):=by
  rw [List.drop_eq_getElem_cons (by simpa using hi)]
  simp
 unfold cV
 rw [e]
 rfl
theorem jh {r:Rect} {i:Nat}:16 * i < r.w ↔ i < nC r:=by unfold nC;omega
theorem lO {r:Rect} {j:Nat}:16 * j < r.h ↔ j < nR r:=by unfold nR;omega
theorem xi {r:Rect} {i j:Nat} (hi:i + 1 < nC r):(cV r i j).tail=cV r (i + 1) j:=kK (by omega)
theorem zJ {r:Rect} {i j:Nat} (hi:i < nC r) (hi':¬ i + 1 < nC r) (hj:j + 1 < nR r):(cV r i j).tail=cV r 0 (j + 1):=by
 rw [kK hi,List.drop_of_length_le (by rw [List.length_range];omega)]
 have e:(List.range (nR r)).drop (j + 1)=(j + 1) :: (List.range (nR r)).drop (j + 1 + 1):=by
  rw [List.drop_eq_getElem_cons (by simpa using hj)]
  simp
 rw [e]
 rfl
theorem A5 {r:Rect} {i j:Nat} (hi:i < nC r) (hi':¬ i + 1 < nC r) (hj:¬ j + 1 < nR r):(cV r i j).tail=[]:=by
 rw [kK hi,List.drop_of_length_le (by rw [List.length_range];omega),List.drop_of_length_le (by rw [List.length_range];omega)]
 rfl
theorem A6 {r:Rect} (hR:0 < nR r):tiles r=cV r 0 0:=by
 have e:List.range (nR r)=0 :: (List.range (nR r)).drop 1:=by
  have:=List.drop_eq_getElem_cons (l:=List.range (nR r)) (i:=0) (by simpa using hR)
  simpa using this
 have e2:tiles r=(List.range (nR r)).flatMap fun j=>(List.range (nC r)).map fun i=>ax r i j:=rfl
 rw [e2]
 conv=>lhs;rw [e]
 rfl
theorem xj {r:Rect} (h:r.w=0∨r.h≤0):tiles r=[]:=by
 have e2:tiles r=(List.range (nR r)).flatMap fun j=>(List.range (nC r)).map fun i=>ax r i j:=rfl
 rw [e2]
 rcases h with h | h
 ·have:nC r=0:=by unfold nC;omega
  rw [this]
  simp
 ·have:nR r=0:=by unfold nR;omega
  rw [this]
  rfl
theorem pU {v:Viewer} {r:Rect} {i j back front:Nat} {s:Screen} (d:Bytes) (hi:i < nC r∨r.w=0):(cS v r i j back front s).go v d=seq (tiled (if r.w=0∨r.h≤16 * j then [] else cV r i j) back front s) (fun s=>give (fin v s)) d:=by
 unfold cS
 by_cases c:r.w=0∨r.h≤16 * j
 ·rw [if_pos c,if_pos c]
  rfl
 ·rw [if_neg c,if_neg c]
  rfl
theorem oe {v:Viewer} {r:Rect} {i j back front:Nat} {s:Screen} (d:Bytes) (hi:i < nC r) (hj:j < nR r):(cW v r i j back front s).go v d=seq (tiled (cV r i j).tail back front s) (fun s=>give (fin v s)) d:=by
 have hw:¬ r.w=0:=by have:=jh (r:=r) (i:=i);omega
 unfold cW
 by_cases c:16 * (i + 1) < r.w
 ·have c':=jh.mp c
  rw [if_pos c,pU d (.inl c'),xi c']
  have:=lO.mpr hj
  rw [if_neg (by omega)]
 ·have c':¬ i + 1 < nC r:=fun h=>c (jh.mpr h)
  rw [if_neg c,pU d (.inl (by omega))]
  by_cases cj:r.h≤16 * (j + 1)
  ·rw [if_pos (.inr cj),A5 hi c' (fun h=>by have:=lO.mpr h;omega)]
  ·rw [if_neg (by omega),zJ hi c' (lO.mp (by omega))]
theorem Gi {v:Viewer} {c:Prop} [Decidable c] {a b:Res} (d:Bytes):(if c then a else b).go v d=if c then a.go v d else b.go v d:=by
 split <;> rfl
def Good (v:Viewer) (m:Mode):Prop:=Wt (need v m) (rest v m) (fun b=>(step v m (b.take (need v m))).go v (b.drop (need v m)))
theorem Ef {b:Bytes} {n:Nat}:high (b.take n)=sub b 0 n:=rfl
theorem tX (v:Viewer):Good v .version:=by
 refine (Wt.part (a:=12) fun x=>Wt.any _).conv rfl fun b hb=>?_
 show seq (must 1 (b.take 12 == VERSION)) _ (b.drop 12)=(if (b.take 12 == VERSION)=true then _ else _:Res).go v (b.drop 12)
 by_cases c:(b.take 12 == VERSION)=true
 ·rw [iu c,if_pos c];rfl
 ·rw [iw (by simpa using c),if_neg c];rfl
theorem tY (v:Viewer):Good v .howMany:=by
 refine (Wt.num (a:=1) fun x=>Wt.any _).conv rfl fun b hb=>?_
 show (if sub b 0 1=0 then _ else _:P Viewer) (b.drop 1)=(if sub b 0 1=0 then _ else _:Res).go v (b.drop 1)
 by_cases c:sub b 0 1=0
 ·rw [if_pos c,if_pos c];rfl
 ·rw [if_neg c,if_neg c];rfl
theorem zK (v:Viewer) (n:Nat):Good v (.ways n):=by
 refine (Wt.part (a:=n) fun x=>Wt.any _).conv rfl fun b hb=>?_
 show seq (must 3 ((b.take n).contains 1)) _ (b.drop n)=(if (b.take n).contains 1=true then _ else _:Res).go v (b.drop n)
 by_cases c:(b.take n).contains 1=true
 ·rw [iu c,if_pos c];rfl
 ·rw [iw (by simpa using c),if_neg c];rfl
theorem vx (v:Viewer):Good v .number:=by
 refine (Wt.num (a:=4) fun x=>Wt.any _).conv rfl fun b hb=>?_
 show (if sub b 0 4=0 then _ else _:P Viewer) (b.drop 4)=(if sub b 0 4=0 then _ else _:Res).go v (b.drop 4)
 by_cases c:sub b 0 4=0
 ·rw [if_pos c,if_pos c];rfl
 ·rw [if_neg c,if_neg c];rfl
theorem zL (v:Viewer):Good v .size:=by
 refine (Wt.num (a:=2) fun x=>Wt.num (a:=2) fun y=>Wt.any _).conv rfl fun b hb=>?_
 have e0:need v .size=4:=rfl
 rw [e0]
 simp only [fj,List.drop_drop,step,bS (show 0 + 2≤4 by decide),bS (show 2 + 2≤4 by decide),Nat.add_zero]
 generalize sub b 0 2=x
 generalize sub b 2 2=y
 by_cases c:1≤x∧x≤1024∧1≤y∧y≤1024
 ·rw [iu (by simp only [Bool.and_eq_true];exact ⟨decide_eq_true c.1,decide_eq_true c.2.1,decide_eq_true c.2.2.1,decide_eq_true c.2.2.2⟩),if_pos c];rfl
 ·rw [iw (by rw [Bool.eq_false_iff];intro h;simp only [Bool.and_eq_true] at h;exact c ⟨of_decide_eq_true h.1,of_decide_eq_true h.2.1,of_decide_eq_true h.2.2.1,of_decide_eq_true h.2.2.2⟩),if_neg c];rfl
theorem zM (v:Viewer) (w h:Nat):Good v (.form w h):=by
 have e:rest v (.form w h)=seq (Sn44.part 16) fun b=>seq (must 5 (ir b)) fun _=>rest v (.nameLen w h (formOf b)):=by
  show seq Sn44.form _=_
  simp only [B4,seq_assoc,jg]
  rfl
 unfold Good
 rw [e]
 refine (Wt.part (a:=16) fun x=>Wt.any _).conv rfl fun b hb=>?_
 show seq (must 5 (ir (b.take 16))) _ (b.drop 16)=(if ir (b.take 16)=true then _ else _:Res).go v (b.drop 16)
 by_cases c:ir (b.take 16)=true
 ·rw [iu c,if_pos c];rfl
 ·rw [iw (by simpa using c),if_neg c];rfl
theorem tZ (v:Viewer) (w h:Nat) (f:Form):Good v (.nameLen w h f):=by
 have e:rest v (.nameLen w h f)=seq (Sn44.num 4) fun n=>seq (must 5 (decide (n≤65536))) fun _=>rest v (.name w h f n):=by
  show seq (Sn44.text 5) _=_
  unfold Sn44.text
  simp only [seq_assoc,jg]
  rfl
 unfold Good
 rw [e]
 refine (Wt.num (a:=4) fun x=>Wt.any _).conv rfl fun b hb=>?_
 show seq (must 5 (decide (sub b 0 4≤65536))) _ (b.drop 4)=(if sub b 0 4≤65536 then _ else _:Res).go v (b.drop 4)
 by_cases c:sub b 0 4≤65536
 ·rw [iu (by simpa using c),if_pos c];rfl
 ·rw [iw (by simpa using c),if_neg c];rfl
theorem zN (v:Viewer) (w h:Nat) (f:Form) (n:Nat):Good v (.name w h f n):=(Wt.part (a:=n) fun x=>Wt.any _).conv rfl fun b hb=>rfl
theorem zO (v:Viewer):Good v .kind:=by
 refine (Wt.num (a:=1) fun x=>Wt.any _).conv rfl fun b hb=>?_
 show _=(if high (b.take 1)=0 then Res.cont .update else if high (b.take 1)=1 then Res.cont .table else if high (b.take 1)=2 then _ else if high (b.take 1)=3 then Res.cont .cutLen else Res.bad 6:Res).go v (b.drop 1)
 by_cases c0:high (b.take 1)=0
 ·rw [if_pos c0,if_pos (show sub b 0 1=0 from c0)];rfl
 ·rw [if_neg c0,if_neg (show ¬ sub b 0 1=0 from c0)]
  by_cases c1:high (b.take 1)=1
  ·rw [if_pos c1,if_pos (show sub b 0 1=1 from c1)];rfl
  ·rw [if_neg c1,if_neg (show ¬ sub b 0 1=1 from c1)]
   by_cases c2:high (b.take 1)=2
   ·rw [if_pos c2,if_pos (show sub b 0 1=2 from c2)];rfl
   ·rw [if_neg c2,if_neg (show ¬ sub b 0 1=2 from c2)]
    by_cases c3:high (b.take 1)=3
    ·rw [if_pos c3,if_pos (show sub b 0 1=3 from c3)];rfl
    ·rw [if_neg c3,if_neg (show ¬ sub b 0 1=3 from c3)];rfl
theorem vy (v:Viewer):Good v .update:=by
 refine (Wt.num (a:=1) fun x=>Wt.num (a:=2) fun y=>Wt.any _).conv rfl fun b hb=>?_
 have e0:need v .update=3:=rfl
 rw [e0]
 simp only [fj,List.drop_drop,step,bS (show 1 + 2≤3 by decide)]
 rfl
theorem xk (v:Viewer):Good v .table:=by
 refine (Wt.num (a:=1) fun x=>Wt.num (a:=2) fun y=>Wt.num (a:=2) fun z=>Wt.any _).conv rfl fun b hb=>?_
 have e0:need v .table=5:=rfl
 rw [e0]
 simp only [fj,List.drop_drop,step,bS (show 1 + 2≤5 by decide),bS (show 3 + 2≤5 by decide),Nat.add_zero]
 generalize sub b 1 2=x
 generalize sub b 3 2=y
 by_cases c:v.screen.form.parts=false∧x + y≤256
 ·rw [iu (by simp [c.1,c.2]),if_pos c];rfl
 ·rw [iw (by simpa using c),if_neg c];rfl
theorem t4 (v:Viewer) (i n:Nat):Good v (.colours i n):=fun b=>by
 show seq (entries n) _ b=_
 unfold seq
 rw [rq n b]
 by_cases c:b.length < 6 * n
 ·rw [if_pos c,if_pos (show b.length < need v (.colours i n) from c)];rfl
 ·rw [if_neg c,if_neg (show ¬ b.length < need v (.colours i n) from c)]
  show _=(Res.done _:Res).go v _
  have e0:need v (.colours i n)=6 * n:=rfl
  rw [e0,zI]
  rfl
theorem vz (v:Viewer):Good v .cutLen:=by
 have e:rest v .cutLen=seq (Sn44.num 3) fun _=>seq (Sn44.num 4) fun n=>seq (must 6 (decide (n≤65536))) fun _=>rest v (.cutText n):=by
  show seq (Sn44.num 3) (fun _=>seq (Sn44.text 6) _)=_
  unfold Sn44.text
  simp only [seq_assoc]
  rfl
 unfold Good
 rw [e]
 refine (Wt.num (a:=3) fun x=>Wt.num (a:=4) fun y=>Wt.any _).conv rfl fun b hb=>?_
 have e0:need v .cutLen=7:=rfl
 rw [e0]
 simp only [fj,List.drop_drop,step,bS (show 3 + 4≤7 by decide),Nat.add_zero]
 generalize sub b 3 4=x
 by_cases c:x≤65536
 ·rw [iu (by simpa using c),if_pos c];rfl
 ·rw [iw (by simpa using c),if_neg c];rfl
theorem t5 (v:Viewer) (n:Nat):Good v (.cutText n):=(Wt.part (a:=n) fun x=>Wt.any _).conv rfl fun b hb=>rfl
end Mir
end
section
namespace Mir
open Sn44
theorem zP (v:Viewer):Good v .rect:=by
 have e:rest v .rect=seq (Sn44.num 2) fun x=>seq (Sn44.num 2) fun y=>seq (Sn44.num 2) fun w=>seq (Sn44.num 2) fun h=>seq (Sn44.num 4) fun c=>
   seq (must 7 (inside v.screen.w v.screen.h ⟨x,y,w,h⟩)) fun _=>seq (if c=0 then raw v.screen ⟨x,y,w,h⟩ else if c=1 then copied v.screen ⟨x,y,w,h⟩ else if c=2 then risen 2 v.screen ⟨x,y,w,h⟩ else if c=4 then risen 1 v.screen ⟨x,y,w,h⟩ else if c=5 then tiled (tiles ⟨x,y,w,h⟩) 0 0 v.screen else fail 7) fun s=>give (fin v s):=by
  show seq (Sn44.rect v.screen) _=_
  unfold Sn44.rect
  simp only [seq_assoc]
 unfold Good
 rw [e]
 refine (Wt.num (a:=2) fun x=>Wt.num (a:=2) fun y=>Wt.num (a:=2) fun w=>Wt.num (a:=2) fun h=>Wt.num (a:=4) fun c=>Wt.any _).conv rfl fun b hb=>?_
 have e0:need v .rect=12:=rfl
 rw [e0]
 simp only [fj,List.drop_drop,step,bS (show 0 + 2≤12 by decide),bS (show 2 + 2≤12 by decide),bS (show 4 + 2≤12 by decide),bS (show 6 + 2≤12 by decide),bS (show 8 + 4≤12 by decide),Nat.add_zero]
 show seq (must 7 (inside v.screen.w v.screen.h ⟨sub b 0 2,sub b 2 2,sub b 4 2,sub b 6 2⟩)) _ (b.drop 12)=_
 generalize (⟨sub b 0 2,sub b 2 2,sub b 4 2,sub b 6 2⟩:Rect)=r
 by_cases c:inside v.screen.w v.screen.h r=true
 ·rw [iu c,if_pos c]
  show seq (if sub b 8 4=0 then _ else _:P Screen) _ (b.drop 12)=_
  generalize sub b 8 4=k
  by_cases c0:k=0
  ·rw [if_pos c0,if_pos c0];rfl
  ·rw [if_neg c0,if_neg c0]
   by_cases c1:k=1
   ·rw [if_pos c1,if_pos c1];rfl
   ·rw [if_neg c1,if_neg c1]
    by_cases c2:k=2
    ·rw [if_pos c2,if_pos c2];rfl
    ·rw [if_neg c2,if_neg c2]
     by_cases c4:k=4
     ·rw [if_pos c4,if_pos c4];rfl
     ·rw [if_neg c4,if_neg c4]
      by_cases c5:k=5
      ·rw [if_pos c5,if_pos c5]
       by_cases cz:r.w=0∨r.h≤16 * 0
       ·rw [xj (by omega)]
        unfold cS
        rw [if_pos cz]
        rfl
       ·unfold cS
        rw [if_neg cz,A6 (by have:=lO (r:=r) (j:=0);omega)]
        rfl
      ·rw [if_neg c5,if_neg c5];rfl
 ·rw [iw (by simpa using c),if_neg c];rfl
theorem vA {s:Screen} {t:Rect} {α:Type} (g:Screen→P α):Wt (t.w * t.h * s.form.size) (seq (raw s t) g) (fun b=>g (s.draw t (fS s.form (t.w * t.h) b)) (b.drop (t.w * t.h * s.form.size))):=fun b=>by
 unfold raw seq
 rw [tE s.form (t.w * t.h) b]
 by_cases c:b.length < t.w * t.h * s.form.size
 ·rw [if_pos c,if_pos c];rfl
 ·rw [if_neg c,if_neg c];rfl
theorem vB (v:Viewer) (r:Rect):Good v (.pixels r):=by
 refine (vA (s:=v.screen) (t:=r) fun s=>give (fin v s)).conv rfl fun b hb=>?_
 show _=(Res.done _:Res).go v _
 have e0:need v (.pixels r)=r.w * r.h * v.screen.form.size:=rfl
 rw [e0,tF]
 rfl
theorem vC (v:Viewer) (r:Rect):Good v (.source r):=by
 have e:rest v (.source r)=seq (Sn44.num 2) fun x=>seq (Sn44.num 2) fun y=>seq (must 7 (inside v.screen.w v.screen.h ⟨x,y,r.w,r.h⟩)) fun _=>give (fin v (v.screen.draw r ((placesOf ⟨x,y,r.w,r.h⟩).map fun z=>v.screen.at_ z.1 z.2))):=by
  show seq (copied v.screen r) _=_
  unfold copied
  simp only [seq_assoc,jg]
 unfold Good
 rw [e]
 refine (Wt.num (a:=2) fun x=>Wt.num (a:=2) fun y=>Wt.any _).conv rfl fun b hb=>?_
 have e0:need v (.source r)=4:=rfl
 rw [e0]
 simp only [fj,List.drop_drop,step,bS (show 0 + 2≤4 by decide),bS (show 2 + 2≤4 by decide),Nat.add_zero]
 generalize sub b 0 2=x
 generalize sub b 2 2=y
 by_cases c:inside v.screen.w v.screen.h ⟨x,y,r.w,r.h⟩=true
 ·rw [iu c,if_pos c];rfl
 ·rw [iw (by simpa using c),if_neg c];rfl
theorem og (v:Viewer) (c:Nat) (r:Rect):Good v (.howManyParts c r):=by
 have e:rest v (.howManyParts c r)=seq (Sn44.num 4) fun k=>seq (must 7 (decide (k≤65535))) fun _=>rest v (.ground c r k):=by
  show seq (risen c v.screen r) _=_
  unfold risen
  simp only [seq_assoc]
  show _=seq (Sn44.num 4) fun k=>seq (must 7 (decide (k≤65535))) fun _=>seq (seq (Sn44.pixel v.screen.form) fun p=>parts_ c r k (v.screen.fill r p)) fun s=>give (fin v s)
  simp only [seq_assoc]
 unfold Good
 rw [e]
 refine (Wt.num (a:=4) fun x=>Wt.any _).conv rfl fun b hb=>?_
 show _=(if high (b.take 4)≤65535 then _ else _:Res).go v (b.drop 4)
 by_cases q:high (b.take 4)≤65535
 ·rw [if_pos q,iu (show decide (sub b 0 4≤65535)=true from decide_eq_true q)];rfl
 ·rw [if_neg q,iw (show decide (sub b 0 4≤65535)=false from decide_eq_false q)];rfl
theorem pV {v:Viewer} {c:Nat} {r:Rect} {k:Nat} {s:Screen} (d:Bytes):(dH v c r k s).go v d=seq (parts_ c r k s) (fun s=>give (fin v s)) d:=by
 unfold dH
 cases k with
 | zero=>rfl
 | succ k=>rfl
theorem vD (v:Viewer) (c:Nat) (r:Rect) (k:Nat):Good v (.ground c r k):=by
 have e:rest v (.ground c r k)=seq (Sn44.pixel v.screen.form) fun p=>seq (parts_ c r k (v.screen.fill r p)) fun s=>give (fin v s):=by
  show seq (seq _ _) _=_
  simp only [seq_assoc]
 unfold Good
 rw [e]
 refine (Wt.pixel (f:=v.screen.form) fun x=>Wt.any _).conv rfl fun b hb=>?_
 show _=(dH v c r k (v.screen.fill r (kJ v.screen.form (b.take v.screen.form.size)))).go v (b.drop v.screen.form.size)
 rw [pV]
theorem mm (s:Screen) (r:Rect) (p:Nat):(s.fill r p).form=s.form:=by
 unfold Screen.fill
 generalize placesOf r=l
 induction l generalizing s with
 | nil=>rfl
 | cons z l ih=>exact ih _
theorem zQ (s:Screen) (r:Rect) (l:List Nat):(s.draw r l).form=s.form:=by
 unfold Screen.draw
 generalize (placesOf r).zip l=l
 induction l generalizing s with
 | nil=>rfl
 | cons z l ih=>exact ih _
theorem xl (n:Nat) (r:Rect) (k:Nat) (s:Screen):parts_ n r (k + 1) s=seq (Sn44.pixel s.form) fun p=>seq (Sn44.num n) fun x=>seq (Sn44.num n) fun y=>seq (Sn44.num n) fun w=>seq (Sn44.num n) fun h=>
  seq (must 7 (inside r.w r.h ⟨x,y,w,h⟩)) fun _=>parts_ n r k (s.fill ⟨r.x + x,r.y + y,w,h⟩ p):=rfl
theorem zR (v:Viewer) (c:Nat) (r:Rect) (k:Nat) (s:Screen) (hw:WF v (.part c r k s)):Good v (.part c r k s):=by
 obtain ⟨hk,hf⟩:=hw
 obtain ⟨k,rfl⟩:∃j,k=j + 1:=⟨k - 1,by omega⟩
 have e:rest v (.part c r (k + 1) s)=seq (Sn44.pixel v.screen.form) fun p=>seq (Sn44.num c) fun x=>seq (Sn44.num c) fun y=>seq (Sn44.num c) fun w=>seq (Sn44.num c) fun h=>
   seq (must 7 (inside r.w r.h ⟨x,y,w,h⟩)) fun _=>seq (parts_ c r k (s.fill ⟨r.x + x,r.y + y,w,h⟩ p)) fun s=>give (fin v s):=by
  show seq (parts_ c r (k + 1) s) _=_
  rw [xl,hf]
  simp only [seq_assoc]
 unfold Good
 rw [e]
 refine (Wt.pixel (f:=v.screen.form) fun p=>Wt.num (a:=c) fun x=>Wt.num (a:=c) fun y=>Wt.num (a:=c) fun w=>Wt.num (a:=c) fun h=>Wt.any _).conv (by show v.screen.form.size + 4 * c=_;omega) fun b hb=>?_
 have e0:need v (.part c r (k + 1) s)=v.screen.form.size + 4 * c:=rfl
 rw [e0]
 simp only [fj,List.drop_drop,step,List.take_take,Nat.add_zero]
 rw [bS (by omega),bS (by omega),bS (by omega),bS (by omega),Nat.min_eq_left (by omega)]
 rw [show v.screen.form.size + 2 * c=v.screen.form.size + c + c by omega,show v.screen.form.size + 3 * c=v.screen.form.size + c + c + c by omega,
  show v.screen.form.size + 4 * c=v.screen.form.size + c + c + c + c by omega,show k + 1 - 1=k by omega]
 by_cases q:inside r.w r.h ⟨sub b v.screen.form.size c,sub b (v.screen.form.size + c) c,sub b (v.screen.form.size + c + c) c,sub b (v.screen.form.size + c + c + c) c⟩=true
 ·rw [iu q,if_pos q,pV]
 ·rw [iw (by simpa using q),if_neg q];rfl
theorem xm (t:Rect) (l:List Rect) (back front:Nat) (s:Screen):tiled (t :: l) back front s=seq (tile t back front s) fun x=>tiled l x.2.1 x.2.2 x.1:=rfl
theorem zS (v:Viewer) (r:Rect) (i j back front:Nat) (s:Screen) (hw:WF v (.tile r i j back front s)):Good v (.tile r i j back front s):=by
 obtain ⟨hi,hj,hf⟩:=hw
 have e:rest v (.tile r i j back front s)=seq (Sn44.num 1) fun k=>if k % 2=1 then rest v (.tilePixels r i j back front s) else rest v (.tileColours r i j back front k s):=by
  show seq (tiled (cV r i j) back front s) _=_
  rw [tW hi,xm]
  unfold Sn44.tile
  rw [seq_assoc,seq_assoc]
  congr 1
  funext k
  by_cases c:k % 2=1
  ·rw [if_pos c,if_pos c]
   rw [← seq_assoc]
   rfl
  ·rw [if_neg c,if_neg c]
   rw [← seq_assoc]
   rfl
 unfold Good
 rw [e]
 refine (Wt.num (a:=1) fun x=>Wt.any _).conv rfl fun b hb=>?_
 show _=(if high (b.take 1) % 2=1 then _ else _:Res).go v (b.drop 1)
 by_cases c:high (b.take 1) % 2=1
 ·rw [if_pos c,if_pos (show sub b 0 1 % 2=1 from c)];rfl
 ·rw [if_neg c,if_neg (show ¬ sub b 0 1 % 2=1 from c)];rfl
theorem qk (v:Viewer) (r:Rect) (i j back front:Nat) (s:Screen) (hw:WF v (.tilePixels r i j back front s)):Good v (.tilePixels r i j back front s):=by
 obtain ⟨hi,hj,hf⟩:=hw
 have e:rest v (.tilePixels r i j back front s)=seq (raw s (ax r i j)) fun s=>seq (tiled (cV r i j).tail back front s) fun s=>give (fin v s):=by
  show seq (seq (seq _ _) _) _=_
  simp only [seq_assoc,jg]
 unfold Good
 rw [e]
 refine (vA (s:=s) (t:=ax r i j) _).conv (by rw [hf];rfl) fun b hb=>?_
 have e0:need v (.tilePixels r i j back front s)=(ax r i j).w * (ax r i j).h * v.screen.form.size:=rfl
 rw [e0,hf]
 show _=(cW v r i j back front (s.draw (ax r i j) (fS v.screen.form _ _))).go v _
 rw [oe _ hi hj,tF]
theorem vE (c:Bool) (front:Nat) (t:Rect) (k:Nat) (s:Screen):smalls c front t (k + 1) s=seq (if c=true then Sn44.pixel s.form else give front) fun p=>seq (Sn44.num 1) fun a=>seq (Sn44.num 1) fun b=>
  seq (must 7 (inside t.w t.h ⟨a / 16,a % 16,b / 16 + 1,b % 16 + 1⟩)) fun _=>smalls c front t k (s.fill ⟨t.x + a / 16,t.y + a % 16,b / 16 + 1,b % 16 + 1⟩ p):=rfl
theorem oh {v:Viewer} {r:Rect} {i j back front b n:Nat} {s:Screen} (d:Bytes) (hi:i < nC r) (hj:j < nR r):(cI v r i j back front b n s).go v d=seq (smalls (bit b 16 == 1) front (ax r i j) n s) (fun s=>seq (tiled (cV r i j).tail back front s) fun s=>give (fin v s)) d:=by
 unfold cI
 cases n with
 | zero=>
  rw [if_pos rfl,oe _ hi hj]
  rfl
 | succ n=>
  rw [if_neg (by omega)]
  show seq (seq (seq _ _) _) _ d=_
  simp only [seq_assoc,jg]
theorem Wt.rA {α:Type} {f:Form} {q:Prop} [Decidable q] {back:Nat} {c:Nat} {g:Nat→P α} {k:Nat→Bytes→Got α} (h:∀x,Wt c (g x) (k x)) :
  Wt ((if q then f.size else 0) + c) (seq (if q then Sn44.pixel f else give back) g) (fun b=>k (if q then kJ f (b.take f.size) else back) (b.drop (if q then f.size else 0))):=by
 by_cases e:q
 ·simp only [if_pos e]
  exact Wt.pixel h
 ·simp only [if_neg e]
  refine (h back).conv (by omega) fun b hb=>by rw [List.drop_zero]
theorem sv (v:Viewer) (r:Rect) (i j back front b n:Nat) (s:Screen) (hw:WF v (.tilePart r i j back front b n s)):Good v (.tilePart r i j back front b n s):=by
 obtain ⟨hi,hj,hf,hn⟩:=hw
 obtain ⟨n,rfl⟩:∃j,n=j + 1:=⟨n - 1,by omega⟩
 have e:rest v (.tilePart r i j back front b (n + 1) s)=seq (if bit b 16=1 then Sn44.pixel v.screen.form else give front) fun p=>seq (Sn44.num 1) fun x=>seq (Sn44.num 1) fun y=>
   seq (must 7 (inside (ax r i j).w (ax r i j).h ⟨x / 16,x % 16,y / 16 + 1,y % 16 + 1⟩)) fun _=>
    seq (smalls (bit b 16 == 1) front (ax r i j) n (s.fill ⟨(ax r i j).x + x / 16,(ax r i j).y + x % 16,y / 16 + 1,y % 16 + 1⟩ p)) fun s=>seq (tiled (cV r i j).tail back front s) fun s=>give (fin v s):=by
  show seq (seq (seq (smalls (bit b 16 == 1) front (ax r i j) (n + 1) s) _) _) _=_
  rw [vE,hf]
  simp only [seq_assoc,jg,beq_iff_eq]
 unfold Good
 rw [e]
 refine (Wt.rA (f:=v.screen.form) fun p=>Wt.num (a:=1) fun x=>Wt.num (a:=1) fun y=>Wt.any _).conv rfl fun d hd=>?_
 have e0:need v (.tilePart r i j back front b (n + 1) s)=(if bit b 16=1 then v.screen.form.size else 0) + 2:=rfl
 rw [e0]
 simp only [fj,List.drop_drop,step,Nat.add_zero]
 generalize ha:(if bit b 16=1 then v.screen.form.size else 0)=a
 rw [bS (by omega),bS (by omega),show n + 1 - 1=n by omega]
 have ep:(if bit b 16=1 then kJ v.screen.form ((d.take (a + 2)).take v.screen.form.size) else front)=if bit b 16=1 then kJ v.screen.form (d.take v.screen.form.size) else front:=by
  by_cases c:bit b 16=1
  ·rw [if_pos c,if_pos c]
   rw [if_pos c] at ha
   rw [List.take_take,Nat.min_eq_left (by omega)]
  ·rw [if_neg c,if_neg c]
 rw [ep]
 generalize (if bit b 16=1 then kJ v.screen.form (d.take v.screen.form.size) else front)=p
 by_cases q:inside (ax r i j).w (ax r i j).h ⟨sub d a 1 / 16,sub d a 1 % 16,sub d (a + 1) 1 / 16 + 1,sub d (a + 1) 1 % 16 + 1⟩=true
 ·rw [iu q,if_pos q,oh _ hi hj]
 ·rw [iw (by simpa using q),if_neg q];rfl
theorem pD (v:Viewer) (r:Rect) (i j back front b:Nat) (s:Screen) (hw:WF v (.tileColours r i j back front b s)):Good v (.tileColours r i j back front b s):=by
 obtain ⟨hi,hj,hf⟩:=hw
 have hb8:bit b 8=0∨bit b 8=1:=by unfold bit;omega
 have e:rest v (.tileColours r i j back front b s)=seq (if bit b 2=1 then Sn44.pixel v.screen.form else give back) fun back=>seq (if bit b 4=1 then Sn44.pixel v.screen.form else give front) fun front=>
   seq (if bit b 8=1 then Sn44.num 1 else give 0) fun n=>seq (smalls (bit b 16 == 1) front (ax r i j) n (s.fill (ax r i j) back)) fun s=>seq (tiled (cV r i j).tail back front s) fun s=>give (fin v s):=by
  show seq (seq (seq _ _) _) _=_
  rw [hf]
  simp only [seq_assoc]
  congr 1
  funext back
  congr 1
  funext front
  rcases hb8 with h | h
  ·rw [if_pos h,if_neg (by omega)]
   rfl
  ·rw [if_neg (by omega),if_pos h]
   simp only [seq_assoc,jg]
 unfold Good
 rw [e]
 have wn:∀{g:Nat→P Viewer},Wt ((if bit b 8=1 then 1 else 0) + 0) (seq (if bit b 8=1 then Sn44.num 1 else give 0) g) (fun d=>g (if bit b 8=1 then sub d 0 1 else 0) (d.drop (if bit b 8=1 then 1 else 0))):=by
  intro g
  by_cases c:bit b 8=1
  ·simp only [if_pos c]
   exact Wt.num fun x=>Wt.any _
  ·simp only [if_neg c]
   exact (Wt.any _).conv rfl fun d hd=>by rw [List.drop_zero];rfl
 refine (Wt.rA (f:=v.screen.form) fun back=>Wt.rA (f:=v.screen.form) fun front=>wn).conv (by show _ + _ + _=_;omega) fun d hd=>?_
 have e0:need v (.tileColours r i j back front b s)=(if bit b 2=1 then v.screen.form.size else 0) + (if bit b 4=1 then v.screen.form.size else 0) + (if bit b 8=1 then 1 else 0):=rfl
 rw [e0]
 simp only [fj,List.drop_drop,step,Nat.add_zero]
 generalize ha:(if bit b 2=1 then v.screen.form.size else 0)=a
 generalize hc:(if bit b 4=1 then v.screen.form.size else 0)=c
 generalize hx:(if bit b 8=1 then 1 else 0)=x
 have e1:(if bit b 2=1 then kJ v.screen.form ((d.take (a + c + x)).take v.screen.form.size) else back)=if bit b 2=1 then kJ v.screen.form (d.take v.screen.form.size) else back:=by
  by_cases q:bit b 2=1
  ·rw [if_pos q,if_pos q]
   rw [if_pos q] at ha
   rw [List.take_take,Nat.min_eq_left (by omega)]
  ·rw [if_neg q,if_neg q]
 have e2:(if bit b 4=1 then kJ v.screen.form (((d.take (a + c + x)).drop a).take v.screen.form.size) else front)=if bit b 4=1 then kJ v.screen.form ((d.drop a).take v.screen.form.size) else front:=by
  by_cases q:bit b 4=1
  ·rw [if_pos q,if_pos q]
   rw [if_pos q] at hc
   rw [List.drop_take,List.take_take,Nat.min_eq_left (by omega)]
  ·rw [if_neg q,if_neg q]
 have e3:(if bit b 8=1 then sub (d.take (a + c + x)) (a + c) 1 else 0)=if bit b 8=1 then sub d (a + c) 1 else 0:=by
  by_cases q:bit b 8=1
  ·rw [if_pos q,if_pos q]
   rw [if_pos q] at hx
   rw [bS (by omega)]
  ·rw [if_neg q,if_neg q]
 rw [e1,e2,e3,oh _ hi hj]
theorem good (v:Viewer):∀m,WF v m→Good v m
 | .version,_=>tX v | .howMany,_=>tY v | .ways n,_=>zK v n | .number,_=>vx v | .size,_=>zL v
 | .form w h,_=>zM v w h | .nameLen w h f,_=>tZ v w h f | .name w h f n,_=>zN v w h f n | .kind,_=>zO v | .update,_=>vy v
 | .table,_=>xk v | .colours i n,_=>t4 v i n | .cutLen,_=>vz v | .cutText n,_=>t5 v n | .rect,_=>zP v
 | .pixels r,_=>vB v r | .source r,_=>vC v r | .howManyParts c r,_=>og v c r | .ground c r k,_=>vD v c r k | .part c r k s,h=>zR v c r k s h
 | .tile r i j b f s,h=>zS v r i j b f s h | .tilePixels r i j b f s,h=>qk v r i j b f s h | .tileColours r i j b f k s,h=>pD v r i j b f k s h
 | .tilePart r i j b f k n s,h=>sv v r i j b f k n s h
end Mir
end
section
namespace Mir
open Sn44
theorem lP {v:Viewer} {r:Rect} {i j back front:Nat} {s:Screen} {m:Mode} (h:cS v r i j back front s=.cont m) (hi:r.w=0∨i < nC r) (hs:s.form=v.screen.form):WF v m:=by
 unfold cS at h
 split at h
 ·cases h
 ·rename_i c
  cases h
  refine ⟨?_,?_,hs⟩
  ·rcases hi with hi | hi
   ·exact absurd (.inl hi) c
   ·exact hi
  ·exact lO.mp (by omega)
theorem om {v:Viewer} {r:Rect} {i j back front:Nat} {s:Screen} {m:Mode} (h:cW v r i j back front s=.cont m) (hi:i < nC r) (hs:s.form=v.screen.form):WF v m:=by
 unfold cW at h
 split at h
 ·rename_i c
  exact lP h (.inr (jh.mp c)) hs
 ·exact lP h (.inr (by omega)) hs
theorem oo {v:Viewer} {r:Rect} {i j back front b n:Nat} {s:Screen} {m:Mode} (h:cI v r i j back front b n s=.cont m) (hi:i < nC r) (hj:j < nR r) (hs:s.form=v.screen.form):WF v m:=by
 unfold cI at h
 split at h
 ·exact om h hi hs
 ·cases h
  exact ⟨hi,hj,hs,by omega⟩
theorem pW {v:Viewer} {c:Nat} {r:Rect} {k:Nat} {s:Screen} {m:Mode} (h:dH v c r k s=.cont m) (hs:s.form=v.screen.form):WF v m:=by
 unfold dH at h
 split at h
 ·cases h
 ·cases h
  exact ⟨by omega,hs⟩
theorem B5 {v:Viewer} {m m':Mode} {w:Bytes} (hw:WF v m) (h:step v m w=.cont m'):WF v m':=by
 cases m <;> simp only [step] at h
 case version=>split at h <;> cases h
 case howMany=>split at h <;> cases h;trivial
 case ways=>split at h <;> cases h
 case number=>split at h <;> cases h
 case size=>split at h <;> cases h;trivial
 case form=>split at h <;> cases h;trivial
 case nameLen=>split at h <;> cases h;trivial
 case name=>cases h
 case kind=>(repeat' split at h) <;> cases h <;> trivial
 case update=>cases h
 case table=>split at h <;> cases h;trivial
 case colours=>cases h
 case cutLen=>split at h <;> cases h;trivial
 case cutText=>cases h
 case rect=>
  split at h
  ·(repeat' split at h)
   ·cases h;trivial
   ·cases h;trivial
   ·cases h;trivial
   ·cases h;trivial
   ·refine lP h ?_ rfl
    by_cases c:sub w 4 2=0
    ·exact .inl c
    ·exact .inr (jh.mp (show 16 * 0 < sub w 4 2 by omega))
   ·cases h
  ·cases h
 case pixels=>cases h
 case source=>split at h <;> cases h
 case howManyParts=>split at h <;> cases h;trivial
 case ground=>exact pW h (mm _ _ _)
 case part=>
  split at h
  ·exact pW h ((mm _ _ _).trans hw.2)
  ·cases h
 case tile=>split at h <;> cases h <;> exact hw
 case tilePixels=>exact om h hw.1 ((zQ _ _ _).trans hw.2.2)
 case tileColours=>exact oo h hw.1 hw.2.1 ((mm _ _ _).trans hw.2.2)
 case tilePart=>
  (repeat' split at h) <;> first | (cases h;done) | exact oo h hw.1 hw.2.1 ((mm _ _ _).trans hw.2.2.1)
abbrev yy (v:Viewer) (i:Bytes):Viewer:={ v with input:=i }
abbrev io (v:Viewer) (i o:Bytes):Viewer:={ v with input:=i,out:=o }
theorem A7 (v:Viewer) (i:Bytes) (m:Mode):need (yy v i) m=need v m:=by cases m <;> rfl
theorem ow (v:Viewer) (i o:Bytes) (m:Mode):need (io v i o) m=need v m:=by cases m <;> rfl
theorem CO (v:Viewer) (i o:Bytes) (m:Mode):WF (io v i o) m ↔ WF v m:=by cases m <;> exact Iff.rfl
theorem lQ {v u:Viewer} {r:Rect} {a b c d:Nat} {s:Screen} {m:Mode} (h:cS v r a b c d s=.cont m):cS u r a b c d s=.cont m:=by
 unfold cS at h ⊢
 split at h
 ·cases h
 ·rename_i q
  rw [if_neg q]
  exact h
theorem oy {v u:Viewer} {r:Rect} {a b c d:Nat} {s:Screen} {m:Mode} (h:cW v r a b c d s=.cont m):cW u r a b c d s=.cont m:=by
 unfold cW at h ⊢
 split at h
 ·rename_i q
  rw [if_pos q]
  exact lQ h
 ·rename_i q
  rw [if_neg q]
  exact lQ h
theorem oz {v u:Viewer} {r:Rect} {a b c d e n:Nat} {s:Screen} {m:Mode} (h:cI v r a b c d e n s=.cont m):cI u r a b c d e n s=.cont m:=by
 unfold cI at h ⊢
 split at h
 ·rename_i q
  rw [if_pos q]
  exact oy h
 ·rename_i q
  rw [if_neg q]
  exact h
theorem pX {v u:Viewer} {c:Nat} {r:Rect} {k:Nat} {s:Screen} {m:Mode} (h:dH v c r k s=.cont m):dH u c r k s=.cont m:=by
 unfold dH at h ⊢
 split at h
 ·cases h
 ·rename_i q
  rw [if_neg q]
  exact h
theorem bT {c:Prop} [Decidable c] {a b a' b':Res} {m:Mode} (h:(if c then a else b)=.cont m) (h1:a=.cont m→a'=.cont m) (h2:b=.cont m→b'=.cont m):(if c then a' else b')=.cont m:=by
 by_cases q:c
 ·rw [if_pos q] at h ⊢;exact h1 h
 ·rw [if_neg q] at h ⊢;exact h2 h
theorem B6 {v:Viewer} {i o:Bytes} {m m':Mode} {w:Bytes} (h:step v m w=.cont m'):step (io v i o) m w=.cont m':=by
 cases m
 case version=>exact bT h (fun q=>nomatch q) (fun q=>nomatch q)
 case howMany=>exact bT h (fun q=>nomatch q) (fun q=>q)
 case ways=>exact bT h (fun q=>nomatch q) (fun q=>nomatch q)
 case number=>exact bT h (fun q=>nomatch q) (fun q=>nomatch q)
 case size=>exact bT h (fun q=>q) (fun q=>q)
 case form=>exact bT h (fun q=>q) (fun q=>q)
 case nameLen=>exact bT h (fun q=>q) (fun q=>q)
 case name=>exact nomatch h
 case kind=>exact bT h (fun q=>q) (fun h=>bT h (fun q=>q) (fun h=>bT h (fun q=>nomatch q) (fun q=>q)))
 case update=>exact nomatch h
 case table=>exact bT h (fun q=>q) (fun q=>q)
 case colours=>exact nomatch h
 case cutLen=>exact bT h (fun q=>q) (fun q=>q)
 case cutText=>exact nomatch h
 case rect=>exact bT h (fun h=>bT h (fun q=>q) (fun h=>bT h (fun q=>q) (fun h=>bT h (fun q=>q) (fun h=>bT h (fun q=>q) (fun h=>bT h lQ (fun q=>q)))))) (fun q=>q)
 case pixels=>exact nomatch h
 case source=>exact bT h (fun q=>nomatch q) (fun q=>q)
 case howManyParts=>exact bT h (fun q=>q) (fun q=>q)
 case ground=>exact pX h
 case part=>exact bT h pX (fun q=>q)
 case tile=>exact bT h (fun q=>q) (fun q=>q)
 case tilePixels=>exact oy h
 case tileColours=>exact oz h
 case tilePart=>exact bT h oz (fun q=>q)
def dJ:Stage→Bool
 | .wrong _=>true
 | _=>false
def aY (v:Viewer):Mode:=match v.stage with
 | .version=>.version
 | .ways=>.howMany
 | .answer=>.number
 | .first=>.size
 | _=>if 0 < v.left then .rect else .kind
theorem A8 (v:Viewer):WF v (aY v):=by
 unfold aY
 cases v.stage <;> (try trivial) <;> (show WF v (if _ then _ else _)) <;> split <;> trivial
theorem sx (v:Viewer) (h:dJ v.stage=false) (b:Bytes):message v b=rest v (aY v) b:=by
 obtain ⟨st,i,o,sc,nm,lf,bl,up,ct⟩:=v
 cases st with
 | version=>rfl
 | ways=>rfl
 | answer=>rfl
 | first=>rfl
 | runs=>
  by_cases c:0 < lf
  ·simp only [message,aY,if_pos c]
   rfl
  ·simp only [message,aY,if_neg c]
   rfl
 | wrong k=>cases h
def Reach (v:Viewer) (m:Mode) (c:Bytes):Prop:=WF v m∧(c=[]→0 < need v m)∧∀(i o b:Bytes),message (io v i o) (c++b)=rest (io v i o) m b
theorem rB (v:Viewer):0 < need v (aY v):=by
 have k:0 < need v (if 0 < v.left then Mode.rect else Mode.kind):=by
  split
  ·exact (by decide:0 < 12)
  ·exact (by decide:0 < 1)
 unfold aY
 cases v.stage with
 | version=>exact (by decide:0 < 12)
 | ways=>exact (by decide:0 < 1)
 | answer=>exact (by decide:0 < 4)
 | first=>exact (by decide:0 < 4)
 | runs=>exact k
 | wrong _=>exact k
theorem Reach.start {v:Viewer} (h:dJ v.stage=false):Reach v (aY v) []:=⟨A8 v,fun _=>rB v,fun i o b=>sx (io v i o) h b⟩
theorem Reach.cont {v:Viewer} {m m':Mode} {c w:Bytes} (R:Reach v m c) (hl:w.length=need v m) (h:step v m w=.cont m'):Reach v m' (c++w):=by
 refine ⟨B5 R.1 h,fun e=>?_,fun i o b=>?_⟩
 ·obtain ⟨e1,e2⟩:=List.append_eq_nil_iff.mp e
  have:=R.2.1 e1
  rw [e2] at hl
  simp at hl
  omega
 ·have g:=good (io v i o) m ((CO v i o m).mpr R.1) (w++b)
  rw [ow,if_neg (by rw [List.length_append];omega)] at g
  rw [List.append_assoc,R.2.2 i o (w++b),g]
  show (step (io v i o) m ((w++b).take (need v m))).go (io v i o) ((w++b).drop (need v m))=_
  rw [← hl,List.take_left,List.drop_left,B6 h]
  rfl
theorem Reach.io {v:Viewer} {m:Mode} {c:Bytes} (R:Reach v m c) (i o:Bytes):Reach (Mir.io v i o) m c:=⟨(CO v i o m).mpr R.1,fun e=>by rw [ow];exact R.2.1 e,fun j p b=>R.2.2 j p b⟩
theorem Reach.yy {v:Viewer} {m:Mode} {c:Bytes} (R:Reach v m c) (i:Bytes):Reach (Mir.yy v i) m c:=R.io i v.out
structure iz (v:Viewer) (m:Mode) (b:Bytes) (n:Nat) (goal:Viewer):Prop where
 reach:∃c,v.input=c++b∧Reach v m c
 run:dJ v.stage=false
 fuel:v.input.length < n
 eq:taken n v=goal
theorem rC (n:Nat) (v:Viewer):taken (n + 1) v=match v.stage with
  | .wrong _=>{ v with input:=[] }
  | _=>match message v v.input with
   | .more=>v
   | .bad k=>{ v with stage:=.wrong k,input:=[] }
   | .ok u r=>if r.length < v.input.length then taken n { u with input:=r } else v:=rfl
theorem pE {v:Viewer} {n:Nat} (hs:dJ v.stage=false):taken (n + 1) v=match message v v.input with
   | .more=>v
   | .bad k=>{ v with stage:=.wrong k,input:=[] }
   | .ok u r=>if r.length < v.input.length then taken n { u with input:=r } else v:=by
 rw [rC]
 cases e:v.stage <;> (try rfl)
 rw [e] at hs
 cases hs
theorem xn {v:Viewer} {n:Nat} (hs:dJ v.stage=false) (h:message v v.input=.more):taken (n + 1) v=v:=by rw [pE hs,h]
theorem zT {v:Viewer} {n k:Nat} (hs:dJ v.stage=false) (h:message v v.input=.bad k):taken (n + 1) v={ v with stage:=.wrong k,input:=[] }:=by rw [pE hs,h]
theorem oA {v u:Viewer} {n:Nat} {r:Bytes} (hs:dJ v.stage=false) (h:message v v.input=.ok u r) (hr:r.length < v.input.length):taken (n + 1) v=taken n { u with input:=r }:=by
 rw [pE hs,h]
 exact if_pos hr
theorem B7 (v:Viewer):io v v.input v.out=v:=rfl
theorem iz.msg {v:Viewer} {m:Mode} {b:Bytes} {n:Nat} {goal:Viewer} (G:iz v m b n goal):message v v.input=if b.length < need v m then .more else (step v m (b.take (need v m))).go v (b.drop (need v m)):=by
 obtain ⟨c,e,R⟩:=G.reach
 have h:=R.2.2 v.input v.out b
 rw [B7] at h
 rw [e,h]
 exact good v m R.1 b
theorem iz.more {v:Viewer} {m:Mode} {b:Bytes} {n:Nat} {goal:Viewer} (G:iz v m b n goal) (h:b.length < need v m):goal=v:=by
 have e:=G.msg
 rw [if_pos h] at e
 obtain ⟨n,rfl⟩:∃k,n=k + 1:=⟨n - 1,by have:=G.fuel;omega⟩
 rw [← G.eq,xn G.run e]
theorem iz.cont {v:Viewer} {m m':Mode} {b:Bytes} {n:Nat} {goal:Viewer} (G:iz v m b n goal) (h:need v m≤b.length) (hs:step v m (b.take (need v m))=.cont m'):iz v m' (b.drop (need v m)) n goal:=by
 obtain ⟨c,e,R⟩:=G.reach
 refine ⟨⟨c++b.take (need v m),?_,R.cont (by rw [List.length_take];omega) hs⟩,G.run,G.fuel,G.eq⟩
 rw [e,List.append_assoc,List.take_append_drop]
theorem iz.bad {v:Viewer} {m:Mode} {b:Bytes} {n k:Nat} {goal:Viewer} (G:iz v m b n goal) (h:need v m≤b.length) (hs:step v m (b.take (need v m))=.bad k):goal={ v with stage:=.wrong k,input:=[] }:=by
 have e:=G.msg
 rw [if_neg (by omega),hs] at e
 obtain ⟨n,rfl⟩:∃k,n=k + 1:=⟨n - 1,by have:=G.fuel;omega⟩
 rw [← G.eq,zT G.run e]
theorem iz.done {v u:Viewer} {m:Mode} {b:Bytes} {n:Nat} {goal:Viewer} (G:iz v m b n goal) (h:need v m≤b.length) (hs:step v m (b.take (need v m))=.done u) (hu:dJ u.stage=false) :
  ∃n',iz { u with input:=b.drop (need v m) } (aY u) (b.drop (need v m)) n' goal:=by
 have e:=G.msg
 rw [if_neg (by omega),hs] at e
 obtain ⟨c,ec,R⟩:=G.reach
 have hpos:(b.drop (need v m)).length < v.input.length:=by
  rw [ec,List.length_append,List.length_drop]
  by_cases q:c=[]
  ·have:=R.2.1 q
   omega
  ·have:0 < c.length:=List.length_pos_iff.mpr q
   omega
 obtain ⟨n,rfl⟩:∃k,n=k + 1:=⟨n - 1,by have:=G.fuel;omega⟩
 refine ⟨n,⟨[],rfl,?_⟩,hu,?_,?_⟩
 ·exact (Reach.start (v:=u) hu).yy _
 ·have:=G.fuel
  show (b.drop (need v m)).length < n
  omega
 ·rw [← G.eq,oA G.run e hpos]
structure mQ (v:Viewer) (m:Mode) (b:Bytes):Prop where
 reach:∃c,v.input=c++b∧Reach v m c
 run:dJ v.stage=false
 less:b.length < need v m
theorem mQ.out {v:Viewer} {m:Mode} {b:Bytes} (W:mQ v m b) (o:Bytes):mQ { v with out:=o } m b:=by
 obtain ⟨c,e,R⟩:=W.reach
 exact ⟨⟨c,e,R.io v.input o⟩,W.run,by rw [show need { v with out:=o } m=need v m from ow v v.input o m];exact W.less⟩
theorem mQ.come {v:Viewer} {m:Mode} {b:Bytes} (W:mQ v m b) (d:Bytes):iz (yy v (v.input++d)) m (b++d) (v.input.length + d.length + 2) (come v d):=by
 obtain ⟨c,e,R⟩:=W.reach
 refine ⟨⟨c,?_,R.yy _⟩,W.run,?_,rfl⟩
 ·show v.input++d=_
  rw [e,List.append_assoc]
 ·show (v.input++d).length < _
  rw [List.length_append]
  omega
theorem iz.EZ {v:Viewer} {m:Mode} {b:Bytes} {n:Nat} {goal:Viewer} (G:iz v m b n goal) (h:b.length < need v m):goal=v∧mQ v m b:=⟨G.more h,G.reach,G.run,h⟩
theorem xo {v:Viewer} (h:dJ v.stage=true) (d:Bytes):come v d={ v with input:=[] }:=by
 unfold come
 rw [rC]
 cases e:v.stage <;> simp only
 all_goals (rw [e] at h;cases h)
theorem mQ.begun:mQ begun .version []:=⟨⟨[],rfl,Reach.start (v:=Sn44.begun) rfl⟩,rfl,by decide⟩
theorem zU {v:Viewer} {m m':Mode} {w:Bytes} (hw:WF v m) (hf:0 < v.screen.form.size) (h0:need v m=0) (h:step v m w=.cont m'):0 < need v m':=by
 cases m <;> simp only [step] at h <;> (try (simp only [need] at h0;omega))
 case ways=>split at h <;> cases h
 case name=>cases h
 case colours=>cases h
 case cutText=>cases h
 case pixels=>cases h
 case tilePixels r i j _ _ _=>
  obtain ⟨hi,hj,_⟩:=hw
  have a:0 < (ax r i j).w:=by have:=jh.mpr hi;show 0 < min 16 (r.w - 16 * i);omega
  have b:0 < (ax r i j).h:=by have:=lO.mpr hj;show 0 < min 16 (r.h - 16 * j);omega
  have c:=Nat.mul_pos (Nat.mul_pos a b) hf
  have e:(ax r i j).w * (ax r i j).h * v.screen.form.size=0:=h0
  omega
 case tileColours r i j bk fr bits s=>
  simp only [need] at h0
  have h8:¬ bit bits 8=1:=fun q=>by rw [if_pos q] at h0;omega
  rw [if_neg h8] at h
  unfold cI at h
  rw [if_pos rfl] at h
  unfold cW cS at h
  (repeat' split at h) <;> first | (cases h;done) | (cases h;exact Nat.one_pos)
end Mir
end
section
namespace Mir
open Sn44
def bM (row:List Nat) (left:Nat) (stripe:List Nat):List Nat:=row.take left++(stripe++row.drop (left + stripe.length))
def aC (P:List (List Nat)) (left:Nat):Nat→List (List Nat)→List (List Nat)
 | _,[]=>P
 | top,x :: xs=>aC (P.set top (bM (P.getD top []) left x)) left (top + 1) xs
def eO (w h p:Nat):List (List Nat):=List.replicate h (List.replicate w p)
structure Rows (w h:Nat) (P:List (List Nat)):Prop where
 len:P.length=h
 row:∀x∈P,x.length=w
theorem lR {row stripe:List Nat} {left:Nat} (h:left + stripe.length≤row.length):(bM row left stripe).length=row.length:=by
 unfold bM
 rw [List.length_append,List.length_append,List.length_take,List.length_drop]
 omega
theorem vF (row:List Nat) (left:Nat):bM row left []=row:=by
 unfold bM
 simp
theorem vG {row stripe:List Nat} (h:stripe.length=row.length):bM row 0 stripe=stripe:=by
 unfold bM
 simp [h]
theorem tk:∀(A B:List Nat) {n:Nat} (i:Nat),A.length=n→(A++B).take (n + i)=A++B.take i
 | [],B,_,i,rfl=>by rw [List.length_nil,Nat.zero_add];rfl
 | a :: A,B,_,i,rfl=>by
  rw [List.length_cons,Nat.succ_add]
  exact congrArg (a :: ·) (tk A B i rfl)
theorem dr:∀(A B:List Nat) {n:Nat} (i:Nat),A.length=n→(A++B).drop (n + i)=B.drop i
 | [],B,_,i,rfl=>by rw [List.length_nil,Nat.zero_add];rfl
 | a :: A,B,_,i,rfl=>by
  rw [List.length_cons,Nat.succ_add]
  exact dr A B i rfl
theorem FA {l:List Nat} {n:Nat} (h:n≤l.length):(l.take n).length=n:=by rw [List.length_take,Nat.min_eq_left h]
theorem xp {row pic sub:List Nat} {X a:Nat} (h1:X + pic.length≤row.length) (h2:a + sub.length≤pic.length):bM (bM row X pic) (X + a) sub=bM row X (bM pic a sub):=by
 have eA:=FA (l:=row) (n:=X) (by omega)
 have el:=lR h2
 unfold bM at el ⊢
 rw [el,Nat.add_assoc,tk _ _ _ eA,dr _ _ _ eA]
 have eP:=FA (l:=pic) (n:=a) (by omega)
 have e1:(pic++row.drop (X + pic.length)).take a=pic.take a:=List.take_append_of_le_length (by omega)
 have e2:(pic++row.drop (X + pic.length)).drop (a + sub.length)=pic.drop (a + sub.length)++row.drop (X + pic.length):=List.drop_append_of_le_length h2
 rw [e1,e2]
 simp only [List.append_assoc]
theorem t7 {row p t:List Nat} {X:Nat} (h1:X + (p.length + t.length)≤row.length):bM (bM row X p) (X + p.length) t=bM row X (p++t):=by
 have eA:=FA (l:=row) (n:=X) (by omega)
 unfold bM
 rw [Nat.add_assoc,tk _ _ _ eA,dr _ _ _ eA,List.length_append,List.take_left,dr _ _ _ rfl,List.drop_drop]
 simp only [List.append_assoc,Nat.add_assoc]
theorem bw (left:Nat):∀(xs:List (List Nat)) (P:List (List Nat)) (top:Nat),(aC P left top xs).length=P.length
 | [],P,top=>rfl
 | x :: xs,P,top=>by
  unfold aC
  rw [bw left xs,List.length_set]
theorem bW (left:Nat):∀(xs:List (List Nat)) (P:List (List Nat)) (top y:Nat),top + xs.length≤P.length→
  (aC P left top xs).getD y []=if top≤y∧y < top + xs.length then bM (P.getD y []) left (xs.getD (y - top) []) else P.getD y []
 | [],P,top,y,h=>by
  unfold aC
  rw [if_neg (by simp)]
 | x :: xs,P,top,y,h=>by
  simp only [List.length_cons] at h
  unfold aC
  rw [bW left xs _ (top + 1) y (by rw [List.length_set];omega)]
  have g:∀z,(P.set top (bM (P.getD top []) left x)).getD z []=if z=top then bM (P.getD top []) left x else P.getD z []:=by
   intro z
   rw [List.getD_eq_getElem?_getD,List.getElem?_set]
   by_cases c:z=top
   ·subst c
    rw [if_pos rfl,if_pos (by omega),if_pos rfl]
    rfl
   ·rw [if_neg (fun q=>c q.symm),if_neg c,List.getD_eq_getElem?_getD]
  simp only [g,List.length_cons]
  by_cases c:y=top
  ·subst c
   rw [if_neg (by omega),if_pos rfl,if_pos (by omega)]
   simp
  ·rw [if_neg c]
   by_cases c2:top + 1≤y∧y < top + 1 + xs.length
   ·rw [if_pos c2,if_pos (by omega)]
    congr 1
    rw [show y - top=(y - (top + 1)) + 1 by omega]
    rfl
   ·rw [if_neg c2,if_neg (by omega)]
theorem lS {P Q:List (List Nat)} (hl:P.length=Q.length) (h:∀y,y < P.length→P.getD y []=Q.getD y []):P=Q:=by
 apply List.ext_getElem hl
 intro y h1 h2
 have:=h y h1
 rw [List.getD_eq_getElem?_getD,List.getD_eq_getElem?_getD,List.getElem?_eq_getElem h1,List.getElem?_eq_getElem h2] at this
 exact this
theorem getD_mem {P:List (List Nat)} {y:Nat} (h:y < P.length):P.getD y []∈P:=by
 rw [List.getD_eq_getElem?_getD,List.getElem?_eq_getElem h]
 exact List.getElem_mem h
theorem mem_getD {P:List (List Nat)} {x:List Nat} (h:x∈P):∃y,y < P.length∧P.getD y []=x:=by
 obtain ⟨y,hy,e⟩:=List.getElem_of_mem h
 exact ⟨y,hy,by rw [List.getD_eq_getElem?_getD,List.getElem?_eq_getElem hy];exact e⟩
theorem Rows.rD {w h left top:Nat} {P xs:List (List Nat)} (R:Rows w h P) (hx:∀x∈xs,left + x.length≤w) (ht:top + xs.length≤h):Rows w h (aC P left top xs):=by
 refine ⟨(bw ..).trans R.len,fun x hx'=>?_⟩
 obtain ⟨y,hy,rfl⟩:=mem_getD hx'
 rw [bw] at hy
 rw [bW _ _ _ _ _ (by rw [R.len];exact ht)]
 have e:=R.row _ (getD_mem hy)
 split
 ·rename_i c
  rw [lR (by rw [e];exact hx _ (getD_mem (by omega)))]
  exact e
 ·exact e
theorem vH {w h r_x r_y rw a b:Nat} {B pic sub:List (List Nat)} (R:Rows w h B) (hp:∀x∈pic,x.length=rw) (hx:r_x + rw≤w) (hy:r_y + pic.length≤h) (hs:∀x∈sub,a + x.length≤rw) (hb:b + sub.length≤pic.length) :
  aC (aC B r_x r_y pic) (r_x + a) (r_y + b) sub=aC B r_x r_y (aC pic a b sub):=by
 refine lS (by simp only [bw]) fun y hy'=>?_
 simp only [bw] at hy'
 have hl:=R.len
 rw [bW _ _ _ _ _ (by rw [bw,hl];omega),bW _ _ _ _ _ (by rw [hl];exact hy),bW _ _ _ _ _ (by rw [bw,hl];exact hy)]
 rw [bw]
 by_cases c:r_y≤y∧y < r_y + pic.length
 ·rw [if_pos c,if_pos c,bW _ _ _ _ _ hb]
  by_cases c2:b≤y - r_y∧y - r_y < b + sub.length
  ·rw [if_pos c2,if_pos (by omega),show y - (r_y + b)=y - r_y - b by omega]
   have e1:=R.row _ (getD_mem (show y < B.length by omega))
   have e2:=hp _ (getD_mem (show y - r_y < pic.length by omega))
   have e3:=hs _ (getD_mem (show y - r_y - b < sub.length by omega))
   exact xp (by omega) (by omega)
  ·rw [if_neg c2,if_neg (by omega)]
 ·rw [if_neg c,if_neg c,if_neg (by omega)]
def cH (P:List (List Nat)):Nat→List (List Nat)→List (List Nat)
 | _,[]=>P
 | b,x :: xs=>cH (P.set b (P.getD b []++x)) (b + 1) xs
theorem gq:∀(xs:List (List Nat)) (P:List (List Nat)) (b:Nat),(cH P b xs).length=P.length
 | [],P,b=>rfl
 | x :: xs,P,b=>by
  unfold cH
  rw [gq xs,List.length_set]
theorem iF:∀(xs:List (List Nat)) (P:List (List Nat)) (b y:Nat),b + xs.length≤P.length→
  (cH P b xs).getD y []=if b≤y∧y < b + xs.length then P.getD y []++xs.getD (y - b) [] else P.getD y []
 | [],P,b,y,h=>by
  unfold cH
  rw [if_neg (by simp)]
 | x :: xs,P,b,y,h=>by
  simp only [List.length_cons] at h
  unfold cH
  rw [iF xs _ (b + 1) y (by rw [List.length_set];omega)]
  have g:∀z,(P.set b (P.getD b []++x)).getD z []=if z=b then P.getD b []++x else P.getD z []:=by
   intro z
   rw [List.getD_eq_getElem?_getD,List.getElem?_set]
   by_cases c:z=b
   ·subst c
    rw [if_pos rfl,if_pos (by omega),if_pos rfl]
    rfl
   ·rw [if_neg (fun q=>c q.symm),if_neg c,List.getD_eq_getElem?_getD]
  simp only [g,List.length_cons]
  by_cases c:y=b
  ·subst c
   rw [if_neg (by omega),if_pos rfl,if_pos (by omega)]
   simp
  ·rw [if_neg c]
   by_cases c2:b + 1≤y∧y < b + 1 + xs.length
   ·rw [if_pos c2,if_pos (by omega)]
    congr 1
    rw [show y - b=(y - (b + 1)) + 1 by omega]
    rfl
   ·rw [if_neg c2,if_neg (by omega)]
theorem xq {w h r_x r_y a b:Nat} {B pic t:List (List Nat)} (R:Rows w h B) (hy:r_y + pic.length≤h) (hb:b + t.length≤pic.length)
  (hband:∀y,b≤y→y < b + t.length→(pic.getD y []).length=a) (ht:∀x∈t,r_x + (a + x.length)≤w) :
  aC (aC B r_x r_y pic) (r_x + a) (r_y + b) t=aC B r_x r_y (cH pic b t):=by
 refine lS (by simp only [bw]) fun y hy'=>?_
 simp only [bw] at hy'
 have hl:=R.len
 rw [bW _ _ _ _ _ (by rw [bw,hl];omega),bW _ _ _ _ _ (by rw [hl];exact hy),bW _ _ _ _ _ (by rw [gq,hl];exact hy)]
 rw [gq]
 by_cases c:r_y≤y∧y < r_y + pic.length
 ·rw [if_pos c,if_pos c,iF _ _ _ _ hb]
  by_cases c2:b≤y - r_y∧y - r_y < b + t.length
  ·rw [if_pos c2,if_pos (by omega),show y - (r_y + b)=y - r_y - b by omega]
   have e1:=R.row _ (getD_mem (show y < B.length by omega))
   have e2:=hband _ c2.1 c2.2
   have e3:=ht _ (getD_mem (show y - r_y - b < t.length by omega))
   have:=t7 (row:=B.getD y []) (p:=pic.getD (y - r_y) []) (t:=t.getD (y - r_y - b) []) (X:=r_x) (by omega)
   rw [e2] at this
   exact this
  ·rw [if_neg c2,if_neg (by omega)]
 ·rw [if_neg c,if_neg c,if_neg (by omega)]
theorem vI {w h:Nat} {P:List (List Nat)} (R:Rows w h P):P.flatten.length=h * w:=by
 obtain ⟨rfl,hr⟩:=R
 induction P with
 | nil=>simp
 | cons x P ih=>
  rw [List.flatten_cons,List.length_append,ih fun y hy=>hr y (List.mem_cons_of_mem _ hy),hr x (List.mem_cons_self ..),List.length_cons,Nat.succ_mul]
  omega
def kd (cells:List Nat) (a:Nat) (l:List Nat):List Nat:=cells.take a++(l++cells.drop (a + l.length))
theorem vJ {cells l:List Nat} {a x:Nat} (h:a + (l.length + 1)≤cells.length):kd (cells.set a x) (a + 1) l=kd cells a (x :: l):=by
 have eA:=FA (l:=cells) (n:=a) (by omega)
 unfold kd
 rw [List.set_eq_take_append_cons_drop,if_pos (by omega),Nat.add_assoc,tk _ _ _ eA,dr _ _ _ eA,Nat.add_comm 1,List.drop_succ_cons,List.drop_drop,List.length_cons]
 show (_++[x])++_=_
 rw [List.append_assoc,show a + 1 + l.length=a + (l.length + 1) by omega]
 rfl
theorem vK {w h:Nat}:∀{P:List (List Nat)} {y left:Nat} {l:List Nat},Rows w h P→y < h→left + l.length≤w→kd P.flatten (y * w + left) l=(P.set y (bM (P.getD y []) left l)).flatten
 | [],y,left,l,R,hy,hl=>by
  have:=R.len
  simp at this
  omega
 | x :: P,0,left,l,R,hy,hl=>by
  have hx:=R.row x (List.mem_cons_self ..)
  show kd (x++P.flatten) _ l=bM x left l++P.flatten
  unfold kd bM
  rw [Nat.zero_mul,Nat.zero_add,List.take_append_of_le_length (by omega),List.drop_append_of_le_length (by omega)]
  simp only [List.append_assoc]
 | x :: P,y + 1,left,l,R,hy,hl=>by
  have hx:=R.row x (List.mem_cons_self ..)
  have hlen:=R.len
  rw [List.length_cons] at hlen
  have R':Rows w (h - 1) P:=⟨by omega,fun z hz=>R.row z (List.mem_cons_of_mem _ hz)⟩
  have ih:=vK (l:=l) (left:=left) (y:=y) R' (by omega) hl
  show kd (x++P.flatten) _ l=x++(P.set y (bM (P.getD y []) left l)).flatten
  rw [← ih]
  unfold kd
  rw [Nat.succ_mul,show y * w + w + left=x.length + (y * w + left) by omega,List.take_length_add_append,Nat.add_assoc,List.drop_length_add_append,List.append_assoc]
theorem vL (s:Screen) (X Y:Nat):∀(l:List Nat) (i:Nat) (cells:List Nat),Y * s.w + X + i + l.length≤cells.length→
  (((List.range' i l.length).map fun i=>(X + i,Y)).zip l).foldl (fun (s:Screen) z=>s.put z.1.1 z.1.2 z.2) { s with cells:=cells }={ s with cells:=kd cells (Y * s.w + X + i) l }
 | [],i,cells,h=>by simp [kd]
 | x :: l,i,cells,h=>by
  simp only [List.length_cons] at h
  rw [List.length_cons,List.range'_succ,List.map_cons,List.zip_cons_cons,List.foldl_cons]
  have e:({ s with cells:=cells }:Screen).put (X + i) Y x={ s with cells:=cells.set (Y * s.w + X + i) x }:=by
   unfold Screen.put
   simp only [Nat.add_assoc]
  show List.foldl _ (({ s with cells:=cells }:Screen).put (X + i) Y x) _=_
  rw [e,vL s X Y l (i + 1) _ (by rw [List.length_set];omega)]
  rw [show Y * s.w + X + (i + 1)=Y * s.w + X + i + 1 by omega,vJ (by omega)]
theorem rE {s:Screen} {X wd:Nat}:∀(piece:List (List Nat)) (j Y:Nat) (P:List (List Nat)),Rows s.w s.h P→(∀x∈piece,x.length=wd)→X + wd≤s.w→Y + j + piece.length≤s.h→
  (((List.range' j piece.length).flatMap fun j=>(List.range wd).map fun i=>(X + i,Y + j)).zip piece.flatten).foldl (fun (s:Screen) z=>s.put z.1.1 z.1.2 z.2) { s with cells:=P.flatten }={ s with cells:=(aC P X (Y + j) piece).flatten }
 | [],j,Y,P,R,hp,hx,hy=>by simp [aC]
 | x :: piece,j,Y,P,R,hp,hx,hy=>by
  have e1:=hp x (List.mem_cons_self ..)
  simp only [List.length_cons] at hy
  rw [List.length_cons,List.range'_succ,List.flatMap_cons,List.flatten_cons,List.zip_append (by simp [e1]),List.foldl_append]
  have e2:=vL s X (Y + j) x 0 P.flatten (by
   rw [vI R]
   have:(Y + j + 1) * s.w≤s.h * s.w:=Nat.mul_le_mul_right _ (by omega)
   rw [Nat.succ_mul] at this
   omega)
  rw [← List.range_eq_range',e1,Nat.add_zero] at e2
  rw [e2,vK R (by omega) (by omega),rE piece (j + 1) Y _ ?_ (fun z hz=>hp z (List.mem_cons_of_mem _ hz)) hx (by omega)]
  ·rfl
  ·refine ⟨by rw [List.length_set];exact R.len,fun z hz=>?_⟩
   rcases List.mem_or_eq_of_mem_set hz with h | h
   ·exact R.row z h
   ·rw [h,lR]
    ·exact R.row _ (getD_mem (by rw [R.len];omega))
    ·rw [R.row _ (getD_mem (by rw [R.len];omega)),e1]
     exact hx
theorem mn {s:Screen} {r:Rect} {P piece:List (List Nat)} (R:Rows s.w s.h P) (hc:s.cells=P.flatten) (hp:Rows r.w r.h piece) (hx:r.x + r.w≤s.w) (hy:r.y + r.h≤s.h) :
  s.draw r piece.flatten={ s with cells:=(aC P r.x r.y piece).flatten }:=by
 have e:=rE (s:=s) (X:=r.x) (wd:=r.w) piece 0 r.y P R hp.row hx (by rw [hp.len];exact hy)
 rw [hp.len,← List.range_eq_range',Nat.add_zero,← hc] at e
 exact e
theorem zV (s:Screen) (r:Rect) (p:Nat):s.fill r p=s.draw r (List.replicate (placesOf r).length p):=by
 unfold Screen.fill Screen.draw
 generalize placesOf r=l
 induction l generalizing s with
 | nil=>rfl
 | cons z l ih=>exact ih _
theorem eR (w h p:Nat):Rows w h (eO w h p):=⟨by simp [eO],fun x hx=>by
 unfold eO at hx
 rw [List.eq_of_mem_replicate hx,List.length_replicate]⟩
theorem places_len (r:Rect):(placesOf r).length=r.h * r.w:=by
 unfold placesOf
 generalize r.h=h
 induction h with
 | zero=>simp
 | succ h ih=>rw [List.range_succ,List.flatMap_append,List.length_append,ih,Nat.succ_mul];simp
theorem pF (w p:Nat):∀h:Nat,(eO w h p).flatten=List.replicate (h * w) p
 | 0=>by simp [eO]
 | h + 1=>by
  have e:eO w (h + 1) p=List.replicate w p :: eO w h p:=rfl
  rw [e,List.flatten_cons,pF w p h,List.replicate_append_replicate,Nat.succ_mul,Nat.add_comm]
theorem mq {s:Screen} {r:Rect} {P:List (List Nat)} {p:Nat} (R:Rows s.w s.h P) (hc:s.cells=P.flatten) (hx:r.x + r.w≤s.w) (hy:r.y + r.h≤s.h) :
  s.fill r p={ s with cells:=(aC P r.x r.y (eO r.w r.h p)).flatten }:=by
 rw [zV,places_len,← pF]
 exact mn R hc (eR ..) hx hy
theorem qF {w h:Nat}:∀{P:List (List Nat)} {y x:Nat},Rows w h P→y < h→x < w→P.flatten.getD (y * w + x) 0=(P.getD y []).getD x 0
 | [],y,x,R,hy,hx=>by
  have:=R.len
  simp at this
  omega
 | z :: P,0,x,R,hy,hx=>by
  have hz:=R.row z (List.mem_cons_self ..)
  rw [Nat.zero_mul,Nat.zero_add,List.flatten_cons]
  simp only [List.getD_eq_getElem?_getD]
  rw [List.getElem?_append_left (by omega)]
  rfl
 | z :: P,y + 1,x,R,hy,hx=>by
  have hz:=R.row z (List.mem_cons_self ..)
  have hlen:=R.len
  rw [List.length_cons] at hlen
  have R':Rows w (h - 1) P:=⟨by omega,fun q hq=>R.row q (List.mem_cons_of_mem _ hq)⟩
  have ih:=qF (y:=y) (x:=x) R' (by omega) hx
  rw [List.flatten_cons,Nat.succ_mul]
  simp only [List.getD_eq_getElem?_getD] at ih ⊢
  rw [List.getElem?_append_right (by omega),show y * w + w + x - z.length=y * w + x by omega,ih]
  rfl
theorem range_getD (l:List Nat) (a n:Nat) (h:a + n≤l.length):(List.range n).map (fun i=>l.getD (a + i) 0)=(l.drop a).take n:=by
 apply List.ext_getElem?
 intro k
 rw [List.getElem?_map,List.getElem?_take,List.getElem?_drop]
 by_cases c:k < n
 ·rw [List.getElem?_range c,if_pos c]
  simp only [Option.map_some,List.getD_eq_getElem?_getD]
  rw [List.getElem?_eq_getElem (by omega)]
  rfl
 ·rw [List.getElem?_eq_none (by simpa using c),if_neg c]
  rfl
theorem zW {s:Screen} {q:Rect} {P:List (List Nat)} (R:Rows s.w s.h P) (hc:s.cells=P.flatten) (hx:q.x + q.w≤s.w) (hy:q.y + q.h≤s.h) :
  (placesOf q).map (fun z=>s.at_ z.1 z.2)=(((P.drop q.y).take q.h).map fun row=>(row.drop q.x).take q.w).flatten:=by
 have e1:((P.drop q.y).take q.h)=(List.range q.h).map fun j=>P.getD (q.y + j) []:=by
  apply List.ext_getElem?
  intro k
  rw [List.getElem?_map,List.getElem?_take,List.getElem?_drop]
  have hl:=R.len
  by_cases c:k < q.h
  ·rw [List.getElem?_range c,if_pos c]
   simp only [Option.map_some,List.getD_eq_getElem?_getD]
   rw [List.getElem?_eq_getElem (by omega)]
   rfl
  ·rw [if_neg c,List.getElem?_eq_none (l:=List.range q.h) (by simpa using c)]
   rfl
 rw [e1]
 unfold placesOf
 rw [List.map_flatMap,List.flatMap_def,List.map_map]
 refine congrArg List.flatten (List.map_congr_left fun j hj=>?_)
 have hj:j < q.h:=List.mem_range.mp hj
 rw [List.map_map]
 show _=((P.getD (q.y + j) []).drop q.x).take q.w
 rw [← range_getD _ _ _ (by rw [R.row _ (getD_mem (by rw [R.len];omega))];exact hx)]
 refine List.map_congr_left fun i hi=>?_
 have hi:i < q.w:=List.mem_range.mp hi
 show s.cells.getD ((q.y + j) * s.w + (q.x + i)) 0=_
 rw [hc,qF R (by omega) (by omega)]
def fT (l:List Nat) (w h:Nat):List (List Nat):=(List.range h).map fun j=>(l.drop (j * w)).take w
theorem pY {l:List Nat} {w h:Nat} (hl:l.length=w * h):Rows w h (fT l w h):=by
 refine ⟨by simp [fT],fun x hx=>?_⟩
 obtain ⟨j,hj,rfl⟩:=List.mem_map.mp hx
 have hj:j < h:=List.mem_range.mp hj
 have:(j + 1) * w≤h * w:=Nat.mul_le_mul_right _ hj
 rw [Nat.succ_mul,Nat.mul_comm h w] at this
 rw [List.length_take,List.length_drop]
 omega
theorem lT {w:Nat}:∀{h:Nat} {l:List Nat},l.length=w * h→(fT l w h).flatten=l
 | 0,l,hl=>by
  have:l=[]:=List.length_eq_zero_iff.mp (by simpa using hl)
  subst this
  rfl
 | h + 1,l,hl=>by
  have e:fT l w (h + 1)=l.take w :: fT (l.drop w) w h:=by
   unfold fT
   rw [List.range_succ_eq_map,List.map_cons,List.map_map]
   refine congr (congrArg List.cons (by simp)) (List.map_congr_left fun j _=>?_)
   simp only [Function.comp,List.drop_drop]
   rw [show (Nat.succ j) * w=w + j * w by rw [Nat.succ_mul];omega]
  rw [e,List.flatten_cons,lT (by rw [List.length_drop,hl,Nat.mul_succ];omega),List.take_append_drop]
end Mir
end
section
namespace SV
open PySem PySem.Spec PyProof.Rows L2
def ba (K:PySem.W.Frag) (mg:Str→Option Value) (x:Str) (st:Stmt):Prop:=∃f fd,Az K x x st f fd∧mg x=some (.ref f)
def gs (K:PySem.W.Frag) (C:Addr) (m qual:Str) (st:Stmt):Prop:=∃f fd,Az K m qual st f fd∧Meth K C m f
def lU (K:PySem.W.Frag) (mg:Str→Option Value) (C:Addr) (x qual:Str) (st:Stmt):Prop:=∃f fd,Az K "__init__" qual st f fd∧Mk K C f∧mg x=some (.ref C)
def aM (mg:Str→Option Value) (x:Str) (v:V):Prop:=∃u,mg x=some u∧RelV v u
def tG (K:PySem.W.Frag) (mg:Str→Option Value) (x:Str) (xs:List V):Prop:=∃a,mg x=some (.ref a)∧∀H,ju K H a xs
section
variable (P:Program) (w:World) (K:PySem.W.Frag) (mg:Str→Option Value) (base:Heap)
def FnAt (x:Str) (k:Nat) (ps:List Str) (sp:Sp):Prop:=∃f fd,iq P w K mg base zD k f fd ps sp∧mg x=some (.ref f)∧PySem.W.keepIn K (.ref f)=true∧Binds K fd ps []
def rF (C:Addr) (m:Str) (k:Nat) (ps:List Str) (sp:Sp):Prop:=∃f fd,iq P w K mg base zD k f fd ps sp∧Meth K C m f∧Binds K fd ps []
def xr (C:Addr) (x:Str) (k:Nat) (ps:List Str) (sp:Sp):Prop:=∃f fd,iq P w K mg base zD k f fd ps sp∧Mk K C f∧mg x=some (.ref C)∧Binds K fd ps []
end
section
variable {P:Program} {w:World} {K:PySem.W.Frag} {mg:Str→Option Value} {base:Heap} {C:Addr} {x m qual:Str} {st:Stmt} {k:Nat} {ps:List Str} {sp:Sp}
abbrev t9 (st:Stmt) (x qual:Str) (ps:List Str):Prop:=∀(kV doc pm:Value) (an:Option Addr) (cdv ct:Value) (us:List Value),us.length=ps.length→bindArgs (PySem.W.fnOf x qual (cU st) (cP st) (aw st) .none kV doc pm an cdv ct) ⟨us,[]⟩=pure (ps.zip us)
theorem ba.at_ (h:ba K mg x st) (b:t9 st x x ps) (g:∀f fd,Az K x x st f fd→iq P w K mg base zD k f fd ps sp):FnAt P w K mg base x k ps sp:=by
 obtain ⟨f,fd,F,e⟩:=h
 exact ⟨f,fd,g f fd F,e,F.kp,F.binds b⟩
theorem gs.at_ (h:gs K C m qual st) (b:t9 st m qual ps) (g:∀f fd,Az K m qual st f fd→iq P w K mg base zD k f fd ps sp):rF P w K mg base C m k ps sp:=by
 obtain ⟨f,fd,F,e⟩:=h
 exact ⟨f,fd,g f fd F,e,F.binds b⟩
theorem lU.at_ (h:lU K mg C x qual st) (b:t9 st "__init__" qual ps) (g:∀f fd,Az K "__init__" qual st f fd→iq P w K mg base zD k f fd ps sp):xr P w K mg base C x k ps sp:=by
 obtain ⟨f,fd,F,e,e2⟩:=h
 exact ⟨f,fd,g f fd F,e,e2,F.binds b⟩
theorem FnAt.mono {j:Nat} (h:FnAt P w K mg base x j ps sp) (l:j≤k):FnAt P w K mg base x k ps sp:=by
 obtain ⟨f,fd,G,e⟩:=h
 exact ⟨f,fd,G.mono l,e⟩
end
section
variable {X:Cx} {x m:Str} {k:Nat} {ps:List Str} {sp:Sp} {C:Addr} {e o:Expr} {es:List Expr} {t:TA} {ta:TE} {p pos apos:Pos}
theorem aK (G:FnAt X.prog X.w X.K X.mg X.base x k ps sp) (hr:fB k X.A) (hg:Gl X x) (ha:PA X (e :: es) t) (hdb:(x == ("__debug__":Str))=false:=by decide) (he:starEach (e :: es) X.env=(false,eval e X.env) :: starEach es X.env:=by rfl)
  (hpl:(backTo pos (starEach es X.env)).any (·.1)=false:=by rfl):PE X (.Call (.Name x p) (e :: es) [] pos) (yk sp [] E0 t):=by
 obtain ⟨f,fd,F,hm,hk,hb⟩:=G
 exact BK F hr hg hm hk hb .nil rh ha hdb he hpl
theorem DK (G:FnAt X.prog X.w X.K X.mg X.base x k ps sp) (hr:fB k X.A) (hg:Gl X x) (hdb:(x == ("__debug__":Str))=false:=by decide):PE X (.Call (.Name x p) [] [] pos) (yk sp [] E0 vb):=by
 obtain ⟨f,fd,F,hm,hk,hb⟩:=G
 exact AR F hr hg hm hk hb .nil rh hdb
theorem bF {pl:Sem Bool} (G:rF X.prog X.w X.K X.mg X.base C m k ps sp) (c:sk X.K C) (hr:fB k X.A) (ho:PE X o ta) (ha:PA X (e :: es) t)
  (hst:starEach (e :: es) X.env=(false,eval e X.env) :: starEach es X.env:=by rfl) (hpl:(backTo pos (starEach es X.env)).any (·.1)=false:=by rfl)
  (ht:eval (.Call (.Attribute o m apos) (e :: es) [] pos) X.env=(do
   let ov ← eval o X.env
   standAt apos.atName
   let (f,first) ← holding [ov] (getMethod ov m pl)
   callWith pos f first (backTo pos (starEach (e :: es) X.env)) (backToKw pos (keywordEach [] X.env))):=by rfl):PE X (.Call (.Attribute o m apos) (e :: es) [] pos) (vc C m sp [] E0 ta t):=by
 obtain ⟨f,fd,F,hm,hb⟩:=G
 exact BL ho c hm F hr hb .nil rh ha hst hpl ht
theorem pG {pl:Sem Bool} (G:rF X.prog X.w X.K X.mg X.base C m k ps sp) (c:sk X.K C) (hr:fB k X.A) (ho:PE X o ta)
  (ht:eval (.Call (.Attribute o m apos) [] [] pos) X.env=(do
   let ov ← eval o X.env
   standAt apos.atName
   let (f,first) ← holding [ov] (getMethod ov m pl)
   callWith pos f first (backTo pos (starEach [] X.env)) (backToKw pos (keywordEach [] X.env))):=by rfl):PE X (.Call (.Attribute o m apos) [] [] pos) (vc C m sp [] E0 ta vb):=by
 obtain ⟨f,fd,F,hm,hb⟩:=G
 exact AS ho c hm F hr hb .nil rh ht
theorem A9 (G:xr X.prog X.w X.K X.mg X.base C x k ps sp) (hr:fB (k + 1) X.A) (hg:Gl X x) (ha:PA X (e :: es) t) (hdb:(x == ("__debug__":Str))=false:=by decide) (he:starEach (e :: es) X.env=(false,eval e X.env) :: starEach es X.env:=by rfl)
  (hpl:(backTo pos (starEach es X.env)).any (·.1)=false:=by rfl):PE X (.Call (.Name x p) (e :: es) [] pos) (ym C sp [] E0 t):=by
 obtain ⟨f,fd,F,M,hm,hb⟩:=G
 exact BM M F hr hg hm hb .nil rh ha hdb he hpl
theorem A_ (G:xr X.prog X.w X.K X.mg X.base C x k ps sp) (hr:fB (k + 1) X.A) (hg:Gl X x) (hdb:(x == ("__debug__":Str))=false:=by decide):PE X (.Call (.Name x p) [] [] pos) (ym C sp [] E0 vb):=by
 obtain ⟨f,fd,F,M,hm,hb⟩:=G
 exact AU M F hr hg hm hb .nil rh hdb
theorem a_ {v:V} (h:aM X.mg x v) (hg:Gl X x) (hd:(x == ("__debug__":Str))=false:=by decide):PE X (.Name x p) (tC v):=by
 obtain ⟨u,e,r⟩:=h
 exact yb hg e r hd
def GS (K:PySem.W.Frag) (xs:List V):TE:=fun _ H Q=>∀a,(∀H,ju K H a xs)→Q (.ref a) H
theorem yz {xs:List V} (h:tG X.K X.mg x xs) (hg:Gl X x) (hd:(x == ("__debug__":Str))=false:=by decide):PE X (.Name x p) (GS X.K xs):=by
 obtain ⟨a,e,s⟩:=h
 intro pins sh σ H Q I q
 exact yb (v:=.ref a) hg e rfl hd pins sh σ H Q I (q a s)
end
def nI (l:List Nat):List V:=l.map fun (n:Nat)=>V.int (n:Int)
theorem aU (l:List Nat):(nI l).length=l.length:=List.length_map ..
theorem fU (l m:List Nat):nI (l++m)=nI l++nI m:=List.map_append ..
theorem ke {l:List Nat} {i:Nat} {x:V} (h:(nI l)[i]?=some x):∃n,l[i]?=some n∧x=V.int (n:Int):=by
 unfold nI at h
 rw [List.getElem?_map] at h
 cases e:l[i]? with
 | none=>rw [e] at h;cases h
 | some n=>rw [e] at h;exact ⟨n,rfl,(Option.some.inj h).symm⟩
theorem E1 {l:List Nat} {i:Nat} {n:Nat} (h:l[i]?=some n):(nI l)[i]?=some (V.int (n:Int)):=by
 unfold nI
 rw [List.getElem?_map,h]
 rfl
theorem Gj {l m:List Nat} (h:nI l=nI m):l=m:=by
 induction l generalizing m with
 | nil=>cases m with
  | nil=>rfl
  | cons b m=>cases h
 | cons a l ih=>cases m with
  | nil=>cases h
  | cons b m=>
   unfold nI at h
   rw [List.map_cons,List.map_cons] at h
   injection h with h1 h2
   injection h1 with h1
   rw [ih h2,Int.ofNat_inj.mp h1]
theorem mw {xs:List V} (i n:Nat):lA xs (some (i:Int)) (some ((i:Int) + (n:Int)))=(xs.drop i).take n:=by
 unfold lA
 rw [show ((i:Int) + (n:Int))=((i + n:Nat):Int) by omega,HT.qB,HT.qB]
 apply List.ext_getElem?
 intro k
 simp only [List.getElem?_take,List.getElem?_drop]
 by_cases h:i≤xs.length
 ·rw [Nat.min_eq_left h]
  by_cases c:k < n
  ·rw [if_pos c]
   by_cases c2:k < min (i + n) xs.length - i
   ·rw [if_pos c2]
   ·rw [if_neg c2,List.getElem?_eq_none (by omega)]
  ·rw [if_neg c,if_neg (by omega)]
 ·rw [Nat.min_eq_right (a:=i) (by omega),if_neg (by omega)]
  split
  ·rw [List.getElem?_eq_none (by omega)]
  ·rfl
theorem lV {xs:List V} (i:Nat):lA xs (some (i:Int)) none=xs.drop i:=by
 unfold lA
 rw [HT.qB,HT.vg]
 by_cases h:i≤xs.length
 ·rw [Nat.min_eq_left h,List.take_of_length_le (by rw [List.length_drop];omega)]
 ·rw [Nat.min_eq_right (a:=i) (by omega),Nat.sub_self,List.take_zero,List.drop_of_length_le (by omega)]
theorem xt {xs:List V} (n:Nat):lA xs none (some (n:Int))=xs.take n:=by
 unfold lA
 rw [HT.qB,HT.vg,List.drop_zero,Nat.sub_zero]
 by_cases h:n≤xs.length
 ·rw [Nat.min_eq_left h]
 ·rw [Nat.min_eq_right (a:=n) (by omega),List.take_of_length_le (Nat.le_refl _),List.take_of_length_le (by omega)]
theorem iG (l:List Nat) (i:Nat):(nI l).drop i=nI (l.drop i):=List.map_drop.symm
theorem jy (l:List Nat) (i:Nat):(nI l).take i=nI (l.take i):=List.map_take.symm
theorem pH (l:List Nat) (c:Nat):Sn44.high (l++[c])=256 * Sn44.high l + c:=by
 unfold Sn44.high
 rw [List.foldl_append]
 rfl
theorem take_snoc {α:Type} {l:List α} {i:Nat} {x:α} (h:l[i]?=some x):l.take (i + 1)=l.take i++[x]:=by
 rw [List.take_succ,h]
 rfl
theorem ay {H:Hp} {p:Addr} {o:HO} (h:H p=none):bX H (upd H p o):=fun b u e=>by
 rw [aj (aE e h)]
 exact e
def KD (P:Program) (w:World) (K:PySem.W.Frag) (a:Addr) (kvs:List (Key × V)):Prop:=
 (a == sysModules)=false∧∃o es ep vs,K.lookup a=some o∧o.ExactDict∧o.data=.dict es ep∧KeysOf (gk P w) es∧Pairs (gk P w) es.toList vs∧(vs.map (·.1)).Nodup∧KV kvs vs
def mR (P:Program) (w:World) (K:PySem.W.Frag) (mg:Str→Option Value) (x:Str) (kvs:List (Key × V)):Prop:=∃a,mg x=some (.ref a)∧KD P w K a kvs
section
variable {X:Cx} {x:Str} {p q pos:Pos} {i e:Expr} {es:List Expr} {ti:TE} {t:TA} {kvs:List (Key × V)}
theorem KD.dict {a:Addr} {pins:List (Addr × Obj)} {σ:L2.St} {H:Hp} {s:Shared} (h:KD X.prog X.w X.K a kvs) (I:Inv X pins σ H s):∃vs,KV kvs vs∧s.heap.DictOf (gk X.prog X.w) a vs:=by
 obtain ⟨_,o,es,ep,vs,hk,h1,h2,h3,h4,h5,h6⟩:=h
 exact ⟨vs,h6,o,es,ep,I.uY a o hk,h1,h2,h3,h4,h5⟩
def CP (kvs:List (Key × V)) (ti:TE):TE:=fun σ H Q=>ti σ H fun y H1=>∃k v,y=kV k∧n_ kvs k=some v∧Q v H1
def Gk (kvs:List (Key × V)) (ti:TE):TE:=fun σ H Q=>ti σ H fun y H1=>∃k,y=kV k∧Q (.bl (n_ kvs k).isSome) H1
theorem yA (h:mR X.prog X.w X.K X.mg x kvs) (hg:Gl X x) (hi:PE X i ti) (hs:DE i) (hd:(x == ("__debug__":Str))=false:=by decide):PE X (.Subscript (.Name x p) i pos) (CP kvs ti):=by
 obtain ⟨a,hm,hk⟩:=h
 intro pins s σ H Q I ht
 refine BX PySem.F.slot_dict_getitem.lookup hs (kz I hg hm ?_ hd)
 refine d4 (hi pins s σ H _ I ht) fun iv s2 ⟨y,H2,I2,ry,k,v,ey,hv,q2⟩=>?_
 subst ey
 obtain ⟨vs,rel,dd⟩:=hk.dict I2
 obtain ⟨w',hw,rw'⟩:=nO.some_of (v:=v) (o:=valueAt vs k) (by rw [← hv];exact rel.val k)
 exact ⟨dd.typeIs,wpAny_getItem_of (CM ry) dd.mapOf hw ⟨v,H2,I2.tok _,rw',q2⟩⟩
theorem xu (h:mR X.prog X.w X.K X.mg x kvs) (hg:Gl X x) (hi:PE X i ti) (hd:(x == ("__debug__":Str))=false:=by decide):PC X .In i (.Name x p) (Gk kvs ti):=by
 obtain ⟨a,hm,hk⟩:=h
 intro pins s σ H Q I ht
 refine d4 (hi pins s σ H _ I ht) fun iv s2 ⟨y,H2,I2,ry,k,ey,q2⟩=>?_
 subst ey
 refine kz I2 hg hm ?_ hd
 obtain ⟨vs,rel,dd⟩:=hk.dict I2
 refine wpAny_in_of (CM ry) hk.1 dd.mapOf ?_
 rw [← (rel.val k).zA]
 exact ⟨.bl _,H2,I2.tok _,rfl,q2⟩
def CQ (P:Program) (w:World) (K:PySem.W.Frag) (mg:Str→Option Value) (base:Heap) (lv:Nat) (f:Addr) (sp:Sp):Prop:=
 ∃fd ps,PySem.W.keepIn K (.ref f)=true∧iq P w K mg base zD lv f fd ps sp∧Binds K fd ps []
def Gm (P:Program) (w:World) (K:PySem.W.Frag) (mg:Str→Option Value) (base:Heap) (kvs:List (Key × V)) (lv:Nat) (ti:TE) (t:TA):TE:=fun σ H Q=>
 CP kvs ti σ H fun v H1=>∃f sp,v=.ref f∧CQ P w K mg base lv f sp∧t σ H1 fun vs H2=>sp vs H2 Q E0
theorem t_ {lv:Nat} (h:mR X.prog X.w X.K X.mg x kvs) (hg:Gl X x) (hr:fB lv X.A) (hi:PE X i ti) (hs:DE i) (ha:PA X (e :: es) t) (hd:(x == ("__debug__":Str))=false:=by decide)
  (he:starEach (e :: es) X.env=(false,eval e X.env) :: starEach es X.env:=by rfl) (hpl:(backTo pos (starEach es X.env)).any (·.1)=false:=by rfl)
  (hc:eval (.Call (.Subscript (.Name x p) i q) (e :: es) [] pos) X.env=(do callWith pos (← eval (.Subscript (.Name x p) i q) X.env) [] (backTo pos (starEach (e :: es) X.env)) (backToKw pos (keywordEach [] X.env))):=by rfl) :
  PE X (.Call (.Subscript (.Name x p) i q) (e :: es) [] pos) (Gm X.prog X.w X.K X.mg X.base kvs lv ti t):=by
 intro pins s σ H Q I ht
 refine Call_ ?_ hc
 have g:=yA (p:=p) (pos:=q) h hg hi hs hd
 refine d4 (g pins s σ H _ I ht) fun u s1 ⟨v,H1,I1,rv,f,sp,ev,⟨fd,ps,hk,F,hb⟩,ht3⟩=>?_
 subst ev
 obtain rfl:u=Value.ref f:=rv
 refine PySem.W.callWith_K (h₀:=X.base) I.ok.mod.Ed hk (d4 (ha pos pins s1 σ H1 _ I1 ht3) fun us s2 ⟨vs,H2,I2,r,q2⟩=>⟨I2.uY,?_⟩) he hpl
 exact qZ (E:=E0) F hr hb .nil rh I2 r (by rw [List.append_nil];exact q2)
theorem FnAt.def_ {P:Program} {w:World} {K:PySem.W.Frag} {mg:Str→Option Value} {base:Heap} {x:Str} {k lv:Nat} {ps:List Str} {sp:Sp} {f:Addr} (h:FnAt P w K mg base x k ps sp) (e:mg x=some (.ref f)) (hl:k≤lv):CQ P w K mg base lv f sp:=by
 obtain ⟨g,fd,F,hm,hk,hb⟩:=h
 have:g=f:=by
  rw [e] at hm
  injection hm with hm
  injection hm with hm
  exact hm.symm
 subst this
 exact ⟨fd,ps,hk,F.mono hl,hb⟩
end
section
variable {X:Cx}
theorem B8:F4 X "int.bit_length" (fun x xs H Q=>∃n:Int,x=.int n∧xs=[]∧Q (.int (Builtin.Int.intBits n:Nat)) H):=by
 intro pins s σ H x xs v us Q I rx rs h
 obtain ⟨n,rfl,rfl,h⟩:=h
 obtain ⟨t,rfl⟩:=rx
 cases rs
 exact call_int_bit_length ⟨.int _,H,I.tok _,⟨_,rfl⟩,h⟩
end
theorem Ba:typeLookup (.type "list_reverseiterator") "__len__"=pure none:=by rw [typeLookup_type,builtinLookup_eq_fast];kernel_rfl
theorem B9:typeLookup (.type "list_reverseiterator") "__length_hint__"=pure (some (.builtin "list_reverseiterator.__length_hint__")):=by rw [typeLookup_type,builtinLookup_eq_fast];kernel_rfl
section
variable {prog:Program} {w:World} {A:Around} {E:Value→Shared→Prop} {s:Shared}
theorem Bb {r l:Addr} {i:Int} {Q:Bool→Shared→Prop} (hit:s.heap.IsRevIter r l i) (h:Q false s):wpAny (model prog w) A (Builtin.List.listLengthHint (.ref r)) Q E s:=by
 have ty:=hit.typeIs
 unfold Builtin.List.listLengthHint
 refine wpAny_bind (wpAny_specialOf ty Ba ?_)
 show wpAny _ A (specialOf (Value.ref r) (Str.ofString "__length_hint__") >>= _) _ _ _
 refine wpAny_bind (wpAny_specialOf ty B9 ?_)
 generalize hid:("list_reverseiterator.__length_hint__":String)=idr
 wp_delta
 rw [show splitId idr=some ("list_reverseiterator","__length_hint__") from by subst hid;decide +kernel]
 subst hid
 refine wpAny_bind (wpAny_isInstance (b:=true) ty (by rw [isSubtype_type];kernel_rfl) ?_)
 exact wpAny_pure h
abbrev yB (its:Array Value) (i:Nat) (v:Value):Prop:=its[its.size - 1 - i]?=some v
theorem xw {R:Result→Shared→Prop} {r l S:Addr} {its:Array Value} {res:Value} {c0:Nat} (hh:A.handled=none) (hit:s.heap.IsRevIter r l ((its.size:Int) - 1)) (hl:s.heap.IsList l its) (hlr:l≠r) (hSr:S≠r) (hSl:S≠l) (hz:its.size≤sizeLine)
  (hS:s.heap.get? S=some { cls:=.type "list",data:=.seq #[] c0 })
  (hR:∀h' tk acc c',(∀b o,b≠S→b≠r→s.heap.get? b=some o→h'.get? b=some o)→h'.get? S=some { cls:=.type "list",data:=.seq acc c' }→ItemsOf (yB its) acc its.size→R (.ok (.ret res)) { s with heap:=h',toks:=tk }) :
  wpAny (model prog w) A.in1 (Builtin.List.listExtendWith (.ref S) (.ref r) res)
   (fun fin s'=>match fin with | .done f=>R (.ok f) s' | .again c'=>c'.quiet=true∧codeAny (model prog w) A c' R s') (fun e s'=>R (.error e) s') s:=by
 have hSf:S∉[r,l]:=fun hm=>by
  rcases List.mem_cons.mp hm with e | hm
  ·exact hSr e
  ·exact hSl (List.mem_singleton.mp hm)
 have W:=(Walks.listRev (prog:=prog) (w:=w) (A:=A.in1) hh r l hlr its).toS
 have key:∀(h:Heap) (c1:Nat),h.IsRevIter r l ((its.size:Int) - 1)→h.IsList l its→(∀b o,b≠S→s.heap.get? b=some o→h.get? b=some o)→h.get? S=some { cls:=.type "list",data:=.seq #[] c1 }→
   codeAny (model prog w) A (.builtin "list.extend.loop" ⟨[.ref S,.ref r,res],[]⟩) R { s with heap:=h }:=by
  intro h c1 g1 g2 g3 g4
  refine codeAny_extend_loopS W hz S hSf res its.size 0 _ #[] c1 rfl (Nat.zero_le _) ⟨Nat.zero_le _,by simpa using g1,g2⟩ g4 (ItemsOf.nil _) fun s' acc c' mv hS' ha=>?_
  rw [Moved.eq_with mv]
  refine hR s'.heap s'.toks acc c' (fun b o b1 b2 e=>mv.heap b o (fun hm=>?_) (g3 b o b1 e)) hS' ha
  rcases List.mem_cons.mp hm with q | hm
  ·exact b1 q
  ·exact b2 (List.mem_singleton.mp hm)
 have s1:Builtin.List.listSameRef (.ref S) (.ref r)=false:=by simp [Builtin.List.listSameRef,hSr]
 have s2:(Value.type "list_reverseiterator" == Value.type "list")=false:=by decide
 have s3:(Value.type "list_reverseiterator" == Value.type "tuple")=false:=by decide
 unfold Builtin.List.listExtendWith
 refine wpAny_bind (wpAny_typeOf hit.typeIs ?_)
 simp only [s1,s2,s3,Bool.or_false,Bool.false_eq_true,if_false]
 refine wpAny_bind (wpAny_pyIter_revIter hit ?_)
 refine wpAny_bind (wpAny_holding (Bb hit ?_))
 rw [if_neg (by decide)]
 exact wpAny_pure ⟨plainId_quiet PySem.F.plain_extend_loop _,key s.heap c0 hit hl (fun _ _ _ e=>e) hS⟩
theorem sy {Q:Value→Shared→Prop} {r l:Addr} {its:Array Value} (hh:A.handled=none) (hit:s.heap.IsRevIter r l ((its.size:Int) - 1)) (hl:s.heap.IsList l its) (hlr:l≠r) (hz:its.size≤sizeLine)
  (hQ:∀h' tk acc c',(∀b o,b≠r→s.heap.get? b=some o→h'.get? b=some o)→h'.get? s.heap.objs.size=some { cls:=.type "list",data:=.seq acc c' }→ItemsOf (yB its) acc its.size→Q (.ref s.heap.objs.size) { s with heap:=h',toks:=tk }) :
  wpAny (model prog w) A (call (.type "list") [.ref r]) Q E s:=by
 refine callType_codes (Q₁:=fun ob s1=>ob=.ref s.heap.objs.size∧s1={ s with heap:=s.heap.push { cls:=.type "list",data:=.seq #[] } }) PySem.F.called_list (PySem.F.typeCall_list_1 _) PySem.F.entry_list_init (code_list_new _ ⟨rfl,rfl⟩) fun ob s1 h1=>?_
 obtain ⟨rfl,rfl⟩:=h1
 have rlt:r < s.heap.objs.size:=by obtain ⟨o,e,_⟩:=hit;exact Heap.lt_size e
 have llt:l < s.heap.objs.size:=by
  have:=hl
  obtain ⟨o,e,_⟩:=hl
  exact Heap.lt_size e
 have nS:(s.heap.push { cls:=.type "list",data:=.seq #[] }).get? s.heap.objs.size=some { cls:=.type "list",data:=.seq #[] }:=Heap.get?_push_size _ rfl
 refine ⟨⟨_,nS,rfl⟩,PySem.F.args_list_init_2 _ _,?_⟩
 show wpAny _ _ (do let old ← Builtin.List.listItems (.ref s.heap.objs.size);Builtin.List.listUpdate (.ref s.heap.objs.size) (fun _=>#[]);letGo old.toList.reverse;Builtin.List.listExtendWith (.ref s.heap.objs.size) (.ref r) .none) _ _ _
 refine wpAny_bind ?_
 unfold Builtin.List.listItems
 refine wpAny_bind (wpAny_seqItems nS rfl (wpAny_pure ?_))
 show wpAny _ _ (updateSeq s.heap.objs.size (fun _=>#[]) >>= fun _=>letGo (#[]:Array Value).toList.reverse >>= fun _=>Builtin.List.listExtendWith (.ref s.heap.objs.size) (.ref r) .none) _ _ _
 refine wpAny_bind (wpAny_updateSeq nS rfl ?_)
 have nS2:=Heap.get?_update_self (Obj.mapSeq (fun _=>(#[]:Array Value))) nS rfl
 have up:∀b o,s.heap.get? b=some o→((s.heap.push { cls:=.type "list",data:=.seq #[] }).update s.heap.objs.size (Obj.mapSeq (fun _=>(#[]:Array Value)))).get? b=some o:=fun b o e=>
  (Heap.get?_update_other _ _ (Nat.ne_of_gt (Heap.lt_size e))).trans (Heap.get?_push_of_some _ e)
 refine wpAny_bind (wpAny_letGo ?_)
 refine xw (A:=A.in1) hh (hit.at fun o e=>up r o e) (?_) hlr (Nat.ne_of_gt rlt) (Nat.ne_of_gt llt) hz nS2 fun h' tk acc c' hk hS' ha=>?_
 ·obtain ⟨o,e,rest⟩:=hl
  exact ⟨o,up l o e,rest⟩
 ·exact ⟨rfl,hQ h' tk acc c' (fun b o b1 e=>hk b o (Nat.ne_of_lt (Heap.lt_size e)) b1 (up b o e)) hS' ha⟩
end
section
variable {X:Cx} {e:Expr} {te:TE} {p p2 pos pos2:Pos}
def Gn (K:PySem.W.Frag) (te:TE):TE:=fun σ H Q=>te σ H fun x H1=>∃a xs,x=.ref a∧bV K H1 a xs∧∀q,H1 q=none→Q (.ref q) (upd H1 q (.lst xs.reverse))
theorem Bc {xs:List V} {its:List Value} {acc:Array Value} (r:Vals xs its) (h:ItemsOf (yB its.toArray) acc its.toArray.size):Vals xs.reverse acc.toList:=by
 have e:acc.toList=its.reverse:=by
  apply List.ext_getElem?
  intro k
  by_cases c:k < its.length
  ·have hk:k < acc.size:=by rw [h.1];simpa using c
   have q:=h.2 k acc[k] (by simp [hk])
   simp only [yB,List.size_toArray,List.getElem?_toArray] at q
   rw [List.getElem?_reverse c,Array.getElem?_toList,Array.getElem?_eq_getElem hk]
   exact q.symm
  ·have e1:its.length≤k:=by omega
   have e2:acc.toList.length≤k:=by
    rw [Array.length_toList,h.1,List.size_toArray]
    exact e1
   rw [List.getElem?_eq_none e2,List.getElem?_eq_none (by rw [List.length_reverse];exact e1)]
 rw [e]
 exact r.reverse
theorem xy (hg:Gl X "list") (hm:X.mg "list"=none) (hg2:Gl X "reversed") (hm2:X.mg "reversed"=none) (hc:X.calm=true) (he:PE X e te)
  (hs:starEach [e] X.env=[(false,eval e X.env)]:=by rfl)
  (hs2:starEach [(.Call (.Name "reversed" p2) [e] [] pos2:Expr)] X.env=[(false,eval (.Call (.Name "reversed" p2) [e] [] pos2) X.env)]:=by rfl) :
  PE X (.Call (.Name "list" p) [.Call (.Name "reversed" p2) [e] [] pos2] [] pos) (Gn X.K te):=by
 intro pins s σ H Q I h
 refine Call_ (kC I hg hm (by decide +kernel:bootBuiltins "list"=some (.type "list")) (PyProof.Rows.callWith_type1 ?_ hs2 rfl))
 refine args_cons ?_ hs2
 refine Call_ (kC I hg2 hm2 rg (PyProof.Rows.callWith_type1 (args_cons (d4 (he pins s σ H _ I h) fun u s1 ⟨x,H1,I1,rx,a,xs,ex,hq,q⟩=>args_nil ?_) hs) hs rfl))
 subst ex
 obtain rfl:u=Value.ref a:=rx
 obtain ⟨its,rv,pl,hz⟩:=I1.list hq
 have hz':its.toArray.size≤sizeLine:=by
  have:=rv.length
  simp only [List.size_toArray]
  omega
 refine call_reversed_list pl.isList (args_nil ?_)
 have alt:a < s1.heap.objs.size:=pl.lt
 refine sy (I.ok.hd hc) ⟨_,Heap.get?_push_size _ rfl,rfl,rfl⟩ ?_ (Nat.ne_of_lt alt) hz' fun h' tk acc c' hk hS' ha=>?_
 ·obtain ⟨o,e1,rest⟩:=pl.isList
  exact ⟨o,Heap.get?_push_of_some _ e1,rest⟩
 ·have keep:∀b o,s1.heap.get? b=some o→h'.get? b=some o:=fun b o e1=>hk b o (Nat.ne_of_lt (Heap.lt_size e1)) (Heap.get?_push_of_some _ e1)
  have hp:s1.heap.objs.size≤(s1.heap.push { cls:=.type "list_reverseiterator",data:=.fields #[.ref a,rawInt ((its.toArray.size:Int) - 1)] }).objs.size:=by
   rw [Heap.size_push]
   exact Nat.le_succ _
  refine ⟨.ref _,_,I1.laid (o:=.lst xs.reverse) (t':=tk) keep hp ⟨?_,acc.toList,c',Bc rv ha,?_⟩,rfl,q _ (I1.dZ.fresh hp)⟩
  ·rw [List.length_reverse]
   exact hz
  ·rw [Array.toArray_toList]
   exact hS'
end
section
variable {prog:Program} {w:World} {A:Around} {E:Value→Shared→Prop} {s:Shared}
theorem yC {j u:Addr} {k:Nat} {its:Array Value} {y:Value} {Q:Value→Shared→Prop} (g:s.heap.IsTupleIter j u k) (gu:s.heap.IsTuple u its) (gy:its[k]?=some y)
  (hQ:∀h',h'.IsTupleIter j u (k + 1)→Heap.SameBut j s.heap h'→Q y { s with heap:=h' }):wpAny (model prog w) A (Builtin.SmallTypes.nextOf (.ref j)) Q E s:=by
 obtain ⟨oj,j1,j2,j3⟩:=id g
 obtain ⟨ou,u1,_,nu,u2⟩:=gu
 unfold Builtin.SmallTypes.nextOf
 refine wpAny_bind (wpAny_callSpecial?_slot (name:=Str.ofString "__next__") g.typeIs PySem.F.slot_tuple_iterator_next (wpAny_call_entry PySem.F.slot_tuple_iterator_next g.typeIs PySem.F.entry_tuple_iterator_next ?_ (PySem.F.args_tuple_iterator_next_1 _)))
 show wpAny _ _ (field (.ref j) 0 >>= _) _ _ s
 refine wpAny_bind (wpAny_field j1 j3 (x:=.ref u) rfl ?_)
 show wpAny _ _ (if (Value.ref u == Value.none)=true then _ else _) _ _ s
 rw [if_neg (show ¬ ((Value.ref u == Value.none)=true) from Bool.false_ne_true)]
 show wpAny _ _ (field (.ref j) 1 >>= _) _ _ s
 refine wpAny_bind (wpAny_field j1 j3 (x:=.int k 0) rfl ?_)
 show wpAny _ _ (seqItems? (.ref u) >>= _) _ _ s
 refine wpAny_bind (wpAny_seqItems u1 u2 ?_)
 simp only [Int.toNat_natCast,gy]
 refine wpAny_bind (wpAny_setField j1 j3 (by simp) (wpAny_pure ⟨y,rfl,wpAny_pure (hQ _ ?_ (Heap.SameBut.update ..))⟩))
 refine ⟨_,Heap.get?_update_self _ j1 (Obj.isFreed_of_fields (Obj.data_mapFields j3 _)),(Obj.cls_mapFields ..).trans j2,?_⟩
 rw [Obj.data_mapFields j3]
 simp [rawInt]
theorem DL {j u:Addr} {k:Nat} {its:Array Value} {Q:Value→Shared→Prop} (hh:A.handled=none) (g:s.heap.IsTupleIter j u k) (gu:s.heap.IsTuple u its) (gy:its[k]?=none)
  (hE:∀h' x,Heap.ExtBut j s.heap h'→(∃o,h'.get? x=some o∧o.cls=.type "StopIteration")→E (.ref x) { s with heap:=h' }):wpAny (model prog w) A (Builtin.SmallTypes.nextOf (.ref j)) Q E s:=by
 obtain ⟨oj,j1,j2,j3⟩:=id g
 obtain ⟨ou,u1,_,nu,u2⟩:=gu
 unfold Builtin.SmallTypes.nextOf
 refine wpAny_bind (wpAny_callSpecial?_slot (name:=Str.ofString "__next__") g.typeIs PySem.F.slot_tuple_iterator_next (wpAny_call_entry PySem.F.slot_tuple_iterator_next g.typeIs PySem.F.entry_tuple_iterator_next ?_ (PySem.F.args_tuple_iterator_next_1 _)))
 show wpAny _ _ (field (.ref j) 0 >>= _) _ _ s
 refine wpAny_bind (wpAny_field j1 j3 (x:=.ref u) rfl ?_)
 show wpAny _ _ (if (Value.ref u == Value.none)=true then _ else _) _ _ s
 rw [if_neg (show ¬ ((Value.ref u == Value.none)=true) from Bool.false_ne_true)]
 show wpAny _ _ (field (.ref j) 1 >>= _) _ _ s
 refine wpAny_bind (wpAny_field j1 j3 (x:=.int k 0) rfl ?_)
 show wpAny _ _ (seqItems? (.ref u) >>= _) _ _ s
 refine wpAny_bind (wpAny_seqItems u1 u2 ?_)
 simp only [Int.toNat_natCast,gy]
 refine wpAny_bind (wpAny_rule (wpAny_bind (wpAny_setField j1 j3 (by simp) ?_)))
 show wpAny _ _ (newExc (.type "StopIteration") ([]:List Value) >>= _) _ _ _
 refine wpAny_bind ?_
 simp only [newTuple,newExc]
 refine wpAny_bind (wpAny_newObj_type ?_ (by first | size_fits))
 refine wpAny_bind (m:=firstArgMember _ _) (wpAny_of_eq (a:=Value.none) (by first | rfl | (simp only [firstArgMember] <;> rfl)) ?_)
 refine wpAny_newObj_type ?_ (by first | size_fits)
 simp only [raiseNew]
 refine wpAny_bind (wpAny_handled (?_))
 first | rw [hh] | rw [show A.in1.handled=none from hh]
 refine wpAny_bind (wpAny_pure (wpAny_throw (?_)))
 exact hE _ _ (((Heap.SameBut.update ..).extBut.push _).push _) ⟨_,Heap.get?_push_size _ rfl,rfl⟩
theorem B_ {z TI TO i1 i2 l1 l2:Addr} {k1 k2:Nat} {xs ys:Array Value} {x y a b:Value} {Q:Value→Shared→Prop} (D:ZipApart z TI TO i1 i2 l1 l2) (hz:IsZip s.heap z TI TO .none) (hI:IsPair s.heap TI (.ref i1) (.ref i2)) (hO:IsPair s.heap TO a b)
  (g1:s.heap.IsTupleIter i1 l1 k1) (g2:s.heap.IsTupleIter i2 l2 k2) (t1:s.heap.IsTuple l1 xs) (t2:s.heap.IsTuple l2 ys) (hx:xs[k1]?=some x) (hy:ys[k2]?=some y)
  (hQ:∀h',IsZip h' z TI TO (rawInt s.heap.objs.size)→IsPair h' TO x y→h'.IsTupleIter i1 l1 (k1 + 1)→h'.IsTupleIter i2 l2 (k2 + 1)→IsPair h' s.heap.objs.size x y→
   (∀c o,c≠z→c≠TO→c≠i1→c≠i2→s.heap.get? c=some o→h'.get? c=some o)→Q (.ref s.heap.objs.size) { s with heap:=h' }) :
  wpAny (model prog w) A (Builtin.«zip.__next__» ⟨[.ref z],[]⟩) (fun fin s'=>∃v,fin=.done (.ret v)∧Q v s') E s:=by
 show wpAny _ _ (field (.ref z) 2 >>= _) _ _ s
 refine wpAny_bind (wpAny_field hz rfl (x:=.bool false) (by rfl) ?_)
 show wpAny _ _ (field (.ref z) 3 >>= _) _ _ s
 refine wpAny_bind (wpAny_field hz rfl (x:=.ref TI) (by rfl) ?_)
 refine wpAny_bind (wpAny_seqItems hI (by rfl) ?_)
 show wpAny _ _ (Builtin.SmallTypes.ownedTupleIsFree (.ref z) >>= _) _ _ s
 refine wpAny_bind ?_
 unfold Builtin.SmallTypes.ownedTupleIsFree
 refine wpAny_bind (wpAny_field hz rfl (x:=.none) (by rfl) (wpAny_pure ?_))
 simp only [if_true]
 refine wpAny_bind (wpAny_rule ?_)
 refine wpAny_bind (wpAny_field hz rfl (x:=.ref TO) (by rfl) ?_)
 refine wpAny_bind (wpAny_setField_rec hz (by simp) fun m1 z1 b1=>?_)
 replace z1:IsZip m1 z TI TO .ellipsis:=z1
 refine wpAny_bind ?_
 simp only [List.zipIdx_nil,List.zipIdx_cons,List.forIn_nil,List.forIn_cons]
 refine wpAny_bind (wpAny_bind (wpAny_onRaise (?_)))
 show wpAny _ _ (Builtin.SmallTypes.nextOf (Value.ref i1) >>= _) _ _ _
 refine wpAny_bind (yC (g1.extBut b1.extBut D.i1z) (t1.extBut b1.extBut D.l1z) hx fun m2 g1' b2=>wpAny_pure ?_)
 have o2:IsPair m2 TO a b:=b2.extBut _ _ D.TOi1 (b1.extBut _ _ D.TOz hO)
 refine wpAny_bind (wpAny_seqItems o2 (by rfl) ?_)
 refine wpAny_bind (wpAny_updateSeq_pair o2 fun m3 o3 b3=>?_)
 replace o3:IsPair m3 TO x b:=o3
 refine wpAny_bind (wpAny_letGo (wpAny_pure (?_)))
 refine wpAny_bind (wpAny_bind (wpAny_onRaise (?_)))
 show wpAny _ _ (Builtin.SmallTypes.nextOf (Value.ref i2) >>= _) _ _ _
 refine wpAny_bind (yC (((g2.extBut b1.extBut D.i2z).extBut b2.extBut D.i12.symm).extBut b3.extBut D.TOi2.symm) (((t2.extBut b1.extBut D.l2z).extBut b2.extBut D.l2i1).extBut b3.extBut D.l2TO) hy fun m4 g2' b4=>wpAny_pure ?_)
 have o4:IsPair m4 TO x b:=b4.extBut _ _ D.TOi2 o3
 refine wpAny_bind (wpAny_seqItems o4 (by rfl) ?_)
 refine wpAny_bind (wpAny_updateSeq_pair o4 fun m5 o5 b5=>?_)
 replace o5:IsPair m5 TO x y:=o5
 refine wpAny_bind (wpAny_letGo (wpAny_pure (wpAny_pure (?_))))
 refine wpAny_bind (wpAny_seqItems o5 (by rfl) ?_)
 refine wpAny_bind (wpAny_newTuple (?_))
 have sz:m5.objs.size=s.heap.objs.size:=by rw [b5.1,b4.1,b3.1,b2.1,b1.1]
 have z5:IsZip m5 z TI TO .ellipsis:=b5.extBut _ _ D.TOz.symm (b4.extBut _ _ D.i2z.symm (b3.extBut _ _ D.TOz.symm (b2.extBut _ _ D.i1z.symm z1)))
 have k5:∀c o,c≠z→c≠TO→c≠i1→c≠i2→s.heap.get? c=some o→m5.get? c=some o:=fun c o c1 c2 c3 c4 e=>b5.extBut _ _ c2 (b4.extBut _ _ c4 (b3.extBut _ _ c2 (b2.extBut _ _ c3 (b1.extBut _ _ c1 e))))
 have q1:m5.IsTupleIter i1 l1 (k1 + 1):=((g1'.extBut b3.extBut D.TOi1.symm).extBut b4.extBut D.i12).extBut b5.extBut D.TOi1.symm
 have q2:m5.IsTupleIter i2 l2 (k2 + 1):=g2'.extBut b5.extBut D.TOi2.symm
 have zlt:z < m5.objs.size:=Heap.lt_size z5
 show wpAny _ _ (Builtin.SmallTypes.ownedTupleHandOut (.ref z) (.ref m5.objs.size) >>= _) _ _ _
 refine wpAny_bind ?_
 unfold Builtin.SmallTypes.ownedTupleHandOut
 have z6:IsZip (m5.push { cls:=.type "tuple",data:=.seq #[x,y] }) z TI TO .ellipsis:=Heap.get?_push_of_some _ z5
 refine wpAny_bind (wpAny_setField_rec z6 (by simp) fun m7 z7 b7=>?_)
 replace z7:IsZip m7 z TI TO (rawInt m5.objs.size):=z7
 refine wpAny_setField_rec z7 (by simp) fun m8 z8 b8=>?_
 replace z8:IsZip m8 z TI TO (rawInt m5.objs.size):=z8
 have up:∀c o,c≠z→m5.get? c=some o→m8.get? c=some o:=fun c o c1 e=>b8.extBut _ _ c1 (b7.extBut _ _ c1 (Heap.get?_push_of_some _ e))
 have t8:IsPair m8 m5.objs.size x y:=b8.extBut _ _ (Nat.ne_of_gt zlt) (b7.extBut _ _ (Nat.ne_of_gt zlt) (Heap.get?_push_size _ rfl))
 rw [sz] at z8 t8
 refine wpAny_pure ⟨_,rfl,?_⟩
 show Q (.ref m5.objs.size) _
 rw [sz]
 exact hQ m8 z8 (up _ _ D.TOz o5) (q1.at fun o e=>up _ o D.i1z e) (q2.at fun o e=>up _ o D.i2z e) t8 fun c o c1 c2 c3 c4 e=>up c o c1 (k5 c o c1 c2 c3 c4 e)
theorem Ca {z TI TO i1 i2 l1 l2:Addr} {k1 k2:Nat} {xs ys:Array Value} {x y a b:Value} {Q:Option Value→Shared→Prop} (D:ZipApart z TI TO i1 i2 l1 l2) (hz:IsZip s.heap z TI TO .none) (hI:IsPair s.heap TI (.ref i1) (.ref i2)) (hO:IsPair s.heap TO a b)
  (g1:s.heap.IsTupleIter i1 l1 k1) (g2:s.heap.IsTupleIter i2 l2 k2) (t1:s.heap.IsTuple l1 xs) (t2:s.heap.IsTuple l2 ys) (hx:xs[k1]?=some x) (hy:ys[k2]?=some y)
  (hQ:∀h',IsZip h' z TI TO (rawInt s.heap.objs.size)→IsPair h' TO x y→h'.IsTupleIter i1 l1 (k1 + 1)→h'.IsTupleIter i2 l2 (k2 + 1)→IsPair h' s.heap.objs.size x y→
   (∀c o,c≠z→c≠TO→c≠i1→c≠i2→s.heap.get? c=some o→h'.get? c=some o)→Q (some (.ref s.heap.objs.size)) { s with heap:=h' }):wpAny (model prog w) A (pyNext (.ref z)) Q E s:=by
 have ty:s.TypeIs (.ref z) "zip":=⟨_,hz,rfl⟩
 unfold pyNext
 refine wpAny_bind (wpAny_attempt (wpAny_callSpecial?_slot (name:=Str.ofString "__next__") ty PySem.F.slot_zip_next (wpAny_call_entry PySem.F.slot_zip_next ty PySem.F.entry_zip_next ?_ (PySem.F.args_zip_next_1 _))))
 exact B_ D hz hI hO g1 g2 t1 t2 hx hy fun h' a1 a2 a3 a4 a5 a6=>wpAny_pure (hQ h' a1 a2 a3 a4 a5 a6)
theorem DM {z TI TO i1 i2 l1 l2:Addr} {k1:Nat} {xs:Array Value} {a b:Value} {Q:Option Value→Shared→Prop} (hh:A.handled=none) (D:ZipApart z TI TO i1 i2 l1 l2) (hz:IsZip s.heap z TI TO .none) (hI:IsPair s.heap TI (.ref i1) (.ref i2)) (hO:IsPair s.heap TO a b)
  (g1:s.heap.IsTupleIter i1 l1 k1) (t1:s.heap.IsTuple l1 xs) (hx:xs[k1]?=none)
  (hQ:∀h',(∀c o,c≠z→c≠TO→c≠i1→c≠i2→s.heap.get? c=some o→h'.get? c=some o)→Q none { s with heap:=h' }):wpAny (model prog w) A (pyNext (.ref z)) Q E s:=by
 have ty:s.TypeIs (.ref z) "zip":=⟨_,hz,rfl⟩
 unfold pyNext
 refine wpAny_bind (wpAny_attempt (wpAny_callSpecial?_slot (name:=Str.ofString "__next__") ty PySem.F.slot_zip_next (wpAny_call_entry PySem.F.slot_zip_next ty PySem.F.entry_zip_next ?_ (PySem.F.args_zip_next_1 _))))
 show wpAny _ _ (field (.ref z) 2 >>= _) _ _ s
 refine wpAny_bind (wpAny_field hz rfl (x:=.bool false) (by rfl) ?_)
 show wpAny _ _ (field (.ref z) 3 >>= _) _ _ s
 refine wpAny_bind (wpAny_field hz rfl (x:=.ref TI) (by rfl) ?_)
 refine wpAny_bind (wpAny_seqItems hI (by rfl) ?_)
 show wpAny _ _ (Builtin.SmallTypes.ownedTupleIsFree (.ref z) >>= _) _ _ s
 refine wpAny_bind ?_
 unfold Builtin.SmallTypes.ownedTupleIsFree
 refine wpAny_bind (wpAny_field hz rfl (x:=.none) (by rfl) (wpAny_pure ?_))
 simp only [if_true]
 refine wpAny_bind (wpAny_rule ?_)
 refine wpAny_bind (wpAny_field hz rfl (x:=.ref TO) (by rfl) ?_)
 refine wpAny_bind (wpAny_setField_rec hz (by simp) fun m1 z1 b1=>?_)
 replace z1:IsZip m1 z TI TO .ellipsis:=z1
 refine wpAny_bind ?_
 simp only [List.zipIdx_nil,List.zipIdx_cons,List.forIn_nil,List.forIn_cons]
 refine wpAny_bind (wpAny_bind (wpAny_onRaise (?_)))
 show wpAny _ _ (Builtin.SmallTypes.nextOf (Value.ref i1) >>= _) _ _ _
 refine wpAny_bind (DL hh (g1.extBut b1.extBut D.i1z) (t1.extBut b1.extBut D.l1z) hx fun m2 x b2 hx2=>?_)
 obtain ⟨ox,x1,x2⟩:=hx2
 have z2:IsZip m2 z TI TO .ellipsis:=b2 _ _ D.i1z.symm z1
 have xz:x≠z:=fun q=>by subst q;rw [z2] at x1;cases x1;simp at x2
 refine wpAny_setField_rec z2 (by simp) fun m3 _ b3=>?_
 refine wpAny_bind (wpAny_isInstance (T:="StopIteration") (b:=true) ⟨ox,b3.extBut _ _ xz x1,x2⟩ isSubtype_stop ?_)
 exact wpAny_pure (hQ _ fun c o c1 _ c3 _ e=>b3.extBut _ _ c1 (b2 _ _ c3 (b1.extBut _ _ c1 e)))
end
abbrev Cb (h:Heap) (l1:Addr):Heap:=h.push { cls:=.type "tuple_iterator",data:=.fields #[.ref l1,.int 0 0] }
abbrev Cc (h:Heap) (l1 l2:Addr):Heap:=(Cb h l1).push { cls:=.type "tuple_iterator",data:=.fields #[.ref l2,.int 0 0] }
abbrev Cd (h:Heap) (l1 l2:Addr):Heap:=(Cc h l1 l2).push { cls:=.type "tuple",data:=.seq #[.ref h.objs.size,.ref (Cb h l1).objs.size] }
abbrev Ce (h:Heap) (l1 l2:Addr):Heap:=(Cd h l1 l2).push { cls:=.type "tuple",data:=.seq #[.none,.none] }
abbrev zX (h:Heap) (l1 l2:Addr):Heap:=(Ce h l1 l2).push { cls:=.type "zip",data:=.fields #[.none,.bool false,.bool false,.ref (Cc h l1 l2).objs.size,.ref (Cd h l1 l2).objs.size] }
theorem DN (l1 l2:Addr) (xs ys:Array Value):Meets (Builtin.«zip.__new__» ⟨[.type "zip",.ref l1,.ref l2],[]⟩) (fun _ R s=>s.heap.IsTuple l1 xs∧s.heap.IsTuple l2 ys∧R (.ok (.ret (.ref (Ce s.heap l1 l2).objs.size))) { s with heap:=zX s.heap l1 l2 }):=
 .of_wp fun prog w A R s h=>by
  obtain ⟨hp,g,d,tk,os⟩:=s
  obtain ⟨t1,t2,h⟩:=h
  have su:=sub_zip
  have T1:Heap.IsTuple (Shared.heap ⟨hp,g,d,tk,os⟩) l1 xs:=t1
  have T2:Heap.IsTuple (Shared.heap ⟨hp.push { cls:=.type "tuple_iterator",data:=.fields #[.ref l1,.int 0 0] },g,d,tk,os⟩) l2 ys:=Heap.IsTuple.push t2 _
  wp_walk using wpAny_pyIter_tuple T1,wpAny_pyIter_tuple T2
  exact ⟨_,rfl,h⟩
section
variable {prog:Program} {w:World} {A:Around} {E:Value→Shared→Prop} {s:Shared}
theorem Cf {l1 l2:Addr} {xs ys:Array Value} {Q:Value→Shared→Prop} (t1:s.heap.IsTuple l1 xs) (t2:s.heap.IsTuple l2 ys)
  (h:∀h',IsZip h' (s.heap.objs.size + 4) (s.heap.objs.size + 2) (s.heap.objs.size + 3) .none→IsPair h' (s.heap.objs.size + 2) (.ref s.heap.objs.size) (.ref (s.heap.objs.size + 1))→IsPair h' (s.heap.objs.size + 3) .none .none→
   h'.IsTupleIter s.heap.objs.size l1 0→h'.IsTupleIter (s.heap.objs.size + 1) l2 0→(∀c o,s.heap.get? c=some o→h'.get? c=some o)→Q (.ref (s.heap.objs.size + 4)) { s with heap:=h' }) :
  wpAny (model prog w) A (call (.type "zip") [.ref l1,.ref l2]) Q E s:=by
 refine callType_new PySem.F.called_zip (by decide) (PySem.F.typeCall_zip_2 _ _) (PySem.F.newCall_zip_2 _ _) (fun obj=>PySem.F.args_object_init_3 obj _ _) PySem.F.entry_zip_new (DN l1 l2 xs ys) ⟨t1,t2,?_⟩
 have z1:(Cb s.heap l1).objs.size=s.heap.objs.size + 1:=Heap.size_push ..
 have z2:(Cc s.heap l1 l2).objs.size=s.heap.objs.size + 2:=by rw [Heap.size_push,z1]
 have z3:(Cd s.heap l1 l2).objs.size=s.heap.objs.size + 3:=by rw [Heap.size_push,z2]
 have z4:(Ce s.heap l1 l2).objs.size=s.heap.objs.size + 4:=by rw [Heap.size_push,z3]
 have p:∀(h:Heap) (o:Obj) (c:Addr) (u:Obj),h.get? c=some u→(h.push o).get? c=some u:=fun h o c u e=>Heap.get?_push_of_some _ e
 have g5:(zX s.heap l1 l2).get? (Ce s.heap l1 l2).objs.size=some _:=Heap.get?_push_size _ rfl
 have g4:(zX s.heap l1 l2).get? (Cd s.heap l1 l2).objs.size=some _:=p _ _ _ _ (Heap.get?_push_size _ rfl)
 have g3:(zX s.heap l1 l2).get? (Cc s.heap l1 l2).objs.size=some _:=p _ _ _ _ (p _ _ _ _ (Heap.get?_push_size _ rfl))
 have g2:(zX s.heap l1 l2).get? (Cb s.heap l1).objs.size=some _:=p _ _ _ _ (p _ _ _ _ (p _ _ _ _ (Heap.get?_push_size _ rfl)))
 have g1:(zX s.heap l1 l2).get? s.heap.objs.size=some _:=p _ _ _ _ (p _ _ _ _ (p _ _ _ _ (p _ _ _ _ (Heap.get?_push_size _ rfl))))
 show _∧_
 rw [z2,z3,z4] at g5
 rw [z1,z2] at g3
 rw [z3] at g4
 rw [z1] at g2
 rw [z4]
 exact ⟨⟨_,g5,rfl⟩,h _ g5 g3 g4 ⟨_,g1,rfl,rfl⟩ ⟨_,g2,rfl,rfl⟩ fun c o e=>p _ _ _ _ (p _ _ _ _ (p _ _ _ _ (p _ _ _ _ (p _ _ _ _ e))))⟩
end
def E3 (K:PySem.W.Frag) (a b:Addr):It:=
 ⟨fun i H=>∃(xs ys:List V) (x y:V),ju K H a xs∧ju K H b ys∧xs[i]?=some x∧ys[i]?=some y,
  fun i H v H'=>∃T x y,v=.ref T∧H T=none∧H'=upd H T (.tup [x,y])∧(∀xs,ju K H a xs→xs[i]?=some x)∧∀ys,ju K H b ys→ys[i]?=some y,
  fun i H=>∃xs ys:List V,ju K H a xs∧ju K H b ys∧xs.length≤i⟩
theorem Cg {P:Program} {w:World} {K:PySem.W.Frag} {elts:List Expr} {kk:Nat} {tpos:Pos} {a b z TI TO i1 i2:Addr} (D:ZipApart z TI TO i1 i2 a b) :
  Turn P w K (.Tuple elts kk tpos) (E3 K a b) [z,TI,TO,i1,i2] z (fun i h=>IsZip h z TI TO .none∧IsPair h TI (.ref i1) (.ref i2)∧(∃x y,IsPair h TO x y)∧h.IsTupleIter i1 a i∧h.IsTupleIter i2 b i) where
 mem:=by simp
 obj:=fun i h st c hc=>by
  obtain ⟨hz,hTI,⟨x,y,hTO⟩,⟨o1,e1,_,d1⟩,⟨o2,e2,_,d2⟩⟩:=st
  have e':c=z∨c=TI∨c=TO∨c=i1∨c=i2:=by simpa using hc
  rcases e' with q | q | q | q | q
  ·rw [q];exact ⟨_,hz,fun v q=>nomatch q⟩
  ·rw [q];exact ⟨_,hTI,fun v q=>nomatch q⟩
  ·rw [q];exact ⟨_,hTO,fun v q=>nomatch q⟩
  ·rw [q];exact ⟨o1,e1,fun v q=>by rw [d1] at q;cases q⟩
  ·rw [q];exact ⟨o2,e2,fun v q=>by rw [d2] at q;cases q⟩
 keep:=fun i h h' st k=>by
  obtain ⟨hz,hTI,⟨x,y,hTO⟩,h1,h2⟩:=st
  exact ⟨k z (by simp) _ hz,k TI (by simp) _ hTI,⟨x,y,k TO (by simp) _ hTO⟩,h1.at fun o q=>k i1 (by simp) o q,h2.at fun o q=>k i2 (by simp) o q⟩
 item:=by
  intro X hP hw hK hc i pins s σ H E I hf st hg
  subst hP hw hK
  obtain ⟨hz,hTI,⟨x0,y0,hTO⟩,h1,h2⟩:=st
  obtain ⟨xs,ys,x,y,hqx,hqy,hx,hy⟩:=hg
  obtain ⟨its,rv,p,_⟩:=I.tuple hqx
  obtain ⟨its2,rv2,p2,_⟩:=I.tuple hqy
  obtain ⟨u,hu,ru⟩:=rv.get hx
  obtain ⟨u2,hu2,ru2⟩:=rv2.get hy
  have hzl:z < s.heap.objs.size:=Heap.lt_size hz
  refine Ca D hz hTI hTO h1 h2 (show s.heap.IsTuple a its.toArray from p) (show s.heap.IsTuple b its2.toArray from p2) (x:=u) (y:=u2) (by simpa using hu) (by simpa using hu2) fun h' z' TO' h1' h2' hT hk=>?_
  refine ⟨_,rfl,wpAny_letOwnedTupleGo_zip (s:={ s with heap:=h' }) z' fun h'' z'' sb=>?_⟩
  have hT2:h''.get? s.heap.objs.size=some { cls:=.type "tuple",data:=.seq #[u,u2] }:=(sb.2 _ (Nat.ne_of_gt hzl)).trans hT
  have new:gm X.prog X.w (upd H s.heap.objs.size (.tup [x,y])) h'' s.heap.objs.size (.tup [x,y]):=
   ⟨by show 2≤sizeLine;decide,[u,u2],.cons ru (.cons ru2 .nil),⟨_,hT2,rfl,_,rfl⟩⟩
  have I1:Inv X pins σ (upd H s.heap.objs.size (.tup [x,y])) { s with heap:=h'' }:=
   I.tq (t':=s.toks) (ch:=[z,TI,TO,i1,i2]) (fun c o hb q=>(sb.2 c (fun q'=>hb (by simp [q']))).trans (hk c o (fun q'=>hb (by simp [q'])) (fun q'=>hb (by simp [q'])) (fun q'=>hb (by simp [q'])) (fun q'=>hb (by simp [q'])) q)) hf (Nat.le_refl _) new
  refine ⟨.ref s.heap.objs.size,_,I1,rfl,⟨_,x,y,rfl,I.dZ.fresh (Nat.le_refl _),rfl,fun l hl=>by rw [I.o8 hl hqx];exact hx,fun l hl=>by rw [I.o8 hl hqy];exact hy⟩,⟨z'',?_,⟨u,u2,?_⟩,?_,?_⟩,fun c hcm=>?_⟩
  ·exact (sb.2 _ D.TIz).trans (hk _ _ D.TIz D.TITO D.TIi1 D.TIi2 hTI)
  ·exact (sb.2 _ D.TOz).trans TO'
  ·exact h1'.at fun o q=>(sb.2 _ D.i1z).trans q
  ·exact h2'.at fun o q=>(sb.2 _ D.i2z).trans q
  ·have hlt:c < s.heap.objs.size:=by
    have e':c=z∨c=TI∨c=TO∨c=i1∨c=i2:=by simpa using hcm
    rcases e' with q | q | q | q | q
    ·rw [q];exact hzl
    ·rw [q];exact Heap.lt_size hTI
    ·rw [q];exact Heap.lt_size hTO
    ·rw [q];obtain ⟨_,e1,_⟩:=h1;exact Heap.lt_size e1
    ·rw [q];obtain ⟨_,e2,_⟩:=h2;exact Heap.lt_size e2
   rw [aj (Nat.ne_of_lt hlt)]
   exact (hf c hcm).1
 done:=by
  intro X hP hw hK hc i pins s σ H E I hf st hg
  subst hP hw hK
  obtain ⟨hz,hTI,⟨x0,y0,hTO⟩,h1,h2⟩:=st
  obtain ⟨xs,ys,hqx,hqy,hend⟩:=hg
  obtain ⟨its,rv,p,_⟩:=I.tuple hqx
  have l1:=rv.length
  exact DM (I.ok.hd hc) D hz hTI hTO h1 (show s.heap.IsTuple a its.toArray from p) (by simp;omega) fun h' hk=>⟨rfl,I.BY (t':=s.toks) (ch:=[z,TI,TO,i1,i2]) (fun c o hb q=>
   hk c o (fun q'=>hb (by simp [q'])) (fun q'=>hb (by simp [q'])) (fun q'=>hb (by simp [q'])) (fun q'=>hb (by simp [q'])) q) hf⟩
 self:=fun A i s Q E st h=>wpAny_pyIter_zip st.1 h
def GU (K:PySem.W.Frag) (ta:TA):TI:=fun σ H R=>ta σ H fun vs H1=>∃a b xs ys,vs=[.ref a,.ref b]∧ju K H1 a xs∧ju K H1 b ys∧R (E3 K a b) H1
theorem CS {X:Cx} {e e2:Expr} {ta:TA} {p pos tpos:Pos} {elts:List Expr} {kk:Nat} (hg:Gl X "zip") (hm:X.mg "zip"=none) (ha:PA X [e,e2] ta)
  (hs:starEach [e,e2] X.env=(false,eval e X.env) :: starEach [e2] X.env:=by rfl) (hpl:(backTo pos (starEach [e2] X.env)).any (·.1)=false:=by rfl) :
  PI X (.Tuple elts kk tpos) (.Call (.Name "zip" p) [e,e2] [] pos) (GU X.K ta):=by
 intro pins s σ H R I h
 refine Call_ (kC I hg hm zC (PyProof.Rows.callWith_type1 (d4 (ha pos pins s σ H _ I h) fun us s1 ⟨vs,H1,I1,r1,q1⟩=>?_) hs hpl))
 obtain ⟨a,b,xs,ys,ex,hqx,hqy,q⟩:=q1
 subst ex
 cases r1 with
 | cons r rr=>
  cases rr with
  | cons r' rr=>
   cases rr
   cases r
   cases r'
   obtain ⟨its,rv,p1,_⟩:=I1.tuple hqx
   obtain ⟨its2,rv2,p2,_⟩:=I1.tuple hqy
   have la:a < s1.heap.objs.size:=by obtain ⟨_,e1,_⟩:=p1;exact Heap.lt_size e1
   have lb:b < s1.heap.objs.size:=by obtain ⟨_,e1,_⟩:=p2;exact Heap.lt_size e1
   refine Cf (show s1.heap.IsTuple a its.toArray from p1) (show s1.heap.IsTuple b its2.toArray from p2) fun h' hz hTI hTO h1 h2 hk=>wpAny_pyIter_zip hz ?_
   have I2:Inv X pins σ H1 { s1 with heap:=h' }:=I1.kept (t':=s1.toks) hk
   refine ⟨s1.heap.objs.size + 4,[s1.heap.objs.size + 4,s1.heap.objs.size + 2,s1.heap.objs.size + 3,s1.heap.objs.size,s1.heap.objs.size + 1],_,_,H1,rfl,I2,Cg (PySem.W.ktu_apart s1.heap.objs.size a b la lb),⟨hz,hTI,⟨_,_,hTO⟩,h1,h2⟩,fun c hcm=>?_,q⟩
   have e':c=s1.heap.objs.size + 4∨c=s1.heap.objs.size + 2∨c=s1.heap.objs.size + 3∨c=s1.heap.objs.size∨c=s1.heap.objs.size + 1:=by simpa using hcm
   have hle:s1.heap.objs.size≤c:=by
    rcases e' with z | z | z | z | z
    ·rw [z];exact Nat.le_add_right _ _
    ·rw [z];exact Nat.le_add_right _ _
    ·rw [z];exact Nat.le_add_right _ _
    ·rw [z];exact Nat.le_refl _
    ·rw [z];exact Nat.le_add_right _ _
   exact I1.wL hle (I1.dZ.fresh hle)
theorem Bd {K:PySem.W.Frag} {a b:Addr} {xs ys:List V} {g:TG} {tb:TS} {D:Ends} {σ:L2.St} {H:Hp} (Pv:Nat→L2.St→Hp→Prop) (hxy:xs.length=ys.length) (h0:Pv 0 σ H) (hl:∀i σ H,i≤xs.length→Pv i σ H→ju K H a xs∧ju K H b ys)
  (hs:∀i x y σ H T,xs[i]?=some x→ys[i]?=some y→Pv i σ H→H T=none→g (.ref T) σ (upd H T (.tup [x,y])) fun σ2 H2=>tb { D with nx:=Pv (i + 1),ct:=Pv (i + 1),bk:=D.nx } σ2 H2) (hd:∀σ H,Pv xs.length σ H→D.nx σ H) :
  ∃W:Nat→Nat→L2.St→Hp→Prop,(∃m,W 0 m σ H)∧∀i m σ H,W i m σ H→
   ((E3 K a b).stop i H∧D.nx σ H)∨((E3 K a b).go i H∧∃N:L2.St→Hp→Prop,(∀σ' H',N σ' H'→∃m',m' < m∧W (i + 1) m' σ' H')∧∀x H',(E3 K a b).zj i H x H'→g x σ H' fun σ2 H2=>tb { D with nx:=N,ct:=N,bk:=D.nx } σ2 H2):=by
 refine ⟨fun i m σ H=>m=xs.length - i∧i≤xs.length∧Pv i σ H,⟨xs.length,by simp,Nat.zero_le _,h0⟩,?_⟩
 rintro i m σ H ⟨rfl,hi,p⟩
 obtain ⟨q1,q2⟩:=hl i σ H hi p
 by_cases hlt:i < xs.length
 ·refine .inr ⟨⟨xs,ys,xs[i],ys[i]'(by omega),q1,q2,by simp [hlt],by rw [List.getElem?_eq_getElem]⟩,Pv (i + 1),fun σ' H' p'=>⟨xs.length - (i + 1),by omega,rfl,hlt,p'⟩,fun v H' yl=>?_⟩
  obtain ⟨T,x,y,e,hT,e2,y1,y2⟩:=yl
  subst e e2
  exact hs i x y σ _ T (y1 xs q1) (y2 ys q2) p hT
 ·have e:i=xs.length:=by omega
  subst e
  exact .inl ⟨⟨xs,ys,q1,q2,Nat.le_refl _⟩,hd σ H p⟩
def top (i:Nat):Stmt:=PySem.Challenge.pw_screenviewer_s01_answers.main.body.getD i (.Pass ⟨0,0,0,0⟩)
abbrev iH:Stmt:=top 1
abbrev eV:Stmt:=top 2
abbrev eW:Stmt:=top 3
abbrev jz:Stmt:=top 5
abbrev gv:Stmt:=top 6
abbrev iI:Stmt:=top 13
abbrev iJ:Stmt:=top 14
abbrev kL:Stmt:=top 15
abbrev iK:Stmt:=top 16
abbrev oB:Stmt:=top 18
abbrev oC:Stmt:=top 19
abbrev ua:Stmt:=top 20
abbrev ub:Stmt:=top 21
abbrev qG:Stmt:=top 22
abbrev kM:Stmt:=top 23
abbrev gw:Stmt:=top 37
abbrev dN:Stmt:=top 38
abbrev jA:Stmt:=top 39
abbrev gS:Stmt:=top 40
abbrev jB:Stmt:=top 41
abbrev jC:Stmt:=top 42
abbrev eD:Stmt:=top 43
abbrev jD:Stmt:=top 44
abbrev eX:Stmt:=top 45
abbrev fD:Stmt:=top 50
abbrev eE:Stmt:=top 51
abbrev eY:Stmt:=top 52
abbrev jE:Stmt:=top 59
abbrev gT:Stmt:=top 60
abbrev iL:Stmt:=top 61
abbrev gx:Stmt:=top 62
abbrev eZ:Stmt:=top 63
abbrev fY:Stmt:=top 64
abbrev gU:Stmt:=top 74
abbrev jF:Stmt:=top 75
abbrev gW:Stmt:=top 76
abbrev jG:Stmt:=top 77
abbrev eF:Stmt:=top 78
abbrev d6:Stmt:=top 79
abbrev fE:Stmt:=top 80
abbrev fF:Stmt:=top 81
abbrev fG:Stmt:=top 90
abbrev jH:Stmt:=top 91
abbrev gX:Stmt:=top 92
abbrev gY:Stmt:=top 93
abbrev dz:Stmt:=top 94
abbrev gZ:Stmt:=top 95
abbrev jI:Stmt:=top 96
abbrev iM:Stmt:=top 97
abbrev jJ:Stmt:=top 98
abbrev uc:Stmt:=top 101
abbrev iN:Stmt:=top 102
abbrev kl:Stmt:=top 121
abbrev kN:Stmt:=top 122
abbrev g7:Stmt:=top 123
abbrev iO:Stmt:=top 124
abbrev gz:Stmt:=top 125
abbrev kO:Stmt:=top 126
abbrev iP:Stmt:=top 127
abbrev kP:Stmt:=top 128
abbrev fZ:Stmt:=top 129
abbrev ud:Stmt:=top 130
abbrev mx:Stmt:=top 131
abbrev fk:Stmt:=inClass (top 12) 0
abbrev du:Stmt:=inClass (top 30) 0
abbrev cJ:Stmt:=inClass (top 30) 1
abbrev dv:Stmt:=inClass (top 30) 2
abbrev cf:Stmt:=inClass (top 30) 3
abbrev dw:Stmt:=inClass (top 30) 4
abbrev cx:Stmt:=inClass (top 30) 5
abbrev c9:Stmt:=inClass (top 30) 6
abbrev bU:Stmt:=inClass (top 30) 7
abbrev bJ:Stmt:=inClass (top 30) 8
abbrev cK:Stmt:=inClass (top 49) 0
abbrev fm:Stmt:=inClass (top 73) 0
theorem mS:aB ["form","table","pixels","pixel"] ["form","table","pixels"] (aw iH):=⟨rfl,rfl,rfl,by decide +kernel,rfl,by decide +kernel,by decide +kernel⟩
theorem ji:aB ["form","pixel","colour","greatest","shift","part"] ["form","pixel"] (aw eV):=⟨rfl,rfl,rfl,by decide +kernel,rfl,by decide +kernel,by decide +kernel⟩
theorem jj:aB ["table","pixel","colour","part"] ["table","pixel"] (aw eW):=⟨rfl,rfl,rfl,by decide +kernel,rfl,by decide +kernel,by decide +kernel⟩
theorem oE:aB ["words","at","size","number","byte"] ["words","at","size"] (aw jz):=⟨rfl,rfl,rfl,by decide +kernel,rfl,by decide +kernel,by decide +kernel⟩
theorem lu:aB ["number","size","place"] ["number","size"] (aw gv):=⟨rfl,rfl,rfl,by decide +kernel,rfl,by decide +kernel,by decide +kernel⟩
theorem sC:aB ["form"] ["form"] (aw iI):=⟨rfl,rfl,rfl,by decide +kernel,rfl,by decide +kernel,by decide +kernel⟩
theorem mT:aB ["form","greatest","shift"] ["form"] (aw iJ):=⟨rfl,rfl,rfl,by decide +kernel,rfl,by decide +kernel,by decide +kernel⟩
theorem pZ:aB ["form","words","at","pixel_bytes"] ["form","words","at"] (aw kL):=⟨rfl,rfl,rfl,by decide +kernel,rfl,by decide +kernel,by decide +kernel⟩
theorem mU:aB ["form","words","width","height","pixels","at","row"] ["form","words","width","height"] (aw iK):=⟨rfl,rfl,rfl,by decide +kernel,rfl,by decide +kernel,by decide +kernel⟩
theorem zY:aB ["left","top","width","height","columns","rows"] ["left","top","width","height","columns","rows"] (aw oB):=⟨rfl,rfl,rfl,by decide +kernel,rfl,by decide +kernel,by decide +kernel⟩
theorem zZ:aB ["width","height","pixel"] ["width","height","pixel"] (aw oC):=⟨rfl,rfl,rfl,by decide +kernel,rfl,by decide +kernel,by decide +kernel⟩
theorem Ci:aB ["picture","left","top","width","height","pixel"] ["picture","left","top","width","height","pixel"] (aw ua):=⟨rfl,rfl,rfl,by decide +kernel,rfl,by decide +kernel,by decide +kernel⟩
theorem yD:aB ["picture","from_left","from_top","left","top","width","height","places","place","row","stripe"] ["picture","from_left","from_top","left","top","width","height"] (aw ub):=⟨rfl,rfl,rfl,by decide +kernel,rfl,by decide +kernel,by decide +kernel⟩
theorem vM:aB ["picture","left","top","piece","place","stripe"] ["picture","left","top","piece"] (aw qG):=⟨rfl,rfl,rfl,by decide +kernel,rfl,by decide +kernel,by decide +kernel⟩
theorem p7:aB ["row","left","stripe","changed"] ["row","left","stripe"] (aw kM):=⟨rfl,rfl,rfl,by decide +kernel,rfl,by decide +kernel,by decide +kernel⟩
theorem lx:aB ["session","words","sign"] ["session","words"] (aw gw):=⟨rfl,rfl,rfl,by decide +kernel,rfl,by decide +kernel,by decide +kernel⟩
theorem lB:aB ["session","words"] ["session","words"] (aw dN):=⟨rfl,rfl,rfl,by decide +kernel,rfl,by decide +kernel,by decide +kernel⟩
theorem ue:aB ["session","words"] ["session","words"] (aw jA):=⟨rfl,rfl,rfl,by decide +kernel,rfl,by decide +kernel,by decide +kernel⟩
theorem rG:aB ["session","words"] ["session","words"] (aw gS):=⟨rfl,rfl,rfl,by decide +kernel,rfl,by decide +kernel,by decide +kernel⟩
theorem uf:aB ["session","words"] ["session","words"] (aw jB):=⟨rfl,rfl,rfl,by decide +kernel,rfl,by decide +kernel,by decide +kernel⟩
theorem ug:aB ["session","words"] ["session","words"] (aw jC):=⟨rfl,rfl,rfl,by decide +kernel,rfl,by decide +kernel,by decide +kernel⟩
theorem iA:aB ["session","words","length"] ["session","words"] (aw eD):=⟨rfl,rfl,rfl,by decide +kernel,rfl,by decide +kernel,by decide +kernel⟩
theorem uh:aB ["session","words"] ["session","words"] (aw jD):=⟨rfl,rfl,rfl,by decide +kernel,rfl,by decide +kernel,by decide +kernel⟩
theorem jk:aB ["message","coding"] [] (aw eX):=⟨rfl,rfl,rfl,by decide +kernel,rfl,by decide +kernel,by decide +kernel⟩
theorem oF:aB ["session"] ["session"] (aw fD):=⟨rfl,rfl,rfl,by decide +kernel,rfl,by decide +kernel,by decide +kernel⟩
theorem iB:aB ["session","picture","rectangle"] ["session","picture"] (aw eE):=⟨rfl,rfl,rfl,by decide +kernel,rfl,by decide +kernel,by decide +kernel⟩
theorem nt:aB ["session"] ["session"] (aw eY):=⟨rfl,rfl,rfl,by decide +kernel,rfl,by decide +kernel,by decide +kernel⟩
theorem oG:aB ["session","words","kind"] ["session","words"] (aw jE):=⟨rfl,rfl,rfl,by decide +kernel,rfl,by decide +kernel,by decide +kernel⟩
theorem rH:aB ["session","words"] ["session","words"] (aw gT):=⟨rfl,rfl,rfl,by decide +kernel,rfl,by decide +kernel,by decide +kernel⟩
theorem mV:aB ["session","words","first","many"] ["session","words"] (aw iL):=⟨rfl,rfl,rfl,by decide +kernel,rfl,by decide +kernel,by decide +kernel⟩
theorem ly:aB ["session","words","at","colour"] ["session","words"] (aw gx):=⟨rfl,rfl,rfl,by decide +kernel,rfl,by decide +kernel,by decide +kernel⟩
theorem jl:aB ["session","words","length"] ["session","words"] (aw eZ):=⟨rfl,rfl,rfl,by decide +kernel,rfl,by decide +kernel,by decide +kernel⟩
theorem pI:aB ["session","words"] ["session","words"] (aw fY):=⟨rfl,rfl,rfl,by decide +kernel,rfl,by decide +kernel,by decide +kernel⟩
theorem lW:aB ["session","rectangle","row"] ["session"] (aw gU):=⟨rfl,rfl,rfl,by decide +kernel,rfl,by decide +kernel,by decide +kernel⟩
theorem oH:aB ["session","left","top","rectangle"] ["session","left","top"] (aw jF):=⟨rfl,rfl,rfl,by decide +kernel,rfl,by decide +kernel,by decide +kernel⟩
theorem lX:aB ["session","picture","rectangle","tile","place","left"] ["session","picture"] (aw gW):=⟨rfl,rfl,rfl,by decide +kernel,rfl,by decide +kernel,by decide +kernel⟩
theorem oI:aB ["session","words","tile","size","need"] ["session","words"] (aw jG):=⟨rfl,rfl,rfl,by decide +kernel,rfl,by decide +kernel,by decide +kernel⟩
theorem iC:aB ["session","words","tile"] ["session","words"] (aw eF):=⟨rfl,rfl,rfl,by decide +kernel,rfl,by decide +kernel,by decide +kernel⟩
theorem ie:aB ["session","words","rectangle","tile","at"] ["session","words"] (aw d6):=⟨rfl,rfl,rfl,by decide +kernel,rfl,by decide +kernel,by decide +kernel⟩
theorem jK:aB ["session","tile"] ["session"] (aw fE):=⟨rfl,rfl,rfl,by decide +kernel,rfl,by decide +kernel,by decide +kernel⟩
theorem jL:aB ["session","words","rectangle","tile","place","extent","left","top","width","height","pixel"] ["session","words"] (aw fF):=⟨rfl,rfl,rfl,by decide +kernel,rfl,by decide +kernel,by decide +kernel⟩
theorem jM:aB ["session","words","rectangle"] ["session","words"] (aw fG):=⟨rfl,rfl,rfl,by decide +kernel,rfl,by decide +kernel,by decide +kernel⟩
theorem oJ:aB ["session","left","top","rectangle"] ["session","left","top"] (aw jH):=⟨rfl,rfl,rfl,by decide +kernel,rfl,by decide +kernel,by decide +kernel⟩
theorem lY:aB ["session","words","rectangle"] ["session","words"] (aw gX):=⟨rfl,rfl,rfl,by decide +kernel,rfl,by decide +kernel,by decide +kernel⟩
theorem lZ:aB ["session","words","rectangle","left","top"] ["session","words"] (aw gY):=⟨rfl,rfl,rfl,by decide +kernel,rfl,by decide +kernel,by decide +kernel⟩
theorem gA:aB ["session","words","rectangle"] ["session","words"] (aw dz):=⟨rfl,rfl,rfl,by decide +kernel,rfl,by decide +kernel,by decide +kernel⟩
theorem l9:aB ["session","words","rectangle"] ["session","words"] (aw gZ):=⟨rfl,rfl,rfl,by decide +kernel,rfl,by decide +kernel,by decide +kernel⟩
theorem oK:aB ["session","rectangle"] ["session"] (aw jI):=⟨rfl,rfl,rfl,by decide +kernel,rfl,by decide +kernel,by decide +kernel⟩
theorem sD:aB ["rectangle"] ["rectangle"] (aw iM):=⟨rfl,rfl,rfl,by decide +kernel,rfl,by decide +kernel,by decide +kernel⟩
theorem oM:aB ["session","words","rectangle","size","ahead","left","top","width","height"] ["session","words"] (aw jJ):=⟨rfl,rfl,rfl,by decide +kernel,rfl,by decide +kernel,by decide +kernel⟩
theorem yE:aB ["session","data","pending","at","words"] ["session","data"] (aw uc):=⟨rfl,rfl,rfl,by decide +kernel,rfl,by decide +kernel,by decide +kernel⟩
theorem mW:aB ["session","words","stage"] ["session","words"] (aw iN):=⟨rfl,rfl,rfl,by decide +kernel,rfl,by decide +kernel,by decide +kernel⟩
theorem rJ:aB ["calls","session","given","at","behind","answer"] ["calls"] (aw kl):=⟨rfl,rfl,rfl,by decide +kernel,rfl,by decide +kernel,by decide +kernel⟩
theorem vN:aB ["calls","at"] ["calls","at"] (aw kN):=⟨rfl,rfl,rfl,by decide +kernel,rfl,by decide +kernel,by decide +kernel⟩
theorem rK:aB ["session","call","behind"] ["session","call","behind"] (aw g7):=⟨rfl,rfl,rfl,by decide +kernel,rfl,by decide +kernel,by decide +kernel⟩
theorem sE:aB ["session","data"] ["session","data"] (aw iO):=⟨rfl,rfl,rfl,by decide +kernel,rfl,by decide +kernel,by decide +kernel⟩
theorem lz:aB ["session","most"] ["session","most"] (aw gz):=⟨rfl,rfl,rfl,by decide +kernel,rfl,by decide +kernel,by decide +kernel⟩
theorem vO:aB ["session","key","down"] ["session","key","down"] (aw kO):=⟨rfl,rfl,rfl,by decide +kernel,rfl,by decide +kernel,by decide +kernel⟩
theorem sF:aB ["session","x","y","buttons"] ["session","x","y","buttons"] (aw iP):=⟨rfl,rfl,rfl,by decide +kernel,rfl,by decide +kernel,by decide +kernel⟩
theorem vP:aB ["session","y","most"] ["session","y","most"] (aw kP):=⟨rfl,rfl,rfl,by decide +kernel,rfl,by decide +kernel,by decide +kernel⟩
theorem pJ:aB ["session","most"] ["session","most"] (aw fZ):=⟨rfl,rfl,rfl,by decide +kernel,rfl,by decide +kernel,by decide +kernel⟩
theorem yF:aB ["session","sizes","counts"] ["session"] (aw ud):=⟨rfl,rfl,rfl,by decide +kernel,rfl,by decide +kernel,by decide +kernel⟩
theorem xA:aB ["numbers"] ["numbers"] (aw mx):=⟨rfl,rfl,rfl,by decide +kernel,rfl,by decide +kernel,by decide +kernel⟩
theorem ui:aB ["self","words"] ["self","words"] (aw fk):=⟨rfl,rfl,rfl,by decide +kernel,rfl,by decide +kernel,by decide +kernel⟩
theorem qo:aB ["self"] ["self"] (aw du):=⟨rfl,rfl,rfl,by decide +kernel,rfl,by decide +kernel,by decide +kernel⟩
theorem oN:aB ["self","stage","need"] ["self","stage","need"] (aw cJ):=⟨rfl,rfl,rfl,by decide +kernel,rfl,by decide +kernel,by decide +kernel⟩
theorem qp:aB ["self","number"] ["self","number"] (aw dv):=⟨rfl,rfl,rfl,by decide +kernel,rfl,by decide +kernel,by decide +kernel⟩
theorem mN:aB ["self"] ["self"] (aw cf):=⟨rfl,rfl,rfl,by decide +kernel,rfl,by decide +kernel,by decide +kernel⟩
theorem qr:aB ["self","message"] ["self","message"] (aw dw):=⟨rfl,rfl,rfl,by decide +kernel,rfl,by decide +kernel,by decide +kernel⟩
theorem nv:aB ["self","what"] ["self","what"] (aw cx):=⟨rfl,rfl,rfl,by decide +kernel,rfl,by decide +kernel,by decide +kernel⟩
theorem km:aB ["self","most","fetched"] ["self","most"] (aw c9):=⟨rfl,rfl,rfl,by decide +kernel,rfl,by decide +kernel,by decide +kernel⟩
theorem lC:aB ["self"] ["self"] (aw bU):=⟨rfl,rfl,rfl,by decide +kernel,rfl,by decide +kernel,by decide +kernel⟩
theorem kn:aB ["self"] ["self"] (aw bJ):=⟨rfl,rfl,rfl,by decide +kernel,rfl,by decide +kernel,by decide +kernel⟩
theorem oO:aB ["self","words"] ["self","words"] (aw cK):=⟨rfl,rfl,rfl,by decide +kernel,rfl,by decide +kernel,by decide +kernel⟩
theorem uj:aB ["self","rectangle","left","top"] ["self","rectangle","left","top"] (aw fm):=⟨rfl,rfl,rfl,by decide +kernel,rfl,by decide +kernel,by decide +kernel⟩
structure bI where
 Form:Addr
 ag:Addr
 ao:Addr
 bR:Addr
structure Txt (P:Program) (w:World) (K:PySem.W.Frag) (mg:Str→Option Value) (A:bI):Prop where
 iQ:ba K mg "colours_of" iH
 e_:ba K mg "colour_by_parts" eV
 fe:ba K mg "colour_by_table" eW
 jN:ba K mg "number_at" jz
 gB:ba K mg "number_bytes" gv
 iR:ba K mg "form_holds" iI
 iS:ba K mg "parts_hold" iJ
 kQ:ba K mg "pixel_at" kL
 iT:ba K mg "pixel_rows" iK
 oP:ba K mg "within" oB
 oQ:ba K mg "filled" oC
 uk:ba K mg "fill" ua
 um:ba K mg "move" ub
 qH:ba K mg "paste" qG
 kR:ba K mg "row_with" kM
 gC:ba K mg "take_version" gw
 dO:ba K mg "take_how_many_ways" dN
 jO:ba K mg "take_ways" jA
 g8:ba K mg "take_number" gS
 jP:ba K mg "take_size" jB
 jQ:ba K mg "take_form" jC
 eH:ba K mg "take_name_length" eD
 jR:ba K mg "take_name" jD
 ff:ba K mg "codings_message" eX
 fI:ba K mg "next_rectangle" fD
 eI:ba K mg "finish_rectangle" eE
 fg:ba K mg "leave_rectangle" eY
 jS:ba K mg "take_kind" jE
 g9:ba K mg "take_update" gT
 iU:ba K mg "take_table" iL
 gD:ba K mg "take_colours" gx
 fh:ba K mg "take_cut_length" eZ
 f9:ba K mg "take_cut_text" fY
 g_:ba K mg "begin_tiles" gU
 jT:ba K mg "next_tile" jF
 hJ:ba K mg "finish_tile" gW
 jU:ba K mg "take_tile" jG
 eJ:ba K mg "take_tile_pixels" eF
 d7:ba K mg "take_tile_colours" d6
 fJ:ba K mg "next_tile_part" fE
 fK:ba K mg "take_tile_part" fF
 fL:ba K mg "take_rectangle" fG
 jV:ba K mg "on_screen" jH
 hU:ba K mg "take_pixels" gX
 hX:ba K mg "take_source" gY
 dA:ba K mg "take_how_many_parts" dz
 hZ:ba K mg "take_ground" gZ
 jW:ba K mg "next_part" jI
 iW:ba K mg "place_size" iM
 jX:ba K mg "take_part" jJ
 uo:ba K mg "feed" uc
 iX:ba K mg "take_words" iN
 my:ba K mg "answers" kl
 kS:ba K mg "call_end" kN
 h9:ba K mg "answer_call" g7
 iY:ba K mg "take_bytes" iO
 gE:ba K mg "fetch_output" gz
 kT:ba K mg "send_key" kO
 iZ:ba K mg "send_point" iP
 kU:ba K mg "show_row" kP
 f_:ba K mg "show_cut_text" fZ
 uq:ba K mg "tell" ud
 mz:ba K mg "counted" mx
 ur:lU K mg A.Form "Form" "Form.__init__" fk
 mB:lU K mg A.ag "Session" "Session.__init__" du
 fM:gs K A.ag "expect" "Session.expect" cJ
 gF:gs K A.ag "fail" "Session.fail" dv
 eK:gs K A.ag "standing" "Session.standing" cf
 gG:gs K A.ag "send" "Session.send" dw
 fi:gs K A.ag "ask_for" "Session.ask_for" cx
 gb:gs K A.ag "fetch" "Session.fetch" c9
 dP:gs K A.ag "count_bell" "Session.count_bell" bU
 dk:gs K A.ag "count_update" "Session.count_update" bJ
 jY:lU K mg A.ao "Rectangle" "Rectangle.__init__" cK
 uu:lU K mg A.bR "Tile" "Tile.__init__" fm
 bB:sk K A.Form
 fo:aD K A.Form "bits"
 bO:aD K A.Form "size"
 dQ:aD K A.Form "high_first"
 c_:aD K A.Form "by_parts"
 dD:aD K A.Form "greatest"
 eS:aD K A.Form "shifts"
 af:sk K A.ag
 dE:aD K A.ag "stage"
 cT:aD K A.ag "need"
 cy:aD K A.ag "pending"
 bQ:aD K A.ag "waiting"
 bL:aD K A.ag "wrong"
 cX:aD K A.ag "greeted"
 bP:aD K A.ag "far_columns"
 cg:aD K A.ag "far_rows"
 aL:aD K A.ag "form"
 bG:aD K A.ag "columns"
 b9:aD K A.ag "rows"
 cn:aD K A.ag "screen"
 da:aD K A.ag "table"
 bY:aD K A.ag "first_colour"
 aF:aD K A.ag "rectangle"
 br:aD K A.ag "rectangles_left"
 dc:aD K A.ag "bells"
 cA:aD K A.ag "updates"
 ck:aD K A.ag "cut_text"
 eg:aD K A.ag "name"
 au:sk K A.ao
 cM:aD K A.ao "left"
 de:aD K A.ao "top"
 aZ:aD K A.ao "width"
 aS:aD K A.ao "height"
 bx:aD K A.ao "coding"
 bc:aD K A.ao "picture"
 bt:aD K A.ao "parts_left"
 dq:aD K A.ao "back"
 cY:aD K A.ao "front"
 bC:aD K A.ao "tile"
 bz:sk K A.bR
 ig:aD K A.bR "left"
 gf:aD K A.bR "top"
 dS:aD K A.bR "width"
 cQ:aD K A.bR "height"
 bo:aD K A.bR "bits_set"
 dy:aD K A.bR "picture"
 cC:aD K A.bR "parts_left"
 jZ:aM mg "FORM_SIZE" (.int (16))
 i9:aM mg "TABLE_BITS" (.int (8))
 gH:aM mg "MOST_WAITING" (.int (65536))
 l_:aM mg "COUNTS" (.int (2147483648))
 ko:aM mg "COLOURS" (.int (256))
 yG:aM mg "ALL" (.int (0))
 mC:aM mg "CHANGED" (.int (1))
 mD:aM mg "VERSION" (.str "RFB 003.008\n")
 ij:aM mg "NO_SECRET" (.int (1))
 fv:aM mg "LARGEST_SIDE" (.int (1024))
 gI:aM mg "LONGEST_NAME" (.int (65536))
 fN:aM mg "RECTANGLE_SIZE" (.int (12))
 eL:aM mg "LONGEST_CUT_TEXT" (.int (65536))
 oR:aM mg "UPDATE" (.int (0))
 qI:aM mg "TABLE" (.int (1))
 uv:aM mg "BELL" (.int (2))
 kW:aM mg "CUT_TEXT" (.int (3))
 fw:aM mg "TILE_SIDE" (.int (16))
 i_:aM mg "HAS_PIXELS" (.int (1))
 jm:aM mg "HAS_BACK" (.int (2))
 ik:aM mg "HAS_FRONT" (.int (4))
 il:aM mg "HAS_PARTS" (.int (8))
 dU:aM mg "HAS_PART_PIXELS" (.int (16))
 qJ:aM mg "PLAIN" (.int (0))
 oS:aM mg "COPIED" (.int (1))
 qK:aM mg "PARTS" (.int (2))
 fX:aM mg "SMALL_PARTS" (.int (4))
 qL:aM mg "TILES" (.int (5))
 ja:aM mg "MOST_PARTS" (.int (65535))
 qM:aM mg "BEGIN" (.int (0))
 gJ:aM mg "BYTES_COME" (.int (1))
 oT:aM mg "OUTPUT" (.int (2))
 yH:aM mg "KEY" (.int (3))
 qN:aM mg "POINT" (.int (4))
 yI:aM mg "ROW" (.int (5))
 yJ:aM mg "CUT" (.int (6))
 uw:aM mg "TOLD" (.int (7))
 fO:aM mg "MOST_BYTES" (.int (65536))
 gK:aM mg "MOST_COLOURS" (.int (1024))
 fP:aM mg "LAST_PLACE" (.int (1023))
 gL:aM mg "MOST_BUTTONS" (.int (255))
 mE:aM mg "TOO_FEW" (.int (-1))
 b_:aM mg "NOT_IN_BOUNDS" (.int (-2))
 ip:aM mg "NOT_READY" (.int (-3))
 h_:aM mg "NO_SUCH_ROW" (.int (-3))
 jb:tG K mg "PIXEL_BITS" [.int (8),.int (16),.int (32)]
 dW:tG K mg "GREATEST_OF_A_PART" [.int (1),.int (3),.int (7),.int (15),.int (31),.int (63),.int (127),.int (255)]
 eh:tG K mg "CODINGS_WISHED" [.int (1),.int (5),.int (4),.int (2),.int (0)]
 fQ:mg "len"=none
 ia:mg "range"=none
 j0:mg "enumerate"=none
 vQ:mg "zip"=none
 kX:mg "reversed"=none
 rL:mg "list"=none
 yK:mg "ord"=none
 vR:mg "min"=none
 j4:∃a_take_version a_take_how_many_ways a_take_ways a_take_number a_take_size a_take_form a_take_name_length a_take_name:Addr,mR P w K mg "GREETING_STAGES" [(Sum.inr "version",V.ref a_take_version),(Sum.inr "how many ways",V.ref a_take_how_many_ways),(Sum.inr "ways",V.ref a_take_ways),(Sum.inr "number",V.ref a_take_number),(Sum.inr "size",V.ref a_take_size),(Sum.inr "form",V.ref a_take_form),(Sum.inr "name length",V.ref a_take_name_length),(Sum.inr "name",V.ref a_take_name)]∧mg "take_version"=some (.ref a_take_version)∧mg "take_how_many_ways"=some (.ref a_take_how_many_ways)∧mg "take_ways"=some (.ref a_take_ways)∧mg "take_number"=some (.ref a_take_number)∧mg "take_size"=some (.ref a_take_size)∧mg "take_form"=some (.ref a_take_form)∧mg "take_name_length"=some (.ref a_take_name_length)∧mg "take_name"=some (.ref a_take_name)
 kq:∃a_take_kind a_take_update a_take_table a_take_colours a_take_cut_length a_take_cut_text:Addr,mR P w K mg "MESSAGE_STAGES" [(Sum.inr "kind",V.ref a_take_kind),(Sum.inr "update",V.ref a_take_update),(Sum.inr "table",V.ref a_take_table),(Sum.inr "colours",V.ref a_take_colours),(Sum.inr "cut length",V.ref a_take_cut_length),(Sum.inr "cut text",V.ref a_take_cut_text)]∧mg "take_kind"=some (.ref a_take_kind)∧mg "take_update"=some (.ref a_take_update)∧mg "take_table"=some (.ref a_take_table)∧mg "take_colours"=some (.ref a_take_colours)∧mg "take_cut_length"=some (.ref a_take_cut_length)∧mg "take_cut_text"=some (.ref a_take_cut_text)
 mX:∃a_take_tile a_take_tile_pixels a_take_tile_colours a_take_tile_part:Addr,mR P w K mg "TILE_STAGES" [(Sum.inr "tile",V.ref a_take_tile),(Sum.inr "tile pixels",V.ref a_take_tile_pixels),(Sum.inr "tile colours",V.ref a_take_tile_colours),(Sum.inr "tile part",V.ref a_take_tile_part)]∧mg "take_tile"=some (.ref a_take_tile)∧mg "take_tile_pixels"=some (.ref a_take_tile_pixels)∧mg "take_tile_colours"=some (.ref a_take_tile_colours)∧mg "take_tile_part"=some (.ref a_take_tile_part)
 jn:∃a_take_rectangle a_take_pixels a_take_source a_take_how_many_parts a_take_ground a_take_part:Addr,mR P w K mg "RECTANGLE_STAGES" [(Sum.inr "rectangle",V.ref a_take_rectangle),(Sum.inr "pixels",V.ref a_take_pixels),(Sum.inr "source",V.ref a_take_source),(Sum.inr "how many parts",V.ref a_take_how_many_parts),(Sum.inr "ground",V.ref a_take_ground),(Sum.inr "part",V.ref a_take_part)]∧mg "take_rectangle"=some (.ref a_take_rectangle)∧mg "take_pixels"=some (.ref a_take_pixels)∧mg "take_source"=some (.ref a_take_source)∧mg "take_how_many_parts"=some (.ref a_take_how_many_parts)∧mg "take_ground"=some (.ref a_take_ground)∧mg "take_part"=some (.ref a_take_part)
 kr:mR P w K mg "NUMBERS_BEHIND" [(Sum.inl (0),V.int (0)),(Sum.inl (2),V.int (1)),(Sum.inl (3),V.int (2)),(Sum.inl (4),V.int (3)),(Sum.inl (5),V.int (2)),(Sum.inl (6),V.int (1)),(Sum.inl (7),V.int (0))]
theorem tH {lo c:Int} {n:Nat} {g:TG} {tt:TT} {te:TE} {vs:List Nat} {σ:L2.St} {H1:Hp} {D:Addr} {Qd:Hp→Prop} (Pv:Nat→Hp→Prop) (h0:Pv 0 (upd H1 D (.lst [])))
  (hs:∀i H,i < n→Pv i H→g (.int (lo + (i:Nat) * c)) (wipe σ vs) H fun σ2 H2=>wipe σ2 vs=wipe σ vs∧tt σ2 H2 fun b H3=>
   if b=true then te σ2 H3 fun y H4=>∃acc,H4 D=some (.lst acc)∧acc.length < sizeLine∧Pv (i + 1) (upd H4 D (.lst (acc++[y]))) else Pv (i + 1) H3) (hd:∀H,Pv n H→Qd H) :
  ∃W:Nat→Nat→Hp→Prop,(∃m,W 0 m (upd H1 D (.lst [])))∧∀i m H,W i m H→
   ((CN lo c n).stop i H∧Qd H)∨((CN lo c n).go i H∧∃Nx:Hp→Prop,(∀H',Nx H'→∃m',m' < m∧W (i + 1) m' H')∧∀x H',(CN lo c n).zj i H x H'→g x (wipe σ vs) H' fun σ2 H2=>wipe σ2 vs=wipe σ vs∧tt σ2 H2 fun b H3=>
    if b=true then te σ2 H3 fun y H4=>∃acc,H4 D=some (.lst acc)∧acc.length < sizeLine∧Nx (upd H4 D (.lst (acc++[y]))) else Nx H3):=by
 refine ⟨fun i m H=>m=n - i∧i≤n∧Pv i H,⟨n,by simp,Nat.zero_le _,h0⟩,?_⟩
 rintro i m H ⟨rfl,hi,p⟩
 by_cases hlt:i < n
 ·refine .inr ⟨hlt,Pv (i + 1),fun H' p'=>⟨n - (i + 1),by omega,rfl,hlt,p'⟩,fun x H' y=>?_⟩
  obtain ⟨e,y⟩:=y
  subst e y
  exact hs i _ hlt p
 ·have e:i=n:=by omega
  subst e
  exact .inl ⟨Nat.le_refl _,hd H p⟩
theorem kY {σ:L2.St} {H:Hp} {f g:Hp→Prop} (h:f H):EO σ H (fun b H3=>if b=true then f H3 else g H3):=by
 show (if true=true then f H else g H)
 rw [if_pos rfl]
 exact h
theorem Be {K:PySem.W.Frag} {a:Addr} {xs:List V} {g:TG} {tb:TS} {D:Ends} {σ:L2.St} {H:Hp} (Pv:Nat→L2.St→Hp→Prop) (h0:Pv 0 σ H) (hl:∀i σ H,i≤xs.length→Pv i σ H→bV K H a xs)
  (hs:∀i x σ H T,xs[i]?=some x→Pv i σ H→H T=none→g (.ref T) σ (upd H T (.tup [.int (i:Nat),x])) fun σ2 H2=>tb { D with nx:=Pv (i + 1),ct:=Pv (i + 1),bk:=D.nx } σ2 H2) (hd:∀σ H,Pv xs.length σ H→D.nx σ H) :
  ∃W:Nat→Nat→L2.St→Hp→Prop,(∃m,W 0 m σ H)∧∀i m σ H,W i m σ H→
   ((EW K a).stop i H∧D.nx σ H)∨((EW K a).go i H∧∃N:L2.St→Hp→Prop,(∀σ' H',N σ' H'→∃m',m' < m∧W (i + 1) m' σ' H')∧∀x H',(EW K a).zj i H x H'→g x σ H' fun σ2 H2=>tb { D with nx:=N,ct:=N,bk:=D.nx } σ2 H2):=by
 refine ⟨fun i m σ H=>m=xs.length - i∧i≤xs.length∧Pv i σ H,⟨xs.length,by simp,Nat.zero_le _,h0⟩,?_⟩
 rintro i m σ H ⟨rfl,hi,p⟩
 have q:=hl i σ H hi p
 by_cases hlt:i < xs.length
 ·refine .inr ⟨⟨xs,xs[i],q,by simp [hlt]⟩,Pv (i + 1),fun σ' H' p'=>⟨xs.length - (i + 1),by omega,rfl,hlt,p'⟩,fun x H' y=>?_⟩
  obtain ⟨T,z,e,hT,e2,y⟩:=y
  subst e e2
  exact hs i z σ _ T (y xs q) p hT
 ·have e:i=xs.length:=by omega
  subst e
  exact .inl ⟨⟨xs,q,Nat.le_refl _⟩,hd σ H p⟩
structure cq (H:Hp) (rs:List Addr) (P:List (List Nat)):Prop where
 len:rs.length=P.length
 at_:∀(i:Nat) (r:Addr),rs[i]?=some r→H r=some (.lst (nI (P.getD i [])))
theorem cq.keeps {H H':Hp} {rs:List Addr} {P:List (List Nat)} (R:cq H rs P) (k:∀r∈rs,∀o,H r=some o→H' r=some o):cq H' rs P:=
 ⟨R.len,fun i r h=>k r (List.mem_of_getElem? h) _ (R.at_ i r h)⟩
theorem cq.there {H:Hp} {rs:List Addr} {P:List (List Nat)} (R:cq H rs P) {r:Addr} (h:r∈rs):∃o,H r=some o:=by
 obtain ⟨i,hi,e⟩:=List.getElem_of_mem h
 exact ⟨_,R.at_ i r (by rw [List.getElem?_eq_getElem hi,e])⟩
theorem cq.set {H:Hp} {rs:List Addr} {P:List (List Nat)} {j:Nat} {q:Addr} {x:List Nat} (R:cq H rs P) (h:H q=some (.lst (nI x))):cq H (rs.set j q) (P.set j x):=by
 refine ⟨by simp [R.len],fun i r e=>?_⟩
 rw [List.getElem?_set] at e
 by_cases c:j=i
 ·subst c
  rw [if_pos rfl] at e
  split at e
  ·rename_i c2
   cases e
   rw [List.getD_eq_getElem?_getD,List.getElem?_set_self (by rw [← R.len];exact c2)]
   exact h
  ·cases e
 ·rw [if_neg c] at e
  rw [List.getD_eq_getElem?_getD,List.getElem?_set_ne c,← List.getD_eq_getElem?_getD]
  exact R.at_ i r e
theorem nX {rs:List Addr} {j:Nat} {q:Addr}:(rs.map V.ref).set j (.ref q)=(rs.set j q).map V.ref:=by
 rw [List.map_set]
theorem Cj {rs:List Addr} {i:Nat} {x:V} (h:(rs.map V.ref)[i]?=some x):∃r,rs[i]?=some r∧x=V.ref r:=by
 rw [List.getElem?_map] at h
 cases e:rs[i]? with
 | none=>rw [e] at h;cases h
 | some n=>rw [e] at h;exact ⟨n,rfl,(Option.some.inj h).symm⟩
theorem nA {rs:List Addr} {i:Nat} {r:Addr} (h:rs[i]?=some r):(rs.map V.ref)[i]?=some (V.ref r):=by
 rw [List.getElem?_map,h]
 rfl
theorem ux {n j:Nat} (h:j < n):BO n (j:Int)=some j:=by
 unfold BO
 rw [if_pos (Int.natCast_nonneg j),if_pos (by omega)]
 simp
section
variable {P:Program} {w:World} {K:PySem.W.Frag} {mg:Str→Option Value} {base:Heap} {A:bI}
def Ck (K:PySem.W.Frag):Sp:=fun vs H Q _=>∃(a:Addr) (ws:List Nat) (i n:Nat),vs=[.ref a,.int (i:Int),.int (n:Int)]∧bV K H a (nI ws)∧∀H',bX H H'→Q (.int (Mir.sub ws i n:Nat)) H'
theorem aN (T:Txt P w K mg A):FnAt P w K mg base "number_at" 1 ["words","at","size"] (Ck K):=by
 refine T.jN.at_ (fun _ _ _ _ _ _ us hl=>match us,hl with | [_,_,_],_=>rfl) fun f fd F=>?_
 refine F.ok oE (fun vs H Q E h=>?_) (fun cdv A outer s H vs Q E hr h=>?_)
 ·obtain ⟨a,ws,i,n,rfl,_⟩:=h
  rfl
 ·obtain ⟨a,ws,i,n,rfl,hS,k⟩:=h
  have nd:=oE.nd
  refine ⟨_,ab (aI (i:=3) nd rfl (Or.inl rfl) ai)
   (ab (kE PassesOwn.never rfl (qA (ee fC (pv 0) (dj (pv 1)) (dj (aH bA (pv 1) (pv 2))))) (di (i:=4) nd rfl (Or.inl rfl))
    (ak (aI (i:=3) nd rfl (Or.inl rfl) (aH bA (aH gc (pv 3) ai) (pv 4)))))
   (ak (aW (pv 3)))),?_⟩
  refine ⟨_,rfl,_,rfl,_,rfl,_,rfl,_,rfl,_,_,rfl,rfl,_,rfl,a,_,rfl,hS,fun p hp=>?_⟩
  rw [mw,iG,jy]
  have sm:bX H (upd H p (.lst (nI ((ws.drop i).take n)))):=ay hp
  refine ⟨_,rfl,⟨_,bV.of ae⟩,va (K:=K) (a:=p) (xs:=nI ((ws.drop i).take n)) (fun j σ H'=>H'=upd H p (.lst (nI ((ws.drop i).take n)))∧∃v:Option V,σ=[some (.ref a),some (.int (i:Int)),some (.int (n:Int)),some (.int (Sn44.high (((ws.drop i).take n).take j):Nat)),v])
   ⟨rfl,none,rfl⟩ (fun j σ H' _ ⟨e,_⟩=>by rw [e];exact bV.of ae) ?_ ?_⟩
  ·rintro j y σ H' hy ⟨rfl,v,rfl⟩
   obtain ⟨c,hc,rfl⟩:=ke hy
   refine ⟨_,rfl,_,_,rfl,rfl,.inr ⟨by decide,by decide⟩,_,rfl,_,_,rfl,rfl,rfl,some (.int (c:Int)),?_⟩
   rw [take_snoc hc,pH]
   have e:(Sn44.high (((ws.drop i).take n).take j):Int) * 256 + (c:Int)=((256 * Sn44.high (((ws.drop i).take n).take j) + c:Nat):Int):=by omega
   rw [← e]
   rfl
  ·rintro σ H' ⟨rfl,v,rfl⟩
   rw [aU,List.take_length]
   exact ⟨_,rfl,k _ sm⟩
def E4 (H:Hp) (l:List V) (Q:VK):Prop:=∀H' p,H p=none→H' p=some (.lst l)→bX H H'→Q (.ref p) H'
theorem Cm (n x j:Nat) (h:j < n):(Sn44.be n x).take (j + 1)=(Sn44.be n x).take j++[x / 256 ^ (n - 1 - j) % 256]:=by
 refine take_snoc ?_
 unfold Sn44.be
 rw [List.getElem?_map,List.getElem?_range h]
 rfl
theorem kf (n x:Nat):(Sn44.be n x).length=n:=by simp [Sn44.be]
def xB:Sp:=fun vs H Q _=>∃x n:Nat,vs=[.int (x:Int),.int (n:Int)]∧n≤1000∧E4 H (nI (Sn44.be n x)) Q
theorem df (T:Txt P w K mg A):FnAt P w K mg base "number_bytes" 1 ["number","size"] xB:=by
 refine T.gB.at_ (fun _ _ _ _ _ _ us hl=>match us,hl with | [_,_],_=>rfl) fun f fd F=>?_
 refine F.ok lu (fun vs H Q E h=>?_) (fun cdv A outer s H vs Q E hr h=>?_)
 ·obtain ⟨x,n,rfl,_⟩:=h
  rfl
 ·obtain ⟨x,n,rfl,hn,k⟩:=h
  have nd:=lu.nd
  refine ⟨_,ak (aW (rf (own:=[("place",2)]) rfl nd (pC rfl T.ia (aa (aH nj (pv 1) ai) (aa (AJ wR ai) (aa (AJ wR ai) ah))))
   (jf rfl) (fun _ _ _ _ _=>di (i:=2) nd rfl (Or.inl rfl)) (fun _ _ _ _ _=>kH)
   (fun _ _ _ _ _=>aH gR (aH tO (pv 0) (aH gc ai (pv 2))) ai))),?_⟩
  refine ⟨_,rfl,_,_,rfl,rfl,_,rfl,_,rfl,_,_,_,n,rfl,?_,?_⟩
  ·have e:=ET.neg (i:=(n:Int) - 1) (j:=-1) (by omega) (by omega) (by omega) (by omega)
   rw [show ((n:Int) - 1 - -1).toNat=n by omega] at e
   exact e
  intro D hD
  refine tH (n:=n) (fun i H'=>H' D=some (.lst (nI ((Sn44.be n x).take i)))∧bX H H') ⟨ae,ay hD⟩ ?_ ?_
  ·rintro i H' hi ⟨h1,h2⟩
   refine ⟨rfl,kY ?_⟩
   refine ⟨_,rfl,_,rfl,_,_,rfl,rfl,.inl ⟨by decide,by decide⟩,_,_,rfl,rfl,?_,?_⟩
   ·show (0:Int)≤8 * ((n:Int) - 1 + (i:Int) * -1)
    omega
   refine ⟨_,_,rfl,rfl,_,h1,?_,?_,?_⟩
   ·rw [aU]
    exact Nat.lt_of_le_of_lt (List.length_take_le _ _) (Nat.lt_of_le_of_lt (Nat.le_trans (Nat.le_of_lt hi) hn) (by decide))
   ·rw [ae,Cm n x i hi,fU]
    have e:(x:Int) / 2 ^ (8 * ((n:Int) - 1 + (i:Int) * -1)).toNat=((x / 256 ^ (n - 1 - i):Nat):Int):=by
     rw [show (8 * ((n:Int) - 1 + (i:Int) * -1)).toNat=8 * (n - 1 - i) by omega,show (256:Nat)=2 ^ 8 from rfl,← Nat.pow_mul,Int.natCast_ediv,Int.natCast_pow]
     rfl
    have e2:Builtin.bitAnd ((x / 256 ^ (n - 1 - i):Nat):Int) 255=((x / 256 ^ (n - 1 - i) % 256:Nat):Int):=by
     have:=Bits.lM (x:=((x / 256 ^ (n - 1 - i):Nat):Int)) 8 (Int.natCast_nonneg _)
     exact this
    show some (HO.lst (_++[V.int (Builtin.bitAnd ((x:Int) / 2 ^ (8 * ((n:Int) - 1 + (i:Int) * -1)).toNat) 255)]))=_
    rw [e,e2]
    rfl
   ·intro b o q
    rw [aj (aE q hD)]
    exact h2 b o q
  ·rintro H' ⟨h1,h2⟩
   rw [List.take_of_length_le (by rw [kf];exact Nat.le_refl _)] at h1
   exact k H' D hD h1 h2
def Bf:Sp:=fun vs H Q _=>∃l t w h c r:Nat,vs=[.int (l:Int),.int (t:Int),.int (w:Int),.int (h:Int),.int (c:Int),.int (r:Int)]∧Q (.bl (decide (l + w≤c) && decide (t + h≤r))) H
theorem pK (T:Txt P w K mg A):FnAt P w K mg base "within" 1 ["left","top","width","height","columns","rows"] Bf:=by
 refine T.oP.at_ (fun _ _ _ _ _ _ us hl=>match us,hl with | [_,_,_,_,_,_],_=>rfl) fun f fd F=>?_
 refine F.ok zY (fun vs H Q E h=>?_) (fun cdv A outer s H vs Q E hr h=>?_)
 ·obtain ⟨l,t,w,h,c,r,rfl,_⟩:=h
  rfl
 ·obtain ⟨l,t,w,h,c,r,rfl,k⟩:=h
  refine ⟨_,ak (aW (Dn (nW fW (aH bA (pv 0) (pv 2)) (pv 4) (aT _)) (Dm (nW fW (aH bA (pv 1) (pv 3)) (pv 5) (aT _))))),?_⟩
  refine ⟨_,rfl,_,rfl,_,_,rfl,rfl,_,rfl,_,_,rfl,rfl,_,rfl,?_⟩
  by_cases c1:l + w≤c
  ·rw [if_pos (by simp;omega)]
   refine ⟨_,rfl,_,rfl,_,_,rfl,rfl,_,rfl,_,_,rfl,rfl,?_⟩
   have e:(decide (l + w≤c) && decide (t + h≤r))=decide ((t:Int) + (h:Int)≤(r:Int)):=by
    rw [decide_eq_true c1,Bool.true_and]
    exact decide_eq_decide.mpr (by omega)
   rw [e] at k
   exact k
  ·rw [if_neg (by simp;omega)]
   rw [decide_eq_false c1,Bool.false_and] at k
   exact k
def Bg:Sp:=fun vs H Q _=>∃wd h p:Nat,vs=[.int (wd:Int),.int (h:Int),.int (p:Int)]∧wd≤65536∧h≤65536∧
 ∀H' a rs,H a=none→H' a=some (.lst (rs.map V.ref))→cq H' rs (Mir.eO wd h p)→(∀r∈rs,H r=none∧r≠a)→bX H H'→Q (.ref a) H'
theorem yL {α:Type} (x:α) (k:Nat):(List.replicate k [x]).flatten=List.replicate k x:=by
 induction k with
 | zero=>rfl
 | succ k ih=>rw [List.replicate_succ,List.flatten_cons,ih];rfl
theorem mF (T:Txt P w K mg A):FnAt P w K mg base "filled" 1 ["width","height","pixel"] Bg:=by
 refine T.oQ.at_ (fun _ _ _ _ _ _ us hl=>match us,hl with | [_,_,_],_=>rfl) fun f fd F=>?_
 refine F.ok zZ (fun vs H Q E h=>?_) (fun cdv A outer s H vs Q E hr h=>?_)
 ·obtain ⟨wd,h,p,rfl,_⟩:=h
  rfl
 ·obtain ⟨wd,h,p,rfl,hw,hh,k⟩:=h
  refine ⟨_,ak (aW (aH xa (b0 (aa (aH xa (b0 (aa (pv 2) ah)) (pv 0)) ah)) (pv 1))),?_⟩
  refine ⟨_,rfl,by show 1≤sizeLine;decide,fun a1 h1=>⟨_,rfl,a1,_,_,rfl,rfl,ae,by omega,by omega,?_,fun a2 h2=>⟨by show 1≤sizeLine;decide,fun a3 h3=>⟨_,rfl,a3,_,_,rfl,rfl,ae,by omega,by omega,?_,fun a4 h4=>?_⟩⟩⟩⟩
  ·show 1 * ((wd:Int)).toNat≤sizeLine
   rw [sizeLine_eq]
   omega
  ·show 1 * ((h:Int)).toNat≤sizeLine
   rw [sizeLine_eq]
   omega
  simp only [yL] at h3 h4 ⊢
  have s1:=ay (o:=.lst [V.int (p:Int)]) h1
  have s2:=ay (o:=.lst (List.replicate (wd:Int).toNat (V.int (p:Int)))) h2
  have s3:=ay (o:=.lst [V.ref a2]) h3
  have s4:=ay (o:=.lst (List.replicate (h:Int).toNat (V.ref a2))) h4
  have e1:List.replicate (h:Int).toNat (V.ref a2)=(List.replicate h a2).map V.ref:=by rw [List.map_replicate];rfl
  have e2:List.replicate (wd:Int).toNat (V.int (p:Int))=nI (List.replicate wd p):=by unfold nI;rw [List.map_replicate];rfl
  have q2:(upd (upd (upd (upd H a1 (.lst [V.int (p:Int)])) a2 (.lst (List.replicate (wd:Int).toNat (V.int (p:Int))))) a3 (.lst [V.ref a2])) a4 (.lst (List.replicate (h:Int).toNat (V.ref a2)))) a2=some (.lst (nI (List.replicate wd p))):=by
   rw [← e2]
   exact s4 _ _ (s3 _ _ ae)
  refine k _ a4 (List.replicate h a2) ((s1.trans (s2.trans s3)).free h4) (by rw [← e1];exact ae) ⟨by simp [Mir.eO],fun i r hi=>?_⟩ (fun r hr'=>?_) (s1.trans (s2.trans (s3.trans s4)))
  ·have er:r=a2:=List.eq_of_mem_replicate (List.mem_of_getElem? hi)
   subst er
   have hi':i < h:=by
    have:=(List.getElem?_eq_some_iff.mp hi).1
    simpa using this
   have e3:(Mir.eO wd h p).getD i []=List.replicate wd p:=by
    unfold Mir.eO
    rw [List.getD_eq_getElem?_getD,List.getElem?_replicate,if_pos hi']
    rfl
   rw [e3]
   exact q2
  ·have er:r=a2:=List.eq_of_mem_replicate hr'
   subst er
   exact ⟨s1.free h2,aE (s3 _ _ ae) h4⟩
def z0:Sp:=fun vs H Q _=>∃(r t:Addr) (row stripe:List Nat) (l:Nat),vs=[.ref r,.int (l:Int),.ref t]∧H r=some (.lst (nI row))∧H t=some (.lst (nI stripe))∧l + stripe.length≤row.length∧row.length≤65536∧
 ∀H' q,(q=t∨H q=none)→H' q=some (.lst (nI (Mir.bM row l stripe)))→bX H H'→Q (.ref q) H'
theorem p8 (T:Txt P w K mg A):FnAt P w K mg base "row_with" 1 ["row","left","stripe"] z0:=by
 refine T.kR.at_ (fun _ _ _ _ _ _ us hl=>match us,hl with | [_,_,_],_=>rfl) fun f fd F=>?_
 refine F.ok p7 (fun vs H Q E h=>?_) (fun cdv A outer s H vs Q E hr h=>?_)
 ·obtain ⟨r,t,row,stripe,l,rfl,_⟩:=h
  rfl
 ·obtain ⟨r,t,row,stripe,l,rfl,h1,h2,hl,hz,k⟩:=h
  have nd:=p7.nd
  refine ⟨_,ab (aX (aQ d_ (bZ bj (by rfl) T.fQ PySem.boot_len (aa (pv 2) ah)) (bZ bj (by rfl) T.fQ PySem.boot_len (aa (pv 0) ah)) (aT _)) (ak (aW (pv 2))) aP)
   (ab (aI (i:=3) nd rfl (Or.inl rfl) (ee fC (pv 0) kF (dj (pv 1))))
   (ab (az (q_ PySem.F.plainAttrs_list PySem.F.slot_list_extend PySem.F.type_list_extend jd (pv 3) (aa (pv 2) ah)))
   (ab (az (q_ PySem.F.plainAttrs_list PySem.F.slot_list_extend PySem.F.type_list_extend jd (pv 3) (aa (ee fC (pv 0) (dj (aH bA (pv 1) (bZ bj (by rfl) T.fQ PySem.boot_len (aa (pv 2) ah)))) kF) ah)))
   (ak (aW (pv 3)))))),?_⟩
  refine ⟨_,rfl,t,_,rfl,.inl (bV.of h2),_,rfl,r,_,rfl,.inl (bV.of h1),rfl,_,rfl,?_⟩
  rw [aU,aU]
  refine Gf (fun c=>?_) (fun c=>?_)
  ·have c:stripe.length=row.length:=by
    have:=of_decide_eq_true c
    injection this with this
    omega
   have e0:l=0:=by omega
   subst e0
   refine ⟨_,rfl,k H t (.inl rfl) ?_ (bX.refl H)⟩
   rw [Mir.vG c]
   exact h2
  ·refine ⟨_,rfl,_,rfl,_,rfl,r,_,rfl,bV.of h1,fun q hq=>?_⟩
   rw [xt,jy]
   have s1:=ay (o:=.lst (nI (row.take l))) hq
   refine ⟨_,rfl,.inl ⟨rfl,_,bV.of ae⟩,_,rfl,q,t,_,_,rfl,rfl,ae,s1 _ _ h2,?_,?_⟩
   ·rw [aU,aU,List.length_take,sizeLine_eq]
    omega
   ·have ntq:t≠q:=aE h2 hq
    have nrq:r≠q:=aE h1 hq
    rw [bg]
    have s2:=ay (o:=.lst (nI (row.take l)++nI stripe)) hq
    refine ⟨_,rfl,.inl ⟨rfl,_,bV.of ae⟩,_,rfl,_,rfl,_,rfl,t,_,rfl,.inl (bV.of (s2 _ _ h2)),_,_,rfl,rfl,_,rfl,r,_,rfl,bV.of (s2 _ _ h1),fun q2 hq2=>?_⟩
    rw [aU,show ((l:Int) + (stripe.length:Int))=((l + stripe.length:Nat):Int) by omega,lV,iG]
    have s3:=ay (o:=.lst (nI (row.drop (l + stripe.length)))) hq2
    have nq:q≠q2:=aE ae hq2
    refine ⟨q,q2,_,_,rfl,rfl,s3 _ _ ae,ae,?_,?_⟩
    ·rw [List.length_append,aU,aU,aU,List.length_take,List.length_drop,sizeLine_eq]
     omega
    ·refine ⟨_,rfl,k _ q (.inr hq) ?_ ?_⟩
     ·rw [ae]
      unfold Mir.bM
      rw [fU,fU,List.append_assoc]
     ·intro b o e
      rw [aj (aE e hq)]
      exact s3 _ _ (s2 _ _ e)
end
def SameBut (H H':Hp) (S:Addr→Prop):Prop:=∀b o,H b=some o→¬ S b→H' b=some o
theorem ma (left:Nat):∀(xs:List (List Nat)) (P:List (List Nat)) (top:Nat) (x:List Nat),Mir.aC P left top (xs++[x])=(Mir.aC P left top xs).set (top + xs.length) (Mir.bM ((Mir.aC P left top xs).getD (top + xs.length) []) left x)
 | [],P,top,x=>rfl
 | y :: xs,P,top,x=>by
  have e:top + (y :: xs).length=top + 1 + xs.length:=by rw [List.length_cons];omega
  rw [e]
  exact ma left xs _ (top + 1) x
section
variable {P:Program} {w:World} {K:PySem.W.Frag} {mg:Str→Option Value} {base:Heap} {A:bI}
structure gg (H:Hp) (a:Addr) (rs:List Addr) (Pic:List (List Nat)):Prop where
 lst:H a=some (.lst (rs.map V.ref))
 rows:cq H rs Pic
 ne:a∉rs
theorem gg.keeps {H H':Hp} {a:Addr} {rs:List Addr} {Pic:List (List Nat)} (p:gg H a rs Pic) (k:∀b,b=a∨b∈rs→∀o,H b=some o→H' b=some o):gg H' a rs Pic:=
 ⟨k a (.inl rfl) _ p.lst,p.rows.keeps fun r hr o e=>k r (.inr hr) o e,p.ne⟩
def xC (H:Hp) (a:Addr) (rs qs:List Addr) (Pic:List (List Nat)) (Q:VK):Prop:=∀H' rs',gg H' a rs' Pic→(∀r∈rs',r∈rs∨r∈qs∨H r=none)→SameBut H H' (·=a)→Q .cD H'
def Cn:Sp:=fun vs H Q _=>∃(a b:Addr) (rs qs:List Addr) (Pic piece:List (List Nat)) (l t wd:Nat),vs=[.ref a,.int (l:Int),.int (t:Int),.ref b]∧gg H a rs Pic∧gg H b qs piece∧a≠b∧a∉qs∧
 (∀x∈Pic,x.length=wd)∧wd≤65536∧(∀x∈piece,l + x.length≤wd)∧t + piece.length≤Pic.length∧xC H a rs qs (Mir.aC Pic l t piece) Q
theorem vS (T:Txt P w K mg A):FnAt P w K mg base "paste" 2 ["picture","left","top","piece"] Cn:=by
 refine T.qH.at_ (fun _ _ _ _ _ _ us hl=>match us,hl with | [_,_,_,_],_=>rfl) fun f fd F=>?_
 refine F.ok vM (fun vs H Q E h=>?_) (fun cdv A outer s H vs Q E hr h=>?_)
 ·obtain ⟨a,b,rs,qs,Pic,piece,l,t,wd,rfl,_⟩:=h
  rfl
 ·obtain ⟨a,b,rs,qs,Pic,piece,l,t,wd,rfl,pa,pb,nab,naq,hw,hwd,hpc,ht,k⟩:=h
  have nd:=vM.nd
  refine ⟨_,ak (kE PassesOwn.never rfl (B0 rfl T.j0 (aa (pv 3) ah)) (wI rfl (kh (di (i:=4) nd rfl (Or.inl rfl)) (kh (di (i:=5) nd rfl (Or.inl rfl)) tN)))
   (ak (wK (aK (p8 T) hr rfl (aa (cN bq (pv 0) (aH bA (pv 2) (pv 4)) (fun _ _=>rfl)) (aa (pv 1) (aa (pv 5) ah)))) (wJ (pv 0) (aH bA (pv 2) (pv 4)) set_list)))),?_⟩
  refine ⟨_,rfl,b,_,rfl,bV.of pb.lst,Be (K:=K) (a:=b) (xs:=qs.map V.ref)
   (fun j σ H'=>∃(rs':List Addr) (u v:Option V),σ=[some (.ref a),some (.int (l:Int)),some (.int (t:Int)),some (.ref b),u,v]∧gg H' a rs' (Mir.aC Pic l t (piece.take j))∧(∀r∈rs',r∈rs∨r∈qs∨H r=none)∧SameBut H H' (·=a))
   ⟨rs,none,none,rfl,pa,fun r h=>.inl h,fun b o e _=>e⟩ (fun j σ H' _ ⟨_,_,_,_,_,_,sb⟩=>bV.of (sb _ _ pb.lst (fun q=>nab q.symm))) ?_ ?_⟩
  ·rintro j y σ H' TT hj ⟨rs',u,v,rfl,p',hrs,sb⟩ hT
   obtain ⟨q,hq,rfl⟩:=Cj hj
   have hjl:j < piece.length:=by rw [← pb.rows.len];exact (List.getElem?_eq_some_iff.mp hq).1
   have sT:=ay (o:=.tup [V.int (j:Nat),V.ref q]) hT
   have hql:H q=some (.lst (nI (piece.getD j []))):=pb.rows.at_ j q hq
   have nqa:q≠a:=fun e=>naq (by rw [← e];exact List.mem_of_getElem? hq)
   have len':rs'.length=Pic.length:=by rw [p'.rows.len,Mir.bw]
   obtain ⟨r,hr'⟩:∃r,rs'[t + j]?=some r:=⟨_,List.getElem?_eq_getElem (by omega)⟩
   have hrow:=p'.rows.at_ (t + j) r hr'
   have eT:(piece.take j).length=j:=by rw [List.length_take];omega
   have rl:((Mir.aC Pic l t (piece.take j)).getD (t + j) []).length=wd:=by
    rw [Mir.bW _ _ _ _ _ (by rw [eT];omega),if_neg (by rw [eT];omega)]
    exact hw _ (Mir.getD_mem (by omega))
   have pl:=hpc _ (Mir.getD_mem hjl)
   refine ⟨TT,_,rfl,ju.of ae,rfl,_,_,rfl,_,_,rfl,rfl,?_⟩
   refine ⟨_,rfl,_,rfl,_,rfl,_,_,rfl,rfl,a,_,_,_,rfl,rfl,bV.of (sT _ _ p'.lst),at_of (j:=t + j) (v:=V.ref r) (by omega) (nA hr'),_,rfl,_,rfl,?_⟩
   refine ⟨r,q,_,_,l,rfl,sT _ _ hrow,sT _ _ (sb _ _ hql nqa),by rw [rl];exact pl,by rw [rl];exact hwd,fun H2 q2 hq2 hn2 s2=>?_⟩
   refine ⟨_,rfl,_,rfl,_,rfl,_,_,rfl,rfl,a,_,_,t + j,rfl,rfl,s2 _ _ (sT _ _ p'.lst),?_,?_⟩
   ·rw [show ((t:Int) + ((j:Nat):Int))=((t + j:Nat):Int) by omega,List.length_map]
    exact ux (by omega)
   ·have nq2:q2≠a:=by
     rcases hq2 with e | e
     ·rw [e];exact nqa
     ·exact fun e'=>by rw [e',sT _ _ p'.lst] at e;cases e
    refine ⟨rs'.set (t + j) q2,_,_,rfl,⟨?_,?_,?_⟩,?_,?_⟩
    ·rw [ae,nX]
    ·have e1:Mir.aC Pic l t (piece.take (j + 1))=(Mir.aC Pic l t (piece.take j)).set (t + j) (Mir.bM ((Mir.aC Pic l t (piece.take j)).getD (t + j) []) l (piece.getD j [])):=by
      have:piece.take (j + 1)=piece.take j++[piece.getD j []]:=take_snoc (by rw [List.getD_eq_getElem?_getD,List.getElem?_eq_getElem hjl];rfl)
      rw [this,ma,eT]
     rw [e1]
     refine cq.set ?_ ?_
     ·refine p'.rows.keeps fun r1 hr1 o e=>?_
      rw [aj (fun q=>p'.ne (by rw [← q];exact hr1))]
      exact s2 _ _ (sT _ _ e)
     ·rw [aj nq2]
      exact hn2
    ·intro hm
     rcases List.mem_or_eq_of_mem_set hm with h1 | h1
     ·exact p'.ne h1
     ·exact nq2 h1.symm
    ·intro r1 hr1
     rcases List.mem_or_eq_of_mem_set hr1 with h1 | h1
     ·exact hrs r1 h1
     ·subst h1
      rcases hq2 with e | e
      ·exact .inr (.inl (by rw [e];exact List.mem_of_getElem? hq))
      ·refine .inr (.inr ?_)
       cases e3:H r1 with
       | none=>rfl
       | some o=>
        have:=sT _ _ (sb _ _ e3 nq2)
        rw [e] at this
        cases this
    ·intro c o e nc
     rw [aj nc]
     exact s2 _ _ (sT _ _ (sb _ _ e nc))
  ·rintro σ H' ⟨rs',u,v,rfl,p',hrs,sb⟩
   rw [List.length_map,pb.rows.len,List.take_length] at p'
   exact k H' rs' p' hrs sb
def DO:Sp:=fun vs H Q _=>∃(a:Addr) (rs:List Addr) (Pic:List (List Nat)) (l t cw ch p wd:Nat),vs=[.ref a,.int (l:Int),.int (t:Int),.int (cw:Int),.int (ch:Int),.int (p:Int)]∧gg H a rs Pic∧
 (∀x∈Pic,x.length=wd)∧wd≤65536∧Pic.length≤65536∧l + cw≤wd∧t + ch≤Pic.length∧xC H a rs [] (Mir.aC Pic l t (Mir.eO cw ch p)) Q
theorem yM (T:Txt P w K mg A):FnAt P w K mg base "fill" 3 ["picture","left","top","width","height","pixel"] DO:=by
 refine T.uk.at_ (fun _ _ _ _ _ _ us hl=>match us,hl with | [_,_,_,_,_,_],_=>rfl) fun f fd F=>?_
 refine F.ok Ci (fun vs H Q E h=>?_) (fun cdv A outer s H vs Q E hr h=>?_)
 ·obtain ⟨a,rs,Pic,l,t,cw,ch,p,wd,rfl,_⟩:=h
  rfl
 ·obtain ⟨a,rs,Pic,l,t,cw,ch,p,wd,rfl,pa,hw,hwd,hpl,hl,ht,k⟩:=h
  refine ⟨_,ak (az (aK (vS T) hr rfl (aa (pv 0) (aa (pv 1) (aa (pv 2) (aa (aK (mF T) (hr.mono (by decide)) rfl (aa (pv 3) (aa (pv 4) (aa (pv 5) ah)))) ah)))))),?_⟩
  refine ⟨_,rfl,_,rfl,_,rfl,_,rfl,_,rfl,_,rfl,cw,ch,p,rfl,by omega,by omega,fun H1 b qs hb h1 r1 f1 s1=>?_⟩
  have nab:a≠b:=aE pa.lst hb
  have naq:a∉qs:=fun hm=>by have:=(f1 a hm).1;rw [pa.lst] at this;cases this
  have pb:gg H1 b qs (Mir.eO cw ch p):=⟨h1,r1,fun hm=>(f1 b hm).2 rfl⟩
  have R:=Mir.eR cw ch p
  refine ⟨a,b,rs,qs,Pic,_,l,t,wd,rfl,pa.keeps (fun c _ o e=>s1 c o e),pb,nab,naq,hw,hwd,fun x hx=>by rw [R.row x hx];exact hl,by rw [R.len];exact ht,fun H2 rs2 p2 hr2 sb2=>?_⟩
  refine k H2 rs2 p2 (fun r hr=>?_) (fun c o e nc=>sb2 c o (s1 c o e) nc)
  rcases hr2 r hr with h | h | h
  ·exact .inl h
  ·exact .inr (.inr (f1 r h).1)
  ·exact .inr (.inr (s1.free h))
end
section
variable {X:Cx} {e:Expr} {te:TE} {p p2 pos pos2:Pos}
def Co (te:TE):TE:=fun σ H Q=>te σ H fun x H1=>∃n:Nat,x=.int (n:Int)∧n≤65536∧∀q,H1 q=none→Q (.ref q) (upd H1 q (.lst (nI (List.range n))))
theorem xD {acc:Array Value} {n:Nat} (h:ItemsOf (fun i v=>∃t,v=Value.int (0 + (i:Int) * 1) t) acc n):Vals (nI (List.range n)) acc.toList:=by
 have key:∀(l:List Value) (a m:Nat),l.length=m→(∀i v,l[i]?=some v→∃t,v=Value.int ((a + i:Nat):Int) t)→Vals (nI ((List.range m).map (a + ·))) l:=by
  intro l
  induction l with
  | nil=>intro a m hm _;subst hm;exact .nil
  | cons v l ih=>
   intro a m hm hv
   subst hm
   rw [List.length_cons,List.range_succ_eq_map,List.map_cons,List.map_map]
   obtain ⟨t,rfl⟩:=hv 0 v rfl
   refine .cons ⟨t,rfl⟩ ?_
   have:=ih (a + 1) l.length rfl (fun i u hu=>by
    obtain ⟨t,ht⟩:=hv (i + 1) u hu
    exact ⟨t,by rw [ht];congr 1;omega⟩)
   have e2:((fun x=>a + x) ∘ Nat.succ)=(fun x=>a + 1 + x):=by funext x;simp only [Function.comp];omega
   rw [e2]
   exact this
 have:=key acc.toList 0 n (by rw [Array.length_toList,h.1]) (fun i v hv=>by
  obtain ⟨t,ht⟩:=h.2 i v (by rw [← Array.getElem?_toList];exact hv)
  exact ⟨t,by rw [ht];congr 1;omega⟩)
 have e3:(List.range n).map (0 + ·)=List.range n:=by
  rw [show (fun x=>0 + x)=(id:Nat→Nat) by funext x;simp,List.map_id]
 rw [e3] at this
 exact this
theorem uy (hg:Gl X "list") (hm:X.mg "list"=none) (hg2:Gl X "range") (hm2:X.mg "range"=none) (hc:X.calm=true) (he:PE X e te)
  (hs:starEach [e] X.env=[(false,eval e X.env)]:=by rfl)
  (hs2:starEach [(.Call (.Name "range" p2) [e] [] pos2:Expr)] X.env=[(false,eval (.Call (.Name "range" p2) [e] [] pos2) X.env)]:=by rfl) :
  PE X (.Call (.Name "list" p) [.Call (.Name "range" p2) [e] [] pos2] [] pos) (Co te):=by
 intro pins s σ H Q I h
 refine Call_ (kC I hg hm (by decide +kernel:bootBuiltins "list"=some (.type "list")) (PyProof.Rows.callWith_type1 ?_ hs2 rfl))
 refine args_cons ?_ hs2
 refine Call_ (kC I hg2 hm2 boot_range (PyProof.Rows.callWith_type1 (args_cons (d4 (he pins s σ H _ I h) fun u s1 ⟨x,H1,I1,rx,n,ex,hn,q⟩=>args_nil ?_) hs) hs rfl))
 subst ex
 obtain ⟨t,rfl⟩:=rx
 refine call_range_1 (args_nil ?_)
 refine call_list_range (n:=n) (I.ok.hd hc) (IsRange.new ..) (small_one (by omega) (by omega) (by omega) (by omega)) (by rw [rangeSize_one];split <;> omega) (by omega) fun h' tk acc c' hk hS' ha=>?_
 have keep:∀b o,s1.heap.get? b=some o→h'.get? b=some o:=fun b o e1=>hk b o (Heap.get?_push_of_some _ e1)
 have hp:s1.heap.objs.size≤(s1.heap.push { cls:=.type "range",data:=.fields #[.int 0 s1.toks,.int n t,.int 1 (s1.toks + 1)] }).objs.size:=by
  rw [Heap.size_push]
  exact Nat.le_succ _
 refine ⟨.ref _,_,I1.laid (o:=.lst (nI (List.range n))) (t':=tk) keep hp ⟨?_,acc.toList,c',xD ha,?_⟩,rfl,q _ (I1.dZ.fresh hp)⟩
 ·rw [aU,List.length_range,sizeLine_eq]
  omega
 ·rw [Array.toArray_toList]
  exact hS'
end
theorem joinH {β:Type} {F R:β→Prop} {G:Prop} (main:(∀b,F b→R b)→G) (tail:∀b,F b→R b):G:=main tail
theorem joinR {α β:Type} {F R:α→β→Prop} {G:Prop} (main:(∀a b,F a b→R a b)→G) (tail:∀a b,F a b→R a b):G:=main tail
def ib (Pic:List (List Nat)) (fl ft cw ch:Nat):List (List Nat):=((Pic.drop ft).take ch).map fun row=>(row.drop fl).take cw
theorem vT {Pic:List (List Nat)} {fl ft cw ch:Nat} (h:ft + ch≤Pic.length):(ib Pic fl ft cw ch).length=ch:=by
 unfold ib
 rw [List.length_map,List.length_take,List.length_drop]
 omega
theorem vU {Pic:List (List Nat)} {fl ft cw ch j:Nat} (h:ft + ch≤Pic.length) (hj:j < ch):(ib Pic fl ft cw ch).getD j []=((Pic.getD (ft + j) []).drop fl).take cw:=by
 unfold ib
 rw [List.getD_eq_getElem?_getD,List.getElem?_map,List.getElem?_take,if_pos hj,List.getElem?_drop,List.getD_eq_getElem?_getD,List.getElem?_eq_getElem (by omega)]
 rfl
structure Order (ps:List Nat) (ch ft t:Nat):Prop where
 mem:∀p,p∈ps ↔ p < ch
 ok:∀(j p:Nat),ps[j]?=some p→∀q∈ps.take j,q≠p∧t + q≠ft + p
theorem Order.up {ch ft t:Nat} (h:¬ ft < t):Order (List.range ch) ch ft t:=⟨fun p=>List.mem_range,fun j p hp q hq=>by
 have hj:=(List.getElem?_eq_some_iff.mp hp).1
 rw [List.length_range] at hj
 rw [List.getElem?_range hj] at hp
 cases hp
 obtain ⟨i,hi,e⟩:=List.getElem_of_mem hq
 rw [List.length_take] at hi
 rw [List.getElem_take,List.getElem_range] at e
 omega⟩
theorem Order.down {ch ft t:Nat} (h:ft < t):Order (List.range ch).reverse ch ft t:=⟨fun p=>by rw [List.mem_reverse];exact List.mem_range,fun j p hp q hq=>by
 obtain ⟨hj,ej⟩:=List.getElem?_eq_some_iff.mp hp
 rw [List.length_reverse,List.length_range] at hj
 rw [List.getElem_reverse,List.getElem_range,List.length_range] at ej
 obtain ⟨i,hi,e⟩:=List.getElem_of_mem hq
 rw [List.length_take,List.length_reverse,List.length_range] at hi
 rw [List.getElem_take,List.getElem_reverse,List.getElem_range,List.length_range] at e
 omega⟩
structure md (Pic:List (List Nat)) (fl ft l t cw:Nat) (done:List Nat) (Pc:List (List Nat)):Prop where
 len:Pc.length=Pic.length
 row:∀y,y < Pic.length→Pc.getD y []=if y∈done.map (t + ·) then Mir.bM (Pic.getD y []) l (((Pic.getD (ft + (y - t)) []).drop fl).take cw) else Pic.getD y []
theorem md.out {Pic:List (List Nat)} {fl ft l t cw:Nat} {done:List Nat} {Pc:List (List Nat)} (M:md Pic fl ft l t cw done Pc) {y:Nat} (h:y < Pic.length) (hn:∀q∈done,t + q≠y):Pc.getD y []=Pic.getD y []:=by
 rw [M.row y h,if_neg]
 intro hm
 obtain ⟨q,hq,e⟩:=List.mem_map.mp hm
 exact hn q hq e
theorem md.next {Pic:List (List Nat)} {fl ft l t cw:Nat} {done:List Nat} {Pc:List (List Nat)} (M:md Pic fl ft l t cw done Pc) {p:Nat} (h:t + p < Pic.length) (hn:∀q∈done,q≠p) :
  md Pic fl ft l t cw (done++[p]) (Pc.set (t + p) (Mir.bM (Pic.getD (t + p) []) l (((Pic.getD (ft + p) []).drop fl).take cw))):=by
 refine ⟨by rw [List.length_set];exact M.len,fun y hy=>?_⟩
 by_cases c:t + p=y
 ·subst c
  rw [if_pos (by rw [List.map_append];exact List.mem_append_right _ (by simp)),List.getD_eq_getElem?_getD,List.getElem?_set_self (by rw [M.len];exact h)]
  rw [show t + p - t=p by omega]
  rfl
 ·rw [List.getD_eq_getElem?_getD,List.getElem?_set_ne c,← List.getD_eq_getElem?_getD,M.row y hy]
  have e:(y∈(done++[p]).map (t + ·)) ↔ y∈done.map (t + ·):=by
   rw [List.map_append,List.mem_append]
   refine ⟨fun h=>h.elim id fun h=>?_,.inl⟩
   simp only [List.map_cons,List.map_nil,List.mem_singleton] at h
   exact absurd h.symm c
  by_cases d:y∈done.map (t + ·)
  ·rw [if_pos d,if_pos (e.mpr d)]
  ·rw [if_neg d,if_neg (fun q=>d (e.mp q))]
theorem md.all {Pic:List (List Nat)} {fl ft l t cw ch:Nat} {ps:List Nat} {Pc:List (List Nat)} (M:md Pic fl ft l t cw ps Pc) (hp:∀p,p∈ps ↔ p < ch) (hft:ft + ch≤Pic.length) (ht:t + ch≤Pic.length):Pc=Mir.aC Pic l t (ib Pic fl ft cw ch):=by
 have cl:=vT (fl:=fl) (cw:=cw) hft
 refine Mir.lS (by rw [M.len,Mir.bw]) fun y hy=>?_
 rw [M.len] at hy
 rw [M.row y hy,Mir.bW _ _ _ _ _ (by rw [cl];exact ht),cl]
 have e:y∈ps.map (t + ·) ↔ t≤y∧y < t + ch:=by
  rw [List.mem_map]
  refine ⟨fun ⟨q,hq,e⟩=>?_,fun h=>⟨y - t,(hp _).mpr (by omega),by omega⟩⟩
  have:=(hp q).mp hq
  omega
 by_cases c:t≤y∧y < t + ch
 ·rw [if_pos c,if_pos (e.mpr c),vU hft (by omega)]
 ·rw [if_neg c,if_neg (fun q=>c (e.mp q))]
section
variable {P:Program} {w:World} {K:PySem.W.Frag} {mg:Str→Option Value} {base:Heap} {A:bI}
def DP:Sp:=fun vs H Q _=>∃(a:Addr) (rs:List Addr) (Pic:List (List Nat)) (fl ft l t cw ch wd:Nat),vs=[.ref a,.int (fl:Int),.int (ft:Int),.int (l:Int),.int (t:Int),.int (cw:Int),.int (ch:Int)]∧gg H a rs Pic∧
 (∀x∈Pic,x.length=wd)∧wd≤65536∧Pic.length≤65536∧fl + cw≤wd∧ft + ch≤Pic.length∧l + cw≤wd∧t + ch≤Pic.length∧xC H a rs [] (Mir.aC Pic l t (ib Pic fl ft cw ch)) Q
theorem Cp (T:Txt P w K mg A):FnAt P w K mg base "move" 2 ["picture","from_left","from_top","left","top","width","height"] DP:=by
 refine T.um.at_ (fun _ _ _ _ _ _ us hl=>match us,hl with | [_,_,_,_,_,_,_],_=>rfl) fun f fd F=>?_
 refine F.ok yD (fun vs H Q E h=>?_) (fun cdv A outer s H vs Q E hr h=>?_)
 ·obtain ⟨a,rs,Pic,fl,ft,l,t,cw,ch,wd,rfl,_⟩:=h
  rfl
 ·obtain ⟨a,rs,Pic,fl,ft,l,t,cw,ch,wd,rfl,pa,hw,hwd,hpl,hfl,hft,hl,ht,k⟩:=h
  have nd:=yD.nd
  have E5:=pa.rows.len
  refine ⟨_,ab (aI (i:=7) nd rfl (Or.inl rfl) (uy rfl T.rL rfl T.ia rfl (pv 6)))
   (ab (aX (aQ yi (pv 2) (pv 4) (aT _)) (ak (az (AY PySem.F.plainAttrs_list PySem.F.slot_list_reverse PySem.F.type_list_reverse w_ (pv 7)))) aP)
   (ak (kE PassesOwn.never rfl (qA (pv 7)) (di (i:=8) nd rfl (Or.inl rfl))
   (ab (aI (i:=9) nd rfl (Or.inl rfl) (cN bq (pv 0) (aH bA (pv 2) (pv 8)) (fun _ _=>rfl)))
   (ab (aI (i:=10) nd rfl (Or.inl rfl) (qS (aQ d_ (pv 5) (bZ bj (by rfl) T.fQ PySem.boot_len (aa (pv 9) ah)) (aT _)) (pv 9) (ee fC (pv 9) (dj (pv 1)) (dj (aH bA (pv 1) (pv 5))))))
   (ak (wK (aK (p8 T) hr rfl (aa (cN bq (pv 0) (aH bA (pv 4) (pv 8)) (fun _ _=>rfl)) (aa (pv 3) (aa (pv 10) ah)))) (wJ (pv 0) (aH bA (pv 4) (pv 8)) set_list)))))))),?_⟩
  refine ⟨_,rfl,ch,rfl,by omega,fun b hb=>?_⟩
  have nab:a≠b:=aE pa.lst hb
  refine ⟨_,rfl,_,rfl,_,_,rfl,rfl,_,rfl,?_⟩
  show if decide ((ft:Int) < (t:Int))=true then _ else _
  apply joinR (F:=fun (ps:List Nat) (H1:Hp)=>ps.length=ch∧Order ps ch ft t∧H1=upd H b (.lst (nI ps)))
  case main=>
   intro tail
   by_cases c:ft < t
   ·rw [decide_eq_true (show (ft:Int) < (t:Int) by omega)]
    refine cG ⟨_,rfl,.inl ⟨rfl,_,bV.of ae⟩,b,_,rfl,rfl,ae,?_⟩
    rw [bg,show (nI (List.range ch)).reverse=nI (List.range ch).reverse from by unfold nI;rw [List.map_reverse]]
    obtain ⟨ps,hps,O⟩:∃ps,ps=(List.range ch).reverse∧Order ps ch ft t:=⟨_,rfl,.down c⟩
    rw [← hps]
    obtain ⟨H1,hH1⟩:∃H1,H1=upd H b (.lst (nI ps)):=⟨_,rfl⟩
    rw [← hH1]
    exact tail ps H1 ⟨by rw [hps];simp,O,hH1⟩
   ·rw [decide_eq_false (show ¬ (ft:Int) < (t:Int) by omega)]
    refine cE ?_
    obtain ⟨ps,hps,O⟩:∃ps,ps=List.range ch∧Order ps ch ft t:=⟨_,rfl,.up c⟩
    rw [← hps]
    obtain ⟨H1,hH1⟩:∃H1,H1=upd H b (.lst (nI ps)):=⟨_,rfl⟩
    rw [← hH1]
    exact tail ps H1 ⟨by rw [hps];simp,O,hH1⟩
  case tail=>
   rintro ps H1 ⟨pl,O,rfl⟩
   have sB:=ay (o:=.lst (nI ps)) hb
   refine ⟨_,rfl,b,rfl,⟨_,bV.of ae⟩,va (K:=K) (a:=b) (xs:=nI ps)
    (fun j σ H'=>∃(rs':List Addr) (Pc:List (List Nat)) (u v x:Option V),σ=[some (.ref a),some (.int (fl:Int)),some (.int (ft:Int)),some (.int (l:Int)),some (.int (t:Int)),some (.int (cw:Int)),some (.int (ch:Int)),some (.ref b),u,v,x]∧
     gg H' a rs' Pc∧md Pic fl ft l t cw (ps.take j) Pc∧(∀r∈rs',r∈rs∨H r=none)∧SameBut (upd H b (.lst (nI ps))) H' (·=a))
    ⟨rs,Pic,none,none,none,rfl,pa.keeps (fun c _ o e=>sB c o e),⟨rfl,fun y _=>by simp⟩,fun r h=>.inl h,fun b o e _=>e⟩ (fun j σ H' _ ⟨_,_,_,_,_,_,_,_,_,sb⟩=>bV.of (sb _ _ ae (fun q=>nab q.symm))) ?_ ?_⟩
   ·rintro j y σ H' hj ⟨rs',Pc,u,v,x,rfl,p',M,hrs,sb⟩
    obtain ⟨p,hp,rfl⟩:=ke hj
    have hpc:p < ch:=(O.mem p).mp (List.mem_of_getElem? hp)
    have hO:=O.ok j p hp
    have len':rs'.length=Pic.length:=by rw [p'.rows.len,M.len]
    obtain ⟨q,hq⟩:∃q,rs'[ft + p]?=some q:=⟨_,List.getElem?_eq_getElem (by omega)⟩
    obtain ⟨r,hr'⟩:∃r,rs'[t + p]?=some r:=⟨_,List.getElem?_eq_getElem (by omega)⟩
    have hql:=p'.rows.at_ (ft + p) q hq
    rw [M.out (y:=ft + p) (by omega) (fun z hz=>(hO z hz).2)] at hql
    have hrow:=p'.rows.at_ (t + p) r hr'
    rw [M.out (y:=t + p) (by omega) (fun z hz=>by have:=(hO z hz).1;omega)] at hrow
    have rl:(Pic.getD (t + p) []).length=wd:=hw _ (Mir.getD_mem (by omega))
    have ql:(Pic.getD (ft + p) []).length=wd:=hw _ (Mir.getD_mem (by omega))
    have nqa:q≠a:=fun e=>p'.ne (by rw [← e];exact List.mem_of_getElem? hq)
    have qm:q∈rs':=List.mem_of_getElem? hq
    refine ⟨_,rfl,_,rfl,_,rfl,_,_,rfl,rfl,a,_,_,_,rfl,rfl,bV.of p'.lst,at_of (j:=ft + p) (v:=V.ref q) (by omega) (nA hq),?_⟩
    refine ⟨_,rfl,_,rfl,q,_,rfl,.inl (bV.of hql),rfl,_,rfl,?_⟩
    show if decide (V.int (cw:Int)=V.int ((nI (Pic.getD (ft + p) [])).length:Nat))=true then _ else _
    rw [aU,ql]
    have sl:(((Pic.getD (ft + p) []).drop fl).take cw).length=cw:=by
     rw [List.length_take,List.length_drop,ql]
     omega
    apply joinR (F:=fun (z:Addr) (H2:Hp)=>bX H' H2∧(z∈rs'∨H' z=none)∧H2 z=some (.lst (nI (((Pic.getD (ft + p) []).drop fl).take cw))))
    case main=>
     intro tail
     by_cases c2:¬ cw=wd
     ·rw [show decide (V.int (cw:Int)=V.int (wd:Int))=false from decide_eq_false (fun e=>c2 (by injection e with e;omega))]
      refine cE ⟨_,rfl,_,rfl,_,rfl,_,rfl,_,rfl,_,_,rfl,rfl,_,rfl,q,_,rfl,bV.of hql,fun z hz0=>?_⟩
      rw [mw,iG,jy]
      obtain ⟨H2,hz2,s2,zm,hz⟩:∃H2,upd H' z (.lst (nI (((Pic.getD (ft + p) []).drop fl).take cw)))=H2∧bX H' H2∧(z∈rs'∨H' z=none)∧H2 z=some (.lst (nI (((Pic.getD (ft + p) []).drop fl).take cw))):=⟨_,rfl,ay hz0,.inr hz0,ae⟩
      rw [hz2]
      exact tail z H2 ⟨s2,zm,hz⟩
     ·have c2:cw=wd:=Classical.not_not.mp c2
      rw [show decide (V.int (cw:Int)=V.int (wd:Int))=true from decide_eq_true (by rw [c2])]
      refine cG ⟨_,rfl,tail q H' ⟨bX.refl H',.inl qm,?_⟩⟩
      rw [show fl=0 by omega,List.drop_zero,List.take_of_length_le (by omega)]
      exact hql
    case tail=>
     rintro z H2 ⟨s2,zm,hz⟩
     have nza:z≠a:=by
      rcases zm with e | e
      ·exact fun q=>p'.ne (by rw [← q];exact e)
      ·exact fun q=>by rw [q,p'.lst] at e;cases e
     refine ⟨_,rfl,_,rfl,_,rfl,_,_,rfl,rfl,a,_,_,_,rfl,rfl,bV.of (s2 _ _ p'.lst),at_of (j:=t + p) (v:=V.ref r) (by omega) (nA hr'),_,rfl,_,rfl,?_⟩
     refine ⟨r,z,_,_,l,rfl,s2 _ _ hrow,hz,by rw [rl,sl];exact hl,by rw [rl];exact hwd,fun H3 q3 hq3 hn3 s3=>?_⟩
     refine ⟨_,rfl,_,rfl,_,rfl,_,_,rfl,rfl,a,_,_,t + p,rfl,rfl,s3 _ _ (s2 _ _ p'.lst),?_,?_⟩
     ·rw [show ((t:Int) + (p:Int))=((t + p:Nat):Int) by omega,List.length_map]
      exact ux (by omega)
     ·have nq3:q3≠a:=by
       rcases hq3 with e | e
       ·rw [e];exact nza
       ·exact fun e'=>by rw [e',s2 _ _ p'.lst] at e;cases e
      have old3:q3∈rs'∨H q3=none:=by
       cases e3:H q3 with
       | none=>exact .inr rfl
       | some o=>
        have h1:=sb _ _ (sB _ _ e3) nq3
        rcases hq3 with e | e
        ·rcases zm with g | g
         ·exact .inl (by rw [e];exact g)
         ·rw [e,g] at h1;cases h1
        ·rw [s2 _ _ h1] at e;cases e
      refine ⟨rs'.set (t + p) q3,Pc.set (t + p) (Mir.bM (Pic.getD (t + p) []) l (((Pic.getD (ft + p) []).drop fl).take cw)),_,_,_,rfl,⟨?_,?_,?_⟩,?_,?_,?_⟩
      ·rw [ae,nX]
      ·refine cq.set ?_ ?_
       ·refine p'.rows.keeps fun r1 hr1 o e=>?_
        rw [aj (fun q=>p'.ne (by rw [← q];exact hr1))]
        exact s3 _ _ (s2 _ _ e)
       ·rw [aj nq3]
        exact hn3
      ·intro hm
       rcases List.mem_or_eq_of_mem_set hm with h1 | h1
       ·exact p'.ne h1
       ·exact nq3 h1.symm
      ·rw [take_snoc hp]
       exact M.next (by omega) fun q hq=>(hO q hq).1
      ·intro r1 hr1
       rcases List.mem_or_eq_of_mem_set hr1 with h1 | h1
       ·exact hrs r1 h1
       ·subst h1
        rcases old3 with e | e
        ·exact hrs _ e
        ·exact .inr e
      ·intro c o e nc
       rw [aj nc]
       exact s3 _ _ (s2 _ _ (sb _ _ e nc))
   ·rintro σ H' ⟨rs',Pc,u,v,x,rfl,p',M,hrs,sb⟩
    rw [aU,List.take_length] at M
    rw [M.all O.mem hft ht] at p'
    exact k H' rs' p' (fun r hr=>(hrs r hr).elim .inl fun h=>.inr (.inr h)) fun c o e nc=>sb _ _ (sB _ _ e) nc
structure FF where
 bits:Nat
 high:Bool
 parts:Bool
 gr:Addr
 sh:Addr
def FF.fs (x:FF):List (Str × V):=[("bits",.int (x.bits:Int)),("size",.int (x.bits / 8:Nat)),("high_first",.bl x.high),("by_parts",.bl x.parts),("greatest",.ref x.gr),("shifts",.ref x.sh)]
def jo (A:bI) (H:Hp) (a:Addr) (bits:Nat) (f:Sn44.Form):Prop:=∃dx gr sh,H a=some (.ins A.Form dx (FF.fs ⟨bits,f.big,f.parts,gr,sh⟩))∧H gr=some (.tup (nI f.maxes))∧H sh=some (.tup (nI f.shifts))∧f.size=bits / 8
theorem jo.keeps {A:bI} {H H':Hp} {a:Addr} {bits:Nat} {f:Sn44.Form} (h:jo A H a bits f) (k:bX H H'):jo A H' a bits f:=by
 obtain ⟨dx,gr,sh,h1,h2,h3,h4⟩:=h
 exact ⟨dx,gr,sh,k _ _ h1,k _ _ h2,k _ _ h3,h4⟩
end
theorem uz {ws:List Nat} {i:Nat} (h:i + 2≤ws.length):Mir.sub ws i 2=Mir.two ws i:=by
 unfold Mir.sub Mir.two
 have e1:ws.drop i=ws.getD i 0 :: ws.getD (i + 1) 0 :: ws.drop (i + 2):=by
  rw [List.drop_eq_getElem_cons (by omega),List.drop_eq_getElem_cons (by omega),List.getD_eq_getElem?_getD,List.getD_eq_getElem?_getD,List.getElem?_eq_getElem (by omega),List.getElem?_eq_getElem (by omega)]
  rfl
 rw [e1]
 show 256 * (256 * 0 + ws.getD i 0) + ws.getD (i + 1) 0=_
 omega
theorem sub_one {ws:List Nat} {i:Nat} (h:i + 1≤ws.length):Mir.sub ws i 1=ws.getD i 0:=by
 unfold Mir.sub
 rw [List.drop_eq_getElem_cons (by omega),List.getD_eq_getElem?_getD,List.getElem?_eq_getElem (by omega)]
 show 256 * 0 + _=_
 rw [Nat.mul_zero,Nat.zero_add]
 rfl
theorem DQ {ws:List Nat} {i:Nat} (h:i < ws.length):ws[i]?=some (ws.getD i 0):=by
 rw [List.getD_eq_getElem?_getD,List.getElem?_eq_getElem h]
 rfl
theorem j5 {ws:List Nat} {i:Nat} {z:Int} (e:z=(i:Int)) (h:i < ws.length):AV (nI ws) z=some (.int (ws.getD i 0:Nat)):=at_of e (E1 (DQ h))
theorem mG (n:Nat):(!decide (V.int (n:Int)=V.int 0))=(n != 0):=by
 rw [jv]
 cases n with
 | zero=>rfl
 | succ n=>rfl
section
variable {P:Program} {w:World} {K:PySem.W.Frag} {mg:Str→Option Value} {base:Heap} {A:bI}
def xE (K:PySem.W.Frag) (A:bI):Sp:=fun vs H Q _=>∃(p dx a:Addr) (ws:List Nat),vs=[.ref p,.ref a]∧H p=some (.ins A.Form dx [])∧H a=some (.lst (nI ws))∧ws.length=16∧
 ∀H',jo A H' p (ws.getD 0 0) (Mir.formOf ws)→SameBut H H' (·=p)→Q .cD H'
theorem Cq (T:Txt P w K mg A):xr P w K mg base A.Form "Form" 2 ["self","words"] (xE K A):=by
 refine T.ur.at_ (fun _ _ _ _ _ _ us hl=>match us,hl with | [_,_],_=>rfl) fun f fd F=>?_
 refine F.ok ui (fun vs H Q E h=>?_) (fun cdv AA outer s H vs Q E hr h=>?_)
 ·obtain ⟨p,dx,a,ws,rfl,_⟩:=h
  rfl
 ·obtain ⟨p,dx,a,ws,rfl,hp,ha,hl,k⟩:=h
  have npa:a≠p:=CI ha hp (by intro z;cases z)
  have word:∀{X:Cx} {j:Nat} {z pos pos2 i pos3},PE X (.Name z pos) (wD j)→PE X (.Subscript (.Name z pos) (.Constant (.int i) 0 pos2) pos3) (EC (EK X.K) (wD j) (tC (.int i))):=fun h=>cN bq h ai (fun _ _=>rfl)
  refine ⟨_,ab (aJ (pv 0) (cN bq (pv 1) ai (fun _ _=>rfl)) rfl)
   (ab (aJ (pv 0) (aH nU (cN bq (pv 1) ai (fun _ _=>rfl)) ai) rfl)
   (ab (aJ (pv 0) (nW nV (cN bq (pv 1) ai (fun _ _=>rfl)) ai (aT _)) rfl)
   (ab (aJ (pv 0) (nW nV (cN bq (pv 1) ai (fun _ _=>rfl)) ai (aT _)) rfl)
   (ab (aJ (pv 0) (tR (aa (aK (aN T) hr rfl (aa (pv 1) (aa ai (aa ai ah)))) (aa (aK (aN T) hr rfl (aa (pv 1) (aa ai (aa ai ah)))) (aa (aK (aN T) hr rfl (aa (pv 1) (aa ai (aa ai ah)))) ah)))) rfl)
   (ak (aJ (pv 0) (tR (aa (cN bq (pv 1) ai (fun _ _=>rfl)) (aa (cN bq (pv 1) ai (fun _ _=>rfl)) (aa (cN bq (pv 1) ai (fun _ _=>rfl)) ah)))) rfl)))))),?_⟩
  refine ⟨_,rfl,a,_,_,_,rfl,rfl,bV.of ha,j5 (i:=0) rfl (by omega),_,rfl,p,A.Form,dx,_,rfl,hp,T.bB,T.fo,by show 0 < 1000;decide,?_⟩
  have ha1:∀{o},upd H p o a=some (.lst (nI ws)):=by intro o;rw [aj npa];exact ha
  refine ⟨_,rfl,a,_,_,_,rfl,rfl,bV.of ha1,j5 (i:=0) rfl (by omega),_,_,rfl,rfl,⟨by decide,by decide⟩,_,rfl,p,A.Form,dx,_,rfl,ae,T.bB,T.bO,by show 1 < 1000;decide,?_⟩
  rw [bg]
  refine ⟨_,rfl,a,_,_,_,rfl,rfl,bV.of ha1,j5 (i:=2) rfl (by omega),rfl,_,rfl,p,A.Form,dx,_,rfl,ae,T.bB,T.dQ,by show 2 < 1000;decide,?_⟩
  rw [bg,mG]
  refine ⟨_,rfl,a,_,_,_,rfl,rfl,bV.of ha1,j5 (i:=3) rfl (by omega),rfl,_,rfl,p,A.Form,dx,_,rfl,ae,T.bB,T.c_,by show 3 < 1000;decide,?_⟩
  rw [bg,mG]
  refine ⟨_,rfl,a,ws,4,2,rfl,bV.of ha1,fun H1 s1=>⟨_,rfl,a,ws,6,2,rfl,bV.of (s1 _ _ ha1),fun H2 s2=>⟨_,rfl,a,ws,8,2,rfl,bV.of (s2 _ _ (s1 _ _ ha1)),fun H3 s3=>⟨by show 3≤sizeLine;decide,fun q hq=>?_⟩⟩⟩⟩
  rw [uz (by omega),uz (by omega),uz (by omega)]
  have s4:=ay (o:=.tup [V.int (Mir.two ws 4:Nat),V.int (Mir.two ws 6:Nat),V.int (Mir.two ws 8:Nat)]) hq
  refine ⟨_,rfl,p,A.Form,dx,_,rfl,s4 _ _ (s3 _ _ (s2 _ _ (s1 _ _ ae))),T.bB,T.dD,by show 4 < 1000;decide,?_⟩
  have npq:p≠q:=fun e=>by rw [← e,s3 _ _ (s2 _ _ (s1 _ _ ae))] at hq;cases hq
  have ha2:∀{o},upd (upd H3 q (.tup [V.int (Mir.two ws 4:Nat),V.int (Mir.two ws 6:Nat),V.int (Mir.two ws 8:Nat)])) p o a=some (.lst (nI ws)):=by
   intro o
   rw [aj npa]
   exact s4 _ _ (s3 _ _ (s2 _ _ (s1 _ _ ha1)))
  refine ⟨_,rfl,a,_,_,_,rfl,rfl,bV.of ha2,j5 (i:=10) rfl (by omega),_,rfl,a,_,_,_,rfl,rfl,bV.of ha2,j5 (i:=11) rfl (by omega),_,rfl,a,_,_,_,rfl,rfl,bV.of ha2,j5 (i:=12) rfl (by omega),by show 3≤sizeLine;decide,fun q2 hq2=>?_⟩
  have npq2:p≠q2:=fun e=>by rw [← e,ae] at hq2;cases hq2
  have nqq2:q≠q2:=fun e=>by rw [← e,aj npq.symm,ae] at hq2;cases hq2
  refine ⟨_,rfl,p,A.Form,dx,_,rfl,by rw [aj npq2];exact ae,T.bB,T.eS,by show 5 < 1000;decide,?_⟩
  refine k _ ⟨dx,q,q2,?_,?_,?_,rfl⟩ ?_
  ·rw [ae]
   rfl
  ·rw [aj npq.symm,aj nqq2,aj npq.symm,ae]
   rfl
  ·rw [aj npq2.symm,ae]
   rfl
  ·intro b o e nb
   rw [aj nb]
   have e3:=s3 _ _ (s2 _ _ (s1 b o (by rw [aj nb];exact e)))
   have e4:=s4 _ _ e3
   have e5:upd (upd H3 q (.tup [V.int (Mir.two ws 4:Nat),V.int (Mir.two ws 6:Nat),V.int (Mir.two ws 8:Nat)])) p (HO.ins A.Form dx (bH "greatest" (V.ref q) (bH "by_parts" (V.bl (ws.getD 3 0 != 0)) (bH "high_first" (V.bl (ws.getD 2 0 != 0)) (bH "size" (V.int ((ws.getD 0 0:Int) / 8)) (bH "bits" (V.int (ws.getD 0 0:Int)) [])))))) b=some o:=by
    rw [aj nb];exact e4
   rw [aj (aE e5 hq2)]
   exact e5
end
abbrev kZ:List V:=[.int 1,.int 3,.int 7,.int 15,.int 31,.int 63,.int 127,.int 255]
theorem p9 {m:Nat} (h:uZ (.int (m:Int)) kZ=true):Sn44.bitsOf m=some (Builtin.Int.intBits (m:Int)):=by
 simp only [uZ,kZ,List.any_cons,List.any_nil,Ay,Bool.or_eq_true,beq_iff_eq,Bool.or_false] at h
 rcases h with h | h | h | h | h | h | h | h <;> (have e:=Int.ofNat.inj h;subst e;decide +kernel)
theorem p_ {m:Nat} (h:uZ (.int (m:Int)) kZ=false):Sn44.bitsOf m=none:=by
 unfold Sn44.bitsOf
 rw [List.find?_eq_none]
 intro k hk
 simp only [uZ,kZ,List.any_cons,List.any_nil,Ay,Bool.or_eq_false_iff,beq_eq_false_iff_ne,ne_eq,Bool.or_false] at h
 simp only [List.mem_cons,List.not_mem_nil,or_false] at hk
 rcases hk with rfl | rfl | rfl | rfl | rfl | rfl | rfl | rfl <;> simp <;> omega
theorem Bh {bits m sft:Nat} (h1:uZ (.int (m:Int)) kZ=true) (h2:¬ (bits:Int) < (sft:Int) + (Builtin.Int.intBits (m:Int):Nat)):Mir.nr bits (m,sft)=true:=by
 unfold Mir.nr
 rw [p9 h1]
 exact decide_eq_true (show sft + _≤bits by omega)
theorem yN {bits m sft:Nat} (h:uZ (.int (m:Int)) kZ=false∨(bits:Int) < (sft:Int) + (Builtin.Int.intBits (m:Int):Nat)):Mir.nr bits (m,sft)=false:=by
 unfold Mir.nr
 rcases h with h | h
 ·rw [p_ h]
  rfl
 ·cases e:uZ (.int (m:Int)) kZ with
  | false=>
   rw [p_ e]
   rfl
  | true=>
   rw [p9 e]
   exact decide_eq_false (show ¬ sft + _≤bits by omega)
theorem Bi {α:Type} {l:List α} {p:α→Bool} {i:Nat} {x:α} (h:l[i]?=some x) (a:(l.take i).all p=true) (b:p x=true):(l.take (i + 1)).all p=true:=by
 rw [take_snoc h,List.all_append,a]
 simp [b]
theorem vV {α:Type} {l:List α} {p:α→Bool} {i:Nat} {x:α} (h:l[i]?=some x) (b:p x=false):l.all p=false:=by
 rw [Bool.eq_false_iff]
 intro q
 rw [List.all_eq_true] at q
 have:=q x (List.mem_of_getElem? h)
 rw [b] at this
 cases this
section
variable {P:Program} {w:World} {K:PySem.W.Frag} {mg:Str→Option Value} {base:Heap} {A:bI}
def vW (A:bI):Sp:=fun vs H Q _=>∃(a:Addr) (bits:Nat) (f:Sn44.Form),vs=[.ref a]∧jo A H a bits f∧f.maxes.length=f.shifts.length∧∀H',bX H H'→Q (.bl ((f.maxes.zip f.shifts).all (Mir.nr bits))) H'
theorem sG (T:Txt P w K mg A):FnAt P w K mg base "parts_hold" 1 ["form"] (vW A):=by
 refine T.iS.at_ (fun _ _ _ _ _ _ us hl=>match us,hl with | [_],_=>rfl) fun f fd F=>?_
 refine F.ok mT (fun vs H Q E h=>?_) (fun cdv AA outer s H vs Q E hr h=>?_)
 ·obtain ⟨a,bits,f,rfl,_⟩:=h
  rfl
 ·obtain ⟨a,bits,f,rfl,⟨dx,gr,sh,h1,h2,h3,h4⟩,hl,k⟩:=h
  have nd:=mT.nd
  refine ⟨_,ab (kE PassesOwn.never rfl (CS rfl T.vQ (aa (aq (pv 0) rfl) (aa (aq (pv 0) rfl) ah))) (wI rfl (kh (di (i:=1) nd rfl (Or.inl rfl)) (kh (di (i:=2) nd rfl (Or.inl rfl)) tN)))
   (ab (aX (aQ kG (pv 1) (yz T.dW rfl) (by with_unfolding_all rfl)) (ak (aW sX)) aP)
   (ak (aX (aQ qU (aH bA (pv 2) (AY PySem.F.plainAttrs_int PyProof.Rows.slot_int_bit_length PyProof.Rows.type_int_bit_length B8 (pv 1))) (aq (pv 0) rfl) (aT _)) (ak (aW sX)) aP))))
   (ak (aW sX)),?_⟩
  refine ⟨_,rfl,a,A.Form,dx,_,_,rfl,h1,T.bB,T.dD,rfl,_,rfl,a,A.Form,dx,_,_,rfl,h1,T.bB,T.eS,rfl,gr,sh,_,_,rfl,ju.of h2,ju.of h3,?_⟩
  refine Bd (K:=K) (a:=gr) (b:=sh) (xs:=nI f.maxes) (ys:=nI f.shifts) (fun i σ H'=>∃u v:Option V,σ=[some (.ref a),u,v]∧bX H H'∧((f.maxes.zip f.shifts).take i).all (Mir.nr bits)=true)
   (by rw [aU,aU,hl]) ⟨none,none,rfl,bX.refl H,rfl⟩ (fun i σ H' _ ⟨_,_,_,s1,_⟩=>⟨ju.of (s1 _ _ h2),ju.of (s1 _ _ h3)⟩) ?_ ?_
  ·rintro i x y σ H' TT hx hy ⟨u,v,rfl,s1,al⟩ hT
   obtain ⟨m,hm,rfl⟩:=ke hx
   obtain ⟨n,hn,rfl⟩:=ke hy
   have sT:=ay (o:=.tup [V.int (m:Int),V.int (n:Int)]) hT
   have hz:(f.maxes.zip f.shifts)[i]?=some (m,n):=by rw [List.getElem?_zip_eq_some];exact ⟨hm,hn⟩
   refine ⟨TT,_,rfl,ju.of ae,rfl,_,_,rfl,_,_,rfl,rfl,?_⟩
   refine ⟨_,rfl,fun g hg=>⟨g,_,rfl,.inr (hg _),rfl,rfl,_,rfl,?_⟩⟩
   show if (!uZ (V.int (m:Int)) kZ)=true then _ else _
   cases e:uZ (V.int (m:Int)) kZ with
   | false=>
    refine cG ?_
    have:=vV hz (yN (bits:=bits) (sft:=n) (.inl e))
    rw [this] at k
    exact k _ (s1.trans sT)
   | true=>
    refine cE ?_
    refine ⟨_,rfl,_,rfl,rfl,_,rfl,rfl,_,_,rfl,rfl,_,rfl,a,A.Form,dx,_,_,rfl,sT _ _ (s1 _ _ h1),T.bB,T.fo,rfl,_,_,rfl,rfl,_,rfl,?_⟩
    show if decide ((bits:Int) < (n:Int) + (Builtin.Int.intBits (m:Int):Nat))=true then _ else _
    by_cases c:(bits:Int) < (n:Int) + (Builtin.Int.intBits (m:Int):Nat)
    ·rw [if_pos (decide_eq_true c)]
     have:=vV hz (yN (bits:=bits) (sft:=n) (.inr c))
     rw [this] at k
     exact k _ (s1.trans sT)
    ·rw [if_neg (by rw [decide_eq_false c];decide)]
     exact ⟨_,_,rfl,s1.trans sT,Bi hz al (Bh e c)⟩
  ·rintro σ H' ⟨u,v,rfl,s1,al⟩
   rw [List.take_of_length_le (by rw [List.length_zip,aU];omega)] at al
   rw [al] at k
   exact k _ s1
def vX (A:bI):Sp:=fun vs H Q _=>∃(a:Addr) (ws:List Nat),vs=[.ref a]∧jo A H a (ws.getD 0 0) (Mir.formOf ws)∧∀H',bX H H'→Q (.bl (Mir.ir ws)) H'
theorem sI (T:Txt P w K mg A):FnAt P w K mg base "form_holds" 2 ["form"] (vX A):=by
 refine T.iR.at_ (fun _ _ _ _ _ _ us hl=>match us,hl with | [_],_=>rfl) fun f fd F=>?_
 refine F.ok sC (fun vs H Q E h=>?_) (fun cdv AA outer s H vs Q E hr h=>?_)
 ·obtain ⟨a,ws,rfl,_⟩:=h
  rfl
 ·obtain ⟨a,ws,rfl,hF,k⟩:=h
  obtain ⟨dx,gr,sh,h1,h2,h3,h4⟩:=id hF
  refine ⟨_,ab (aX (aQ kG (aq (pv 0) rfl) (yz T.jb rfl) (by with_unfolding_all rfl)) (ak (aW sX)) aP)
   (ab (aX (ka (aq (pv 0) rfl)) (ak (aW (aK (sG T) hr rfl (aa (pv 0) ah)))) aP)
   (ak (aW (nW d_ (aq (pv 0) rfl) (a_ T.i9 rfl) (aT _))))),?_⟩
  refine ⟨_,rfl,a,A.Form,dx,_,_,rfl,h1,T.bB,T.fo,rfl,fun g hg=>⟨g,_,rfl,.inr (hg _),rfl,rfl,_,rfl,?_⟩⟩
  have e0:uZ (V.int (ws.getD 0 0:Nat)) [V.int 8,V.int 16,V.int 32]=[8,16,32].contains (ws.getD 0 0):=by
   generalize ws.getD 0 0=n
   have:∀m:Nat,((m:Int) == (n:Int))=(n == m):=fun m=>by
    rw [Bool.eq_iff_iff,beq_iff_eq,beq_iff_eq]
    omega
   simp only [uZ,List.any_cons,List.any_nil,Ay,List.contains,List.elem_cons,List.elem_nil,Bool.or_false]
   rw [show (8:Int)=((8:Nat):Int) from rfl,show (16:Int)=((16:Nat):Int) from rfl,show (32:Int)=((32:Nat):Int) from rfl,this,this,this]
   cases (n == 8) <;> cases (n == 16) <;> cases (n == 32) <;> rfl
  show if (!uZ (V.int (ws.getD 0 0:Nat)) [V.int 8,V.int 16,V.int 32])=true then _ else _
  rw [e0]
  unfold Mir.ir at k
  cases e:[8,16,32].contains (ws.getD 0 0) with
  | false=>
   refine cG ?_
   rw [e,Bool.false_and] at k
   exact k _ (bX.refl H)
  | true=>
   refine cE ?_
   rw [e,Bool.true_and] at k
   refine ⟨_,rfl,a,A.Form,dx,_,_,rfl,h1,T.bB,T.c_,rfl,_,rfl,?_⟩
   show if (Mir.formOf ws).parts=true then _ else _
   by_cases c:(Mir.formOf ws).parts=true
   ·rw [if_pos c]
    rw [if_pos c] at k
    exact ⟨_,rfl,a,_,_,rfl,hF,rfl,k⟩
   ·rw [if_neg c]
    rw [if_neg c] at k
    refine ⟨_,rfl,a,A.Form,dx,_,_,rfl,h1,T.bB,T.fo,rfl,rfl,?_⟩
    have e2:decide (V.int (ws.getD 0 0:Nat)=V.int 8)=(ws.getD 0 0 == 8):=by
     rw [jv,Bool.eq_iff_iff,beq_iff_eq,beq_iff_eq]
     omega
    show Q (.bl (decide (V.int (ws.getD 0 0:Nat)=V.int 8))) H
    rw [e2]
    exact k _ (bX.refl H)
end
theorem Cr (l:List Nat):Sn44.low l=Sn44.high l.reverse:=by
 unfold Sn44.low Sn44.high
 rw [List.foldl_reverse]
 congr 1
 funext c n
 omega
theorem DR (l:List Nat):(nI l).reverse=nI l.reverse:=by
 unfold nI
 rw [List.map_reverse]
theorem mH {l:List Nat} {n:Nat} (h:l.length≤n):Mir.sub l 0 n=Sn44.high l:=by
 unfold Mir.sub
 rw [List.drop_zero,List.take_of_length_le h]
section
variable {P:Program} {w:World} {K:PySem.W.Frag} {mg:Str→Option Value} {base:Heap} {A:bI}
def z9 (K:PySem.W.Frag) (A:bI):Sp:=fun vs H Q _=>∃(a b:Addr) (bits:Nat) (f:Sn44.Form) (ws:List Nat) (i:Nat),vs=[.ref a,.ref b,.int (i:Int)]∧jo A H a bits f∧H b=some (.lst (nI ws))∧
 ∀H',bX H H'→Q (.int (Mir.kJ f ((ws.drop i).take f.size):Nat)) H'
theorem gh (T:Txt P w K mg A):FnAt P w K mg base "pixel_at" 2 ["form","words","at"] (z9 K A):=by
 refine T.kQ.at_ (fun _ _ _ _ _ _ us hl=>match us,hl with | [_,_,_],_=>rfl) fun f fd F=>?_
 refine F.ok pZ (fun vs H Q E h=>?_) (fun cdv AA outer s H vs Q E hr h=>?_)
 ·obtain ⟨a,b,bits,f,ws,i,rfl,_⟩:=h
  rfl
 ·obtain ⟨a,b,bits,f,ws,i,rfl,⟨dx,gr,sh,h1,h2,h3,h4⟩,hb,k⟩:=h
  have nd:=pZ.nd
  refine ⟨_,ab (aI (i:=3) nd rfl (Or.inl rfl) (ee fC (pv 1) (dj (pv 2)) (dj (aH bA (pv 2) (aq (pv 0) rfl)))))
   (ab (aX (kD (ka (aq (pv 0) rfl))) (ak (aI (i:=3) nd rfl (Or.inl rfl) (xy rfl T.rL rfl T.kX rfl (pv 3)))) aP)
   (ak (aW (aK (aN T) hr rfl (aa (pv 3) (aa ai (aa (aq (pv 0) rfl) ah))))))),?_⟩
  have ef:((bits / 8:Nat):Int)=(f.size:Int):=by rw [h4]
  refine ⟨_,rfl,_,rfl,_,rfl,_,rfl,_,rfl,a,A.Form,dx,_,_,rfl,h1,T.bB,T.bO,rfl,_,_,rfl,rfl,_,rfl,b,_,rfl,bV.of hb,fun q hq=>?_⟩
  have ec:lA (nI ws) (some (i:Int)) (some ((i:Int) + ((bits / 8:Nat):Int)))=nI ((ws.drop i).take f.size):=by rw [ef,mw,iG,jy]
  have sQ:=ay (o:=.lst (nI ((ws.drop i).take f.size))) hq
  have zl:((ws.drop i).take f.size).length≤f.size:=List.length_take_le ..
  rw [show lA (nI ws) (some (i:Int)) (some ((i:Int) + (((FF.mk bits f.big f.parts gr sh).bits / 8:Nat):Int)))=nI ((ws.drop i).take f.size) from ec]
  refine ⟨_,rfl,a,A.Form,dx,_,_,rfl,sQ _ _ h1,T.bB,T.dQ,rfl,_,rfl,?_⟩
  show if (!f.big)=true then _ else _
  cases e:f.big with
  | true=>
   refine cE ?_
   refine ⟨_,rfl,_,rfl,a,A.Form,dx,_,_,rfl,sQ _ _ h1,T.bB,T.bO,rfl,?_⟩
   refine ⟨q,_,0,f.size,?_,bV.of ae,fun H' s'=>?_⟩
   ·rw [← ef]
    rfl
   ·rw [mH zl]
    have:=k H' (sQ.trans s')
    unfold Mir.kJ at this
    rw [if_pos e] at this
    exact this
  | false=>
   refine cG ?_
   refine ⟨_,rfl,q,_,rfl,bV.of ae,fun q2 hq2=>?_⟩
   rw [DR]
   have sR:=ay (o:=.lst (nI ((ws.drop i).take f.size).reverse)) hq2
   refine ⟨_,rfl,_,rfl,a,A.Form,dx,_,_,rfl,sR _ _ (sQ _ _ h1),T.bB,T.bO,rfl,?_⟩
   refine ⟨q2,_,0,f.size,?_,bV.of ae,fun H' s'=>?_⟩
   ·rw [← ef]
    rfl
   ·rw [mH (by rw [List.length_reverse];exact zl),← Cr]
    have:=k H' (sQ.trans (sR.trans s'))
    unfold Mir.kJ at this
    rw [if_neg (by rw [e];decide)] at this
    exact this
end
theorem yO {n c:Nat} {z y:Int} (hc:c=1∨c=2∨c=4∨c=6) (hn:n≤100000000) (hz:z=((n * c:Nat):Int)) (hy:y=(c:Int)):ET 0 z y n:=by
 subst hz hy
 have e:Builtin.Range.rangeSize 0 ((n * c:Nat):Int) (c:Int)=n:=by
  unfold Builtin.Range.rangeSize
  rcases hc with rfl | rfl | rfl | rfl <;> (rw [if_pos (by decide)];split <;> omega)
 refine ⟨by omega,by omega,?_,e⟩
 unfold Builtin.Range.small
 rw [e]
 have f1:∀z:Int,0≤z→z < 1000000000→Builtin.Range.rangeFitsLong z=true:=fun z a b=>by
  unfold Builtin.Range.rangeFitsLong
  rw [Bool.and_eq_true]
  exact ⟨decide_eq_true (by omega),decide_eq_true (by omega)⟩
 have hb:n * c≤600000000:=by rcases hc with rfl | rfl | rfl | rfl <;> omega
 rw [f1 0 (by omega) (by omega),f1 _ (by omega) (by omega),f1 _ (by omega) (by omega),f1 _ (by omega) (by omega),if_pos (by omega),f1 _ (by omega) (by omega)]
 simp
theorem vY {α:Type} {n i:Nat} {g:Nat→α} (h:i < n):((List.range n).map g).take (i + 1)=((List.range n).map g).take i++[g i]:=by
 refine take_snoc ?_
 rw [List.getElem?_map,List.getElem?_range h]
 rfl
theorem cq.snoc {H:Hp} {rs:List Addr} {Pic:List (List Nat)} {q:Addr} {x:List Nat} (R:cq H rs Pic) (h:H q=some (.lst (nI x))):cq H (rs++[q]) (Pic++[x]):=by
 refine ⟨by rw [List.length_append,List.length_append,R.len];rfl,fun i r e=>?_⟩
 by_cases c:i < rs.length
 ·rw [List.getElem?_append_left c] at e
  rw [List.getD_eq_getElem?_getD,List.getElem?_append_left (by rw [← R.len];exact c),← List.getD_eq_getElem?_getD]
  exact R.at_ i r e
 ·have c2:i=rs.length:=by
   have:=(List.getElem?_eq_some_iff.mp e).1
   rw [List.length_append] at this
   simp at this
   omega
  subst c2
  rw [List.getElem?_append_right (Nat.le_refl _),Nat.sub_self] at e
  have e':q=r:=Option.some.inj e
  subst e'
  rw [R.len,List.getD_eq_getElem?_getD,List.getElem?_append_right (Nat.le_refl _),Nat.sub_self]
  exact h
section
variable {P:Program} {w:World} {K:PySem.W.Frag} {mg:Str→Option Value} {base:Heap} {A:bI}
def vZ (A:bI):Sp:=fun vs H Q _=>∃(a b:Addr) (bits:Nat) (f:Sn44.Form) (ws:List Nat) (cw ch:Nat),vs=[.ref a,.ref b,.int (cw:Int),.int (ch:Int)]∧jo A H a bits f∧H b=some (.lst (nI ws))∧ws.length=cw * ch * f.size∧
 (f.size=1∨f.size=2∨f.size=4)∧cw≤1024∧ch≤1024∧
 ∀H' c rs,H c=none→gg H' c rs (Mir.fT (Mir.fS f (cw * ch) ws) cw ch)→(∀r∈rs,H r=none)→bX H H'→Q (.ref c) H'
theorem mY (T:Txt P w K mg A):FnAt P w K mg base "pixel_rows" 3 ["form","words","width","height"] (vZ A):=by
 refine T.iT.at_ (fun _ _ _ _ _ _ us hl=>match us,hl with | [_,_,_,_],_=>rfl) fun f fd F=>?_
 refine F.ok mU (fun vs H Q E h=>?_) (fun cdv AA outer s H vs Q E hr h=>?_)
 ·obtain ⟨a,b,bits,f,ws,cw,ch,rfl,_⟩:=h
  rfl
 ·obtain ⟨a,b,bits,f,ws,cw,ch,rfl,hF,hb,hwl,hsz,hcw,hch,k⟩:=h
  have nd:=mU.nd
  obtain ⟨dx,gr,sh,h1,h2,h3,h4⟩:=id hF
  have nmax:cw * ch≤1048576:=Nat.le_trans (Nat.mul_le_mul hcw hch) (by decide)
  refine ⟨_,ab (aI (i:=4) nd rfl (Or.inr rfl) (rf (own:=[("at",5)]) rfl nd (pC rfl T.ia (aa ai (aa (bZ bj (by rfl) T.fQ PySem.boot_len (aa (pv 1) ah)) (aa (aq (pv 0) rfl) ah))))
    (jf rfl) (fun _ _ _ _ _=>di (i:=5) nd rfl (Or.inl rfl)) (fun _ _ _ _ _=>kH)
    (fun _ _ _ _ _=>aK (gh T) hr rfl (aa (pv 0) (aa (pv 1) (aa (pv 5) ah))))))
   (ak (aW (rf (own:=[("row",6)]) rfl nd (o9 rfl T.ia (aa (pv 3) ah))
    (jf rfl) (fun _ _ _ _ _=>di (i:=6) nd rfl (Or.inl rfl)) (fun _ _ _ _ _=>kH)
    (fun _ _ _ _ _=>ee (r:=EM K) fC (pv 4) (dj (aH gc (pv 6) (pv 2))) (dj (aH gc (aH bA (pv 6) ai) (pv 2))))))),?_⟩
  refine ⟨_,rfl,b,_,rfl,.inl (bV.of hb),_,rfl,a,A.Form,dx,_,_,rfl,h1,T.bB,T.bO,rfl,_,_,_,cw * ch,rfl,?_,?_⟩
  ·rw [aU,hwl]
   exact yO (by omega) (by omega) rfl (by rw [h4])
  intro D hD
  refine tH (n:=cw * ch) (fun i H'=>H' D=some (.lst (nI ((Mir.fS f (cw * ch) ws).take i)))∧bX H H') ⟨ae,ay hD⟩ ?_ ?_
  ·rintro i H' hi ⟨g1,g2⟩
   refine ⟨rfl,kY ?_⟩
   refine ⟨_,rfl,_,rfl,_,rfl,a,b,bits,f,ws,i * f.size,?_,hF.keeps g2,g2 _ _ hb,fun H2 s2=>⟨_,s2 _ _ g1,?_,?_,?_⟩⟩
   ·rw [show ((0:Int) + ((i:Nat):Int) * ((bits / 8:Nat):Int))=((i * f.size:Nat):Int) by rw [Int.zero_add,h4,Int.natCast_mul]]
    rfl
   ·rw [aU,sizeLine_eq]
    exact Nat.lt_of_le_of_lt (List.length_take_le _ _) (by omega)
   ·rw [ae]
    unfold Mir.fS
    rw [vY hi,fU]
    rfl
   ·intro c o e
    rw [aj (aE e hD)]
    exact s2 _ _ (g2 _ _ e)
  ·rintro H1 ⟨g1,s1⟩
   have pl:(Mir.fS f (cw * ch) ws).length=cw * ch:=by simp [Mir.fS]
   rw [List.take_of_length_le (by omega)] at g1
   refine ⟨_,rfl,(ch:Int),rfl,by omega,by omega,fun D2 hD2=>?_⟩
   refine vn (n:=(ch:Int).toNat) (fun i H'=>∃rs:List Addr,gg H' D2 rs ((Mir.fT (Mir.fS f (cw * ch) ws) cw ch).take i)∧(∀r∈rs,H1 r=none)∧bX H1 H')
    ⟨[],⟨ae,⟨rfl,fun i r h=>by simp at h⟩,by simp⟩,by simp,ay hD2⟩ ?_ ?_
   ·rintro i H' hi ⟨rs,p',hrs,s2⟩
    have hi:i < ch:=by omega
    refine ⟨rfl,kY ?_⟩
    refine ⟨_,rfl,_,rfl,_,rfl,_,_,rfl,rfl,.inr ⟨by omega,by omega⟩,_,rfl,_,rfl,_,_,rfl,rfl,_,rfl,_,_,rfl,rfl,.inr ⟨by omega,by omega⟩,_,rfl,D,_,rfl,bV.of (s2 _ _ g1),fun q hq=>?_⟩
    have ec:lA (nI (Mir.fS f (cw * ch) ws)) (some ((0 + (i:Int)) * (cw:Int))) (some ((0 + (i:Int) + 1) * (cw:Int)))=nI (((Mir.fS f (cw * ch) ws).drop (i * cw)).take cw):=by
     have e1:(0 + (i:Int)) * (cw:Int)=((i * cw:Nat):Int):=by rw [Int.zero_add,Int.natCast_mul]
     have e2:(0 + (i:Int) + 1) * (cw:Int)=((i * cw:Nat):Int) + (cw:Int):=by rw [Int.add_mul,e1,Int.one_mul]
     rw [e1,e2,mw,iG,jy]
    rw [ec]
    have s3:=ay (o:=.lst (nI (((Mir.fS f (cw * ch) ws).drop (i * cw)).take cw))) hq
    have nq:q≠D2:=fun e=>by rw [e,p'.lst] at hq;cases hq
    refine ⟨_,s3 _ _ p'.lst,?_,rs++[q],⟨?_,?_,?_⟩,?_,?_⟩
    ·rw [List.length_map,p'.rows.len,sizeLine_eq]
     have cl:(Mir.fT (Mir.fS f (cw * ch) ws) cw ch).length=ch:=by simp [Mir.fT]
     rw [List.length_take,cl]
     omega
    ·rw [ae,List.map_append]
     rfl
    ·have e1:(Mir.fT (Mir.fS f (cw * ch) ws) cw ch).take (i + 1)=(Mir.fT (Mir.fS f (cw * ch) ws) cw ch).take i++[((Mir.fS f (cw * ch) ws).drop (i * cw)).take cw]:=vY hi
     rw [e1]
     refine cq.snoc ?_ ?_
     ·refine p'.rows.keeps fun r hr o e=>?_
      rw [aj (fun q=>p'.ne (by rw [← q];exact hr))]
      exact s3 _ _ e
     ·rw [aj nq,ae]
    ·intro hm
     rcases List.mem_append.mp hm with h | h
     ·exact p'.ne h
     ·exact nq (List.mem_singleton.mp h).symm
    ·intro r hr
     rcases List.mem_append.mp hr with h | h
     ·exact hrs r h
     ·rw [List.mem_singleton.mp h]
      exact s2.free hq
    ·intro c o e
     rw [aj (aE e hD2)]
     exact s3 _ _ (s2 _ _ e)
   ·rintro H2 ⟨rs,p',hrs,s2⟩
    rw [List.take_of_length_le (by simp [Mir.fT])] at p'
    exact k H2 D2 rs (s1.free hD2) p' (fun r hr=>s1.free (hrs r hr)) (s1.trans s2)
end
structure SK where
 waiting:Addr
 form:V
 columns:Nat
 rows:Nat
 screen:Addr
 table:Addr
 left:Nat
 bells:Nat
 updates:Nat
 cut:Addr
 name:Addr
structure SF where
 stage:Str
 need:Nat
 pending:Addr
 wrong:Nat
 bE:Bool
 dX:Nat
 eN:Nat
 first:Nat
 b6:V
 k:SK
def SF.fs (x:SF):List (Str × V):=[("stage",.str x.stage),("need",.int (x.need:Int)),("pending",.ref x.pending),("waiting",.ref x.k.waiting),("wrong",.int (x.wrong:Int)),("greeted",.bl x.bE),("far_columns",.int (x.dX:Int)),("far_rows",.int (x.eN:Int)),
 ("form",x.k.form),("columns",.int (x.k.columns:Int)),("rows",.int (x.k.rows:Int)),("screen",.ref x.k.screen),("table",.ref x.k.table),("first_colour",.int (x.first:Int)),("rectangle",x.b6),("rectangles_left",.int (x.k.left:Int)),("bells",.int (x.k.bells:Int)),
 ("updates",.int (x.k.updates:Int)),("cut_text",.ref x.k.cut),("name",.ref x.k.name)]
abbrev en (A:bI) (H:Hp) (s dx:Addr) (x:SF):Prop:=H s=some (.ins A.ag dx x.fs)
structure RF where
 left:Nat
 top:Nat
 width:Nat
 a9:Nat
 nB:Nat
 aA:Addr
 parts:Nat
 back:Nat
 front:Nat
 tile:V
def RF.fs (y:RF):List (Str × V):=[("left",.int (y.left:Int)),("top",.int (y.top:Int)),("width",.int (y.width:Int)),("height",.int (y.a9:Int)),("coding",.int (y.nB:Int)),("picture",.ref y.aA),("parts_left",.int (y.parts:Int)),("back",.int (y.back:Int)),("front",.int (y.front:Int)),("tile",y.tile)]
structure TF where
 left:Nat
 top:Nat
 width:Nat
 a9:Nat
 bits:Nat
 aA:Addr
 parts:Nat
def TF.fs (y:TF):List (Str × V):=[("left",.int (y.left:Int)),("top",.int (y.top:Int)),("width",.int (y.width:Int)),("height",.int (y.a9:Int)),("bits_set",.int (y.bits:Int)),("picture",.ref y.aA),("parts_left",.int (y.parts:Int))]
structure Ext (H:Hp) (M:List Addr) (H':Hp) (M':List Addr):Prop where
 new:∀b∈M',b∈M∨H b=none
 same:∀b o,H b=some o→b∉M→H' b=some o
theorem Ext.refl (H:Hp) (M:List Addr):Ext H M H M:=⟨fun b h=>.inl h,fun b o e _=>e⟩
theorem Ext.trans {H H1 H2:Hp} {M M1 M2:List Addr} (a:Ext H M H1 M1) (b:Ext H1 M1 H2 M2):Ext H M H2 M2:=by
 have nm:∀c o,H c=some o→c∉M→c∉M1:=fun c o e n h=>by
  rcases a.new c h with q | q
  ·exact n q
  ·rw [e] at q;cases q
 refine ⟨fun c h=>?_,fun c o e n=>b.same c o (a.same c o e n) (nm c o e n)⟩
 rcases b.new c h with q | q
 ·exact a.new c q
 ·cases e:H c with
  | none=>exact .inr rfl
  | some o=>
   by_cases n:c∈M
   ·exact .inl n
   ·rw [a.same c o e n] at q;cases q
theorem Ext.of_same {H H':Hp} {M:List Addr} (s:bX H H'):Ext H M H' M:=⟨fun b h=>.inl h,fun b o e _=>s b o e⟩
theorem Ext.fA {H H':Hp} {M:List Addr} {S:Addr→Prop} (s:SameBut H H' S) (h:∀b,S b→b∈M):Ext H M H' M:=⟨fun b h=>.inl h,fun b o e n=>s b o e fun q=>n (h b q)⟩
theorem Ext.upd {H:Hp} {M:List Addr} {a:Addr} {o:HO} (h:a∈M):Ext H M (upd H a o) M:=⟨fun b h=>.inl h,fun b u e n=>by rw [aj (fun q=>n (by rw [q];exact h))];exact e⟩
theorem Ext.less {H H':Hp} {M M1 M':List Addr} (e:Ext H M H' M1) (h:∀b∈M',b∈M1∨H b=none):Ext H M H' M':=⟨fun b hb=>(h b hb).elim (e.new b) .inr,e.same⟩
def Fz (H:Hp) (M:List Addr) (b:Addr) (o:HO):Prop:=H b=some o∧b∉M
theorem Fz.ext {H H':Hp} {M M':List Addr} {b:Addr} {o:HO} (f:Fz H M b o) (e:Ext H M H' M'):Fz H' M' b o:=⟨e.same b o f.1 f.2,fun h=>by
 rcases e.new b h with q | q
 ·exact f.2 q
 ·rw [f.1] at q;cases q⟩
def iy (A:bI) (H:Hp) (M:List Addr) (a:Addr) (bits:Nat) (f:Sn44.Form):Prop:=∃dx gr sh,Fz H M a (.ins A.Form dx (FF.fs ⟨bits,f.big,f.parts,gr,sh⟩))∧Fz H M gr (.tup (nI f.maxes))∧Fz H M sh (.tup (nI f.shifts))∧f.size=bits / 8
theorem iy.ext {A:bI} {H H':Hp} {M M':List Addr} {a:Addr} {bits:Nat} {f:Sn44.Form} (h:iy A H M a bits f) (e:Ext H M H' M'):iy A H' M' a bits f:=by
 obtain ⟨dx,gr,sh,h1,h2,h3,h4⟩:=h
 exact ⟨dx,gr,sh,h1.ext e,h2.ext e,h3.ext e,h4⟩
theorem iy.at_ {A:bI} {H:Hp} {M:List Addr} {a:Addr} {bits:Nat} {f:Sn44.Form} (h:iy A H M a bits f):jo A H a bits f:=by
 obtain ⟨dx,gr,sh,h1,h2,h3,h4⟩:=h
 exact ⟨dx,gr,sh,h1.1,h2.1,h3.1,h4⟩
def sizeOk (f:Sn44.Form):Prop:=f.size=1∨f.size=2∨f.size=4
structure TabAt (H:Hp) (M:List Addr) (ts:List Addr) (tb:List (List Nat)):Prop where
 len:ts.length=tb.length
 at_:∀(i:Nat) (t:Addr),ts[i]?=some t→Fz H M t (.tup (nI (tb.getD i [])))
theorem TabAt.ext {H H':Hp} {M M':List Addr} {ts:List Addr} {tb:List (List Nat)} (h:TabAt H M ts tb) (e:Ext H M H' M'):TabAt H' M' ts tb:=⟨h.len,fun i t q=>(h.at_ i t q).ext e⟩
structure me (H:Hp) (M:List Addr) (rs:List Addr) (P:List (List Nat)):Prop where
 at_:cq H rs P
 fz:∀r∈rs,r∉M
theorem me.ext {H H':Hp} {M M':List Addr} {rs:List Addr} {P:List (List Nat)} (h:me H M rs P) (e:Ext H M H' M'):me H' M' rs P:=by
 refine ⟨h.at_.keeps fun r hr o q=>e.same r o q (h.fz r hr),fun r hr hm=>?_⟩
 rcases e.new r hm with q | q
 ·exact h.fz r hr q
 ·obtain ⟨o,q2⟩:=h.at_.there hr
  rw [q2] at q;cases q
structure ku (H:Hp) (M:List Addr) (a:Addr) (rs:List Addr) (P:List (List Nat)):Prop where
 lst:H a=some (.lst (rs.map V.ref))
 rows:me H M rs P
 mem:a∈M
theorem ku.at_ {H:Hp} {M:List Addr} {a:Addr} {rs:List Addr} {P:List (List Nat)} (h:ku H M a rs P):gg H a rs P:=⟨h.lst,h.rows.at_,fun q=>h.rows.fz a q h.mem⟩
structure Core (A:bI) (H:Hp) (M:List Addr) (s:Addr) (x:SK) (v:Sn44.Viewer):Prop where
 wait:H x.waiting=some (.lst (nI v.out))
 gN:v.out.length≤65536
 cols:x.columns=v.screen.w
 rows:x.rows=v.screen.h
 side:v.screen.w≤1024∧v.screen.h≤1024
 cut:Fz H M x.cut (.lst (nI v.cut))
 name:Fz H M x.name (.lst (nI v.name))
 bells:x.bells=v.bells
 jt:x.updates=v.updates
 left:x.left=v.left
 pic:∃rs P,ku H M x.screen rs P∧Mir.Rows v.screen.w v.screen.h P∧v.screen.cells=P.flatten
 tab:∃ts,H x.table=some (.lst (ts.map V.ref))∧TabAt H M ts v.screen.table
 form:v.screen.w≠0→∃fa bits,x.form=.ref fa∧iy A H M fa bits v.screen.form∧sizeOk v.screen.form∧(v.screen.form.parts=false→v.screen.table.length=256)
 nd:[s,x.waiting,x.screen,x.table].Nodup
 mem:∀b∈[s,x.waiting,x.screen,x.table],b∈M
theorem Core.ext {A:bI} {H H':Hp} {M M':List Addr} {s:Addr} {x:SK} {v:Sn44.Viewer} (C:Core A H M s x v) (e:Ext H M H' M') (h:∀b∈[x.waiting,x.screen,x.table],H' b=H b) (hm:∀b∈[s,x.waiting,x.screen,x.table],b∈M'):Core A H' M' s x v where
 wait:=(h _ (by simp)).trans C.wait
 gN:=C.gN
 cols:=C.cols
 rows:=C.rows
 side:=C.side
 cut:=C.cut.ext e
 name:=C.name.ext e
 bells:=C.bells
 jt:=C.jt
 left:=C.left
 pic:=by
  obtain ⟨rs,P,p,R,c⟩:=C.pic
  exact ⟨rs,P,⟨(h _ (by simp)).trans p.lst,p.rows.ext e,hm _ (by simp)⟩,R,c⟩
 tab:=by
  obtain ⟨ts,t1,t2⟩:=C.tab
  exact ⟨ts,(h _ (by simp)).trans t1,t2.ext e⟩
 form:=fun q=>by
  obtain ⟨fa,bits,f1,f2,f3⟩:=C.form q
  exact ⟨fa,bits,f1,f2.ext e,f3⟩
 nd:=C.nd
 mem:=hm
theorem j6 {H:Hp} {p q:Addr} {a l b:HO} (h:q≠p):upd (upd (upd H p a) q l) p b=upd (upd H q l) p b:=by
 funext c
 by_cases c1:c=p
 ·subst c1
  rw [ae,ae]
 ·rw [aj c1,aj c1]
  by_cases c2:c=q
  ·subst c2
   rw [ae,ae]
  ·rw [aj c2,aj c2,aj c1]
theorem aR {H:Hp} {p q:Addr} {a:HO} (h:upd H p a q=none):q≠p∧H q=none:=by
 have n:q≠p:=fun e=>by rw [e,ae] at h;cases h
 rw [aj n] at h
 exact ⟨n,h⟩
section
variable {P:Program} {w:World} {K:PySem.W.Frag} {mg:Str→Option Value} {base:Heap} {A:bI}
abbrev Eg (pe wt sc tb ct nm:Addr):SF:=⟨"version",12,pe,0,false,0,0,0,.cD,⟨wt,.cD,0,0,sc,tb,0,0,0,ct,nm⟩⟩
def z_ (A:bI):Sp:=fun vs H Q _=>∃(p dx:Addr),vs=[.ref p]∧H p=some (.ins A.ag dx [])∧
 ∀H' pe wt sc tb ct nm,en A H' p dx (Eg pe wt sc tb ct nm)→(∀b∈[pe,wt,sc,tb,ct,nm],H b=none∧H' b=some (.lst []))→[p,pe,wt,sc,tb,ct,nm].Nodup→SameBut H H' (·=p)→Q .cD H'
theorem rM (T:Txt P w K mg A):xr P w K mg base A.ag "Session" 1 ["self"] (z_ A):=by
 refine T.mB.at_ (fun _ _ _ _ _ _ us hl=>match us,hl with | [_],_=>rfl) fun f fd F=>?_
 refine F.ok qo (fun vs H Q E h=>?_) (fun cdv AA outer s H vs Q E hr h=>?_)
 ·obtain ⟨p,dx,rfl,_⟩:=h
  rfl
 ·obtain ⟨p,dx,rfl,hp,k⟩:=h
  refine ⟨_,ab (aJ (pv 0) cv rfl) (ab (aJ (pv 0) ai rfl) (ab (aJ (pv 0) (b0 ah) rfl) (ab (aJ (pv 0) (b0 ah) rfl)
   (ab (aJ (pv 0) ai rfl) (ab (aJ (pv 0) sX rfl) (ab (aJ (pv 0) ai rfl) (ab (aJ (pv 0) ai rfl) (ab (aJ (pv 0) wF rfl)
   (ab (aJ (pv 0) ai rfl) (ab (aJ (pv 0) ai rfl) (ab (aJ (pv 0) (b0 ah) rfl) (ab (aJ (pv 0) (b0 ah) rfl) (ab (aJ (pv 0) ai rfl)
   (ab (aJ (pv 0) wF rfl) (ab (aJ (pv 0) ai rfl) (ab (aJ (pv 0) ai rfl) (ab (aJ (pv 0) ai rfl)
   (ab (aJ (pv 0) (b0 ah) rfl) (ak (aJ (pv 0) (b0 ah) rfl)))))))))))))))))))),?_⟩
  have tc:=T.af
  refine ⟨_,rfl,p,A.ag,dx,_,rfl,hp,tc,T.dE,by show 0 < 1000;decide,?_⟩
  rw [show bH "stage" (V.str "version") []=([("stage",V.str "version")]:List (Str × V)) from rfl]
  refine ⟨_,rfl,p,A.ag,dx,_,rfl,ae,tc,T.cT,by show 1 < 1000;decide,?_⟩
  rw [bg]
  rw [show bH "need" (V.int 12) [("stage",V.str "version")]=([("stage",V.str "version"),("need",V.int 12)]:List (Str × V)) from rfl]
  refine ⟨Nat.zero_le _,fun pe h1=>?_⟩
  obtain ⟨m1,f1⟩:=aR h1
  refine ⟨_,rfl,p,A.ag,dx,_,rfl,by rw [aj m1.symm];exact ae,tc,T.cy,by show 2 < 1000;decide,?_⟩
  rw [j6 m1]
  rw [show bH "pending" (V.ref pe) [("stage",V.str "version"),("need",V.int 12)]=([("stage",V.str "version"),("need",V.int 12),("pending",V.ref pe)]:List (Str × V)) from rfl]
  refine ⟨Nat.zero_le _,fun wt h2=>?_⟩
  obtain ⟨m2,f2⟩:=aR h2
  refine ⟨_,rfl,p,A.ag,dx,_,rfl,by rw [aj m2.symm];exact ae,tc,T.bQ,by show 3 < 1000;decide,?_⟩
  rw [j6 m2]
  rw [show bH "waiting" (V.ref wt) [("stage",V.str "version"),("need",V.int 12),("pending",V.ref pe)]=([("stage",V.str "version"),("need",V.int 12),("pending",V.ref pe),("waiting",V.ref wt)]:List (Str × V)) from rfl]
  refine ⟨_,rfl,p,A.ag,dx,_,rfl,ae,tc,T.bL,by show 4 < 1000;decide,?_⟩
  rw [bg]
  rw [show bH "wrong" (V.int 0) [("stage",V.str "version"),("need",V.int 12),("pending",V.ref pe),("waiting",V.ref wt)]=([("stage",V.str "version"),("need",V.int 12),("pending",V.ref pe),("waiting",V.ref wt),("wrong",V.int 0)]:List (Str × V)) from rfl]
  refine ⟨_,rfl,p,A.ag,dx,_,rfl,ae,tc,T.cX,by show 5 < 1000;decide,?_⟩
  rw [bg]
  rw [show bH "greeted" (V.bl false) [("stage",V.str "version"),("need",V.int 12),("pending",V.ref pe),("waiting",V.ref wt),("wrong",V.int 0)]=([("stage",V.str "version"),("need",V.int 12),("pending",V.ref pe),("waiting",V.ref wt),("wrong",V.int 0),("greeted",V.bl false)]:List (Str × V)) from rfl]
  refine ⟨_,rfl,p,A.ag,dx,_,rfl,ae,tc,T.bP,by show 6 < 1000;decide,?_⟩
  rw [bg]
  rw [show bH "far_columns" (V.int 0) [("stage",V.str "version"),("need",V.int 12),("pending",V.ref pe),("waiting",V.ref wt),("wrong",V.int 0),("greeted",V.bl false)]=([("stage",V.str "version"),("need",V.int 12),("pending",V.ref pe),("waiting",V.ref wt),("wrong",V.int 0),("greeted",V.bl false),("far_columns",V.int 0)]:List (Str × V)) from rfl]
  refine ⟨_,rfl,p,A.ag,dx,_,rfl,ae,tc,T.cg,by show 7 < 1000;decide,?_⟩
  rw [bg]
  rw [show bH "far_rows" (V.int 0) [("stage",V.str "version"),("need",V.int 12),("pending",V.ref pe),("waiting",V.ref wt),("wrong",V.int 0),("greeted",V.bl false),("far_columns",V.int 0)]=([("stage",V.str "version"),("need",V.int 12),("pending",V.ref pe),("waiting",V.ref wt),("wrong",V.int 0),("greeted",V.bl false),("far_columns",V.int 0),("far_rows",V.int 0)]:List (Str × V)) from rfl]
  refine ⟨_,rfl,p,A.ag,dx,_,rfl,ae,tc,T.aL,by show 8 < 1000;decide,?_⟩
  rw [bg]
  rw [show bH "form" (V.cD) [("stage",V.str "version"),("need",V.int 12),("pending",V.ref pe),("waiting",V.ref wt),("wrong",V.int 0),("greeted",V.bl false),("far_columns",V.int 0),("far_rows",V.int 0)]=([("stage",V.str "version"),("need",V.int 12),("pending",V.ref pe),("waiting",V.ref wt),("wrong",V.int 0),("greeted",V.bl false),("far_columns",V.int 0),("far_rows",V.int 0),("form",V.cD)]:List (Str × V)) from rfl]
  refine ⟨_,rfl,p,A.ag,dx,_,rfl,ae,tc,T.bG,by show 9 < 1000;decide,?_⟩
  rw [bg]
  rw [show bH "columns" (V.int 0) [("stage",V.str "version"),("need",V.int 12),("pending",V.ref pe),("waiting",V.ref wt),("wrong",V.int 0),("greeted",V.bl false),("far_columns",V.int 0),("far_rows",V.int 0),("form",V.cD)]=([("stage",V.str "version"),("need",V.int 12),("pending",V.ref pe),("waiting",V.ref wt),("wrong",V.int 0),("greeted",V.bl false),("far_columns",V.int 0),("far_rows",V.int 0),("form",V.cD),("columns",V.int 0)]:List (Str × V)) from rfl]
  refine ⟨_,rfl,p,A.ag,dx,_,rfl,ae,tc,T.b9,by show 10 < 1000;decide,?_⟩
  rw [bg]
  rw [show bH "rows" (V.int 0) [("stage",V.str "version"),("need",V.int 12),("pending",V.ref pe),("waiting",V.ref wt),("wrong",V.int 0),("greeted",V.bl false),("far_columns",V.int 0),("far_rows",V.int 0),("form",V.cD),("columns",V.int 0)]=([("stage",V.str "version"),("need",V.int 12),("pending",V.ref pe),("waiting",V.ref wt),("wrong",V.int 0),("greeted",V.bl false),("far_columns",V.int 0),("far_rows",V.int 0),("form",V.cD),("columns",V.int 0),("rows",V.int 0)]:List (Str × V)) from rfl]
  refine ⟨Nat.zero_le _,fun sc h3=>?_⟩
  obtain ⟨m3,f3⟩:=aR h3
  refine ⟨_,rfl,p,A.ag,dx,_,rfl,by rw [aj m3.symm];exact ae,tc,T.cn,by show 11 < 1000;decide,?_⟩
  rw [j6 m3]
  rw [show bH "screen" (V.ref sc) [("stage",V.str "version"),("need",V.int 12),("pending",V.ref pe),("waiting",V.ref wt),("wrong",V.int 0),("greeted",V.bl false),("far_columns",V.int 0),("far_rows",V.int 0),("form",V.cD),("columns",V.int 0),("rows",V.int 0)]=([("stage",V.str "version"),("need",V.int 12),("pending",V.ref pe),("waiting",V.ref wt),("wrong",V.int 0),("greeted",V.bl false),("far_columns",V.int 0),("far_rows",V.int 0),("form",V.cD),("columns",V.int 0),("rows",V.int 0),("screen",V.ref sc)]:List (Str × V)) from rfl]
  refine ⟨Nat.zero_le _,fun tb h4=>?_⟩
  obtain ⟨m4,f4⟩:=aR h4
  refine ⟨_,rfl,p,A.ag,dx,_,rfl,by rw [aj m4.symm];exact ae,tc,T.da,by show 12 < 1000;decide,?_⟩
  rw [j6 m4]
  rw [show bH "table" (V.ref tb) [("stage",V.str "version"),("need",V.int 12),("pending",V.ref pe),("waiting",V.ref wt),("wrong",V.int 0),("greeted",V.bl false),("far_columns",V.int 0),("far_rows",V.int 0),("form",V.cD),("columns",V.int 0),("rows",V.int 0),("screen",V.ref sc)]=([("stage",V.str "version"),("need",V.int 12),("pending",V.ref pe),("waiting",V.ref wt),("wrong",V.int 0),("greeted",V.bl false),("far_columns",V.int 0),("far_rows",V.int 0),("form",V.cD),("columns",V.int 0),("rows",V.int 0),("screen",V.ref sc),("table",V.ref tb)]:List (Str × V)) from rfl]
  refine ⟨_,rfl,p,A.ag,dx,_,rfl,ae,tc,T.bY,by show 13 < 1000;decide,?_⟩
  rw [bg]
  rw [show bH "first_colour" (V.int 0) [("stage",V.str "version"),("need",V.int 12),("pending",V.ref pe),("waiting",V.ref wt),("wrong",V.int 0),("greeted",V.bl false),("far_columns",V.int 0),("far_rows",V.int 0),("form",V.cD),("columns",V.int 0),("rows",V.int 0),("screen",V.ref sc),("table",V.ref tb)]=([("stage",V.str "version"),("need",V.int 12),("pending",V.ref pe),("waiting",V.ref wt),("wrong",V.int 0),("greeted",V.bl false),("far_columns",V.int 0),("far_rows",V.int 0),("form",V.cD),("columns",V.int 0),("rows",V.int 0),("screen",V.ref sc),("table",V.ref tb),("first_colour",V.int 0)]:List (Str × V)) from rfl]
  refine ⟨_,rfl,p,A.ag,dx,_,rfl,ae,tc,T.aF,by show 14 < 1000;decide,?_⟩
  rw [bg]
  rw [show bH "rectangle" (V.cD) [("stage",V.str "version"),("need",V.int 12),("pending",V.ref pe),("waiting",V.ref wt),("wrong",V.int 0),("greeted",V.bl false),("far_columns",V.int 0),("far_rows",V.int 0),("form",V.cD),("columns",V.int 0),("rows",V.int 0),("screen",V.ref sc),("table",V.ref tb),("first_colour",V.int 0)]=([("stage",V.str "version"),("need",V.int 12),("pending",V.ref pe),("waiting",V.ref wt),("wrong",V.int 0),("greeted",V.bl false),("far_columns",V.int 0),("far_rows",V.int 0),("form",V.cD),("columns",V.int 0),("rows",V.int 0),("screen",V.ref sc),("table",V.ref tb),("first_colour",V.int 0),("rectangle",V.cD)]:List (Str × V)) from rfl]
  refine ⟨_,rfl,p,A.ag,dx,_,rfl,ae,tc,T.br,by show 15 < 1000;decide,?_⟩
  rw [bg]
  rw [show bH "rectangles_left" (V.int 0) [("stage",V.str "version"),("need",V.int 12),("pending",V.ref pe),("waiting",V.ref wt),("wrong",V.int 0),("greeted",V.bl false),("far_columns",V.int 0),("far_rows",V.int 0),("form",V.cD),("columns",V.int 0),("rows",V.int 0),("screen",V.ref sc),("table",V.ref tb),("first_colour",V.int 0),("rectangle",V.cD)]=([("stage",V.str "version"),("need",V.int 12),("pending",V.ref pe),("waiting",V.ref wt),("wrong",V.int 0),("greeted",V.bl false),("far_columns",V.int 0),("far_rows",V.int 0),("form",V.cD),("columns",V.int 0),("rows",V.int 0),("screen",V.ref sc),("table",V.ref tb),("first_colour",V.int 0),("rectangle",V.cD),("rectangles_left",V.int 0)]:List (Str × V)) from rfl]
  refine ⟨_,rfl,p,A.ag,dx,_,rfl,ae,tc,T.dc,by show 16 < 1000;decide,?_⟩
  rw [bg]
  rw [show bH "bells" (V.int 0) [("stage",V.str "version"),("need",V.int 12),("pending",V.ref pe),("waiting",V.ref wt),("wrong",V.int 0),("greeted",V.bl false),("far_columns",V.int 0),("far_rows",V.int 0),("form",V.cD),("columns",V.int 0),("rows",V.int 0),("screen",V.ref sc),("table",V.ref tb),("first_colour",V.int 0),("rectangle",V.cD),("rectangles_left",V.int 0)]=([("stage",V.str "version"),("need",V.int 12),("pending",V.ref pe),("waiting",V.ref wt),("wrong",V.int 0),("greeted",V.bl false),("far_columns",V.int 0),("far_rows",V.int 0),("form",V.cD),("columns",V.int 0),("rows",V.int 0),("screen",V.ref sc),("table",V.ref tb),("first_colour",V.int 0),("rectangle",V.cD),("rectangles_left",V.int 0),("bells",V.int 0)]:List (Str × V)) from rfl]
  refine ⟨_,rfl,p,A.ag,dx,_,rfl,ae,tc,T.cA,by show 17 < 1000;decide,?_⟩
  rw [bg]
  rw [show bH "updates" (V.int 0) [("stage",V.str "version"),("need",V.int 12),("pending",V.ref pe),("waiting",V.ref wt),("wrong",V.int 0),("greeted",V.bl false),("far_columns",V.int 0),("far_rows",V.int 0),("form",V.cD),("columns",V.int 0),("rows",V.int 0),("screen",V.ref sc),("table",V.ref tb),("first_colour",V.int 0),("rectangle",V.cD),("rectangles_left",V.int 0),("bells",V.int 0)]=([("stage",V.str "version"),("need",V.int 12),("pending",V.ref pe),("waiting",V.ref wt),("wrong",V.int 0),("greeted",V.bl false),("far_columns",V.int 0),("far_rows",V.int 0),("form",V.cD),("columns",V.int 0),("rows",V.int 0),("screen",V.ref sc),("table",V.ref tb),("first_colour",V.int 0),("rectangle",V.cD),("rectangles_left",V.int 0),("bells",V.int 0),("updates",V.int 0)]:List (Str × V)) from rfl]
  refine ⟨Nat.zero_le _,fun ct h5=>?_⟩
  obtain ⟨m5,f5⟩:=aR h5
  refine ⟨_,rfl,p,A.ag,dx,_,rfl,by rw [aj m5.symm];exact ae,tc,T.ck,by show 18 < 1000;decide,?_⟩
  rw [j6 m5]
  rw [show bH "cut_text" (V.ref ct) [("stage",V.str "version"),("need",V.int 12),("pending",V.ref pe),("waiting",V.ref wt),("wrong",V.int 0),("greeted",V.bl false),("far_columns",V.int 0),("far_rows",V.int 0),("form",V.cD),("columns",V.int 0),("rows",V.int 0),("screen",V.ref sc),("table",V.ref tb),("first_colour",V.int 0),("rectangle",V.cD),("rectangles_left",V.int 0),("bells",V.int 0),("updates",V.int 0)]=([("stage",V.str "version"),("need",V.int 12),("pending",V.ref pe),("waiting",V.ref wt),("wrong",V.int 0),("greeted",V.bl false),("far_columns",V.int 0),("far_rows",V.int 0),("form",V.cD),("columns",V.int 0),("rows",V.int 0),("screen",V.ref sc),("table",V.ref tb),("first_colour",V.int 0),("rectangle",V.cD),("rectangles_left",V.int 0),("bells",V.int 0),("updates",V.int 0),("cut_text",V.ref ct)]:List (Str × V)) from rfl]
  refine ⟨Nat.zero_le _,fun nm h6=>?_⟩
  obtain ⟨m6,f6⟩:=aR h6
  refine ⟨_,rfl,p,A.ag,dx,_,rfl,by rw [aj m6.symm];exact ae,tc,T.eg,by show 19 < 1000;decide,?_⟩
  rw [j6 m6]
  rw [show bH "name" (V.ref nm) [("stage",V.str "version"),("need",V.int 12),("pending",V.ref pe),("waiting",V.ref wt),("wrong",V.int 0),("greeted",V.bl false),("far_columns",V.int 0),("far_rows",V.int 0),("form",V.cD),("columns",V.int 0),("rows",V.int 0),("screen",V.ref sc),("table",V.ref tb),("first_colour",V.int 0),("rectangle",V.cD),("rectangles_left",V.int 0),("bells",V.int 0),("updates",V.int 0),("cut_text",V.ref ct)]=([("stage",V.str "version"),("need",V.int 12),("pending",V.ref pe),("waiting",V.ref wt),("wrong",V.int 0),("greeted",V.bl false),("far_columns",V.int 0),("far_rows",V.int 0),("form",V.cD),("columns",V.int 0),("rows",V.int 0),("screen",V.ref sc),("table",V.ref tb),("first_colour",V.int 0),("rectangle",V.cD),("rectangles_left",V.int 0),("bells",V.int 0),("updates",V.int 0),("cut_text",V.ref ct),("name",V.ref nm)]:List (Str × V)) from rfl]
  obtain ⟨n21,g2⟩:=aR f2
  obtain ⟨n32,g3⟩:=aR f3
  obtain ⟨n31,g3⟩:=aR g3
  obtain ⟨n43,g4⟩:=aR f4
  obtain ⟨n42,g4⟩:=aR g4
  obtain ⟨n41,g4⟩:=aR g4
  obtain ⟨n54,g5⟩:=aR f5
  obtain ⟨n53,g5⟩:=aR g5
  obtain ⟨n52,g5⟩:=aR g5
  obtain ⟨n51,g5⟩:=aR g5
  obtain ⟨n65,g6⟩:=aR f6
  obtain ⟨n64,g6⟩:=aR g6
  obtain ⟨n63,g6⟩:=aR g6
  obtain ⟨n62,g6⟩:=aR g6
  obtain ⟨n61,g6⟩:=aR g6
  refine k _ pe wt sc tb ct nm ae (fun b hb=>?_) ?_ ?_
  ·simp only [List.mem_cons,List.not_mem_nil,or_false] at hb
   rcases hb with rfl | rfl | rfl | rfl | rfl | rfl
   ·exact ⟨f1,by rw [aj m1,aj n61.symm,aj n51.symm,aj n41.symm,aj n31.symm,aj n21.symm];exact ae⟩
   ·exact ⟨g2,by rw [aj m2,aj n62.symm,aj n52.symm,aj n42.symm,aj n32.symm];exact ae⟩
   ·exact ⟨g3,by rw [aj m3,aj n63.symm,aj n53.symm,aj n43.symm];exact ae⟩
   ·exact ⟨g4,by rw [aj m4,aj n64.symm,aj n54.symm];exact ae⟩
   ·exact ⟨g5,by rw [aj m5,aj n65.symm];exact ae⟩
   ·exact ⟨g6,by rw [aj m6];exact ae⟩
  ·simp only [List.nodup_cons,List.mem_cons,List.not_mem_nil,or_false,not_or,not_false_eq_true,List.nodup_nil,and_true]
   exact ⟨⟨m1.symm,m2.symm,m3.symm,m4.symm,m5.symm,m6.symm⟩,⟨n21.symm,n31.symm,n41.symm,n51.symm,n61.symm⟩,⟨n32.symm,n42.symm,n52.symm,n62.symm⟩,⟨n43.symm,n53.symm,n63.symm⟩,⟨n54.symm,n64.symm⟩,n65.symm⟩
  ·intro b o e nb
   rw [aj nb]
   exact ay f6 _ _ (ay f5 _ _ (ay f4 _ _ (ay f3 _ _ (ay f2 _ _ (ay f1 _ _ e)))))
end
def cF (out b:List Nat):List Nat:=if 65536 < out.length + b.length then out else out++b
theorem xF {out b:List Nat} (h:out.length≤65536):(cF out b).length≤65536:=by
 unfold cF
 split
 ·exact h
 ·rw [List.length_append];omega
theorem jq (v:Sn44.Viewer) (b:List Nat):v.send b={ v with out:=cF v.out b }:=by
 unfold Sn44.Viewer.send cF Sn44.MOSTOUT
 split
 ·rfl
 ·rfl
def rN (what cols rows:Nat):List Nat:=[3,what,0,0,0,0]++(Sn44.be 2 cols++Sn44.be 2 rows)
theorem yP (v:Sn44.Viewer) (c:Bool):v.ask c={ v with out:=cF v.out (rN (if c=true then 1 else 0) v.screen.w v.screen.h) }:=jq v _
section
variable {P:Program} {w:World} {K:PySem.W.Frag} {mg:Str→Option Value} {base:Heap} {A:bI}
def Bj (A:bI):Sp:=fun vs H Q _=>∃(s dx:Addr) (x:SF) (st:Str) (n:Nat),vs=[.ref s,.str st,.int (n:Int)]∧en A H s dx x∧Q .cD (upd H s (.ins A.ag dx { x with stage:=st,need:=n }.fs))
theorem bf (T:Txt P w K mg A):rF P w K mg base A.ag "expect" 1 ["self","stage","need"] (Bj A):=by
 refine T.fM.at_ (fun _ _ _ _ _ _ us hl=>match us,hl with | [_,_,_],_=>rfl) fun f fd F=>?_
 refine F.ok oN (fun vs H Q E h=>?_) (fun cdv AA outer s H vs Q E hr h=>?_)
 ·obtain ⟨s,dx,x,st,n,rfl,_⟩:=h
  rfl
 ·obtain ⟨s,dx,x,st,n,rfl,hs,k⟩:=h
  refine ⟨_,ab (aJ (pv 0) (pv 1) rfl) (ak (aJ (pv 0) (pv 2) rfl)),?_⟩
  refine ⟨_,rfl,_,rfl,s,A.ag,dx,_,rfl,hs,T.af,T.dE,by show 20 < 1000;decide,?_⟩
  rw [show bH "stage" (.str st) x.fs={ x with stage:=st }.fs from rfl]
  refine ⟨_,rfl,_,rfl,s,A.ag,dx,_,rfl,ae,T.af,T.cT,by show 20 < 1000;decide,?_⟩
  rw [bg]
  exact k
def Bk (A:bI):Sp:=fun vs H Q _=>∃(s dx:Addr) (x:SF) (n:Nat),vs=[.ref s,.int (n:Int)]∧en A H s dx x∧Q .cD (upd H s (.ins A.ag dx { x with wrong:=n }.fs))
theorem d8 (T:Txt P w K mg A):rF P w K mg base A.ag "fail" 1 ["self","number"] (Bk A):=by
 refine T.gF.at_ (fun _ _ _ _ _ _ us hl=>match us,hl with | [_,_],_=>rfl) fun f fd F=>?_
 refine F.ok qp (fun vs H Q E h=>?_) (fun cdv AA outer s H vs Q E hr h=>?_)
 ·obtain ⟨s,dx,x,n,rfl,_⟩:=h
  rfl
 ·obtain ⟨s,dx,x,n,rfl,hs,k⟩:=h
  refine ⟨_,ak (aJ (pv 0) (pv 1) rfl),?_⟩
  exact ⟨_,rfl,_,rfl,s,A.ag,dx,_,rfl,hs,T.af,T.bL,by show 20 < 1000;decide,k⟩
def mI (x:SF):Int:=if x.wrong≠0 then -10 - (x.wrong:Int) else if x.bE=true then 1 else 0
def xG (A:bI):Sp:=fun vs H Q _=>∃(s dx:Addr) (x:SF),vs=[.ref s]∧en A H s dx x∧Q (.int (mI x)) H
theorem j7 (T:Txt P w K mg A):rF P w K mg base A.ag "standing" 1 ["self"] (xG A):=by
 refine T.eK.at_ (fun _ _ _ _ _ _ us hl=>match us,hl with | [_],_=>rfl) fun f fd F=>?_
 refine F.ok mN (fun vs H Q E h=>?_) (fun cdv AA outer s H vs Q E hr h=>?_)
 ·obtain ⟨s,dx,x,rfl,_⟩:=h
  rfl
 ·obtain ⟨s,dx,x,rfl,hs,k⟩:=h
  unfold mI at k
  refine ⟨_,ab (aX (aQ nV (aq (pv 0) rfl) ai (aT _)) (ak (aW (aH nj (AJ wR ai) (aq (pv 0) rfl)))) aP)
   (ak (aW (qS (ka (aq (pv 0) rfl)) ai ai))),?_⟩
  refine ⟨_,rfl,s,A.ag,dx,_,_,rfl,hs,T.af,T.bL,rfl,rfl,_,rfl,?_⟩
  show if (!decide (V.int (x.wrong:Int)=V.int 0))=true then _ else _
  rw [mG]
  by_cases c:x.wrong≠0
  ·rw [if_pos (by simpa using c)]
   rw [if_pos c] at k
   exact ⟨_,rfl,_,rfl,s,A.ag,dx,_,_,rfl,hs,T.af,T.bL,rfl,_,_,rfl,rfl,k⟩
  ·rw [if_neg (by simpa using c)]
   rw [if_neg c] at k
   refine ⟨_,rfl,s,A.ag,dx,_,_,rfl,hs,T.af,T.cX,rfl,_,rfl,?_⟩
   show if x.bE=true then _ else _
   by_cases g:x.bE=true
   ·rw [if_pos g] at k ⊢
    exact k
   ·rw [if_neg g] at k ⊢
    exact k
def DS (A:bI):Sp:=fun vs H Q _=>∃(s dx m:Addr) (x:SF) (out b:List Nat),vs=[.ref s,.ref m]∧en A H s dx x∧H x.k.waiting=some (.lst (nI out))∧H m=some (.lst (nI b))∧out.length≤65536∧
 ∀H',H' x.k.waiting=some (.lst (nI (cF out b)))→SameBut H H' (·=x.k.waiting)→Q .cD H'
theorem k9 (T:Txt P w K mg A):rF P w K mg base A.ag "send" 1 ["self","message"] (DS A):=by
 refine T.gG.at_ (fun _ _ _ _ _ _ us hl=>match us,hl with | [_,_],_=>rfl) fun f fd F=>?_
 refine F.ok qr (fun vs H Q E h=>?_) (fun cdv AA outer s H vs Q E hr h=>?_)
 ·obtain ⟨s,dx,m,x,out,b,rfl,_⟩:=h
  rfl
 ·obtain ⟨s,dx,m,x,out,b,rfl,hs,hw,hm,hl,k⟩:=h
  unfold cF at k
  refine ⟨_,ak (aX (aQ fW (aH bA (bZ bj (by rfl) T.fQ PySem.boot_len (aa (aq (pv 0) rfl) ah)) (bZ bj (by rfl) T.fQ PySem.boot_len (aa (pv 1) ah))) (a_ T.gH rfl) (aT _))
   (ak (az (q_ PySem.F.plainAttrs_list PySem.F.slot_list_extend PySem.F.type_list_extend jd (aq (pv 0) rfl) (aa (pv 1) ah)))) aP),?_⟩
  refine ⟨_,rfl,s,A.ag,dx,_,_,rfl,hs,T.af,T.bQ,rfl,_,_,rfl,.inl (bV.of hw),_,rfl,m,_,rfl,.inl (bV.of hm),_,_,rfl,rfl,_,_,rfl,rfl,_,rfl,?_⟩
  show if decide (((nI out).length:Int) + ((nI b).length:Int)≤65536)=true then _ else _
  rw [aU,aU]
  by_cases c:65536 < out.length + b.length
  ·rw [if_neg (by simp;omega)]
   rw [if_pos c] at k
   exact k H hw (fun b o e _=>e)
  ·rw [if_pos (by simp;omega)]
   rw [if_neg c] at k
   refine ⟨_,rfl,s,A.ag,dx,_,_,rfl,hs,T.af,T.bQ,rfl,.inl ⟨rfl,_,bV.of hw⟩,_,rfl,_,m,_,_,rfl,rfl,hw,hm,?_,?_⟩
   ·rw [aU,aU,sizeLine_eq]
    omega
   ·refine k _ ?_ ?_
    ·rw [ae,fU]
    ·intro b o e n
     rw [aj n]
     exact e
def E6 (A:bI):Sp:=fun vs H Q _=>∃(s dx:Addr) (x:SF) (what:Nat) (out:List Nat),vs=[.ref s,.int (what:Int)]∧en A H s dx x∧H x.k.waiting=some (.lst (nI out))∧out.length≤65536∧
 ∀H',H' x.k.waiting=some (.lst (nI (cF out (rN what x.k.columns x.k.rows))))→SameBut H H' (·=x.k.waiting)→Q .cD H'
theorem rO (T:Txt P w K mg A):rF P w K mg base A.ag "ask_for" 2 ["self","what"] (E6 A):=by
 refine T.fi.at_ (fun _ _ _ _ _ _ us hl=>match us,hl with | [_,_],_=>rfl) fun f fd F=>?_
 refine F.ok nv (fun vs H Q E h=>?_) (fun cdv AA outer s H vs Q E hr h=>?_)
 ·obtain ⟨s,dx,x,what,out,rfl,_⟩:=h
  rfl
 ·obtain ⟨s,dx,x,what,out,rfl,hs,hw,hl,k⟩:=h
  refine ⟨_,ak (az (bF (k9 T) T.af hr (pv 0) (aa (aH je (aH je (b0 (aa ai (aa (pv 1) (aa ai (aa ai (aa ai (aa ai ah)))))))
   (aK (df T) hr rfl (aa (aq (pv 0) rfl) (aa ai ah)))) (aK (df T) hr rfl (aa (aq (pv 0) rfl) (aa ai ah)))) ah))),?_⟩
  refine ⟨_,rfl,s,dx,_,rfl,hs,rfl,_,rfl,by show 6≤sizeLine;decide,fun l1 h1=>?_⟩
  have s1:=ay (o:=.lst [V.int 3,V.int (what:Int),V.int 0,V.int 0,V.int 0,V.int 0]) h1
  refine ⟨_,rfl,s,A.ag,dx,_,_,rfl,s1 _ _ hs,T.af,T.bG,rfl,x.k.columns,2,rfl,by decide,fun H2 l2 e2 q2 s2=>?_⟩
  refine ⟨l1,l2,_,_,rfl,rfl,s2 _ _ ae,q2,by rw [aU,kf];show 6 + 2≤sizeLine;decide,fun l3 h3=>?_⟩
  have s3:=ay (o:=.lst ([V.int 3,V.int (what:Int),V.int 0,V.int 0,V.int 0,V.int 0]++nI (Sn44.be 2 x.k.columns))) h3
  have S3:=s1.trans (s2.trans s3)
  refine ⟨_,rfl,s,A.ag,dx,_,_,rfl,S3 _ _ hs,T.af,T.b9,rfl,x.k.rows,2,rfl,by decide,fun H4 l4 e4 q4 s4=>?_⟩
  refine ⟨l3,l4,_,_,rfl,rfl,s4 _ _ ae,q4,by rw [List.length_append,aU,aU,kf,kf];show 6 + 2 + 2≤sizeLine;decide,fun l5 h5=>?_⟩
  have s5:=ay (o:=.lst ([V.int 3,V.int (what:Int),V.int 0,V.int 0,V.int 0,V.int 0]++nI (Sn44.be 2 x.k.columns)++nI (Sn44.be 2 x.k.rows))) h5
  have S5:=S3.trans (s4.trans s5)
  have em:[V.int 3,V.int (what:Int),V.int 0,V.int 0,V.int 0,V.int 0]++nI (Sn44.be 2 x.k.columns)++nI (Sn44.be 2 x.k.rows)=nI (rN what x.k.columns x.k.rows):=by
   unfold rN
   rw [fU,fU,List.append_assoc]
   rfl
  refine ⟨s,dx,l5,x,out,rN what x.k.columns x.k.rows,rfl,S5 _ _ hs,S5 _ _ hw,by rw [ae,em],hl,fun H' a1 a2=>k H' a1 fun b o e n=>a2 _ _ (S5 _ _ e) n⟩
def Cs (A:bI):Sp:=fun vs H Q _=>∃(s dx:Addr) (x:SF) (n:Nat) (out:List Nat),vs=[.ref s,.int (n:Int)]∧en A H s dx x∧H x.k.waiting=some (.lst (nI out))∧
 ∀H' f wt,H f=none→H wt=none→f≠wt→H' f=some (.lst (nI (out.take n)))→H' wt=some (.lst (nI (out.drop n)))→en A H' s dx { x with k:={ x.k with waiting:=wt } }→SameBut H H' (·=s)→Q (.ref f) H'
theorem Bl (T:Txt P w K mg A):rF P w K mg base A.ag "fetch" 1 ["self","most"] (Cs A):=by
 refine T.gb.at_ (fun _ _ _ _ _ _ us hl=>match us,hl with | [_,_],_=>rfl) fun f fd F=>?_
 refine F.ok km (fun vs H Q E h=>?_) (fun cdv AA outer s H vs Q E hr h=>?_)
 ·obtain ⟨s,dx,x,n,out,rfl,_⟩:=h
  rfl
 ·obtain ⟨s,dx,x,n,out,rfl,hs,hw,k⟩:=h
  have nd:=km.nd
  refine ⟨_,ab (aI (i:=2) nd rfl (Or.inl rfl) (ee fC (aq (pv 0) rfl) kF (dj (pv 1)))) (ab (aJ (pv 0) (ee fC (aq (pv 0) rfl) (dj (pv 1)) kF) rfl) (ak (aW (pv 2)))),?_⟩
  refine ⟨_,rfl,s,A.ag,dx,_,_,rfl,hs,T.af,T.bQ,rfl,_,rfl,_,rfl,_,_,rfl,bV.of hw,fun f hf=>?_⟩
  rw [xt,jy]
  have s1:=ay (o:=.lst (nI (out.take n))) hf
  refine ⟨_,rfl,s,A.ag,dx,_,_,rfl,s1 _ _ hs,T.af,T.bQ,rfl,_,rfl,_,rfl,_,_,rfl,bV.of (s1 _ _ hw),fun wt hwt=>?_⟩
  rw [lV,iG]
  have s2:=ay (o:=.lst (nI (out.drop n))) hwt
  obtain ⟨n1,f1⟩:=aR hwt
  have sf:=aE hs hf
  have sw:=aE hs f1
  refine ⟨_,rfl,s,A.ag,dx,_,rfl,s2 _ _ (s1 _ _ hs),T.af,T.bQ,by show 20 < 1000;decide,?_⟩
  rw [show bH "waiting" (.ref wt) x.fs={ x with k:={ x.k with waiting:=wt } }.fs from rfl]
  refine ⟨_,rfl,k _ f wt hf f1 n1.symm ?_ ?_ ae ?_⟩
  ·rw [aj sf.symm]
   exact s2 _ _ ae
  ·rw [aj sw.symm]
   exact ae
  ·intro b o e nb
   rw [aj nb]
   exact s2 _ _ (s1 _ _ e)
def DT (A:bI):Sp:=fun vs H Q _=>∃(s dx:Addr) (x:SF),vs=[.ref s]∧en A H s dx x∧Q .cD (upd H s (.ins A.ag dx { x with k:={ x.k with bells:=(x.k.bells + 1) % 2 ^ 31 } }.fs))
theorem CT (n:Nat):((n:Int) + 1) % 2147483648=(((n + 1) % 2 ^ 31:Nat):Int):=by omega
theorem sJ (T:Txt P w K mg A):rF P w K mg base A.ag "count_bell" 1 ["self"] (DT A):=by
 refine T.dP.at_ (fun _ _ _ _ _ _ us hl=>match us,hl with | [_],_=>rfl) fun f fd F=>?_
 refine F.ok lC (fun vs H Q E h=>?_) (fun cdv AA outer s H vs Q E hr h=>?_)
 ·obtain ⟨s,dx,x,rfl,_⟩:=h
  rfl
 ·obtain ⟨s,dx,x,rfl,hs,k⟩:=h
  refine ⟨_,ak (aJ (pv 0) (aH AK (aH bA (aq (pv 0) rfl) ai) (a_ T.l_ rfl)) rfl),?_⟩
  refine ⟨_,rfl,s,A.ag,dx,_,_,rfl,hs,T.af,T.dc,rfl,_,_,rfl,rfl,_,_,rfl,rfl,(by show (0:Int) < 2147483648;decide),_,rfl,s,A.ag,dx,_,rfl,hs,T.af,T.dc,by show 20 < 1000;decide,?_⟩
  have e:(fun i j:Int=>V.int (i % j)) ((x.k.bells:Int) + 1) 2147483648=V.int (((x.k.bells + 1) % 2 ^ 31:Nat):Int):=congrArg V.int (CT _)
  rw [e]
  exact k
def E7 (A:bI):Sp:=fun vs H Q _=>∃(s dx:Addr) (x:SF),vs=[.ref s]∧en A H s dx x∧Q .cD (upd H s (.ins A.ag dx { x with k:={ x.k with updates:=(x.k.updates + 1) % 2 ^ 31 } }.fs))
theorem qt (T:Txt P w K mg A):rF P w K mg base A.ag "count_update" 1 ["self"] (E7 A):=by
 refine T.dk.at_ (fun _ _ _ _ _ _ us hl=>match us,hl with | [_],_=>rfl) fun f fd F=>?_
 refine F.ok kn (fun vs H Q E h=>?_) (fun cdv AA outer s H vs Q E hr h=>?_)
 ·obtain ⟨s,dx,x,rfl,_⟩:=h
  rfl
 ·obtain ⟨s,dx,x,rfl,hs,k⟩:=h
  refine ⟨_,ak (aJ (pv 0) (aH AK (aH bA (aq (pv 0) rfl) ai) (a_ T.l_ rfl)) rfl),?_⟩
  refine ⟨_,rfl,s,A.ag,dx,_,_,rfl,hs,T.af,T.cA,rfl,_,_,rfl,rfl,_,_,rfl,rfl,(by show (0:Int) < 2147483648;decide),_,rfl,s,A.ag,dx,_,rfl,hs,T.af,T.cA,by show 20 < 1000;decide,?_⟩
  have e:(fun i j:Int=>V.int (i % j)) ((x.k.updates:Int) + 1) 2147483648=V.int (((x.k.updates + 1) % 2 ^ 31:Nat):Int):=congrArg V.int (CT _)
  rw [e]
  exact k
end
open Sn44 (Viewer Screen Rect Stage)
open Mir (Mode Res)
def dC:Stage→Bool
 | .runs=>true
 | _=>false
def mJ:Mode→Str
 | .version=>"version" | .howMany=>"how many ways" | .ways _=>"ways" | .number=>"number" | .size=>"size" | .form _ _=>"form" | .nameLen _ _ _=>"name length" | .name _ _ _ _=>"name"
 | .kind=>"kind" | .update=>"update" | .table=>"table" | .colours _ _=>"colours" | .cutLen=>"cut length" | .cutText _=>"cut text"
 | .rect=>"rectangle" | .pixels _=>"pixels" | .source _=>"source" | .howManyParts _ _=>"how many parts" | .ground _ _ _=>"ground" | .part _ _ _ _=>"part"
 | .tile _ _ _ _ _ _=>"tile" | .tilePixels _ _ _ _ _ _=>"tile pixels" | .tileColours _ _ _ _ _ _ _=>"tile colours" | .tilePart _ _ _ _ _ _ _ _=>"tile part"
def mK:Mode→Stage
 | .version=>.version | .howMany=>.ways | .ways _=>.ways | .number=>.answer | .size=>.first | .form _ _=>.first | .nameLen _ _ _=>.first | .name _ _ _ _=>.first
 | _=>.runs
def DU:Mode→Bool
 | .rect=>true | .pixels _=>true | .source _=>true | .howManyParts _ _=>true | .ground _ _ _=>true | .part _ _ _ _=>true
 | .tile _ _ _ _ _ _=>true | .tilePixels _ _ _ _ _ _=>true | .tileColours _ _ _ _ _ _ _=>true | .tilePart _ _ _ _ _ _ _ _=>true
 | _=>false
def rP (m:Mode) (n:Nat):Prop:=if DU m=true then 0 < n else n=0
theorem xH {u:Viewer} (h:dC u.stage=false→u.left=0):rP (Mir.aY u) u.left:=by
 unfold Mir.aY
 cases e:u.stage with
 | version=>exact h (by rw [e];rfl)
 | ways=>exact h (by rw [e];rfl)
 | answer=>exact h (by rw [e];rfl)
 | first=>exact h (by rw [e];rfl)
 | runs=>
  show rP (if 0 < u.left then .rect else .kind) u.left
  by_cases c:0 < u.left
  ·rw [if_pos c];exact c
  ·rw [if_neg c];exact Nat.eq_zero_of_not_pos c
 | wrong k=>
  have:=h (by rw [e];rfl)
  show rP (if 0 < u.left then .rect else .kind) u.left
  rw [if_neg (by omega)]
  exact this
theorem v7 {u:Viewer} (h:Mir.dJ u.stage=false):u.stage=mK (Mir.aY u):=by
 unfold Mir.aY
 cases e:u.stage with
 | version=>rfl
 | ways=>rfl
 | answer=>rfl
 | first=>rfl
 | runs=>show Stage.runs=mK (if 0 < u.left then .rect else .kind);split <;> rfl
 | wrong k=>rw [e] at h;cases h
theorem Bm {m:Mode}:Mir.dJ (mK m)=false:=by cases m <;> rfl
abbrev M0 (s:Addr) (k:SK):List Addr:=[s,k.waiting,k.screen,k.table]
structure dY (A:bI) (H:Hp) (x:SF) (rc dr:Addr) (y:RF) (r:Rect):Prop where
 ref:x.b6=.ref rc
 at_:H rc=some (.ins A.ao dr y.fs)
 l:y.left=r.x
 t:y.top=r.y
 w:y.width=r.w
 h:y.a9=r.h
def gi (v:Viewer) (r:Rect):Prop:=r.x + r.w≤v.screen.w∧r.y + r.h≤v.screen.h
def Drawn (v:Viewer) (r:Rect) (Pic:List (List Nat)) (s':Screen):Prop:=∃B,Mir.Rows v.screen.w v.screen.h B∧v.screen.cells=B.flatten∧s'={ v.screen with cells:=(Mir.aC B r.x r.y Pic).flatten }
structure jc (r:Rect) (i j:Nat) (Pic:List (List Nat)):Prop where
 len:Pic.length=r.h
 row:∀y,y < r.h→(Pic.getD y []).length=if y < 16 * j then r.w else if y < 16 * j + 16 then 16 * i else 0
structure Bn (A:bI) (H:Hp) (y:RF) (tl dt:Addr) (z:TF) (r:Rect) (i j:Nat):Prop where
 ref:y.tile=.ref tl
 at_:H tl=some (.ins A.bR dt z.fs)
 l:z.left=16 * i
 t:z.top=16 * j
 w:z.width=(Mir.ax r i j).w
 h:z.a9=(Mir.ax r i j).h
structure bD (A:bI) (H:Hp) (M:List Addr) (s:Addr) (x:SF) (v:Viewer) (r:Rect) (i j back front:Nat) (s':Screen) (more:List Addr) (rc dr tl dt:Addr) (y:RF) (z:TF) (rs:List Addr) (Pic:List (List Nat)):Prop where
 eC:M=M0 s x.k++(rc :: y.aA :: tl :: (more++rs))
 rect:dY A H x rc dr y r
 ins:gi v r
 bk:y.back=back
 fr:y.front=front
 tile:Bn A H y tl dt z r i j
 lst:H y.aA=some (.lst (rs.map V.ref))
 rows:cq H rs Pic
 band:jc r i j Pic
 hi:i < Mir.nC r
 hj:j < Mir.nR r
def oU (c:Nat):Nat:=if c=1 then 4 else 2
def dB (A:bI) (H:Hp) (M:List Addr) (s:Addr) (x:SF) (v:Viewer):Mode→Prop
 | .form a b=>M=M0 s x.k∧x.dX=a∧x.eN=b∧(1≤a∧a≤1024)∧(1≤b∧b≤1024)
 | .nameLen a b f=>M=M0 s x.k∧x.dX=a∧x.eN=b∧(1≤a∧a≤1024)∧(1≤b∧b≤1024)∧sizeOk f∧∃fa bits,x.k.form=.ref fa∧iy A H M fa bits f
 | .name a b f n=>M=M0 s x.k∧x.dX=a∧x.eN=b∧(1≤a∧a≤1024)∧(1≤b∧b≤1024)∧sizeOk f∧n≤65536∧∃fa bits,x.k.form=.ref fa∧iy A H M fa bits f
 | .colours i n=>M=M0 s x.k∧x.first=i∧i + n≤256∧v.screen.form.parts=false
 | .cutText n=>M=M0 s x.k∧n≤65536
 | .pixels r=>∃rc dr y,M=M0 s x.k++[rc]∧dY A H x rc dr y r∧gi v r
 | .source r=>∃rc dr y,M=M0 s x.k++[rc]∧dY A H x rc dr y r∧gi v r
 | .howManyParts c r=>∃rc dr y,M=M0 s x.k++[rc]∧dY A H x rc dr y r∧gi v r∧y.nB=oU c∧(c=1∨c=2)
 | .ground c r k=>∃rc dr y,M=M0 s x.k++[rc]∧dY A H x rc dr y r∧gi v r∧y.nB=oU c∧(c=1∨c=2)∧y.parts=k
 | .part c r k s'=>∃rc dr y rs Pic,M=M0 s x.k++[rc,y.aA]∧dY A H x rc dr y r∧gi v r∧y.nB=oU c∧(c=1∨c=2)∧y.parts=k∧ku H M y.aA rs Pic∧Mir.Rows r.w r.h Pic∧Drawn v r Pic s'
 | .tile r i j back front s'=>∃rc dr tl dt y z rs Pic,bD A H M s x v r i j back front s' [] rc dr tl dt y z rs Pic∧Drawn v r Pic s'∧z.parts=0
 | .tilePixels r i j back front s'=>∃rc dr tl dt y z rs Pic,bD A H M s x v r i j back front s' [] rc dr tl dt y z rs Pic∧Drawn v r Pic s'∧z.parts=0
 | .tileColours r i j back front bits s'=>∃rc dr tl dt y z rs Pic,bD A H M s x v r i j back front s' [] rc dr tl dt y z rs Pic∧Drawn v r Pic s'∧z.bits=bits∧bits < 256∧z.parts=0
 | .tilePart r i j back front bits n s'=>∃rc dr tl dt y z rs Pic,bD A H M s x v r i j back front s' [z.aA] rc dr tl dt y z rs Pic∧z.bits=bits∧bits < 256∧z.parts=n∧
   ∃trs TP B,ku H M z.aA trs TP∧Mir.Rows (Mir.ax r i j).w (Mir.ax r i j).h TP∧Mir.Rows v.screen.w v.screen.h B∧v.screen.cells=B.flatten∧
    s'={ v.screen with cells:=(Mir.aC (Mir.aC B r.x r.y Pic) (Mir.ax r i j).x (Mir.ax r i j).y TP).flatten }
 | _=>M=M0 s x.k
structure Rep (A:bI) (H:Hp) (s dx:Addr) (x:SF) (v:Viewer) (m:Mode) (M:List Addr):Prop where
 bK:en A H s dx x
 core:Core A H M s x.k v
 stage:x.stage=mJ m
 need:x.need=Mir.need v m
 wrong:x.wrong=0
 cu:x.bE=dC v.stage
 nd:M.Nodup
 mode:dB A H M s x v m
 run:dC v.stage=true ↔ v.screen.w≠0
 lF:v.stage=mK m
 lG:rP m v.left
structure E8 (A:bI) (H:Hp) (s dx:Addr) (x:SF) (v:Viewer) (k:Nat) (M:List Addr):Prop where
 bK:en A H s dx x
 core:Core A H M s x.k v
 wrong:x.wrong=k
 nz:k≠0
def DV (A:bI) (H:Hp) (s dx:Addr) (v:Viewer) (M:List Addr):Res→Prop
 | .cont m=>∃x,Rep A H s dx x v m M
 | .done u=>∃x,Rep A H s dx x u (Mir.aY u) M
 | .bad k=>∃x,E8 A H s dx x v k M
def After (A:bI) (H:Hp) (s dx:Addr) (M:List Addr) (v:Viewer) (r:Res) (Q:VK):Prop:=∀H' M',DV A H' s dx v M' r→Ext H M H' M'→Q .cD H'
structure DW (A:bI) (H:Hp) (s dx wd:Addr) (x:SF) (ws:List Nat) (v:Viewer) (m:Mode) (M:List Addr):Prop where
 rep:Rep A H s dx x v m M
 words:Fz H M wd (.lst (nI ws))
 len:ws.length=Mir.need v m
 byte:∀b∈ws,b < 256
 wf:Mir.WF v m
def dg (A:bI) (p:Mode→Prop):Sp:=fun vs H Q _=>∃s dx wd x ws v m M,vs=[.ref s,.ref wd]∧p m∧DW A H s dx wd x ws v m M∧After A H s dx M v (Mir.step v m ws) Q
theorem Core.xI {A:bI} {H:Hp} {M:List Addr} {s:Addr} {k:SK} {v:Viewer} (C:Core A H M s k v):∀b∈[k.waiting,k.screen,k.table],b≠s:=fun b hb e=>by
 have:=C.nd
 rw [List.nodup_cons] at this
 exact this.1 (by rw [← e];exact hb)
theorem Core.j8 {A:bI} {H:Hp} {M:List Addr} {s:Addr} {k:SK} {v:Viewer} {o:HO} (C:Core A H M s k v):Core A (upd H s o) M s k v:=
 C.ext (.upd (C.mem s (by simp))) (fun b hb=>aj (C.xI b hb)) C.mem
theorem Core.eo {A:bI} {H:Hp} {M:List Addr} {s:Addr} {k:SK} {v:Viewer} (C:Core A H M s k v):s∈M:=C.mem s (by simp)
theorem After.fail {A:bI} {H H1:Hp} {s dx:Addr} {M M1:List Addr} {v:Viewer} {x:SF} {k:Nat} {Q:VK} (h:After A H s dx M v (.bad k) Q) (e:Ext H M H1 M1) (C:Core A H1 M1 s x.k v) (hk:k≠0) :
  Q .cD (upd H1 s (.ins A.ag dx { x with wrong:=k }.fs)):=
 h _ M1 ⟨{ x with wrong:=k },ae,C.j8,rfl,hk⟩ (e.trans (.upd C.eo))
theorem After.expect {A:bI} {H H1:Hp} {s dx:Addr} {M M1:List Addr} {v:Viewer} {x:SF} {m:Mode} {Q:VK} {n:Nat} {st:Str} (h:After A H s dx M v (.cont m) Q) (e:Ext H M H1 M1) (C:Core A H1 M1 s x.k v) (hst:st=mJ m) (hn:n=Mir.need v m)
  (hw:x.wrong=0) (hg:x.bE=dC v.stage) (nd:M1.Nodup) (hm:dB A (upd H1 s (.ins A.ag dx { x with stage:=st,need:=n }.fs)) M1 s { x with stage:=st,need:=n } v m) (hr:dC v.stage=true ↔ v.screen.w≠0) (ok:v.stage=mK m) (hl:rP m v.left) :
  Q .cD (upd H1 s (.ins A.ag dx { x with stage:=st,need:=n }.fs)):=
 h _ M1 ⟨{ x with stage:=st,need:=n },ae,C.j8,hst,hn,hw,hg,nd,hm,hr,ok,hl⟩ (e.trans (.upd C.eo))
theorem After.done {A:bI} {H H1:Hp} {s dx:Addr} {M M1:List Addr} {v u:Viewer} {x:SF} {Q:VK} {n:Nat} {st:Str} (h:After A H s dx M v (.done u) Q) (e:Ext H M H1 M1) (C:Core A H1 M1 s x.k u) (hst:st=mJ (Mir.aY u)) (hn:n=Mir.need u (Mir.aY u))
  (hw:x.wrong=0) (hg:x.bE=dC u.stage) (nd:M1.Nodup) (hM:M1=M0 s x.k) (hr:dC u.stage=true ↔ u.screen.w≠0) (ok:Mir.dJ u.stage=false) (hl:dC u.stage=false→u.left=0) :
  Q .cD (upd H1 s (.ins A.ag dx { x with stage:=st,need:=n }.fs)):=by
 refine h _ M1 ⟨{ x with stage:=st,need:=n },ae,C.j8,hst,hn,hw,hg,nd,?_,hr,v7 ok,xH hl⟩ (e.trans (.upd C.eo))
 unfold Mir.aY
 cases u.stage <;> (try exact hM) <;> (show dB _ _ _ _ _ _ (if 0 < u.left then _ else _)) <;> split <;> exact hM
def dI (l:List Nat):PyData:=.list (l.map fun (n:Nat)=>PyData.int (n:Int))
theorem Bo {K:PySem.W.Frag} {H:Hp}:∀l:List Nat,rb K H (nI l) (l.map fun (n:Nat)=>PyData.int (n:Int))
 | []=>.nil
 | n :: l=>.cons (.int _) (Bo l)
theorem E9 {K:PySem.W.Frag} {H:Hp} {a:Addr} {l:List Nat} (h:H a=some (.lst (nI l))):Dp K H (.ref a) (dI l):=.lst (bV.of h) (Bo l)
theorem yQ:∀l:List Nat,PyData.canLayAll0 (l.map fun (n:Nat)=>PyData.int (n:Int))=true∧PyData.depthAll (l.map fun (n:Nat)=>PyData.int (n:Int))=0
 | []=>⟨by simp only [List.map_nil,PyData.canLayAll0],by simp only [List.map_nil,PyData.depthAll]⟩
 | n :: l=>by
  obtain ⟨h1,h2⟩:=yQ l
  simp only [List.map_cons,PyData.canLayAll0,PyData.canLay0,PyData.depthAll,PyData.depth,h1,h2]
  exact ⟨rfl,rfl⟩
theorem v8 (l:List Nat):SeqAt.shaped (dI l)=true:=by
 obtain ⟨h1,h2⟩:=yQ l
 unfold SeqAt.shaped dI
 simp only [PyData.canLay0,PyData.depth,h1,h2]
 rfl
theorem yR:∀l m:List Nat,PyData.eqvAll (l.map fun (n:Nat)=>PyData.int (n:Int)) (m.map fun (n:Nat)=>PyData.int (n:Int))=(l == m)
 | [],[]=>by simp only [List.map_nil,PyData.eqvAll];rfl
 | [],b :: m=>by simp only [List.map_nil,List.map_cons,PyData.eqvAll];rfl
 | a :: l,[]=>by simp only [List.map_nil,List.map_cons,PyData.eqvAll];rfl
 | a :: l,b :: m=>by
  simp only [List.map_cons,PyData.eqvAll,PyData.eqv,yR l m]
  have e:((a:Int) == (b:Int))=(a == b):=by
   rw [Bool.eq_iff_iff,beq_iff_eq,beq_iff_eq]
   omega
  rw [e]
  rfl
theorem E_ (l m:List Nat):PyData.eqv (dI l) (dI m)=(l == m):=by
 unfold dI
 simp only [PyData.eqv]
 exact yR l m
theorem DX {x:Str} {g:TG} {tt:TT} {te:TE} {vs:List Nat} {σ:L2.St} {H1:Hp} {D:Addr} {Qd:Hp→Prop} (Pv:Nat→Hp→Prop) (h0:Pv 0 (upd H1 D (.lst [])))
  (hs:∀i c H,x.cps[i]?=some c→Pv i H→g (.str ⟨#[c]⟩) (wipe σ vs) H fun σ2 H2=>wipe σ2 vs=wipe σ vs∧tt σ2 H2 fun b H3=>
   if b=true then te σ2 H3 fun y H4=>∃acc,H4 D=some (.lst acc)∧acc.length < sizeLine∧Pv (i + 1) (upd H4 D (.lst (acc++[y]))) else Pv (i + 1) H3) (hd:∀H,Pv x.cps.size H→Qd H) :
  ∃W:Nat→Nat→Hp→Prop,(∃m,W 0 m (upd H1 D (.lst [])))∧∀i m H,W i m H→
   ((EV x).stop i H∧Qd H)∨((EV x).go i H∧∃Nx:Hp→Prop,(∀H',Nx H'→∃m',m' < m∧W (i + 1) m' H')∧∀z H',(EV x).zj i H z H'→g z (wipe σ vs) H' fun σ2 H2=>wipe σ2 vs=wipe σ vs∧tt σ2 H2 fun b H3=>
    if b=true then te σ2 H3 fun y H4=>∃acc,H4 D=some (.lst acc)∧acc.length < sizeLine∧Nx (upd H4 D (.lst (acc++[y]))) else Nx H3):=by
 refine ⟨fun i m H=>m=x.cps.size - i∧i≤x.cps.size∧Pv i H,⟨x.cps.size,by simp,Nat.zero_le _,h0⟩,?_⟩
 rintro i m H ⟨rfl,hi,p⟩
 by_cases hlt:i < x.cps.size
 ·refine .inr ⟨hlt,Pv (i + 1),fun H' p'=>⟨x.cps.size - (i + 1),by omega,rfl,hlt,p'⟩,fun z H' y=>?_⟩
  obtain ⟨e,c,hc,rfl⟩:=y
  subst e
  exact hs i c _ hc p
 ·have e:i=x.cps.size:=by omega
  subst e
  exact .inl ⟨Nat.le_refl _,hd H p⟩
theorem xJ:(("RFB 003.008\n":Str).cps.toList)=Sn44.VERSION:=by decide +kernel
theorem Core.nD {A:bI} {H H':Hp} {M:List Addr} {s:Addr} {k:SK} {v u:Viewer} {b:List Nat} (C:Core A H M s k v) (h1:H' k.waiting=some (.lst (nI (cF v.out b)))) (h2:SameBut H H' (·=k.waiting)) (hu:u={ v with out:=cF v.out b,stage:=u.stage }):Core A H' M s k u:=by
 have e:Ext H M H' M:=.fA h2 fun c q=>by rw [q];exact C.mem _ (by simp)
 have nd:=C.nd
 simp only [List.nodup_cons,List.mem_cons,List.not_mem_nil,or_false,not_or,not_false_eq_true,List.nodup_nil,and_true] at nd
 obtain ⟨⟨a1,a2,a3⟩,⟨a4,a5⟩,a6⟩:=nd
 have k1:H' k.screen=H k.screen:=by
  obtain ⟨rs,P,p,_⟩:=C.pic
  rw [p.lst,h2 _ _ p.lst (fun q=>a4 q.symm)]
 have k2:H' k.table=H k.table:=by
  obtain ⟨ts,t,_⟩:=C.tab
  rw [t,h2 _ _ t (fun q=>a5 q.symm)]
 rw [hu]
 obtain ⟨rs,P,p,R,c⟩:=C.pic
 obtain ⟨ts,t1,t2⟩:=C.tab
 refine { wait:=h1,gN:=xF C.gN,cols:=C.cols,rows:=C.rows,side:=C.side,cut:=C.cut.ext e,name:=C.name.ext e,bells:=C.bells,jt:=C.jt,left:=C.left,pic:=⟨rs,P,⟨k1.trans p.lst,p.rows.ext e,p.mem⟩,R,c⟩,tab:=⟨ts,k2.trans t1,t2.ext e⟩,form:=fun q=>?_,nd:=C.nd,mem:=C.mem }
 obtain ⟨fa,bits,f1,f2,f3⟩:=C.form q
 exact ⟨fa,bits,f1,f2.ext e,f3⟩
section
variable {P:Program} {w:World} {K:PySem.W.Frag} {mg:Str→Option Value} {base:Heap} {A:bI}
theorem qu (T:Txt P w K mg A):FnAt P w K mg base "take_version" 2 ["session","words"] (dg A (·=.version)):=by
 refine T.gC.at_ (fun _ _ _ _ _ _ us hl=>match us,hl with | [_,_],_=>rfl) fun f fd F=>?_
 refine F.ok lx (fun vs H Q E h=>?_) (fun cdv AA outer sh H vs Q E hr h=>?_)
 ·obtain ⟨s,dx,wd,x,ws,v,m,M,rfl,_⟩:=h
  rfl
 ·obtain ⟨s,dx,wd,x,ws,v,m,M,rfl,rfl,ti,k⟩:=h
  have R:=ti.rep
  have nd:=lx.nd
  refine ⟨_,ab (aX (aQ (DC hr.units) (pv 1) (rf (own:=[("sign",2)]) rfl nd (DG (a_ T.mD rfl)) (jf rfl) (fun _ _ _ _ _=>di (i:=2) nd rfl (Or.inl rfl)) (fun _ _ _ _ _=>kH)
    (fun _ _ _ _ _=>bZ AN (by rfl) T.yK (by decide +kernel) (aa (pv 2) ah))) (aT _))
    (ab (az (bF (d8 T) T.af hr (pv 0) (aa ai ah))) (ak d5)) aP)
   (ab (az (bF (k9 T) T.af hr (pv 0) (aa (pv 1) ah)))
   (ak (az (bF (bf T) T.af hr (pv 0) (aa cv (aa ai ah)))))),?_⟩
  refine ⟨_,rfl,_,rfl,fun D hD=>DX (x:="RFB 003.008\n") (fun i H'=>H' D=some (.lst (nI (Sn44.VERSION.take i)))∧bX H H') ⟨ae,ay hD⟩ ?_ ?_⟩
  ·rintro i c H' hc ⟨g1,g2⟩
   refine ⟨rfl,kY ?_⟩
   refine ⟨_,rfl,_,rfl,rfl,_,g1,?_,?_,?_⟩
   ·rw [aU,sizeLine_eq]
    exact Nat.lt_of_le_of_lt (List.length_take_le' _ _) (by decide)
   ·rw [ae]
    have hc':Sn44.VERSION[i]?=some c:=by rw [← xJ,Array.getElem?_toList];exact hc
    rw [take_snoc hc',fU]
    rfl
   ·intro b o e
    rw [aj (aE e hD)]
    exact g2 _ _ e
  ·rintro H1 ⟨g1,s1⟩
   have g1:H1 D=some (.lst (nI Sn44.VERSION)):=g1
   refine ⟨dI ws,dI Sn44.VERSION,E9 (s1 _ _ ti.words.1),E9 g1,v8 _,v8 _,_,rfl,?_⟩
   rw [E_]
   have C1:Core A H1 M s x.k v:=R.core.ext (.of_same s1) (fun b hb=>?_) R.core.mem
   have hs1:=s1 _ _ R.bK
   have k':After A H s dx M v (if (ws == Sn44.VERSION)=true then .done ({ v with stage:=.ways }.send Sn44.VERSION) else .bad 1) Q:=k
   cases e:(ws == Sn44.VERSION) with
   | false=>
    refine cG ?_
    rw [e] at k'
    exact ⟨_,rfl,s,dx,_,rfl,hs1,rfl,s,dx,x,1,rfl,hs1,k'.fail (.of_same s1) C1 (by decide)⟩
   | true=>
    refine cE ?_
    rw [e] at k'
    have ew:ws=Sn44.VERSION:=eq_of_beq e
    refine ⟨_,rfl,s,dx,_,rfl,hs1,rfl,_,rfl,s,dx,wd,x,v.out,ws,rfl,hs1,C1.wait,s1 _ _ ti.words.1,C1.gN,fun H2 a1 a2=>?_⟩
    have sne:s≠x.k.waiting:=fun q=>C1.xI _ (by simp) q.symm
    have eu:({ v with stage:=.ways }.send Sn44.VERSION:Viewer)={ v with out:=cF v.out ws,stage:=.ways }:=by rw [jq,ew]
    rw [if_pos rfl,eu] at k'
    have C2:Core A H2 M s x.k { v with out:=cF v.out ws,stage:=.ways }:=C1.nD a1 a2 rfl
    have hs2:=a2 _ _ hs1 sne
    have e2:Ext H M H2 M:=(Ext.of_same s1).trans (.fA a2 fun c q=>by rw [q];exact C1.mem _ (by simp))
    have g0:dC v.stage=false:=by rw [R.lF];rfl
    refine ⟨_,rfl,s,dx,_,rfl,hs2,rfl,s,dx,x,_,1,rfl,hs2,k'.done e2 C2 rfl rfl R.wrong (by rw [R.cu,g0];rfl) R.nd R.mode ?_ rfl (fun _=>R.lG)⟩
    have:=R.run
    rw [g0] at this
    exact this
   ·obtain ⟨o,q⟩:∃o,H b=some o:=by
     simp only [List.mem_cons,List.not_mem_nil,or_false] at hb
     rcases hb with rfl | rfl | rfl
     ·exact ⟨_,R.core.wait⟩
     ·obtain ⟨rs,P,p,_⟩:=R.core.pic
      exact ⟨_,p.lst⟩
     ·obtain ⟨ts,t,_⟩:=R.core.tab
      exact ⟨_,t⟩
    rw [q,s1 _ _ q]
end
theorem Core.there {A:bI} {H:Hp} {M:List Addr} {s:Addr} {k:SK} {v:Viewer} (C:Core A H M s k v):∀b∈[k.waiting,k.screen,k.table],∃o,H b=some o:=fun b hb=>by
 simp only [List.mem_cons,List.not_mem_nil,or_false] at hb
 rcases hb with rfl | rfl | rfl
 ·exact ⟨_,C.wait⟩
 ·obtain ⟨rs,P,p,_⟩:=C.pic
  exact ⟨_,p.lst⟩
 ·obtain ⟨ts,t,_⟩:=C.tab
  exact ⟨_,t⟩
theorem Core.same {A:bI} {H H':Hp} {M:List Addr} {s:Addr} {k:SK} {v:Viewer} (C:Core A H M s k v) (s1:bX H H'):Core A H' M s k v:=C.ext (.of_same s1) (fun b hb=>by
 obtain ⟨o,q⟩:=C.there b hb
 rw [q,s1 _ _ q]) C.mem
theorem After.nD {A:bI} {H H1 H2:Hp} {s dx:Addr} {M:List Addr} {v:Viewer} {x:SF} {b:List Nat} {lF:Stage} {st:Str} {n:Nat} {Q:VK} (k:After A H s dx M v (.done ({ v with stage:=lF }.send b)) Q) (e1:Ext H M H1 M) (C1:Core A H1 M s x.k v)
  (a1:H2 x.k.waiting=some (.lst (nI (cF v.out b)))) (a2:SameBut H1 H2 (·=x.k.waiting)) (hw:x.wrong=0) (hg:x.bE=dC lF) (hM:M=M0 s x.k) (hr:dC lF=true ↔ v.screen.w≠0) (ok:Mir.dJ lF=false) (hl:dC lF=false→v.left=0)
  (hst:st=mJ (Mir.aY { v with out:=cF v.out b,stage:=lF })) (hn:n=Mir.need { v with out:=cF v.out b,stage:=lF } (Mir.aY { v with out:=cF v.out b,stage:=lF })) :
  Q .cD (upd H2 s (.ins A.ag dx { x with stage:=st,need:=n }.fs)):=by
 rw [jq] at k
 have e2:Ext H M H2 M:=e1.trans (.fA a2 fun c q=>by rw [q];exact C1.mem _ (by simp))
 exact k.done e2 (C1.nD a1 a2 rfl) hst hn hw hg (by rw [hM];exact C1.nd) hM hr ok hl
theorem Core.oV {A:bI} {H H':Hp} {M:List Addr} {s dx:Addr} {x:SF} {v:Viewer} (C:Core A H M s x.k v) (h:en A H s dx x) (a:SameBut H H' (·=x.k.waiting)):en A H' s dx x:=a _ _ h fun q=>C.xI _ (by simp) q.symm
theorem DY (n:Nat) (l:List Nat):uZ (.int (n:Int)) (nI l)=l.contains n:=by
 induction l with
 | nil=>rfl
 | cons a l ih=>
  have e:uZ (.int (n:Int)) (nI (a :: l))=(Ay (.int (a:Int)) (.int (n:Int)) || uZ (.int (n:Int)) (nI l)):=rfl
  rw [e,ih,List.contains_cons]
  congr 1
  show ((a:Int) == (n:Int))=(n == a)
  rw [Bool.eq_iff_iff,beq_iff_eq,beq_iff_eq]
  omega
theorem Ct (l:List Nat):(nI l).all nY=true:=by
 rw [List.all_eq_true]
 intro x hx
 obtain ⟨n,_,rfl⟩:=List.mem_map.mp hx
 rfl
theorem rQ {ws:List Nat} (h:ws.length=1):Sn44.high ws=ws.getD 0 0:=by rw [← mH (l:=ws) (n:=1) (by omega),sub_one (by omega)]
theorem kx (n:Nat):decide (V.int (n:Int)=V.int 0)=decide (n=0):=by
 rw [jv,Bool.eq_iff_iff,beq_iff_eq,decide_eq_true_eq]
 omega
section
variable {P:Program} {w:World} {K:PySem.W.Frag} {mg:Str→Option Value} {base:Heap} {A:bI}
theorem lD (T:Txt P w K mg A):FnAt P w K mg base "take_how_many_ways" 2 ["session","words"] (dg A (·=.howMany)):=by
 refine T.dO.at_ (fun _ _ _ _ _ _ us hl=>match us,hl with | [_,_],_=>rfl) fun f fd F=>?_
 refine F.ok lB (fun vs H Q E h=>?_) (fun cdv AA outer sh H vs Q E hr h=>?_)
 ·obtain ⟨s,dx,wd,x,ws,v,m,M,rfl,_⟩:=h
  rfl
 ·obtain ⟨s,dx,wd,x,ws,v,m,M,rfl,rfl,ti,k⟩:=h
  have R:=ti.rep
  have hl:ws.length=1:=ti.len
  have k':After A H s dx M v (if Sn44.high ws=0 then .bad 2 else .cont (.ways (Sn44.high ws))) Q:=k
  rw [rQ hl] at k'
  refine ⟨_,ab (aX (aQ d_ (cN bq (pv 1) ai (fun _ _=>rfl)) ai (aT _)) (ab (az (bF (d8 T) T.af hr (pv 0) (aa ai ah))) (ak d5)) aP)
   (ak (az (bF (bf T) T.af hr (pv 0) (aa cv (aa (cN bq (pv 1) ai (fun _ _=>rfl)) ah))))),?_⟩
  refine ⟨_,rfl,wd,_,_,_,rfl,rfl,bV.of ti.words.1,j5 (i:=0) rfl (by omega),rfl,_,rfl,?_⟩
  rw [kx]
  by_cases c:ws.getD 0 0=0
  ·rw [if_pos c] at k'
   rw [decide_eq_true c]
   exact cG ⟨_,rfl,s,dx,_,rfl,R.bK,rfl,s,dx,x,2,rfl,R.bK,k'.fail (.refl H M) R.core (by decide)⟩
  ·rw [if_neg c] at k'
   rw [decide_eq_false c]
   exact cE ⟨_,rfl,s,dx,_,rfl,R.bK,rfl,_,rfl,wd,_,_,_,rfl,rfl,bV.of ti.words.1,j5 (i:=0) rfl (by omega),s,dx,x,_,ws.getD 0 0,rfl,R.bK,k'.expect (.refl H M) R.core rfl rfl R.wrong R.cu R.nd R.mode R.run R.lF R.lG⟩
theorem uA (T:Txt P w K mg A):FnAt P w K mg base "take_ways" 2 ["session","words"] (dg A (fun m=>∃n,m=.ways n)):=by
 refine T.jO.at_ (fun _ _ _ _ _ _ us hl=>match us,hl with | [_,_],_=>rfl) fun f fd F=>?_
 refine F.ok ue (fun vs H Q E h=>?_) (fun cdv AA outer sh H vs Q E hr h=>?_)
 ·obtain ⟨s,dx,wd,x,ws,v,m,M,rfl,_⟩:=h
  rfl
 ·obtain ⟨s,dx,wd,x,ws,v,m,M,rfl,⟨n,rfl⟩,ti,k⟩:=h
  have R:=ti.rep
  have k':After A H s dx M v (if ws.contains 1=true then .done ({ v with stage:=.answer }.send [1]) else .bad 3) Q:=k
  have g0:dC v.stage=false:=by rw [R.lF];rfl
  refine ⟨_,ab (aX (aQ kG (a_ T.ij rfl) (pv 1) (by with_unfolding_all rfl)) (ab (az (bF (d8 T) T.af hr (pv 0) (aa ai ah))) (ak d5)) aP)
   (ab (az (bF (k9 T) T.af hr (pv 0) (aa (b0 (aa (a_ T.ij rfl) ah)) ah)))
   (ak (az (bF (bf T) T.af hr (pv 0) (aa cv (aa ai ah)))))),?_⟩
  refine ⟨_,rfl,wd,_,rfl,.inl (bV.of ti.words.1),rfl,Ct ws,_,rfl,?_⟩
  show if (!uZ (V.int ((1:Nat):Int)) (nI ws))=true then _ else _
  rw [DY]
  cases e:ws.contains 1 with
  | false=>
   rw [e,if_neg (by decide)] at k'
   exact cG ⟨_,rfl,s,dx,_,rfl,R.bK,rfl,s,dx,x,3,rfl,R.bK,k'.fail (.refl H M) R.core (by decide)⟩
  | true=>
   rw [e,if_pos rfl] at k'
   refine cE ⟨_,rfl,s,dx,_,rfl,R.bK,rfl,by show 1≤sizeLine;decide,fun l hl=>?_⟩
   have s1:=ay (o:=.lst [V.int 1]) hl
   have C1:=R.core.same s1
   refine ⟨s,dx,l,x,v.out,[1],rfl,s1 _ _ R.bK,C1.wait,ae,C1.gN,fun H2 a1 a2=>?_⟩
   have hs2:=C1.oV (s1 _ _ R.bK) a2
   exact ⟨_,rfl,s,dx,_,rfl,hs2,rfl,s,dx,x,_,4,rfl,hs2,k'.nD (.of_same s1) C1 a1 a2 R.wrong (by rw [R.cu,g0];rfl) R.mode (by have:=R.run;rw [g0] at this;exact this) rfl (fun _=>R.lG) rfl rfl⟩
theorem rR (T:Txt P w K mg A):FnAt P w K mg base "take_number" 2 ["session","words"] (dg A (·=.number)):=by
 refine T.g8.at_ (fun _ _ _ _ _ _ us hl=>match us,hl with | [_,_],_=>rfl) fun f fd F=>?_
 refine F.ok rG (fun vs H Q E h=>?_) (fun cdv AA outer sh H vs Q E hr h=>?_)
 ·obtain ⟨s,dx,wd,x,ws,v,m,M,rfl,_⟩:=h
  rfl
 ·obtain ⟨s,dx,wd,x,ws,v,m,M,rfl,rfl,ti,k⟩:=h
  have R:=ti.rep
  have hl:ws.length=4:=ti.len
  have k':After A H s dx M v (if Sn44.high ws=0 then .done ({ v with stage:=.first }.send [1]) else .bad 4) Q:=k
  have g0:dC v.stage=false:=by rw [R.lF];rfl
  refine ⟨_,ab (aX (aQ nV (aK (aN T) hr rfl (aa (pv 1) (aa ai (aa ai ah)))) ai (aT _)) (ab (az (bF (d8 T) T.af hr (pv 0) (aa ai ah))) (ak d5)) aP)
   (ab (az (bF (k9 T) T.af hr (pv 0) (aa (b0 (aa ai ah)) ah)))
   (ak (az (bF (bf T) T.af hr (pv 0) (aa cv (aa ai ah)))))),?_⟩
  refine ⟨_,rfl,wd,ws,0,4,rfl,bV.of ti.words.1,fun H1 s1=>?_⟩
  rw [mH (by omega)]
  have C1:=R.core.same s1
  have hs1:=s1 _ _ R.bK
  refine ⟨rfl,_,rfl,?_⟩
  rw [mG]
  by_cases c:Sn44.high ws=0
  ·rw [if_pos c] at k'
   rw [c]
   refine cE ⟨_,rfl,s,dx,_,rfl,hs1,rfl,by show 1≤sizeLine;decide,fun l hl=>?_⟩
   have s2:=ay (o:=.lst [V.int 1]) hl
   have C2:=C1.same s2
   refine ⟨s,dx,l,x,v.out,[1],rfl,s2 _ _ hs1,C2.wait,ae,C2.gN,fun H3 a1 a2=>?_⟩
   have hs3:=C2.oV (s2 _ _ hs1) a2
   exact ⟨_,rfl,s,dx,_,rfl,hs3,rfl,s,dx,x,_,4,rfl,hs3,k'.nD (.of_same (s1.trans s2)) C2 a1 a2 R.wrong (by rw [R.cu,g0];rfl) R.mode (by have:=R.run;rw [g0] at this;exact this) rfl (fun _=>R.lG) rfl rfl⟩
  ·rw [if_neg c] at k'
   rw [show (Sn44.high ws != 0)=true by simpa using c]
   exact cG ⟨_,rfl,s,dx,_,rfl,hs1,rfl,s,dx,x,4,rfl,hs1,k'.fail (.of_same s1) C1 (by decide)⟩
theorem yS {n:Nat} {m:Int} {R:Bool→Hp→Prop} {H:Hp} (h:R (decide (1≤n) && decide ((n:Int)≤m)) H) :
  (Ax fun i j=>V.bl (decide (i≤j))) (.int 1) (.int (n:Int)) H fun z H3=>∃k,z=.bl k∧(if k=true then (Ax fun i j=>V.bl (decide (i≤j))) (.int (n:Int)) (.int m) H3 (fun x H'=>∃c,x=.bl c∧R c H') else ∃c,V.bl false=.bl c∧R c H3):=by
 refine ⟨_,_,rfl,rfl,_,rfl,?_⟩
 by_cases c:1≤n
 ·rw [if_pos (decide_eq_true (show (1:Int)≤(n:Int) by omega))]
  rw [decide_eq_true c,Bool.true_and] at h
  exact ⟨_,_,rfl,rfl,_,rfl,h⟩
 ·rw [if_neg (by rw [decide_eq_false (show ¬ (1:Int)≤(n:Int) by omega)];decide)]
  rw [decide_eq_false c,Bool.false_and] at h
  exact ⟨_,rfl,h⟩
theorem uB (T:Txt P w K mg A):FnAt P w K mg base "take_size" 2 ["session","words"] (dg A (·=.size)):=by
 refine T.jP.at_ (fun _ _ _ _ _ _ us hl=>match us,hl with | [_,_],_=>rfl) fun f fd F=>?_
 refine F.ok uf (fun vs H Q E h=>?_) (fun cdv AA outer sh H vs Q E hr h=>?_)
 ·obtain ⟨s,dx,wd,x,ws,v,m,M,rfl,_⟩:=h
  rfl
 ·obtain ⟨s,dx,wd,x,ws,v,m,M,rfl,rfl,ti,k⟩:=h
  have R:=ti.rep
  have hl:ws.length=4:=ti.len
  have k':After A H s dx M v (if 1≤Mir.sub ws 0 2∧Mir.sub ws 0 2≤1024∧1≤Mir.sub ws 2 2∧Mir.sub ws 2 2≤1024 then .cont (.form (Mir.sub ws 0 2) (Mir.sub ws 2 2)) else .bad 5) Q:=k
  refine ⟨_,ab (aJ (pv 0) (aK (aN T) hr rfl (aa (pv 1) (aa ai (aa ai ah)))) rfl)
   (ab (aJ (pv 0) (aK (aN T) hr rfl (aa (pv 1) (aa ai (aa ai ah)))) rfl)
   (ak (aX (PW.pt (o7 (gn fW fW ai (aq (pv 0) rfl) (a_ T.fv rfl)) (nQ (gn fW fW ai (aq (pv 0) rfl) (a_ T.fv rfl)))))
    (ak (az (bF (bf T) T.af hr (pv 0) (aa cv (aa (a_ T.jZ rfl) ah)))))
    (ak (az (bF (d8 T) T.af hr (pv 0) (aa ai ah))))))),?_⟩
  refine ⟨_,rfl,wd,ws,0,2,rfl,bV.of ti.words.1,fun H1 s1=>?_⟩
  have C1:=R.core.same s1
  refine ⟨_,rfl,s,A.ag,dx,_,rfl,s1 _ _ R.bK,T.af,T.bP,by show 20 < 1000;decide,?_⟩
  rw [show bH "far_columns" (.int (Mir.sub ws 0 2:Nat)) x.fs={ x with dX:=Mir.sub ws 0 2 }.fs from rfl]
  have nws:wd≠s:=fun e=>ti.words.2 (by rw [e];exact R.core.eo)
  refine ⟨_,rfl,wd,ws,2,2,rfl,bV.of (by rw [aj nws];exact s1 _ _ ti.words.1),fun H2 s2=>?_⟩
  have C2:=(C1.j8 (o:=.ins A.ag dx { x with dX:=Mir.sub ws 0 2 }.fs)).same s2
  refine ⟨_,rfl,s,A.ag,dx,_,rfl,s2 _ _ ae,T.af,T.cg,by show 20 < 1000;decide,?_⟩
  rw [show bH "far_rows" (.int (Mir.sub ws 2 2:Nat)) (SF.fs { x with dX:=Mir.sub ws 0 2 })=SF.fs { x with dX:=Mir.sub ws 0 2,eN:=Mir.sub ws 2 2 } from rfl]
  have C3:Core A _ M s { x with dX:=Mir.sub ws 0 2,eN:=Mir.sub ws 2 2 }.k v:=C2.j8 (o:=.ins A.ag dx { x with dX:=Mir.sub ws 0 2,eN:=Mir.sub ws 2 2 }.fs)
  have e3:Ext H M (upd H2 s (.ins A.ag dx { x with dX:=Mir.sub ws 0 2,eN:=Mir.sub ws 2 2 }.fs)) M:=(Ext.of_same s1).trans ((Ext.upd R.core.eo).trans ((Ext.of_same s2).trans (.upd R.core.eo)))
  refine ⟨_,rfl,s,A.ag,dx,_,_,rfl,ae,T.af,T.bP,rfl,yS ?_⟩
  have bad:¬ (1≤Mir.sub ws 0 2∧Mir.sub ws 0 2≤1024∧1≤Mir.sub ws 2 2∧Mir.sub ws 2 2≤1024)→Q .cD (upd (upd H2 s (.ins A.ag dx { x with dX:=Mir.sub ws 0 2,eN:=Mir.sub ws 2 2 }.fs)) s (.ins A.ag dx (SF.fs { x with dX:=Mir.sub ws 0 2,eN:=Mir.sub ws 2 2,wrong:=5 }))):=fun c=>by
   rw [if_neg c] at k'
   exact k'.fail (x:={ x with dX:=Mir.sub ws 0 2,eN:=Mir.sub ws 2 2 }) e3 C3 (by decide)
  by_cases c1:1≤Mir.sub ws 0 2∧Mir.sub ws 0 2≤1024
  ·have t1:(decide (1≤Mir.sub ws 0 2) && decide ((Mir.sub ws 0 2:Int)≤1024))=true:=by simp;omega
   rw [t1]
   refine cG ?_
   refine ⟨_,rfl,s,A.ag,dx,_,_,rfl,ae,T.af,T.cg,rfl,yS ?_⟩
   by_cases c2:1≤Mir.sub ws 2 2∧Mir.sub ws 2 2≤1024
   ·have t2:(decide (1≤Mir.sub ws 2 2) && decide ((Mir.sub ws 2 2:Int)≤1024))=true:=by simp;omega
    rw [t2]
    rw [if_pos ⟨c1.1,c1.2,c2⟩] at k'
    refine cG ⟨_,rfl,s,dx,_,rfl,ae,rfl,s,dx,{ x with dX:=Mir.sub ws 0 2,eN:=Mir.sub ws 2 2 },_,16,rfl,ae,?_⟩
    exact k'.expect (x:={ x with dX:=Mir.sub ws 0 2,eN:=Mir.sub ws 2 2 }) e3 C3 rfl rfl R.wrong R.cu R.nd ⟨R.mode,rfl,rfl,c1,c2⟩ R.run R.lF R.lG
   ·have t2:(decide (1≤Mir.sub ws 2 2) && decide ((Mir.sub ws 2 2:Int)≤1024))=false:=by
     rw [Bool.eq_false_iff]
     intro q
     simp at q
     omega
    rw [t2]
    exact cE ⟨_,rfl,s,dx,_,rfl,ae,rfl,s,dx,{ x with dX:=Mir.sub ws 0 2,eN:=Mir.sub ws 2 2 },5,rfl,ae,bad (by omega)⟩
  ·have t1:(decide (1≤Mir.sub ws 0 2) && decide ((Mir.sub ws 0 2:Int)≤1024))=false:=by
    rw [Bool.eq_false_iff]
    intro q
    simp at q
    omega
   rw [t1]
   refine cE ?_
   exact cE ⟨_,rfl,s,dx,_,rfl,ae,rfl,s,dx,{ x with dX:=Mir.sub ws 0 2,eN:=Mir.sub ws 2 2 },5,rfl,ae,bad (by omega)⟩
end
theorem Core.Cu {A:bI} {H:Hp} {M:List Addr} {s:Addr} {k:SK} {v:Viewer} {f:V} (C:Core A H M s k v) (h0:v.screen.w=0):Core A H M s { k with form:=f } v:=
 ⟨C.wait,C.gN,C.cols,C.rows,C.side,C.cut,C.name,C.bells,C.jt,C.left,C.pic,C.tab,fun h=>absurd h0 h,C.nd,C.mem⟩
theorem Core.m0 {A:bI} {H:Hp} {M:List Addr} {s dx:Addr} {x:SF} {v:Viewer} (C:Core A H M s x.k v) (hs:en A H s dx x):∀b∈M0 s x.k,(∃l,H b=some (.lst l))∨b=s:=fun b hb=>by
 simp only [M0,List.mem_cons,List.not_mem_nil,or_false] at hb
 rcases hb with rfl | rfl | rfl | rfl
 ·exact .inr rfl
 ·exact .inl ⟨_,C.wait⟩
 ·obtain ⟨rs,P,p,_⟩:=C.pic
  exact .inl ⟨_,p.lst⟩
 ·obtain ⟨ts,t,_⟩:=C.tab
  exact .inl ⟨_,t⟩
theorem Core.yT {A:bI} {H:Hp} {M:List Addr} {s dx:Addr} {x:SF} {v:Viewer} (C:Core A H M s x.k v) (hs:en A H s dx x) {b:Addr} {l:List V} (h:H b=some (.tup l)):b∉M0 s x.k:=fun hb=>by
 rcases C.m0 hs b hb with ⟨l',q⟩ | q
 ·rw [h] at q;cases q
 ·rw [q] at h;rw [hs] at h;cases h
theorem Core.d9 {A:bI} {H:Hp} {M:List Addr} {s dx:Addr} {x:SF} {v:Viewer} (C:Core A H M s x.k v) (hs:en A H s dx x) {b:Addr} (h:H b=none):b∉M0 s x.k:=fun hb=>by
 rcases C.m0 hs b hb with ⟨l',q⟩ | q
 ·rw [h] at q;cases q
 ·rw [q] at h;rw [hs] at h;cases h
theorem v9 {ws:List Nat} (h:Mir.ir ws=true):sizeOk (Mir.formOf ws):=by
 unfold Mir.ir at h
 rw [Bool.and_eq_true] at h
 have h1:=h.1
 have h2:ws.getD 0 0=8∨ws.getD 0 0=16∨ws.getD 0 0=32:=by
  have:=List.contains_iff_mem.mp h1
  simpa only [List.mem_cons,List.not_mem_nil,or_false] using this
 show ws.getD 0 0 / 8=1∨ws.getD 0 0 / 8=2∨ws.getD 0 0 / 8=4
 omega
section
variable {P:Program} {w:World} {K:PySem.W.Frag} {mg:Str→Option Value} {base:Heap} {A:bI}
theorem uC (T:Txt P w K mg A):FnAt P w K mg base "take_form" 4 ["session","words"] (dg A (fun m=>∃a b,m=.form a b)):=by
 refine T.jQ.at_ (fun _ _ _ _ _ _ us hl=>match us,hl with | [_,_],_=>rfl) fun f fd F=>?_
 refine F.ok ug (fun vs H Q E h=>?_) (fun cdv AA outer sh H vs Q E hr h=>?_)
 ·obtain ⟨s,dx,wd,x,ws,v,m,M,rfl,_⟩:=h
  rfl
 ·obtain ⟨s,dx,wd,x,ws,v,m,M,rfl,⟨a,b,rfl⟩,ti,k⟩:=h
  have R:=ti.rep
  have hl:ws.length=16:=ti.len
  obtain ⟨hM,fc,fr,ha,hb⟩:=R.mode
  have g0:dC v.stage=false:=by rw [R.lF];rfl
  have w0:v.screen.w=0:=by
   have:=R.run
   rw [g0] at this
   by_cases c:v.screen.w=0
   ·exact c
   ·exact absurd (this.mpr c) (by decide)
  have k':After A H s dx M v (if Mir.ir ws=true then .cont (.nameLen a b (Mir.formOf ws)) else .bad 5) Q:=k
  refine ⟨_,ab (aJ (pv 0) (A9 (Cq T) hr rfl (aa (pv 1) ah)) rfl)
   (ak (aX (ka (aK (sI T) (hr.mono (by decide)) rfl (aa (aq (pv 0) rfl) ah)))
    (ak (az (bF (bf T) T.af (hr.mono (by decide)) (pv 0) (aa cv (aa ai ah)))))
    (ak (az (bF (d8 T) T.af (hr.mono (by decide)) (pv 0) (aa ai ah)))))),?_⟩
  refine ⟨_,rfl,fun fa fdx n1 n2 n3=>?_⟩
  have sA:bX H (upd (upd H fdx (.own fa)) fa (.ins A.Form fdx [])):=fun c o e=>by
   rw [aj (aE e n1),aj (aE e n2)]
   exact e
  refine ⟨fa,fdx,wd,ws,rfl,ae,sA _ _ ti.words.1,hl,fun H2 hF sb=>⟨rfl,?_⟩⟩
  have s2:bX H H2:=fun c o e=>sb c o (sA c o e) (aE e n1)
  have C2:=R.core.same s2
  have hs2:=s2 _ _ R.bK
  refine ⟨_,rfl,s,A.ag,dx,_,rfl,hs2,T.af,T.aL,by show 20 < 1000;decide,?_⟩
  rw [show bH "form" (.ref fa) x.fs=SF.fs { x with k:={ x.k with form:=.ref fa } } from rfl]
  have fas:fa≠s:=fun e=>by rw [e,R.bK] at n1;cases n1
  have C3:Core A (upd H2 s (.ins A.ag dx (SF.fs { x with k:={ x.k with form:=.ref fa } }))) M s ({ x with k:={ x.k with form:=.ref fa } }:SF).k v:=(C2.j8).Cu w0
  have e3:Ext H M (upd H2 s (.ins A.ag dx (SF.fs { x with k:={ x.k with form:=.ref fa } }))) M:=(Ext.of_same s2).trans (.upd R.core.eo)
  have hF2:iy A H2 M fa (ws.getD 0 0) (Mir.formOf ws):=by
   obtain ⟨d1,gr,sh1,q1,q2,q3,q4⟩:=hF
   rw [hM]
   exact ⟨d1,gr,sh1,⟨q1,R.core.d9 R.bK n1⟩,⟨q2,C2.yT hs2 q2⟩,⟨q3,C2.yT hs2 q3⟩,q4⟩
  have hF3:=hF2.ext (Ext.upd (o:=.ins A.ag dx (SF.fs { x with k:={ x.k with form:=.ref fa } })) R.core.eo)
  refine ⟨_,rfl,s,A.ag,dx,_,_,rfl,ae,T.af,T.aL,rfl,fa,ws,rfl,hF3.at_,fun H4 s4=>⟨_,rfl,?_⟩⟩
  have C4:=C3.same s4
  have e4:=e3.trans (Ext.of_same (M:=M) s4)
  have hs4:=s4 _ _ (ae (H:=H2) (a:=s) (o:=.ins A.ag dx (SF.fs { x with k:={ x.k with form:=.ref fa } })))
  cases c:Mir.ir ws with
  | true=>
   rw [c,if_pos rfl] at k'
   refine cG ⟨_,rfl,s,dx,_,rfl,hs4,rfl,s,dx,{ x with k:={ x.k with form:=.ref fa } },_,4,rfl,hs4,?_⟩
   refine k'.expect (x:={ x with k:={ x.k with form:=.ref fa } }) e4 C4 rfl rfl R.wrong R.cu R.nd ?_ R.run R.lF R.lG
   exact ⟨hM,fc,fr,ha,hb,v9 c,fa,ws.getD 0 0,rfl,(hF3.ext (Ext.of_same s4)).ext (.upd R.core.eo)⟩
  | false=>
   rw [c,if_neg (by decide)] at k'
   exact cE ⟨_,rfl,s,dx,_,rfl,hs4,rfl,s,dx,{ x with k:={ x.k with form:=.ref fa } },5,rfl,hs4,k'.fail (x:={ x with k:={ x.k with form:=.ref fa } }) e4 C4 (by decide)⟩
theorem mO (T:Txt P w K mg A):FnAt P w K mg base "take_name_length" 2 ["session","words"] (dg A (fun m=>∃a b f,m=.nameLen a b f)):=by
 refine T.eH.at_ (fun _ _ _ _ _ _ us hl=>match us,hl with | [_,_],_=>rfl) fun f fd F=>?_
 refine F.ok iA (fun vs H Q E h=>?_) (fun cdv AA outer sh H vs Q E hr h=>?_)
 ·obtain ⟨s,dx,wd,x,ws,v,m,M,rfl,_⟩:=h
  rfl
 ·obtain ⟨s,dx,wd,x,ws,v,m,M,rfl,⟨a,b,g,rfl⟩,ti,k⟩:=h
  have R:=ti.rep
  have nd:=iA.nd
  have hl:ws.length=4:=ti.len
  obtain ⟨hM,fc,fr,ha,hb,so,fa,bits,q1,q2⟩:=R.mode
  have k':After A H s dx M v (if Sn44.high ws≤65536 then .cont (.name a b g (Sn44.high ws)) else .bad 5) Q:=k
  refine ⟨_,ab (aI (i:=2) nd rfl (Or.inl rfl) (aK (aN T) hr rfl (aa (pv 1) (aa ai (aa ai ah)))))
   (ab (aX (aQ qU (pv 2) (a_ T.gI rfl) (aT _)) (ab (az (bF (d8 T) T.af hr (pv 0) (aa ai ah))) (ak d5)) aP)
   (ak (az (bF (bf T) T.af hr (pv 0) (aa cv (aa (pv 2) ah)))))),?_⟩
  refine ⟨_,rfl,wd,ws,0,4,rfl,bV.of ti.words.1,fun H1 s1=>?_⟩
  rw [mH (by omega)]
  have C1:=R.core.same s1
  have hs1:=s1 _ _ R.bK
  refine ⟨_,rfl,_,_,rfl,rfl,_,rfl,?_⟩
  show if decide ((65536:Int) < (Sn44.high ws:Int))=true then _ else _
  by_cases c:Sn44.high ws≤65536
  ·rw [if_pos c] at k'
   rw [if_neg (by simp;omega)]
   refine ⟨_,rfl,s,dx,_,rfl,hs1,rfl,_,rfl,s,dx,x,_,Sn44.high ws,rfl,hs1,?_⟩
   exact k'.expect (.of_same s1) C1 rfl rfl R.wrong R.cu R.nd ⟨hM,fc,fr,ha,hb,so,c,fa,bits,q1,(q2.ext (Ext.of_same s1)).ext (.upd R.core.eo)⟩ R.run R.lF R.lG
  ·rw [if_neg c] at k'
   rw [if_pos (by simp;omega)]
   exact ⟨_,rfl,s,dx,_,rfl,hs1,rfl,s,dx,x,5,rfl,hs1,k'.fail (.of_same s1) C1 (by decide)⟩
end
abbrev uD:List Nat:=[1,5,4,2,0]
def Aa (j:Nat):List Nat:=[2,0]++Sn44.be 2 5++((uD.take j).map (Sn44.be 4)).flatten
theorem Bp:Aa 5=Mir.codings:=by decide +kernel
theorem Ab {j c:Nat} (h:uD[j]?=some c):Aa (j + 1)=Aa j++Sn44.be 4 c:=by
 unfold Aa
 rw [take_snoc h,List.map_append,List.flatten_append,← List.append_assoc]
 simp
section
variable {P:Program} {w:World} {K:PySem.W.Frag} {mg:Str→Option Value} {base:Heap} {A:bI}
def Ac:Sp:=fun vs H Q _=>vs=[]∧E4 H (nI Mir.codings) Q
theorem nE (T:Txt P w K mg A):FnAt P w K mg base "codings_message" 2 [] Ac:=by
 refine T.ff.at_ (fun _ _ _ _ _ _ us hl=>match us,hl with | [],_=>rfl) fun f fd F=>?_
 refine F.ok jk (fun vs H Q E h=>?_) (fun cdv AA outer sh H vs Q E hr h=>?_)
 ·obtain ⟨rfl,_⟩:=h
  rfl
 ·obtain ⟨rfl,k⟩:=h
  have nd:=jk.nd
  refine ⟨_,ab (aI (i:=0) nd rfl (Or.inl rfl) (aH je (b0 (aa ai (aa ai ah))) (aK (df T) hr rfl (aa (bZ bj (by rfl) T.fQ PySem.boot_len (aa (yz T.eh rfl) ah)) (aa ai ah)))))
   (ab (kE PassesOwn.never rfl (AH (yz T.eh rfl)) (di (i:=1) nd rfl (Or.inl rfl))
    (ak (az (q_ PySem.F.plainAttrs_list PySem.F.slot_list_extend PySem.F.type_list_extend jd (pv 0) (aa (aK (df T) hr rfl (aa (pv 1) (aa ai ah))) ah)))))
   (ak (aW (pv 0)))),?_⟩
  refine ⟨by show 2≤sizeLine;decide,fun l1 h1=>?_⟩
  have s1:=ay (o:=.lst [V.int 2,V.int 0]) h1
  refine fun g hg=>⟨g,_,rfl,.inr (hg _),5,2,rfl,by decide,fun H2 l2 e2 q2 s2=>?_⟩
  refine ⟨l1,l2,_,_,rfl,rfl,s2 _ _ ae,q2,by rw [aU,kf];show 2 + 2≤sizeLine;decide,fun l3 h3=>?_⟩
  have s3:=ay (o:=.lst ([V.int 2,V.int 0]++nI (Sn44.be 2 5))) h3
  have S3:=s1.trans (s2.trans s3)
  have f3:H l3=none:=(s1.trans s2).free h3
  refine fun g2 hg2=>⟨g2,rfl,⟨_,hg2 _⟩,yd (K:=K) (a:=g2) (xs:=[V.int 1,V.int 5,V.int 4,V.int 2,V.int 0]) (fun j σ H'=>∃u:Option V,σ=[some (.ref l3),u]∧H' l3=some (.lst (nI (Aa j)))∧bX H H')
   ⟨none,rfl,?_,S3⟩ (fun j σ H' _ _=>hg2 _) ?_ ?_⟩
  ·rw [ae]
   rfl
  ·rintro j y σ H' hy ⟨u,rfl,g1,g2⟩
   obtain ⟨c,hc,rfl⟩:∃c,uD[j]?=some c∧y=V.int (c:Int):=ke (l:=uD) hy
   refine ⟨_,rfl,.inl ⟨rfl,_,bV.of g1⟩,_,rfl,c,4,rfl,by decide,fun H5 l5 e5 q5 s5=>?_⟩
   refine ⟨l3,l5,_,_,rfl,rfl,s5 _ _ g1,q5,?_,?_⟩
   ·rw [aU,aU,kf,sizeLine_eq]
    have hj:j < 5:=(List.getElem?_eq_some_iff.mp hc).1
    have:(Aa j).length≤100:=by
     match j,hj with
     | 0,_=>decide
     | 1,_=>decide
     | 2,_=>decide
     | 3,_=>decide
     | 4,_=>decide
    omega
   ·refine ⟨_,rfl,?_,?_⟩
    ·rw [ae,Ab hc,fU]
    ·intro b o e
     rw [aj (aE e f3)]
     exact s5 _ _ (g2 _ _ e)
  ·rintro σ H' ⟨u,rfl,g1,g2⟩
   refine ⟨_,rfl,k H' l3 f3 ?_ g2⟩
   rw [← Bp]
   exact g1
theorem xK (t:Addr) (H:Hp) (M:List Addr) (h:Fz H M t (.tup (nI [0,0,0]))):TabAt H M (List.replicate 256 t) (List.replicate 256 [0,0,0]):=by
 refine ⟨by simp,fun i r e=>?_⟩
 have er:r=t:=List.eq_of_mem_replicate (List.mem_of_getElem? e)
 subst er
 have hi:i < 256:=by
  have:=(List.getElem?_eq_some_iff.mp e).1
  simpa using this
 rw [List.getD_eq_getElem?_getD,List.getElem?_replicate,if_pos hi]
 exact h
theorem uE (T:Txt P w K mg A):FnAt P w K mg base "take_name" 3 ["session","words"] (dg A (fun m=>∃a b f n,m=.name a b f n)):=by
 refine T.jR.at_ (fun _ _ _ _ _ _ us hl=>match us,hl with | [_,_],_=>rfl) fun f fd F=>?_
 refine F.ok uh (fun vs H Q E h=>?_) (fun cdv AA outer sh H vs Q E hr h=>?_)
 ·obtain ⟨s,dx,wd,x,ws,v,m,M,rfl,_⟩:=h
  rfl
 ·obtain ⟨s,dx,wd,x,ws,v,m,M,rfl,⟨a,b,g,n,rfl⟩,ti,k⟩:=h
  have R:=ti.rep
  obtain ⟨hM,fc,fr,ha,hb,so,hn,fa,bits,q1,q2⟩:=R.mode
  have k':After A H s dx M v (.done (Mir.bE v a b g ws)) Q:=k
  refine ⟨_,ab (aJ (pv 0) (pv 1) rfl) (ab (aJ (pv 0) (aq (pv 0) rfl) rfl) (ab (aJ (pv 0) (aq (pv 0) rfl) rfl)
   (ab (aJ (pv 0) (aK (mF T) (hr.mono (by decide)) rfl (aa (aq (pv 0) rfl) (aa (aq (pv 0) rfl) (aa ai ah)))) rfl)
   (ab (aJ (pv 0) (aH xa (b0 (aa (tR (aa ai (aa ai (aa ai ah)))) ah)) (a_ T.ko rfl)) rfl)
   (ab (aJ (pv 0) sX rfl)
   (ab (az (bF (k9 T) T.af (hr.mono (by decide)) (pv 0) (aa (DK (nE T) hr rfl) ah)))
   (ab (az (bF (rO T) T.af hr (pv 0) (aa (a_ T.yG rfl) ah)))
   (ak (az (bF (bf T) T.af (hr.mono (by decide)) (pv 0) (aa cv (aa ai ah)))))))))))),?_⟩
  have tc:=T.af
  refine ⟨_,rfl,_,rfl,s,A.ag,dx,_,rfl,R.bK,tc,T.eg,by show 20 < 1000;decide,?_⟩
  rw [show bH "name" (.ref wd) x.fs=SF.fs { x with k:={ x.k with name:=wd } } from rfl]
  refine ⟨_,rfl,s,A.ag,dx,_,_,rfl,ae,tc,T.bP,rfl,_,rfl,s,A.ag,dx,_,rfl,ae,tc,T.bG,by show 20 < 1000;decide,?_⟩
  rw [bg,show bH "columns" (.int (x.dX:Int)) (SF.fs { x with k:={ x.k with name:=wd } })=SF.fs { x with k:={ x.k with name:=wd,columns:=x.dX } } from rfl]
  refine ⟨_,rfl,s,A.ag,dx,_,_,rfl,ae,tc,T.cg,rfl,_,rfl,s,A.ag,dx,_,rfl,ae,tc,T.b9,by show 20 < 1000;decide,?_⟩
  rw [bg,show bH "rows" (.int (x.eN:Int)) (SF.fs { x with k:={ x.k with name:=wd,columns:=x.dX } })=SF.fs { x with k:={ x.k with name:=wd,columns:=x.dX,rows:=x.eN } } from rfl]
  refine ⟨_,rfl,s,A.ag,dx,_,_,rfl,ae,tc,T.bG,rfl,_,rfl,s,A.ag,dx,_,_,rfl,ae,tc,T.b9,rfl,x.dX,x.eN,0,rfl,by omega,by omega,fun H1 sc rs h1 h2 h3 h4 h5=>?_⟩
  have hs1:=h5 _ _ (ae (H:=H) (a:=s) (o:=.ins A.ag dx (SF.fs { x with k:={ x.k with name:=wd,columns:=x.dX,rows:=x.eN } })))
  refine ⟨_,rfl,s,A.ag,dx,_,rfl,hs1,tc,T.cn,by show 20 < 1000;decide,?_⟩
  rw [show bH "screen" (.ref sc) (SF.fs { x with k:={ x.k with name:=wd,columns:=x.dX,rows:=x.eN } })=SF.fs { x with k:={ x.k with name:=wd,columns:=x.dX,rows:=x.eN,screen:=sc } } from rfl]
  refine ⟨by show 3≤sizeLine;decide,fun t ht=>⟨by show 1≤sizeLine;decide,fun l hl=>⟨l,_,_,rfl,rfl,ae,by decide,by decide,by show 1 * 256≤sizeLine;decide,fun tb htb=>?_⟩⟩⟩
  rw [yL]
  have st:=ay (o:=.tup [V.int 0,V.int 0,V.int 0]) ht
  have sl:=ay (o:=.lst [V.ref t]) hl
  have sb:=ay (o:=.lst (List.replicate (256:Int).toNat (V.ref t))) htb
  have S:=st.trans (sl.trans sb)
  refine ⟨_,rfl,s,A.ag,dx,_,rfl,S _ _ ae,tc,T.da,by show 20 < 1000;decide,?_⟩
  rw [show bH "table" (.ref tb) (SF.fs { x with k:={ x.k with name:=wd,columns:=x.dX,rows:=x.eN,screen:=sc } })=SF.fs { x with k:={ x.k with name:=wd,columns:=x.dX,rows:=x.eN,screen:=sc,table:=tb } } from rfl]
  refine ⟨_,rfl,s,A.ag,dx,_,rfl,ae,tc,T.cX,by show 20 < 1000;decide,?_⟩
  rw [bg,show bH "greeted" (.bl true) (SF.fs { x with k:={ x.k with name:=wd,columns:=x.dX,rows:=x.eN,screen:=sc,table:=tb } })=SF.fs { x with bE:=true,k:={ x.k with name:=wd,columns:=x.dX,rows:=x.eN,screen:=sc,table:=tb } } from rfl]
  generalize hG:upd (upd (upd (upd (upd H1 s (.ins A.ag dx (SF.fs { x with k:={ x.k with name:=wd,columns:=x.dX,rows:=x.eN,screen:=sc } }))) t (.tup [V.int 0,V.int 0,V.int 0])) l (.lst [V.ref t])) tb (.lst (List.replicate (256:Int).toNat (V.ref t)))) s
   (.ins A.ag dx (SF.fs { x with bE:=true,k:={ x.k with name:=wd,columns:=x.dX,rows:=x.eN,screen:=sc,table:=tb } }))=G
  obtain ⟨x6,hx6⟩:∃y:SF,y={ x with bE:=true,k:={ x.k with name:=wd,columns:=x.dX,rows:=x.eN,screen:=sc,table:=tb } }:=⟨_,rfl⟩
  have k6:x6.k={ x.k with name:=wd,columns:=x.dX,rows:=x.eN,screen:=sc,table:=tb }:=by rw [hx6]
  have hsG:en A G s dx x6:=by rw [← hG,hx6];exact ae
  have f1:=aR h1
  have keep:∀c o,H c=some o→c≠s→G c=some o:=fun c o e n=>by
   rw [← hG,aj n]
   refine S _ _ ?_
   rw [aj n]
   exact h5 _ _ (by rw [aj n];exact e)
  have keep1:∀c o,H1 c=some o→c≠s→G c=some o:=fun c o e n=>by
   rw [← hG,aj n]
   exact S _ _ (by rw [aj n];exact e)
  have fresh1:∀c,H1 c=none→H c=none:=fun c e=>by
   cases q:H c with
   | none=>rfl
   | some o=>
    by_cases n:c=s
    ·rw [n,hs1] at e;cases e
    ·rw [h5 _ _ (by rw [aj n];exact q)] at e;cases e
  have ft:=aR ht
  have fl:=aR hl
  have fb:=aR htb
  have fb2:=aR fb.2
  have fb3:=aR fb2.2
  have nst:t≠s:=ft.1
  have nsb:tb≠s:=fb3.1
  have ntb:t≠tb:=fun e=>fb2.1 e.symm
  have hT:G t=some (.tup (nI [0,0,0])):=by
   rw [← hG,aj nst]
   exact sb _ _ (sl _ _ ae)
  have hTb:G tb=some (.lst ((List.replicate 256 t).map V.ref)):=by
   rw [← hG,aj nsb,ae,List.map_replicate]
   rfl
  have hSc:G sc=some (.lst (rs.map V.ref)):=keep1 _ _ h2 f1.1
  have scw:∀{c o},H c=some o→c≠sc:=fun e q=>by rw [q,f1.2] at e;cases e
  have tbw:∀{c o},H c=some o→c≠tb:=fun e q=>by rw [q,fresh1 _ fb3.2] at e;cases e
  have sctb:sc≠tb:=fun e=>by rw [e,fb3.2] at h2;cases h2
  have sne:=R.core.xI
  have wts:x.k.waiting≠s:=sne _ (by simp)
  have rsG:me G [s,x.k.waiting,sc,tb] rs (Mir.eO x.dX x.eN 0):=by
   refine ⟨h3.keeps fun r hr o e=>keep1 r o e (aR (h4 r hr).1).1,fun r hr hm=>?_⟩
   obtain ⟨a1,a2⟩:=aR (h4 r hr).1
   simp only [List.mem_cons,List.not_mem_nil,or_false] at hm
   rcases hm with q | q | q | q
   ·exact a1 q
   ·rw [q,R.core.wait] at a2;cases a2
   ·exact (h4 r hr).2 q
   ·obtain ⟨o,e⟩:=h3.there hr
    rw [q,fb3.2] at e;cases e
  have wdn:wd∉M:=ti.words.2
  have outM:∀c o,Fz H M c o→Fz G [s,x.k.waiting,sc,tb] c o:=fun c o fz=>by
   have cs:c≠s:=fun q=>fz.2 (by rw [q];exact R.core.eo)
   refine ⟨keep c o fz.1 cs,fun hm=>?_⟩
   simp only [List.mem_cons,List.not_mem_nil,or_false] at hm
   rcases hm with q | q | q | q
   ·exact cs q
   ·exact fz.2 (by rw [q];exact R.core.mem _ (by simp))
   ·exact scw fz.1 q
   ·exact tbw fz.1 q
  have hv1:Core A G [s,x.k.waiting,sc,tb] s x6.k { v with stage:=.runs,name:=ws,screen:=⟨a,b,g,List.replicate (a * b) 0,List.replicate 256 [0,0,0]⟩ }:=by
   rw [k6]
   refine { wait:=keep _ _ R.core.wait wts,gN:=R.core.gN,cols:=fc,rows:=fr,side:=⟨ha.2,hb.2⟩,cut:=outM _ _ R.core.cut,name:=outM _ _ ti.words,bells:=R.core.bells,jt:=R.core.jt,left:=R.core.left,pic:=?_,tab:=?_,form:=?_,nd:=?_,mem:=?_ }
   ·refine ⟨rs,Mir.eO x.dX x.eN 0,⟨hSc,rsG,by simp⟩,?_,?_⟩
    ·rw [fc,fr]
     exact Mir.eR a b 0
    ·rw [Mir.pF,fc,fr,Nat.mul_comm]
   ·refine ⟨List.replicate 256 t,hTb,xK t G _ ⟨hT,fun hm=>?_⟩⟩
    simp only [List.mem_cons,List.not_mem_nil,or_false] at hm
    rcases hm with q | q | q | q
    ·exact nst q
    ·have:=R.core.wait
     rw [← q,fresh1 _ ft.2] at this
     cases this
    ·have z:=ft.2
     rw [q,h2] at z
     cases z
    ·exact ntb q
   ·intro _
    obtain ⟨d1,gr,sh1,z1,z2,z3,z4⟩:=q2
    exact ⟨fa,bits,q1,⟨d1,gr,sh1,outM _ _ z1,outM _ _ z2,outM _ _ z3,z4⟩,so,fun _=>by simp⟩
   ·simp only [List.nodup_cons,List.mem_cons,List.not_mem_nil,or_false,not_or,not_false_eq_true,List.nodup_nil,and_true]
    exact ⟨⟨wts.symm,fun q=>f1.1 q.symm,fun q=>nsb q.symm⟩,⟨scw R.core.wait,tbw R.core.wait⟩,sctb⟩
   ·intro c hc
    exact hc
  have eG:Ext H M G [s,x.k.waiting,sc,tb]:=by
   refine ⟨fun c hc=>?_,fun c o e n=>keep c o e fun q=>n (by rw [q];exact R.core.eo)⟩
   simp only [List.mem_cons,List.not_mem_nil,or_false] at hc
   rcases hc with q | q | q | q
   ·exact .inl (by rw [q];exact R.core.eo)
   ·exact .inl (by rw [q];exact R.core.mem _ (by simp))
   ·exact .inr (by rw [q];exact f1.2)
   ·exact .inr (by rw [q];exact fresh1 _ fb3.2)
  have wr6:x6.wrong=0:=by rw [hx6];exact R.wrong
  have gr6:x6.bE=true:=by rw [hx6]
  have wt6:x6.k.waiting=x.k.waiting:=by rw [k6]
  have m06:[s,x.k.waiting,sc,tb]=M0 s x6.k:=by rw [k6]
  have cl6:x6.k.columns=a:=hv1.cols
  have rw6:x6.k.rows=b:=hv1.rows
  refine ⟨_,rfl,s,dx,_,rfl,hsG,rfl,rfl,fun H7 l7 e7 q7 s7=>?_⟩
  have C7:=hv1.same s7
  have hs7:=s7 _ _ hsG
  refine ⟨s,dx,l7,x6,v.out,Mir.codings,rfl,hs7,C7.wait,q7,C7.gN,fun H8 a1 a2=>?_⟩
  have C8:Core A H8 [s,x.k.waiting,sc,tb] s x6.k { v with stage:=.runs,name:=ws,screen:=⟨a,b,g,List.replicate (a * b) 0,List.replicate 256 [0,0,0]⟩,out:=cF v.out Mir.codings }:=C7.nD a1 a2 rfl
  have hs8:=C7.oV hs7 a2
  have e8:Ext G [s,x.k.waiting,sc,tb] H8 [s,x.k.waiting,sc,tb]:=(Ext.of_same s7).trans (.fA a2 fun c q=>by rw [q];exact C7.mem _ (by simp))
  refine ⟨_,rfl,s,dx,_,rfl,hs8,rfl,s,dx,x6,0,cF v.out Mir.codings,rfl,hs8,C8.wait,C8.gN,fun H9 b1 b2=>?_⟩
  rw [cl6,rw6] at b1
  have C9:Core A H9 [s,x.k.waiting,sc,tb] s x6.k { v with stage:=.runs,name:=ws,screen:=⟨a,b,g,List.replicate (a * b) 0,List.replicate 256 [0,0,0]⟩,out:=cF (cF v.out Mir.codings) (rN 0 a b) }:=C8.nD b1 b2 rfl
  have hs9:=C8.oV hs8 b2
  have e9:Ext G [s,x.k.waiting,sc,tb] H9 [s,x.k.waiting,sc,tb]:=e8.trans (.fA b2 fun c q=>by rw [q];exact C8.mem _ (by simp))
  have eu:Mir.bE v a b g ws={ v with stage:=.runs,name:=ws,screen:=⟨a,b,g,List.replicate (a * b) 0,List.replicate 256 [0,0,0]⟩,out:=cF (cF v.out Mir.codings) (rN 0 a b) }:=by
   unfold Mir.bE
   rw [jq,yP]
   rfl
  rw [eu] at k'
  have l0:v.left=0:=R.lG
  have sm:Mir.aY { v with stage:=.runs,name:=ws,screen:=⟨a,b,g,List.replicate (a * b) 0,List.replicate 256 [0,0,0]⟩,out:=cF (cF v.out Mir.codings) (rN 0 a b) }=.kind:=by
   show (if 0 < v.left then Mode.rect else Mode.kind)=_
   rw [l0]
   rfl
  refine ⟨_,rfl,s,dx,_,rfl,hs9,rfl,s,dx,x6,_,1,rfl,hs9,?_⟩
  refine k'.done (eG.trans e9) C9 (by rw [sm];rfl) (by rw [sm];rfl) wr6 gr6 ?_ m06 ⟨fun _=>?_,fun _=>rfl⟩ rfl (fun q=>by cases q)
  ·have:=hv1.nd
   rw [m06]
   exact this
  ·show a≠0
   omega
end
theorem Core.shrink {A:bI} {H:Hp} {M:List Addr} {s:Addr} {k:SK} {v:Viewer} (C:Core A H M s k v):Core A H (M0 s k) s k v:=C.ext ⟨fun b hb=>.inl (C.mem b hb),fun b o e _=>e⟩ (fun _ _=>rfl) (fun b hb=>hb)
theorem Core.jr {A:bI} {H:Hp} {M:List Addr} {s dx:Addr} {x:SF} {v:Viewer} (C:Core A H M s x.k v) (hs:en A H s dx x):∀b∈M0 s x.k,∃o,H b=some o:=fun b hb=>by
 rcases C.m0 hs b hb with ⟨l,q⟩ | q
 ·exact ⟨_,q⟩
 ·rw [q];exact ⟨_,hs⟩
structure cR (A:bI) (H:Hp) (M:List Addr) (s dx:Addr) (x:SF) (v:Viewer):Prop where
 bK:en A H s dx x
 core:Core A H M s x.k v
 wrong:x.wrong=0
 cu:x.bE=true
 run:v.stage=.runs
 o6:v.screen.w≠0
theorem cR.same {A:bI} {H H':Hp} {M:List Addr} {s dx:Addr} {x:SF} {v:Viewer} (R:cR A H M s dx x v) (e:bX H H'):cR A H' M s dx x v:=⟨e _ _ R.bK,R.core.same e,R.wrong,R.cu,R.run,R.o6⟩
theorem After.ext {A:bI} {H H1:Hp} {s dx:Addr} {M M1:List Addr} {v:Viewer} {r:Res} {Q:VK} (k:After A H s dx M v r Q) (e:Ext H M H1 M1):After A H1 s dx M1 v r Q:=fun H' M' q e'=>k H' M' q (e.trans e')
section
variable {P:Program} {w:World} {K:PySem.W.Frag} {mg:Str→Option Value} {base:Heap} {A:bI}
def xM (A:bI):Sp:=fun vs H Q _=>∃s dx x v v0 M,vs=[.ref s]∧cR A H M s dx x v∧M=M0 s x.k∧After A H s dx M v0 (.done v.whole) Q
theorem j9 (T:Txt P w K mg A):FnAt P w K mg base "next_rectangle" 3 ["session"] (xM A):=by
 refine T.fI.at_ (fun _ _ _ _ _ _ us hl=>match us,hl with | [_],_=>rfl) fun f fd F=>?_
 refine F.ok oF (fun vs H Q E h=>?_) (fun cdv AA outer sh H vs Q E hr h=>?_)
 ·obtain ⟨s,dx,x,v,v0,M,rfl,_⟩:=h
  rfl
 ·obtain ⟨s,dx,x,v,v0,M,rfl,R,hM,k⟩:=h
  refine ⟨_,ab (aX (aQ qU (aq (pv 0) rfl) ai (aT _)) (ab (az (bF (bf T) T.af (hr.mono (by decide)) (pv 0) (aa cv (aa (a_ T.fN rfl) ah)))) (ak d5)) aP)
   (ab (az (pG (qt T) T.af (hr.mono (by decide)) (pv 0)))
   (ab (az (bF (rO T) T.af hr (pv 0) (aa (a_ T.mC rfl) ah)))
   (ak (az (bF (bf T) T.af (hr.mono (by decide)) (pv 0) (aa cv (aa ai ah))))))),?_⟩
  refine ⟨_,rfl,s,A.ag,dx,_,_,rfl,R.bK,T.af,T.br,rfl,_,_,rfl,rfl,_,rfl,?_⟩
  show if decide ((0:Int) < (x.k.left:Int))=true then _ else _
  have hl:=R.core.left
  have hrun:dC v.stage=true:=by rw [R.run];rfl
  unfold Viewer.whole at k
  by_cases c:v.left=0
  ·rw [if_pos c] at k
   rw [if_neg (by simp;omega)]
   have hnd:=R.core.nd
   refine ⟨_,rfl,s,dx,_,rfl,R.bK,rfl,s,dx,x,rfl,R.bK,?_⟩
   have C1:Core A (upd H s (.ins A.ag dx (SF.fs { x with k:={ x.k with updates:=(x.k.updates + 1) % 2 ^ 31 } }))) M s ({ x with k:={ x.k with updates:=(x.k.updates + 1) % 2 ^ 31 } }:SF).k { v with updates:=(v.updates + 1) % 2 ^ 31 }:=by
    have C:=R.core.j8 (o:=.ins A.ag dx (SF.fs { x with k:={ x.k with updates:=(x.k.updates + 1) % 2 ^ 31 } }))
    exact ⟨C.wait,C.gN,C.cols,C.rows,C.side,C.cut,C.name,C.bells,by show (x.k.updates + 1) % 2 ^ 31=_;rw [C.jt],C.left,C.pic,C.tab,C.form,C.nd,C.mem⟩
   refine ⟨_,rfl,s,dx,_,rfl,ae,rfl,s,dx,{ x with k:={ x.k with updates:=(x.k.updates + 1) % 2 ^ 31 } },1,v.out,rfl,ae,C1.wait,C1.gN,fun H2 a1 a2=>?_⟩
   have C2:Core A H2 M s ({ x with k:={ x.k with updates:=(x.k.updates + 1) % 2 ^ 31 } }:SF).k { v with updates:=(v.updates + 1) % 2 ^ 31,out:=cF v.out (rN 1 x.k.columns x.k.rows) }:=C1.nD a1 a2 rfl
   have hs2:en A H2 s dx { x with k:={ x.k with updates:=(x.k.updates + 1) % 2 ^ 31 } }:=C1.oV ae a2
   have e2:Ext H M H2 M:=(Ext.upd R.core.eo).trans (.fA a2 fun c q=>by rw [q];exact C1.mem _ (by simp))
   have eu:({ v with updates:=(v.updates + 1) % 2 ^ 31 }.ask true:Viewer)={ v with updates:=(v.updates + 1) % 2 ^ 31,out:=cF v.out (rN 1 x.k.columns x.k.rows) }:=by
    rw [yP,R.core.cols,R.core.rows]
    rfl
   rw [eu] at k
   have sm:Mir.aY { v with updates:=(v.updates + 1) % 2 ^ 31,out:=cF v.out (rN 1 x.k.columns x.k.rows) }=.kind:=by
    unfold Mir.aY
    show (match v.stage with | .version=>Mode.version | .ways=>.howMany | .answer=>.number | .first=>.size | _=>if 0 < v.left then .rect else .kind)=_
    rw [R.run,c]
    rfl
   refine ⟨_,rfl,s,dx,_,rfl,hs2,rfl,s,dx,_,_,1,rfl,hs2,?_⟩
   exact k.done e2 C2 (by rw [sm];rfl) (by rw [sm];rfl) R.wrong (by show x.bE=dC v.stage;rw [R.cu,hrun]) (by rw [hM];exact hnd) hM ⟨fun _=>R.o6,fun _=>hrun⟩ (by show Mir.dJ v.stage=false;rw [R.run];rfl) (fun q=>by rw [show dC v.stage=true from hrun] at q;cases q)
  ·rw [if_neg c] at k
   rw [if_pos (by simp;omega)]
   have sm:Mir.aY v=.rect:=by
    unfold Mir.aY
    rw [R.run]
    show (if 0 < v.left then Mode.rect else Mode.kind)=_
    rw [if_pos (by omega)]
   refine ⟨_,rfl,s,dx,_,rfl,R.bK,rfl,s,dx,x,_,12,rfl,R.bK,?_⟩
   exact k.done (.refl H M) R.core (by rw [sm];rfl) (by rw [sm];rfl) R.wrong (by rw [R.cu,hrun]) (by rw [hM];exact R.core.nd) hM ⟨fun _=>R.o6,fun _=>hrun⟩ (by rw [R.run];rfl) (fun q=>by rw [hrun] at q;cases q)
end
theorem Core.yU {A:bI} {H:Hp} {M:List Addr} {s:Addr} {k:SK} {v:Viewer} {n:Nat} (C:Core A H M s k v):Core A H M s { k with left:=n } { v with left:=n }:=
 ⟨C.wait,C.gN,C.cols,C.rows,C.side,C.cut,C.name,C.bells,C.jt,rfl,C.pic,C.tab,C.form,C.nd,C.mem⟩
theorem v_:∀{a b:List Addr},a.map V.ref=b.map V.ref→a=b
 | [],[],_=>rfl
 | [],_ :: _,h=>by cases h
 | _ :: _,[],h=>by cases h
 | x :: a,y :: b,h=>by
  rw [List.map_cons,List.map_cons] at h
  injection h with h1 h2
  injection h1 with h1
  rw [h1,v_ h2]
theorem qa {w h:Nat} {P Q:List (List Nat)} (a:Mir.Rows w h P) (b:Mir.Rows w h Q) (e:P.flatten=Q.flatten):P=Q:=by
 have key:∀{P:List (List Nat)},Mir.Rows w h P→P=Mir.fT P.flatten w h:=by
  intro P R
  refine Mir.lS (by rw [R.len];simp [Mir.fT]) fun y hy=>?_
  rw [R.len] at hy
  unfold Mir.fT
  rw [List.getD_eq_getElem?_getD,List.getD_eq_getElem?_getD,List.getElem?_map,List.getElem?_range hy]
  show _=(P.flatten.drop (y * w)).take w
  have hr:(P.getD y []).length=w:=R.row _ (Mir.getD_mem (by rw [R.len];exact hy))
  rw [← List.getD_eq_getElem?_getD]
  apply List.ext_getElem?
  intro k
  rw [List.getElem?_take,List.getElem?_drop]
  by_cases c:k < w
  ·rw [if_pos c]
   have e1:=Mir.qF (y:=y) (x:=k) R hy c
   have l1:y * w + k < P.flatten.length:=by
    rw [Mir.vI R]
    have:(y + 1) * w≤h * w:=Nat.mul_le_mul_right _ hy
    rw [Nat.succ_mul] at this
    omega
   rw [List.getD_eq_getElem?_getD,List.getD_eq_getElem?_getD,List.getElem?_eq_getElem l1,List.getElem?_eq_getElem (by omega)] at e1
   rw [List.getElem?_eq_getElem l1,List.getElem?_eq_getElem (by omega)]
   exact congrArg some e1.symm
  ·rw [if_neg c,List.getElem?_eq_none (by omega)]
 rw [key a,key b,e]
section
variable {P:Program} {w:World} {K:PySem.W.Frag} {mg:Str→Option Value} {base:Heap} {A:bI}
def Cv (A:bI):Sp:=fun vs H Q _=>∃s dx x v v0 M,vs=[.ref s]∧cR A H M s dx x v∧M=M0 s x.k∧0 < v.left∧After A H s dx M v0 (.done ({ v with left:=v.left - 1 }.whole)) Q
theorem js (T:Txt P w K mg A):FnAt P w K mg base "leave_rectangle" 4 ["session"] (Cv A):=by
 refine T.fg.at_ (fun _ _ _ _ _ _ us hl=>match us,hl with | [_],_=>rfl) fun f fd F=>?_
 refine F.ok nt (fun vs H Q E h=>?_) (fun cdv AA outer sh H vs Q E hr h=>?_)
 ·obtain ⟨s,dx,x,v,v0,M,rfl,_⟩:=h
  rfl
 ·obtain ⟨s,dx,x,v,v0,M,rfl,R,hM,hp,k⟩:=h
  refine ⟨_,ab (ph (pv 0) ai wX) (ak (az (aK (j9 T) hr rfl (aa (pv 0) ah)))),?_⟩
  refine ⟨_,rfl,s,A.ag,dx,_,_,rfl,R.bK,T.af,T.br,rfl,_,_,rfl,rfl,dx,_,R.bK,by show 20 < 1000;decide,?_⟩
  have hl:=R.core.left
  rw [show bH "rectangles_left" (.int ((x.k.left:Int) - 1)) x.fs=SF.fs { x with k:={ x.k with left:=v.left - 1 } } by
   rw [show ((x.k.left:Int) - 1)=((v.left - 1:Nat):Int) by omega];rfl]
  refine ⟨_,rfl,s,dx,{ x with k:={ x.k with left:=v.left - 1 } },{ v with left:=v.left - 1 },v0,M,rfl,⟨ae,(R.core.j8).yU,R.wrong,R.cu,R.run,R.o6⟩,hM,k.ext (.upd R.core.eo)⟩
def wa (A:bI):Sp:=fun vs H Q _=>∃s dx x v v0 M rc dr y r pc prs Pic s',vs=[.ref s,.ref pc]∧cR A H M s dx x v∧dY A H x rc dr y r∧rc∉M0 s x.k∧gg H pc prs Pic∧Mir.Rows r.w r.h Pic∧gi v r∧pc∉M0 s x.k∧(∀q∈prs,q∉M0 s x.k)∧0 < v.left∧
 Drawn v r Pic s'∧After A H s dx M v0 (.done (Mir.fin v s')) Q
theorem fV (T:Txt P w K mg A):FnAt P w K mg base "finish_rectangle" 5 ["session","picture"] (wa A):=by
 refine T.eI.at_ (fun _ _ _ _ _ _ us hl=>match us,hl with | [_,_],_=>rfl) fun f fd F=>?_
 refine F.ok iB (fun vs H Q E h=>?_) (fun cdv AA outer sh H vs Q E hr h=>?_)
 ·obtain ⟨s,dx,x,v,v0,M,rc,dr,y,r,pc,prs,Pic,s',rfl,_⟩:=h
  rfl
 ·obtain ⟨s,dx,x,v,v0,M,rc,dr,y,r,pc,prs,Pic,s',rfl,R,hrc,nrc,hpc,hrows,hin,npc,nprs,hp,⟨B,hB,cB,rfl⟩,k⟩:=h
  have nd:=iB.nd
  refine ⟨_,ab (aI (i:=2) nd rfl (Or.inl rfl) (aq (pv 0) rfl))
   (ab (az (aK (vS T) (hr.mono (by decide)) rfl (aa (aq (pv 0) rfl) (aa (aq (pv 2) rfl) (aa (aq (pv 2) rfl) (aa (pv 1) ah))))))
   (ak (az (aK (js T) hr rfl (aa (pv 0) ah))))),?_⟩
  obtain ⟨rs,P0,p0,hP0,c0⟩:=R.core.pic
  have eB:P0=B:=qa hP0 hB (by rw [← c0,cB])
  subst eB
  have C0:=R.core.shrink
  obtain ⟨rs',P1,p1,hP1,c1⟩:=C0.pic
  have ers:rs'=rs:=by
   have:=p1.lst.symm.trans p0.lst
   injection this with this
   injection this with this
   exact v_ this
  subst ers
  have e1:P1=P0:=qa hP1 hB (by rw [← c1,cB])
  subst e1
  have ne:x.k.screen≠pc:=fun q=>npc (by rw [← q];simp [M0])
  have neq:x.k.screen∉prs:=fun q=>nprs _ q (by simp [M0])
  have exr:=hrc.ref
  refine ⟨_,rfl,s,A.ag,dx,_,_,rfl,R.bK,T.af,T.aF,rfl,?_⟩
  rw [show x.b6=V.ref rc from exr]
  refine ⟨_,rfl,s,A.ag,dx,_,_,rfl,R.bK,T.af,T.cn,rfl,_,rfl,rc,A.ao,dr,_,_,rfl,hrc.at_,T.au,T.cM,rfl,_,rfl,rc,A.ao,dr,_,_,rfl,hrc.at_,T.au,T.de,rfl,_,rfl,?_⟩
  refine ⟨x.k.screen,pc,rs',prs,P1,Pic,y.left,y.top,v.screen.w,rfl,p1.at_,hpc,ne,neq,hP1.row,by have:=R.core.side;omega,fun z hz=>?_,?_,fun H2 rs2 p2 hr2 sb2=>?_⟩
  ·rw [hrc.l,hrows.row z hz]
   exact hin.1
  ·rw [hrc.t,hrows.len,hP1.len]
   exact hin.2
  ·rw [hrc.l,hrc.t] at p2
   have e2:Ext H M H2 (M0 s x.k):=⟨fun b hb=>.inl (R.core.mem b hb),fun b o e n=>sb2 b o e fun q=>n (by rw [q];exact R.core.mem _ (by simp))⟩
   have e20:Ext H (M0 s x.k) H2 (M0 s x.k):=⟨fun b hb=>.inl hb,fun b o e n=>sb2 b o e fun q=>n (by rw [q];simp [M0])⟩
   have hnd:=R.core.nd
   simp only [List.nodup_cons,List.mem_cons,List.not_mem_nil,or_false,not_or,not_false_eq_true,List.nodup_nil,and_true] at hnd
   obtain ⟨⟨a1,a2,a3⟩,⟨a4,a5⟩,a6⟩:=hnd
   have Rp:=hP1.rD (xs:=Pic) (left:=r.x) (top:=r.y) (fun z hz=>by rw [hrows.row z hz];exact hin.1) (by rw [hrows.len];exact hin.2)
   have C2:Core A H2 (M0 s x.k) s x.k { v with screen:={ v.screen with cells:=(Mir.aC P1 r.x r.y Pic).flatten } }:=by
    refine { wait:=sb2 _ _ C0.wait a4,gN:=C0.gN,cols:=C0.cols,rows:=C0.rows,side:=C0.side,cut:=C0.cut.ext e20,name:=C0.name.ext e20,bells:=C0.bells,jt:=C0.jt,left:=C0.left,pic:=?_,tab:=?_,form:=?_,nd:=C0.nd,mem:=C0.mem }
    ·refine ⟨rs2,_,⟨p2.lst,⟨p2.rows,fun q hq hm=>?_⟩,by simp [M0]⟩,Rp,rfl⟩
     rcases hr2 q hq with h | h | h
     ·exact p1.rows.fz q h hm
     ·exact nprs q h hm
     ·obtain ⟨o,e⟩:=C0.jr R.bK q hm
      rw [e] at h;cases h
    ·obtain ⟨ts,t1,t2⟩:=C0.tab
     exact ⟨ts,sb2 _ _ t1 (fun q=>a6 q.symm),t2.ext e20⟩
    ·intro q
     obtain ⟨fa,bits,f1,f2,f3⟩:=C0.form q
     exact ⟨fa,bits,f1,f2.ext e20,f3⟩
   exact ⟨_,rfl,s,dx,x,_,v0,M0 s x.k,rfl,⟨sb2 _ _ R.bK a2,C2,R.wrong,R.cu,R.run,R.o6⟩,rfl,hp,k.ext e2⟩
end
theorem ic (n m:Nat):decide (V.int (n:Int)=V.int (m:Int))=decide (n=m):=by
 rw [jv,Bool.eq_iff_iff,beq_iff_eq,decide_eq_true_eq]
 omega
theorem Rep.running {A:bI} {H:Hp} {s dx:Addr} {x:SF} {v:Viewer} {m:Mode} {M:List Addr} (R:Rep A H s dx x v m M) (h:mK m=.runs):cR A H M s dx x v:=by
 have e:v.stage=.runs:=R.lF.trans h
 have g:dC v.stage=true:=by rw [e];rfl
 exact ⟨R.bK,R.core,R.wrong,R.cu.trans g,e,R.run.mp g⟩
theorem nF {u:Viewer} (h:u.stage=.runs) (l:u.left=0):Mir.aY u=.kind:=by
 unfold Mir.aY
 rw [h]
 show (if 0 < u.left then Mode.rect else Mode.kind)=_
 rw [l]
 rfl
section
variable {P:Program} {w:World} {K:PySem.W.Frag} {mg:Str→Option Value} {base:Heap} {A:bI}
theorem uF (T:Txt P w K mg A):FnAt P w K mg base "take_kind" 2 ["session","words"] (dg A (·=.kind)):=by
 refine T.jS.at_ (fun _ _ _ _ _ _ us hl=>match us,hl with | [_,_],_=>rfl) fun f fd F=>?_
 refine F.ok oG (fun vs H Q E h=>?_) (fun cdv AA outer sh H vs Q E hr h=>?_)
 ·obtain ⟨s,dx,wd,x,ws,v,m,M,rfl,_⟩:=h
  rfl
 ·obtain ⟨s,dx,wd,x,ws,v,m,M,rfl,rfl,ti,k⟩:=h
  have R:=ti.rep
  have nd:=oG.nd
  have hl:ws.length=1:=ti.len
  have k':After A H s dx M v (if Sn44.high ws=0 then .cont .update else if Sn44.high ws=1 then .cont .table else if Sn44.high ws=2 then .done { v with bells:=(v.bells + 1) % 2 ^ 31 } else if Sn44.high ws=3 then .cont .cutLen else .bad 6) Q:=k
  rw [rQ hl] at k'
  refine ⟨_,ab (aI (i:=2) nd rfl (Or.inl rfl) (cN bq (pv 1) ai (fun _ _=>rfl)))
   (ak (aX (aQ d_ (pv 2) (a_ T.oR rfl) (aT _)) (ak (az (bF (bf T) T.af hr (pv 0) (aa cv (aa ai ah)))))
   (ak (aX (aQ d_ (pv 2) (a_ T.qI rfl) (aT _)) (ak (az (bF (bf T) T.af hr (pv 0) (aa cv (aa ai ah)))))
   (ak (aX (aQ d_ (pv 2) (a_ T.uv rfl) (aT _)) (ab (az (pG (sJ T) T.af hr (pv 0))) (ak (az (bF (bf T) T.af hr (pv 0) (aa cv (aa ai ah))))))
   (ak (aX (aQ d_ (pv 2) (a_ T.kW rfl) (aT _)) (ak (az (bF (bf T) T.af hr (pv 0) (aa cv (aa ai ah)))))
   (ak (az (bF (d8 T) T.af hr (pv 0) (aa ai ah)))))))))))),?_⟩
  refine ⟨_,rfl,wd,_,_,_,rfl,rfl,bV.of ti.words.1,j5 (i:=0) rfl (by omega),?_⟩
  have run:=R.running rfl
  have l0:v.left=0:=R.lG
  generalize ws.getD 0 0=n at k' ⊢
  refine ⟨_,rfl,rfl,_,rfl,?_⟩
  rw [show (V.int 0)=V.int ((0:Nat):Int) from rfl,ic]
  by_cases c0:n=0
  ·rw [if_pos c0] at k'
   rw [decide_eq_true c0]
   exact cG ⟨_,rfl,s,dx,_,rfl,R.bK,rfl,s,dx,x,_,3,rfl,R.bK,k'.expect (.refl H M) R.core rfl rfl R.wrong R.cu R.nd R.mode R.run R.lF R.lG⟩
  rw [if_neg c0] at k'
  rw [decide_eq_false c0]
  refine cE ⟨_,rfl,rfl,_,rfl,?_⟩
  rw [show (V.int 1)=V.int ((1:Nat):Int) from rfl,ic]
  by_cases c1:n=1
  ·rw [if_pos c1] at k'
   rw [decide_eq_true c1]
   exact cG ⟨_,rfl,s,dx,_,rfl,R.bK,rfl,s,dx,x,_,5,rfl,R.bK,k'.expect (.refl H M) R.core rfl rfl R.wrong R.cu R.nd R.mode R.run R.lF R.lG⟩
  rw [if_neg c1] at k'
  rw [decide_eq_false c1]
  refine cE ⟨_,rfl,rfl,_,rfl,?_⟩
  rw [show (V.int 2)=V.int ((2:Nat):Int) from rfl,ic]
  by_cases c2:n=2
  ·rw [if_pos c2] at k'
   rw [decide_eq_true c2]
   refine cG ⟨_,rfl,s,dx,_,rfl,R.bK,rfl,s,dx,x,rfl,R.bK,?_⟩
   have C1:Core A (upd H s (.ins A.ag dx (SF.fs { x with k:={ x.k with bells:=(x.k.bells + 1) % 2 ^ 31 } }))) M s ({ x with k:={ x.k with bells:=(x.k.bells + 1) % 2 ^ 31 } }:SF).k { v with bells:=(v.bells + 1) % 2 ^ 31 }:=by
    have C:=R.core.j8 (o:=.ins A.ag dx (SF.fs { x with k:={ x.k with bells:=(x.k.bells + 1) % 2 ^ 31 } }))
    exact ⟨C.wait,C.gN,C.cols,C.rows,C.side,C.cut,C.name,by show (x.k.bells + 1) % 2 ^ 31=_;rw [C.bells],C.jt,C.left,C.pic,C.tab,C.form,C.nd,C.mem⟩
   have sm:Mir.aY { v with bells:=(v.bells + 1) % 2 ^ 31 }=.kind:=nF (u:={ v with bells:=(v.bells + 1) % 2 ^ 31 }) run.run l0
   refine ⟨_,rfl,s,dx,_,rfl,ae,rfl,s,dx,_,_,1,rfl,ae,?_⟩
   exact k'.done (.upd R.core.eo) C1 (by rw [sm];rfl) (by rw [sm];rfl) R.wrong R.cu R.nd R.mode R.run (by rw [show ({ v with bells:=(v.bells + 1) % 2 ^ 31 }:Viewer).stage=.runs from run.run];rfl) (fun _=>l0)
  rw [if_neg c2] at k'
  rw [decide_eq_false c2]
  refine cE ⟨_,rfl,rfl,_,rfl,?_⟩
  rw [show (V.int 3)=V.int ((3:Nat):Int) from rfl,ic]
  by_cases c3:n=3
  ·rw [if_pos c3] at k'
   rw [decide_eq_true c3]
   exact cG ⟨_,rfl,s,dx,_,rfl,R.bK,rfl,s,dx,x,_,7,rfl,R.bK,k'.expect (.refl H M) R.core rfl rfl R.wrong R.cu R.nd R.mode R.run R.lF R.lG⟩
  rw [if_neg c3] at k'
  rw [decide_eq_false c3]
  exact cE ⟨_,rfl,s,dx,_,rfl,R.bK,rfl,s,dx,x,6,rfl,R.bK,k'.fail (.refl H M) R.core (by decide)⟩
theorem rS (T:Txt P w K mg A):FnAt P w K mg base "take_update" 4 ["session","words"] (dg A (·=.update)):=by
 refine T.g9.at_ (fun _ _ _ _ _ _ us hl=>match us,hl with | [_,_],_=>rfl) fun f fd F=>?_
 refine F.ok rH (fun vs H Q E h=>?_) (fun cdv AA outer sh H vs Q E hr h=>?_)
 ·obtain ⟨s,dx,wd,x,ws,v,m,M,rfl,_⟩:=h
  rfl
 ·obtain ⟨s,dx,wd,x,ws,v,m,M,rfl,rfl,ti,k⟩:=h
  have R:=ti.rep
  have run:=R.running rfl
  have k':After A H s dx M v (.done ({ v with left:=Mir.sub ws 1 2 }.whole)) Q:=k
  refine ⟨_,ab (aJ (pv 0) (aK (aN T) (hr.mono (by decide)) rfl (aa (pv 1) (aa ai (aa ai ah)))) rfl) (ak (az (aK (j9 T) hr rfl (aa (pv 0) ah)))),?_⟩
  refine ⟨_,rfl,wd,ws,1,2,rfl,bV.of ti.words.1,fun H1 s1=>?_⟩
  have C1:=R.core.same s1
  refine ⟨_,rfl,s,A.ag,dx,_,rfl,s1 _ _ R.bK,T.af,T.br,by show 20 < 1000;decide,?_⟩
  rw [show bH "rectangles_left" (.int (Mir.sub ws 1 2:Nat)) x.fs=SF.fs { x with k:={ x.k with left:=Mir.sub ws 1 2 } } from rfl]
  exact ⟨_,rfl,s,dx,{ x with k:={ x.k with left:=Mir.sub ws 1 2 } },{ v with left:=Mir.sub ws 1 2 },v,M,rfl,⟨ae,(C1.j8).yU,R.wrong,run.cu,run.run,run.o6⟩,R.mode,k'.ext ((Ext.of_same s1).trans (.upd R.core.eo))⟩
theorem nG (T:Txt P w K mg A):FnAt P w K mg base "take_cut_length" 2 ["session","words"] (dg A (·=.cutLen)):=by
 refine T.fh.at_ (fun _ _ _ _ _ _ us hl=>match us,hl with | [_,_],_=>rfl) fun f fd F=>?_
 refine F.ok jl (fun vs H Q E h=>?_) (fun cdv AA outer sh H vs Q E hr h=>?_)
 ·obtain ⟨s,dx,wd,x,ws,v,m,M,rfl,_⟩:=h
  rfl
 ·obtain ⟨s,dx,wd,x,ws,v,m,M,rfl,rfl,ti,k⟩:=h
  have R:=ti.rep
  have nd:=jl.nd
  have k':After A H s dx M v (if Mir.sub ws 3 4≤65536 then .cont (.cutText (Mir.sub ws 3 4)) else .bad 6) Q:=k
  refine ⟨_,ab (aI (i:=2) nd rfl (Or.inl rfl) (aK (aN T) hr rfl (aa (pv 1) (aa ai (aa ai ah)))))
   (ab (aX (aQ qU (pv 2) (a_ T.eL rfl) (aT _)) (ab (az (bF (d8 T) T.af hr (pv 0) (aa ai ah))) (ak d5)) aP)
   (ak (az (bF (bf T) T.af hr (pv 0) (aa cv (aa (pv 2) ah)))))),?_⟩
  refine ⟨_,rfl,wd,ws,3,4,rfl,bV.of ti.words.1,fun H1 s1=>?_⟩
  have C1:=R.core.same s1
  have hs1:=s1 _ _ R.bK
  refine ⟨_,rfl,_,_,rfl,rfl,_,rfl,?_⟩
  show if decide ((65536:Int) < (Mir.sub ws 3 4:Int))=true then _ else _
  by_cases c:Mir.sub ws 3 4≤65536
  ·rw [if_pos c] at k'
   rw [if_neg (by simp;omega)]
   exact ⟨_,rfl,s,dx,_,rfl,hs1,rfl,_,rfl,s,dx,x,_,Mir.sub ws 3 4,rfl,hs1,k'.expect (.of_same s1) C1 rfl rfl R.wrong R.cu R.nd ⟨R.mode,c⟩ R.run R.lF R.lG⟩
  ·rw [if_neg c] at k'
   rw [if_pos (by simp;omega)]
   exact ⟨_,rfl,s,dx,_,rfl,hs1,rfl,s,dx,x,6,rfl,hs1,k'.fail (.of_same s1) C1 (by decide)⟩
theorem pL (T:Txt P w K mg A):FnAt P w K mg base "take_cut_text" 2 ["session","words"] (dg A (fun m=>∃n,m=.cutText n)):=by
 refine T.f9.at_ (fun _ _ _ _ _ _ us hl=>match us,hl with | [_,_],_=>rfl) fun f fd F=>?_
 refine F.ok pI (fun vs H Q E h=>?_) (fun cdv AA outer sh H vs Q E hr h=>?_)
 ·obtain ⟨s,dx,wd,x,ws,v,m,M,rfl,_⟩:=h
  rfl
 ·obtain ⟨s,dx,wd,x,ws,v,m,M,rfl,⟨n,rfl⟩,ti,k⟩:=h
  have R:=ti.rep
  have run:=R.running rfl
  have l0:v.left=0:=R.lG
  have k':After A H s dx M v (.done { v with cut:=ws }) Q:=k
  refine ⟨_,ab (aJ (pv 0) (pv 1) rfl) (ak (az (bF (bf T) T.af hr (pv 0) (aa cv (aa ai ah))))),?_⟩
  refine ⟨_,rfl,_,rfl,s,A.ag,dx,_,rfl,R.bK,T.af,T.ck,by show 20 < 1000;decide,?_⟩
  rw [show bH "cut_text" (.ref wd) x.fs=SF.fs { x with k:={ x.k with cut:=wd } } from rfl]
  have eU:=Ext.upd (H:=H) (o:=.ins A.ag dx (SF.fs { x with k:={ x.k with cut:=wd } })) R.core.eo
  have C1:Core A (upd H s (.ins A.ag dx (SF.fs { x with k:={ x.k with cut:=wd } }))) M s ({ x with k:={ x.k with cut:=wd } }:SF).k { v with cut:=ws }:=by
   have C:=R.core.j8 (o:=.ins A.ag dx (SF.fs { x with k:={ x.k with cut:=wd } }))
   exact ⟨C.wait,C.gN,C.cols,C.rows,C.side,ti.words.ext eU,C.name,C.bells,C.jt,C.left,C.pic,C.tab,C.form,C.nd,C.mem⟩
  have sm:Mir.aY { v with cut:=ws }=.kind:=nF (u:={ v with cut:=ws }) run.run l0
  refine ⟨_,rfl,s,dx,_,rfl,ae,rfl,s,dx,_,_,1,rfl,ae,?_⟩
  exact k'.done eU C1 (by rw [sm];rfl) (by rw [sm];rfl) R.wrong R.cu R.nd R.mode.1 R.run (by rw [show ({ v with cut:=ws }:Viewer).stage=.runs from run.run];rfl) (fun _=>l0)
theorem sL (T:Txt P w K mg A):FnAt P w K mg base "take_table" 2 ["session","words"] (dg A (·=.table)):=by
 refine T.iU.at_ (fun _ _ _ _ _ _ us hl=>match us,hl with | [_,_],_=>rfl) fun f fd F=>?_
 refine F.ok mV (fun vs H Q E h=>?_) (fun cdv AA outer sh H vs Q E hr h=>?_)
 ·obtain ⟨s,dx,wd,x,ws,v,m,M,rfl,_⟩:=h
  rfl
 ·obtain ⟨s,dx,wd,x,ws,v,m,M,rfl,rfl,ti,k⟩:=h
  have R:=ti.rep
  have nd:=mV.nd
  have run:=R.running rfl
  have k':After A H s dx M v (if v.screen.form.parts=false∧Mir.sub ws 1 2 + Mir.sub ws 3 2≤256 then .cont (.colours (Mir.sub ws 1 2) (Mir.sub ws 3 2)) else .bad 6) Q:=k
  obtain ⟨fa,bits,f1,f2,f3⟩:=R.core.form run.o6
  obtain ⟨fdx,gr,sh1,z1,z2,z3,z4⟩:=f2
  refine ⟨_,ab (aI (i:=2) nd rfl (Or.inl rfl) (aK (aN T) hr rfl (aa (pv 1) (aa ai (aa ai ah)))))
   (ab (aI (i:=3) nd rfl (Or.inl rfl) (aK (aN T) hr rfl (aa (pv 1) (aa ai (aa ai ah)))))
   (ab (aX (PW.pt (AG (ka (aq (aq (pv 0) rfl) rfl)) (wH (aQ qU (aH bA (pv 2) (pv 3)) (a_ T.ko rfl) (aT _))))) (ab (az (bF (d8 T) T.af hr (pv 0) (aa ai ah))) (ak d5)) aP)
   (ab (aJ (pv 0) (pv 2) rfl)
   (ak (az (bF (bf T) T.af hr (pv 0) (aa cv (aa (aH gc ai (pv 3)) ah)))))))),?_⟩
  refine ⟨_,rfl,wd,ws,1,2,rfl,bV.of ti.words.1,fun H1 s1=>?_⟩
  refine ⟨_,rfl,wd,ws,3,2,rfl,bV.of (s1 _ _ ti.words.1),fun H2 s2=>?_⟩
  have S:=s1.trans s2
  have C2:=R.core.same S
  have hs2:=S _ _ R.bK
  refine ⟨_,rfl,s,A.ag,dx,_,_,rfl,hs2,T.af,T.aL,rfl,?_⟩
  rw [show x.k.form=V.ref fa from f1]
  refine ⟨fa,A.Form,fdx,_,_,rfl,S _ _ z1.1,T.bB,T.c_,rfl,_,rfl,?_⟩
  show if v.screen.form.parts=true then _ else _
  cases hp:v.screen.form.parts with
  | true=>
   rw [hp,if_neg (by simp)] at k'
   refine cG ?_
   exact cG ⟨_,rfl,s,dx,_,rfl,hs2,rfl,s,dx,x,6,rfl,hs2,k'.fail (.of_same S) C2 (by decide)⟩
  | false=>
   rw [hp] at k'
   refine cE ?_
   refine ⟨_,rfl,_,rfl,_,_,rfl,rfl,_,_,rfl,rfl,_,rfl,?_⟩
   show if decide ((256:Int) < (Mir.sub ws 1 2:Int) + (Mir.sub ws 3 2:Int))=true then _ else _
   by_cases c:Mir.sub ws 1 2 + Mir.sub ws 3 2≤256
   ·rw [if_pos ⟨rfl,c⟩] at k'
    rw [if_neg (by simp;omega)]
    refine ⟨_,rfl,_,rfl,s,A.ag,dx,_,rfl,hs2,T.af,T.bY,by show 20 < 1000;decide,?_⟩
    rw [show bH "first_colour" (.int (Mir.sub ws 1 2:Nat)) x.fs=SF.fs { x with first:=Mir.sub ws 1 2 } from rfl]
    refine ⟨_,rfl,s,dx,_,rfl,ae,rfl,_,rfl,_,_,rfl,rfl,.inl ⟨by decide,by decide⟩,s,dx,{ x with first:=Mir.sub ws 1 2 },_,6 * Mir.sub ws 3 2,rfl,ae,?_⟩
    exact k'.expect (x:={ x with first:=Mir.sub ws 1 2 }) ((Ext.of_same S).trans (.upd R.core.eo)) C2.j8 rfl rfl R.wrong R.cu R.nd ⟨R.mode,rfl,c,hp⟩ R.run R.lF R.lG
   ·rw [if_neg (fun q=>c q.2)] at k'
    rw [if_pos (by simp;omega)]
    exact ⟨_,rfl,s,dx,_,rfl,hs2,rfl,s,dx,x,6,rfl,hs2,k'.fail (.of_same S) C2 (by decide)⟩
end
def sN (tb:List (List Nat)) (i n j:Nat) (ws:List Nat):List (List Nat):=tb.take i++((Mir.ents n ws).take j++tb.drop (i + j))
theorem rT (n:Nat) (ws:List Nat):(Mir.ents n ws).length=n:=by simp [Mir.ents]
theorem Ad {tb:List (List Nat)} {i n j:Nat} {ws:List Nat} (h:j < n) (hl:i + n≤tb.length):sN tb i n (j + 1) ws=(sN tb i n j ws).set (i + j) [Mir.sub ws (6 * j) 2,Mir.sub ws (6 * j + 2) 2,Mir.sub ws (6 * j + 4) 2]:=by
 unfold sN
 have e:(Mir.ents n ws)[j]?=some [Mir.sub ws (6 * j) 2,Mir.sub ws (6 * j + 2) 2,Mir.sub ws (6 * j + 4) 2]:=by
  unfold Mir.ents
  rw [List.getElem?_map,List.getElem?_range h]
  rfl
 rw [take_snoc e]
 have l1:(tb.take i).length=i:=by rw [List.length_take];omega
 have l2:((Mir.ents n ws).take j).length=j:=by rw [List.length_take,rT];omega
 rw [List.set_append_right _ _ (by rw [l1];omega),l1,Nat.add_sub_cancel_left,List.set_append_right _ _ (by rw [l2];exact Nat.le_refl _),l2,Nat.sub_self]
 have e2:tb.drop (i + j)=tb[i + j]'(by omega) :: tb.drop (i + (j + 1)):=List.drop_eq_getElem_cons (by omega)
 rw [e2,List.set_cons_zero,List.append_assoc]
 rfl
theorem wb {tb:List (List Nat)} {i n j:Nat} {ws:List Nat} (h:j≤n) (hl:i + n≤tb.length):(sN tb i n j ws).length=tb.length:=by
 unfold sN
 rw [List.length_append,List.length_append,List.length_take,List.length_take,List.length_drop,rT]
 omega
theorem Ae (tb:List (List Nat)) (i n:Nat) (ws:List Nat):sN tb i n 0 ws=tb:=by
 unfold sN
 rw [List.take_zero,List.nil_append,Nat.add_zero,List.take_append_drop]
theorem TabAt.set {H:Hp} {M:List Addr} {ts:List Addr} {tb:List (List Nat)} {j:Nat} {q:Addr} {x:List Nat} (R:TabAt H M ts tb) (h:Fz H M q (.tup (nI x))):TabAt H M (ts.set j q) (tb.set j x):=by
 refine ⟨by simp [R.len],fun i r e=>?_⟩
 rw [List.getElem?_set] at e
 by_cases c:j=i
 ·subst c
  rw [if_pos rfl] at e
  split at e
  ·rename_i c2
   cases e
   rw [List.getD_eq_getElem?_getD,List.getElem?_set_self (by rw [← R.len];exact c2)]
   exact h
  ·cases e
 ·rw [if_neg c] at e
  rw [List.getD_eq_getElem?_getD,List.getElem?_set_ne c,← List.getD_eq_getElem?_getD]
  exact R.at_ i r e
section
variable {P:Program} {w:World} {K:PySem.W.Frag} {mg:Str→Option Value} {base:Heap} {A:bI}
theorem qv (T:Txt P w K mg A):FnAt P w K mg base "take_colours" 2 ["session","words"] (dg A (fun m=>∃i n,m=.colours i n)):=by
 refine T.gD.at_ (fun _ _ _ _ _ _ us hl=>match us,hl with | [_,_],_=>rfl) fun f fd F=>?_
 refine F.ok ly (fun vs H Q E h=>?_) (fun cdv AA outer sh H vs Q E hr h=>?_)
 ·obtain ⟨s,dx,wd,x,ws,v,m,M,rfl,_⟩:=h
  rfl
 ·obtain ⟨s,dx,wd,x,ws,v,m,M,rfl,⟨i,n,rfl⟩,ti,k⟩:=h
  have R:=ti.rep
  have nd:=ly.nd
  have run:=R.running rfl
  have l0:v.left=0:=R.lG
  have hl:ws.length=6 * n:=ti.len
  obtain ⟨hM,hf,hin,hpt⟩:=R.mode
  have k':After A H s dx M v (.done { v with screen:={ v.screen with table:=v.screen.table.take i++(Mir.ents n ws++v.screen.table.drop (i + n)) } }) Q:=k
  obtain ⟨fa,bits,f1,f2,f3,f4⟩:=R.core.form run.o6
  have tl:v.screen.table.length=256:=f4 hpt
  obtain ⟨ts,t1,t2⟩:=R.core.tab
  have hnd:=R.core.nd
  simp only [List.nodup_cons,List.mem_cons,List.not_mem_nil,or_false,not_or,not_false_eq_true,List.nodup_nil,and_true] at hnd
  obtain ⟨⟨a1,a2,a3⟩,⟨a4,a5⟩,a6⟩:=hnd
  refine ⟨_,ab (kE PassesOwn.never rfl (pC rfl T.ia (aa ai (aa (bZ bj (by rfl) T.fQ PySem.boot_len (aa (pv 1) ah)) (aa ai ah)))) (di (i:=2) nd rfl (Or.inl rfl))
   (ab (aI (i:=3) nd rfl (Or.inl rfl) (tR (aa (aK (aN T) hr rfl (aa (pv 1) (aa (pv 2) (aa ai ah)))) (aa (aK (aN T) hr rfl (aa (pv 1) (aa (aH bA (pv 2) ai) (aa ai ah)))) (aa (aK (aN T) hr rfl (aa (pv 1) (aa (aH bA (pv 2) ai) (aa ai ah)))) ah)))))
   (ak (wK (pv 3) (wJ (aq (pv 0) rfl) (aH bA (aq (pv 0) rfl) (aH nU (pv 2) ai)) set_list)))))
   (ak (az (bF (bf T) T.af hr (pv 0) (aa cv (aa ai ah))))),?_⟩
  refine ⟨_,rfl,wd,_,rfl,.inl (bV.of ti.words.1),_,_,_,n,rfl,?_,?_⟩
  ·rw [aU,hl]
   exact yO (n:=n) (c:=6) (by omega) (by omega) (by rw [Nat.mul_comm]) rfl
  refine xf (n:=n) (fun j σ H'=>∃(u z:Option V) (ts':List Addr),σ=[some (.ref s),some (.ref wd),u,z]∧H' x.k.table=some (.lst (ts'.map V.ref))∧TabAt H' M ts' (sN v.screen.table i n j ws)∧SameBut H H' (·=x.k.table)) ?_ ?_ ?_
  ·exact ⟨none,none,ts,rfl,t1,by rw [Ae];exact t2,fun b o e _=>e⟩
  ·rintro j σ H' hj ⟨u,z,ts',rfl,g1,g2,sb⟩
   have nwt:wd≠x.k.table:=fun e=>ti.words.2 (by rw [e];exact R.core.mem _ (by simp))
   have hw:=sb _ _ ti.words.1 nwt
   have hs:=sb _ _ R.bK a3
   have ez:((0:Int) + ((j:Nat):Int) * 6)=((6 * j:Nat):Int):=by omega
   have ez2:((0:Int) + ((j:Nat):Int) * 6) + 2=((6 * j + 2:Nat):Int):=by omega
   have ez4:((0:Int) + ((j:Nat):Int) * 6) + 4=((6 * j + 4:Nat):Int):=by omega
   refine ⟨_,rfl,_,rfl,wd,ws,6 * j,2,by rw [← ez];rfl,bV.of hw,fun H1 s1=>⟨_,rfl,_,rfl,_,_,rfl,rfl,wd,ws,6 * j + 2,2,by rw [← ez2];rfl,bV.of (s1 _ _ hw),fun H2 s2=>⟨_,rfl,_,rfl,_,_,rfl,rfl,wd,ws,6 * j + 4,2,by rw [← ez4];rfl,bV.of (s2 _ _ (s1 _ _ hw)),fun H3 s3=>⟨by show 3≤sizeLine;decide,fun q hq=>?_⟩⟩⟩⟩
   have s4:=ay (o:=.tup [V.int (Mir.sub ws (6 * j) 2:Nat),V.int (Mir.sub ws (6 * j + 2) 2:Nat),V.int (Mir.sub ws (6 * j + 4) 2:Nat)]) hq
   have S:=s1.trans (s2.trans (s3.trans s4))
   have lt':ts'.length=256:=by rw [g2.len,wb (by omega) (by omega),tl]
   refine ⟨_,rfl,_,rfl,s,A.ag,dx,_,_,rfl,S _ _ hs,T.af,T.da,rfl,_,rfl,s,A.ag,dx,_,_,rfl,S _ _ hs,T.af,T.bY,rfl,_,rfl,_,_,rfl,rfl,⟨by decide,by decide⟩,_,_,rfl,rfl,x.k.table,_,_,i + j,rfl,rfl,S _ _ g1,?_,?_⟩
   ·rw [List.length_map,lt',hf,show ((i:Int) + ((0:Int) + ((j:Nat):Int) * 6) / 6)=((i + j:Nat):Int) by omega]
    exact ux (by omega)
   ·have nqM:q∉M:=fun hm=>by
     rw [hM] at hm
     obtain ⟨o,e⟩:=R.core.jr R.bK q hm
     by_cases c:q=x.k.table
     ·have:=S.free (l:=q)
      rw [c] at hq
      rw [(s1.trans (s2.trans s3)) _ _ g1] at hq
      cases hq
     ·rw [(s1.trans (s2.trans s3)) _ _ (sb _ _ e c)] at hq
      cases hq
    refine ⟨_,_,ts'.set (i + j) q,rfl,?_,?_,?_⟩
    ·rw [ae,nX]
    ·rw [Ad hj (by omega)]
     have e1:Ext H' M (upd (upd H3 q (.tup [V.int (Mir.sub ws (6 * j) 2:Nat),V.int (Mir.sub ws (6 * j + 2) 2:Nat),V.int (Mir.sub ws (6 * j + 4) 2:Nat)])) x.k.table (.lst ((ts'.map V.ref).set (i + j) (V.ref q)))) M:=(Ext.of_same S).trans (.upd (R.core.mem _ (by simp)))
     refine (g2.ext e1).set ⟨?_,nqM⟩
     have nqt:q≠x.k.table:=fun e=>nqM (by rw [e];exact R.core.mem _ (by simp))
     rw [aj nqt,ae]
     rfl
    ·intro b o e nb
     rw [aj nb]
     exact S _ _ (sb _ _ e nb)
  ·rintro σ H' ⟨u,z,ts',rfl,g1,g2,sb⟩
   have hs:=sb _ _ R.bK a3
   have e1:Ext H M H' M:=.fA sb fun b q=>by rw [q];exact R.core.mem _ (by simp)
   have et:sN v.screen.table i n n ws=v.screen.table.take i++(Mir.ents n ws++v.screen.table.drop (i + n)):=by
    unfold sN
    rw [List.take_of_length_le (l:=Mir.ents n ws) (by rw [rT];exact Nat.le_refl _)]
   rw [et] at g2
   have C1:Core A H' M s x.k { v with screen:={ v.screen with table:=v.screen.table.take i++(Mir.ents n ws++v.screen.table.drop (i + n)) } }:=by
    have C:=R.core
    refine ⟨sb _ _ C.wait a5,C.gN,C.cols,C.rows,C.side,C.cut.ext e1,C.name.ext e1,C.bells,C.jt,C.left,?_,⟨ts',g1,g2⟩,fun q=>⟨fa,bits,f1,f2.ext e1,f3,fun _=>?_⟩,C.nd,C.mem⟩
    ·obtain ⟨rs,P0,p0,h0,c0⟩:=C.pic
     exact ⟨rs,P0,⟨sb _ _ p0.lst a6,p0.rows.ext e1,p0.mem⟩,h0,c0⟩
    ·have:=wb (tb:=v.screen.table) (i:=i) (n:=n) (j:=n) (ws:=ws) (Nat.le_refl _) (by omega)
     rw [et,tl] at this
     exact this
   have sm:Mir.aY { v with screen:={ v.screen with table:=v.screen.table.take i++(Mir.ents n ws++v.screen.table.drop (i + n)) } }=.kind:=nF (u:={ v with screen:={ v.screen with table:=v.screen.table.take i++(Mir.ents n ws++v.screen.table.drop (i + n)) } }) run.run l0
   refine ⟨_,rfl,s,dx,_,rfl,hs,rfl,s,dx,x,_,1,rfl,hs,?_⟩
   exact k'.done e1 C1 (by rw [sm];rfl) (by rw [sm];rfl) R.wrong R.cu R.nd hM R.run (by show Mir.dJ v.stage=false;rw [run.run];rfl) (fun _=>l0)
end
theorem xN {v:Viewer} {r:Rect} {Pic:List (List Nat)} {B:List (List Nat)} (hB:Mir.Rows v.screen.w v.screen.h B) (cB:v.screen.cells=B.flatten) (hp:Mir.Rows r.w r.h Pic) (hin:gi v r):Drawn v r Pic (v.screen.draw r Pic.flatten):=
 ⟨B,hB,cB,Mir.mn hB cB hp hin.1 hin.2⟩
section
variable {P:Program} {w:World} {K:PySem.W.Frag} {mg:Str→Option Value} {base:Heap} {A:bI}
def xO (A:bI):Sp:=fun vs H Q _=>∃(p dx a:Addr) (ws:List Nat),vs=[.ref p,.ref a]∧H p=some (.ins A.ao dx [])∧H a=some (.lst (nI ws))∧
 ∀H' pc,H' p=some (.ins A.ao dx (RF.fs ⟨Mir.sub ws 0 2,Mir.sub ws 2 2,Mir.sub ws 4 2,Mir.sub ws 6 2,Mir.sub ws 8 4,pc,0,0,0,.cD⟩))→H pc=none→pc≠p→H' pc=some (.lst [])→SameBut H H' (·=p)→Q .cD H'
theorem uG (T:Txt P w K mg A):xr P w K mg base A.ao "Rectangle" 2 ["self","words"] (xO A):=by
 refine T.jY.at_ (fun _ _ _ _ _ _ us hl=>match us,hl with | [_,_],_=>rfl) fun f fd F=>?_
 refine F.ok oO (fun vs H Q E h=>?_) (fun cdv AA outer sh H vs Q E hr h=>?_)
 ·obtain ⟨p,dx,a,ws,rfl,_⟩:=h
  rfl
 ·obtain ⟨p,dx,a,ws,rfl,hp,ha,k⟩:=h
  have tc:=T.au
  have npa:a≠p:=CI ha hp (by intro z;cases z)
  refine ⟨_,ab (aJ (pv 0) (aK (aN T) hr rfl (aa (pv 1) (aa ai (aa ai ah)))) rfl)
   (ab (aJ (pv 0) (aK (aN T) hr rfl (aa (pv 1) (aa ai (aa ai ah)))) rfl)
   (ab (aJ (pv 0) (aK (aN T) hr rfl (aa (pv 1) (aa ai (aa ai ah)))) rfl)
   (ab (aJ (pv 0) (aK (aN T) hr rfl (aa (pv 1) (aa ai (aa ai ah)))) rfl)
   (ab (aJ (pv 0) (aK (aN T) hr rfl (aa (pv 1) (aa ai (aa ai ah)))) rfl)
   (ab (aJ (pv 0) (b0 ah) rfl) (ab (aJ (pv 0) ai rfl) (ab (aJ (pv 0) ai rfl) (ab (aJ (pv 0) ai rfl) (ak (aJ (pv 0) wF rfl)))))))))),?_⟩
  refine ⟨_,rfl,a,ws,0,2,rfl,bV.of ha,fun H1 s1=>?_⟩
  refine ⟨_,rfl,p,A.ao,dx,_,rfl,s1 _ _ hp,tc,T.cM,by show 0 < 1000;decide,?_⟩
  rw [show bH "left" (V.int (Mir.sub ws 0 2:Nat)) []=([("left",V.int (Mir.sub ws 0 2:Nat))]:List (Str × V)) from rfl]
  have ha1:∀{o},upd H1 p o a=some (.lst (nI ws)):=by intro o;rw [aj npa];exact s1 _ _ ha
  refine ⟨_,rfl,a,ws,2,2,rfl,bV.of ha1,fun H2 s2=>?_⟩
  refine ⟨_,rfl,p,A.ao,dx,_,rfl,s2 _ _ ae,tc,T.de,by show 1 < 1000;decide,?_⟩
  rw [show bH "top" (V.int (Mir.sub ws 2 2:Nat)) [("left",V.int (Mir.sub ws 0 2:Nat))]=([("left",V.int (Mir.sub ws 0 2:Nat)),("top",V.int (Mir.sub ws 2 2:Nat))]:List (Str × V)) from rfl]
  have ha2:∀{o},upd H2 p o a=some (.lst (nI ws)):=by intro o;rw [aj npa];exact s2 _ _ ha1
  refine ⟨_,rfl,a,ws,4,2,rfl,bV.of ha2,fun H3 s3=>?_⟩
  refine ⟨_,rfl,p,A.ao,dx,_,rfl,s3 _ _ ae,tc,T.aZ,by show 2 < 1000;decide,?_⟩
  rw [show bH "width" (V.int (Mir.sub ws 4 2:Nat)) [("left",V.int (Mir.sub ws 0 2:Nat)),("top",V.int (Mir.sub ws 2 2:Nat))]=([("left",V.int (Mir.sub ws 0 2:Nat)),("top",V.int (Mir.sub ws 2 2:Nat)),("width",V.int (Mir.sub ws 4 2:Nat))]:List (Str × V)) from rfl]
  have ha3:∀{o},upd H3 p o a=some (.lst (nI ws)):=by intro o;rw [aj npa];exact s3 _ _ ha2
  refine ⟨_,rfl,a,ws,6,2,rfl,bV.of ha3,fun H4 s4=>?_⟩
  refine ⟨_,rfl,p,A.ao,dx,_,rfl,s4 _ _ ae,tc,T.aS,by show 3 < 1000;decide,?_⟩
  rw [show bH "height" (V.int (Mir.sub ws 6 2:Nat)) [("left",V.int (Mir.sub ws 0 2:Nat)),("top",V.int (Mir.sub ws 2 2:Nat)),("width",V.int (Mir.sub ws 4 2:Nat))]=([("left",V.int (Mir.sub ws 0 2:Nat)),("top",V.int (Mir.sub ws 2 2:Nat)),("width",V.int (Mir.sub ws 4 2:Nat)),("height",V.int (Mir.sub ws 6 2:Nat))]:List (Str × V)) from rfl]
  have ha4:∀{o},upd H4 p o a=some (.lst (nI ws)):=by intro o;rw [aj npa];exact s4 _ _ ha3
  refine ⟨_,rfl,a,ws,8,4,rfl,bV.of ha4,fun H5 s5=>?_⟩
  refine ⟨_,rfl,p,A.ao,dx,_,rfl,s5 _ _ ae,tc,T.bx,by show 4 < 1000;decide,?_⟩
  rw [show bH "coding" (V.int (Mir.sub ws 8 4:Nat)) [("left",V.int (Mir.sub ws 0 2:Nat)),("top",V.int (Mir.sub ws 2 2:Nat)),("width",V.int (Mir.sub ws 4 2:Nat)),("height",V.int (Mir.sub ws 6 2:Nat))]=([("left",V.int (Mir.sub ws 0 2:Nat)),("top",V.int (Mir.sub ws 2 2:Nat)),("width",V.int (Mir.sub ws 4 2:Nat)),("height",V.int (Mir.sub ws 6 2:Nat)),("coding",V.int (Mir.sub ws 8 4:Nat))]:List (Str × V)) from rfl]
  have keep5:SameBut H H5 (·=p):=fun b o e nb=>s5 _ _ (by rw [aj nb];exact s4 _ _ (by rw [aj nb];exact s3 _ _ (by rw [aj nb];exact s2 _ _ (by rw [aj nb];exact s1 _ _ e))))
  refine ⟨Nat.zero_le _,fun pc hpc=>?_⟩
  obtain ⟨m1,f1⟩:=aR hpc
  have fH:H pc=none:=by
   cases q:H pc with
   | none=>rfl
   | some o=>rw [keep5 _ _ q m1] at f1;cases f1
  refine ⟨_,rfl,p,A.ao,dx,_,rfl,by rw [aj m1.symm];exact ae,tc,T.bc,by show 5 < 1000;decide,?_⟩
  rw [j6 m1,show bH "picture" (V.ref pc) [("left",V.int (Mir.sub ws 0 2:Nat)),("top",V.int (Mir.sub ws 2 2:Nat)),("width",V.int (Mir.sub ws 4 2:Nat)),("height",V.int (Mir.sub ws 6 2:Nat)),("coding",V.int (Mir.sub ws 8 4:Nat))]=([("left",V.int (Mir.sub ws 0 2:Nat)),("top",V.int (Mir.sub ws 2 2:Nat)),("width",V.int (Mir.sub ws 4 2:Nat)),("height",V.int (Mir.sub ws 6 2:Nat)),("coding",V.int (Mir.sub ws 8 4:Nat)),("picture",V.ref pc)]:List (Str × V)) from rfl]
  refine ⟨_,rfl,p,A.ao,dx,_,rfl,ae,tc,T.bt,by show 6 < 1000;decide,?_⟩
  rw [bg]
  refine ⟨_,rfl,p,A.ao,dx,_,rfl,ae,tc,T.dq,by show 7 < 1000;decide,?_⟩
  rw [bg]
  refine ⟨_,rfl,p,A.ao,dx,_,rfl,ae,tc,T.cY,by show 8 < 1000;decide,?_⟩
  rw [bg]
  refine ⟨_,rfl,p,A.ao,dx,_,rfl,ae,tc,T.bC,by show 9 < 1000;decide,?_⟩
  rw [bg]
  refine k _ pc ae fH m1 ?_ ?_
  ·rw [aj m1]
   exact ae
  ·intro b o e nb
   rw [aj nb]
   exact ay f1 _ _ (keep5 _ _ e nb)
def xP (A:bI):Sp:=fun vs H Q _=>∃s dx x rc dr y r l t,vs=[.ref s,.int ((l:Nat):Int),.int ((t:Nat):Int)]∧en A H s dx x∧dY A H x rc dr y r∧Q (.bl (decide (l + r.w≤x.k.columns) && decide (t + r.h≤x.k.rows))) H
theorem oW (T:Txt P w K mg A):FnAt P w K mg base "on_screen" 2 ["session","left","top"] (xP A):=by
 refine T.jV.at_ (fun _ _ _ _ _ _ us hl=>match us,hl with | [_,_,_],_=>rfl) fun f fd F=>?_
 refine F.ok oJ (fun vs H Q E h=>?_) (fun cdv AA outer sh H vs Q E hr h=>?_)
 ·obtain ⟨s,dx,x,rc,dr,y,r,l,t,rfl,_⟩:=h
  rfl
 ·obtain ⟨s,dx,x,rc,dr,y,r,l,t,rfl,hs,hrc,k⟩:=h
  have nd:=oJ.nd
  refine ⟨_,ab (aI (i:=3) nd rfl (Or.inl rfl) (aq (pv 0) rfl)) (ak (aW (aK (pK T) hr rfl (aa (pv 1) (aa (pv 2) (aa (aq (pv 3) rfl) (aa (aq (pv 3) rfl) (aa (aq (pv 0) rfl) (aa (aq (pv 0) rfl) ah))))))))),?_⟩
  refine ⟨_,rfl,s,A.ag,dx,_,_,rfl,hs,T.af,T.aF,rfl,?_⟩
  rw [hrc.ref]
  refine ⟨_,rfl,_,rfl,_,rfl,rc,A.ao,dr,_,_,rfl,hrc.at_,T.au,T.aZ,rfl,_,rfl,rc,A.ao,dr,_,_,rfl,hrc.at_,T.au,T.aS,rfl,_,rfl,s,A.ag,dx,_,_,rfl,hs,T.af,T.bG,rfl,_,rfl,s,A.ag,dx,_,_,rfl,hs,T.af,T.b9,rfl,?_⟩
  refine ⟨l,t,y.width,y.a9,x.k.columns,x.k.rows,rfl,?_⟩
  rw [hrc.w,hrc.h]
  exact k
def wc (A:bI):Sp:=fun vs H Q _=>∃rc dr y c,vs=[.ref rc]∧H rc=some (.ins A.ao dr (RF.fs y))∧y.nB=oU c∧(c=1∨c=2)∧Q (.int ((c:Nat):Int)) H
theorem mZ (T:Txt P w K mg A):FnAt P w K mg base "place_size" 1 ["rectangle"] (wc A):=by
 refine T.iW.at_ (fun _ _ _ _ _ _ us hl=>match us,hl with | [_],_=>rfl) fun f fd F=>?_
 refine F.ok sD (fun vs H Q E h=>?_) (fun cdv AA outer sh H vs Q E hr h=>?_)
 ·obtain ⟨rc,dr,y,c,rfl,_⟩:=h
  rfl
 ·obtain ⟨rc,dr,y,c,rfl,hrc,hc,hc2,k⟩:=h
  refine ⟨_,ak (aW (qS (aQ d_ (aq (pv 0) rfl) (a_ T.fX rfl) (aT _)) ai ai)),?_⟩
  refine ⟨_,rfl,rc,A.ao,dr,_,_,rfl,hrc,T.au,T.bx,rfl,rfl,_,rfl,?_⟩
  rw [show (V.int 4)=V.int ((4:Nat):Int) from rfl,ic,hc]
  rcases hc2 with rfl | rfl
  ·exact k
  ·exact k
end
theorem Core.Fb {A:bI} {H H2:Hp} {s:Addr} {k:SK} {v:Viewer} {rs2:List Addr} {NP:List (List Nat)} (C:Core A H (M0 s k) s k v) (p2:gg H2 k.screen rs2 NP) (R:Mir.Rows v.screen.w v.screen.h NP) (hn:∀q∈rs2,q∉M0 s k) (sb:SameBut H H2 (·=k.screen)) :
  Core A H2 (M0 s k) s k { v with screen:={ v.screen with cells:=NP.flatten } }:=by
 have hnd:=C.nd
 simp only [List.nodup_cons,List.mem_cons,List.not_mem_nil,or_false,not_or,not_false_eq_true,List.nodup_nil,and_true] at hnd
 obtain ⟨⟨a1,a2,a3⟩,⟨a4,a5⟩,a6⟩:=hnd
 have e:Ext H (M0 s k) H2 (M0 s k):=.fA sb fun b q=>by rw [q];simp [M0]
 refine { wait:=sb _ _ C.wait a4,gN:=C.gN,cols:=C.cols,rows:=C.rows,side:=C.side,cut:=C.cut.ext e,name:=C.name.ext e,bells:=C.bells,jt:=C.jt,left:=C.left,pic:=⟨rs2,NP,⟨p2.lst,⟨p2.rows,hn⟩,by simp [M0]⟩,R,rfl⟩,tab:=?_,form:=?_,nd:=C.nd,mem:=C.mem }
 ·obtain ⟨ts,t1,t2⟩:=C.tab
  exact ⟨ts,sb _ _ t1 (fun q=>a6 q.symm),t2.ext e⟩
 ·intro q
  obtain ⟨fa,bits,f1,f2,f3⟩:=C.form q
  exact ⟨fa,bits,f1,f2.ext e,f3⟩
theorem xQ {v:Viewer} {r q:Rect} {Pic:List (List Nat)} {s':Screen} {p:Nat} (h:Drawn v r Pic s') (hp:Mir.Rows r.w r.h Pic) (hin:gi v r) (h1:q.x + q.w≤r.w) (h2:q.y + q.h≤r.h) :
  Drawn v r (Mir.aC Pic q.x q.y (Mir.eO q.w q.h p)) (s'.fill ⟨r.x + q.x,r.y + q.y,q.w,q.h⟩ p):=by
 obtain ⟨B,hB,cB,rfl⟩:=h
 have R:=Mir.eR q.w q.h p
 have R2:=hB.rD (xs:=Pic) (left:=r.x) (top:=r.y) (fun z hz=>by rw [hp.row z hz];exact hin.1) (by rw [hp.len];exact hin.2)
 have i1:=hin.1
 have i2:=hin.2
 refine ⟨B,hB,cB,?_⟩
 have e:=Mir.mq (s:={ v.screen with cells:=(Mir.aC B r.x r.y Pic).flatten }) (r:=⟨r.x + q.x,r.y + q.y,q.w,q.h⟩) (p:=p) R2 rfl (by show r.x + q.x + q.w≤v.screen.w;omega) (by show r.y + q.y + q.h≤v.screen.h;omega)
 rw [e]
 show ({ v.screen with cells:=(Mir.aC (Mir.aC B r.x r.y Pic) (r.x + q.x) (r.y + q.y) (Mir.eO q.w q.h p)).flatten }:Screen)=_
 rw [Mir.vH hB hp.row hin.1 (by rw [hp.len];exact hin.2) (fun z hz=>by rw [R.row z hz];exact h1) (by rw [R.len,hp.len];exact h2)]
theorem k_ {s rc:Addr} {k:SK} {more:List Addr} (h:(M0 s k++rc :: more).Nodup):rc∉M0 s k:=fun hm=>by
 have:=(List.nodup_append.mp h).2.2 rc hm rc (by simp)
 exact this rfl
section
variable {P:Program} {w:World} {K:PySem.W.Frag} {mg:Str→Option Value} {base:Heap} {A:bI}
theorem rV (T:Txt P w K mg A):FnAt P w K mg base "take_pixels" 6 ["session","words"] (dg A (fun m=>∃r,m=.pixels r)):=by
 refine T.hU.at_ (fun _ _ _ _ _ _ us hl=>match us,hl with | [_,_],_=>rfl) fun f fd F=>?_
 refine F.ok lY (fun vs H Q E h=>?_) (fun cdv AA outer sh H vs Q E hr h=>?_)
 ·obtain ⟨s,dx,wd,x,ws,v,m,M,rfl,_⟩:=h
  rfl
 ·obtain ⟨s,dx,wd,x,ws,v,m,M,rfl,⟨r,rfl⟩,ti,k⟩:=h
  have R:=ti.rep
  have nd:=lY.nd
  have run:=R.running rfl
  have lp:0 < v.left:=R.lG
  obtain ⟨rc,dr,y,hM,hrc,hin⟩:=R.mode
  have hl:ws.length=r.w * r.h * v.screen.form.size:=ti.len
  have k':After A H s dx M v (.done (Mir.fin v (v.screen.draw r (Mir.fS v.screen.form (r.w * r.h) ws)))) Q:=k
  obtain ⟨fa,bits,f1,f2,f3,f4⟩:=R.core.form run.o6
  obtain ⟨rs,B,pB,hB,cB⟩:=R.core.pic
  have side:=R.core.side
  have nrc:rc∉M0 s x.k:=k_ (more:=[]) (by rw [← hM];exact R.nd)
  refine ⟨_,ab (aI (i:=2) nd rfl (Or.inl rfl) (aq (pv 0) rfl))
   (ak (az (aK (fV T) hr rfl (aa (pv 0) (aa (aK (mY T) (hr.mono (by decide)) rfl (aa (aq (pv 0) rfl) (aa (pv 1) (aa (aq (pv 2) rfl) (aa (aq (pv 2) rfl) ah))))) ah))))),?_⟩
  refine ⟨_,rfl,s,A.ag,dx,_,_,rfl,R.bK,T.af,T.aF,rfl,?_⟩
  rw [hrc.ref]
  refine ⟨_,rfl,_,rfl,s,A.ag,dx,_,_,rfl,R.bK,T.af,T.aL,rfl,_,rfl,_,rfl,rc,A.ao,dr,_,_,rfl,hrc.at_,T.au,T.aZ,rfl,_,rfl,rc,A.ao,dr,_,_,rfl,hrc.at_,T.au,T.aS,rfl,?_⟩
  have h1:=hin.1
  have h2:=hin.2
  refine ⟨fa,wd,bits,v.screen.form,ws,r.w,r.h,by rw [f1,hrc.w,hrc.h];rfl,f2.at_,ti.words.1,hl,f3,by omega,by omega,fun H1 pc prs hpc p1 hprs s1=>?_⟩
  have hch:=Mir.pY (l:=Mir.fS v.screen.form (r.w * r.h) ws) (w:=r.w) (h:=r.h) (by simp [Mir.fS])
  have hdr:=xN (v:=v) hB cB hch hin
  rw [Mir.lT (by simp [Mir.fS])] at hdr
  have C1:=R.core.same s1
  refine ⟨s,dx,x,v,v,M,rc,dr,y,r,pc,prs,_,_,rfl,run.same s1,⟨hrc.ref,s1 _ _ hrc.at_,hrc.l,hrc.t,hrc.w,hrc.h⟩,nrc,p1,hch,hin,R.core.d9 R.bK hpc,fun q hq=>R.core.d9 R.bK (hprs q hq),lp,hdr,k'.ext (.of_same s1)⟩
theorem rW (T:Txt P w K mg A):FnAt P w K mg base "take_source" 5 ["session","words"] (dg A (fun m=>∃r,m=.source r)):=by
 refine T.hX.at_ (fun _ _ _ _ _ _ us hl=>match us,hl with | [_,_],_=>rfl) fun f fd F=>?_
 refine F.ok lZ (fun vs H Q E h=>?_) (fun cdv AA outer sh H vs Q E hr h=>?_)
 ·obtain ⟨s,dx,wd,x,ws,v,m,M,rfl,_⟩:=h
  rfl
 ·obtain ⟨s,dx,wd,x,ws,v,m,M,rfl,⟨r,rfl⟩,ti,k⟩:=h
  have R:=ti.rep
  have nd:=lZ.nd
  have run:=R.running rfl
  have lp:0 < v.left:=R.lG
  obtain ⟨rc,dr,y,hM,hrc,hin⟩:=R.mode
  have k':After A H s dx M v (if Sn44.inside v.screen.w v.screen.h ⟨Mir.sub ws 0 2,Mir.sub ws 2 2,r.w,r.h⟩=true then .done (Mir.fin v (v.screen.draw r ((Sn44.placesOf ⟨Mir.sub ws 0 2,Mir.sub ws 2 2,r.w,r.h⟩).map fun z=>v.screen.at_ z.1 z.2))) else .bad 7) Q:=k
  have side:=R.core.side
  have nrc:rc∉M0 s x.k:=k_ (more:=[]) (by rw [← hM];exact R.nd)
  refine ⟨_,ab (aI (i:=2) nd rfl (Or.inl rfl) (aq (pv 0) rfl))
   (ab (aI (i:=3) nd rfl (Or.inl rfl) (aK (aN T) (hr.mono (by decide)) rfl (aa (pv 1) (aa ai (aa ai ah)))))
   (ab (aI (i:=4) nd rfl (Or.inl rfl) (aK (aN T) (hr.mono (by decide)) rfl (aa (pv 1) (aa ai (aa ai ah)))))
   (ab (aX (kD (ka (aK (oW T) (hr.mono (by decide)) rfl (aa (pv 0) (aa (pv 3) (aa (pv 4) ah)))))) (ab (az (bF (d8 T) T.af (hr.mono (by decide)) (pv 0) (aa ai ah))) (ak d5)) aP)
   (ab (az (aK (Cp T) (hr.mono (by decide)) rfl (aa (aq (pv 0) rfl) (aa (pv 3) (aa (pv 4) (aa (aq (pv 2) rfl) (aa (aq (pv 2) rfl) (aa (aq (pv 2) rfl) (aa (aq (pv 2) rfl) ah)))))))))
   (ak (az (aK (js T) hr rfl (aa (pv 0) ah)))))))),?_⟩
  refine ⟨_,rfl,s,A.ag,dx,_,_,rfl,R.bK,T.af,T.aF,rfl,?_⟩
  rw [hrc.ref]
  refine ⟨_,rfl,wd,ws,0,2,rfl,bV.of ti.words.1,fun H1 s1=>?_⟩
  refine ⟨_,rfl,wd,ws,2,2,rfl,bV.of (s1 _ _ ti.words.1),fun H2 s2=>?_⟩
  have S:=s1.trans s2
  have hs2:=S _ _ R.bK
  have C2:=R.core.same S
  have hrc2:dY A H2 x rc dr y r:=⟨hrc.ref,S _ _ hrc.at_,hrc.l,hrc.t,hrc.w,hrc.h⟩
  refine ⟨_,rfl,_,rfl,_,rfl,s,dx,x,rc,dr,y,r,Mir.sub ws 0 2,Mir.sub ws 2 2,rfl,hs2,hrc2,_,rfl,?_⟩
  rw [R.core.cols,R.core.rows]
  unfold Sn44.inside at k'
  cases c:(decide (Mir.sub ws 0 2 + r.w≤v.screen.w) && decide (Mir.sub ws 2 2 + r.h≤v.screen.h)) with
  | false=>
   rw [show (decide ((⟨Mir.sub ws 0 2,Mir.sub ws 2 2,r.w,r.h⟩:Rect).x + (⟨Mir.sub ws 0 2,Mir.sub ws 2 2,r.w,r.h⟩:Rect).w≤v.screen.w) && decide ((⟨Mir.sub ws 0 2,Mir.sub ws 2 2,r.w,r.h⟩:Rect).y + (⟨Mir.sub ws 0 2,Mir.sub ws 2 2,r.w,r.h⟩:Rect).h≤v.screen.h))=false from c,if_neg (by decide)] at k'
   exact cG ⟨_,rfl,s,dx,_,rfl,hs2,rfl,s,dx,x,7,rfl,hs2,k'.fail (.of_same S) C2 (by decide)⟩
  | true=>
   rw [show (decide ((⟨Mir.sub ws 0 2,Mir.sub ws 2 2,r.w,r.h⟩:Rect).x + (⟨Mir.sub ws 0 2,Mir.sub ws 2 2,r.w,r.h⟩:Rect).w≤v.screen.w) && decide ((⟨Mir.sub ws 0 2,Mir.sub ws 2 2,r.w,r.h⟩:Rect).y + (⟨Mir.sub ws 0 2,Mir.sub ws 2 2,r.w,r.h⟩:Rect).h≤v.screen.h))=true from c,if_pos rfl] at k'
   rw [Bool.and_eq_true] at c
   have c1:=of_decide_eq_true c.1
   have c2:=of_decide_eq_true c.2
   have C0:=C2.shrink
   obtain ⟨rs,B,pB,hB,cB⟩:=C0.pic
   refine cE ⟨_,rfl,s,A.ag,dx,_,_,rfl,hs2,T.af,T.cn,rfl,_,rfl,_,rfl,_,rfl,rc,A.ao,dr,_,_,rfl,hrc2.at_,T.au,T.cM,rfl,_,rfl,rc,A.ao,dr,_,_,rfl,hrc2.at_,T.au,T.de,rfl,_,rfl,rc,A.ao,dr,_,_,rfl,hrc2.at_,T.au,T.aZ,rfl,_,rfl,rc,A.ao,dr,_,_,rfl,hrc2.at_,T.au,T.aS,rfl,?_⟩
   have i1:=hin.1
   have i2:=hin.2
   refine ⟨x.k.screen,rs,B,Mir.sub ws 0 2,Mir.sub ws 2 2,r.x,r.y,r.w,r.h,v.screen.w,by rw [hrc.l,hrc.t,hrc.w,hrc.h];rfl,pB.at_,hB.row,by omega,by rw [hB.len];omega,c1,by rw [hB.len];exact c2,i1,by rw [hB.len];exact i2,fun H3 rs3 p3 hr3 sb3=>?_⟩
   have hcut:Mir.Rows r.w r.h (ib B (Mir.sub ws 0 2) (Mir.sub ws 2 2) r.w r.h):=by
    refine ⟨?_,fun z hz=>?_⟩
    ·unfold ib
     rw [List.length_map,List.length_take,List.length_drop,hB.len]
     omega
    ·obtain ⟨row,hrow,rfl⟩:=List.mem_map.mp hz
     rw [List.length_take,List.length_drop,hB.row row (List.mem_of_mem_drop (List.mem_of_mem_take hrow))]
     omega
   have Rp:=hB.rD (xs:=ib B (Mir.sub ws 0 2) (Mir.sub ws 2 2) r.w r.h) (left:=r.x) (top:=r.y) (fun z hz=>by rw [hcut.row z hz];exact i1) (by rw [hcut.len];exact i2)
   have er:=Mir.zW (q:=⟨Mir.sub ws 0 2,Mir.sub ws 2 2,r.w,r.h⟩) hB cB c1 c2
   have ed:=Mir.mn (s:=v.screen) (r:=r) hB cB hcut i1 i2
   rw [er,show ((B.drop (Mir.sub ws 2 2)).take r.h).map (fun row=>(row.drop (Mir.sub ws 0 2)).take r.w)=ib B (Mir.sub ws 0 2) (Mir.sub ws 2 2) r.w r.h from rfl,ed] at k'
   have C3:Core A H3 (M0 s x.k) s x.k _:=C0.Fb p3 Rp (fun q hq hm=>by
    rcases hr3 q hq with h | h | h
    ·exact pB.rows.fz q h hm
    ·cases h
    ·obtain ⟨o,e⟩:=C0.jr hs2 q hm
     rw [e] at h;cases h) sb3
   have ns:s≠x.k.screen:=fun q=>C2.xI x.k.screen (by simp) q.symm
   have e3:Ext H M H3 (M0 s x.k):=(Ext.of_same S).trans ⟨fun b hb=>.inl (R.core.mem b hb),fun b o e n=>sb3 b o e fun q=>n (by rw [q];exact R.core.mem _ (by simp))⟩
   exact ⟨_,rfl,s,dx,x,_,v,M0 s x.k,rfl,⟨sb3 _ _ hs2 ns,C3,R.wrong,run.cu,run.run,run.o6⟩,rfl,lp,k'.ext e3⟩
end
theorem Core.Bq {A:bI} {H:Hp} {M:List Addr} {s:Addr} {k:SK} {v:Viewer} {o:HO} {b:Addr} (C:Core A H M s k v) (hb:b∈M) (n:b∉M0 s k):Core A (upd H b o) M s k v:=
 C.ext (.upd hb) (fun c hc=>aj (fun e=>n (by rw [← e];exact List.mem_cons_of_mem _ hc))) C.mem
theorem cR.Bq {A:bI} {H:Hp} {M:List Addr} {s dx:Addr} {x:SF} {v:Viewer} {o:HO} {b:Addr} (R:cR A H M s dx x v) (hb:b∈M) (n:b∉M0 s x.k):cR A (upd H b o) M s dx x v:=
 ⟨by show upd H b o s=_;rw [aj (fun e=>n (by rw [← e];simp [M0]))];exact R.bK,R.core.Bq hb n,R.wrong,R.cu,R.run,R.o6⟩
section
variable {P:Program} {w:World} {K:PySem.W.Frag} {mg:Str→Option Value} {base:Heap} {A:bI}
theorem lg (T:Txt P w K mg A):FnAt P w K mg base "take_how_many_parts" 2 ["session","words"] (dg A (fun m=>∃c r,m=.howManyParts c r)):=by
 refine T.dA.at_ (fun _ _ _ _ _ _ us hl=>match us,hl with | [_,_],_=>rfl) fun f fd F=>?_
 refine F.ok gA (fun vs H Q E h=>?_) (fun cdv AA outer sh H vs Q E hr h=>?_)
 ·obtain ⟨s,dx,wd,x,ws,v,m,M,rfl,_⟩:=h
  rfl
 ·obtain ⟨s,dx,wd,x,ws,v,m,M,rfl,⟨c,r,rfl⟩,ti,k⟩:=h
  have R:=ti.rep
  have nd:=gA.nd
  have run:=R.running rfl
  obtain ⟨rc,dr,y,hM,hrc,hin,hco,hc2⟩:=R.mode
  have hl:ws.length=4:=ti.len
  have k':After A H s dx M v (if Sn44.high ws≤65535 then .cont (.ground c r (Sn44.high ws)) else .bad 7) Q:=k
  have nrc:rc∉M0 s x.k:=k_ (more:=[]) (by rw [← hM];exact R.nd)
  have mrc:rc∈M:=by rw [hM];simp
  obtain ⟨fa,bits,f1,f2,f3,f4⟩:=R.core.form run.o6
  refine ⟨_,ab (aI (i:=2) nd rfl (Or.inl rfl) (aq (pv 0) rfl))
   (ab (aJ (pv 2) (aK (aN T) hr rfl (aa (pv 1) (aa ai (aa ai ah)))) rfl)
   (ab (aX (aQ qU (aq (pv 2) rfl) (a_ T.ja rfl) (aT _)) (ab (az (bF (d8 T) T.af hr (pv 0) (aa ai ah))) (ak d5)) aP)
   (ak (az (bF (bf T) T.af hr (pv 0) (aa cv (aa (aq (aq (pv 0) rfl) rfl) ah))))))),?_⟩
  refine ⟨_,rfl,s,A.ag,dx,_,_,rfl,R.bK,T.af,T.aF,rfl,?_⟩
  rw [hrc.ref]
  refine ⟨_,rfl,wd,ws,0,4,rfl,bV.of ti.words.1,fun H1 s1=>?_⟩
  rw [mH (by omega)]
  refine ⟨_,rfl,rc,A.ao,dr,_,rfl,s1 _ _ hrc.at_,T.au,T.bt,by show 10 < 1000;decide,?_⟩
  rw [show bH "parts_left" (.int (Sn44.high ws:Nat)) (RF.fs y)=RF.fs { y with parts:=Sn44.high ws } from rfl]
  have run2:=(run.same s1).Bq (o:=.ins A.ao dr (RF.fs { y with parts:=Sn44.high ws })) mrc nrc
  have e2:Ext H M (upd H1 rc (.ins A.ao dr (RF.fs { y with parts:=Sn44.high ws }))) M:=(Ext.of_same s1).trans (.upd mrc)
  refine ⟨_,rfl,rc,A.ao,dr,_,_,rfl,ae,T.au,T.bt,rfl,_,_,rfl,rfl,_,rfl,?_⟩
  show if decide ((65535:Int) < (Sn44.high ws:Int))=true then _ else _
  by_cases q:Sn44.high ws≤65535
  ·rw [if_pos q] at k'
   rw [if_neg (by simp;omega)]
   have f2':=f2.ext e2
   obtain ⟨fdx,gr,sh1,z1,z2,z3,z4⟩:=id f2'
   refine ⟨_,rfl,s,dx,_,rfl,run2.bK,rfl,_,rfl,s,A.ag,dx,_,_,rfl,run2.bK,T.af,T.aL,rfl,?_⟩
   rw [show x.k.form=V.ref fa from f1]
   refine ⟨fa,A.Form,fdx,_,_,rfl,z1.1,T.bB,T.bO,rfl,s,dx,x,_,v.screen.form.size,by rw [z4];rfl,run2.bK,?_⟩
   have nsr:rc≠s:=fun e=>nrc (by rw [e];simp [M0])
   refine k'.expect e2 run2.core rfl rfl R.wrong R.cu R.nd ⟨rc,dr,{ y with parts:=Sn44.high ws },hM,⟨hrc.ref,?_,hrc.l,hrc.t,hrc.w,hrc.h⟩,hin,hco,hc2,rfl⟩ R.run R.lF R.lG
   rw [aj nsr]
   exact ae
  ·rw [if_neg q] at k'
   rw [if_pos (by simp;omega)]
   exact ⟨_,rfl,s,dx,_,rfl,run2.bK,rfl,s,dx,x,7,rfl,run2.bK,k'.fail e2 run2.core (by decide)⟩
structure Br (A:bI) (H:Hp) (M:List Addr) (s dx:Addr) (x:SF) (v:Viewer) (c:Nat) (r:Rect) (s':Screen) (rc dr:Addr) (y:RF) (rs:List Addr) (Pic:List (List Nat)):Prop where
 run:cR A H M s dx x v
 eC:M=M0 s x.k++[rc,y.aA]
 nd:M.Nodup
 rect:dY A H x rc dr y r
 ins:gi v r
 GA:y.nB=oU c
 GB:c=1∨c=2
 pic:ku H M y.aA rs Pic
 rows:Mir.Rows r.w r.h Pic
 drawn:Drawn v r Pic s'
 left:0 < v.left
def xR (A:bI):Sp:=fun vs H Q _=>∃s dx x v M c r s' rc dr y rs Pic,vs=[.ref s]∧Br A H M s dx x v c r s' rc dr y rs Pic∧After A H s dx M v (Mir.dH v c r y.parts s') Q
theorem oX (T:Txt P w K mg A):FnAt P w K mg base "next_part" 6 ["session"] (xR A):=by
 refine T.jW.at_ (fun _ _ _ _ _ _ us hl=>match us,hl with | [_],_=>rfl) fun f fd F=>?_
 refine F.ok oK (fun vs H Q E h=>?_) (fun cdv AA outer sh H vs Q E hr h=>?_)
 ·obtain ⟨s,dx,x,v,M,c,r,s',rc,dr,y,rs,Pic,rfl,_⟩:=h
  rfl
 ·obtain ⟨s,dx,x,v,M,c,r,s',rc,dr,y,rs,Pic,rfl,R,k⟩:=h
  have nd:=oK.nd
  have run:=R.run
  have nrc:rc∉M0 s x.k:=k_ (more:=[y.aA]) (by rw [← R.eC];exact R.nd)
  have npc:y.aA∉M0 s x.k:=fun hm=>by
   have:=R.nd
   rw [R.eC] at this
   exact (List.nodup_append.mp this).2.2 _ hm _ (by simp) rfl
  obtain ⟨fa,bits,f1,f2,f3,f4⟩:=run.core.form run.o6
  obtain ⟨fdx,gr,sh1,z1,z2,z3,z4⟩:=id f2
  refine ⟨_,ab (aI (i:=1) nd rfl (Or.inl rfl) (aq (pv 0) rfl))
   (ab (aX (aQ d_ (aq (pv 1) rfl) ai (aT _)) (ab (az (aK (fV T) hr rfl (aa (pv 0) (aa (aq (pv 1) rfl) ah)))) (ak d5)) aP)
   (ak (az (bF (bf T) T.af (hr.mono (by decide)) (pv 0) (aa cv (aa (aH bA (aq (aq (pv 0) rfl) rfl) (aH gc ai (aK (mZ T) (hr.mono (by decide)) rfl (aa (pv 1) ah)))) ah)))))),?_⟩
  refine ⟨_,rfl,s,A.ag,dx,_,_,rfl,run.bK,T.af,T.aF,rfl,?_⟩
  rw [R.rect.ref]
  refine ⟨_,rfl,rc,A.ao,dr,_,_,rfl,R.rect.at_,T.au,T.bt,rfl,rfl,_,rfl,?_⟩
  rw [kx]
  unfold Mir.dH at k
  by_cases q:y.parts=0
  ·rw [if_pos q] at k
   rw [decide_eq_true q]
   exact cG ⟨_,rfl,_,rfl,rc,A.ao,dr,_,_,rfl,R.rect.at_,T.au,T.bc,rfl,s,dx,x,v,v,M,rc,dr,y,r,y.aA,rs,Pic,s',rfl,run,R.rect,nrc,R.pic.at_,R.rows,R.ins,npc,fun z hz hm=>R.pic.rows.fz z hz (run.core.mem z hm),R.left,R.drawn,k⟩
  ·rw [if_neg q] at k
   rw [decide_eq_false q]
   refine cE ⟨_,rfl,s,dx,_,rfl,run.bK,rfl,_,rfl,s,A.ag,dx,_,_,rfl,run.bK,T.af,T.aL,rfl,?_⟩
   rw [show x.k.form=V.ref fa from f1]
   refine ⟨fa,A.Form,fdx,_,_,rfl,z1.1,T.bB,T.bO,rfl,_,rfl,rc,dr,y,c,rfl,R.rect.at_,R.GA,R.GB,_,_,rfl,rfl,.inl ⟨by decide,by decide⟩,_,_,rfl,rfl,?_⟩
   refine ⟨s,dx,x,_,v.screen.form.size + 4 * c,by rw [z4];rfl,run.bK,?_⟩
   have nsr:rc≠s:=fun e=>nrc (by rw [e];simp [M0])
   have eU:=Ext.upd (H:=H) (o:=.ins A.ag dx (SF.fs { x with stage:="part",need:=v.screen.form.size + 4 * c })) run.core.eo
   have npcs:y.aA≠s:=fun e=>npc (by rw [e];simp [M0])
   refine k.expect (.refl H M) run.core rfl rfl run.wrong (by rw [run.cu,run.run];rfl) R.nd ⟨rc,dr,y,rs,Pic,R.eC,⟨R.rect.ref,?_,R.rect.l,R.rect.t,R.rect.w,R.rect.h⟩,R.ins,R.GA,R.GB,rfl,⟨?_,R.pic.rows.ext eU,R.pic.mem⟩,R.rows,R.drawn⟩ ⟨fun _=>run.o6,fun _=>by rw [run.run];rfl⟩ run.run R.left
   ·rw [aj nsr]
    exact R.rect.at_
   ·rw [aj npcs]
    exact R.pic.lst
end
theorem cR.ext {A:bI} {H H':Hp} {M M':List Addr} {s dx:Addr} {x:SF} {v:Viewer} (R:cR A H M s dx x v) (e:Ext H M H' M') (h:∀b∈M0 s x.k,H' b=H b) (hm:∀b∈M0 s x.k,b∈M'):cR A H' M' s dx x v:=
 ⟨(h s (by simp [M0])).trans R.bK,R.core.ext e (fun b hb=>h b (List.mem_cons_of_mem _ hb)) hm,R.wrong,R.cu,R.run,R.o6⟩
theorem uH {A:bI} {H H':Hp} {M:List Addr} {s dx:Addr} {x:SF} {v:Viewer} (R:cR A H M s dx x v) (e:bX H H'):∀b∈M0 s x.k,H' b=H b:=fun b hb=>by
 obtain ⟨o,q⟩:=R.core.jr R.bK b hb
 rw [q,e _ _ q]
section
variable {P:Program} {w:World} {K:PySem.W.Frag} {mg:Str→Option Value} {base:Heap} {A:bI}
theorem rX (T:Txt P w K mg A):FnAt P w K mg base "take_ground" 7 ["session","words"] (dg A (fun m=>∃c r n,m=.ground c r n)):=by
 refine T.hZ.at_ (fun _ _ _ _ _ _ us hl=>match us,hl with | [_,_],_=>rfl) fun f fd F=>?_
 refine F.ok l9 (fun vs H Q E h=>?_) (fun cdv AA outer sh H vs Q E hr h=>?_)
 ·obtain ⟨s,dx,wd,x,ws,v,m,M,rfl,_⟩:=h
  rfl
 ·obtain ⟨s,dx,wd,x,ws,v,m,M,rfl,⟨c,r,n,rfl⟩,ti,k⟩:=h
  have R:=ti.rep
  have nd:=l9.nd
  have run:=R.running rfl
  have lp:0 < v.left:=R.lG
  obtain ⟨rc,dr,y,hM,hrc,hin,hco,hc2,hpl⟩:=R.mode
  have hl:ws.length=v.screen.form.size:=ti.len
  have k':After A H s dx M v (Mir.dH v c r n (v.screen.fill r (Mir.kJ v.screen.form ws))) Q:=k
  have nrc:rc∉M0 s x.k:=k_ (more:=[]) (by rw [← hM];exact R.nd)
  have mrc:rc∈M:=by rw [hM];simp
  obtain ⟨fa,bits,f1,f2,f3,f4⟩:=R.core.form run.o6
  have side:=R.core.side
  have i1:=hin.1
  have i2:=hin.2
  refine ⟨_,ab (aI (i:=2) nd rfl (Or.inl rfl) (aq (pv 0) rfl))
   (ab (aJ (pv 2) (aK (mF T) (hr.mono (by decide)) rfl (aa (aq (pv 2) rfl) (aa (aq (pv 2) rfl) (aa (aK (gh T) (hr.mono (by decide)) rfl (aa (aq (pv 0) rfl) (aa (pv 1) (aa ai ah)))) ah)))) rfl)
   (ak (az (aK (oX T) hr rfl (aa (pv 0) ah))))),?_⟩
  refine ⟨_,rfl,s,A.ag,dx,_,_,rfl,R.bK,T.af,T.aF,rfl,?_⟩
  rw [hrc.ref]
  refine ⟨_,rfl,rc,A.ao,dr,_,_,rfl,hrc.at_,T.au,T.aZ,rfl,_,rfl,rc,A.ao,dr,_,_,rfl,hrc.at_,T.au,T.aS,rfl,_,rfl,s,A.ag,dx,_,_,rfl,R.bK,T.af,T.aL,rfl,_,rfl,?_⟩
  refine ⟨fa,wd,bits,v.screen.form,ws,0,by rw [f1];rfl,f2.at_,ti.words.1,fun H1 s1=>?_⟩
  rw [List.drop_zero,List.take_of_length_le (by omega)]
  refine ⟨r.w,r.h,Mir.kJ v.screen.form ws,by rw [hrc.w,hrc.h];rfl,by omega,by omega,fun H2 pc prs h1 h2 h3 h4 s2=>?_⟩
  have S:=s1.trans s2
  refine ⟨_,rfl,rc,A.ao,dr,_,rfl,S _ _ hrc.at_,T.au,T.bc,by show 10 < 1000;decide,?_⟩
  rw [show bH "picture" (.ref pc) (RF.fs y)=RF.fs { y with aA:=pc } from rfl]
  have fpc:H pc=none:=s1.free h1
  have npc0:pc∉M0 s x.k:=R.core.d9 R.bK fpc
  have nrp:rc≠pc:=aE hrc.at_ fpc
  have eM:Ext H M (upd H2 rc (.ins A.ao dr (RF.fs { y with aA:=pc }))) (M0 s x.k++[rc,pc]):=by
   refine ⟨fun b hb=>?_,fun b o e nb=>?_⟩
   ·rw [hM]
    simp only [List.mem_append,List.mem_cons,List.not_mem_nil,or_false] at hb ⊢
    rcases hb with hb | rfl | rfl
    ·exact .inl (.inl hb)
    ·exact .inl (.inr rfl)
    ·exact .inr fpc
   ·rw [aj (fun q=>nb (by rw [q];exact mrc))]
    exact S _ _ e
  have hm0:∀b∈M0 s x.k,upd H2 rc (.ins A.ao dr (RF.fs { y with aA:=pc })) b=H b:=fun b hb=>by
   rw [aj (fun q=>nrc (by rw [← q];exact hb))]
   exact uH run S b hb
  have run2:=run.ext eM hm0 (fun b hb=>List.mem_append_left _ hb)
  obtain ⟨DZ,B,pB,hB,cB⟩:=R.core.pic
  have hrect:=Mir.eR r.w r.h (Mir.kJ v.screen.form ws)
  have hdr:Drawn v r (Mir.eO r.w r.h (Mir.kJ v.screen.form ws)) (v.screen.fill r (Mir.kJ v.screen.form ws)):=⟨B,hB,cB,Mir.mq hB cB i1 i2⟩
  refine ⟨_,rfl,s,dx,x,v,_,c,r,_,rc,dr,{ y with aA:=pc },prs,_,rfl,⟨run2,rfl,?_,⟨hrc.ref,ae,hrc.l,hrc.t,hrc.w,hrc.h⟩,hin,hco,hc2,⟨?_,⟨?_,?_⟩,?_⟩,hrect,hdr,lp⟩,?_⟩
  ·rw [List.nodup_append]
   refine ⟨R.core.nd,?_,?_⟩
   ·simp only [List.nodup_cons,List.mem_cons,List.not_mem_nil,or_false,not_false_eq_true,List.nodup_nil,and_true]
    exact nrp
   ·intro a ha b hb e
    subst e
    simp only [List.mem_cons,List.not_mem_nil,or_false] at hb
    rcases hb with rfl | rfl
    ·exact nrc ha
    ·exact npc0 ha
  ·rw [aj nrp.symm]
   exact h2
  ·refine h3.keeps fun q hq o e=>?_
   rw [aj (fun z=>by
    have:=(h4 q hq).1
    rw [z,s1 _ _ hrc.at_] at this
    cases this)]
   exact e
  ·intro q hq hm
   have fq:=s1.free (h4 q hq).1
   rcases List.mem_append.mp hm with hm | hm
   ·exact R.core.d9 R.bK fq hm
   ·simp only [List.mem_cons,List.not_mem_nil,or_false] at hm
    rcases hm with rfl | rfl
    ·rw [hrc.at_] at fq;cases fq
    ·exact (h4 _ hq).2 rfl
  ·simp
  ·rw [← hpl] at k'
   exact k'.ext eM
theorem uI (T:Txt P w K mg A):FnAt P w K mg base "take_part" 7 ["session","words"] (dg A (fun m=>∃c r n s',m=.part c r n s')):=by
 refine T.jX.at_ (fun _ _ _ _ _ _ us hl=>match us,hl with | [_,_],_=>rfl) fun f fd F=>?_
 refine F.ok oM (fun vs H Q E h=>?_) (fun cdv AA outer sh H vs Q E hr h=>?_)
 ·obtain ⟨s,dx,wd,x,ws,v,m,M,rfl,_⟩:=h
  rfl
 ·obtain ⟨s,dx,wd,x,ws,v,m,M,rfl,⟨c,r,n,s',rfl⟩,ti,k⟩:=h
  have R:=ti.rep
  have nd:=oM.nd
  have run:=R.running rfl
  have lp:0 < v.left:=R.lG
  obtain ⟨rc,dr,y,rs,Pic,hM,hrc,hin,hco,hc2,hpl,hpic,hrows,hdr⟩:=R.mode
  have hl:ws.length=v.screen.form.size + 4 * c:=ti.len
  have hn:0 < n:=ti.wf.1
  generalize hq:(⟨Mir.sub ws v.screen.form.size c,Mir.sub ws (v.screen.form.size + c) c,Mir.sub ws (v.screen.form.size + 2 * c) c,Mir.sub ws (v.screen.form.size + 3 * c) c⟩:Rect)=q at *
  have k':After A H s dx M v (if Sn44.inside r.w r.h q=true then Mir.dH v c r (n - 1) (s'.fill ⟨r.x + q.x,r.y + q.y,q.w,q.h⟩ (Mir.kJ v.screen.form (ws.take v.screen.form.size))) else .bad 7) Q:=by rw [← hq];exact k
  have qx:Mir.sub ws v.screen.form.size c=q.x:=by rw [← hq]
  have qy:Mir.sub ws (v.screen.form.size + c) c=q.y:=by rw [← hq]
  have qw:Mir.sub ws (v.screen.form.size + 2 * c) c=q.w:=by rw [← hq]
  have qh:Mir.sub ws (v.screen.form.size + 3 * c) c=q.h:=by rw [← hq]
  have nrc:rc∉M0 s x.k:=k_ (more:=[y.aA]) (by rw [← hM];exact R.nd)
  have mrc:rc∈M:=by rw [hM];simp
  have mpc:y.aA∈M:=by rw [hM];simp
  have npc:y.aA∉M0 s x.k:=fun hm=>by
   have:=R.nd
   rw [hM] at this
   exact (List.nodup_append.mp this).2.2 _ hm _ (by simp) rfl
  have nrp:rc≠y.aA:=fun e=>by
   have:=R.nd
   rw [hM] at this
   have:=(List.nodup_append.mp this).2.1
   rw [e] at this
   simp at this
  obtain ⟨fa,bits,f1,f2,f3,f4⟩:=R.core.form run.o6
  obtain ⟨fdx,gr,sh1,z1,z2,z3,z4⟩:=id f2
  have side:=R.core.side
  have i1:=hin.1
  have i2:=hin.2
  refine ⟨_,ab (aI (i:=2) nd rfl (Or.inl rfl) (aq (pv 0) rfl))
   (ab (aI (i:=3) nd rfl (Or.inl rfl) (aK (mZ T) (hr.mono (by decide)) rfl (aa (pv 2) ah)))
   (ab (aI (i:=4) nd rfl (Or.inl rfl) (aq (aq (pv 0) rfl) rfl))
   (ab (aI (i:=5) nd rfl (Or.inl rfl) (aK (aN T) (hr.mono (by decide)) rfl (aa (pv 1) (aa (pv 4) (aa (pv 3) ah)))))
   (ab (aI (i:=6) nd rfl (Or.inl rfl) (aK (aN T) (hr.mono (by decide)) rfl (aa (pv 1) (aa (aH bA (pv 4) (pv 3)) (aa (pv 3) ah)))))
   (ab (aI (i:=7) nd rfl (Or.inl rfl) (aK (aN T) (hr.mono (by decide)) rfl (aa (pv 1) (aa (aH bA (pv 4) (aH gc ai (pv 3))) (aa (pv 3) ah)))))
   (ab (aI (i:=8) nd rfl (Or.inl rfl) (aK (aN T) (hr.mono (by decide)) rfl (aa (pv 1) (aa (aH bA (pv 4) (aH gc ai (pv 3))) (aa (pv 3) ah)))))
   (ab (aX (kD (ka (aK (pK T) (hr.mono (by decide)) rfl (aa (pv 5) (aa (pv 6) (aa (pv 7) (aa (pv 8) (aa (aq (pv 2) rfl) (aa (aq (pv 2) rfl) ah))))))))) (ab (az (bF (d8 T) T.af (hr.mono (by decide)) (pv 0) (aa ai ah))) (ak d5)) aP)
   (ab (az (aK (yM T) (hr.mono (by decide)) rfl (aa (aq (pv 2) rfl) (aa (pv 5) (aa (pv 6) (aa (pv 7) (aa (pv 8) (aa (aK (gh T) (hr.mono (by decide)) rfl (aa (aq (pv 0) rfl) (aa (pv 1) (aa ai ah)))) ah))))))))
   (ab (ph (pv 2) ai wX)
   (ak (az (aK (oX T) hr rfl (aa (pv 0) ah))))))))))))),?_⟩
  refine ⟨_,rfl,s,A.ag,dx,_,_,rfl,R.bK,T.af,T.aF,rfl,?_⟩
  rw [hrc.ref]
  refine ⟨_,rfl,rc,dr,y,c,rfl,hrc.at_,hco,hc2,?_⟩
  refine ⟨_,rfl,s,A.ag,dx,_,_,rfl,R.bK,T.af,T.aL,rfl,?_⟩
  rw [show x.k.form=V.ref fa from f1]
  refine ⟨fa,A.Form,fdx,_,_,rfl,z1.1,T.bB,T.bO,rfl,?_⟩
  have ea:V.int ((FF.mk bits v.screen.form.big v.screen.form.parts gr sh1).bits / 8:Nat)=V.int (v.screen.form.size:Int):=by rw [z4]
  rw [ea]
  refine ⟨_,rfl,_,rfl,_,rfl,wd,ws,v.screen.form.size,c,rfl,bV.of ti.words.1,fun H1 s1=>?_⟩
  rw [qx]
  refine ⟨_,rfl,_,rfl,_,rfl,_,_,rfl,rfl,_,rfl,wd,ws,v.screen.form.size + c,c,rfl,bV.of (s1 _ _ ti.words.1),fun H2 s2=>?_⟩
  rw [qy]
  have S2:=s1.trans s2
  refine ⟨_,rfl,_,rfl,_,rfl,_,_,rfl,rfl,.inl ⟨by decide,by decide⟩,_,_,rfl,rfl,_,rfl,wd,ws,v.screen.form.size + 2 * c,c,rfl,bV.of (S2 _ _ ti.words.1),fun H3 s3=>?_⟩
  rw [qw]
  have S3:=S2.trans s3
  refine ⟨_,rfl,_,rfl,_,rfl,_,_,rfl,rfl,.inl ⟨by decide,by decide⟩,_,_,rfl,rfl,_,rfl,wd,ws,v.screen.form.size + 3 * c,c,rfl,bV.of (S3 _ _ ti.words.1),fun H4 s4=>?_⟩
  rw [qh]
  have S4:=S3.trans s4
  have hs4:=S4 _ _ R.bK
  refine ⟨_,rfl,_,rfl,_,rfl,_,rfl,_,rfl,rc,A.ao,dr,_,_,rfl,S4 _ _ hrc.at_,T.au,T.aZ,rfl,_,rfl,rc,A.ao,dr,_,_,rfl,S4 _ _ hrc.at_,T.au,T.aS,rfl,q.x,q.y,q.w,q.h,r.w,r.h,by rw [hrc.w,hrc.h];rfl,_,rfl,?_⟩
  have C4:=R.core.same S4
  have run4:=run.same S4
  unfold Sn44.inside at k'
  cases cc:(decide (q.x + q.w≤r.w) && decide (q.y + q.h≤r.h)) with
  | false=>
   rw [cc,if_neg (by decide)] at k'
   exact cG ⟨_,rfl,s,dx,_,rfl,hs4,rfl,s,dx,x,7,rfl,hs4,k'.fail (.of_same S4) C4 (by decide)⟩
  | true=>
   rw [cc,if_pos rfl] at k'
   rw [Bool.and_eq_true] at cc
   have c1:=of_decide_eq_true cc.1
   have c2:=of_decide_eq_true cc.2
   refine cE ⟨_,rfl,rc,A.ao,dr,_,_,rfl,S4 _ _ hrc.at_,T.au,T.bc,rfl,_,rfl,_,rfl,_,rfl,_,rfl,_,rfl,s,A.ag,dx,_,_,rfl,hs4,T.af,T.aL,rfl,_,rfl,?_⟩
   refine ⟨fa,wd,bits,v.screen.form,ws,0,by rw [f1];rfl,f2.at_.keeps S4,S4 _ _ ti.words.1,fun H5 s5=>?_⟩
   rw [List.drop_zero]
   have S5:=S4.trans s5
   have p5:gg H5 y.aA rs Pic:=hpic.at_.keeps fun b _ o e=>S5 b o e
   refine ⟨y.aA,rs,Pic,q.x,q.y,q.w,q.h,Mir.kJ v.screen.form (ws.take v.screen.form.size),r.w,rfl,p5,hrows.row,by omega,by rw [hrows.len];omega,c1,by rw [hrows.len];exact c2,fun H6 rs6 p6 hr6 sb6=>?_⟩
   have hrc6:=sb6 _ _ (S5 _ _ hrc.at_) nrp
   refine ⟨_,rfl,rc,A.ao,dr,_,_,rfl,hrc6,T.au,T.bt,rfl,_,_,rfl,rfl,dr,_,hrc6,by show 10 < 1000;decide,?_⟩
   rw [show bH "parts_left" (.int ((y.parts:Int) - 1)) (RF.fs y)=RF.fs { y with parts:=n - 1 } by
    rw [show ((y.parts:Int) - 1)=((n - 1:Nat):Int) by omega];rfl]
   have e6:Ext H M H6 M:=(Ext.of_same S5).trans (.fA sb6 fun b z=>by rw [z];exact mpc)
   have e7:Ext H M (upd H6 rc (.ins A.ao dr (RF.fs { y with parts:=n - 1 }))) M:=e6.trans (.upd mrc)
   have hm0:∀b∈M0 s x.k,upd H6 rc (.ins A.ao dr (RF.fs { y with parts:=n - 1 })) b=H b:=fun b hb=>by
    rw [aj (fun z=>nrc (by rw [← z];exact hb))]
    obtain ⟨o,e⟩:=R.core.jr R.bK b hb
    rw [e]
    exact sb6 _ _ (S5 _ _ e) fun z=>npc (by rw [← z];exact hb)
   have run7:=run.ext e7 hm0 R.core.mem
   have Rp:=hrows.rD (xs:=Mir.eO q.w q.h (Mir.kJ v.screen.form (ws.take v.screen.form.size))) (left:=q.x) (top:=q.y) (fun z hz=>by rw [(Mir.eR q.w q.h _).row z hz];exact c1) (by rw [(Mir.eR q.w q.h _).len];exact c2)
   refine ⟨_,rfl,s,dx,x,v,M,c,r,_,rc,dr,{ y with parts:=n - 1 },rs6,_,rfl,⟨run7,hM,R.nd,⟨hrc.ref,ae,hrc.l,hrc.t,hrc.w,hrc.h⟩,hin,hco,hc2,⟨?_,⟨?_,?_⟩,mpc⟩,Rp,xQ (p:=Mir.kJ v.screen.form (ws.take v.screen.form.size)) hdr hrows hin c1 c2,lp⟩,k'.ext e7⟩
   ·rw [aj nrp.symm]
    exact p6.lst
   ·refine p6.rows.keeps fun z hz o e=>?_
    have zr:z≠rc:=fun e2=>by
     rw [e2] at e hz
     have:=p6.rows
     obtain ⟨i,hi,e3⟩:=List.getElem_of_mem hz
     have:=p6.rows.at_ i rc (by rw [List.getElem?_eq_getElem hi,e3])
     rw [hrc6] at this
     cases this
    rw [aj zr]
    exact e
   ·intro z hz hm
    rcases hr6 z hz with h | h | h
    ·exact hpic.rows.fz z h hm
    ·cases h
    ·have fz:=S5.free h
     rw [hM] at hm
     rcases List.mem_append.mp hm with hm | hm
     ·exact R.core.d9 R.bK fz hm
     ·simp only [List.mem_cons,List.not_mem_nil,or_false] at hm
      rcases hm with rfl | rfl
      ·rw [hrc.at_] at fz;cases fz
      ·rw [hpic.lst] at fz;cases fz
end
theorem m9:∀(xs:List (List Nat)) (P:List (List Nat)) (b:Nat) (x:List Nat),Mir.cH P b (xs++[x])=(Mir.cH P b xs).set (b + xs.length) ((Mir.cH P b xs).getD (b + xs.length) []++x)
 | [],P,b,x=>rfl
 | y :: xs,P,b,x=>by
  have e:b + (y :: xs).length=b + 1 + xs.length:=by rw [List.length_cons];omega
  rw [e]
  exact m9 xs _ (b + 1) x
theorem jc.zero (r:Rect):jc r 0 0 (List.replicate r.h []):=by
 refine ⟨by simp,fun y hy=>?_⟩
 rw [List.getD_eq_getElem?_getD,List.getElem?_replicate,if_pos hy]
 show 0=_
 split
 ·omega
 ·split <;> rfl
theorem jc.rows {r:Rect} {i j:Nat} {Pic:List (List Nat)} (b:jc r i j Pic) (h:(r.w=0∧i=0)∨r.h≤16 * j):Mir.Rows r.w r.h Pic:=by
 refine ⟨b.len,fun z hz=>?_⟩
 obtain ⟨y,hy,rfl⟩:=Mir.mem_getD hz
 rw [b.len] at hy
 rw [b.row y hy]
 rcases h with ⟨h1,h2⟩ | h
 ·rw [h1,h2]
  split
  ·rfl
  ·split <;> rfl
 ·rw [if_pos (by omega)]
theorem jc.grow {r:Rect} {i j:Nat} {Pic TP:List (List Nat)} (b:jc r i j Pic) (hi:i < Mir.nC r) (hj:j < Mir.nR r) (ht:Mir.Rows (Mir.ax r i j).w (Mir.ax r i j).h TP) (y:Nat) (hy:y < r.h) :
  ((Mir.cH Pic (16 * j) TP).getD y []).length=if y < 16 * j then r.w else if y < 16 * j + 16 then 16 * i + (Mir.ax r i j).w else 0:=by
 have h1:=Mir.lO.mpr hj
 have e1:TP.length=min 16 (r.h - 16 * j):=ht.len
 rw [Mir.iF _ _ _ _ (by rw [b.len,e1];omega),e1]
 by_cases c1:y < 16 * j
 ·rw [if_neg (by omega),b.row y hy,if_pos c1,if_pos c1]
 ·rw [if_neg c1]
  by_cases c2:y < 16 * j + 16
  ·rw [if_pos (by omega),if_pos c2,List.length_append,b.row y hy,if_neg c1,if_pos c2,ht.row _ (Mir.getD_mem (by rw [e1];omega))]
  ·rw [if_neg (by omega),if_neg c2,b.row y hy,if_neg c1,if_neg c2]
theorem jc.right {r:Rect} {i j:Nat} {Pic TP:List (List Nat)} (b:jc r i j Pic) (hi:i < Mir.nC r) (hj:j < Mir.nR r) (ht:Mir.Rows (Mir.ax r i j).w (Mir.ax r i j).h TP) (c:16 * (i + 1) < r.w):jc r (i + 1) j (Mir.cH Pic (16 * j) TP):=by
 refine ⟨(Mir.gq ..).trans b.len,fun y hy=>?_⟩
 rw [b.grow hi hj ht y hy]
 have e:(Mir.ax r i j).w=16:=by show min 16 (r.w - 16 * i)=16;omega
 rw [e]
 rfl
theorem jc.down {r:Rect} {i j:Nat} {Pic TP:List (List Nat)} (b:jc r i j Pic) (hi:i < Mir.nC r) (hj:j < Mir.nR r) (ht:Mir.Rows (Mir.ax r i j).w (Mir.ax r i j).h TP) (c:¬ 16 * (i + 1) < r.w):jc r 0 (j + 1) (Mir.cH Pic (16 * j) TP):=by
 refine ⟨(Mir.gq ..).trans b.len,fun y hy=>?_⟩
 rw [b.grow hi hj ht y hy]
 have h1:=Mir.jh.mpr hi
 have e:16 * i + (Mir.ax r i j).w=r.w:=by show 16 * i + min 16 (r.w - 16 * i)=r.w;omega
 rw [e]
 by_cases c1:y < 16 * j
 ·rw [if_pos c1,if_pos (by omega)]
 ·rw [if_neg c1]
  by_cases c2:y < 16 * j + 16
  ·rw [if_pos c2,if_pos (by omega)]
  ·rw [if_neg c2,if_neg (by omega)]
   split <;> rfl
theorem xS {B:List (List Nat)} {w h x y n:Nat} (hB:Mir.Rows w h B) (hy:y + n≤h):Mir.aC B x y (List.replicate n [])=B:=by
 refine Mir.lS (Mir.bw ..) fun z hz=>?_
 rw [Mir.bw] at hz
 rw [Mir.bW _ _ _ _ _ (by rw [List.length_replicate,hB.len];exact hy),List.length_replicate]
 split
 ·rename_i c
  rw [List.getD_eq_getElem?_getD (l:=List.replicate n []),List.getElem?_replicate,if_pos (by omega)]
  exact Mir.vF _ _
 ·rfl
theorem xT {v:Viewer} {r:Rect} {B:List (List Nat)} (hB:Mir.Rows v.screen.w v.screen.h B) (cB:v.screen.cells=B.flatten) (hin:gi v r):Drawn v r (List.replicate r.h []) v.screen:=by
 refine ⟨B,hB,cB,?_⟩
 rw [xS hB hin.2,← cB]
section
variable {P:Program} {w:World} {K:PySem.W.Frag} {mg:Str→Option Value} {base:Heap} {A:bI}
def xU (A:bI):Sp:=fun vs H Q _=>∃(p dx rc dr:Addr) (y:RF) (l t:Nat),vs=[.ref p,.ref rc,.int (l:Int),.int (t:Int)]∧H p=some (.ins A.bR dx [])∧H rc=some (.ins A.ao dr (RF.fs y))∧l≤y.width∧t≤y.a9∧
 ∀H' tp,H' p=some (.ins A.bR dx (TF.fs ⟨l,t,min 16 (y.width - l),min 16 (y.a9 - t),0,tp,0⟩))→H tp=none→tp≠p→H' tp=some (.lst [])→SameBut H H' (·=p)→Q .cD H'
theorem Bs {a l:Nat} (h:l≤a):(if (a:Int) - (l:Int) < 16 then (a:Int) - (l:Int) else 16)=((min 16 (a - l):Nat):Int):=by
 split <;> omega
theorem Cw (T:Txt P w K mg A):xr P w K mg base A.bR "Tile" 1 ["self","rectangle","left","top"] (xU A):=by
 refine T.uu.at_ (fun _ _ _ _ _ _ us hl=>match us,hl with | [_,_,_,_],_=>rfl) fun f fd F=>?_
 refine F.ok uj (fun vs H Q E h=>?_) (fun cdv AA outer sh H vs Q E hr h=>?_)
 ·obtain ⟨p,dx,rc,dr,y,l,t,rfl,_⟩:=h
  rfl
 ·obtain ⟨p,dx,rc,dr,y,l,t,rfl,hp,hrc,hl,ht,k⟩:=h
  have tc:=T.bz
  have npr:rc≠p:=fun e=>by
   rw [e,hp] at hrc
   injection hrc with hrc
   injection hrc with h1 h2 h3
   cases h3
  have bm:bootBuiltins "min"=some (.builtin "min"):=by decide +kernel
  refine ⟨_,ab (aJ (pv 0) (pv 2) rfl) (ab (aJ (pv 0) (pv 3) rfl)
   (ab (aJ (pv 0) (bZ (sY rfl) (by rfl) T.vR bm (aa (a_ T.fw rfl) (aa (aH nj (aq (pv 1) rfl) (pv 2)) ah))) rfl)
   (ab (aJ (pv 0) (bZ (sY rfl) (by rfl) T.vR bm (aa (a_ T.fw rfl) (aa (aH nj (aq (pv 1) rfl) (pv 3)) ah))) rfl)
   (ab (aJ (pv 0) ai rfl) (ab (aJ (pv 0) (b0 ah) rfl) (ak (aJ (pv 0) ai rfl))))))),?_⟩
  refine ⟨_,rfl,_,rfl,p,A.bR,dx,_,rfl,hp,tc,T.ig,by show 0 < 1000;decide,?_⟩
  rw [show bH "left" (V.int (l:Int)) []=([("left",V.int (l:Int))]:List (Str × V)) from rfl]
  refine ⟨_,rfl,_,rfl,p,A.bR,dx,_,rfl,ae,tc,T.gf,by show 1 < 1000;decide,?_⟩
  rw [bg,show bH "top" (V.int (t:Int)) [("left",V.int (l:Int))]=([("left",V.int (l:Int)),("top",V.int (t:Int))]:List (Str × V)) from rfl]
  have hr1:∀{o},upd H p o rc=some (.ins A.ao dr (RF.fs y)):=by intro o;rw [aj npr];exact hrc
  refine ⟨_,rfl,rc,A.ao,dr,_,_,rfl,hr1,T.au,T.aZ,rfl,_,rfl,_,_,rfl,rfl,_,_,rfl,_,rfl,p,A.bR,dx,_,rfl,ae,tc,T.dS,by show 2 < 1000;decide,?_⟩
  rw [bg,Bs hl,show bH "width" (V.int (min 16 (y.width - l):Nat)) [("left",V.int (l:Int)),("top",V.int (t:Int))]=([("left",V.int (l:Int)),("top",V.int (t:Int)),("width",V.int (min 16 (y.width - l):Nat))]:List (Str × V)) from rfl]
  refine ⟨_,rfl,rc,A.ao,dr,_,_,rfl,hr1,T.au,T.aS,rfl,_,rfl,_,_,rfl,rfl,_,_,rfl,_,rfl,p,A.bR,dx,_,rfl,ae,tc,T.cQ,by show 3 < 1000;decide,?_⟩
  rw [bg,Bs ht,show bH "height" (V.int (min 16 (y.a9 - t):Nat)) [("left",V.int (l:Int)),("top",V.int (t:Int)),("width",V.int (min 16 (y.width - l):Nat))]=([("left",V.int (l:Int)),("top",V.int (t:Int)),("width",V.int (min 16 (y.width - l):Nat)),("height",V.int (min 16 (y.a9 - t):Nat))]:List (Str × V)) from rfl]
  refine ⟨_,rfl,p,A.bR,dx,_,rfl,ae,tc,T.bo,by show 4 < 1000;decide,?_⟩
  rw [bg]
  refine ⟨Nat.zero_le _,fun tp htp=>?_⟩
  obtain ⟨m1,f1⟩:=aR htp
  refine ⟨_,rfl,p,A.bR,dx,_,rfl,by rw [aj m1.symm];exact ae,tc,T.dy,by show 5 < 1000;decide,?_⟩
  rw [j6 m1]
  refine ⟨_,rfl,p,A.bR,dx,_,rfl,ae,tc,T.cC,by show 6 < 1000;decide,?_⟩
  rw [bg]
  refine k _ tp ae f1 m1 ?_ ?_
  ·rw [aj m1]
   exact ae
  ·intro b o e nb
   rw [aj nb]
   exact ay f1 _ _ e
end
structure CU (A:bI) (H:Hp) (M:List Addr) (s dx:Addr) (x:SF) (v:Viewer) (r:Rect) (i j back front:Nat) (rc dr:Addr) (y:RF) (rs:List Addr) (Pic:List (List Nat)) (s':Screen):Prop where
 run:cR A H M s dx x v
 sub:∀b∈M0 s x.k++(rc :: y.aA :: rs),b∈M
 nd:(M0 s x.k++(rc :: y.aA :: rs)).Nodup
 rect:dY A H x rc dr y r
 ins:gi v r
 bk:y.back=back
 fr:y.front=front
 lst:H y.aA=some (.lst (rs.map V.ref))
 rows:cq H rs Pic
 band:jc r i j Pic
 drawn:Drawn v r Pic s'
 left:0 < v.left
 at_:i < Mir.nC r∨(r.w=0∧i=0)
section
variable {P:Program} {w:World} {K:PySem.W.Frag} {mg:Str→Option Value} {base:Heap} {A:bI}
def xV (A:bI):Sp:=fun vs H Q _=>∃s dx x v M r i j back front rc dr y rs Pic s',vs=[.ref s,.int ((16 * i:Nat):Int),.int ((16 * j:Nat):Int)]∧CU A H M s dx x v r i j back front rc dr y rs Pic s'∧After A H s dx M v (Mir.cS v r i j back front s') Q
theorem lh (T:Txt P w K mg A):FnAt P w K mg base "next_tile" 6 ["session","left","top"] (xV A):=by
 refine T.jT.at_ (fun _ _ _ _ _ _ us hl=>match us,hl with | [_,_,_],_=>rfl) fun f fd F=>?_
 refine F.ok oH (fun vs H Q E h=>?_) (fun cdv AA outer sh H vs Q E hr h=>?_)
 ·obtain ⟨s,dx,x,v,M,r,i,j,back,front,rc,dr,y,rs,Pic,s',rfl,_⟩:=h
  rfl
 ·obtain ⟨s,dx,x,v,M,r,i,j,back,front,rc,dr,y,rs,Pic,s',rfl,O,k⟩:=h
  have nd:=oH.nd
  have run:=O.run
  have nrc:rc∉M0 s x.k:=k_ O.nd
  have apart:=(List.nodup_append.mp O.nd).2.2
  have npc:y.aA∉M0 s x.k:=fun hm=>apart _ hm y.aA (by simp) rfl
  have nrs:∀q∈rs,q∉M0 s x.k:=fun q hq hm=>apart _ hm q (by simp [hq]) rfl
  have nd2:=(List.nodup_append.mp O.nd).2.1
  have mrc:rc∈M:=O.sub _ (by simp)
  refine ⟨_,ab (aI (i:=3) nd rfl (Or.inl rfl) (aq (pv 0) rfl))
   (ab (aX (PW.pt (AG (aQ d_ (aq (pv 3) rfl) ai (aT _)) (wH (aQ AM (pv 2) (aq (pv 3) rfl) (aT _))))) (ab (az (aK (fV T) hr rfl (aa (pv 0) (aa (aq (pv 3) rfl) ah)))) (ak d5)) aP)
   (ab (aJ (pv 3) (A9 (Cw T) (hr.mono (by decide)) rfl (aa (pv 3) (aa (pv 1) (aa (pv 2) ah)))) rfl)
   (ak (az (bF (bf T) T.af (hr.mono (by decide)) (pv 0) (aa cv (aa ai ah))))))),?_⟩
  refine ⟨_,rfl,s,A.ag,dx,_,_,rfl,run.bK,T.af,T.aF,rfl,?_⟩
  rw [O.rect.ref]
  refine ⟨_,rfl,rc,A.ao,dr,_,_,rfl,O.rect.at_,T.au,T.aZ,rfl,rfl,_,rfl,?_⟩
  rw [kx,O.rect.w]
  unfold Mir.cS at k
  have done_:(r.w=0∨r.h≤16 * j)→wa A [.ref s,.ref y.aA] H (fun _ H'=>Q .cD H') E0:=fun c=>by
   rw [if_pos c] at k
   refine ⟨s,dx,x,v,v,M,rc,dr,y,r,y.aA,rs,Pic,s',rfl,run,O.rect,nrc,⟨O.lst,O.rows,fun hm=>?_⟩,O.band.rows ?_,O.ins,npc,nrs,O.left,O.drawn,k⟩
   ·rw [List.nodup_cons,List.nodup_cons] at nd2
    exact nd2.2.1 hm
   ·rcases c with c | c
    ·rcases O.at_ with q | q
     ·have:=Mir.jh.mpr q
      omega
     ·exact .inl q
    ·exact .inr c
  by_cases c1:r.w=0
  ·rw [decide_eq_true c1]
   refine cG ?_
   exact cG ⟨_,rfl,_,rfl,rc,A.ao,dr,_,_,rfl,O.rect.at_,T.au,T.bc,rfl,done_ (.inl c1)⟩
  ·rw [decide_eq_false c1]
   refine cE ⟨_,rfl,_,rfl,rc,A.ao,dr,_,_,rfl,O.rect.at_,T.au,T.aS,rfl,_,_,rfl,rfl,_,rfl,?_⟩
   show if decide ((y.a9:Int)≤((16 * j:Nat):Int))=true then _ else _
   rw [O.rect.h]
   by_cases c2:r.h≤16 * j
   ·rw [decide_eq_true (by omega)]
    exact cG ⟨_,rfl,_,rfl,rc,A.ao,dr,_,_,rfl,O.rect.at_,T.au,T.bc,rfl,done_ (.inr c2)⟩
   ·rw [decide_eq_false (by omega)]
    rw [if_neg (by omega)] at k
    have hi:i < Mir.nC r:=by
     rcases O.at_ with q | q
     ·exact q
     ·exact absurd q.1 c1
    have hj:j < Mir.nR r:=Mir.lO.mp (by omega)
    have hi':=Mir.jh.mpr hi
    refine cE ⟨_,rfl,_,rfl,_,rfl,fun tl dt n1 n2 n3=>?_⟩
    have sA:bX H (upd (upd H dt (.own tl)) tl (.ins A.bR dt [])):=fun b o e=>by
     rw [aj (aE e n1),aj (aE e n2)]
     exact e
    refine ⟨tl,dt,rc,dr,y,16 * i,16 * j,rfl,ae,sA _ _ O.rect.at_,by rw [O.rect.w];omega,by rw [O.rect.h];omega,fun H2 tp h1 h2 h3 h4 sb=>⟨rfl,?_⟩⟩
    have s2:bX H H2:=fun b o e=>sb b o (sA b o e) (aE e n1)
    refine ⟨_,rfl,rc,A.ao,dr,_,rfl,s2 _ _ O.rect.at_,T.au,T.bC,by show 10 < 1000;decide,?_⟩
    rw [show bH "tile" (.ref tl) (RF.fs y)=RF.fs { y with tile:=.ref tl } from rfl]
    have ntl:∀{b o},H b=some o→b≠tl:=fun e=>aE e n1
    have eM:Ext H M (upd H2 rc (.ins A.ao dr (RF.fs { y with tile:=.ref tl }))) (M0 s x.k++(rc :: y.aA :: tl :: ([]++rs))):=by
     refine ⟨fun b hb=>?_,fun b o e nb=>?_⟩
     ·rcases List.mem_append.mp hb with hb | hb
      ·exact .inl (run.core.mem b hb)
      ·simp only [List.mem_cons,List.nil_append] at hb
       rcases hb with rfl | rfl | rfl | hb
       ·exact .inl mrc
       ·exact .inl (O.sub _ (by simp))
       ·exact .inr n1
       ·exact .inl (O.sub _ (by simp [hb]))
     ·rw [aj (fun q=>nb (by rw [q];exact mrc))]
      exact s2 _ _ e
    have hm0:∀b∈M0 s x.k,upd H2 rc (.ins A.ao dr (RF.fs { y with tile:=.ref tl })) b=H b:=fun b hb=>by
     rw [aj (fun q=>nrc (by rw [← q];exact hb))]
     exact uH run s2 b hb
    have run2:=run.ext eM hm0 (fun b hb=>List.mem_append_left _ hb)
    have hndM:(M0 s x.k++(rc :: y.aA :: tl :: ([]++rs))).Nodup:=by
     rw [List.nodup_cons,List.nodup_cons] at nd2
     obtain ⟨d1,d2,d3⟩:=nd2
     have tr:tl∉rs:=fun hm=>by
      obtain ⟨o,e⟩:=O.rows.there hm
      exact ntl e rfl
     refine List.nodup_append.mpr ⟨run.core.nd,?_,?_⟩
     ·simp only [List.nodup_cons,List.mem_cons,List.nil_append,not_or]
      refine ⟨⟨fun q=>d1 (by rw [q];simp),ntl O.rect.at_,fun q=>d1 (by simp [q])⟩,⟨ntl O.lst,d2⟩,tr,d3⟩
     ·intro b hb c hc e
      subst e
      simp only [List.mem_cons,List.nil_append] at hc
      rcases hc with rfl | rfl | rfl | hc
      ·exact nrc hb
      ·exact npc hb
      ·obtain ⟨o,e⟩:=run.core.jr run.bK _ hb
       exact ntl e rfl
      ·exact nrs _ hc hb
    have nsr:rc≠s:=fun e=>nrc (by rw [e];simp [M0])
    have nsp:y.aA≠s:=fun e=>npc (by rw [e];simp [M0])
    have nst:tl≠s:=fun e=>ntl run.bK e.symm
    have nrt:tl≠rc:=fun e=>ntl O.rect.at_ e.symm
    have nrp:y.aA≠rc:=fun e=>by
     rw [List.nodup_cons] at nd2
     exact nd2.1 (by rw [e];simp)
    refine ⟨_,rfl,s,dx,_,rfl,run2.bK,rfl,s,dx,x,_,1,rfl,run2.bK,?_⟩
    refine k.expect eM run2.core rfl rfl run.wrong (by rw [run.cu,run.run];rfl) hndM ?_ ⟨fun _=>run.o6,fun _=>by rw [run.run];rfl⟩ run.run O.left
    refine ⟨rc,dr,tl,dt,{ y with tile:=.ref tl },(⟨16 * i,16 * j,min 16 (y.width - 16 * i),min 16 (y.a9 - 16 * j),0,tp,0⟩:TF),rs,Pic,⟨rfl,⟨O.rect.ref,?_,O.rect.l,O.rect.t,O.rect.w,O.rect.h⟩,O.ins,O.bk,O.fr,⟨rfl,?_,rfl,rfl,?_,?_⟩,?_,?_,O.band,hi,hj⟩,O.drawn,rfl⟩
    ·rw [aj nsr]
     exact ae
    ·rw [aj nst,aj nrt]
     exact h1
    ·show min 16 (y.width - 16 * i)=min 16 (r.w - 16 * i)
     rw [O.rect.w]
    ·show min 16 (y.a9 - 16 * j)=min 16 (r.h - 16 * j)
     rw [O.rect.h]
    ·rw [aj nsp,aj nrp]
     exact s2 _ _ O.lst
    ·refine O.rows.keeps fun q hq o e=>?_
     rw [aj (fun z=>nrs q hq (by rw [z];simp [M0])),aj (fun z=>by
      rw [List.nodup_cons] at nd2
      exact nd2.1 (by rw [← z];simp [hq]))]
     exact s2 _ _ e
def uJ (A:bI):Sp:=fun vs H Q _=>∃s dx x v M r rc dr y,vs=[.ref s]∧cR A H M s dx x v∧M=M0 s x.k++[rc]∧M.Nodup∧dY A H x rc dr y r∧gi v r∧y.back=0∧y.front=0∧0 < v.left∧After A H s dx M v (Mir.cS v r 0 0 0 0 v.screen) Q
theorem rY (T:Txt P w K mg A):FnAt P w K mg base "begin_tiles" 7 ["session"] (uJ A):=by
 refine T.g_.at_ (fun _ _ _ _ _ _ us hl=>match us,hl with | [_],_=>rfl) fun f fd F=>?_
 refine F.ok lW (fun vs H Q E h=>?_) (fun cdv AA outer sh H vs Q E hr h=>?_)
 ·obtain ⟨s,dx,x,v,M,r,rc,dr,y,rfl,_⟩:=h
  rfl
 ·obtain ⟨s,dx,x,v,M,r,rc,dr,y,rfl,run,hM,hnd,hrc,hin,hb,hf,lp,k⟩:=h
  have nd:=lW.nd
  have nrc:rc∉M0 s x.k:=k_ (more:=[]) (by rw [← hM];exact hnd)
  have mrc:rc∈M:=by rw [hM];simp
  have side:=run.core.side
  have i1:=hin.1
  have i2:=hin.2
  refine ⟨_,ab (aI (i:=1) nd rfl (Or.inl rfl) (aq (pv 0) rfl))
   (ab (aJ (pv 1) (rf (own:=[("row",2)]) rfl nd (o9 rfl T.ia (aa (aq (pv 1) rfl) ah)) (jf rfl) (fun _ _ _ _ _=>di (i:=2) nd rfl (Or.inl rfl)) (fun _ _ _ _ _=>kH) (fun _ _ _ _ _=>b0 ah)) rfl)
   (ak (az (aK (lh T) hr rfl (aa (pv 0) (aa ai (aa ai ah))))))),?_⟩
  refine ⟨_,rfl,s,A.ag,dx,_,_,rfl,run.bK,T.af,T.aF,rfl,?_⟩
  rw [hrc.ref]
  refine ⟨_,rfl,rc,A.ao,dr,_,_,rfl,hrc.at_,T.au,T.aS,rfl,(y.a9:Int),rfl,by omega,by rw [hrc.h];omega,fun D hD=>?_⟩
  refine vn (n:=(y.a9:Int).toNat) (fun i H'=>∃rs:List Addr,gg H' D rs (List.replicate i [])∧rs.Nodup∧(∀q∈rs,H q=none)∧bX H H') ⟨[],⟨ae,⟨rfl,fun i r h=>by simp at h⟩,by simp⟩,by simp,by simp,ay hD⟩ ?_ ?_
  ·rintro i H' hi ⟨rs,p',hn,hq,s1⟩
   have hi:i < y.a9:=by omega
   refine ⟨rfl,kY ⟨Nat.zero_le _,fun q hqn=>?_⟩⟩
   have s2:=ay (o:=.lst []) hqn
   have nq:q≠D:=fun e=>by rw [e,p'.lst] at hqn;cases hqn
   have lr:rs.length=i:=by rw [p'.rows.len,List.length_replicate]
   refine ⟨_,s2 _ _ p'.lst,?_,rs++[q],⟨?_,?_,?_⟩,?_,?_,?_⟩
   ·rw [List.length_map,lr,sizeLine_eq]
    have:=hrc.h
    omega
   ·rw [ae,List.map_append]
    rfl
   ·rw [List.replicate_succ']
    refine cq.snoc (p'.rows.keeps fun z hz o e=>?_) ?_
    ·rw [aj (fun e2=>p'.ne (by rw [← e2];exact hz))]
     exact s2 _ _ e
    ·rw [aj nq,ae]
     rfl
   ·intro hm
    rcases List.mem_append.mp hm with h | h
    ·exact p'.ne h
    ·exact nq (List.mem_singleton.mp h).symm
   ·refine List.nodup_append.mpr ⟨hn,by simp,fun a ha b hb e=>?_⟩
    rw [List.mem_singleton.mp hb] at e
    obtain ⟨o,e2⟩:=p'.rows.there ha
    rw [e,hqn] at e2
    cases e2
   ·intro z hz
    rcases List.mem_append.mp hz with h | h
    ·exact hq z h
    ·rw [List.mem_singleton.mp h]
     exact s1.free hqn
   ·intro b o e
    rw [aj (aE e hD)]
    exact s2 _ _ (s1 _ _ e)
  ·rintro H1 ⟨rs,p1,hn,hq,s1⟩
   rw [show (y.a9:Int).toNat=r.h by rw [hrc.h];rfl] at p1
   refine ⟨_,rfl,rc,A.ao,dr,_,rfl,s1 _ _ hrc.at_,T.au,T.bc,by show 10 < 1000;decide,?_⟩
   rw [show bH "picture" (.ref D) (RF.fs y)=RF.fs { y with aA:=D } from rfl]
   have eM:Ext H M (upd H1 rc (.ins A.ao dr (RF.fs { y with aA:=D }))) (M0 s x.k++(rc :: D :: rs)):=by
    refine ⟨fun b hb'=>?_,fun b o e nb=>?_⟩
    ·rcases List.mem_append.mp hb' with h | h
     ·exact .inl (run.core.mem b h)
     ·simp only [List.mem_cons] at h
      rcases h with rfl | rfl | h
      ·exact .inl mrc
      ·exact .inr hD
      ·exact .inr (hq _ h)
    ·rw [aj (fun q=>nb (by rw [q];exact mrc))]
     exact s1 _ _ e
   have hm0:∀b∈M0 s x.k,upd H1 rc (.ins A.ao dr (RF.fs { y with aA:=D })) b=H b:=fun b hb'=>by
    rw [aj (fun q=>nrc (by rw [← q];exact hb'))]
    exact uH run s1 b hb'
   have run2:=run.ext eM hm0 (fun b hb'=>List.mem_append_left _ hb')
   obtain ⟨DZ,B,pB,hB,cB⟩:=run.core.pic
   have nrD:rc≠D:=aE hrc.at_ hD
   refine ⟨_,rfl,s,dx,x,v,_,r,0,0,0,0,rc,dr,{ y with aA:=D },rs,_,v.screen,rfl,⟨run2,fun b hb'=>hb',?_,⟨hrc.ref,ae,hrc.l,hrc.t,hrc.w,hrc.h⟩,hin,hb,hf,?_,?_,jc.zero r,xT hB cB hin,lp,?_⟩,k.ext eM⟩
   ·refine List.nodup_append.mpr ⟨run.core.nd,?_,?_⟩
    ·simp only [List.nodup_cons,List.mem_cons,not_or]
     exact ⟨⟨nrD,fun hm=>by have:=hrc.at_;rw [hq _ hm] at this;cases this⟩,p1.ne,hn⟩
    ·intro b hb' c hc e
     subst e
     simp only [List.mem_cons] at hc
     rcases hc with rfl | rfl | hc
     ·exact nrc hb'
     ·exact run.core.d9 run.bK hD hb'
     ·exact run.core.d9 run.bK (hq _ hc) hb'
   ·rw [aj nrD.symm]
    exact p1.lst
   ·refine p1.rows.keeps fun z hz o e=>?_
    rw [aj (fun e2=>by have:=hq z hz;rw [e2,hrc.at_] at this;cases this)]
    exact e
   ·by_cases c:r.w=0
    ·exact .inr ⟨c,rfl⟩
    ·exact .inl (Mir.jh.mp (by omega))
theorem oY (T:Txt P w K mg A):FnAt P w K mg base "take_rectangle" 8 ["session","words"] (dg A (·=.rect)):=by
 refine T.fL.at_ (fun _ _ _ _ _ _ us hl=>match us,hl with | [_,_],_=>rfl) fun f fd F=>?_
 refine F.ok jM (fun vs H Q E h=>?_) (fun cdv AA outer sh H vs Q E hr h=>?_)
 ·obtain ⟨s,dx,wd,x,ws,v,m,M,rfl,_⟩:=h
  rfl
 ·obtain ⟨s,dx,wd,x,ws,v,m,M,rfl,rfl,ti,k⟩:=h
  have R:=ti.rep
  have nd:=jM.nd
  have run:=R.running rfl
  have lp:0 < v.left:=R.lG
  have hM:M=M0 s x.k:=R.mode
  obtain ⟨r,hr0⟩:∃r:Rect,r=⟨Mir.sub ws 0 2,Mir.sub ws 2 2,Mir.sub ws 4 2,Mir.sub ws 6 2⟩:=⟨_,rfl⟩
  have k':After A H s dx M v (if Sn44.inside v.screen.w v.screen.h r=true then (if Mir.sub ws 8 4=0 then .cont (.pixels r) else if Mir.sub ws 8 4=1 then .cont (.source r) else if Mir.sub ws 8 4=2 then .cont (.howManyParts 2 r) else if Mir.sub ws 8 4=4 then .cont (.howManyParts 1 r) else if Mir.sub ws 8 4=5 then Mir.cS v r 0 0 0 0 v.screen else .bad 7) else .bad 7) Q:=by rw [hr0];exact k
  obtain ⟨fa,bits,f1,f2,f3,f4⟩:=R.core.form run.o6
  refine ⟨_,ab (aI (i:=2) nd rfl (Or.inl rfl) (A9 (uG T) (hr.mono (by decide)) rfl (aa (pv 1) ah)))
   (ab (aJ (pv 0) (pv 2) rfl)
   (ak (aX (kD (ka (aK (oW T) (hr.mono (by decide)) rfl (aa (pv 0) (aa (aq (pv 2) rfl) (aa (aq (pv 2) rfl) ah)))))) (ak (az (bF (d8 T) T.af (hr.mono (by decide)) (pv 0) (aa ai ah))))
   (ak (aX (aQ d_ (aq (pv 2) rfl) (a_ T.qJ rfl) (aT _)) (ak (az (bF (bf T) T.af (hr.mono (by decide)) (pv 0) (aa cv (aa (aH gc (aH gc (aq (pv 2) rfl) (aq (pv 2) rfl)) (aq (aq (pv 0) rfl) rfl)) ah)))))
   (ak (aX (aQ d_ (aq (pv 2) rfl) (a_ T.oS rfl) (aT _)) (ak (az (bF (bf T) T.af (hr.mono (by decide)) (pv 0) (aa cv (aa ai ah)))))
   (ak (aX (PW.pt (AG (aQ d_ (aq (pv 2) rfl) (a_ T.qK rfl) (aT _)) (wH (aQ d_ (aq (pv 2) rfl) (a_ T.fX rfl) (aT _))))) (ak (az (bF (bf T) T.af (hr.mono (by decide)) (pv 0) (aa cv (aa ai ah)))))
   (ak (aX (aQ d_ (aq (pv 2) rfl) (a_ T.qL rfl) (aT _)) (ak (az (aK (rY T) hr rfl (aa (pv 0) ah))))
   (ak (az (bF (d8 T) T.af (hr.mono (by decide)) (pv 0) (aa ai ah))))))))))))))),?_⟩
  refine ⟨_,rfl,fun rc dr n1 n2 n3=>?_⟩
  have sA:bX H (upd (upd H dr (.own rc)) rc (.ins A.ao dr [])):=fun b o e=>by
   rw [aj (aE e n1),aj (aE e n2)]
   exact e
  refine ⟨rc,dr,wd,ws,rfl,ae,sA _ _ ti.words.1,fun H2 pc h1 h2 h3 h4 sb=>⟨rfl,?_⟩⟩
  have s2:bX H H2:=fun b o e=>sb b o (sA b o e) (aE e n1)
  refine ⟨_,rfl,_,rfl,s,A.ag,dx,_,rfl,s2 _ _ R.bK,T.af,T.aF,by show 20 < 1000;decide,?_⟩
  rw [show bH "rectangle" (.ref rc) x.fs=SF.fs { x with b6:=.ref rc } from rfl]
  obtain ⟨x2,hx2⟩:∃z:SF,z={ x with b6:=.ref rc }:=⟨_,rfl⟩
  have kk:x2.k=x.k:=by rw [hx2]
  have w2:x2.wrong=0:=by rw [hx2];exact R.wrong
  have g2:x2.bE=dC v.stage:=by rw [hx2];exact R.cu
  have rr2:x2.b6=.ref rc:=by rw [hx2]
  rw [← hx2]
  obtain ⟨y,hy⟩:∃y:RF,y=⟨Mir.sub ws 0 2,Mir.sub ws 2 2,Mir.sub ws 4 2,Mir.sub ws 6 2,Mir.sub ws 8 4,pc,0,0,0,.cD⟩:=⟨_,rfl⟩
  rw [← hy] at h1
  have nrs:rc≠s:=fun e=>by rw [e,R.bK] at n1;cases n1
  have hrcU:∀{o},upd H2 s o rc=some (.ins A.ao dr (RF.fs y)):=by intro o;rw [aj nrs];exact h1
  have nrc:rc∉M0 s x.k:=R.core.d9 R.bK n1
  have eM:∀o,Ext H M (upd H2 s o) (M0 s x2.k++[rc]):=fun o=>by
   rw [kk]
   refine ⟨fun b hb=>?_,fun b u e nb=>?_⟩
   ·rcases List.mem_append.mp hb with h | h
    ·exact .inl (by rw [hM];exact h)
    ·rw [List.mem_singleton.mp h]
     exact .inr n1
   ·rw [aj (fun q=>nb (by rw [q];exact R.core.eo))]
    exact s2 _ _ e
  have C2:Core A (upd H2 s (.ins A.ag dx x2.fs)) (M0 s x2.k++[rc]) s x2.k v:=by
   rw [kk] at eM ⊢
   refine R.core.ext (eM _) (fun b hb=>?_) (fun b hb=>List.mem_append_left _ hb)
   rw [aj (R.core.xI b hb)]
   obtain ⟨o,q⟩:=R.core.there b hb
   rw [q,s2 _ _ q]
  have hndM:(M0 s x2.k++[rc]).Nodup:=by
   rw [kk]
   refine List.nodup_append.mpr ⟨R.core.nd,by simp,fun a ha b hb e=>?_⟩
   rw [List.mem_singleton.mp hb] at e
   exact nrc (by rw [← e];exact ha)
  have hrect:∀o,dY A (upd H2 s o) x2 rc dr y r:=fun o=>⟨rr2,hrcU,by rw [hy,hr0],by rw [hy,hr0],by rw [hy,hr0],by rw [hy,hr0]⟩
  have hs2:en A (upd H2 s (.ins A.ag dx x2.fs)) s dx x2:=ae
  have yc:y.nB=Mir.sub ws 8 4:=by rw [hy]
  have yl:y.left=r.x:=by rw [hy,hr0]
  have yt:y.top=r.y:=by rw [hy,hr0]
  refine ⟨_,rfl,_,rfl,rc,A.ao,dr,_,_,rfl,hrcU,T.au,T.cM,rfl,_,rfl,rc,A.ao,dr,_,_,rfl,hrcU,T.au,T.de,rfl,s,dx,x2,rc,dr,y,r,y.left,y.top,rfl,hs2,hrect _,_,rfl,?_⟩
  rw [yl,yt,C2.cols,C2.rows]
  unfold Sn44.inside at k'
  have bad7:After A H s dx M v (.bad 7) Q→vc A.ag "fail" (Bk A) [] E0 (wD 0) (CL (tC (V.int 7)) vb) [some (.ref s),some (.ref wd),some (.ref rc)] (upd H2 s (.ins A.ag dx x2.fs)) (fun _ H'=>Q .cD H'):=fun kb=>
   ⟨_,rfl,s,dx,_,rfl,hs2,rfl,s,dx,x2,7,rfl,hs2,kb.fail (eM _) C2 (by decide)⟩
  have hrun:dC v.stage=true ↔ v.screen.w≠0:=R.run
  cases cc:(decide (r.x + r.w≤v.screen.w) && decide (r.y + r.h≤v.screen.h)) with
  | false=>
   rw [cc,if_neg (by decide)] at k'
   exact cG (bad7 k')
  | true=>
   rw [cc,if_pos rfl] at k'
   rw [Bool.and_eq_true] at cc
   have hin:gi v r:=⟨of_decide_eq_true cc.1,of_decide_eq_true cc.2⟩
   refine cE ⟨_,rfl,rc,A.ao,dr,_,_,rfl,hrcU,T.au,T.bx,rfl,rfl,_,rfl,?_⟩
   rw [show (V.int 0)=V.int ((0:Nat):Int) from rfl,ic,yc]
   by_cases c0:Mir.sub ws 8 4=0
   ·rw [if_pos c0] at k'
    rw [decide_eq_true c0]
    have f2':=f2.ext (eM (.ins A.ag dx x2.fs))
    obtain ⟨fdx,gr,sh1,z1,z2,z3,z4⟩:=id f2'
    refine cG ⟨_,rfl,s,dx,_,rfl,hs2,rfl,_,rfl,rc,A.ao,dr,_,_,rfl,hrcU,T.au,T.aZ,rfl,_,rfl,rc,A.ao,dr,_,_,rfl,hrcU,T.au,T.aS,rfl,_,_,rfl,rfl,?_,_,rfl,s,A.ag,dx,_,_,rfl,hs2,T.af,T.aL,rfl,?_⟩
    ·have:=(hrect (.ins A.ag dx x2.fs)).w
     have h1':=hin.1
     have:=R.core.side
     refine .inl ⟨?_,?_⟩
     ·show -(2 ^ 64) < ((y.width:Nat):Int)
      omega
     ·show ((y.width:Nat):Int) < 2 ^ 64
      omega
    ·rw [show x2.k.form=V.ref fa by rw [kk];exact f1]
     have yw:y.width=r.w:=by rw [hy,hr0]
     have yh:y.a9=r.h:=by rw [hy,hr0]
     refine ⟨fa,A.Form,fdx,_,_,rfl,z1.1,T.bB,T.bO,rfl,_,_,rfl,rfl,?_,?_⟩
     ·refine .inr ⟨?_,?_⟩
      ·show -(2 ^ 64) < ((bits / 8:Nat):Int)
       omega
      ·show ((bits / 8:Nat):Int) < 2 ^ 64
       have:bits / 8=v.screen.form.size:=z4.symm
       rw [this]
       rcases f3 with h | h | h <;> rw [h] <;> decide
     ·refine ⟨s,dx,x2,"pixels",r.w * r.h * v.screen.form.size,?_,hs2,?_⟩
      ·rw [z4,yw,yh,Int.natCast_mul,Int.natCast_mul]
       rfl
      ·exact k'.expect (eM _) C2 rfl rfl w2 g2 hndM ⟨rc,dr,y,rfl,by rw [bg];exact ⟨rr2,hrcU,(hrect (.ins A.ag dx x2.fs)).l,(hrect (.ins A.ag dx x2.fs)).t,(hrect (.ins A.ag dx x2.fs)).w,(hrect (.ins A.ag dx x2.fs)).h⟩,hin⟩ hrun R.lF R.lG
   rw [if_neg c0] at k'
   rw [decide_eq_false c0]
   refine cE ⟨_,rfl,rc,A.ao,dr,_,_,rfl,hrcU,T.au,T.bx,rfl,rfl,_,rfl,?_⟩
   rw [show (V.int 1)=V.int ((1:Nat):Int) from rfl,ic,yc]
   by_cases c1:Mir.sub ws 8 4=1
   ·rw [if_pos c1] at k'
    rw [decide_eq_true c1]
    exact cG ⟨_,rfl,s,dx,_,rfl,hs2,rfl,s,dx,x2,_,4,rfl,hs2,k'.expect (eM _) C2 rfl rfl w2 g2 hndM ⟨rc,dr,y,rfl,by rw [bg];exact ⟨rr2,hrcU,(hrect (.ins A.ag dx x2.fs)).l,(hrect (.ins A.ag dx x2.fs)).t,(hrect (.ins A.ag dx x2.fs)).w,(hrect (.ins A.ag dx x2.fs)).h⟩,hin⟩ hrun R.lF R.lG⟩
   rw [if_neg c1] at k'
   rw [decide_eq_false c1]
   refine cE ⟨_,rfl,rc,A.ao,dr,_,_,rfl,hrcU,T.au,T.bx,rfl,rfl,_,rfl,?_⟩
   rw [show (V.int 2)=V.int ((2:Nat):Int) from rfl,ic,yc]
   by_cases c2:Mir.sub ws 8 4=2
   ·rw [if_pos c2] at k'
    rw [decide_eq_true c2]
    refine cG (cG ?_)
    exact ⟨_,rfl,s,dx,_,rfl,hs2,rfl,s,dx,x2,_,4,rfl,hs2,k'.expect (eM _) C2 rfl rfl w2 g2 hndM ⟨rc,dr,y,rfl,by rw [bg];exact ⟨rr2,hrcU,(hrect (.ins A.ag dx x2.fs)).l,(hrect (.ins A.ag dx x2.fs)).t,(hrect (.ins A.ag dx x2.fs)).w,(hrect (.ins A.ag dx x2.fs)).h⟩,hin,by rw [yc,c2];rfl,.inr rfl⟩ hrun R.lF R.lG⟩
   rw [if_neg c2] at k'
   rw [decide_eq_false c2]
   refine cE ⟨_,rfl,rc,A.ao,dr,_,_,rfl,hrcU,T.au,T.bx,rfl,rfl,_,rfl,?_⟩
   rw [show (V.int 4)=V.int ((4:Nat):Int) from rfl,ic,yc]
   by_cases c4:Mir.sub ws 8 4=4
   ·rw [if_pos c4] at k'
    rw [decide_eq_true c4]
    exact cG ⟨_,rfl,s,dx,_,rfl,hs2,rfl,s,dx,x2,_,4,rfl,hs2,k'.expect (eM _) C2 rfl rfl w2 g2 hndM ⟨rc,dr,y,rfl,by rw [bg];exact ⟨rr2,hrcU,(hrect (.ins A.ag dx x2.fs)).l,(hrect (.ins A.ag dx x2.fs)).t,(hrect (.ins A.ag dx x2.fs)).w,(hrect (.ins A.ag dx x2.fs)).h⟩,hin,by rw [yc,c4];rfl,.inl rfl⟩ hrun R.lF R.lG⟩
   rw [if_neg c4] at k'
   rw [decide_eq_false c4]
   refine cE ⟨_,rfl,rc,A.ao,dr,_,_,rfl,hrcU,T.au,T.bx,rfl,rfl,_,rfl,?_⟩
   rw [show (V.int 5)=V.int ((5:Nat):Int) from rfl,ic,yc]
   by_cases c5:Mir.sub ws 8 4=5
   ·rw [if_pos c5] at k'
    rw [decide_eq_true c5]
    exact cG ⟨_,rfl,s,dx,x2,v,_,r,rc,dr,y,rfl,⟨hs2,C2,w2,by rw [g2,run.run];rfl,run.run,run.o6⟩,rfl,hndM,hrect _,hin,by rw [hy],by rw [hy],lp,k'.ext (eM _)⟩
   rw [if_neg c5] at k'
   rw [decide_eq_false c5]
   exact cE (bad7 k')
end
theorem cq.upd {H:Hp} {rs:List Addr} {P:List (List Nat)} {k:Nat} {r:Addr} {X:List Nat} (h:cq H rs P) (nd:rs.Nodup) (e:rs[k]?=some r):cq (L2.upd H r (.lst (nI X))) rs (P.set k X):=by
 refine ⟨by rw [List.length_set];exact h.len,fun i q hq=>?_⟩
 obtain ⟨hk,ek⟩:=List.getElem?_eq_some_iff.mp e
 obtain ⟨hi,ei⟩:=List.getElem?_eq_some_iff.mp hq
 have hl:=h.len
 rw [List.getD_eq_getElem?_getD,List.getElem?_set]
 by_cases c:k=i
 ·subst c
  rw [if_pos rfl,if_pos (by omega)]
  have:q=r:=by rw [← ek,← ei]
  rw [this,ae]
  rfl
 ·rw [if_neg c,← List.getD_eq_getElem?_getD]
  have:q≠r:=fun z=>c (by
   have e3:rs[k]=rs[i]:=by rw [ek,ei,z]
   have pw:=List.pairwise_iff_getElem.mp nd
   rcases Nat.lt_trichotomy k i with q1 | q1 | q1
   ·exact absurd e3 (pw k i hk hi q1)
   ·exact q1
   ·exact absurd e3.symm (pw i k hi hk q1))
  rw [aj this]
  exact h.at_ i q hq
structure yV (A:bI) (H:Hp) (M:List Addr) (s dx:Addr) (x:SF) (v:Viewer) (r:Rect) (i j back front:Nat) (rc dr tl dt:Addr) (y:RF) (z:TF) (rs:List Addr) (Pic:List (List Nat)) (pc:Addr) (ps:List Addr) (TP:List (List Nat)) (s':Screen):Prop where
 run:cR A H M s dx x v
 sub:∀b∈M0 s x.k++(rc :: y.aA :: rs),b∈M
 nd:(M0 s x.k++(rc :: y.aA :: rs)).Nodup
 rect:dY A H x rc dr y r
 ins:gi v r
 bk:y.back=back
 fr:y.front=front
 tile:Bn A H y tl dt z r i j
 lst:H y.aA=some (.lst (rs.map V.ref))
 rows:cq H rs Pic
 band:jc r i j Pic
 left:0 < v.left
 hi:i < Mir.nC r
 hj:j < Mir.nR r
 pic:gg H pc ps TP
 tp:Mir.Rows (Mir.ax r i j).w (Mir.ax r i j).h TP
 Gp:pc∉rs
 Gq:∀q∈ps,q∉rs
 drawn:∃B,Mir.Rows v.screen.w v.screen.h B∧v.screen.cells=B.flatten∧s'={ v.screen with cells:=(Mir.aC (Mir.aC B r.x r.y Pic) (Mir.ax r i j).x (Mir.ax r i j).y TP).flatten }
theorem yV.D0 {A:bI} {H:Hp} {M:List Addr} {s dx:Addr} {x:SF} {v:Viewer} {r:Rect} {i j back front:Nat} {rc dr tl dt:Addr} {y:RF} {z:TF} {rs:List Addr} {Pic:List (List Nat)} {pc:Addr} {ps:List Addr} {TP:List (List Nat)} {s':Screen}
  (O:yV A H M s dx x v r i j back front rc dr tl dt y z rs Pic pc ps TP s'):Drawn v r (Mir.cH Pic (16 * j) TP) s':=by
 obtain ⟨B,hB,cB,e⟩:=O.drawn
 refine ⟨B,hB,cB,?_⟩
 rw [e]
 have h1:=Mir.lO.mpr O.hj
 have h2:=Mir.jh.mpr O.hi
 have i1:=O.ins.1
 have i2:=O.ins.2
 have el:TP.length=min 16 (r.h - 16 * j):=O.tp.len
 have:=Mir.xq (r_x:=r.x) (r_y:=r.y) (a:=16 * i) (b:=16 * j) (pic:=Pic) (t:=TP) hB (by rw [O.band.len];exact i2) (by rw [O.band.len,el];omega)
  (fun q q1 q2=>by rw [O.band.row q (by omega),if_neg (by omega),if_pos (by omega)])
  (fun q hq=>by rw [O.tp.row q hq];show r.x + (16 * i + min 16 (r.w - 16 * i))≤_;omega)
 show { v.screen with cells:=(Mir.aC (Mir.aC B r.x r.y Pic) (r.x + 16 * i) (r.y + 16 * j) TP).flatten }=_
 rw [this]
section
variable {P:Program} {w:World} {K:PySem.W.Frag} {mg:Str→Option Value} {base:Heap} {A:bI}
def uK (A:bI):Sp:=fun vs H Q _=>∃s dx x v M r i j back front rc dr tl dt y z rs Pic pc ps TP s',vs=[.ref s,.ref pc]∧yV A H M s dx x v r i j back front rc dr tl dt y z rs Pic pc ps TP s'∧After A H s dx M v (Mir.cW v r i j back front s') Q
theorem mf (T:Txt P w K mg A):FnAt P w K mg base "finish_tile" 7 ["session","picture"] (uK A):=by
 refine T.hJ.at_ (fun _ _ _ _ _ _ us hl=>match us,hl with | [_,_],_=>rfl) fun f fd F=>?_
 refine F.ok lX (fun vs H Q E h=>?_) (fun cdv AA outer sh H vs Q E hr h=>?_)
 ·obtain ⟨s,dx,x,v,M,r,i,j,back,front,rc,dr,tl,dt,y,z,rs,Pic,pc,ps,TP,s',rfl,_⟩:=h
  rfl
 ·obtain ⟨s,dx,x,v,M,r,i,j,back,front,rc,dr,tl,dt,y,z,rs,Pic,pc,ps,TP,s',rfl,O,k⟩:=h
  have nd:=lX.nd
  have run:=O.run
  have apart:=(List.nodup_append.mp O.nd).2.2
  have nrs:∀q∈rs,q∉M0 s x.k:=fun q hq hm=>apart _ hm q (by simp [hq]) rfl
  have nd2:=(List.nodup_append.mp O.nd).2.1
  rw [List.nodup_cons,List.nodup_cons] at nd2
  obtain ⟨d1,d2,d3⟩:=nd2
  have rcn:rc∉rs:=fun hm=>d1 (by simp [hm])
  have tln:tl∉rs:=fun hm=>by
   obtain ⟨q,hq,e⟩:=List.getElem_of_mem hm
   have:=O.rows.at_ q tl (by rw [List.getElem?_eq_getElem hq,e])
   rw [O.tile.at_] at this
   cases this
  have sn:s∉rs:=fun hm=>nrs s hm (by simp [M0])
  have side:=run.core.side
  have i1:=O.ins.1
  have i2:=O.ins.2
  have h1:=Mir.lO.mpr O.hj
  have h2:=Mir.jh.mpr O.hi
  have el:TP.length=min 16 (r.h - 16 * j):=O.tp.len
  have rl:rs.length=r.h:=by rw [O.rows.len,O.band.len]
  refine ⟨_,ab (aI (i:=2) nd rfl (Or.inl rfl) (aq (pv 0) rfl))
   (ab (aI (i:=3) nd rfl (Or.inl rfl) (aq (pv 2) rfl))
   (ab (kE PassesOwn.never rfl (o9 rfl T.ia (aa (aq (pv 3) rfl) ah)) (di (i:=4) nd rfl (Or.inl rfl))
    (ak (az (q_ PySem.F.plainAttrs_list PySem.F.slot_list_extend PySem.F.type_list_extend jd (cN bq (aq (pv 2) rfl) (aH bA (aq (pv 3) rfl) (pv 4)) (fun _ _=>rfl)) (aa (cN bq (pv 1) (pv 4) (fun _ _=>rfl)) ah)))))
   (ab (aI (i:=5) nd rfl (Or.inl rfl) (aH bA (aq (pv 3) rfl) (a_ T.fw rfl)))
   (ak (aX (aQ yi (pv 5) (aq (pv 2) rfl) (aT _))
    (ak (az (aK (lh T) hr rfl (aa (pv 0) (aa (pv 5) (aa (aq (pv 3) rfl) ah))))))
    (ak (az (aK (lh T) hr rfl (aa (pv 0) (aa ai (aa (aH bA (aq (pv 3) rfl) (a_ T.fw rfl)) ah))))))))))),?_⟩
  refine ⟨_,rfl,s,A.ag,dx,_,_,rfl,run.bK,T.af,T.aF,rfl,?_⟩
  rw [O.rect.ref]
  refine ⟨_,rfl,rc,A.ao,dr,_,_,rfl,O.rect.at_,T.au,T.bC,rfl,?_⟩
  rw [O.tile.ref]
  refine ⟨_,rfl,tl,A.bR,dt,_,_,rfl,O.tile.at_,T.bz,T.cQ,rfl,(z.a9:Int),rfl,by omega,by rw [O.tile.h,← O.tp.len];omega,?_⟩
  have hh:(z.a9:Int).toNat=TP.length:=by rw [O.tile.h,← O.tp.len];rfl
  rw [hh]
  refine zp (fun p σ H'=>∃u:Option V,σ=[some (.ref s),some (.ref pc),some (.ref rc),some (.ref tl),u,none]∧cq H' rs (Mir.cH Pic (16 * j) (TP.take p))∧SameBut H H' (·∈rs)) ⟨none,rfl,O.rows,fun b o e _=>e⟩ ?_ ?_
  ·rintro p σ H' hp ⟨u,rfl,R',sb⟩
   have hrc:=sb _ _ O.rect.at_ rcn
   have htl:=sb _ _ O.tile.at_ tln
   obtain ⟨q,hq⟩:∃q,rs[16 * j + p]?=some q:=⟨_,List.getElem?_eq_getElem (by omega)⟩
   obtain ⟨t,ht⟩:∃t,ps[p]?=some t:=⟨_,List.getElem?_eq_getElem (by rw [O.pic.rows.len];exact hp)⟩
   have qm:q∈rs:=List.mem_of_getElem? hq
   have tm:t∈ps:=List.mem_of_getElem? ht
   have hq':=R'.at_ _ _ hq
   have ht':=sb _ _ (O.pic.rows.at_ _ _ ht) (O.Gq t tm)
   have eT:(TP.take p).length=p:=by rw [List.length_take];omega
   have gl:((Mir.cH Pic (16 * j) (TP.take p)).getD (16 * j + p) []).length=16 * i:=by
    rw [Mir.iF _ _ _ _ (by rw [O.band.len,eT];omega),if_neg (by rw [eT];omega),O.band.row _ (by omega),if_neg (by omega),if_pos (by omega)]
   have tl':(TP.getD p []).length≤16:=by
    rw [O.tp.row _ (Mir.getD_mem hp)]
    show min 16 _≤16
    omega
   refine ⟨_,rfl,rc,A.ao,dr,_,_,rfl,hrc,T.au,T.bc,rfl,_,rfl,tl,A.bR,dt,_,_,rfl,htl,T.bz,T.gf,rfl,_,rfl,_,_,rfl,rfl,y.aA,_,_,_,rfl,rfl,bV.of (sb _ _ O.lst d2),at_of (j:=16 * j + p) (v:=V.ref q) ?_ (nA hq),?_⟩
   ·show (z.top:Int) + (0 + (p:Int))=_
    rw [O.tile.t]
    omega
   refine ⟨.inl ⟨rfl,_,bV.of hq'⟩,_,rfl,_,rfl,pc,_,_,_,rfl,rfl,bV.of (sb _ _ O.pic.lst O.Gp),at_of (j:=p) (v:=V.ref t) (by omega) (nA ht),?_⟩
   refine ⟨q,t,_,_,rfl,rfl,hq',ht',?_,?_⟩
   ·rw [aU,aU,gl,sizeLine_eq]
    omega
   ·refine ⟨_,rfl,?_,?_⟩
    ·have:TP.take (p + 1)=TP.take p++[TP.getD p []]:=take_snoc (by rw [List.getD_eq_getElem?_getD,List.getElem?_eq_getElem hp];rfl)
     rw [this,m9,eT,← fU]
     exact cq.upd R' d3 hq
    ·intro b o e nb
     rw [aj (fun e2=>nb (by rw [e2];exact qm))]
     exact sb _ _ e nb
  ·rintro σ H' ⟨u,rfl,R',sb⟩
   rw [List.take_length] at R'
   have hrc:=sb _ _ O.rect.at_ rcn
   have htl:=sb _ _ O.tile.at_ tln
   have e1:Ext H M H' M:=.fA sb fun b hb=>O.sub b (by simp [hb])
   have hm0:∀b∈M0 s x.k,H' b=H b:=fun b hb=>by
    obtain ⟨o,e⟩:=run.core.jr run.bK b hb
    rw [e]
    exact sb _ _ e fun hm=>nrs b hm hb
   have run2:=run.ext e1 hm0 run.core.mem
   have open_:∀i' j',jc r i' j' (Mir.cH Pic (16 * j) TP)→(i' < Mir.nC r∨(r.w=0∧i'=0))→CU A H' M s dx x v r i' j' back front rc dr y rs (Mir.cH Pic (16 * j) TP) s':=fun i' j' hb ha=>
    ⟨run2,O.sub,O.nd,⟨O.rect.ref,hrc,O.rect.l,O.rect.t,O.rect.w,O.rect.h⟩,O.ins,O.bk,O.fr,sb _ _ O.lst d2,R',hb,O.D0,O.left,ha⟩
   refine ⟨_,rfl,tl,A.bR,dt,_,_,rfl,htl,T.bz,T.ig,rfl,_,_,rfl,rfl,?_⟩
   refine ⟨_,rfl,_,rfl,rc,A.ao,dr,_,_,rfl,hrc,T.au,T.aZ,rfl,_,_,rfl,rfl,_,rfl,?_⟩
   show if decide ((z.left:Int) + 16 < (y.width:Int))=true then _ else _
   unfold Mir.cW at k
   rw [O.tile.l,O.rect.w]
   by_cases c:16 * (i + 1) < r.w
   ·rw [if_pos c] at k
    rw [decide_eq_true (by omega)]
    refine cG ⟨_,rfl,_,rfl,_,rfl,tl,A.bR,dt,_,_,rfl,htl,T.bz,T.gf,rfl,?_⟩
    refine ⟨s,dx,x,v,M,r,i + 1,j,back,front,rc,dr,y,rs,_,s',?_,open_ _ _ (O.band.right O.hi O.hj O.tp c) (.inl (Mir.jh.mp c)),k.ext e1⟩
    rw [O.tile.t,show ((fun i j:Int=>V.int (i + j)) ((16 * i:Nat):Int) 16)=V.int ((16 * (i + 1):Nat):Int) by show V.int _=V.int _;congr 1]
    rfl
   ·rw [if_neg c] at k
    rw [decide_eq_false (by omega)]
    refine cE ⟨_,rfl,_,rfl,tl,A.bR,dt,_,_,rfl,htl,T.bz,T.gf,rfl,_,_,rfl,rfl,?_⟩
    refine ⟨s,dx,x,v,M,r,0,j + 1,back,front,rc,dr,y,rs,_,s',?_,open_ _ _ (O.band.down O.hi O.hj O.tp c) (.inl (by have:=O.hi;omega)),k.ext e1⟩
    rw [show ((fun i j:Int=>V.int (i + j)) (z.top:Int) 16)=V.int ((16 * (j + 1):Nat):Int) by rw [O.tile.t];show V.int _=V.int _;congr 1]
    rfl
end
theorem and_1:∀b < 256,(Builtin.bitAnd ((b:Nat):Int) 1 != 0)=decide (b % 2=1):=by decide +kernel
theorem and_2:∀b < 256,(Builtin.bitAnd ((b:Nat):Int) 2 != 0)=decide (Mir.bit b 2=1):=by decide +kernel
theorem CV:∀b < 256,(Builtin.bitAnd ((b:Nat):Int) 4 != 0)=decide (Mir.bit b 4=1):=by decide +kernel
theorem CW:∀b < 256,(Builtin.bitAnd ((b:Nat):Int) 8 != 0)=decide (Mir.bit b 8=1):=by decide +kernel
theorem Bt:∀b < 256,(Builtin.bitAnd ((b:Nat):Int) 16 != 0)=decide (Mir.bit b 16=1):=by decide +kernel
structure Gr (s:Addr) (k:SK) (rc pc tl:Addr) (more rs:List Addr):Prop where
 D1:rc∉M0 s k
 Fc:pc∉M0 s k
 CY:tl∉M0 s k
 Gs:∀q∈more,q∉M0 s k
 DZ:∀q∈rs,q∉M0 s k
 rp:rc≠pc
 rt:rc≠tl
 rm:rc∉more
 rr:rc∉rs
 pt:pc≠tl
 pm:pc∉more
 pr:pc∉rs
 tm:tl∉more
 tr:tl∉rs
 mr:∀q∈more,q∉rs
 nd:rs.Nodup
theorem Gr.of {s:Addr} {k:SK} {rc pc tl:Addr} {more rs:List Addr} (h:(M0 s k++(rc :: pc :: tl :: (more++rs))).Nodup):Gr s k rc pc tl more rs:=by
 obtain ⟨h1,h2,h3⟩:=List.nodup_append.mp h
 simp only [List.nodup_cons,List.mem_cons,List.mem_append,not_or] at h2
 obtain ⟨⟨a1,a2,a3,a4⟩,⟨b1,b2,b3⟩,⟨c1,c2⟩,d⟩:=h2
 obtain ⟨d1,d2,d3⟩:=List.nodup_append.mp d
 exact ⟨fun hm=>h3 _ hm rc (by simp) rfl,fun hm=>h3 _ hm pc (by simp) rfl,fun hm=>h3 _ hm tl (by simp) rfl,fun q hq hm=>h3 _ hm q (by simp [hq]) rfl,fun q hq hm=>h3 _ hm q (by simp [hq]) rfl,
  a1,a2,a3,a4,b1,b2,b3,c1,c2,fun q hq hm=>d3 q hq q hm rfl,d2⟩
theorem bD.ne {A:bI} {H:Hp} {M:List Addr} {s:Addr} {x:SF} {v:Viewer} {r:Rect} {i j back front:Nat} {s':Screen} {more:List Addr} {rc dr tl dt:Addr} {y:RF} {z:TF} {rs:List Addr} {Pic:List (List Nat)}
  (R:bD A H M s x v r i j back front s' more rc dr tl dt y z rs Pic) (nd:M.Nodup):Gr s x.k rc y.aA tl more rs:=.of (by rw [← R.eC];exact nd)
theorem bD.to {A:bI} {H H':Hp} {M M':List Addr} {s:Addr} {x x':SF} {v:Viewer} {r:Rect} {i j back front back' front':Nat} {s' s'':Screen} {more more':List Addr} {rc dr tl dt:Addr} {y y':RF} {z z':TF} {rs:List Addr} {Pic:List (List Nat)}
  (R:bD A H M s x v r i j back front s' more rc dr tl dt y z rs Pic) (hM:M'=M0 s x'.k++(rc :: y.aA :: tl :: (more'++rs)))
  (h1:H' rc=some (.ins A.ao dr y'.fs)) (h2:H' tl=some (.ins A.bR dt z'.fs)) (h3:∀b,b=y.aA∨b∈rs→∀o,H b=some o→H' b=some o)
  (hx:x'.b6=x.b6) (hy:(y'.left,y'.top,y'.width,y'.a9,y'.aA,y'.tile)=(y.left,y.top,y.width,y.a9,y.aA,y.tile)) (hz:(z'.left,z'.top,z'.width,z'.a9)=(z.left,z.top,z.width,z.a9))
  (hb:y'.back=back') (hf:y'.front=front'):bD A H' M' s x' v r i j back' front' s'' more' rc dr tl dt y' z' rs Pic:=by
 simp only [Prod.mk.injEq] at hy hz
 obtain ⟨y1,y2,y3,y4,y5,y6⟩:=hy
 obtain ⟨z1,z2,z3,z4⟩:=hz
 exact ⟨by rw [hM,y5],⟨hx.trans R.rect.ref,h1,y1.trans R.rect.l,y2.trans R.rect.t,y3.trans R.rect.w,y4.trans R.rect.h⟩,R.ins,hb,hf,⟨y6.trans R.tile.ref,h2,z1.trans R.tile.l,z2.trans R.tile.t,z3.trans R.tile.w,z4.trans R.tile.h⟩,by rw [y5];exact h3 _ (.inl rfl) _ R.lst,R.rows.keeps fun q hq o e=>h3 q (.inr hq) o e,R.band,R.hi,R.hj⟩
theorem pM {c:Prop} [Decidable c] {A B:Prop} (h1:c→A) (h2:¬ c→B):if decide c=true then A else B:=by
 by_cases q:c
 ·rw [decide_eq_true q];exact h1 q
 ·rw [decide_eq_false q];exact h2 q
section
variable {P:Program} {w:World} {K:PySem.W.Frag} {mg:Str→Option Value} {base:Heap} {A:bI}
theorem uL (T:Txt P w K mg A):FnAt P w K mg base "take_tile" 9 ["session","words"] (dg A (fun m=>∃r i j back front s',m=.tile r i j back front s')):=by
 refine T.jU.at_ (fun _ _ _ _ _ _ us hl=>match us,hl with | [_,_],_=>rfl) fun f fd F=>?_
 refine F.ok oI (fun vs H Q E h=>?_) (fun cdv AA outer sh H vs Q E hr h=>?_)
 ·obtain ⟨s,dx,wd,x,ws,v,m,M,rfl,_⟩:=h
  rfl
 ·obtain ⟨s,dx,wd,x,ws,v,m,M,rfl,⟨r,i,j,back,front,s',rfl⟩,ti,k⟩:=h
  have R:=ti.rep
  have nd:=oI.nd
  have run:=R.running rfl
  have lp:0 < v.left:=R.lG
  obtain ⟨rc,dr,tl,dt,y,z,rs,Pic,TR,hdr,hz0⟩:=R.mode
  have N:=TR.ne R.nd
  have hl:ws.length=1:=ti.len
  have k':After A H s dx M v (if Sn44.high ws % 2=1 then .cont (.tilePixels r i j back front s') else .cont (.tileColours r i j back front (Sn44.high ws) s')) Q:=k
  rw [rQ hl] at k'
  obtain ⟨fa,bits,f1,f2,f3,f4⟩:=R.core.form run.o6
  obtain ⟨fdx,gr,sh1,z1,z2,z3,z4⟩:=id f2
  have hb:ws.getD 0 0 < 256:=by
   match ws,hl with
   | [b],_=>exact ti.byte b (by simp)
  refine ⟨_,ab (aI (i:=2) nd rfl (Or.inl rfl) (aq (aq (pv 0) rfl) rfl))
   (ab (aI (i:=3) nd rfl (Or.inl rfl) (aq (aq (pv 0) rfl) rfl))
   (ab (aJ (pv 2) (cN bq (pv 1) ai (fun _ _=>rfl)) rfl)
   (ab (aX (gp (aH gR (aq (pv 2) rfl) (a_ T.i_ rfl)) (fun _=>rfl)) (ab (az (bF (bf T) T.af (hr.mono (by decide)) (pv 0) (aa cv (aa (aH gc (aH gc (aq (pv 2) rfl) (aq (pv 2) rfl)) (pv 3)) ah)))) (ak d5)) aP)
   (ab (aI (i:=4) nd rfl (Or.inl rfl) ai)
   (ab (aX (gp (aH gR (aq (pv 2) rfl) (a_ T.jm rfl)) (fun _=>rfl)) (ak (m_ (i:=4) nd rfl (Or.inl rfl) (pv 3) nh)) aP)
   (ab (aX (gp (aH gR (aq (pv 2) rfl) (a_ T.ik rfl)) (fun _=>rfl)) (ak (m_ (i:=4) nd rfl (Or.inl rfl) (pv 3) nh)) aP)
   (ab (aX (gp (aH gR (aq (pv 2) rfl) (a_ T.il rfl)) (fun _=>rfl)) (ak (m_ (i:=4) nd rfl (Or.inl rfl) ai nh)) aP)
   (ak (az (bF (bf T) T.af (hr.mono (by decide)) (pv 0) (aa cv (aa (pv 4) ah)))))))))))),?_⟩
  refine ⟨_,rfl,s,A.ag,dx,_,_,rfl,R.bK,T.af,T.aF,rfl,?_⟩
  rw [TR.rect.ref]
  refine ⟨rc,A.ao,dr,_,_,rfl,TR.rect.at_,T.au,T.bC,rfl,?_⟩
  rw [TR.tile.ref]
  refine ⟨_,rfl,s,A.ag,dx,_,_,rfl,R.bK,T.af,T.aL,rfl,?_⟩
  rw [show x.k.form=V.ref fa from f1]
  refine ⟨fa,A.Form,fdx,_,_,rfl,z1.1,T.bB,T.bO,rfl,?_⟩
  have ea:V.int ((FF.mk bits v.screen.form.big v.screen.form.parts gr sh1).bits / 8:Nat)=V.int (v.screen.form.size:Int):=by rw [z4]
  rw [ea]
  refine ⟨_,rfl,wd,_,_,_,rfl,rfl,bV.of ti.words.1,j5 (i:=0) rfl (by omega),?_⟩
  generalize ws.getD 0 0=b at k' hb ⊢
  refine ⟨_,rfl,tl,A.bR,dt,_,rfl,TR.tile.at_,T.bz,T.bo,by show 7 < 1000;decide,?_⟩
  rw [show bH "bits_set" (.int (b:Int)) (TF.fs z)=TF.fs { z with bits:=b } from rfl]
  generalize hz':({ z with bits:=b }:TF)=zb at *
  have zb1:zb.bits=b:=by rw [← hz']
  have zb2:zb.parts=0:=by rw [← hz'];exact hz0
  have zb3:(zb.left,zb.top,zb.width,zb.a9)=(z.left,z.top,z.width,z.a9):=by rw [← hz']
  have zbw:zb.width=z.width:=by rw [← hz']
  have zbh:zb.a9=z.a9:=by rw [← hz']
  have nst:s≠tl:=fun e=>N.CY (by rw [← e];simp [M0])
  have mtl:tl∈M:=by rw [TR.eC];simp
  have eM:Ext H M (upd H tl (.ins A.bR dt (TF.fs zb))) M:=.upd mtl
  have hm0:∀q∈M0 s x.k,upd H tl (.ins A.bR dt (TF.fs zb)) q=H q:=fun q hq=>aj (fun e=>N.CY (by rw [← e];exact hq))
  have run2:=run.ext eM hm0 run.core.mem
  have htl:upd H tl (.ins A.bR dt (TF.fs zb)) tl=some (.ins A.bR dt (TF.fs zb)):=ae
  have TR2:∀x':SF,∀s'':Screen,x'.k=x.k→x'.b6=x.b6→bD A (upd (upd H tl (.ins A.bR dt (TF.fs zb))) s (.ins A.ag dx x'.fs)) M s x' v r i j back front s'' [] rc dr tl dt y zb rs Pic:=fun x' s'' q1 q2=>by
   refine TR.to (by rw [q1];exact TR.eC) ?_ ?_ ?_ q2 rfl zb3 TR.bk TR.fr
   ·rw [aj (fun e=>N.D1 (by rw [e];simp [M0])),aj N.rt]
    exact TR.rect.at_
   ·rw [aj nst.symm,ae]
   ·rintro q (rfl | hq) o e
    ·rw [aj (fun e=>N.Fc (by rw [e];simp [M0])),aj N.pt]
     exact e
    ·rw [aj (fun e=>N.DZ q hq (by rw [e];simp [M0])),aj (fun e=>N.tr (by rw [← e];exact hq))]
     exact e
  have wt:(Mir.ax r i j).w≤16:=by show min 16 _≤16;omega
  have ht:(Mir.ax r i j).h≤16:=by show min 16 _≤16;omega
  refine ⟨_,rfl,tl,A.bR,dt,_,_,rfl,htl,T.bz,T.bo,rfl,_,_,rfl,rfl,_,rfl,?_⟩
  rw [zb1,and_1 b hb]
  refine pM (fun c1=>?_) (fun c1=>?_)
  ·rw [if_pos c1] at k'
   refine ⟨_,rfl,s,dx,_,rfl,run2.bK,rfl,_,rfl,tl,A.bR,dt,_,_,rfl,htl,T.bz,T.dS,rfl,_,rfl,tl,A.bR,dt,_,_,rfl,htl,T.bz,T.cQ,rfl,_,_,rfl,rfl,?_,_,rfl,_,_,rfl,rfl,?_,?_⟩
   ·refine .inl ⟨?_,?_⟩
    ·show -(2 ^ 64) < ((zb.width:Nat):Int)
     omega
    ·show ((zb.width:Nat):Int) < 2 ^ 64
     rw [zbw,TR.tile.w]
     omega
   ·refine .inr ⟨by show -(2 ^ 64) < ((v.screen.form.size:Nat):Int);omega,?_⟩
    show ((v.screen.form.size:Nat):Int) < 2 ^ 64
    rcases f3 with h | h | h <;> rw [h] <;> decide
   ·refine ⟨s,dx,x,"tile pixels",(Mir.ax r i j).w * (Mir.ax r i j).h * v.screen.form.size,?_,run2.bK,?_⟩
    ·rw [zbw,zbh,TR.tile.w,TR.tile.h,Int.natCast_mul,Int.natCast_mul]
     rfl
    ·exact k'.expect eM run2.core rfl rfl run.wrong (by rw [run.cu,run.run];rfl) R.nd ⟨rc,dr,tl,dt,y,zb,rs,Pic,TR2 _ _ rfl rfl,hdr,zb2⟩ ⟨fun _=>run.o6,fun _=>by rw [run.run];rfl⟩ run.run lp
  ·rw [if_neg c1] at k'
   have fin_:∀n:Nat,n=Mir.need v (.tileColours r i j back front b s')→Q .cD (upd (upd H tl (.ins A.bR dt (TF.fs zb))) s (.ins A.ag dx { x with stage:="tile colours",need:=n }.fs)):=fun n hn=>
    k'.expect eM run2.core rfl hn run.wrong (by rw [run.cu,run.run];rfl) R.nd ⟨rc,dr,tl,dt,y,zb,rs,Pic,TR2 _ _ rfl rfl,hdr,zb1,hb,zb2⟩ ⟨fun _=>run.o6,fun _=>by rw [run.run];rfl⟩ run.run lp
   unfold Mir.need at fin_
   refine ⟨_,rfl,tl,A.bR,dt,_,_,rfl,htl,T.bz,T.bo,rfl,_,_,rfl,rfl,_,rfl,?_⟩
   rw [zb1,and_2 b hb]
   refine pM (fun c2=>⟨_,rfl,_,rfl,_,_,rfl,rfl,?_⟩) (fun c2=>?_)
   all_goals
    refine ⟨_,rfl,tl,A.bR,dt,_,_,rfl,htl,T.bz,T.bo,rfl,_,_,rfl,rfl,_,rfl,?_⟩
    rw [zb1,CV b hb]
    refine pM (fun c4=>⟨_,rfl,_,rfl,_,_,rfl,rfl,?_⟩) (fun c4=>?_)
   all_goals
    refine ⟨_,rfl,tl,A.bR,dt,_,_,rfl,htl,T.bz,T.bo,rfl,_,_,rfl,rfl,_,rfl,?_⟩
    rw [zb1,CW b hb]
    refine pM (fun c8=>⟨_,rfl,_,_,rfl,rfl,?_⟩) (fun c8=>?_)
   all_goals
    refine ⟨_,rfl,s,dx,_,rfl,run2.bK,rfl,_,rfl,s,dx,x,"tile colours",_,?_,run2.bK,fin_ _ rfl⟩
    refine congrArg (fun t:Int=>[V.ref s,V.str "tile colours",V.int t]) ?_
    simp only [c2,c4,c8,if_true,if_false]
    omega
end
def gj (v:Viewer) (r:Rect) (i j:Nat) (Pic TP:List (List Nat)) (s':Screen):Prop:=
 ∃B,Mir.Rows v.screen.w v.screen.h B∧v.screen.cells=B.flatten∧s'={ v.screen with cells:=(Mir.aC (Mir.aC B r.x r.y Pic) (Mir.ax r i j).x (Mir.ax r i j).y TP).flatten }
theorem jc.short {r:Rect} {i j:Nat} {Pic:List (List Nat)} (b:jc r i j Pic) (hi:i < Mir.nC r):∀q∈Pic,q.length≤r.w:=fun q hq=>by
 obtain ⟨y,hy,rfl⟩:=Mir.mem_getD hq
 rw [b.len] at hy
 rw [b.row y hy]
 have:=Mir.jh.mpr hi
 split
 ·exact Nat.le_refl _
 ·split <;> omega
theorem jc.base {v:Viewer} {r:Rect} {i j:Nat} {Pic B:List (List Nat)} (b:jc r i j Pic) (hi:i < Mir.nC r) (hin:gi v r) (hB:Mir.Rows v.screen.w v.screen.h B):Mir.Rows v.screen.w v.screen.h (Mir.aC B r.x r.y Pic):=
 hB.rD (fun q hq=>Nat.le_trans (Nat.add_le_add_left (b.short hi q hq) _) hin.1) (by rw [b.len];exact hin.2)
theorem uM {v:Viewer} {r:Rect} {i j:Nat} (hi:i < Mir.nC r) (hj:j < Mir.nR r) (hin:gi v r):(Mir.ax r i j).x + (Mir.ax r i j).w≤v.screen.w∧(Mir.ax r i j).y + (Mir.ax r i j).h≤v.screen.h:=by
 have h1:=Mir.lO.mpr hj
 have h2:=Mir.jh.mpr hi
 have i1:=hin.1
 have i2:=hin.2
 refine ⟨?_,?_⟩
 ·show r.x + 16 * i + min 16 (r.w - 16 * i)≤_
  omega
 ·show r.y + 16 * j + min 16 (r.h - 16 * j)≤_
  omega
theorem Af {v:Viewer} {r:Rect} {i j:Nat} {Pic TP:List (List Nat)} {s':Screen} (h:Drawn v r Pic s') (b:jc r i j Pic) (hi:i < Mir.nC r) (hj:j < Mir.nR r) (hin:gi v r) (tp:Mir.Rows (Mir.ax r i j).w (Mir.ax r i j).h TP) :
  gj v r i j Pic TP (s'.draw (Mir.ax r i j) TP.flatten):=by
 obtain ⟨B,hB,cB,rfl⟩:=h
 have t:=uM hi hj hin
 exact ⟨B,hB,cB,Mir.mn (s:={ v.screen with cells:=(Mir.aC B r.x r.y Pic).flatten }) (b.base hi hin hB) rfl tp t.1 t.2⟩
theorem Ag {v:Viewer} {r:Rect} {i j p:Nat} {Pic:List (List Nat)} {s':Screen} (h:Drawn v r Pic s') (b:jc r i j Pic) (hi:i < Mir.nC r) (hj:j < Mir.nR r) (hin:gi v r) :
  gj v r i j Pic (Mir.eO (Mir.ax r i j).w (Mir.ax r i j).h p) (s'.fill (Mir.ax r i j) p):=by
 obtain ⟨B,hB,cB,rfl⟩:=h
 have t:=uM hi hj hin
 exact ⟨B,hB,cB,Mir.mq (s:={ v.screen with cells:=(Mir.aC B r.x r.y Pic).flatten }) (b.base hi hin hB) rfl t.1 t.2⟩
theorem Ah {v:Viewer} {r q:Rect} {i j p:Nat} {Pic TP:List (List Nat)} {s':Screen} (h:gj v r i j Pic TP s') (b:jc r i j Pic) (hi:i < Mir.nC r) (hj:j < Mir.nR r) (hin:gi v r) (tp:Mir.Rows (Mir.ax r i j).w (Mir.ax r i j).h TP)
  (h1:q.x + q.w≤(Mir.ax r i j).w) (h2:q.y + q.h≤(Mir.ax r i j).h) :
  gj v r i j Pic (Mir.aC TP q.x q.y (Mir.eO q.w q.h p)) (s'.fill ⟨(Mir.ax r i j).x + q.x,(Mir.ax r i j).y + q.y,q.w,q.h⟩ p):=by
 obtain ⟨B,hB,cB,rfl⟩:=h
 have t:=uM hi hj hin
 have R1:=b.base hi hin hB
 have R:=Mir.eR q.w q.h p
 have R2:=R1.rD (xs:=TP) (left:=(Mir.ax r i j).x) (top:=(Mir.ax r i j).y) (fun z hz=>by rw [tp.row z hz];exact t.1) (by rw [tp.len];exact t.2)
 unfold gj
 generalize Mir.ax r i j=u at *
 obtain ⟨t1,t2⟩:=t
 refine ⟨B,hB,cB,?_⟩
 have e:=Mir.mq (s:={ v.screen with cells:=(Mir.aC (Mir.aC B r.x r.y Pic) u.x u.y TP).flatten }) (r:=⟨u.x + q.x,u.y + q.y,q.w,q.h⟩) (p:=p) R2 rfl (by show u.x + q.x + q.w≤v.screen.w;omega) (by show u.y + q.y + q.h≤v.screen.h;omega)
 rw [e]
 show ({ v.screen with cells:=(Mir.aC (Mir.aC (Mir.aC B r.x r.y Pic) u.x u.y TP) (u.x + q.x) (u.y + q.y) (Mir.eO q.w q.h p)).flatten }:Screen)=_
 rw [Mir.vH R1 tp.row t1 (by rw [tp.len];exact t2) (fun z hz=>by rw [R.row z hz];exact h1) (by rw [R.len,tp.len];exact h2)]
theorem bD.CZ {A:bI} {H:Hp} {M:List Addr} {s dx:Addr} {x:SF} {v:Viewer} {r:Rect} {i j back front:Nat} {s' s'':Screen} {more:List Addr} {rc dr tl dt:Addr} {y:RF} {z:TF} {rs:List Addr} {Pic:List (List Nat)} {pc:Addr} {ps:List Addr} {TP:List (List Nat)}
  (R:bD A H M s x v r i j back front s' more rc dr tl dt y z rs Pic) (nd:M.Nodup) (run:cR A H M s dx x v) (lp:0 < v.left) (pic:gg H pc ps TP) (tp:Mir.Rows (Mir.ax r i j).w (Mir.ax r i j).h TP) (Gp:pc∉rs) (Gq:∀q∈ps,q∉rs) (dr_:gj v r i j Pic TP s'') :
  yV A H M s dx x v r i j back front rc dr tl dt y z rs Pic pc ps TP s'':=by
 have N:=R.ne nd
 refine ⟨run,fun b hb=>?_,?_,R.rect,R.ins,R.bk,R.fr,R.tile,R.lst,R.rows,R.band,lp,R.hi,R.hj,pic,tp,Gp,Gq,dr_⟩
 ·rw [R.eC]
  simp only [List.mem_append,List.mem_cons] at hb ⊢
  rcases hb with h | h | h | h
  ·exact .inl h
  ·exact .inr (.inl h)
  ·exact .inr (.inr (.inl h))
  ·exact .inr (.inr (.inr (.inr (.inr h))))
 ·refine List.nodup_append.mpr ⟨run.core.nd,?_,fun a ha b hb e=>?_⟩
  ·simp only [List.nodup_cons,List.mem_cons,not_or]
   exact ⟨⟨N.rp,N.rr⟩,N.pr,N.nd⟩
  ·subst e
   simp only [List.mem_cons] at hb
   rcases hb with rfl | rfl | h
   ·exact N.D1 ha
   ·exact N.Fc ha
   ·exact N.DZ _ h ha
section
variable {P:Program} {w:World} {K:PySem.W.Frag} {mg:Str→Option Value} {base:Heap} {A:bI}
theorem mP (T:Txt P w K mg A):FnAt P w K mg base "take_tile_pixels" 9 ["session","words"] (dg A (fun m=>∃r i j back front s',m=.tilePixels r i j back front s')):=by
 refine T.eJ.at_ (fun _ _ _ _ _ _ us hl=>match us,hl with | [_,_],_=>rfl) fun f fd F=>?_
 refine F.ok iC (fun vs H Q E h=>?_) (fun cdv AA outer sh H vs Q E hr h=>?_)
 ·obtain ⟨s,dx,wd,x,ws,v,m,M,rfl,_⟩:=h
  rfl
 ·obtain ⟨s,dx,wd,x,ws,v,m,M,rfl,⟨r,i,j,back,front,s',rfl⟩,ti,k⟩:=h
  have R:=ti.rep
  have nd:=iC.nd
  have run:=R.running rfl
  have lp:0 < v.left:=R.lG
  obtain ⟨rc,dr,tl,dt,y,z,rs,Pic,TR,hdr,hz0⟩:=R.mode
  have N:=TR.ne R.nd
  have hl:ws.length=(Mir.ax r i j).w * (Mir.ax r i j).h * v.screen.form.size:=ti.len
  have k':After A H s dx M v (Mir.cW v r i j back front (s'.draw (Mir.ax r i j) (Mir.fS v.screen.form ((Mir.ax r i j).w * (Mir.ax r i j).h) ws))) Q:=k
  obtain ⟨fa,bits,f1,f2,f3,f4⟩:=R.core.form run.o6
  have wt:(Mir.ax r i j).w≤16:=by show min 16 _≤16;omega
  have ht:(Mir.ax r i j).h≤16:=by show min 16 _≤16;omega
  refine ⟨_,ab (aI (i:=2) nd rfl (Or.inl rfl) (aq (aq (pv 0) rfl) rfl))
   (ak (az (aK (mf T) (hr.mono (by decide)) rfl (aa (pv 0) (aa (aK (mY T) (hr.mono (by decide)) rfl (aa (aq (pv 0) rfl) (aa (pv 1) (aa (aq (pv 2) rfl) (aa (aq (pv 2) rfl) ah))))) ah))))),?_⟩
  refine ⟨_,rfl,s,A.ag,dx,_,_,rfl,R.bK,T.af,T.aF,rfl,?_⟩
  rw [TR.rect.ref]
  refine ⟨rc,A.ao,dr,_,_,rfl,TR.rect.at_,T.au,T.bC,rfl,?_⟩
  rw [TR.tile.ref]
  refine ⟨_,rfl,_,rfl,s,A.ag,dx,_,_,rfl,R.bK,T.af,T.aL,rfl,_,rfl,_,rfl,tl,A.bR,dt,_,_,rfl,TR.tile.at_,T.bz,T.dS,rfl,_,rfl,tl,A.bR,dt,_,_,rfl,TR.tile.at_,T.bz,T.cQ,rfl,?_⟩
  refine ⟨fa,wd,bits,v.screen.form,ws,(Mir.ax r i j).w,(Mir.ax r i j).h,by rw [f1,TR.tile.w,TR.tile.h];rfl,f2.at_,ti.words.1,hl,f3,by omega,by omega,fun H1 pc ps hpc p1 hps s1=>?_⟩
  have plen:(Mir.fS v.screen.form ((Mir.ax r i j).w * (Mir.ax r i j).h) ws).length=(Mir.ax r i j).w * (Mir.ax r i j).h:=by simp [Mir.fS]
  have tp:=Mir.pY plen
  have dd:=Af hdr TR.band TR.hi TR.hj TR.ins tp
  rw [Mir.lT plen] at dd
  have e1:Ext H M H1 M:=.of_same s1
  have TR1:bD A H1 M s x v r i j back front s' [] rc dr tl dt y z rs Pic:=TR.to TR.eC (s1 _ _ TR.rect.at_) (s1 _ _ TR.tile.at_) (fun b _ o e=>s1 b o e) rfl rfl rfl TR.bk TR.fr
  exact ⟨s,dx,x,v,M,r,i,j,back,front,rc,dr,tl,dt,y,z,rs,Pic,pc,ps,_,_,rfl,TR1.CZ R.nd (run.same s1) lp p1 tp (fun hm=>by
    obtain ⟨o,e⟩:=TR.rows.there hm
    rw [e] at hpc;cases hpc) (fun q hq hm=>by
    obtain ⟨o,e⟩:=TR.rows.there hm
    have:=hps q hq
    rw [e] at this;cases this) dd,k'.ext e1⟩
structure Fd (A:bI) (H:Hp) (M:List Addr) (s dx:Addr) (x:SF) (v:Viewer) (r:Rect) (i j back front bits n:Nat) (s':Screen) (rc dr tl dt:Addr) (y:RF) (z:TF) (rs:List Addr) (Pic:List (List Nat)) (trs:List Addr) (TP:List (List Nat)):Prop where
 run:cR A H M s dx x v
 nd:M.Nodup
 left:0 < v.left
 rel:bD A H M s x v r i j back front s' [z.aA] rc dr tl dt y z rs Pic
 C5:z.bits=bits
 Fe:bits < 256
 parts:z.parts=n
 pic:ku H M z.aA trs TP
 rows:Mir.Rows (Mir.ax r i j).w (Mir.ax r i j).h TP
 drawn:gj v r i j Pic TP s'
def mh (A:bI):Sp:=fun vs H Q _=>∃s dx x v M r i j back front bits n s' rc dr tl dt y z rs Pic trs TP,vs=[.ref s]∧Fd A H M s dx x v r i j back front bits n s' rc dr tl dt y z rs Pic trs TP∧After A H s dx M v (Mir.cI v r i j back front bits n s') Q
theorem j_ (T:Txt P w K mg A):FnAt P w K mg base "next_tile_part" 8 ["session"] (mh A):=by
 refine T.fJ.at_ (fun _ _ _ _ _ _ us hl=>match us,hl with | [_],_=>rfl) fun f fd F=>?_
 refine F.ok jK (fun vs H Q E h=>?_) (fun cdv AA outer sh H vs Q E hr h=>?_)
 ·obtain ⟨s,dx,x,v,M,r,i,j,back,front,bits,n,s',rc,dr,tl,dt,y,z,rs,Pic,trs,TP,rfl,_⟩:=h
  rfl
 ·obtain ⟨s,dx,x,v,M,r,i,j,back,front,bits,n,s',rc,dr,tl,dt,y,z,rs,Pic,trs,TP,rfl,O,k⟩:=h
  have nd:=jK.nd
  have run:=O.run
  have TR:=O.rel
  have N:=TR.ne O.nd
  obtain ⟨fa,fbits,f1,f2,f3,f4⟩:=run.core.form run.o6
  obtain ⟨fdx,gr,sh1,z1,z2,z3,z4⟩:=id f2
  refine ⟨_,ab (aI (i:=1) nd rfl (Or.inl rfl) (aq (aq (pv 0) rfl) rfl))
   (ak (aX (aQ d_ (aq (pv 1) rfl) ai (aT _)) (ak (az (aK (mf T) hr rfl (aa (pv 0) (aa (aq (pv 1) rfl) ah)))))
   (ak (aX (gp (aH gR (aq (pv 1) rfl) (a_ T.dU rfl)) (fun _=>rfl)) (ak (az (bF (bf T) T.af (hr.mono (by decide)) (pv 0) (aa cv (aa (aH bA (aq (aq (pv 0) rfl) rfl) ai) ah)))))
   (ak (az (bF (bf T) T.af (hr.mono (by decide)) (pv 0) (aa cv (aa ai ah))))))))),?_⟩
  refine ⟨_,rfl,s,A.ag,dx,_,_,rfl,run.bK,T.af,T.aF,rfl,?_⟩
  rw [TR.rect.ref]
  refine ⟨rc,A.ao,dr,_,_,rfl,TR.rect.at_,T.au,T.bC,rfl,?_⟩
  rw [TR.tile.ref]
  refine ⟨_,rfl,tl,A.bR,dt,_,_,rfl,TR.tile.at_,T.bz,T.cC,rfl,rfl,_,rfl,?_⟩
  rw [kx,O.parts]
  unfold Mir.cI at k
  have mrs:∀q∈rs,q∈M:=fun q hq=>by rw [TR.eC];simp [hq]
  refine pM (fun c=>?_) (fun c=>?_)
  ·rw [if_pos c] at k
   refine ⟨_,rfl,_,rfl,tl,A.bR,dt,_,_,rfl,TR.tile.at_,T.bz,T.dy,rfl,?_⟩
   exact ⟨s,dx,x,v,M,r,i,j,back,front,rc,dr,tl,dt,y,z,rs,Pic,z.aA,trs,TP,s',rfl,TR.CZ O.nd run O.left O.pic.at_ O.rows (N.mr _ (by simp)) (fun q hq hm=>O.pic.rows.fz q hq (mrs q hm)) O.drawn,k⟩
  ·rw [if_neg c] at k
   have go:∀nn:Nat,nn=Mir.need v (.tilePart r i j back front bits n s')→Q .cD (upd H s (.ins A.ag dx { x with stage:="tile part",need:=nn }.fs)):=fun nn hn=>by
    refine k.expect (.refl H M) run.core rfl hn run.wrong (by rw [run.cu,run.run];rfl) O.nd ?_ ⟨fun _=>run.o6,fun _=>by rw [run.run];rfl⟩ run.run O.left
    have ne0:∀{q},q∉M0 s x.k→q≠s:=fun hq e=>hq (by rw [e];simp [M0])
    obtain ⟨B,hB,cB,eB⟩:=O.drawn
    refine ⟨rc,dr,tl,dt,y,z,rs,Pic,?_,O.C5,O.Fe,O.parts,trs,TP,B,⟨?_,?_,O.pic.mem⟩,O.rows,hB,cB,eB⟩
    ·refine TR.to TR.eC ?_ ?_ ?_ rfl rfl rfl TR.bk TR.fr
     ·rw [aj (ne0 N.D1)];exact TR.rect.at_
     ·rw [aj (ne0 N.CY)];exact TR.tile.at_
     ·rintro q (rfl | hq) o e
      ·rw [aj (ne0 N.Fc)];exact e
      ·rw [aj (ne0 (N.DZ q hq))];exact e
    ·rw [aj (ne0 (N.Gs _ (by simp)))];exact O.pic.lst
    ·exact O.pic.rows.ext (.upd run.core.eo)
   refine ⟨_,rfl,tl,A.bR,dt,_,_,rfl,TR.tile.at_,T.bz,T.bo,rfl,_,_,rfl,rfl,_,rfl,?_⟩
   rw [O.C5,Bt bits O.Fe]
   refine pM (fun c2=>?_) (fun c2=>?_)
   ·refine ⟨_,rfl,s,dx,_,rfl,run.bK,rfl,_,rfl,s,A.ag,dx,_,_,rfl,run.bK,T.af,T.aL,rfl,?_⟩
    rw [show x.k.form=V.ref fa from f1]
    refine ⟨fa,A.Form,fdx,_,_,rfl,z1.1,T.bB,T.bO,rfl,_,_,rfl,rfl,s,dx,x,"tile part",v.screen.form.size + 2,?_,run.bK,go _ ?_⟩
    ·rw [z4]
     rfl
    ·show _=(if Mir.bit bits 16=1 then v.screen.form.size else 0) + 2
     rw [if_pos c2]
   ·refine ⟨_,rfl,s,dx,_,rfl,run.bK,rfl,s,dx,x,"tile part",2,rfl,run.bK,go _ ?_⟩
    show _=(if Mir.bit bits 16=1 then v.screen.form.size else 0) + 2
    rw [if_neg c2]
end
theorem SameBut.free {H H':Hp} {S:Addr→Prop} (sb:SameBut H H' S) {b:Addr} (h:H' b=none) (n:¬ S b):H b=none:=by
 cases e:H b with
 | none=>rfl
 | some o=>rw [sb _ _ e n] at h;cases h
theorem uN {A:bI} {H H3 H4:Hp} {M:List Addr} {s dx:Addr} {x:SF} {v:Viewer} {r:Rect} {i j back front back' front' bits n:Nat} {s':Screen} {rc dr tl dt tp:Addr} {y y3:RF} {z z3:TF} {rs trs:List Addr} {Pic:List (List Nat)} {Q:VK} {E:XK}
  (run:cR A H M s dx x v) (hnd:M.Nodup) (lp:0 < v.left) (TR:bD A H M s x v r i j back front s' [] rc dr tl dt y z rs Pic) (hdr:Drawn v r Pic s') (hb:bits < 256)
  (h1:H3 rc=some (.ins A.ao dr y3.fs)) (h2:H3 tl=some (.ins A.bR dt z3.fs)) (sb:SameBut H H3 (fun q=>q=rc∨q=tl))
  (hy:(y3.left,y3.top,y3.width,y3.a9,y3.aA,y3.tile)=(y.left,y.top,y.width,y.a9,y.aA,y.tile)) (hz:(z3.left,z3.top,z3.width,z3.a9)=(z.left,z.top,z.width,z.a9)) (hbk:y3.back=back') (hfr:y3.front=front') (hbi:z3.bits=bits) (hpa:z3.parts=n)
  (p1:H3 tp=none) (p2:H4 tp=some (.lst (trs.map V.ref))) (p3:cq H4 trs (Mir.eO (Mir.ax r i j).w (Mir.ax r i j).h back')) (p4:∀q∈trs,H3 q=none∧q≠tp) (s4:bX H3 H4)
  (k:After A H s dx M v (Mir.cI v r i j back' front' bits n (s'.fill (Mir.ax r i j) back')) Q) :
  mh A [.ref s] (upd H4 tl (.ins A.bR dt (TF.fs { z3 with aA:=tp }))) Q E:=by
 have N:=TR.ne hnd
 have free:∀{b},H3 b=none→H b=none:=fun {b} hb=>sb.free hb (fun q=>by
  rcases q with rfl | rfl
  ·rw [h1] at hb;cases hb
  ·rw [h2] at hb;cases hb)
 have ftp:=free p1
 have mrc:rc∈M:=by rw [TR.eC];simp
 have mtl:tl∈M:=by rw [TR.eC];simp
 have mpc:y.aA∈M:=by rw [TR.eC];simp
 have mrs:∀q∈rs,q∈M:=fun q hq=>by rw [TR.eC];simp [hq]
 have tr:tp≠rc:=fun e=>by rw [e,h1] at p1;cases p1
 have tt:tp≠tl:=fun e=>by rw [e,h2] at p1;cases p1
 have keep:∀b o,H b=some o→b≠rc→b≠tl→upd H4 tl (.ins A.bR dt (TF.fs { z3 with aA:=tp })) b=some o:=fun b o e n1 n2=>by
  rw [aj n2]
  exact s4 _ _ (sb _ _ e (fun q=>q.elim n1 n2))
 have eM:Ext H M (upd H4 tl (.ins A.bR dt (TF.fs { z3 with aA:=tp }))) (M0 s x.k++(rc :: y.aA :: tl :: ([tp]++rs))):=by
  refine ⟨fun b hb=>?_,fun b o e nb=>keep b o e (fun q=>nb (by rw [q];exact mrc)) (fun q=>nb (by rw [q];exact mtl))⟩
  rcases List.mem_append.mp hb with h | h
  ·exact .inl (run.core.mem b h)
  ·simp only [List.mem_cons,List.mem_append,List.not_mem_nil,or_false] at h
   rcases h with rfl | rfl | rfl | rfl | h
   ·exact .inl mrc
   ·exact .inl mpc
   ·exact .inl mtl
   ·exact .inr ftp
   ·exact .inl (mrs _ h)
 have hm0:∀b∈M0 s x.k,upd H4 tl (.ins A.bR dt (TF.fs { z3 with aA:=tp })) b=H b:=fun b hb=>by
  obtain ⟨o,e⟩:=run.core.jr run.bK b hb
  rw [e]
  exact keep b o e (fun q=>N.D1 (by rw [← q];exact hb)) (fun q=>N.CY (by rw [← q];exact hb))
 have run5:=run.ext eM hm0 (fun b hb=>List.mem_append_left _ hb)
 have out:∀b,H b=none→b∉M0 s x.k∧b≠rc∧b≠y.aA∧b≠tl∧b∉rs:=fun b hb=>
  ⟨run.core.d9 run.bK hb,(fun e=>by rw [e,TR.rect.at_] at hb;cases hb),(fun e=>by rw [e,TR.lst] at hb;cases hb),(fun e=>by rw [e,TR.tile.at_] at hb;cases hb),(fun hm=>by
   obtain ⟨o,e⟩:=TR.rows.there hm
   rw [e] at hb
   cases hb)⟩
 have ot:=out tp ftp
 refine ⟨s,dx,x,v,_,r,i,j,back',front',bits,n,_,rc,dr,tl,dt,y3,{ z3 with aA:=tp },rs,Pic,trs,_,rfl,⟨run5,?_,lp,?_,hbi,hb,hpa,⟨?_,⟨?_,?_⟩,?_⟩,Mir.eR ..,Ag hdr TR.band TR.hi TR.hj TR.ins⟩,k.ext eM⟩
 ·refine List.nodup_append.mpr ⟨run.core.nd,?_,fun a ha b hb e=>?_⟩
  ·simp only [List.nodup_cons,List.mem_cons,List.cons_append,List.nil_append,not_or]
   exact ⟨⟨N.rp,N.rt,tr.symm,N.rr⟩,⟨N.pt,fun e=>ot.2.2.1 e.symm,N.pr⟩,⟨tt.symm,N.tr⟩,ot.2.2.2.2,N.nd⟩
  ·subst e
   simp only [List.mem_cons,List.cons_append,List.nil_append] at hb
   rcases hb with rfl | rfl | rfl | rfl | h
   ·exact N.D1 ha
   ·exact N.Fc ha
   ·exact N.CY ha
   ·exact ot.1 ha
   ·exact N.DZ _ h ha
 ·refine TR.to rfl ?_ ae ?_ rfl hy hz hbk hfr
  ·rw [aj N.rt]
   exact s4 _ _ h1
  ·rintro q (rfl | hq) o e
   ·exact keep _ _ e N.rp.symm N.pt
   ·exact keep _ _ e (fun z=>N.rr (by rw [← z];exact hq)) (fun z=>N.tr (by rw [← z];exact hq))
 ·show upd _ tl _ tp=_
  rw [aj tt]
  exact p2
 ·refine p3.keeps fun q hq o e=>?_
  rw [aj (fun z=>by have:=(p4 q hq).1;rw [z,h2] at this;cases this)]
  exact e
 ·intro q hq hm
  have oq:=out q (free (p4 q hq).1)
  rcases List.mem_append.mp hm with h | h
  ·exact oq.1 h
  ·simp only [List.mem_cons,List.cons_append,List.nil_append] at h
   rcases h with h | h | h | h | h
   ·exact oq.2.1 h
   ·exact oq.2.2.1 h
   ·exact oq.2.2.2.1 h
   ·exact (p4 q hq).2 h
   ·exact oq.2.2.2.2 h
 ·simp
section
variable {P:Program} {w:World} {K:PySem.W.Frag} {mg:Str→Option Value} {base:Heap} {A:bI}
theorem mi (T:Txt P w K mg A):FnAt P w K mg base "take_tile_colours" 9 ["session","words"] (dg A (fun m=>∃r i j back front b s',m=.tileColours r i j back front b s')):=by
 refine T.d7.at_ (fun _ _ _ _ _ _ us hl=>match us,hl with | [_,_],_=>rfl) fun f fd F=>?_
 refine F.ok ie (fun vs H Q E h=>?_) (fun cdv AA outer sh H vs Q E hr h=>?_)
 ·obtain ⟨s,dx,wd,x,ws,v,m,M,rfl,_⟩:=h
  rfl
 ·obtain ⟨s,dx,wd,x,ws,v,m,M,rfl,⟨r,i,j,back,front,b,s',rfl⟩,ti,k⟩:=h
  have R:=ti.rep
  have nd:=ie.nd
  have run:=R.running rfl
  have lp:0 < v.left:=R.lG
  obtain ⟨rc,dr,tl,dt,y,z,rs,Pic,TR,hdr,hzb,hb,hz0⟩:=R.mode
  have N:=TR.ne R.nd
  generalize ha:(if Mir.bit b 2=1 then v.screen.form.size else 0)=a
  generalize ha':(a + if Mir.bit b 4=1 then v.screen.form.size else 0)=a'
  generalize hback:(if Mir.bit b 2=1 then Mir.kJ v.screen.form (ws.take v.screen.form.size) else back)=back'
  generalize hfront:(if Mir.bit b 4=1 then Mir.kJ v.screen.form ((ws.drop a).take v.screen.form.size) else front)=front'
  generalize hn:(if Mir.bit b 8=1 then Mir.sub ws a' 1 else 0)=n
  have hl:ws.length=a' + (if Mir.bit b 8=1 then 1 else 0):=by rw [← ha',← ha];exact ti.len
  have k':After A H s dx M v (Mir.cI v r i j back' front' b n (s'.fill (Mir.ax r i j) back')) Q:=by
   rw [← hn,← hfront,← ha',← hback,← ha];exact k
  obtain ⟨fa,bits,f1,f2,f3,f4⟩:=R.core.form run.o6
  obtain ⟨fdx,gr,sh1,z1,z2,z3,z4⟩:=id f2
  have wt:(Mir.ax r i j).w≤16:=by show min 16 _≤16;omega
  have ht:(Mir.ax r i j).h≤16:=by show min 16 _≤16;omega
  have nst:s≠tl:=fun e=>N.CY (by rw [← e];simp [M0])
  have nsr:s≠rc:=fun e=>N.D1 (by rw [← e];simp [M0])
  have mrc:rc∈M:=by rw [TR.eC];simp
  have mtl:tl∈M:=by rw [TR.eC];simp
  have ea:V.int ((FF.mk bits v.screen.form.big v.screen.form.parts gr sh1).bits / 8:Nat)=V.int (v.screen.form.size:Int):=by rw [z4]
  refine ⟨_,ab (aI (i:=2) nd rfl (Or.inl rfl) (aq (pv 0) rfl))
   (ab (aI (i:=3) nd rfl (Or.inl rfl) (aq (pv 2) rfl))
   (ab (aI (i:=4) nd rfl (Or.inl rfl) ai)
   (ab (aX (gp (aH gR (aq (pv 3) rfl) (a_ T.jm rfl)) (fun _=>rfl)) (ab (aJ (pv 2) (aK (gh T) (hr.mono (by decide)) rfl (aa (aq (pv 0) rfl) (aa (pv 1) (aa (pv 4) ah)))) rfl) (ak (m_ (i:=4) nd rfl (Or.inl rfl) (aq (aq (pv 0) rfl) rfl) nh))) aP)
   (ab (aX (gp (aH gR (aq (pv 3) rfl) (a_ T.ik rfl)) (fun _=>rfl)) (ab (aJ (pv 2) (aK (gh T) (hr.mono (by decide)) rfl (aa (aq (pv 0) rfl) (aa (pv 1) (aa (pv 4) ah)))) rfl) (ak (m_ (i:=4) nd rfl (Or.inl rfl) (aq (aq (pv 0) rfl) rfl) nh))) aP)
   (ab (aX (gp (aH gR (aq (pv 3) rfl) (a_ T.il rfl)) (fun _=>rfl)) (ak (aJ (pv 3) (cN bq (pv 1) (pv 4) (fun _ _=>rfl)) rfl)) aP)
   (ab (aJ (pv 3) (aK (mF T) (hr.mono (by decide)) rfl (aa (aq (pv 3) rfl) (aa (aq (pv 3) rfl) (aa (aq (pv 2) rfl) ah)))) rfl)
   (ak (az (aK (j_ T) hr rfl (aa (pv 0) ah)))))))))),?_⟩
  refine ⟨_,rfl,s,A.ag,dx,_,_,rfl,R.bK,T.af,T.aF,rfl,?_⟩
  rw [TR.rect.ref]
  refine ⟨_,rfl,rc,A.ao,dr,_,_,rfl,TR.rect.at_,T.au,T.bC,rfl,?_⟩
  rw [TR.tile.ref]
  refine ⟨_,rfl,tl,A.bR,dt,_,_,rfl,TR.tile.at_,T.bz,T.bo,rfl,_,_,rfl,rfl,_,rfl,?_⟩
  rw [hzb,and_2 b hb]
  apply joinR (F:=fun (y1:RF) (H1:Hp)=>y1.back=back'∧y1.front=front∧(y1.left,y1.top,y1.width,y1.a9,y1.aA,y1.tile)=(y.left,y.top,y.width,y.a9,y.aA,y.tile)∧SameBut H H1 (·=rc)∧H1 rc=some (.ins A.ao dr (RF.fs y1)))
  case main=>
   intro tail
   by_cases c2:Mir.bit b 2=1
   ·rw [decide_eq_true c2]
    refine cG ?_
    refine ⟨_,rfl,s,A.ag,dx,_,_,rfl,R.bK,T.af,T.aL,rfl,_,rfl,_,rfl,fa,wd,bits,v.screen.form,ws,0,by rw [f1];rfl,f2.at_,ti.words.1,fun H0 s0=>?_⟩
    refine ⟨_,rfl,rc,A.ao,dr,_,rfl,s0 _ _ TR.rect.at_,T.au,T.dq,by show 10 < 1000;decide,?_⟩
    rw [show bH "back" (.int (Mir.kJ v.screen.form ((ws.drop 0).take v.screen.form.size):Nat)) (RF.fs y)=RF.fs { y with back:=back' } by rw [← hback,if_pos c2,List.drop_zero];rfl]
    have s1:SameBut H (upd H0 rc (.ins A.ao dr (RF.fs { y with back:=back' }))) (·=rc):=fun q o e n=>by rw [aj n];exact s0 _ _ e
    have r1:upd H0 rc (.ins A.ao dr (RF.fs { y with back:=back' })) rc=some (.ins A.ao dr (RF.fs { y with back:=back' })):=ae
    have fz:=f2.ext (.fA s1 fun q e=>by rw [e];exact mrc)
    generalize upd H0 rc (.ins A.ao dr (RF.fs { y with back:=back' }))=H1 at *
    obtain ⟨fdx',gr',sh',w1,w2,w3,w4⟩:=fz
    refine ⟨_,rfl,_,rfl,s,A.ag,dx,_,_,rfl,s1 _ _ R.bK nsr,T.af,T.aL,rfl,?_⟩
    rw [show x.k.form=V.ref fa from f1]
    refine ⟨fa,A.Form,fdx',_,_,rfl,w1.1,T.bB,T.bO,rfl,_,_,rfl,rfl,?_⟩
    rw [show ((fun i j:Int=>i + j) (0:Int) ((FF.mk bits v.screen.form.big v.screen.form.parts gr' sh').bits / 8:Nat))=(a:Int) by rw [← ha,if_pos c2,w4];simp]
    generalize hy1:({ y with back:=back' }:RF)=y1 at *
    have b1:y1.back=back':=by rw [← hy1]
    have b2:y1.front=front:=by rw [← hy1];exact TR.fr
    have b3:(y1.left,y1.top,y1.width,y1.a9,y1.aA,y1.tile)=(y.left,y.top,y.width,y.a9,y.aA,y.tile):=by rw [← hy1]
    exact tail y1 H1 ⟨b1,b2,b3,s1,r1⟩
   ·rw [decide_eq_false c2]
    refine cE ?_
    obtain ⟨y1,hy1⟩:∃t:RF,t=y:=⟨_,rfl⟩
    have b1:y1.back=back':=by rw [hy1,← hback,if_neg c2];exact TR.bk
    have b2:y1.front=front:=by rw [hy1];exact TR.fr
    have b3:(y1.left,y1.top,y1.width,y1.a9,y1.aA,y1.tile)=(y.left,y.top,y.width,y.a9,y.aA,y.tile):=by rw [hy1]
    obtain ⟨H1,hH1⟩:∃t:Hp,t=H:=⟨_,rfl⟩
    have s1:SameBut H H1 (·=rc):=fun q o e n=>by rw [hH1];exact e
    have r1:H1 rc=some (.ins A.ao dr (RF.fs y1)):=by rw [hH1,hy1];exact TR.rect.at_
    rw [← hH1,show V.int 0=V.int ((a:Nat):Int) by rw [← ha,if_neg c2];rfl]
    exact tail y1 H1 ⟨b1,b2,b3,s1,r1⟩
  case tail=>
   rintro y1 H1 ⟨b1,b2,b3,s1,r1⟩
   have t1:=s1 _ _ TR.tile.at_ N.rt.symm
   refine ⟨_,rfl,tl,A.bR,dt,_,_,rfl,t1,T.bz,T.bo,rfl,_,_,rfl,rfl,_,rfl,?_⟩
   rw [hzb,CV b hb]
   apply joinR (F:=fun (y2:RF) (H2:Hp)=>y2.back=back'∧y2.front=front'∧(y2.left,y2.top,y2.width,y2.a9,y2.aA,y2.tile)=(y.left,y.top,y.width,y.a9,y.aA,y.tile)∧SameBut H H2 (·=rc)∧H2 rc=some (.ins A.ao dr (RF.fs y2)))
   case main=>
    intro tail
    by_cases c4:Mir.bit b 4=1
    ·rw [decide_eq_true c4]
     refine cG ?_
     have g1:=f2.ext (.fA s1 fun q e=>by rw [e];exact mrc)
     refine ⟨_,rfl,s,A.ag,dx,_,_,rfl,s1 _ _ R.bK nsr,T.af,T.aL,rfl,_,rfl,_,rfl,fa,wd,bits,v.screen.form,ws,a,by rw [f1];rfl,g1.at_,s1 _ _ ti.words.1 (fun e=>ti.words.2 (by rw [e];exact mrc)),fun H0 s0=>?_⟩
     refine ⟨_,rfl,rc,A.ao,dr,_,rfl,s0 _ _ r1,T.au,T.cY,by show 10 < 1000;decide,?_⟩
     rw [show bH "front" (.int (Mir.kJ v.screen.form ((ws.drop a).take v.screen.form.size):Nat)) (RF.fs y1)=RF.fs { y1 with front:=front' } by rw [← hfront,if_pos c4];rfl]
     have s2:SameBut H (upd H0 rc (.ins A.ao dr (RF.fs { y1 with front:=front' }))) (·=rc):=fun q o e n=>by rw [aj n];exact s0 _ _ (s1 _ _ e n)
     have r2:upd H0 rc (.ins A.ao dr (RF.fs { y1 with front:=front' })) rc=some (.ins A.ao dr (RF.fs { y1 with front:=front' })):=ae
     have fz:=f2.ext (.fA s2 fun q e=>by rw [e];exact mrc)
     generalize upd H0 rc (.ins A.ao dr (RF.fs { y1 with front:=front' }))=H2 at *
     obtain ⟨fdx',gr',sh',w1,w2,w3,w4⟩:=fz
     refine ⟨_,rfl,_,rfl,s,A.ag,dx,_,_,rfl,s2 _ _ R.bK nsr,T.af,T.aL,rfl,?_⟩
     rw [show x.k.form=V.ref fa from f1]
     refine ⟨fa,A.Form,fdx',_,_,rfl,w1.1,T.bB,T.bO,rfl,_,_,rfl,rfl,?_⟩
     rw [show ((fun i j:Int=>i + j) (a:Int) ((FF.mk bits v.screen.form.big v.screen.form.parts gr' sh').bits / 8:Nat))=(a':Int) by rw [← ha',if_pos c4,w4];simp]
     generalize hy2:({ y1 with front:=front' }:RF)=y2 at *
     have d1:y2.back=back':=by rw [← hy2];exact b1
     have d2:y2.front=front':=by rw [← hy2]
     have d3:(y2.left,y2.top,y2.width,y2.a9,y2.aA,y2.tile)=(y.left,y.top,y.width,y.a9,y.aA,y.tile):=by rw [← hy2];exact b3
     exact tail y2 H2 ⟨d1,d2,d3,s2,r2⟩
    ·rw [decide_eq_false c4]
     refine cE ?_
     obtain ⟨y2,hy2⟩:∃t:RF,t=y1:=⟨_,rfl⟩
     have d1:y2.back=back':=by rw [hy2];exact b1
     have d2:y2.front=front':=by rw [hy2,← hfront,if_neg c4];exact b2
     have d3:(y2.left,y2.top,y2.width,y2.a9,y2.aA,y2.tile)=(y.left,y.top,y.width,y.a9,y.aA,y.tile):=by rw [hy2];exact b3
     obtain ⟨H2,hH2⟩:∃t:Hp,t=H1:=⟨_,rfl⟩
     have s2:SameBut H H2 (·=rc):=by rw [hH2];exact s1
     have r2:H2 rc=some (.ins A.ao dr (RF.fs y2)):=by rw [hH2,hy2];exact r1
     rw [← hH2,show V.int ((a:Nat):Int)=V.int ((a':Nat):Int) by rw [← ha',if_neg c4,Nat.add_zero]]
     exact tail y2 H2 ⟨d1,d2,d3,s2,r2⟩
   case tail=>
    rintro y2 H2 ⟨d1,d2,d3,s2,r2⟩
    have t2:=s2 _ _ TR.tile.at_ N.rt.symm
    refine ⟨_,rfl,tl,A.bR,dt,_,_,rfl,t2,T.bz,T.bo,rfl,_,_,rfl,rfl,_,rfl,?_⟩
    rw [hzb,CW b hb]
    apply joinR (F:=fun (zc:TF) (H3:Hp)=>zc.parts=n∧zc.bits=b∧(zc.left,zc.top,zc.width,zc.a9)=(z.left,z.top,z.width,z.a9)∧SameBut H H3 (fun q=>q=rc∨q=tl)∧H3 rc=some (.ins A.ao dr (RF.fs y2))∧H3 tl=some (.ins A.bR dt (TF.fs zc)))
    case main=>
     intro tail
     by_cases c8:Mir.bit b 8=1
     ·rw [decide_eq_true c8]
      refine cG ?_
      rw [if_pos c8] at hl hn
      refine ⟨_,rfl,_,rfl,wd,_,_,_,rfl,rfl,bV.of (s2 _ _ ti.words.1 (fun e=>ti.words.2 (by rw [e];exact mrc))),j5 (i:=a') rfl (by omega),?_⟩
      refine ⟨_,rfl,tl,A.bR,dt,_,rfl,t2,T.bz,T.cC,by show 7 < 1000;decide,?_⟩
      rw [show bH "parts_left" (.int (ws.getD a' 0:Nat)) (TF.fs z)=TF.fs { z with parts:=n } by rw [← hn,sub_one (by omega)];rfl]
      have s3:SameBut H (upd H2 tl (.ins A.bR dt (TF.fs { z with parts:=n }))) (fun q=>q=rc∨q=tl):=fun q o e n=>by
       rw [aj (fun h=>n (.inr h))]
       exact s2 _ _ e (fun h=>n (.inl h))
      have r3:upd H2 tl (.ins A.bR dt (TF.fs { z with parts:=n })) rc=some (.ins A.ao dr (RF.fs y2)):=by rw [aj N.rt];exact r2
      have t3:upd H2 tl (.ins A.bR dt (TF.fs { z with parts:=n })) tl=some (.ins A.bR dt (TF.fs { z with parts:=n })):=ae
      generalize upd H2 tl (.ins A.bR dt (TF.fs { z with parts:=n }))=H3 at *
      generalize hzz:({ z with parts:=n }:TF)=zc at *
      have q1:zc.parts=n:=by rw [← hzz]
      have q2:zc.bits=b:=by rw [← hzz];exact hzb
      have q3:(zc.left,zc.top,zc.width,zc.a9)=(z.left,z.top,z.width,z.a9):=by rw [← hzz]
      exact tail zc H3 ⟨q1,q2,q3,s3,r3,t3⟩
     ·rw [decide_eq_false c8]
      refine cE ?_
      obtain ⟨zc,hzz⟩:∃t:TF,t=z:=⟨_,rfl⟩
      have q1:zc.parts=n:=by rw [hzz,← hn,if_neg c8];exact hz0
      have q2:zc.bits=b:=by rw [hzz];exact hzb
      have q3:(zc.left,zc.top,zc.width,zc.a9)=(z.left,z.top,z.width,z.a9):=by rw [hzz]
      obtain ⟨H3,hH3⟩:∃t:Hp,t=H2:=⟨_,rfl⟩
      have s3:SameBut H H3 (fun q=>q=rc∨q=tl):=fun q o e n=>by
       rw [hH3]
       exact s2 _ _ e (fun h=>n (.inl h))
      have r3:H3 rc=some (.ins A.ao dr (RF.fs y2)):=by rw [hH3];exact r2
      have t3:H3 tl=some (.ins A.bR dt (TF.fs zc)):=by rw [hH3,hzz];exact t2
      rw [← hH3]
      exact tail zc H3 ⟨q1,q2,q3,s3,r3,t3⟩
    case tail=>
     rintro zc H3 ⟨q1,q2,q3,s3,r3,t3⟩
     refine ⟨_,rfl,tl,A.bR,dt,_,_,rfl,t3,T.bz,T.dS,rfl,_,rfl,tl,A.bR,dt,_,_,rfl,t3,T.bz,T.cQ,rfl,_,rfl,rc,A.ao,dr,_,_,rfl,r3,T.au,T.dq,rfl,?_⟩
     have q4:zc.width=(Mir.ax r i j).w:=by
      simp only [Prod.mk.injEq] at q3
      rw [q3.2.2.1];exact TR.tile.w
     have q5:zc.a9=(Mir.ax r i j).h:=by
      simp only [Prod.mk.injEq] at q3
      rw [q3.2.2.2];exact TR.tile.h
     refine ⟨(Mir.ax r i j).w,(Mir.ax r i j).h,back',by rw [q4,q5,d1];rfl,by omega,by omega,fun H4 tp trs p1 p2 p3 p4 s4=>?_⟩
     refine ⟨_,rfl,tl,A.bR,dt,_,rfl,s4 _ _ t3,T.bz,T.dy,by show 7 < 1000;decide,?_⟩
     rw [show bH "picture" (.ref tp) (TF.fs zc)=TF.fs { zc with aA:=tp } from rfl]
     exact ⟨_,rfl,uN (E:=E0) run R.nd lp TR hdr hb r3 t3 s3 d3 q3 d1 d2 q2 q1 p1 p2 p3 p4 s4 k'⟩
end
theorem Ff (n:Nat):((fun i j:Int=>V.int (i / 2 ^ j.toNat)) (n:Int) 4)=V.int ((n / 16:Nat):Int):=by
 show V.int ((n:Int) / 16)=_
 rw [Int.natCast_ediv]
 rfl
theorem C6 (n:Nat):((fun i j:Int=>V.int (Builtin.bitAnd i j)) (n:Int) 15)=V.int ((n % 16:Nat):Int):=by
 have:=Bits.lM (x:=(n:Int)) 4 (Int.natCast_nonneg _)
 show V.int (Builtin.bitAnd (n:Int) (2 ^ 4 - 1))=_
 rw [this,Int.natCast_emod]
 rfl
theorem Fg (n:Nat):((fun i j:Int=>V.int (i + j)) (n:Int) 1)=V.int ((n + 1:Nat):Int):=rfl
section
variable {P:Program} {w:World} {K:PySem.W.Frag} {mg:Str→Option Value} {base:Heap} {A:bI}
theorem oZ (T:Txt P w K mg A):FnAt P w K mg base "take_tile_part" 9 ["session","words"] (dg A (fun m=>∃r i j back front b n s',m=.tilePart r i j back front b n s')):=by
 refine T.fK.at_ (fun _ _ _ _ _ _ us hl=>match us,hl with | [_,_],_=>rfl) fun f fd F=>?_
 refine F.ok jL (fun vs H Q E h=>?_) (fun cdv AA outer sh H vs Q E hr h=>?_)
 ·obtain ⟨s,dx,wd,x,ws,v,m,M,rfl,_⟩:=h
  rfl
 ·obtain ⟨s,dx,wd,x,ws,v,m,M,rfl,⟨r,i,j,back,front,b,n,s',rfl⟩,ti,k⟩:=h
  have R:=ti.rep
  have nd:=jL.nd
  have run:=R.running rfl
  have lp:0 < v.left:=R.lG
  have hn:0 < n:=ti.wf.2.2.2
  obtain ⟨rc,dr,tl,dt,y,z,rs,Pic,TR,hzb,hb,hzp,trs,TP,B,hpic,hrows,hB,cB,eB⟩:=R.mode
  have hdr:gj v r i j Pic TP s':=⟨B,hB,cB,eB⟩
  have N:=TR.ne R.nd
  generalize ha:(if Mir.bit b 16=1 then v.screen.form.size else 0)=a
  generalize hp:(if Mir.bit b 16=1 then Mir.kJ v.screen.form (ws.take v.screen.form.size) else front)=p
  have hl:ws.length=a + 2:=by rw [← ha];exact ti.len
  obtain ⟨q,hq⟩:∃q:Rect,q=⟨Mir.sub ws a 1 / 16,Mir.sub ws a 1 % 16,Mir.sub ws (a + 1) 1 / 16 + 1,Mir.sub ws (a + 1) 1 % 16 + 1⟩:=⟨_,rfl⟩
  have k':After A H s dx M v (if Sn44.inside (Mir.ax r i j).w (Mir.ax r i j).h q=true then Mir.cI v r i j back front b (n - 1) (s'.fill ⟨(Mir.ax r i j).x + q.x,(Mir.ax r i j).y + q.y,q.w,q.h⟩ p) else .bad 7) Q:=by
   rw [hq,← hp,← ha];exact k
  rw [sub_one (by omega),sub_one (by omega)] at hq
  have qx:ws.getD a 0 / 16=q.x:=by rw [hq]
  have qy:ws.getD a 0 % 16=q.y:=by rw [hq]
  have qw:ws.getD (a + 1) 0 / 16 + 1=q.w:=by rw [hq]
  have qh:ws.getD (a + 1) 0 % 16 + 1=q.h:=by rw [hq]
  obtain ⟨fa,bits,f1,f2,f3,f4⟩:=R.core.form run.o6
  have wt:(Mir.ax r i j).w≤16:=by show min 16 _≤16;omega
  have ht:(Mir.ax r i j).h≤16:=by show min 16 _≤16;omega
  have mtl:tl∈M:=by rw [TR.eC];simp
  have mtp:z.aA∈M:=hpic.mem
  have ntp:tl≠z.aA:=fun e=>N.tm (by rw [← e];simp)
  refine ⟨_,ab (aI (i:=2) nd rfl (Or.inl rfl) (aq (pv 0) rfl))
   (ab (aI (i:=3) nd rfl (Or.inl rfl) (aq (pv 2) rfl))
   (ab (aI (i:=4) nd rfl (Or.inl rfl) (cN bq (pv 1) (aH nj (bZ bj (by rfl) T.fQ PySem.boot_len (aa (pv 1) ah)) ai) (fun _ _=>rfl)))
   (ab (aI (i:=5) nd rfl (Or.inl rfl) (cN bq (pv 1) (aH nj (bZ bj (by rfl) T.fQ PySem.boot_len (aa (pv 1) ah)) ai) (fun _ _=>rfl)))
   (ab (aI (i:=6) nd rfl (Or.inl rfl) (aH tO (pv 4) ai))
   (ab (aI (i:=7) nd rfl (Or.inl rfl) (aH gR (pv 4) ai))
   (ab (aI (i:=8) nd rfl (Or.inl rfl) (aH bA (aH tO (pv 5) ai) ai))
   (ab (aI (i:=9) nd rfl (Or.inl rfl) (aH bA (aH gR (pv 5) ai) ai))
   (ab (aX (kD (ka (aK (pK T) (hr.mono (by decide)) rfl (aa (pv 6) (aa (pv 7) (aa (pv 8) (aa (pv 9) (aa (aq (pv 3) rfl) (aa (aq (pv 3) rfl) ah))))))))) (ab (az (bF (d8 T) T.af (hr.mono (by decide)) (pv 0) (aa ai ah))) (ak d5)) aP)
   (ab (aI (i:=10) nd rfl (Or.inl rfl) (aq (pv 2) rfl))
   (ab (aX (gp (aH gR (aq (pv 3) rfl) (a_ T.dU rfl)) (fun _=>rfl)) (ak (aI (i:=10) nd rfl (Or.inl rfl) (aK (gh T) (hr.mono (by decide)) rfl (aa (aq (pv 0) rfl) (aa (pv 1) (aa ai ah)))))) aP)
   (ab (az (aK (yM T) (hr.mono (by decide)) rfl (aa (aq (pv 3) rfl) (aa (pv 6) (aa (pv 7) (aa (pv 8) (aa (pv 9) (aa (pv 10) ah))))))))
   (ab (ph (pv 3) ai wX)
   (ak (az (aK (j_ T) hr rfl (aa (pv 0) ah)))))))))))))))),?_⟩
  refine ⟨_,rfl,s,A.ag,dx,_,_,rfl,R.bK,T.af,T.aF,rfl,?_⟩
  rw [TR.rect.ref]
  refine ⟨_,rfl,rc,A.ao,dr,_,_,rfl,TR.rect.at_,T.au,T.bC,rfl,?_⟩
  rw [TR.tile.ref]
  refine ⟨_,rfl,_,rfl,wd,_,rfl,.inl (bV.of ti.words.1),_,_,rfl,rfl,wd,_,_,_,rfl,rfl,bV.of ti.words.1,j5 (i:=a) (by rw [aU,hl];show ((a + 2:Nat):Int) - 2=_;omega) (by omega),?_⟩
  refine ⟨_,rfl,_,rfl,wd,_,rfl,.inl (bV.of ti.words.1),_,_,rfl,rfl,wd,_,_,_,rfl,rfl,bV.of ti.words.1,j5 (i:=a + 1) (by rw [aU,hl];show ((a + 2:Nat):Int) - 1=_;omega) (by omega),?_⟩
  refine ⟨_,rfl,_,_,rfl,rfl,by show (0:Int)≤4;decide,?_⟩
  rw [Ff,qx]
  refine ⟨_,rfl,_,_,rfl,rfl,?_⟩
  rw [C6,qy]
  refine ⟨_,rfl,_,_,rfl,rfl,by show (0:Int)≤4;decide,?_⟩
  rw [Ff]
  refine ⟨_,_,rfl,rfl,?_⟩
  rw [Fg,qw]
  refine ⟨_,rfl,_,_,rfl,rfl,?_⟩
  rw [C6]
  refine ⟨_,_,rfl,rfl,?_⟩
  rw [Fg,qh]
  refine ⟨_,rfl,_,rfl,_,rfl,_,rfl,_,rfl,tl,A.bR,dt,_,_,rfl,TR.tile.at_,T.bz,T.dS,rfl,_,rfl,tl,A.bR,dt,_,_,rfl,TR.tile.at_,T.bz,T.cQ,rfl,q.x,q.y,q.w,q.h,(Mir.ax r i j).w,(Mir.ax r i j).h,by rw [TR.tile.w,TR.tile.h];rfl,_,rfl,?_⟩
  unfold Sn44.inside at k'
  cases cc:(decide (q.x + q.w≤(Mir.ax r i j).w) && decide (q.y + q.h≤(Mir.ax r i j).h)) with
  | false=>
   rw [cc,if_neg (by decide)] at k'
   exact cG ⟨_,rfl,s,dx,_,rfl,R.bK,rfl,s,dx,x,7,rfl,R.bK,k'.fail (.refl H M) R.core (by decide)⟩
  | true=>
   rw [cc,if_pos rfl] at k'
   rw [Bool.and_eq_true] at cc
   have c1:=of_decide_eq_true cc.1
   have c2:=of_decide_eq_true cc.2
   refine cE ⟨_,rfl,rc,A.ao,dr,_,_,rfl,TR.rect.at_,T.au,T.cY,rfl,?_⟩
   rw [TR.fr]
   refine ⟨_,rfl,tl,A.bR,dt,_,_,rfl,TR.tile.at_,T.bz,T.bo,rfl,_,_,rfl,rfl,_,rfl,?_⟩
   rw [hzb,Bt b hb]
   apply joinH (F:=fun (H1:Hp)=>bX H H1)
   case main=>
    intro tail
    by_cases c3:Mir.bit b 16=1
    ·rw [decide_eq_true c3]
     refine cG ⟨_,rfl,s,A.ag,dx,_,_,rfl,R.bK,T.af,T.aL,rfl,_,rfl,fa,wd,bits,v.screen.form,ws,0,by rw [f1];rfl,f2.at_,ti.words.1,fun H1 s1=>?_⟩
     rw [List.drop_zero,show Mir.kJ v.screen.form (ws.take v.screen.form.size)=p by rw [← hp,if_pos c3]]
     exact tail H1 s1
    ·rw [decide_eq_false c3]
     refine cE ?_
     rw [show front=p by rw [← hp,if_neg c3]]
     exact tail H (bX.refl _)
   case tail=>
    intro H1 s1
    have t1:=s1 _ _ TR.tile.at_
    refine ⟨_,rfl,tl,A.bR,dt,_,_,rfl,t1,T.bz,T.dy,rfl,_,rfl,_,rfl,_,rfl,_,rfl,_,rfl,?_⟩
    refine ⟨z.aA,trs,TP,q.x,q.y,q.w,q.h,p,(Mir.ax r i j).w,rfl,hpic.at_.keeps (fun c _ o e=>s1 c o e),hrows.row,by omega,by rw [hrows.len];omega,c1,by rw [hrows.len];exact c2,fun H6 rs6 p6 hr6 sb6=>?_⟩
    have t6:=sb6 _ _ t1 ntp
    refine ⟨_,rfl,tl,A.bR,dt,_,_,rfl,t6,T.bz,T.cC,rfl,_,_,rfl,rfl,dt,_,t6,by show 7 < 1000;decide,?_⟩
    rw [show bH "parts_left" (.int ((z.parts:Int) - 1)) (TF.fs z)=TF.fs { z with parts:=n - 1 } by
     rw [show ((z.parts:Int) - 1)=((n - 1:Nat):Int) by omega];rfl]
    have e6:Ext H M H6 M:=(Ext.of_same s1).trans (.fA sb6 fun c e=>by rw [e];exact mtp)
    have e7:Ext H M (upd H6 tl (.ins A.bR dt (TF.fs { z with parts:=n - 1 }))) M:=e6.trans (.upd mtl)
    have keep:∀c o,H c=some o→c≠z.aA→c≠tl→upd H6 tl (.ins A.bR dt (TF.fs { z with parts:=n - 1 })) c=some o:=fun c o e n1 n2=>by
     rw [aj n2]
     exact sb6 _ _ (s1 _ _ e) n1
    have ntp0:z.aA∉M0 s x.k:=N.Gs _ (by simp)
    have hm0:∀c∈M0 s x.k,upd H6 tl (.ins A.bR dt (TF.fs { z with parts:=n - 1 })) c=H c:=fun c hc=>by
     obtain ⟨o,e⟩:=R.core.jr R.bK c hc
     rw [e]
     exact keep c o e (fun q=>ntp0 (by rw [← q];exact hc)) (fun q=>N.CY (by rw [← q];exact hc))
    have run7:=run.ext e7 hm0 R.core.mem
    have Rr:=Mir.eR q.w q.h p
    have Rp:=hrows.rD (xs:=Mir.eO q.w q.h p) (left:=q.x) (top:=q.y) (fun z hz=>by rw [Rr.row z hz];exact c1) (by rw [Rr.len];exact c2)
    refine ⟨_,rfl,s,dx,x,v,M,r,i,j,back,front,b,n - 1,_,rc,dr,tl,dt,y,{ z with parts:=n - 1 },rs,Pic,rs6,_,rfl,⟨run7,R.nd,lp,?_,hzb,hb,rfl,⟨?_,⟨?_,?_⟩,mtp⟩,Rp,Ah (p:=p) hdr TR.band TR.hi TR.hj TR.ins hrows c1 c2⟩,k'.ext e7⟩
    ·refine TR.to TR.eC ?_ ae ?_ rfl rfl rfl TR.bk TR.fr
     ·exact keep _ _ TR.rect.at_ (fun e=>N.rm (by rw [← e];simp)) N.rt
     ·rintro c (rfl | hc) o e
      ·exact keep _ _ e (fun e=>N.pm (by rw [← e];simp)) N.pt
      ·exact keep _ _ e (fun e=>N.mr z.aA (by simp) (by rw [← e];exact hc)) (fun e=>N.tr (by rw [← e];exact hc))
    ·show upd _ tl _ z.aA=_
     rw [aj ntp.symm]
     exact p6.lst
    ·refine p6.rows.keeps fun c hc o e=>?_
     have cr:c≠tl:=fun e2=>by
      rw [e2] at hc
      obtain ⟨g,hg,e3⟩:=List.getElem_of_mem hc
      have:=p6.rows.at_ g tl (by rw [List.getElem?_eq_getElem hg,e3])
      rw [t6] at this
      cases this
     rw [aj cr]
     exact e
    ·intro c hc hm
     rcases hr6 c hc with h | h | h
     ·exact hpic.rows.fz c h hm
     ·cases h
     ·have fz:=s1.free h
      rw [TR.eC] at hm
      rcases List.mem_append.mp hm with hm | hm
      ·exact R.core.d9 R.bK fz hm
      ·simp only [List.mem_cons,List.mem_append,List.not_mem_nil,or_false] at hm
       rcases hm with rfl | rfl | rfl | rfl | hm
       ·rw [TR.rect.at_] at fz;cases fz
       ·rw [TR.lst] at fz;cases fz
       ·rw [TR.tile.at_] at fz;cases fz
       ·rw [hpic.lst] at fz;cases fz
       ·obtain ⟨o,e⟩:=TR.rows.there hm
        rw [e] at fz;cases fz
end
theorem pN:∀(kvs:List (Key × V)) (k:Key),n_ kvs k=((kvs.map (·.1)).findIdx? fun q=>decide (q=k)).bind fun i=>(kvs.map (·.2))[i]?
 | [],k=>rfl
 | kv :: kvs,k=>by
  rw [List.map_cons,List.findIdx?_cons]
  unfold n_
  by_cases c:kv.1=k
  ·rw [List.find?_cons_of_pos (by simpa using c),if_pos (by simpa using c)]
   rfl
  ·rw [List.find?_cons_of_neg (by simpa using c),if_neg (by simpa using c)]
   have:=pN kvs k
   unfold n_ at this
   rw [this]
   cases (kvs.map (·.1)).findIdx? (fun q=>decide (q=k)) with
   | none=>rfl
   | some i=>rfl
theorem aO {kvs:List (Key × V)} {k:Key} {ks:List Key} {i:Nat} {v:V} (h:kvs.map (·.1)=ks) (e:ks.findIdx? (fun q=>decide (q=k))=some i) (hv:(kvs.map (·.2))[i]?=some v):n_ kvs k=some v:=by
 rw [pN,h,e]
 exact hv
theorem aV {kvs:List (Key × V)} {k:Key} {ks:List Key} (h:kvs.map (·.1)=ks) (e:ks.findIdx? (fun q=>decide (q=k))=none):n_ kvs k=none:=by
 rw [pN,h,e]
 rfl
def dm:List Key:=[.inr "version",.inr "how many ways",.inr "ways",.inr "number",.inr "size",.inr "form",.inr "name length",.inr "name"]
def fR:List Key:=[.inr "kind",.inr "update",.inr "table",.inr "colours",.inr "cut length",.inr "cut text"]
def iD:List Key:=[.inr "rectangle",.inr "pixels",.inr "source",.inr "how many parts",.inr "ground",.inr "part"]
def yW:List Key:=[.inr "tile",.inr "tile pixels",.inr "tile colours",.inr "tile part"]
section
variable {P:Program} {w:World} {K:PySem.W.Frag} {mg:Str→Option Value} {base:Heap} {A:bI}
theorem cZ {o:Option V} {v:V} {A B:Prop} (h:o=some v) (k:A):if o.isSome=true then A else B:=by rw [h];exact k
theorem bN {o:Option V} {A B:Prop} (h:o=none) (k:B):if o.isSome=true then A else B:=by rw [h];exact cE k
theorem sO (T:Txt P w K mg A):FnAt P w K mg base "take_words" 10 ["session","words"] (dg A (fun _=>True)):=by
 refine T.iX.at_ (fun _ _ _ _ _ _ us hl=>match us,hl with | [_,_],_=>rfl) fun f fd F=>?_
 refine F.ok mW (fun vs H Q E h=>?_) (fun cdv AA outer sh H vs Q E hr h=>?_)
 ·obtain ⟨s,dx,wd,x,ws,v,m,M,rfl,_⟩:=h
  rfl
 ·obtain ⟨s,dx,wd,x,ws,v,m,M,rfl,_,ti,k⟩:=h
  have R:=ti.rep
  have nd:=mW.nd
  obtain ⟨a_take_version,a_take_how_many_ways,a_take_ways,a_take_number,a_take_size,a_take_form,a_take_name_length,a_take_name,dG,e_take_version,e_take_how_many_ways,e_take_ways,e_take_number,e_take_size,e_take_form,e_take_name_length,e_take_name⟩:=T.j4
  obtain ⟨a_take_kind,a_take_update,a_take_table,a_take_colours,a_take_cut_length,a_take_cut_text,dM,e_take_kind,e_take_update,e_take_table,e_take_colours,e_take_cut_length,e_take_cut_text⟩:=T.kq
  obtain ⟨a_take_rectangle,a_take_pixels,a_take_source,a_take_how_many_parts,a_take_ground,a_take_part,dR,e_take_rectangle,e_take_pixels,e_take_source,e_take_how_many_parts,e_take_ground,e_take_part⟩:=T.jn
  obtain ⟨a_take_tile,a_take_tile_pixels,a_take_tile_colours,a_take_tile_part,dT,e_take_tile,e_take_tile_pixels,e_take_tile_colours,e_take_tile_part⟩:=T.mX
  refine ⟨_,ab (aI (i:=2) nd rfl (Or.inl rfl) (aq (pv 0) rfl))
   (ak (aX (wG (xu dG rfl (pv 2))) (ak (az (t_ dG rfl hr (pv 2) (fun _ _=>rfl) (aa (pv 0) (aa (pv 1) ah)))))
   (ak (aX (wG (xu dM rfl (pv 2))) (ak (az (t_ dM rfl hr (pv 2) (fun _ _=>rfl) (aa (pv 0) (aa (pv 1) ah)))))
   (ak (aX (wG (xu dR rfl (pv 2))) (ak (az (t_ dR rfl hr (pv 2) (fun _ _=>rfl) (aa (pv 0) (aa (pv 1) ah)))))
   (ak (az (t_ dT rfl hr (pv 2) (fun _ _=>rfl) (aa (pv 0) (aa (pv 1) ah))))))))))),?_⟩
  refine ⟨_,rfl,s,A.ag,dx,_,_,rfl,R.bK,T.af,T.dE,rfl,?_⟩
  rw [R.stage]
  cases m
  case version=>
   exact ⟨_,rfl,.inr "version",rfl,_,rfl,cZ (aO (ks:=dm) (i:=0) rfl (by decide +kernel) rfl) ⟨_,rfl,.inr "version",_,rfl,aO (ks:=dm) (i:=0) rfl (by decide +kernel) rfl,_,_,rfl,(qu T).def_ e_take_version (by decide),_,rfl,_,rfl,s,dx,wd,x,ws,v,_,M,rfl,rfl,ti,k⟩⟩
  case howMany=>
   exact ⟨_,rfl,.inr "how many ways",rfl,_,rfl,cZ (aO (ks:=dm) (i:=1) rfl (by decide +kernel) rfl) ⟨_,rfl,.inr "how many ways",_,rfl,aO (ks:=dm) (i:=1) rfl (by decide +kernel) rfl,_,_,rfl,(lD T).def_ e_take_how_many_ways (by decide),_,rfl,_,rfl,s,dx,wd,x,ws,v,_,M,rfl,rfl,ti,k⟩⟩
  case ways=>
   exact ⟨_,rfl,.inr "ways",rfl,_,rfl,cZ (aO (ks:=dm) (i:=2) rfl (by decide +kernel) rfl) ⟨_,rfl,.inr "ways",_,rfl,aO (ks:=dm) (i:=2) rfl (by decide +kernel) rfl,_,_,rfl,(uA T).def_ e_take_ways (by decide),_,rfl,_,rfl,s,dx,wd,x,ws,v,_,M,rfl,⟨_,rfl⟩,ti,k⟩⟩
  case number=>
   exact ⟨_,rfl,.inr "number",rfl,_,rfl,cZ (aO (ks:=dm) (i:=3) rfl (by decide +kernel) rfl) ⟨_,rfl,.inr "number",_,rfl,aO (ks:=dm) (i:=3) rfl (by decide +kernel) rfl,_,_,rfl,(rR T).def_ e_take_number (by decide),_,rfl,_,rfl,s,dx,wd,x,ws,v,_,M,rfl,rfl,ti,k⟩⟩
  case size=>
   exact ⟨_,rfl,.inr "size",rfl,_,rfl,cZ (aO (ks:=dm) (i:=4) rfl (by decide +kernel) rfl) ⟨_,rfl,.inr "size",_,rfl,aO (ks:=dm) (i:=4) rfl (by decide +kernel) rfl,_,_,rfl,(uB T).def_ e_take_size (by decide),_,rfl,_,rfl,s,dx,wd,x,ws,v,_,M,rfl,rfl,ti,k⟩⟩
  case form=>
   exact ⟨_,rfl,.inr "form",rfl,_,rfl,cZ (aO (ks:=dm) (i:=5) rfl (by decide +kernel) rfl) ⟨_,rfl,.inr "form",_,rfl,aO (ks:=dm) (i:=5) rfl (by decide +kernel) rfl,_,_,rfl,(uC T).def_ e_take_form (by decide),_,rfl,_,rfl,s,dx,wd,x,ws,v,_,M,rfl,⟨_,_,rfl⟩,ti,k⟩⟩
  case nameLen=>
   exact ⟨_,rfl,.inr "name length",rfl,_,rfl,cZ (aO (ks:=dm) (i:=6) rfl (by decide +kernel) rfl) ⟨_,rfl,.inr "name length",_,rfl,aO (ks:=dm) (i:=6) rfl (by decide +kernel) rfl,_,_,rfl,(mO T).def_ e_take_name_length (by decide),_,rfl,_,rfl,s,dx,wd,x,ws,v,_,M,rfl,⟨_,_,_,rfl⟩,ti,k⟩⟩
  case name=>
   exact ⟨_,rfl,.inr "name",rfl,_,rfl,cZ (aO (ks:=dm) (i:=7) rfl (by decide +kernel) rfl) ⟨_,rfl,.inr "name",_,rfl,aO (ks:=dm) (i:=7) rfl (by decide +kernel) rfl,_,_,rfl,(uE T).def_ e_take_name (by decide),_,rfl,_,rfl,s,dx,wd,x,ws,v,_,M,rfl,⟨_,_,_,_,rfl⟩,ti,k⟩⟩
  case kind=>
   refine ⟨_,rfl,.inr "kind",rfl,_,rfl,bN (aV (ks:=dm) rfl (by decide +kernel)) ?_⟩
   exact ⟨_,rfl,.inr "kind",rfl,_,rfl,cZ (aO (ks:=fR) (i:=0) rfl (by decide +kernel) rfl) ⟨_,rfl,.inr "kind",_,rfl,aO (ks:=fR) (i:=0) rfl (by decide +kernel) rfl,_,_,rfl,(uF T).def_ e_take_kind (by decide),_,rfl,_,rfl,s,dx,wd,x,ws,v,_,M,rfl,rfl,ti,k⟩⟩
  case update=>
   refine ⟨_,rfl,.inr "update",rfl,_,rfl,bN (aV (ks:=dm) rfl (by decide +kernel)) ?_⟩
   exact ⟨_,rfl,.inr "update",rfl,_,rfl,cZ (aO (ks:=fR) (i:=1) rfl (by decide +kernel) rfl) ⟨_,rfl,.inr "update",_,rfl,aO (ks:=fR) (i:=1) rfl (by decide +kernel) rfl,_,_,rfl,(rS T).def_ e_take_update (by decide),_,rfl,_,rfl,s,dx,wd,x,ws,v,_,M,rfl,rfl,ti,k⟩⟩
  case table=>
   refine ⟨_,rfl,.inr "table",rfl,_,rfl,bN (aV (ks:=dm) rfl (by decide +kernel)) ?_⟩
   exact ⟨_,rfl,.inr "table",rfl,_,rfl,cZ (aO (ks:=fR) (i:=2) rfl (by decide +kernel) rfl) ⟨_,rfl,.inr "table",_,rfl,aO (ks:=fR) (i:=2) rfl (by decide +kernel) rfl,_,_,rfl,(sL T).def_ e_take_table (by decide),_,rfl,_,rfl,s,dx,wd,x,ws,v,_,M,rfl,rfl,ti,k⟩⟩
  case colours=>
   refine ⟨_,rfl,.inr "colours",rfl,_,rfl,bN (aV (ks:=dm) rfl (by decide +kernel)) ?_⟩
   exact ⟨_,rfl,.inr "colours",rfl,_,rfl,cZ (aO (ks:=fR) (i:=3) rfl (by decide +kernel) rfl) ⟨_,rfl,.inr "colours",_,rfl,aO (ks:=fR) (i:=3) rfl (by decide +kernel) rfl,_,_,rfl,(qv T).def_ e_take_colours (by decide),_,rfl,_,rfl,s,dx,wd,x,ws,v,_,M,rfl,⟨_,_,rfl⟩,ti,k⟩⟩
  case cutLen=>
   refine ⟨_,rfl,.inr "cut length",rfl,_,rfl,bN (aV (ks:=dm) rfl (by decide +kernel)) ?_⟩
   exact ⟨_,rfl,.inr "cut length",rfl,_,rfl,cZ (aO (ks:=fR) (i:=4) rfl (by decide +kernel) rfl) ⟨_,rfl,.inr "cut length",_,rfl,aO (ks:=fR) (i:=4) rfl (by decide +kernel) rfl,_,_,rfl,(nG T).def_ e_take_cut_length (by decide),_,rfl,_,rfl,s,dx,wd,x,ws,v,_,M,rfl,rfl,ti,k⟩⟩
  case cutText=>
   refine ⟨_,rfl,.inr "cut text",rfl,_,rfl,bN (aV (ks:=dm) rfl (by decide +kernel)) ?_⟩
   exact ⟨_,rfl,.inr "cut text",rfl,_,rfl,cZ (aO (ks:=fR) (i:=5) rfl (by decide +kernel) rfl) ⟨_,rfl,.inr "cut text",_,rfl,aO (ks:=fR) (i:=5) rfl (by decide +kernel) rfl,_,_,rfl,(pL T).def_ e_take_cut_text (by decide),_,rfl,_,rfl,s,dx,wd,x,ws,v,_,M,rfl,⟨_,rfl⟩,ti,k⟩⟩
  case rect=>
   refine ⟨_,rfl,.inr "rectangle",rfl,_,rfl,bN (aV (ks:=dm) rfl (by decide +kernel)) ?_⟩
   refine ⟨_,rfl,.inr "rectangle",rfl,_,rfl,bN (aV (ks:=fR) rfl (by decide +kernel)) ?_⟩
   exact ⟨_,rfl,.inr "rectangle",rfl,_,rfl,cZ (aO (ks:=iD) (i:=0) rfl (by decide +kernel) rfl) ⟨_,rfl,.inr "rectangle",_,rfl,aO (ks:=iD) (i:=0) rfl (by decide +kernel) rfl,_,_,rfl,(oY T).def_ e_take_rectangle (by decide),_,rfl,_,rfl,s,dx,wd,x,ws,v,_,M,rfl,rfl,ti,k⟩⟩
  case pixels=>
   refine ⟨_,rfl,.inr "pixels",rfl,_,rfl,bN (aV (ks:=dm) rfl (by decide +kernel)) ?_⟩
   refine ⟨_,rfl,.inr "pixels",rfl,_,rfl,bN (aV (ks:=fR) rfl (by decide +kernel)) ?_⟩
   exact ⟨_,rfl,.inr "pixels",rfl,_,rfl,cZ (aO (ks:=iD) (i:=1) rfl (by decide +kernel) rfl) ⟨_,rfl,.inr "pixels",_,rfl,aO (ks:=iD) (i:=1) rfl (by decide +kernel) rfl,_,_,rfl,(rV T).def_ e_take_pixels (by decide),_,rfl,_,rfl,s,dx,wd,x,ws,v,_,M,rfl,⟨_,rfl⟩,ti,k⟩⟩
  case source=>
   refine ⟨_,rfl,.inr "source",rfl,_,rfl,bN (aV (ks:=dm) rfl (by decide +kernel)) ?_⟩
   refine ⟨_,rfl,.inr "source",rfl,_,rfl,bN (aV (ks:=fR) rfl (by decide +kernel)) ?_⟩
   exact ⟨_,rfl,.inr "source",rfl,_,rfl,cZ (aO (ks:=iD) (i:=2) rfl (by decide +kernel) rfl) ⟨_,rfl,.inr "source",_,rfl,aO (ks:=iD) (i:=2) rfl (by decide +kernel) rfl,_,_,rfl,(rW T).def_ e_take_source (by decide),_,rfl,_,rfl,s,dx,wd,x,ws,v,_,M,rfl,⟨_,rfl⟩,ti,k⟩⟩
  case howManyParts=>
   refine ⟨_,rfl,.inr "how many parts",rfl,_,rfl,bN (aV (ks:=dm) rfl (by decide +kernel)) ?_⟩
   refine ⟨_,rfl,.inr "how many parts",rfl,_,rfl,bN (aV (ks:=fR) rfl (by decide +kernel)) ?_⟩
   exact ⟨_,rfl,.inr "how many parts",rfl,_,rfl,cZ (aO (ks:=iD) (i:=3) rfl (by decide +kernel) rfl) ⟨_,rfl,.inr "how many parts",_,rfl,aO (ks:=iD) (i:=3) rfl (by decide +kernel) rfl,_,_,rfl,(lg T).def_ e_take_how_many_parts (by decide),_,rfl,_,rfl,s,dx,wd,x,ws,v,_,M,rfl,⟨_,_,rfl⟩,ti,k⟩⟩
  case ground=>
   refine ⟨_,rfl,.inr "ground",rfl,_,rfl,bN (aV (ks:=dm) rfl (by decide +kernel)) ?_⟩
   refine ⟨_,rfl,.inr "ground",rfl,_,rfl,bN (aV (ks:=fR) rfl (by decide +kernel)) ?_⟩
   exact ⟨_,rfl,.inr "ground",rfl,_,rfl,cZ (aO (ks:=iD) (i:=4) rfl (by decide +kernel) rfl) ⟨_,rfl,.inr "ground",_,rfl,aO (ks:=iD) (i:=4) rfl (by decide +kernel) rfl,_,_,rfl,(rX T).def_ e_take_ground (by decide),_,rfl,_,rfl,s,dx,wd,x,ws,v,_,M,rfl,⟨_,_,_,rfl⟩,ti,k⟩⟩
  case part=>
   refine ⟨_,rfl,.inr "part",rfl,_,rfl,bN (aV (ks:=dm) rfl (by decide +kernel)) ?_⟩
   refine ⟨_,rfl,.inr "part",rfl,_,rfl,bN (aV (ks:=fR) rfl (by decide +kernel)) ?_⟩
   exact ⟨_,rfl,.inr "part",rfl,_,rfl,cZ (aO (ks:=iD) (i:=5) rfl (by decide +kernel) rfl) ⟨_,rfl,.inr "part",_,rfl,aO (ks:=iD) (i:=5) rfl (by decide +kernel) rfl,_,_,rfl,(uI T).def_ e_take_part (by decide),_,rfl,_,rfl,s,dx,wd,x,ws,v,_,M,rfl,⟨_,_,_,_,rfl⟩,ti,k⟩⟩
  case tile=>
   refine ⟨_,rfl,.inr "tile",rfl,_,rfl,bN (aV (ks:=dm) rfl (by decide +kernel)) ?_⟩
   refine ⟨_,rfl,.inr "tile",rfl,_,rfl,bN (aV (ks:=fR) rfl (by decide +kernel)) ?_⟩
   refine ⟨_,rfl,.inr "tile",rfl,_,rfl,bN (aV (ks:=iD) rfl (by decide +kernel)) ?_⟩
   exact ⟨_,rfl,.inr "tile",_,rfl,aO (ks:=yW) (i:=0) rfl (by decide +kernel) rfl,_,_,rfl,(uL T).def_ e_take_tile (by decide),_,rfl,_,rfl,s,dx,wd,x,ws,v,_,M,rfl,⟨_,_,_,_,_,_,rfl⟩,ti,k⟩
  case tilePixels=>
   refine ⟨_,rfl,.inr "tile pixels",rfl,_,rfl,bN (aV (ks:=dm) rfl (by decide +kernel)) ?_⟩
   refine ⟨_,rfl,.inr "tile pixels",rfl,_,rfl,bN (aV (ks:=fR) rfl (by decide +kernel)) ?_⟩
   refine ⟨_,rfl,.inr "tile pixels",rfl,_,rfl,bN (aV (ks:=iD) rfl (by decide +kernel)) ?_⟩
   exact ⟨_,rfl,.inr "tile pixels",_,rfl,aO (ks:=yW) (i:=1) rfl (by decide +kernel) rfl,_,_,rfl,(mP T).def_ e_take_tile_pixels (by decide),_,rfl,_,rfl,s,dx,wd,x,ws,v,_,M,rfl,⟨_,_,_,_,_,_,rfl⟩,ti,k⟩
  case tileColours=>
   refine ⟨_,rfl,.inr "tile colours",rfl,_,rfl,bN (aV (ks:=dm) rfl (by decide +kernel)) ?_⟩
   refine ⟨_,rfl,.inr "tile colours",rfl,_,rfl,bN (aV (ks:=fR) rfl (by decide +kernel)) ?_⟩
   refine ⟨_,rfl,.inr "tile colours",rfl,_,rfl,bN (aV (ks:=iD) rfl (by decide +kernel)) ?_⟩
   exact ⟨_,rfl,.inr "tile colours",_,rfl,aO (ks:=yW) (i:=2) rfl (by decide +kernel) rfl,_,_,rfl,(mi T).def_ e_take_tile_colours (by decide),_,rfl,_,rfl,s,dx,wd,x,ws,v,_,M,rfl,⟨_,_,_,_,_,_,_,rfl⟩,ti,k⟩
  case tilePart=>
   refine ⟨_,rfl,.inr "tile part",rfl,_,rfl,bN (aV (ks:=dm) rfl (by decide +kernel)) ?_⟩
   refine ⟨_,rfl,.inr "tile part",rfl,_,rfl,bN (aV (ks:=fR) rfl (by decide +kernel)) ?_⟩
   refine ⟨_,rfl,.inr "tile part",rfl,_,rfl,bN (aV (ks:=iD) rfl (by decide +kernel)) ?_⟩
   exact ⟨_,rfl,.inr "tile part",_,rfl,aO (ks:=yW) (i:=3) rfl (by decide +kernel) rfl,_,_,rfl,(oZ T).def_ e_take_tile_part (by decide),_,rfl,_,rfl,s,dx,wd,x,ws,v,_,M,rfl,⟨_,_,_,_,_,_,_,_,rfl⟩,ti,k⟩
end
theorem Core.Ai {A:bI} {H:Hp} {M:List Addr} {s:Addr} {k:SK} {v u:Viewer} (C:Core A H M s k v) (h:(u.out,u.screen,u.cut,u.name,u.bells,u.updates,u.left)=(v.out,v.screen,v.cut,v.name,v.bells,v.updates,v.left)):Core A H M s k u:=by
 simp only [Prod.mk.injEq] at h
 obtain ⟨h1,h2,h3,h4,h5,h6,h7⟩:=h
 exact ⟨by rw [h1];exact C.wait,by rw [h1];exact C.gN,by rw [h2];exact C.cols,by rw [h2];exact C.rows,by rw [h2];exact C.side,by rw [h3];exact C.cut,by rw [h4];exact C.name,by rw [h5];exact C.bells,by rw [h6];exact C.jt,by rw [h7];exact C.left,by rw [h2];exact C.pic,by rw [h2];exact C.tab,by rw [h2];exact C.form,C.nd,C.mem⟩
theorem dB.yy {A:bI} {H:Hp} {M:List Addr} {s:Addr} {x:SF} {v:Viewer} {m:Mode} (h:dB A H M s x v m) (i:List Nat):dB A H M s x { v with input:=i } m:=by
 cases m
 case tile=>
  obtain ⟨rc,dr,tl,dt,y,z,rs,Pic,T,q⟩:=h
  exact ⟨rc,dr,tl,dt,y,z,rs,Pic,⟨T.eC,T.rect,T.ins,T.bk,T.fr,T.tile,T.lst,T.rows,T.band,T.hi,T.hj⟩,q⟩
 case tilePixels=>
  obtain ⟨rc,dr,tl,dt,y,z,rs,Pic,T,q⟩:=h
  exact ⟨rc,dr,tl,dt,y,z,rs,Pic,⟨T.eC,T.rect,T.ins,T.bk,T.fr,T.tile,T.lst,T.rows,T.band,T.hi,T.hj⟩,q⟩
 case tileColours=>
  obtain ⟨rc,dr,tl,dt,y,z,rs,Pic,T,q⟩:=h
  exact ⟨rc,dr,tl,dt,y,z,rs,Pic,⟨T.eC,T.rect,T.ins,T.bk,T.fr,T.tile,T.lst,T.rows,T.band,T.hi,T.hj⟩,q⟩
 case tilePart=>
  obtain ⟨rc,dr,tl,dt,y,z,rs,Pic,T,q⟩:=h
  exact ⟨rc,dr,tl,dt,y,z,rs,Pic,⟨T.eC,T.rect,T.ins,T.bk,T.fr,T.tile,T.lst,T.rows,T.band,T.hi,T.hj⟩,q⟩
 all_goals exact h
theorem Rep.yy {A:bI} {H:Hp} {s dx:Addr} {x:SF} {v:Viewer} {m:Mode} {M:List Addr} (R:Rep A H s dx x v m M) (i:List Nat):Rep A H s dx x { v with input:=i } m M:=
 ⟨R.bK,R.core.Ai rfl,R.stage,R.need.trans (Mir.A7 v i m).symm,R.wrong,R.cu,R.nd,R.mode.yy i,R.run,R.lF,R.lG⟩
theorem ku.keeps {H H':Hp} {M:List Addr} {a:Addr} {rs:List Addr} {P:List (List Nat)} (h:ku H M a rs P) (e:Ext H M H' M) (k:∀o,H a=some o→H' a=some o):ku H' M a rs P:=⟨k _ h.lst,h.rows.ext e,h.mem⟩
theorem bD.keeps {A:bI} {H H':Hp} {M:List Addr} {s:Addr} {x:SF} {v:Viewer} {r:Rect} {i j back front:Nat} {s':Screen} {more:List Addr} {rc dr tl dt:Addr} {y:RF} {z:TF} {rs:List Addr} {Pic:List (List Nat)}
  (R:bD A H M s x v r i j back front s' more rc dr tl dt y z rs Pic) (nd:M.Nodup) (k:∀b∈M,b∉M0 s x.k→∀o,H b=some o→H' b=some o):bD A H' M s x v r i j back front s' more rc dr tl dt y z rs Pic:=by
 have N:=R.ne nd
 have hm:∀b,b∈rc :: y.aA :: tl :: (more++rs)→b∈M:=fun b hb=>by rw [R.eC];exact List.mem_append_right _ hb
 refine R.to R.eC (k _ (hm _ (by simp)) N.D1 _ R.rect.at_) (k _ (hm _ (by simp)) N.CY _ R.tile.at_) ?_ rfl rfl rfl R.bk R.fr
 rintro b (rfl | hb) o e
 ·exact k _ (hm _ (by simp)) N.Fc _ e
 ·exact k _ (hm _ (by simp [hb])) (N.DZ b hb) _ e
theorem dB.keeps {A:bI} {H H':Hp} {M:List Addr} {s:Addr} {x x':SF} {v:Viewer} {m:Mode} (h:dB A H M s x v m) (nd:M.Nodup) (e:Ext H M H' M) (k:∀b∈M,b∉M0 s x.k→∀o,H b=some o→H' b=some o)
  (hx:(x'.k,x'.dX,x'.eN,x'.first,x'.b6)=(x.k,x.dX,x.eN,x.first,x.b6)):dB A H' M s x' v m:=by
 obtain ⟨stage,need,pending,wrong,bE,dX,eN,first,b6,kk⟩:=x
 obtain ⟨stage',need',pending',wrong',greeted',farc',farr',first',rectangle',kk'⟩:=x'
 simp only [Prod.mk.injEq] at hx
 obtain ⟨rfl,rfl,rfl,rfl,rfl⟩:=hx
 have rect:∀{rc dr y r more},M=M0 s kk'++rc :: more→dY A H ⟨stage,need,pending,wrong,bE,farc',farr',first',rectangle',kk'⟩ rc dr y r→dY A H' ⟨stage',need',pending',wrong',greeted',farc',farr',first',rectangle',kk'⟩ rc dr y r:=fun hM q=>
  ⟨q.ref,k _ (by rw [hM];simp) (k_ (by rw [← hM];exact nd)) _ q.at_,q.l,q.t,q.w,q.h⟩
 have tiles:∀{r i j back front s' more rc dr tl dt y z rs Pic},bD A H M s ⟨stage,need,pending,wrong,bE,farc',farr',first',rectangle',kk'⟩ v r i j back front s' more rc dr tl dt y z rs Pic→bD A H' M s ⟨stage',need',pending',wrong',greeted',farc',farr',first',rectangle',kk'⟩ v r i j back front s' more rc dr tl dt y z rs Pic:=fun q=>by
  have q2:=q.keeps nd k
  exact ⟨q2.eC,⟨q2.rect.ref,q2.rect.at_,q2.rect.l,q2.rect.t,q2.rect.w,q2.rect.h⟩,q2.ins,q2.bk,q2.fr,q2.tile,q2.lst,q2.rows,q2.band,q2.hi,q2.hj⟩
 cases m
 case nameLen=>
  obtain ⟨h1,h2,h3,h4,h5,h6,fa,bits,f1,f2⟩:=h
  exact ⟨h1,h2,h3,h4,h5,h6,fa,bits,f1,f2.ext e⟩
 case name=>
  obtain ⟨h1,h2,h3,h4,h5,h6,h7,fa,bits,f1,f2⟩:=h
  exact ⟨h1,h2,h3,h4,h5,h6,h7,fa,bits,f1,f2.ext e⟩
 case pixels=>
  obtain ⟨rc,dr,y,h1,h2,h3⟩:=h
  exact ⟨rc,dr,y,h1,rect h1 h2,h3⟩
 case source=>
  obtain ⟨rc,dr,y,h1,h2,h3⟩:=h
  exact ⟨rc,dr,y,h1,rect h1 h2,h3⟩
 case howManyParts=>
  obtain ⟨rc,dr,y,h1,h2,h3⟩:=h
  exact ⟨rc,dr,y,h1,rect h1 h2,h3⟩
 case ground=>
  obtain ⟨rc,dr,y,h1,h2,h3⟩:=h
  exact ⟨rc,dr,y,h1,rect h1 h2,h3⟩
 case part=>
  obtain ⟨rc,dr,y,rs,Pic,h1,h2,h3,h4,h5,h6,h7,h8⟩:=h
  refine ⟨rc,dr,y,rs,Pic,h1,rect h1 h2,h3,h4,h5,h6,h7.keeps e (k _ h7.mem fun hm=>?_),h8⟩
  rw [h1] at nd
  exact (List.nodup_append.mp nd).2.2 _ hm _ (by simp) rfl
 case tile=>
  obtain ⟨rc,dr,tl,dt,y,z,rs,Pic,T,q⟩:=h
  exact ⟨rc,dr,tl,dt,y,z,rs,Pic,tiles T,q⟩
 case tilePixels=>
  obtain ⟨rc,dr,tl,dt,y,z,rs,Pic,T,q⟩:=h
  exact ⟨rc,dr,tl,dt,y,z,rs,Pic,tiles T,q⟩
 case tileColours=>
  obtain ⟨rc,dr,tl,dt,y,z,rs,Pic,T,q⟩:=h
  exact ⟨rc,dr,tl,dt,y,z,rs,Pic,tiles T,q⟩
 case tilePart=>
  obtain ⟨rc,dr,tl,dt,y,z,rs,Pic,T,q1,q2,q3,trs,TP,B,p,q⟩:=h
  exact ⟨rc,dr,tl,dt,y,z,rs,Pic,tiles T,q1,q2,q3,trs,TP,B,p.keeps e (k _ p.mem ((T.ne nd).Gs _ (by simp))),q⟩
 all_goals exact h
theorem Rep.same {A:bI} {H H':Hp} {s dx:Addr} {x:SF} {v:Viewer} {m:Mode} {M:List Addr} (R:Rep A H s dx x v m M) (e:bX H H'):Rep A H' s dx x v m M:=
 ⟨e _ _ R.bK,R.core.same e,R.stage,R.need,R.wrong,R.cu,R.nd,R.mode.keeps R.nd (.of_same e) (fun b _ _ o q=>e b o q) rfl,R.run,R.lF,R.lG⟩
theorem Rep.pend {A:bI} {H:Hp} {s dx:Addr} {x:SF} {v:Viewer} {m:Mode} {M:List Addr} (R:Rep A H s dx x v m M) (q:Addr):Rep A (upd H s (.ins A.ag dx (SF.fs { x with pending:=q }))) s dx { x with pending:=q } v m M:=
 ⟨ae,R.core.j8,R.stage,R.need,R.wrong,R.cu,R.nd,R.mode.keeps R.nd (.upd R.core.eo) (fun b _ nb o e=>by rw [aj (fun z=>nb (by rw [z];simp [M0]))];exact e) rfl,R.run,R.lF,R.lG⟩
theorem bD.there {A:bI} {H:Hp} {M:List Addr} {s:Addr} {x:SF} {v:Viewer} {r:Rect} {i j back front:Nat} {s':Screen} {more:List Addr} {rc dr tl dt:Addr} {y:RF} {z:TF} {rs:List Addr} {Pic:List (List Nat)}
  (R:bD A H M s x v r i j back front s' more rc dr tl dt y z rs Pic) (h0:∀b∈M0 s x.k,∃o,H b=some o) (hm:∀b∈more,∃o,H b=some o):∀b∈M,∃o,H b=some o:=fun b hb=>by
 rw [R.eC] at hb
 simp only [List.mem_append,List.mem_cons] at hb
 rcases hb with h | rfl | rfl | rfl | h | h
 ·exact h0 b (by simpa [M0] using h)
 ·exact ⟨_,R.rect.at_⟩
 ·exact ⟨_,R.lst⟩
 ·exact ⟨_,R.tile.at_⟩
 ·exact hm b h
 ·exact R.rows.there h
theorem Rep.there {A:bI} {H:Hp} {s dx:Addr} {x:SF} {v:Viewer} {m:Mode} {M:List Addr} (R:Rep A H s dx x v m M):∀b∈M,∃o,H b=some o:=by
 have h0:=R.core.jr R.bK
 have one:∀rc:Addr,M=M0 s x.k++[rc]→(∃o,H rc=some o)→∀b∈M,∃o,H b=some o:=fun rc hM hr b hb=>by
  rw [hM] at hb
  rcases List.mem_append.mp hb with h | h
  ·exact h0 b h
  ·rw [List.mem_singleton.mp h];exact hr
 have hm:=R.mode
 cases m
 case pixels=>
  obtain ⟨rc,dr,y,h1,h2,h3⟩:=hm
  exact one rc h1 ⟨_,h2.at_⟩
 case source=>
  obtain ⟨rc,dr,y,h1,h2,h3⟩:=hm
  exact one rc h1 ⟨_,h2.at_⟩
 case howManyParts=>
  obtain ⟨rc,dr,y,h1,h2,h3⟩:=hm
  exact one rc h1 ⟨_,h2.at_⟩
 case ground=>
  obtain ⟨rc,dr,y,h1,h2,h3⟩:=hm
  exact one rc h1 ⟨_,h2.at_⟩
 case part=>
  obtain ⟨rc,dr,y,rs,Pic,h1,h2,h3,h4,h5,h6,h7,h8⟩:=hm
  intro b hb
  rw [h1] at hb
  rcases List.mem_append.mp hb with h | h
  ·exact h0 b h
  ·simp only [List.mem_cons,List.not_mem_nil,or_false] at h
   rcases h with rfl | rfl
   ·exact ⟨_,h2.at_⟩
   ·exact ⟨_,h7.lst⟩
 case tile=>
  obtain ⟨rc,dr,tl,dt,y,z,rs,Pic,T,q⟩:=hm
  exact T.there h0 (by simp)
 case tilePixels=>
  obtain ⟨rc,dr,tl,dt,y,z,rs,Pic,T,q⟩:=hm
  exact T.there h0 (by simp)
 case tileColours=>
  obtain ⟨rc,dr,tl,dt,y,z,rs,Pic,T,q⟩:=hm
  exact T.there h0 (by simp)
 case tilePart=>
  obtain ⟨rc,dr,tl,dt,y,z,rs,Pic,T,q1,q2,q3,trs,TP,B,p,q⟩:=hm
  exact T.there h0 (fun b hb=>by rw [List.mem_singleton.mp hb];exact ⟨_,p.lst⟩)
 case form=>rw [hm.1];exact h0
 case nameLen=>rw [hm.1];exact h0
 case name=>rw [hm.1];exact h0
 case colours=>rw [hm.1];exact h0
 case cutText=>rw [hm.1];exact h0
 all_goals (rw [show M=M0 s x.k from hm];exact h0)
theorem Rep.d9 {A:bI} {H:Hp} {s dx:Addr} {x:SF} {v:Viewer} {m:Mode} {M:List Addr} (R:Rep A H s dx x v m M) {b:Addr} (h:H b=none):b∉M:=fun hb=>by
 obtain ⟨o,e⟩:=R.there b hb
 rw [e] at h
 cases h
theorem Rep.zero {A:bI} {H:Hp} {s dx:Addr} {x:SF} {v:Viewer} {m m':Mode} {M:List Addr} {b:List Nat} (R:Rep A H s dx x v m M) (hw:Mir.WF v m) (h0:Mir.need v m=0) (h:Mir.step v m b=.cont m'):0 < Mir.need v m':=by
 by_cases c:dC v.stage=true
 ·obtain ⟨fa,bits,f1,f2,f3,f4⟩:=R.core.form (R.run.mp c)
  refine Mir.zU hw ?_ h0 h
  rcases f3 with q | q | q <;> omega
 ·have e:=R.lF
  cases m <;> simp only [Mir.step] at h <;> (try (simp only [Mir.need] at h0;omega)) <;> (try (exact absurd (by rw [e];rfl) c))
  ·split at h <;> cases h
  ·cases h
def VI (A:bI) (H:Hp) (s dx:Addr) (x:SF) (v:Viewer) (b:List Nat) (M:List Addr):Prop:=
 (∃k,v.stage=.wrong k∧k≠0∧en A H s dx x∧Core A H M s x.k v∧x.wrong=k)∨(∃m,Rep A H s dx x v m M∧Mir.mQ v m b∧Fz H M x.pending (.lst (nI b))∧∀c∈b,c < 256)
section
variable {P:Program} {w:World} {K:PySem.W.Frag} {mg:Str→Option Value} {base:Heap} {A:bI}
def D3 (A:bI):Sp:=fun vs H Q _=>∃s dx dt x v b d M,vs=[.ref s,.ref dt]∧VI A H s dx x v b M∧H dt=some (.lst (nI d))∧(∀c∈d,c < 256)∧b.length + d.length≤16777216∧
 ∀H' x' M' b',VI A H' s dx x' (Sn44.come v d) b' M'→b'.length≤b.length + d.length→Ext H M H' M'→Q .cD H'
def Turn (A:bI) (H0:Hp) (M0:List Addr) (s dx dt pd:Addr) (full:List Nat) (goal:Viewer) (n:Nat) (σ:L2.St) (H:Hp):Prop:=
 ∃(x:SF) (M:List Addr) (a:Nat) (u:Option V),σ=[some (.ref s),some (.ref dt),some (.ref pd),some (.int (a:Int)),u]∧a≤full.length∧Fz H M pd (.lst (nI full))∧Ext H0 M0 H M∧
  ((∃v m fu,Rep A H s dx x v m M∧Mir.iz v m (full.drop a) fu goal∧n=2 * (full.length - a) + if x.need=0 then 1 else 0)∨(∃v k,E8 A H s dx x v k M∧goal={ v with stage:=.wrong k,input:=[] }))
theorem Cy (T:Txt P w K mg A):FnAt P w K mg base "feed" 11 ["session","data"] (D3 A):=by
 refine T.uo.at_ (fun _ _ _ _ _ _ us hl=>match us,hl with | [_,_],_=>rfl) fun f fd F=>?_
 refine F.ok yE (fun vs H Q E h=>?_) (fun cdv AA outer sh H vs Q E hr h=>?_)
 ·obtain ⟨s,dx,dt,x,v,b,d,M,rfl,_⟩:=h
  rfl
 ·obtain ⟨s,dx,dt,x,v,b,d,M,rfl,hv,hd,hdb,hlen,k⟩:=h
  have nd:=yE.nd
  refine ⟨_,ab (aX (aQ nV (aq (pv 0) rfl) ai (aT _)) (ak d5) aP)
   (ab (aI (i:=2) nd rfl (Or.inl rfl) (aH je (aq (pv 0) rfl) (pv 1)))
   (ab (aI (i:=3) nd rfl (Or.inl rfl) ai)
   (ab (u9 PassesOwn.never (PW.pt (o7 (aQ d_ (aq (pv 0) rfl) ai (aT _)) (nQ (aQ AM (aH nj (bZ bj (by rfl) T.fQ PySem.boot_len (aa (pv 2) ah)) (pv 3)) (aq (pv 0) rfl) (aT _)))))
    (ab (aI (i:=4) nd rfl (Or.inl rfl) (ee fC (pv 2) (dj (pv 3)) (dj (aH bA (pv 3) (aq (pv 0) rfl)))))
    (ab (m_ (i:=3) nd rfl (Or.inl rfl) (aq (pv 0) rfl) nh)
    (ak (az (aK (sO T) hr rfl (aa (pv 0) (aa (pv 4) ah))))))))
   (ak (aJ (pv 0) (ee fC (pv 2) (dj (pv 3)) kF) rfl))))),?_⟩
  rcases hv with ⟨k0,hst,hk0,hs,C,hw⟩ | ⟨m,R,W,hp,hbb⟩
  ·refine ⟨_,rfl,s,A.ag,dx,_,_,rfl,hs,T.af,T.bL,rfl,rfl,_,rfl,?_⟩
   show if (!decide (V.int (x.wrong:Int)=V.int 0))=true then _ else _
   rw [mG,if_pos (by rw [hw];simpa using hk0)]
   refine k H x M b ?_ (Nat.le_add_right _ _) (.refl H M)
   rw [Mir.xo (by rw [hst];rfl)]
   exact .inl ⟨k0,hst,hk0,hs,C.Ai rfl,hw⟩
  ·refine ⟨_,rfl,s,A.ag,dx,_,_,rfl,R.bK,T.af,T.bL,rfl,rfl,_,rfl,?_⟩
   show if (!decide (V.int (x.wrong:Int)=V.int 0))=true then _ else _
   rw [mG,if_neg (by rw [R.wrong];decide)]
   refine ⟨_,rfl,s,A.ag,dx,_,_,rfl,R.bK,T.af,T.cy,rfl,_,rfl,x.pending,dt,_,_,rfl,rfl,hp.1,hd,by rw [aU,aU,sizeLine_eq];exact hlen,fun pd hpd=>?_⟩
   rw [← fU]
   have s1:=ay (o:=.lst (nI (b++d))) hpd
   have G:=W.come d
   have hnM:pd∉M:=R.d9 hpd
   have fb:∀c∈b++d,c < 256:=fun c hc=>(List.mem_append.mp hc).elim (hbb c) (hdb c)
   obtain ⟨full,hfull⟩:∃t,t=b++d:=⟨_,rfl⟩
   rw [← hfull] at s1 G fb ⊢
   have fl:full.length=b.length + d.length:=by rw [hfull,List.length_append]
   refine ⟨Turn A H M s dx dt pd full (Sn44.come v d),⟨_,x,M,0,none,rfl,Nat.zero_le _,⟨ae,hnM⟩,.of_same s1,.inl ⟨_,m,_,(R.same s1).yy _,by rw [List.drop_zero];exact G,rfl⟩⟩,?_⟩
   rintro n σ H1 ⟨x1,M1,a,u,rfl,ha,hpd1,e1,tn⟩
   rcases tn with ⟨v1,m1,fu,R1,G1,hn⟩ | ⟨v1,k1,R1,hg⟩
   ·refine ⟨_,rfl,s,A.ag,dx,_,_,rfl,R1.bK,T.af,T.bL,rfl,rfl,_,rfl,?_⟩
    rw [kx,R1.wrong,decide_eq_true rfl]
    refine cG ⟨_,rfl,pd,_,rfl,.inl (bV.of hpd1.1),_,rfl,_,_,rfl,rfl,_,rfl,s,A.ag,dx,_,_,rfl,R1.bK,T.af,T.cT,rfl,_,_,rfl,rfl,_,rfl,?_⟩
    show if decide ((x1.need:Int)≤((nI full).length:Int) - (a:Int))=true then _ else _
    rw [aU]
    by_cases c:Mir.need v1 m1≤(full.drop a).length
    ·rw [decide_eq_true (by rw [R1.need];rw [List.length_drop] at c;omega)]
     refine cG ⟨fun σ' H'=>∃n',n' < n∧Turn A H M s dx dt pd full (Sn44.come v d) n' σ' H',fun σ' H' h=>h,?_⟩
     refine ⟨_,rfl,_,rfl,_,rfl,_,rfl,_,rfl,s,A.ag,dx,_,_,rfl,R1.bK,T.af,T.cT,rfl,_,_,rfl,rfl,_,rfl,pd,_,rfl,bV.of hpd1.1,fun q hq=>?_⟩
     have ec:lA (nI full) (some (a:Int)) (some ((a:Int) + (x1.need:Int)))=nI ((full.drop a).take (Mir.need v1 m1)):=by rw [mw,iG,jy,R1.need]
     rw [show lA (nI full) (some (a:Int)) (some ((fun i j:Int=>i + j) (a:Int) (x1.need:Int)))=_ from ec]
     have s2:=ay (o:=.lst (nI ((full.drop a).take (Mir.need v1 m1)))) hq
     refine ⟨_,rfl,_,rfl,s,A.ag,dx,_,_,rfl,s2 _ _ R1.bK,T.af,T.cT,rfl,_,_,rfl,rfl,?_⟩
     rw [show ((fun i j:Int=>i + j) (a:Int) (x1.need:Int))=((a + Mir.need v1 m1:Nat):Int) by rw [R1.need];rfl]
     obtain ⟨cc,hc1,hc2⟩:=G1.reach
     rw [List.length_drop] at c
     have hwl:((full.drop a).take (Mir.need v1 m1)).length=Mir.need v1 m1:=by rw [List.length_take,List.length_drop];omega
     refine ⟨_,rfl,_,rfl,s,dx,q,x1,(full.drop a).take (Mir.need v1 m1),v1,m1,M1,rfl,trivial,⟨R1.same s2,⟨ae,R1.d9 hq⟩,hwl,fun z hz=>fb z (List.mem_of_mem_drop (List.mem_of_mem_take hz)),hc2.1⟩,fun H2 M2 rr e2=>?_⟩
     have E2:Ext H M H2 M2:=e1.trans ((Ext.of_same s2).trans e2)
     have hpd2:Fz H2 M2 pd (.lst (nI full)):=(hpd1.ext (.of_same s2)).ext e2
     have hle:Mir.need v1 m1≤(full.drop a).length:=by rw [List.length_drop];exact c
     have hdd:(full.drop a).drop (Mir.need v1 m1)=full.drop (a + Mir.need v1 m1):=by rw [List.drop_drop]
     have hxn:=R1.need
     cases hst:Mir.step v1 m1 ((full.drop a).take (Mir.need v1 m1)) with
     | cont m2=>
      rw [hst] at rr
      obtain ⟨x2,R2⟩:=rr
      have G2:=G1.cont hle hst
      rw [hdd] at G2
      refine ⟨_,?_,x2,M2,_,_,rfl,by omega,hpd2,E2,.inl ⟨v1,m2,fu,R2,G2,rfl⟩⟩
      have hx2:=R2.need
      by_cases z:Mir.need v1 m1=0
      ·have:=R1.zero hc2.1 z hst
       have e1:x1.need=0:=by omega
       have e2:¬ x2.need=0:=by omega
       rw [hn,if_pos e1,if_neg e2]
       omega
      ·have e1:¬ x1.need=0:=by omega
       rw [hn,if_neg e1]
       split <;> omega
     | done u1=>
      rw [hst] at rr
      obtain ⟨x2,R2⟩:=rr
      have hu:Mir.dJ u1.stage=false:=by rw [R2.lF];exact Bm
      obtain ⟨fu2,G2⟩:=G1.done hle hst hu
      rw [hdd] at G2
      refine ⟨_,?_,x2,M2,_,_,rfl,by omega,hpd2,E2,.inl ⟨_,_,fu2,R2.yy _,G2,rfl⟩⟩
      have hx2:=R2.need
      have:=Mir.rB u1
      have e2:¬ x2.need=0:=by omega
      rw [hn,if_neg e2]
      split <;> omega
     | bad k2=>
      rw [hst] at rr
      obtain ⟨x2,R2⟩:=rr
      refine ⟨0,?_,x2,M2,_,_,rfl,by omega,hpd2,E2,.inr ⟨v1,k2,R2,G1.bad hle hst⟩⟩
      rw [hn]
      split <;> omega
    ·rw [decide_eq_false (by rw [R1.need];rw [List.length_drop] at c;omega)]
     obtain ⟨hgv,hW⟩:=G1.EZ (by omega)
     refine cE ⟨_,rfl,_,rfl,_,rfl,pd,_,rfl,bV.of hpd1.1,fun q hq=>?_⟩
     rw [lV,iG]
     have s2:=ay (o:=.lst (nI (full.drop a))) hq
     refine ⟨_,rfl,s,A.ag,dx,_,rfl,s2 _ _ R1.bK,T.af,T.cy,by show 20 < 1000;decide,?_⟩
     rw [show bH "pending" (.ref q) x1.fs=SF.fs { x1 with pending:=q } from rfl]
     have nq:=R1.d9 hq
     have nqs:q≠s:=fun z=>nq (by rw [z];exact R1.core.eo)
     refine k _ { x1 with pending:=q } M1 (full.drop a) (.inr ⟨m1,?_,?_,⟨?_,nq⟩,fun c hc=>fb c (List.mem_of_mem_drop hc)⟩) (by rw [List.length_drop];omega) (e1.trans ((Ext.of_same s2).trans (.upd R1.core.eo)))
     ·rw [hgv]
      exact (R1.same s2).pend q
     ·rw [hgv]
      exact hW
     ·rw [aj nqs]
      exact ae
   ·refine ⟨_,rfl,s,A.ag,dx,_,_,rfl,R1.bK,T.af,T.bL,rfl,rfl,_,rfl,?_⟩
    rw [kx,R1.wrong,decide_eq_false R1.nz]
    refine cE (cE ⟨_,rfl,_,rfl,_,rfl,pd,_,rfl,bV.of hpd1.1,fun q hq=>?_⟩)
    rw [lV,iG]
    have s2:=ay (o:=.lst (nI (full.drop a))) hq
    refine ⟨_,rfl,s,A.ag,dx,_,rfl,s2 _ _ R1.bK,T.af,T.cy,by show 20 < 1000;decide,?_⟩
    rw [show bH "pending" (.ref q) x1.fs=SF.fs { x1 with pending:=q } from rfl]
    refine k _ { x1 with pending:=q } M1 (full.drop a) (.inl ⟨k1,by rw [hg],R1.nz,ae,?_,R1.wrong⟩) (by rw [List.length_drop];omega) (e1.trans ((Ext.of_same s2).trans (.upd R1.core.eo)))
    rw [hg]
    exact ((R1.core.same s2).j8).Ai rfl
end
theorem VI.yX {A:bI} {H:Hp} {s dx:Addr} {x:SF} {v:Viewer} {b:List Nat} {M:List Addr} (h:VI A H s dx x v b M):mI x=Sn44.codeOf v.stage:=by
 unfold mI
 rcases h with ⟨k,h1,h2,h3,h4,h5⟩ | ⟨m,R,W,hp,hb⟩
 ·rw [h5,if_pos h2,h1]
  rfl
 ·rw [R.wrong,if_neg (by decide),R.cu]
  have:=W.run
  cases e:v.stage <;> (rw [e] at this) <;> first | rfl | cases this
theorem VI.bK {A:bI} {H:Hp} {s dx:Addr} {x:SF} {v:Viewer} {b:List Nat} {M:List Addr} (h:VI A H s dx x v b M):en A H s dx x:=by
 rcases h with ⟨k,h1,h2,h3,h4,h5⟩ | ⟨m,R,W,hp,hb⟩
 ·exact h3
 ·exact R.bK
theorem VI.core {A:bI} {H:Hp} {s dx:Addr} {x:SF} {v:Viewer} {b:List Nat} {M:List Addr} (h:VI A H s dx x v b M):Core A H M s x.k v:=by
 rcases h with ⟨k,h1,h2,h3,h4,h5⟩ | ⟨m,R,W,hp,hb⟩
 ·exact h4
 ·exact R.core
theorem VI.same {A:bI} {H H':Hp} {s dx:Addr} {x:SF} {v:Viewer} {b:List Nat} {M:List Addr} (h:VI A H s dx x v b M) (e:bX H H'):VI A H' s dx x v b M:=by
 rcases h with ⟨k,h1,h2,h3,h4,h5⟩ | ⟨m,R,W,hp,hb⟩
 ·exact .inl ⟨k,h1,h2,e _ _ h3,h4.same e,h5⟩
 ·exact .inr ⟨m,R.same e,W,hp.ext (.of_same e),hb⟩
theorem dB.Ai {A:bI} {H:Hp} {M:List Addr} {s:Addr} {x:SF} {v u:Viewer} {m:Mode} (h:dB A H M s x v m) (e:u.screen=v.screen):dB A H M s x u m:=by
 obtain ⟨st,i,o,sc,nm,lf,bl,up,ct⟩:=v
 obtain ⟨st',i',o',sc',nm',lf',bl',up',ct'⟩:=u
 obtain rfl:sc'=sc:=e
 cases m
 case tile=>
  obtain ⟨rc,dr,tl,dt,y,z,rs,Pic,T,q⟩:=h
  exact ⟨rc,dr,tl,dt,y,z,rs,Pic,⟨T.eC,T.rect,T.ins,T.bk,T.fr,T.tile,T.lst,T.rows,T.band,T.hi,T.hj⟩,q⟩
 case tilePixels=>
  obtain ⟨rc,dr,tl,dt,y,z,rs,Pic,T,q⟩:=h
  exact ⟨rc,dr,tl,dt,y,z,rs,Pic,⟨T.eC,T.rect,T.ins,T.bk,T.fr,T.tile,T.lst,T.rows,T.band,T.hi,T.hj⟩,q⟩
 case tileColours=>
  obtain ⟨rc,dr,tl,dt,y,z,rs,Pic,T,q⟩:=h
  exact ⟨rc,dr,tl,dt,y,z,rs,Pic,⟨T.eC,T.rect,T.ins,T.bk,T.fr,T.tile,T.lst,T.rows,T.band,T.hi,T.hj⟩,q⟩
 case tilePart=>
  obtain ⟨rc,dr,tl,dt,y,z,rs,Pic,T,q⟩:=h
  exact ⟨rc,dr,tl,dt,y,z,rs,Pic,⟨T.eC,T.rect,T.ins,T.bk,T.fr,T.tile,T.lst,T.rows,T.band,T.hi,T.hj⟩,q⟩
 all_goals exact h
theorem VI.nD {A:bI} {H H':Hp} {s dx:Addr} {x:SF} {v:Viewer} {b c:List Nat} {M:List Addr} (h:VI A H s dx x v b M) (h1:H' x.k.waiting=some (.lst (nI (cF v.out c)))) (h2:SameBut H H' (·=x.k.waiting)):VI A H' s dx x (v.send c) b M:=by
 have C:=h.core
 have e:Ext H M H' M:=.fA h2 fun q z=>by rw [z];exact C.mem _ (by simp)
 have ns:s≠x.k.waiting:=fun q=>C.xI x.k.waiting (by simp) q.symm
 have C2:Core A H' M s x.k (v.send c):=C.nD h1 h2 (by rw [jq])
 have hs:=h2 _ _ h.bK ns
 rcases h with ⟨k,g1,g2,g3,g4,g5⟩ | ⟨m,R,W,hp,hb⟩
 ·exact .inl ⟨k,by rw [jq];exact g1,g2,hs,C2,g5⟩
 ·rw [jq] at C2 ⊢
  refine .inr ⟨m,⟨hs,C2,R.stage,R.need.trans (Mir.ow v v.input _ m).symm,R.wrong,R.cu,R.nd,(R.mode.keeps (x':=x) R.nd e (fun q _ nq o z=>h2 _ _ z (fun w=>nq (by rw [w];simp [M0]))) rfl).Ai rfl,R.run,R.lF,R.lG⟩,W.out _,hp.ext e,hb⟩
theorem dB.swap {A:bI} {H H':Hp} {M:List Addr} {s wt:Addr} {x:SF} {v:Viewer} {m:Mode} (h:dB A H M s x v m) (nd:M.Nodup) (hs:s∈M) (hwt:H wt=none) (sb:SameBut H H' (·=s)) :
  ∃rest,M=M0 s x.k++rest∧dB A H' (M0 s { x.k with waiting:=wt }++rest) s { x with k:={ x.k with waiting:=wt } } v m:=by
 obtain ⟨stage,need,pending,wrong,bE,dX,eN,first,b6,kk⟩:=x
 have ext:∀{rest},M=M0 s kk++rest→Ext H M H' (M0 s { kk with waiting:=wt }++rest):=fun {rest} hM=>by
  refine ⟨fun b hb=>?_,fun b o e nb=>sb b o e (fun q=>nb (by rw [q];exact hs))⟩
  rw [hM]
  simp only [List.mem_append,List.mem_cons,List.not_mem_nil,or_false] at hb ⊢
  rcases hb with (rfl | rfl | rfl | rfl) | h
  ·exact .inl (.inl (.inl rfl))
  ·exact .inr hwt
  ·exact .inl (.inl (.inr (.inr (.inl rfl))))
  ·exact .inl (.inl (.inr (.inr (.inr rfl))))
  ·exact .inl (.inr h)
 have keep:∀{rest},M=M0 s kk++rest→∀b∈rest,∀o,H b=some o→H' b=some o:=fun {rest} hM b hb o e=>sb b o e (fun q=>by
  rw [hM] at nd
  exact (List.nodup_append.mp nd).2.2 s (by simp) b hb q.symm)
 have rect:∀{rc dr y r more},M=M0 s kk++rc :: more→dY A H ⟨stage,need,pending,wrong,bE,dX,eN,first,b6,kk⟩ rc dr y r→dY A H' ⟨stage,need,pending,wrong,bE,dX,eN,first,b6,{ kk with waiting:=wt }⟩ rc dr y r:=fun hM q=>
  ⟨q.ref,keep hM _ (by simp) _ q.at_,q.l,q.t,q.w,q.h⟩
 have tiles:∀{r i j back front s' more rc dr tl dt y z rs Pic},bD A H M s ⟨stage,need,pending,wrong,bE,dX,eN,first,b6,kk⟩ v r i j back front s' more rc dr tl dt y z rs Pic→bD A H' (M0 s { kk with waiting:=wt }++(rc :: y.aA :: tl :: (more++rs))) s ⟨stage,need,pending,wrong,bE,dX,eN,first,b6,{ kk with waiting:=wt }⟩ v r i j back front s' more rc dr tl dt y z rs Pic:=fun q=>by
  have k:=keep q.eC
  refine q.to rfl (k _ (by simp) _ q.rect.at_) (k _ (by simp) _ q.tile.at_) ?_ rfl rfl rfl q.bk q.fr
  rintro b (rfl | hb) o e
  ·exact k _ (by simp) _ e
  ·exact k _ (by simp [hb]) _ e
 have plain:M=M0 s kk→M=M0 s kk++[]:=fun hM=>by rw [hM,List.append_nil]
 cases m
 case nameLen=>
  obtain ⟨h1,h2,h3,h4,h5,h6,fa,bits,f1,f2⟩:=h
  exact ⟨[],plain h1,by rw [List.append_nil],h2,h3,h4,h5,h6,fa,bits,f1,f2.ext (ext (plain h1))⟩
 case name=>
  obtain ⟨h1,h2,h3,h4,h5,h6,h7,fa,bits,f1,f2⟩:=h
  exact ⟨[],plain h1,by rw [List.append_nil],h2,h3,h4,h5,h6,h7,fa,bits,f1,f2.ext (ext (plain h1))⟩
 case pixels=>
  obtain ⟨rc,dr,y,h1,h2,h3⟩:=h
  exact ⟨_,h1,rc,dr,y,rfl,rect h1 h2,h3⟩
 case source=>
  obtain ⟨rc,dr,y,h1,h2,h3⟩:=h
  exact ⟨_,h1,rc,dr,y,rfl,rect h1 h2,h3⟩
 case howManyParts=>
  obtain ⟨rc,dr,y,h1,h2,h3⟩:=h
  exact ⟨_,h1,rc,dr,y,rfl,rect h1 h2,h3⟩
 case ground=>
  obtain ⟨rc,dr,y,h1,h2,h3⟩:=h
  exact ⟨_,h1,rc,dr,y,rfl,rect h1 h2,h3⟩
 case part=>
  obtain ⟨rc,dr,y,rs,Pic,h1,h2,h3,h4,h5,h6,h7,h8⟩:=h
  exact ⟨_,h1,rc,dr,y,rs,Pic,rfl,rect h1 h2,h3,h4,h5,h6,⟨keep h1 _ (by simp) _ h7.lst,h7.rows.ext (ext h1),by simp⟩,h8⟩
 case tile=>
  obtain ⟨rc,dr,tl,dt,y,z,rs,Pic,T,q⟩:=h
  exact ⟨_,T.eC,rc,dr,tl,dt,y,z,rs,Pic,tiles T,q⟩
 case tilePixels=>
  obtain ⟨rc,dr,tl,dt,y,z,rs,Pic,T,q⟩:=h
  exact ⟨_,T.eC,rc,dr,tl,dt,y,z,rs,Pic,tiles T,q⟩
 case tileColours=>
  obtain ⟨rc,dr,tl,dt,y,z,rs,Pic,T,q⟩:=h
  exact ⟨_,T.eC,rc,dr,tl,dt,y,z,rs,Pic,tiles T,q⟩
 case tilePart=>
  obtain ⟨rc,dr,tl,dt,y,z,rs,Pic,T,q1,q2,q3,trs,TP,B,p,q⟩:=h
  exact ⟨_,T.eC,rc,dr,tl,dt,y,z,rs,Pic,tiles T,q1,q2,q3,trs,TP,B,⟨keep T.eC _ (by simp) _ p.lst,p.rows.ext (ext T.eC),by simp⟩,q⟩
 case form=>exact ⟨[],plain h.1,by rw [List.append_nil],h.2⟩
 case colours=>exact ⟨[],plain h.1,by rw [List.append_nil],h.2⟩
 case cutText=>exact ⟨[],plain h.1,by rw [List.append_nil],h.2⟩
 all_goals exact ⟨[],plain h,by rw [List.append_nil];rfl⟩
theorem Core.swap {A:bI} {H H':Hp} {M M':List Addr} {s wt:Addr} {k:SK} {v:Viewer} {o:List Nat} (C:Core A H M s k v) (e:Ext H M H' M') (hwt:H wt=none) (h1:H' wt=some (.lst (nI o))) (ho:o.length≤65536) (sb:SameBut H H' (·=s)) (hm:∀b∈M0 s { k with waiting:=wt },b∈M') (hsn:s≠wt) :
  Core A H' M' s { k with waiting:=wt } { v with out:=o }:=by
 have nd:=C.nd
 simp only [List.nodup_cons,List.mem_cons,List.not_mem_nil,or_false,not_or,not_false_eq_true,List.nodup_nil,and_true] at nd
 obtain ⟨⟨a1,a2,a3⟩,⟨a4,a5⟩,a6⟩:=nd
 obtain ⟨rs,P,p,R,c⟩:=C.pic
 obtain ⟨ts,t1,t2⟩:=C.tab
 refine { wait:=h1,gN:=ho,cols:=C.cols,rows:=C.rows,side:=C.side,cut:=C.cut.ext e,name:=C.name.ext e,bells:=C.bells,jt:=C.jt,left:=C.left,pic:=⟨rs,P,⟨sb _ _ p.lst (fun q=>a2 q.symm),p.rows.ext e,hm _ (by simp)⟩,R,c⟩,tab:=⟨ts,sb _ _ t1 (fun q=>a3 q.symm),t2.ext e⟩,form:=fun q=>?_,nd:=?_,mem:=hm }
 ·obtain ⟨fa,bits,f1,f2,f3⟩:=C.form q
  exact ⟨fa,bits,f1,f2.ext e,f3⟩
 ·have w1:wt≠k.screen:=fun q=>by rw [q,p.lst] at hwt;cases hwt
  have w2:wt≠k.table:=fun q=>by rw [q,t1] at hwt;cases hwt
  simp only [List.nodup_cons,List.mem_cons,List.not_mem_nil,or_false,not_or,not_false_eq_true,List.nodup_nil,and_true]
  exact ⟨⟨hsn,a2,a3⟩,⟨w1,w2⟩,a6⟩
theorem VI.swap {A:bI} {H H':Hp} {s dx wt:Addr} {x:SF} {v:Viewer} {b o:List Nat} {M:List Addr} (h:VI A H s dx x v b M) (hwt:H wt=none) (h1:H' wt=some (.lst (nI o))) (ho:o.length≤65536) (hs:en A H' s dx { x with k:={ x.k with waiting:=wt } }) (sb:SameBut H H' (·=s)) :
  ∃M',VI A H' s dx { x with k:={ x.k with waiting:=wt } } { v with out:=o } b M'∧Ext H M H' M':=by
 have hsn:s≠wt:=fun q=>by
  have z:H s=_:=h.bK
  rw [q,hwt] at z
  cases z
 have sM:=h.core.eo
 rcases h with ⟨k,g1,g2,g3,g4,g5⟩ | ⟨m,R,W,hp,hb⟩
 ·have e:Ext H M H' (wt :: M):=⟨fun c hc=>(List.mem_cons.mp hc).elim (fun q=>.inr (by rw [q];exact hwt)) .inl,fun c z q nc=>sb c z q (fun w=>nc (by rw [w];exact sM))⟩
  refine ⟨wt :: M,.inl ⟨k,g1,g2,hs,g4.swap e hwt h1 ho sb (fun c hc=>?_) hsn,g5⟩,e⟩
  simp only [List.mem_cons,List.not_mem_nil,or_false] at hc ⊢
  rcases hc with rfl | rfl | rfl | rfl
  ·exact .inr sM
  ·exact .inl rfl
  ·exact .inr (g4.mem _ (by simp))
  ·exact .inr (g4.mem _ (by simp))
 ·have wM:=R.d9 hwt
  obtain ⟨rest,hM,hmode⟩:=R.mode.swap R.nd sM hwt sb
  have e:Ext H M H' (M0 s { x.k with waiting:=wt }++rest):=by
   refine ⟨fun c hc=>?_,fun c z q nc=>sb c z q (fun w=>nc (by rw [w];exact sM))⟩
   rw [hM]
   simp only [List.mem_append,List.mem_cons,List.not_mem_nil,or_false] at hc ⊢
   rcases hc with (rfl | rfl | rfl | rfl) | h
   ·exact .inl (.inl (.inl rfl))
   ·exact .inr hwt
   ·exact .inl (.inl (.inr (.inr (.inl rfl))))
   ·exact .inl (.inl (.inr (.inr (.inr rfl))))
   ·exact .inl (.inr h)
  have C2:=R.core.swap (M':=M0 s { x.k with waiting:=wt }++rest) e hwt h1 ho sb (fun c hc=>List.mem_append_left _ hc) hsn
  have nd2:(M0 s { x.k with waiting:=wt }++rest).Nodup:=by
   have n1:=R.nd
   rw [hM] at n1 wM
   obtain ⟨n2,n3,n4⟩:=List.nodup_append.mp n1
   refine List.nodup_append.mpr ⟨C2.nd,n3,fun p hp q hq z=>?_⟩
   subst z
   simp only [List.mem_cons,List.not_mem_nil,or_false] at hp
   rcases hp with rfl | rfl | rfl | rfl
   ·exact n4 _ (by simp) _ hq rfl
   ·exact wM (List.mem_append_right _ hq)
   ·exact n4 _ (by simp) _ hq rfl
   ·exact n4 _ (by simp) _ hq rfl
  exact ⟨_,.inr ⟨m,⟨hs,C2,R.stage,R.need.trans (Mir.ow v v.input o m).symm,R.wrong,R.cu,nd2,hmode.Ai rfl,R.run,R.lF,R.lG⟩,W.out o,hp.ext e,hb⟩,e⟩
section
variable {P:Program} {w:World} {K:PySem.W.Frag} {mg:Str→Option Value} {base:Heap} {A:bI}
def we (A:bI):Sp:=fun vs H Q _=>∃s dx dt x v b d M,vs=[.ref s,.ref dt]∧VI A H s dx x v b M∧H dt=some (.lst (nI d))∧(∀c∈d,c < 256)∧b.length + d.length≤16777216∧d.length≤65536∧
 ∀H' x' M' b',VI A H' s dx x' (Sn44.come v d) b' M'→b'.length≤b.length + d.length→Ext H M H' M'→Q (.int (Sn44.codeOf (Sn44.come v d).stage)) H'
theorem sP (T:Txt P w K mg A):FnAt P w K mg base "take_bytes" 12 ["session","data"] (we A):=by
 refine T.iY.at_ (fun _ _ _ _ _ _ us hl=>match us,hl with | [_,_],_=>rfl) fun f fd F=>?_
 refine F.ok sE (fun vs H Q E h=>?_) (fun cdv AA outer sh H vs Q E hr h=>?_)
 ·obtain ⟨s,dx,dt,x,v,b,d,M,rfl,_⟩:=h
  rfl
 ·obtain ⟨s,dx,dt,x,v,b,d,M,rfl,hv,hd,hdb,hlen,hd2,k⟩:=h
  refine ⟨_,ab (aX (aQ qU (bZ bj (by rfl) T.fQ PySem.boot_len (aa (pv 1) ah)) (a_ T.fO rfl) (aT _)) (ak (aW (a_ T.b_ rfl))) aP)
   (ab (az (aK (Cy T) hr rfl (aa (pv 0) (aa (pv 1) ah))))
   (ak (aW (pG (j7 T) T.af (hr.mono (by decide)) (pv 0))))),?_⟩
  refine ⟨_,rfl,dt,_,rfl,.inl (bV.of hd),_,_,rfl,rfl,_,rfl,?_⟩
  show if decide ((65536:Int) < ((nI d).length:Int))=true then _ else _
  rw [aU,decide_eq_false (by omega)]
  refine cE ⟨_,rfl,_,rfl,s,dx,dt,x,v,b,d,M,rfl,hv,hd,hdb,hlen,fun H' x' M' b' hv' hl' e'=>?_⟩
  refine ⟨_,rfl,s,dx,_,rfl,hv'.bK,rfl,s,dx,x',rfl,hv'.bK,?_⟩
  rw [hv'.yX]
  exact k H' x' M' b' hv' hl' e'
def rZ (v:Viewer) (most:Int):Viewer:=if Sn44.within most 65536=false then v else { v with out:=v.out.drop most.toNat }
def nH (v:Viewer) (most:Int):Sn44.Ans:=if Sn44.within most 65536=false then ⟨-2,[]⟩ else Sn44.bytes v.out most
def xW (A:bI):Sp:=fun vs H Q _=>∃s dx x v b M most,vs=[.ref s,.int most]∧VI A H s dx x v b M∧
 ∀H' x' M' a,VI A H' s dx x' (rZ v most) b M'→Ext H M H' M'→H' a=some (.lst (V.int (nH v most).value :: nI (nH v most).out))→Q (.ref a) H'
def Aj:Sp:=fun vs H Q _=>∃(a:Addr) (l:List Nat),vs=[.ref a]∧H a=some (.lst (nI l))∧l.length≤65536∧∀H' q,H q=none→H' q=some (.lst (V.int (l.length:Int) :: nI l))→bX H H'→Q (.ref q) H'
theorem nJ (T:Txt P w K mg A):FnAt P w K mg base "counted" 1 ["numbers"] Aj:=by
 refine T.mz.at_ (fun _ _ _ _ _ _ us hl=>match us,hl with | [_],_=>rfl) fun f fd F=>?_
 refine F.ok xA (fun vs H Q E h=>?_) (fun cdv AA outer sh H vs Q E hr h=>?_)
 ·obtain ⟨a,l,rfl,_⟩:=h
  rfl
 ·obtain ⟨a,l,rfl,ha,hl,k⟩:=h
  refine ⟨_,ak (aW (aH je (b0 (aa (bZ bj (by rfl) T.fQ PySem.boot_len (aa (pv 0) ah)) ah)) (pv 0))),?_⟩
  refine ⟨_,rfl,a,_,rfl,.inl (bV.of ha),by show 1≤sizeLine;decide,fun p hp=>?_⟩
  have s1:=ay (o:=.lst [V.int ((nI l).length:Nat)]) hp
  refine ⟨_,rfl,p,a,_,_,rfl,rfl,ae,s1 _ _ ha,by rw [aU,sizeLine_eq];show 1 + _≤_;omega,fun q hq=>?_⟩
  have s2:=ay (o:=.lst ([V.int ((nI l).length:Nat)]++nI l)) hq
  refine k _ q (s1.free hq) ?_ (s1.trans s2)
  rw [ae,aU]
  rfl
theorem qz (T:Txt P w K mg A):FnAt P w K mg base "fetch_output" 2 ["session","most"] (xW A):=by
 refine T.gE.at_ (fun _ _ _ _ _ _ us hl=>match us,hl with | [_,_],_=>rfl) fun f fd F=>?_
 refine F.ok lz (fun vs H Q E h=>?_) (fun cdv AA outer sh H vs Q E hr h=>?_)
 ·obtain ⟨s,dx,x,v,b,M,most,rfl,_⟩:=h
  rfl
 ·obtain ⟨s,dx,x,v,b,M,most,rfl,hv,k⟩:=h
  have nd:=lz.nd
  refine ⟨_,ab (aX (kD (gn fW fW ai (pv 1) (a_ T.fO rfl))) (ak (aW (b0 (aa (a_ T.b_ rfl) ah)))) aP)
   (ak (aW (aK (nJ T) hr rfl (aa (bF (Bl T) T.af hr (pv 0) (aa (pv 1) ah)) ah)))),?_⟩
  have bad:Sn44.within most 65536=false→∀p,H p=none→Q (.ref p) (upd H p (.lst [V.int (-2)])):=fun hw p hp=>by
   have s1:=ay (o:=.lst [V.int (-2)]) hp
   unfold rZ nH at k
   rw [if_pos hw,if_pos hw] at k
   exact k _ x M p (hv.same s1) (.of_same s1) ae
  refine ⟨_,rfl,_,_,rfl,rfl,_,rfl,?_⟩
  show if decide ((0:Int)≤most)=true then _ else _
  by_cases c1:0≤most
  ·rw [decide_eq_true c1]
   refine cG ⟨_,_,rfl,rfl,_,rfl,?_⟩
   show if (!decide (most≤(65536:Int)))=true then _ else _
   by_cases c2:most≤65536
   ·rw [decide_eq_true c2]
    have hw:¬ Sn44.within most 65536=false:=by
     unfold Sn44.within
     rw [decide_eq_true c1,decide_eq_true (show most≤((65536:Nat):Int) from c2)]
     decide
    unfold rZ nH at k
    rw [if_neg hw,if_neg hw] at k
    obtain ⟨n,rfl⟩:∃n:Nat,most=(n:Int):=⟨most.toNat,by omega⟩
    refine cE ⟨_,rfl,s,dx,_,rfl,hv.bK,rfl,_,rfl,s,dx,x,n,v.out,rfl,hv.bK,hv.core.wait,fun H' f1 wt hf hwt nfw g1 g2 g3 sb=>?_⟩
    have ol:=hv.core.gN
    obtain ⟨M',hv',e'⟩:=hv.swap hwt g2 (by rw [List.length_drop];omega) g3 sb
    refine ⟨f1,_,rfl,g1,by rw [List.length_take];omega,fun H2 q hq g4 s2=>?_⟩
    exact k _ _ M' q (hv'.same s2) (e'.trans (.of_same s2)) g4
   ·rw [decide_eq_false c2]
    have hw:Sn44.within most 65536=false:=by
     unfold Sn44.within
     rw [decide_eq_false (show ¬ most≤((65536:Nat):Int) from c2),Bool.and_false]
    exact cG ⟨by show 1≤sizeLine;decide,bad hw⟩
  ·rw [decide_eq_false c1]
   have hw:Sn44.within most 65536=false:=by
    unfold Sn44.within
    rw [decide_eq_false c1,Bool.false_and]
   exact cE ⟨_,rfl,cG ⟨by show 1≤sizeLine;decide,bad hw⟩⟩
def Ak (v:Viewer) (key:Nat) (down:Int):Viewer × Int:=if Sn44.within down 1=false then (v,-2) else if v.stage≠.runs then (v,-3) else (v.send ([4,down.toNat,0,0]++Sn44.be 4 key),0)
def Al (A:bI):Sp:=fun vs H Q _=>∃s dx x v b M,∃key:Nat,∃down,vs=[.ref s,.int (key:Int),.int down]∧VI A H s dx x v b M∧
 ∀H',VI A H' s dx x (Ak v key down).1 b M→Ext H M H' M→Q (.int (Ak v key down).2) H'
theorem mL {st:Stage}:Sn44.codeOf st=1 ↔ st=.runs:=by
 cases st with
 | wrong k=>
  refine ⟨fun h=>?_,fun h=>by cases h⟩
  have:-10 - (k:Int)=1:=h
  omega
 | runs=>exact ⟨fun _=>rfl,fun _=>rfl⟩
 | _=>exact ⟨fun h=>absurd h (by decide),fun h=>by cases h⟩
theorem wg (T:Txt P w K mg A):FnAt P w K mg base "send_key" 2 ["session","key","down"] (Al A):=by
 refine T.kT.at_ (fun _ _ _ _ _ _ us hl=>match us,hl with | [_,_,_],_=>rfl) fun f fd F=>?_
 refine F.ok vO (fun vs H Q E h=>?_) (fun cdv AA outer sh H vs Q E hr h=>?_)
 ·obtain ⟨s,dx,x,v,b,M,key,down,rfl,_⟩:=h
  rfl
 ·obtain ⟨s,dx,x,v,b,M,key,down,rfl,hv,k⟩:=h
  refine ⟨_,ab (aX (PW.pt (o7 (aQ nV (pv 2) ai (aT _)) (nQ (aQ nV (pv 2) ai (aT _))))) (ak (aW (a_ T.b_ rfl))) aP)
   (ab (aX (aQ nV (pG (j7 T) T.af (hr.mono (by decide)) (pv 0)) ai (aT _)) (ak (aW (a_ T.ip rfl))) aP)
   (ab (az (bF (k9 T) T.af (hr.mono (by decide)) (pv 0) (aa (aH je (b0 (aa ai (aa (pv 2) (aa ai (aa ai ah))))) (aK (df T) (hr.mono (by decide)) rfl (aa (pv 1) (aa ai ah)))) ah)))
   (ak (aW ai)))),?_⟩
  unfold Ak at k
  have dec1:∀i j:Int,decide (V.int i=V.int j)=decide (i=j):=fun i j=>by
   rw [jv,Bool.eq_iff_iff,beq_iff_eq,decide_eq_true_eq]
  refine ⟨_,rfl,rfl,_,rfl,?_⟩
  show if (!decide (V.int down=V.int 0))=true then _ else _
  rw [dec1]
  by_cases d0:down=0
  case' pos=>
   rw [decide_eq_true d0]
   refine cE (cE ?_)
   obtain ⟨n,hn,hn1⟩:∃n:Nat,down=(n:Int)∧n≤1:=⟨0,d0,by decide⟩
  case' neg=>
   rw [decide_eq_false d0]
   refine cG ⟨_,rfl,rfl,_,rfl,?_⟩
   show if (!decide (V.int down=V.int 1))=true then _ else _
   rw [dec1]
   by_cases d1:down=1
   case neg=>
    rw [decide_eq_false d1]
    have hw:Sn44.within down 1=false:=by
     unfold Sn44.within
     by_cases c:0≤down
     ·rw [decide_eq_false (show ¬ down≤((1:Nat):Int) by omega),Bool.and_false]
     ·rw [decide_eq_false c,Bool.false_and]
    rw [if_pos hw] at k
    exact cG (k H hv (.refl H M))
   rw [decide_eq_true d1]
   refine cE ?_
   obtain ⟨n,hn,hn1⟩:∃n:Nat,down=(n:Int)∧n≤1:=⟨1,d1,by decide⟩
  all_goals
   have hw:¬ Sn44.within down 1=false:=by
    unfold Sn44.within
    rw [decide_eq_true (show 0≤down by omega),decide_eq_true (show down≤((1:Nat):Int) by omega)]
    decide
   rw [if_neg hw] at k
   refine ⟨_,rfl,s,dx,_,rfl,hv.bK,rfl,s,dx,x,rfl,hv.bK,rfl,_,rfl,?_⟩
   show if (!decide (V.int (mI x)=V.int 1))=true then _ else _
   rw [dec1,hv.yX]
   by_cases c:v.stage=.runs
   ·rw [if_neg (fun q=>q c)] at k
    rw [decide_eq_true (mL.mpr c)]
    refine cE ⟨_,rfl,s,dx,_,rfl,hv.bK,rfl,_,rfl,by show 4≤sizeLine;decide,fun l1 h1=>?_⟩
    have s1:=ay (o:=.lst [V.int 4,V.int down,V.int 0,V.int 0]) h1
    refine ⟨_,rfl,key,4,rfl,by decide,fun H2 l2 e2 q2 s2=>?_⟩
    refine ⟨l1,l2,_,_,rfl,rfl,s2 _ _ ae,q2,by rw [aU,kf];show 4 + 4≤sizeLine;decide,fun l3 h3=>?_⟩
    have s3:=ay (o:=.lst ([V.int 4,V.int down,V.int 0,V.int 0]++nI (Sn44.be 4 key))) h3
    have S3:=s1.trans (s2.trans s3)
    have em:[V.int 4,V.int down,V.int 0,V.int 0]++nI (Sn44.be 4 key)=nI ([4,down.toNat,0,0]++Sn44.be 4 key):=by
     rw [fU,hn]
     rfl
    have hv3:=hv.same S3
    refine ⟨s,dx,l3,x,v.out,[4,down.toNat,0,0]++Sn44.be 4 key,rfl,hv3.bK,hv3.core.wait,by rw [ae,em],hv.core.gN,fun H' a1 a2=>?_⟩
    exact k H' (hv3.nD a1 a2) ((Ext.of_same S3).trans (.fA a2 fun q z=>by rw [z];exact hv.core.mem _ (by simp)))
   ·rw [if_pos c] at k
    rw [decide_eq_false (fun q=>c (mL.mp q))]
    exact cG (k H hv (.refl H M))
end
abbrev FC:R2:=Ax fun i j=>.bl (decide (i≤j))
theorem tI {lo hi z:Int} {j:Nat} {σ:L2.St} {H:Hp} {Q:Bool→Hp→Prop} (hv:σ[j]?=some (some (.int z))) (h:Q (decide (lo≤z) && decide (z≤hi)) H):yj (wU FC FC (tC (.int lo)) (wD j) (tC (.int hi))) σ H Q:=by
 refine ⟨_,hv,_,_,rfl,rfl,_,rfl,?_⟩
 by_cases c:lo≤z
 ·rw [decide_eq_true c,Bool.true_and] at h
  rw [decide_eq_true c]
  exact cG ⟨_,_,rfl,rfl,_,rfl,h⟩
 ·rw [decide_eq_false c,Bool.false_and] at h
  rw [decide_eq_false c]
  exact cE ⟨_,rfl,h⟩
theorem Eh (z:Int) (n:Nat):(decide ((0:Int)≤z) && decide (z≤(n:Int)))=Sn44.within z n:=rfl
abbrev GW (lo hi:Int) (j:Nat):TT:=yj (wU FC FC (tC (.int lo)) (wD j) (tC (.int hi)))
theorem xX {c:Bool} {t u:TT} {σ:L2.St} {H:Hp} {d:Bool} {Q:Bool→Hp→Prop} (h1:∀Q:Bool→Hp→Prop,Q c H→t σ H Q) (h2:∀Q:Bool→Hp→Prop,Q d H→u σ H Q) (h:Q (c && d) H):Ep t u σ H Q:=by
 refine h1 _ ?_
 show if c=true then u σ H Q else Q false H
 cases c with
 | true=>exact cG (h2 _ h)
 | false=>exact cE h
section
variable {P:Program} {w:World} {K:PySem.W.Frag} {mg:Str→Option Value} {base:Heap} {A:bI}
def D4 (x y b:Int):Bool:=Sn44.within x 1023 && (Sn44.within y 1023 && Sn44.within b 255)
def pO (v:Viewer) (x y b:Int):Viewer × Int:=if D4 x y b=false then (v,-2) else if v.stage≠.runs then (v,-3) else (v.send ([5,b.toNat]++(Sn44.be 2 x.toNat++Sn44.be 2 y.toNat)),0)
def wj (A:bI):Sp:=fun vs H Q _=>∃s dx x v b M,∃px py pb:Int,vs=[.ref s,.int px,.int py,.int pb]∧VI A H s dx x v b M∧
 ∀H',VI A H' s dx x (pO v px py pb).1 b M→Ext H M H' M→Q (.int (pO v px py pb).2) H'
theorem sS (T:Txt P w K mg A):FnAt P w K mg base "send_point" 2 ["session","x","y","buttons"] (wj A):=by
 refine T.iZ.at_ (fun _ _ _ _ _ _ us hl=>match us,hl with | [_,_,_,_],_=>rfl) fun f fd F=>?_
 refine F.ok sF (fun vs H Q E h=>?_) (fun cdv AA outer sh H vs Q E hr h=>?_)
 ·obtain ⟨s,dx,x,v,b,M,px,py,pb,rfl,_⟩:=h
  rfl
 ·obtain ⟨s,dx,x,v,b,M,px,py,pb,rfl,hv,k⟩:=h
  refine ⟨_,ab (aX (kD (PW.pt (o7 (gn fW fW ai (pv 1) (a_ T.fP rfl)) (o7 (gn fW fW ai (pv 2) (a_ T.fP rfl)) (nQ (gn fW fW ai (pv 3) (a_ T.gL rfl))))))) (ak (aW (a_ T.b_ rfl))) aP)
   (ab (aX (aQ nV (pG (j7 T) T.af (hr.mono (by decide)) (pv 0)) ai (aT _)) (ak (aW (a_ T.ip rfl))) aP)
   (ab (az (bF (k9 T) T.af (hr.mono (by decide)) (pv 0) (aa (aH je (aH je (b0 (aa ai (aa (pv 3) ah))) (aK (df T) (hr.mono (by decide)) rfl (aa (pv 1) (aa ai ah)))) (aK (df T) (hr.mono (by decide)) rfl (aa (pv 2) (aa ai ah)))) ah)))
   (ak (aW ai)))),?_⟩
  unfold pO at k
  have dec1:∀i j:Int,decide (V.int i=V.int j)=decide (i=j):=fun i j=>by
   rw [jv,Bool.eq_iff_iff,beq_iff_eq,decide_eq_true_eq]
  refine xX (fun Q h=>tI rfl h) (fun Q h=>xX (fun Q h=>tI rfl h) (fun Q h=>tI rfl h) h) ?_
  show if (!D4 px py pb)=true then _ else _
  cases c:D4 px py pb with
  | false=>
   rw [if_pos c] at k
   exact cG (k H hv (.refl H M))
  | true=>
   rw [if_neg (by rw [c];decide)] at k
   have c':=c
   unfold D4 Sn44.within at c'
   simp only [Bool.and_eq_true,decide_eq_true_eq] at c'
   obtain ⟨nx,rfl⟩:∃n:Nat,px=(n:Int):=⟨px.toNat,by omega⟩
   obtain ⟨ny,rfl⟩:∃n:Nat,py=(n:Int):=⟨py.toNat,by omega⟩
   obtain ⟨nb,rfl⟩:∃n:Nat,pb=(n:Int):=⟨pb.toNat,by omega⟩
   refine cE ⟨_,rfl,s,dx,_,rfl,hv.bK,rfl,s,dx,x,rfl,hv.bK,rfl,_,rfl,?_⟩
   show if (!decide (V.int (mI x)=V.int 1))=true then _ else _
   rw [dec1,hv.yX]
   by_cases c:v.stage=.runs
   ·rw [if_neg (fun q=>q c)] at k
    rw [decide_eq_true (mL.mpr c)]
    refine cE ⟨_,rfl,s,dx,_,rfl,hv.bK,rfl,_,rfl,by show 2≤sizeLine;decide,fun l1 h1=>?_⟩
    have s1:=ay (o:=.lst [V.int 5,V.int (nb:Int)]) h1
    refine ⟨_,rfl,nx,2,rfl,by decide,fun H2 l2 e2 q2 s2=>?_⟩
    refine ⟨l1,l2,_,_,rfl,rfl,s2 _ _ ae,q2,by rw [aU,kf];show 2 + 2≤sizeLine;decide,fun l3 h3=>?_⟩
    have s3:=ay (o:=.lst ([V.int 5,V.int (nb:Int)]++nI (Sn44.be 2 nx))) h3
    refine ⟨_,rfl,ny,2,rfl,by decide,fun H4 l4 e4 q4 s4=>?_⟩
    refine ⟨l3,l4,_,_,rfl,rfl,s4 _ _ ae,q4,by rw [List.length_append,aU,aU,kf,kf];show 2 + 2 + 2≤sizeLine;decide,fun l5 h5=>?_⟩
    have s5:=ay (o:=.lst ([V.int 5,V.int (nb:Int)]++nI (Sn44.be 2 nx)++nI (Sn44.be 2 ny))) h5
    have S5:=s1.trans (s2.trans (s3.trans (s4.trans s5)))
    have em:[V.int 5,V.int (nb:Int)]++nI (Sn44.be 2 nx)++nI (Sn44.be 2 ny)=nI ([5,(nb:Int).toNat]++(Sn44.be 2 (nx:Int).toNat++Sn44.be 2 (ny:Int).toNat)):=by
     rw [fU,fU,List.append_assoc]
     rfl
    have hv3:=hv.same S5
    refine ⟨s,dx,l5,x,v.out,[5,(nb:Int).toNat]++(Sn44.be 2 (nx:Int).toNat++Sn44.be 2 (ny:Int).toNat),rfl,hv3.bK,hv3.core.wait,by rw [ae,em],hv.core.gN,fun H' a1 a2=>?_⟩
    exact k H' (hv3.nD a1 a2) ((Ext.of_same S5).trans (.fA a2 fun q z=>by rw [z];exact hv.core.mem _ (by simp)))
   ·rw [if_pos c] at k
    rw [decide_eq_false (fun q=>c (mL.mp q))]
    exact cG (k H hv (.refl H M))
def Cz (v:Viewer) (most:Int):Sn44.Ans:=if Sn44.within most 65536=false then ⟨-2,[]⟩ else Sn44.bytes v.cut most
def Tells (H:Hp) (a:Sn44.Ans) (Q:VK):Prop:=∀H' q,H q=none→H' q=some (.lst (V.int a.value :: nI a.out))→bX H H'→Q (.ref q) H'
def Am (A:bI):Sp:=fun vs H Q _=>∃s dx x v b M most,vs=[.ref s,.int most]∧VI A H s dx x v b M∧Tells H (Cz v most) Q
theorem pP (T:Txt P w K mg A):FnAt P w K mg base "show_cut_text" 2 ["session","most"] (Am A):=by
 refine T.f_.at_ (fun _ _ _ _ _ _ us hl=>match us,hl with | [_,_],_=>rfl) fun f fd F=>?_
 refine F.ok pJ (fun vs H Q E h=>?_) (fun cdv AA outer sh H vs Q E hr h=>?_)
 ·obtain ⟨s,dx,x,v,b,M,most,rfl,_⟩:=h
  rfl
 ·obtain ⟨s,dx,x,v,b,M,most,rfl,hv,k⟩:=h
  refine ⟨_,ab (aX (kD (gn fW fW ai (pv 1) (a_ T.fO rfl))) (ak (aW (b0 (aa (a_ T.b_ rfl) ah)))) aP)
   (ak (aW (aK (nJ T) hr rfl (aa (ee fC (aq (pv 0) rfl) kF (dj (pv 1))) ah)))),?_⟩
  unfold Cz at k
  refine tI rfl ?_
  show if (!Sn44.within most 65536)=true then _ else _
  cases c:Sn44.within most 65536 with
  | false=>
   rw [if_pos c] at k
   refine cG ⟨by show 1≤sizeLine;decide,fun p hp=>?_⟩
   exact k _ p hp ae (ay hp)
  | true=>
   rw [if_neg (by rw [c];decide)] at k
   unfold Sn44.within at c
   simp only [Bool.and_eq_true,decide_eq_true_eq] at c
   obtain ⟨n,rfl⟩:∃n:Nat,most=(n:Int):=⟨most.toNat,by omega⟩
   refine cE ⟨_,rfl,s,A.ag,dx,_,_,rfl,hv.bK,T.af,T.ck,rfl,_,rfl,_,rfl,x.k.cut,_,rfl,bV.of hv.core.cut.1,fun p hp=>?_⟩
   rw [xt,jy]
   have s1:=ay (o:=.lst (nI (v.cut.take n))) hp
   refine ⟨p,_,rfl,ae,by rw [List.length_take];omega,fun H2 q hq g4 s2=>?_⟩
   exact k _ q (s1.free hq) g4 (s1.trans s2)
def Fh (v:Viewer):Sn44.Ans:=⟨Sn44.codeOf v.stage,[v.screen.w,v.screen.h,v.bells,v.updates,v.cut.length,v.name.length]⟩
def D5 (A:bI):Sp:=fun vs H Q _=>∃s dx x v b M,vs=[.ref s]∧VI A H s dx x v b M∧Tells H (Fh v) Q
end
end SV
end
section
namespace Gd
open Sn44
abbrev r6 (b:Bytes):Prop:=∀c∈b,c < 256
def Pk {α:Type} (p:P α) (G:α→Prop):Prop:=∀b a r,r6 b→p b=.ok a r→G a∧r6 r
theorem Pk.seq {α β:Type} {p:P α} {f:α→P β} {G:α→Prop} {G2:β→Prop} (h:Pk p G) (h2:∀a,G a→Pk (f a) G2):Pk (Sn44.seq p f) G2:=by
 intro b a r hb e
 unfold Sn44.seq at e
 cases q:p b with
 | more=>rw [q] at e;cases e
 | bad k=>rw [q] at e;cases e
 | ok x s=>
  rw [q] at e
  obtain ⟨g,hs⟩:=h b x s hb q
  exact h2 x g s a r hs e
theorem Pk.give {α:Type} {a:α} {G:α→Prop} (h:G a):Pk (Sn44.give a) G:=by
 intro b x r hb e
 cases e
 exact ⟨h,hb⟩
theorem Pk.fail {α:Type} {k:Nat} {G:α→Prop}:Pk (Sn44.fail k:P α) G:=by
 intro b x r hb e
 cases e
theorem Pk.part (n:Nat):Pk (Sn44.part n) (fun x=>r6 x∧x.length=n):=by
 intro b x r hb e
 unfold Sn44.part at e
 split at e
 ·cases e
 ·rename_i c
  cases e
  exact ⟨⟨fun y hy=>hb y (List.mem_of_mem_take hy),by rw [List.length_take];omega⟩,fun y hy=>hb y (List.mem_of_mem_drop hy)⟩
theorem Pk.must {k:Nat} {y:Bool}:Pk (Sn44.must k y) (fun _=>y=true):=by
 unfold Sn44.must
 split
 ·exact .give ‹_›
 ·exact .fail
theorem Pk.mono {α:Type} {p:P α} {G G2:α→Prop} (h:Pk p G) (i:∀a,G a→G2 a):Pk p G2:=fun b a r hb e=>⟨i a (h b a r hb e).1,(h b a r hb e).2⟩
theorem Pk.ite {α:Type} {c:Prop} [Decidable c] {p q:P α} {G:α→Prop} (h1:c→Pk p G) (h2:¬ c→Pk q G):Pk (if c then p else q) G:=by
 by_cases e:c
 ·rw [if_pos e];exact h1 e
 ·rw [if_neg e];exact h2 e
theorem yY:∀(b:Bytes),r6 b→high b < 256 ^ b.length:=by
 have:∀(b:Bytes) (n k:Nat),r6 b→n < 256 ^ k→b.foldl (fun n c=>256 * n + c) n < 256 ^ (k + b.length):=by
  intro b
  induction b with
  | nil=>intro n k _ h;exact h
  | cons c b ih=>
   intro n k hb h
   rw [List.foldl_cons,List.length_cons,show k + (b.length + 1)=(k + 1) + b.length by omega]
   refine ih _ _ (fun x hx=>hb x (List.mem_cons_of_mem _ hx)) ?_
   have:=hb c (List.mem_cons_self ..)
   rw [Nat.pow_succ]
   omega
 intro b hb
 have:=this b 0 0 hb (by decide)
 rwa [Nat.zero_add] at this
theorem Bu:∀(b:Bytes),r6 b→low b < 256 ^ b.length
 | [],_=>by decide
 | c :: b,hb=>by
  have:=Bu b (fun x hx=>hb x (List.mem_cons_of_mem _ hx))
  have:=hb c (List.mem_cons_self ..)
  show c + 256 * low b < 256 ^ (b.length + 1)
  rw [Nat.pow_succ]
  omega
theorem Pk.num (n:Nat):Pk (Sn44.num n) (fun x=>x < 256 ^ n):=.seq (.part n) fun a h=>.give (by rw [← h.2];exact yY a h.1)
theorem Pk.pixel (f:Form):Pk (Sn44.pixel f) (fun x=>x < 256 ^ f.size):=.seq (.part f.size) fun a h=>.give (by
 rw [← h.2]
 split
 ·exact yY a h.1
 ·exact Bu a h.1)
theorem Pk.pixels (f:Form):∀n,Pk (Sn44.pixels f n) (fun l=>∀x∈l,x < 256 ^ f.size)
 | 0=>.give (by simp)
 | n + 1=>.seq (.pixel f) fun p hp=>.seq (Pk.pixels f n) fun l hl=>.give fun x hx=>by
  rcases List.mem_cons.mp hx with rfl | h
  ·exact hp
  ·exact hl x h
def xY (p:Nat × Nat):Prop:=∃k,1≤k∧k≤8∧p.1 + 1=2 ^ k∧p.2≤255
def xZ (f:Form):Prop:=(f.parts=false→f.size=1)∧f.maxes.length=3∧f.shifts.length=3∧(f.size=1∨f.size=2∨f.size=4)∧(f.parts=true→∀p∈f.maxes.zip f.shifts,xY p)
theorem An {m k:Nat} (h:bitsOf m=some k):1≤k∧k≤8∧m + 1=2 ^ k:=by
 unfold bitsOf at h
 have h1:=List.mem_of_find?_eq_some h
 have h2:=List.find?_some h
 simp only [beq_iff_eq] at h2
 refine ⟨?_,?_,h2⟩
 ·simp only [List.mem_cons,List.not_mem_nil,or_false] at h1;omega
 ·simp only [List.mem_cons,List.not_mem_nil,or_false] at h1;omega
theorem Pk.form:Pk Sn44.form xZ:=by
 refine .seq (.part 16) fun b hb=>?_
 have hd:∀i,b.getD i 0≤255:=fun i=>by
  rw [List.getD_eq_getElem?_getD]
  cases e:b[i]? with
  | none=>exact Nat.zero_le _
  | some x=>
   have:=hb.1 x (List.mem_of_getElem? e)
   show x≤255
   omega
 refine .seq .must fun _ hm=>.give ?_
 rw [Bool.and_eq_true] at hm
 obtain ⟨h1,h2⟩:=hm
 have h1':b.getD 0 0=8∨b.getD 0 0=16∨b.getD 0 0=32:=by
  simp only [List.contains,List.elem_cons,List.elem_nil,Bool.or_false,Bool.or_eq_true,beq_iff_eq] at h1
  revert h1
  generalize b.getD 0 0=n
  intro h1
  cases c1:n == 8 <;> cases c2:n == 16 <;> cases c3:n == 32 <;> rw [c1,c2,c3] at h1 <;> simp_all
 refine ⟨fun hp=>?_,rfl,rfl,?_,fun hp=>?_⟩
 ·rw [if_neg (by simpa using hp)] at h2
  show b.getD 0 0 / 8=1
  have:b.getD 0 0=8:=by simpa using h2
  rw [this]
 ·show b.getD 0 0 / 8=1∨b.getD 0 0 / 8=2∨b.getD 0 0 / 8=4
  rcases h1' with e | e | e <;> rw [e] <;> decide
 ·rw [if_pos hp] at h2
  rw [List.all_eq_true] at h2
  intro p hpz
  have q:=h2 p hpz
  cases e:bitsOf p.1 with
  | none=>rw [e] at q;cases q
  | some k=>
   obtain ⟨k1,k2,k3⟩:=An e
   refine ⟨k,k1,k2,k3,?_⟩
   have:=(List.of_mem_zip hpz).2
   simp only [List.mem_cons,List.not_mem_nil,or_false] at this
   rcases this with r | r | r <;> rw [r] <;> exact hd _
def qO (e:List Nat):Prop:=∃a b c,e=[a,b,c]∧a < 65536∧b < 65536∧c < 65536
structure eQ (s:Screen):Prop where
 form:xZ s.form
 cells:∀x∈s.cells,x < 256 ^ s.form.size
 table:∀e∈s.table,qO e
 x4:s.table.length=256
theorem eQ.put {s:Screen} (h:eQ s) {x y p:Nat} (hp:p < 256 ^ s.form.size):eQ (s.put x y p):=⟨h.form,fun z hz=>by
 rcases List.mem_or_eq_of_mem_set hz with q | q
 ·exact h.cells z q
 ·rw [q];exact hp,h.table,h.x4⟩
def pQ (s u:Screen):Prop:=u.w=s.w∧u.h=s.h∧u.form=s.form∧u.table=s.table
theorem pQ.refl (s:Screen):pQ s s:=⟨rfl,rfl,rfl,rfl⟩
theorem pQ.trans {a b c:Screen} (h:pQ a b) (g:pQ b c):pQ a c:=⟨g.1.trans h.1,g.2.1.trans h.2.1,g.2.2.1.trans h.2.2.1,g.2.2.2.trans h.2.2.2⟩
theorem yZ {p:Nat}:∀(l:List (Nat × Nat)) (s:Screen),eQ s→p < 256 ^ s.form.size→eQ (l.foldl (fun s z=>s.put z.1 z.2 p) s)∧pQ s (l.foldl (fun s z=>s.put z.1 z.2 p) s)
 | [],s,h,_=>⟨h,.refl s⟩
 | z :: l,s,h,hp=>by
  have:=yZ l (s.put z.1 z.2 p) (h.put hp) hp
  exact ⟨this.1,pQ.trans ⟨rfl,rfl,rfl,rfl⟩ this.2⟩
theorem eQ.fill {s:Screen} (h:eQ s) {r:Rect} {p:Nat} (hp:p < 256 ^ s.form.size):eQ (s.fill r p)∧pQ s (s.fill r p):=yZ _ s h hp
theorem y8:∀(l:List ((Nat × Nat) × Nat)) (s:Screen),eQ s→(∀z∈l,z.2 < 256 ^ s.form.size)→eQ (l.foldl (fun s z=>s.put z.1.1 z.1.2 z.2) s)∧pQ s (l.foldl (fun s z=>s.put z.1.1 z.1.2 z.2) s)
 | [],s,h,_=>⟨h,.refl s⟩
 | z :: l,s,h,hp=>by
  have:=y8 l (s.put z.1.1 z.1.2 z.2) (h.put (hp z (List.mem_cons_self ..))) (fun y hy=>hp y (List.mem_cons_of_mem _ hy))
  exact ⟨this.1,pQ.trans ⟨rfl,rfl,rfl,rfl⟩ this.2⟩
theorem eQ.draw {s:Screen} (h:eQ s) {r:Rect} {l:List Nat} (hp:∀x∈l,x < 256 ^ s.form.size):eQ (s.draw r l)∧pQ s (s.draw r l):=y8 _ s h fun z hz=>hp _ (List.of_mem_zip hz).2
theorem eQ.at_ {s:Screen} (h:eQ s) (x y:Nat):s.at_ x y < 256 ^ s.form.size:=by
 unfold Screen.at_
 rw [List.getD_eq_getElem?_getD]
 cases e:s.cells[y * s.w + x]? with
 | none=>exact Nat.pow_pos (by decide)
 | some z=>exact h.cells z (List.mem_of_getElem? e)
abbrev Good (s u:Screen):Prop:=eQ u∧pQ s u
theorem Good.trans {a b c:Screen} (h:Good a b) (g:Good b c):Good a c:=⟨g.1,h.2.trans g.2⟩
theorem Pk.from {p:P Screen} {a b:Screen} (h:Good a b) (g:Pk p (Good b)):Pk p (Good a):=g.mono fun _ q=>h.trans q
theorem Pk.raw {s:Screen} (h:eQ s) (r:Rect):Pk (Sn44.raw s r) (Good s):=.seq (.pixels _ _) fun l hl=>.give (h.draw hl)
theorem Pk.copied {s:Screen} (h:eQ s) (r:Rect):Pk (Sn44.copied s r) (Good s):=.seq (.num 2) fun x _=>.seq (.num 2) fun y _=>.seq .must fun _ _=>.give (h.draw fun z hz=>by
 obtain ⟨q,_,rfl⟩:=List.mem_map.mp hz
 exact h.at_ _ _)
theorem Pk.parts (n:Nat) (r:Rect):∀(k:Nat) (s:Screen),eQ s→Pk (parts_ n r k s) (Good s)
 | 0,s,h=>.give ⟨h,.refl s⟩
 | k + 1,s,h=>.seq (.pixel _) fun p hp=>.seq (.num n) fun x _=>.seq (.num n) fun y _=>.seq (.num n) fun w _=>.seq (.num n) fun hh _=>.seq .must fun _ _=>.from (h.fill hp) (Pk.parts n r k _ (h.fill hp).1)
theorem Pk.risen (n:Nat) {s:Screen} (h:eQ s) (r:Rect):Pk (Sn44.risen n s r) (Good s):=.seq (.num 4) fun k _=>.seq .must fun _ _=>.seq (.pixel _) fun p hp=>.from (h.fill hp) (Pk.parts n r k _ (h.fill hp).1)
theorem Pk.smalls (col:Bool) (front:Nat) (t:Rect):∀(k:Nat) (s:Screen),eQ s→front < 256 ^ s.form.size→Pk (Sn44.smalls col front t k s) (Good s)
 | 0,s,h,_=>.give ⟨h,.refl s⟩
 | k + 1,s,h,hf=>by
  refine .seq (G:=fun p=>p < 256 ^ s.form.size) (.ite (fun _=>.pixel _) (fun _=>.give hf)) fun p hp=>.seq (.num 1) fun a _=>.seq (.num 1) fun b _=>.seq .must fun _ _=>?_
  have g:=h.fill (r:=⟨t.x + a / 16,t.y + a % 16,b / 16 + 1,b % 16 + 1⟩) hp
  exact .from g (Pk.smalls col front t k _ g.1 (by rw [g.2.2.2.1];exact hf))
abbrev Fi (s:Screen) (x:Screen × Nat × Nat):Prop:=Good s x.1∧x.2.1 < 256 ^ s.form.size∧x.2.2 < 256 ^ s.form.size
theorem Pk.tile (t:Rect) {back front:Nat} {s:Screen} (h:eQ s) (hb:back < 256 ^ s.form.size) (hf:front < 256 ^ s.form.size):Pk (Sn44.tile t back front s) (Fi s):=by
 refine .seq (.num 1) fun k _=>.ite (fun _=>.seq (.raw h t) fun s2 g=>.give ⟨g,hb,hf⟩) fun _=>?_
 refine .seq (G:=fun p=>p < 256 ^ s.form.size) (.ite (fun _=>.pixel _) (fun _=>.give hb)) fun b hb=>.seq (G:=fun p=>p < 256 ^ s.form.size) (.ite (fun _=>.pixel _) (fun _=>.give hf)) fun f hf=>?_
 have g:=h.fill (r:=t) hb
 refine .ite (fun _=>.give ⟨g,hb,hf⟩) fun _=>.seq (.num 1) fun n _=>.seq (.from g (Pk.smalls _ f t n _ g.1 (by rw [g.2.2.2.1];exact hf))) fun s2 g2=>.give ⟨g2,hb,hf⟩
theorem Pk.tiled:∀(l:List Rect) (back front:Nat) (s:Screen),eQ s→back < 256 ^ s.form.size→front < 256 ^ s.form.size→Pk (Sn44.tiled l back front s) (Good s)
 | [],_,_,s,h,_,_=>.give ⟨h,.refl s⟩
 | t :: l,b,f,s,h,hb,hf=>.seq (.tile t h hb hf) fun x g=>.from g.1 (Pk.tiled l _ _ _ g.1.1 (by rw [g.1.2.2.2.1];exact g.2.1) (by rw [g.1.2.2.2.1];exact g.2.2))
theorem Pk.rect {s:Screen} (h:eQ s):Pk (Sn44.rect s) (Good s):=by
 have z:0 < 256 ^ s.form.size:=Nat.pow_pos (by decide)
 refine .seq (.num 2) fun x _=>.seq (.num 2) fun y _=>.seq (.num 2) fun w _=>.seq (.num 2) fun hh _=>.seq (.num 4) fun c _=>.seq .must fun _ _=>?_
 exact .ite (fun _=>.raw h _) fun _=>.ite (fun _=>.copied h _) fun _=>.ite (fun _=>.risen 2 h _) fun _=>.ite (fun _=>.risen 1 h _) fun _=>.ite (fun _=>Pk.tiled _ _ _ _ h z z) fun _=>.fail
theorem Pk.entries:∀n,Pk (Sn44.entries n) (fun l=>l.length=n∧∀e∈l,qO e)
 | 0=>.give ⟨rfl,by simp⟩
 | n + 1=>.seq (.num 2) fun r hr=>.seq (.num 2) fun g hg=>.seq (.num 2) fun b hb=>.seq (Pk.entries n) fun l hl=>.give ⟨by rw [List.length_cons,hl.1],fun e he=>by
  rcases List.mem_cons.mp he with q | q
  ·exact ⟨r,g,b,q,hr,hg,hb⟩
  ·exact hl.2 e q⟩
theorem Pk.text (k:Nat):Pk (Sn44.text k) (fun _=>True):=.seq (.num 4) fun n _=>.seq .must fun _ _=>(Pk.part n).mono fun _ _=>trivial
def mM (v:Viewer):Prop:=v.stage=.runs∨v.screen.w≠0∨v.screen.h≠0→eQ v.screen∧v.screen.w≠0
theorem r8 (v:Viewer) (b:Bytes):(v.send b).screen=v.screen∧(v.send b).stage=v.stage∧(v.send b).input=v.input:=by
 unfold Viewer.send
 split <;> exact ⟨rfl,rfl,rfl⟩
theorem mM.send {v:Viewer} (h:mM v) (b:Bytes):mM (v.send b):=by
 unfold mM
 rw [(r8 v b).1,(r8 v b).2.1]
 exact h
theorem mM.ask {v:Viewer} (h:mM v) (b:Bool):mM (v.ask b):=h.send _
theorem mM.whole {v:Viewer} (h:mM v):mM v.whole:=by
 unfold Viewer.whole
 split
 ·exact mM.ask (v:={ v with updates:=(v.updates + 1) % 2 ^ 31 }) h true
 ·exact h
theorem x5 {v:Viewer} (h:mM v):Pk (message v) mM:=by
 have early:v.stage≠.runs→∀st,st≠.runs→mM { v with stage:=st }:=fun _ st q=>by
  rintro (e | e)
  ·exact absurd e q
  ·exact h (.inr e)
 unfold message
 cases e:v.stage with
 | version=>exact .seq (.part 12) fun b _=>.seq .must fun _ _=>.give ((early (by rw [e];decide) .ways (by decide)).send _)
 | ways=>exact .seq (.num 1) fun n _=>.ite (fun _=>.fail) fun _=>.seq (.part n) fun l _=>.seq .must fun _ _=>.give ((early (by rw [e];decide) .answer (by decide)).send _)
 | answer=>exact .seq (.num 4) fun n _=>.ite (fun _=>.give ((early (by rw [e];decide) .first (by decide)).send _)) fun _=>.fail
 | first=>
  refine .seq (.num 2) fun w _=>.seq (.num 2) fun hh _=>.seq .must fun _ hm=>.seq .form fun f hf=>.seq (.text 5) fun t _=>.give (mM.ask (mM.send (fun _=>⟨⟨hf,?_,?_,?_⟩,?_⟩) _) _)
  ·intro x hx
   rw [List.eq_of_mem_replicate hx]
   exact Nat.pow_pos (by decide)
  ·intro x hx
   rw [List.eq_of_mem_replicate hx]
   exact ⟨0,0,0,rfl,by decide,by decide,by decide⟩
  ·exact List.length_replicate
  ·rw [Bool.and_eq_true] at hm
   have:=of_decide_eq_true hm.1
   show w≠0
   omega
 | runs=>
  have hs:=h (.inl e)
  refine .ite (fun _=>.seq (.rect hs.1) fun s g=>.give (mM.whole (fun _=>⟨g.1,by show s.w≠0;rw [g.2.1];exact hs.2⟩))) fun _=>.seq (.num 1) fun k _=>?_
  refine .ite (fun _=>.seq (.num 1) fun _ _=>.seq (.num 2) fun n _=>.give (mM.whole (fun _=>hs))) fun _=>?_
  refine .ite (fun _=>.seq (.num 1) fun _ _=>.seq (.num 2) fun i _=>.seq (.num 2) fun n _=>.seq .must fun _ hm=>.seq (.entries n) fun l hl=>.give (fun _=>⟨⟨hs.1.form,hs.1.cells,fun x hx=>?_,?_⟩,hs.2⟩)) fun _=>?_
  ·rcases List.mem_append.mp hx with q | q
   ·exact hs.1.table x (List.mem_of_mem_take q)
   ·rcases List.mem_append.mp q with q | q
    ·exact hl.2 x q
    ·exact hs.1.table x (List.mem_of_mem_drop q)
  ·rw [Bool.and_eq_true] at hm
   have:=of_decide_eq_true hm.2
   show (v.screen.table.take i++(l++v.screen.table.drop (i + n))).length=256
   rw [List.length_append,List.length_append,List.length_take,List.length_drop,hl.1,hs.1.x4]
   omega
  ·refine .ite (fun _=>.give (fun _=>hs)) fun _=>.ite (fun _=>.seq (.num 3) fun _ _=>.seq (.text 6) fun t _=>.give (fun _=>hs)) fun _=>.fail
 | wrong k=>exact .fail
theorem oA:∀(n:Nat) (v:Viewer),mM v→r6 v.input→mM (taken n v)∧r6 (taken n v).input
 | 0,v,h,hb=>⟨h,hb⟩
 | n + 1,v,h,hb=>by
  have go:mM (match message v v.input with | .more=>v | .bad k=>{ v with stage:=.wrong k,input:=[] } | .ok u r=>if r.length < v.input.length then taken n { u with input:=r } else v)∧r6 (match message v v.input with | .more=>v | .bad k=>{ v with stage:=.wrong k,input:=[] } | .ok u r=>if r.length < v.input.length then taken n { u with input:=r } else v).input:=by
   cases e:message v v.input with
   | more=>exact ⟨h,hb⟩
   | bad k=>exact ⟨fun q=>h (q.elim (fun z=>by cases z) .inr),by simp [r6]⟩
   | ok u r=>
    obtain ⟨h1,h2⟩:=x5 h _ _ _ hb e
    show mM (if r.length < v.input.length then taken n { u with input:=r } else v)∧r6 (if r.length < v.input.length then taken n { u with input:=r } else v).input
    split
    ·exact oA n { u with input:=r } h1 h2
    ·exact ⟨h,hb⟩
  unfold taken
  cases e:v.stage with
  | wrong k=>exact ⟨fun q=>h (q.elim (fun z=>nomatch (show Stage.wrong k=.runs from z)) .inr),by simp [r6]⟩
  | _=>exact go
theorem CA {v:Viewer} {b:Bytes} (h:mM v) (hi:r6 v.input) (hb:r6 b):mM (come v b)∧r6 (come v b).input:=oA _ _ h fun c hc=>(List.mem_append.mp hc).elim (hi c) (hb c)
theorem mj:mM begun∧r6 begun.input:=⟨fun h=>by rcases h with h | h | h <;> exact absurd h (by decide),by simp [r6,begun]⟩
end Gd
end
section
namespace SV
open PySem PySem.Spec PyProof.Rows L2
open Sn44 (Viewer Screen Rect Stage)
open Mir (Mode Res)
section
variable {P:Program} {w:World} {K:PySem.W.Frag} {mg:Str→Option Value} {base:Heap} {A:bI}
theorem CB (T:Txt P w K mg A):FnAt P w K mg base "tell" 2 ["session"] (D5 A):=by
 refine T.uq.at_ (fun _ _ _ _ _ _ us hl=>match us,hl with | [_],_=>rfl) fun f fd F=>?_
 refine F.ok yF (fun vs H Q E h=>?_) (fun cdv AA outer sh H vs Q E hr h=>?_)
 ·obtain ⟨s,dx,x,v,b,M,rfl,_⟩:=h
  rfl
 ·obtain ⟨s,dx,x,v,b,M,rfl,hv,k⟩:=h
  have nd:=yF.nd
  refine ⟨_,ab (aI (i:=1) nd rfl (Or.inl rfl) (b0 (aa (aq (pv 0) rfl) (aa (aq (pv 0) rfl) ah))))
   (ab (aI (i:=2) nd rfl (Or.inl rfl) (b0 (aa (aq (pv 0) rfl) (aa (aq (pv 0) rfl) ah))))
   (ak (aW (aH je (aH je (aH je (b0 (aa (pG (j7 T) T.af hr (pv 0)) ah)) (pv 1)) (pv 2))
    (b0 (aa (bZ bj (by rfl) T.fQ PySem.boot_len (aa (aq (pv 0) rfl) ah)) (aa (bZ bj (by rfl) T.fQ PySem.boot_len (aa (aq (pv 0) rfl) ah)) ah))))))),?_⟩
  refine ⟨_,rfl,s,A.ag,dx,_,_,rfl,hv.bK,T.af,T.bG,rfl,_,rfl,s,A.ag,dx,_,_,rfl,hv.bK,T.af,T.b9,rfl,by show 2≤sizeLine;decide,fun l1 h1=>?_⟩
  obtain ⟨H1,e1,s1,g1⟩:∃H1,upd H l1 (.lst [V.int (x.k.columns:Int),V.int (x.k.rows:Int)])=H1∧bX H H1∧H1 l1=some (.lst [V.int (x.k.columns:Int),V.int (x.k.rows:Int)]):=⟨_,rfl,ay h1,ae⟩
  rw [e1]
  have v1:=hv.same s1
  refine ⟨_,rfl,s,A.ag,dx,_,_,rfl,v1.bK,T.af,T.dc,rfl,_,rfl,s,A.ag,dx,_,_,rfl,v1.bK,T.af,T.cA,rfl,by show 2≤sizeLine;decide,fun l2 h2=>?_⟩
  obtain ⟨H2,e2,s2,g2⟩:∃H2,upd H1 l2 (.lst [V.int (x.k.bells:Int),V.int (x.k.updates:Int)])=H2∧bX H1 H2∧H2 l2=some (.lst [V.int (x.k.bells:Int),V.int (x.k.updates:Int)]):=⟨_,rfl,ay h2,ae⟩
  rw [e2]
  have v2:=v1.same s2
  refine ⟨_,rfl,s,dx,_,rfl,v2.bK,rfl,s,dx,x,rfl,v2.bK,by show 1≤sizeLine;decide,fun l3 h3=>?_⟩
  rw [hv.yX]
  obtain ⟨H3,e3,s3,g3⟩:∃H3,upd H2 l3 (.lst [V.int (Sn44.codeOf v.stage)])=H3∧bX H2 H3∧H3 l3=some (.lst [V.int (Sn44.codeOf v.stage)]):=⟨_,rfl,ay h3,ae⟩
  rw [e3]
  refine ⟨_,rfl,l3,l1,_,_,rfl,rfl,g3,s3 _ _ (s2 _ _ g1),by show 1 + 2≤sizeLine;decide,fun l4 h4=>?_⟩
  obtain ⟨H4,e4,s4,g4⟩:∃H4,upd H3 l4 (.lst ([V.int (Sn44.codeOf v.stage)]++[V.int (x.k.columns:Int),V.int (x.k.rows:Int)]))=H4∧bX H3 H4∧H4 l4=some (.lst ([V.int (Sn44.codeOf v.stage)]++[V.int (x.k.columns:Int),V.int (x.k.rows:Int)])):=⟨_,rfl,ay h4,ae⟩
  rw [e4]
  refine ⟨_,rfl,l4,l2,_,_,rfl,rfl,g4,s4 _ _ (s3 _ _ g2),by show 3 + 2≤sizeLine;decide,fun l5 h5=>?_⟩
  obtain ⟨H5,e5,s5,g5⟩:∃H5,upd H4 l5 (.lst ([V.int (Sn44.codeOf v.stage)]++[V.int (x.k.columns:Int),V.int (x.k.rows:Int)]++[V.int (x.k.bells:Int),V.int (x.k.updates:Int)]))=H5∧bX H4 H5∧H5 l5=some (.lst ([V.int (Sn44.codeOf v.stage)]++[V.int (x.k.columns:Int),V.int (x.k.rows:Int)]++[V.int (x.k.bells:Int),V.int (x.k.updates:Int)])):=⟨_,rfl,ay h5,ae⟩
  rw [e5]
  have S5:=s1.trans (s2.trans (s3.trans (s4.trans s5)))
  have v5:=hv.same S5
  refine ⟨_,rfl,s,A.ag,dx,_,_,rfl,v5.bK,T.af,T.ck,rfl,x.k.cut,_,rfl,.inl (bV.of v5.core.cut.1),_,rfl,s,A.ag,dx,_,_,rfl,v5.bK,T.af,T.eg,rfl,x.k.name,_,rfl,.inl (bV.of v5.core.name.1),by show 2≤sizeLine;decide,fun l6 h6=>?_⟩
  rw [aU,aU]
  have s6:=ay (o:=.lst [V.int (v.cut.length:Nat),V.int (v.name.length:Nat)]) h6
  refine ⟨l5,l6,_,_,rfl,rfl,s6 _ _ g5,ae,by show 5 + 2≤sizeLine;decide,fun l7 h7=>?_⟩
  have s7:=ay (o:=.lst ([V.int (Sn44.codeOf v.stage)]++[V.int (x.k.columns:Int),V.int (x.k.rows:Int)]++[V.int (x.k.bells:Int),V.int (x.k.updates:Int)]++[V.int (v.cut.length:Nat),V.int (v.name.length:Nat)])) h7
  refine k _ l7 ((S5.trans s6).free h7) ?_ (S5.trans (s6.trans s7))
  rw [ae,hv.core.cols,hv.core.rows,hv.core.bells,hv.core.jt]
  rfl
end
def gO (p:Nat) (z:Nat × Nat):Nat:=(p / 2 ^ z.2 % (z.1 + 1) * 255 + z.1 / 2) / z.1
theorem Bv {p m sft:Nat} (h:Gd.xY (m,sft)) :
  (255 * Builtin.bitAnd ((p:Int) / 2 ^ ((sft:Int)).toNat) (m:Int) + (m:Int) / 2) / (m:Int)=((gO p (m,sft):Nat):Int):=by
 obtain ⟨k,h1,h2,h3,_⟩:=h
 have e:(p:Int) / 2 ^ ((sft:Int)).toNat=((p / 2 ^ sft:Nat):Int):=by
  rw [Int.toNat_natCast,Int.natCast_ediv,Int.natCast_pow]
  rfl
 have h3':m + 1=2 ^ k:=h3
 have e2:Builtin.bitAnd ((p / 2 ^ sft:Nat):Int) (m:Int)=((p / 2 ^ sft % (m + 1):Nat):Int):=by
  have:=Bits.lM (x:=((p / 2 ^ sft:Nat):Int)) k (Int.natCast_nonneg _)
  rw [h3',Int.natCast_emod,Int.natCast_pow]
  have t1:((m + 1:Nat):Int)=((2 ^ k:Nat):Int):=by rw [h3']
  rw [Int.natCast_pow] at t1
  have t2:((2:Nat):Int) ^ k=2 ^ k:=rfl
  rw [show (m:Int)=2 ^ k - 1 by omega]
  exact this
 rw [e,e2]
 unfold gO
 show _=(((p / 2 ^ sft % (m + 1) * 255 + m / 2) / m:Nat):Int)
 rw [Int.natCast_ediv,Int.natCast_add,Int.natCast_mul,Int.natCast_ediv,Int.mul_comm]
 rfl
theorem C_ (a b c:Nat):Sn44.high [a,b,c]=65536 * a + (256 * b + c):=by
 show 256 * (256 * (256 * 0 + a) + b) + c=_
 omega
section
variable {P:Program} {w:World} {K:PySem.W.Frag} {mg:Str→Option Value} {base:Heap} {A:bI}
def Ao (A:bI):Sp:=fun vs H Q _=>∃(a:Addr) (bits:Nat) (f:Sn44.Form) (p:Nat),vs=[.ref a,.int (p:Int)]∧jo A H a bits f∧f.maxes.length=f.shifts.length∧(∀z∈f.maxes.zip f.shifts,Gd.xY z)∧
 ∀H',bX H H'→Q (.int (Sn44.high ((f.maxes.zip f.shifts).map (gO p)):Nat)) H'
theorem nL (T:Txt P w K mg A):FnAt P w K mg base "colour_by_parts" 1 ["form","pixel"] (Ao A):=by
 refine T.e_.at_ (fun _ _ _ _ _ _ us hl=>match us,hl with | [_,_],_=>rfl) fun f fd F=>?_
 refine F.ok ji (fun vs H Q E h=>?_) (fun cdv AA outer s H vs Q E hr h=>?_)
 ·obtain ⟨a,bits,f,p,rfl,_⟩:=h
  rfl
 ·obtain ⟨a,bits,f,p,rfl,⟨dx,gr,sh,h1,h2,h3,h4⟩,hl,hz,k⟩:=h
  have nd:=ji.nd
  refine ⟨_,ab (aI (i:=2) nd rfl (Or.inl rfl) ai)
   (ab (kE PassesOwn.never rfl (CS rfl T.vQ (aa (aq (pv 0) rfl) (aa (aq (pv 0) rfl) ah))) (wI rfl (kh (di (i:=3) nd rfl (Or.inl rfl)) (kh (di (i:=4) nd rfl (Or.inl rfl)) tN)))
    (ab (aI (i:=5) nd rfl (Or.inl rfl) (aH gR (aH tO (pv 1) (pv 4)) (pv 3)))
    (ak (aI (i:=2) nd rfl (Or.inl rfl) (aH bA (aH gc (pv 2) ai) (aH nU (aH bA (aH gc ai (pv 5)) (aH nU (pv 3) ai)) (pv 3)))))))
   (ak (aW (pv 2)))),?_⟩
  refine ⟨_,rfl,a,A.Form,dx,_,_,rfl,h1,T.bB,T.dD,rfl,_,rfl,a,A.Form,dx,_,_,rfl,h1,T.bB,T.eS,rfl,gr,sh,_,_,rfl,ju.of h2,ju.of h3,?_⟩
  refine Bd (K:=K) (a:=gr) (b:=sh) (xs:=nI f.maxes) (ys:=nI f.shifts) (fun i σ H'=>∃u v x:Option V,σ=[some (.ref a),some (.int (p:Int)),some (.int (Sn44.high (((f.maxes.zip f.shifts).map (gO p)).take i):Nat)),u,v,x]∧bX H H')
   (by rw [aU,aU,hl]) ⟨none,none,none,rfl,bX.refl H⟩ (fun i σ H' _ ⟨_,_,_,_,s1⟩=>⟨ju.of (s1 _ _ h2),ju.of (s1 _ _ h3)⟩) ?_ ?_
  ·rintro i x y σ H' TT hx hy ⟨u,v,xx,rfl,s1⟩ hT
   obtain ⟨m,hm,rfl⟩:=ke hx
   obtain ⟨n,hn,rfl⟩:=ke hy
   have sT:=ay (o:=.tup [V.int (m:Int),V.int (n:Int)]) hT
   have hzz:(f.maxes.zip f.shifts)[i]?=some (m,n):=by rw [List.getElem?_zip_eq_some];exact ⟨hm,hn⟩
   have ok:=hz _ (List.mem_of_getElem? hzz)
   have hm1:1≤m∧m≤255:=by
    obtain ⟨k,k1,k2,k3,_⟩:=ok
    have k3':m + 1=2 ^ k:=k3
    have:k=1∨k=2∨k=3∨k=4∨k=5∨k=6∨k=7∨k=8:=by omega
    rcases this with rfl | rfl | rfl | rfl | rfl | rfl | rfl | rfl <;> omega
   refine ⟨TT,_,rfl,ju.of ae,rfl,_,_,rfl,_,_,rfl,rfl,?_⟩
   refine ⟨_,rfl,_,rfl,_,_,rfl,rfl,by show (0:Int)≤(n:Int);omega,_,rfl,_,_,rfl,rfl,?_⟩
   refine ⟨_,rfl,_,_,rfl,rfl,.inr ⟨by decide,by decide⟩,_,rfl,_,_,rfl,rfl,.inl ⟨by decide,by decide⟩,_,rfl,_,_,rfl,rfl,⟨by decide,by decide⟩,_,_,rfl,rfl,_,rfl,_,_,rfl,rfl,⟨by show (0:Int) < (m:Int);omega,by show (m:Int) < 1073741824;omega⟩,_,_,rfl,rfl,?_⟩
   refine ⟨some (.int (m:Int)),some (.int (n:Int)),some (.int (Builtin.bitAnd ((p:Int) / 2 ^ ((n:Int)).toNat) (m:Int))),?_,s1.trans sT⟩
   have e:((f.maxes.zip f.shifts).map (gO p)).take (i + 1)=((f.maxes.zip f.shifts).map (gO p)).take i++[gO p (m,n)]:=take_snoc (by rw [List.getElem?_map,hzz];rfl)
   rw [e,pH]
   have e3:(Sn44.high (((f.maxes.zip f.shifts).map (gO p)).take i):Int) * 256 + (255 * Builtin.bitAnd ((p:Int) / 2 ^ ((n:Int)).toNat) (m:Int) + (m:Int) / 2) / (m:Int)=((256 * Sn44.high (((f.maxes.zip f.shifts).map (gO p)).take i) + gO p (m,n):Nat):Int):=by
    rw [Bv ok]
    omega
   rw [← e3]
   rfl
  ·rintro σ H' ⟨u,v,x,rfl,s1⟩
   rw [List.take_of_length_le (by rw [List.length_map,List.length_zip,aU];omega)]
   exact ⟨_,rfl,k _ s1⟩
def Ap (K:PySem.W.Frag):Sp:=fun vs H Q _=>∃(a t:Addr) (ts:List V) (p:Nat) (e:List Nat),vs=[.ref a,.int (p:Int)]∧H a=some (.lst ts)∧ts[p]?=some (.ref t)∧H t=some (.tup (nI e))∧
 Q (.int (Sn44.high (e.map (· / 256)):Nat)) H
theorem nM (T:Txt P w K mg A):FnAt P w K mg base "colour_by_table" 1 ["table","pixel"] (Ap K):=by
 refine T.fe.at_ (fun _ _ _ _ _ _ us hl=>match us,hl with | [_,_],_=>rfl) fun f fd F=>?_
 refine F.ok jj (fun vs H Q E h=>?_) (fun cdv AA outer s H vs Q E hr h=>?_)
 ·obtain ⟨a,t,ts,p,e,rfl,_⟩:=h
  rfl
 ·obtain ⟨a,t,ts,p,e,rfl,h1,h2,h3,k⟩:=h
  have nd:=jj.nd
  refine ⟨_,ab (aI (i:=2) nd rfl (Or.inl rfl) ai)
   (ab (kE PassesOwn.never rfl (AH (cN bq (pv 0) (pv 1) (fun _ _=>rfl))) (di (i:=3) nd rfl (Or.inl rfl))
    (ak (aI (i:=2) nd rfl (Or.inl rfl) (aH bA (aH gc (pv 2) ai) (aH nU (pv 3) ai)))))
   (ak (aW (pv 2)))),?_⟩
  refine ⟨_,rfl,_,rfl,a,_,_,_,rfl,rfl,bV.of h1,at_of (j:=p) rfl h2,t,rfl,⟨_,ju.of h3⟩,yd (K:=K) (a:=t) (xs:=nI e) (fun j σ H'=>H'=H∧∃u:Option V,σ=[some (.ref a),some (.int (p:Int)),some (.int (Sn44.high ((e.map (· / 256)).take j):Nat)),u])
   ⟨rfl,none,rfl⟩ (fun j σ H' _ ⟨q,_⟩=>by rw [q];exact ju.of h3) ?_ ?_⟩
  ·rintro j y σ H' hj ⟨rfl,u,rfl⟩
   obtain ⟨c,hc,rfl⟩:=ke hj
   refine ⟨_,rfl,_,_,rfl,rfl,.inr ⟨by decide,by decide⟩,_,rfl,_,_,rfl,rfl,⟨by decide,by decide⟩,_,_,rfl,rfl,rfl,some (.int (c:Int)),?_⟩
   rw [take_snoc (x:=c / 256) (by rw [List.getElem?_map,hc];rfl),pH]
   have e3:(Sn44.high ((e.map (· / 256)).take j):Int) * 256 + (c:Int) / 256=((256 * Sn44.high ((e.map (· / 256)).take j) + c / 256:Nat):Int):=by omega
   rw [← e3]
   rfl
  ·rintro σ H' ⟨rfl,u,rfl⟩
   rw [List.take_of_length_le (by rw [List.length_map,aU];exact Nat.le_refl _)]
   exact ⟨_,rfl,k⟩
end
theorem uO {f:Sn44.Form} {tb:List (List Nat)} {p:Nat} (hp:f.parts=true) (h1:f.maxes.length=3) (h2:f.shifts.length=3):Sn44.high ((f.maxes.zip f.shifts).map (gO p))=Sn44.colour f tb p:=by
 obtain ⟨size,big,parts,maxes,shifts⟩:=f
 match maxes,h1,shifts,h2 with
 | [a,b,c],_,[d,e,g],_=>
  obtain rfl:parts=true:=hp
  show Sn44.high [gO p (a,d),gO p (b,e),gO p (c,g)]=_
  rw [C_]
  rfl
theorem uP {f:Sn44.Form} {tb:List (List Nat)} {p:Nat} (hp:f.parts=false) (h1:p < tb.length) (h2:∀e∈tb,Gd.qO e):Sn44.high ((tb.getD p []).map (· / 256))=Sn44.colour f tb p:=by
 obtain ⟨a,b,c,e,_⟩:=h2 tb[p] (List.getElem_mem h1)
 have gd:∀d,tb.getD p d=[a,b,c]:=fun d=>by
  rw [List.getD_eq_getElem?_getD,List.getElem?_eq_getElem h1,Option.getD_some,e]
 unfold Sn44.colour
 rw [hp]
 simp only [Bool.false_eq_true,if_false,gd]
 show Sn44.high [a / 256,b / 256,c / 256]=65536 * (a / 256) + (256 * (b / 256) + c / 256)
 rw [C_]
section
variable {P:Program} {w:World} {K:PySem.W.Frag} {mg:Str→Option Value} {base:Heap} {A:bI}
structure Fj (A:bI) (H:Hp) (fa tA ra:Addr) (bits:Nat) (f:Sn44.Form) (ts:List Addr) (tb:List (List Nat)) (px:List Nat):Prop where
 form:jo A H fa bits f
 Ei:Gd.xZ f
 tab:H tA=some (.lst (ts.map V.ref))
 tl:ts.length=tb.length
 x4:tb.length=256
 GV:∀(i:Nat) (t:Addr),ts[i]?=some t→H t=some (.tup (nI (tb.getD i [])))
 ent:∀e∈tb,Gd.qO e
 row:H ra=some (.lst (nI px))
 E5:px.length≤1024
 kJ:∀p∈px,p < 256 ^ f.size
def Aq (A:bI):Sp:=fun vs H Q _=>∃(fa tA ra:Addr) (bits:Nat) (f:Sn44.Form) (ts:List Addr) (tb:List (List Nat)) (px:List Nat),vs=[.ref fa,.ref tA,.ref ra]∧Fj A H fa tA ra bits f ts tb px∧
 ∀H' q,H q=none→H' q=some (.lst (nI (px.map (Sn44.colour f tb))))→bX H H'→Q (.ref q) H'
theorem sU (T:Txt P w K mg A):FnAt P w K mg base "colours_of" 2 ["form","table","pixels"] (Aq A):=by
 refine T.iQ.at_ (fun _ _ _ _ _ _ us hl=>match us,hl with | [_,_,_],_=>rfl) fun f fd F=>?_
 refine F.ok mS (fun vs H Q E h=>?_) (fun cdv AA outer s H vs Q E hr h=>?_)
 ·obtain ⟨fa,tA,ra,bits,f,ts,tb,px,rfl,_⟩:=h
  rfl
 ·obtain ⟨fa,tA,ra,bits,f,ts,tb,px,rfl,I,k⟩:=h
  have nd:=mS.nd
  obtain ⟨dx,gr,sh,h1,h2,h3,h4⟩:=id I.form
  refine ⟨_,ab (aX (ka (aq (pv 0) rfl)) (ak (aW (rf (own:=[("pixel",3)]) rfl nd (qA (pv 2)) (jf rfl) (fun _ _ _ _ _=>di (i:=3) nd rfl (Or.inl rfl)) (fun _ _ _ _ _=>kH)
    (fun _ _ _ _ _=>aK (nL T) hr rfl (aa (pv 0) (aa (pv 3) ah)))))) aP)
   (ak (aW (rf (own:=[("pixel",3)]) rfl nd (qA (pv 2)) (jf rfl) (fun _ _ _ _ _=>di (i:=3) nd rfl (Or.inl rfl)) (fun _ _ _ _ _=>kH)
    (fun _ _ _ _ _=>aK (nM T) hr rfl (aa (pv 1) (aa (pv 3) ah)))))),?_⟩
  refine ⟨_,rfl,fa,A.Form,dx,_,_,rfl,h1,T.bB,T.c_,rfl,_,rfl,?_⟩
  show if f.parts=true then _ else _
  have rl:=I.E5
  by_cases c:f.parts=true
  ·rw [if_pos c]
   refine ⟨_,rfl,ra,rfl,⟨_,bV.of I.row⟩,fun D hD=>?_⟩
   refine yp (K:=K) (a:=ra) (xs:=nI px) (fun i H'=>H' D=some (.lst (nI ((px.map (Sn44.colour f tb)).take i)))∧bX H H') ⟨ae,ay hD⟩ (fun i H' _ ⟨_,s1⟩=>bV.of (s1 _ _ I.row)) ?_ ?_
   ·rintro i x H' hi ⟨g1,g2⟩
    obtain ⟨p,hp,rfl⟩:=ke hi
    refine ⟨rfl,kY ?_⟩
    refine ⟨_,rfl,_,rfl,fa,bits,f,p,rfl,I.form.keeps g2,by rw [I.Ei.2.1,I.Ei.2.2.1],I.Ei.2.2.2.2 c,fun H2 s2=>⟨_,s2 _ _ g1,?_,?_,?_⟩⟩
    ·rw [aU,sizeLine_eq,List.length_take,List.length_map]
     omega
    ·rw [ae,take_snoc (x:=Sn44.colour f tb p) (by rw [List.getElem?_map,hp];rfl),fU,← uO c I.Ei.2.1 I.Ei.2.2.1]
     rfl
    ·intro b o e
     rw [aj (aE e hD)]
     exact s2 _ _ (g2 _ _ e)
   ·rintro H' ⟨g1,g2⟩
    rw [List.take_of_length_le (by rw [List.length_map,aU];exact Nat.le_refl _)] at g1
    exact k H' D hD g1 g2
  ·rw [if_neg c]
   have c':f.parts=false:=by cases e:f.parts with | true=>exact absurd e c | false=>rfl
   refine ⟨_,rfl,ra,rfl,⟨_,bV.of I.row⟩,fun D hD=>?_⟩
   refine yp (K:=K) (a:=ra) (xs:=nI px) (fun i H'=>H' D=some (.lst (nI ((px.map (Sn44.colour f tb)).take i)))∧bX H H') ⟨ae,ay hD⟩ (fun i H' _ ⟨_,s1⟩=>bV.of (s1 _ _ I.row)) ?_ ?_
   ·rintro i x H' hi ⟨g1,g2⟩
    obtain ⟨p,hp,rfl⟩:=ke hi
    have hp2:p < 256:=by
     have:=I.kJ p (List.mem_of_getElem? hp)
     rw [I.Ei.1 c'] at this
     exact this
    have hpt:p < ts.length:=by rw [I.tl,I.x4];exact hp2
    refine ⟨rfl,kY ?_⟩
    refine ⟨_,rfl,_,rfl,tA,ts[p],_,p,_,rfl,g2 _ _ I.tab,nA (List.getElem?_eq_getElem hpt),g2 _ _ (I.GV p _ (List.getElem?_eq_getElem hpt)),_,g1,?_,?_,?_⟩
    ·rw [aU,sizeLine_eq,List.length_take,List.length_map]
     omega
    ·rw [ae,take_snoc (x:=Sn44.colour f tb p) (by rw [List.getElem?_map,hp];rfl),fU,← uP c' (by rw [I.x4];exact hp2) I.ent]
     rfl
    ·intro b o e
     rw [aj (aE e hD)]
     exact g2 _ _ e
   ·rintro H' ⟨g1,g2⟩
    rw [List.take_of_length_le (by rw [List.length_map,aU];exact Nat.le_refl _)] at g1
    exact k H' D hD g1 g2
def CC (v:Viewer) (y room:Int):Sn44.Ans:=if Sn44.within y 1023=false∨Sn44.within room 1024=false then ⟨-2,[]⟩ else if (v.screen.h:Int)≤y then ⟨-3,[]⟩ else if room < (v.screen.w:Int) then ⟨-1,[]⟩ else
  ⟨(v.screen.w:Nat),(List.range v.screen.w).map fun x=>Sn44.colour v.screen.form v.screen.table (v.screen.at_ x y.toNat)⟩
def Ar (A:bI):Sp:=fun vs H Q _=>∃s dx x v b M y room,vs=[.ref s,.int y,.int room]∧VI A H s dx x v b M∧Gd.mM v∧Tells H (CC v y room) Q
theorem D6 {v:Viewer} {Pic:List (List Nat)} {y:Nat} (R:Mir.Rows v.screen.w v.screen.h Pic) (hc:v.screen.cells=Pic.flatten) (hy:y < v.screen.h) (g:Nat→Nat) :
  (Pic.getD y []).map g=(List.range v.screen.w).map fun x=>g (v.screen.at_ x y):=by
 have hl:(Pic.getD y []).length=v.screen.w:=R.row _ (Mir.getD_mem (by rw [R.len];exact hy))
 apply List.ext_getElem?
 intro k
 rw [List.getElem?_map,List.getElem?_map]
 by_cases c:k < v.screen.w
 ·rw [List.getElem?_range c,List.getElem?_eq_getElem (by omega)]
  show some (g _)=some (g (v.screen.at_ k y))
  unfold Sn44.Screen.at_
  rw [hc,Mir.qF R hy c,List.getD_eq_getElem?_getD (l:=Pic.getD y []),List.getElem?_eq_getElem (by omega)]
  rfl
 ·rw [List.getElem?_eq_none (by omega),List.getElem?_eq_none (by rw [List.length_range];omega)]
  rfl
theorem wk (T:Txt P w K mg A):FnAt P w K mg base "show_row" 3 ["session","y","most"] (Ar A):=by
 refine T.kU.at_ (fun _ _ _ _ _ _ us hl=>match us,hl with | [_,_,_],_=>rfl) fun f fd F=>?_
 refine F.ok vP (fun vs H Q E h=>?_) (fun cdv AA outer sh H vs Q E hr h=>?_)
 ·obtain ⟨s,dx,x,v,b,M,y,room,rfl,_⟩:=h
  rfl
 ·obtain ⟨s,dx,x,v,b,M,y,room,rfl,hv,ok,k⟩:=h
  refine ⟨_,ab (aX (kD (PW.pt (o7 (gn fW fW ai (pv 1) (a_ T.fP rfl)) (nQ (gn fW fW ai (pv 2) (a_ T.gK rfl)))))) (ak (aW (b0 (aa (a_ T.b_ rfl) ah)))) aP)
   (ab (aX (aQ AM (pv 1) (aq (pv 0) rfl) (aT _)) (ak (aW (b0 (aa (a_ T.h_ rfl) ah)))) aP)
   (ab (aX (aQ yi (pv 2) (aq (pv 0) rfl) (aT _)) (ak (aW (b0 (aa (a_ T.mE rfl) ah)))) aP)
   (ak (aW (aK (nJ T) (hr.mono (by decide)) rfl (aa (aK (sU T) hr rfl (aa (aq (pv 0) rfl) (aa (aq (pv 0) rfl) (aa (cN bq (aq (pv 0) rfl) (pv 1) (fun _ _=>rfl)) ah)))) ah)))))),?_⟩
  unfold CC at k
  have hs:=hv.bK
  have hC:=hv.core
  refine xX (fun Q h=>tI rfl h) (fun Q h=>tI rfl h) ?_
  show if (!(Sn44.within y 1023 && Sn44.within room 1024))=true then _ else _
  cases c:Sn44.within y 1023 && Sn44.within room 1024 with
  | false=>
   rw [if_pos (by cases q:Sn44.within y 1023 with | false=>exact .inl rfl | true=>rw [q,Bool.true_and] at c;exact .inr c)] at k
   exact cG ⟨by show 1≤sizeLine;decide,fun p hp=>k _ p hp ae (ay hp)⟩
  | true=>
   rw [Bool.and_eq_true] at c
   rw [if_neg (by rw [c.1,c.2];decide)] at k
   unfold Sn44.within at c
   simp only [Bool.and_eq_true,decide_eq_true_eq] at c
   obtain ⟨n,rfl⟩:∃n:Nat,y=(n:Int):=⟨y.toNat,by omega⟩
   refine cE ⟨_,rfl,_,rfl,s,A.ag,dx,_,_,rfl,hs,T.af,T.b9,rfl,_,_,rfl,rfl,_,rfl,?_⟩
   show if decide ((x.k.rows:Int)≤(n:Int))=true then _ else _
   rw [hC.rows]
   by_cases c1:(v.screen.h:Int)≤(n:Int)
   ·rw [decide_eq_true c1]
    rw [if_pos c1] at k
    exact cG ⟨by show 1≤sizeLine;decide,fun p hp=>k _ p hp ae (ay hp)⟩
   ·rw [decide_eq_false c1]
    rw [if_neg c1] at k
    refine cE ⟨_,rfl,_,rfl,s,A.ag,dx,_,_,rfl,hs,T.af,T.bG,rfl,_,_,rfl,rfl,_,rfl,?_⟩
    show if decide (room < (x.k.columns:Int))=true then _ else _
    rw [hC.cols]
    by_cases c2:room < (v.screen.w:Int)
    ·rw [decide_eq_true c2]
     rw [if_pos c2] at k
     exact cG ⟨by show 1≤sizeLine;decide,fun p hp=>k _ p hp ae (ay hp)⟩
    ·rw [decide_eq_false c2]
     rw [if_neg c2] at k
     have hn:n < v.screen.h:=by omega
     obtain ⟨sok,wne⟩:=ok (.inr (.inr (by omega)))
     obtain ⟨rs,Pic,pf,R,hc⟩:=hC.pic
     obtain ⟨ts,t1,t2⟩:=hC.tab
     obtain ⟨fa,bits,f1,f2,f3,f4⟩:=hC.form wne
     have rsl:rs.length=v.screen.h:=by rw [pf.rows.at_.len,R.len]
     obtain ⟨r,hr'⟩:∃r,rs[n]?=some r:=⟨_,List.getElem?_eq_getElem (by omega)⟩
     have hrow:=pf.rows.at_.at_ n r hr'
     have hrl:(Pic.getD n []).length=v.screen.w:=R.row _ (Mir.getD_mem (by rw [R.len];exact hn))
     have side:=hC.side
     refine cE ⟨_,rfl,s,A.ag,dx,_,_,rfl,hs,T.af,T.aL,rfl,_,rfl,s,A.ag,dx,_,_,rfl,hs,T.af,T.da,rfl,_,rfl,s,A.ag,dx,_,_,rfl,hs,T.af,T.cn,rfl,_,rfl,x.k.screen,_,_,_,rfl,rfl,bV.of pf.lst,at_of (j:=n) rfl (nA hr'),?_⟩
     refine ⟨fa,x.k.table,r,bits,v.screen.form,ts,v.screen.table,Pic.getD n [],by rw [f1];rfl,⟨f2.at_,sok.form,t1,t2.len,sok.x4,fun i t q=>(t2.at_ i t q).1,sok.table,hrow,by omega,fun p hp=>sok.cells p ?_⟩,fun H2 q hq g2 s2=>?_⟩
     ·rw [hc]
      exact List.mem_flatten.mpr ⟨_,Mir.getD_mem (by rw [R.len];exact hn),hp⟩
     ·refine ⟨q,_,rfl,g2,by rw [List.length_map];omega,fun H3 q3 hq3 g3 s3=>?_⟩
      refine k _ q3 (s2.free hq3) ?_ (s2.trans s3)
      rw [g3,List.length_map,hrl,D6 R hc hn]
      rfl
end
end SV
end
section
namespace Fl
open PyFlat
theorem uQ:∀a b:List (List (List Int)),put (a++b)=put a++put b
 | [],b=>rfl
 | c :: a,b=>by
  show put1 c++put (a++b)=(put1 c++put a)++put b
  rw [uQ a b,List.append_assoc]
def run {S:Type} (step:S→List (List Int)→S × List Int):S→List (List (List Int))→S
 | s,[]=>s
 | s,c :: r=>run step (step s c).1 r
theorem wm {S:Type} (step:S→List (List Int)→S × List Int):∀(a:List (List (List Int))) (s:S) (c:List (List Int)),run step s (a++[c])=(step (run step s a) c).1
 | [],s,c=>rfl
 | d :: a,s,c=>wm step a (step s d).1 c
theorem qb {S:Type} (step:S→List (List Int)→S × List Int):∀(a:List (List (List Int))) (s:S) (c:List (List Int)),played step s (a++[c])=played step s a++[(step (run step s a) c).2]
 | [],s,c=>rfl
 | d :: a,s,c=>by
  show (step s d).2 :: played step (step s d).1 (a++[c])=_
  rw [qb step a]
  rfl
theorem As (l:List (List Int)) (a:List Int):told (l++[a])=told l++((a.length:Int) :: a):=by
 unfold told
 rw [List.flatMap_append]
 simp
theorem CD (l a:List (List Int)):(told l).length≤(told (l++a)).length:=by
 unfold told
 rw [List.flatMap_append,List.length_append]
 omega
theorem r9 {S:Type} (step:S→List (List Int)→S × List Int):∀(a b:List (List (List Int))) (s:S),played step s (a++b)=played step s a++played step (run step s a) b
 | [],b,s=>rfl
 | d :: a,b,s=>by
  show (step s d).2 :: played step (step s d).1 (a++b)=_
  rw [r9 step a b]
  rfl
theorem len0 {α:Type} {l:List α} (h:l.length=0):l=[]:=List.length_eq_zero_iff.mp h
theorem D7 {α:Type} {l:List α} (h:l.length=1):∃a,l=[a]:=match l,h with | [a],_=>⟨a,rfl⟩
theorem Fm {α:Type} {l:List α} (h:l.length=2):∃a b,l=[a,b]:=match l,h with | [a,b],_=>⟨a,b,rfl⟩
theorem Gu {α:Type} {l:List α} (h:l.length=3):∃a b c,l=[a,b,c]:=match l,h with | [a,b,c],_=>⟨a,b,c,rfl⟩
inductive Shaped:List (List Int)→Prop
 | begin_:Shaped [[0]]
 | input (r:List Int):Shaped [[1],r]
 | output (x:Int):Shaped [[2,x]]
 | key (x y:Int):Shaped [[3,x,y]]
 | point (x y z:Int):Shaped [[4,x,y,z]]
 | row (x y:Int):Shaped [[5,x,y]]
 | cut (x:Int):Shaped [[6,x]]
 | told:Shaped [[7]]
theorem shaped {c:List (List Int)} (h:okCall PySn44.shape c):Shaped c:=by
 obtain ⟨p,a,xs,rfl,e⟩:=h
 unfold PySn44.shape at e
 repeat' split at e
 all_goals first | (cases e;done) | skip
 all_goals (rename_i hp;subst hp;injection e with e;injection e with e1 e2)
 ·rw [len0 e1.symm,len0 e2.symm];exact .begin_
 ·obtain ⟨r,rfl⟩:=D7 e2.symm
  rw [len0 e1.symm];exact .input r
 ·obtain ⟨x,rfl⟩:=D7 e1.symm
  rw [len0 e2.symm];exact .output x
 ·obtain ⟨x,y,rfl⟩:=Fm e1.symm
  rw [len0 e2.symm];exact .key x y
 ·obtain ⟨x,y,z,rfl⟩:=Gu e1.symm
  rw [len0 e2.symm];exact .point x y z
 ·obtain ⟨x,y,rfl⟩:=Fm e1.symm
  rw [len0 e2.symm];exact .row x y
 ·obtain ⟨x,rfl⟩:=D7 e1.symm
  rw [len0 e2.symm];exact .cut x
 ·rw [len0 e1.symm,len0 e2.symm];exact .told
theorem wo {r:List Int} (h:PyInside.call PySn44.bound [[1],r]=true):r.length≤30900∧∀z∈r,0≤z∧z≤255:=by
 simp only [PyInside.call,PySn44.bound,PyInside.each,PyInside.lists,PyInside.within,Bool.and_eq_true,decide_eq_true_eq,List.all_eq_true,if_pos,if_neg,Bool.true_and,Bool.and_true,reduceCtorEq,Int.reduceEq,if_false,if_true] at h
 exact ⟨h.1.2,h.2⟩
theorem D8 {x y:Int} (h:PyInside.call PySn44.bound [[3,x,y]]=true):0≤x∧x≤4294967295:=by
 simp only [PyInside.call,PySn44.bound,PyInside.each,PyInside.lists,PyInside.within,Bool.and_eq_true,decide_eq_true_eq,Int.reduceEq,if_false,if_true,Bool.and_true] at h
 exact h.1
end Fl
end
section
namespace SV
open PySem PySem.Spec PyProof.Rows L2
open Sn44 (Viewer Screen Rect Stage)
open Mir (Mode Res)
def NF:HO→Prop
 | .lE _ _=>False
 | _=>True
def ky (H H':Hp):Prop:=∀b o,H b=some o→NF o→H' b=some o
theorem Fz.n {H H':Hp} {M:List Addr} {b:Addr} {o:HO} (f:Fz H M b o) (k:ky H H') (h:NF o):Fz H' M b o:=⟨k _ _ f.1 h,f.2⟩
theorem iy.n {A:bI} {H H':Hp} {M:List Addr} {a:Addr} {bits:Nat} {f:Sn44.Form} (h:iy A H M a bits f) (k:ky H H'):iy A H' M a bits f:=by
 obtain ⟨dx,gr,sh,h1,h2,h3,h4⟩:=h
 exact ⟨dx,gr,sh,h1.n k trivial,h2.n k trivial,h3.n k trivial,h4⟩
theorem cq.n {H H':Hp} {rs:List Addr} {P:List (List Nat)} (h:cq H rs P) (k:ky H H'):cq H' rs P:=⟨h.len,fun i r e=>k _ _ (h.at_ i r e) trivial⟩
theorem me.n {H H':Hp} {M:List Addr} {rs:List Addr} {P:List (List Nat)} (h:me H M rs P) (k:ky H H'):me H' M rs P:=⟨h.at_.n k,h.fz⟩
theorem ku.n {H H':Hp} {M:List Addr} {a:Addr} {rs:List Addr} {P:List (List Nat)} (h:ku H M a rs P) (k:ky H H'):ku H' M a rs P:=⟨k _ _ h.lst trivial,h.rows.n k,h.mem⟩
theorem TabAt.n {H H':Hp} {M:List Addr} {ts:List Addr} {tb:List (List Nat)} (h:TabAt H M ts tb) (k:ky H H'):TabAt H' M ts tb:=⟨h.len,fun i t e=>(h.at_ i t e).n k trivial⟩
theorem Core.n {A:bI} {H H':Hp} {M:List Addr} {s:Addr} {x:SK} {v:Viewer} (C:Core A H M s x v) (k:ky H H'):Core A H' M s x v:=by
 obtain ⟨rs,P,p,R,c⟩:=C.pic
 obtain ⟨ts,t1,t2⟩:=C.tab
 refine { wait:=k _ _ C.wait trivial,gN:=C.gN,cols:=C.cols,rows:=C.rows,side:=C.side,cut:=C.cut.n k trivial,name:=C.name.n k trivial,bells:=C.bells,jt:=C.jt,left:=C.left,pic:=⟨rs,P,p.n k,R,c⟩,tab:=⟨ts,k _ _ t1 trivial,t2.n k⟩,form:=fun q=>?_,nd:=C.nd,mem:=C.mem }
 obtain ⟨fa,bits,f1,f2,f3⟩:=C.form q
 exact ⟨fa,bits,f1,f2.n k,f3⟩
theorem dY.n {A:bI} {H H':Hp} {x:SF} {rc dr:Addr} {y:RF} {r:Rect} (h:dY A H x rc dr y r) (k:ky H H'):dY A H' x rc dr y r:=⟨h.ref,k _ _ h.at_ trivial,h.l,h.t,h.w,h.h⟩
theorem bD.n {A:bI} {H H':Hp} {M:List Addr} {s:Addr} {x:SF} {v:Viewer} {r:Rect} {i j back front:Nat} {s':Screen} {more:List Addr} {rc dr tl dt:Addr} {y:RF} {z:TF} {rs:List Addr} {Pic:List (List Nat)}
  (R:bD A H M s x v r i j back front s' more rc dr tl dt y z rs Pic) (k:ky H H'):bD A H' M s x v r i j back front s' more rc dr tl dt y z rs Pic:=
 ⟨R.eC,R.rect.n k,R.ins,R.bk,R.fr,⟨R.tile.ref,k _ _ R.tile.at_ trivial,R.tile.l,R.tile.t,R.tile.w,R.tile.h⟩,k _ _ R.lst trivial,R.rows.n k,R.band,R.hi,R.hj⟩
theorem dB.n {A:bI} {H H':Hp} {M:List Addr} {s:Addr} {x:SF} {v:Viewer} {m:Mode} (h:dB A H M s x v m) (k:ky H H'):dB A H' M s x v m:=by
 cases m
 case nameLen=>
  obtain ⟨h1,h2,h3,h4,h5,h6,fa,bits,f1,f2⟩:=h
  exact ⟨h1,h2,h3,h4,h5,h6,fa,bits,f1,f2.n k⟩
 case name=>
  obtain ⟨h1,h2,h3,h4,h5,h6,h7,fa,bits,f1,f2⟩:=h
  exact ⟨h1,h2,h3,h4,h5,h6,h7,fa,bits,f1,f2.n k⟩
 case pixels=>
  obtain ⟨rc,dr,y,h1,h2,h3⟩:=h
  exact ⟨rc,dr,y,h1,h2.n k,h3⟩
 case source=>
  obtain ⟨rc,dr,y,h1,h2,h3⟩:=h
  exact ⟨rc,dr,y,h1,h2.n k,h3⟩
 case howManyParts=>
  obtain ⟨rc,dr,y,h1,h2,h3⟩:=h
  exact ⟨rc,dr,y,h1,h2.n k,h3⟩
 case ground=>
  obtain ⟨rc,dr,y,h1,h2,h3⟩:=h
  exact ⟨rc,dr,y,h1,h2.n k,h3⟩
 case part=>
  obtain ⟨rc,dr,y,rs,Pic,h1,h2,h3,h4,h5,h6,h7,h8⟩:=h
  exact ⟨rc,dr,y,rs,Pic,h1,h2.n k,h3,h4,h5,h6,h7.n k,h8⟩
 case tile=>
  obtain ⟨rc,dr,tl,dt,y,z,rs,Pic,T,q⟩:=h
  exact ⟨rc,dr,tl,dt,y,z,rs,Pic,T.n k,q⟩
 case tilePixels=>
  obtain ⟨rc,dr,tl,dt,y,z,rs,Pic,T,q⟩:=h
  exact ⟨rc,dr,tl,dt,y,z,rs,Pic,T.n k,q⟩
 case tileColours=>
  obtain ⟨rc,dr,tl,dt,y,z,rs,Pic,T,q⟩:=h
  exact ⟨rc,dr,tl,dt,y,z,rs,Pic,T.n k,q⟩
 case tilePart=>
  obtain ⟨rc,dr,tl,dt,y,z,rs,Pic,T,q1,q2,q3,trs,TP,B,p,q⟩:=h
  exact ⟨rc,dr,tl,dt,y,z,rs,Pic,T.n k,q1,q2,q3,trs,TP,B,p.n k,q⟩
 all_goals exact h
theorem VI.n {A:bI} {H H':Hp} {s dx:Addr} {x:SF} {v:Viewer} {b:List Nat} {M:List Addr} (h:VI A H s dx x v b M) (k:ky H H'):VI A H' s dx x v b M:=by
 rcases h with ⟨n,h1,h2,h3,h4,h5⟩ | ⟨m,R,W,hp,hb⟩
 ·exact .inl ⟨n,h1,h2,k _ _ h3 trivial,h4.n k,h5⟩
 ·exact .inr ⟨m,⟨k _ _ R.bK trivial,R.core.n k,R.stage,R.need,R.wrong,R.cu,R.nd,R.mode.n k,R.run,R.lF,R.lG⟩,W,hp.n k trivial,hb⟩
theorem ky.locked {H H':Hp} {g:Addr} {o:Obj} {u:HO} (h:H g=some (.lE o u)) (k:∀b,b≠g→H' b=H b):ky H H':=fun b p e n=>by
 by_cases c:b=g
 ·subst c
  rw [h] at e
  cases e
  exact n.elim
 ·rw [k b c]
  exact e
theorem VI.new {A:bI} {H:Hp} {p dx pe wt sc tb ct nm:Addr} (h1:en A H p dx (Eg pe wt sc tb ct nm)) (h2:∀b∈[pe,wt,sc,tb,ct,nm],H b=some (.lst [])) (h3:[p,pe,wt,sc,tb,ct,nm].Nodup) :
  VI A H p dx (Eg pe wt sc tb ct nm) Sn44.begun [] [p,wt,sc,tb]:=by
 simp only [List.nodup_cons,List.mem_cons,List.not_mem_nil,or_false,not_or,not_false_eq_true,List.nodup_nil,and_true] at h3
 obtain ⟨⟨p1,p2,p3,p4,p5,p6⟩,⟨e1,e2,e3,e4,e5⟩,⟨w1,w2,w3,w4⟩,⟨s1,s2,s3⟩,⟨t1,t2⟩,c1⟩:=h3
 have nd:[p,wt,sc,tb].Nodup:=by
  simp only [List.nodup_cons,List.mem_cons,List.not_mem_nil,or_false,not_or,not_false_eq_true,List.nodup_nil,and_true]
  exact ⟨⟨p2,p3,p4⟩,⟨w1,w2⟩,s1⟩
 have fz:∀b∈[pe,ct,nm],b∉[p,wt,sc,tb]:=fun b hb hm=>by
  simp only [List.mem_cons,List.not_mem_nil,or_false] at hb hm
  rcases hb with rfl | rfl | rfl <;> rcases hm with q | q | q | q <;> first | exact p1 q.symm | exact e1 q | exact e2 q | exact e3 q | exact p5 q.symm | exact w3 q.symm | exact s2 q.symm | exact t1 q.symm | exact p6 q.symm | exact w4 q.symm | exact s3 q.symm | exact t2 q.symm
 refine .inr ⟨.version,⟨h1,⟨h2 _ (by simp),by decide,rfl,rfl,⟨by decide,by decide⟩,⟨h2 _ (by simp),fz _ (by simp)⟩,⟨h2 _ (by simp),fz _ (by simp)⟩,rfl,rfl,rfl,⟨[],[],⟨h2 _ (by simp),⟨⟨rfl,fun i r e=>by simp at e⟩,by simp⟩,by simp⟩,⟨rfl,by simp⟩,rfl⟩,⟨[],h2 _ (by simp),⟨rfl,fun i r e=>by simp at e⟩⟩,fun q=>absurd rfl q,nd,fun b hb=>hb⟩,rfl,rfl,rfl,rfl,nd,rfl,⟨fun q=>(by cases q),fun q=>absurd rfl q⟩,rfl,rfl⟩,Mir.mQ.begun,⟨h2 _ (by simp),fz _ (by simp)⟩,by simp⟩
open Fl (Shaped)
abbrev iV (l:List Int):List V:=l.map V.int
theorem gP {i j:Int} {A B:Prop} (h:i≠j) (hb:B):if decide (V.int i=V.int j)=true then A else B:=by
 rw [decide_eq_false (fun e=>h (by injection e))]
 exact cE hb
theorem qc {i:Int} {A B:Prop} (ha:A):if decide (V.int i=V.int i)=true then A else B:=by
 rw [decide_eq_true rfl]
 exact cG ha
theorem CF {r:List Int} (h:∀z∈r,0≤z):iV r=nI (Sn44Neutral.nats r):=by
 unfold iV nI Sn44Neutral.nats
 rw [List.map_map]
 refine List.map_congr_left fun z hz=>?_
 have:=h z hz
 show V.int z=V.int (z.toNat:Int)
 congr 1
 omega
theorem y9 (l:List Nat):iV (Sn44Neutral.ints l)=nI l:=by
 unfold iV nI Sn44Neutral.ints
 rw [List.map_map]
 rfl
def kindOf (c:List (List Int)):Int:=(PyFlat.put1 c).headD 0
def dh (c:List (List Int)):List Int:=(PyFlat.put1 c).tail
section
variable {P:Program} {w:World} {K:PySem.W.Frag} {mg:Str→Option Value} {base:Heap} {A:bI}
def Au (K:PySem.W.Frag):Sp:=fun vs H Q _=>∃(a:Addr) (ns:List Int) (i:Nat) (c:List (List Int)) (rest:List Int),vs=[.ref a,.int (i:Int)]∧bV K H a (iV ns)∧Shaped c∧ns.drop i=PyFlat.put1 c++rest∧
 Q (.int ((i + (PyFlat.put1 c).length:Nat):Int)) H
theorem uR {ns t:List Int} {i j:Nat} {z:Int} (h:ns.drop i=t) (hz:t[j]?=some z):AV (iV ns) ((i:Int) + (j:Int))=some (.int z):=by
 refine at_of (j:=i + j) (by omega) ?_
 rw [List.getElem?_map,← List.getElem?_drop,h,hz]
 rfl
theorem wq (T:Txt P w K mg A):FnAt P w K mg base "call_end" 1 ["calls","at"] (Au K):=by
 refine T.kS.at_ (fun _ _ _ _ _ _ us hl=>match us,hl with | [_,_],_=>rfl) fun f fd F=>?_
 refine F.ok vN (fun vs H Q E h=>?_) (fun cdv AA outer sh H vs Q E hr h=>?_)
 ·obtain ⟨a,ns,i,c,rest,rfl,_⟩:=h
  rfl
 ·obtain ⟨a,ns,i,c,rest,rfl,hS,hc,hd,k⟩:=h
  refine ⟨_,ab (aX (aQ d_ (cN bq (pv 0) (pv 1) (fun _ _=>rfl)) (a_ T.gJ rfl) (aT _)) (ak (aW (aH bA (aH bA (pv 1) ai) (cN bq (pv 0) (aH bA (pv 1) ai) (fun _ _=>rfl))))) aP)
   (ak (aW (aH bA (aH bA (pv 1) ai) (yA T.kr rfl (cN bq (pv 0) (pv 1) (fun _ _=>rfl)) (fun _ _=>rfl))))),?_⟩
  have alt:(∃r,c=[[1],r])∨∃(p:Int) (l:Nat),(PyFlat.put1 c)[0]?=some p∧p≠1∧n_ [((Sum.inl 0:Key),V.int 0),(Sum.inl 2,V.int 1),(Sum.inl 3,V.int 2),(Sum.inl 4,V.int 3),(Sum.inl 5,V.int 2),(Sum.inl 6,V.int 1),(Sum.inl 7,V.int 0)] (Sum.inl p)=some (V.int (l:Int))∧(PyFlat.put1 c).length=1 + l:=by
   cases hc with
   | input r=>exact .inl ⟨r,rfl⟩
   | begin_=>exact .inr ⟨0,0,rfl,by decide,rfl,rfl⟩
   | output x=>exact .inr ⟨2,1,rfl,by decide,rfl,rfl⟩
   | key x y=>exact .inr ⟨3,2,rfl,by decide,rfl,rfl⟩
   | point x y z=>exact .inr ⟨4,3,rfl,by decide,rfl,rfl⟩
   | row x y=>exact .inr ⟨5,2,rfl,by decide,rfl,rfl⟩
   | cut x=>exact .inr ⟨6,1,rfl,by decide,rfl,rfl⟩
   | told=>exact .inr ⟨7,0,rfl,by decide,rfl,rfl⟩
  have get0:∀{p:Int},(PyFlat.put1 c)[0]?=some p→AV (iV ns) (i:Int)=some (.int p):=fun {p} hp=>by
   have:=uR (j:=0) (z:=p) hd (by rw [List.getElem?_append_left (List.getElem?_eq_some_iff.mp hp).1];exact hp)
   rwa [Int.natCast_zero,Int.add_zero] at this
  rcases alt with ⟨r,rfl⟩ | ⟨p,l,hp,h1,hv,hl⟩
  ·refine ⟨_,rfl,_,rfl,a,_,_,_,rfl,rfl,hS,get0 (p:=1) rfl,rfl,_,rfl,qc ⟨_,rfl,_,_,rfl,rfl,_,rfl,_,rfl,_,_,rfl,rfl,a,_,_,_,rfl,rfl,hS,uR (j:=1) (z:=(r.length:Int)) hd rfl,_,_,rfl,rfl,?_⟩⟩
   have e:(i:Int) + 2 + (r.length:Int)=((i + (PyFlat.put1 [[1],r]).length:Nat):Int):=by
    have:(PyFlat.put1 [[1],r]).length=r.length + 2:=by
     show ([1]++(((r.length:Int) :: r)++[])).length=_
     simp
    rw [this]
    omega
   rw [← e] at k
   exact k
  ·refine ⟨_,rfl,_,rfl,a,_,_,_,rfl,rfl,hS,get0 hp,rfl,_,rfl,gP h1 ⟨_,rfl,_,_,rfl,rfl,_,rfl,_,rfl,a,_,_,_,rfl,rfl,hS,get0 hp,Sum.inl p,V.int (l:Int),rfl,hv,_,_,rfl,rfl,?_⟩⟩
   have e:(i:Int) + 1 + (l:Int)=((i + (PyFlat.put1 c).length:Nat):Int):=by
    rw [hl]
    omega
   rw [← e] at k
   exact k
end
abbrev iE (v:Viewer) (c:List (List Int)):Sn44Neutral.S × List Int:=Sn44Neutral.step (some v) (PySn44.whole c)
section
variable {P:Program} {w:World} {K:PySem.W.Frag} {mg:Str→Option Value} {base:Heap} {A:bI}
def uS (A:bI):Sp:=fun vs H Q _=>∃(s dx:Addr) (x:SF) (v:Viewer) (b:List Nat) (M:List Addr) (bh:Addr) (c:List (List Int)),vs=[.ref s,.int (kindOf c),.ref bh]∧VI A H s dx x v b M∧Gd.mM v∧H bh=some (.lst (iV (dh c)))∧Shaped c∧
 PyInside.call PySn44.bound c=true∧b.length≤100000∧(c=[[0]]→v=Sn44.begun)∧
 ∀H' x' v' M' b' q,(iE v c).1=some v'→VI A H' s dx x' v' b' M'→b'.length≤b.length + (PyFlat.put1 c).length→Ext H M H' M'→H' q=some (.lst (iV (iE v c).2))→Q (.ref q) H'
theorem r_ (T:Txt P w K mg A):FnAt P w K mg base "answer_call" 13 ["session","call","behind"] (uS A):=by
 refine T.h9.at_ (fun _ _ _ _ _ _ us hl=>match us,hl with | [_,_,_],_=>rfl) fun f fd F=>?_
 refine F.ok rK (fun vs H Q E h=>?_) (fun cdv AA outer sh H vs Q E hr h=>?_)
 ·obtain ⟨s,dx,x,v,b,M,bh,c,rfl,_⟩:=h
  rfl
 ·obtain ⟨s,dx,x,v,b,M,bh,c,rfl,hv,ok,hb,hc,hin,hbl,hbeg,k⟩:=h
  refine ⟨_,ab (aX (aQ d_ (pv 1) (a_ T.gJ rfl) (aT _)) (ak (aW (b0 (aa (aK (sP T) hr rfl (aa (pv 0) (aa (ee fC (pv 2) (dj ai) kF) ah))) ah)))) aP)
   (ab (aX (aQ d_ (pv 1) (a_ T.oT rfl) (aT _)) (ak (aW (aK (qz T) (hr.mono (by decide)) rfl (aa (pv 0) (aa (cN bq (pv 2) ai (fun _ _=>rfl)) ah))))) aP)
   (ab (aX (aQ d_ (pv 1) (a_ T.yH rfl) (aT _)) (ak (aW (b0 (aa (aK (wg T) (hr.mono (by decide)) rfl (aa (pv 0) (aa (cN bq (pv 2) ai (fun _ _=>rfl)) (aa (cN bq (pv 2) ai (fun _ _=>rfl)) ah)))) ah)))) aP)
   (ab (aX (aQ d_ (pv 1) (a_ T.qN rfl) (aT _)) (ak (aW (b0 (aa (aK (sS T) (hr.mono (by decide)) rfl (aa (pv 0) (aa (cN bq (pv 2) ai (fun _ _=>rfl)) (aa (cN bq (pv 2) ai (fun _ _=>rfl)) (aa (cN bq (pv 2) ai (fun _ _=>rfl)) ah))))) ah)))) aP)
   (ab (aX (aQ d_ (pv 1) (a_ T.yI rfl) (aT _)) (ak (aW (aK (wk T) (hr.mono (by decide)) rfl (aa (pv 0) (aa (cN bq (pv 2) ai (fun _ _=>rfl)) (aa (cN bq (pv 2) ai (fun _ _=>rfl)) ah)))))) aP)
   (ab (aX (aQ d_ (pv 1) (a_ T.yJ rfl) (aT _)) (ak (aW (aK (pP T) (hr.mono (by decide)) rfl (aa (pv 0) (aa (cN bq (pv 2) ai (fun _ _=>rfl)) ah))))) aP)
   (ab (aX (aQ d_ (pv 1) (a_ T.uw rfl) (aT _)) (ak (aW (aK (CB T) (hr.mono (by decide)) rfl (aa (pv 0) ah)))) aP)
   (ak (aW (b0 (aa ai ah)))))))))),?_⟩
  have one:∀{H1:Hp} {x':SF} {v':Viewer} {M':List Addr} {b':List Nat} {z:Int},(iE v c).1=some v'→VI A H1 s dx x' v' b' M'→b'.length≤b.length + (PyFlat.put1 c).length→Ext H M H1 M'→(iE v c).2=[z]→∀q,H1 q=none→Q (.ref q) (upd H1 q (.lst [V.int z])):=fun {H1 x' v' M' b' z} h1 h2 h3 h4 h5 q hq=>by
   have s1:=ay (o:=.lst [V.int z]) hq
   exact k _ _ _ _ _ q h1 (h2.same s1) h3 (h4.trans (.of_same s1)) (by rw [ae,h5];rfl)
  have tells:∀{a:Sn44.Ans},(iE v c).1=some v→(iE v c).2=a.value :: Sn44Neutral.ints a.out→Tells H a Q:=fun h1 h2 H' q hq g s1=>
   k _ _ _ _ _ q h1 (hv.same s1) (Nat.le_add_right _ _) (.of_same s1) (by rw [g,h2];show _=some (HO.lst (V.int _ :: iV (Sn44Neutral.ints _)));rw [y9])
  have sb:∀{i:Nat} {z:Int} {y:Int},y=(i:Int)→(dh c)[i]?=some z→AV (iV (dh c)) y=some (.int z):=fun e h=>at_of e (by rw [List.getElem?_map,h];rfl)
  cases hc with
  | begin_=>
   refine ⟨_,rfl,rfl,_,rfl,gP (i:=0) (by decide) ⟨_,rfl,rfl,_,rfl,gP (i:=0) (by decide) ⟨_,rfl,rfl,_,rfl,gP (i:=0) (by decide) ⟨_,rfl,rfl,_,rfl,gP (i:=0) (by decide) ⟨_,rfl,rfl,_,rfl,gP (i:=0) (by decide) ⟨_,rfl,rfl,_,rfl,gP (i:=0) (by decide) ⟨_,rfl,rfl,_,rfl,gP (i:=0) (by decide) ⟨by show 1≤sizeLine;decide,fun q hq=>?_⟩⟩⟩⟩⟩⟩⟩⟩
   have e:=hbeg rfl
   subst e
   exact one rfl hv (Nat.le_add_right _ _) (.refl H M) rfl q hq
  | input r=>
   obtain ⟨hrl,hrb⟩:=Fl.wo hin
   refine ⟨_,rfl,rfl,_,rfl,qc ⟨_,rfl,_,rfl,_,rfl,bh,_,rfl,bV.of hb,fun d hd=>?_⟩⟩
   obtain ⟨dl,hdl⟩:∃dl,lA (iV (dh [[1],r])) (some 1) none=nI dl∧dl=Sn44Neutral.nats r:=by
    refine ⟨_,?_,rfl⟩
    rw [← CF (fun z hz=>(hrb z hz).1)]
    have:dh [[1],r]=(r.length:Int) :: r:=by
     show ((r.length:Int) :: r)++[]=_
     rw [List.append_nil]
    rw [this]
    exact lV (xs:=iV ((r.length:Int) :: r)) 1
   rw [hdl.1]
   have s1:=ay (o:=.lst (nI dl)) hd
   have dln:dl.length=r.length:=by rw [hdl.2];exact List.length_map ..
   have e1:iE v [[1],r]=(some (Sn44.come v dl),[Sn44.codeOf (Sn44.come v dl).stage]):=by
    have hw:¬ Sn44.within (r.length:Int) Sn44.MOST=false:=by
     unfold Sn44.within
     rw [decide_eq_true (show (0:Int)≤(r.length:Int) by omega),decide_eq_true (show (r.length:Int)≤((Sn44.MOST:Nat):Int) by show (r.length:Int)≤65536;omega)]
     decide
    rw [hdl.2]
    show ((Sn44.step (some v) (.input (Sn44Neutral.nats r) (r.length:Int))).1,(Sn44.step (some v) (.input (Sn44Neutral.nats r) (r.length:Int))).2.value :: Sn44Neutral.ints (Sn44.step (some v) (.input (Sn44Neutral.nats r) (r.length:Int))).2.out)=_
    have e0:Sn44.step (some v) (.input (Sn44Neutral.nats r) (r.length:Int))=(some (Sn44.come v (Sn44Neutral.nats r)),⟨Sn44.codeOf (Sn44.come v (Sn44Neutral.nats r)).stage,[]⟩):=by
     show (if Sn44.within (r.length:Int) Sn44.MOST=false then _ else _)=_
     rw [if_neg hw]
    rw [e0]
    rfl
   have pl:(PyFlat.put1 [[1],r]).length=r.length + 2:=by
    show ([1]++(((r.length:Int) :: r)++[])).length=_
    simp
   refine ⟨s,dx,d,x,v,b,dl,M,rfl,hv.same s1,ae,fun c hc=>?_,by omega,by omega,fun H' x' M' b' hv' hl' e'=>⟨by show 1≤sizeLine;decide,fun q hq=>?_⟩⟩
   ·rw [hdl.2] at hc
    obtain ⟨z,hz,rfl⟩:=List.mem_map.mp hc
    have:=hrb z hz
    omega
   ·exact one (by rw [e1]) hv' (by rw [pl];omega) ((Ext.of_same s1).trans e') (by rw [e1]) q hq
  | output y=>
   refine ⟨_,rfl,rfl,_,rfl,gP (i:=2) (by decide) ⟨_,rfl,rfl,_,rfl,qc ⟨_,rfl,_,rfl,bh,_,_,_,rfl,rfl,bV.of hb,sb (i:=0) (z:=y) rfl rfl,?_⟩⟩⟩
   refine ⟨s,dx,x,v,b,M,y,rfl,hv,fun H' x' M' a hv' e' g=>?_⟩
   have e1:iE v [[2,y]]=(some (rZ v y),(nH v y).value :: Sn44Neutral.ints (nH v y).out):=by
    unfold rZ nH
    show ((Sn44.step (some v) (.output y)).1,(Sn44.step (some v) (.output y)).2.value :: Sn44Neutral.ints (Sn44.step (some v) (.output y)).2.out)=_
    have e0:Sn44.step (some v) (.output y)=if Sn44.within y 65536=false then (some v,⟨-2,[]⟩) else (some { v with out:=v.out.drop y.toNat },Sn44.bytes v.out y):=rfl
    rw [e0]
    by_cases c:Sn44.within y 65536=false
    ·rw [if_pos c,if_pos c,if_pos c]
    ·rw [if_neg c,if_neg c,if_neg c]
   exact k _ _ _ _ _ a (by rw [e1]) hv' (Nat.le_add_right _ _) e' (by rw [e1,g];show _=some (HO.lst (V.int _ :: iV (Sn44Neutral.ints _)));rw [y9])
  | key y z=>
   obtain ⟨hy,_⟩:=Fl.D8 hin
   obtain ⟨n,rfl⟩:∃n:Nat,y=(n:Int):=⟨y.toNat,by omega⟩
   refine ⟨_,rfl,rfl,_,rfl,gP (i:=3) (by decide) ⟨_,rfl,rfl,_,rfl,gP (i:=3) (by decide) ⟨_,rfl,rfl,_,rfl,qc ⟨_,rfl,_,rfl,bh,_,_,_,rfl,rfl,bV.of hb,sb (i:=0) (z:=(n:Int)) rfl rfl,_,rfl,bh,_,_,_,rfl,rfl,bV.of hb,sb (i:=1) (z:=z) rfl rfl,?_⟩⟩⟩⟩
   refine ⟨s,dx,x,v,b,M,n,z,rfl,hv,fun H' hv' e'=>⟨by show 1≤sizeLine;decide,fun q hq=>?_⟩⟩
   have e1:iE v [[3,(n:Int),z]]=(some (Ak v n z).1,[(Ak v n z).2]):=by
    unfold Ak
    show ((Sn44.step (some v) (.key ((n:Int)).toNat z)).1,(Sn44.step (some v) (.key ((n:Int)).toNat z)).2.value :: Sn44Neutral.ints (Sn44.step (some v) (.key ((n:Int)).toNat z)).2.out)=_
    have e0:Sn44.step (some v) (.key ((n:Int)).toNat z)=if Sn44.within z 1=false then (some v,⟨-2,[]⟩) else if v.stage≠.runs then (some v,⟨-3,[]⟩) else (some (v.send ([4,z.toNat,0,0]++Sn44.be 4 n)),⟨0,[]⟩):=rfl
    rw [e0]
    by_cases c:Sn44.within z 1=false
    ·rw [if_pos c,if_pos c];rfl
    ·rw [if_neg c,if_neg c]
     by_cases c2:v.stage≠.runs
     ·rw [if_pos c2,if_pos c2];rfl
     ·rw [if_neg c2,if_neg c2];rfl
   exact one (by rw [e1]) hv' (Nat.le_add_right _ _) e' (by rw [e1]) q hq
  | point y z u=>
   refine ⟨_,rfl,rfl,_,rfl,gP (i:=4) (by decide) ⟨_,rfl,rfl,_,rfl,gP (i:=4) (by decide) ⟨_,rfl,rfl,_,rfl,gP (i:=4) (by decide) ⟨_,rfl,rfl,_,rfl,qc ⟨_,rfl,_,rfl,bh,_,_,_,rfl,rfl,bV.of hb,sb (i:=0) (z:=y) rfl rfl,_,rfl,bh,_,_,_,rfl,rfl,bV.of hb,sb (i:=1) (z:=z) rfl rfl,_,rfl,bh,_,_,_,rfl,rfl,bV.of hb,sb (i:=2) (z:=u) rfl rfl,?_⟩⟩⟩⟩⟩
   refine ⟨s,dx,x,v,b,M,y,z,u,rfl,hv,fun H' hv' e'=>⟨by show 1≤sizeLine;decide,fun q hq=>?_⟩⟩
   have e1:iE v [[4,y,z,u]]=(some (pO v y z u).1,[(pO v y z u).2]):=by
    unfold pO
    show ((Sn44.step (some v) (.point y z u)).1,(Sn44.step (some v) (.point y z u)).2.value :: Sn44Neutral.ints (Sn44.step (some v) (.point y z u)).2.out)=_
    have e0:Sn44.step (some v) (.point y z u)=if Sn44.within y 1023=false∨Sn44.within z 1023=false∨Sn44.within u 255=false then (some v,⟨-2,[]⟩) else if v.stage≠.runs then (some v,⟨-3,[]⟩) else (some (v.send ([5,u.toNat]++(Sn44.be 2 y.toNat++Sn44.be 2 z.toNat))),⟨0,[]⟩):=rfl
    rw [e0]
    have i3:(D4 y z u=false) ↔ (Sn44.within y 1023=false∨Sn44.within z 1023=false∨Sn44.within u 255=false):=by
     unfold D4
     rw [Bool.and_eq_false_iff,Bool.and_eq_false_iff]
    by_cases c:D4 y z u=false
    ·rw [if_pos c,if_pos (i3.mp c)];rfl
    ·rw [if_neg c,if_neg (fun q=>c (i3.mpr q))]
     by_cases c2:v.stage≠.runs
     ·rw [if_pos c2,if_pos c2];rfl
     ·rw [if_neg c2,if_neg c2];rfl
   exact one (by rw [e1]) hv' (Nat.le_add_right _ _) e' (by rw [e1]) q hq
  | row y z=>
   refine ⟨_,rfl,rfl,_,rfl,gP (i:=5) (by decide) ⟨_,rfl,rfl,_,rfl,gP (i:=5) (by decide) ⟨_,rfl,rfl,_,rfl,gP (i:=5) (by decide) ⟨_,rfl,rfl,_,rfl,gP (i:=5) (by decide) ⟨_,rfl,rfl,_,rfl,qc ⟨_,rfl,_,rfl,bh,_,_,_,rfl,rfl,bV.of hb,sb (i:=0) (z:=y) rfl rfl,_,rfl,bh,_,_,_,rfl,rfl,bV.of hb,sb (i:=1) (z:=z) rfl rfl,?_⟩⟩⟩⟩⟩⟩
   have e0:Sn44.step (some v) (.row y z)=(some v,CC v y z):=by
    unfold CC
    show (if Sn44.within y 1023=false∨Sn44.within z 1024=false then (some v,(⟨-2,[]⟩:Sn44.Ans)) else if (v.screen.h:Int)≤y then (some v,⟨-3,[]⟩) else if z < (v.screen.w:Int) then (some v,⟨-1,[]⟩) else (some v,⟨(v.screen.w:Nat),(List.range v.screen.w).map fun x=>Sn44.colour v.screen.form v.screen.table (v.screen.at_ x y.toNat)⟩))=_
    by_cases c:Sn44.within y 1023=false∨Sn44.within z 1024=false
    ·rw [if_pos c,if_pos c]
    ·rw [if_neg c,if_neg c]
     by_cases c1:(v.screen.h:Int)≤y
     ·rw [if_pos c1,if_pos c1]
     ·rw [if_neg c1,if_neg c1]
      by_cases c2:z < (v.screen.w:Int)
      ·rw [if_pos c2,if_pos c2]
      ·rw [if_neg c2,if_neg c2]
   refine ⟨s,dx,x,v,b,M,y,z,rfl,hv,ok,tells ?_ ?_⟩
   ·show (Sn44.step (some v) (.row y z)).1=some v
    rw [e0]
   ·show (Sn44.step (some v) (.row y z)).2.value :: Sn44Neutral.ints (Sn44.step (some v) (.row y z)).2.out=_
    rw [e0]
  | cut y=>
   refine ⟨_,rfl,rfl,_,rfl,gP (i:=6) (by decide) ⟨_,rfl,rfl,_,rfl,gP (i:=6) (by decide) ⟨_,rfl,rfl,_,rfl,gP (i:=6) (by decide) ⟨_,rfl,rfl,_,rfl,gP (i:=6) (by decide) ⟨_,rfl,rfl,_,rfl,gP (i:=6) (by decide) ⟨_,rfl,rfl,_,rfl,qc ⟨_,rfl,_,rfl,bh,_,_,_,rfl,rfl,bV.of hb,sb (i:=0) (z:=y) rfl rfl,?_⟩⟩⟩⟩⟩⟩⟩
   have e0:Sn44.step (some v) (.cut y)=(some v,Cz v y):=by
    unfold Cz
    show (if Sn44.within y 65536=false then (some v,(⟨-2,[]⟩:Sn44.Ans)) else (some v,Sn44.bytes v.cut y))=_
    by_cases c:Sn44.within y 65536=false
    ·rw [if_pos c,if_pos c]
    ·rw [if_neg c,if_neg c]
   refine ⟨s,dx,x,v,b,M,y,rfl,hv,tells ?_ ?_⟩
   ·show (Sn44.step (some v) (.cut y)).1=some v
    rw [e0]
   ·show (Sn44.step (some v) (.cut y)).2.value :: Sn44Neutral.ints (Sn44.step (some v) (.cut y)).2.out=_
    rw [e0]
  | told=>
   refine ⟨_,rfl,rfl,_,rfl,gP (i:=7) (by decide) ⟨_,rfl,rfl,_,rfl,gP (i:=7) (by decide) ⟨_,rfl,rfl,_,rfl,gP (i:=7) (by decide) ⟨_,rfl,rfl,_,rfl,gP (i:=7) (by decide) ⟨_,rfl,rfl,_,rfl,gP (i:=7) (by decide) ⟨_,rfl,rfl,_,rfl,gP (i:=7) (by decide) ⟨_,rfl,rfl,_,rfl,qc ⟨_,rfl,s,dx,x,v,b,M,rfl,hv,tells rfl rfl⟩⟩⟩⟩⟩⟩⟩⟩
end
theorem CG {v v':Viewer} {c:List (List Int)} (hc:Shaped c) (hin:PyInside.call PySn44.bound c=true) (h:Gd.mM v) (hi:Gd.r6 v.input) (e:(iE v c).1=some v'):Gd.mM v'∧Gd.r6 v'.input:=by
 have keep:∀u:Viewer,u.screen=v.screen→u.stage=v.stage→u.input=v.input→Gd.mM u∧Gd.r6 u.input:=fun u h1 h2 h3=>by
  refine ⟨?_,by rw [h3];exact hi⟩
  unfold Gd.mM
  rw [h1,h2]
  exact h
 have nD:∀b,Gd.mM (v.send b)∧Gd.r6 (v.send b).input:=fun b=>by
  obtain ⟨h1,h2,h3⟩:=Gd.r8 v b
  exact keep _ h1 h2 h3
 cases hc with
 | begin_=>
  have e':some Sn44.begun=some v':=e
  cases e'
  exact Gd.mj
 | input r=>
  obtain ⟨_,hrb⟩:=Fl.wo hin
  have e':(if Sn44.within (r.length:Int) Sn44.MOST=false then (some v,(⟨-2,[]⟩:Sn44.Ans)) else (some (Sn44.come v (Sn44Neutral.nats r)),⟨Sn44.codeOf (Sn44.come v (Sn44Neutral.nats r)).stage,[]⟩)).1=some v':=e
  split at e'
  ·cases e'
   exact ⟨h,hi⟩
  ·cases e'
   refine Gd.CA h hi fun c hc=>?_
   obtain ⟨z,hz,rfl⟩:=List.mem_map.mp hc
   have:=hrb z hz
   omega
 | output y=>
  have e':(if Sn44.within y 65536=false then (some v,(⟨-2,[]⟩:Sn44.Ans)) else (some { v with out:=v.out.drop y.toNat },Sn44.bytes v.out y)).1=some v':=e
  split at e'
  ·cases e'
   exact ⟨h,hi⟩
  ·cases e'
   exact keep _ rfl rfl rfl
 | key y z=>
  have e':(if Sn44.within z 1=false then (some v,(⟨-2,[]⟩:Sn44.Ans)) else if v.stage≠.runs then (some v,⟨-3,[]⟩) else (some (v.send ([4,z.toNat,0,0]++Sn44.be 4 y.toNat)),⟨0,[]⟩)).1=some v':=e
  split at e'
  ·cases e'
   exact ⟨h,hi⟩
  ·split at e'
   ·cases e'
    exact ⟨h,hi⟩
   ·cases e'
    exact nD _
 | point y z u=>
  have e':(if Sn44.within y 1023=false∨Sn44.within z 1023=false∨Sn44.within u 255=false then (some v,(⟨-2,[]⟩:Sn44.Ans)) else if v.stage≠.runs then (some v,⟨-3,[]⟩) else (some (v.send ([5,u.toNat]++(Sn44.be 2 y.toNat++Sn44.be 2 z.toNat))),⟨0,[]⟩)).1=some v':=e
  split at e'
  ·cases e'
   exact ⟨h,hi⟩
  ·split at e'
   ·cases e'
    exact ⟨h,hi⟩
   ·cases e'
    exact nD _
 | row y z=>
  have e':(if Sn44.within y 1023=false∨Sn44.within z 1024=false then (some v,(⟨-2,[]⟩:Sn44.Ans)) else if (v.screen.h:Int)≤y then (some v,⟨-3,[]⟩) else if z < (v.screen.w:Int) then (some v,⟨-1,[]⟩) else (some v,⟨(v.screen.w:Nat),(List.range v.screen.w).map fun x=>Sn44.colour v.screen.form v.screen.table (v.screen.at_ x y.toNat)⟩)).1=some v':=e
  have:some v=some v':=by
   revert e'
   split
   ·exact id
   ·split
    ·exact id
    ·split <;> exact id
  cases this
  exact ⟨h,hi⟩
 | cut y=>
  have e':(if Sn44.within y 65536=false then (some v,(⟨-2,[]⟩:Sn44.Ans)) else (some v,Sn44.bytes v.cut y)).1=some v':=e
  split at e' <;> (cases e';exact ⟨h,hi⟩)
 | told=>
  have e':some v=some v':=e
  cases e'
  exact ⟨h,hi⟩
theorem Ej {v:Viewer} {c:List (List Int)} (hc:Shaped c):∃v',(iE v c).1=some v':=by
 cases hc with
 | begin_=>exact ⟨_,rfl⟩
 | input r=>
  show ∃v',(if Sn44.within (r.length:Int) Sn44.MOST=false then (some v,(⟨-2,[]⟩:Sn44.Ans)) else (some (Sn44.come v (Sn44Neutral.nats r)),⟨Sn44.codeOf (Sn44.come v (Sn44Neutral.nats r)).stage,[]⟩)).1=some v'
  split <;> exact ⟨_,rfl⟩
 | output y=>
  show ∃v',(if Sn44.within y 65536=false then (some v,(⟨-2,[]⟩:Sn44.Ans)) else (some { v with out:=v.out.drop y.toNat },Sn44.bytes v.out y)).1=some v'
  split <;> exact ⟨_,rfl⟩
 | key y z=>
  show ∃v',(if Sn44.within z 1=false then (some v,(⟨-2,[]⟩:Sn44.Ans)) else if v.stage≠.runs then (some v,⟨-3,[]⟩) else (some (v.send ([4,z.toNat,0,0]++Sn44.be 4 y.toNat)),⟨0,[]⟩)).1=some v'
  split
  ·exact ⟨_,rfl⟩
  ·split <;> exact ⟨_,rfl⟩
 | point y z u=>
  show ∃v',(if Sn44.within y 1023=false∨Sn44.within z 1023=false∨Sn44.within u 255=false then (some v,(⟨-2,[]⟩:Sn44.Ans)) else if v.stage≠.runs then (some v,⟨-3,[]⟩) else (some (v.send ([5,u.toNat]++(Sn44.be 2 y.toNat++Sn44.be 2 z.toNat))),⟨0,[]⟩)).1=some v'
  split
  ·exact ⟨_,rfl⟩
  ·split <;> exact ⟨_,rfl⟩
 | row y z=>
  show ∃v',(if Sn44.within y 1023=false∨Sn44.within z 1024=false then (some v,(⟨-2,[]⟩:Sn44.Ans)) else if (v.screen.h:Int)≤y then (some v,⟨-3,[]⟩) else if z < (v.screen.w:Int) then (some v,⟨-1,[]⟩) else (some v,⟨(v.screen.w:Nat),(List.range v.screen.w).map fun x=>Sn44.colour v.screen.form v.screen.table (v.screen.at_ x y.toNat)⟩)).1=some v'
  split
  ·exact ⟨_,rfl⟩
  ·split
   ·exact ⟨_,rfl⟩
   ·split <;> exact ⟨_,rfl⟩
 | cut y=>
  show ∃v',(if Sn44.within y 65536=false then (some v,(⟨-2,[]⟩:Sn44.Ans)) else (some v,Sn44.bytes v.cut y)).1=some v'
  split <;> exact ⟨_,rfl⟩
 | told=>exact ⟨_,rfl⟩
def wu (K:PySem.W.Frag) (H:Hp) (M:List Addr) (g a:Addr) (xs:List V):Prop:=
 (∃u,Fz H M a u∧a≠g∧(u=.lst xs∨∃o,u=.lE o (.lst xs)))∨∃(o:Obj) (its:Array Value) (n:Nat),K.lookup a=some o∧o.cls=.type "list"∧o.dict=none∧o.data=.seq its n∧its.size≤sizeLine∧Vals xs its.toList
section
variable {K:PySem.W.Frag} {H H':Hp} {M M':List Addr} {g a:Addr} {xs:List V}
theorem wu.sq (h:wu K H M g a xs):bV K H a xs:=by
 rcases h with ⟨u,f,_,rfl | ⟨o,rfl⟩⟩ | h
 ·exact .inl (.inl f.1)
 ·exact .inl (.inr ⟨o,f.1⟩)
 ·exact .inr h
theorem wu.of (h:bV K H a xs) (hg:H g=none) (hm:∀b∈M,H b=none) (s:bX H H'):wu K H' M g a xs:=by
 rcases h with (h | ⟨o,h⟩) | h
 ·exact .inl ⟨_,⟨s _ _ h,fun q=>by rw [hm a q] at h;cases h⟩,aE h hg,.inl rfl⟩
 ·exact .inl ⟨_,⟨s _ _ h,fun q=>by rw [hm a q] at h;cases h⟩,aE h hg,.inr ⟨o,rfl⟩⟩
 ·exact .inr h
theorem wu.ext (h:wu K H M g a xs) (e:Ext H M H' M'):wu K H' M' g a xs:=by
 rcases h with ⟨u,f,n,q⟩ | h
 ·exact .inl ⟨u,f.ext e,n,q⟩
 ·exact .inr h
theorem wu.upd (h:wu K H M g a xs) (o:HO):wu K (upd H g o) M g a xs:=by
 rcases h with ⟨u,f,n,q⟩ | h
 ·exact .inl ⟨u,⟨by rw [aj n];exact f.1,f.2⟩,n,q⟩
 ·exact .inr h
theorem wu.swap (h:wu K H M g a xs) (hm:∀b∈M',H b=none):wu K H M' g a xs:=by
 rcases h with ⟨u,f,n,q⟩ | h
 ·exact .inl ⟨u,⟨f.1,fun z=>by have w:=f.1;rw [hm a z] at w;cases w⟩,n,q⟩
 ·exact .inr h
theorem Av {p q:Addr} {o u:HO} (h:p≠q):L2.upd (L2.upd H p o) q u=L2.upd (L2.upd H q u) p o:=by
 funext c
 by_cases c1:c=p
 ·subst c1
  rw [aj h,ae,ae]
 ·rw [aj (a:=p) c1]
  by_cases c2:c=q
  ·subst c2
   rw [ae,ae]
  ·rw [aj c2,aj c2,aj c1]
end
abbrev wx (done:List (List (List Int))):Sn44Neutral.S:=Fl.run Sn44Neutral.step Sn44Neutral.start (done.map PySn44.whole)
abbrev gQ (done:List (List (List Int))):List Int:=PyFlat.told (PyFlat.played Sn44Neutral.step Sn44Neutral.start (done.map PySn44.whole))
structure Bw (A:bI) (K:PySem.W.Frag) (ns:List Int) (raw:List (List (List Int))) (a:Addr) (done rest:List (List (List Int))) (s dx g:Addr) (x:SF) (v:Viewer) (b:List Nat) (M:List Addr) (o0:Obj) (H:Hp):Prop where
 cut:raw=done++rest
 Ek:H g=some (.lst (iV (gQ done)))
 gM:g∉M
 vi:VI A (upd H g (.lE o0 (.lst []))) s dx x v b M
 ok:Gd.mM v
 yy:Gd.r6 v.input
 Fn:b.length≤(PyFlat.put done).length
 src:wu K H M g a (iV ns)
 st:wx done=some v∨done=[]
theorem wy {ns:List Int} (h:PySn44.answers_asked ns=true):∃raw,ns=PyFlat.put raw∧(∀c∈raw,Shaped c∧PyInside.call PySn44.bound c=true)∧(∃r,raw=[[0]] :: r)∧PySn44.answers ns=gQ raw∧(gQ raw).length≤10000000:=by
 unfold PySn44.answers_asked at h
 cases e:PyFlat.calls PySn44.shape ns.length ns with
 | none=>rw [e] at h;cases h
 | some raw=>
  rw [e] at h
  obtain ⟨h1,h2⟩:=PyFlat.put_calls _ _ _ e
  simp only [Bool.and_eq_true] at h
  obtain ⟨⟨⟨⟨g1,g2⟩,g3⟩,g4⟩,g5⟩:=h
  have ea:PySn44.answers ns=gQ raw:=by
   unfold PySn44.answers PySn44.calls
   rw [e]
  unfold PyFlat.short at g5
  have g5':=of_decide_eq_true g5
  unfold PyInside.calls at g3
  rw [List.all_eq_true] at g3
  refine ⟨raw,h1,fun c hc=>⟨Fl.shaped (h2 c hc),g3 c hc⟩,?_,ea,by rw [← ea];exact g5'⟩
  cases raw with
  | nil=>cases g1
  | cons c r=>
   refine ⟨r,?_⟩
   have hc:=Fl.shaped (h2 c (List.mem_cons_self ..))
   unfold Sn44Neutral.asked at g4
   rw [Bool.and_eq_true] at g4
   have g6:=g4.1
   cases hc with
   | begin_=>rfl
   | _=>cases g6
theorem Bx {c:List (List Int)} (h:Shaped c):(PyFlat.put1 c).length=1 + (dh c).length∧(PyFlat.put1 c)[0]?=some (kindOf c)∧((kindOf c=0) ↔ c=[[0]]):=by
 cases h with
 | begin_=>exact ⟨rfl,rfl,fun _=>rfl,fun _=>rfl⟩
 | input r=>
  refine ⟨?_,rfl,fun e=>absurd (show (1:Int)=0 from e) (by decide),fun e=>by injection e with e1 e2;cases e2⟩
  show ([1]++(((r.length:Int) :: r)++[])).length=1 + (((r.length:Int) :: r)++[]).length
  simp
  omega
 | output x=>exact ⟨rfl,rfl,fun e=>absurd (show (2:Int)=0 from e) (by decide),fun e=>by simp at e⟩
 | key x y=>exact ⟨rfl,rfl,fun e=>absurd (show (3:Int)=0 from e) (by decide),fun e=>by simp at e⟩
 | point x y z=>exact ⟨rfl,rfl,fun e=>absurd (show (4:Int)=0 from e) (by decide),fun e=>by simp at e⟩
 | row x y=>exact ⟨rfl,rfl,fun e=>absurd (show (5:Int)=0 from e) (by decide),fun e=>by simp at e⟩
 | cut x=>exact ⟨rfl,rfl,fun e=>absurd (show (6:Int)=0 from e) (by decide),fun e=>by simp at e⟩
 | told=>exact ⟨rfl,rfl,fun e=>absurd (show (7:Int)=0 from e) (by decide),fun e=>by simp at e⟩
theorem x8 (done:List (List (List Int))) (c:List (List Int)):gQ (done++[c])=gQ done++(((Sn44Neutral.step (wx done) (PySn44.whole c)).2.length:Int) :: (Sn44Neutral.step (wx done) (PySn44.whole c)).2):=by
 show PyFlat.told (PyFlat.played _ _ ((done++[c]).map _))=_
 rw [List.map_append,List.map_cons,List.map_nil,Fl.qb,Fl.As]
theorem CH (done:List (List (List Int))) (c:List (List Int)):wx (done++[c])=(Sn44Neutral.step (wx done) (PySn44.whole c)).1:=by
 show Fl.run _ _ ((done++[c]).map _)=_
 rw [List.map_append,List.map_cons,List.map_nil,Fl.wm]
theorem By (done rest:List (List (List Int))):(gQ done).length≤(gQ (done++rest)).length:=by
 show _≤(PyFlat.told (PyFlat.played _ _ ((done++rest).map _))).length
 rw [List.map_append,Fl.r9]
 exact Fl.CD _ _
theorem wz (done:List (List (List Int))) (c:List (List Int)):(PyFlat.put (done++[c])).length=(PyFlat.put done).length + (PyFlat.put1 c).length:=by
 rw [Fl.uQ,List.length_append]
 show _ + (PyFlat.put1 c++[]).length=_
 rw [List.append_nil]
theorem VI.shrink {A:bI} {H:Hp} {s dx:Addr} {x:SF} {v:Viewer} {b:List Nat} {M:List Addr} (h:VI A H s dx x v b M):∃M2,(∀m∈M2,m∈M)∧(∀m∈M2,∃o,H m=some o)∧VI A H s dx x v b M2:=by
 rcases h with ⟨n,h1,h2,h3,h4,h5⟩ | ⟨m,R,W,hp,hb⟩
 ·exact ⟨M0 s x.k,h4.mem,h4.jr h3,.inl ⟨n,h1,h2,h3,h4.ext ⟨fun b q=>.inl (h4.mem b q),fun b o e _=>e⟩ (fun _ _=>rfl) (fun b hb=>hb),h5⟩⟩
 ·exact ⟨M,fun _ h=>h,R.there,.inr ⟨m,R,W,hp,hb⟩⟩
section
variable {P:Program} {w:World} {K:PySem.W.Frag} {mg:Str→Option Value} {base:Heap} {A:bI}
def pR (K:PySem.W.Frag):Sp:=fun vs H Q _=>∃(a:Addr) (ns:List Int),vs=[.ref a]∧bV K H a (iV ns)∧ns.length≤31000∧PySn44.answers_asked ns=true∧∀H' p,H' p=some (.lst (iV (PySn44.answers ns)))→Q (.ref p) H'
theorem x9 (T:Txt P w K mg A) {f:Addr} {fd:FuncData} (F:Az K "answers" "answers" kl f fd):iq P w K mg base zD 14 f fd ["calls"] (pR K):=by
 refine F.ok rJ (fun vs H Q E h=>?_) (fun cdv AA outer sh H vs Q E hr h=>?_)
 ·obtain ⟨a,ns,rfl,_⟩:=h
  rfl
 ·obtain ⟨a,ns,rfl,hS,hlen,hask,k⟩:=h
  have nd:=rJ.nd
  obtain ⟨raw,hput,hraw,⟨r0,hr0⟩,hans,hshort⟩:=wy hask
  refine ⟨_,ab (aI (i:=1) nd rfl (Or.inl rfl) (A_ (rM T) (hr.mono (by decide)) rfl))
   (ab (aI (i:=2) nd rfl (Or.inl rfl) (b0 ah))
   (ab (aI (i:=3) nd rfl (Or.inl rfl) ai)
   (ab (u9 PassesOwn.never (aQ yi (pv 3) (bZ bj (by rfl) T.fQ PySem.boot_len (aa (pv 0) ah)) (aT _))
    (ab (aI (i:=4) nd rfl (Or.inl rfl) (ee fC (pv 0) (dj (aH bA (pv 3) ai)) (dj (aK (wq T) (hr.mono (by decide)) rfl (aa (pv 0) (aa (pv 3) ah))))))
    (ab (aX (aQ d_ (cN bq (pv 0) (pv 3) (fun _ _=>rfl)) (a_ T.qM rfl) (aT _)) (ak (aI (i:=1) nd rfl (Or.inl rfl) (A_ (rM T) (hr.mono (by decide)) rfl))) aP)
    (ab (aI (i:=5) nd rfl (Or.inl rfl) (BZ (aK (r_ T) hr rfl (aa (pv 1) (aa (cN bq (pv 0) (pv 3) (fun _ _=>rfl)) (aa (pv 4) ah))))))
    (ab (az (q_ PySem.F.plainAttrs_list PySem.F.slot_list_append PySem.F.type_list_append zy (pv 2) (aa (bZ bj (by rfl) T.fQ PySem.boot_len (aa (pv 5) ah)) ah)))
    (ab (az (q_ PySem.F.plainAttrs_list PySem.F.slot_list_extend PySem.F.type_list_extend jd (pv 2) (aa (pv 5) ah)))
    (ak (m_ (i:=3) nd rfl (Or.inl rfl) (aH bA ai (bZ bj (by rfl) T.fQ PySem.boot_len (aa (pv 4) ah))) nh)))))))
   )
   (ak (aW (pv 2)))))),?_⟩
  intro s0 d0 n1 n2 n3
  refine ⟨s0,d0,rfl,ae,fun H' pe wt sc tb ct nm hses hfr hnd sb=>⟨rfl,?_⟩⟩
  have sH:bX H H':=bX.made n1 n2 sb
  have fresh:∀b∈[pe,wt,sc,tb,ct,nm],H b=none:=fun b hb=>(aR (aR (hfr b hb).1).2).2
  refine ⟨Nat.zero_le _,fun g hg=>?_⟩
  have sg:=ay (o:=.lst []) hg
  have v0:VI A H' s0 d0 (Eg pe wt sc tb ct nm) Sn44.begun [] [s0,wt,sc,tb]:=VI.new hses (fun b hb=>(hfr b hb).2) hnd
  refine ⟨fun n σ H1=>∃done rest s dx x v b M o0,∃u4 u5:Option V,σ=[some (.ref a),some (.ref s),some (.ref g),some (.int ((PyFlat.put done).length:Int)),u4,u5]∧n=rest.length∧Bw A K ns raw a done rest s dx g x v b M o0 H1,⟨_,[],raw,s0,d0,Eg pe wt sc tb ct nm,Sn44.begun,[],[s0,wt,sc,tb],default,none,none,rfl,rfl,?_⟩,?_⟩
  ·refine ⟨rfl,ae,fun hm=>?_,?_,Gd.mj.1,Gd.mj.2,Nat.zero_le _,wu.of hS (sH.free hg) (fun b hb=>?_) (sH.trans sg),.inr rfl⟩
   ·simp only [List.mem_cons,List.not_mem_nil,or_false] at hm
    rcases hm with q | q | q | q
    ·have z:H' s0=_:=hses
     rw [← q,hg] at z;cases z
    ·have z:=(hfr wt (by simp)).2
     rw [← q,hg] at z;cases z
    ·have z:=(hfr sc (by simp)).2
     rw [← q,hg] at z;cases z
    ·have z:=(hfr tb (by simp)).2
     rw [← q,hg] at z;cases z
   ·rw [bg]
    exact v0.same (ay hg)
   ·simp only [List.mem_cons,List.not_mem_nil,or_false] at hb
    rcases hb with rfl | rfl | rfl | rfl
    ·exact n1
    ·exact fresh _ (by simp)
    ·exact fresh _ (by simp)
    ·exact fresh _ (by simp)
  ·rintro n σ H1 ⟨done,rest,s,dx,x,v,b,M,o0,u4,u5,rfl,rfl,I⟩
   obtain ⟨M2,sub2,there2,vi2⟩:=I.vi.shrink
   have I2:Bw A K ns raw a done rest s dx g x v b M2 o0 H1:=⟨I.cut,I.Ek,fun q=>I.gM (sub2 g q),vi2,I.ok,I.yy,I.Fn,I.src.ext ⟨fun b q=>.inl (sub2 b q),fun b o e _=>e⟩,I.st⟩
   have thereM:∀m∈M2,∃o,H1 m=some o:=fun m hm=>by
    obtain ⟨o,e⟩:=there2 m hm
    rw [aj (fun q=>I2.gM (by rw [← q];exact hm))] at e
    exact ⟨o,e⟩
   clear vi2 there2 sub2 I
   have I:=I2
   have hns:ns=PyFlat.put done++PyFlat.put rest:=by rw [hput,I.cut,Fl.uQ]
   refine ⟨_,rfl,_,rfl,a,_,rfl,.inl I.src.sq,_,_,rfl,rfl,_,rfl,?_⟩
   show if decide (((PyFlat.put done).length:Int) < ((iV ns).length:Int))=true then _ else _
   cases rest with
   | nil=>
    rw [decide_eq_false (by rw [List.length_map,hns];show ¬ _ < (((PyFlat.put done++[]).length:Nat):Int);rw [List.append_nil];omega)]
    refine cE ⟨_,rfl,k _ g ?_⟩
    rw [hans,I.cut,List.append_nil]
    exact I.Ek
   | cons c rest=>
    have hc:=hraw c (by rw [I.cut];simp)
    obtain ⟨pl,pk,pz⟩:=Bx hc.1
    have hns2:ns=PyFlat.put done++(PyFlat.put1 c++PyFlat.put rest):=hns
    rw [decide_eq_true (by rw [List.length_map,hns2,List.length_append,List.length_append];omega)]
    refine cG ⟨fun σ' H'=>∃n',n' < (c :: rest).length∧∃done rest s dx x v b M o0,∃u4 u5:Option V,σ'=[some (.ref a),some (.ref s),some (.ref g),some (.int ((PyFlat.put done).length:Int)),u4,u5]∧n'=rest.length∧Bw A K ns raw a done rest s dx g x v b M o0 H',fun σ' H' h=>h,?_⟩
    have hd:ns.drop (PyFlat.put done).length=PyFlat.put1 c++PyFlat.put rest:=by
     rw [hns2,List.drop_left]
    have get0:AV (iV ns) ((PyFlat.put done).length:Int)=some (.int (kindOf c)):=by
     have:=uR (j:=0) (z:=kindOf c) hd (by rw [List.getElem?_append_left (by omega)];exact pk)
     rwa [Int.natCast_zero,Int.add_zero] at this
    refine ⟨_,rfl,_,rfl,_,_,rfl,rfl,_,rfl,_,rfl,_,rfl,a,ns,(PyFlat.put done).length,c,PyFlat.put rest,rfl,I.src.sq,hc.1,hd,_,rfl,a,_,rfl,I.src.sq,fun bh hbh=>?_⟩
    have ec:lA (iV ns) (some (((PyFlat.put done).length:Int) + 1)) (some (((PyFlat.put done).length + (PyFlat.put1 c).length:Nat):Int))=iV (dh c):=by
     have e1:(((PyFlat.put done).length:Int) + 1)=(((PyFlat.put done).length + 1:Nat):Int):=by omega
     have e2:(((PyFlat.put done).length + (PyFlat.put1 c).length:Nat):Int)=(((PyFlat.put done).length + 1:Nat):Int) + ((dh c).length:Int):=by omega
     rw [e1,e2,mw]
     unfold iV
     rw [← List.map_drop,← List.map_take,← List.drop_drop,hd]
     congr 1
     have e3:PyFlat.put1 c=kindOf c :: dh c:=by
      unfold kindOf dh
      cases h:PyFlat.put1 c with
      | nil=>rw [h] at pl;simp at pl;omega
      | cons p t=>rfl
     rw [e3,List.cons_append,List.drop_succ_cons,List.drop_zero,List.take_left]
    rw [show lA (iV ns) (some ((fun i j:Int=>i + j) ((PyFlat.put done).length:Int) 1)) (some (((PyFlat.put done).length + (PyFlat.put1 c).length:Nat):Int))=_ from ec]
    have nbg:bh≠g:=fun e=>by rw [e,I.Ek] at hbh;cases hbh
    have sB:=ay (o:=.lst (iV (dh c))) hbh
    obtain ⟨Hb,eHb,gHb,sHb,iHb⟩:∃Hb,upd H1 bh (.lst (iV (dh c)))=Hb∧Hb bh=some (.lst (iV (dh c)))∧bX H1 Hb∧VI A (upd Hb g (.lE o0 (.lst []))) s dx x v b M2:=by
     refine ⟨_,rfl,ae,sB,?_⟩
     rw [Av nbg]
     exact I.vi.same (ay (by rw [aj nbg];exact hbh))
    rw [eHb]
    have srcB:wu K Hb M2 g a (iV ns):=I.src.ext (.of_same sHb)
    refine ⟨_,rfl,_,rfl,a,_,_,_,rfl,rfl,srcB.sq,get0,rfl,_,rfl,?_⟩
    show if decide (V.int (kindOf c)=V.int 0)=true then _ else _
    apply joinR (F:=fun (s':Addr) (Hc:Hp)=>∃dx' x' v' b' M',Hc g=some (.lst (iV (gQ done)))∧g∉M'∧VI A (upd Hc g (.lE o0 (.lst []))) s' dx' x' v' b' M'∧Gd.mM v'∧Gd.r6 v'.input∧b'.length≤(PyFlat.put done).length∧wu K Hc M' g a (iV ns)∧Hc bh=some (.lst (iV (dh c)))∧bh∉M'∧(c=[[0]]→v'=Sn44.begun)∧Sn44Neutral.step (wx done) (PySn44.whole c)=iE v' c)
    case main=>
     intro tail
     by_cases cb:kindOf c=0
     ·rw [decide_eq_true (by rw [cb])]
      refine cG ?_
      intro s1 d1 m1 m2 m3
      refine ⟨s1,d1,rfl,ae,fun H2 pe2 wt2 sc2 tb2 ct2 nm2 hses2 hfr2 hnd2 sb2=>⟨rfl,?_⟩⟩
      have s12:bX Hb H2:=bX.made m1 m2 sb2
      have fresh2:∀b∈[pe2,wt2,sc2,tb2,ct2,nm2],Hb b=none:=fun b hb=>(aR (aR (hfr2 b hb).1).2).2
      have hg2:=s12 _ _ (sHb _ _ I.Ek)
      have ng:∀b,Hb b=none→b≠g:=fun b e q=>by rw [q,sHb _ _ I.Ek] at e;cases e
      have hcb:c=[[0]]:=pz.mp cb
      have stp:Sn44Neutral.step (wx done) (PySn44.whole c)=iE Sn44.begun c:=by
       rw [hcb]
       cases wx done <;> rfl
      refine tail s1 H2 ?_
      refine ⟨d1,Eg pe2 wt2 sc2 tb2 ct2 nm2,Sn44.begun,[],[s1,wt2,sc2,tb2],hg2,fun hm=>?_,VI.new ?_ (fun b hb=>?_) hnd2,Gd.mj.1,Gd.mj.2,Nat.zero_le _,(srcB.swap (fun b hb=>?_)).ext (.of_same s12),s12 _ _ gHb,fun hm=>?_,fun _=>rfl,stp⟩
      ·simp only [List.mem_cons,List.not_mem_nil,or_false] at hm
       rcases hm with q | q | q | q
       ·exact ng _ m1 q.symm
       ·exact ng _ (fresh2 wt2 (by simp)) q.symm
       ·exact ng _ (fresh2 sc2 (by simp)) q.symm
       ·exact ng _ (fresh2 tb2 (by simp)) q.symm
      ·show upd H2 g _ s1=_
       rw [aj (ng _ m1)]
       exact hses2
      ·rw [aj (ng _ (fresh2 b hb))]
       exact (hfr2 b hb).2
      ·simp only [List.mem_cons,List.not_mem_nil,or_false] at hb
       rcases hb with rfl | rfl | rfl | rfl
       ·exact m1
       ·exact fresh2 _ (by simp)
       ·exact fresh2 _ (by simp)
       ·exact fresh2 _ (by simp)
      ·simp only [List.mem_cons,List.not_mem_nil,or_false] at hm
       have nn:∀z,Hb z=none→bh≠z:=fun z e q=>by rw [← q,gHb] at e;cases e
       rcases hm with q | q | q | q
       ·exact nn _ m1 q
       ·exact nn _ (fresh2 wt2 (by simp)) q
       ·exact nn _ (fresh2 sc2 (by simp)) q
       ·exact nn _ (fresh2 tb2 (by simp)) q
     ·rw [decide_eq_false (fun e=>cb (by injection e))]
      refine cE ?_
      have nz:¬ c=[[0]]:=fun e=>cb (pz.mpr e)
      have dn:done≠[]:=fun e=>by
       have e2:=I.cut
       rw [e,hr0] at e2
       injection e2 with e3 _
       exact nz e3.symm
      exact tail s Hb ⟨dx,x,v,b,M2,sHb _ _ I.Ek,I.gM,iHb,I.ok,I.yy,I.Fn,srcB,gHb,fun hm=>(by obtain ⟨o,e⟩:=thereM bh hm;rw [hbh] at e;cases e),fun e=>absurd e nz,by rw [I.st.resolve_right dn]⟩
    case tail=>
     rintro s' Hc ⟨dx',x',v',b',M',hgc,gMc,vic,okc,inc,blc,src,bhc,bhM,hbeg,stq⟩
     obtain ⟨gl,hgl⟩:∃gl,gl=iV (gQ done):=⟨_,rfl⟩
     have hgc':=hgc
     rw [← hgl] at hgc
     refine ⟨g,.lst gl,hgc,trivial,fun od=>?_⟩
     have vil:VI A (upd Hc g (.lE od (.lst gl))) s' dx' x' v' b' M':=vic.n (.locked ae fun q nq=>by rw [aj nq,aj nq])
     have hdl:(PyFlat.put done).length≤31000:=by
      rw [hns2,List.length_append] at hlen
      omega
     refine ⟨_,rfl,_,rfl,_,rfl,a,_,_,_,rfl,rfl,(src.upd _).sq,get0,_,rfl,?_⟩
     refine ⟨s',dx',x',v',b',M',bh,c,rfl,vil,okc,by rw [aj nbg];exact bhc,hc.1,hc.2,by omega,hbeg,fun H3 x3 v3 M3 b3 q e3 vi3 bl3 ex3 hq3=>?_⟩
     have hg3:H3 g=some (.lE od (.lst gl)):=ex3.same g _ ae gMc
     refine ⟨hg3,?_⟩
     have nqg:q≠g:=fun e=>by rw [e,hg3] at hq3;cases hq3
     have tl:=By (done++[c]) rest
     rw [List.append_assoc,List.singleton_append,← I.cut] at tl
     have ts:=x8 done c
     rw [stq] at ts
     have x4:(gQ (done++[c])).length=gl.length + (1 + (iE v' c).2.length):=by
      rw [ts,List.length_append,List.length_cons,hgl,List.length_map]
      omega
     have hq4:∀o,upd H3 g o q=some (.lst (iV (iE v' c).2)):=fun o=>by rw [aj nqg];exact hq3
     have hb4:∀o,upd H3 g o bh=some (.lst (iV (dh c))):=fun o=>by
      rw [aj nbg]
      exact ex3.same bh _ (by rw [aj nbg];exact bhc) bhM
     refine ⟨_,rfl,.inl ⟨rfl,_,bV.of ae⟩,_,rfl,q,_,rfl,.inl (bV.of (hq4 _)),g,_,_,rfl,rfl,ae,by rw [sizeLine_eq];omega,?_⟩
     rw [bg,List.length_map]
     refine ⟨_,rfl,.inl ⟨rfl,_,bV.of ae⟩,_,rfl,g,q,_,_,rfl,rfl,ae,hq4 _,by rw [sizeLine_eq,List.length_append,List.length_map];show gl.length + 1 + _≤_;omega,?_⟩
     rw [bg]
     refine ⟨_,rfl,_,rfl,bh,_,rfl,.inl (bV.of (hb4 _)),_,_,rfl,rfl,_,_,rfl,rfl,?_⟩
     refine ⟨rest.length,by simp,done++[c],rest,s',dx',x3,v3,b3,M3,o0,some (.ref bh),some (.ref q),?_,rfl,?_⟩
     ·have e:((PyFlat.put done).length:Int) + (1 + ((iV (dh c)).length:Int))=((PyFlat.put (done++[c])).length:Int):=by
       rw [wz,List.length_map]
       omega
      rw [← e]
      rfl
     ·have okn:=CG hc.1 hc.2 okc inc e3
      refine ⟨by rw [I.cut];simp,?_,fun hm=>?_,?_,okn.1,okn.2,by rw [wz];omega,((src.upd _).ext ex3).upd _,.inl ?_⟩
      ·rw [ae,ts,hgl]
       unfold iV
       rw [List.map_append,List.append_assoc]
       rfl
      ·rcases ex3.new g hm with z | z
       ·exact gMc z
       ·rw [ae] at z;cases z
      ·rw [bg]
       exact vi3.n (.locked hg3 fun q nq=>by rw [aj nq])
      ·rw [CH,stq]
       exact e3
theorem D9 (T:Txt P w K mg A) {fa:Addr} (hmg:mg "answers"=some (.ref fa)) :
  ∃fd:FuncData,(∀(s:Shared) (us:List Value),us.length=(["calls"]:List Str).length→BindsTo s fd ⟨us,[]⟩ ((["calls"]:List Str).zip us))∧∀base:Heap,iq P w K mg base zD 30 fa fd ["calls"] (pR K):=by
 obtain ⟨f,fd,F,e⟩:=T.my
 have e1:f=fa:=by
  rw [hmg] at e
  injection e with e
  injection e with e
  exact e.symm
 subst e1
 refine ⟨fd,?_,fun base=>(x9 T F).mono (by decide)⟩
 obtain ⟨oc,od,kV,doc,pm,an,cdv,ct,osl,rfl,lk,hcd⟩:=F.ex
 exact fun s us hu=>match us,hu with | [_],_=>.of_eq rfl
end
open PySem.W (nsIn findIn isFn codeIn keepIn makesIn plainGet hasDictIn plainOver fnOf)
section
variable {P:Program} {w:World} {K:PySem.W.Frag} {h:Heap} {mg:Str→Option Value}
theorem bp {x:Str} {st:Stmt} {f:Addr} {oc:Value} {od an:Option Addr} {osl:Array (Option Value)} {kV doc pm cdv ct:Value} (X:K.In h) (G:h.Ns mainGlobals mg) (a:nsIn K mainGlobals x=some (some (.ref f)))
  (l:K.lookup f=some ⟨oc,od,.func (fnOf x x (cU st) (cP st) (aw st) .none kV doc pm an cdv ct),osl⟩) (c:codeIn K cdv x=true) (k:keepIn K (.ref f)=true):ba K mg x st:=
 ⟨f,_,xg l c k,PySem.W.mg_of X G a⟩
theorem qd {m qual:Str} {C:Addr} {st:Stmt} {f:Addr} {oc:Value} {od an:Option Addr} {osl:Array (Option Value)} {kV doc pm cdv ct:Value} (X:K.In h) (a:findIn K (.ref C) m=some (some (.ref f))) (i:isFn K (.ref f)=true)
  (l:K.lookup f=some ⟨oc,od,.func (fnOf m qual (cU st) (cP st) (aw st) .none kV doc pm an cdv ct),osl⟩) (c:codeIn K cdv qual=true) (k:keepIn K (.ref f)=true):gs K C m qual st:=
 ⟨f,_,xg l c k,⟨a,i,k⟩⟩
theorem y_ {x qual:Str} {C:Addr} {st:Stmt} {f:Addr} {oc:Value} {od an:Option Addr} {osl:Array (Option Value)} {kV doc pm cdv ct:Value} (X:K.In h) (G:h.Ns mainGlobals mg) (g:nsIn K mainGlobals x=some (some (.ref C))) (a:findIn K (.ref C) "__init__"=some (some (.ref f))) (i:isFn K (.ref f)=true)
  (l:K.lookup f=some ⟨oc,od,.func (fnOf "__init__" qual (cU st) (cP st) (aw st) .none kV doc pm an cdv ct),osl⟩) (c:codeIn K cdv qual=true) (k:keepIn K (.ref f)=true) (m:makesIn K C=true) (kc:keepIn K (.ref C)=true):lU K mg C x qual st:=
 ⟨f,_,xg l c k,⟨m,a,i,kc⟩,PySem.W.mg_of X G g⟩
theorem bu {x:Str} {n:Int} {t:Tok} (X:K.In h) (G:h.Ns mainGlobals mg) (a:nsIn K mainGlobals x=some (some (.int n t))):aM mg x (.int n):=⟨_,PySem.W.mg_of X G a,t,rfl⟩
theorem D_ {x y:Str} {t:Tok} (X:K.In h) (G:h.Ns mainGlobals mg) (a:nsIn K mainGlobals x=some (some (.str y t))):aM mg x (.str y):=⟨_,PySem.W.mg_of X G a,t,rfl⟩
theorem Gv {C:Addr} (X:K.In h) (pg:plainGet K C Str.empty=true) (hd:hasDictIn K C=true) (po:plainOver K C=true) (sa:findIn K (.ref C) "__setattr__"=some (some (.builtin "object.__setattr__"))):sk K C:=⟨pg,hd,po,sa⟩
theorem GC {C:Addr} {f:Str} (X:K.In h) (n:findIn K (.ref C) f=some none):aD K C f:=n
theorem Bz {x:Str} {a:Addr} {od:Option Addr} {osl:Array (Option Value)} {its:Array Value} {n:Nat} {xs:List V} (X:K.In h) (G:h.Ns mainGlobals mg) (g:nsIn K mainGlobals x=some (some (.ref a))) (l:K.lookup a=some ⟨.type "tuple",od,.seq its n,osl⟩) (hs:its.size≤sizeLine) (v:Vals xs its.toList):tG K mg x xs:=
 ⟨a,PySem.W.mg_of X G g,fun H=>.inr ⟨_,its,n,l,rfl,rfl,hs,v⟩⟩
end
open PySem.W (nsIn findIn isFn codeIn keepIn makesIn plainGet hasDictIn plainOver fnOf)
section
variable {P:Program} {w:World} {K:PySem.W.Frag} {h:Heap} {mg:Str→Option Value}
abbrev aG (_:K.In h) (mg:Str→Option Value) (x:Str) (st:Stmt):Prop:=ba K mg x st
abbrev uT (_:K.In h) (mg:Str→Option Value) (x:Str) (xs:List V):Prop:=tG K mg x xs
def Fo (P:Params) (k:Str × Tok × Addr):DictEntry:=⟨PyData.keyHash P k.1,.str k.1 k.2.1,.ref k.2.2⟩
def Fp (k:Int × Tok × Int × Tok):DictEntry:=⟨hashInt k.1,.int k.1 k.2.1,.int k.2.2.1 k.2.2.2⟩
abbrev GD (ks:List (Str × Tok × Addr)):List (Key × V):=ks.map fun k=>(Sum.inr k.1,V.ref k.2.2)
abbrev GF (ks:List (Int × Tok × Int × Tok)):List (Key × V):=ks.map fun k=>(Sum.inl k.1,V.int k.2.2.1)
theorem BA:∀ks:List (Str × Tok × Addr),Pairs (gk P w) (ks.map (Fo w.params)) (ks.map fun k=>(Sum.inr k.1,Value.ref k.2.2))
 | []=>.nil
 | k :: ks=>.cons (by show Value.isStrOf k.1 (.str k.1 k.2.1)=true;simp [Value.isStrOf]) rfl (BA ks)
theorem BB:∀ks:List (Int × Tok × Int × Tok),Pairs (gk P w) (ks.map Fp) (ks.map fun k=>(Sum.inl k.1,Value.int k.2.2.1 k.2.2.2))
 | []=>.nil
 | k :: ks=>.cons (by show Value.isInt k.1 (.int k.1 k.2.1)=true;simp [Value.isInt]) rfl (BB ks)
theorem za:∀ks:List (Str × Tok × Addr),KV (GD ks) (ks.map fun k=>((Sum.inr k.1:Key),Value.ref k.2.2))
 | []=>.nil
 | k :: ks=>.cons ⟨rfl,rfl⟩ (za ks)
theorem zd:∀ks:List (Int × Tok × Int × Tok),KV (GF ks) (ks.map fun k=>((Sum.inl k.1:Key),Value.int k.2.2.1 k.2.2.2))
 | []=>.nil
 | k :: ks=>.cons ⟨rfl,_,rfl⟩ (zd ks)
theorem uU {x:Str} {a:Addr} {ep:Nat} (ks:List (Str × Tok × Addr)) (X:K.In h) (G:h.Ns mainGlobals mg) (g:nsIn K mainGlobals x=some (some (.ref a))) (hsys:(a == sysModules)=false) (l:K.lookup a=some ⟨.type "dict",none,.dict (ks.map (Fo w.params)).toArray ep,#[]⟩) (nd:(ks.map (·.1)).Nodup):mR P w K mg x (GD ks):=by
 refine ⟨a,PySem.W.mg_of X G g,hsys,_,_,ep,_,l,⟨rfl,rfl,rfl⟩,rfl,?_,by rw [List.toList_toArray];exact BA ks,?_,za ks⟩
 ·intro e he
  rw [List.mem_toArray] at he
  obtain ⟨k,_,rfl⟩:=List.mem_map.mp he
  exact ⟨Sum.inr k.1,by show Value.isStrOf k.1 (.str k.1 k.2.1)=true;simp [Value.isStrOf],rfl⟩
 ·rw [List.map_map]
  exact List.Pairwise.map _ (fun a b hab z=>hab (Sum.inr.inj z)) (List.pairwise_map.mp nd)
theorem Ea {x:Str} {a:Addr} {ep:Nat} (ks:List (Int × Tok × Int × Tok)) (X:K.In h) (G:h.Ns mainGlobals mg) (g:nsIn K mainGlobals x=some (some (.ref a))) (hsys:(a == sysModules)=false) (l:K.lookup a=some ⟨.type "dict",none,.dict (ks.map Fp).toArray ep,#[]⟩) (nd:(ks.map (·.1)).Nodup):mR P w K mg x (GF ks):=by
 refine ⟨a,PySem.W.mg_of X G g,hsys,_,_,ep,_,l,⟨rfl,rfl,rfl⟩,rfl,?_,by rw [List.toList_toArray];exact BB ks,?_,zd ks⟩
 ·intro e he
  rw [List.mem_toArray] at he
  obtain ⟨k,_,rfl⟩:=List.mem_map.mp he
  exact ⟨Sum.inl k.1,by show Value.isInt k.1 (.int k.1 k.2.1)=true;simp [Value.isInt],rfl⟩
 ·rw [List.map_map]
  exact List.Pairwise.map _ (fun a b hab z=>hab (Sum.inl.inj z)) (List.pairwise_map.mp nd)
end
open PySem.W (nsIn findIn isFn codeIn keepIn makesIn plainGet hasDictIn plainOver fnOf)
structure BC (K:PySem.W.Frag) (mg:Str→Option Value) (C:Addr):Prop where
 ur:lU K mg C "Form" "Form.__init__" fk
 bB:sk K C
 fo:aD K C "bits"
 bO:aD K C "size"
 dQ:aD K C "high_first"
 c_:aD K C "by_parts"
 dD:aD K C "greatest"
 eS:aD K C "shifts"
abbrev Eb {K:PySem.W.Frag} {h:Heap} (_:K.In h) (mg:Str→Option Value):Prop:=∃C,BC K mg C
theorem uV {K:PySem.W.Frag} {h:Heap} {mg:Str→Option Value} {C:Addr} {f0:Addr} {oc0 kV0 doc0 pm0 cdv0 ct0:Value} {od0 an0:Option Addr} {osl0:Array (Option Value)} (X:K.In h) (G:h.Ns mainGlobals mg) (g:nsIn K mainGlobals "Form"=some (some (.ref C))) (pg:plainGet K C Str.empty=true) (hd:hasDictIn K C=true) (po:plainOver K C=true) (sa:findIn K (.ref C) "__setattr__"=some (some (.builtin "object.__setattr__"))) (mk:makesIn K C=true) (kc:keepIn K (.ref C)=true) (a0:findIn K (.ref C) "__init__"=some (some (.ref f0))) (i0:isFn K (.ref f0)=true) (l0:K.lookup f0=some ⟨oc0,od0,.func (fnOf "__init__" "Form.__init__" (cU fk) (cP fk) (aw fk) .none kV0 doc0 pm0 an0 cdv0 ct0),osl0⟩) (c0:codeIn K cdv0 "Form.__init__"=true) (k0:keepIn K (.ref f0)=true) (n0:findIn K (.ref C) "bits"=some none) (n1:findIn K (.ref C) "size"=some none) (n2:findIn K (.ref C) "high_first"=some none) (n3:findIn K (.ref C) "by_parts"=some none) (n4:findIn K (.ref C) "greatest"=some none) (n5:findIn K (.ref C) "shifts"=some none):∃C,BC K mg C:=⟨C,y_ (st:=fk) X G g a0 i0 l0 c0 k0 mk kc,⟨pg,hd,po,sa⟩,n0,n1,n2,n3,n4,n5⟩
structure tJ (K:PySem.W.Frag) (mg:Str→Option Value) (C:Addr):Prop where
 mB:lU K mg C "Session" "Session.__init__" du
 fM:gs K C "expect" "Session.expect" cJ
 gF:gs K C "fail" "Session.fail" dv
 eK:gs K C "standing" "Session.standing" cf
 gG:gs K C "send" "Session.send" dw
 fi:gs K C "ask_for" "Session.ask_for" cx
 gb:gs K C "fetch" "Session.fetch" c9
 dP:gs K C "count_bell" "Session.count_bell" bU
 dk:gs K C "count_update" "Session.count_update" bJ
 af:sk K C
 dE:aD K C "stage"
 cT:aD K C "need"
 cy:aD K C "pending"
 bQ:aD K C "waiting"
 bL:aD K C "wrong"
 cX:aD K C "greeted"
 bP:aD K C "far_columns"
 cg:aD K C "far_rows"
 aL:aD K C "form"
 bG:aD K C "columns"
 b9:aD K C "rows"
 cn:aD K C "screen"
 da:aD K C "table"
 bY:aD K C "first_colour"
 aF:aD K C "rectangle"
 br:aD K C "rectangles_left"
 dc:aD K C "bells"
 cA:aD K C "updates"
 ck:aD K C "cut_text"
 eg:aD K C "name"
abbrev Aw {K:PySem.W.Frag} {h:Heap} (_:K.In h) (mg:Str→Option Value):Prop:=∃C,tJ K mg C
theorem nN {K:PySem.W.Frag} {h:Heap} {mg:Str→Option Value} {C:Addr} {f0:Addr} {oc0 kV0 doc0 pm0 cdv0 ct0:Value} {od0 an0:Option Addr} {osl0:Array (Option Value)} {f1:Addr} {oc1 kV1 doc1 pm1 cdv1 ct1:Value} {od1 an1:Option Addr} {osl1:Array (Option Value)} {f2:Addr} {oc2 kV2 doc2 pm2 cdv2 ct2:Value} {od2 an2:Option Addr} {osl2:Array (Option Value)} {f3:Addr} {oc3 kV3 doc3 pm3 cdv3 ct3:Value} {od3 an3:Option Addr} {osl3:Array (Option Value)} {f4:Addr} {oc4 kV4 doc4 pm4 cdv4 ct4:Value} {od4 an4:Option Addr} {osl4:Array (Option Value)} {f5:Addr} {oc5 kV5 doc5 pm5 cdv5 ct5:Value} {od5 an5:Option Addr} {osl5:Array (Option Value)} {f6:Addr} {oc6 kV6 doc6 pm6 cdv6 ct6:Value} {od6 an6:Option Addr} {osl6:Array (Option Value)} {f7:Addr} {oc7 kV7 doc7 pm7 cdv7 ct7:Value} {od7 an7:Option Addr} {osl7:Array (Option Value)} {f8:Addr} {oc8 kV8 doc8 pm8 cdv8 ct8:Value} {od8 an8:Option Addr} {osl8:Array (Option Value)} (X:K.In h) (G:h.Ns mainGlobals mg) (g:nsIn K mainGlobals "Session"=some (some (.ref C))) (pg:plainGet K C Str.empty=true) (hd:hasDictIn K C=true) (po:plainOver K C=true) (sa:findIn K (.ref C) "__setattr__"=some (some (.builtin "object.__setattr__"))) (mk:makesIn K C=true) (kc:keepIn K (.ref C)=true) (a0:findIn K (.ref C) "__init__"=some (some (.ref f0))) (i0:isFn K (.ref f0)=true) (l0:K.lookup f0=some ⟨oc0,od0,.func (fnOf "__init__" "Session.__init__" (cU du) (cP du) (aw du) .none kV0 doc0 pm0 an0 cdv0 ct0),osl0⟩) (c0:codeIn K cdv0 "Session.__init__"=true) (k0:keepIn K (.ref f0)=true) (a1:findIn K (.ref C) "expect"=some (some (.ref f1))) (i1:isFn K (.ref f1)=true) (l1:K.lookup f1=some ⟨oc1,od1,.func (fnOf "expect" "Session.expect" (cU cJ) (cP cJ) (aw cJ) .none kV1 doc1 pm1 an1 cdv1 ct1),osl1⟩) (c1:codeIn K cdv1 "Session.expect"=true) (k1:keepIn K (.ref f1)=true) (a2:findIn K (.ref C) "fail"=some (some (.ref f2))) (i2:isFn K (.ref f2)=true) (l2:K.lookup f2=some ⟨oc2,od2,.func (fnOf "fail" "Session.fail" (cU dv) (cP dv) (aw dv) .none kV2 doc2 pm2 an2 cdv2 ct2),osl2⟩) (c2:codeIn K cdv2 "Session.fail"=true) (k2:keepIn K (.ref f2)=true) (a3:findIn K (.ref C) "standing"=some (some (.ref f3))) (i3:isFn K (.ref f3)=true) (l3:K.lookup f3=some ⟨oc3,od3,.func (fnOf "standing" "Session.standing" (cU cf) (cP cf) (aw cf) .none kV3 doc3 pm3 an3 cdv3 ct3),osl3⟩) (c3:codeIn K cdv3 "Session.standing"=true) (k3:keepIn K (.ref f3)=true) (a4:findIn K (.ref C) "send"=some (some (.ref f4))) (i4:isFn K (.ref f4)=true) (l4:K.lookup f4=some ⟨oc4,od4,.func (fnOf "send" "Session.send" (cU dw) (cP dw) (aw dw) .none kV4 doc4 pm4 an4 cdv4 ct4),osl4⟩) (c4:codeIn K cdv4 "Session.send"=true) (k4:keepIn K (.ref f4)=true) (a5:findIn K (.ref C) "ask_for"=some (some (.ref f5))) (i5:isFn K (.ref f5)=true) (l5:K.lookup f5=some ⟨oc5,od5,.func (fnOf "ask_for" "Session.ask_for" (cU cx) (cP cx) (aw cx) .none kV5 doc5 pm5 an5 cdv5 ct5),osl5⟩) (c5:codeIn K cdv5 "Session.ask_for"=true) (k5:keepIn K (.ref f5)=true) (a6:findIn K (.ref C) "fetch"=some (some (.ref f6))) (i6:isFn K (.ref f6)=true) (l6:K.lookup f6=some ⟨oc6,od6,.func (fnOf "fetch" "Session.fetch" (cU c9) (cP c9) (aw c9) .none kV6 doc6 pm6 an6 cdv6 ct6),osl6⟩) (c6:codeIn K cdv6 "Session.fetch"=true) (k6:keepIn K (.ref f6)=true) (a7:findIn K (.ref C) "count_bell"=some (some (.ref f7))) (i7:isFn K (.ref f7)=true) (l7:K.lookup f7=some ⟨oc7,od7,.func (fnOf "count_bell" "Session.count_bell" (cU bU) (cP bU) (aw bU) .none kV7 doc7 pm7 an7 cdv7 ct7),osl7⟩) (c7:codeIn K cdv7 "Session.count_bell"=true) (k7:keepIn K (.ref f7)=true) (a8:findIn K (.ref C) "count_update"=some (some (.ref f8))) (i8:isFn K (.ref f8)=true) (l8:K.lookup f8=some ⟨oc8,od8,.func (fnOf "count_update" "Session.count_update" (cU bJ) (cP bJ) (aw bJ) .none kV8 doc8 pm8 an8 cdv8 ct8),osl8⟩) (c8:codeIn K cdv8 "Session.count_update"=true) (k8:keepIn K (.ref f8)=true) (n0:findIn K (.ref C) "stage"=some none) (n1:findIn K (.ref C) "need"=some none) (n2:findIn K (.ref C) "pending"=some none) (n3:findIn K (.ref C) "waiting"=some none) (n4:findIn K (.ref C) "wrong"=some none) (n5:findIn K (.ref C) "greeted"=some none) (n6:findIn K (.ref C) "far_columns"=some none) (n7:findIn K (.ref C) "far_rows"=some none) (n8:findIn K (.ref C) "form"=some none) (n9:findIn K (.ref C) "columns"=some none) (n10:findIn K (.ref C) "rows"=some none) (n11:findIn K (.ref C) "screen"=some none) (n12:findIn K (.ref C) "table"=some none) (n13:findIn K (.ref C) "first_colour"=some none) (n14:findIn K (.ref C) "rectangle"=some none) (n15:findIn K (.ref C) "rectangles_left"=some none) (n16:findIn K (.ref C) "bells"=some none) (n17:findIn K (.ref C) "updates"=some none) (n18:findIn K (.ref C) "cut_text"=some none) (n19:findIn K (.ref C) "name"=some none):∃C,tJ K mg C:=⟨C,y_ (st:=du) X G g a0 i0 l0 c0 k0 mk kc,qd (st:=cJ) X a1 i1 l1 c1 k1,qd (st:=dv) X a2 i2 l2 c2 k2,qd (st:=cf) X a3 i3 l3 c3 k3,qd (st:=dw) X a4 i4 l4 c4 k4,qd (st:=cx) X a5 i5 l5 c5 k5,qd (st:=c9) X a6 i6 l6 c6 k6,qd (st:=bU) X a7 i7 l7 c7 k7,qd (st:=bJ) X a8 i8 l8 c8 k8,⟨pg,hd,po,sa⟩,n0,n1,n2,n3,n4,n5,n6,n7,n8,n9,n10,n11,n12,n13,n14,n15,n16,n17,n18,n19⟩
structure qe (K:PySem.W.Frag) (mg:Str→Option Value) (C:Addr):Prop where
 jY:lU K mg C "Rectangle" "Rectangle.__init__" cK
 au:sk K C
 cM:aD K C "left"
 de:aD K C "top"
 aZ:aD K C "width"
 aS:aD K C "height"
 bx:aD K C "coding"
 bc:aD K C "picture"
 bt:aD K C "parts_left"
 dq:aD K C "back"
 cY:aD K C "front"
 bC:aD K C "tile"
abbrev wA {K:PySem.W.Frag} {h:Heap} (_:K.In h) (mg:Str→Option Value):Prop:=∃C,qe K mg C
theorem lj {K:PySem.W.Frag} {h:Heap} {mg:Str→Option Value} {C:Addr} {f0:Addr} {oc0 kV0 doc0 pm0 cdv0 ct0:Value} {od0 an0:Option Addr} {osl0:Array (Option Value)} (X:K.In h) (G:h.Ns mainGlobals mg) (g:nsIn K mainGlobals "Rectangle"=some (some (.ref C))) (pg:plainGet K C Str.empty=true) (hd:hasDictIn K C=true) (po:plainOver K C=true) (sa:findIn K (.ref C) "__setattr__"=some (some (.builtin "object.__setattr__"))) (mk:makesIn K C=true) (kc:keepIn K (.ref C)=true) (a0:findIn K (.ref C) "__init__"=some (some (.ref f0))) (i0:isFn K (.ref f0)=true) (l0:K.lookup f0=some ⟨oc0,od0,.func (fnOf "__init__" "Rectangle.__init__" (cU cK) (cP cK) (aw cK) .none kV0 doc0 pm0 an0 cdv0 ct0),osl0⟩) (c0:codeIn K cdv0 "Rectangle.__init__"=true) (k0:keepIn K (.ref f0)=true) (n0:findIn K (.ref C) "left"=some none) (n1:findIn K (.ref C) "top"=some none) (n2:findIn K (.ref C) "width"=some none) (n3:findIn K (.ref C) "height"=some none) (n4:findIn K (.ref C) "coding"=some none) (n5:findIn K (.ref C) "picture"=some none) (n6:findIn K (.ref C) "parts_left"=some none) (n7:findIn K (.ref C) "back"=some none) (n8:findIn K (.ref C) "front"=some none) (n9:findIn K (.ref C) "tile"=some none):∃C,qe K mg C:=⟨C,y_ (st:=cK) X G g a0 i0 l0 c0 k0 mk kc,⟨pg,hd,po,sa⟩,n0,n1,n2,n3,n4,n5,n6,n7,n8,n9⟩
structure BD (K:PySem.W.Frag) (mg:Str→Option Value) (C:Addr):Prop where
 uu:lU K mg C "Tile" "Tile.__init__" fm
 bz:sk K C
 ig:aD K C "left"
 gf:aD K C "top"
 dS:aD K C "width"
 cQ:aD K C "height"
 bo:aD K C "bits_set"
 dy:aD K C "picture"
 cC:aD K C "parts_left"
abbrev Ec {K:PySem.W.Frag} {h:Heap} (_:K.In h) (mg:Str→Option Value):Prop:=∃C,BD K mg C
theorem uW {K:PySem.W.Frag} {h:Heap} {mg:Str→Option Value} {C:Addr} {f0:Addr} {oc0 kV0 doc0 pm0 cdv0 ct0:Value} {od0 an0:Option Addr} {osl0:Array (Option Value)} (X:K.In h) (G:h.Ns mainGlobals mg) (g:nsIn K mainGlobals "Tile"=some (some (.ref C))) (pg:plainGet K C Str.empty=true) (hd:hasDictIn K C=true) (po:plainOver K C=true) (sa:findIn K (.ref C) "__setattr__"=some (some (.builtin "object.__setattr__"))) (mk:makesIn K C=true) (kc:keepIn K (.ref C)=true) (a0:findIn K (.ref C) "__init__"=some (some (.ref f0))) (i0:isFn K (.ref f0)=true) (l0:K.lookup f0=some ⟨oc0,od0,.func (fnOf "__init__" "Tile.__init__" (cU fm) (cP fm) (aw fm) .none kV0 doc0 pm0 an0 cdv0 ct0),osl0⟩) (c0:codeIn K cdv0 "Tile.__init__"=true) (k0:keepIn K (.ref f0)=true) (n0:findIn K (.ref C) "left"=some none) (n1:findIn K (.ref C) "top"=some none) (n2:findIn K (.ref C) "width"=some none) (n3:findIn K (.ref C) "height"=some none) (n4:findIn K (.ref C) "bits_set"=some none) (n5:findIn K (.ref C) "picture"=some none) (n6:findIn K (.ref C) "parts_left"=some none):∃C,BD K mg C:=⟨C,y_ (st:=fm) X G g a0 i0 l0 c0 k0 mk kc,⟨pg,hd,po,sa⟩,n0,n1,n2,n3,n4,n5,n6⟩
end SV
end
section
open PySem PySem.W PyProof.Rows
set_option maxHeartbeats 0 in
theorem PySem.Challenge.cw_screenviewer_s01_answers_holds : PySem.Challenge.rw_screenviewer_s01_answers.Holds := by
 w_on;k_headS;(case hw=>exact ⟨[.list [.int 0]],by decide +kernel,by decide +kernel⟩)
 k_fillS
 refine L2.xh (r:=PySem.Challenge.rw_screenviewer_s01_answers) (k:=30) (CX:=L2.zD) (ps:=["calls"]) (sp:=SV.pR) (by decide +kernel) rfl rfl ⟨rfl,by decide,by decide⟩ (fun w h Y=>PySem.W.kIn_of Y) ?F ?S (fun _ _ _ _ z=>z)
 case F=>
  intro w mg fa h Y KX G hmg
  clear Y
  have uV:SV.Eb KX mg:=by
   refine' SV.uV KX G ?g ?pg ?hd ?po ?sa ?mk ?kc ?a0 ?i0 ?l0 ?c0 ?k0 ?n0 ?n1 ?n2 ?n3 ?n4 ?n5
   (case g=>k_is);(case pg=>k_is);(case hd=>k_is);(case po=>k_is);(case sa=>k_is);(case mk=>k_is);(case kc=>k_is);(case a0=>k_is);(case i0=>k_is);(case l0=>k_is);(case c0=>k_is);(case k0=>k_is);(case n0=>k_is);(case n1=>k_is);(case n2=>k_is);(case n3=>k_is);(case n4=>k_is);(case n5=>k_is)
  obtain ⟨C_Form,bB⟩:=uV
  have nN:SV.Aw KX mg:=by
   refine' SV.nN KX G ?g ?pg ?hd ?po ?sa ?mk ?kc ?a0 ?i0 ?l0 ?c0 ?k0 ?a1 ?i1 ?l1 ?c1 ?k1 ?a2 ?i2 ?l2 ?c2 ?k2 ?a3 ?i3 ?l3 ?c3 ?k3 ?a4 ?i4 ?l4 ?c4 ?k4 ?a5 ?i5 ?l5 ?c5 ?k5 ?a6 ?i6 ?l6 ?c6 ?k6 ?a7 ?i7 ?l7 ?c7 ?k7 ?a8 ?i8 ?l8 ?c8 ?k8 ?n0 ?n1 ?n2 ?n3 ?n4 ?n5 ?n6 ?n7 ?n8 ?n9 ?n10 ?n11 ?n12 ?n13 ?n14 ?n15 ?n16 ?n17 ?n18 ?n19
   (case g=>k_is);(case pg=>k_is);(case hd=>k_is);(case po=>k_is);(case sa=>k_is);(case mk=>k_is);(case kc=>k_is);(case a0=>k_is);(case i0=>k_is);(case l0=>k_is);(case c0=>k_is);(case k0=>k_is);(case a1=>k_is);(case i1=>k_is);(case l1=>k_is);(case c1=>k_is);(case k1=>k_is);(case a2=>k_is);(case i2=>k_is);(case l2=>k_is);(case c2=>k_is);(case k2=>k_is);(case a3=>k_is);(case i3=>k_is);(case l3=>k_is);(case c3=>k_is);(case k3=>k_is);(case a4=>k_is);(case i4=>k_is);(case l4=>k_is);(case c4=>k_is);(case k4=>k_is);(case a5=>k_is);(case i5=>k_is);(case l5=>k_is);(case c5=>k_is);(case k5=>k_is);(case a6=>k_is);(case i6=>k_is);(case l6=>k_is);(case c6=>k_is);(case k6=>k_is);(case a7=>k_is);(case i7=>k_is);(case l7=>k_is);(case c7=>k_is);(case k7=>k_is);(case a8=>k_is);(case i8=>k_is);(case l8=>k_is);(case c8=>k_is);(case k8=>k_is);(case n0=>k_is);(case n1=>k_is);(case n2=>k_is);(case n3=>k_is);(case n4=>k_is);(case n5=>k_is);(case n6=>k_is);(case n7=>k_is);(case n8=>k_is);(case n9=>k_is);(case n10=>k_is);(case n11=>k_is);(case n12=>k_is);(case n13=>k_is);(case n14=>k_is);(case n15=>k_is);(case n16=>k_is);(case n17=>k_is);(case n18=>k_is);(case n19=>k_is)
  obtain ⟨C_Session,af⟩:=nN
  have lj:SV.wA KX mg:=by
   refine' SV.lj KX G ?g ?pg ?hd ?po ?sa ?mk ?kc ?a0 ?i0 ?l0 ?c0 ?k0 ?n0 ?n1 ?n2 ?n3 ?n4 ?n5 ?n6 ?n7 ?n8 ?n9
   (case g=>k_is);(case pg=>k_is);(case hd=>k_is);(case po=>k_is);(case sa=>k_is);(case mk=>k_is);(case kc=>k_is);(case a0=>k_is);(case i0=>k_is);(case l0=>k_is);(case c0=>k_is);(case k0=>k_is);(case n0=>k_is);(case n1=>k_is);(case n2=>k_is);(case n3=>k_is);(case n4=>k_is);(case n5=>k_is);(case n6=>k_is);(case n7=>k_is);(case n8=>k_is);(case n9=>k_is)
  obtain ⟨C_Rectangle,au⟩:=lj
  have uW:SV.Ec KX mg:=by
   refine' SV.uW KX G ?g ?pg ?hd ?po ?sa ?mk ?kc ?a0 ?i0 ?l0 ?c0 ?k0 ?n0 ?n1 ?n2 ?n3 ?n4 ?n5 ?n6
   (case g=>k_is);(case pg=>k_is);(case hd=>k_is);(case po=>k_is);(case sa=>k_is);(case mk=>k_is);(case kc=>k_is);(case a0=>k_is);(case i0=>k_is);(case l0=>k_is);(case c0=>k_is);(case k0=>k_is);(case n0=>k_is);(case n1=>k_is);(case n2=>k_is);(case n3=>k_is);(case n4=>k_is);(case n5=>k_is);(case n6=>k_is)
  obtain ⟨C_Tile,bz⟩:=uW
  have iQ:SV.aG KX mg "colours_of" SV.iH:=by
   refine' SV.bp (st:=SV.iH) KX G ?a ?l ?c ?k;(case a=>k_is);(case l=>k_is);(case c=>k_is);(case k=>k_is)
  have e_:SV.aG KX mg "colour_by_parts" SV.eV:=by
   refine' SV.bp (st:=SV.eV) KX G ?a ?l ?c ?k;(case a=>k_is);(case l=>k_is);(case c=>k_is);(case k=>k_is)
  have fe:SV.aG KX mg "colour_by_table" SV.eW:=by
   refine' SV.bp (st:=SV.eW) KX G ?a ?l ?c ?k;(case a=>k_is);(case l=>k_is);(case c=>k_is);(case k=>k_is)
  have jN:SV.aG KX mg "number_at" SV.jz:=by
   refine' SV.bp (st:=SV.jz) KX G ?a ?l ?c ?k;(case a=>k_is);(case l=>k_is);(case c=>k_is);(case k=>k_is)
  have gB:SV.aG KX mg "number_bytes" SV.gv:=by
   refine' SV.bp (st:=SV.gv) KX G ?a ?l ?c ?k;(case a=>k_is);(case l=>k_is);(case c=>k_is);(case k=>k_is)
  have iR:SV.aG KX mg "form_holds" SV.iI:=by
   refine' SV.bp (st:=SV.iI) KX G ?a ?l ?c ?k;(case a=>k_is);(case l=>k_is);(case c=>k_is);(case k=>k_is)
  have iS:SV.aG KX mg "parts_hold" SV.iJ:=by
   refine' SV.bp (st:=SV.iJ) KX G ?a ?l ?c ?k;(case a=>k_is);(case l=>k_is);(case c=>k_is);(case k=>k_is)
  have kQ:SV.aG KX mg "pixel_at" SV.kL:=by
   refine' SV.bp (st:=SV.kL) KX G ?a ?l ?c ?k;(case a=>k_is);(case l=>k_is);(case c=>k_is);(case k=>k_is)
  have iT:SV.aG KX mg "pixel_rows" SV.iK:=by
   refine' SV.bp (st:=SV.iK) KX G ?a ?l ?c ?k;(case a=>k_is);(case l=>k_is);(case c=>k_is);(case k=>k_is)
  have oP:SV.aG KX mg "within" SV.oB:=by
   refine' SV.bp (st:=SV.oB) KX G ?a ?l ?c ?k;(case a=>k_is);(case l=>k_is);(case c=>k_is);(case k=>k_is)
  have oQ:SV.aG KX mg "filled" SV.oC:=by
   refine' SV.bp (st:=SV.oC) KX G ?a ?l ?c ?k;(case a=>k_is);(case l=>k_is);(case c=>k_is);(case k=>k_is)
  have uk:SV.aG KX mg "fill" SV.ua:=by
   refine' SV.bp (st:=SV.ua) KX G ?a ?l ?c ?k;(case a=>k_is);(case l=>k_is);(case c=>k_is);(case k=>k_is)
  have um:SV.aG KX mg "move" SV.ub:=by
   refine' SV.bp (st:=SV.ub) KX G ?a ?l ?c ?k;(case a=>k_is);(case l=>k_is);(case c=>k_is);(case k=>k_is)
  have qH:SV.aG KX mg "paste" SV.qG:=by
   refine' SV.bp (st:=SV.qG) KX G ?a ?l ?c ?k;(case a=>k_is);(case l=>k_is);(case c=>k_is);(case k=>k_is)
  have kR:SV.aG KX mg "row_with" SV.kM:=by
   refine' SV.bp (st:=SV.kM) KX G ?a ?l ?c ?k;(case a=>k_is);(case l=>k_is);(case c=>k_is);(case k=>k_is)
  have gC:SV.aG KX mg "take_version" SV.gw:=by
   refine' SV.bp (st:=SV.gw) KX G ?a ?l ?c ?k;(case a=>k_is);(case l=>k_is);(case c=>k_is);(case k=>k_is)
  have dO:SV.aG KX mg "take_how_many_ways" SV.dN:=by
   refine' SV.bp (st:=SV.dN) KX G ?a ?l ?c ?k;(case a=>k_is);(case l=>k_is);(case c=>k_is);(case k=>k_is)
  have jO:SV.aG KX mg "take_ways" SV.jA:=by
   refine' SV.bp (st:=SV.jA) KX G ?a ?l ?c ?k;(case a=>k_is);(case l=>k_is);(case c=>k_is);(case k=>k_is)
  have g8:SV.aG KX mg "take_number" SV.gS:=by
   refine' SV.bp (st:=SV.gS) KX G ?a ?l ?c ?k;(case a=>k_is);(case l=>k_is);(case c=>k_is);(case k=>k_is)
  have jP:SV.aG KX mg "take_size" SV.jB:=by
   refine' SV.bp (st:=SV.jB) KX G ?a ?l ?c ?k;(case a=>k_is);(case l=>k_is);(case c=>k_is);(case k=>k_is)
  have jQ:SV.aG KX mg "take_form" SV.jC:=by
   refine' SV.bp (st:=SV.jC) KX G ?a ?l ?c ?k;(case a=>k_is);(case l=>k_is);(case c=>k_is);(case k=>k_is)
  have eH:SV.aG KX mg "take_name_length" SV.eD:=by
   refine' SV.bp (st:=SV.eD) KX G ?a ?l ?c ?k;(case a=>k_is);(case l=>k_is);(case c=>k_is);(case k=>k_is)
  have jR:SV.aG KX mg "take_name" SV.jD:=by
   refine' SV.bp (st:=SV.jD) KX G ?a ?l ?c ?k;(case a=>k_is);(case l=>k_is);(case c=>k_is);(case k=>k_is)
  have ff:SV.aG KX mg "codings_message" SV.eX:=by
   refine' SV.bp (st:=SV.eX) KX G ?a ?l ?c ?k;(case a=>k_is);(case l=>k_is);(case c=>k_is);(case k=>k_is)
  have fI:SV.aG KX mg "next_rectangle" SV.fD:=by
   refine' SV.bp (st:=SV.fD) KX G ?a ?l ?c ?k;(case a=>k_is);(case l=>k_is);(case c=>k_is);(case k=>k_is)
  have eI:SV.aG KX mg "finish_rectangle" SV.eE:=by
   refine' SV.bp (st:=SV.eE) KX G ?a ?l ?c ?k;(case a=>k_is);(case l=>k_is);(case c=>k_is);(case k=>k_is)
  have fg:SV.aG KX mg "leave_rectangle" SV.eY:=by
   refine' SV.bp (st:=SV.eY) KX G ?a ?l ?c ?k;(case a=>k_is);(case l=>k_is);(case c=>k_is);(case k=>k_is)
  have jS:SV.aG KX mg "take_kind" SV.jE:=by
   refine' SV.bp (st:=SV.jE) KX G ?a ?l ?c ?k;(case a=>k_is);(case l=>k_is);(case c=>k_is);(case k=>k_is)
  have g9:SV.aG KX mg "take_update" SV.gT:=by
   refine' SV.bp (st:=SV.gT) KX G ?a ?l ?c ?k;(case a=>k_is);(case l=>k_is);(case c=>k_is);(case k=>k_is)
  have iU:SV.aG KX mg "take_table" SV.iL:=by
   refine' SV.bp (st:=SV.iL) KX G ?a ?l ?c ?k;(case a=>k_is);(case l=>k_is);(case c=>k_is);(case k=>k_is)
  have gD:SV.aG KX mg "take_colours" SV.gx:=by
   refine' SV.bp (st:=SV.gx) KX G ?a ?l ?c ?k;(case a=>k_is);(case l=>k_is);(case c=>k_is);(case k=>k_is)
  have fh:SV.aG KX mg "take_cut_length" SV.eZ:=by
   refine' SV.bp (st:=SV.eZ) KX G ?a ?l ?c ?k;(case a=>k_is);(case l=>k_is);(case c=>k_is);(case k=>k_is)
  have f9:SV.aG KX mg "take_cut_text" SV.fY:=by
   refine' SV.bp (st:=SV.fY) KX G ?a ?l ?c ?k;(case a=>k_is);(case l=>k_is);(case c=>k_is);(case k=>k_is)
  have g_:SV.aG KX mg "begin_tiles" SV.gU:=by
   refine' SV.bp (st:=SV.gU) KX G ?a ?l ?c ?k;(case a=>k_is);(case l=>k_is);(case c=>k_is);(case k=>k_is)
  have jT:SV.aG KX mg "next_tile" SV.jF:=by
   refine' SV.bp (st:=SV.jF) KX G ?a ?l ?c ?k;(case a=>k_is);(case l=>k_is);(case c=>k_is);(case k=>k_is)
  have hJ:SV.aG KX mg "finish_tile" SV.gW:=by
   refine' SV.bp (st:=SV.gW) KX G ?a ?l ?c ?k;(case a=>k_is);(case l=>k_is);(case c=>k_is);(case k=>k_is)
  have jU:SV.aG KX mg "take_tile" SV.jG:=by
   refine' SV.bp (st:=SV.jG) KX G ?a ?l ?c ?k;(case a=>k_is);(case l=>k_is);(case c=>k_is);(case k=>k_is)
  have eJ:SV.aG KX mg "take_tile_pixels" SV.eF:=by
   refine' SV.bp (st:=SV.eF) KX G ?a ?l ?c ?k;(case a=>k_is);(case l=>k_is);(case c=>k_is);(case k=>k_is)
  have d7:SV.aG KX mg "take_tile_colours" SV.d6:=by
   refine' SV.bp (st:=SV.d6) KX G ?a ?l ?c ?k;(case a=>k_is);(case l=>k_is);(case c=>k_is);(case k=>k_is)
  have fJ:SV.aG KX mg "next_tile_part" SV.fE:=by
   refine' SV.bp (st:=SV.fE) KX G ?a ?l ?c ?k;(case a=>k_is);(case l=>k_is);(case c=>k_is);(case k=>k_is)
  have fK:SV.aG KX mg "take_tile_part" SV.fF:=by
   refine' SV.bp (st:=SV.fF) KX G ?a ?l ?c ?k;(case a=>k_is);(case l=>k_is);(case c=>k_is);(case k=>k_is)
  have fL:SV.aG KX mg "take_rectangle" SV.fG:=by
   refine' SV.bp (st:=SV.fG) KX G ?a ?l ?c ?k;(case a=>k_is);(case l=>k_is);(case c=>k_is);(case k=>k_is)
  have jV:SV.aG KX mg "on_screen" SV.jH:=by
   refine' SV.bp (st:=SV.jH) KX G ?a ?l ?c ?k;(case a=>k_is);(case l=>k_is);(case c=>k_is);(case k=>k_is)
  have hU:SV.aG KX mg "take_pixels" SV.gX:=by
   refine' SV.bp (st:=SV.gX) KX G ?a ?l ?c ?k;(case a=>k_is);(case l=>k_is);(case c=>k_is);(case k=>k_is)
  have hX:SV.aG KX mg "take_source" SV.gY:=by
   refine' SV.bp (st:=SV.gY) KX G ?a ?l ?c ?k;(case a=>k_is);(case l=>k_is);(case c=>k_is);(case k=>k_is)
  have dA:SV.aG KX mg "take_how_many_parts" SV.dz:=by
   refine' SV.bp (st:=SV.dz) KX G ?a ?l ?c ?k;(case a=>k_is);(case l=>k_is);(case c=>k_is);(case k=>k_is)
  have hZ:SV.aG KX mg "take_ground" SV.gZ:=by
   refine' SV.bp (st:=SV.gZ) KX G ?a ?l ?c ?k;(case a=>k_is);(case l=>k_is);(case c=>k_is);(case k=>k_is)
  have jW:SV.aG KX mg "next_part" SV.jI:=by
   refine' SV.bp (st:=SV.jI) KX G ?a ?l ?c ?k;(case a=>k_is);(case l=>k_is);(case c=>k_is);(case k=>k_is)
  have iW:SV.aG KX mg "place_size" SV.iM:=by
   refine' SV.bp (st:=SV.iM) KX G ?a ?l ?c ?k;(case a=>k_is);(case l=>k_is);(case c=>k_is);(case k=>k_is)
  have jX:SV.aG KX mg "take_part" SV.jJ:=by
   refine' SV.bp (st:=SV.jJ) KX G ?a ?l ?c ?k;(case a=>k_is);(case l=>k_is);(case c=>k_is);(case k=>k_is)
  have uo:SV.aG KX mg "feed" SV.uc:=by
   refine' SV.bp (st:=SV.uc) KX G ?a ?l ?c ?k;(case a=>k_is);(case l=>k_is);(case c=>k_is);(case k=>k_is)
  have iX:SV.aG KX mg "take_words" SV.iN:=by
   refine' SV.bp (st:=SV.iN) KX G ?a ?l ?c ?k;(case a=>k_is);(case l=>k_is);(case c=>k_is);(case k=>k_is)
  have my:SV.aG KX mg "answers" SV.kl:=by
   refine' SV.bp (st:=SV.kl) KX G ?a ?l ?c ?k;(case a=>k_is);(case l=>k_is);(case c=>k_is);(case k=>k_is)
  have kS:SV.aG KX mg "call_end" SV.kN:=by
   refine' SV.bp (st:=SV.kN) KX G ?a ?l ?c ?k;(case a=>k_is);(case l=>k_is);(case c=>k_is);(case k=>k_is)
  have h9:SV.aG KX mg "answer_call" SV.g7:=by
   refine' SV.bp (st:=SV.g7) KX G ?a ?l ?c ?k;(case a=>k_is);(case l=>k_is);(case c=>k_is);(case k=>k_is)
  have iY:SV.aG KX mg "take_bytes" SV.iO:=by
   refine' SV.bp (st:=SV.iO) KX G ?a ?l ?c ?k;(case a=>k_is);(case l=>k_is);(case c=>k_is);(case k=>k_is)
  have gE:SV.aG KX mg "fetch_output" SV.gz:=by
   refine' SV.bp (st:=SV.gz) KX G ?a ?l ?c ?k;(case a=>k_is);(case l=>k_is);(case c=>k_is);(case k=>k_is)
  have kT:SV.aG KX mg "send_key" SV.kO:=by
   refine' SV.bp (st:=SV.kO) KX G ?a ?l ?c ?k;(case a=>k_is);(case l=>k_is);(case c=>k_is);(case k=>k_is)
  have iZ:SV.aG KX mg "send_point" SV.iP:=by
   refine' SV.bp (st:=SV.iP) KX G ?a ?l ?c ?k;(case a=>k_is);(case l=>k_is);(case c=>k_is);(case k=>k_is)
  have kU:SV.aG KX mg "show_row" SV.kP:=by
   refine' SV.bp (st:=SV.kP) KX G ?a ?l ?c ?k;(case a=>k_is);(case l=>k_is);(case c=>k_is);(case k=>k_is)
  have f_:SV.aG KX mg "show_cut_text" SV.fZ:=by
   refine' SV.bp (st:=SV.fZ) KX G ?a ?l ?c ?k;(case a=>k_is);(case l=>k_is);(case c=>k_is);(case k=>k_is)
  have uq:SV.aG KX mg "tell" SV.ud:=by
   refine' SV.bp (st:=SV.ud) KX G ?a ?l ?c ?k;(case a=>k_is);(case l=>k_is);(case c=>k_is);(case k=>k_is)
  have mz:SV.aG KX mg "counted" SV.mx:=by
   refine' SV.bp (st:=SV.mx) KX G ?a ?l ?c ?k;(case a=>k_is);(case l=>k_is);(case c=>k_is);(case k=>k_is)
  have jZ:SV.aM mg "FORM_SIZE" (.int (16)):=by
   refine' SV.bu KX G ?a;(case a=>k_is)
  have i9:SV.aM mg "TABLE_BITS" (.int (8)):=by
   refine' SV.bu KX G ?a;(case a=>k_is)
  have gH:SV.aM mg "MOST_WAITING" (.int (65536)):=by
   refine' SV.bu KX G ?a;(case a=>k_is)
  have l_:SV.aM mg "COUNTS" (.int (2147483648)):=by
   refine' SV.bu KX G ?a;(case a=>k_is)
  have ko:SV.aM mg "COLOURS" (.int (256)):=by
   refine' SV.bu KX G ?a;(case a=>k_is)
  have yG:SV.aM mg "ALL" (.int (0)):=by
   refine' SV.bu KX G ?a;(case a=>k_is)
  have mC:SV.aM mg "CHANGED" (.int (1)):=by
   refine' SV.bu KX G ?a;(case a=>k_is)
  have mD:SV.aM mg "VERSION" (.str "RFB 003.008\n"):=by
   refine' SV.D_ KX G ?a;(case a=>k_is)
  have ij:SV.aM mg "NO_SECRET" (.int (1)):=by
   refine' SV.bu KX G ?a;(case a=>k_is)
  have fv:SV.aM mg "LARGEST_SIDE" (.int (1024)):=by
   refine' SV.bu KX G ?a;(case a=>k_is)
  have gI:SV.aM mg "LONGEST_NAME" (.int (65536)):=by
   refine' SV.bu KX G ?a;(case a=>k_is)
  have fN:SV.aM mg "RECTANGLE_SIZE" (.int (12)):=by
   refine' SV.bu KX G ?a;(case a=>k_is)
  have eL:SV.aM mg "LONGEST_CUT_TEXT" (.int (65536)):=by
   refine' SV.bu KX G ?a;(case a=>k_is)
  have oR:SV.aM mg "UPDATE" (.int (0)):=by
   refine' SV.bu KX G ?a;(case a=>k_is)
  have qI:SV.aM mg "TABLE" (.int (1)):=by
   refine' SV.bu KX G ?a;(case a=>k_is)
  have uv:SV.aM mg "BELL" (.int (2)):=by
   refine' SV.bu KX G ?a;(case a=>k_is)
  have kW:SV.aM mg "CUT_TEXT" (.int (3)):=by
   refine' SV.bu KX G ?a;(case a=>k_is)
  have fw:SV.aM mg "TILE_SIDE" (.int (16)):=by
   refine' SV.bu KX G ?a;(case a=>k_is)
  have i_:SV.aM mg "HAS_PIXELS" (.int (1)):=by
   refine' SV.bu KX G ?a;(case a=>k_is)
  have jm:SV.aM mg "HAS_BACK" (.int (2)):=by
   refine' SV.bu KX G ?a;(case a=>k_is)
  have ik:SV.aM mg "HAS_FRONT" (.int (4)):=by
   refine' SV.bu KX G ?a;(case a=>k_is)
  have il:SV.aM mg "HAS_PARTS" (.int (8)):=by
   refine' SV.bu KX G ?a;(case a=>k_is)
  have dU:SV.aM mg "HAS_PART_PIXELS" (.int (16)):=by
   refine' SV.bu KX G ?a;(case a=>k_is)
  have qJ:SV.aM mg "PLAIN" (.int (0)):=by
   refine' SV.bu KX G ?a;(case a=>k_is)
  have oS:SV.aM mg "COPIED" (.int (1)):=by
   refine' SV.bu KX G ?a;(case a=>k_is)
  have qK:SV.aM mg "PARTS" (.int (2)):=by
   refine' SV.bu KX G ?a;(case a=>k_is)
  have fX:SV.aM mg "SMALL_PARTS" (.int (4)):=by
   refine' SV.bu KX G ?a;(case a=>k_is)
  have qL:SV.aM mg "TILES" (.int (5)):=by
   refine' SV.bu KX G ?a;(case a=>k_is)
  have ja:SV.aM mg "MOST_PARTS" (.int (65535)):=by
   refine' SV.bu KX G ?a;(case a=>k_is)
  have qM:SV.aM mg "BEGIN" (.int (0)):=by
   refine' SV.bu KX G ?a;(case a=>k_is)
  have gJ:SV.aM mg "BYTES_COME" (.int (1)):=by
   refine' SV.bu KX G ?a;(case a=>k_is)
  have oT:SV.aM mg "OUTPUT" (.int (2)):=by
   refine' SV.bu KX G ?a;(case a=>k_is)
  have yH:SV.aM mg "KEY" (.int (3)):=by
   refine' SV.bu KX G ?a;(case a=>k_is)
  have qN:SV.aM mg "POINT" (.int (4)):=by
   refine' SV.bu KX G ?a;(case a=>k_is)
  have yI:SV.aM mg "ROW" (.int (5)):=by
   refine' SV.bu KX G ?a;(case a=>k_is)
  have yJ:SV.aM mg "CUT" (.int (6)):=by
   refine' SV.bu KX G ?a;(case a=>k_is)
  have uw:SV.aM mg "TOLD" (.int (7)):=by
   refine' SV.bu KX G ?a;(case a=>k_is)
  have fO:SV.aM mg "MOST_BYTES" (.int (65536)):=by
   refine' SV.bu KX G ?a;(case a=>k_is)
  have gK:SV.aM mg "MOST_COLOURS" (.int (1024)):=by
   refine' SV.bu KX G ?a;(case a=>k_is)
  have fP:SV.aM mg "LAST_PLACE" (.int (1023)):=by
   refine' SV.bu KX G ?a;(case a=>k_is)
  have gL:SV.aM mg "MOST_BUTTONS" (.int (255)):=by
   refine' SV.bu KX G ?a;(case a=>k_is)
  have mE:SV.aM mg "TOO_FEW" (.int (-1)):=by
   refine' SV.bu KX G ?a;(case a=>k_is)
  have b_:SV.aM mg "NOT_IN_BOUNDS" (.int (-2)):=by
   refine' SV.bu KX G ?a;(case a=>k_is)
  have ip:SV.aM mg "NOT_READY" (.int (-3)):=by
   refine' SV.bu KX G ?a;(case a=>k_is)
  have h_:SV.aM mg "NO_SUCH_ROW" (.int (-3)):=by
   refine' SV.bu KX G ?a;(case a=>k_is)
  have jb:SV.uT KX mg "PIXEL_BITS" [.int (8),.int (16),.int (32)]:=by
   refine' SV.Bz KX G ?a ?l ?c ?k;(case a=>k_is);(case l=>k_is);(case c=>decide);(case k=>exact (.cons ⟨_,rfl⟩ (.cons ⟨_,rfl⟩ (.cons ⟨_,rfl⟩ .nil))))
  have dW:SV.uT KX mg "GREATEST_OF_A_PART" [.int (1),.int (3),.int (7),.int (15),.int (31),.int (63),.int (127),.int (255)]:=by
   refine' SV.Bz KX G ?a ?l ?c ?k;(case a=>k_is);(case l=>k_is);(case c=>decide);(case k=>exact (.cons ⟨_,rfl⟩ (.cons ⟨_,rfl⟩ (.cons ⟨_,rfl⟩ (.cons ⟨_,rfl⟩ (.cons ⟨_,rfl⟩ (.cons ⟨_,rfl⟩ (.cons ⟨_,rfl⟩ (.cons ⟨_,rfl⟩ .nil)))))))))
  have eh:SV.uT KX mg "CODINGS_WISHED" [.int (1),.int (5),.int (4),.int (2),.int (0)]:=by
   refine' SV.Bz KX G ?a ?l ?c ?k;(case a=>k_is);(case l=>k_is);(case c=>decide);(case k=>exact (.cons ⟨_,rfl⟩ (.cons ⟨_,rfl⟩ (.cons ⟨_,rfl⟩ (.cons ⟨_,rfl⟩ (.cons ⟨_,rfl⟩ .nil))))))
  have fQ:mg "len"=none:=PySem.W.mg_none_of KX G (by k_is)
  have ia:mg "range"=none:=PySem.W.mg_none_of KX G (by k_is)
  have j0:mg "enumerate"=none:=PySem.W.mg_none_of KX G (by k_is)
  have vQ:mg "zip"=none:=PySem.W.mg_none_of KX G (by k_is)
  have kX:mg "reversed"=none:=PySem.W.mg_none_of KX G (by k_is)
  have rL:mg "list"=none:=PySem.W.mg_none_of KX G (by k_is)
  have yK:mg "ord"=none:=PySem.W.mg_none_of KX G (by k_is)
  have vR:mg "min"=none:=PySem.W.mg_none_of KX G (by k_is)
  have e_GREETING_STAGES:=SV.uU (P:=PySem.Challenge.pw_screenviewer_s01_answers) (w:=w) (x:="GREETING_STAGES") [("version",_,_),("how many ways",_,_),("ways",_,_),("number",_,_),("size",_,_),("form",_,_),("name length",_,_),("name",_,_)] KX G (by k_is) (by decide) (by k_is) (by decide)
  have g_take_version:=PySem.W.mg_of (n:="take_version") KX G (by k_is)
  have g_take_how_many_ways:=PySem.W.mg_of (n:="take_how_many_ways") KX G (by k_is)
  have g_take_ways:=PySem.W.mg_of (n:="take_ways") KX G (by k_is)
  have g_take_number:=PySem.W.mg_of (n:="take_number") KX G (by k_is)
  have g_take_size:=PySem.W.mg_of (n:="take_size") KX G (by k_is)
  have g_take_form:=PySem.W.mg_of (n:="take_form") KX G (by k_is)
  have g_take_name_length:=PySem.W.mg_of (n:="take_name_length") KX G (by k_is)
  have g_take_name:=PySem.W.mg_of (n:="take_name") KX G (by k_is)
  have e_MESSAGE_STAGES:=SV.uU (P:=PySem.Challenge.pw_screenviewer_s01_answers) (w:=w) (x:="MESSAGE_STAGES") [("kind",_,_),("update",_,_),("table",_,_),("colours",_,_),("cut length",_,_),("cut text",_,_)] KX G (by k_is) (by decide) (by k_is) (by decide)
  have g_take_kind:=PySem.W.mg_of (n:="take_kind") KX G (by k_is)
  have g_take_update:=PySem.W.mg_of (n:="take_update") KX G (by k_is)
  have g_take_table:=PySem.W.mg_of (n:="take_table") KX G (by k_is)
  have g_take_colours:=PySem.W.mg_of (n:="take_colours") KX G (by k_is)
  have g_take_cut_length:=PySem.W.mg_of (n:="take_cut_length") KX G (by k_is)
  have g_take_cut_text:=PySem.W.mg_of (n:="take_cut_text") KX G (by k_is)
  have e_TILE_STAGES:=SV.uU (P:=PySem.Challenge.pw_screenviewer_s01_answers) (w:=w) (x:="TILE_STAGES") [("tile",_,_),("tile pixels",_,_),("tile colours",_,_),("tile part",_,_)] KX G (by k_is) (by decide) (by k_is) (by decide)
  have g_take_tile:=PySem.W.mg_of (n:="take_tile") KX G (by k_is)
  have g_take_tile_pixels:=PySem.W.mg_of (n:="take_tile_pixels") KX G (by k_is)
  have g_take_tile_colours:=PySem.W.mg_of (n:="take_tile_colours") KX G (by k_is)
  have g_take_tile_part:=PySem.W.mg_of (n:="take_tile_part") KX G (by k_is)
  have e_RECTANGLE_STAGES:=SV.uU (P:=PySem.Challenge.pw_screenviewer_s01_answers) (w:=w) (x:="RECTANGLE_STAGES") [("rectangle",_,_),("pixels",_,_),("source",_,_),("how many parts",_,_),("ground",_,_),("part",_,_)] KX G (by k_is) (by decide) (by k_is) (by decide)
  have g_take_rectangle:=PySem.W.mg_of (n:="take_rectangle") KX G (by k_is)
  have g_take_pixels:=PySem.W.mg_of (n:="take_pixels") KX G (by k_is)
  have g_take_source:=PySem.W.mg_of (n:="take_source") KX G (by k_is)
  have g_take_how_many_parts:=PySem.W.mg_of (n:="take_how_many_parts") KX G (by k_is)
  have g_take_ground:=PySem.W.mg_of (n:="take_ground") KX G (by k_is)
  have g_take_part:=PySem.W.mg_of (n:="take_part") KX G (by k_is)
  have e_NUMBERS_BEHIND:=SV.Ea (P:=PySem.Challenge.pw_screenviewer_s01_answers) (w:=w) (x:="NUMBERS_BEHIND") [(0,_,0,_),(2,_,1,_),(3,_,2,_),(4,_,3,_),(5,_,2,_),(6,_,1,_),(7,_,0,_)] KX G (by k_is) (by decide) (by k_is) (by decide)
  have T:SV.Txt PySem.Challenge.pw_screenviewer_s01_answers w _ mg ⟨C_Form,C_Session,C_Rectangle,C_Tile⟩:={ iQ:=iQ,e_:=e_,fe:=fe,jN:=jN,gB:=gB,iR:=iR,iS:=iS,kQ:=kQ,iT:=iT,oP:=oP,oQ:=oQ,uk:=uk,um:=um,qH:=qH,kR:=kR,gC:=gC,dO:=dO,jO:=jO,g8:=g8,jP:=jP,jQ:=jQ,eH:=eH,jR:=jR,ff:=ff,fI:=fI,eI:=eI,fg:=fg,jS:=jS,g9:=g9,iU:=iU,gD:=gD,fh:=fh,f9:=f9,g_:=g_,jT:=jT,hJ:=hJ,jU:=jU,eJ:=eJ,d7:=d7,fJ:=fJ,fK:=fK,fL:=fL,jV:=jV,hU:=hU,hX:=hX,dA:=dA,hZ:=hZ,jW:=jW,iW:=iW,jX:=jX,uo:=uo,iX:=iX,my:=my,kS:=kS,h9:=h9,iY:=iY,gE:=gE,kT:=kT,iZ:=iZ,kU:=kU,f_:=f_,uq:=uq,mz:=mz,ur:=bB.ur,bB:=bB.bB,fo:=bB.fo,bO:=bB.bO,dQ:=bB.dQ,c_:=bB.c_,dD:=bB.dD,eS:=bB.eS,mB:=af.mB,fM:=af.fM,gF:=af.gF,eK:=af.eK,gG:=af.gG,fi:=af.fi,gb:=af.gb,dP:=af.dP,dk:=af.dk,af:=af.af,dE:=af.dE,cT:=af.cT,cy:=af.cy,bQ:=af.bQ,bL:=af.bL,cX:=af.cX,bP:=af.bP,cg:=af.cg,aL:=af.aL,bG:=af.bG,b9:=af.b9,cn:=af.cn,da:=af.da,bY:=af.bY,aF:=af.aF,br:=af.br,dc:=af.dc,cA:=af.cA,ck:=af.ck,eg:=af.eg,jY:=au.jY,au:=au.au,cM:=au.cM,de:=au.de,aZ:=au.aZ,aS:=au.aS,bx:=au.bx,bc:=au.bc,bt:=au.bt,dq:=au.dq,cY:=au.cY,bC:=au.bC,uu:=bz.uu,bz:=bz.bz,ig:=bz.ig,gf:=bz.gf,dS:=bz.dS,cQ:=bz.cQ,bo:=bz.bo,dy:=bz.dy,cC:=bz.cC,jZ:=jZ,i9:=i9,gH:=gH,l_:=l_,ko:=ko,yG:=yG,mC:=mC,mD:=mD,ij:=ij,fv:=fv,gI:=gI,fN:=fN,eL:=eL,oR:=oR,qI:=qI,uv:=uv,kW:=kW,fw:=fw,i_:=i_,jm:=jm,ik:=ik,il:=il,dU:=dU,qJ:=qJ,oS:=oS,qK:=qK,fX:=fX,qL:=qL,ja:=ja,qM:=qM,gJ:=gJ,oT:=oT,yH:=yH,qN:=qN,yI:=yI,yJ:=yJ,uw:=uw,fO:=fO,gK:=gK,fP:=fP,gL:=gL,mE:=mE,b_:=b_,ip:=ip,h_:=h_,jb:=jb,dW:=dW,eh:=eh,fQ:=fQ,ia:=ia,j0:=j0,vQ:=vQ,kX:=kX,rL:=rL,yK:=yK,vR:=vR,j4:=⟨_,_,_,_,_,_,_,_,e_GREETING_STAGES,g_take_version,g_take_how_many_ways,g_take_ways,g_take_number,g_take_size,g_take_form,g_take_name_length,g_take_name⟩,kq:=⟨_,_,_,_,_,_,e_MESSAGE_STAGES,g_take_kind,g_take_update,g_take_table,g_take_colours,g_take_cut_length,g_take_cut_text⟩,mX:=⟨_,_,_,_,e_TILE_STAGES,g_take_tile,g_take_tile_pixels,g_take_tile_colours,g_take_tile_part⟩,jn:=⟨_,_,_,_,_,_,e_RECTANGLE_STAGES,g_take_rectangle,g_take_pixels,g_take_source,g_take_how_many_parts,g_take_ground,g_take_part⟩,kr:=e_NUMBERS_BEHIND }
  obtain ⟨fd,hb,hF⟩:=SV.D9 T hmg
  exact ⟨fd,hb,fun base _ _=>hF base⟩
 case S=>
  intro K H xs a hO hwi hask hx
  cases hx with
  | cons h1 h2=>
   cases h2
   cases h1 with
   | lst hs ha=>
    have e:=L2.yr a.1 _ ha
    subst e
    have q:((Codec.inLen 0 31000 a.1 && a.1.all (Codec.inInt (-2147483648) 4294967295)) && true)=true:=hwi
    rw [Bool.and_eq_true,Bool.and_eq_true] at q
    exact ⟨_,a.1,rfl,hs,(Codec.inNat_iff.mp q.1.1).2,hask,fun H' p hp=>.lst (L2.bV.of hp) (L2.yq _)⟩
end
